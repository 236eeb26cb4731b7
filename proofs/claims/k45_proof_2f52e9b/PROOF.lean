import PyProof.Rows.All
import Wide.All
import OpenK.AllK
import Wide.FinOn
import Lean
import PySem.Challenge.RW_onefolk_k45_groups_told
open PySem.Heap renaming get?_push_of_some->ze,get?_push_size->zt,lt_size->zz,size_push->qB,get?_update_self->QN,get?_update_other->Q3,get?_update_ne->kc,get?_none_of_le->hB,size_after_update->my,get?_push_ne->nt,size_update->nV
open List renaming mem_cons_self->zg,mem_cons_of_mem->zh,length_map->zi,getElem?_eq_getElem->zo,map_cons->zr,size_toArray->zC,getElem?_map->zI,length_append->Zp,mem_append_right->Zs,flatten_cons->ZE,getElem?_append_left->ZH,mem_of_getElem?->ZI,map_append->ZN,map_map->ZY,length_cons->ZZ,getElem?_append_right->Z3,getElem?_eq_none->qk,append_assoc->qq,length_set->qv,map_congr_left->qA,append_nil->Qb,foldl_cons->QA,getElem?_set_self->QE,length_filter_le->QI,getElem?_replicate->Q1,mem_append_left->Q2,mem_cons->js,nodup_append->Jn,find?_cons->JA,getElem?_cons_succ->JY,replicate_succ->kb,not_mem_nil->ke,any_eq_true->kg,length_singleton->km,rel_of_pairwise_cons->kq,getElem?_set_ne->kD,any_cons->kF,all_cons->kK,filter_cons->kM,eraseIdx_cons_succ->kQ,map_nil->kU,nil_append->k7,lookup_cons_self->k9,getElem?_set->Ki,nodup_nil->Kk,map_id'->Kx,length_take->KB,all_eq_true->KF,getElem_of_mem->KG,flatten_append->KI,filterMap_cons->KL,getElem_mem->yi,length_eraseIdx->yv,mem_append->yB,getElem?_range->y0,filter_sublist->y4,zip_cons_cons->Yf,filter_append->YA,drop_eq_getElem_cons->YI,length_range->YO,flatMap_cons->YR,ext_getElem?->YU,length_erase_of_mem->Y1,lookup_cons->xf,length_drop->xh,cons_ne_nil->xl,pairwise_singleton->xo,pairwise_mergeSort->xt,replicate->ba,mem_singleton->bN,mem_map->cc,getElem?_eq_some_iff->cf,mem_filter->cD,length_pos_iff->cN,nodup_cons->cT,length_eq_zero_iff->dd,range->dg,mem_range->dt,pairwise_cons->dz,mem_flatten->eg,perm_append_comm->ez,mem_filterMap->eG,find?_eq_none->eH,pairwise_map->fO,drop_eq_nil_of_le->gm,length_pos_of_mem->gu,take_of_length_le->gG,take_succ_eq_append_getElem->gH,of_mem_zip->hC,eq_nil_iff_forall_not_mem->hL,mem_erase_of_ne->hO,any_map->hP,eq_nil_of_length_eq_zero->hY,mergeSort_perm->ic,length->jt,map_id->jV,append_of_mem->kG,getD_eq_getElem?_getD->lb,perm_append_right_iff->lr,perm_append_singleton->lx,mem_or_eq_of_mem_set->md,mem_of_find?_eq_some->me,find?_range_eq_none->mm,nodup_range->mr,contains_iff_mem->mB,countP_mono_left->mM,le_trans->mP,filter_eq_self->mS,findIdx?_cons->nf,contains_cons->nh,set_cons_zero->nj,set_cons_succ->nk,ne_nil_of_mem->nr,mapM_toArray->nv,foldl_append->ny,any_eq_false->nz,getElem?_inj->nB,lookup->nK,le_antisymm->nN,countP_cons->nX,getElem_zip->n1,take_length->n4,flatMap_def->n8,cons_append->n9
open Nat renaming le_refl->zl,ne_of_lt->zS,le_trans->Zl,lt_of_lt_of_le->ZO,le_of_ble_eq_true->ZU,zero_le->qi,lt_succ_self->qV,lt_succ_of_lt->QQ,lt_irrefl->jS,le_of_lt->j0,ne_of_gt->JO,lt_of_le_of_lt->kl,le_succ->kz,zero_add->K0,not_lt_zero->yA,lt_trans->y7,succ_le_succ->Y3,le_of_not_lt->xc,not_lt->ew,le_of_eq->hF,mod_lt->hI,le_of_succ_le->ly,le_succ_of_le->lL,min_self->mh,succ_pos->mi,succ_mul->m4,mul_comm->m6,eq_zero_or_pos->m8
open Bool renaming false_eq_true->zv,false_ne_true->z5,and_eq_true->ZT,not_eq_true'->jb,not_true->k8,and_true->yn,not_false->y9,and_false->Ya,or_eq_true->hH,false_or->kH,eq_iff_iff->mv,decide_and->mw,false_and->mz,or_false->mN
open Array renaming length_toList->qh,getElem?_eq_getElem->QR,getElem?_toList->Kb,size_append->Kj,getElem?_eq_none->ya,eq_empty_of_size_eq_zero->ym,getElem?_eq_some_iff->dB,perm_iff_toList_perm->eA,toList_append->iJ,find?_toList->ky,toList_filterMap->mx,toList->mT,forIn_toList->ni,toList_push->nw,toList_inj->nS,toList_map->n0,replicate->oe
open Or renaming inr->jv,inl->ko
open Unit renaming unit->gl
local macro_rules|`(())=>`(by first|omega|decide)
open Option renaming bind_some->JJ,map_eq_some_iff->dv,map_some->hG,isNone_iff_eq_none->ma,isSome_iff_exists->mf,isSome_some->m3,getD_none->nL,map_map->og
open Int renaming emod_nonneg->yY,emod_lt_of_pos->YE,toNat_natCast->YV,toNat_of_nonneg->iK,eq_ofNat_of_zero_le->mu,zero_add->ng
open PySem.SetTable renaming bits->da,runEnd->dc,layClean->dq,below->dr,sizeAbove->dO,leap->dV,turns->ef,grown->eh,fresh->ei,eraseAt->ej,fits->eu,insertAt->eX,laid->kW,fill->la,road->oj
open Prod renaming ext->jq,mk->oi
open Option renaming some->Z,none->U
abbrev O:=List
abbrev S:=Option
theorem X9{α:Sort u}{a:α}:a=a:=rfl
open PySem renaming Value->A1,Addr->A2,Shared->A3,Program->A4,World->A5,Around->A6,Heap->A7,wpAny->A8,model->A9,starEach->AA,sizeLine->AB,Stmt->AC,Keyword->AD,backTo->AE,Obj->AF,codeAny->AG,compareOp->AH,bootBuiltins->AI,Paired->AJ,Str->AK
abbrev bv(x:AK):=(x==("__debug__":AK))=false
open PyProof.Rows renaming envOfC->AL,wpS_bind->AM,arrOf->AN
open PySem.W (methodObj findIn keepIn callWith_K cellsFrom_some fnOf codeIn nsIn isFn looks_findIn clsIn InstAt looks_mroIn mroIn check_slot looks_clsIn specialIn takesIn lookIn findObj handedIn exmOne kitOne kia_one mg_of)
set_option maxRecDepth 100000
set_option maxHeartbeats 4000000
set_option linter.all false
set_option Elab.async false
open PySem PySem.Spec PyProof.Rows
variable{w:A5}{i:Nat}{t:SetTable}{x:AK}{a:A2}{prog:A4}{us:O A1}{u:A1}{κ:Type}{o:AF}{h:A7}{items:Array A1}{P:A4}{α β:Type}{e:Expr}{n:Nat}{mg:AK->S A1}{base:A7}{l:PySem.W.OpenLaw}{env:Env}{m:O (AK×AK)}{AO:O (A2×AF)}{s:A3}{it:A2}{j:Nat}{M:Model}{A:A6}{Q:Unit->A3->Prop}{hi:S Int}{D:A2}{es:O Expr}{st:AC}{pos:Pos}{c:Expr}{y:AK}{hs:O Int}{tg:Expr}{body:O AC}{fp:O A2}{tn:Nat->A7->Prop}{iter:Expr}{lo:S Int}{tk:Nat}{pl:O Nat}{C:A2}{op:CmpOp}{AS:O A1}{dx:S A2}{name:AK}{tpos:Pos}{outer:O Env}{fd:FuncData}{apos:Pos}{qual:AK}{scope:Scope}{params:Arguments}{osl:Array (S A1)}{p2 cpos:Pos}{XP:(AK->S A1)->A7->Prop}{YP:A5->A7->Prop}{cl:O (AK×A2)}{is:O Nat}{ifs:O Expr}{elt tgt:Expr}{el:A2->Env->Sem Unit}{B:A6->Bool->Prop}{comp:Expr}{RR:A1->A2->Result->A3->Prop}{ep:Nat}{rk:A1->Nat}{kd:SortKind}{W:O Keyed}{mask:Nat}{owner:Array (S Nat)}{elts:O Expr}{x1:Nat}{γ δ:Type}{e2:Expr}{fI:A2}{bmB:O A1}{newId:String}{os:OsState}{initId:String}{b0:AC}{suite:O AC}{Cs:O A2}{a_:A2}
abbrev An:=O PySem.Str
abbrev B8:=PySem.Value->PySem.Shared->Prop
abbrev B5:=PySem.W.Frag
abbrev BF:=O Int
abbrev zb:=@wpAny_bind
abbrev zd:=@wpAny_pure
abbrev zk:=@if_pos
abbrev zw:=@if_neg
abbrev ZA:=@wpAny_mono
abbrev qa:=@wpAny_holding
abbrev qc:=@if_false
abbrev qf:=@wpAny_setState_of
abbrev qo:=@wpAny_newObj_type
abbrev qr:=@decide_eq_false
abbrev qS:=@decide_eq_true
abbrev Qr:=@PySem.W.mg_none_of
abbrev QO:=@decide_eq_false_iff_not
abbrev QP:=@of_decide_eq_true
abbrev QU:=@if_true
abbrev QY:=@wpAny_typeOf
abbrev Q4:=@Heap.SameBut.update
abbrev ja:=@Ne.symm
abbrev jI:=@wpAny_standAt
abbrev JE:=@wpAny_isInstance
abbrev JI:=@wpAny_call_entry
abbrev JP:=@wpAny_comprehension_free
abbrev JS:=@decide_eq_true_eq
abbrev JU:=@Heap.SameBut.refl
abbrev ka:=@wpAny_rule
abbrev ki:=@Obj.data_mapFields
abbrev kr:=@codeAny_builtin
abbrev ku:=@Option.some.inj
abbrev kA:=@wpAny_truthy_bool
abbrev kB:=@wpAny_storeSet_of
abbrev kC:=@wpAny_setEpoch_of
abbrev kL:=@PySem.mem_of_lookup
abbrev kP:=@PySem.F.plainAttrs_list
abbrev kR:=@wpAny_field
abbrev kX:=@wpAny_passesOwn
abbrev k6:=@wpAny_execs_nil
abbrev Kn:=@List.Perm.refl
abbrev Kt:=@decide_false
abbrev KA:=@wpAny_execs_cons
abbrev KM:=@PySem.F.type_list_append
abbrev KO:=@PySem.F.slot_list_append
abbrev KP:=@wpAny_Call_Name_kw
abbrev KS:=@decide_true
abbrev KU:=@wpAny_getItem_str_slice
abbrev KW:=@codeAny_mono
abbrev K2:=@wpAny_loadPart_at
abbrev yb:=@Obj.isFreed_of_fields
abbrev ye:=@wpAny_call
abbrev yf:=@wpAny_askSetting
abbrev yo:=@codeAny_call_builtin
abbrev yT:=@List.cons.injEq
abbrev y8:=@wpAny_load
abbrev YN:=@wpAny_pyIter_list
abbrev YY:=@PySem.F.args_tuple_add_2
abbrev Y2:=@List.Pairwise.imp_of_mem
abbrev xm:=@wpAny_callSpecial?_slot
abbrev xn:=@PySem.F.entry_tuple_add
abbrev xw:=@F.plain_set_update_loop
variable{xs ps:An}{K:B5}{L:O An}{N:An}{E:B8}{ys zs:An}{Ex:B8}{n_:An}
namespace L2
abbrev AZ:=Sum Int AK
def jA:AZ->A1->Bool
 |.inl k,v=>Value.isInt k v
 |.inr x,v=>Value.isStrOf x v
def OE(w:A5):AZ->Int
 |.inl k=>hashInt k
 |.inr x=>hashStr w x
theorem bK:∀{k:AZ} {v:A1},jA k v=true->(∃i t,k=Sum.inl i/\v=Value.int i t)\/(∃x t,k=Sum.inr x/\v=Value.str x t)
 |.inl i,v,h=>by
  obtain⟨t,e⟩:=Value.isInt_shape (k:=i) (v:=v) h;exact .inl ⟨i,t,rfl,e⟩
 |.inr x,v,h=>by
  obtain⟨t,e⟩:=Value.isStrOf_shape (x:=x) (v:=v) h;exact .inr ⟨x,t,rfl,e⟩
theorem Vb(i:Int)(t:Tok):jA (.inl i) (.int i t)=true:=by simp[jA,Value.isInt]
theorem Vc(x:AK)(t:Tok):jA (.inr x) (.str x t)=true:=by simp[jA,Value.isStrOf]
theorem SD(a b:Int):decide ((Sum.inl a:AZ)=Sum.inl b)=(a==b):=by
 by_cases e:a=b
 ·subst e;simp
 ·have h:¬ (Sum.inl a:AZ)=Sum.inl b:=λq=>e (Sum.inl.inj q);rw[qr h];exact(beq_eq_false_iff_ne.mpr e).symm
theorem Sz(a b:AK):decide ((Sum.inr a:AZ)=Sum.inr b)=decide (a=b):=by
 by_cases e:a=b
 ·subst e;simp
 ·have h:¬ (Sum.inr a:AZ)=Sum.inr b:=λq=>e (Sum.inr.inj q);rw[qr h,qr e]
theorem di(a:Int)(b:AK):decide ((Sum.inl a:AZ)=Sum.inr b)=false:=qr (λq=>nomatch q)
theorem UV(a:AK)(b:Int):decide ((Sum.inr a:AZ)=Sum.inl b)=false:=qr (λq=>nomatch q)
def cG(prog:A4)(w:A5):PySem.KeyKind prog w AZ where
 is:=jA
 hash:=OE w
 inj:=λv a b g d=>by
  rcases bK g with⟨i,t,rfl,rfl⟩|⟨x,t,rfl,rfl⟩
  ·rcases bK d with⟨j,u,rfl,e⟩|⟨y,u,rfl,e⟩
   ·injection e with e1 _;rw[e1]
   ·exact nomatch e
  ·rcases bK d with⟨j,u,rfl,e⟩|⟨y,u,rfl,e⟩
   ·exact nomatch e
   ·injection e with e1 _;rw[e1]
 byValue:=λk v h=>by
  rcases bK h with⟨i,t,rfl,rfl⟩|⟨x,t,rfl,rfl⟩<;>rfl
 pyHash:=λc h=>by
  rcases bK c with⟨i,t,rfl,rfl⟩|⟨x,t,rfl,rfl⟩
  ·exact wpAny_pyHash_int h
  ·exact wpAny_pyHash_str h
 eqBool:=λf c h=>by
  rcases bK f with⟨i,t,rfl,rfl⟩|⟨x,t,rfl,rfl⟩
  ·rcases bK c with⟨j,u,rfl,rfl⟩|⟨y,u,rfl,rfl⟩
   ·rw[SD]at h;exact wpAny_eqBool_int h
   ·rw[di]at h;exact SeqAt.EqAt.int_str i t y u _ _ _ _ h
  ·rcases bK c with⟨j,u,rfl,rfl⟩|⟨y,u,rfl,rfl⟩
   ·rw[UV]at h;exact SeqAt.EqAt.str_int x t j u _ _ _ _ h
   ·rw[Sz]at h;exact wpAny_eqBool_str h
 «strs»:=λk x t v h=>by
  rcases bK h with⟨i,u,rfl,e⟩|⟨y,u,rfl,e⟩
  ·exact nomatch e
  ·injection e with e1 _;subst e1;cases v<;>rfl
theorem LC(prog:A4)(w:A5)(i:Int)(t:Tok):(cG prog w).is (.inl i) (.int i t)=true:=Vb i t
theorem LK(prog:A4)(w:A5)(x:AK)(t:Tok):(cG prog w).is (.inr x) (.str x t)=true:=Vc x t
end L2
namespace L2
inductive V where
 |non|bl (b:Bool)|int (i:Int)|str (x:Str)|byt (b:Array UInt8)|flt (b:UInt64)|ref (a:Addr)|ty (n:String)
 deriving DecidableEq
def At:V->A1->Prop
 |.non,u=>u=Value.none
 |.bl b,u=>u=Value.bool b
 |.int i,u=>∃t,u=Value.int i t
 |.str x,u=>∃t,u=Value.str x t
 |.byt b,u=>∃t,u=Value.bytes b t
 |.flt b,u=>∃t,u=Value.float b t
 |.ref a,u=>u=Value.ref a
 |.ty n,u=>u=Value.type n
abbrev AY:O V->O A1->Prop:=AJ At
theorem AY.length{xs:O V}{us:O A1}(r:AY xs us):xs.length=us.length:=Paired.length r
theorem AY.get:∀{xs:O V} {us:O A1} {i:Nat} {x:V},AY xs us->xs[i]?=Z x->∃u,us[i]?=Z u/\At x u
 |_,_,_,_,.nil,e=>by simp at e
 |_,_,0,_,.cons r _,e=>by simp at e;subst e;exact⟨_,rfl,r⟩
 |_,_,i+1,x,.cons _ t,e=>by
  obtain⟨u,h1,h2⟩:=AY.get (i:=i) (x:=x) t (by simpa using e);exact⟨u,by simpa using h1,h2⟩
theorem AY.set{x:V}{u:A1}(r:At x u):∀{xs:O V} {us:O A1} (i:Nat),AY xs us->AY (xs.set i x) (us.set i u)
 |_,_,_,.nil=>.nil
 |_,_,0,.cons _ t=>.cons r t
 |_,_,i+1,.cons q t=>.cons q (AY.set r i t)
theorem AY.append:∀{xs ys:O V} {us a:O A1},AY xs us->AY ys a->AY (xs++ys) (us++a)
 |_,_,_,_,.nil,s=>s
 |_,_,_,_,.cons r t,s=>.cons r (AY.append t s)
theorem AY.take:∀{xs:O V} {us:O A1} (n:Nat),AY xs us->AY (xs.take n) (us.take n)
 |_,_,0,_=>.nil
 |_,_,_+1,.nil=>.nil
 |_,_,n+1,.cons r t=>.cons r (AY.take n t)
theorem AY.drop:∀{xs:O V} {us:O A1} (n:Nat),AY xs us->AY (xs.drop n) (us.drop n)
 |_,_,0,r=>r
 |_,_,_+1,.nil=>.nil
 |_,_,n+1,.cons _ t=>AY.drop n t
def Cm:S V->S A1->Prop
 |some v,Z u=>At v u
 |none,U=>True
 |_,_=>False
def KV:O (κ×V)->O (κ×A1)->Prop:=AJ λ(p:κ×V) (q:κ×A1)=>p.1=q.1/\At p.2 q.2
def kV:AZ->V
 |.inl i=>.int i
 |.inr x=>.str x
inductive HO where
 |lst (xs:List V)
 |tup (xs:List V)
 |dK (AQ:List (AZ×V))|dT (AQ:List (List AZ×V))
 |set (S:Int->Bool) (n:Nat)
 |ins (C dx:Addr) (fs:List (Str×V))
 |own (x:Addr)
 |xd (fs:List (Str×V))
 |met (f x:Addr)
 |rng (lo hi:Int)
 |iU (o:Obj) (u:HO)
 |Ju (ps:Array Value)
 |ext (φ:Heap->Prop)
abbrev Hp:=A2->S HO
def B1(H:Hp)(a:A2)(o:HO):Hp:=λb=>if b=a then Z o else H b
theorem aF{H:Hp}{o:HO}:B1 H a o a=Z o:=by unfold B1;rw[zk rfl]
theorem aD{H:Hp}{b:A2}{o:HO}(h:b≠a):B1 H a o b=H b:=by unfold B1;rw[zw h]
def tK(h:A7)(a:A2)(items:Array A1):Prop:=∃o,h.get? a=Z o/\o.cls=.type "tuple" ∧ (∃n,o.data=.seq items n)/\o.dict=U
theorem tK.weak(x:tK h a items):IsTup h a items:=let ⟨o,e,c,d,_⟩:=x;⟨o,e,c,d⟩
theorem tK.new(h:A7)(items:Array A1):tK (h.push { cls:=.type "tuple",data:=.seq items }) h.objs.size items:=⟨_,zt _ rfl,rfl,⟨_,rfl⟩,rfl⟩
theorem jB{H:Hp}{b:A2}{o u:HO}(h:H a=Z o)(h':H b=Z u)(d:o≠u):a≠b:=by
 intro e;subst e;rw[h]at h';exact d (ku h')
theorem bF{H:Hp}{b:A2}{o:HO}(h:H a=Z o)(h':H b=U):a≠b:=by
 intro e;subst e;rw[h]at h';cases h'
def tq(ps:Array A1):AK:=match ps[0]? with
 |some (Value.str q _)=>q
 |_ => ""
def tr(ps:Array A1):Array A1:=ps.extract 1 ps.size
def NC:An:=["most_word","longest_word","ground_of","least_for","nearest_pair"]
def Lu(K:B5)(P:A2)(q:AK):Prop:=∃c o vs x t,K.lookup c=Z o/\o.data=.fields vs/\vs[1]?=Z (.str x t)/\x∈NC/\vs[11]?=Z (.ref P)/\q=x++(".<locals>.<lambda>":AK)
def lh(o:AF):Bool:=match o.data with
 |.fields vs=>match vs[1]? with
  |some (Value.str x _)=>!NC.contains x
  |_=>true
 |_=>true
def Bi(K:B5)(H:Hp):Prop:=∀P q,Lu K P q->∃ps,H P=Z (.Ju ps)/\tq ps=q/\0<ps.size
theorem Bi.go{H H':Hp}(x:Bi K H)(u:∀b ps,H b=Z (.Ju ps)->∃more,H' b=Z (.Ju (ps++more))):Bi K H':=λP q k=>by
 obtain⟨ps,e,h,z⟩:=x P q k;obtain⟨more,e'⟩:=u P ps e;refine⟨_,e',?_,by rw[Kj];omega⟩;rw[<-h];unfold tq;rw[Array.getElem?_append_left z]
section
variable(P:A4)(w:A5)
def eV(H:Hp)(h:A7)(a:A2):HO->Prop
 |.lst xs=>xs.length<=AB/\∃(AS:O A1) (n:Nat),AY xs AS/\h.get? a=Z { cls:=.type "list",data:=.seq AS.toArray n }
 |.tup xs=>xs.length<=AB/\∃AS:O A1,AY xs AS/\tK h a AS.toArray
 |.dK AQ=>AQ.length<=AB/\(a==sysModules)=false/\∃vs,KV AQ vs/\h.DictOf (cG P w) a vs
 |.dT AQ=>AQ.length<=AB/\(a==sysModules)=false/\∃xs:O (O AZ×A2×A1),
   AJ (λ(p:O AZ×V) (q:O AZ×A2×A1)=>p.1=q.1/\H q.2.1=Z (.tup (p.1.map kV))/\At p.2 q.2.2) AQ xs ∧
   ∃o es ep,h.get? a=Z o/\o.ExactDict/\o.data=.dict es ep/\es.toList=xs.map (entryOfKey (tupleKind (cG P w)))/\(xs.map (·.1)).Nodup
 |.set S n=>h.SetOf (intKind P w) a S n
 |.ins C dx fs=>H dx=Z (.own a)/\fs.length<=1000/\dx≠a/\h.get? a=Z (PySem.W.instObj C dx) ∧
   ∃mA,h.Ns1 dx mA/\(∀f,Cm (fs.lookup f) (mA f))/\PySem.Within mA (fs.map (·.1))
 |.own _=>∃o,h.get? a=Z o
 |.xd fs=>∃mA,h.Ns1 a mA/\∀f,Cm (fs.lookup f) (mA f)
 |.rng lo hi=>∃t u v,h.get? a=Z { cls:=.type "range",data:=.fields #[.int lo t,.int hi u,.int 1 v] }
 |.iU o u=>h.get? a=Z o/\eV H h a u
 |.Ju ps=>∃more,h.get? a=Z { cls:=.none,data:=.fields (tr ps++more) }/\TriplesOk (tr ps++more).toList ∧
   ∀pos d,codeAmong pos (tr ps++more).toList=Z d->∃c e vs t,d=.ref c/\H c=Z (.iU e (.ext λ_=>True))/\e.data=.fields vs/\vs[1]?=Z (.str (tq ps) t)
 |.met f x=>h.get? a=Z (methodObj (.ref f) (.ref x))
 |.ext b=>b h/\(∃o,h.get? a=Z o)/\∀h1 h2:A7,b h1->(∀o,h1.get? a=Z o->h2.get? a=Z o)->b h2
def u0(H:Hp)(h:A7):Prop:=∀a o,H a=Z o->eV P w H h a o
end
section
variable{H H':Hp}{h':A7}{o:HO}
theorem eV.lt(x:eV P w H h a o):a<h.objs.size:=by
 cases o with
 |lst xs=>obtain⟨_,_,_,_,e⟩:=x;exact zz e
 |tup xs=>obtain⟨_,_,_,p⟩:=x;exact p.weak.lt
 |dK AQ=>obtain⟨_,_,_,_,o,_,_,e,_⟩:=x;exact zz e
 |dT AQ=>obtain⟨_,_,_,_,o,_,_,e,_⟩:=x;exact zz e
 |set S n=>obtain⟨o,_,_,_,e,_⟩:=x;exact zz e
 |ins C dx fs=>obtain⟨_,_,_,e,_⟩:=x;exact zz e
 |own y=>obtain⟨_,e⟩:=x;exact zz e
 |xd fs=>obtain⟨_,⟨_,_,_,e,_⟩,_⟩:=x;exact zz e
 |rng lo hi=>obtain⟨_,_,_,e⟩:=x;exact zz e
 |iU b u=>obtain⟨e,_⟩:=x;exact zz e
 |Ju ps=>obtain⟨_,e,_⟩:=x;exact zz e
 |met f y=>exact zz (show h.get? a=Z _ from x)
 |ext c=>obtain⟨_,⟨_,e⟩,_⟩:=x;exact zz e
theorem Paired.aaN{α β:Type}{F G:α->β->Prop}:∀{c:O α} {d:O β},AJ F c d->(∀a b,F a b->G a b)->AJ G c d
 |_,_,.nil,_=>.nil
 |_,_,.cons r t,f=>.cons (f _ _ r) (Paired.aaN t f)
theorem Paired.imp'{F G:α->β->Prop}(f:∀a b,F a b->G a b){c:O α}{d:O β}(r:AJ F c d):AJ G c d:=Paired.aaN r f
theorem eV.stay(x:eV P w H h a o)(k:∀b u,(b=a\/H b=Z (.own a))->h.get? b=Z u->h'.get? b=Z u)
  (B:∀b,H b=Z (.own a)->H' b=Z (.own a)) (A:∀b xs,H b=Z (.tup xs)->H' b=Z (.tup xs)) (F:∀b o j,H b=Z (.iU o (.ext j))->H' b=Z (.iU o (.ext j))):eV P w H' h' a o:=by
 induction o with
 |lst xs=>obtain⟨z,AS,n,r,e⟩:=x;exact⟨z,AS,n,r,k _ _ (.inl X9) e⟩
 |tup xs=>obtain⟨z,AS,r,i,e,c⟩:=x;exact⟨z,AS,r,i,k _ _ (.inl X9) e,c⟩
 |dK AQ=>obtain⟨z,y,vs,r,i,es,ep,e,c⟩:=x;exact⟨z,y,vs,r,i,es,ep,k _ _ (.inl X9) e,c⟩
 |dT AQ=>
  obtain⟨z,y,xs,r,i,es,ep,e,c⟩:=x;exact⟨z,y,xs,Paired.aaN r λp q z=>⟨z.1,A _ _ z.2.1,z.2.2⟩,i,es,ep,k _ _ (.inl X9) e,c⟩
 |set S n=>obtain⟨i,es,ep,t,e,c⟩:=x;exact⟨i,es,ep,t,k _ _ (.inl X9) e,c⟩
 |ins C dx fs=>
  obtain⟨d,z,E,e,mA,⟨l,es,ep,e2,c⟩,r⟩:=x;exact⟨B _ d,z,E,k _ _ (.inl X9) e,mA,⟨l,es,ep,k _ _ (.inr d) e2,c⟩,r⟩
 |own y=>obtain⟨i,e⟩:=x;exact⟨i,k _ _ (.inl X9) e⟩
 |xd fs=>obtain⟨mA,⟨l,es,ep,e,c⟩,r⟩:=x;exact⟨mA,⟨l,es,ep,k _ _ (.inl X9) e,c⟩,r⟩
 |rng lo hi=>obtain⟨t,u,v,e⟩:=x;exact⟨t,u,v,k _ _ (.inl X9) e⟩
 |iU i u G=>obtain⟨e,q⟩:=x;exact⟨k _ _ (.inl X9) e,G q⟩
 |Ju ps=>
  obtain⟨more,e,I,D⟩:=x;refine⟨more,k a _ (.inl X9) e,I,λpos s z=>?_⟩;obtain⟨c,m,vs,t,rfl,g,d,v⟩:=D pos s z;exact⟨c,m,vs,t,rfl,F c m _ g,d,v⟩
 |met f y=>
  have e:h.get? a=Z (methodObj (.ref f) (.ref y)):=x;show h'.get? a=Z (methodObj (.ref f) (.ref y));exact k a _ (.inl X9) e
 |ext j=>obtain⟨p,⟨o,e⟩,st⟩:=x;exact⟨st _ _ p λo q=>k _ _ (.inl X9) q,⟨o,k _ _ (.inl X9) e⟩,st⟩
theorem u0.lt(x:u0 P w H h)(e:H a=Z o):a<h.objs.size:=(x a o e).lt
theorem u0.fresh(x:u0 P w H h)(e:h.objs.size<=a):H a=U:=by
 cases q:H a with
 |none=>rfl
 |some u=>exact absurd (ZO (x.lt q) e) (jS _)
theorem u0.kept(x:u0 P w H h)(k:∀b u,h.get? b=Z u->h'.get? b=Z u):u0 P w H h':=λa o e=>
 (x a o e).stay (λb u _ q=>k b u q) (λ_ q=>q) (λ_ _ q=>q) λ_ _ _ q=>q
theorem u0.laid(x:u0 P w H h)(k:∀b u,h.get? b=Z u->h'.get? b=Z u)(hp:h.objs.size<=a)(new:eV P w (B1 H a o) h' a o):u0 P w (B1 H a o) h':=λb u e=>by
 have d:=x.fresh hp;by_cases f:b=a
 ·subst f;rw[aF]at e;cases e;exact new
 ·rw[aD f]at e;exact(x b u e).stay (λc v _ q=>k c v q) (λc q=>by rw[aD (bF q d)];exact q) (λc xs q=>by rw[aD (bF q d)];exact q) λc o' g q=>by rw[aD (bF q d)];exact q
end
def Rd(H:Hp)(a:A2)(u:HO):Prop:=H a=Z u\/∃o,H a=Z (.iU o u)
theorem Rd.ok{H:Hp}{u:HO}(r:Rd H a u)(x:u0 P w H h):eV P w H h a u:=by
 rcases r with r|⟨o,r⟩
 ·exact x a u r
 ·obtain⟨_,q⟩:=x a _ r;exact q
def F3:S HO->Prop
 |some (.lst _)=>True
 |some (.dK _)=>True
 |some (.dT _)=>True
 |some (.set _ _)=>True
 |some (.ins _ _ _)=>True
 |some (.ext _)=>True
 |_=>False
section
variable{H:Hp}{h':A7}{x e:A2}{o':HO}
theorem u0.write(ok:u0 P w H h)(a:F3 (H x))(he:e=x\/H e=Z (.own x))(k:∀b u,b≠e->h.get? b=Z u->h'.get? b=Z u)(o:∃u,h'.get? e=Z u)
  (new:eV P w (B1 H x o') h' x o'):u0 P w (B1 H x o') h':=λb u q=>by
 have l:∀c y,H c=Z (.own y)->c≠x:=λc y r z=>by subst z;rw[r]at a;exact a
 have p:∀c xs,H c=Z (.tup xs)->c≠x:=λc xs r z=>by subst z;rw[r]at a;exact a
 have m:∀c o' i,H c=Z (.iU o' i)->c≠x:=λc o' i r z=>by subst z;rw[r]at a;exact a
 by_cases d:b=x
 ·subst d;rw[aF]at q;cases q;exact new
 ·rw[aD d]at q;by_cases g:b=e
  ·have j:H b=Z (.own x):=by
    rcases he with z|z
    ·exact absurd (g.trans z) d
    ·rw[g];exact z
   rw[q]at j;cases j;obtain⟨v,n⟩:=o;exact⟨v,by rw[g];exact n⟩
  ·refine(ok b u q).stay (λc v f r=>k c v ?_ r) (λc r=>by rw[aD (l c b r)];exact r) (λc xs r=>by rw[aD (p c xs r)];exact r) λc o' i r=>by rw[aD (m c o' _ r)];exact r
   rcases f with rfl|f
   ·exact g
   ·rintro rfl;rcases he with z|z
    ·exact l c b f z
    ·rw[f]at z;cases z;exact d rfl
end
structure Un (fs ex:List Addr) (H H':Hp) (h h':Heap):Prop where
 keep:∀b o,h.get? b=some o->H b=none->b∉fs->b∉ex->h'.get? b=some o
 slot:∀b o,h.get? b=some o->H b=none->b∈fs->b∉ex->∃sl,h'.get? b=some { o with slots:=sl }
 free:∀b o,h.get? b=some o->H b=none->b∉ex->H' b=none
 there:∀b o,h.get? b=some o->b∉ex->∃o',h'.get? b=some o'
 tups:∀b xs,H b=some (.tup xs)->H' b=some (.tup xs)
 oM:∀b o u,H b=some (.iU o u)->H' b=some (.iU o u)
 sX:∀b ps,H b=some (.Ju ps)->∃more,H' b=some (.Ju (ps++more))
section
variable{fs fs' ex ex':O A2}{H H1 H2:Hp}{h1 h2 h':A7}{x e:A2}{o:HO}
theorem Un.any(u:Un fs ex H H1 h h1){b:A2}{a:AF}(q:h.get? b=Z a)(n:H b=U)(hx:b∉ex):∃sl,h1.get? b=Z { a with slots:=sl }:=by
 by_cases c:b∈fs
 ·exact u.slot b a q n c hx
 ·exact⟨a.slots,u.keep b a q n c hx⟩
theorem Un.kept(k:∀b u,h.get? b=Z u->h'.get? b=Z u):Un fs ex H H h h':=
 ⟨λb a q _ _ _=>k b a q,λb a q _ _ _=>⟨a.slots,k b a q⟩,λ_ _ _ n _=>n,λb a q _=>⟨a,k b a q⟩,λ_ _ q=>q,λ_ _ _ q=>q,λ_ ps q=>⟨#[],by rw[q];simp⟩⟩
theorem Un.refl:Un fs ex H H h h:=Un.kept λ_ _ q=>q
theorem Un.laid(k:∀b u,h.get? b=Z u->h'.get? b=Z u)(hp:h.objs.size<=a)(c:H a=U):Un fs ex H (B1 H a o) h h' where
 keep:=λb u q _ _ _=>k b u q
 slot:=λb u q _ _ _=>⟨u.slots,k b u q⟩
 free:=λb u q n _=>by rw[aD (zS (ZO (zz q) hp))];exact n
 there:=λb u q _=>⟨u,k b u q⟩
 tups:=λb xs q=>by rw[aD (bF q c)];exact q
 oM:=λb u xs q=>by rw[aD (bF q c)];exact q
 sX:=λb ps q=>⟨#[],by rw[aD (bF q c),q];simp⟩
theorem Un.write(a:F3 (H x))(he:e=x\/H e=Z (.own x))(k:∀b u,b≠e->h.get? b=Z u->h'.get? b=Z u)(g:∃u,h'.get? e=Z u):Un fs ex H (B1 H x o) h h':=by
 have hx:∀b,H b=U->b≠x:=λb n z=>by subst z;rw[n]at a;exact a
 have d:∀b,H b=U->b≠e:=λb n z=>by
  subst z;rcases he with r|r
  ·exact hx b n r
  ·rw[n]at r;cases r
 have c:∀b u,H b=Z u->¬ F3 (Z u)->b≠x:=λb u q nm z=>by subst z;rw[q]at a;exact nm a
 refine⟨λb u q n _ _=>k b u (d b n) q,λb u q n _ _=>⟨u.slots,k b u (d b n) q⟩,λb u q n _=>by rw[aD (hx b n)];exact n,λb u q _=>?_,
  λb xs q=>by rw[aD (c b _ q λz=>z)];exact q,λb u xs q=>by rw[aD (c b _ q λz=>z)];exact q,λb ps q=>⟨#[],by rw[aD (c b _ q λz=>z),q];simp⟩⟩
 by_cases f:b=e
 ·subst f;exact g
 ·exact⟨u,k b u f q⟩
end
def FL(h:A7)(H:Hp):O A2:=(dg h.objs.size).filter λa=>(H a).isSome
def Jv(h:A7)(H:Hp):A7:=PySem.W.hideAll h (FL h H)
theorem Vd(h:A7)(H:Hp):(Jv h H).objs.size=h.objs.size:=PySem.W.hideAll_size _ _
theorem W7{H:Hp}{b:A2}(e:h.get? b=Z o)(n:H b=U):(Jv h H).get? b=Z o:=
 PySem.W.hideAll_get _ e λa=>by
  have q:(H b).isSome=true:=(cD.mp a).2;rw[n]at q;simp at q
theorem eQ{H:Hp}{b:A2}(e:(Jv h H).get? b=Z o):h.get? b=Z o/\H b=U:=by
 have e':h.get? b=Z o:=PySem.W.of_hideAll (FL h H) e;refine⟨e',?_⟩;cases q:H b with
 |none=>rfl
 |some x=>
  have a:b∈FL h H:=cD.mpr ⟨dt.mpr (zz e'),by simp[q]⟩;have z:(Jv h H).get? b=U:=PySem.W.hideAll_none (FL h H) a;rw[z]at e;cases e
def aE(g h:A7)(L:A2):O (A2×AF):=(dg h.objs.size).filterMap λa=>if a=L\/(g.get? a).isSome=true then U else(h.get? a).map λo=>(a,o)
def AT(g h:A7)(L d:A2):O (A2×AF):=(aE g h L).filter λp=>decide (p.1≠d)
end L2
namespace L2
structure Mod (K:B5) (mg:Str->Option Value) (base:Heap):Prop where
 kin:K.In base
 glob:base.Ns mainGlobals mg
 blt:∃mb,base.Ns builtinsNs mb/\∀x:Str,x ≠ "__name__" → mb x=bootBuiltins x
 nolimit:base.NoLimit
 bmain:∃bm ob,mg "__builtins__"=some (.ref bm)/\bm≠builtinsNs/\base.get? bm=some ob/\ob.cls=.type "module" ∧ ob.dict=some builtinsNs/\ob.data=.plain
structure Cx where
 prog:Program
 w:World
 K:B5
 mg:Str->Option Value
 base:Heap
 A:Around
 N:An
 s₀:Shared
 H₀:Hp
 env:Env
 outer:List Env
 stack:List Env
 ex:List Addr
 fn:Str->Bool
 calm:Bool
 pn:List (Addr×Obj)
 xe:B8
abbrev db(X:Cx):=A9 X.prog X.w
def Bz(l:O Env):O A2:=l.filterMap (·.frame)
abbrev Cx.fs(X:Cx):O A2:=Bz X.outer
def WW(a:Scope)(x:AK):Prop:=a.names.lookup x=Z .local\/a.names.lookup x=Z .cell\/a.names.lookup x=Z .free
def D2(a:Scope)(x:AK):Prop:=a.names.lookup x=Z .local\/a.names.lookup x=Z .cell
def HL(env:Env)(h:A7)(m:AK->S A1)(x:AK)(u:A1):Prop:=
 (env.kindOf x=Z .local/\m x=Z u)\/((env.kindOf x=Z .cell\/env.kindOf x=Z .free)/\∃c,env.cells.lookup x=Z c/\h.IsCell c (Z u))
structure Cx.Ok (X:Cx):Prop where
 mod:Mod X.K X.mg X.base
 kind:X.env.scope.kind=.function
 glob:X.env.globals=mainGlobals
 blt:X.env.builtins=builtinsNs
 above:X.s₀.heap.objs.size<=X.env.locals
 inj:∀x y c,X.env.cells.lookup x=some c->X.env.cells.lookup y=some c->x=y
 has:∀x,(X.env.kindOf x=some .cell\/X.env.kindOf x=some .free)->∃c,X.env.cells.lookup x=some c
 cab:∀x c,X.fn x=true->X.env.cells.lookup x=some c->X.s₀.heap.objs.size<=c
 hd:X.calm=true->X.A.handled=none
 frames:X.A.frames=some X.stack
 stk:X.stack=X.outer\/(X.stack=X.env::X.outer/\X.env.frame=some X.env.locals)
 exf:∀b∈X.ex,b≠X.env.locals/\∀x c,X.env.cells.lookup x=some c->c≠b
 bs:∀b o,X.base.get? b=some o->X.s₀.heap.get? b=some o/\X.H₀ b=none
 bsz:X.base.objs.size<=X.s₀.heap.objs.size
 Ve:∀b o,X.base.get? b=some o->b∉X.ex
 W8:∀b∈X.ex,b∉X.fs
 wL:X.s₀.heap.FunFrames X.base X.outer
 frf:∀b∈X.fs,X.H₀ b=none
 tabs:Bi X.K X.H₀
structure AV (X:Cx) (AO:List (Addr×Obj)) (σ:List (Option V)) (H:Hp) (s:Shared):Prop where
 ok:X.Ok
 os:s.os=X.s₀.os
 bare:AllBare s.gens
 base:Un X.fs X.ex X.H₀ H X.s₀.heap s.heap
 loc:∃m,s.heap.Ns X.env.locals m/\∀(i:Nat) (x:Str) (v:V),X.N[i]?=some x->σ[i]?=some (some v)->WW X.env.scope x->∃u,At v u/\HL X.env s.heap m x u
 cell:∀x c,X.env.cells.lookup x=some c->∃v,s.heap.IsCell c v
 free:H X.env.locals=none
 ju:∀x c,X.env.cells.lookup x=some c->H c=none
 pin:∀p∈X.pn++AO,s.heap.get? p.1=some p.2/\H p.1=none/\p.1≠X.env.locals/\p.1∉X.fs/\∀v,p.2.data≠.cell v
 hok:u0 X.prog X.w H s.heap
 len:σ.length=X.N.length
section
variable{X:Cx}{σ:O (S V)}{H H':Hp}{h':A7}
theorem Cx.Ok.ajZ(ok:X.Ok){b:A2}(e:X.base.get? b=Z o):b∉X.fs:=λa=>by
 have:=(ok.wL.mem a).1;rw[e]at this;cases this
theorem AV.bs(I:AV X AO σ H s):∀b o,X.base.get? b=Z o->s.heap.get? b=Z o/\H b=U:=λb o e=>
 ⟨I.base.keep b o (I.ok.bs b o e).1 (I.ok.bs b o e).2 (I.ok.ajZ e) (I.ok.Ve b o e),I.base.free b o (I.ok.bs b o e).1 (I.ok.bs b o e).2 (I.ok.Ve b o e)⟩
theorem AV.bk(I:AV X AO σ H s):∀b o,X.base.get? b=Z o->s.heap.get? b=Z o:=λb o e=>(I.bs b o e).1
theorem AV.mod(I:AV X AO σ H s):Mod X.K X.mg X.base:=I.ok.mod
theorem AV.Gk(I:AV X AO σ H s):X.K.In s.heap:=I.ok.mod.kin.keeps I.bk
theorem AV.lt(I:AV X AO σ H s):X.env.locals<s.heap.objs.size:=let ⟨_,hn,_⟩:=I.loc;hn.lt
theorem AV.sz(I:AV X AO σ H s):X.s₀.heap.objs.size<=s.heap.objs.size:=Zl I.ok.above (j0 I.lt)
theorem AV.aj0(I:AV X AO σ H s)(h:s.heap.objs.size<=a):a∉X.fs:=λb=>by
 obtain⟨_,o,c,_⟩:=I.ok.wL.mem b;exact absurd (ZO (zz c) (Zl I.sz h)) (jS _)
theorem AV.cne(I:AV X AO σ H s):∀x c,X.env.cells.lookup x=Z c->c≠X.env.locals:=λx c e z=>by
 obtain⟨v,o,b,a⟩:=I.cell x c e;obtain⟨m,⟨o',es,ep,d,f,_⟩,_⟩:=I.loc;rw[z,d]at b;cases b;rw[f]at a;cases a
theorem AV.wL(I:AV X AO σ H s):s.heap.FunFrames X.base X.outer:=by
 have all:∀(l:O Env),(∀b∈Bz l,b∈X.fs)->X.s₀.heap.FunFrames X.base l->s.heap.FunFrames X.base l:=by
  intro l
  induction l with
  |nil=>intro _ _;trivial
  |cons env r m=>
   intro hs j;obtain⟨hk,⟨L,o,d,h,f,i⟩,g⟩:=j;have c:L∈X.fs:=hs L (by unfold Bz;rw[KL,d];exact zg);obtain⟨sl,e⟩:=I.base.slot L o f (I.ok.frf L c) c λz=>I.ok.W8 L z c;exact⟨hk,⟨L,_,d,h,e,i⟩,m (λb a=>hs b (by unfold Bz;rw[KL,d];exact zh _ a)) g⟩
 exact all X.outer (λ_ a=>a) I.ok.wL
theorem AV.stack(I:AV X AO σ H s):s.heap.FunFrames X.base X.stack:=by
 rcases I.ok.stk with e|⟨e,b⟩
 ·rw[e];exact I.wL
 ·rw[e];obtain⟨m,a,_⟩:=I.loc;refine .cons (by rw[I.ok.kind];decide) b a ?_ I.wL;exact hB (Zl I.ok.bsz I.ok.above)
theorem AV.yV(I:AV X AO σ H s):∀b∈Bz X.stack,b∈X.env.locals::X.fs:=λb a=>by
 rcases I.ok.stk with e|⟨e,c⟩
 ·rw[e]at a;exact zh _ a
 ·rw[e]at a;unfold Bz at a;rw[KL,c]at a;exact a
theorem AV.Bh(I:AV X AO σ H s):∀b∈Bz X.stack,H b=U:=λb a=>by
 rcases List.mem_cons.mp (I.yV b a)with e|a
 ·rw[e];exact I.free
 ·obtain⟨_,o,c,_⟩:=I.ok.wL.mem a;exact I.base.free b o c (I.ok.frf b a) λz=>I.ok.W8 b z a
theorem AV.step{g':Array GenState}{t':Nat}{d':Drawn}{ch:O A2}(I:AV X AO σ H s)
  (g:∀b∈ch,(b∈X.ex\/X.s₀.heap.objs.size<=b)/\b≠X.env.locals/\(∀x c,X.env.cells.lookup x=Z c->c≠b)/\∀p∈X.pn++AO,p.1≠b)
  (keep:∀b o,b≠X.env.locals->b∉X.fs->b∉ch->s.heap.get? b=Z o->H b=U->h'.get? b=Z o)
  (slot:∀b o,b≠X.env.locals->b∈X.fs->b∉ch->s.heap.get? b=Z o->H b=U->∃sl,h'.get? b=Z { o with slots:=sl }) (free:∀b o,b∉ch->s.heap.get? b=Z o->H b=U->H' b=U)
  (E:∀b o,b∉ch->s.heap.get? b=Z o->∃o',h'.get? b=Z o')
  (L:∀b xs,H b=Z (.tup xs)->H' b=Z (.tup xs)) (oM:∀b o u,H b=Z (.iU o u)->H' b=Z (.iU o u)) (J:∀b ps,H b=Z (.Ju ps)->∃more,H' b=Z (.Ju (ps++more)))
  (ns:∀m,s.heap.Ns X.env.locals m->h'.Ns X.env.locals m) (K:u0 X.prog X.w H' h') (F:AllBare g'):
  AV X AO σ H' { s with heap:=h',gens:=g',drawn:=d',toks:=t' }:=by
 have C:∀b o,X.s₀.heap.get? b=Z o->b≠X.env.locals:=λb o e=>zS (ZO (zz e) I.ok.above);have j:∀b o,X.s₀.heap.get? b=Z o->b∉X.ex->b∉ch:=λb o e hx a=>by
  rcases(g b a).1 with z|z
  ·exact hx z
  ·exact absurd (ZO (zz e) z) (jS _)
 have B:∀x c,X.env.cells.lookup x=Z c->∀v,s.heap.IsCell c v->h'.IsCell c v:=λx c e v ⟨o,f,t⟩=>by
  have h:c∉ch:=λz=>(g c z).2.2.1 x c e rfl;by_cases D:c∈X.fs
  ·obtain⟨sl,q⟩:=slot c o (I.cne x c e) D h f (I.ju x c e);exact⟨_,q,t⟩
  ·exact⟨o,keep c o (I.cne x c e) D h f (I.ju x c e),t⟩
 refine⟨I.ok,I.os,F,⟨λb o e n a hx=>?_,λb o e n a hx=>?_,λb o e n hx=>?_,λb o e hx=>?_,λb xs e=>L b xs (I.base.tups b xs e),λb o xs e=>oM b o xs (I.base.oM b o xs e),λb ps e=>?_⟩,?_,λx c e=>?_,?_,λx c e=>?_,λp hp=>?_,K,I.len⟩
 ·exact keep b o (C b o e) a (j b o e hx) (I.base.keep b o e n a hx) (I.base.free b o e n hx)
 ·obtain⟨sl,e1⟩:=I.base.slot b o e n a hx;obtain⟨G,e2⟩:=slot b _ (C b o e) a (j b o e hx) e1 (I.base.free b o e n hx);exact⟨G,e2⟩
 ·obtain⟨o',e1⟩:=I.base.there b o e hx;exact free b o' (j b o e hx) e1 (I.base.free b o e n hx)
 ·obtain⟨o',e1⟩:=I.base.there b o e hx;exact E b o' (j b o e hx) e1
 ·obtain⟨P,e1⟩:=I.base.sX b ps e;obtain⟨m2,e2⟩:=J b _ e1;exact⟨P++m2,by rw[e2,Array.append_assoc]⟩
 ·obtain⟨m,M,N⟩:=I.loc;refine⟨m,ns m M,λi x v e1 e2 e3=>?_⟩;obtain⟨u,r,l⟩:=N i x v e1 e2 e3;refine⟨u,r,?_⟩;rcases l with l|⟨k,c,e,z⟩
  ·exact .inl l
  ·exact .inr ⟨k,c,e,B x c e _ z⟩
 ·obtain⟨v,z⟩:=I.cell x c e;exact⟨v,B x c e v z⟩
 ·obtain⟨m,⟨o,_,_,f,_⟩,_⟩:=I.loc;exact free _ o (λz=>(g _ z).2.1 X9) f I.free
 ·obtain⟨v,o,f,t⟩:=I.cell x c e;exact free c o (λz=>(g c z).2.2.1 x c e X9) f (I.ju x c e)
 ·obtain⟨e,n,A,y,d⟩:=I.pin p hp;have h:p.1∉ch:=λz=>(g p.1 z).2.2.2 p hp rfl;exact⟨keep p.1 p.2 A y h e n,free p.1 p.2 h e n,A,y,d⟩
theorem AV.un{t':Nat}(I:AV X AO σ H s)(u:Un X.fs [] H H' s.heap h')(l:u0 X.prog X.w H' h'):AV X AO σ H' { s with heap:=h',toks:=t' }:=by
 obtain⟨m,⟨o,es,ep,c,r⟩,_⟩:=id I.loc;obtain⟨sl,h⟩:=u.any c I.free (by simp);exact I.step (g':=s.gens) (d':=s.drawn) (ch:=[]) (λ_ z=>nomatch z) (λb o _ a _ e n=>u.keep b o e n a (by simp)) (λb o _ a _ e n=>u.slot b o e n a (by simp)) (λb o _ e n=>u.free b o e n (by simp)) (λb o _ e=>u.there b o e (by simp)) u.tups u.oM u.sX (λp i=>by
  obtain⟨o',f,j,d,g⟩:=i;rw[c]at d;cases d;exact⟨_,f,j,h,g⟩) l I.bare
theorem AV.call{g':Array GenState}{t':Nat}{d':Drawn}{ch:O A2}(I:AV X AO σ H s)(u:Un (Bz X.stack) ch H H' s.heap h')(v:u0 X.prog X.w H' h')(y:AllBare g')
  (g:∀b∈ch,(b∈X.ex\/X.s₀.heap.objs.size<=b)/\b≠X.env.locals/\(∀x c,X.env.cells.lookup x=Z c->c≠b)/\∀p∈X.pn++AO,p.1≠b):
  AV X AO σ H' { s with heap:=h',gens:=g',drawn:=d',toks:=t' }:=by
 obtain⟨m,⟨o,es,ep,f,r⟩,_⟩:=id I.loc;obtain⟨sl,d⟩:=u.any f I.free λz=>(g _ z).2.1 rfl;exact I.step (ch:=ch) g (λb o d l a e n=>u.keep b o e n (λz=>(List.mem_cons.mp (I.yV b z)).elim d l) a) (λb o _ _ a e n=>u.any e n a) (λb o a e n=>u.free b o e n a) (λb o a e=>u.there b o e a) u.tups u.oM u.sX (λA q=>by
  obtain⟨o',i,t,h,j⟩:=q;rw[f]at h;cases h;exact⟨_,i,t,d,j⟩) v y
theorem AV.turned{t':Nat}(I:AV X AO σ H s)(k:∀b o,b≠it->s.heap.get? b=Z o->h'.get? b=Z o)(h:H it=U)(d:it≠X.env.locals)(h1:it∈X.ex\/X.s₀.heap.objs.size<=it)(h2:∀x c,X.env.cells.lookup x=Z c->c≠it)(l:∀p∈X.pn++AO,p.1≠it):AV X AO σ H { s with heap:=h',toks:=t' }:=by
 have f:∀b u,H b=Z u->b≠it:=λb u e z=>by rw[z,h]at e;cases e
 refine I.step (g':=s.gens) (d':=s.drawn) (ch:=[it]) (λb i=>?_) (λb o _ _ a e _=>k b o (λz=>a (by simp[z])) e) (λb o _ _ a e _=>⟨o.slots,k b o (λz=>a (by simp[z])) e⟩) (λ_ _ _ _ n=>n)
  (λb o a e=>⟨o,k b o (λz=>a (by simp[z])) e⟩) (λ_ _ e=>e) (λ_ _ _ e=>e) (λb ps e=>⟨#[],by rw[e];simp⟩) (λm j=>?_) (λb u e=>?_) I.bare
 ·have e:b=it:=by simpa using i
  subst e;exact⟨h1,d,h2,l⟩
 ·obtain⟨o,es,ep,g,r⟩:=j;exact⟨o,es,ep,k _ o (ja d) g,r⟩
 ·refine(I.hok b u e).stay (λc v a q=>k c v ?_ q) (λ_ q=>q) (λ_ _ q=>q) λ_ _ _ q=>q;rcases a with z|z
  ·rw[z];exact f b u e
  ·exact f c _ z
theorem AV.tok(I:AV X AO σ H s)(t:Nat):AV X AO σ H { s with toks:=t }:=I.un (h':=s.heap) (t':=t) Un.refl I.hok
theorem AV.kept{t':Nat}(I:AV X AO σ H s)(k:∀b u,s.heap.get? b=Z u->h'.get? b=Z u):AV X AO σ H { s with heap:=h',toks:=t' }:=I.un (Un.kept k) (I.hok.kept k)
theorem AV.laid{a:A2}{o:HO}{t':Nat}(I:AV X AO σ H s)(k:∀b u,s.heap.get? b=Z u->h'.get? b=Z u)(hp:s.heap.objs.size<=a)(new:eV X.prog X.w (B1 H a o) h' a o):
  AV X AO σ (B1 H a o) { s with heap:=h',toks:=t' }:=I.un (Un.laid k hp (I.hok.fresh hp)) (I.hok.laid k hp new)
theorem AV.write{x e:A2}{o:HO}{t':Nat}(I:AV X AO σ H s)(a:F3 (H x))(he:e=x\/H e=Z (.own x))(k:∀b u,b≠e->s.heap.get? b=Z u->h'.get? b=Z u)(c:∃u,h'.get? e=Z u)
  (new:eV X.prog X.w (B1 H x o) h' x o):AV X AO σ (B1 H x o) { s with heap:=h',toks:=t' }:=I.un (Un.write a he k c) (I.hok.write a he k c new)
theorem AV.xK{W9:O (A2×AF)}(I:AV X AO σ H s)(h:∀p∈W9,s.heap.get? p.1=Z p.2/\H p.1=U/\p.1≠X.env.locals/\p.1∉X.fs/\∀v,p.2.data≠.cell v):AV X W9 σ H s:=
 ⟨I.ok,I.os,I.bare,I.base,I.loc,I.cell,I.free,I.ju,λp hp=>(List.mem_append.mp hp).elim (λz=>I.pin p (Q2 _ z)) (h p),I.hok,I.len⟩
theorem Cp(c:N.Nodup)(a:N[i]?=Z x)(b:N[j]?=Z x):i=j:=by
 obtain⟨h1,e1⟩:=cf.mp a;obtain⟨h2,e2⟩:=cf.mp b;exact(List.getElem_inj c).mp (e1.trans e2.symm)
theorem Vf{v:V}(I:AV X AO σ H s)(P:X.N.Nodup)(hi:X.N[i]?=Z x)(hx:D2 X.env.scope x)(r:At v u)(h:∀s',AV X AO (σ.set i (Z v)) H s'->(∃a,Heap.SameBut a s.heap s'.heap/\(a=X.env.locals\/X.env.cells.lookup x=Z a))->Q gl s')(hf:X.fn x=true\/X.env.scope.names.lookup x=Z .local:=by first|exact .inl rfl|exact .inr rfl|assumption):A8 M A (storeName X.env x u) Q E s:=by
 obtain⟨m,J,hl⟩:=id I.loc;have c4:(X.env.scope.kind==.class||(X.env.scope.kind==.module&&X.env.locals !=X.env.globals))=false:=by rw[I.ok.kind];rfl
 have b0:i<σ.length:=by rw[I.len];exact(cf.mp hi).1
 have cne:=I.cne;have a3:∀{a:A2} {h':A7},(∃o,s.heap.get? a=Z o/\H a=U)->Heap.SameBut a s.heap h'->u0 X.prog X.w H h':=λ{a h'} ha hs b ob e=>by
  obtain⟨_,_,b4⟩:=ha;refine(I.hok b ob e).stay (λc B f q=>(hs.2 c ?_).trans q) (λ_ q=>q) (λ_ _ q=>q) λ_ _ _ q=>q;rintro rfl;rcases f with rfl|f
  ·rw[b4]at e;cases e
  ·rw[b4]at f;cases f
 rcases hx with hk|hk
 ·refine wpAny_storeName_local hk J (λh' b5 hs=>?_) c4;obtain⟨oL,_,_,b6,_⟩:=id J;refine h _ ⟨I.ok,I.os,I.bare,⟨λb o e n g hx=>?_,λb o e n g hx=>?_,I.base.free,λb o e hx=>?_,I.base.tups,I.base.oM,I.base.sX⟩,⟨_,b5,λj y D e1 e2 e3=>?_⟩,λy c e=>?_,I.free,I.ju,λp hp=>?_,a3 ⟨oL,b6,I.free⟩ hs,by simpa using I.len⟩ ⟨_,hs,.inl rfl⟩
  ·exact(hs.2 b (zS (ZO (zz e) I.ok.above))).trans (I.base.keep b o e n g hx)
  ·obtain⟨sl,e1⟩:=I.base.slot b o e n g hx;exact⟨sl,(hs.2 b (zS (ZO (zz e) I.ok.above))).trans e1⟩
  ·obtain⟨o',e1⟩:=I.base.there b o e hx;exact⟨o',(hs.2 b (zS (ZO (zz e) I.ok.above))).trans e1⟩
  ·by_cases l:j=i
   ·subst l;rw[hi]at e1;cases e1;rw[QE b0]at e2;cases e2;exact⟨u,r,.inl ⟨hk,by simp⟩⟩
   ·rw[kD (ja l)]at e2;obtain⟨K,C,q⟩:=hl j y D e1 e2 e3;refine⟨K,C,?_⟩;rcases q with⟨k,e⟩|⟨k,c,e,z⟩
    ·refine .inl ⟨k,?_⟩;have:y≠x:=λe=>l (Cp P e1 (e▸hi));simp[this,e]
    ·exact .inr ⟨k,c,e,z.sameBut hs (cne y c e)⟩
  ·obtain⟨B,z⟩:=I.cell y c e;exact⟨B,z.sameBut hs (cne y c e)⟩
  ·obtain⟨e,n,t,G,d⟩:=I.pin p hp;exact⟨(hs.2 p.1 t).trans e,n,t,G,d⟩
 ·have F:X.fn x=true:=by
   rcases hf with z|z
   ·exact z
   ·rw[z]at hk;cases hk
  obtain⟨c,f⟩:=I.ok.has x (.inl hk);obtain⟨B,z⟩:=I.cell x c f;refine wpAny_storeName_cell I.ok.kind hk f z (λh' W hs=>?_);obtain⟨L,a5,c3⟩:=id z;refine h { s with heap:=h' } ⟨I.ok,I.os,I.bare,⟨λb o e n g hx=>?_,λb o e n g hx=>?_,I.base.free,λb o e hx=>?_,I.base.tups,I.base.oM,I.base.sX⟩,⟨m,J.sameBut hs (ja (cne x c f)),λj y D e1 e2 e3=>?_⟩,λy c' e=>?_,I.free,I.ju,λp hp=>?_,a3 ⟨L,a5,I.ju x c f⟩ hs,by simpa using I.len⟩ ⟨c,hs,.inr f⟩
  ·exact(hs.2 b (zS (ZO (zz e) (I.ok.cab x c F f)))).trans (I.base.keep b o e n g hx)
  ·obtain⟨sl,e1⟩:=I.base.slot b o e n g hx;exact⟨sl,(hs.2 b (zS (ZO (zz e) (I.ok.cab x c F f)))).trans e1⟩
  ·obtain⟨o',e1⟩:=I.base.there b o e hx;exact⟨o',(hs.2 b (zS (ZO (zz e) (I.ok.cab x c F f)))).trans e1⟩
  ·by_cases l:j=i
   ·subst l;rw[hi]at e1;cases e1;rw[QE b0]at e2;cases e2;exact⟨u,r,.inr ⟨.inl hk,c,f,W⟩⟩
   ·rw[kD (ja l)]at e2;obtain⟨K,C,q⟩:=hl j y D e1 e2 e3;refine⟨K,C,?_⟩;rcases q with q|⟨k,c',e,z'⟩
    ·exact .inl q
    ·refine .inr ⟨k,c',e,z'.sameBut hs ?_⟩;rintro rfl;exact l (Cp P e1 (I.ok.inj _ _ _ e f▸hi))
  ·by_cases Y:c'=c
   ·subst Y;exact⟨_,W⟩
   ·obtain⟨w2,z2⟩:=I.cell y c' e;exact⟨w2,z2.sameBut hs Y⟩
  ·obtain⟨e,n,t,G,d⟩:=I.pin p hp;refine⟨(hs.2 p.1 ?_).trans e,n,t,G,d⟩;intro q;rw[q,a5]at e;have q':L=p.2:=ku e;exact d B (by rw[<-q'];exact c3)
theorem pY{v:V}(I:AV X AO σ H s)(c:X.N.Nodup)(hi:X.N[i]?=Z x)(hx:D2 X.env.scope x)(r:At v u)(h:∀s',AV X AO (σ.set i (Z v)) H s'->Q gl s')(b:X.fn x=true\/X.env.scope.names.lookup x=Z .local:=by first|exact .inl rfl|exact .inr rfl|assumption):A8 M A (storeName X.env x u) Q E s:=
 Vf I c hi hx r (λs' a _=>h s' a) b
theorem AV.call'{s':A3}{ch:O A2}(I:AV X AO σ H s)(d:s'.os=s.os)(u:Un (Bz X.stack) ch H H' s.heap s'.heap)(a:u0 X.prog X.w H' s'.heap)(g:AllBare s'.gens)
  (f:∀b∈ch,(b∈X.ex\/X.s₀.heap.objs.size<=b)/\b≠X.env.locals/\(∀x c,X.env.cells.lookup x=Z c->c≠b)/\∀p∈X.pn++AO,p.1≠b):AV X AO σ H' s':=by
 obtain⟨h',g',d',t',o'⟩:=s';have e:o'=s.os:=d;subst e;exact I.call (g':=g') (t':=t') (d':=d') u a g f
end
abbrev XK:=A1->S A2->Hp->Prop
abbrev St:=O (S V)
abbrev VK:=V->Hp->Prop
abbrev TE:=St->Hp->VK->Prop
abbrev TT:=St->Hp->(Bool->Hp->Prop)->Prop
abbrev TA:=St->Hp->(O V->Hp->Prop)->Prop
structure BN where
 nx:St->Hp->Prop
 rt:VK
 bk:St->Hp->Prop:=λ_ _=>False
 ct:St->Hp->Prop:=λ_ _=>False
abbrev TS:=BN->St->Hp->Prop
def EP(X:Cx)(AO:O (A2×AF))(σ:St)(Q:VK)(u:A1)(s':A3):Prop:=∃v H',AV X AO σ H' s'/\At v u/\Q v H'
def TP(X:Cx)(AO:O (A2×AF))(σ:St)(Q:Bool->Hp->Prop)(b:Bool)(s':A3):Prop:=∃H',AV X AO σ H' s'/\Q b H'
def AP(X:Cx)(AO:O (A2×AF))(σ:St)(Q:O V->Hp->Prop)(us:O A1)(s':A3):Prop:=∃vs H',AV X AO σ H' s'/\AY vs us/\Q vs H'
def SP(X:Cx)(AO:O (A2×AF))(D:BN)(f:Flow)(s':A3):Prop:=
 match f with
 |.next=>∃ σ' H',AV X AO σ' H' s'/\D.nx σ' H'
 |.brk=>∃ σ' H',AV X AO σ' H' s'/\D.bk σ' H'
 |.cont=>∃ σ' H',AV X AO σ' H' s'/\D.ct σ' H'
 |.ret u=>∃v σ' H',AV X AO σ' H' s'/\At v u/\D.rt v H'
def PE(X:Cx)(e:Expr)(t:TE):Prop:=
 ∀(AO:O (A2×AF)) (s:A3) (σ:St) (H:Hp) (Q:VK),AV X AO σ H s->t σ H Q->A8 (db X) X.A (eval e X.env) (EP X AO σ Q) X.xe s
def PT(X:Cx)(e:Expr)(t:TT):Prop:=
 ∀(AO:O (A2×AF)) (s:A3) (σ:St) (H:Hp) (Q:Bool->Hp->Prop),AV X AO σ H s->t σ H Q->A8 (db X) X.A (isTrue e X.env (eval e X.env)) (TP X AO σ Q) X.xe s
def PW(X:Cx)(e:Expr)(t:TT):Prop:=
 ∀(a:Sem A1) (AO:O (A2×AF)) (s:A3) (σ:St) (H:Hp) (Q:Bool->Hp->Prop),AV X AO σ H s->t σ H Q->A8 (db X) X.A (isTrue e X.env a) (TP X AO σ Q) X.xe s
theorem PW.pt{X:Cx}{t:TT}(h:PW X e t):PT X e t:=h _
def PA(X:Cx)(es:O Expr)(t:TA):Prop:=
 ∀(pos:Pos) (AO:O (A2×AF)) (s:A3) (σ:St) (H:Hp) (Q:O V->Hp->Prop),AV X AO σ H s->t σ H Q->A8 (db X) X.A (spliced (AE pos (AA es X.env))) (AP X AO σ Q) X.xe s
def PS(X:Cx)(st:AC)(t:TS):Prop:=
 ∀(AO:O (A2×AF)) (s:A3) (σ:St) (H:Hp) (D:BN),AV X AO σ H s->t D σ H->A8 (db X) X.A (exec st X.env) (SP X AO D) X.xe s
def wM(X:Cx)(st:O AC)(t:TS):Prop:=
 ∀(AO:O (A2×AF)) (s:A3) (σ:St) (H:Hp) (D:BN),AV X AO σ H s->t D σ H->A8 (db X) X.A (execs st X.env) (SP X AO D) X.xe s
theorem gK{t:Sem α}{Q Q':α->A3->Prop}(h:A8 M A t Q E s)(b:∀a s,Q a s->Q' a s):A8 M A t Q' E s:=ZA h b λ_ _ x=>x
end L2
namespace L2
section
variable{X:Cx}
def qM(i:Nat):TE:=λσ H Q=>∃v,σ[i]?=Z (Z v)/\Q v H
def tC(v:V):TE:=λ_ H Q=>Q v H
theorem iB(g:X.N[i]?=Z x)(p:WW X.env.scope x)(a:bv x:=by decide)(o:(x==("__classdict__":AK))=false:=by decide):PE X (.Name x pos) (qM i):=by
 intro AO s σ H Q I h;obtain⟨v,e,h⟩:=h;obtain⟨m,j,q⟩:=I.loc;obtain⟨u,r,l⟩:=q i x v g e p;have b:EP X AO σ Q u s:=⟨v,H,I,r,h⟩;rcases l with⟨hk,n⟩|⟨hk,c,d,f⟩
 ·exact wpAny_Name (wpAny_loadName_local I.ok.kind hk j n b) a
 ·rcases hk with hk|hk
  ·exact wpAny_Name (wpAny_loadName_cell I.ok.kind hk d f b) a
  ·exact wpAny_Name (wpAny_loadName_free I.ok.kind hk d f b o) a
theorem Qa{i j pos}:PE X (.Constant (.int i) j pos) (tC (.int i)):=λ_ _ _ H _ I h=>wpAny_Constant_int ⟨.int i,H,I.tok _,⟨_,rfl⟩,h⟩
theorem LM{b j pos}:PE X (.Constant (.bool b) j pos) (tC (.bl b)):=λ_ _ _ H _ I h=>Constant_bool ⟨.bl b,H,I,rfl,h⟩
theorem W1{x j pos}:PE X (.Constant (.str x) j pos) (tC (.str x)):=λ_ _ _ H _ I h=>Calls.Constant_str ⟨.str x,H,I.tok _,⟨_,rfl⟩,h⟩
def Gl(X:Cx)(x:AK):Prop:=X.env.kindOf x=Z .globalImplicit
theorem xM{σ:St}{H:Hp}{Q:B8}(I:AV X AO σ H s)(c:Gl X x)(b:X.mg x=Z u)(h:Q u s)(a:bv x:=by decide):A8 (db X) X.A (eval (.Name x pos) X.env) Q E s:=
 Calls.Name_function_global I.ok.kind c (Calls.loadGlobal_global (by rw[I.ok.glob];exact I.mod.glob.keeps I.bk) b h) a
theorem Jw{σ:St}{H:Hp}{Q:B8}(I:AV X AO σ H s)(e:Gl X x)(b:X.mg x=U)(d:AI x=Z u)(h:Q u s)(a:x ≠ "__name__":=by decide)(c:bv x:=by decide):A8 (db X) X.A (eval (.Name x pos) X.env) Q E s:=by
 obtain⟨f,h1,h2⟩:=I.mod.blt;exact Calls.Name_function_global I.ok.kind e (Calls.loadGlobal_builtin (by rw[I.ok.glob];exact I.mod.glob.keeps I.bk) b (by rw[I.ok.blt];exact h1.keeps I.bk) ((h2 x a).trans d) h) c
theorem u5{v:V}(c:Gl X x)(b:X.mg x=Z u)(r:At v u)(a:bv x:=by decide):PE X (.Name x pos) (tC v):=
 λ_ _ _ H _ I h=>xM I c b ⟨v,H,I,r,h⟩ a
theorem Bk{v:V}(e:Gl X x)(b:X.mg x=U)(d:AI x=Z u)(r:At v u)(a:x ≠ "__name__":=by decide)(c:bv x:=by decide):PE X (.Name x pos) (tC v):=
 λ_ _ _ H _ I h=>Jw I e b d ⟨v,H,I,r,h⟩ a c
variable{a b:Expr}{ta tb:TE}
variable{tA tB':TT}{AT:O Expr}
def MV(t u:TT):TT:=λσ H Q=>t σ H λc H1=>if c=true then u σ H1 Q else Q false H1
def LX(t u:TT):TT:=λσ H Q=>t σ H λc H1=>if c=true then Q true H1 else u σ H1 Q
def OH(t:TT):TT:=λσ H Q=>t σ H λc H1=>Q (!c) H1
theorem bg(b:PT X a tA):PW X (.BoolOp .And [a] pos) tA:=by
 intro wh AO s σ H Q I h;refine isTrue_and (gK (b AO s σ H Q I h) λc d e=>?_);cases c with
 |true=>exact isTrue_and_nil e
 |false=>exact e
theorem ft(b:PT X a tA):PW X (.BoolOp .Or [a] pos) tA:=by
 intro wh AO s σ H Q I h;refine isTrue_or (gK (b AO s σ H Q I h) λc d e=>?_);cases c with
 |false=>exact isTrue_or_nil e
 |true=>exact e
theorem TW(e:PT X a tA)(d:PW X (.BoolOp .And (b::AT) pos) tB'):PW X (.BoolOp .And (a::b::AT) pos) (MV tA tB'):=by
 intro wh AO s σ H Q I h;refine isTrue_and (gK (e AO s σ H _ I h) λc s1 ⟨H1,I1,q1⟩=>?_);cases c with
 |true=>exact d wh AO s1 σ H1 Q I1 q1
 |false=>exact⟨H1,I1,q1⟩
theorem PY(e:PT X a tA)(d:PW X (.BoolOp .Or (b::AT) pos) tB'):PW X (.BoolOp .Or (a::b::AT) pos) (LX tA tB'):=by
 intro wh AO s σ H Q I h;refine isTrue_or (gK (e AO s σ H _ I h) λc s1 ⟨H1,I1,q1⟩=>?_);cases c with
 |true=>exact⟨H1,I1,q1⟩
 |false=>exact d wh AO s1 σ H1 Q I1 q1
theorem OI(b:PT X a tA):PT X (.UnaryOp .Not a pos) (OH tA):=by
 intro AO s σ H Q I h;exact isTrue_not (b AO s σ H (λc H1=>Q (!c) H1) I h)
def OF(ta tb:TE):TE:=λσ H Q=>ta σ H λx H1=>∃c,x=.bl c/\if c=true then tb σ H1 Q else Q (.bl false) H1
theorem Qc{op}{t:TE}(h:PE X a t):PE X (.BoolOp op [a] pos) t:=λAO s σ H Q I b=>BoolOp_one (h AO s σ H Q I b)
theorem yW(e:PE X a ta)(d:PE X (.BoolOp .And (b::AT) pos) tb):PE X (.BoolOp .And (a::b::AT) pos) (OF ta tb):=by
 intro AO s σ H Q I h;refine BoolOp_and (gK (e AO s σ H _ I h) λv s1 ⟨x,H1,I1,r1,q1⟩=>?_);obtain⟨c,rfl,q1⟩:=q1;cases r1;refine kA ?_;cases c with
 |true=>exact d AO s1 σ H1 Q I1 q1
 |false=>exact⟨.bl false,H1,I1,rfl,q1⟩
def RE(t:TT)(ta tb:TE):TE:=λσ H Q=>t σ H λc H1=>if c=true then ta σ H1 Q else tb σ H1 Q
theorem Xa(g:PT X c tA)(e:PE X a ta)(f:PE X b tb):PE X (.IfExp c a b pos) (RE tA ta tb):=by
 intro AO s σ H Q I h;refine wpAny_IfExp (gK (g AO s σ H _ I h) λd s1 ⟨H1,I1,q1⟩=>?_);cases d with
 |true=>exact e AO s1 σ H1 Q I1 q1
 |false=>exact f AO s1 σ H1 Q I1 q1
end
end L2
namespace L2
def sY(K:B5)(H:Hp)(a:A2)(xs:O V):Prop:=
 Rd H a (.lst xs) ∨
  ∃(o:AF) (AS:Array A1) (n:Nat),K.lookup a=Z o/\o.cls=.type "list" ∧ o.dict=U/\o.data=.seq AS n/\AS.size<=AB/\AY xs AS.toList
def xO(K:B5)(H:Hp)(a:A2)(xs:O V):Prop:=
 Rd H a (.tup xs) ∨
  ∃(o:AF) (AS:Array A1) (n:Nat),K.lookup a=Z o/\(o.cls=.type "tuple" ∧ o.dict=U)/\o.data=.seq AS n/\AS.size<=AB/\AY xs AS.toList
def Hm:A1->S V
 |.none=>Z .non
 |.bool b=>Z (.bl b)
 |.int i _=>Z (.int i)
 |.str x _=>Z (.str x)
 |.bytes b _=>Z (.byt b)
 |.float b _=>Z (.flt b)
 |.ref a=>Z (.ref a)
 |.type n=>Z (.ty n)
 |_=>U
theorem At.abs{x:V}(r:At x u):Hm u=Z x:=by
 cases x with
 |non=>cases r;rfl
 |bl _=>cases r;rfl
 |int _=>obtain⟨t,rfl⟩:=r;rfl
 |str _=>obtain⟨t,rfl⟩:=r;rfl
 |byt _=>obtain⟨t,rfl⟩:=r;rfl
 |flt _=>obtain⟨t,rfl⟩:=r;rfl
 |ref _=>cases r;rfl
 |ty _=>cases r;rfl
theorem At.inj{x y:V}{u:A1}(r:At x u)(q:At y u):x=y:=ku (r.abs.symm.trans q.abs)
theorem AY.inj:∀{xs ys:O V} {us:O A1},AY xs us->AY ys us->xs=ys
 |_,_,_,.nil,.nil=>rfl
 |_,_,_,.cons r t,.cons r' t'=>by rw[r.inj r',AY.inj t t']
section
variable{X:Cx}{σ:St}{H:Hp}{xs ys:O V}
theorem AV.list(I:AV X AO σ H s)(h:sY X.K H a xs):∃AS:O A1,AY xs AS/\PlainL s.heap a AS.toArray/\xs.length<=AB:=by
 rcases h with h|⟨o,AS,n,hk,c,b,hs,d,r⟩
 ·obtain⟨z,AS,n,r,e⟩:=h.ok I.hok;exact⟨AS,r,⟨_,n,e,rfl,rfl,rfl⟩,z⟩
 ·refine⟨AS.toList,r,⟨o,n,I.Gk a o hk,c,b,by simpa using hs⟩,?_⟩;have e:=r.length;simp only[qh]at e;omega
theorem AV.tuple(I:AV X AO σ H s)(h:xO X.K H a xs):∃AS:O A1,AY xs AS/\IsTup s.heap a AS.toArray/\xs.length<=AB:=by
 rcases h with h|⟨o,AS,n,hk,b,hs,c,r⟩
 ·obtain⟨z,AS,r,p⟩:=h.ok I.hok;exact⟨AS,r,p.weak,z⟩
 ·refine⟨AS.toList,r,⟨o,I.Gk a o hk,b.1,n,by simpa using hs⟩,?_⟩;have e:=r.length;simp only[qh]at e;omega
theorem AV.LQ(I:AV X AO σ H s)(h:sY X.K H a xs)(h':sY X.K H a ys):xs=ys:=by
 obtain⟨AS,r,⟨o,n,e,_,_,d⟩,_⟩:=I.list h;obtain⟨f,c,⟨o',i,e',_,_,b⟩,_⟩:=I.list h';rw[e]at e';cases e';rw[d]at b;injection b with g _;have:AS=f:=by simpa using congrArg mT g
 subst this;exact r.inj c
theorem AV.Ho(I:AV X AO σ H s)(h:xO X.K H a xs)(h':xO X.K H a ys):xs=ys:=by
 obtain⟨AS,r,⟨o,e,_,n,d⟩,_⟩:=I.tuple h;obtain⟨f,c,⟨o',e',_,i,b⟩,_⟩:=I.tuple h';rw[e]at e';cases e';rw[d]at b;injection b with g _;have:AS=f:=by simpa using congrArg mT g
 subst this;exact r.inj c
end
abbrev Cx.wish(X:Cx)(E:B8):Cx:={ X with xe:=E }
abbrev Cx.Vg(X:Cx):Cx:=X.wish λ_ _=>False
theorem Cx.Ok.wish{X:Cx}(ok:X.Ok)(E:B8):(X.wish E).Ok:=
 ⟨ok.mod,ok.kind,ok.glob,ok.blt,ok.above,ok.inj,ok.has,ok.cab,ok.hd,ok.frames,ok.stk,ok.exf,ok.bs,ok.bsz,ok.Ve,ok.W8,ok.wL,ok.frf,ok.tabs⟩
theorem Cx.Ok.jC{X:Cx}(ok:(X.wish E).Ok):X.Ok:=
 ⟨ok.mod,ok.kind,ok.glob,ok.blt,ok.above,ok.inj,ok.has,ok.cab,ok.hd,ok.frames,ok.stk,ok.exf,ok.bs,ok.bsz,ok.Ve,ok.W8,ok.wL,ok.frf,ok.tabs⟩
section
variable{X:Cx}{σ:St}{H:Hp}
theorem AV.wish(I:AV X AO σ H s)(E:B8):AV (X.wish E) AO σ H s:=⟨I.ok.wish E,I.os,I.bare,I.base,I.loc,I.cell,I.free,I.ju,I.pin,I.hok,I.len⟩
theorem AV.jC(I:AV (X.wish E) AO σ H s):AV X AO σ H s:=⟨I.ok.jC,I.os,I.bare,I.base,I.loc,I.cell,I.free,I.ju,I.pin,I.hok,I.len⟩
theorem SP.jC{D:BN}{f:Flow}{s':A3}(h:SP (X.wish E) AO D f s'):SP X AO D f s':=by
 cases f with
 |next=>obtain⟨σ',H',I,q⟩:=h;exact⟨σ',H',I.jC,q⟩
 |brk=>obtain⟨σ',H',I,q⟩:=h;exact⟨σ',H',I.jC,q⟩
 |cont=>obtain⟨σ',H',I,q⟩:=h;exact⟨σ',H',I.jC,q⟩
 |ret u=>obtain⟨v,σ',H',I,r,q⟩:=h;exact⟨v,σ',H',I.jC,r,q⟩
theorem wM.Vg{st:O AC}{t:TS}(h:wM X.Vg st t):wM X st t:=λAO s σ H D I a=>
 ZA (h AO s σ H D (I.wish _) a) (λ_ _ q=>q.jC) λ_ _ z=>False.elim z
end
section
variable{X:Cx}{AT:O AC}{t u:TS}{te:TE}
def Xb:TS:=λD σ H=>D.nx σ H
def LA(t u:TS):TS:=λD σ H=>t { D with nx:=u D } σ H
theorem oU:wM X [] Xb:=λ_ _ σ H _ I h=>k6 ⟨σ,H,I,h⟩
theorem dU(h1:PS X st t)(h2:wM X AT u):wM X (st::AT) (LA t u):=by
 intro AO s σ H D I h;refine KA (gK (h1 AO s σ H { D with nx:=u D } I h) λf b q=>?_);cases f with
 |next=>
  obtain⟨σ',H',a,q⟩:=q;exact h2 AO b σ' H' D a q
 |ret v=>exact q
 |brk=>exact q
 |cont=>exact q
theorem qN(h1:PS X st t):wM X [st] t:=by
 intro AO s σ H D I h;refine KA (gK (h1 AO s σ H D I h) λf a q=>?_);cases f with
 |next=>exact k6 q
 |ret v=>exact q
 |brk=>exact q
 |cont=>exact q
theorem AV.quiet{σ:St}{H:Hp}(I:AV X AO σ H s):interactive X.env=false:=by simp[interactive,I.ok.kind]
def LR(te:TE):TS:=λD σ H=>te σ H λ_ H1=>D.nx σ H1
theorem qO(he:PE X e te)(hs:swapsWith e U pos.line X.env=pure false:=by rfl):PS X (.Expr e pos) (LR te):=by
 intro AO s σ H D I h;exact wpAny_Expr_any (gK (he AO s σ H _ I h) λv s1 ⟨x,H1,I1,r1,q1⟩=>⟨σ,H1,I1,q1⟩) I.quiet hs
def ND(te:TE):TS:=λD σ H=>te σ H D.rt
theorem Jx(he:PE X e te):PS X (.Return (Z e) pos) (ND te):=by
 intro AO s σ H D I h;exact wpAny_Return_some (gK (he AO s σ H _ I h) λv s1 ⟨x,H1,I1,r1,q1⟩=>⟨x,σ,H1,I1,r1,q1⟩)
def HR(c:TT)(t u:TS):TS:=λD σ H=>c σ H λb H1=>if b=true then t D σ H1 else u D σ H1
theorem Ma{a b:O AC}{tc:TT}(g:PT X c tc)(e:wM X a t)(f:wM X b u):PS X (.If c a b pos) (HR tc t u):=by
 intro AO s σ H D I h;refine wpAny_If (gK (g AO s σ H _ I h) λd s1 ⟨H1,I1,q1⟩=>?_);cases d with
 |true=>exact e AO s1 σ H1 D I1 q1
 |false=>exact f AO s1 σ H1 D I1 q1
end
abbrev TG:=V->St->Hp->(St->Hp->Prop)->Prop
abbrev Do:=O V->St->Hp->(St->Hp->Prop)->Prop
def PG(X:Cx)(a:Expr)(t:TG):Prop:=
 ∀(AO:O (A2×AF)) (s:A3) (σ:St) (H:Hp) (v:V) (u:A1) (Q:St->Hp->Prop),AV X AO σ H s->At v u->t v σ H Q →
  A8 (db X) X.A (assign a X.env u) (λ_ s'=>∃ σ' H',AV X AO σ' H' s'/\Q σ' H') X.xe s
def S8(X:Cx)(ts:O Expr)(t:Do):Prop:=
 ∀(AO:O (A2×AF)) (s:A3) (σ:St) (H:Hp) (vs:O V) (us:O A1) (Q:St->Hp->Prop),AV X AO σ H s->AY vs us->t vs σ H Q →
  A8 (db X) X.A (assignInOrder ((assignEach ts X.env).map (·.2)) us) (λ_ s'=>∃ σ' H',AV X AO σ' H' s'/\Q σ' H') X.xe s
section
variable{X:Cx}
def pZ(i:Nat):TG:=λv σ H Q=>Q (σ.set i (Z v)) H
theorem qP(c:X.N.Nodup)(hi:X.N[i]?=Z x)(hx:D2 X.env.scope x)(b:X.fn x=true\/X.env.scope.names.lookup x=Z .local:=by first|exact .inl rfl|exact .inr rfl|assumption):PG X (.Name x pos) (pZ i):=by
 intro AO s σ H v u Q I r h;exact wpAny_assign_Name (pY I c hi hx r (λs' a=>⟨_,H,a,h⟩) b)
def fR:Do:=λvs σ H Q=>vs=[]/\Q σ H
def TU(t:TG)(u:Do):Do:=λvs σ H Q=>∃v r,vs=v::r/\t v σ H λσ' H'=>u r σ' H' Q
theorem bj:S8 X [] fR:=by
 intro AO s σ H vs us Q I r h;obtain⟨e,h⟩:=h;subst e;cases r;exact assignInOrder_nil ⟨σ,H,I,h⟩
theorem Xc{t:TG}{u:Do}(h1:PG X e t)(h2:S8 X es u)(hs:(assignEach (e::es) X.env).map (·.2)=assign e X.env::(assignEach es X.env).map (·.2):=by rfl):S8 X (e::es) (TU t u):=by
 intro AO s σ H vs us Q I r h;obtain⟨v,b,e1,h⟩:=h;subst e1;cases r with
 |cons r a=>
  rw[hs];refine assignInOrder_cons (gK (h1 AO s σ H _ _ _ I r h) λ_ s1 ⟨σ1,H1,I1,q1⟩=>?_);exact h2 AO s1 σ1 H1 _ _ Q I1 a q1
def f6(K:B5)(n:Nat)(t:Do):TG:=λv σ H Q=>∃a xs,v=.ref a/\xO K H a xs/\xs.length=n/\t xs σ H Q
theorem We{k:Nat}{t:Do}(j:X.calm=true)(h:S8 X es t)(i:(assignEach es X.env).length=n:=by rfl)(l:(assignEach es X.env).findIdx? (·.1)=U:=by rfl):PG X (.Tuple es k pos) (f6 X.K n t):=by
 intro AO s σ H v u Q I r c;obtain⟨a,xs,e1,g,p,c⟩:=c;subst e1;cases r;obtain⟨AS,d,f,q⟩:=I.tuple g;refine assign_Tuple_tuple (I.ok.hd j) f (by simp[i,<-p,d.length]) l λh' hx=>?_;have m:AV X AO σ H { s with heap:=h' }:=I.kept (t':=s.toks) λb o e=>hx b o (zS (zz e)) e;exact h AO _ σ H xs _ Q m (by simpa using d) c
def Vh(te:TE)(g:TG):TS:=λD σ H=>te σ H λx H1=>g x σ H1 D.nx
theorem OU{te:TE}{g:TG}(he:PE X e te)(a:PG X tg g)(hs:swapsWithSole [tg] e pos.line X.env=pure false:=by rfl)(b:swappedStores [tg] e X.env=pure U:=by rfl)(h1:(assignEach [tg] X.env).map (·.2)=[assign tg X.env]:=by rfl):PS X (.Assign [tg] e pos) (Vh te g):=by
 intro AO s σ H D I h;refine wpAny_Assign_stores (gK (he AO s σ H _ I h) λv s1 ⟨x,H1,I1,r1,q1⟩=>?_) hs b;rw[h1];exact gK (a AO s1 σ H1 x v _ I1 r1 q1) λ_ c q=>q
theorem qQ{te:TE}{pos':Pos}(c:X.N.Nodup)(hi:X.N[i]?=Z x)(hx:D2 X.env.scope x)(he:PE X e te)(hs:swapsWith e (Z (.Name x pos')) pos.line X.env=pure false:=by rfl)(a:X.fn x=true\/X.env.scope.names.lookup x=Z .local:=by first|exact .inl rfl|exact .inr rfl|assumption):
  PS X (.Assign [.Name x pos'] e pos) (Vh te (pZ i)):=by
 intro AO s σ H D I h;refine wpAny_Assign_Name (gK (he AO s σ H _ I h) λv s1 ⟨y,H1,I1,r1,q1⟩=>?_) hs;exact pY I1 c hi hx r1 (λd b=>⟨_,H1,b,q1⟩) a
def XA(i j:Nat)(ta:TA):TS:=λD σ H=>ta σ H λvs H1=>∃v w,vs=[v,w]/\D.nx ((σ.set i (Z v)).set j (Z w)) H1
theorem gp{a b:Expr}{ta:TA}{px py pt:Pos}{kt k2 pt2}(K:X.calm=true)(f:X.N.Nodup)(hi:X.N[i]?=Z x)(G:X.N[j]?=Z y)(t:i≠j)(hx:X.env.scope.names.lookup x=Z .local)(l:X.env.scope.names.lookup y=Z .local)(m:PA X [a,b] ta)(C:swappedStores [.Tuple [.Name x px,.Name y py] kt pt] (.Tuple [a,b] k2 pt2) X.env=pure (Z [x,y]))(hs:swapsWithSole [.Tuple [.Name x px,.Name y py] kt pt] (.Tuple [a,b] k2 pt2) pos.line X.env=pure false:=by rfl):
  PS X (.Assign [.Tuple [.Name x px,.Name y py] kt pt] (.Tuple [a,b] k2 pt2) pos) (XA i j ta):=by
 intro AO s σ H D I h;rw[exec_Assign_arm];refine zb (jI ?_);rw[hs];refine zb (zd ?_);rw[zw ()];refine zb (Tuple_ (gK (m _ AO s σ H _ I h) λus s1 ⟨vs,H1,I1,r1,q1⟩=>?_));obtain⟨v,w,e1,q1⟩:=q1;subst e1;obtain⟨c,d,rfl,n,u⟩:∃c d,us=[c,d]/\At v c/\At w d:=by
  cases r1 with
  |cons p q=>
   cases q with
   |cons p' z=>
    cases z;exact⟨_,_,rfl,p,p'⟩
 refine qo ?_ (by show 2<=AB;decide);have B:AV X AO σ H1 { s1 with heap:=s1.heap.push { cls:=.type "tuple",data:=.seq [c,d].toArray } }:=I1.kept (t':=s1.toks) λb o e=>ze _ e;rw[C];refine zb (zd ?_);show A8 (db X) X.A (do rule "assign.swapped-stores"; let items <-unpackItems (.ref s1.heap.objs.size) 2 U;assignInOrder [λv=>bindName X.env y v,λv=>bindName X.env x v] items.reverse;pure Flow.next) _ _ _;refine zb (ka (zb (unpackItems_tuple (items:=#[c,d]) (I.ok.hd K) (IsTup.new s1.heap _) λh' J=>?_)));have E:=B.kept (h':=h') (t':=s1.toks) λb o e=>J b o (zS (zz e)) e;show A8 _ _ (assignInOrder [λv=>bindName X.env y v,λv=>bindName X.env x v] [d,c] >>= λ_=>pure Flow.next) _ _ _;refine zb (assignInOrder_cons (wpAny_bindName (pY E f G (.inl l) u (λM F=>?_) (.inr l))));refine assignInOrder_cons (wpAny_bindName (pY F f hi (.inl hx) n (λL g=>assignInOrder_nil (zd ?_)) (.inr hx)));rw[List.set_comm _ _ (ja t)]at g;exact⟨_,H1,g,q1⟩
def a4(c:TT)(tb:TS):TS:=λD σ H=>∃W:Nat->St->Hp->Prop,(∃m,W m σ H)/\∀m σ H,W m σ H →
 c σ H λb H1=>if b=true then ∃N:St->Hp->Prop,(∀ σ' H',N σ' H'->∃a,a<m/\W a σ' H')/\tb { D with nx:=N,ct:=N,bk:=D.nx } σ H1 else D.nx σ H1
theorem Xd{tc:TT}{tb:TS}(hp:PassesOwn (db X) X.A X.env X.xe)(x:PT X c tc)(t:wM X body tb):PS X (.While c body [] pos) (a4 tc tb):=by
 intro AO s σ H D I h;obtain⟨W,⟨q,u⟩,turn⟩:=h;refine wpAny_While (codeAny_whileLoop (λn s'=>∃ σ' H',AV X AO σ' H' s'/\W n σ' H') ?_ q ⟨σ,H,I,u⟩);rintro n p ⟨e,H1,y,z⟩;refine kX hp (gK (x AO p e H1 _ y (turn n e H1 z)) λb s2 ⟨H2,I2,q2⟩=>?_);cases b with
 |true=>
  obtain⟨N,o,q2⟩:=q2;rw[zk rfl];refine kX hp (gK (t AO s2 e H2 _ I2 q2) λf B q3=>?_);cases f with
  |next=>
   obtain⟨a,d,m,l⟩:=q3;obtain⟨g,j,i⟩:=o a d l;exact⟨g,j,a,d,m,i⟩
  |cont=>
   obtain⟨a,d,m,l⟩:=q3;obtain⟨g,j,i⟩:=o a d l;exact⟨g,j,a,d,m,i⟩
  |brk=>exact q3
  |ret v=>exact q3
 |false=>
  rw[zw z5];exact k6 ⟨e,H2,I2,q2⟩
end
structure It where
 go:Nat->Hp->Prop
 yld:Nat->Hp->V->Hp->Prop
 stop:Nat->Hp->Prop
def nD(X:Cx)(AO:O (A2×AF))(H:Hp)(b:A2):Prop:=
 H b=U/\b≠X.env.locals/\b∉X.fs/\(b∈X.ex\/X.s₀.heap.objs.size<=b)/\(∀x c,X.env.cells.lookup x=Z c->c≠b)/\∀p∈X.pn++AO,p.1≠b
theorem AV.Qd{X:Cx}{σ:St}{H H':Hp}{b:A2}(I:AV X AO σ H s)(a:s.heap.objs.size<=b)(d:H' b=U):nD X AO H' b:=by
 refine⟨d,JO (ZO I.lt a),I.aj0 a,.inr (Zl I.sz a),λx c e z=>?_,λp hp z=>?_⟩
 ·obtain⟨v,q⟩:=I.cell x c e;exact absurd (ZO q.lt (by rw[z];exact a)) (jS _)
 ·exact absurd (ZO (zz (I.pin p hp).1) (by rw[z];exact a)) (jS _)
structure CC (P:Program) (w:World) (K:B5) (tg:Expr) (J:It) (fp:List Addr) (it:Addr) (tn:Nat->Heap->Prop):Prop where
 mem:it∈fp
 obj:∀i h,tn i h->∀b∈fp,∃o,h.get? b=some o/\∀v,o.data≠.cell v
 keep:∀i h h',tn i h->(∀b∈fp,∀o,h.get? b=some o->h'.get? b=some o)->tn i h'
 item:∀(X:Cx),X.prog=P->X.w=w->X.K=K->X.calm=true->∀(i:Nat) (AO:List (Addr×Obj)) (s:Shared) (σ:St) (H:Hp) (E:B8),AV X AO σ H s->(∀b∈fp,nD X AO H b)->tn i s.heap->J.go i H →
  wpAny (model P w) X.A (pyNext (.ref it)) (λr s1=>∃u,r=some u ∧
   wpAny (model P w) X.A (letOwnedTupleGo tg (.ref it) u) (λ_ s2=>∃x H',AV X AO σ H' s2/\At x u/\J.yld i H x H'/\tn (i+1) s2.heap/\∀b∈fp,H' b=none) E s1) E s
 done:∀(X:Cx),X.prog=P->X.w=w->X.K=K->X.calm=true->∀(i:Nat) (AO:List (Addr×Obj)) (s:Shared) (σ:St) (H:Hp) (E:B8),AV X AO σ H s->(∀b∈fp,nD X AO H b)->tn i s.heap->J.stop i H →
  wpAny (model P w) X.A (pyNext (.ref it)) (λr s1=>r=none/\AV X AO σ H s1) E s
 self:∀(A:Around) (i:Nat) (s:Shared) (Q:B8) (E:B8),tn i s.heap->Q (.ref it) s->wpAny (model P w) A (pyIter (.ref it)) Q E s
abbrev TI:=St->Hp->(It->Hp->Prop)->Prop
def LS(X:Cx)(AO:O (A2×AF))(σ:St)(tg:Expr)(R:It->Hp->Prop)(c:A1)(a:A3):Prop:=
 ∃(it:A2) (fp:O A2) (tn:Nat->A7->Prop) (J:It) (H':Hp),c=.ref it/\AV X AO σ H' a/\CC X.prog X.w X.K tg J fp it tn/\tn 0 a.heap/\(∀b∈fp,nD X AO H' b)/\R J H'
def PI(X:Cx)(tg iter:Expr)(a:TI):Prop:=
 ∀(AO:O (A2×AF)) (s:A3) (σ:St) (H:Hp) (R:It->Hp->Prop),AV X AO σ H s->a σ H R →
  A8 (db X) X.A (eval iter X.env) (λv b=>A8 (db X) X.A (pyIter v) (LS X AO σ tg R) X.xe b) X.xe s
theorem Hq{n:String}{vs:Array A1}(b:s.heap.get? it=Z o)(d:o.cls=.type n)(e:o.data=.fields vs)(c:["enumerate","zip","dict_itemiterator","dict_reverseitemiterator","odict_iterator","itertools.zip_longest","itertools.pairwise"].contains n=false)(a:Q gl s):A8 M A (letOwnedTupleGo tg (.ref it) u) Q E s:=by
 unfold letOwnedTupleGo;cases tg<;>first
  |exact zd a
  |(cases u<;>first
    |exact zd a
    |(refine zb (y8 b ?_)
      rw[d,e];show A8 M A (if(["enumerate","zip","dict_itemiterator","dict_reverseitemiterator","odict_iterator","itertools.zip_longest","itertools.pairwise"].contains n&&vs[0]?==Z (rawInt _))=true then _ else _) Q E s;rw[zw (by intro h;rw[c,mz]at h;cases h)];exact zd a))
def F6(K:B5)(a:A2):It:=
 ⟨λi H=>∃xs x,sY K H a xs/\xs[i]?=Z x,λi H x H'=>H'=H/\∀xs,sY K H a xs->xs[i]?=Z x,λi H=>∃xs,sY K H a xs/\xs.length<=i⟩
def IM(K:B5)(a:A2):It:=
 ⟨λi H=>∃xs x,xO K H a xs/\xs[i]?=Z x,λi H x H'=>H'=H/\∀xs,xO K H a xs->xs[i]?=Z x,λi H=>∃xs,xO K H a xs/\xs.length<=i⟩
def G'(lo:Int)(n:Nat):It:=⟨λi _=>i<n,λi H x H'=>H'=H/\x=.int (lo+i),λi _=>n<=i⟩
theorem Hr(a it:A2):CC P w K tg (F6 K a) [it] it (λi h=>h.IsListIter it a i) where
 mem:=by simp
 obj:=λi h st b f=>by
  have e:b=it:=by simpa using f
  subst e;obtain⟨o,e,c,d⟩:=st;exact⟨o,e,λv z=>by rw[d]at z;cases z⟩
 keep:=λi h h' st k=>st.at λo e=>k it (by simp) o e
 item:=by
  intro X A t q C i AO s σ H E I j st m;subst A t q;obtain⟨xs,x,g,hx⟩:=m;obtain⟨AS,l,p,D⟩:=I.list g;obtain⟨u,G,J⟩:=l.get hx;obtain⟨f0,f1,f2,f3,y,n⟩:=j it (by simp);refine wpAny_pyNext_list_item st p.isList (x:=u) (by simpa using G) λh' B F=>?_;have L:AV X AO σ H { s with heap:=h' }:=I.turned (t':=s.toks) (λb o f e=>(F.2 b f).trans e) f0 f1 f3 y n;obtain⟨o,e,c,d⟩:=id B;exact⟨u,rfl,Hq (s:={ s with heap:=h' }) e c d () ⟨x,H,L,J,⟨rfl,λys M=>by rw[I.LQ M g];exact hx⟩,B,λb f=>(j b f).1⟩⟩
 done:=by
  intro X A t q C i AO s σ H E I j st m;subst A t q;obtain⟨xs,g,hx⟩:=m;obtain⟨AS,l,p,D⟩:=I.list g;obtain⟨f0,f1,f2,f3,y,n⟩:=j it (by simp);have N:=l.length;exact wpAny_pyNext_list_end (I.ok.hd C) st p.isList (by simp;omega) λh' eb=>⟨rfl,I.turned (t':=s.toks) (λb o f e=>eb b o f e) f0 f1 f3 y n⟩
 self:=λ_ _ _ _ _ st h=>wpAny_pyIter_listiter st h
theorem Qe(a it:A2):CC P w K tg (IM K a) [it] it (λi h=>h.IsTupleIter it a i) where
 mem:=by simp
 obj:=λi h st b f=>by
  have e:b=it:=by simpa using f
  subst e;obtain⟨o,e,c,d⟩:=st;exact⟨o,e,λv z=>by rw[d]at z;cases z⟩
 keep:=λi h h' st k=>st.at λo e=>k it (by simp) o e
 item:=by
  intro X A t q C i AO s σ H E I j st m;subst A t q;obtain⟨xs,x,g,hx⟩:=m;obtain⟨AS,l,p,D⟩:=I.tuple g;obtain⟨u,G,J⟩:=l.get hx;obtain⟨f0,f1,f2,f3,y,n⟩:=j it (by simp);refine wpAny_pyNext_tuple_item st (show s.heap.IsTuple a AS.toArray from p) (x:=u) (by simpa using G) λh' B F=>?_;have L:AV X AO σ H { s with heap:=h' }:=I.turned (t':=s.toks) (λb o f e=>(F.2 b f).trans e) f0 f1 f3 y n;obtain⟨o,e,c,d⟩:=id B;exact⟨u,rfl,Hq (s:={ s with heap:=h' }) e c d () ⟨x,H,L,J,⟨rfl,λys M=>by rw[I.Ho M g];exact hx⟩,B,λb f=>(j b f).1⟩⟩
 done:=by
  intro X A t q C i AO s σ H E I j st m;subst A t q;obtain⟨xs,g,hx⟩:=m;obtain⟨AS,l,p,D⟩:=I.tuple g;obtain⟨f0,f1,f2,f3,y,n⟩:=j it (by simp);have N:=l.length;exact wpAny_pyNext_tuple_end (I.ok.hd C) st (show s.heap.IsTuple a AS.toArray from p) (by simp;omega) λh' eb=>⟨rfl,I.turned (t':=s.toks) (λb o f e=>eb b o f e) f0 f1 f3 y n⟩
 self:=λ_ _ _ _ _ st h=>wpAny_pyIter_tupleiter st h
theorem Qf(it:A2)(lo:Int)(n:Nat):CC P w K tg (G' lo n) [it] it (λi h=>IsRangeIter h it (lo+(i:Nat)*1) ((n:Int)-(i:Nat)) 1) where
 mem:=by simp
 obj:=λi h st b a=>by
  have e:b=it:=by simpa using a
  subst e;exact⟨_,st,λv z=>by
   have u:Data.fields _=Data.cell v:=z;cases u⟩
 keep:=λi h h' st k=>k it (by simp) _ st
 item:=by
  intro X j p l g i AO s σ H E I c st m;subst j p l;obtain⟨f0,f1,f2,f3,f,d⟩:=c it (by simp);have W:=Walks.range (prog:=X.prog) (w:=X.w) (I.ok.hd g) it lo 1 n;refine W.item i s _ _ m st λv h' tk y q kk=>?_;obtain⟨t,rfl⟩:=y;have x:AV X AO σ H { s with heap:=h',toks:=tk }:=I.turned (λb o a e=>kk b o (by simpa using a) e) f0 f1 f3 f d;refine⟨_,rfl,Hq (s:={ s with heap:=h',toks:=tk }) (n :="range_iterator") q X9 X9 () ⟨.int (lo+i),H,x,⟨t,?_⟩,⟨rfl,rfl⟩,q,λb a=>(c b a).1⟩⟩;rw[Int.mul_one]
 done:=by
  intro X j p l g i AO s σ H E I c st m;subst j p l;obtain⟨f0,f1,f2,f3,f,d⟩:=c it (by simp);exact wpAny_pyNext_range_end (I.ok.hd g) st (by have:n<=i:=m;omega) λh' eb=>⟨rfl,I.turned (t':=s.toks) (λb o a e=>eb b o a e) f0 f1 f3 f d⟩
 self:=λ_ _ _ _ _ st h=>wpAny_pyIter_rangeiter st h
end L2
namespace L2
section
variable{X:Cx}
def Xe(K:B5)(tl:TE):TI:=λσ H R=>tl σ H λx H1=>∃a,x=.ref a/\(∃xs,sY K H1 a xs)/\R (F6 K a) H1
theorem T0{l:Expr}{tl:TE}(f:PE X l tl):PI X tg l (Xe X.K tl):=by
 intro AO s σ H R I h;refine gK (f AO s σ H _ I h) λv s1 ⟨x,H1,I1,r1,q1⟩=>?_;obtain⟨a,e,⟨xs,c⟩,q⟩:=q1;subst e;cases r1;obtain⟨AS,g,p,i⟩:=I1.list c;refine YN p.isList ?_;refine⟨s1.heap.objs.size,[s1.heap.objs.size],_,_,H1,rfl,I1.kept (t':=s1.toks) λb o e=>ze _ e,Hr a _,⟨_,zt _ rfl,rfl,rfl⟩,λb d=>?_,q⟩;have e:b=s1.heap.objs.size:=by simpa using d
 subst e;exact I1.Qd (zl _) (I1.hok.fresh (zl _))
theorem Xf{σ:St}{H:Hp}{R:It->Hp->Prop}{lo hi:Int}{t u v:Tok}(I:AV X AO σ H s)(h1 : -(2 ^ 62)<=lo)(h2:lo<2 ^ 62)(f : -(2 ^ 62)<=hi)(d:hi<2 ^ 62)(q:R (G' lo (hi-lo).toNat) H):A8 (db X) X.A (pyIter (.ref s.heap.objs.size)) (LS X AO σ tg R) E { s with heap:=s.heap.push { cls:=.type "range",data:=.fields #[.int lo t,.int hi u,.int 1 v] },toks:=tk }:=by
 refine wpAny_pyIter_range (IsRange.new ..) (small_one h1 h2 f d) ?_;have a:AV X AO σ H { s with heap:=s.heap.push { cls:=.type "range",data:=.fields #[.int lo t,.int hi u,.int 1 v] },toks:=tk }:=I.kept λb o e=>ze _ e;refine⟨(s.heap.push { cls:=.type "range",data:=.fields #[.int lo t,.int hi u,.int 1 v] }).objs.size,[(s.heap.push { cls:=.type "range",data:=.fields #[.int lo t,.int hi u,.int 1 v] }).objs.size],_,_,H,rfl,
  a.kept (t':=tk) λb o e=>ze _ e,Qf _ lo (hi-lo).toNat,?_,λb c=>?_,q⟩
 ·have e1:lo+((0:Nat):Int)*1=lo:=by simp
  have e2:(((hi-lo).toNat:Nat):Int)-((0:Nat):Int)=Builtin.Range.rangeSize lo hi 1:=by rw[rangeSize_one];split<;>omega
  show IsRangeIter _ _ (lo+((0:Nat):Int)*1) ((((hi-lo).toNat:Nat):Int)-((0:Nat):Int)) 1;rw[e1,e2];exact zt _ rfl
 ·have e:b=(s.heap.push { cls:=.type "range",data:=.fields #[.int lo t,.int hi u,.int 1 v] }).objs.size:=by simpa using c
  subst e;exact a.Qd (zl _) (a.hok.fresh (zl _))
def US(ta:TA):TI:=λσ H R=>ta σ H λvs H1=>∃j:Int,vs=[.int j] ∧ -(2 ^ 62)<=j/\j<2 ^ 62/\R (G' 0 j.toNat) H1
theorem Vi{a:Expr}{ta:TA}{p:Pos}(c:Gl X "range")(f:X.mg "range"=U)(d:PA X [a] ta)(hs:AA [a] X.env=[(false,eval a X.env)]:=by rfl):PI X tg (.Call (.Name "range" p) [a] [] pos) (US ta):=by
 intro AO s σ H R I h;refine Call_ (Jw I c f boot_range (PyProof.Rows.callWith_type1 (gK (d pos AO s σ H _ I h) λus s1 ⟨vs,H1,I1,r1,q1⟩=>?_) hs X9));obtain⟨j,e,q1,q2,q⟩:=q1;subst e;cases r1 with
 |cons r b=>
  cases b;obtain⟨t,rfl⟩:=r;exact call_range_1 (Xf I1 () () q1 q2 (by simpa using q))
def IH(b:TI)(g:TG)(tb:TS):TS:=λD σ H=>b σ H λJ H1=>∃W:Nat->Nat->St->Hp->Prop,(∃m,W 0 m σ H1)/\∀i m σ H,W i m σ H →
 (J.stop i H/\D.nx σ H)\/(J.go i H/\∃N:St->Hp->Prop,(∀ σ' H',N σ' H'->∃a,a<m/\W (i+1) a σ' H')/\∀x H',J.yld i H x H'->g x σ H' λc H2=>tb { D with nx:=N,ct:=N,bk:=D.nx } c H2)
def tL(fp:O A2)(h:A7):O (A2×AF):=fp.filterMap λb=>(h.get? b).map λo=>(b,o)
theorem jX{b:A2}(a:b∈fp)(e:h.get? b=Z o):(b,o)∈tL fp h:=eG.mpr ⟨b,a,by rw[e];rfl⟩
theorem Vj{p:A2×AF}(hp:p∈tL fp h):p.1∈fp/\h.get? p.1=Z p.2:=by
 obtain⟨b,a,e⟩:=eG.mp hp;cases q:h.get? b with
 |none=>rw[q]at e;cases e
 |some o=>
  rw[q]at e;have e':(b,o)=p:=ku e;subst e';exact⟨a,q⟩
theorem AV.pinned{σ:St}{H:Hp}(I:AV X AO σ H s)(f:∀b∈fp,nD X AO H b)(c:∀b∈fp,∃o,s.heap.get? b=Z o/\∀v,o.data≠.cell v):AV X (AO++tL fp s.heap) σ H s:=
 I.xK λp hp=>(List.mem_append.mp hp).elim (λz=>I.pin p (Zs _ z)) λz=>by
  obtain⟨a,e⟩:=Vj z;obtain⟨f0,f1,f2,_⟩:=f p.1 a;obtain⟨o,e',d⟩:=c p.1 a;rw[e]at e';cases e';exact⟨e,f0,f1,f2,d⟩
theorem AV.nF{pl:O (A2×AF)}{σ:St}{H:Hp}(I:AV X (AO++pl) σ H s):AV X AO σ H s:=I.xK λp hp=>I.pin p (Zs _ (Q2 _ hp))
theorem Jy{C:TI}{g:TG}{tb:TS}(hp:PassesOwn (db X) X.A X.env X.xe)(L:X.calm=true)(hi:PI X tg iter C)(Q:PG X tg g)(a:wM X body tb)(hs:∀x,foldedSetIterable iter X.env x=pure x:=by intro _;rfl):PS X (.For tg iter body [] pos) (IH C g tb):=by
 intro AO s σ H D I h;refine wpAny_For (gK (hi AO s σ H _ I h) λv s1 h1=>gK h1 λb4 s2 h2=>?_) hs;obtain⟨it,fp,tn,J,H2,e,Y,T,b0,f2,W,⟨m0,w0⟩,turn⟩:=h2;subst e;have z:∀{H':Hp},(∀b∈fp,H' b=U)->∀b∈fp,nD X AO H' b:=λhn b a=>⟨hn b a,(f2 b a).2⟩;refine codeAny_forLoop_any (λn s'=>∃i σ' H',AV X AO σ' H' s'/\tn i s'.heap/\(∀b∈fp,H' b=U)/\W i n σ' H') ?_ m0 ⟨0,σ,H2,Y,b0,λb a=>(f2 b a).1,w0⟩;rintro n F ⟨i,q,y,K,E,G,w3⟩;rcases turn i n q y w3 with⟨a5,qn⟩|⟨go,N,P,step⟩
 ·refine kX hp (gK (T.done X X9 X9 X9 L i AO F q y X.xe K (z G) E a5) λr s4 ⟨hr,I4⟩=>?_);subst hr;exact k6 ⟨q,y,I4,qn⟩
 ·refine kX hp (gK (T.item X X9 X9 X9 L i AO F q y X.xe K (z G) E go) λr s4 ⟨u,hr,h4⟩=>?_);subst hr;refine kX hp (gK h4 λ_ s5 ⟨x,H5,I5,r5,y5,st5,fr5⟩=>?_);have a3:=I5.pinned (z fr5) (T.obj _ _ st5);refine kX hp (gK (Q _ s5 q H5 x u _ a3 r5 (step x H5 y5)) λ_ s6 ⟨σ6,H6,I6,q6⟩=>?_);refine kX hp (gK (a _ s6 σ6 H6 _ I6 q6) λf B p=>?_);have again:∀{j:St} {c:Hp},AV X (AO++tL fp s5.heap) j c B->N j c->∃m,m<n/\∃i σ' H',AV X AO σ' H' B/\tn i B.heap/\(∀b∈fp,H' b=U)/\W i m σ' H':=λ{j c} l t=>by
   obtain⟨m',hm,w7⟩:=P j c t;refine⟨m',hm,i+1,j,c,l.nF,T.keep _ _ _ st5 λb a o e=>(l.pin (b,o) (Zs _ (Zs _ (jX a e)))).1,λb a=>?_,w7⟩;obtain⟨o,e,d⟩:=T.obj _ _ st5 b a;exact(l.pin (b,o) (Zs _ (Zs _ (jX a e)))).2.1
  cases f with
  |next=>obtain⟨j,c,l,t⟩:=p;exact again l t
  |cont=>obtain⟨j,c,l,t⟩:=p;exact again l t
  |brk=>obtain⟨j,c,l,p⟩:=p;exact⟨j,c,l.nF,p⟩
  |ret v=>obtain⟨M,j,c,l,r7,p⟩:=p;exact⟨M,j,c,l.nF,r7,p⟩
end
end L2
namespace L2
abbrev R2:=V->V->Hp->VK->Prop
def yU(X:Cx)(f:A1->A1->Sem A1)(r:R2):Prop:=
 ∀(AO:O (A2×AF)) (s:A3) (σ:St) (H:Hp) (x y:V) (v u:A1) (Q:VK),AV X AO σ H s->At x v->At y u->r x y H Q →
  A8 (db X) X.A (f v u) (EP X AO σ Q) X.xe s
def gq(X:Cx)(f:A1)(r:O V->Hp->VK->Prop):Prop:=
 ∀(AO:O (A2×AF)) (s:A3) (σ:St) (H:Hp) (xs:O V) (us:O A1) (Q:VK),AV X AO σ H s->AY xs us->r xs H Q →
  A8 (db X) X.A (call f us) (EP X AO σ Q) X.xe s
def jp(X:Cx)(r:V->Hp->(Bool->Hp->Prop)->Prop):Prop:=
 ∀(AO:O (A2×AF)) (s:A3) (σ:St) (H:Hp) (x:V) (v:A1) (Q:Bool->Hp->Prop),AV X AO σ H s->At x v->r x H Q →
  A8 (db X) X.A (truthy v) (TP X AO σ Q) X.xe s
def DZ(r:R2)(ta tb:TE):TE:=λσ H Q=>ta σ H λx H1=>tb σ H1 λy H2=>r x y H2 Q
def rI(C:Int->Int->Prop)(g:Int->Int->V):R2:=λx y H Q=>∃i j,x=.int i/\y=.int j/\C i j/\Q (g i j) H
def EF(g:Int->Int->V):R2:=λx y H Q=>∃i j,x=.int i/\y=.int j/\Q (g i j) H
section
variable{X:Cx}{a b:Expr}{ta tb tc:TE}
theorem HG(g:PE X a ta)(e:PE X b tb){σ:St}{H:Hp}{R:V->V->Hp->Prop}(I:AV X AO σ H s)(h:ta σ H λx H1=>tb σ H1 λy H2=>R x y H2){Q:B8}{f:A1->A1->Sem A1}(i:∀v u c x y H2,AV X AO σ H2 c->At x v->At y u->R x y H2->A8 (db X) X.A (f v u) Q X.xe c):
  A8 (db X) X.A (eval a X.env) (λv j=>A8 (db X) X.A (eval b X.env) (λu d=>A8 (db X) X.A (f v u) Q X.xe d) X.xe j) X.xe s:=by
 refine gK (g AO s σ H _ I h) λv s1 ⟨x,H1,I1,r1,q1⟩=>?_;refine gK (e AO s1 σ H1 _ I1 q1) λu c ⟨y,H2,I2,r2,q2⟩=>?_;exact i v u c x y H2 I2 r1 r2 q2
theorem MY{op:Operator}{r:R2}(c:yU X (binaryOp op) r)(e:PE X a ta)(d:PE X b tb):PE X (.BinOp a op b pos) (DZ r ta tb):=by
 intro AO s σ H Q I h;exact wpAny_BinOp (HG e d I h λv u f x y H2 j g i q=>c AO f σ H2 x y v u Q j g i q)
theorem FO{f:A1->A1->Sem A1}{C:Int->Int->Prop}{g:Int->Int->Int}
  (b:∀(i j:Int) (t u:Tok) (s:A3) (Q:B8) (E:B8),C i j->Q (.int (g i j) s.toks) { s with toks:=s.toks+1 }->A8 (db X) X.A (f (.int i t) (.int j u)) Q E s):
  yU X f (rI C λi j=>.int (g i j)):=by
 intro AO s σ H x y v u Q I d e h;obtain⟨i,j,rfl,rfl,c,q⟩:=h;obtain⟨t,rfl⟩:=d;obtain⟨a,rfl⟩:=e;exact b i j t a s _ _ c ⟨.int (g i j),H,I.tok _,⟨_,rfl⟩,q⟩
theorem NL{f:A1->A1->Sem A1}{g:Int->Int->Int}
  (d:∀(i j:Int) (t u:Tok) (s:A3) (Q:B8) (E:B8),Q (.int (g i j) s.toks) { s with toks:=s.toks+1 }->A8 (db X) X.A (f (.int i t) (.int j u)) Q E s):
  yU X f (EF λi j=>.int (g i j)):=by
 intro AO s σ H x y v u Q I a b h;obtain⟨i,j,rfl,rfl,q⟩:=h;obtain⟨t,rfl⟩:=a;obtain⟨c,rfl⟩:=b;exact d i j t c s _ _ ⟨.int (g i j),H,I.tok _,⟨_,rfl⟩,q⟩
theorem IZ{f:A1->A1->Sem A1}{g:Int->Int->Bool}
  (d:∀(i j:Int) (t u:Tok) (s:A3) (Q:B8) (E:B8),Q (.bool (g i j)) s->A8 (db X) X.A (f (.int i t) (.int j u)) Q E s):
  yU X f (EF λi j=>.bl (g i j)):=by
 intro AO s σ H x y v u Q I a b h;obtain⟨i,j,rfl,rfl,q⟩:=h;obtain⟨t,rfl⟩:=a;obtain⟨c,rfl⟩:=b;exact d i j t c s _ _ ⟨.bl (g i j),H,I,rfl,q⟩
def UA(i j:Int):Prop:=0<j/\j<1073741824
def fF(i j:Int):Prop:=0<=j/\j<=1000000/\i.natAbs<2 ^ 64
def He(i j:Int):Prop:=(-(2 ^ 64)<i/\i<2 ^ 64)\/(-(2 ^ 64)<j/\j<2 ^ 64)
theorem He.ok{i j:Int}(h:He i j):IntMulOk i j:=by
 rcases h with⟨h1,h2⟩|⟨h1,h2⟩
 ·exact .of_left (intBits_le_64 h1 h2)
 ·exact .of_right (intBits_le_64 h1 h2)
theorem WS:yU X (binaryOp .Add) (EF λi j=>.int (i+j)):=NL λ_ _ _ _ _ _ _ q=>add_int q
theorem bX:yU X (binaryOp .Sub) (EF λi j=>.int (i-j)):=NL λ_ _ _ _ _ _ _ q=>sub_int q
theorem dC:yU X (binaryOp .Mult) (rI He λi j=>.int (i*j)):=FO λ_ _ _ _ _ _ _ a q=>mul_int q a.ok
theorem XG:yU X (binaryOp .FloorDiv) (rI UA λi j=>.int (i / j)):=FO λi j _ _ _ _ _ a q=>by
 have h1:(0:Int)<j:=a.1;have h2:j<1073741824:=a.2;exact floordiv_int () (by rw[Int.fdiv_eq_ediv_of_nonneg i ()];exact q) (.inl (PyProof.noPylong_small ()))
theorem XI:yU X (binaryOp .Mod) (rI (λ_ j=>0<j) λi j=>.int (i%j)):=FO λi j _ _ _ _ _ a q=>by
 have h1:(0:Int)<j:=a;exact mod_int' () (by rw[Int.fmod_eq_emod_of_nonneg i ()];exact q)
theorem UN:yU X (binaryOp .Pow) (rI fF λi j=>.int (i ^ j.toNat)):=FO λ_ _ _ _ _ _ _ a q=>pow_int_small a.1 a.2.1 a.2.2 q
theorem SV{σ:St}{H:Hp}{Q:VK}{k a:Bool}(I:AV X AO σ H s)(q:Q (.bl k) H)(e:k=a):EP X AO σ Q (.bool a) s:=by
 subst e;exact⟨.bl k,H,I,rfl,q⟩
theorem To:yU X (AH .Lt) (EF λi j=>.bl (decide (i<j))):=IZ λ_ _ _ _ _ _ _ q=>lt_int q
theorem fA:yU X (AH .Gt) (EF λi j=>.bl (decide (j<i))):=IZ λ_ _ _ _ _ _ _ q=>gt_int q
theorem RA:yU X (AH .GtE) (EF λi j=>.bl (decide (j<=i))):=IZ λ_ _ _ _ _ _ _ q=>ge_int q
theorem Vk:yU X (AH .In) (λx y H Q=>∃i j,x=.str i/\y=.str j/\Q (.bl (!(Builtin.Str.occurrences j i 0 j.length 1).isEmpty)) H):=by
 intro AO s σ H x y v u Q I a b h;obtain⟨i,j,rfl,rfl,q⟩:=h;obtain⟨t,rfl⟩:=a;obtain⟨c,rfl⟩:=b;exact in_str (SV I q X9)
theorem bW(b:Expr)(h:op≠.In:=by decide)(h2:op≠.NotIn:=by decide):behindInMarks op b=false:=by
 have e1:(op==CmpOp.In)=false:=by cases op<;>first|rfl|exact absurd X9 h
 have e2:(op==CmpOp.NotIn)=false:=by cases op<;>first|rfl|exact absurd X9 h2
 cases b<;>simp[behindInMarks,e1,e2]
theorem Bl{r:R2}(c:yU X (AH op) r)(e:PE X a ta)(d:PE X b tb)(f:behindInMarks op b=false):PE X (.Compare a [op] [b] pos) (DZ r ta tb):=by
 intro AO s σ H Q I h;exact wpAny_Compare1 (HG e d I h λv u g x y H2 l i j q=>c AO g σ H2 x y v u Q l i j q) f
def OM(t:TE):TT:=λσ H Q=>t σ H λx H'=>∃k,x=.bl k/\Q k H'
theorem Jz{r:R2}(i:yU X (AH op) r)(f:PE X a ta)(d:PE X b tb)(g:behindInMarks op b=false):PT X (.Compare a [op] [b] pos) (OM (DZ r ta tb)):=by
 intro AO s σ H Q I h;refine wpAny_isTrue_Compare1 (gK (f AO s σ H _ I h) λv s1 ⟨x,H1,I1,r1,q1⟩=>gK (d AO s1 σ H1 _ I1 q1) λu s2 ⟨y,H2,I2,r2,q2⟩=>
  gK (i AO s2 σ H2 x y v u _ I2 r1 r2 q2) λc s3 ⟨z,H3,I3,r3,k,e,q3⟩=>?_) g
 subst e;cases r3;exact kA ⟨H3,I3,q3⟩
def HE(K:B5)(x:V)(H:Hp)(k:Bool):Prop:=
 match x with
 |.non=>k=false
 |.bl b=>k=b
 |.int i=>k=(i != 0)
 |.str y=>y.length<=AB/\k=((y.length:Int) != 0)
 |.byt y=>y.size<=AB/\k=((y.size:Int) != 0)
 |.ref p=>(∃xs,sY K H p xs/\k=!xs.isEmpty)\/(∃xs,xO K H p xs/\k=!xs.isEmpty)\/∃AQ,H p=Z (.dK AQ)/\k=!AQ.isEmpty
 |_=>False
theorem Qg{AQ:O (κ×V)}{vs:O (κ×A1)}(r:KV AQ vs):(!vs.isEmpty)=!AQ.isEmpty:=by
 cases r<;>rfl
theorem Cq{xs:O V}(r:AY xs AS):(!AS.toArray.isEmpty)=!xs.isEmpty:=by
 cases r<;>simp
theorem yX:(AB:Nat)<2 ^ 63:=by rw[sizeLine_eq];decide
theorem OC:jp X (λx H Q=>∃k,HE X.K x H k/\Q k H):=by
 intro AO s σ H x v Q I a h;obtain⟨k,e,q⟩:=h;have j:=yX;have hs:AB=16777216:=sizeLine_eq;cases x with
 |non=>
  cases a;have e':k=false:=e;subst e';exact truthy_none ⟨H,I,q⟩
 |bl b=>
  cases a;have e':k=b:=e;subst e';exact kA ⟨H,I,q⟩
 |int i=>
  obtain⟨t,rfl⟩:=a;have e':k=(i != 0):=e;subst e';exact PySem.P.truthy_int ⟨H,I,q⟩
 |str y=>
  obtain⟨t,rfl⟩:=a;obtain⟨g,e'⟩:y.length<=AB/\k=((y.length:Int) != 0):=e;subst e';exact PySem.P.truthy_str () ⟨H,I.tok _,q⟩
 |byt y=>
  obtain⟨t,rfl⟩:=a;obtain⟨g,e'⟩:y.size<=AB/\k=((y.size:Int) != 0):=e;subst e';exact PySem.W.truthy_bytes () ⟨H,I.tok _,q⟩
 |ref p=>
  cases a;have e':(∃xs,sY X.K H p xs/\k=!xs.isEmpty)\/(∃xs,xO X.K H p xs/\k=!xs.isEmpty)\/∃AQ,H p=Z (.dK AQ)/\k=!AQ.isEmpty:=e;rcases e' with⟨xs,hx,e'⟩|⟨xs,hx,e'⟩|⟨AQ,hx,e'⟩
  ·subst e';obtain⟨AS,r,pl,d⟩:=I.list hx;have c:=r.length;exact wpAny_truthy_list pl.isList (by simp only[zC];omega) ⟨H,I.tok _,by rw[Cq r];exact q⟩
  ·subst e';obtain⟨AS,r,pl,d⟩:=I.tuple hx;have c:=r.length;exact truthy_tuple pl (by simp only[zC];omega) ⟨H,I.tok _,by rw[Cq r];exact q⟩
  ·subst e';obtain⟨d,f,vs,r,m⟩:AQ.length<=AB/\(p==sysModules)=false/\∃vs,KV AQ vs/\s.heap.DictOf (cG X.prog X.w) p vs:=I.hok p _ hx;have c:AQ.length=vs.length:=Paired.length r;exact wpAny_truthy_dict f m () ⟨H,I.tok _,by rw[Qg r];exact q⟩
 |_=>exact(show False from e).elim
theorem Xg(c:PE X a ta)(he:∀b,isTrue a X.env b=(do let v <-b;standAt a.pos;holding [v] (truthy v))):
  PT X a (λσ H Q=>ta σ H λx H'=>∃k,HE X.K x H' k/\Q k H'):=by
 intro AO s σ H Q I h;exact isTrue_plain (gK (c AO s σ H _ I h) λv s1 ⟨x,H1,I1,r1,q1⟩=>OC AO s1 σ H1 x v Q I1 r1 q1) (he _)
theorem Qh:yU X (binaryOp .Add) (λx y H Q=>∃i j,x=.str i/\y=.str j/\i.length+j.length<=AB/\Q (.str (i++j)) H):=by
 intro AO s σ H x y v u Q I a b h;obtain⟨i,j,rfl,rfl,d,q⟩:=h;obtain⟨t,rfl⟩:=a;obtain⟨c,rfl⟩:=b;exact add_str (λc tk=>⟨.str (i++j),H,I.tok _,⟨_,rfl⟩,q⟩) d
theorem BG{x:V}(r:AY [x] us):∃u,us=[u]/\At x u:=by
 cases r with
 |cons a b=>cases b;exact⟨_,rfl,a⟩
theorem EX{x y:V}(r:AY [x,y] us):∃u a,us=[u,a]/\At x u/\At y a:=by
 cases r with
 |cons d e=>
  cases e with
  |cons b c=>cases c;exact⟨_,_,rfl,d,b⟩
theorem Xh:gq X (.builtin "abs") (λxs H Q=>∃i,xs=[.int i]/\Q (.int (if i<0 then -i else i)) H):=by
 intro AO s σ H xs us Q I r h;obtain⟨i,rfl,q⟩:=h;obtain⟨u,rfl,t,rfl⟩:=BG r;exact call_abs_int λu tk=>⟨.int (if i<0 then -i else i),H,I.tok _,⟨_,rfl⟩,q⟩
theorem Vl:gq X (.type "int") (λxs H Q=>(∃i,xs=[.int i]/\Q (.int i) H)\/∃k,xs=[.bl k]/\Q (.int (if k then 1 else 0)) H):=by
 intro AO s σ H xs us Q I r h;rcases h with⟨i,rfl,q⟩|⟨k,rfl,q⟩
 ·obtain⟨u,rfl,t,rfl⟩:=BG r;exact call_int_int ⟨.int i,H,I,⟨_,rfl⟩,q⟩
 ·obtain⟨u,rfl,a⟩:=BG r;cases a;exact call_int_bool ⟨.int (if k then 1 else 0),H,I.tok _,⟨_,rfl⟩,q⟩
end
end L2
namespace L2
section
variable{x dx f:A2}{mA:AK->S A1}{v:A1}
end
theorem Cm.some_of{v:V}{o:S A1}(r:Cm (Z v) o):∃u,o=Z u/\At v u:=by
 cases o with
 |none=>exact(show False from r).elim
 |some u=>exact⟨u,rfl,r⟩
section
variable{H H':Hp}{h':A7}{dx:A2}{fs fs':O (AK×V)}
end
structure D1 (K:B5) (C:Addr):Prop where
 pg:PySem.W.plainGet K C Str.empty=true
 hd:PySem.W.hasDictIn K C=true
 po:PySem.W.plainOver K C=true
 sa:findIn K (.ref C) "__setattr__"=some (some (.builtin "object.__setattr__"))
section
variable{X:Cx}{σ:St}{H:Hp}{dx:A2}{fs:O (AK×V)}{f:AK}{v:V}
theorem fE{Q:B8}(a:attributeBase e f env (eval e env)=eval e env)(h:A8 (A9 prog w) A (eval e env) (λo b=>A8 (A9 prog w) A (getAttr o f true) Q E b) E s):A8 (A9 prog w) A (eval (.Attribute e f pos) env) Q E s:=
 Attribute_any_ h (by rw[arm_eval_Attribute,a])
end
section
variable{X:Cx}{o value:Expr}{f:AK}{pos':Pos}{ta tv:TE}
end
section
variable{X:Cx}{σ:St}{H:Hp}{Q:B8}{c:A1}{b:Bool}
end
end L2
namespace L2
structure iu (k:Nat) (A:Around):Prop where
 hd:A.handled=none
 dp:A.depth+3*k+5<recursionLimit
 un:A.units+16*k+200<cLine
theorem iu.mono{k:Nat}(r:iu k A)(h:j<=k):iu j A:=⟨r.hd,by have:=r.dp;omega,by have:=r.un;omega⟩
theorem iu.deeper{k:Nat}(r:iu (k+1) A)(env:Env):iu k (A.deeper env):=
 ⟨r.hd,by have:=r.dp;show A.depth+1+3*k+5<_;omega,by have:=r.un;show A.units+3+16*k+200<_;omega⟩
theorem Qi{a:O (AK×A1)}:(A.under (.builtin "type.__call__" ⟨.ref C::us,a⟩)).depth=A.depth+1:=by
 first|rfl|simp[Around.under,Code.weight,Code.isCreation,Code.isGuard,Code.isCaller,Code.frames,Code.isFrame,guardIds]
theorem Qj{a:O (AK×A1)}:(A.under (.builtin "type.__call__" ⟨.ref C::us,a⟩)).units=A.units+1:=by
 first|rfl|simp[Around.under,Code.cUnits,Code.frames,Code.isFrame]
theorem iu.make{k:Nat}(r:iu (k+1) A)(C:A2)(us:O A1)(a:O (AK×A1)):iu k (A.under (.builtin "type.__call__" ⟨.ref C::us,a⟩)):=
 ⟨r.hd,by have:=r.dp;rw[Qi];omega,by have:=r.un;rw[Qj];omega⟩
theorem iu.depth{k:Nat}(r:iu k A):A.depth<recursionLimit:=by have:=r.dp;omega
def Gm:TA:=λ_ H Q=>Q [] H
def tM(ta:TE)(tr:TA):TA:=λσ H Q=>ta σ H λx H1=>tr σ H1 λxs H2=>Q (x::xs) H2
section
variable{X:Cx}{te:TE}{t:TA}
theorem eY:PA X [] Gm:=λ_ _ _ _ H Q I h=>Calls.spliced_nil ⟨[],H,I,.nil,h⟩
theorem bI(a:PE X e te)(b:PA X es t)(hs:AA (e::es) X.env=(false,eval e X.env)::AA es X.env:=by rfl):PA X (e::es) (tM te t):=by
 intro pos AO s σ H Q I h;rw[hs];show A8 _ _ (spliced ((false,eval e X.env)::AE pos (AA es X.env))) _ _ s;refine Calls.spliced_cons (gK (a AO s σ H _ I h) λu s1 ⟨x,H1,I1,r1,q1⟩=>?_);exact gK (b pos AO s1 σ H1 _ I1 q1) λus s2 ⟨xs,H2,I2,r2,q2⟩=>⟨x::xs,H2,I2,.cons r1 r2,q2⟩
def UK(t:TA):TE:=λσ H Q=>t σ H λxs H1=>xs.length<=AB/\∀p,H1 p=U->Q (.ref p) (B1 H1 p (.tup xs))
def HZ(t:TA):TE:=λσ H Q=>t σ H λxs H1=>xs.length<=AB/\∀p,H1 p=U->Q (.ref p) (B1 H1 p (.lst xs))
theorem iL{x1}(h:PA X es t):PE X (.Tuple es x1 pos) (UK t):=by
 intro AO s σ H Q I a;refine wpAny_Tuple_spliced (gK (h pos AO s σ H _ I a) λus s1 ⟨xs,H1,I1,r,z,q⟩=>⟨by rw[<-r.length];exact z,?_⟩);have c:H1 s1.heap.objs.size=U:=I1.hok.fresh (zl _);refine⟨.ref s1.heap.objs.size,B1 H1 s1.heap.objs.size (.tup xs),I1.laid (t':=s1.toks) (λb u e=>ze _ e) (zl _) ?_,rfl,q _ c⟩;exact⟨z,us,r,⟨_,zt _ rfl,rfl,⟨_,rfl⟩,rfl⟩⟩
theorem Qk(h:PA X es t):PE X (.List es pos) (HZ t):=by
 intro AO s σ H Q I a;refine wpAny_List_spliced (gK (h pos AO s σ H _ I a) λus s1 ⟨xs,H1,I1,r,z,q⟩=>⟨by rw[<-r.length];exact z,?_⟩);have c:H1 s1.heap.objs.size=U:=I1.hok.fresh (zl _);refine⟨.ref s1.heap.objs.size,B1 H1 s1.heap.objs.size (.lst xs),I1.laid (t':=s1.toks) (λb u e=>ze _ e) (zl _) ?_,rfl,q _ c⟩;exact⟨z,us,0,r,zt _ rfl⟩
end
abbrev Sp:=O V->Hp->VK->XK->Prop
abbrev Vm:=O Env->Hp->A3->XK->A1->A3->Prop
structure Ql (P:Program) (w:World) (K:B5) (mg:Str->Option Value) (base:Heap) (A:Around) (outer:List Env) (s:Shared) (H:Hp):Prop where
 frames:A.frames=some outer
 mod:Mod K mg base
 bs:∀b o,base.get? b=some o->s.heap.get? b=some o/\H b=none
 bsz:base.objs.size<=s.heap.objs.size
 wL:s.heap.FunFrames base outer
 frf:∀b∈Bz outer,H b=none
 hok:u0 P w H s.heap
 bare:AllBare s.gens
 tabs:Bi K H
def CE(outer:O Env)(P:A4)(w:A5)(H:Hp)(s:A3)(Q:VK)(u:A1)(s':A3):Prop:=
 ∃v H',s'.os=s.os/\AllBare s'.gens/\Un (Bz outer) [] H H' s.heap s'.heap/\u0 P w H' s'.heap/\At v u/\Q v H'
def CR(CX:Vm)(outer:O Env)(P:A4)(w:A5)(H:Hp)(s:A3)(Q:VK)(E:XK)(r:Result)(s':A3):Prop:=
 match r with
 |.ok (.ret u)=>CE outer P w H s Q u s'
 |.ok _=>False
 |.error e=>CX outer H s E e s'
structure gW (P:Program) (w:World) (K:B5) (mg:Str->Option Value) (base:Heap) (CX:Vm) (k:Nat) (f:Addr) (fd:FuncData) (ps:An) (sp:Sp):Prop where
 len:∀vs H Q E,sp vs H Q E->vs.length=ps.length
 run:∀(A:Around) (outer:List Env) (s:Shared) (H:Hp) (args:Args) (us:List Value) (vs:List V) (Q:VK) (E:XK),iu k A->Ql P w K mg base A outer s H->BindsTo s fd args (ps.zip us)->AY vs us->sp vs H Q E →
  codeAny (model P w) A (.call (.ref f) args) (CR CX outer P w H s Q E) s
theorem Ql.make{H:Hp}(e:Ql P w K mg base A outer s H)(C:A2)(us:O A1)(a:O (AK×A1)):
  Ql P w K mg base (A.under (.builtin "type.__call__" ⟨.ref C::us,a⟩)) outer s H:=⟨by first|exact e.frames|(simpa[Around.under,Code.envs,Code.isFrame,pushEnvs]using e.frames),e.mod,e.bs,e.bsz,e.wL,e.frf,e.hok,e.bare,e.tabs⟩
section
variable{X:Cx}{σ:St}{H:Hp}{s':A3}
theorem AV.env0(I:AV X AO σ H s):Ql X.prog X.w X.K X.mg X.base X.A X.stack s H:=
 ⟨I.ok.frames,I.ok.mod,I.bs,Zl I.ok.bsz I.sz,I.stack,I.Bh,I.hok,I.bare,I.ok.tabs.go I.base.sX⟩
theorem AV.after{Q:VK}(I:AV X AO σ H s)(h:CE X.stack X.prog X.w H s Q u s'):EP X AO σ Q u s':=by
 obtain⟨v,H',os,a,un,c,r,q⟩:=h;obtain⟨e,g,d,t,f⟩:=s';obtain rfl:f=s.os:=os;exact⟨v,H',I.call (h':=e) (g':=g) (d':=d) (t':=t) (ch:=[]) un c a (λb z=>absurd z (by simp)),r,q⟩
end
def Se(sp:Sp)(dvs:O V)(E:XK)(t:TA):TE:=λσ H Q=>t σ H λvs H1=>sp (vs++dvs) H1 Q E
def B9(K:B5)(fd:FuncData)(ps:An)(ds:O A1):Prop:=
 ∀(s:A3) (us:O A1),K.In s.heap->(us++ds).length=ps.length->BindsTo s fd ⟨us,[]⟩ (ps.zip (us++ds))
theorem B9.all(h:∀us:O A1,us.length=ps.length->bindArgs fd ⟨us,[]⟩=pure (ps.zip us)):B9 K fd ps []:=λs us _ a=>by
 rw[Qb]at a ⊢;exact .of_eq (h us a)
def C6(CX:Vm)(X:Cx)(E:XK):Prop:=∀(AO:O (A2×AF)) (σ:St) (H:Hp) (s:A3) (e:A1) (s':A3),AV X AO σ H s->CX X.stack H s E e s'->X.xe e s'
section
variable{X:Cx}{CX:Vm}{k:Nat}{f:A2}{sp:Sp}{dvs:O V}{ds:O A1}{E:XK}{m:AK}{p:Pos}{o:Expr}{ta:TE}{t:TA}
theorem Th{σ:St}{H:Hp}{Q:VK}{vs:O V}(F:gW X.prog X.w X.K X.mg X.base CX k f fd ps sp)(c:iu k X.A)(d:B9 X.K fd ps ds)(g:AY dvs ds)(hx:C6 CX X E)(I:AV X AO σ H s)(r:AY vs us)(h:sp (vs++dvs) H Q E):A8 (db X) X.A (call (.ref f) us) (EP X AO σ Q) X.xe s:=by
 have b:AY (vs++dvs) (us++ds):=r.append g;have i:(us++ds).length=ps.length:=by rw[<-b.length];exact F.len _ _ _ _ h
 refine ye (KW (F.run X.A X.stack s H ⟨us,[]⟩ (us++ds) (vs++dvs) Q E c I.env0 (d s us I.Gk i) b h) λr s' a=>?_);cases r with
 |error e=>exact hx AO σ H s e s' I a
 |ok fl=>
  cases fl with
  |ret u=>exact I.after a
  |next=>exact False.elim a
  |brk=>exact False.elim a
  |cont=>exact False.elim a
theorem Bm(F:gW X.prog X.w X.K X.mg X.base CX k f fd ps sp)(a:iu k X.A)(l:Gl X x)(i:X.mg x=Z (.ref f))(hk:keepIn X.K (.ref f)=true)(b:B9 X.K fd ps ds)(j:AY dvs ds)(hx:C6 CX X E)
  (c:PA X (e::es) t) (d:bv x:=by decide) (he:AA (e::es) X.env=(false,eval e X.env)::AA es X.env:=by rfl) (g:(AE pos (AA es X.env)).any (·.1)=false:=by rfl):
  PE X (.Call (.Name x p) (e::es) [] pos) (Se sp dvs E t):=by
 intro AO s σ H Q I h;refine KP (xM I l i ?_ d);refine callWith_K (h₀:=X.base) I.ok.mod.kin hk (gK (c pos AO s σ H _ I h) λus s1 ⟨vs,H1,I1,r,q⟩=>⟨I1.Gk,?_⟩) he g;exact Th F a b j hx I1 r q
end
section
variable{X:Cx}{CX:Vm}{k:Nat}{f:A2}{ks:An}{sp:Sp}{E:XK}{m:AK}{p kpos:Pos}{o:Expr}{kws:O AD}{te ta:TE}{t tk:TA}{nm:S AK}
variable{g:O A1->O A1->O A1}{gV:O V->O V->O V}
end
structure bA (N P:An) (sc:Scope):Prop where
 kind:sc.kind=.function
 co:sc.isCoroutine=false
 gen:sc.isGenerator=false
 nd:N.Nodup
 pre:N.take P.length=P
 par:∀x∈P,sc.names.lookup x=some .local\/sc.names.lookup x=some .cell
 aeO:∀y∈sc.names,y.2≠.free
theorem Ht{a:AK->S NameKind}{x:AK}:∀{binds:O (AK×A1)} {m:AK->S A1},(∀v,(x,v)∉binds)->bindL a binds m x=m x
 |[],_,_=>rfl
 |(n,v)::r,m,h=>by
  unfold bindL;rw[Ht λw b=>h w (zh _ b)];split
  ·have:x≠n:=by rintro rfl;exact h v zg
   simp[this]
  ·rfl
theorem Hu{a:AK->S NameKind}{x:AK}:∀{binds:O (AK×A1)} {m:AK->S A1},(∀v,(x,v)∉binds)->bindC a binds m x=m x
 |[],_,_=>rfl
 |(n,v)::r,m,h=>by
  unfold bindC;rw[Hu λw b=>h w (zh _ b)];split
  ·rfl
  ·have:x≠n:=by rintro rfl;exact h v zg
   simp[this]
theorem Hv{a:AK->S NameKind}{x:AK}{v:A1}:∀{P:An} {vs:O A1} {i:Nat} {m:AK->S A1},P.Nodup->P[i]?=Z x->vs[i]?=Z v->a x=Z .local →
  bindL a (P.zip vs) m x=Z v
 |[],_,_,_,_,h,_,_=>by simp at h
 |_::_,[],_,_,_,_,h,_=>by simp at h
 |p::P,w::vs,0,m,nd,h1,h2,hk=>by
  simp at h1 h2;subst h1;subst h2;show bindL a ((p,w)::P.zip vs) m p=_;unfold bindL;rw[Ht λv b=>(cT.mp nd).1 (hC b).1,zk hk];simp
 |p::P,w::vs,i+1,m,nd,h1,h2,hk=>by
  show bindL a ((p,w)::P.zip vs) m x=_;unfold bindL;exact Hv (i:=i) (cT.mp nd).2 (by simpa using h1) (by simpa using h2) hk
theorem Hw{a:AK->S NameKind}{x:AK}{v:A1}:∀{P:An} {vs:O A1} {i:Nat} {m:AK->S A1},P.Nodup->P[i]?=Z x->vs[i]?=Z v->a x≠Z .local →
  bindC a (P.zip vs) m x=Z v
 |[],_,_,_,_,h,_,_=>by simp at h
 |_::_,[],_,_,_,_,h,_=>by simp at h
 |p::P,w::vs,0,m,nd,h1,h2,hk=>by
  simp at h1 h2;subst h1;subst h2;show bindC a ((p,w)::P.zip vs) m p=_;unfold bindC;rw[Hu λv b=>(cT.mp nd).1 (hC b).1,zw hk];simp
 |p::P,w::vs,i+1,m,nd,h1,h2,hk=>by
  show bindC a ((p,w)::P.zip vs) m x=_;unfold bindC;exact Hw (i:=i) (cT.mp nd).2 (by simpa using h1) (by simpa using h2) hk
def start(N:An)(vs:O V):St:=vs.map Z++ba (N.length-vs.length) U
def tO(CX:Vm)(P:A4)(w:A5)(K:B5)(mg:AK->S A1)(base:A7)(N:An)(qual:AK)(scope:Scope)(f:A2)(a:A1)(A:A6)(outer:O Env)(s:A3)(H:Hp)(E:XK):Cx where
 prog:=P
 w:=w
 K:=K
 mg:=mg
 base:=base
 A:=A.deeper (AL qual scope s.heap.objs.size f a)
 N:=N
 s₀:=s
 H₀:=H
 env:=AL qual scope s.heap.objs.size f a
 outer:=outer
 stack:=AL qual scope s.heap.objs.size f a::outer
 ex:=[]
 calm:=true
 fn:=λ_=>true
 pn:=[]
 xe:=λe s'=>A8 (A9 P w) (A.deeper (AL qual scope s.heap.objs.size f a)) (leaving (AL qual scope s.heap.objs.size f a) e) (λ_ b=>CX outer H s E e b) (λe' b=>CX outer H s E e' b) s'
theorem Mf{a:Scope}(h:a.names.lookup x=Z .cell):∃c,(cellsFrom n a.names []).lookup x=Z c:=by
 have q:=cellsFrom_some a.names n [] (.inl h);exact mf.mp q
theorem Vn{CX:Vm}{f:A2}{g:A1}{l:A3}{H:Hp}{E:XK}{vs:O V}(S:bA N ps scope)(B:A.handled=U)(e0:Ql P w K mg base A outer s H)(D:vs.length=ps.length)(r:AY vs us)(x:InCallC s s.heap.objs.size (bindL (AL qual scope s.heap.objs.size f g).kindOf (ps.zip us) λ_=>U) (cellsFrom (s.heap.objs.size+1) scope.names []) (bindC (AL qual scope s.heap.objs.size f g).kindOf (ps.zip us) λ_=>U) l):
  AV (tO CX P w K mg base N qual scope f g A outer s H E) [] (start N vs) H l:=by
 have F:ps.length<=N.length:=by have:=congrArg jt S.pre;rw[KB]at this;omega
 obtain⟨h1,tk,rfl,hk⟩:=x.done;have j:∀b:A2,b∉(tO CX P w K mg base N qual scope f g A outer s H E).ex:=λb z=>absurd (show b∈([]:O A2) from z) (by simp);refine⟨⟨e0.mod,S.kind,rfl,rfl,zl _,λy z c h1 h2=>?_,λy d=>?_,λy c _ h=>?_,λ_=>B,Around.frames_deeper e0.frames,.inr ⟨rfl,rfl⟩,λb z=>absurd z (j b),e0.bs,e0.bsz,λb _ _=>j b,λb z=>absurd z (j b),e0.wL,e0.frf,e0.tabs⟩,
  rfl,e0.bare,Un.kept hk,⟨_,x.toInCall.ns,λi y v h1 h2 G=>?_⟩,λy c h=>⟨_,x.cell y c h⟩,e0.hok.fresh (zl _),λy c h=>?_,λp hp=>absurd (show p∈([]:O (A2×AF)) from hp) (by simp),e0.hok.kept hk,?_⟩
 ·exact name_of_addr x.apart (kL h1) (kL h2)
 ·have d:scope.names.lookup y=Z .cell\/scope.names.lookup y=Z .free:=d;rcases d with d|d
  ·exact Mf d
  ·exact absurd X9 (S.aeO _ (kL d))
 ·exact j0 (x.above y c (kL h))
 ·have hi:i<vs.length:=by
   unfold start at h2;by_cases hi:i<vs.length
   ·exact hi
   ·rw[Z3 (by simpa using hi)]at h2;rw[Q1]at h2;split at h2<;>cases h2
  have t:vs[i]?=Z v:=by
   unfold start at h2;rw[ZH (by simpa using hi),zI]at h2;cases e:vs[i]? with
   |none=>rw[e]at h2;cases h2
   |some a=>rw[e]at h2;cases h2;rfl
  obtain⟨u,m,C⟩:=r.get t;have hp:ps[i]?=Z y:=by
   rw[<-S.pre,List.getElem?_take_of_lt ()];exact h1
  have o:ps.Nodup:=by rw[<-S.pre];exact S.nd.sublist (List.take_sublist _ _)
  refine⟨u,C,?_⟩;rcases S.par y (ZI hp)with k|k
  ·exact .inl ⟨k,Hv o hp m k⟩
  ·obtain⟨c,e⟩:=Mf (n:=s.heap.objs.size+1) k;refine .inr ⟨.inl k,c,e,?_⟩;have q:=x.cell y c e;rw[Hw o hp m (by show scope.names.lookup y≠_;rw[k];decide)]at q;exact q
 ·exact e0.hok.fresh (j0 (x.above y c (kL h)))
 ·unfold start;show _=N.length;rw[Zp,zi,List.length_replicate];omega
theorem LV{CX:Vm}{k:Nat}{f:A2}{h kV i pm a ct B:A1}{p od:Option A2}{sp:Sp}(L:K.lookup f=Z ⟨B,od,.func (fnOf name qual params body scope h kV i pm p a ct),osl⟩)(G:codeIn K a qual=true)(S:bA N ps scope)(len:∀vs H Q E,sp vs H Q E->vs.length=ps.length)(M:∀(A:A6) (outer:O Env) (s:A3) (H:Hp) (vs:O V) (Q:VK) (E:XK),iu k (A.deeper (AL qual scope s.heap.objs.size f a))->sp vs H Q E →
   ∃t,wM (tO CX P w K mg base N qual scope f a A outer s H E) body t/\t { nx:=λ_ H'=>Q .non H',rt:=Q } (start N vs) H):
  gW P w K mg base CX (k+1) f (fnOf name qual params body scope h kV i pm p a ct) ps sp:=by
 refine⟨len,λA outer s H a5 us vs Q E d e0 D r m=>?_⟩;have X:=len _ _ _ _ m;have j:K.In s.heap:=e0.mod.kin.keeps λb o e=>(e0.bs b o e).1;have F:s.heap.NoLimit:=e0.mod.nolimit.keeps λb o e=>(e0.bs b o e).1;have a3:∀y∈ps.zip us,scope.names.lookup y.1=Z .local\/(scope.names.lookup y.1=Z .cell/\((cellsFrom (s.heap.objs.size+1) scope.names []).lookup y.1).isSome=true):=λ⟨n,v⟩ hy=>by
  rcases S.par n (hC hy).1 with q|q
  ·exact .inl q
  ·exact .inr ⟨q,cellsFrom_some _ _ _ (.inl q)⟩
 refine codeAny_call_function d.depth (j _ _ L) X9 S.co S.gen X9 (PySem.W.codeRec_of j G) (D _ _ _ _ ?_);refine wpAny_newFunctionEnv_cells S.kind a3 λenv z g x=>?_;subst z;refine⟨F.keeps x.toInCall.keep,codeAny_func ?_⟩;obtain⟨t,Y,C⟩:=M A outer s H vs Q E (d.deeper _) m;have I:AV (tO CX P w K mg base N qual scope f a A outer s H E) [] (start N vs) H g:=Vn S d.hd e0 X r x;refine ZA (Y [] g (start N vs) H _ I C) (λfl s' hs=>?_) λe s' hs=>hs;have l:∀{σ':St} {H':Hp} {v:V} {u:A1},AV (tO CX P w K mg base N qual scope f a A outer s H E) [] σ' H' s'->At v u->Q v H'->CE outer P w H s Q u s':=
  λ{σ' H' v u} J c q=>⟨v,H',J.os,J.bare,J.base,J.hok,c,q⟩
 cases fl with
 |ret u=>
  obtain⟨v,σ',H',J,c,q⟩:=hs;exact l J c q
 |next=>
  obtain⟨σ',H',J,q⟩:=hs;exact l (v:=V.non) (u:=Value.none) J X9 q
 |brk=>
  obtain⟨_,_,_,q⟩:=hs;exact False.elim q
 |cont=>
  obtain⟨_,_,_,q⟩:=hs;exact False.elim q
end L2
namespace L2
section
variable{X:Cx}{p:Pos}{t:TA}{id T:String}{r:O V->Hp->VK->Prop}
def HA(r:O V->Hp->VK->Prop)(t:TA):TE:=λσ H Q=>t σ H λvs H1=>r vs H1 Q
theorem jD(c:gq X (.builtin id) r)(j:Gl X x)(f:X.mg x=U)(i:AI x=Z (.builtin id))(b:PA X (e::es) t)(a:x ≠ "__name__":=by decide)(d:bv x:=by decide)
  (he:AA (e::es) X.env=(false,eval e X.env)::AA es X.env:=by rfl) (g:(AE pos (AA es X.env)).any (·.1)=false:=by rfl):PE X (.Call (.Name x p) (e::es) [] pos) (HA r t):=by
 intro AO s σ H Q I h;refine KP (Jw I j f i ?_ a d);exact PyProof.Rows.callWith_builtin1 (gK (b pos AO s σ H _ I h) λus s1 ⟨vs,H1,I1,r1,q1⟩=>c AO s1 σ H1 vs us Q I1 r1 q1) he g
theorem Hx(c:gq X (.type T) r)(j:Gl X x)(f:X.mg x=U)(i:AI x=Z (.type T))(b:PA X (e::es) t)(a:x ≠ "__name__":=by decide)(d:bv x:=by decide)
  (he:AA (e::es) X.env=(false,eval e X.env)::AA es X.env:=by rfl) (g:(AE pos (AA es X.env)).any (·.1)=false:=by rfl):PE X (.Call (.Name x p) (e::es) [] pos) (HA r t):=by
 intro AO s σ H Q I h;refine KP (Jw I j f i ?_ a d);exact PyProof.Rows.callWith_type1 (gK (b pos AO s σ H _ I h) λus s1 ⟨vs,H1,I1,r1,q1⟩=>c AO s1 σ H1 vs us Q I1 r1 q1) he g
end
end L2
namespace HT
open PySem PyProof.Rows
section
open PySem.SeqAt
open PySem.AutoSeq1 (wpAny_loadPart')
open PySem.MeetsSeq PySem.MeetsSeq2 PySem.MeetsSeq3
end
theorem aaW{t b:A2}{vs a:O A1}{Q:B8}(u:IsTup s.heap t vs.toArray)(v:IsTup s.heap b a.toArray)(m:vs≠[])
  (h1:a=[]->Q (.ref t) s) (h2:a≠[]->Q (.ref s.heap.objs.size) { s with heap:=s.heap.push { cls:=.type "tuple",data:=.seq (vs++a).toArray } })
  (hsz:vs.length+a.length<=AB):A8 (A9 prog w) A (binaryOp .Add (.ref t) (.ref b)) Q E s:=by
 obtain⟨⟨cls,p,data,sl⟩,c,h,n,l⟩:=id u;obtain⟨⟨cls2,j,x,q⟩,d,i,g,o⟩:=id v;simp only at h l i o;subst h l i o;have e:vs.toArray++a.toArray=(vs++a).toArray:=by simp
 by_cases f:a=[]
 ·exact concat_meets ⟨_,c,rfl⟩ ⟨_,d,rfl⟩ noFill_tuple_add seq_tuple_add PySem.F.slot_tuple_add xn (YY _ _)
   (tuple_addW1 t b vs.toArray a.toArray n g p j sl q (by simpa using m) (by simp[f])) ⟨c,d,h1 f⟩
 ·refine concat_meets ⟨_,c,rfl⟩ ⟨_,d,rfl⟩ noFill_tuple_add seq_tuple_add PySem.F.slot_tuple_add xn (YY _ _)
   (tuple_addW2 t b vs.toArray a.toArray n g p j sl q (by simpa using m) (by simpa using f) (by rw[zC,zC];exact hsz)) ⟨c,d,?_⟩
  rw[e];exact h2 f
def iV(n d:Nat):S Int->Nat
 |none=>d
 |some v=>if v<0 then(v+(n:Int)).toNat else min v.toNat n
theorem Po(n d:Nat)(b:d<=n)(o:S Int):iV n d o<=n:=by
 cases o with
 |none=>exact b
 |some v=>
  show(if v<0 then(v+(n:Int)).toNat else min v.toNat n)<=n;by_cases a:v<0
  ·rw[zk a];omega
  ·rw[zw a];exact Nat.min_le_right _ _
theorem S9(v:Int)(n d:Nat):(if v<0 then max (v+(n:Int)) 0 else min v (n:Int))=((iV n d (Z v):Nat):Int):=by
 show(if v<0 then max (v+(n:Int)) 0 else min v (n:Int))=(((if v<0 then(v+(n:Int)).toNat else min v.toNat n):Nat):Int);by_cases a:v<0
 ·simp only[zk a];omega
 ·simp only[zw a];omega
theorem Qm(lo hi:S Int)(n:Nat):Builtin.Slice.sliceAdjust lo hi 1 (n:Int)=(((iV n 0 lo:Nat):Int),((iV n n hi:Nat):Int)):=by
 have h1:¬ ((1:Int)<0):=by omega
 unfold Builtin.Slice.sliceAdjust;simp only[h1,qc];refine jq ?_ ?_
 ·cases lo with
  |none=>rfl
  |some v=>exact S9 v n 0
 ·cases hi with
  |none=>rfl
  |some v=>exact S9 v n n
theorem Qn(i j:Nat):Builtin.Slice.slicePlaces (i:Int) (j:Int) 1=j-i:=by
 unfold Builtin.Slice.slicePlaces;have h1:(1:Int)>0:=by omega
 simp only[h1,QU,Int.ediv_one];split<;>omega
theorem Cr{v:A1}{o:S Int}{Q:S Int->A3->Prop}(p:IsPart v o)(h:Q o s):A8 (A9 prog w) A (Builtin.Slice.slicePartIndex v) Q E s:=by
 cases p with
 |none=>exact slicePart_none h
 |int i t=>exact slicePart_int h
theorem qb{sl:A2}{c b:A1}{Q:Int×Int×Nat->A3->Prop}(hs:s.heap.IsSliceOf sl c b .none)(pl:IsPart c lo)(e:IsPart b hi)(h:Q (((iV n 0 lo:Nat):Int),1,iV n n hi-iV n 0 lo) s):A8 (A9 prog w) A (Builtin.Slice.sliceApplied (.ref sl) (pure (n:Int))) Q E s:=by
 obtain⟨os,a,f,d⟩:=id hs;unfold Builtin.Slice.sliceApplied Builtin.Slice.sliceFields;refine zb (zb (kR a d (x:=c) X9 (zb (kR a d (x:=b) X9 (zb (kR a d (x:=.none) X9 (zd ?_)))))));refine zb (slicePart_none ?_);show A8 _ _ (if((1:Int)==0)=true then _ else _) _ _ s;rw[zw ()];refine zb (Cr pl (zb (Cr e (zb (zd ?_)))));show A8 _ _ (match Builtin.Slice.sliceAdjust lo hi 1 (n:Int)with|(lo,hi)=>pure (lo,(1:Int),Builtin.Slice.slicePlaces lo hi 1)) _ _ s;rw[Qm lo hi n];show A8 _ _ (pure (((iV n 0 lo:Nat):Int),(1:Int),Builtin.Slice.slicePlaces ((iV n 0 lo:Nat):Int) ((iV n n hi:Nat):Int) 1)) _ _ s;rw[Qn];exact zd h
theorem Xi(xs:Array A1)(i k:Nat):((dg k).filterMap λ(m:Nat)=>xs[((i:Int)+(m:Int)*1).toNat]?).toArray=((xs.toList.drop i).take k).toArray:=by
 have e:(λ(m:Nat)=>xs[((i:Int)+(m:Int)*1).toNat]?)=λm=>xs[i+m]?:=by
  funext m;have:((i:Int)+(m:Int)*1).toNat=i+m:=by omega
  rw[this]
 rw[e];have:=pick_run xs i k;rw[List.filterMap_map]at this;have e2:((λx=>xs[x]?) ∘ λx=>i+x)=λm=>xs[i+m]?:=rfl;rw[e2]at this;rw[this]
theorem xP{t sl:A2}{d c:A1}{Q:B8}(a:IsTup s.heap t items)(hs:s.heap.IsSliceOf sl d c .none)(pl:IsPart d lo)(i:IsPart c hi)(l:¬ (iV items.size 0 lo=0/\iV items.size items.size hi=items.size))(h:Q (.ref s.heap.objs.size) { s with heap:=s.heap.push { cls:=.type "tuple",data:=.seq ((items.toList.drop (iV items.size 0 lo)).take (iV items.size items.size hi-iV items.size 0 lo)).toArray } })(hsz:items.size<=AB):A8 (A9 prog w) A (getItem (.ref t) (.ref sl)) Q E s:=by
 have b:sizeOk (.seq ((items.toList.drop (iV items.size 0 lo)).take (iV items.size items.size hi-iV items.size 0 lo)).toArray):=by
  show((items.toList.drop (iV items.size 0 lo)).take (iV items.size items.size hi-iV items.size 0 lo)).toArray.size<=AB;rw[zC,KB,xh,qh];omega
 have o:iV items.size items.size hi<=items.size:=Po _ _ (zl _) hi;obtain⟨os,f,g,n⟩:=id hs;have e:s.TypeIs (.ref sl) "slice":=⟨os,f,g⟩;unfold getItem
 try with_reducible refine qa ?_
 first|refine zb (zd ?_)|skip
 refine zb (wpAny_sequenceKey a.typeIs () ?_);refine zb (xm (name:=Str.ofString "__getitem__") a.typeIs PyProof.Rows.slot_tuple_getitem
  (JI PyProof.Rows.slot_tuple_getitem a.typeIs entry_tuple_getitem ?_ (args_tuple_getitem _ _)))
 show A8 _ _ (Builtin.Tuple.tupleItemsOf (.ref t) >>= _) _ _ s;refine zb (tupleItemsOf_ a ?_);refine zb (QY e ?_);rw[zk ()];refine zb (qb hs pl i ?_);have j:¬ ((((iV items.size 0 lo:Nat):Int)==0&&(1:Int)==1&&(iV items.size items.size hi-iV items.size 0 lo)==items.size)=true):=by
  intro q;rw[ZT,ZT]at q;have q1:((iV items.size 0 lo:Nat):Int)=0:=eq_of_beq q.1.1;have q2:iV items.size items.size hi-iV items.size 0 lo=items.size:=eq_of_beq q.2;exact l ⟨by omega,by omega⟩
 show A8 _ _ (if(((iV items.size 0 lo:Nat):Int)==0&&(1:Int)==1&&(iV items.size items.size hi-iV items.size 0 lo)==items.size)=true then _ else _) _ _ s;rw[zw j,Xi]
 first
  |exact zb (m:=Builtin.Tuple.tupleExact _) (qo (zd ⟨_,rfl,zd h⟩) b)
  |exact zb (m:=Builtin.Tuple.tupleExact _) (qo (zb (zd (zd ⟨_,rfl,zd h⟩))) b)
  |exact zb (zb (m:=Builtin.Tuple.tupleExact _) (qo (zd (zd ⟨_,rfl,zd h⟩)) b))
  |exact zb (zb (m:=Builtin.Tuple.tupleExact _) (qo (zd ⟨_,rfl,zd h⟩) b))
end HT
namespace L2
abbrev TO:=St->Hp->(S Int->Hp->Prop)->Prop
def PO(X:Cx)(e:S Expr)(t:TO):Prop:=
 ∀(AO:O (A2×AF)) (s:A3) (σ:St) (H:Hp) (Q:S Int->Hp->Prop),AV X AO σ H s->t σ H Q →
  A8 (db X) X.A (evalPart e X.env) (λu s'=>∃o H',AV X AO σ H' s'/\IsPart u o/\Q o H') X.xe s
def im:TO:=λ_ H Q=>Q U H
def X1(t:TE):TO:=λσ H Q=>t σ H λx H1=>∃i,x=.int i/\Q (Z i) H1
section
variable{X:Cx}{te:TE}{lo hi:S Expr}{tl th:TO}
theorem gE:PO X U im:=by
 intro AO s σ H Q I h;rw[evalPart_none];exact zd ⟨U,H,I,.none,h⟩
theorem ci(h:PE X e te):PO X (Z e) (X1 te):=by
 intro AO s σ H Q I a;rw[evalPart_some];refine gK (h AO s σ H _ I a) λu s1 ⟨x,H1,I1,r1,q1⟩=>?_;obtain⟨i,rfl,q⟩:=q1;obtain⟨t,rfl⟩:=r1;exact⟨Z i,H1,I1,.int i t,q⟩
def FI(X:Cx)(r:V->S Int->S Int->Hp->VK->Prop):Prop:=
 ∀(AO:O (A2×AF)) (s:A3) (σ:St) (H:Hp) (x:V) (v a b:A1) (lo hi:S Int) (sl:A2) (Q:VK),AV X AO σ H s->At x v->s.heap.IsSliceOf sl a b .none->IsPart a lo->IsPart b hi->r x lo hi H Q →
  ∃T id,typeLookup (.type T) "__getitem__"=pure (Z (.builtin id))/\s.TypeIs v T/\A8 (db X) X.A (getItem v (.ref sl)) (EP X AO σ Q) X.xe s
def XX(r:V->S Int->S Int->Hp->VK->Prop)(te:TE)(tl th:TO):TE:=λσ H Q=>te σ H λx H1=>tl σ H1 λl H2=>th σ H2 λu a=>r x l u a Q
theorem Xj{r:V->S Int->S Int->Hp->VK->Prop}(d:FI X r)(he:PE X e te)(i:PO X lo tl)(f:PO X hi th):PE X (.Subscript e (.Slice lo hi U p2) pos) (XX r te tl th):=by
 intro AO s σ H Q I h;refine Subscript_ (gK (he AO s σ H _ I h) λv s1 ⟨x,H1,I1,r1,q1⟩=>?_);refine wpAny_Slice (gK (i AO s1 σ H1 _ I1 q1) λvl s2 ⟨l,H2,I2,pl,q2⟩=>gK (f AO s2 σ H2 _ I2 q2) λvu s3 ⟨u,H3,I3,pu,q3⟩=>?_);rw[evalPart_none];refine zd ?_;have g:AV X AO σ H3 { s3 with heap:=s3.heap.push { cls:=.type "slice",data:=.fields #[vl,vu,.none] } }:=I3.kept (t':=s3.toks) λb m q=>ze _ q;obtain⟨T,id,c,a,j⟩:=d AO { s3 with heap:=s3.heap.push { cls:=.type "slice",data:=.fields #[vl,vu,.none] } } σ H3 x v vl vu l u s3.heap.objs.size Q g r1 (Heap.IsSliceOf.new ..) pl pu q3;show A8 (db X) X.A (subscriptTail e (.Slice lo hi U p2) v (.ref s3.heap.objs.size)) (EP X AO σ Q) X.xe { s3 with heap:=s3.heap.push { cls:=.type "slice",data:=.fields #[vl,vu,.none] } };exact tail_any (ops:=[.ref s3.heap.objs.size,v]) a c j (by with_unfolding_all rfl)
def Mg(xs:O V)(lo hi:S Int):O V:=(xs.drop (HT.iV xs.length 0 lo)).take (HT.iV xs.length xs.length hi-HT.iV xs.length 0 lo)
theorem zY(xs:O V)(lo hi:S Int):(Mg xs lo hi).length<=xs.length:=by
 unfold Mg;rw[KB,xh];omega
def SG(K:B5):V->S Int->S Int->Hp->VK->Prop:=λx lo hi H Q=>∃a xs,x=.ref a/\xO K H a xs ∧
 ¬ (HT.iV xs.length 0 lo=0/\HT.iV xs.length xs.length hi=xs.length)/\∀p,H p=U->Q (.ref p) (B1 H p (.tup (Mg xs lo hi)))
theorem VY:FI X (SG X.K):=by
 intro AO s σ H x v m l lo hi sl Q I g hs pl f h;obtain⟨a,xs,rfl,hx,i,q⟩:=h;cases g;obtain⟨AS,r,d,e⟩:=I.tuple hx;have c:AS.toArray.size=xs.length:=by rw[zC];exact r.length.symm
 refine⟨"tuple", _,PyProof.Rows.slot_tuple_getitem.lookup,d.typeIs,?_⟩;refine HT.xP d hs pl f (by rw[c];exact i) ?_ (by rw[c];exact e);rw[c];refine⟨.ref s.heap.objs.size,_,I.laid (t':=s.toks) (o:=.tup (Mg xs lo hi)) (λb j q=>ze _ q) (zl _) ?_,rfl,q _ (I.hok.fresh (zl _))⟩;exact⟨Zl (zY xs lo hi) e,_,(r.drop (HT.iV xs.length 0 lo)).take (HT.iV xs.length xs.length hi-HT.iV xs.length 0 lo),tK.new _ _⟩
def cr(K:B5):R2:=λx y H Q=>∃a b xs ys,x=.ref a/\y=.ref b/\xO K H a xs/\xO K H b ys/\xs≠[]/\xs.length+ys.length<=AB ∧
 (ys=[]->Q (.ref a) H)/\(ys≠[]->∀p,H p=U->Q (.ref p) (B1 H p (.tup (xs++ys))))
theorem AY.Bo{xs:O V}(r:AY xs us):us=[]↔xs=[]:=by
 cases r with
 |nil=>simp
 |cons _ _=>simp
theorem b8:yU X (binaryOp .Add) (cr X.K):=by
 intro AO s σ H x y v u Q I i j h;obtain⟨a,b,xs,ys,rfl,rfl,g,f,hx,e,q1,q2⟩:=h;cases i;cases j;obtain⟨AS,d,p1,_⟩:=I.tuple g;obtain⟨m,c,p2,_⟩:=I.tuple f;refine HT.aaW p1 p2 (λz=>hx (d.Bo.mp z)) (λz=>⟨.ref a,H,I,rfl,q1 (c.Bo.mp z)⟩) (λz=>?_) (by rw[<-d.length,<-c.length];exact e);refine⟨.ref s.heap.objs.size,_,I.laid (t':=s.toks) (o:=.tup (xs++ys)) (λb l q=>ze _ q) (zl _) ?_,rfl,q2 (λw=>z (c.Bo.mpr w)) _ (I.hok.fresh (zl _))⟩;exact⟨by rw[Zp];exact e,_,d.append c,tK.new _ _⟩
end
end L2
namespace L2
def DT(n:Nat)(i:Int):S Nat:=if 0<=i then(if i<n then Z i.toNat else U)else if -(n:Int)<=i then Z (i+n).toNat else U
def Cu(xs:O α)(i:Int):S α:=(DT xs.length i).bind λj=>xs[j]?
theorem g9{i:Int}(h:DT n i=Z j):seqIndex? i n=Z j/\j<n ∧ -(n:Int)<=i/\i<n:=by
 unfold DT at h;by_cases h0:0<=i
 ·rw[zk h0]at h;by_cases h1:i<n
  ·rw[zk h1]at h;have e:i.toNat=j:=ku h;exact⟨by rw[seqIndex_of h0 h1,e],by omega,by omega,h1⟩
  ·rw[zw h1]at h;cases h
 ·rw[zw h0]at h;by_cases h1 : -(n:Int)<=i
  ·rw[zk h1]at h;have e:(i+n).toNat=j:=ku h;exact⟨by rw[seqIndex_neg () h1,e],by omega,h1,by omega⟩
  ·rw[zw h1]at h;cases h
theorem JB{xs:O α}{i:Int}{v:α}(h:Cu xs i=Z v):∃j,seqIndex? i xs.length=Z j/\xs[j]?=Z v/\j<xs.length ∧ -(xs.length:Int)<=i/\i<xs.length:=by
 unfold Cu at h;cases e:DT xs.length i with
 |none=>rw[e]at h;cases h
 |some j=>
  rw[e]at h;obtain⟨h1,h2,b,a⟩:=g9 e;exact⟨j,h1,h,h2,b,a⟩
theorem Td{xs:O α}{v:α}(h:xs[j]?=Z v):Cu xs (j:Int)=Z v:=by
 have a:j<xs.length:=(cf.mp h).1;have e:DT xs.length (j:Int)=Z j:=by
  unfold DT;rw[zk (),zk ()];simp
 unfold Cu;rw[e];exact h
def Te(b:Expr):Prop:=∀o i,subscripted b false o i=operate [o,i] (getItem o i)
def DH(X:Cx)(r:R2):Prop:=
 ∀(value a:Expr) (AO:O (A2×AF)) (s:A3) (σ:St) (H:Hp) (x y:V) (v u:A1) (Q:VK),AV X AO σ H s->At x v->At y u->r x y H Q →
  subscripted a false v u=operate [v,u] (getItem v u)->A8 (db X) X.A (subscriptTail value a v u) (EP X AO σ Q) X.xe s
def M3(X:Cx)(id:String)(r:V->O V->Hp->VK->Prop):Prop:=
 ∀(AO:O (A2×AF)) (s:A3) (σ:St) (H:Hp) (x:V) (xs:O V) (v:A1) (us:O A1) (Q:VK),AV X AO σ H s->At x v->AY xs us->r x xs H Q →
  A8 (db X) X.A (call (.builtin id) (v::us)) (EP X AO σ Q) X.xe s
section
variable{X:Cx}{a b:Expr}{ta tb:TE}
theorem DH.or{r c:R2}(h:DH X r)(h':DH X c):DH X (λx y H Q=>r x y H Q\/c x y H Q):=by
 intro value d AO s σ H x y v u Q I a b q hs;rcases q with q|q
 ·exact h value d AO s σ H x y v u Q I a b q hs
 ·exact h' value d AO s σ H x y v u Q I a b q hs
theorem Xk{r:R2}(c:DH X r)(e:PE X a ta)(d:PE X b tb)(hs:Te b):PE X (.Subscript a b pos) (DZ r ta tb):=by
 intro AO s σ H Q I h;exact Subscript_ (HG e d I h λv u f x y H2 j g i q=>c a b AO f σ H2 x y v u Q j g i q (hs _ _))
def Xl(K:B5):R2:=λx y H Q=>∃p xs i v,x=.ref p/\y=.int i/\sY K H p xs/\Cu xs i=Z v/\Q v H
def MC(K:B5):R2:=λx y H Q=>∃p xs i v,x=.ref p/\y=.int i/\xO K H p xs/\Cu xs i=Z v/\Q v H
def NA:R2:=λx y H Q=>∃z i c,x=.str z/\y=.int i/\z.length<=AB/\Cu z.cps.toList i=Z c/\Q (.str ⟨#[c]⟩) H
theorem JC:DH X (Xl X.K):=by
 intro value A AO s σ H x y v u Q I n o h hs;obtain⟨p,xs,i,z,rfl,rfl,g,d,q⟩:=h;cases n;obtain⟨t,rfl⟩:=o;obtain⟨AS,r,pl,D⟩:=I.list g;obtain⟨j,h1,h2,C,l,m⟩:=JB d;obtain⟨w,b,e⟩:=r.get h2;have f:=r.length;have B:=yX;have c:EP X AO σ Q w s:=⟨z,H,I,e,q⟩;by_cases h0:0<=i
 ·have a:i.toNat=j:=by
   rw[seqIndex_of h0 m]at h1;exact ku h1
  exact item_listR pl.isList h0 () (by rw[a];simpa using b) c hs
 ·have a:(i+(AS.toArray.size:Int)).toNat=j:=by
   rw[seqIndex_neg () l]at h1;rw[zC,<-f];exact ku h1
  exact subscriptTail_builtinR (x:=w) pl.isList.typeIs slot_list_getitem.lookup
   (wpAny_getItem_list_neg (Q:=λr s'=>r=w/\EP X AO σ Q r s') pl.isList () (by rw[zC]<;>omega) () (by rw[a];simpa using b) ⟨rfl,c⟩) hs
theorem Z':DH X (MC X.K):=by
 intro value m AO s σ H x y v u Q I f g h hs;obtain⟨p,xs,i,z,rfl,rfl,e,a,q⟩:=h;cases f;obtain⟨t,rfl⟩:=g;obtain⟨AS,r,pl,C⟩:=I.tuple e;obtain⟨j,h1,h2,B,o,A⟩:=JB a;obtain⟨w,d,b⟩:=r.get h2;have c:=r.length;have n:=yX;have l:EP X AO σ Q w s:=⟨z,H,I,b,q⟩;exact subscriptTail_builtinR (x:=w) pl.typeIs slot_tuple_getitem.lookup
  (getItem_tuple (j:=j) (Q:=λr s'=>r=w/\EP X AO σ Q r s') pl () () (by rw[zC,<-c];exact h1) (by simpa using d) ⟨rfl,l⟩) hs
theorem TR:DH X NA:=by
 intro value p AO s σ H x y v u Q I f g h hs;obtain⟨z,i,c,rfl,rfl,o,a,q⟩:=h;obtain⟨t,rfl⟩:=f;obtain⟨l,rfl⟩:=g;obtain⟨j,h1,h2,n,d,e⟩:=JB a;have b:z.cps.toList.length=z.length:=by simp[Str.length]
 rw[b]at h1 d e;have m:=yX;exact tail_any (typeIs_str s z t) slot_str_getitem.lookup (getItem_str (c:=c) (by
  have e1:decide (i < -(2 ^ 63:Int))=false:=qr ();have e2:decide (i>=2 ^ 63)=false:=qr ();rw[e1,e2,mN]) (by rw[h1];simpa using h2) ⟨.str ⟨#[c]⟩,H,I.tok _,⟨_,rfl⟩,q⟩) hs
def Uf(K:B5):R2:=λx y H Q=>Xl K x y H Q\/MC K x y H Q\/NA x y H Q
theorem cS:DH X (Uf X.K):=JC.or (Z'.or TR)
theorem AV.lst{σ:St}{H:Hp}{p:A2}{xs:O V}(I:AV X AO σ H s)(h:H p=Z (.lst xs)):
  ∃(AS:O A1) (n:Nat),AY xs AS/\s.heap.get? p=Z { cls:=.type "list",data:=.seq AS.toArray n }/\xs.length<=AB:=by
 obtain⟨z,AS,n,r,e⟩:=I.hok p _ h;exact⟨AS,n,r,e,z⟩
theorem JD(lo hi:S Int)(n:Nat):(sliceBounds lo hi U n).1=((HT.iV n 0 lo:Nat):Int)/\(sliceBounds lo hi U n).2.1=((HT.iV n n hi:Nat):Int)/\(sliceBounds lo hi U n).2.2=1:=by
 refine⟨?_,?_,rfl⟩
 ·cases lo with
  |none=>simp[sliceBounds,HT.iV]
  |some i=>
   simp only[sliceBounds,HT.iV,nL,show(1:Int)>0 by decide,QU];by_cases h:i<0
   ·simp only[h,QU]<;>omega
   ·simp only[h,qc]<;>omega
 ·cases hi with
  |none=>simp[sliceBounds,HT.iV]
  |some i=>
   simp only[sliceBounds,HT.iV,nL,show(1:Int)>0 by decide,QU];by_cases h:i<0
   ·simp only[h,QU]<;>omega
   ·simp only[h,qc]<;>omega
theorem Gn(AS:O A1)(lo hi:S Int):slicePick AS.toArray lo hi U=((AS.drop (HT.iV AS.length 0 lo)).take (HT.iV AS.length AS.length hi-HT.iV AS.length 0 lo)).toArray:=by
 obtain⟨h1,h2,a⟩:=JD lo hi AS.toArray.size;unfold slicePick;rw[h1,h2,a];simp only[sliceRange_one,pick_run,zC]<;>rfl
def SW(K:B5):V->S Int->S Int->Hp->VK->Prop:=λx lo hi H Q=>∃a xs,x=.ref a/\sY K H a xs/\∀p,H p=U->Q (.ref p) (B1 H p (.lst (Mg xs lo hi)))
theorem gT:FI X (SW X.K):=by
 intro AO s σ H x v l j lo hi sl Q I e hs pl d h;obtain⟨a,xs,rfl,hx,q⟩:=h;cases e;obtain⟨AS,r,c,g⟩:=I.list hx;have f:=r.length;refine⟨"list", _,slot_list_getitem.lookup,c.isList.typeIs,?_⟩;refine wpAny_getItem_list_slice c.isList hs pl d .none (by simp) ?_ (by rw[zC]<;>omega);rw[Gn,<-f];refine⟨.ref s.heap.objs.size,_,I.laid (t':=s.toks) (o:=.lst (Mg xs lo hi)) (λb i q=>ze _ q) (zl _) ?_,rfl,q _ (I.hok.fresh (zl _))⟩;exact⟨Zl (zY xs lo hi) g,_,0,(r.drop (HT.iV xs.length 0 lo)).take (HT.iV xs.length xs.length hi-HT.iV xs.length 0 lo),zt _ rfl⟩
def su:V->Bool
 |.non=>true
 |.bl _=>true
 |.int _=>true
 |.str _=>true
 |_=>false
def DI:V->V->Bool
 |.non,.non=>true
 |.bl a,.bl b=>a==b
 |.bl a,.int b=>(if a then 1 else 0)==b
 |.int a,.bl b=>a==(if b then 1 else 0)
 |.int a,.int b=>a==b
 |.str a,.str b=>a==b
 |_,_=>false
theorem Pw{y x:V}{v:A1}(e:At y u)(c:At x v)(fy:su y=true)(fx:su x=true):SeqAt.EqAt A s u v (DI y x):=by
 cases y with
 |non=>
  cases e;cases x with
  |non=>cases c;exact SeqAt.EqAt.same _
  |bl b=>cases c;exact SeqAt.EqAt.none_bool b
  |int b=>obtain⟨t,rfl⟩:=c;exact SeqAt.EqAt.none_int b t
  |str b=>obtain⟨t,rfl⟩:=c;exact SeqAt.EqAt.none_str b t
  |_=>exact absurd (show false=true from fx) z5
 |bl a=>
  cases e;cases x with
  |non=>cases c;exact SeqAt.EqAt.bool_none a
  |bl b=>cases c;exact SeqAt.EqAt.bool_bool a b
  |int b=>obtain⟨t,rfl⟩:=c;exact SeqAt.EqAt.bool_int a b t
  |str b=>obtain⟨t,rfl⟩:=c;exact SeqAt.EqAt.bool_str a b t
  |_=>exact absurd (show false=true from fx) z5
 |int a=>
  obtain⟨d,rfl⟩:=e;cases x with
  |non=>cases c;exact SeqAt.EqAt.int_none a d
  |bl b=>cases c;exact SeqAt.EqAt.int_bool a d b
  |int b=>obtain⟨t,rfl⟩:=c;exact SeqAt.EqAt.int_int a d b t
  |str b=>obtain⟨t,rfl⟩:=c;exact SeqAt.EqAt.int_str a d b t
  |_=>exact absurd (show false=true from fx) z5
 |str a=>
  obtain⟨d,rfl⟩:=e;cases x with
  |non=>cases c;exact SeqAt.EqAt.str_none a d
  |bl b=>cases c;exact SeqAt.EqAt.str_bool a d b
  |int b=>obtain⟨t,rfl⟩:=c;exact SeqAt.EqAt.str_int a d b t
  |str b=>obtain⟨t,rfl⟩:=c;exact SeqAt.EqAt.str_str a d b t
  |_=>exact absurd (show false=true from fx) z5
 |_=>exact absurd (show false=true from fy) z5
def Qo(x:V)(u:A1):Bool:=match u with
 |.none=>DI .non x
 |.bool b=>DI (.bl b) x
 |.int i _=>DI (.int i) x
 |.str z _=>DI (.str z) x
 |_=>false
theorem Xm{x y:V}(r:At y u)(f:su y=true):Qo x u=DI y x:=by
 cases y with
 |non=>cases r;rfl
 |bl b=>cases r;rfl
 |int i=>obtain⟨t,rfl⟩:=r;rfl
 |str z=>obtain⟨t,rfl⟩:=r;rfl
 |_=>exact absurd (show false=true from f) z5
theorem xQ{x:V}:∀{xs:O V} {us:O A1},AY xs us->xs.all su=true->us.any (Qo x)=xs.any λy=>DI y x
 |_,_,.nil,_=>rfl
 |y::xs,u::us,.cons r t,f=>by
  rw[kK,ZT]at f;rw[kF,kF,Xm r f.1,xQ t f.2]
theorem tU{A:A6}{s:A3}{x:V}{v:A1}(b:At x v)(fx:su x=true):∀{xs:O V} {us:O A1},AY xs us->xs.all su=true->∀u∈us,SeqAt.EqAt A s u v (Qo x u)
 |_,_,.nil,_=>λu a=>by cases a
 |y::xs,u::us,.cons r t,f=>λc a=>by
  rw[kK,ZT]at f;rcases List.mem_cons.mp a with rfl|a
  ·rw[Xm r f.1];exact Pw r b f.1 fx
  ·exact tU b fx t f.2 c a
def GI(x:V)(xs:O V):Bool:=xs.any λy=>DI y x
def N1(K:B5)(a:Bool):R2:=λx y H Q=>∃p xs,y=.ref p/\(sY K H p xs\/xO K H p xs)/\su x=true/\xs.all su=true/\Q (.bl (if a then !GI x xs else GI x xs)) H
theorem Vo:yU X (AH .In) (N1 X.K false):=by
 intro AO s σ H x y v u Q I c d h;obtain⟨p,xs,rfl,a,fx,fs,q⟩:=h;cases d;rcases a with a|a
 ·obtain⟨AS,r,pl,e⟩:=I.list a;refine SeqAt.in_listAt (Qo x) pl.isList (λw b=>tU c fx r fs w (by simpa using b)) ⟨.bl _,H,I,rfl,?_⟩;rw[show AS.toArray.any (Qo x)=AS.any (Qo x) by simp,xQ r fs];exact q
 ·obtain⟨AS,r,pl,e⟩:=I.tuple a;refine SeqAt.in_tupleAt (Qo x) pl (λw b=>tU c fx r fs w (by simpa using b)) ⟨.bl _,H,I,rfl,?_⟩;rw[show AS.toArray.any (Qo x)=AS.any (Qo x) by simp,xQ r fs];exact q
theorem JF:yU X (AH .NotIn) (N1 X.K true):=by
 intro AO s σ H x y v u Q I c d h;obtain⟨p,xs,rfl,a,fx,fs,q⟩:=h;cases d;rcases a with a|a
 ·obtain⟨AS,r,pl,e⟩:=I.list a;refine SeqAt.notIn_listAt (Qo x) pl.isList (λw b=>tU c fx r fs w (by simpa using b)) ⟨.bl _,H,I,rfl,?_⟩;rw[show AS.toArray.any (Qo x)=AS.any (Qo x) by simp,xQ r fs];exact q
 ·obtain⟨AS,r,pl,e⟩:=I.tuple a;refine SeqAt.notIn_tupleAt (Qo x) pl (λw b=>tU c fx r fs w (by simpa using b)) ⟨.bl _,H,I,rfl,?_⟩;rw[show AS.toArray.any (Qo x)=AS.any (Qo x) by simp,xQ r fs];exact q
theorem JG:yU X (AH .NotIn) (λx y H Q=>∃i j,x=.str i/\y=.str j/\Q (.bl (!(!(Builtin.Str.occurrences j i 0 j.length 1).isEmpty))) H):=by
 intro AO s σ H x y v u Q I a b h;obtain⟨i,j,rfl,rfl,q⟩:=h;obtain⟨t,rfl⟩:=a;obtain⟨c,rfl⟩:=b;exact notIn_str ⟨.bl _,H,I,rfl,q⟩
theorem JH:gq X (.builtin "len") (λxs H Q=>∃p ys,xs=[.ref p]/\(sY X.K H p ys\/xO X.K H p ys)/\Q (.int ys.length) H):=by
 intro AO s σ H xs us Q I r h;obtain⟨p,ys,rfl,a,q⟩:=h;obtain⟨u,rfl,d⟩:=BG r;cases d;have f:=yX;rcases a with a|a
 ·obtain⟨AS,b,pl,e⟩:=I.list a;have c:=b.length;exact Calls.call_len_list pl.isList (by simp only[zC]<;>omega) ⟨.int ys.length,H,I.tok _,⟨s.toks+1,by rw[zC,c]⟩,q⟩
 ·obtain⟨AS,b,pl,e⟩:=I.tuple a;have c:=b.length;exact len_tuple pl (by simp only[zC]<;>omega) ⟨.int ys.length,H,I.tok _,⟨s.toks+1,by rw[zC,c]⟩,q⟩
theorem JK:gq X (.builtin "len") (λxs H Q=>∃z,xs=[.str z]/\z.length<=AB/\Q (.int z.length) H):=by
 intro AO s σ H xs us Q I r h;obtain⟨z,rfl,b,q⟩:=h;obtain⟨u,rfl,t,rfl⟩:=BG r;have a:=yX;exact len_str () ⟨.int z.length,H,I.tok _,⟨_,rfl⟩,q⟩
theorem gq.or{f:A1}{r b:O V->Hp->VK->Prop}(h:gq X f r)(h':gq X f b):gq X f (λxs H Q=>r xs H Q\/b xs H Q):=by
 intro AO s σ H xs us Q I a q;rcases q with q|q
 ·exact h AO s σ H xs us Q I a q
 ·exact h' AO s σ H xs us Q I a q
theorem JL:gq X (.type "list") (λxs H Q=>∃p ys,xs=[.ref p]/\(sY X.K H p ys\/xO X.K H p ys)/\∀l,H l=U->Q (.ref l) (B1 H l (.lst ys))):=by
 intro AO s σ H xs us Q I r h;obtain⟨p,ys,rfl,c,q⟩:=h;obtain⟨u,rfl,m⟩:=BG r;cases m;have j:∀(AS:O A1),AY ys AS->ys.length<=AB->∀(h':A7) (c':Nat),(∀b o',s.heap.get? b=Z o'->h'.get? b=Z o') →
   h'.get? s.heap.objs.size=Z { cls:=.type "list",dict:=U,data:=.seq AS.toArray c',slots:=#[] }->EP X AO σ Q (.ref s.heap.objs.size) { s with heap:=h' }:=λAS a d h' c' kp e=>
  ⟨.ref s.heap.objs.size,_,I.laid (t':=s.toks) kp (zl _) (show eV X.prog X.w _ h' _ (.lst ys) from⟨d,AS,c',a,e⟩),rfl,q _ (I.hok.fresh (zl _))⟩
 rcases c with c|c
 ·obtain⟨AS,a,pl,d⟩:=I.list c;have t:=a.length;obtain⟨o,f,g,n,i⟩:=pl.isList;exact call_list_seq p (.inl X9) f g i (λh' c' kp e=>j AS a d h' c' kp e) (by simp only[zC]<;>omega)
 ·obtain⟨AS,a,pl,d⟩:=I.tuple c;have t:=a.length;obtain⟨o,f,g,n,i⟩:=pl;exact call_list_seq p (.inr X9) f g i (λh' c' kp e=>j AS a d h' c' kp e) (by simp only[zC]<;>omega)
theorem Gr:gq X (.type "tuple") (λxs H Q=>∃p ys,xs=[.ref p]/\((sY X.K H p ys/\∀l,H l=U->Q (.ref l) (B1 H l (.tup ys)))\/(xO X.K H p ys/\Q (.ref p) H))):=by
 intro AO s σ H xs us Q I r h;obtain⟨p,ys,rfl,h⟩:=h;obtain⟨u,rfl,g⟩:=BG r;cases g;rcases h with⟨c,q⟩|⟨c,q⟩
 ·obtain⟨AS,a,pl,f⟩:=I.list c;have j:=a.length;refine call_tuple_list pl.isList (λh' kp=>?_) (by simp only[zC]<;>omega);have d:AV X AO σ H { s with heap:=h' }:=I.kept (t':=s.toks) kp;have i:AV X AO σ (B1 H h'.objs.size (.tup ys)) { s with heap:=h'.push { cls:=.type "tuple",data:=.seq AS.toArray } }:=
   d.laid (t':=s.toks) (λb o e=>ze _ e) (zl _) (show eV X.prog X.w _ _ _ (.tup ys) from⟨f,AS,a,tK.new _ _⟩)
  exact⟨.ref h'.objs.size,_,i,rfl,q _ (d.hok.fresh (zl _))⟩
 ·obtain⟨AS,a,pl,f⟩:=I.tuple c;exact call_tuple_same pl ⟨.ref p,H,I,rfl,q⟩
def MT(K:B5)(T:String)(x:V)(H:Hp):Prop:=match x with
 |.str _=>T ="str"
 |.int _=>T ="int"
 |.ref p=>(T ="list" ∧ ∃xs,sY K H p xs)\/(T ="tuple" ∧ ∃o,K.lookup p=Z o/\o.cls=.type "tuple" ∧ o.dict=U) ∨
   (T ="dict" ∧ ((∃AQ,H p=Z (.dK AQ))\/∃AQ,H p=Z (.dT AQ)))\/(T ="set" ∧ ∃S n,H p=Z (.set S n))
 |_=>False
theorem c8{σ:St}{H:Hp}{T:String}{x:V}{v:A1}(I:AV X AO σ H s)(r:At x v)(ty:MT X.K T x H):
  s.TypeIs v T/\∀a,v=.ref a->∃d,s.heap.get? a=Z d/\d.dict=U:=by
 cases x with
 |str z=>
  obtain⟨t,rfl⟩:=r;cases(show T ="str" from ty);exact⟨typeIs_str s z t,λ_ e=>nomatch e⟩
 |int i=>
  obtain⟨t,rfl⟩:=r;cases(show T ="int" from ty);exact⟨typeIs_int s i t,λ_ e=>nomatch e⟩
 |ref p=>
  cases r;rcases ty with⟨rfl,xs,f⟩|⟨rfl,o,hk,g,b⟩|⟨rfl,hk⟩|⟨rfl,S,n,hk⟩
  ·obtain⟨AS,_,pl,_⟩:=I.list f;refine⟨pl.isList.typeIs,λa e=>?_⟩;cases e;obtain⟨o,n,e,c,b,_⟩:=pl;exact⟨o,e,b⟩
  ·refine⟨⟨o,I.Gk p o hk,g⟩,λa e=>?_⟩;cases e;exact⟨o,I.Gk _ o hk,b⟩
  ·have z:∃o,s.heap.get? p=Z o/\o.ExactDict:=by
    rcases hk with⟨AQ,hk⟩|⟨AQ,hk⟩
    ·obtain⟨_,_,_,_,o,_,_,e,ex,_⟩:=I.hok p _ hk;exact⟨o,e,ex⟩
    ·obtain⟨_,_,_,_,o,_,_,e,ex,_⟩:=I.hok p _ hk;exact⟨o,e,ex⟩
   obtain⟨o,e,ex⟩:=z;refine⟨⟨o,e,ex.1⟩,λa e2=>?_⟩;cases e2;exact⟨o,e,ex.2.1⟩
  ·obtain⟨o,_,_,_,e,ex,_⟩:=I.hok p _ hk;refine⟨⟨o,e,ex.1⟩,λa e2=>?_⟩;cases e2;exact⟨o,e,ex.2.1⟩
 |_=>exact False.elim ty
def E8(K:B5)(T:String)(r:V->O V->Hp->VK->Prop)(to:TE)(t:TA):TE:=λσ H Q=>to σ H λx H1=>MT K T x H1/\t σ H1 λxs H2=>r x xs H2 Q
variable{o:Expr}{to:TE}{t:TA}{T id:String}{r:V->O V->Hp->VK->Prop}
theorem Cw(pa:PlainAttrs T)(slot:Slot T name id)(g:typeOf (.builtin id)=pure (.type "method_descriptor"))(f:M3 X id r)(b:PE X o to)(d:PA X (e::es) t)
  (l:attributeBase o name X.env (eval o X.env)=eval o X.env:=by rfl)
  (j:((AE cpos (AA (e::es) X.env)).all (λx=>!x.1)&&(backToKw cpos (keywordEach [] X.env)).all (λx=>x.1.isSome)
   && decide ((e::es).length+([]:O AD).length+(if([]:O AD).isEmpty then 0 else 1)<30))=true:=by rfl)
  (c:(apos.endLine==cpos.line)=true:=by rfl) (hs:AA (e::es) X.env=(false,eval e X.env)::AA es X.env:=by rfl) (i:(AE cpos (AA es X.env)).any (·.1)=false:=by rfl):
  PE X (.Call (.Attribute o name apos) (e::es) [] cpos) (E8 X.K T r to t):=by
 intro AO s σ H Q I h;refine wpAny_Call_method_late l j c X9 (gK (b AO s σ H _ I h) λv s1 ⟨x,H1,I1,r1,ty,q1⟩=>?_);obtain⟨h1,h2⟩:=c8 I1 r1 ty;refine⟨T,id,pa,slot,g,h1,h2,?_⟩;have a:=d cpos AO s1 σ H1 _ I1 q1;rw[hs]at a ⊢;refine Calls.callWith_builtin (by show(false||(AE cpos (AA es X.env)).any (·.1))=false;rw[i]<;>rfl) (Calls.evalArgs_plain ?_);exact gK a λus s2 ⟨vs,H2,I2,r2,q2⟩=>f AO s2 σ H2 x vs v us Q I2 r1 r2 q2
end
end L2
namespace L2
def IJ(X:Cx)(id:String)(r:V->O V->Hp->VK->Prop):Prop:=
 ∀(AO:O (A2×AF)) (s:A3) (σ:St) (H:Hp) (x:V) (xs:O V) (v:A1) (us:O A1) (Q:VK),AV X AO σ H s->At x v->AY xs us->r x xs H Q →
  A8 (db X) X.A (call (.builtin id) (v::us)) (EP X AO σ Q) X.xe s
theorem AY.one:∀{x:V} {us:O A1},AY [x] us->∃u,us=[u]/\At x u:=λh=>by
 cases h with
 |cons r t=>cases t;exact⟨_,rfl,r⟩
theorem AY.two:∀{x y:V} {us:O A1},AY [x,y] us->∃u v,us=[u,v]/\At x u/\At y v:=λh=>by
 cases h with
 |cons r t=>
  cases t with
  |cons q t=>cases t;exact⟨_,_,rfl,r,q⟩
theorem AY.eraseIdx:∀{xs:O V} {us:O A1} (i:Nat),AY xs us->AY (xs.eraseIdx i) (us.eraseIdx i)
 |_,_,_,.nil=>.nil
 |_,_,0,.cons _ t=>t
 |_,_,i+1,.cons r t=>.cons r (AY.eraseIdx i t)
theorem Hy{α:Type}:∀(l:O α) (i:Nat),(l.eraseIdx i).length<=l.length
 |[],_=>zl _
 |_::_,0=>kz _
 |_::r,i+1=>Y3 (Hy r i)
section
variable{X:Cx}{σ:St}{H:Hp}{l b:A2}{xs ys zs:O V}
theorem AV.aa5{its':O A1}{f:Array A1->Array A1}{t':Nat}(I:AV X AO σ H s)(c:H l=Z (.lst xs))(e:s.heap.get? l=Z { cls:=.type "list",data:=.seq AS.toArray n })(g:f AS.toArray=its'.toArray)(d:AY ys its')(h:ys.length<=AB):
  AV X AO σ (B1 H l (.lst ys)) { s with heap:=s.heap.update l (Obj.mapSeq f),toks:=t' }:=by
 have q:=PySem.IsL.update e f;rw[g]at q;refine I.write (x:=l) (e:=l) (by rw[c];exact trivial) (.inl X9) (λi u b a=>(Q3 s.heap (Obj.mapSeq f) (ja b)).trans a) ⟨_,q⟩ ?_;exact⟨h,its',_,d,q⟩
theorem AV.ahE(I:AV X AO σ H s)(a:H l=Z (.lst xs)):xs.length<=AB/\∃(AS:O A1) (n:Nat),AY xs AS/\xs.length=AS.length/\s.heap.get? l=Z { cls:=.type "list",data:=.seq AS.toArray n }:=by
 obtain⟨z,AS,n,r,e⟩:=I.hok l _ a;exact⟨z,AS,n,r,r.length,e⟩
end
section
variable{X:Cx}
def Bp:V->O V->Hp->VK->Prop:=λx vs H Q=>∃l xs y,x=.ref l/\vs=[y]/\H l=Z (.lst xs)/\xs.length<AB/\Q .non (B1 H l (.lst (xs++[y])))
theorem m7:IJ X "list.append" Bp:=by
 intro AO s σ H x vs v us Q I d b h;obtain⟨l,xs,y,rfl,rfl,a,g,q⟩:=h;cases d;obtain⟨u,rfl,c⟩:=b.one;obtain⟨z,AS,n,r,f,e⟩:=I.ahE a;refine call_meets F.slot_list_append ⟨_,e,rfl⟩ F.entry_list_append (F.args_list_append_2 _ _) (PySem.list_append l AS.toArray n u (by rw[zC];omega)) ⟨e,?_⟩;refine⟨.non,_,I.aa5 (its':=AS++[u]) a e (by simp) (r.append (.cons c .nil)) ?_,rfl,q⟩;rw[Zp,km];omega
def Qp:V->O V->Hp->VK->Prop:=λx vs H Q=>∃l xs i k y,x=.ref l/\vs=[.int i]/\H l=Z (.lst xs) ∧ -(2 ^ 63)<=i/\i<2 ^ 63/\seqIndex? i xs.length=Z k/\xs[k]?=Z y/\Q y (B1 H l (.lst (xs.eraseIdx k)))
theorem Xn:IJ X "list.pop" Qp:=by
 intro AO s σ H x vs v us Q I j c h;obtain⟨l,xs,i,k,y,rfl,rfl,a,h1,h2,hk,d,q⟩:=h;cases j;obtain⟨u,rfl,f⟩:=c.one;obtain⟨t,rfl⟩:=f;obtain⟨z,AS,n,r,g,e⟩:=I.ahE a;obtain⟨w,m,b⟩:=r.get d;refine call_meets F.slot_list_pop ⟨_,e,rfl⟩ F.entry_list_pop (F.args_list_pop_2 _ _)
  (MeetsSeq.list_pop_at l AS.toArray n i t k w (fitsIndex_both h1 h2) (by rw[zC,<-g];exact hk) (by rw[<-Kb];exact m) (by rw[zC];omega)) ⟨e,?_⟩
 refine⟨y,_,I.aa5 (its':=AS.eraseIdx k) a e ?_ (r.eraseIdx k) ?_,b,q⟩
 ·show AS.toArray.eraseIdxIfInBounds k=(AS.eraseIdx k).toArray;rw[List.eraseIdxIfInBounds_toArray]
 ·have:=Hy xs k;omega
end
section
variable{X:Cx}
end
end L2
namespace L2
section
variable [DecidableEq κ]
def qd(AQ:O (κ×V))(k:κ):S V:=(AQ.find? λa=>decide (a.1=k)).map (·.2)
def BD(AQ:O (κ×V))(k:κ)(v:V):O (κ×V):=
 if(AQ.any λa=>decide (a.1=k))=true then AQ.map (λa=>if a.1=k then(a.1,v)else a)else AQ++[(k,v)]
theorem tW{p:κ×V}{r:O (κ×V)}{k:κ}(e:p.1=k):qd (p::r) k=Z p.2:=by simp[qd,JA,e]
theorem uc{p:κ×V}{r:O (κ×V)}{k:κ}(e:¬ p.1=k):qd (p::r) k=qd r k:=by simp[qd,JA,e]
theorem xR(k:κ):∀AQ:O (κ×V),(AQ.any λa=>decide (a.1=k))=(qd AQ k).isSome
 |[]=>rfl
 |p::r=>by
  rw[kF];by_cases e:p.1=k
  ·simp only[tW e,qS e,Bool.true_or,m3]
  ·rw[uc e,qr e,kH];exact xR k r
theorem lg(AQ:O (κ×V))(k:κ)(v:V):(BD AQ k v).length<=AQ.length+1:=by
 unfold BD;split
 ·rw[zi];omega
 ·rw[Zp,ZZ,List.length_nil];omega
theorem Cm.Vp{o:S V}{u:S A1}(r:Cm o u):o.isSome=u.isSome:=by
 cases o with
 |none=>cases u with
  |none=>rfl
  |some _=>exact(show False from r).elim
 |some _=>cases u with
  |none=>exact(show False from r).elim
  |some _=>rfl
theorem KV.val{AQ:O (κ×V)}{vs:O (κ×A1)}(r:KV AQ vs)(k:κ):Cm (qd AQ k) (valueAt vs k):=by
 unfold KV at r
 induction r with
 |nil=>exact True.intro
 |@cons p q ps a h t c=>
  obtain⟨h1,h2⟩:=h;by_cases e:p.1=k
  ·have e':q.1=k:=h1.symm.trans e;have b:valueAt (q::a) k=Z q.2:=by simp[valueAt,JA,e']
   rw[tW e,b];exact h2
  ·have e':¬ q.1=k:=λz=>e (h1.trans z);have b:valueAt (q::a) k=valueAt a k:=by simp[valueAt,JA,e']
   rw[uc e,b];exact c
theorem KV.any{AQ:O (κ×V)}{vs:O (κ×A1)}(r:KV AQ vs)(k:κ):(AQ.any λa=>decide (a.1=k))=vs.any λa=>decide (a.1=k):=by
 unfold KV at r
 induction r with
 |nil=>rfl
 |cons h t b=>rw[kF,kF,b,h.1]
theorem KV.repl{AQ:O (κ×V)}{vs:O (κ×A1)}(r:KV AQ vs)(k:κ){y:V}(c:At y u):
  KV (AQ.map λa=>if a.1=k then(a.1,y)else a) (vs.map λa=>if a.1=k then(a.1,u)else a):=by
 unfold KV at r ⊢
 induction r with
 |nil=>exact .nil
 |@cons p q ps d h t b=>
  rw[zr,zr];refine .cons ?_ b;obtain⟨h1,h2⟩:=h;by_cases e:p.1=k
  ·rw[zk e,zk (h1.symm.trans e)];exact⟨h1,c⟩
  ·rw[zw e,zw (λz=>e (h1.trans z))];exact⟨h1,h2⟩
theorem KV.put{AQ:O (κ×V)}{vs:O (κ×A1)}(r:KV AQ vs)(k:κ){y:V}(a:At y u):KV (BD AQ k y) (stored vs k u):=by
 unfold BD stored;rw[r.any k];by_cases e:(vs.any λb=>decide (b.1=k))=true
 ·rw[zk e,zk e];exact r.repl k a
 ·rw[zw e,zw e];exact Paired.snoc r ⟨rfl,a⟩
theorem KV.length{AQ:O (κ×V)}{vs:O (κ×A1)}(r:KV AQ vs):AQ.length=vs.length:=Paired.length r
end
theorem Hz{k:AZ}(r:At (kV k) u):(cG P w).is k u=true:=by
 cases k with
 |inl i=>obtain⟨t,e⟩:=(show ∃t,u=Value.int i t from r);subst e;exact LC P w i t
 |inr x=>obtain⟨t,e⟩:=(show ∃t,u=Value.str x t from r);subst e;exact LK P w x t
theorem HB{P:A4}{w:A5}:∀{ks:O AZ} {us:O A1},AY (ks.map kV) us->ItemsAre (cG P w) ks us
 |[],_,r=>by rw[kU]at r;cases r;exact .nil
 |k::ks,_,r=>by
  rw[zr]at r;cases r with
  |cons h t=>exact .cons (Hz h) (HB t)
abbrev KT(H:Hp):O (O AZ×V)->O (O AZ×A2×A1)->Prop:=AJ λp q=>p.1=q.1/\H q.2.1=Z (.tup (p.1.map kV))/\At p.2 q.2.2
theorem KT.val{H:Hp}{AQ:O (O AZ×V)}{xs:O (O AZ×A2×A1)}(r:KT H AQ xs)(k:O AZ):Cm (qd AQ k) ((atKey xs k).map (·.2)):=by
 induction r with
 |nil=>exact True.intro
 |@cons p q ps a h t c=>
  obtain⟨h1,_,h2⟩:=h;by_cases e:p.1=k
  ·have e':q.1=k:=h1.symm.trans e;have b:atKey (q::a) k=Z q.2:=by simp[atKey,JA,e']
   rw[tW e,b];exact h2
  ·have e':¬ q.1=k:=λz=>e (h1.trans z);have b:atKey (q::a) k=atKey a k:=by simp[atKey,JA,e']
   rw[uc e,b];exact c
theorem KT.repl{H:Hp}{AQ:O (O AZ×V)}{xs:O (O AZ×A2×A1)}(r:KT H AQ xs)(k:O AZ){y:V}(d:At y u):
  KT H (AQ.map λa=>if a.1=k then(a.1,y)else a) (xs.map (putAt k u)):=by
 induction r with
 |nil=>exact .nil
 |@cons p q ps f h t c=>
  rw[zr,zr];refine .cons ?_ c;obtain⟨h1,h2,b⟩:=h;unfold putAt;by_cases e:p.1=k
  ·rw[zk e,zk (h1.symm.trans e)];exact⟨h1,h2,d⟩
  ·rw[zw e,zw (λz=>e (h1.trans z))];exact⟨h1,h2,b⟩
theorem KT.put{H:Hp}{AQ:O (O AZ×V)}{xs:O (O AZ×A2×A1)}(r:KT H AQ xs)(k:O AZ){b:A2}{y:V}(c:H b=Z (.tup (k.map kV)))(a:At y u):
  KT H (BD AQ k y) (storedH xs k b u):=by
 have e:(AQ.any λd=>decide (d.1=k))=(atKey xs k).isSome:=by
  rw[xR,(r.val k).Vp,Option.isSome_map]
 unfold BD storedH;rw[e];by_cases q:(atKey xs k).isSome=true
 ·rw[zk q,zk q];exact r.repl k a
 ·rw[zw q,zw q];exact Paired.snoc r ⟨rfl,c,a⟩
theorem KT.keeps{H H':Hp}{AQ:O (O AZ×V)}{xs:O (O AZ×A2×A1)}(r:KT H AQ xs)(a:∀b ys,H b=Z (.tup ys)->H' b=Z (.tup ys)):KT H' AQ xs:=
 Paired.aaN r λ_ _ z=>⟨z.1,a _ _ z.2.1,z.2.2⟩
section
variable{H:Hp}
theorem NB{u:HO}(ok:u0 P w H h)(e:Rd H a u):eV P w H h a u:=e.ok ok
theorem ud{AQ:O (AZ×V)}(ok:u0 P w H h)(e:Rd H a (.dK AQ)):AQ.length<=AB/\(a==sysModules)=false/\∃vs,KV AQ vs/\h.DictOf (cG P w) a vs:=
 show eV P w H h a (.dK AQ) from NB ok e
theorem Xo{AQ:O (AZ×V)}(ok:u0 P w H h)(e:H a=Z (.dK AQ)):AQ.length<=AB/\(a==sysModules)=false/\∃vs,KV AQ vs/\h.DictOf (cG P w) a vs:=ud ok (.inl e)
theorem Qq{ks:O AZ}(ok:u0 P w H h)(e:H a=Z (.tup (ks.map kV))):(tupleKind (cG P w)).is h ks a:=by
 obtain⟨_,AS,r,o,h1,h2,⟨n,b⟩,_⟩:=(show eV P w H h a (.tup (ks.map kV)) from ok a _ e);exact⟨o,AS.toArray,n,h1,h2,b,by simpa using HB r⟩
theorem Xp{AQ:O (O AZ×V)}(ok:u0 P w H h)(e:Rd H a (.dT AQ)):AQ.length<=AB/\(a==sysModules)=false ∧
  ∃xs,KT H AQ xs/\h.DictOfH (tupleKind (cG P w)) a xs:=by
 obtain⟨z,y,xs,r,o,es,ep,h1,h2,f,c,d⟩:=(show eV P w H h a (.dT AQ) from NB ok e);refine⟨z,y,xs,r,o,es,ep,h1,h2,f,c,λx hx=>?_,d⟩;have all:∀{l:O (O AZ×V)} {m:O (O AZ×A2×A1)},KT H l m->∀x∈m,(tupleKind (cG P w)).is h x.1 x.2.1:=by
  intro l m q
  induction q with
  |nil=>intro x hx;exact nomatch hx
  |@cons p q ps i b t g=>
   intro x hx;rcases List.mem_cons.mp hx with e|hx
   ·subst e;exact Qq ok (by rw[<-b.1];exact b.2.1)
   ·exact g x hx
 exact all r x hx
theorem PM{AQ:O (O AZ×V)}(ok:u0 P w H h)(e:H a=Z (.dT AQ)):AQ.length<=AB/\(a==sysModules)=false ∧
  ∃xs,KT H AQ xs/\h.DictOfH (tupleKind (cG P w)) a xs:=Xp ok (.inl e)
end
def IR(H:Hp)(a:A2)(y:V)(r:S V):Prop:=
 (∃AQ k,Rd H a (.dK AQ)/\y=kV k/\r=qd AQ k)\/∃AQ k b,Rd H a (.dT AQ)/\y=.ref b/\H b=Z (.tup (k.map kV))/\r=qd AQ k
def Xq(H:Hp)(a:A2)(y v:V)(H':Hp):Prop:=
 (∃AQ k,H a=Z (.dK AQ)/\y=kV k/\AQ.length<AB/\H'=B1 H a (.dK (BD AQ k v))) ∨
 ∃AQ k b,H a=Z (.dT AQ)/\y=.ref b/\H b=Z (.tup (k.map kV))/\AQ.length<AB/\H'=B1 H a (.dT (BD AQ k v))
theorem Xq.k{H:Hp}{a:A2}{AQ:O (AZ×V)}{k:AZ}{v:V}(e:H a=Z (.dK AQ))(b:AQ.length<AB):Xq H a (kV k) v (B1 H a (.dK (BD AQ k v))):=.inl ⟨AQ,k,e,rfl,b,rfl⟩
section
variable{X:Cx}{σ:St}{H:Hp}{y v:V}{r:A1}{o:S V}
theorem AV.big(I:AV X AO σ H s):sysModules<s.heap.objs.size:=by
 have h:mainGlobals<s.heap.objs.size:=(I.mod.glob.keeps I.bk).lt;exact y7 () h
theorem Vq{Q:B8}(t:A.units+1<cLine)(I:AV X AO σ H s)(g:IR H a y (Z v))(n:At y u)(h:∀c s',AV X AO σ H s'->At v c->Q c s'):
  A8 (db X) A (getItem (.ref a) u) Q E s:=by
 rcases g with⟨AQ,k,e,f,l⟩|⟨AQ,k,b,e,f,eb,l⟩
 ·subst f;obtain⟨z,x,vs,i,j⟩:=ud I.hok e;obtain⟨c,m,d⟩:=Cm.some_of (v:=v) (o:=valueAt vs k) (by rw[l];exact i.val k);exact wpAny_getItem_of (Hz n) j.mapOf m (h c _ (I.tok _) d)
 ·subst f;cases(show u=Value.ref b from n);obtain⟨z,x,xs,i,j⟩:=Xp I.hok e;obtain⟨c,m,d⟩:=Cm.some_of (v:=v) (o:=(atKey xs k).map (·.2)) (by rw[l];exact i.val k);obtain⟨p,hp,q⟩:=dv.mp m;refine wpAny_getItem_heap (tupleKind_room_in1 t) (Qq I.hok eb) j hp ?_;rw[q];exact h c _ (I.tok _) d
theorem Bq{h':A7}{t':Nat}{c:HO}(I:AV X AO σ H s)(f:F3 (H a))(hs:Heap.SameBut a s.heap h')(he:∃q,h'.get? a=Z q)(new:eV X.prog X.w (B1 H a c) h' a c):
  AV X AO σ (B1 H a c) { s with heap:=h',toks:=t' }:=
 I.write (x:=a) (e:=a) f (.inl X9) (λb q d z=>(hs.2 b d).trans z) he new
theorem Qs{H':Hp}{h':A7}{AQ:O (AZ×V)}{vs:O (AZ×A1)}(z:AQ.length<=AB)(b:(a==sysModules)=false)(d:KV AQ vs)(c:h'.DictOf (cG P w) a vs):
  eV P w H' h' a (.dK AQ):=⟨z,b,vs,d,c⟩
theorem Vr{H':Hp}(F:A.units+1<cLine)(I:AV X AO σ H s)(g:Xq H a y v H')(B:At y u)(C:At v r)(h:∀s',AV X AO σ H' s'->Q gl s'):
  A8 (db X) A (setItem (.ref a) u r) Q E s:=by
 rcases g with⟨AQ,k,e,m,l,o⟩|⟨AQ,k,b,e,m,eb,l,o⟩
 ·subst m o;obtain⟨z,n,vs,d,p⟩:=Xo I.hok e;have t:vs.length<=AB:=by rw[<-d.length];exact z
  have j:(BD AQ k v).length<=AB:=by have:=lg AQ k v;omega
  refine wpAny_setItem_pairs (hsz:=t) (Hz B) p λh' i hs=>h _ ?_;have D:∃q,h'.get? a=Z q:=let ⟨q,_,_,f,_⟩:=i;⟨q,f⟩;exact Bq I (by rw[e];exact True.intro) hs D (Qs j n (d.put k C) i)
 ·subst m o;cases(show u=Value.ref b from B);obtain⟨z,n,xs,d,p⟩:=PM I.hok e;have t:xs.length<=AB:=by rw[<-Paired.length d];exact z
  have j:(BD AQ k v).length<=AB:=by have:=lg AQ k v;omega
  refine wpAny_setItem_heap (hsz:=t) (tupleKind_room_in1 F) (Qq I.hok eb) p λh' i hs=>h _ ?_;obtain⟨q,es,ep,f,h2,K,G,_,J⟩:=i;refine Bq I (by rw[e];exact True.intro) hs ⟨q,f⟩ ⟨j,n,_,(d.put k eb C).keeps λc ys x=>?_,q,es,ep,f,h2,K,G,J⟩;rw[aD (jB x e (λz=>nomatch z))];exact x
end
section
variable{X:Cx}{σ:St}{H:Hp}{AQ:O (AZ×V)}{k:AZ}
end
def Ic(i:Expr):Prop:=∀a iv,subscripted i false a iv=operate [a,iv] (getItem a iv)
theorem ik{value a:Expr}{T id:String}{Q:B8}(m:typeLookup (.type T) "__getitem__"=pure (Z (.builtin id)))(hs:Ic a)(h:A8 (A9 prog w) A (eval value env) (λo f=>A8 (A9 prog w) A (eval a env) (λi b=>b.TypeIs o T/\A8 (A9 prog w) A (getItem o i) Q E b) E f) E s):
  A8 (A9 prog w) A (eval (.Subscript value a pos) env) Q E s:=by
 refine Subscript_ (ZA h (λo f j=>ZA j (λi b c=>?_) λ_ _ x=>x) λ_ _ x=>x);obtain⟨e,c⟩:=c;unfold subscriptTail;refine zb ?_;rw[getitemInPython_of_ne e.not_modules];refine zb (wpAny_specialOf e m ?_);have d:A8 (A9 prog w) A (subscripted a false o i) (λr g=>A8 (A9 prog w) A (letTemporaryGo value o r >>= λ_=>pure r) Q E g) E b:=by
  rw[hs o i];exact wpAny_operating (ZA c (λr g l=>zb (wpAny_letTemporaryGo (zd l))) λ_ _ x=>x)
 first
  |exact zd (zb d)
  |exact zb (zd (zb d))
  |exact zb d
theorem Mh{X:Cx}{σ:St}{H:Hp}{y:V}{o:S V}(I:AV X AO σ H s)(g:IR H a y o):s.TypeIs (.ref a) "dict":=by
 rcases g with⟨AQ,k,e,_,_⟩|⟨AQ,k,b,e,_,_,_⟩
 ·obtain⟨_,_,vs,_,c⟩:=ud I.hok e;exact c.typeIs
 ·obtain⟨_,_,xs,_,c⟩:=Xp I.hok e;exact c.typeIs
def Ta(td ty:TE):TE:=λσ H Q=>td σ H λx H1=>ty σ H1 λy H2=>∃a v,x=.ref a/\IR H2 a y (Z v)/\Q v H2
def hX(td ty tv:TE):TS:=λD σ H=>tv σ H λv H1=>td σ H1 λx H2=>ty σ H2 λy c=>∃a b,x=.ref a/\Xq c a y v b/\D.nx σ b
section
variable{X:Cx}{o i value:Expr}{pos':Pos}{td ty tv:TE}
theorem PF(d:X.A.units+1<cLine)(c:PE X o td)(hi:PE X i ty)(hs:Ic i):PE X (.Subscript o i pos) (Ta td ty):=by
 intro AO s σ H Q I h;refine ik PySem.F.slot_dict_getitem.lookup hs (gK (c AO s σ H _ I h) λu s1 ⟨x,H1,I1,rx,q1⟩=>gK (hi AO s1 σ H1 _ I1 q1) λiv s2 ⟨y,H2,I2,ry,a,v,ex,g,q2⟩=>?_);subst ex;obtain rfl:u=Value.ref a:=rx;exact⟨Mh I2 g,Vq d I2 g ry λj f e b=>⟨v,H2,e,b,q2⟩⟩
theorem aS(c:X.A.units+1<cLine)(b:PE X o td)(hi:PE X i ty)(d:PE X value tv)(hs:swapsWith value (Z (.Subscript o i pos')) pos.line X.env=pure false):
  PS X (.Assign [.Subscript o i pos'] value pos) (hX td ty tv):=by
 intro AO s σ H D I h;refine wpAny_Assign_Subscript (gK (d AO s σ H _ I h) λr s1 ⟨v,H1,I1,rv,q1⟩=>gK (b AO s1 σ H1 _ I1 q1) λu s2 ⟨x,H2,I2,rx,q2⟩=>gK (hi AO s2 σ H2 _ I2 q2) λiv s3 ⟨y,H3,I3,ry,a,H4,ex,g,q3⟩=>?_) hs;subst ex;obtain rfl:u=Value.ref a:=rx;exact Vr c I3 g ry rv λf e=>⟨σ,H4,e,q3⟩
end
theorem Mi{H:Hp}(h:A7)(a:sysModules<h.objs.size):eV P w H (h.push { cls:=.type "dict",data:=.dict #[] }) h.objs.size (.dK []):=
 ⟨qi _,beq_eq_false_iff_ne.mpr (ja (zS a)),[],.nil,Heap.DictOf.new h⟩
def Sm:TE:=λ_ H Q=>∀p,H p=U->Q (.ref p) (B1 H p (.dK []))
section
variable{X:Cx}
theorem Xr:PE X (.Dict [] [] pos) Sm:=λAO s σ H Q I h=>
 wpAny_Dict_empty ⟨.ref s.heap.objs.size,_,I.laid (a:=s.heap.objs.size) (o:=.dK []) (t':=s.toks) (λ_ _ q=>ze _ q) (zl _) (Mi s.heap I.big),rfl,h _ (I.hok.fresh (zl _))⟩
end
structure M1 (X:Cx) (o:Expr) (m:Str) (apos:Pos) (e:Expr) (cpos:Pos):Prop where
 base:attributeBase o m X.env (eval o X.env)=eval o X.env
 few:((backTo cpos (starEach [e] X.env)).all (λx=>!x.1)&&(backToKw cpos (keywordEach [] X.env)).all (λx=>x.1.isSome)
  && decide (([e]:List Expr).length+([]:List Keyword).length+(if([]:List Keyword).isEmpty then 0 else 1)<30))=true
 line:(apos.endLine==cpos.line)=true
 trees:backTo cpos (starEach [e] X.env)=[(false,eval e X.env)]
structure M2 (X:Cx) (o:Expr) (m:Str) (apos:Pos) (e f:Expr) (cpos:Pos):Prop where
 base:attributeBase o m X.env (eval o X.env)=eval o X.env
 few:((backTo cpos (starEach [e,f] X.env)).all (λx=>!x.1)&&(backToKw cpos (keywordEach [] X.env)).all (λx=>x.1.isSome)
  && decide (([e,f]:List Expr).length+([]:List Keyword).length+(if([]:List Keyword).isEmpty then 0 else 1)<30))=true
 line:(apos.endLine==cpos.line)=true
 trees:backTo cpos (starEach [e,f] X.env)=[(false,eval e X.env),(false,eval f X.env)]
section
variable{X:Cx}{σ:St}{H:Hp}{y d:V}{r:A1}{o:S V}
end
section
variable{X:Cx}{o f:Expr}{td ty tx:TE}
end
section
variable{X:Cx}{σ:St}{H:Hp}{AQ:O (AZ×V)}
end
section
variable{X:Cx}{σ:St}{H:Hp}{y:V}
end
end L2
namespace Att
open PySem PySem.W PySem.Calls PyProof.Rows
theorem Ar{P:Params}:∀(ns:O Int) (vs:O A1),WellAll P h vs (ns.map WData.int)->IntsAre vs ns:=by
 intro ns
 induction ns with
 |nil=>
  intro vs w;rw[kU]at w;cases w;exact .nil
 |cons n ns c=>
  intro vs w;rw[zr]at w;cases w with
  |cons a b=>
   cases a;exact .cons _ _ (c _ b)
theorem Vs{l:OpenLaw}(m:l.most=Z n){P:Params}{args:O WData}{f:O A1}(e:l.row.toRowW.claim.pre args=true)(u:WellAll P h f args):
  ∃a vs ns,f=[Value.ref a]/\args=[WData.list (ns.map WData.int)]/\h.get? a=Z { cls:=.type "list",data:=.seq vs.toArray }/\IntsAre vs ns/\ns.length<=n:=by
 have o:WShape.hasAll [] args [.list .int]=true:=(pre_splitW e).1;have g:l.pre.holds [] { args:=args }=true:=(pre_splitW e).2;obtain⟨d,r,rfl,h1,h2⟩:=hasAllW_cons o;obtain rfl:=hasAllW_nil h2;obtain⟨xs,rfl,s⟩:=hasW_list h1;obtain⟨ns,rfl⟩:=items_int s;have w:ns.length<=n:=by
  unfold OpenLaw.pre at g;have b:(WTm.not (.lt (.lit (.int (n:Int))) (.len (.arg 0)))).holds [] { args:=[.list (ns.map .int)] }=true:=by
   have b:=(holds_andW g).1;rw[m]at b;exact b
  have c:=condW_of b (w_not (w_lt w_lit (w_len_list (w_arg X9))));rw[zi]at c;refine xc λq=>?_;have t:(n:Int)<((ns.length:Nat):Int):=by omega
  first
   |(rw[qS t]at c;exact absurd c ())
   |(simp at c;omega)
 cases u with
 |cons v j=>
  cases j;cases v with
  |list i p=>exact⟨_,_,ns,rfl,rfl,i,Ar ns _ p,w⟩
theorem Vt(l:OpenLaw)(args:O WData):l.row.toRowW.claim.post args (.bool true) args=true:=
 postW_of (r:=l.row.toRowW) (X:=(true==true))
  (show WShape.has [] (.bool true) .bool=true by first|rfl|decide|simp[WShape.has,WShape.arms,WShape.armsAll])
  (show(WTm.eq .res (.lit (.bool true))).value [] { args:=args,res:=Z (.bool true),after:=args }=Z (.bool (true==true)) from w_eq_bool (w_res X9) w_lit) rfl
theorem Mj{l:OpenLaw}{q:A4}{loose:An}{d:DefRec}(A:l.most=Z n)(s:d.params.defaults=[])(call:∀(w:A5) (e b:A3) (mg h:AK->S A1) (fa:A2) (o:AF) (pm c g:A1) (a:A2) (vs:O A1) (ns:O Int),
   Ground q loose [] XP w e mg h b.heap->YP w b.heap →
   b.heap.get? fa=Z o->o.data=.func (docDef d.name d.params d.body d.scope pm c g)->b.heap.CodeRec c d.name->mg d.name=Z (.ref fa) →
   b.heap.get? a=Z { cls:=.type "list",data:=.seq vs.toArray }->IntsAre vs ns->ns.length<=n->b.gens=#[] →
   AG (A9 l.prog w) callerA (.call (.ref fa) ⟨[.ref a],[]⟩) (λr s'=>r=.ok (.ret (.bool true))/\OldK b.heap s'.heap/\s'.os=b.os/\AllBare s'.gens) b):
  WalkO q loose XP YP l.row.toRowW d [] (λf vs=>PySem.call f vs):=by
 intro w e b mg h G Y fa o pm c g m kV z E x i u t L J as j K I y M;obtain rfl:m=.none:=Dflts.none i s;obtain rfl:kV=.none:=Dflts.noKw i;obtain⟨a,vs,ns,rfl,rfl,v,F,H⟩:=Vs A j y;refine enter_call (KW (call w e b mg h fa o pm c g a vs ns G Y z (fd_plain E) x u v F H t) λr s' p=>?_);obtain⟨rfl,h2,B,C⟩:=p;exact⟨.inl ⟨.bool true,.bool true,[],rfl,λ_=>X9,.bool true,Vt l _,λ_=>⟨List.Pairwise.nil,λ_ D=>(nomatch D)⟩⟩,h2,B,C⟩
section
variable{K:Frag}
end
end Att
namespace L2
theorem u6:∀{vs:O A1} {ns:O Int},IntsAre vs ns->AY (ns.map V.int) vs
 |_,_,.nil=>.nil
 |_,_,.cons n t h=>.cons ⟨t,rfl⟩ (u6 h)
def Cb(H:Hp):Prop:=∀b,H b=U\/(∃o xs,H b=Z (.iU o (.lst xs)))\/∃ps,H b=Z (.Ju ps)
structure Xu (K:B5) (h:Heap) (TL:List (Addr×Array Value)):Prop where
 all:∀P q,Lu K P q->∃ps,TL.lookup P=some ps/\tq ps=q/\0<ps.size
 ok:∀P ps,TL.lookup P=some ps->K.lookup P=none/\h.get? P=some { cls:=.none,data:=.fields #[] }/\isCodeTable h P/\tr ps=#[]
theorem Xv{C:AK->S A1}{CX:Vm}{k:Nat}{fa:A2}{sp:Sp}{c:A3}{vs:O A1}{ns:O Int}{f:O (A2×Array A1)}(J:K.In c.heap)(Y:c.heap.Ns mainGlobals mg)(i:c.heap.Ns builtinsNs C)(d3:∀x:AK,x ≠ "__name__" → C x=AI x)(b0:c.heap.NoLimit)(d1:∃p j,mg "__builtins__"=Z (.ref p)/\p≠builtinsNs/\c.heap.get? p=Z j/\j.cls=.type "module" ∧ j.dict=Z builtinsNs/\j.data=.plain)(hg:c.gens=#[])(t:c.heap.get? a=Z { cls:=.type "list",data:=.seq vs.toArray })(hi:IntsAre vs ns)(X:ns.length<=AB)(hr:iu k callerA)(F:∀base:A7,K.In base->base.Ns mainGlobals mg->gW P w K mg base CX k fa fd [x] sp)(d0:∀(s:A3) (u:A1),BindsTo s fd ⟨[u],[]⟩ [(x,u)])(c6:∀H:Hp,Cb H->sY K H a (ns.map V.int)->sp [.ref a] H (λv _=>v=.bl true) λ_ _ _=>False)(d2:∀H e s',CX [] H c (λ_ _ _=>False) e s'->False)(T:Xu K c.heap f):
  AG (A9 P w) callerA (.call (.ref fa) ⟨[.ref a],[]⟩) (λr s'=>r=.ok (.ret (.bool true))/\OldK c.heap s'.heap/\s'.os=c.os/\AllBare s'.gens) c:=by
 have G:=u6 hi;have a5:=hi.length;have I:f.lookup a=U:=by
  cases e:f.lookup a with
  |none=>rfl
  |some ps=>
   have q:=(T.ok a ps e).2.1;rw[t]at q;cases q
 have tok:∀(H:Hp) (b:A2) (ps:Array A1),f.lookup b=Z ps->eV P w H c.heap b (.Ju ps):=λH b ps e=>by
  obtain⟨_,g,_,z⟩:=T.ok b ps e;refine⟨#[],by rw[z];exact g,?_,λpos cv q=>?_⟩
  ·rw[z];simp[TriplesOk]
  ·rw[z]at q;cases q
 have Q:∀H:Hp,Cb H->sY K H a (ns.map V.int)->u0 P w H c.heap->(∀b,H b≠U->b=a\/∃ps,f.lookup b=Z ps)->(∀b ps,f.lookup b=Z ps->H b=Z (.Ju ps))->(H a≠U->K.lookup a=U) →
   AG (A9 P w) callerA (.call (.ref fa) ⟨[.ref a],[]⟩) (λr s'=>r=.ok (.ret (.bool true))/\OldK c.heap s'.heap/\s'.os=c.os/\AllBare s'.gens) c:=by
  intro H L hS E B c4 hK;have D:∀{b:A2} {o:AF},c.heap.get? b=Z o->H b=U->(Jv c.heap H).get? b=Z o:=λe n=>W7 e n;have a3:∀{b:A2} {o:AF} {es:Array DictEntry} {ep:Nat},c.heap.get? b=Z o->o.data=.dict es ep->H b=U:=λ{b o es ep} e d=>by
   cases q:H b with
   |none=>rfl
   |some u=>
    rcases B b (by rw[q];simp)with e'|⟨ps,e'⟩
    ·subst e';rw[t]at e;cases e;have d':Data.seq vs.toArray _=Data.dict es ep:=d;cases d'
    ·rw[(T.ok b ps e').2.1]at e;cases e;cases d
  have A:∀{b:A2} {m:AK->S A1},c.heap.Ns b m->(Jv c.heap H).Ns b m:=λ{b m} ⟨o,es,ep,e,d,r⟩=>⟨o,es,ep,D e (a3 e d),d,r⟩;have M:K.In (Jv c.heap H):=λb o e=>D (J b o e) (by
   cases q:H b with
   |none=>rfl
   |some u=>
    rcases B b (by rw[q];simp)with e'|⟨ps,e'⟩
    ·subst e';rw[hK (by rw[q];simp)]at e;cases e
    ·rw[(T.ok b ps e').1]at e;cases e)
  have hM:Mod K mg (Jv c.heap H):=⟨M,A Y,⟨C,A i,d3⟩,let ⟨mc,h1,h2⟩:=b0;⟨mc,A h1,h2⟩,let ⟨p,j,b1,b2,b3,b4,b5,b6⟩:=d1;⟨p,j,b1,b2,D b3 (by
   cases q:H p with
   |none=>rfl
   |some u=>
    rcases B p (by rw[q];simp)with e'|⟨ps,e'⟩
    ·subst e';rw[t]at b3;cases b3;injection b4 with z;exact absurd z ()
    ·rw[(T.ok p ps e').2.1]at b3;cases b3;cases b4),b4,b5,b6⟩⟩
  have e0:Ql P w K mg (Jv c.heap H) callerA [] c H:=⟨rfl,hM,λb o e=>eQ e,hF (Vd _ _),trivial,λb i=>absurd (show b∈([]:O A2) from i) (by simp),E,.of_eq hg,λP q k=>by
   obtain⟨ps,l,r⟩:=T.all P q k;exact⟨ps,c4 P ps l,r⟩⟩
  refine KW ((F _ M (A Y)).run callerA [] c H ⟨[.ref a],[]⟩ [.ref a] [.ref a] _ _ hr e0 (d0 c (.ref a)) (.cons X9 .nil) (c6 H L hS)) λr s' h=>?_;cases r with
  |error e=>exact(d2 H e s' h).elim
  |ok fl=>
   cases fl with
   |next=>exact False.elim h
   |brk=>exact False.elim h
   |cont=>exact False.elim h
   |ret u=>
    obtain⟨v,H',os,c3,un,W,r',q⟩:=h;have q':v=.bl true:=q;subst q';obtain rfl:u=Value.bool true:=r';have N:∀b o,c.heap.get? b=Z o->s'.heap.get? b=Z o\/(isCodeTable c.heap b/\o.cls=.none/\∃vs more,o.data=.fields vs/\s'.heap.get? b=Z { o with data:=.fields (vs++more) }):=λb o e=>by
     cases q:H b with
     |none=>exact .inl (un.keep b o e q (by intro z;exact absurd (show b∈([]:O A2) from z) (by simp)) (by simp))
     |some u=>
      rcases L b with z|⟨j,xs,z⟩|⟨ps,z⟩
      ·rw[q]at z;cases z
      ·have z2:=un.oM b j _ z;obtain⟨e1,_⟩:=E b _ z;obtain⟨e2,_⟩:=W b _ z2;rw[e]at e1;cases e1;exact .inl e2
      ·rcases B b (by rw[q];simp)with e'|⟨c5,e'⟩
       ·subst e';obtain⟨more,g,_⟩:=E b _ z;rw[t]at g;cases g
       ·obtain⟨_,g,ct,_⟩:=T.ok b c5 e';rw[e]at g;cases g;obtain⟨m1,z2⟩:=un.sX b ps z;obtain⟨m2,g2,_⟩:=W b _ z2;exact .inr ⟨ct,rfl,#[],_,rfl,by rw[g2,Array.empty_append]⟩
    refine⟨rfl,⟨λb o e=>(N b o e).imp id .inl,λb o e=>?_⟩,os,c3⟩;rcases N b o e with z|⟨_,_,_,_,_,z⟩<;>exact⟨_,z⟩
 cases hk:K.lookup a with
 |some o=>
  have e:=J a o hk;rw[t]at e;cases e;refine Q (λb=>(f.lookup b).map .Ju) (λb=>?_) (.inr ⟨_,vs.toArray,_,hk,rfl,rfl,rfl,by rw[zC,a5];exact X,by simpa using G⟩) (λb u z=>?_) (λb z=>?_) (λb ps e=>by show(f.lookup b).map _=_;rw[e];rfl) λz=>absurd (by show(f.lookup a).map _=U;rw[I];rfl) z
  ·cases e:f.lookup b with
   |none=>exact .inl (by show(f.lookup b).map HO.Ju=U;rw[e];rfl)
   |some ps=>exact .inr (.inr ⟨ps,by show(f.lookup b).map HO.Ju=_;rw[e];rfl⟩)
  ·have z:(f.lookup b).map HO.Ju=Z u:=z;cases e:f.lookup b with
   |none=>rw[e]at z;cases z
   |some ps=>rw[e]at z;cases z;exact tok _ b ps e
  ·cases e:f.lookup b with
   |none=>exact absurd (by show(f.lookup b).map HO.Ju=U;rw[e];rfl) z
   |some ps=>exact .inr ⟨ps,rfl⟩
 |none=>
  refine Q (λb=>if b=a then Z (.iU { cls:=.type "list",data:=.seq vs.toArray } (.lst (ns.map V.int)))else(f.lookup b).map .Ju) (λb=>?_) (.inl (.inr ⟨{ cls:=.type "list",data:=.seq vs.toArray },zk rfl⟩)) (λb u z=>?_) (λb z=>?_) (λb ps e=>?_) λ_=>hk
  ·by_cases i:b=a
   ·exact .inr (.inl ⟨_,_,zk i⟩)
   ·cases e:f.lookup b with
    |none=>exact .inl ((zw i).trans (by rw[e];rfl))
    |some ps=>exact .inr (.inr ⟨ps,(zw i).trans (by rw[e];rfl)⟩)
  ·by_cases i:b=a
   ·have y:=(zk i).symm.trans z;cases y;subst i;exact⟨t,by rw[zi];exact X,vs,_,G,t⟩
   ·have y:=(zw i).symm.trans z;cases e:f.lookup b with
    |none=>rw[e]at y;cases y
    |some ps=>rw[e]at y;cases y;exact tok _ b ps e
  ·by_cases i:b=a
   ·exact .inl i
   ·cases e:f.lookup b with
    |none=>exact absurd ((zw i).trans (by rw[e];rfl)) z
    |some ps=>exact .inr ⟨ps,rfl⟩
  ·have i:b≠a:=λz=>by rw[z,I]at e;cases e
   exact(zw i).trans (by rw[e];rfl)
end L2
namespace L2
theorem ii{k:Nat}{q:A4}{loose:An}{d:DefRec}{K:Params->B5}{CX:A5->Vm}{sp:A5->Sp}(N:l.most=Z n)(t:n<=AB)(A:d.params.defaults=[])(E:iu k callerA)(p:∀(w:A5) (h:A7),YP w h->(K w.params).In h)(F:∀(w:A5) (mg:AK->S A1) (fa:A2) (h:A7),(K w.params).In h->h.Ns mainGlobals mg->mg d.name=Z (.ref fa) →
   ∃fd:FuncData,(∀(s:A3) (u:A1),BindsTo s fd ⟨[u],[]⟩ [(x,u)]) ∧
    ∀base:A7,(K w.params).In base->base.Ns mainGlobals mg->gW l.prog w (K w.params) mg base (CX w) k fa fd [x] (sp w))(Q:∀(w:A5) (H:Hp) (a:A2) (ns:O Int),ns.length<=n->Cb H->sY (K w.params) H a (ns.map V.int)->sp w [.ref a] H (λv _=>v=.bl true) λ_ _ _=>False)(a3:∀(w:A5) (H:Hp) (s:A3) (e:A1) (s':A3),CX w [] H s (λ_ _ _=>False) e s'->False)(y:∀(w:A5) (h:A7) (mg i:AK->S A1) (L:ExcName->S A1) (I:An),(K w.params).In h->Top q I L mg i h->∃j,Xu (K w.params) h j):
  PySem.W.WalkO q loose XP YP l.row.toRowW d [] (λf vs=>PySem.call f vs):=by
 refine Att.Mj N A λw b0 a5 mg i fa o pm cd b4 a vs ns G Y ho hd b5 C D X m B=>?_;have c:=p w _ Y;obtain⟨fd,z,P⟩:=F w mg fa _ c G.T.g C;obtain⟨j,tl⟩:=y w _ _ _ _ _ c G.T;exact Xv c G.T.g G.T.b G.T.builtins G.T.nolimit G.T.bmain B D X (Zl m t) E P z (λH J M=>Q w H a ns m J M) (λH e s'=>a3 w H a5 e s') tl
theorem Xw{k:Nat}{q:A4}{loose:An}{d:DefRec}{K:Params->B5}{CX:Vm}{sp:B5->Sp}(j:l.most=Z n)(c:n<=AB)(p:d.params.defaults=[])(i:iu k callerA)(b:∀(w:A5) (h:A7),YP w h->(K w.params).In h)(F:∀(w:A5) (mg:AK->S A1) (fa:A2) (h:A7),(K w.params).In h->h.Ns mainGlobals mg->mg d.name=Z (.ref fa) →
   ∃fd:FuncData,(∀(s:A3) (u:A1),BindsTo s fd ⟨[u],[]⟩ [(x,u)]) ∧
    ∀base:A7,(K w.params).In base->base.Ns mainGlobals mg->gW l.prog w (K w.params) mg base CX k fa fd [x] (sp (K w.params)))(o:∀(K:B5) (H:Hp) (a:A2) (ns:O Int),ns.length<=n->Cb H->sY K H a (ns.map V.int)->sp K [.ref a] H (λv _=>v=.bl true) λ_ _ _=>False)(B:∀(H:Hp) (s:A3) (e:A1) (s':A3),CX [] H s (λ_ _ _=>False) e s'->False)(g:∀(w:A5) (h:A7) (mg t:AK->S A1) (z:ExcName->S A1) (m:An),(K w.params).In h->Top q m z mg t h->∃A,Xu (K w.params) h A):
  PySem.W.WalkO q loose XP YP l.row.toRowW d [] (λf vs=>PySem.call f vs):=
 ii (K:=K) (CX:=λ_=>CX) (sp:=λw=>sp (K w.params)) j c p i b F (λw H a ns h1 h2 y=>o (K w.params) H a ns h1 h2 y) (λ_ H s e s'=>B H s e s') g
end L2
namespace L2
def lW(s:AC):Arguments:=match s with
 |.FunctionDef _ a _ _ _ _ _ _ _ _=>a
 |_=>{ posonlyargs:=[],args:=[],vararg:=U,kwonlyargs:=[],kw_defaults:=[],kwarg:=U,defaults:=[] }
def fH(s:AC):O AC:=match s with
 |.FunctionDef _ _ b _ _ _ _ _ _ _=>b
 |_=>[]
def aG(s:AC):Scope:=match s with
 |.FunctionDef _ _ _ _ _ _ a _ _ _=>a
 |_=>{ kind:=.function,names:=[],isGenerator:=false,isCoroutine:=false }
abbrev zZ:Vm:=λ_ _ _ _ _ _=>False
abbrev E0:XK:=λ_ _ _=>False
theorem LN{X:Cx}:C6 zZ X E0:=λ_ _ _ _ _ _ _ h=>h.elim
structure Br (K:B5) (x qual:Str) (st:Stmt) (f:Addr) (fd:FuncData):Prop where
 ex:∃(oc:Value) (od:Option Addr) (kV doc pm:Value) (an:Option Addr) (cdv ct:Value) (osl:Array (Option Value)),
  fd=fnOf x qual (lW st) (fH st) (aG st) .none kV doc pm an cdv ct/\K.lookup f=some ⟨oc,od,.func fd,osl⟩/\codeIn K cdv qual=true
 kp:keepIn K (.ref f)=true
theorem Br.ok{f:A2}{k:Nat}{sp:Sp}(F:Br K x qual st f fd)(S:bA N ps (aG st))(len:∀vs H Q E,sp vs H Q E->vs.length=ps.length)(g:∀(a:A1) (A:A6) (outer:O Env) (s:A3) (H:Hp) (vs:O V) (Q:VK) (E:XK),iu k (A.deeper (AL qual (aG st) s.heap.objs.size f a))->sp vs H Q E →
   ∃t,wM (tO zZ P w K mg base N qual (aG st) f a A outer s H E).Vg (fH st) t/\t { nx:=λ_ H'=>Q .non H',rt:=Q } (start N vs) H):gW P w K mg base zZ (k+1) f fd ps sp:=by
 obtain⟨i,j,kV,l,pm,m,a,ct,osl,rfl,e,d⟩:=F.ex;refine LV e d S len λA outer s H vs Q E b c=>?_;obtain⟨t,h,q⟩:=g a A outer s H vs Q E b c;exact⟨t,h.Vg,q⟩
theorem Br.binds{f:A2}(F:Br K x qual st f fd)(h:∀(kV b pm:A1) (c:S A2) (a ct:A1) (us:O A1),us.length=ps.length->bindArgs (fnOf x qual (lW st) (fH st) (aG st) .none kV b pm c a ct) ⟨us,[]⟩=pure (ps.zip us)):B9 K fd ps []:=by
 obtain⟨d,e,kV,b,pm,c,a,ct,osl,rfl,i,g⟩:=F.ex;exact .all (h kV b pm c a ct)
theorem JN{f:A2}{e:A1}{od d:S A2}{kV b pm a ct:A1}(l:K.lookup f=Z ⟨e,od,.func (fnOf x qual (lW st) (fH st) (aG st) .none kV b pm d a ct),osl⟩)(c:codeIn K a qual=true)(k:keepIn K (.ref f)=true):Br K x qual st f (fnOf x qual (lW st) (fH st) (aG st) .none kV b pm d a ct):=⟨⟨e,od,kV,b,pm,d,a,ct,osl,rfl,l,c⟩,k⟩
section
variable{X:Cx}
theorem pv(i:Nat)(c:X.N[i]?=Z x:=by rfl)(b:WW X.env.scope x:=by first|exact ko rfl|exact jv (ko X9)|exact jv (jv X9))(a:bv x:=by decide)(d:(x==("__classdict__":AK))=false:=by decide):PE X (.Name x pos) (qM i):=iB c b a d
end
def AW(H H':Hp):Prop:=∀b o,H b=Z o->H' b=Z o
theorem AW.refl(H:Hp):AW H H:=λ_ _ h=>h
theorem AW.trans{H H1 H2:Hp}(a:AW H H1)(b:AW H1 H2):AW H H2:=λc o h=>b c o (a c o h)
theorem AW.free{H H':Hp}(e:AW H H'){l:A2}(h:H' l=Option.none):H l=Option.none:=by
 cases q:H l with
 |none=>rfl
 |some o=>
  rw[e l o q]at h;cases h
theorem AW.seq{H H':Hp}{xs:O V}(e:AW H H')(h:sY K H a xs):sY K H' a xs:=by
 rcases h with (h|⟨o,h⟩)|h
 ·exact .inl (.inl (e _ _ h))
 ·exact .inl (.inr ⟨o,e _ _ h⟩)
 ·exact .inr h
end L2
variable{H:L2.Hp}{X:L2.Cx}{σ:L2.St}{v:L2.V}{ta te:L2.TE}{tc:L2.TT}{ts:A2->L2.TS}{J:L2.It}{vs:O L2.V}{sp:L2.Sp}{ks:O (L2.AZ×L2.V)}{H0 Hs Hb:L2.Hp}{dR:O (O L2.AZ)}
namespace P1
open L2
inductive Dt where
 |non|bl (b:Bool)|int (i:Int)|str (x:Str)|tup (xs:List Dt)|lst (xs:List Dt)|emp
inductive Bx where
 |z (d:Dt)|l (ds:List Dt)|o (ds:List Dt)|n (AQ:List (AZ×Dt))|m (AQ:List (AZ×Dt)) (w:Option Addr)
abbrev Ev:=O (S Bx)
def EZ(K:B5)(H:Hp)(a:A2)(xs:O V):Prop:=
 (∃o,H a=Z (.iU o (.lst xs))) ∨
  ∃(o:AF) (AS:Array A1) (n:Nat),K.lookup a=Z o/\o.cls=.type "list" ∧ o.dict=U/\o.data=.seq AS n/\AS.size<=AB/\AY xs AS.toList
theorem EZ.sq{xs:O V}(h:EZ K H a xs):sY K H a xs:=by
 rcases h with h|h
 ·exact .inl (.inr h)
 ·exact .inr h
mutual
def AX(K:B5)(H:Hp):Dt->V->Prop
 |.non,v=>v=.non
 |.bl b,v=>v=.bl b
 |.int i,v=>v=.int i
 |.str x,v=>v=.str x/\x.length<=AB
 |.tup ds,v=>∃a vs,v=.ref a/\xO K H a vs/\aO K H ds vs
 |.lst ds,v=>∃a vs,v=.ref a/\EZ K H a vs/\aO K H ds vs
 |.emp,v=>∃a o,v=.ref a/\H a=Z (.iU o (.dK []))
def aO(K:B5)(H:Hp):O Dt->O V->Prop
 |[],vs=>vs=[]
 |d::ds,vs=>∃v r,vs=v::r/\AX K H d v/\aO K H ds r
end
structure Kp (H H':Hp):Prop where
 t:∀a xs,H a=some (.tup xs)->H' a=some (.tup xs)
 f:∀a o u,H a=some (.iU o u)->H' a=some (.iU o u)
theorem Kp.of{H':Hp}(s:AW H H'):Kp H H':=⟨λa _ h=>s a _ h,λa _ _ h=>s a _ h⟩
theorem Kp.sqT{H':Hp}{xs:O V}(k:Kp H H')(h:xO K H a xs):xO K H' a xs:=by
 rcases h with (h|⟨o,h⟩)|h
 ·exact .inl (.inl (k.t _ _ h))
 ·exact .inl (.inr ⟨o,k.f _ _ _ h⟩)
 ·exact .inr h
theorem Kp.fzL{H':Hp}{xs:O V}(k:Kp H H')(h:EZ K H a xs):EZ K H' a xs:=by
 rcases h with⟨o,h⟩|h
 ·exact .inl ⟨o,k.f _ _ _ h⟩
 ·exact .inr h
theorem Kp.lst{xs:O V}{o:HO}(h:H a=Z (.lst xs)):Kp H (B1 H a o):=by
 refine⟨λb ys e=>?_,λb c u e=>?_⟩
 ·rw[aD (jB e h (by intro z;cases z))];exact e
 ·rw[aD (jB e h (by intro z;cases z))];exact e
theorem Kp.dk{xs:O (AZ×V)}{o:HO}(h:H a=Z (.dK xs)):Kp H (B1 H a o):=by
 refine⟨λb ys e=>?_,λb c u e=>?_⟩
 ·rw[aD (jB e h (by intro z;cases z))];exact e
 ·rw[aD (jB e h (by intro z;cases z))];exact e
mutual
theorem AX.kp{K:B5}{H H':Hp}(k:Kp H H'):∀{d:Dt} {v:V},AX K H d v->AX K H' d v
 |.non,_,h=>by simpa only[AX]using h
 |.bl _,_,h=>by simpa only[AX]using h
 |.int _,_,h=>by simpa only[AX]using h
 |.str _,_,h=>by simpa only[AX]using h
 |.tup ds,_,h=>by
  simp only[AX]at h ⊢;obtain⟨a,vs,e,q,r⟩:=h;exact⟨a,vs,e,k.sqT q,aO.kp k r⟩
 |.lst ds,_,h=>by
  simp only[AX]at h ⊢;obtain⟨a,vs,e,q,r⟩:=h;exact⟨a,vs,e,k.fzL q,aO.kp k r⟩
 |.emp,_,h=>by
  simp only[AX]at h ⊢;obtain⟨a,o,e,q⟩:=h;exact⟨a,o,e,k.f _ _ _ q⟩
theorem aO.kp{K:B5}{H H':Hp}(k:Kp H H'):∀{ds:O Dt} {vs:O V},aO K H ds vs->aO K H' ds vs
 |[],_,h=>by simpa only[aO]using h
 |d::ds,_,h=>by
  simp only[aO]at h ⊢;obtain⟨v,r,e,q,t⟩:=h;exact⟨v,r,e,AX.kp k q,aO.kp k t⟩
end
theorem aO.length{K:B5}{H:Hp}:∀{ds:O Dt} {vs:O V},aO K H ds vs->vs.length=ds.length
 |[],_,h=>by simp only[aO]at h;subst h;rfl
 |d::ds,_,h=>by
  simp only[aO]at h;obtain⟨v,r,rfl,_,t⟩:=h;simp[aO.length t]
theorem aO.nil:aO K H [] []:=by simp only[aO]
theorem aO.cons{K:B5}{H:Hp}{d:Dt}{v:V}{ds:O Dt}{vs:O V}(h:AX K H d v)(t:aO K H ds vs):aO K H (d::ds) (v::vs):=by
 simp only[aO];exact⟨v,vs,rfl,h,t⟩
theorem aO.append{K:B5}{H:Hp}:∀{ds es:O Dt} {vs us:O V},aO K H ds vs->aO K H es us->aO K H (ds++es) (vs++us)
 |[],_,_,_,h,t=>by simp only[aO]at h;subst h;exact t
 |d::ds,_,_,_,h,t=>by
  simp only[aO]at h;obtain⟨v,r,rfl,q,h⟩:=h;exact aO.cons q (aO.append h t)
theorem aO.drop{K:B5}{H:Hp}:∀(n:Nat) {ds:O Dt} {vs:O V},aO K H ds vs->aO K H (ds.drop n) (vs.drop n)
 |0,_,_,h=>h
 |n+1,[],_,h=>by simp only[aO]at h;subst h;exact aO.nil
 |n+1,d::ds,_,h=>by
  simp only[aO]at h;obtain⟨v,r,rfl,q,h⟩:=h;exact aO.drop n h
theorem aO.take{K:B5}{H:Hp}:∀(n:Nat) {ds:O Dt} {vs:O V},aO K H ds vs->aO K H (ds.take n) (vs.take n)
 |0,_,_,_=>aO.nil
 |n+1,[],_,h=>by simp only[aO]at h;subst h;exact aO.nil
 |n+1,d::ds,_,h=>by
  simp only[aO]at h;obtain⟨v,r,rfl,q,h⟩:=h;exact aO.cons q (aO.take n h)
theorem aO.get{K:B5}{H:Hp}:∀{ds:O Dt} {vs:O V} {i:Nat} {d:Dt},aO K H ds vs->ds[i]?=Z d->∃v,vs[i]?=Z v/\AX K H d v
 |[],_,_,_,_,e=>by simp at e
 |d::ds,_,0,_,h,e=>by
  simp only[aO]at h;obtain⟨v,r,rfl,q,h⟩:=h;simp at e;subst e;exact⟨v,rfl,q⟩
 |d::ds,_,i+1,_,h,e=>by
  simp only[aO]at h;obtain⟨v,r,rfl,q,h⟩:=h;obtain⟨u,e1,e2⟩:=aO.get h (i:=i) (by simpa using e);exact⟨u,by simpa using e1,e2⟩
def DL:AZ->Prop
 |.inl _=>True
 |.inr x=>x.length<=AB
def fY(K:B5)(H:Hp)(AQ:O (AZ×Dt))(ks:O (AZ×V)):Prop:=ks.map (·.1)=AQ.map (·.1)/\aO K H (AQ.map (·.2)) (ks.map (·.2))/\∀p∈AQ,DL p.1
theorem fY.kp{K:B5}{H H':Hp}{AQ:O (AZ×Dt)}{ks:O (AZ×V)}(h:fY K H AQ ks)(k:Kp H H'):fY K H' AQ ks:=⟨h.1,h.2.1.kp k,h.2.2⟩
def bh(K:B5)(H:Hp):Bx->V->Prop
 |.z d,v=>AX K H d v
 |.l ds,v=>∃a vs,v=.ref a/\Rd H a (.lst vs)/\aO K H ds vs
 |.o ds,v=>∃a vs,v=.ref a/\H a=Z (.lst vs)/\aO K H ds vs
 |.n AQ,v=>∃a ks,v=.ref a/\Rd H a (.dK ks)/\fY K H AQ ks
 |.m AQ w,v=>∃a ks,v=.ref a/\H a=Z (.dK ks)/\fY K H AQ ks/\∀b,w=Z b->b=a
theorem bh.same{H':Hp}(s:AW H H'){b:Bx}(h:bh K H b v):bh K H' b v:=by
 cases b with
 |z d=>exact AX.kp (.of s) h
 |l ds=>
  obtain⟨a,vs,e,q,r⟩:=h;refine⟨a,vs,e,?_,r.kp (.of s)⟩;rcases q with q|⟨o,q⟩
  ·exact .inl (s _ _ q)
  ·exact .inr ⟨o,s _ _ q⟩
 |o ds=>
  obtain⟨a,vs,e,q,r⟩:=h;exact⟨a,vs,e,s _ _ q,r.kp (.of s)⟩
 |n AQ=>
  obtain⟨a,vs,e,q,r⟩:=h;refine⟨a,vs,e,?_,r.kp (.of s)⟩;rcases q with q|⟨o,q⟩
  ·exact .inl (s _ _ q)
  ·exact .inr ⟨o,s _ _ q⟩
 |m AQ _=>
  obtain⟨a,vs,e,q,r⟩:=h;exact⟨a,vs,e,s _ _ q,r.1.kp (.of s),r.2⟩
def qe:Bx->S (O Dt)
 |.z (.lst ds)=>Z ds
 |.l ds=>Z ds
 |.o ds=>Z ds
 |_=>U
theorem bh.HD{b:Bx}{ds:O Dt}(h:bh K H b v)(e:qe b=Z ds):∃a vs,v=.ref a/\sY K H a vs/\aO K H ds vs:=by
 cases b with
 |z d=>
  cases d<;>first|(cases e;done)|skip;cases e;simp only[bh,AX]at h;obtain⟨a,vs,e,q,r⟩:=h;exact⟨a,vs,e,q.sq,r⟩
 |l c=>
  cases e;obtain⟨a,vs,e,q,r⟩:=h;exact⟨a,vs,e,.inl q,r⟩
 |o c=>
  cases e;obtain⟨a,vs,e,q,r⟩:=h;exact⟨a,vs,e,.inl (.inl q),r⟩
 |n _=>cases e
 |m _ _=>cases e
abbrev qg(K:B5)(H:Hp):O Bx->O V->Prop:=AJ (bh K H)
def Nw(H:Hp):Bx->V->Prop
 |.o _,v=>∀a,v=.ref a->H a=U
 |.m _ _,v=>∀a,v=.ref a->H a=U
 |_,_=>True
theorem Nw.old{H1:Hp}(s:AW H H1){b:Bx}(h:Nw H1 b v):Nw H b v:=by
 cases b with
 |o ds=>exact λa e=>s.free (h a e)
 |m ds _=>exact λa e=>s.free (h a e)
 |_=>trivial
def loose:Bx->Bool
 |.z _=>false
 |_=>true
def qj:Bx->Bool
 |.o _=>true
 |.m _ _=>true
 |_=>false
structure aV (K:B5) (H0 H:Hp) (σ:L2.St) (ρ:Ev):Prop where
 len:σ.length=ρ.length
 val:∀(i:Nat) b,ρ[i]?=some (some b)->∃v,σ[i]?=some (some v)/\bh K H b v
 own:∀(i j:Nat) c a b,ρ[i]?=some (some c)->qj c=true->σ[i]?=some (some (.ref a))->ρ[j]?=some (some b)->loose b=true->σ[j]?=some (some (.ref a))->i=j
 base:AW H0 H
 new:∀(i:Nat) c a,ρ[i]?=some (some c)->qj c=true->σ[i]?=some (some (.ref a))->H0 a=none
theorem aV.grow{H':Hp}{ρ:Ev}(r:aV K H0 H σ ρ)(s:AW H H'):aV K H0 H' σ ρ:=
 ⟨r.len,λi b e=>let ⟨v,e1,h⟩:=r.val i b e;⟨v,e1,h.same s⟩,r.own,r.base.trans s,r.new⟩
def tF(K:B5)(f:Ev->S Bx):TE:=λσ H Q=>∃H0 ρ b,aV K H0 H σ ρ/\f ρ=Z b/\∀v H',AW H H'->Nw H b v->bh K H' b v->Q v H'
def MD(K:B5)(f:Ev->S (O Bx)):TA:=λσ H Q=>∃H0 ρ bs,aV K H0 H σ ρ/\f ρ=Z bs/\∀vs H',AW H H'->qg K H' bs vs->Q vs H'
def Tf(K:B5)(f:Ev->S Bool):TT:=λσ H Q=>∃H0 ρ b,aV K H0 H σ ρ/\f ρ=Z b/\∀H',AW H H'->Q b H'
def PV(X:Cx)(e:Expr)(f:Ev->S Bx):Prop:=PE X e (tF X.K f)
structure QV (X:Cx) (e:Expr) (f:Ev->Option Bx):Prop where
 run:PV X e f
def FM(X:Cx)(es:O Expr)(f:Ev->S (O Bx)):Prop:=PA X es (MD X.K f)
structure Tg (X:Cx) (es:List Expr) (f:Ev->Option (List Bx)):Prop where
 run:FM X es f
def PB(X:Cx)(e:Expr)(f:Ev->S Bool):Prop:=PT X e (Tf X.K f)
structure QB (X:Cx) (e:Expr) (f:Ev->Option Bool):Prop where
 run:PB X e f
theorem JQ{t t':TE}(h:PE X e t)(m:∀ σ H Q,t' σ H Q->t σ H Q):PE X e t':=λAO s σ H Q I q=>h AO s σ H Q I (m σ H Q q)
theorem Mk{e:O Expr}{t t':TA}(h:PA X e t)(m:∀ σ H Q,t' σ H Q->t σ H Q):PA X e t':=λpos AO s σ H Q I q=>h pos AO s σ H Q I (m σ H Q q)
theorem L5{t t':TT}(h:PT X e t)(m:∀ σ H Q,t' σ H Q->t σ H Q):PT X e t':=λAO s σ H Q I q=>h AO s σ H Q I (m σ H Q q)
theorem LZ{t t':TT}(h:PW X e t)(m:∀ σ H Q,t' σ H Q->t σ H Q):PW X e t':=λwh AO s σ H Q I q=>h wh AO s σ H Q I (m σ H Q q)
theorem PL{e:AC}{t t':TS}(h:PS X e t)(m:∀D σ H,t' D σ H->t D σ H):PS X e t':=λAO s σ H D I q=>h AO s σ H D I (m D σ H q)
theorem FS{e:O AC}{t t':TS}(h:wM X e t)(m:∀D σ H,t' D σ H->t D σ H):wM X e t':=λAO s σ H D I q=>h AO s σ H D I (m D σ H q)
def rF(K:B5)(g:Bx->Bx->S Bx):R2:=λx y H Q=>∃a b c,bh K H a x/\bh K H b y/\g a b=Z c/\∀w H',AW H H'->Nw H c w->bh K H' c w->Q w H'
def Na(K:B5)(g:O Bx->S Bx):O V->Hp->VK->Prop:=λxs H Q=>∃bs c,qg K H bs xs/\g bs=Z c/\∀w H',AW H H'->Nw H c w->bh K H' c w->Q w H'
abbrev Ml(X:Cx)(f:A1->A1->Sem A1)(g:Bx->Bx->S Bx):Prop:=yU X f (rF X.K g)
abbrev oV(X:Cx)(f:A1)(g:O Bx->S Bx):Prop:=gq X f (Na X.K g)
theorem yU.imp{f:A1->A1->Sem A1}{r a:R2}(h:yU X f r)(m:∀x y H Q,a x y H Q->r x y H Q):yU X f a:=λAO s σ H x y v u Q I b c q=>h AO s σ H x y v u Q I b c (m x y H Q q)
theorem gq.imp{f:A1}{r a:O V->Hp->VK->Prop}(h:gq X f r)(m:∀x H Q,a x H Q->r x H Q):gq X f a:=λAO s σ H xs us Q I b q=>h AO s σ H xs us Q I b (m xs H Q q)
def b2(g:Bx->Bx->S Bx)(fa fb:Ev->S Bx):Ev->S Bx:=λρ=>(fa ρ).bind λx=>(fb ρ).bind λy=>g x y
def b1(g:Bx->S Bx)(fa:Ev->S Bx):Ev->S Bx:=λρ=>(fa ρ).bind g
def cP(g:O Bx->S Bx)(fs:Ev->S (O Bx)):Ev->S Bx:=λρ=>(fs ρ).bind g
theorem AU{α β:Type}{o:S α}{f:α->S β}{b:β}(h:o.bind f=Z b):∃a,o=Z a/\f a=Z b:=by
 cases o with
 |none=>cases h
 |some a=>exact⟨a,rfl,h⟩
theorem Xx{g:Bx->Bx->S Bx}{fa fb:Ev->S Bx}(σ:L2.St)(H:Hp)(Q:VK)(h:tF K (b2 g fa fb) σ H Q):DZ (rF K g) (tF K fa) (tF K fb) σ H Q:=by
 obtain⟨H0,ρ,c,E,e,q⟩:=h;obtain⟨a,ea,e⟩:=AU e;obtain⟨b,eb,e⟩:=AU e;refine⟨H0,ρ,a,E,ea,λv H1 d s n=>⟨H0,ρ,b,E.grow d,eb,λu H2 f p o=>?_⟩⟩;exact⟨a,b,c,n.same f,o,e,λw l j m i=>q w l ((d.trans f).trans j) (m.old (d.trans f)) i⟩
theorem DO{g:O Bx->S Bx}{fs:Ev->S (O Bx)}(σ:L2.St)(H:Hp)(Q:VK)(h:tF K (cP g fs) σ H Q):HA (Na K g) (MD K fs) σ H Q:=by
 obtain⟨H0,ρ,c,E,e,q⟩:=h;obtain⟨a,ea,e⟩:=AU e;exact⟨H0,ρ,a,E,ea,λv H1 b l=>⟨a,c,l,e,λw i f j d=>q w i (b.trans f) (j.old b) d⟩⟩
section
variable{a b:Expr}{fa fb fc f:Ev->S Bx}{fs:Ev->S (O Bx)}
theorem aW{op:Operator}{g:Bx->Bx->S Bx}(e:Ml X (binaryOp op) g)(d:QV X a fa)(c:QV X b fb):QV X (.BinOp a op b pos) (b2 g fa fb):=⟨have d:=d.run;have c:=c.run;JQ (MY e d c) Xx⟩
theorem Cy{g:Bx->Bx->S Bx}(f:Ml X (AH op) g)(d:QV X a fa)(c:QV X b fb)(e:behindInMarks op b=false):QV X (.Compare a [op] [b] pos) (b2 g fa fb):=⟨have d:=d.run;have c:=c.run;JQ (Bl f d c e) Xx⟩
def Xy:Bx->S Bool
 |.z (.bl b)=>Z b
 |_=>U
theorem Xz{b:Bx}{k:Bool}(h:bh K H b v)(e:Xy b=Z k):v=.bl k:=by
 cases b with
 |z d=>
  cases d<;>first|(cases e;done)|skip;cases e;simpa only[bh,AX]using h
 |_=>cases e
theorem gc(σ:L2.St)(H:Hp)(Q:Bool->Hp->Prop)(h:Tf K (λρ=>(f ρ).bind Xy) σ H Q):tF K f σ H (λx H'=>∃k,x=.bl k/\Q k H'):=by
 obtain⟨H0,ρ,k,E,e,q⟩:=h;obtain⟨b,eb,e⟩:=AU e;exact⟨H0,ρ,b,E,eb,λv H1 c d a=>⟨k,Xz a e,q H1 c⟩⟩
theorem cI{g:Bx->Bx->S Bx}(f:Ml X (AH op) g)(d:QV X a fa)(c:QV X b fb)(e:behindInMarks op b=false):QB X (.Compare a [op] [b] pos) (λρ=>(b2 g fa fb ρ).bind Xy):=⟨have d:=d.run;have c:=c.run;L5 (Jz f d c e) λσ H Q h=>Xx σ H _ (gc σ H Q h)⟩
def yZ(ρ:Ev)(i:Nat):S Bx:=match ρ[i]? with
 |some (Z (.o ds))=>Z (.l ds)
 |some (Z (.m AQ _))=>Z (.n AQ)
 |some (Z b)=>Z b
 |_=>U
theorem Mp{ρ:Ev}{b:Bx}(E:aV K H0 H σ ρ)(e:yZ ρ i=Z b):∃v,σ[i]?=Z (Z v)/\bh K H b v:=by
 unfold yZ at e;split at e
 ·rename_i ds h;cases e;obtain⟨v,e1,a,vs,e2,q,r⟩:=E.val i _ h;exact⟨v,e1,a,vs,e2,.inl q,r⟩
 ·rename_i ds h;cases e;obtain⟨v,e1,a,vs,e2,q,r⟩:=E.val i _ h;exact⟨v,e1,a,vs,e2,.inl q,r.1⟩
 ·rename_i c h;cases e;exact E.val i _ h
 ·cases e
theorem xT{ρ:Ev}{b:Bx}(e:yZ ρ i=Z b):qj b=false:=by
 unfold yZ at e;split at e
 ·cases e;rfl
 ·cases e;rfl
 ·rename_i a h1 h2 c;cases e;cases b with
  |o ds=>exact absurd X9 (h1 ds)
  |m ds _=>exact absurd X9 (h2 ds _)
  |_=>rfl
 ·cases e
theorem ao(i:Nat)(d:X.N[i]?=Z x:=by rfl)(c:WW X.env.scope x:=by first|exact ko rfl|exact jv (ko X9)|exact jv (jv X9))(a:bv x:=by decide)(f:(x==("__classdict__":AK))=false:=by decide):QV X (.Name x pos) (λρ=>yZ ρ i):=⟨JQ (iB d c a f) λσ H Q h=>by
 obtain⟨H0,ρ,b,E,e,q⟩:=h;obtain⟨v,e1,r⟩:=Mp E e;refine⟨v,e1,q v H (AW.refl H) ?_ r⟩;cases b with
 |o ds=>have:=xT e;cases this
 |m ds _=>have:=xT e;cases this
 |_=>trivial⟩
def cB(d:Dt):Ev->S Bx:=λ_=>Z (.z d)
theorem Ix{d:Dt}(h:PE X e (tC v))(r:∀H,AX X.K H d v):PV X e (cB d):=JQ h λσ H Q q=>by
 obtain⟨H0,ρ,b,E,e,q⟩:=q;cases e;exact q v H (AW.refl H) trivial (r H)
theorem aH{i j}:QV X (.Constant (.int i) j pos) (cB (.int i)):=⟨Ix Qa λH=>by simp only[AX]⟩
theorem wg{i j}:QV X (.Constant (.bool i) j pos) (cB (.bl i)):=⟨Ix LM λH=>by simp only[AX]⟩
theorem XC{j}(hx:x.length<=AB:=by decide):PV X (.Constant (.str x) j pos) (cB (.str x)):=Ix W1 λH=>by unfold AX;exact⟨rfl,hx⟩
def XD:Bx->S Bool
 |.z .non=>Z false
 |.z (.bl b)=>Z b
 |.z (.int i)=>Z (i != 0)
 |.z (.str x)=>Z ((x.length:Int) != 0)
 |.z (.tup ds)=>Z (!ds.isEmpty)
 |.z (.lst ds)=>Z (!ds.isEmpty)
 |.l ds=>Z (!ds.isEmpty)
 |.o ds=>Z (!ds.isEmpty)
 |.z .emp=>U
 |.n _=>U
 |.m _ _=>U
theorem aO.isEmpty{ds:O Dt}(h:aO K H ds vs):(!ds.isEmpty)=!vs.isEmpty:=by
 have:=h.length;cases ds<;>cases vs<;>simp_all
theorem ai{b:Bx}{k:Bool}(r:bh K H b v)(e:XD b=Z k):HE K v H k:=by
 cases b with
 |z d=>
  cases d with
  |non=>cases e;simp only[bh,AX]at r;subst r;rfl
  |bl b=>cases e;simp only[bh,AX]at r;subst r;rfl
  |int b=>cases e;simp only[bh,AX]at r;subst r;rfl
  |str x=>cases e;simp only[bh,AX]at r;obtain⟨rfl,h⟩:=r;exact⟨h,rfl⟩
  |tup ds=>
   cases e;simp only[bh,AX]at r;obtain⟨a,vs,rfl,q,r⟩:=r;exact .inr (.inl ⟨vs,q,r.isEmpty⟩)
  |lst ds=>
   cases e;obtain⟨a,vs,rfl,q,r⟩:=r.HD rfl;exact .inl ⟨vs,q,r.isEmpty⟩
  |emp=>cases e
 |l ds=>
  cases e;obtain⟨a,vs,rfl,q,r⟩:=r.HD rfl;exact .inl ⟨vs,q,r.isEmpty⟩
 |o ds=>
  cases e;obtain⟨a,vs,rfl,q,r⟩:=r.HD rfl;exact .inl ⟨vs,q,r.isEmpty⟩
 |n _=>cases e
 |m _ _=>cases e
theorem jY(h:QV X e f)(he:∀a,isTrue e X.env a=(do let v <-a;standAt e.pos;holding [v] (truthy v)):=by intro _;rfl):QB X e (λρ=>(f ρ).bind XD):=⟨have h:=h.run;L5 (Xg h he) λσ H Q q=>by
 obtain⟨H0,ρ,k,E,e,q⟩:=q;obtain⟨b,eb,e⟩:=AU e;exact⟨H0,ρ,b,E,eb,λv H1 d g c=>⟨k,ai c e,q H1 d⟩⟩⟩
def XF(p q:Ev->S Bool):Ev->S Bool:=λρ=>(p ρ).bind λc=>if c=true then q ρ else Z false
def WX(p q:Ev->S Bool):Ev->S Bool:=λρ=>(p ρ).bind λc=>if c=true then Z true else q ρ
def za(p:Ev->S Bool):Ev->S Bool:=λρ=>(p ρ).bind λc=>Z (!c)
def gd(X:Cx)(e:Expr)(f:Ev->S Bool):Prop:=PW X e (Tf X.K f)
structure EN (X:Cx) (e:Expr) (f:Ev->Option Bool):Prop where
 run:gd X e f
variable{p q:Ev->S Bool}{AT:O Expr}
theorem XH(b:QB X a p):EN X (.BoolOp .And [a] pos) p:=⟨have b:=b.run;bg b⟩
theorem oW(b:QB X a p):EN X (.BoolOp .Or [a] pos) p:=⟨have b:=b.run;ft b⟩
theorem PR(σ:L2.St)(H:Hp)(Q:Bool->Hp->Prop)(h:Tf K (XF p q) σ H Q):MV (Tf K p) (Tf K q) σ H Q:=by
 obtain⟨H0,ρ,k,E,e,w⟩:=h;obtain⟨c,b,e⟩:=AU e;refine⟨H0,ρ,c,E,b,λH1 a=>?_⟩;cases c with
 |true=>rw[zk rfl]at e ⊢;exact⟨H0,ρ,k,E.grow a,e,λH2 d=>w H2 (a.trans d)⟩
 |false=>rw[zw z5]at e ⊢;cases e;exact w H1 a
theorem PQ(σ:L2.St)(H:Hp)(Q:Bool->Hp->Prop)(h:Tf K (WX p q) σ H Q):LX (Tf K p) (Tf K q) σ H Q:=by
 obtain⟨H0,ρ,k,E,e,w⟩:=h;obtain⟨c,b,e⟩:=AU e;refine⟨H0,ρ,c,E,b,λH1 a=>?_⟩;cases c with
 |true=>rw[zk rfl]at e ⊢;cases e;exact w H1 a
 |false=>rw[zw z5]at e ⊢;exact⟨H0,ρ,k,E.grow a,e,λH2 d=>w H2 (a.trans d)⟩
theorem cm(d:QB X a p)(c:EN X (.BoolOp .And (b::AT) pos) q):EN X (.BoolOp .And (a::b::AT) pos) (XF p q):=⟨have d:=d.run;have c:=c.run;LZ (TW d c) PR⟩
theorem uf(d:QB X a p)(c:EN X (.BoolOp .Or (b::AT) pos) q):EN X (.BoolOp .Or (a::b::AT) pos) (WX p q):=⟨have d:=d.run;have c:=c.run;LZ (PY d c) PQ⟩
theorem JR(h:EN X e p):QB X e p:=⟨have h:=h.run;h.pt⟩
theorem pJ(b:QB X a p):QB X (.UnaryOp .Not a pos) (za p):=⟨have b:=b.run;L5 (OI b) λσ H Q h=>by
 obtain⟨H0,ρ,k,E,e,w⟩:=h;obtain⟨c,f,e⟩:=AU e;cases e;exact⟨H0,ρ,c,E,f,λH1 d=>w H1 d⟩⟩
def Ee(p:Ev->S Bool)(fa fb:Ev->S Bx):Ev->S Bx:=λρ=>(p ρ).bind λc=>if c=true then fa ρ else fb ρ
theorem XJ(j:QB X c p)(i:QV X a fa)(g:QV X b fb):QV X (.IfExp c a b pos) (Ee p fa fb):=⟨have j:=j.run;have i:=i.run;have g:=g.run;JQ (Xa j i g) λσ H Q h=>by
 obtain⟨H0,ρ,k,E,e,w⟩:=h;obtain⟨c,n,e⟩:=AU e;refine⟨H0,ρ,c,E,n,λH1 d=>?_⟩;cases c with
 |true=>rw[zk rfl]at e ⊢;exact⟨H0,ρ,k,E.grow d,e,λv H2 l f m=>w v H2 (d.trans l) (f.old d) m⟩
 |false=>rw[zw z5]at e ⊢;exact⟨H0,ρ,k,E.grow d,e,λv H2 l f m=>w v H2 (d.trans l) (f.old d) m⟩⟩
theorem Ti:FM X [] (λ_=>Z []):=Mk eY λσ H Q h=>by
 obtain⟨H0,ρ,bs,E,e,q⟩:=h;cases e;exact q [] H (AW.refl H) .nil
def aq(f:Ev->S Bx)(fs:Ev->S (O Bx)):Ev->S (O Bx):=λρ=>(f ρ).bind λb=>(fs ρ).bind λbs=>Z (b::bs)
theorem Mq(h1:PV X e f)(h2:FM X es fs)(hs:AA (e::es) X.env=(false,eval e X.env)::AA es X.env:=by rfl):FM X (e::es) (aq f fs):=Mk (bI h1 h2 hs) λσ H Q h=>by
 obtain⟨H0,ρ,bs,E,e,q⟩:=h;obtain⟨b,eb,e⟩:=AU e;obtain⟨d,i,e⟩:=AU e;cases e;refine⟨H0,ρ,b,E,eb,λv H1 a l g=>⟨H0,ρ,d,E.grow a,i,λvs H2 c j=>?_⟩⟩;exact q (v::vs) H2 (a.trans c) (.cons (g.same c) j)
def Gs:Bx->S Bx
 |.z d=>Z (.z d)
 |.o ds=>Z (.z (.lst ds))
 |.l _=>U
 |.n _=>U
 |.m _ _=>U
theorem qR{a:A2}(I:L2.AV X AO σ H s)(h:H a=Z (.lst vs)):∃o,L2.AV X AO σ (B1 H a (.iU o (.lst vs))) s:=by
 obtain⟨z,AS,n,r,e⟩:=I.hok a _ h;refine⟨{ cls:=.type "list",data:=.seq AS.toArray n },⟨I.ok,I.os,I.bare,⟨I.base.keep,I.base.slot,λb d q1 q2 q3=>?_,I.base.there,λb xs q=>?_,λb d u q=>?_,λb ps q=>?_⟩,I.loc,I.cell,?_,λx c q=>?_,λp hp=>?_,?_,I.len⟩⟩
 ·have:=I.base.free b d q1 q2 q3;rw[aD (bF h this).symm];exact this
 ·have:=I.base.tups b xs q;rw[aD (jB this h (by intro z;cases z))];exact this
 ·have:=I.base.oM b d u q;rw[aD (jB this h (by intro z;cases z))];exact this
 ·obtain⟨m,this⟩:=I.base.sX b ps q;rw[aD (jB this h (by intro z;cases z))];exact⟨m,this⟩
 ·rw[aD (bF h I.free).symm];exact I.free
 ·rw[aD (bF h (I.ju x c q)).symm];exact I.ju x c q
 ·obtain⟨q1,q2,q3⟩:=I.pin p hp;refine⟨q1,?_,q3⟩;rw[aD (bF h q2).symm];exact q2
 ·intro b u q;by_cases f:b=a
  ·subst f;rw[aF]at q;cases q;exact⟨e,z,AS,n,r,e⟩
  ·rw[aD f]at q;refine(I.hok b u q).stay (λc v _ w=>w) (λc w=>?_) (λc xs w=>?_) λc o' g w=>?_
   ·rw[aD (jB w h (by intro z;cases z))];exact w
   ·rw[aD (jB w h (by intro z;cases z))];exact w
   ·rw[aD (jB w h (by intro z;cases z))];exact w
theorem lV(h:QV X e f):QV X e (b1 Gs f):=⟨by
 have h:=h.run;intro AO s σ H Q I q;obtain⟨H0,ρ,b,E,e,q⟩:=q;obtain⟨x,ex,e⟩:=AU e;cases x with
 |z d=>
  cases e;exact h AO s σ H Q I ⟨H0,ρ,_,E,ex,λv H' s' i g=>q v H' s' trivial g⟩
 |l ds=>cases e
 |n ds=>cases e
 |m ds _=>cases e
 |o ds=>
  cases e;refine gK (h AO s σ H (λv H'=>AW H H'/\Nw H (.o ds) v/\bh X.K H' (.o ds) v) I ⟨H0,ρ,_,E,ex,λv H' s' i g=>⟨s',i,g⟩⟩) λu D w=>?_;obtain⟨v,H1,y,A,s',i,g⟩:=w;obtain⟨a,vs,rfl,j,B⟩:=g;obtain⟨o,C⟩:=qR y j;refine⟨.ref a,_,C,A,q _ _ (λc t p=>?_) trivial ?_⟩
  ·rw[aD (bF p (i a X9))];exact s' c t p
  ·simp only[bh,AX];exact⟨a,vs,rfl,.inl ⟨o,aF⟩,B.kp (.lst j)⟩⟩
def JT:O Bx->S (O Dt)
 |[]=>Z []
 |.z d::r=>(JT r).bind λds=>Z (d::ds)
 |_=>U
theorem Cz{K:B5}{H:Hp}:∀{bs:O Bx} {vs:O V} {ds:O Dt},qg K H bs vs->JT bs=Z ds->aO K H ds vs
 |_,_,_,.nil,e=>by cases e;exact aO.nil
 |b::bs,_,_,.cons h t,e=>by
  cases b with
  |z d=>
   simp only[JT]at e;obtain⟨ds',e1,e2⟩:=AU e;cases e2;exact aO.cons h (Cz t e1)
  |_=>cases e
theorem CG:∀{bs:O Bx} {ds:O Dt},JT bs=Z ds->ds.length=bs.length
 |[],_,e=>by cases e;rfl
 |.z d::r,_,e=>by
  simp only[JT]at e;obtain⟨ds',e1,e2⟩:=AU e;cases e2;simp[CG e1]
 |.l _::_,_,e=>by cases e
 |.o _::_,_,e=>by cases e
 |.n _::_,_,e=>by cases e
 |.m _ _::_,_,e=>by cases e
def sZ(bs:O Bx):S Bx:=if bs.length<=1000 then(JT bs).bind λds=>Z (.z (.tup ds))else U
def nG(bs:O Bx):S Bx:=if bs.length<=1000 then(JT bs).bind λds=>Z (.o ds)else U
theorem bC{p:A2}{o:HO}(h:H p=U):AW H (B1 H p o):=λb u e=>by rw[aD (bF e h)];exact e
theorem Lc(h:n<=1000):n<=AB:=Zl h ()
theorem ug{x1}(h:Tg X es fs):QV X (.Tuple es x1 pos) (cP sZ fs):=⟨have h:=h.run;JQ (iL h) λσ H Q q=>by
 obtain⟨H0,ρ,c,E,e,q⟩:=q;obtain⟨bs,d,e⟩:=AU e;refine⟨H0,ρ,bs,E,d,λvs H1 b f=>?_⟩;unfold sZ at e;split at e
 ·rename_i g;obtain⟨ds,e1,e⟩:=AU e;cases e;have a:=Cz f e1;refine⟨Lc (by rw[a.length,CG e1];exact g),λp hp=>q _ _ (b.trans (bC hp)) trivial ?_⟩;simp only[bh,AX];exact⟨p,vs,rfl,.inl (.inl aF),a.kp (.of (bC hp))⟩
 ·cases e⟩
theorem je(h:Tg X es fs):QV X (.List es pos) (cP nG fs):=⟨have h:=h.run;JQ (Qk h) λσ H Q q=>by
 obtain⟨H0,ρ,c,E,e,q⟩:=q;obtain⟨bs,f,e⟩:=AU e;refine⟨H0,ρ,bs,E,f,λvs H1 b g=>?_⟩;unfold nG at e;split at e
 ·rename_i i;obtain⟨ds,e1,e⟩:=AU e;cases e;have d:=Cz g e1;refine⟨Lc (by rw[d.length,CG e1];exact i),λp hp=>q _ _ (b.trans (bC hp)) (λa ea=>by cases ea;exact b.free hp) ?_⟩;exact⟨p,vs,rfl,aF,d.kp (.of (bC hp))⟩
 ·cases e⟩
theorem aU{id:String}{g:O Bx->S Bx}{p:Pos}(c:oV X (.builtin id) g)(j:Gl X x)(f:X.mg x=U)(i:AI x=Z (.builtin id))(a:Tg X (e::es) fs)(b:x ≠ "__name__":=by decide)(d:bv x:=by decide)(he:AA (e::es) X.env=(false,eval e X.env)::AA es X.env:=by rfl)(h:(AE pos (AA es X.env)).any (·.1)=false:=by rfl):QV X (.Call (.Name x p) (e::es) [] pos) (cP g fs):=⟨have a:=a.run;JQ (jD c j f i a b d he h) DO⟩
theorem eU{T:String}{g:O Bx->S Bx}{p:Pos}(c:oV X (.type T) g)(j:Gl X x)(f:X.mg x=U)(i:AI x=Z (.type T))(a:Tg X (e::es) fs)(b:x ≠ "__name__":=by decide)(d:bv x:=by decide)(he:AA (e::es) X.env=(false,eval e X.env)::AA es X.env:=by rfl)(h:(AE pos (AA es X.env)).any (·.1)=false:=by rfl):QV X (.Call (.Name x p) (e::es) [] pos) (cP g fs):=⟨have a:=a.run;JQ (Hx c j f i a b d he h) DO⟩
end
inductive Ap where
 |nx (ρ:Ev)|rt (b:Bx)|bk (ρ:Ev)|ct (ρ:Ev)
def Qt(K:B5)(H0:Hp)(D:BN):Ap->Prop
 |.nx ρ=>∀ σ H,aV K H0 H σ ρ->D.nx σ H
 |.rt b=>∀v H,AW H0 H->Nw H0 b v->bh K H b v->D.rt v H
 |.bk ρ=>∀ σ H,aV K H0 H σ ρ->D.bk σ H
 |.ct ρ=>∀ σ H,aV K H0 H σ ρ->D.ct σ H
def tG(K:B5)(g:Ev->S Ap):TS:=λD σ H=>∃H0 ρ r,aV K H0 H σ ρ/\g ρ=Z r/\Qt K H0 D r
def NW(X:Cx)(st:AC)(g:Ev->S Ap):Prop:=PS X st (tG X.K g)
structure Lx (X:Cx) (st:Stmt) (g:Ev->Option Ap):Prop where
 run:NW X st g
def S8(X:Cx)(st:O AC)(g:Ev->S Ap):Prop:=wM X st (tG X.K g)
structure PX (X:Cx) (st:List Stmt) (g:Ev->Option Ap):Prop where
 run:S8 X st g
def aJ(g1 g2:Ev->S Ap):Ev->S Ap:=λρ=>(g1 ρ).bind λr=>match r with
 |.nx a=>g2 a
 |r=>Z r
section
variable{a b:Expr}{fa fb fc f:Ev->S Bx}{fs:Ev->S (O Bx)}{AT:O AC}{g g1 g2:Ev->S Ap}
theorem aQ  :PX X [] (λρ=>Z (.nx ρ)):=⟨FS oU λD σ H h=>by
 obtain⟨H0,ρ,r,E,e,q⟩:=h;cases e;exact q σ H E⟩
theorem aC(h1:Lx X st g1)(h2:PX X AT g2):PX X (st::AT) (aJ g1 g2):=⟨have h1:=h1.run;have h2:=h2.run;FS (dU h1 h2) λD σ H h=>by
 obtain⟨H0,ρ,r,E,e,q⟩:=h;obtain⟨c,e1,e⟩:=AU e;refine⟨H0,ρ,c,E,e1,?_⟩;cases c with
 |nx a=>exact λσ' H' d=>⟨H0,a,r,d,e,q⟩
 |rt b=>cases e;exact q
 |bk a=>cases e;exact q
 |ct a=>cases e;exact q⟩
def XM:Bx->S Ap
 |.l _=>U
 |.n _=>U
 |b=>Z (.rt b)
theorem dM(h:QV X e f):Lx X (.Return (Z e) pos) (λρ=>(f ρ).bind XM):=⟨have h:=h.run;PL (Jx h) λD σ H h=>by
 obtain⟨H0,ρ,r,E,e,q⟩:=h;obtain⟨b,eb,e⟩:=AU e;refine⟨H0,ρ,b,E,eb,λv H1 c g a=>?_⟩;cases b with
 |l ds=>cases e
 |z d=>cases e;exact q v H1 (E.base.trans c) trivial a
 |o ds=>cases e;exact q v H1 (E.base.trans c) (g.old E.base) a
 |n ds=>cases e
 |m ds _=>cases e;exact q v H1 (E.base.trans c) (g.old E.base) a⟩
def CJ(i:Nat)(ρ:Ev):S Ap:=match ρ[i]? with
 |some (Z b)=>XM b
 |_=>U
theorem Bt(i:Nat){p:Pos}(g:X.N[i]?=Z x:=by rfl)(t:WW X.env.scope x:=by first|exact ko rfl|exact jv (ko X9)|exact jv (jv X9))(s:bv x:=by decide)(j:(x==("__classdict__":AK))=false:=by decide):Lx X (.Return (Z (.Name x p)) pos) (CJ i):=⟨PL (Jx (iB g t s j)) λD σ H h=>by
 obtain⟨H0,ρ,r,E,e,q⟩:=h;unfold CJ at e;split at e
 ·rename_i b c;obtain⟨v,e1,f⟩:=E.val i b c;refine⟨v,e1,?_⟩;cases b with
  |l ds=>cases e
  |z d=>cases e;exact q v H E.base trivial f
  |o ds=>cases e;exact q v H E.base (λa ea=>E.new i _ a c X9 (by rw[e1,ea])) f
  |n ds=>cases e
  |m ds _=>cases e;exact q v H E.base (λa ea=>E.new i _ a c X9 (by rw[e1,ea])) f
 ·cases e⟩
def Av(p:Ev->S Bool)(g1 g2:Ev->S Ap):Ev->S Ap:=λρ=>(p ρ).bind λk=>if k=true then g1 ρ else g2 ρ
theorem jE{p:Ev->S Bool}{u v:O AC}(d:QB X c p)(a:PX X u g1)(b:PX X v g2):Lx X (.If c u v pos) (Av p g1 g2):=⟨have d:=d.run;have a:=a.run;have b:=b.run;PL (Ma d a b) λD σ H h=>by
 obtain⟨H0,ρ,r,E,e,q⟩:=h;obtain⟨k,ek,e⟩:=AU e;refine⟨H0,ρ,k,E,ek,λH1 f=>?_⟩;cases k with
 |true=>rw[zk rfl]at e ⊢;exact⟨H0,ρ,r,E.grow f,e,q⟩
 |false=>rw[zw z5]at e ⊢;exact⟨H0,ρ,r,E.grow f,e,q⟩⟩
theorem B7{l:O α}{x y:α}(h:(l.set i x)[j]?=Z y):(j=i/\y=x/\i<l.length)\/(j≠i/\l[j]?=Z y):=by
 rw[Ki]at h;by_cases e:i=j
 ·subst e;rw[zk rfl]at h;split at h
  ·cases h;exact .inl ⟨rfl,rfl,by assumption⟩
  ·cases h
 ·rw[zw e]at h;exact .inr ⟨λz=>e z.symm,h⟩
theorem zc{l:O α}(x:α)(h:i<l.length):(l.set i x)[i]?=Z x:=by
 rw[Ki,zk rfl,zk h]
theorem qm{l:O α}(x:α)(h:j≠i):(l.set i x)[j]?=l[j]?:=by
 rw[Ki,zw (ja h)]
theorem aV.set{H1:Hp}{ρ:Ev}{b:Bx}(E:aV K H0 H σ ρ)(s:AW H H1)(r:bh K H1 b v)(w:qj b=true\/loose b=false)(n:Nw H b v):aV K H0 H1 (σ.set i (Z v)) (ρ.set i (Z b)):=by
 have C:=E.grow s;have D:∀(j:Nat) (g:Bx) (a:A2),ρ[j]?=Z (Z g)->loose g=true->σ[j]?=Z (Z (.ref a))->H a≠U:=λj g a e1 e2 e3 z=>by
  obtain⟨I,h,x⟩:=E.val j g e1;rw[e3]at h;cases h;cases g with
  |z d=>cases e2
  |l ds=>
   obtain⟨y,vs,f,q,_⟩:=x;cases f;rcases q with q|⟨o,q⟩<;>(rw[z]at q;cases q)
  |o ds=>
   obtain⟨y,vs,f,q,_⟩:=x;cases f;rw[z]at q;cases q
  |n ds=>
   obtain⟨y,vs,f,q,_⟩:=x;cases f;rcases q with q|⟨o,q⟩<;>(rw[z]at q;cases q)
  |m ds _=>
   obtain⟨y,vs,f,q,_⟩:=x;cases f;rw[z]at q;cases q
 have B:qj b=true->∀a,v=.ref a->H a=U:=λF=>by
  cases b with
  |o ds=>exact n
  |m ds _=>exact n
  |_=>cases F
 refine⟨by rw[qv,qv];exact E.len,λj g e=>?_,λj k c a g e1 p e2 e3 h f=>?_,C.base,λj c a e1 p e2=>?_⟩
 ·rcases B7 e with⟨rfl,e',hi⟩|⟨u,e'⟩
  ·cases e';exact⟨v,zc _ (by rw[E.len];exact hi),r⟩
  ·rw[qm _ u];exact C.val j g e'
 ·rcases B7 e1 with⟨rfl,e',hi⟩|⟨u,e'⟩
  ·cases e';rw[zc _ (by rw[E.len];exact hi)]at e2;cases e2;rcases B7 e3 with⟨rfl,t,_⟩|⟨A,t⟩
   ·rfl
   ·rw[qm _ A]at f;exact absurd (B p a X9) (D k g a t h f)
  ·rw[qm _ u]at e2;rcases B7 e3 with⟨rfl,t,hi⟩|⟨A,t⟩
   ·cases t;rw[zc _ (by rw[E.len];exact hi)]at f;cases f;have G:loose c=true:=by cases c<;>first|rfl|cases p
    rcases w with w|w
    ·exact absurd (B w a X9) (D j _ a e' G e2)
    ·rw[w]at h;cases h
   ·rw[qm _ A]at f;exact E.own j k c a g e' p e2 t h f
 ·rcases B7 e1 with⟨rfl,e',hi⟩|⟨u,e'⟩
  ·cases e';rw[zc _ (by rw[E.len];exact hi)]at e2;cases e2;exact E.base.free (B p a X9)
  ·rw[qm _ u]at e2;exact E.new j c a e' p e2
def XQ(ρ:Ev)(i:Nat):Bx->S Ev
 |.l _=>U
 |.n _=>U
 |b=>Z (ρ.set i (Z b))
theorem TM{H1:Hp}{ρ ρ':Ev}{b:Bx}(E:aV K H0 H σ ρ)(s:AW H H1)(r:bh K H1 b v)(n:Nw H b v)(e:XQ ρ i b=Z ρ'):aV K H0 H1 (σ.set i (Z v)) ρ':=by
 cases b with
 |l ds=>cases e
 |z d=>cases e;exact E.set s r (.inr X9) n
 |o d=>cases e;exact E.set s r (.inl X9) n
 |n ds=>cases e
 |m d _=>cases e;exact E.set s r (.inl X9) n
theorem bB(i:Nat){p:Pos}(c:X.N.Nodup)(he:QV X e f)(hi:X.N[i]?=Z x:=by rfl)(hx:D2 X.env.scope x:=by first|exact ko rfl|exact jv X9)(hs:swapsWith e (Z (.Name x p)) pos.line X.env=pure false:=by rfl)(j:X.fn x=true\/X.env.scope.names.lookup x=Z .local:=by first|exact .inl rfl|exact .inr X9):Lx X (.Assign [.Name x p] e pos) (λρ=>(f ρ).bind λb=>(XQ ρ i b).bind λρ'=>Z (.nx ρ')):=⟨have he:=he.run;PL (qQ c hi hx he hs j) λD σ H h=>by
 obtain⟨H0,ρ,r,E,e,q⟩:=h;obtain⟨b,eb,e⟩:=AU e;obtain⟨ρ',d,e⟩:=AU e;cases e;exact⟨H0,ρ,b,E,eb,λv H1 a l g=>q _ _ (TM E a g l d)⟩⟩
def Lo(σ:L2.St)(ρ:Ev)(σ':L2.St)(ρ':Ev):Prop:=∀(j:Nat) b,loose b=true->ρ'[j]?=Z (Z b)->ρ[j]?=Z (Z b)/\σ'[j]?=σ[j]?
theorem Lo.refl{σ:L2.St}{ρ:Ev}:Lo σ ρ σ ρ:=λ_ _ _ e=>⟨e,rfl⟩
theorem Lo.trans{σ g d:L2.St}{ρ f h:Ev}(a:Lo σ ρ g f)(b:Lo g f d h):Lo σ ρ d h:=λj c l e=>by
 obtain⟨e1,e2⟩:=b j c l e;obtain⟨e3,i⟩:=a j c l e1;exact⟨e3,e2.trans i⟩
theorem Lo.set{ρ:Ev}(i:Nat)(v:V)(d:Dt):Lo σ ρ (σ.set i (Z v)) (ρ.set i (Z (.z d))):=λj b l e=>by
 rcases B7 e with⟨rfl,e',_⟩|⟨a,e'⟩
 ·cases e';cases l
 ·exact⟨e',qm _ a⟩
def LL(K:B5)(g:Dt->Ev->S Ev):TG:=λv σ H Q=>∃H0 ρ d a,aV K H0 H σ ρ/\AX K H d v/\g d ρ=Z a/\∀ σ',aV K H0 H σ' a->Lo σ ρ σ' a->Q σ' H
def F0(X:Cx)(t:Expr)(g:Dt->Ev->S Ev):Prop:=PG X t (LL X.K g)
structure WY (X:Cx) (t:Expr) (g:Dt->Ev->Option Ev):Prop where
 run:F0 X t g
theorem bJ(i:Nat)(a:X.N.Nodup)(hi:X.N[i]?=Z x:=by rfl)(hx:D2 X.env.scope x:=by first|exact ko rfl|exact jv X9)(c:X.fn x=true\/X.env.scope.names.lookup x=Z .local:=by first|exact .inl rfl|exact .inr X9):WY X (.Name x pos) (λd ρ=>Z (ρ.set i (Z (.z d)))):=⟨λAO s σ H v u Q I r h=>by
 obtain⟨H0,ρ,d,g,E,f,e,q⟩:=h;cases e;exact qP a hi hx c AO s σ H v u Q I r (q _ (E.set (b:=.z d) (AW.refl H) f (.inr X9) trivial) (Lo.set i v d))⟩
theorem dl(i:Nat)(a:X.N.Nodup:=by show List.Nodup (_++_);decide +kernel)(hi:X.N[i]?=Z x:=by rfl)(hx:D2 X.env.scope x:=by first|exact ko rfl|exact jv X9)(c:X.fn x=true\/X.env.scope.names.lookup x=Z .local:=by first|exact .inl rfl|exact .inr X9):WY X (.Name x pos) (λd ρ=>Z (ρ.set i (Z (.z d)))):=bJ i a hi hx c
def Sl(K:B5)(g:O Dt->Ev->S Ev):Do:=λvs σ H Q=>∃H0 ρ ds a,aV K H0 H σ ρ/\aO K H ds vs/\g ds ρ=Z a/\∀ σ',aV K H0 H σ' a->Lo σ ρ σ' a->Q σ' H
def WA(X:Cx)(t:O Expr)(g:O Dt->Ev->S Ev):Prop:=L2.S8 X t (Sl X.K g)
structure FH (X:Cx) (t:List Expr) (g:List Dt->Ev->Option Ev):Prop where
 run:WA X t g
def NN:O Dt->Ev->S Ev
 |[],ρ=>Z ρ
 |_,_=>U
def CK(g:Dt->Ev->S Ev)(gs:O Dt->Ev->S Ev):O Dt->Ev->S Ev
 |d::ds,ρ=>(g d ρ).bind (gs ds)
 |_,_=>U
theorem Si  :FH X [] NN:=⟨λAO s σ H vs us Q I r h=>by
 obtain⟨H0,ρ,ds,b,E,a,e,q⟩:=h;cases ds with
 |nil=>cases e;unfold aO at a;exact bj AO s σ H vs us Q I r ⟨a,q _ E Lo.refl⟩
 |cons d ds=>cases e⟩
theorem CN{t:Expr}{ts:O Expr}{gt:Dt->Ev->S Ev}{gs:O Dt->Ev->S Ev}(h1:WY X t gt)(h2:FH X ts gs)(hs:(assignEach (t::ts) X.env).map (·.2)=assign t X.env::(assignEach ts X.env).map (·.2):=by rfl):FH X (t::ts) (CK gt gs):=⟨have h1:=h1.run;have h2:=h2.run;λAO s σ H vs us Q I r h=>by
 obtain⟨H0,ρ,ds,j,E,a,e,q⟩:=h;cases ds with
 |nil=>cases e
 |cons d ds=>
  unfold aO at a;obtain⟨v,o,rfl,i,n⟩:=a;simp only[CK]at e;obtain⟨b,e1,e⟩:=AU e;exact Xc h1 h2 hs AO s σ H _ us Q I r ⟨v,o,rfl,H0,ρ,d,b,E,i,e1,λp g l=>⟨H0,b,ds,j,g,n,e,λf m c=>q f m (l.trans c)⟩⟩⟩
def XR(n:Nat)(gs:O Dt->Ev->S Ev):Dt->Ev->S Ev
 |.tup ds,ρ=>if ds.length=n then gs ds ρ else U
 |_,_=>U
theorem VC{ts:O Expr}{k:Nat}{gs:O Dt->Ev->S Ev}(i:X.calm=true)(h:FH X ts gs)(g:(assignEach ts X.env).length=n:=by rfl)(j:(assignEach ts X.env).findIdx? (·.1)=U:=by rfl):WY X (.Tuple ts k pos) (XR n gs):=⟨have h:=h.run;λAO s σ H v u Q I r o=>by
 obtain⟨H0,ρ,d,m,E,b,e,q⟩:=o;cases d with
 |tup ds=>
  simp only[XR]at e;split at e
  ·rename_i l;unfold AX at b;obtain⟨a,vs,rfl,f,c⟩:=b;exact We i h g j AO s σ H _ u Q I r ⟨a,vs,rfl,f,by rw[c.length];exact l,H0,ρ,ds,m,E,c,e,q⟩
  ·cases e
 |_=>cases e⟩
theorem U'{gt:Dt->Ev->S Ev}(he:QV X e f)(a:WY X tg gt)(hs:swapsWithSole [tg] e pos.line X.env=pure false:=by rfl)(l:swappedStores [tg] e X.env=pure U:=by rfl)(h1:(assignEach [tg] X.env).map (·.2)=[assign tg X.env]:=by rfl):Lx X (.Assign [tg] e pos) (λρ=>(f ρ).bind λb=>match b with|.z d=>(gt d ρ).bind λρ'=>Z (.nx ρ')|_=>U):=⟨have he:=he.run;have a:=a.run;PL (OU he a hs l h1) λD σ H h=>by
 obtain⟨H0,ρ,r,E,e,q⟩:=h;obtain⟨b,eb,e⟩:=AU e;refine⟨H0,ρ,b,E,eb,λv H1 c m i=>?_⟩;cases b with
 |z d=>
  obtain⟨ρ',g,e⟩:=AU e;cases e;exact⟨H0,ρ,d,ρ',E.grow c,i,g,λσ' j _=>q _ _ j⟩
 |_=>cases e⟩
def GV(i j:Nat)(ρ:Ev):O Bx->S Ap
 |[.z d,.z d']=>Z (.nx ((ρ.set i (Z (.z d))).set j (Z (.z d'))))
 |_=>U
theorem XV(i j:Nat){px py pt:Pos}{kt k2 pt2}(n:X.calm=true)(m:X.N.Nodup)(c:Tg X [a,b] fs)(hi:X.N[i]?=Z x:=by rfl)(v:X.N[j]?=Z y:=by rfl)(o:i≠j:=by decide)(hx:X.env.scope.names.lookup x=Z .local:=by rfl)(u:X.env.scope.names.lookup y=Z .local:=by rfl)(w:swappedStores [.Tuple [.Name x px,.Name y py] kt pt] (.Tuple [a,b] k2 pt2) X.env=pure (Z [x,y]):=by rfl)(hs:swapsWithSole [.Tuple [.Name x px,.Name y py] kt pt] (.Tuple [a,b] k2 pt2) pos.line X.env=pure false:=by rfl):Lx X (.Assign [.Tuple [.Name x px,.Name y py] kt pt] (.Tuple [a,b] k2 pt2) pos) (λρ=>(fs ρ).bind (GV i j ρ)):=⟨have c:=c.run;PL (gp n m hi v o hx u c w hs) λD σ H h=>by
 obtain⟨H0,ρ,r,E,e,q⟩:=h;obtain⟨bs,eb,e⟩:=AU e;refine⟨H0,ρ,bs,E,eb,λvs H1 l s=>?_⟩;unfold GV at e;split at e
 ·rename_i d g;cases e;cases s with
  |cons p t=>
   cases t with
   |cons p' f=>
    cases f;refine⟨_,_,rfl,q _ _ ?_⟩;exact((E.grow l).set (b:=.z d) (AW.refl H1) p (.inr X9) trivial).set (b:=.z g) (AW.refl H1) p' (.inr X9) trivial
 ·cases e⟩
def XS(ρ:Ev)(i:Nat):Bx->S Ap
 |.z d=>match ρ[i]? with
  |some (Z (.o ds))=>if ds.length<AB then Z (.nx (ρ.set i (Z (.o (ds++[d])))))else U
  |_=>U
 |_=>U
theorem aV.ae6{ρ:Ev}{c0 c1:Bx}{a:A2}{u:HO}(E:aV K H0 H σ ρ)(h:ρ[i]?=Z (Z c0))(w:qj c0=true)(hs:σ[i]?=Z (Z (.ref a)))(k:Kp H (B1 H a u))(r:bh K (B1 H a u) c1 (.ref a)):
  aV K H0 (B1 H a u) σ (ρ.set i (Z c1)):=by
 have hi:i<ρ.length:=(cf.mp h).1;have G:H0 a=U:=E.new i c0 a h w hs;have lo:∀c,qj c=true->loose c=true:=λc N=>by cases c<;>first|rfl|cases N
 refine⟨by rw[qv];exact E.len,λj x e=>?_,λj D c f x e1 y e2 e3 P J=>?_,λc o e=>?_,λj c f e1 y e2=>?_⟩
 ·rcases B7 e with⟨rfl,e',_⟩|⟨B,e'⟩
  ·cases e';exact⟨_,hs,r⟩
  ·obtain⟨v,e1,t⟩:=E.val j x e';refine⟨v,e1,?_⟩;have A:∀f,v=.ref f->loose x=true->f≠a:=λf ev L z=>by
    subst z;exact B (E.own i j c0 _ _ h w hs e' L (by rw[e1,ev])).symm
   cases x with
   |z d=>exact AX.kp k t
   |l C=>
    obtain⟨f,s,rfl,q,p⟩:=t;refine⟨f,s,rfl,?_,p.kp k⟩;have g:=A f X9 rfl;rcases q with q|⟨o,q⟩
    ·exact .inl (by rw[aD g];exact q)
    ·exact .inr ⟨o,by rw[aD g];exact q⟩
   |o C=>
    obtain⟨f,s,rfl,q,p⟩:=t;have g:=A f X9 rfl;exact⟨f,s,rfl,by rw[aD g];exact q,p.kp k⟩
   |n C=>
    obtain⟨f,s,rfl,q,p⟩:=t;refine⟨f,s,rfl,?_,p.kp k⟩;have g:=A f X9 rfl;rcases q with q|⟨o,q⟩
    ·exact .inl (by rw[aD g];exact q)
    ·exact .inr ⟨o,by rw[aD g];exact q⟩
   |m C=>
    obtain⟨f,s,rfl,q,p⟩:=t;have g:=A f X9 rfl;exact⟨f,s,rfl,by rw[aD g];exact q,p.1.kp k,p.2⟩
 ·have F:∀(m:Nat) (b:Bx),(ρ.set i (Z c1))[m]?=Z (Z b)->loose b=true->∃b0,ρ[m]?=Z (Z b0)/\loose b0=true/\(qj b=true->qj b0=true):=λm b e l=>by
   rcases B7 e with⟨rfl,e',_⟩|⟨B,e'⟩
   ·exact⟨_,h,lo _ w,λ_=>w⟩
   ·exact⟨b,e',l,λz=>z⟩
  obtain⟨b0,q1,q2,q3⟩:=F j _ e1 (lo _ y);obtain⟨b1,I,M,_⟩:=F D _ e3 P;exact E.own j D b0 f b1 q1 (q3 y) e2 I M J
 ·rw[aD (bF e G)];exact E.base c o e
 ·rcases B7 e1 with⟨rfl,e',_⟩|⟨B,e'⟩
  ·exact E.new _ c0 f h w e2
  ·exact E.new j c f e' y e2
theorem aV.aa5{ρ:Ev}{ds es:O Dt}{a:A2}{us:O V}(E:aV K H0 H σ ρ)(h:ρ[i]?=Z (Z (.o ds)))(hs:σ[i]?=Z (Z (.ref a)))(b:H a=Z (.lst vs))(r:aO K H es us):
  aV K H0 (B1 H a (.lst us)) σ (ρ.set i (Z (.o es))):=E.ae6 h X9 hs (.lst b) ⟨a,us,rfl,aF,r.kp (.lst b)⟩
theorem CP(i:Nat){p:Pos}(he:QV X e f)(o:X.N[i]?=Z x:=by rfl)(A:WW X.env.scope x:=by first|exact ko rfl|exact jv (ko X9)|exact jv (jv X9))(w:bv x:=by decide)(t:(x==("__classdict__":AK))=false:=by decide)(l:AA [e] X.env=[(false,eval e X.env)]:=by rfl)(F:attributeBase (.Name x p) "append" X.env (eval (.Name x p) X.env)=eval (.Name x p) X.env:=by rfl)(C:((AE cpos (AA [e] X.env)).all (λx=>!x.1)&&(backToKw cpos (keywordEach [] X.env)).all (λx=>x.1.isSome)&&decide ([e].length+([]:O AD).length+(if([]:O AD).isEmpty then 0 else 1)<30))=true:=by rfl)(s:(apos.endLine==cpos.line)=true:=by rfl)(hs:swapsWith (.Call (.Attribute (.Name x p) "append" apos) [e] [] cpos) U pos.line X.env=pure false:=by rfl):Lx X (.Expr (.Call (.Attribute (.Name x p) "append" apos) [e] [] cpos) pos) (λρ=>(f ρ).bind (XS ρ i)):=⟨have he:=he.run;PL (qO (Cw kP KO KM m7 (iB (i:=i) o A w t) (bI he eY (by rw[l]<;>rfl)) F C s (by rw[l]<;>rfl) X9) hs) λD σ H h=>by
  obtain⟨H0,ρ,r,E,e,q⟩:=h;obtain⟨b,eb,e⟩:=AU e;cases b with
  |z d=>
   simp only[XS]at e;split at e
   ·rename_i ds j;split at e
    ·rename_i B;cases e;obtain⟨v,e1,a,vs,rfl,g,m⟩:=E.val i _ j;refine⟨_,e1,.inl ⟨rfl,vs,.inl (.inl g)⟩,H0,ρ,_,E,eb,λu H1 c G y=>?_⟩;have n:=E.grow c;refine⟨a,vs,u,rfl,rfl,c _ _ g,by rw[m.length];exact B,q _ _ ?_⟩;exact n.aa5 j e1 (c _ _ g) ((m.kp (.of c)).append (aO.cons y aO.nil))
    ·cases e
   ·cases e
  |_=>cases e⟩
end
def IG(x:AK):It:=⟨λi _=>i<x.cps.size,λi H v H'=>H'=H/\∃c,x.cps[i]?=Z c/\v=.str ⟨#[c]⟩,λi _=>x.cps.size<=i⟩
def X'(h:A7)(it:A2)(x:AK)(i:Nat):Prop:=∃t,h.IsStrIter it "str_ascii_iterator" x t i\/h.IsStrIter it "str_iterator" x t i
theorem Mr(it:A2)(x:AK):CC P w K tg (IG x) [it] it (λi h=>X' h it x i) where
 mem:=by simp
 obj:=λi h st b a=>by
  have e:b=it:=by simpa using a
  subst e;obtain⟨t,⟨o,e,c,d⟩|⟨o,e,c,d⟩⟩:=st
  ·exact⟨o,e,λv z=>by rw[d]at z;cases z⟩
  ·exact⟨o,e,λv z=>by rw[d]at z;cases z⟩
 keep:=λi h h' st k=>by
  obtain⟨t,⟨o,e,c⟩|⟨o,e,c⟩⟩:=st
  ·exact⟨t,.inl ⟨o,k it (by simp) o e,c⟩⟩
  ·exact⟨t,.inr ⟨o,k it (by simp) o e,c⟩⟩
 item:=by
  intro X p A u n i AO s σ H E I l st y;subst p A u;obtain⟨f0,f1,f2,f3,g,f⟩:=l it (by simp);have hi:i<x.cps.size:=y;have hx:x.cps[i]?=Z x.cps[i]:=by simp[hi]
  obtain⟨t,st|st⟩:=st
  ·refine wpAny_pyNext_ascii_item st hx λh' j m=>?_;have q:L2.AV X AO σ H { s with heap:=h',toks:=s.toks+1 }:=I.turned (λb o a e=>(m.2 b a).trans e) f0 f1 f3 g f;obtain⟨o,e,c,d⟩:=id j;exact⟨_,rfl,Hq (s:={ s with heap:=h',toks:=s.toks+1 }) e c d () ⟨.str ⟨#[x.cps[i]]⟩,H,q,⟨_,rfl⟩,⟨rfl,_,hx,rfl⟩,⟨t,.inl j⟩,λb a=>(l b a).1⟩⟩
  ·refine wpAny_pyNext_wide_item st hx λh' j m=>?_;have q:L2.AV X AO σ H { s with heap:=h',toks:=s.toks+1 }:=I.turned (λb o a e=>(m.2 b a).trans e) f0 f1 f3 g f;obtain⟨o,e,c,d⟩:=id j;exact⟨_,rfl,Hq (s:={ s with heap:=h',toks:=s.toks+1 }) e c d () ⟨.str ⟨#[x.cps[i]]⟩,H,q,⟨_,rfl⟩,⟨rfl,_,hx,rfl⟩,⟨t,.inr j⟩,λb a=>(l b a).1⟩⟩
 done:=by
  intro X p A u n i AO s σ H E I l st y;subst p A u;obtain⟨f0,f1,f2,f3,g,f⟩:=l it (by simp);have hx:x.cps[i]?=U:=by have:x.cps.size<=i:=y;simp[this]
  obtain⟨t,st|st⟩:=st
  ·exact wpAny_pyNext_ascii_end (I.ok.hd n) st hx λh' eb=>⟨rfl,I.turned (t':=s.toks) (λb o a e=>eb b o a e) f0 f1 f3 g f⟩
  ·exact wpAny_pyNext_wide_end (I.ok.hd n) st hx λh' eb=>⟨rfl,I.turned (t':=s.toks) (λb o a e=>eb b o a e) f0 f1 f3 g f⟩
 self:=λ_ _ _ _ _ st h=>by
  obtain⟨t,st|st⟩:=st
  ·exact wpAny_pyIter_striter_ascii st h
  ·exact wpAny_pyIter_striter_wide st h
def OR(K:B5)(tl:TE):TI:=λσ H R=>tl σ H λx H1=>(∃a,x=.ref a/\(∃xs,sY K H1 a xs)/\R (F6 K a) H1)\/(∃a,x=.ref a/\(∃xs,xO K H1 a xs)/\R (IM K a) H1)\/∃y,x=.str y/\R (IG y) H1
theorem Qu{l:Expr}{tl:TE}(j:PE X l tl):PI X tg l (OR X.K tl):=by
 intro AO s σ H R I h;refine gK (j AO s σ H _ I h) λv s1 ⟨x,H1,I1,r1,q1⟩=>?_;have c:∀(o:AF) (b:A2),b∈[s1.heap.objs.size]->nD X AO H1 b:=λo b g=>by
  have e:b=s1.heap.objs.size:=by simpa using g
  subst e;exact I1.Qd (zl _) (I1.hok.fresh (zl _))
 rcases q1 with⟨a,e,⟨xs,d⟩,q⟩|⟨a,e,⟨xs,d⟩,q⟩|⟨y,e,q⟩
 ·subst e;cases r1;obtain⟨AS,i,p,m⟩:=I1.list d;refine YN p.isList ?_;exact⟨s1.heap.objs.size,[s1.heap.objs.size],_,_,H1,rfl,I1.kept (t':=s1.toks) λb o e=>ze _ e,Hr a _,⟨_,zt _ rfl,rfl,rfl⟩,c default,q⟩
 ·subst e;cases r1;obtain⟨AS,i,p,m⟩:=I1.tuple d;refine wpAny_pyIter_tuple (show s1.heap.IsTuple a AS.toArray from p) ?_;exact⟨s1.heap.objs.size,[s1.heap.objs.size],_,_,H1,rfl,I1.kept (t':=s1.toks) λb o e=>ze _ e,Qe a _,⟨_,zt _ rfl,rfl,rfl⟩,c default,q⟩
 ·subst e;obtain⟨t,rfl⟩:=r1;cases f:y.cps.all (· < 128)with
  |true=>
   refine wpAny_pyIter_ascii f ?_;exact⟨s1.heap.objs.size,[s1.heap.objs.size],_,_,H1,rfl,I1.kept (t':=s1.toks) λb o e=>ze _ e,Mr _ y,⟨t,.inl ⟨_,zt _ rfl,rfl,rfl⟩⟩,c default,q⟩
  |false=>
   refine wpAny_pyIter_wide f ?_;exact⟨s1.heap.objs.size,[s1.heap.objs.size],_,_,H1,rfl,I1.kept (t':=s1.toks) λb o e=>ze _ e,Mr _ y,⟨t,.inr ⟨_,zt _ rfl,rfl,rfl⟩⟩,c default,q⟩
def B6(K:B5)(J:It)(ds:O Dt)(Hs:Hp):Prop:=∀(i:Nat) (H:Hp),AW Hs H →
 (∀d,ds[i]?=Z d->J.go i H/\∀x H',J.yld i H x H'->AW H H'/\AX K H' d x)/\(ds.length<=i->J.stop i H)
theorem B6.of{ds:O Dt}(h:∀(i:Nat) (H:Hp),AW Hs H →
  (∀d,ds[i]?=Z d->J.go i H/\∀x H',J.yld i H x H'->H'=H/\AX K H d x)/\(ds.length<=i->J.stop i H)):B6 K J ds Hs:=λi H s=>
 ⟨λd e=>⟨((h i H s).1 d e).1,λx H' y=>by
  obtain⟨rfl,r⟩:=((h i H s).1 d e).2 x H' y;exact⟨AW.refl _,r⟩⟩,(h i H s).2⟩
def C5(x:AK):O Dt:=x.cps.toList.map λc=>.str ⟨#[c]⟩
theorem B6.list{ds:O Dt}(h:sY K Hs a vs)(r:aO K Hs ds vs):B6 K (F6 K a) ds Hs:=.of λi H s=>by
 have h':=s.seq h;have c:=r.kp (.of s);refine⟨λd e=>?_,λe=>⟨vs,h',by rw[r.length];exact e⟩⟩;obtain⟨v,ev,b⟩:=c.get e;refine⟨⟨vs,v,h',ev⟩,λx H' y=>?_⟩;obtain⟨y1,y2⟩:=y;have:=y2 vs h';rw[ev]at this;cases this;exact⟨y1,b⟩
theorem B6.tup{ds:O Dt}(h:xO K Hs a vs)(r:aO K Hs ds vs):B6 K (IM K a) ds Hs:=.of λi H s=>by
 have h':=(Kp.of s).sqT h;have c:=r.kp (.of s);refine⟨λd e=>?_,λe=>⟨vs,h',by rw[r.length];exact e⟩⟩;obtain⟨v,ev,b⟩:=c.get e;refine⟨⟨vs,v,h',ev⟩,λx H' y=>?_⟩;obtain⟨y1,y2⟩:=y;have:=y2 vs h';rw[ev]at this;cases this;exact⟨y1,b⟩
theorem B6.str(x:AK):B6 K (IG x) (C5 x) Hs:=.of λi H s=>by
 refine⟨λd e=>?_,λe=>?_⟩
 ·unfold C5 at e;rw[zI]at e;cases h:x.cps.toList[i]? with
  |none=>rw[h]at e;cases e
  |some c=>
   rw[h]at e;cases e;have b:x.cps[i]?=Z c:=by simpa using h
   have hi:i<x.cps.size:=by
    have:=(cf.mp h).1;simpa using this
   refine⟨hi,λv H' y=>?_⟩;obtain⟨y1,c',a,rfl⟩:=y;rw[b]at a;cases a;refine⟨y1,?_⟩;unfold AX;exact⟨rfl,by show(1:Nat)<=AB;decide⟩
 ·have:(C5 x).length=x.cps.size:=by simp[C5]
  show x.cps.size<=i;omega
def JV(lo:Int)(n:Nat):O Dt:=(dg n).map λk=>.int (lo+(k:Nat))
theorem B6.rng(lo:Int)(n:Nat):B6 K (G' lo n) (JV lo n) Hs:=.of λi H s=>by
 refine⟨λd e=>?_,λe=>?_⟩
 ·unfold JV at e;rw[zI]at e;by_cases hi:i<n
  ·rw[y0 hi]at e;cases e;refine⟨hi,λv H' y=>?_⟩;obtain⟨y1,y2⟩:=y;refine⟨y1,?_⟩;unfold AX;exact y2
  ·rw[qk (by simp;omega)]at e;cases e
 ·have:(JV lo n).length=n:=by simp[JV]
  show n<=i;omega
def iF(K:B5)(f:Ev->S (O Dt)):TI:=λσ H R=>∃H0 ρ ds,aV K H0 H σ ρ/\f ρ=Z ds/\∀J H',AW H H' →
 (∀Hs,AW Hs H'->(∀a,H a=U->Hs a=H' a)->(∀a o u,H' a=Z (.iU o u)->Hs a=H' a)->(∀a vs,H' a=Z (.tup vs)->Hs a=H' a)->B6 K J ds Hs)->R J H'
def LJ(X:Cx)(tg iter:Expr)(f:Ev->S (O Dt)):Prop:=PI X tg iter (iF X.K f)
structure EA (X:Cx) (tg iter:Expr) (f:Ev->Option (List Dt)):Prop where
 run:LJ X tg iter f
def X3:Bx->S (O Dt)
 |.z (.lst ds)=>Z ds
 |.z (.tup ds)=>Z ds
 |.z (.str x)=>Z (C5 x)
 |.o ds=>Z ds
 |_=>U
section
variable{f:Ev->S Bx}{fs:Ev->S (O Bx)}
mutual
theorem AX.part{K:B5}{H Hs:Hp}(b:∀a o u,H a=Z (.iU o u)->Hs a=H a)(c:∀a vs,H a=Z (.tup vs)->Hs a=H a):∀{d:Dt} {v:V},AX K H d v->AX K Hs d v
 |.non,_,h=>by simpa only[AX]using h
 |.bl _,_,h=>by simpa only[AX]using h
 |.int _,_,h=>by simpa only[AX]using h
 |.str _,_,h=>by simpa only[AX]using h
 |.tup ds,_,h=>by
  simp only[AX]at h ⊢;obtain⟨a,vs,e,q,r⟩:=h;refine⟨a,vs,e,?_,aO.part b c r⟩;rcases q with (q|⟨o,q⟩)|q
  ·exact .inl (.inl ((c _ _ q).trans q))
  ·exact .inl (.inr ⟨o,(b _ _ _ q).trans q⟩)
  ·exact .inr q
 |.lst ds,_,h=>by
  simp only[AX]at h ⊢;obtain⟨a,vs,e,q,r⟩:=h;refine⟨a,vs,e,?_,aO.part b c r⟩;rcases q with⟨o,q⟩|q
  ·exact .inl ⟨o,(b _ _ _ q).trans q⟩
  ·exact .inr q
 |.emp,_,h=>by
  simp only[AX]at h ⊢;obtain⟨a,o,e,q⟩:=h;exact⟨a,o,e,(b _ _ _ q).trans q⟩
theorem aO.part{K:B5}{H Hs:Hp}(c:∀a o u,H a=Z (.iU o u)->Hs a=H a)(b:∀a vs,H a=Z (.tup vs)->Hs a=H a):∀{ds:O Dt} {vs:O V},aO K H ds vs->aO K Hs ds vs
 |[],_,h=>by simpa only[aO]using h
 |d::ds,_,h=>by
  simp only[aO]at h ⊢;obtain⟨v,r,e,q,t⟩:=h;exact⟨v,r,e,AX.part c b q,aO.part c b t⟩
end
theorem qT(h:QV X e f):EA X tg e (λρ=>(f ρ).bind X3):=⟨have h:=h.run;λAO s σ H R I q=>by
 refine Qu h AO s σ H R I ?_;obtain⟨H0,ρ,ds,E,e,q⟩:=q;obtain⟨b,eb,e⟩:=AU e;refine⟨H0,ρ,b,E,eb,λv H1 u y j=>?_⟩;cases b with
 |z d=>
  cases d with
  |tup p=>
   cases e;simp only[bh,AX]at j;obtain⟨a,vs,rfl,c,t⟩:=j;refine .inr (.inl ⟨a,rfl,⟨vs,c⟩,q _ _ u λHs hs w g i=>.tup ?_ (t.part g i)⟩);rcases c with (c|⟨o,c⟩)|c
   ·exact .inl (.inl ((i _ _ c).trans c))
   ·exact .inl (.inr ⟨o,(g _ _ _ c).trans c⟩)
   ·exact .inr c
  |lst p=>
   cases e;simp only[bh,AX]at j;obtain⟨a,vs,rfl,c,t⟩:=j;refine .inl ⟨a,rfl,⟨vs,c.sq⟩,q _ _ u λHs hs w g i=>.list ?_ (t.part g i)⟩;rcases c with⟨o,c⟩|c
   ·exact .inl (.inr ⟨o,(g _ _ _ c).trans c⟩)
   ·exact .inr c
  |str x=>
   cases e;simp only[bh,AX]at j;obtain⟨rfl,_⟩:=j;exact .inr (.inr ⟨x,rfl,q _ _ u λHs hs w g i=>.str x⟩)
  |_=>cases e
 |l p=>cases e
 |n p=>cases e
 |m p=>cases e
 |o p=>
  cases e;obtain⟨a,vs,rfl,c,t⟩:=j;refine .inl ⟨a,rfl,⟨vs,.inl (.inl c)⟩,q _ _ u λHs hs w g i=>.list (.inl (.inl ((w a (y a X9)).trans c))) (t.part g i)⟩⟩
def L9:O Bx->S (O Dt)
 |[.z (.int j)]=>if -(2 ^ 62)<=j/\j<2 ^ 62 then Z (JV 0 j.toNat)else U
 |_=>U
theorem nH{p:Pos}(g:Gl X "range")(d:X.mg "range"=U)(a:Tg X [e] fs)(hs:AA [e] X.env=[(false,eval e X.env)]:=by rfl):EA X tg (.Call (.Name "range" p) [e] [] pos) (λρ=>(fs ρ).bind L9):=⟨have a:=a.run;λAO s σ H R I q=>by
 refine Vi g d a hs AO s σ H R I ?_;obtain⟨H0,ρ,ds,E,e,q⟩:=q;obtain⟨bs,eb,e⟩:=AU e;refine⟨H0,ρ,bs,E,eb,λvs H1 c f=>?_⟩;unfold L9 at e;split at e
 ·rename_i j;split at e
  ·rename_i b;cases e;cases f with
   |cons p t=>
    cases t;simp only[bh,AX]at p;subst p;exact⟨j,rfl,b.1,b.2,q _ _ c λHs _ _ _ _=>.rng 0 _⟩
  ·cases e
 ·cases e⟩
def pK(gt:Dt->Ev->S Ev)(gb:Ev->S Ap):O Dt->Ev->S Ap
 |[],ρ=>Z (.nx ρ)
 |d::ds,ρ=>(gt d ρ).bind λc=>(gb c).bind λr=>match r with
  |.nx a=>pK gt gb ds a
  |.ct a=>pK gt gb ds a
  |.bk a=>Z (.nx a)
  |.rt b=>Z (.rt b)
noncomputable def dw(H:Hp)(σ:L2.St)(ρ:Ev):Hp:=λa=>@ite _ (∃(i:Nat) (c:Bx),ρ[i]?=Z (Z c)/\qj c=true/\σ[i]?=Z (Z (.ref a))) (Classical.propDecidable _) U (H a)
theorem lX{ρ:Ev}:AW (dw H σ ρ) H:=λa o e=>by
 unfold dw at e;split at e
 ·cases e
 ·exact e
theorem aV.rebase{ρ:Ev}(E:aV K Hs H σ ρ)(s:AW H0 Hs):aV K H0 H σ ρ:=⟨E.len,E.val,E.own,s.trans E.base,λi c a e1 b e2=>s.free (E.new i c a e1 b e2)⟩
theorem aV.sans{ρ:Ev}(E:aV K H0 H σ ρ):aV K (dw H σ ρ) H σ ρ:=⟨E.len,E.val,E.own,lX,λi c a e1 b e2=>by
 unfold dw;rw[zk ⟨i,c,e1,b,e2⟩]⟩
theorem aV.sub{ρ:Ev}(E:aV K H0 H σ ρ):AW H0 (dw H σ ρ):=λa o e=>by
 unfold dw;split
 ·rename_i h;obtain⟨i,c,e1,b,e2⟩:=h;rw[E.new i c a e1 b e2]at e;cases e
 ·exact E.base a o e
theorem fL{ρ:Ev}(E:aV K H0 H σ ρ)(h:∀vs,H a≠Z (.lst vs))(h2:∀vs,H a≠Z (.dK vs)):dw H σ ρ a=H a:=by
 unfold dw;split
 ·rename_i f;obtain⟨i,c,e1,e,e2⟩:=f;obtain⟨v,e3,d⟩:=E.val i _ e1;rw[e2]at e3;cases e3;cases c with
  |o ds=>obtain⟨g,vs,b,q,_⟩:=d;cases b;exact absurd q (h vs)
  |m ds _=>obtain⟨g,vs,b,q,_⟩:=d;cases b;exact absurd q (h2 vs)
  |_=>cases e
 ·rfl
theorem Qt.rebase{K:B5}{H0 Hs:Hp}{D:BN}{r:Ap}(s:AW H0 Hs)(h:Qt K H0 D r):Qt K Hs D r:=by
 cases r with
 |nx ρ=>exact λσ H E=>h σ H (E.rebase s)
 |bk ρ=>exact λσ H E=>h σ H (E.rebase s)
 |ct ρ=>exact λσ H E=>h σ H (E.rebase s)
 |rt b=>exact λv H s' n r=>h v H (s.trans s') (n.old s) r
theorem qp{gt:Dt->Ev->S Ev}{gb:Ev->S Ap}{ds:O Dt}{H1:Hp}{ρ:Ev}{D:BN}{r:Ap}(p:aV X.K H0 H1 σ ρ)(Y:B6 X.K J ds (dw H1 σ ρ))(e:pK gt gb ds ρ=Z r)(q:Qt X.K H0 D r):
  ∃W:Nat->Nat->L2.St->Hp->Prop,(∃m,W 0 m σ H1)/\∀i m σ H,W i m σ H →
   (J.stop i H/\D.nx σ H)\/(J.go i H/\∃N:L2.St->Hp->Prop,(∀ σ' H',N σ' H'->∃o,o<m/\W (i+1) o σ' H')/\∀x H',J.yld i H x H'->LL X.K gt x σ H' λc H2=>tG X.K gb { D with nx:=N,ct:=N,bk:=D.nx } c H2):=by
 have l:=p.sans;have q2:=q.rebase p.sub;generalize dw H1 σ ρ=Hs at Y l q2;refine⟨λi m σ' H'=>m=ds.length-i/\i<=ds.length/\∃d,aV X.K Hs H' σ' d/\pK gt gb (ds.drop i) d=Z r,⟨ds.length,by simp,qi _,ρ,l,by simpa using e⟩,?_⟩;rintro i m σ' H' ⟨rfl,B,d,h,e'⟩;obtain⟨y1,y2⟩:=Y i H' h.base;by_cases g:i<ds.length
 ·right;have z:ds[i]?=Z ds[i]:=by simp[g]
  obtain⟨go,u⟩:=y1 _ z;rw[YI g]at e';simp only[pK]at e';obtain⟨t,e1,e'⟩:=AU e';obtain⟨n,e2,e'⟩:=AU e';refine⟨go,λc H2=>∃a,aV X.K Hs H2 c a/\pK gt gb (ds.drop (i+1)) a=Z r,λc H2 ⟨a,f,e3⟩=>⟨ds.length-(i+1),by omega,rfl,g,a,f,e3⟩,λx H2 v=>?_⟩;obtain⟨w,A⟩:=u x H2 v;refine⟨Hs,d,ds[i],t,h.grow w,A,e1,λC f _=>⟨Hs,t,n,f,e2,?_⟩⟩;cases n with
  |nx a=>exact λc y j=>⟨a,j,e'⟩
  |ct a=>exact λc y j=>⟨a,j,e'⟩
  |bk a=>cases e';exact q2
  |rt b=>cases e';exact q2
 ·left;have s:ds.length<=i:=by omega
  refine⟨y2 s,?_⟩;rw[gm s]at e';cases e';exact q2 σ' H' h
theorem qU{fi:Ev->S (O Dt)}{gt:Dt->Ev->S Ev}{gb:Ev->S Ap}(hp:PassesOwn (db X) X.A X.env X.xe)(B:X.calm=true)(hi:EA X tg iter fi)(j:WY X tg gt)(f:PX X body gb)(hs:∀x,foldedSetIterable iter X.env x=pure x:=by intro _;rfl):Lx X (.For tg iter body [] pos) (λρ=>(fi ρ).bind λds=>pK gt gb ds ρ):=⟨have hi:=hi.run;have j:=j.run;have f:=f.run;PL (Jy hp B hi j f hs) λD σ H h=>by
 obtain⟨H0,ρ,r,E,e,q⟩:=h;obtain⟨ds,C,e⟩:=AU e;refine⟨H0,ρ,ds,E,C,λJ H1 s y=>?_⟩;have d:=E.grow s;refine qp d ?_ e q;refine y _ lX (λa b=>?_) (λa o u b=>fL d (λvs z=>by rw[b]at z;cases z) (λvs z=>by rw[b]at z;cases z)) λa vs b=>fL d (λvs z=>by rw[b]at z;cases z) (λvs z=>by rw[b]at z;cases z);unfold dw;split
 ·rename_i p;obtain⟨i,c,e1,n,e2⟩:=p;obtain⟨v,e3,l⟩:=E.val i _ e1;rw[e2]at e3;cases e3;cases c with
  |o ds=>obtain⟨t,vs,g,q,_⟩:=l;cases g;rw[b]at q;cases q
  |m ds _=>obtain⟨t,vs,g,q,_⟩:=l;cases g;rw[b]at q;cases q
  |_=>cases n
 ·rfl⟩
theorem aV.lend{ρ:Ev}{ds:O Dt}(E:aV K H0 H σ ρ)(h:ρ[i]?=Z (Z (.o ds))):aV K H0 H σ (ρ.set i (Z (.l ds))):=by
 have f:∀(j:Nat) (b:Bx),(ρ.set i (Z (.l ds)))[j]?=Z (Z b)->(j=i/\b=.l ds)\/(j≠i/\ρ[j]?=Z (Z b)):=λj b e=>by
  rcases B7 e with⟨rfl,e',_⟩|⟨g,e'⟩
  ·cases e';exact .inl ⟨rfl,rfl⟩
  ·exact .inr ⟨g,e'⟩
 refine⟨by rw[qv];exact E.len,λj b e=>?_,λj k c a b e1 d e2 e3 p m=>?_,E.base,λj c a e1 d e2=>?_⟩
 ·rcases f j b e with⟨rfl,rfl⟩|⟨g,e'⟩
  ·obtain⟨v,e1,a,vs,e2,q,r⟩:=E.val _ _ h;exact⟨v,e1,a,vs,e2,.inl q,r⟩
  ·exact E.val j b e'
 ·rcases f j _ e1 with⟨rfl,z⟩|⟨g,e'⟩
  ·subst z;cases d
  ·rcases f k _ e3 with⟨rfl,z⟩|⟨s,n⟩
   ·exact E.own j _ c a _ e' d e2 h X9 m
   ·exact E.own j k c a b e' d e2 n p m
 ·rcases f j _ e1 with⟨rfl,z⟩|⟨g,e'⟩
  ·subst z;cases d
  ·exact E.new j c a e' d e2
def uh(i:Nat)(gt:Dt->Ev->S Ev)(gb:Ev->S Ap)(ρ:Ev):S Ap:=match ρ[i]? with
 |some (Z (.o ds))=>pK gt gb ds (ρ.set i (Z (.l ds)))
 |some (Z (.l ds))=>pK gt gb ds ρ
 |some (Z b)=>(X3 b).bind λds=>pK gt gb ds ρ
 |_=>U
theorem X4{ρ:Ev}{ds:O Dt}(E:aV X.K H0 H σ ρ)(h:ρ[i]?=Z (Z (.l ds))):∃a vs,σ[i]?=Z (Z (.ref a))/\sY X.K H a vs/\B6 X.K (F6 X.K a) ds (dw H σ ρ):=by
 obtain⟨v,e1,a,vs,rfl,q,r⟩:=E.val i _ h;have hk:dw H σ ρ a=H a:=by
  unfold dw;split
  ·rename_i f;obtain⟨j,c,e2,e,e3⟩:=f;have:=E.own j i c a _ e2 e e3 h X9 e1;subst this;rw[h]at e2;cases e2;cases e
  ·rfl
 refine⟨a,vs,e1,.inl q,.list (.inl ?_) (r.part (λb o u d=>fL E (λvs z=>by rw[d]at z;cases z) (λvs z=>by rw[d]at z;cases z)) λb g d=>fL E (λvs z=>by rw[d]at z;cases z) (λvs z=>by rw[d]at z;cases z))⟩;rcases q with q|⟨o,q⟩
 ·exact .inl (hk.trans q)
 ·exact .inr ⟨o,hk.trans q⟩
theorem Tj(i:Nat){p:Pos}{gt:Dt->Ev->S Ev}{gb:Ev->S Ap}(hp:PassesOwn (db X) X.A X.env X.xe)(P:X.calm=true)(C:WY X tg gt)(f:PX X body gb)(K:X.N[i]?=Z x:=by rfl)(W:WW X.env.scope x:=by first|exact ko rfl|exact jv (ko X9)|exact jv (jv X9))(Q:bv x:=by decide)(M:(x==("__classdict__":AK))=false:=by decide)(hs:∀y,foldedSetIterable (.Name x p) X.env y=pure y:=by intro _;rfl):Lx X (.For tg (.Name x p) body [] pos) (uh i gt gb):=⟨have C:=C.run;have f:=f.run;PL (Jy hp P (Qu (iB (i:=i) K W Q M)) C f hs) λD σ H h=>by
 obtain⟨H0,ρ,r,E,e,q⟩:=h;unfold uh at e;split at e
 ·rename_i ds j;have I:=E.lend j;have hi:i<ρ.length:=(cf.mp j).1;obtain⟨a,vs,e1,sq,Y⟩:=X4 I (zc _ hi);exact⟨_,e1,.inl ⟨a,rfl,⟨vs,sq⟩,qp I Y e q⟩⟩
 ·rename_i ds j;obtain⟨a,vs,e1,sq,Y⟩:=X4 E j;exact⟨_,e1,.inl ⟨a,rfl,⟨vs,sq⟩,qp E Y e q⟩⟩
 ·rename_i b L n2 j;obtain⟨ds,g,e⟩:=AU e;obtain⟨v,e1,s⟩:=E.val i _ j;have B:∀b o u,H b=Z (.iU o u)->dw H σ ρ b=H b:=λb o u f=>fL E (λvs z=>by rw[f]at z;cases z) (λvs z=>by rw[f]at z;cases z);have G:∀b J,H b=Z (.tup J)->dw H σ ρ b=H b:=λb J f=>fL E (λvs z=>by rw[f]at z;cases z) (λvs z=>by rw[f]at z;cases z);cases b with
  |z d=>
   cases d with
   |tup t=>
    cases g;simp only[bh,AX]at s;obtain⟨a,vs,rfl,c,F⟩:=s;refine⟨_,e1,.inr (.inl ⟨a,rfl,⟨vs,c⟩,qp E (.tup ?_ (F.part B G)) e q⟩)⟩;rcases c with (c|⟨o,c⟩)|c
    ·exact .inl (.inl ((G _ _ c).trans c))
    ·exact .inl (.inr ⟨o,(B _ _ _ c).trans c⟩)
    ·exact .inr c
   |lst t=>
    cases g;simp only[bh,AX]at s;obtain⟨a,vs,rfl,c,F⟩:=s;refine⟨_,e1,.inl ⟨a,rfl,⟨vs,c.sq⟩,qp E (.list ?_ (F.part B G)) e q⟩⟩;rcases c with⟨o,c⟩|c
    ·exact .inl (.inr ⟨o,(B _ _ _ c).trans c⟩)
    ·exact .inr c
   |str x=>
    cases g;simp only[bh,AX]at s;obtain⟨rfl,_⟩:=s;exact⟨_,e1,.inr (.inr ⟨x,rfl,qp E (.str x) e q⟩)⟩
   |_=>cases g
  |l t=>cases g
  |o t=>exact absurd X9 (L t)
  |n t=>cases g
  |m t=>cases g
 ·cases e⟩
end
def CD(a:O (AK×A2)):O (AK×A2)->Prop
 |[]=>True
 |(n,c)::r=>a.lookup n=Z c/\CD a r
theorem CD.get{a:O (AK×A2)}:∀{cl:O (AK×A2)},CD a cl->∀{x:AK} {c:A2},cl.lookup x=Z c->a.lookup x=Z c
 |[],_,_,_,e=>by cases e
 |(n,d)::r,h,x,c,e=>by
  rw[xf]at e;by_cases hx:x==n
  ·simp only[hx]at e;cases e;have:x=n:=by simpa using hx
   rw[this];exact h.1
  ·have hx:(x==n)=false:=by simpa using hx
   simp only[hx]at e;exact CD.get h.2 e
structure NU (X:Cx) (scope:Scope) (cl:List (Str×Addr)) (x:Str) (i:Nat):Prop where
 n:X.N[i]?=some x
 k:X.env.kindOf x=some .cell\/X.env.kindOf x=some .free
 k':(relabel scope X.env).names.lookup x=some .cell\/(relabel scope X.env).names.lookup x=some .free
 c:∃c,cl.lookup x=some c
def Gu(X:Cx)(scope:Scope)(cl:O (AK×A2)):An->O Nat->Prop
 |[],[]=>True
 |x::xs,i::is=>NU X scope cl x i/\Gu X scope cl xs is
 |_,_=>False
theorem Gu.get{X:Cx}{scope:Scope}{cl:O (AK×A2)}:∀{xs:An} {is:O Nat},Gu X scope cl xs is->xs.length=is.length/\∀(j:Nat) (x:AK),xs[j]?=Z x->∃i,is[j]?=Z i/\NU X scope cl x i
 |[],[],_=>⟨rfl,λj x e=>by simp at e⟩
 |x::xs,i::is,h=>by
  obtain⟨h1,h2⟩:=h;obtain⟨l,g⟩:=Gu.get h2;refine⟨by simp[l],λj y e=>?_⟩;cases j with
  |zero=>simp at e;subst e;exact⟨i,rfl,h1⟩
  |succ j=>obtain⟨k,e1,e2⟩:=g j y (by simpa using e);exact⟨k,by simpa using e1,e2⟩
 |[],_::_,h=>h.elim
 |_::_,[],h=>h.elim
def LF(names:O (AK×NameKind))(x:AK):Bool:=match names.lookup x with
 |some .cell=>true
 |_=>false
def um(X:Cx)(a:An)(scope:Scope)(cl:O (AK×A2))(C:A2)(s₀:A3)(H₀:Hp)(fp:O A2):Cx:=
 { X with N:=a,s₀:=s₀,H₀:=H₀,env:=compEnvC scope (cellsFrom (C+1) scope.names cl) C X.env,outer:=X.stack,ex:=fp,fn:=LF scope.names,pn:=[],xe:=λ_ _=>False }
structure L4 (h:Heap) (cs:List (Str×Addr)):Prop where
 inj:∀x y c,cs.lookup x=some c->cs.lookup y=some c->x=y
 cell:∀x c,cs.lookup x=some c->∃v,h.IsCell c v
theorem jw{n:AK}{a:α}{l:O (AK×α)}(h:x≠n):((n,a)::l).lookup x=l.lookup x:=by
 rw[xf,beq_eq_false_iff_ne.mpr h]
theorem X5:∀(names:O (AK×NameKind)) (h:A7) (d:O (AK×A2)),L4 h d->L4 (pushCells h names) (cellsFrom h.objs.size names d)
 |[],_,_,x=>x
 |(n,k)::r,h,d,x=>by
  unfold pushCells cellsFrom;split
  ·have g:∀y c,d.lookup y=Z c->c≠h.objs.size:=λy c e=>let ⟨_,q⟩:=x.cell y c e;zS q.lt;have:=X5 r (h.push { cls:=.type "cell",data:=.cell U }) ((n,h.objs.size)::d) ⟨λy z c e1 e2=>?_,λy c e=>?_⟩
   ·rwa [qB]at this
   ·by_cases a:y=n<;>by_cases f:z=n
    ·rw[a,f]
    ·subst a;rw[k9]at e1;rw[jw f]at e2;cases e1;exact absurd X9 (g _ _ e2)
    ·subst f;rw[k9]at e2;rw[jw a]at e1;cases e2;exact absurd X9 (g _ _ e1)
    ·rw[jw a]at e1;rw[jw f]at e2;exact x.inj y z c e1 e2
   ·by_cases a:y=n
    ·subst a;rw[k9]at e;cases e;exact⟨U,_,zt _ rfl,rfl⟩
    ·rw[jw a]at e;obtain⟨v,q⟩:=x.cell y c e;exact⟨v,q.keeps λb o e=>ze _ e⟩
  ·exact X5 r h d x
theorem u9:∀(names:O (AK×NameKind)) (n:Nat) (a:O (AK×A2)) (x:AK) (c:A2),(cellsFrom n names a).lookup x=Z c->a.lookup x=Z c\/n<=c
 |[],_,_,_,_,e=>.inl e
 |(m,k)::r,n,a,x,c,e=>by
  unfold cellsFrom at e;split at e
  ·rcases u9 r _ _ x c e with h|h
   ·by_cases hx:x=m
    ·subst hx;rw[k9]at h;cases h;exact .inr (zl _)
    ·rw[jw hx]at h;exact .inl h
   ·exact .inr ()
  ·exact u9 r _ _ x c e
theorem JW:∀(names:O (AK×NameKind)) (n:Nat) (a:O (AK×A2)) (x:AK),(x,NameKind.cell)∉names->(cellsFrom n names a).lookup x=a.lookup x
 |[],_,_,_,_=>rfl
 |(m,k)::r,n,a,x,h=>by
  unfold cellsFrom;have b:(x,NameKind.cell)∉r:=λz=>h (zh _ z);split
  ·rename_i hk;rw[JW r _ _ x b,jw λz=>h (by rw[z,<-beq_iff_eq.mp hk];exact zg ..)]
  ·exact JW r _ _ x b
theorem Qv:∀(names:O (AK×NameKind)) (n:Nat) (a:O (AK×A2)) (x:AK),((x,NameKind.cell)∈names\/∃c,a.lookup x=Z c)->∃c,(cellsFrom n names a).lookup x=Z c
 |[],_,_,_,h=>h.elim (λz=>by simp at z) λz=>z
 |(m,k)::r,n,a,x,h=>by
  unfold cellsFrom;split
  ·refine Qv r _ _ x ?_;by_cases hx:x=m
   ·exact .inr ⟨n,by rw[hx,k9]⟩
   ·rw[jw hx];exact h.imp_left λz=>(List.mem_cons.mp z).elim (λz=>absurd (congrArg Prod.fst z) hx) λz=>z
  ·rename_i hk;exact Qv r _ _ x (h.imp_left λz=>(List.mem_cons.mp z).elim (λz=>by cases z;exact absurd X9 hk) λz=>z)
theorem HF{g:A2}{Q:Env->A3->Prop}(h:Q (newEnv scope s.heap.objs.size g (cellsFrom (s.heap.objs.size+1) scope.names cl) qual U .none (Z env) builtinsNs) { s with heap:=pushCells (s.heap.push { cls:=.type "dict",data:=.dict #[] }) scope.names }):
  A8 M A (newFunctionEnv scope g cl [] qual U .none (Z env)) Q E s:=by
 simp only[newFunctionEnv,m3,QU];refine zb (wpAny_alloc ?_);refine zb (wpAny_layCells _ (λname a b=>by cases a==NameKind.cell<;>simp) _ _ _ _ ?_);rw[show({ s with heap:=s.heap.push { cls:=.type "dict",data:=.dict #[] } }:A3).heap.objs.size=s.heap.objs.size+1 from qB ..];rw[List.forIn_nil];exact zb (zd (zd h))
structure nJ (X:Cx) (scope:Scope) (cl:List (Str×Addr)) (xs:An) (is:List Nat):Prop where
 clos:closureFor scope X.env=pure cl
 kind:scope.kind=.function
 cell:∀y∈scope.names,y.2=.cell->cl.lookup y.1=none
 names:∀y∈scope.names,y.2=.local->scope.names.lookup y.1=some .local
 sub:CD X.env.cells cl
 has:∀x,((relabel scope X.env).names.lookup x=some .cell\/(relabel scope X.env).names.lookup x=some .free)->(x,NameKind.cell)∈scope.names\/∃c,cl.lookup x=some c
 cap:Gu X scope cl xs is
def vU(is:O Nat)(σ:L2.St):L2.St:=is.map λi=>(σ[i]?).bind λv=>v
def ji(is:O Nat)(ρ:Ev):Ev:=is.map λi=>yZ ρ i
def X6(n m:Nat)(g:Dt->Ev->S Ev):Prop:=∀d ρ a,g d ρ=Z a->a.length=ρ.length/\∀j,j<n\/m<=j->a[j]?=ρ[j]?
theorem dJ{m:Nat}(h:n<=i:=by decide)(h':i<m:=by decide):X6 n m (λd ρ=>Z (ρ.set i (Z (.z d)))):=λd ρ b e=>by
 cases e;exact⟨by rw[qv],λj a=>qm _ ()⟩
def zf(gt:Dt->Ev->S Ev)(p:Ev->S Bool)(fs:Ev->S (O Dt))(ρ:Ev):O Dt->S (O Dt)
 |[]=>Z []
 |d::ds=>(gt d ρ).bind λa=>(p a).bind λk=>if k=true then(fs a).bind λys=>(zf gt p fs ρ ds).bind λzs=>Z (ys++zs)else zf gt p fs ρ ds
def HU:Bx->S (O Dt)
 |.z y=>Z [y]
 |_=>U
def z6(gt:Dt->Ev->S Ev)(p:Ev->S Bool)(fe:Ev->S Bx)(ρ:Ev):O Dt->S (O Dt):=zf gt p (λρ=>(fe ρ).bind HU) ρ
theorem zj{b:Bx}{ys:O Dt}(h:HU b=Z ys):∃y,b=.z y/\ys=[y]:=by
 cases b<;>cases h;exact⟨_,rfl,rfl⟩
theorem vA{gt:Dt->Ev->S Ev}{p:Ev->S Bool}{fe:Ev->S Bx}{ρ:Ev}:∀{ds out:O Dt},z6 gt p fe ρ ds=Z out->out.length<=ds.length
 |[],_,e=>by cases e;exact zl _
 |d::ds,out,e=>by
  simp only[z6,zf]at e;obtain⟨f,_,e⟩:=AU e;obtain⟨k,_,e⟩:=AU e;cases k with
  |false=>
   rw[zw z5]at e;exact Zl (vA (gt:=gt) (p:=p) (fe:=fe) e) (by simp)
  |true=>
   rw[zk rfl]at e;obtain⟨ys,a,e⟩:=AU e;obtain⟨zs,c,e⟩:=AU e;obtain⟨b,_,a⟩:=AU a;obtain⟨y,_,rfl⟩:=zj a;cases e;simpa using vA (gt:=gt) (p:=p) (fe:=fe) c
def C9(X:Cx)(ifs:O Expr)(p:Ev->S Bool):Prop:=(ifs=[]/\p=λ_=>Z true)\/∃c,ifs=[c]/\PB X c p
structure uo (X:Cx) (ifs:List Expr) (p:Ev->Option Bool):Prop where
 run:C9 X ifs p
section
variable{ts:An}{gt:Dt->Ev->S Ev}{p:Ev->S Bool}{fe:Ev->S Bx}{fi:Ev->S (O Dt)}
theorem Ms{s:Hp}{d:A3}(a:L2.AV X AO σ s d)(O:nJ X scope cl xs is)(w:∀b∈fp,nD X AO s b)(A:∀b∈fp,b<d.heap.objs.size):
  L2.AV (um X (xs++ts) scope cl d.heap.objs.size d s fp) [] (vU is σ++ba ts.length U) s { d with heap:=pushCells (d.heap.push { cls:=.type "dict",data:=.dict #[] }) scope.names }:=by
 obtain⟨P,Y⟩:=O.cap.get;have m:=O.sub;have H:(d.heap.push { cls:=.type "dict",data:=.dict #[] }).objs.size=d.heap.objs.size+1:=qB ..;have hk:∀b o,d.heap.get? b=Z o->(pushCells (d.heap.push { cls:=.type "dict",data:=.dict #[] }) scope.names).get? b=Z o:=λb o e=>pushCells_keeps _ _ b o (ze _ e);have C:L4 (pushCells (d.heap.push { cls:=.type "dict",data:=.dict #[] }) scope.names) (cellsFrom (d.heap.objs.size+1) scope.names cl):=by
  rw[<-H];refine X5 _ _ _ ⟨λx y c e1 e2=>a.ok.inj x y c (m.get e1) (m.get e2),λx c e=>?_⟩;obtain⟨v,q⟩:=a.cell x c (m.get e);exact⟨v,q.keeps λb o e=>ze _ e⟩
 have B:∀x c,(cellsFrom (d.heap.objs.size+1) scope.names cl).lookup x=Z c->X.env.cells.lookup x=Z c\/d.heap.objs.size<c:=λx c e=>(u9 _ _ _ x c e).imp_left m.get;refine⟨⟨a.ok.mod,O.kind,a.ok.glob,a.ok.blt,zl _,C.inj,λx hx=>Qv _ _ _ x (O.has x hx),λx c hx e=>?_,a.ok.hd,a.ok.frames,.inl rfl,λb f=>⟨zS (A b f),λx c e=>?_⟩,a.bs,Zl a.ok.bsz a.sz,λb o e f=>?_,λb f L=>?_,a.stack,a.Bh,a.ok.tabs.go a.base.sX⟩,
  rfl,a.bare,Un.kept hk,⟨_,(Heap.Ns.new d.heap (.type "dict")).keeps (pushCells_keeps _ _),λj x v e1 e2 _=>?_⟩,C.cell,a.hok.fresh (zl _),λx c e=>(B x c e).elim (a.ju x c) λh=>a.hok.fresh (j0 h),λq G=>absurd (show q∈([]:List (A2×AF)) from G) (by simp),a.hok.kept hk,?_⟩
 ·refine(u9 _ _ _ x c e).elim (λh=>?_) λh=>j0 h;have hx:(x,NameKind.cell)∈scope.names:=by
   have hx:LF scope.names x=true:=hx;unfold LF at hx;split at hx
   ·rename_i q;exact mem_of_lookup q
   ·cases hx
  rw[O.cell _ hx rfl]at h;cases h
 ·rcases B x c e with h|h
  ·exact(w b f).2.2.2.2.1 x c h
  ·exact JO (y7 (A b f) h)
 ·obtain⟨_,_,_,z,_⟩:=w b f;rcases z with z|z
  ·exact a.ok.Ve b o e z
  ·exact absurd (ZO (zz e) (Zl a.ok.bsz z)) (jS _)
 ·obtain⟨_,K,F,_⟩:=w b f;rcases List.mem_cons.mp (a.yV b L)with z|z
  ·exact K z
  ·exact F z
 ·have D:j<is.length:=by
   by_cases D:j<is.length
   ·exact D
   ·rw[Z3 (by simp[vU];omega)]at e2;rw[Q1]at e2;split at e2<;>cases e2
  have E:xs[j]?=Z x:=by
   have e1:(xs++ts)[j]?=Z x:=e1;rw[ZH ()]at e1;exact e1
  obtain⟨i,W,g⟩:=Y j x E;have e3:σ[i]?=Z (Z v):=by
   rw[ZH (by simp[vU];omega)]at e2;unfold vU at e2;rw[zI,W]at e2;cases q:σ[i]? with
   |none=>rw[hG,q]at e2;cases e2
   |some o=>
    rw[hG,q]at e2;have:o=Z v:=by simpa using e2
    rw[this]
  have N:WW X.env.scope x:=by
   rcases g.k with k|k
   ·exact .inr (.inl k)
   ·exact .inr (.inr k)
  obtain⟨m',a3,J⟩:=a.loc;obtain⟨u,r,l⟩:=J i x v g.n e3 N;refine⟨u,r,?_⟩;rcases l with⟨k,_⟩|⟨k,c,Q,I⟩
  ·rcases g.k with t|t<;>(rw[k]at t;cases t)
  ·obtain⟨c',p⟩:=g.c;have:=m.get p;rw[Q]at this;cases this;refine .inr ⟨g.k',c,(JW _ _ _ x λz=>by rw[O.cell _ z rfl]at p;cases p).trans p,?_⟩;obtain⟨o,M,hd⟩:=I;exact⟨o,hk c o M,hd⟩
 ·show(vU is σ++ba ts.length U).length=(xs++ts).length;simp[vU,P]
theorem aV.caps{ρ:Ev}(E:aV K H0 H σ ρ)(is:O Nat)(n:Nat):aV K H H (vU is σ++ba n U) (ji is ρ++ba n U):=by
 have f:∀(j:Nat) c,(ji is ρ++ba n U)[j]?=Z (Z c)->qj c=false:=λj c e=>by
  by_cases g:j<is.length
  ·rw[ZH (by simp[ji];omega)]at e;unfold ji at e;rw[zI]at e;cases q:is[j]? with
   |none=>rw[q]at e;cases e
   |some i=>
    rw[q]at e;have:yZ ρ i=Z c:=by simpa using e
    exact xT this
  ·rw[Z3 (by simp[ji];omega),Q1]at e;split at e<;>cases e
 refine⟨by simp[vU,ji],λj b e=>?_,λj k c a b e d=>absurd d (by rw[f j c e];exact z5),AW.refl H,λj c a e d=>absurd d (by rw[f j c e];exact z5)⟩;by_cases g:j<is.length
 ·rw[ZH (by simp[ji];omega)]at e;rw[ZH (by simp[vU];omega)];unfold ji at e;unfold vU;rw[zI]at e ⊢;cases q:is[j]? with
  |none=>rw[q]at e;cases e
  |some i=>
   rw[q]at e;have:yZ ρ i=Z b:=by simpa using e
   obtain⟨v,e1,r⟩:=Mp E this;exact⟨v,by simp[e1],r⟩
 ·rw[Z3 (by simp[ji];omega),Q1]at e;split at e<;>cases e
theorem aV.forget{ρ ρ':Ev}(E:aV K H0 H σ ρ')(l:ρ'.length=ρ.length)(h:∀(j:Nat) b,ρ[j]?=Z (Z b)->ρ'[j]?=Z (Z b)):aV K H0 H σ ρ:=
 ⟨E.len.trans l,λj b e=>E.val j b (h j b e),λi j c a b e1 d e2 e3 g f=>E.own i j c a b (h _ _ e1) d e2 (h _ _ e3) g f,E.base,λi c a e1 d e2=>E.new i c a (h _ _ e1) d e2⟩
structure DD (Hb:Hp) (σ:L2.St) (ρ:Ev) (n:Nat):Prop where
 own:∀(j:Nat) c,ρ[j]?=some (some c)->qj c=false
 lt:∀(j:Nat) b,ρ[j]?=some (some b)->j<n
 old:∀(j:Nat) c a,ρ[j]?=some (some c)->loose c=true->σ[j]?=some (some (.ref a))->Hb a≠none
def Fx(σ σ':L2.St)(ρ:Ev):Prop:=∀(j:Nat) c,loose c=true->ρ[j]?=Z (Z c)->σ'[j]?=σ[j]?
theorem DD.fx{σ':L2.St}{ρ:Ev}(P:DD Hb σ ρ n)(f:Fx σ σ' ρ):DD Hb σ' ρ n:=⟨P.own,P.lt,λj c a e b ea=>P.old j c a e b (by rw[<-f j c b e];exact ea)⟩
theorem Ch{ρ:Ev}(E:aV K H0 H σ ρ)(j:Nat)(c:Bx)(a:A2)(e:ρ[j]?=Z (Z c))(h:loose c=true)(ea:σ[j]?=Z (Z (.ref a))):H a≠U:=λz=>by
 obtain⟨v,e1,b⟩:=E.val j _ e;rw[ea]at e1;cases e1;cases c with
 |z d=>cases h
 |l f=>
  obtain⟨g,vs,e2,q,_⟩:=b;cases e2;rcases q with q|⟨o,q⟩<;>(rw[z]at q;cases q)
 |n f=>
  obtain⟨g,vs,e2,q,_⟩:=b;cases e2;rcases q with q|⟨o,q⟩<;>(rw[z]at q;cases q)
 |o f=>
  obtain⟨g,vs,e2,q,_⟩:=b;cases e2;rw[z]at q;cases q
 |m f _=>
  obtain⟨g,vs,e2,q,_⟩:=b;cases e2;rw[z]at q;cases q
theorem aV.grown{ρ:Ev}{o:HO}(E:aV K Hb H σ ρ)(P:DD Hb σ ρ n)(h:Hb D=U)(kp:Kp H (B1 H D o)):aV K Hb (B1 H D o) σ ρ:=by
 refine⟨E.len,λj b e=>?_,λj k c a b e g=>absurd g (by rw[P.own j c e];exact z5),λc o e=>?_,λj c a e g=>absurd g (by rw[P.own j c e];exact z5)⟩
 ·obtain⟨v,ev,s⟩:=E.val j b e;refine⟨v,ev,?_⟩;cases b with
  |z d=>exact AX.kp kp s
  |o p=>have:=P.own j _ e;cases this
  |m p _=>have:=P.own j _ e;cases this
  |n p=>
   obtain⟨a,vs,rfl,q,i⟩:=s;refine⟨a,vs,rfl,?_,i.kp kp⟩;have f:a≠D:=λz=>P.old j _ _ e X9 ev (by rw[z];exact h);exact q.imp (λq=>by rw[aD f];exact q) λ⟨o,q⟩=>⟨o,by rw[aD f];exact q⟩
  |l p=>
   obtain⟨a,vs,rfl,q,i⟩:=s;refine⟨a,vs,rfl,?_,i.kp kp⟩;have f:a≠D:=λz=>P.old j _ _ e X9 ev (by rw[z];exact h);exact q.imp (λq=>by rw[aD f];exact q) λ⟨o,q⟩=>⟨o,by rw[aD f];exact q⟩
 ·rw[aD (bF e h)];exact E.base c o e
def Qw(X:Cx)(el:A2->Env->Sem Unit)(fs:Ev->S (O Dt))(Ac:A2->Hp->O Dt->HO->Prop)(N n:Nat):Prop:=∀(AO:O (A2×AF)) (s:A3) (σ:L2.St) (H Hb:Hp) (ρ:Ev) (D:A2) (o:HO) (a ys:O Dt),L2.AV X AO σ H s->aV X.K Hb H σ ρ->DD Hb σ ρ n->Hb D=U->fs ρ=Z ys->H D=Z o->Ac D H a o->a.length+ys.length<=N →
 A8 (db X) X.A (el D X.env) (λ_ s'=>∃ σ' H' o',L2.AV X AO σ' H' s'/\aV X.K Hb H' σ' ρ/\Fx σ σ' ρ/\H' D=Z o'/\Ac D H' (a++ys) o') X.xe s
theorem X7{fs:Ev->S (O Dt)}{Ac:A2->Hp->O Dt->HO->Prop}{N:Nat}(h:∀(AO:O (A2×AF)) (s:A3) (σ:L2.St) (H Hb:Hp) (ρ:Ev) (D:A2) (o:HO) (b ys:O Dt),L2.AV X AO σ H s->aV X.K Hb H σ ρ->fs ρ=Z ys->H D=Z o->Ac D H b o->b.length+ys.length<=N →
  A8 (db X) X.A (el D X.env) (λ_ s'=>∃a o',L2.AV X AO σ (B1 a D o') s'/\AW H a/\Kp a (B1 a D o')/\Ac D (B1 a D o') (b++ys) o') X.xe s):Qw X el fs Ac N n:=λAO s σ H Hb ρ D o b ys I E P c e1 e2 a1 l=>by
 refine ZA (h AO s σ H Hb ρ D o b ys I E e1 e2 a1 l) (λ_ s' ⟨a,o',I',s9,kp,a'⟩=>?_) λ_ _ z=>z;exact⟨σ,_,o',I',(E.grow s9).grown P c kp,λ_ _ _ _=>X9,aF,a'⟩
structure Tn (B:Around->Bool->Prop) (P:Program) (w:World) (K:B5) (tg:Expr) (J:It) (fp:List Addr) (it:Addr) (tn:Nat->Heap->Prop):Prop where
 obj:∀i h,tn i h->∀b∈fp,∃o,h.get? b=some o/\∀v,o.data≠.cell v
 keep:∀i h h',tn i h->(∀b∈fp,∀o,h.get? b=some o->h'.get? b=some o)->tn i h'
 item:∀(X:Cx),X.prog=P->X.w=w->X.K=K->B X.A X.calm->∀(i:Nat) (AO:List (Addr×Obj)) (s:Shared) (σ:L2.St) (H:Hp) (E:B8),L2.AV X AO σ H s->(∀b∈fp,nD X AO H b)->tn i s.heap->J.go i H →
  wpAny (model P w) X.A (pyNext (.ref it)) (λr s1=>∃u,r=some u ∧
   wpAny (model P w) X.A (letOwnedTupleGo tg (.ref it) u) (λ_ s2=>∃x H',L2.AV X AO σ H' s2/\At x u/\J.yld i H x H'/\tn (i+1) s2.heap/\∀b∈fp,H' b=none) E s1) E s
 done:∀(X:Cx),X.prog=P->X.w=w->X.K=K->B X.A X.calm->∀(i:Nat) (AO:List (Addr×Obj)) (s:Shared) (σ:L2.St) (H:Hp) (E:B8),L2.AV X AO σ H s->(∀b∈fp,nD X AO H b)->tn i s.heap->J.stop i H →
  wpAny (model P w) X.A (pyNext (.ref it)) (λr s1=>r=none/\L2.AV X AO σ H s1) E s
 self:∀(A:Around) (i:Nat) (s:Shared) (Q:B8) (E:B8),tn i s.heap->Q (.ref it) s->wpAny (model P w) A (pyIter (.ref it)) Q E s
abbrev z7:A6->Bool->Prop:=λ_ c=>c=true
theorem CQ(T:CC P w K tg J fp it tn):Tn z7 P w K tg J fp it tn:=⟨T.obj,T.keep,T.item,T.done,T.self⟩
theorem HJ{d:Nat}{g5:Pos}{Ac:A2->Hp->O Dt->HO->Prop}{fs:Ev->S (O Dt)}{N m:Nat}{ds o0 out:O Dt}{o:HO}{ρ:Ev}{R:Result->A3->Prop}(c6:B X.A X.calm)(hx:X.xe=λ_ _=>False)(Bu:F0 X tgt gt)(e3:C9 X ifs p)(f0:Qw X el fs Ac N m)(g1:X6 n m gt)(g3:n<=m)(I:L2.AV X AO σ H s)(E:aV X.K Hb H σ ρ)(P:DD Hb σ ρ n)(hD:Hb D=U)(e6:H D=Z o)(hA:Ac D H o0 o)(T:Tn B X.prog X.w X.K tgt J fp it tn)(st:tn 0 s.heap)(hf:∀b∈fp,nD X AO H b)(Y:B6 X.K J ds Hb)(f1:zf gt p fs ρ ds=Z out)(hN:o0.length+out.length<=N)(b6:∀{D:A2} {H H':Hp} {y:O Dt} {o:HO},Kp H H'->Ac D H y o->Ac D H' y o)(f3:∀(it:A1) (D:A2) (env:Env),compTurn comp d it (.ref D) env=(standAt g5 >>= λ_=>pyNext it >>= λr=>match r with
   |none=>pure (.done .next)
   |some v=>letOwnedTupleGo tgt it v >>= λ_=>assign tgt env v >>= λ_=>(forIn ifs true λc r=>if r=true then isTrue c env (eval c env) >>= λok=>pure (ForInStep.yield ok)else pure (ForInStep.yield r)) >>= λok=>if ok=true then el D env >>= λ_=>again (.compLoop comp d it (.ref D) env)else again (.compLoop comp d it (.ref D) env)))(f2:∀{it c4:A1} {env:Env} {Q:Fin->A3->Prop} {E:B8} {s:A3},A8 (db X) X.A ((compTurn comp d it c4 env).onRaise (λx=>noteFrame x env >>= λ_=>theTreesLotGoes x)) Q E s->A8 (db X) (X.A.under (.compLoop comp d it c4 env)) ((db X).den (.compLoop comp d it c4 env)) Q E s)(hR:∀s' σ' H' o',L2.AV X AO σ' H' s'->aV X.K Hb H' σ' ρ->Fx σ σ' ρ->H' D=Z o'->Ac D H' (o0++out) o'->R (.ok .next) s'):
  AG (db X) X.A (.compLoop comp d (.ref it) (.ref D) X.env) R s:=by
 have X8:∀{H':Hp},(∀b∈fp,H' b=U)->∀b∈fp,nD X AO H' b:=λ{H'} hn b q=>⟨hn b q,(hf b q).2⟩;refine codeAny_loop X9 (λk s'=>∃(i:Nat) (σ':L2.St) (H':Hp) (y o2:O Dt) (o:HO),k=ds.length-i/\i<=ds.length/\L2.AV X AO σ' H' s'/\tn i s'.heap/\(∀b∈fp,H' b=U)/\aV X.K Hb H' σ' ρ/\Fx σ σ' ρ/\H' D=Z o/\Ac D H' y o/\zf gt p fs ρ (ds.drop i)=Z o2/\y++o2=o0++out) ?_ ds.length
  ⟨0,σ,H,o0,out,o,by simp,qi _,I,st,λb q=>(hf b q).1,E,λ_ _ _ _=>X9,e6,hA,by simpa using f1,rfl⟩
 rintro k s4 ⟨i,a3,H4,y,o2,o,rfl,hi,I4,d3,d0,E4,F4,b4,r4,g,ho⟩;have P4:=P.fx F4;refine f2 (wpAny_noted ?_);rw[f3];obtain⟨y1,y2⟩:=Y i H4 E4.base;by_cases b5:i<ds.length
 ·have hd:ds[i]?=Z ds[i]:=by simp[b5]
  obtain⟨go,yl⟩:=y1 _ hd;rw[YI b5]at g;simp only[zf]at g;obtain⟨t,e1,g⟩:=AU g;obtain⟨k,ek,g⟩:=AU g;obtain⟨g4,c3⟩:=g1 _ _ _ e1;have c5:∀{W:L2.St} {H5:Hp},aV X.K Hb H5 W t->aV X.K Hb H5 W ρ:=λE5=>E5.forget g4 λj b e=>by rw[c3 j (.inl (P.lt j b e))];exact e
  refine zb (jI (zb ?_));refine gK (T.item X X9 X9 X9 c6 i AO s4 a3 H4 _ I4 (X8 d0) d3 go) λr s5 ⟨u,hr,h5⟩=>?_;subst hr;refine zb (gK h5 λ_ s6 ⟨x,H6,I6,r6,y6,D4,fr6⟩=>?_);obtain⟨sm,rx⟩:=yl x H6 y6;have E4:=E4.grow sm;have b4:=sm _ _ b4;have r4:=b6 (.of sm) r4;have e0:=I6.pinned (X8 fr6) (T.obj _ _ D4);have ha:=Bu _ s6 a3 H6 x u (λσ' H'=>H'=H6/\aV X.K Hb H6 σ' t/\Lo a3 ρ σ' t) e0 r6 ⟨Hb,ρ,ds[i],t,E4,rx,e1,λσ' E' L'=>⟨rfl,E',L'⟩⟩;rw[hx]at ha;refine zb (ZA ha (λ_ s7 h7=>?_) λ_ _ z=>z.elim);obtain⟨L,H7,I7,rfl,E7,L7⟩:=h7;have P7:DD Hb L t m:=by
   refine⟨λj c e=>?_,λj c e=>?_,λj c a e C ea=>?_⟩
   ·cases c with
    |o ds=>exact P.own j _ (L7 j _ X9 e).1
    |m ds _=>exact P.own j _ (L7 j _ X9 e).1
    |_=>rfl
   ·refine Nat.lt_of_not_le λh=>?_;rw[c3 j (.inr h)]at e;exact absurd (ZO (P.lt j c e) g3) (ew.mpr h)
   ·obtain⟨e',ee⟩:=L7 j c C e;exact P4.old j c a e' C (by rw[<-ee];exact ea)
  have d1:∀{W:L2.St},Fx L W t->Fx σ W ρ:=λf j c C e=>by
   have e':t[j]?=Z (Z c):=by rw[c3 j (.inl (P.lt j c e))];exact e
   exact(f j c C e').trans ((L7 j c C e').2.trans (F4 j c C e))
  have ht:A8 (db X) X.A (forIn ifs true λc r=>if r=true then do let ok <-isTrue c X.env (eval c X.env);pure (ForInStep.yield ok)else pure (ForInStep.yield r))
    (λok G=>ok=k/\∃l,L2.AV X (AO++tL fp s6.heap) L l G/\AW H7 l) (notedBy (db X) X.A X.env λe s'=>R (.error e) s') s7:=by
   rcases e3 with⟨rfl,rfl⟩|⟨c,rfl,hc⟩
   ·cases ek;exact wpAny_tests_nil ⟨rfl,H7,I7,AW.refl H7⟩
   ·refine wpAny_tests_one ?_;have:=hc _ s7 L H7 (λb l=>b=k/\AW H7 l) I7 ⟨Hb,t,k,E7,ek,λl G=>⟨rfl,G⟩⟩;rw[hx]at this;exact ZA this (λb G ⟨l,I8,eb,s8'⟩=>⟨eb,l,I8,s8'⟩) λ_ _ z=>z.elim
  refine zb (ZA ht (λok G h8=>?_) λ_ _ z=>z);obtain⟨rfl,l,I8,F⟩:=h8;have CT:∀{b0:L2.St} {M:Hp} {s9:A3},L2.AV X (AO++tL fp s6.heap) b0 M s9->L2.AV X AO b0 M s9/\tn (i+1) s9.heap/\∀b∈fp,M b=U:=λ{b0 M s9} I9=>by
   refine⟨I9.nF,T.keep _ _ _ D4 λb q o e=>(I9.pin (b,o) (Zs _ (Zs _ (jX q e)))).1,λb q=>?_⟩;obtain⟨o,e,d⟩:=T.obj _ _ D4 b q;exact(I9.pin (b,o) (Zs _ (Zs _ (jX q e)))).2.1
  cases ok with
  |false=>
   rw[zw z5]at g;obtain⟨I9,g0,f5⟩:=CT I8;exact zd ⟨rfl,ds.length-(i+1),by omega,i+1,L,l,y,o2,o,rfl,b5,I9,g0,f5,c5 (E7.grow F),d1 (λ_ _ _ _=>X9),F _ _ b4,b6 (.of F) r4,g,ho⟩
  |true=>
   rw[zk rfl]at g;obtain⟨ys,eb,g⟩:=AU g;obtain⟨zs,e5,g⟩:=AU g;cases g;have C:=congrArg jt ho;simp only[Zp]at C;have he:=f0 _ G L l Hb t D o y ys I8 (E7.grow F) P7 hD eb (F _ _ b4) (b6 (.of F) r4) ();rw[hx]at he;refine zb (ZA he (λ_ g6 e2=>?_) λ_ _ z=>z.elim);obtain⟨b0,M,o',Yc,E9,F9,f4,a5⟩:=e2;obtain⟨d4,e9,g2⟩:=CT Yc;exact zd ⟨rfl,ds.length-(i+1),by omega,i+1,b0,M,y++ys,zs,o',rfl,b5,d4,e9,g2,c5 E9,d1 F9,f4,a5,e5,by rw[qq];exact ho⟩
 ·have d2:ds.length<=i:=by omega
  rw[gm d2]at g;cases g;refine zb (jI (zb ?_));refine gK (T.done X X9 X9 X9 c6 i AO s4 a3 H4 _ I4 (X8 d0) d3 (y2 d2)) λr s5 ⟨hr,I5⟩=>?_;subst hr;rw[Qb]at ho;exact zd (hR s5 a3 H4 o I5 E4 F4 b4 (by rw[<-ho];exact r4))
theorem Vu{R:Result->A3->Prop}{d:Nat}{g:Expr}{it a:A1}(i:(clausesOf e)[d]?=Z ⟨g,iter,ifs,0⟩)(f:∀{Q:Fin->A3->Prop} {E:B8},A8 (A9 prog w) A ((compStart e d it a env).onRaise (λx=>do noteFrame x env;standAt theWindowsPlace)) Q E s->A8 (A9 prog w) (A.under (.compStart e d it a env)) ((A9 prog w).den (.compStart e d it a env)) Q E s)(c:Code.quiet (.compLoop e d it a env)=true:=by rfl)(h0:AG (A9 prog w) A (.compLoop e d it a env) R s)(h:A8 (A9 prog w) A (pyIter it) (λb s'=>AG (A9 prog w) A (.compLoop e d b a env) R s') (notedBy (A9 prog w) A env λx s'=>R (.error x) s') s):
  AG (A9 prog w) A (.compStart e d it a env) R s:=by
 refine codeAny_of_tree (f ?_);refine wpAny_notedAt ?_;unfold compStart;rw[i];show A8 _ _ (ask >>= _) _ _ s;refine zb (yf (wpAny_ite ?_));split
 ·exact zd (And.intro c h0)
 ·refine zb (ka ?_);show A8 _ _ (standAt iter.pos >>= _) _ _ s;exact zb (jI (zb (ZA h (λb s' h'=>zd (And.intro c h')) λ_ _ x=>x)))
def qt(H:Hp)(D:A2):Hp:=λb=>if b=D then U else H b
theorem jF{b:A2}(h:b≠D):qt H D b=H b:=zw h
theorem qW:AW (qt H D) H:=λb o e=>by
 by_cases h:b=D
 ·rw[qt,zk h]at e;cases e
 ·rw[jF h]at e;exact e
theorem aV.onto{b:Hp}{ρ:Ev}(E:aV K Hb H σ ρ)(P:∀(j:Nat) c,ρ[j]?=Z (Z c)->qj c=false)(s:AW b H):aV K b H σ ρ:=
 ⟨E.len,E.val,E.own,s,λj c a e d=>absurd d (by rw[P j c e];exact z5)⟩
def FG(fi:Ev->S (O Dt))(gt:Dt->Ev->S Ev)(p:Ev->S Bool)(fs:Ev->S (O Dt)):Ev->S (O Dt):=λρ=>(fi ρ).bind λds=>zf gt p fs ρ ds
theorem Yd{d:Nat}{Ac:A2->Hp->O Dt->HO->Prop}{fs:Ev->S (O Dt)}{N m:Nat}(d0:X.calm=true)(hx:X.xe=λ_ _=>False)(hi:LJ X tgt iter fi)(Bu:F0 X tgt gt)(c3:C9 X ifs p)(b0:Qw X el fs Ac N m)(c5:X6 n m gt)(b4:n<=m)(F:∀{D:A2} {H H':Hp} {g:O Dt} {o:HO},Kp H H'->Ac D H g o->Ac D H' g o)(L:∀{D:A2} {H:Hp} {g:O Dt} {o:HO},Ac D H g o->(∀C u,o≠.iU C u)/\∀vs,o≠.tup vs)(hs:∀x,foldedSetIterable iter X.env x=pure x)(c6:∀(it:A1) (D:A2) (env:Env),compTurn comp d it (.ref D) env=(standAt iter.pos >>= λ_=>pyNext it >>= λr=>match r with
   |none=>pure (.done .next)
   |some v=>letOwnedTupleGo tgt it v >>= λ_=>assign tgt env v >>= λ_=>(forIn ifs true λc r=>if r=true then isTrue c env (eval c env) >>= λok=>pure (ForInStep.yield ok)else pure (ForInStep.yield r)) >>= λok=>if ok=true then el D env >>= λ_=>again (.compLoop comp d it (.ref D) env)else again (.compLoop comp d it (.ref D) env)))(b5:∀{it f:A1} {env:Env} {R:Result->A3->Prop} {s:A3},AG (db X) X.A (.compLoop comp d it f env) R s->A8 (db X) X.A (pyIter it) (λa5 s'=>AG (db X) X.A (.compLoop comp d a5 f env) R s') (notedBy (db X) X.A env λx s'=>R (.error x) s') s->AG (db X) X.A (.compStart comp d it f env) R s)(b6:∀{it f:A1} {env:Env} {Q:Fin->A3->Prop} {E:B8} {s:A3},A8 (db X) X.A ((compTurn comp d it f env).onRaise (λx=>noteFrame x env >>= λ_=>theTreesLotGoes x)) Q E s->A8 (db X) (X.A.under (.compLoop comp d it f env)) ((db X).den (.compLoop comp d it f env)) Q E s):
  Qw X (λD env=>do let x <-eval iter env;standAt iter.pos;let x <-foldedSetIterable iter env x;let _ <-runOwn (.compStart comp d (<-holding [x] (pyIter x)) (.ref D) env) env) (FG fi gt p fs) Ac N n:=by
 intro AO s σ H Hb ρ D o g ys I E P hD e G q l;obtain⟨ds,ed,e⟩:=AU e;refine zb (ZA (hi AO s σ H (λJ H'=>AW H H'/\∀Hs,AW Hs H'->(∀a,H a=U->Hs a=H' a)->(∀a o u,H' a=Z (.iU o u)->Hs a=H' a)->(∀a vs,H' a=Z (.tup vs)->Hs a=H' a)->B6 X.K J ds Hs) I ⟨Hb,ρ,ds,E,ed,λJ H' s' y=>⟨s',y⟩⟩) (λv s1 h1=>?_) λ_ _ z=>z);refine zb (jI (zb (wpAny_of_eq (hs v) (zb (qa (ZA h1 (λd1 s2 h2=>?_) λ_ _ z=>z))))));obtain⟨it,fp,tn,J,H2,rfl,I2,T,st,hf,i,Y⟩:=h2;have t:=i _ _ G;have a3:=F (.of i) q;have Yb:B6 X.K J ds (qt H2 D):=Y _ qW (λa b=>jF λz=>by rw[z,G]at b;cases b) (λa C u b=>jF λz=>by rw[z,t]at b;cases b;exact(L q).1 _ _ X9) λa vs b=>jF λz=>by rw[z,t]at b;cases b;exact(L q).2 _ rfl
 have M:AW Hb (qt H2 D):=λa u ea=>by rw[jF (bF ea hD)];exact i _ _ (E.base _ _ ea)
 have E2:aV X.K (qt H2 D) H2 σ ρ:=(E.grow i).onto P.own qW;have P2:DD (qt H2 D) σ ρ n:=⟨P.own,P.lt,λj c a ec l ea z=>P.old j c a ec l ea (M.free z)⟩;have lp:∀{R:Result->A3->Prop},(∀s' σ' H' o',L2.AV X AO σ' H' s'->aV X.K (qt H2 D) H' σ' ρ->Fx σ σ' ρ->H' D=Z o'->Ac D H' (g++ys) o'->R (.ok .next) s')->AG (db X) X.A (.compStart comp d (.ref it) (.ref D) X.env) R s2:=λhR=>
  have h:=HJ (B:=z7) d0 hx Bu c3 b0 c5 b4 I2 E2 P2 (zk X9) t a3 (CQ T) st hf Yb e l F c6 b6 hR
  b5 h (T.self _ 0 _ _ _ st h)
 exact zb (wpAny_runOwn (lp λs' σ' H' o' I' W F' c4 a'=>zd ⟨σ',H',o',I',W.onto P.own (M.trans W.base),F',c4,a'⟩))
theorem zp{mk:Sem A1}{o0:AF}{O0:HO}{Ac:A2->Hp->List Dt->HO->Prop}{fs:Ev->S (List Dt)}{N m:Nat}{H2:Hp}{a:A3}{ds out:List Dt}{ρ:Ev}(O:nJ X scope cl xs is)(e6:B X.A X.calm)(Bu:∀C n t fp,F0 (um X (xs++ts) scope cl C n t fp) tgt gt)(e3:∀C n t fp,C9 (um X (xs++ts) scope cl C n t fp) ifs p)(c5:∀C n t fp,Qw (um X (xs++ts) scope cl C n t fp) el fs Ac N m)(e4:X6 is.length m gt)(d4:is.length<=m)(I2:L2.AV X AO σ H2 a)(Ec:aV X.K H2 H2 (vU is σ++ba ts.length U) (ji is ρ++ba ts.length U))(T:Tn B X.prog X.w X.K tgt J fp it tn)(st:tn 0 a.heap)(hf:∀b∈fp,nD X AO H2 b)(Y:B6 X.K J ds H2)(d2:zf gt p fs (ji is ρ++ba ts.length U) ds=Z out)(e9:out.length<=N)(d0:∀(D C:A2) (s':A3) (H':Hp) (o:HO),H2 D=U->L2.AV X AO σ H' s'->nD X AO H' C->(∃m,s'.heap.Ns C m)->AW H2 H'->H' D=Z o->Ac D H' out o->RR (.ref D) C (.ok .next) s')(e2:∀{Q:B8},Q (.ref a.heap.objs.size) { a with heap:=a.heap.push o0 }->A8 (db X) X.A mk Q E a)(c6:∀H,eV X.prog X.w H (a.heap.push o0) a.heap.objs.size O0)(b5:∀H,Ac a.heap.objs.size H [] O0)(b6:∀{D:A2} {H H':Hp} {o1:List Dt} {o:HO},Kp H H'->Ac D H o1 o->Ac D H' o1 o)(e5:∀(it:A1) (D:A2) (env:Env),compTurn comp 0 it (.ref D) env=(standAt iter.pos >>= λ_=>pyNext it >>= λr=>match r with
   |none=>pure (.done .next)
   |some v=>letOwnedTupleGo tgt it v >>= λ_=>assign tgt env v >>= λ_=>(forIn ifs true λc r=>if r=true then isTrue c env (eval c env) >>= λok=>pure (ForInStep.yield ok)else pure (ForInStep.yield r)) >>= λok=>if ok=true then el D env >>= λ_=>again (.compLoop comp 0 it (.ref D) env)else again (.compLoop comp 0 it (.ref D) env)))(e0:∀{it f:A1} {env:Env} {R:Result->A3->Prop} {s:A3},AG (db X) X.A (.compLoop comp 0 it f env) R s->A8 (db X) X.A (pyIter it) (λc4 s'=>AG (db X) X.A (.compLoop comp 0 c4 f env) R s') (notedBy (db X) X.A env λx s'=>R (.error x) s') s->AG (db X) X.A (.compStart comp 0 it f env) R s)(e1:∀{it f:A1} {env:Env} {Q:Fin->A3->Prop} {E:B8} {s:A3},A8 (db X) X.A ((compTurn comp 0 it f env).onRaise (λx=>noteFrame x env >>= λ_=>theTreesLotGoes x)) Q E s->A8 (db X) (X.A.under (.compLoop comp 0 it f env)) ((db X).den (.compLoop comp 0 it f env)) Q E s):
  A8 (db X) X.A mk (λf d1=>A8 (db X) X.A (newFunctionEnv scope X.env.globals cl [] X.env.qual U .none (Z X.env)) (λM b4=>
   AG (db X) X.A (.compStart comp 0 (.ref it) f { M with scope:=relabel scope X.env }) (RR f M.locals) b4) E d1) E a:=by
 refine e2 (HF ?_);have F:H2 a.heap.objs.size=U:=I2.hok.fresh (zl _);have y:L2.AV X AO σ (B1 H2 a.heap.objs.size O0) { a with heap:=a.heap.push o0 }:=
  I2.laid (t':=a.toks) (λb o e=>ze _ e) (zl _) (c6 _)
 have Ye:∀b∈fp,b<a.heap.objs.size:=λb d=>let ⟨o,e,_⟩:=T.obj 0 _ st b d;zz e;have I:∀b∈fp,nD X AO (B1 H2 a.heap.objs.size O0) b:=λb d=>⟨by rw[aD (zS (Ye b d))];exact(hf b d).1,(hf b d).2⟩;have a3:tn 0 (a.heap.push o0):=T.keep 0 _ _ st λb d o e=>ze _ e;have u:∀b∈fp,b<(a.heap.push o0).objs.size:=λb d=>by rw[qB];exact QQ (Ye b d)
 generalize d3:({ a with heap:=a.heap.push o0 }:A3)=s3 at *
 have g0:s3.heap=a.heap.push o0:=by rw[<-d3]
 rw[<-g0]at a3 u;have IC:=Ms (ts:=ts) y O I u;have b0:tn 0 (pushCells (s3.heap.push { cls:=.type "dict",data:=.dict #[] }) scope.names):=T.keep 0 _ _ a3 λb d o e=>pushCells_keeps _ _ b o (ze _ e);have X8:∀b∈fp,nD (um X (xs++ts) scope cl s3.heap.objs.size s3 (B1 H2 a.heap.objs.size O0) fp) [] (B1 H2 a.heap.objs.size O0) b:=λb d=>by
  obtain⟨f0,f1,f2,f3,G,L⟩:=I b d;refine⟨f0,zS (u b d),λz=>?_,.inl d,λx c e z=>?_,λq hq=>absurd (show q∈([]:List (A2×AF)) from hq) (by simp)⟩
  ·rcases List.mem_cons.mp (y.yV b z)with q|q
   ·exact f1 q
   ·exact f2 q
  ·rcases u9 _ _ _ x c e with h|h
   ·exact G x c (O.sub.get h) z
   ·rw[z]at h;exact absurd (ZO (u b d) (ly h)) (jS _)
 have P0:DD H2 (vU is σ++ba ts.length U) (ji is ρ++ba ts.length U) is.length:=by
  have g:∀(j:Nat) c,(ji is ρ++ba ts.length U)[j]?=Z (Z c)->j<is.length/\qj c=false:=λj c e=>by
   by_cases hj:j<is.length
   ·refine⟨hj,?_⟩;rw[ZH (by simp[ji];omega)]at e;unfold ji at e;rw[zI]at e;cases q:is[j]? with
    |none=>rw[q]at e;cases e
    |some i=>rw[q]at e;exact xT (by simpa using e)
   ·rw[Z3 (by simp[ji];omega),Q1]at e;split at e<;>cases e
  exact⟨λj c e=>(g j c e).2,λj c e=>(g j c e).1,Ch Ec⟩
 have h:=HJ (B:=B) (X:=um X (xs++ts) scope cl s3.heap.objs.size s3 (B1 H2 a.heap.objs.size O0) fp) (R:=RR (.ref a.heap.objs.size) s3.heap.objs.size) (o0:=[]) e6 X9 (Bu _ _ _ _) (e3 _ _ _ _) (c5 _ _ _ _) e4 d4 IC (Ec.grow (bC F)) P0 F aF (b5 _) T b0 X8 Y d2 (by simpa using e9) b6 e5 e1 λP g1 W o5 l E5 _ c3 a5=>by
  have IB:L2.AV X AO σ W P:=y.call' (ch:=fp) l.os l.base l.hok l.bare λb d=>by
   obtain⟨f0,f1,f2,f3,G,L⟩:=I b d;exact⟨f3,f1,G,L⟩
  obtain⟨m,hn,_⟩:=l.loc;exact d0 _ _ P W o5 F IB (y.Qd (zl _) l.free) ⟨m,hn⟩ E5.base c3 a5
 exact e0 h (T.self _ 0 _ _ _ b0 h)
def W0(K:B5)(_:A2)(H:Hp)(a:O Dt)(o:HO):Prop:=∃us,o=.lst us/\aO K H a us
theorem W0.kp{K:B5}{D:A2}{H H':Hp}{a:O Dt}{o:HO}(k:Kp H H'):W0 K D H a o->W0 K D H' a o:=λ⟨us,e,r⟩=>⟨us,e,r.kp k⟩
def Yg(fe:Ev->S Bx):Ev->S (O Dt):=λρ=>(fe ρ).bind HU
theorem Tp(h:PV X elt fe):Qw X (λD env=>do let _ <-call (.builtin "list.append") [.ref D,<-eval elt env]) (Yg fe) (W0 X.K) 100000 n:=by
 refine X7 λAO s σ H Hb ρ D o o1 ys I En i hD ⟨us,e,r4⟩ hl=>?_;subst e;obtain⟨b,eb,i⟩:=AU i;obtain⟨y,rfl,rfl⟩:=zj i;refine zb (ZA (h AO s σ H (λv a=>AW H a/\AX X.K a y v) I ⟨Hb,ρ,_,En,eb,λv a f _ g=>⟨f,g⟩⟩) (λv f q=>?_) λ_ _ z=>z);obtain⟨c,a,t,m,d,g⟩:=q;have l:=d _ _ hD;refine zb (ZA ((m7 (X:=X)) _ f σ a (.ref D) [c] (.ref D) [v] (λw j=>j=B1 a D (.lst (us++[c]))) t X9 (.cons m .nil) ⟨_,us,c,rfl,rfl,l,by rw[r4.length];have h0:(100000:Nat)<AB:=();simp at hl;omega,rfl⟩) (λw A p=>?_) λ_ _ z=>z);obtain⟨x,j,u,_,rfl⟩:=p;have kp:Kp a (B1 a D (.lst (us++[c]))):=.lst l;exact zd ⟨a,_,u,d,kp,us++[c],rfl,((r4.kp (.of d)).append (aO.cons g aO.nil)).kp kp⟩
theorem xU{H2:Hp}{l:A3}{ds out:List Dt}{ρ:Ev}(O:nJ X scope cl xs is)(H:B X.A X.calm)(I:∀C i j fp,F0 (um X (xs++ts) scope cl C i j fp) tgt gt)(L:∀C i j fp,C9 (um X (xs++ts) scope cl C i j fp) ifs p)(u:∀C i j fp,PV (um X (xs++ts) scope cl C i j fp) elt fe)(v:X6 is.length (is.length+ts.length) gt)(x:L2.AV X AO σ H2 l)(G:aV X.K H2 H2 (vU is σ++ba ts.length U) (ji is ρ++ba ts.length U))(T:Tn B X.prog X.w X.K tgt J fp it tn)(st:tn 0 l.heap)(z:∀b∈fp,nD X AO H2 b)(Y:B6 X.K J ds H2)(M:ds.length<=100000)(q:z6 gt p fe (ji is ρ++ba ts.length U) ds=Z out)(F:∀(D C:A2) (s':A3) (H':Hp) (us:List V),H2 D=U->L2.AV X AO σ H' s'->nD X AO H' C->(∃m,s'.heap.Ns C m)->AW H2 H'->H' D=Z (.lst us)->aO X.K H' out us->RR (.ref D) C (.ok .next) s'):
  A8 (db X) X.A (newList []) (λs y=>A8 (db X) X.A (newFunctionEnv scope X.env.globals cl [] X.env.qual U .none (Z X.env)) (λn t=>
   AG (db X) X.A (.compStart (.ListComp elt [⟨tgt,iter,ifs,0⟩] scope pos) 0 (.ref it) s { n with scope:=relabel scope X.env }) (RR s n.locals) t) E y) E l:=
 zp (B:=B) (Ac:=W0 X.K) (O0:=.lst []) (N:=100000) O H I L (λC i j fp=>Tp (u C i j fp)) v (Nat.le_add_right ..) x G T st z Y q (Zl (vA q) M) (λD C s' H' o a b c d e f g=>by obtain⟨us,rfl,r⟩:=g;exact F D C s' H' us a b c d e f r)
  qo (λ_=>⟨qi _,[],0,.nil,zt _ rfl⟩) (λ_=>⟨[],rfl,aO.nil⟩) W0.kp (λ_ _ _=>X9) codeAny_compStart_list λh=>h
end
def iC(K:B5)(f:Ev->S (O Dt)):TI:=λσ H R=>∃H0 ρ ds,aV K H0 H σ ρ/\f ρ=Z ds/\∀J H',AW H H'->B6 K J ds H'->R J H'
def VE(X:Cx)(tg iter:Expr)(f:Ev->S (O Dt)):Prop:=PI X tg iter (iC X.K f)
structure EQ (X:Cx) (tg iter:Expr) (f:Ev->Option (List Dt)):Prop where
 run:VE X tg iter f
def GB:Bx->S (O Dt)
 |.z (.lst ds)=>Z ds
 |.z (.tup ds)=>Z ds
 |.z (.str x)=>Z (C5 x)
 |.o ds=>Z ds
 |.l ds=>Z ds
 |_=>U
section
variable{f:Ev->S Bx}{fs:Ev->S (O Bx)}{ts:An}{gt:Dt->Ev->S Ev}{p:Ev->S Bool}{fe:Ev->S Bx}{fi:Ev->S (O Dt)}
theorem Yh(h:EA X tgt iter fi):EQ X tgt iter fi:=⟨have h:=h.run;λAO s σ H R I q=>by
 obtain⟨H0,ρ,ds,E,e,q⟩:=q;exact h AO s σ H R I ⟨H0,ρ,ds,E,e,λJ H' s' y=>q J H' s' (y H' (AW.refl H') (λ_ _=>X9) (λ_ _ _ _=>X9) λ_ _ _=>X9)⟩⟩
theorem gM(h:QV X e f):EQ X tgt e (λρ=>(f ρ).bind GB):=⟨have h:=h.run;λAO s σ H R I q=>by
 refine Qu h AO s σ H R I ?_;obtain⟨H0,ρ,ds,E,e,q⟩:=q;obtain⟨b,eb,e⟩:=AU e;refine⟨H0,ρ,b,E,eb,λv H1 j t g=>?_⟩;cases b with
 |z d=>
  cases d with
  |tup p=>
   cases e;simp only[bh,AX]at g;obtain⟨a,vs,rfl,c,i⟩:=g;exact .inr (.inl ⟨a,rfl,⟨vs,c⟩,q _ _ j (.tup c i)⟩)
  |lst p=>
   cases e;obtain⟨a,vs,rfl,c,i⟩:=g.HD rfl;exact .inl ⟨a,rfl,⟨vs,c⟩,q _ _ j (.list c i)⟩
  |str x=>
   cases e;simp only[bh,AX]at g;obtain⟨rfl,_⟩:=g;exact .inr (.inr ⟨x,rfl,q _ _ j (.str x)⟩)
  |_=>cases e
 |l p=>
  cases e;obtain⟨a,vs,rfl,c,i⟩:=g.HD rfl;exact .inl ⟨a,rfl,⟨vs,c⟩,q _ _ j (.list c i)⟩
 |o p=>
  cases e;obtain⟨a,vs,rfl,c,i⟩:=g.HD rfl;exact .inl ⟨a,rfl,⟨vs,c⟩,q _ _ j (.list c i)⟩
 |n _=>cases e
 |m _ _=>cases e⟩
def fK(fi:Ev->S (O Dt))(gt:Dt->Ev->S Ev)(p:Ev->S Bool)(fe:Ev->S Bx)(is:O Nat)(n:Nat):Ev->S Bx:=λρ=>(fi ρ).bind λds=>
 if ds.length<=100000 then(z6 gt p fe (ji is ρ++ba n U) ds).bind λout=>Z (.o out)else U
theorem iW(ts:An)(O:nJ X scope cl xs is)(W:X.calm=true)(hi:EQ X tgt iter fi)(j:∀C c d fp,WY (um X (xs++ts) scope cl C c d fp) tgt gt)(i:∀C c d fp,uo (um X (xs++ts) scope cl C c d fp) ifs p)(f:∀C c d fp,QV (um X (xs++ts) scope cl C c d fp) elt fe)(P:X6 is.length (is.length+ts.length) gt)(hs:∀x,foldedSetIterable iter X.env x=pure x:=by intro _;rfl):QV X (.ListComp elt [⟨tgt,iter,ifs,0⟩] scope pos) (fK fi gt p fe is ts.length):=⟨have hi:=hi.run;have j:=λC c d fp=>(j C c d fp).run;have i:=λC c d fp=>(i C c d fp).run;have f:=λC c d fp=>(f C c d fp).run;λAO s σ H Q I h=>by
 obtain⟨H0,ρ,b,E,e,q⟩:=h;obtain⟨ds,ed,e⟩:=AU e;split at e
 ·rename_i a5;obtain⟨out,N,e⟩:=AU e;cases e;rw[eval_ListComp];refine JP (use:=U) X9 hs O.clos O.kind O.names ?_;refine gK (hi AO s σ H (λJ H'=>AW H H'/\B6 X.K J ds H') I ⟨H0,ρ,ds,E,ed,λJ H' s' y=>⟨s',y⟩⟩) λv s1 h1=>gK h1 λb0 s2 h2=>?_;obtain⟨it,fp,tn,J,H2,rfl,G,T,st,F,g,Y⟩:=h2;refine xU (B:=z7) (RR:=λa3 C=>compPost (db X) X.A X.xe U (EP X AO σ Q) a3 C) (ts:=ts) (xs:=xs) O W j i f P G ((E.grow g).caps is ts.length) (CQ T) st F Y a5 N ?_;intro D C s' H' us z n M ⟨m,hn⟩ s2' hD' r';refine⟨m,hn,λh' t=>⟨.ref D,H',?_,rfl,q _ _ (g.trans s2') (λa ea=>by cases ea;exact g.free z) ⟨D,us,rfl,hD',r'⟩⟩⟩;obtain⟨f0,f1,f2,f3,L,u⟩:=M;exact n.turned (t':=s'.toks) (λb o l e=>(t.2 b l).trans e) f0 f1 f3 L u
 ·cases e⟩
theorem il(i:Nat){py spos:Pos}(ts:An)(O:nJ X scope cl xs is)(c4:X.calm=true)(P:X.N.Nodup)(hi:EQ X tgt iter fi)(u:∀C c d fp,WY (um X (xs++ts) scope cl C c d fp) tgt gt)(t:∀C c d fp,uo (um X (xs++ts) scope cl C c d fp) ifs p)(l:∀C c d fp,QV (um X (xs++ts) scope cl C c d fp) elt fe)(b5:X6 is.length (is.length+ts.length) gt)(b4:swapsWith (.ListComp elt [⟨tgt,iter,ifs,0⟩] scope pos) (Z (.Name y py)) spos.line X.env=pure true:=by with_unfolding_all rfl)(hy:X.N[i]?=Z y:=by rfl)(hx:D2 X.env.scope y:=by first|exact ko rfl|exact jv X9)(hf:X.fn y=true\/X.env.scope.names.lookup y=Z .local:=by first|exact .inl rfl|exact .inr X9)(hs:∀x,foldedSetIterable iter X.env x=pure x:=by intro _;rfl):Lx X (.Assign [.Name y py] (.ListComp elt [⟨tgt,iter,ifs,0⟩] scope pos) spos) (λρ=>(fK fi gt p fe is ts.length ρ).bind λb=>(XQ ρ i b).bind λρ'=>Z (.nx ρ')):=⟨have hi:=hi.run;have u:=λC c d fp=>(u C c d fp).run;have t:=λC c d fp=>(t C c d fp).run;have l:=λC c d fp=>(l C c d fp).run;λAO s σ H D I h=>by
 obtain⟨H0,ρ,r,E,e,q⟩:=h;obtain⟨b,eb,e⟩:=AU e;obtain⟨ds,ed,eb⟩:=AU eb;split at eb
 ·rename_i c6;obtain⟨out,eo,eb⟩:=AU eb;cases eb;cases e;rw[exec_Assign_Name_used _ _ _ _ b4];refine zb (jI (zb ?_));show A8 _ X.A (do let _ <-comprehension (.ListComp elt [⟨tgt,iter,ifs,0⟩] scope pos) scope X.env _ (newList []) false (eval iter X.env) (Z (assign (.Name y py) X.env))) _ _ s;refine zb (ZA (JP (use:=Z (assign (.Name y py) X.env)) (Q:=λ_ s'=>SP X AO D .next s') X9 hs O.clos O.kind O.names ?_) (λ_ s' W=>zd (zd W)) λ_ _ e=>e);refine gK (hi AO s σ H (λJ H'=>AW H H'/\B6 X.K J ds H') I ⟨H0,ρ,ds,E,ed,λJ H' s' y=>⟨s',y⟩⟩) λv s1 h1=>gK h1 λd0 s2 h2=>?_;obtain⟨it,fp,tn,J,H2,rfl,I2,T,st,b0,n,Y⟩:=h2;refine xU (B:=z7) (RR:=λc5 C=>compPost (db X) X.A X.xe (Z (assign (.Name y py) X.env)) (λ_ s'=>SP X AO D .next s') c5 C) (ts:=ts) (xs:=xs) O c4 u t l b5 I2 ((E.grow n).caps is ts.length) (CQ T) st b0 Y c6 eo ?_;intro f C s' H' us hD G fC ⟨m,hn⟩ s2' hD' r';show A8 _ X.A (assign (.Name y py) X.env (.ref f)) _ _ s';obtain⟨f0,f1,f2,f3,f4,f5⟩:=fC;obtain⟨g,b6,ep,a3,F,c3⟩:=id hn;have M:L2.AV X (AO++[(C,g)]) σ H' s':=G.xK λL hp=>by
   rcases List.mem_append.mp hp with z|z
   ·exact G.pin L (Zs _ z)
   ·have:L=(C,g):=by simpa using z
    subst this;exact⟨a3,f0,f1,f2,λv z=>by rw[F]at z;cases z⟩
  refine gK (L2.qP P hy hx hf (AO++[(C,g)]) s' σ H' (.ref f) (.ref f) (λσ' j=>σ'=σ.set i (Z (.ref f))/\j=H') M X9 ⟨rfl,rfl⟩) λ_ s'' ⟨σ',j,J',e1,e2⟩=>?_;subst e1 e2;have a5:=(J'.pin (C,g) (by simp)).1;refine⟨m,⟨g,b6,ep,a5,F,c3⟩,λh' sb=>?_⟩;refine⟨σ.set i (Z (.ref f)),j,J'.nF.turned (t':=s''.toks) (λb o hb e=>(sb.2 b hb).trans e) f0 f1 f3 f4 f5,q _ _ ?_⟩;exact E.set (n.trans s2') (b:=.o out) ⟨f,us,rfl,hD',r'⟩ (.inl X9) λa ea=>by cases ea;exact n.free hD
 ·cases eb⟩
def lend:Bx->Bx
 |.o ds=>.l ds
 |.m ds _=>.n ds
 |b=>b
def lc:Bx->Bool
 |.o _=>true
 |.m _ _=>true
 |_=>false
def DC(K:B5)(n:Nat)(F:O Bx->S Bx):Sp:=λvs H Q _=>vs.length=n/\∃bs r,qg K H bs vs/\bs.all (λb=>!lc b)=true/\F bs=Z r/\∀v H',AW H H'->Nw H r v->bh K H' r v->Q v H'
def fM(n:Nat)(g:Ev->S Ap):O Bx->S Bx:=λbs=>(g (bs.map Z++ba (n-bs.length) U)).bind λr=>match r with
 |.rt b=>Z b
 |.nx _=>Z (.z .non)
 |_=>U
theorem aV.start{K:B5}{H:Hp}{N:An}{bs:O Bx}{vs:O V}(r:qg K H bs vs)(g:bs.all (λb=>!lc b)=true):aV K H H (L2.start N vs) (bs.map Z++ba (N.length-bs.length) U):=by
 have h:bs.length=vs.length:=Paired.length r;have get:∀(i:Nat) b,(bs.map Z++ba (N.length-bs.length) U)[i]?=Z (Z b)->bs[i]?=Z b:=λi b e=>by
  by_cases hi:i<bs.length
  ·rw[ZH (by simpa using hi),zI]at e;cases q:bs[i]? with
   |none=>rw[q]at e;cases e
   |some n=>rw[q]at e;simpa using e
  ·rw[Z3 (by simp;omega),Q1]at e;split at e<;>cases e
 have f:∀(i:Nat) c,(bs.map Z++ba (N.length-bs.length) U)[i]?=Z (Z c)->qj c=true->False:=λi c e d=>by
  have:=List.all_eq_true.mp g _ (ZI (get i _ e));cases c with
  |o ds=>cases this
  |m ds _=>cases this
  |_=>cases d
 refine⟨?_,λi b e=>?_,λi j c a b e d=>(f i c e d).elim,AW.refl H,λi c a e d=>(f i c e d).elim⟩
 ·unfold L2.start;simp[h]
 ·have e':=get i b e;have hi:i<bs.length:=(cf.mp e').1;have:∀{bs:O Bx} {vs:O V} {i:Nat} {b:Bx},AJ (bh K H) bs vs->bs[i]?=Z b->∃v,vs[i]?=Z v/\bh K H b v:=by
   intro bs vs i b r
   induction r generalizing i with
   |nil=>intro e;simp at e
   |cons p t l=>
    intro e;cases i with
    |zero=>simp at e;subst e;exact⟨_,rfl,p⟩
    |succ i=>obtain⟨v,e1,e2⟩:=l (i:=i) (by simpa using e);exact⟨v,by simpa using e1,e2⟩
  obtain⟨v,e1,e2⟩:=this r e';refine⟨v,?_,e2⟩;unfold L2.start;rw[ZH (by simp;omega),zI,e1];rfl
end
theorem UH{f:A2}{k:Nat}{g:Ev->Option Ap}(F:Br K x qual st f fd)(S:bA N ps (aG st))(l:∀(a:A1) (A:A6) (outer:O Env) (s:A3) (H:Hp) (E:XK),iu k (A.deeper (AL qual (aG st) s.heap.objs.size f a))->S8 (tO zZ P w K mg base N qual (aG st) f a A outer s H E).Vg (fH st) g):
  gW P w K mg base zZ (k+1) f fd ps (DC K ps.length (fM N.length g)):=by
 refine F.ok S (λvs H Q E h=>h.1) λa A outer s H vs Q E j h=>?_;obtain⟨o,bs,r,n,i,e,q⟩:=h;refine⟨_,l a A outer s H E j,?_⟩;obtain⟨c,er,e⟩:=AU e;refine⟨H,_,c,aV.start n i,er,?_⟩;cases c with
 |rt b=>cases e;exact λv H' s' d c=>q v H' s' d c
 |nx ρ=>cases e;exact λσ H' m=>q _ H' m.base trivial (by unfold bh AX;rfl)
 |bk ρ=>cases e
 |ct ρ=>cases e
section
variable{k:Nat}{f:A2}{F:O Bx->S Bx}{p:Pos}{fs:Ev->S (O Bx)}
theorem xV{K:B5}{H:Hp}:∀{bs:O Bx} {vs:O V},qg K H bs vs->qg K H (bs.map lend) vs
 |_,_,.nil=>.nil
 |b::bs,_,.cons h t=>by
  refine .cons ?_ (xV t);cases b with
  |z d=>exact h
  |l ds=>exact h
  |o ds=>obtain⟨a,vs,e,q,r⟩:=h;exact⟨a,vs,e,.inl q,r⟩
  |n ds=>exact h
  |m ds _=>obtain⟨a,vs,e,q,r⟩:=h;exact⟨a,vs,e,.inl q,r.1⟩
theorem Bv:∀bs:O Bx,(bs.map lend).all (λb=>!lc b)=true
 |[]=>rfl
 |b::bs=>by
  rw[zr,kK,Bv bs];cases b<;>rfl
def bU(n:Nat)(F:O Bx->S Bx)(fs:Ev->S (O Bx)):Ev->S Bx:=λρ=>(fs ρ).bind λbs=>if bs.length=n then F (bs.map lend)else U
theorem JZ(G:gW X.prog X.w X.K X.mg X.base zZ k f fd ps (DC X.K n F))(g:iu k X.A)(u:Gl X x)(o:X.mg x=Z (.ref f))(hk:keepIn X.K (.ref f)=true)(j:B9 X.K fd ps [])(a:Tg X (e::es) fs)(l:bv x:=by decide)(he:AA (e::es) X.env=(false,eval e X.env)::AA es X.env:=by rfl)(m:(AE pos (AA es X.env)).any (·.1)=false:=by rfl):QV X (.Call (.Name x p) (e::es) [] pos) (bU n F fs):=⟨have a:=a.run;JQ (Bm G g u o hk j .nil (LN) a l he m) λσ H Q h=>by
 obtain⟨H0,ρ,r,E,e,q⟩:=h;obtain⟨bs,eb,e⟩:=AU e;refine⟨H0,ρ,bs,E,eb,λvs H1 b c=>?_⟩;split at e
 ·rename_i i;rw[Qb];exact⟨by rw[<-Paired.length c];exact i,_,r,xV c,Bv bs,e,λv H2 s d t=>q v H2 (b.trans s) (d.old b) t⟩
 ·cases e⟩
end
end P1
variable{b:P1.Bx}{d:P1.Dt}{q:P1.Ev->S Bool}{F:O P1.Bx->S P1.Bx}{G:A2->O (L2.AZ×P1.Dt)->O P1.Bx->S (O (L2.AZ×P1.Dt))}{f:P1.Ev->S P1.Bx}{g:P1.Ev->S P1.Ap}{p:P1.Ev->S Bool}{AQ:O (L2.AZ×P1.Dt)}{ds:O P1.Dt}{fa:P1.Ev->S P1.Bx}{ρ:P1.Ev}{fb fc:P1.Ev->S P1.Bx}{g1 g2:P1.Ev->S P1.Ap}{gs:O (Int×A2×O P1.Dt)}{gt:P1.Dt->P1.Ev->S P1.Ev}{gb:P1.Ev->S P1.Ap}{fi:P1.Ev->S (O P1.Dt)}{fe:P1.Ev->S P1.Bx}{Ac:A2->L2.Hp->O P1.Dt->L2.HO->Prop}{fk fo fv:P1.Ev->S P1.Bx}{fr:P1.Ev->S (O (AK×P1.Dt))}{f1:P1.Ev->S P1.Bx}{gx:P1.Ev->S P1.Dt}{tab:O (AK×(O P1.Bx->S P1.Bx))}{kf:O P1.Dt->S (O (O L2.AZ))}{bL b_1 mV:P1.Bx}
namespace P1
open L2 SeqAt
open AutoSeq1 (wpAny_loadPart')
def Gv(h:A7)(a:A2):Prop:=∃o ep,h.get? a=Z o/\o.ExactDict/\o.data=.dict #[] ep
section
variable{b:A2}
theorem xW{AQ:O (AZ×V)}{vs:O (AZ×A1)}(q:AQ=[])(r:KV AQ vs)(d:h.DictOf (cG P w) a vs):Gv h a:=by
 subst q;cases r;obtain⟨o,es,ep,h1,h2,b,_,c,_⟩:=d;have:es=#[]:=by
  have:=c.length;apply ym;simpa using this
 subst this;exact⟨o,ep,h1,h2,b⟩
theorem Gv.dict(P:A4)(w:A5)(x:Gv h a):h.DictOf (strKind P w) a []:=by
 obtain⟨o,ep,h1,h2,c⟩:=x;exact⟨o,#[],ep,h1,h2,c,λe b=>by simp at b,.nil,Kk⟩
theorem NH(e:(a==sysModules)=false)(d:(b==sysModules)=false)(g:Gv s.heap a)(f:Gv s.heap b)(c:A.units<cLine):RcAt A s (.ref a) (.ref b) true:=λprog w E Q h=>
 PySem.W.keq_eq (knd:=strKind prog w) e d (g.dict prog w) (f.dict prog w) c (λ_=>.nil) h
theorem SU(e:(a==sysModules)=false)(d:(b==sysModules)=false)(g:Gv s.heap a)(f:Gv s.heap b)(c:A.units<cLine):RcNeAt A s (.ref a) (.ref b) false:=λprog w E Q h=>
 PySem.W.keq_ne (r:=true) (knd:=strKind prog w) e d (g.dict prog w) (f.dict prog w) c (λ_=>.nil) h
theorem Mu(o:AF)(b:AK)(u:Tok):Meets (Builtin.«dict.__eq__» ⟨[.ref a,.str b u],[]⟩) (λ_ R s=>(s.heap.get? a=Z o/\o.cls=.type "dict")/\R (.ok (.ret .notImplemented)) s):=
 .of_wp λprog w A R s h=>by
  have c:s.TypeIs (.ref a) "dict":=⟨o,h.1.1,h.1.2⟩;show A8 _ _ (Builtin.Dict.dictSlotArgs "__eq__" ⟨[.ref a,.str b u],[]⟩ >>= _) _ _ s;refine zb ?_;unfold Builtin.Dict.dictSlotArgs;refine zb (wpAny_notOrdered_dict c ?_);show A8 _ _ (pure (Value.ref a,Value.str b u)) _ _ s;refine zd ?_;refine zb (JE (T :="str") (typeIs_str s b u) PySem.F.sub_str_dict ?_);simp only[y9,QU];refine zb (ka ?_);exact zd ⟨_,rfl,h.2⟩
theorem Mw(b:AK)(u:Tok)(es:Array DictEntry)(ep:Nat)(e:S A2)(sl:Array (S A1)):Meets (Builtin.«str.__eq__» ⟨[.str b u,.ref a],[]⟩) (λ_ R s=>s.heap.get? a=Z { cls:=.type "dict",dict:=e,data:=.dict es ep,slots:=sl }/\R (.ok (.ret .notImplemented)) s):=
 .of_wp λprog w A R s h=>by obtain⟨hp,g,d,tk,os⟩:=s;obtain⟨c,h⟩:=h;wp_walk using wpAny_loadPart' c,y8 c;exact⟨_,rfl,h⟩
theorem HN(x:AK)(t:Tok)(d:Gv s.heap a)(g:A.units<cLine):RcAt A s (.str x t) (.ref a) false:=λprog w E Q h=>by
 obtain⟨⟨cls,i,j,sl⟩,ep,c,⟨f,l,hs⟩,e⟩:=d;simp only at f e;subst f e;exact rc_eq_decline_or (k:=false) (typeIs_str s x t) ⟨_,c,rfl⟩ () PySem.F.sub_dict_str PySem.F.slot_str_eq PySem.F.slot_dict_eq_refl
  (λ_ b=>call_meets PySem.F.slot_str_eq (typeIs_str s x t) PySem.F.entry_str_eq (PySem.F.args_str_eq_2 _ _) (Mw x t #[] ep i sl) ⟨c,b⟩)
  (λ_ b=>call_meets PySem.F.slot_dict_eq_refl ⟨_,c,rfl⟩ PySem.F.entry_dict_eq (PySem.F.args_dict_eq_2 _ _) (Mu _ x t) ⟨⟨c,rfl⟩,b⟩)
  (λ_ b=>wpAny_of_eq (rfl:isSame (.str x t) (.ref a)=pure false) b) (.inr g) h
theorem Mx(o:AF)(b:AK)(u:Tok):Meets (Builtin.«dict.__ne__» ⟨[.ref a,.str b u],[]⟩) (λ_ R s=>(s.heap.get? a=Z o/\o.cls=.type "dict")/\R (.ok (.ret .notImplemented)) s):=
 .of_wp λprog w A R s h=>by
  have c:s.TypeIs (.ref a) "dict":=⟨o,h.1.1,h.1.2⟩;show A8 _ _ (Builtin.Dict.dictSlotArgs "__ne__" ⟨[.ref a,.str b u],[]⟩ >>= _) _ _ s;refine zb ?_;unfold Builtin.Dict.dictSlotArgs;refine zb (wpAny_notOrdered_dict c ?_);show A8 _ _ (pure (Value.ref a,Value.str b u)) _ _ s;refine zd ?_;refine zb (JE (T :="str") (typeIs_str s b u) PySem.F.sub_str_dict ?_);simp only[y9,QU];refine zb (ka ?_);exact zd ⟨_,rfl,h.2⟩
theorem Mz(b:AK)(u:Tok)(es:Array DictEntry)(ep:Nat)(e:S A2)(sl:Array (S A1)):Meets (Builtin.«str.__ne__» ⟨[.str b u,.ref a],[]⟩) (λ_ R s=>s.heap.get? a=Z { cls:=.type "dict",dict:=e,data:=.dict es ep,slots:=sl }/\R (.ok (.ret .notImplemented)) s):=
 .of_wp λprog w A R s h=>by obtain⟨hp,g,d,tk,os⟩:=s;obtain⟨c,h⟩:=h;wp_walk using wpAny_loadPart' c,y8 c;exact⟨_,rfl,h⟩
theorem Vv(x:AK)(t:Tok)(d:Gv s.heap a)(g:A.units<cLine):RcNeAt A s (.str x t) (.ref a) true:=λprog w E Q h=>by
 obtain⟨⟨cls,i,j,sl⟩,ep,c,⟨f,l,hs⟩,e⟩:=d;simp only at f e;subst f e;exact rc_ne_decline_or (k:=false) (typeIs_str s x t) ⟨_,c,rfl⟩ () PySem.F.sub_dict_str PySem.F.slot_str_ne PySem.F.slot_dict_ne_refl
  (λ_ b=>call_meets PySem.F.slot_str_ne (typeIs_str s x t) PySem.F.entry_str_ne (PySem.F.args_str_ne_2 _ _) (Mz x t #[] ep i sl) ⟨c,b⟩)
  (λ_ b=>call_meets PySem.F.slot_dict_ne_refl ⟨_,c,rfl⟩ PySem.F.entry_dict_ne (PySem.F.args_dict_ne_2 _ _) (Mx _ x t) ⟨⟨c,rfl⟩,b⟩)
  (λ_ b=>wpAny_of_eq (rfl:isSame (.str x t) (.ref a)=pure false) b) (.inr g) h
theorem Vw(x:AK)(t:Tok)(d:Gv s.heap a)(b:A.units<cLine):EqAt A s (.str x t) (.ref a) false:=λprog w E Q h=>by
 unfold eqBool;refine qa ?_;refine wpAny_ite_split (λc=>absurd (eq_of_beq c) nofun) (λ_=>?_);exact zb (HN x t d b prog w E _ (kA h))
end
mutual
def xX:Dt->Nat
 |.tup xs=>xY xs+1
 |.lst xs=>xY xs+1
 |_=>1
def xY:O Dt->Nat
 |[]=>0
 |d::ds=>max (xX d) (xY ds)
end
mutual
def Gi:Dt->Dt->S Bool
 |.non,.non=>Z true
 |.non,.bl _=>Z false|.non,.int _=>Z false|.non,.str _=>Z false|.non,.tup _=>Z false|.non,.lst _=>Z false
 |.bl a,.bl b=>Z (a==b)
 |.bl a,.int b=>Z ((if a then 1 else 0)==b)
 |.bl _,.non=>Z false|.bl _,.str _=>Z false|.bl _,.tup _=>Z false|.bl _,.lst _=>Z false
 |.int a,.int b=>Z (a==b)
 |.int a,.bl b=>Z (a==(if b then 1 else 0))
 |.int _,.non=>Z false|.int _,.str _=>Z false|.int _,.tup _=>Z false|.int _,.lst _=>Z false
 |.str a,.str b=>Z (a==b)
 |.str _,.non=>Z false|.str _,.bl _=>Z false|.str _,.int _=>Z false|.str _,.tup _=>Z false|.str _,.lst _=>Z false|.str _,.emp=>Z false
 |.tup xs,.tup ys=>jZ xs ys
 |.tup _,.non=>Z false|.tup _,.bl _=>Z false|.tup _,.int _=>Z false|.tup _,.str _=>Z false|.tup _,.lst _=>Z false
 |.lst xs,.lst ys=>jZ xs ys
 |.emp,.emp=>Z true
 |.lst _,.non=>Z false|.lst _,.bl _=>Z false|.lst _,.int _=>Z false|.lst _,.str _=>Z false|.lst _,.tup _=>Z false
 |_,_=>U
def jZ:O Dt->O Dt->S Bool
 |[],[]=>Z true
 |[],_::_=>Z false
 |_::_,[]=>Z false
 |x::xs,y::ys=>match Gi x y with
  |some b=>match jZ xs ys with
   |some c=>Z (b&&c)
   |none=>U
  |none=>U
end
mutual
theorem MF:∀{d:Dt} {k:Bool},Gi d d=Z k->k=true
 |.non,_,e=>by cases e;rfl
 |.bl b,_,e=>by cases e;simp
 |.int b,_,e=>by cases e;simp
 |.str b,_,e=>by cases e;simp
 |.tup xs,_,e=>zu (ds:=xs) e
 |.lst xs,_,e=>zu (ds:=xs) e
 |.emp,_,e=>by cases e;rfl
theorem zu:∀{ds:O Dt} {k:Bool},jZ ds ds=Z k->k=true
 |[],_,e=>by simp only[jZ]at e;cases e;rfl
 |d::ds,_,e=>by
  simp only[jZ]at e;cases h:Gi d d with
  |none=>rw[h]at e;cases e
  |some b=>
   rw[h]at e;simp only at e;cases h2:jZ ds ds with
   |none=>rw[h2]at e;cases e
   |some c=>
    rw[h2]at e;cases e;rw[MF h,zu h2];rfl
end
theorem Bw(xs ys:O Dt):Gi (.tup xs) (.tup ys)=jZ xs ys:=rfl
theorem uq:∀{xs ys:O Dt} {k:Bool},jZ xs ys=Z k->∃e:Nat->Bool,(∀(j:Nat) x y,xs[j]?=Z x->ys[j]?=Z y->Gi x y=Z (e j))/\k=((dg (min xs.length ys.length)).all e&&xs.length==ys.length)
 |[],[],k,h=>by simp only[jZ]at h;cases h;exact⟨λ_=>true,λj x y e=>by simp at e,by simp⟩
 |[],y::ys,k,h=>by simp only[jZ]at h;cases h;exact⟨λ_=>true,λj x y e=>by simp at e,by simp⟩
 |x::xs,[],k,h=>by simp only[jZ]at h;cases h;exact⟨λ_=>true,λj x y _ e=>by simp at e,by simp⟩
 |x::xs,y::ys,k,h=>by
  simp only[jZ]at h;cases h1:Gi x y with
  |none=>rw[h1]at h;cases h
  |some b=>
   rw[h1]at h;simp only at h;cases h2:jZ xs ys with
   |none=>rw[h2]at h;cases h
   |some c=>
    rw[h2]at h;cases h;obtain⟨e,g,f⟩:=uq h2;refine⟨λj=>match j with|0=>b|j+1=>e j,λj u v a ev=>?_,?_⟩
    ·cases j with
     |zero=>simp at a ev;subst a ev;exact h1
     |succ j=>exact g j u v (by simpa using a) (by simpa using ev)
    ·have:min (x::xs).length (y::ys).length=min xs.length ys.length+1:=by simp only[ZZ];omega
     rw[this,List.range_succ_eq_map,kK,List.all_map,f];have d:((x::xs).length==(y::ys).length)=(xs.length==ys.length):=by
      rw[mv];simp
     rw[d,Bool.and_assoc];rfl
theorem ur:∀{ds:O Dt} {j:Nat} {d:Dt},ds[j]?=Z d->xX d<=xY ds
 |[],_,_,e=>by simp at e
 |d::ds,0,_,e=>by simp at e;subst e;simp only[xY];exact Nat.le_max_left _ _
 |d::ds,j+1,_,e=>by
  simp only[xY];exact Zl (ur (ds:=ds) (j:=j) (by simpa using e)) (Nat.le_max_right _ _)
theorem BJ(I:L2.AV X AO σ H s)(h:xO X.K H a vs):∃b,s.heap.get? a=Z b/\b.cls=.type "tuple":=by
 obtain⟨AS,_,⟨b,e,c,_⟩,_⟩:=I.tuple h;exact⟨b,e,c⟩
theorem BK(I:L2.AV X AO σ H s)(h:sY X.K H a vs):∃b,s.heap.get? a=Z b/\b.cls=.type "list":=by
 obtain⟨AS,_,⟨b,n,e,c,_⟩,_⟩:=I.list h;exact⟨b,e,c⟩
theorem xZ(I:L2.AV X AO σ H s)(h:H a=Z (.iU o (.dK []))):∃b,s.heap.get? a=Z b/\b.cls=.type "dict":=by
 obtain⟨e,_,_,vs,_,b,es,ep,e2,ex,_⟩:=I.hok a _ h;exact⟨b,e2,ex.1⟩
theorem zA{n m:String}(h:∃b,s.heap.get? a=Z b/\b.cls=.type n)(q:∃b,s.heap.get? a=Z b/\b.cls=.type m)(d:n≠m):False:=by
 obtain⟨o,e,c⟩:=h;obtain⟨o',e',c'⟩:=q;rw[e]at e';cases e';rw[c]at c';exact d (by injection c')
mutual
theorem AX.inj(I:L2.AV X AO σ H s):∀{d e:Dt} {v:V},AX X.K H d v->AX X.K H e v->d=e
 |.non,e,v,h,q=>by
  simp only[AX]at h;subst h;cases e<;>simp only[AX]at q<;>first|rfl|(cases q;done)|(obtain⟨a,b,z,_⟩:=q;cases z;done)|(obtain⟨z,_⟩:=q;cases z;done)
 |.bl _,e,v,h,q=>by
  simp only[AX]at h;subst h;cases e<;>simp only[AX]at q<;>first|(cases q;rfl)|(cases q;done)|(obtain⟨a,b,z,_⟩:=q;cases z;done)|(obtain⟨z,_⟩:=q;cases z;done)
 |.int _,e,v,h,q=>by
  simp only[AX]at h;subst h;cases e<;>simp only[AX]at q<;>first|(cases q;rfl)|(cases q;done)|(obtain⟨a,b,z,_⟩:=q;cases z;done)|(obtain⟨z,_⟩:=q;cases z;done)
 |.str x,e,v,h,q=>by
  simp only[AX]at h;have g:v=.str x:=h.1;subst g;cases e with
  |str y=>
   simp only[AX]at q;have z:V.str x=V.str y:=q.1;injection z with z;rw[z]
  |tup es=>simp only[AX]at q;obtain⟨a,b,z,_⟩:=q;cases z
  |lst es=>simp only[AX]at q;obtain⟨a,b,z,_⟩:=q;cases z
  |emp=>simp only[AX]at q;obtain⟨a,b,z,_⟩:=q;cases z
  |_=>simp only[AX]at q;cases q
 |.tup ds,e,v,h,q=>by
  simp only[AX]at h;obtain⟨a,vs,rfl,sq,r⟩:=h;cases e with
  |tup es=>
   simp only[AX]at q;obtain⟨b,us,z,c,f⟩:=q;cases z;have:=I.Ho sq c;subst this;rw[aO.inj I r f]
  |lst es=>
   simp only[AX]at q;obtain⟨b,us,z,c,f⟩:=q;cases z;exact(zA (BJ I sq) (BK I c.sq) ()).elim
  |emp=>
   simp only[AX]at q;obtain⟨b,o,z,c⟩:=q;cases z;exact(zA (BJ I sq) (xZ I c) ()).elim
  |str x=>simp only[AX]at q;have z:=q.1;cases z
  |_=>simp only[AX]at q;cases q
 |.lst ds,e,v,h,q=>by
  simp only[AX]at h;obtain⟨a,vs,rfl,sq,r⟩:=h;cases e with
  |lst es=>
   simp only[AX]at q;obtain⟨b,us,z,c,f⟩:=q;cases z;have:=I.LQ sq.sq c.sq;subst this;rw[aO.inj I r f]
  |tup es=>
   simp only[AX]at q;obtain⟨b,us,z,c,f⟩:=q;cases z;exact(zA (BK I sq.sq) (BJ I c) ()).elim
  |emp=>
   simp only[AX]at q;obtain⟨b,o,z,c⟩:=q;cases z;exact(zA (BK I sq.sq) (xZ I c) ()).elim
  |str x=>simp only[AX]at q;have z:=q.1;cases z
  |_=>simp only[AX]at q;cases q
 |.emp,e,v,h,q=>by
  simp only[AX]at h;obtain⟨a,o,rfl,sq⟩:=h;cases e with
  |emp=>rfl
  |tup es=>
   simp only[AX]at q;obtain⟨b,us,z,c,f⟩:=q;cases z;exact(zA (xZ I sq) (BJ I c) ()).elim
  |lst es=>
   simp only[AX]at q;obtain⟨b,us,z,c,f⟩:=q;cases z;exact(zA (xZ I sq) (BK I c.sq) ()).elim
  |str x=>simp only[AX]at q;have z:=q.1;cases z
  |_=>simp only[AX]at q;cases q
theorem aO.inj(I:L2.AV X AO σ H s):∀{ds es:O Dt} {vs:O V},aO X.K H ds vs->aO X.K H es vs->ds=es
 |[],es,vs,h,q=>by
  simp only[aO]at h;subst h;cases es with
  |nil=>rfl
  |cons e es=>simp only[aO]at q;obtain⟨_,_,z,_⟩:=q;cases z
 |d::ds,es,vs,h,q=>by
  simp only[aO]at h;obtain⟨v,r,rfl,h1,h2⟩:=h;cases es with
  |nil=>simp only[aO]at q;cases q
  |cons e es=>
   simp only[aO]at q;obtain⟨b,a,z,q1,q2⟩:=q;cases z;rw[AX.inj I h1 q1,aO.inj I h2 q2]
end
theorem l5(I:L2.AV X AO σ H s):∀(n:Nat) {A:A6} {d e:Dt} {x y:V} {u v:A1} {k:Bool},min (xX d) (xX e)<=n->A.units+n<cLine->AX X.K H d x->AX X.K H e y->At x u->At y v->Gi d e=Z k->EqAt A s u v k:=by
 intro n
 induction n with
 |zero=>
  intro A d e x y u v k P;have h1:1<=xX d:=by cases d<;>simp only[xX]<;>omega
  have h2:1<=xX e:=by cases e<;>simp only[xX]<;>omega
  omega
 |succ n ih=>
  intro A d e x y u v k P hA m c w g ek;have h:A.units<cLine:=by omega
  by_cases J:u=v/\∃a,u=.ref a
  ·obtain⟨rfl,a,rfl⟩:=J;have hx:x=.ref a:=by have:=w.abs;simpa[Hm]using this.symm
   have hy:y=.ref a:=by have:=g.abs;simpa[Hm]using this.symm
   subst hx hy;have:=AX.inj I m c;subst this;rw[MF ek];exact EqAt.same _
  ·have items:∀{ds es:O Dt} {vs us:O V} {AS l:O A1} {f:Nat->Bool},min (xY ds) (xY es)<=n->aO X.K H ds vs->aO X.K H es us->AY vs AS->AY us l->(∀(j:Nat) x y,ds[j]?=Z x->es[j]?=Z y->Gi x y=Z (f j)) →
     ∀j (h1:j<AS.toArray.size) (h2:j<l.toArray.size),EqAt A.in1 s AS.toArray[j] l.toArray[j] (f j):=by
    intro ds es vs us AS l f hm r1 r2 w1 W D j h1 h2;have l1:=w1.length;have l2:=W.length;have l3:=r1.length;have l4:=r2.length;have j1:j<AS.length:=by simpa using h1
    have j2:j<l.length:=by simpa using h2
    have Q:ds[j]?=Z ds[j]:=by simp
    have d2:es[j]?=Z es[j]:=by simp
    obtain⟨a,ea,B⟩:=r1.get Q;obtain⟨b,eb,C⟩:=r2.get d2;obtain⟨p,ep,rp⟩:=w1.get ea;obtain⟨q,eq,rq⟩:=W.get eb;have e1:AS.toArray[j]=p:=by simpa[j1]using ep
    have e2:l.toArray[j]=q:=by simpa[j2]using eq
    rw[e1,e2];have m1:=ur Q;have m2:=ur d2;exact ih () (by rw[units_in1];omega) B C rp rq (D j _ _ Q d2)
   cases d with
   |non=>
    cases m;cases w;cases e with
    |non=>cases c;cases g;cases ek;exact EqAt.same _
    |bl b=>cases c;cases g;cases ek;exact EqAt.none_bool b
    |int b=>cases c;obtain⟨t,rfl⟩:=g;cases ek;exact EqAt.none_int b t
    |str b=>obtain⟨rfl,_⟩:=c;obtain⟨t,rfl⟩:=g;cases ek;exact EqAt.none_str b t
    |tup es=>obtain⟨b,us,rfl,sq,_⟩:=c;cases g;cases ek;obtain⟨_,_,p,_⟩:=I.tuple sq;exact EqAt.none_tuple p h
    |lst es=>obtain⟨b,us,rfl,sq,_⟩:=c;cases g;cases ek;obtain⟨_,_,p,_⟩:=I.list sq.sq;exact EqAt.none_list p.isList h
    |emp=>cases ek
   |bl a=>
    cases m;cases w;cases e with
    |non=>cases c;cases g;cases ek;exact EqAt.bool_none a
    |bl b=>cases c;cases g;cases ek;exact EqAt.bool_bool a b
    |int b=>cases c;obtain⟨t,rfl⟩:=g;cases ek;exact EqAt.bool_int a b t
    |str b=>obtain⟨rfl,_⟩:=c;obtain⟨t,rfl⟩:=g;cases ek;exact EqAt.bool_str a b t
    |tup es=>obtain⟨b,us,rfl,sq,_⟩:=c;cases g;cases ek;obtain⟨_,_,p,_⟩:=I.tuple sq;exact EqAt.bool_tuple a p h
    |lst es=>obtain⟨b,us,rfl,sq,_⟩:=c;cases g;cases ek;obtain⟨_,_,p,_⟩:=I.list sq.sq;exact EqAt.bool_list a p.isList h
    |emp=>cases ek
   |int a=>
    cases m;obtain⟨i,rfl⟩:=w;cases e with
    |non=>cases c;cases g;cases ek;exact EqAt.int_none a i
    |bl b=>cases c;cases g;cases ek;exact EqAt.int_bool a i b
    |int b=>cases c;obtain⟨t,rfl⟩:=g;cases ek;exact EqAt.int_int a i b t
    |str b=>obtain⟨rfl,_⟩:=c;obtain⟨t,rfl⟩:=g;cases ek;exact EqAt.int_str a i b t
    |tup es=>obtain⟨b,us,rfl,sq,_⟩:=c;cases g;cases ek;obtain⟨_,_,p,_⟩:=I.tuple sq;exact EqAt.int_tuple a i p h
    |lst es=>obtain⟨b,us,rfl,sq,_⟩:=c;cases g;cases ek;obtain⟨_,_,p,_⟩:=I.list sq.sq;exact EqAt.int_list a i p.isList h
    |emp=>cases ek
   |str a=>
    obtain⟨rfl,_⟩:=m;obtain⟨i,rfl⟩:=w;cases e with
    |non=>cases c;cases g;cases ek;exact EqAt.str_none a i
    |bl b=>cases c;cases g;cases ek;exact EqAt.str_bool a i b
    |int b=>cases c;obtain⟨t,rfl⟩:=g;cases ek;exact EqAt.str_int a i b t
    |str b=>obtain⟨rfl,_⟩:=c;obtain⟨t,rfl⟩:=g;cases ek;exact EqAt.str_str a i b t
    |tup es=>obtain⟨b,us,rfl,sq,_⟩:=c;cases g;cases ek;obtain⟨_,_,p,_⟩:=I.tuple sq;exact EqAt.str_tuple a i p h
    |lst es=>obtain⟨b,us,rfl,sq,_⟩:=c;cases g;cases ek;obtain⟨_,_,p,_⟩:=I.list sq.sq;exact EqAt.str_list a i p.isList h
    |emp=>
     simp only[AX]at c;obtain⟨p,o,rfl,e⟩:=c;cases g;cases ek;obtain⟨_,_,vs,r,q⟩:=ud I.hok (.inr ⟨o,e⟩);exact Vw a i (xW X9 r q) h
   |tup ds=>
    obtain⟨a,vs,rfl,M,B⟩:=m;cases w;obtain⟨AS,E,p,_⟩:=I.tuple M;cases e with
    |non=>cases c;cases g;cases ek;exact EqAt.tuple_none p h
    |bl b=>cases c;cases g;cases ek;exact EqAt.tuple_bool b p h
    |int b=>cases c;obtain⟨t,rfl⟩:=g;cases ek;exact EqAt.tuple_int b t p h
    |str b=>obtain⟨rfl,_⟩:=c;obtain⟨t,rfl⟩:=g;cases ek;exact EqAt.tuple_str b t p h
    |lst es=>obtain⟨b,us,rfl,sq,_⟩:=c;cases g;cases ek;obtain⟨_,_,p2,_⟩:=I.list sq.sq;exact EqAt.tuple_list p p2.isList h
    |tup es=>
     obtain⟨b,us,rfl,N,C⟩:=c;cases g;obtain⟨l,F,p2,_⟩:=I.tuple N;change jZ _ _=Z _ at ek;obtain⟨f,D,rfl⟩:=uq ek;have G:a≠b:=λz=>J ⟨by rw[z],a,rfl⟩;have z:=EqAt.of_refs G (RcAt.tuples (A:=A) (e:=f) p p2 h (items (by simp only[xX]at P;omega) B C E F D));have q1:AS.toArray.size=ds.length:=by rw[zC,<-E.length,B.length]
     have q2:l.toArray.size=es.length:=by rw[zC,<-F.length,C.length]
     rw[q1,q2]at z;exact z
    |emp=>cases ek
   |lst ds=>
    obtain⟨a,vs,rfl,M,B⟩:=m;cases w;obtain⟨AS,E,p,_⟩:=I.list M.sq;cases e with
    |non=>cases c;cases g;cases ek;exact EqAt.list_none p.isList h
    |bl b=>cases c;cases g;cases ek;exact EqAt.list_bool b p.isList h
    |int b=>cases c;obtain⟨t,rfl⟩:=g;cases ek;exact EqAt.list_int b t p.isList h
    |str b=>obtain⟨rfl,_⟩:=c;obtain⟨t,rfl⟩:=g;cases ek;exact EqAt.list_str b t p.isList h
    |tup es=>obtain⟨b,us,rfl,sq,_⟩:=c;cases g;cases ek;obtain⟨_,_,p2,_⟩:=I.tuple sq;exact EqAt.list_tuple p.isList p2 h
    |lst es=>
     obtain⟨b,us,rfl,N,C⟩:=c;cases g;obtain⟨l,F,p2,_⟩:=I.list N.sq;change jZ _ _=Z _ at ek;obtain⟨f,D,rfl⟩:=uq ek;have G:a≠b:=λz=>J ⟨by rw[z],a,rfl⟩;have q1:AS.toArray.size=ds.length:=by rw[zC,<-E.length,B.length]
     have q2:l.toArray.size=es.length:=by rw[zC,<-F.length,C.length]
     by_cases Y:AS.toArray.size=l.toArray.size
     ·have z:=EqAt.of_refs G (RcAt.lists (A:=A) (e:=f) p.isList p2.isList Y h (items (by simp only[xX]at P;omega) B C E F D));have L:ds.length=es.length:=by omega
      rw[q1]at z;rw[L,mh,beq_self_eq_true,yn,<-L];exact z
     ·have L:(ds.length==es.length)=false:=by rw[beq_eq_false_iff_ne];omega
      rw[L,Ya];exact EqAt.of_refs G (RcAt.lists_lengths p.isList p2.isList (by simpa using Y) h)
    |emp=>cases ek
   |emp=>
    cases e<;>first|(cases ek;done)|skip;simp only[AX]at m c;obtain⟨a,o,rfl,e1⟩:=m;obtain⟨b,o',rfl,e2⟩:=c;cases w;cases g;cases ek;obtain⟨_,m1,vs,r,q⟩:=ud I.hok (.inr ⟨o,e1⟩);obtain⟨_,m2,a3,r',q'⟩:=ud I.hok (.inr ⟨o',e2⟩);exact EqAt.of_refs (λz=>J ⟨by rw[z],a,rfl⟩) (NH m1 m2 (xW X9 r q) (xW X9 r' q') h)
theorem MJ(I:L2.AV X AO σ H s){es:O Dt}{us:O V}{c:O A1}{f:Nat->Bool}(G:min (xY ds) (xY es)<=n)(F:A.units+n+1<cLine)(g:aO X.K H ds vs)(i:aO X.K H es us)(h:AY vs AS)(e:AY us c)(o:∀(j:Nat) x y,ds[j]?=Z x->es[j]?=Z y->Gi x y=Z (f j)):∀j (h1:j<AS.toArray.size) (h2:j<c.toArray.size),EqAt A.in1 s AS.toArray[j] c.toArray[j] (f j):=by
 intro j h1 h2;have B:=h.length;have C:=e.length;have D:=g.length;have E:=i.length;have m:j<AS.length:=by simpa using h1
 have z:j<c.length:=by simpa using h2
 have d:ds[j]?=Z (ds[j]'()):=by simp
 have d2:es[j]?=Z (es[j]'()):=by simp
 obtain⟨a,ea,l⟩:=g.get d;obtain⟨b,eb,t⟩:=i.get d2;obtain⟨p,ep,v⟩:=h.get ea;obtain⟨q,w,u⟩:=e.get eb;have e1:AS.toArray[j]=p:=by simpa[m]using ep
 have e2:c.toArray[j]=q:=by simpa[z]using w
 rw[e1,e2];have J:=ur d;have m2:=ur d2;exact l5 I n () (by rw[units_in1];omega) l t v u (o j _ _ d d2)
def zB(K:B5)(H:Hp):Dt->V->Prop
 |.lst ds,v=>∃a vs,v=.ref a/\sY K H a vs/\aO K H ds vs
 |d,v=>AX K H d v
def qu:Bx->Bool
 |.n _=>true
 |.m _ _=>true
 |_=>false
def toD:Bx->Dt
 |.z d=>d
 |.l ds=>.lst ds
 |.o ds=>.lst ds
 |.n _=>.non
 |.m _ _=>.non
theorem bh.toD(h:bh K H b v)(a:qu b=false):zB K H (toD b) v:=by
 cases b with
 |z d=>
  cases d with
  |lst ds=>exact h.HD rfl
  |_=>exact h
 |l ds=>exact h.HD rfl
 |o ds=>exact h.HD rfl
 |n _=>cases a
 |m _ _=>cases a
theorem Tq(I:L2.AV X AO σ H s){e:Dt}{x y:V}{v:A1}{k:Bool}(P:min (xX d) (xX e)<=100)(hA:X.A.units+100<cLine)(z:zB X.K H d x)(h:zB X.K H e y)(B:At x u)(i:At y v)(ek:Gi d e=Z k):RcAt X.A s u v k/\RcNeAt X.A s u v (!k):=by
 have g:X.A.units<cLine:=by omega
 cases d with
 |non=>
  cases z;cases B;cases e with
  |non=>
   cases h;cases i;cases ek;exact⟨.none_none,.none_none⟩
  |bl c=>
   cases h;cases i;cases ek;exact⟨.none_bool c,.none_bool c⟩
  |int c=>
   cases h;obtain⟨t2,rfl⟩:=i;cases ek;exact⟨.none_int c t2,.none_int c t2⟩
  |str c=>
   obtain⟨rfl,_⟩:=h;obtain⟨t2,rfl⟩:=i;cases ek;exact⟨.none_str c t2,.none_str c t2⟩
  |tup c=>
   obtain⟨a2,w,rfl,j,m⟩:=h;cases i;obtain⟨t,l,p2,_⟩:=I.tuple j;cases ek;exact⟨.none_tuple p2 g,.none_tuple p2 g⟩
  |lst c=>
   obtain⟨a2,w,rfl,j,m⟩:=h;cases i;obtain⟨t,l,p2,_⟩:=I.list j;cases ek;exact⟨.none_list p2.isList g,.none_list p2.isList g⟩
  |emp=>cases ek
 |bl x1=>
  cases z;cases B;cases e with
  |non=>
   cases h;cases i;cases ek;exact⟨.bool_none x1,.bool_none x1⟩
  |bl c=>
   cases h;cases i;cases ek;exact⟨.bool_bool x1 c,.bool_bool x1 c⟩
  |int c=>
   cases h;obtain⟨t2,rfl⟩:=i;cases ek;exact⟨.bool_int x1 c t2,.bool_int x1 c t2⟩
  |str c=>
   obtain⟨rfl,_⟩:=h;obtain⟨t2,rfl⟩:=i;cases ek;exact⟨.bool_str x1 c t2,.bool_str x1 c t2⟩
  |tup c=>
   obtain⟨a2,w,rfl,j,m⟩:=h;cases i;obtain⟨t,l,p2,_⟩:=I.tuple j;cases ek;exact⟨.bool_tuple x1 p2 g,.bool_tuple x1 p2 g⟩
  |lst c=>
   obtain⟨a2,w,rfl,j,m⟩:=h;cases i;obtain⟨t,l,p2,_⟩:=I.list j;cases ek;exact⟨.bool_list x1 p2.isList g,.bool_list x1 p2.isList g⟩
  |emp=>cases ek
 |int x1=>
  cases z;obtain⟨t1,rfl⟩:=B;cases e with
  |non=>
   cases h;cases i;cases ek;exact⟨.int_none x1 t1,.int_none x1 t1⟩
  |bl c=>
   cases h;cases i;cases ek;exact⟨.int_bool x1 t1 c,.int_bool x1 t1 c⟩
  |int c=>
   cases h;obtain⟨t2,rfl⟩:=i;cases ek;exact⟨.int_int x1 t1 c t2,.int_int x1 t1 c t2⟩
  |str c=>
   obtain⟨rfl,_⟩:=h;obtain⟨t2,rfl⟩:=i;cases ek;exact⟨.int_str x1 t1 c t2,.int_str x1 t1 c t2⟩
  |tup c=>
   obtain⟨a2,w,rfl,j,m⟩:=h;cases i;obtain⟨t,l,p2,_⟩:=I.tuple j;cases ek;exact⟨.int_tuple x1 t1 p2 g,.int_tuple x1 t1 p2 g⟩
  |lst c=>
   obtain⟨a2,w,rfl,j,m⟩:=h;cases i;obtain⟨t,l,p2,_⟩:=I.list j;cases ek;exact⟨.int_list x1 t1 p2.isList g,.int_list x1 t1 p2.isList g⟩
  |emp=>cases ek
 |str x1=>
  obtain⟨rfl,_⟩:=z;obtain⟨t1,rfl⟩:=B;cases e with
  |non=>
   cases h;cases i;cases ek;exact⟨.str_none x1 t1,.str_none x1 t1⟩
  |bl c=>
   cases h;cases i;cases ek;exact⟨.str_bool x1 t1 c,.str_bool x1 t1 c⟩
  |int c=>
   cases h;obtain⟨t2,rfl⟩:=i;cases ek;exact⟨.str_int x1 t1 c t2,.str_int x1 t1 c t2⟩
  |str c=>
   obtain⟨rfl,_⟩:=h;obtain⟨t2,rfl⟩:=i;cases ek;exact⟨.str_str x1 t1 c t2,.str_str x1 t1 c t2⟩
  |tup c=>
   obtain⟨a2,w,rfl,j,m⟩:=h;cases i;obtain⟨t,l,p2,_⟩:=I.tuple j;cases ek;exact⟨.str_tuple x1 t1 p2 g,.str_tuple x1 t1 p2 g⟩
  |lst c=>
   obtain⟨a2,w,rfl,j,m⟩:=h;cases i;obtain⟨t,l,p2,_⟩:=I.list j;cases ek;exact⟨.str_list x1 t1 p2.isList g,.str_list x1 t1 p2.isList g⟩
  |emp=>
   simp only[zB,AX]at h;obtain⟨p,o,rfl,e⟩:=h;cases i;cases ek;obtain⟨_,_,vs,r,q⟩:=ud I.hok (.inr ⟨o,e⟩);exact⟨HN x1 t1 (xW X9 r q) g,Vv x1 t1 (xW X9 r q) g⟩
 |tup x1=>
  obtain⟨a1,W,rfl,J,D⟩:=z;cases B;obtain⟨F,C,p1,_⟩:=I.tuple J;cases e with
  |non=>
   cases h;cases i;cases ek;exact⟨.tuple_none p1 g,.tuple_none p1 g⟩
  |bl c=>
   cases h;cases i;cases ek;exact⟨.tuple_bool c p1 g,.tuple_bool c p1 g⟩
  |int c=>
   cases h;obtain⟨t2,rfl⟩:=i;cases ek;exact⟨.tuple_int c t2 p1 g,.tuple_int c t2 p1 g⟩
  |str c=>
   obtain⟨rfl,_⟩:=h;obtain⟨t2,rfl⟩:=i;cases ek;exact⟨.tuple_str c t2 p1 g,.tuple_str c t2 p1 g⟩
  |tup c=>
   obtain⟨a2,w,rfl,j,m⟩:=h;cases i;obtain⟨t,l,p2,_⟩:=I.tuple j;change jZ _ _=Z _ at ek;obtain⟨f,L,rfl⟩:=uq ek;have q1:F.toArray.size=x1.length:=by rw[zC,<-C.length,D.length]
   have q2:t.toArray.size=c.length:=by rw[zC,<-l.length,m.length]
   have it:=MJ I (n:=99) (A:=X.A) (by simp only[xX]at P;omega) () D m C l L;rw[<-q1,<-q2];exact⟨.tuples p1 p2 g it,.tuples p1 p2 g it⟩
  |lst c=>
   obtain⟨a2,w,rfl,j,m⟩:=h;cases i;obtain⟨t,l,p2,_⟩:=I.list j;cases ek;exact⟨.tuple_list p1 p2.isList g,.tuple_list p1 p2.isList g⟩
  |emp=>cases ek
 |lst x1=>
  obtain⟨a1,W,rfl,J,D⟩:=z;cases B;obtain⟨F,C,p1,_⟩:=I.list J;cases e with
  |non=>
   cases h;cases i;cases ek;exact⟨.list_none p1.isList g,.list_none p1.isList g⟩
  |bl c=>
   cases h;cases i;cases ek;exact⟨.list_bool c p1.isList g,.list_bool c p1.isList g⟩
  |int c=>
   cases h;obtain⟨t2,rfl⟩:=i;cases ek;exact⟨.list_int c t2 p1.isList g,.list_int c t2 p1.isList g⟩
  |str c=>
   obtain⟨rfl,_⟩:=h;obtain⟨t2,rfl⟩:=i;cases ek;exact⟨.list_str c t2 p1.isList g,.list_str c t2 p1.isList g⟩
  |tup c=>
   obtain⟨a2,w,rfl,j,m⟩:=h;cases i;obtain⟨t,l,p2,_⟩:=I.tuple j;cases ek;exact⟨.list_tuple p1.isList p2 g,.list_tuple p1.isList p2 g⟩
  |lst c=>
   obtain⟨a2,w,rfl,j,m⟩:=h;cases i;obtain⟨t,l,p2,_⟩:=I.list j;change jZ _ _=Z _ at ek;obtain⟨f,L,rfl⟩:=uq ek;have q1:F.toArray.size=x1.length:=by rw[zC,<-C.length,D.length]
   have q2:t.toArray.size=c.length:=by rw[zC,<-l.length,m.length]
   have it:=MJ I (n:=99) (A:=X.A) (by simp only[xX]at P;omega) () D m C l L;by_cases E:F.toArray.size=t.toArray.size
   ·have G:x1.length=c.length:=by omega
    rw[G,mh,beq_self_eq_true,yn,<-G,<-q1];exact⟨.lists p1.isList p2.isList E g it,.lists p1.isList p2.isList E g it⟩
   ·have G:(x1.length==c.length)=false:=by rw[beq_eq_false_iff_ne];omega
    rw[G,Ya];exact⟨.lists_lengths p1.isList p2.isList (by simpa using E) g,.lists_lengths p1.isList p2.isList (by simpa using E) g⟩
  |emp=>cases ek
 |emp=>
  cases e<;>first|(cases ek;done)|skip;simp only[zB,AX]at z h;obtain⟨a,o,rfl,e1⟩:=z;obtain⟨b,o',rfl,e2⟩:=h;cases B;cases i;cases ek;obtain⟨_,Q,vs,r,q⟩:=ud I.hok (.inr ⟨o,e1⟩);obtain⟨_,m2,Y,M,N⟩:=ud I.hok (.inr ⟨o',e2⟩);exact⟨NH Q m2 (xW X9 r q) (xW X9 M N) g,SU Q m2 (xW X9 r q) (xW X9 M N) g⟩
def Be(a b:Bx):S Bx:=if qu a=true\/qu b=true then U else if min (xX (toD a)) (xX (toD b))<=100 then(Gi (toD a) (toD b)).bind λk=>Z (.z (.bl k))else U
def Tr(a b:Bx):S Bx:=if qu a=true\/qu b=true then U else if min (xX (toD a)) (xX (toD b))<=100 then(Gi (toD a) (toD b)).bind λk=>Z (.z (.bl (!k)))else U
theorem of_eq(f:X.A.units+100<cLine):Ml X (AH .Eq) Be:=by
 intro AO s σ H x y v u Q I m n h;obtain⟨a,b,c,l,o,e,q⟩:=h;unfold Be at e;split at e
 ·cases e
 rename_i d;have i:qu a=false:=by cases h:qu a with|false=>rfl|true=>exact absurd (.inl h) d
 have g:qu b=false:=by cases h:qu b with|false=>rfl|true=>exact absurd (.inr h) d
 split at e
 ·rename_i j;obtain⟨k,ek,e⟩:=AU e;cases e;exact(Tq I j f (l.toD i) (o.toD g) m n ek).1 X.prog X.w X.xe _ ⟨.bl k,H,I,rfl,q _ H (AW.refl H) trivial (by unfold bh AX;rfl)⟩
 ·cases e
theorem z8(f:X.A.units+100<cLine):Ml X (AH .NotEq) Tr:=by
 intro AO s σ H x y v u Q I m n h;obtain⟨a,b,c,l,o,e,q⟩:=h;unfold Tr at e;split at e
 ·cases e
 rename_i d;have i:qu a=false:=by cases h:qu a with|false=>rfl|true=>exact absurd (.inl h) d
 have g:qu b=false:=by cases h:qu b with|false=>rfl|true=>exact absurd (.inr h) d
 split at e
 ·rename_i j;obtain⟨k,ek,e⟩:=AU e;cases e;exact(Tq I j f (l.toD i) (o.toD g) m n ek).2 X.prog X.w X.xe _ ⟨.bl (!k),H,I,rfl,q _ H (AW.refl H) trivial (by unfold bh AX;rfl)⟩
 ·cases e
theorem CW{i:Int}:bh K H (.z (.int i)) (.int i):=by unfold bh AX;rfl
theorem Vx{b:Bool}:bh K H (.z (.bl b)) (.bl b):=by unfold bh AX;rfl
theorem Fu(h:x.length<=AB):bh K H (.z (.str x)) (.str x):=by unfold bh AX;exact⟨rfl,h⟩
theorem Ly{i:Int}(h:bh K H (.z (.int i)) v):v=.int i:=by simpa only[bh,AX]using h
theorem Vy(h:bh K H (.z (.str x)) v):v=.str x/\x.length<=AB:=by simpa only[bh,AX]using h
theorem Go(h:bh K H (.z (.tup ds)) v):∃a vs,v=.ref a/\xO K H a vs/\aO K H ds vs:=by simpa only[bh,AX]using h
def i2(g:Int->Int->S Dt):Bx->Bx->S Bx
 |.z (.int i),.z (.int j)=>(g i j).bind λd=>Z (.z d)
 |_,_=>U
theorem HS{f:A1->A1->Sem A1}{r:R2}{g:Int->Int->S Dt}(l:yU X f r)(h:∀i j d H Q,g i j=Z d->(∀v,AX X.K H d v->Q v H)->r (.int i) (.int j) H Q):Ml X f (i2 g):=yU.imp l λx y H Q q=>by
 obtain⟨a,b,c,n,o,e,q⟩:=q;unfold i2 at e;split at e
 ·rename_i i j;obtain⟨d,p,e⟩:=AU e;cases e;rw[Ly n,Ly o];exact h i j d H Q p λv m=>q v H (AW.refl H) trivial m
 ·cases e
theorem GL{i:Int}:AX K H (.int i) (.int i):=by unfold AX;rfl
theorem Fm{b:Bool}:AX K H (.bl b) (.bl b):=by unfold AX;rfl
abbrev ED:=i2 λi j=>Z (.int (i-j))
abbrev EU:=i2 λi j=>Z (.bl (decide (j<i)))
abbrev Hc:=i2 λi j=>Z (.bl (decide (j<=i)))
abbrev nM:=i2 λi j=>if 0<j/\j<1073741824 then Z (.int (i / j))else U
abbrev jf:=i2 λi j=>if 0<j then Z (.int (i%j))else U
abbrev L3:=i2 λi j=>if 0<=j/\j<=1000/\i.natAbs<2 ^ 64 then Z (.int (i ^ j.toNat))else U
theorem WH:Ml X (binaryOp .Sub) ED:=HS bX λi j d H Q e q=>by cases e;exact⟨i,j,rfl,rfl,q _ GL⟩
theorem Tt:Ml X (AH .Gt) EU:=HS fA λi j d H Q e q=>by cases e;exact⟨i,j,rfl,rfl,q _ Fm⟩
theorem WP:Ml X (AH .GtE) Hc:=HS RA λi j d H Q e q=>by cases e;exact⟨i,j,rfl,rfl,q _ Fm⟩
theorem jr:Ml X (binaryOp .FloorDiv) nM:=HS XG λi j d H Q e q=>by
 split at e
 ·rename_i h;cases e;exact⟨i,j,rfl,rfl,h,q _ GL⟩
 ·cases e
theorem cV:Ml X (binaryOp .Mod) jf:=HS XI λi j d H Q e q=>by
 split at e
 ·rename_i h;cases e;exact⟨i,j,rfl,rfl,h,q _ GL⟩
 ·cases e
theorem UY:Ml X (binaryOp .Pow) L3:=HS UN λi j d H Q e q=>by
 split at e
 ·rename_i h;cases e;exact⟨i,j,rfl,rfl,⟨h.1,by omega,h.2.2⟩,q _ GL⟩
 ·cases e
def Vz:Nat:=1000000
theorem SK:Vz<=AB:=by decide
theorem P3{l b:A2}{us:O V}{Q:VK}(I:L2.AV X AO σ H s)(t:sY X.K H l vs)(j:sY X.K H b us)(n:vs.length+us.length<=AB)(q:∀p,H p=U->Q (.ref p) (B1 H p (.lst (vs++us)))):
  A8 (db X) X.A (binaryOp .Add (.ref l) (.ref b)) (EP X AO σ Q) X.xe s:=by
 obtain⟨AS,d,⟨⟨cls,D,C,sl⟩,m,e1,c1,h,c⟩,z1⟩:=I.list t;obtain⟨a,f,⟨⟨cls2,x,z,u⟩,i,e2,c2,d2,g⟩,z2⟩:=I.list j;simp only at c1 h c c2 d2 g;subst c1 h c c2 d2 g;have y:=d.length;have B:=f.length;have e:AS.toArray++a.toArray=(AS++a).toArray:=by simp
 refine concat_meets ⟨_,e1,rfl⟩ ⟨_,e2,rfl⟩ noFill_list_add seq_list_add PySem.F.slot_list_add PySem.F.entry_list_add (PySem.F.args_list_add_2 _ _) (list_addW l b AS.toArray a.toArray m i U U sl u (by rw[zC,zC];omega)) ⟨e1,e2,?_⟩;rw[e];exact⟨.ref s.heap.objs.size,_,I.laid (t':=s.toks) (o:=.lst (vs++us)) (λb v q=>ze _ q) (zl _) ⟨by rw[Zp];exact n,_,0,d.append f,zt _ rfl⟩,rfl,q _ (I.hok.fresh (zl _))⟩
theorem fg{l b:A2}{us:O V}{Q:VK}(I:L2.AV X AO σ H s)(f:xO X.K H l vs)(d:xO X.K H b us)(q:vs.length+us.length<=AB)(q0:vs=[]->Q (.ref b) H)(q1:us=[]->Q (.ref l) H)(q2:∀p,H p=U->Q (.ref p) (B1 H p (.tup (vs++us)))):
  A8 (db X) X.A (binaryOp .Add (.ref l) (.ref b)) (EP X AO σ Q) X.xe s:=by
 by_cases a:vs=[]
 ·obtain⟨AS,i,⟨⟨cls,j,u,sl⟩,e1,c1,n,c⟩,z1⟩:=I.tuple f;obtain⟨m,v,⟨⟨cls2,h,t,o⟩,e2,c2,g,e⟩,z2⟩:=I.tuple d;simp only at c1 c c2 e;subst c1 c c2 e;have:AS=[]:=i.Bo.mpr a;exact concat_meets ⟨_,e1,rfl⟩ ⟨_,e2,rfl⟩ noFill_tuple_add seq_tuple_add PySem.F.slot_tuple_add xn (YY _ _)
   (tuple_addW0 l b AS.toArray m.toArray n g j h sl o (by simp[this])) ⟨e1,e2,⟨.ref b,H,I,rfl,q0 a⟩⟩
 ·exact b8 AO s σ H (.ref l) (.ref b) (.ref l) (.ref b) Q I X9 X9 ⟨l,b,vs,us,rfl,rfl,f,d,a,q,q1,λ_=>q2⟩
def iD:Bx->Bx->S Bx
 |.z (.int i),.z (.int j)=>Z (.z (.int (i+j)))
 |.z (.str i),.z (.str j)=>if i.length+j.length<=Vz then Z (.z (.str (i++j)))else U
 |.z (.tup xs),.z (.tup ys)=>if xs.length+ys.length<=Vz then Z (.z (.tup (xs++ys)))else U
 |a,b=>(qe a).bind λxs=>(qe b).bind λys=>if xs.length+ys.length<=Vz then Z (.o (xs++ys))else U
theorem D6(i j:AK):(i++j).length=i.length+j.length:=by
 show(i.cps++j.cps).size=_;rw[Kj];rfl
theorem dN:Ml X (binaryOp .Add) iD:=by
 intro AO s σ H x y v u Q I o t h;obtain⟨a,b,c,g,w,e,q⟩:=h;have B:=SK;unfold iD at e;split at e
 ·rename_i i j;cases e;exact WS AO s σ H x y v u Q I o t ⟨i,j,Ly g,Ly w,q _ H (AW.refl H) trivial CW⟩
 ·rename_i i j;split at e
  ·rename_i A;cases e;exact Qh AO s σ H x y v u Q I o t ⟨i,j,(Vy g).1,(Vy w).1,by omega,q _ H (AW.refl H) trivial (Fu (by rw[D6];omega))⟩
  ·cases e
 ·rename_i xs ys;split at e
  ·rename_i A;cases e;obtain⟨l,vs,rfl,sl,f⟩:=Go g;obtain⟨m,us,rfl,n,d⟩:=Go w;cases o;cases t;have h1:=f.length;have h2:=d.length;refine fg I sl n () (λz=>q _ H (AW.refl H) trivial ?_) (λz=>q _ H (AW.refl H) trivial ?_) λp hp=>q _ _ (bC hp) trivial ?_
   ·unfold bh AX;refine⟨m,us,rfl,n,?_⟩;have:xs=[]:=by subst z;exact hY (by simpa using h1.symm)
    rw[this,k7];exact d
   ·unfold bh AX;refine⟨l,vs,rfl,sl,?_⟩;have:ys=[]:=by subst z;exact hY (by simpa using h2.symm)
    rw[this,Qb];exact f
   ·unfold bh AX;exact⟨p,_,rfl,.inl (.inl aF),(f.append d).kp (.of (bC hp))⟩
  ·cases e
 ·obtain⟨xs,ea,e⟩:=AU e;obtain⟨ys,eb,e⟩:=AU e;split at e
  ·rename_i A;cases e;obtain⟨l,vs,rfl,sl,f⟩:=g.HD ea;obtain⟨m,us,rfl,n,d⟩:=w.HD eb;cases o;cases t;have h1:=f.length;have h2:=d.length;refine P3 I sl n () λp hp=>q _ _ (bC hp) (λa ea=>by cases ea;exact hp) ⟨p,_,rfl,aF,(f.append d).kp (.of (bC hp))⟩
  ·cases e
def uw:Bx->Bx->S Bx
 |.z (.int i),.z (.int j)=>if(-(2 ^ 64)<i/\i<2 ^ 64)\/(-(2 ^ 64)<j/\j<2 ^ 64)then Z (.z (.int (i*j)))else U
 |.z (.str x),.z (.int n)=>if n<=1000 ∧ -1000<=n/\x.length<=1000 then Z (.z (.str (Txt.mul x n)))else U
 |_,_=>U
theorem wj(x:Array Nat):∀(n:Nat) (a:Array Nat),((ba n x).foldl (·++·) a).size=a.size+n*x.size
 |0,a=>by simp
 |n+1,a=>by
  rw[kb,QA,wj x n,Kj,m4];omega
theorem J1(x:AK)(n:Int):(Txt.mul x n).length<=n.toNat*x.length+x.length:=by
 unfold Txt.mul;split
 ·exact qi _
 ·split
  ·exact Nat.le_add_left _ _
  ·show((ba n.toNat x.cps).foldl (·++·) #[]).size<=_;rw[wj];show(#[]:Array Nat).size+n.toNat*x.cps.size<=n.toNat*x.cps.size+x.cps.size;simp
theorem nO:Ml X (binaryOp .Mult) uw:=by
 intro AO s σ H x y v u Q I l m h;obtain⟨a,b,c,g,o,e,q⟩:=h;unfold uw at e;split at e
 ·rename_i i j;split at e
  ·rename_i d;cases e;exact dC AO s σ H x y v u Q I l m ⟨i,j,Ly g,Ly o,d,q _ H (AW.refl H) trivial CW⟩
  ·cases e
 ·rename_i f n;split at e
  ·rename_i d;cases e;obtain⟨rfl,hx⟩:=Vy g;have z:=Ly o;subst z;obtain⟨t,rfl⟩:=l;obtain⟨p,rfl⟩:=m;have hs:AB=16777216:=sizeLine_eq;have A:n.toNat*f.length<=1000*1000:=Nat.mul_le_mul () d.2.2;refine SB.mul ⟨?_,λh1 h2=>?_,λh1 h2=>?_⟩ λp k=>⟨.str _,H,I.tok _,⟨_,rfl⟩,q _ H (AW.refl H) trivial (Fu (Zl (J1 f n) ()))⟩
   ·have e1:decide (n < -(2 ^ 63:Int))=false:=qr ();have e2:decide (n>=2 ^ 63)=false:=qr ();rw[e1,e2];rfl
   ·have w:0<n:=by omega
    have:(1000:Int)<=(2 ^ 63-1) / n:=(Int.le_ediv_iff_mul_le w).mpr ();omega
   ·show decide (f.length*n.toNat>AB)=false;rw[m6];exact qr ()
  ·cases e
 ·cases e
def NS(i j:AK):Bool:=!(Builtin.Str.occurrences j i 0 j.length 1).isEmpty
def yd:Dt->Bool
 |.non=>true
 |.bl _=>true
 |.int _=>true
 |.str _=>true
 |_=>false
def CL(x:Dt)(ys:O Dt):S Bool:=if yd x=true/\ys.all yd=true then Z (ys.any λy=>match Gi y x with|some true=>true|_=>false)else U
def ux:Bx->S (O Dt)
 |.z (.lst ds)=>Z ds
 |.z (.tup ds)=>Z ds
 |.l ds=>Z ds
 |.o ds=>Z ds
 |_=>U
def ET:Bx->Bx->S Bool
 |.z (.str i),.z (.str j)=>Z (NS i j)
 |.z d,b=>(ux b).bind λys=>CL d ys
 |_,_=>U
def CY(a b:Bx):S Bx:=(ET a b).bind λk=>Z (.z (.bl k))
def Fh(a b:Bx):S Bx:=(ET a b).bind λk=>Z (.z (.bl (!k)))
theorem MK(r:AX K H d v)(f:yd d=true):su v=true:=by
 cases d<;>first|(cases f;done)|skip
 all_goals simp only[AX]at r
 ·subst r;rfl
 ·subst r;rfl
 ·subst r;rfl
 ·obtain⟨rfl,_⟩:=r;rfl
theorem HW{K:B5}{H:Hp}:∀{ds:O Dt} {vs:O V},aO K H ds vs->ds.all yd=true->vs.all su=true
 |[],_,h,_=>by simp only[aO]at h;subst h;rfl
 |d::ds,_,h,f=>by
  simp only[aO]at h;obtain⟨v,r,rfl,h1,h2⟩:=h;rw[kK,ZT]at f;rw[kK,MK h1 f.1,HW h2 f.2];rfl
theorem J2(b:Bool):(match Z b with|some true=>true|_=>false)=b:=by cases b<;>rfl
theorem UB{e:Dt}{x y:V}(b:AX K H d x)(a:AX K H e y)(fd:yd d=true)(fe:yd e=true):DI x y=(match Gi d e with|some true=>true|_=>false):=by
 cases d<;>first|(cases fd;done)|skip
 all_goals (cases e<;>first|(cases fe;done)|skip)
 all_goals simp only[AX]at b a
 all_goals first
  |(subst b;subst a;exact(J2 _).symm)
  |(obtain⟨rfl,_⟩:=b;subst a;exact(J2 _).symm)
  |(subst b;obtain⟨rfl,_⟩:=a;exact(J2 _).symm)
  |(obtain⟨rfl,_⟩:=b;obtain⟨rfl,_⟩:=a;exact(J2 _).symm)
theorem Tv{K:B5}{H:Hp}{d:Dt}{x:V}(a:AX K H d x)(fd:yd d=true):∀{ds:O Dt} {vs:O V},aO K H ds vs->ds.all yd=true->GI x vs=ds.any λy=>match Gi y d with|some true=>true|_=>false
 |[],_,h,_=>by simp only[aO]at h;subst h;rfl
 |e::ds,_,h,f=>by
  simp only[aO]at h;obtain⟨v,r,rfl,h1,h2⟩:=h;rw[kK,ZT]at f;have:=Tv a fd h2 f.2;unfold GI at this ⊢;rw[kF,kF,UB h1 a f.1 fd,this]
theorem uz(h:bh K H b v)(e:ux b=Z ds):∃a vs,v=.ref a/\(sY K H a vs\/xO K H a vs)/\aO K H ds vs:=by
 cases b with
 |z d=>
  cases d<;>first|(cases e;done)|skip
  ·cases e;obtain⟨a,vs,e,q,r⟩:=Go h;exact⟨a,vs,e,.inr q,r⟩
  ·cases e;obtain⟨a,vs,e,q,r⟩:=h.HD rfl;exact⟨a,vs,e,.inl q,r⟩
 |l c=>
  cases e;obtain⟨a,vs,e,q,r⟩:=h.HD rfl;exact⟨a,vs,e,.inl q,r⟩
 |o c=>
  cases e;obtain⟨a,vs,e,q,r⟩:=h.HD rfl;exact⟨a,vs,e,.inl q,r⟩
 |n _=>cases e
 |m _ _=>cases e
theorem HX{a:Bx}{x y:V}{k:Bool}(g:bh X.K H a x)(h:bh X.K H b y)(e:ET a b=Z k):
  (∃i j,x=.str i/\y=.str j/\k=NS i j)\/(∃p xs,y=.ref p/\(sY X.K H p xs\/xO X.K H p xs)/\su x=true/\xs.all su=true/\k=GI x xs):=by
 unfold ET at e;split at e
 ·rename_i i j;cases e;exact .inl ⟨i,j,(Vy g).1,(Vy h).1,rfl⟩
 ·rename_i d _;obtain⟨ys,m,e⟩:=AU e;unfold CL at e;split at e
  ·rename_i c;cases e;obtain⟨p,vs,rfl,sq,f⟩:=uz h m;have l:AX X.K H d x:=g;exact .inr ⟨p,vs,rfl,sq,MK l c.1,HW f c.2,(Tv l c.1 f c.2).symm⟩
  ·cases e
 ·cases e
theorem HY:Ml X (AH .In) CY:=by
 intro AO s σ H x y v u Q I d f h;obtain⟨a,b,c,l,g,e,q⟩:=h;obtain⟨k,ek,e⟩:=AU e;cases e;rcases HX l g ek with⟨i,j,rfl,rfl,rfl⟩|⟨p,xs,rfl,sq,f1,f2,rfl⟩
 ·exact Vk AO s σ H _ _ v u Q I d f ⟨i,j,rfl,rfl,q _ H (AW.refl H) trivial Vx⟩
 ·exact Vo AO s σ H _ _ v u Q I d f ⟨p,xs,rfl,sq,f1,f2,q _ H (AW.refl H) trivial Vx⟩
theorem Yj:Ml X (AH .NotIn) Fh:=by
 intro AO s σ H x y v u Q I d f h;obtain⟨a,b,c,l,g,e,q⟩:=h;obtain⟨k,ek,e⟩:=AU e;cases e;rcases HX l g ek with⟨i,j,rfl,rfl,rfl⟩|⟨p,xs,rfl,sq,f1,f2,rfl⟩
 ·exact JG AO s σ H _ _ v u Q I d f ⟨i,j,rfl,rfl,q _ H (AW.refl H) trivial Vx⟩
 ·exact JF AO s σ H _ _ v u Q I d f ⟨p,xs,rfl,sq,f1,f2,q _ H (AW.refl H) trivial Vx⟩
def nP:Bx->Bx->S Bx
 |.z (.str x),.z (.int i)=>(Cu x.cps.toList i).bind λc=>Z (.z (.str ⟨#[c]⟩))
 |b,.z (.int i)=>(ux b).bind λds=>(Cu ds i).bind λd=>Z (.z d)
 |_,_=>U
theorem R'{i:Int}(r:aO K H ds vs)(e:Cu ds i=Z d):∃v,Cu vs i=Z v/\AX K H d v:=by
 unfold Cu at e ⊢;rw[r.length];obtain⟨j,a,e⟩:=AU e;rw[a];exact r.get e
theorem cZ{a b:Expr}(l:QV X a fa)(j:QV X b fb)(hs:Te b:=by intro _ _;with_unfolding_all rfl):QV X (.Subscript a b pos) (b2 nP fa fb):=⟨have l:=l.run;have j:=j.run;JQ (Xk cS l j hs) λσ H Q h=>by
 obtain⟨H0,ρ,c,E,e,q⟩:=h;obtain⟨a,ea,e⟩:=AU e;obtain⟨b,eb,e⟩:=AU e;refine⟨H0,ρ,a,E,ea,λv H1 f D z=>⟨H0,ρ,b,E.grow f,eb,λu H2 g C s=>?_⟩⟩;have m:=z.same g;unfold nP at e;split at e
 ·rename_i x i;obtain⟨c',t,e⟩:=AU e;cases e;exact .inr (.inr ⟨_,_,c',(Vy m).1,Ly s,(Vy m).2,t,q _ _ (f.trans g) trivial (Fu (by show(1:Nat)<=AB;decide))⟩)
 ·obtain⟨ds,B,e⟩:=AU e;obtain⟨d,y,e⟩:=AU e;cases e;obtain⟨p,vs,rfl,sq,A⟩:=uz m B;obtain⟨w,o,n⟩:=R' A y;have hi:=Ly s;rcases sq with sq|sq
  ·exact .inl ⟨p,vs,_,w,rfl,hi,sq,o,q _ _ (f.trans g) trivial n⟩
  ·exact .inr (.inl ⟨p,vs,_,w,rfl,hi,sq,o,q _ _ (f.trans g) trivial n⟩)
 ·cases e⟩
theorem Qz:AI "int"=Z (.type "int"):=by decide +kernel
theorem lq:AI "tuple"=Z (.type "tuple"):=by decide +kernel
theorem J3:AI "list"=Z (.type "list"):=by decide +kernel
theorem Gw:AI "isinstance"=Z (.builtin "isinstance"):=by decide +kernel
theorem fZ:AI "len"=Z (.builtin "len"):=by decide +kernel
theorem UX:AI "abs"=Z (.builtin "abs"):=by decide +kernel
theorem Yk:AI "any"=Z (.builtin "any"):=by decide +kernel
theorem QC:AI "min"=Z (.builtin "min"):=by decide +kernel
theorem QD:AI "max"=Z (.builtin "max"):=by decide +kernel
theorem gA:AI "sorted"=Z (.builtin "sorted"):=by decide +kernel
def BQ:Dt->Bool
 |.lst _=>true
 |_=>false
theorem Yl(I:L2.AV X AO σ H s){x:V}{v:A1}{Q:VK}(f:zB X.K H d x)(g:At x v)(q:Q (.bl (BQ d)) H):A8 (db X) X.A (call (.builtin "isinstance") [v,.type "list"]) (EP X AO σ Q) X.xe s:=by
 cases d with
 |non=>simp only[zB,AX]at f;subst f;cases g;exact IsiPair.NoneType_list ⟨.bl _,H,I.tok _,rfl,q⟩
 |bl b=>simp only[zB,AX]at f;subst f;cases g;exact IsiPair.bool_list ⟨.bl _,H,I.tok _,rfl,q⟩
 |int b=>simp only[zB,AX]at f;subst f;obtain⟨t,rfl⟩:=g;exact IsiPair.int_list ⟨.bl _,H,I.tok _,rfl,q⟩
 |str b=>simp only[zB,AX]at f;obtain⟨rfl,_⟩:=f;obtain⟨t,rfl⟩:=g;exact IsiPair.str_list ⟨.bl _,H,I.tok _,rfl,q⟩
 |tup ds=>simp only[zB,AX]at f;obtain⟨a,vs,rfl,sq,_⟩:=f;cases g;obtain⟨_,_,p,_⟩:=I.tuple sq;exact IsiPair.isTuple_list p (λ_ _ e=>e) ⟨.bl _,H,I.tok _,rfl,q⟩
 |lst ds=>simp only[zB]at f;obtain⟨a,vs,rfl,sq,_⟩:=f;cases g;obtain⟨_,_,p,_⟩:=I.list sq;exact IsiPair.isList_list p.isList (λ_ _ e=>e) ⟨.bl _,H,I,rfl,q⟩
 |emp=>simp only[zB,AX]at f;obtain⟨a,o,rfl,sq⟩:=f;cases g;obtain⟨h,e,c⟩:=xZ I sq;exact IsiPair.dict_list e c ⟨.bl _,H,I.tok _,rfl,q⟩
theorem MN{p:Pos}(he:QV X e f)(w:Gl X "isinstance")(l:X.mg "isinstance"=U)(n:Gl X "list")(m:X.mg "list"=U)(hs:AA [e,.Name "list" p2] X.env=[(false,eval e X.env),(false,eval (.Name "list" p2) X.env)]:=by rfl):QV X (.Call (.Name "isinstance" p) [e,.Name "list" p2] [] pos) (b1 (λb=>if qu b=true then U else Z (.z (.bl (BQ (toD b))))) f):=⟨by
 have he:=he.run;have j:gq X (.builtin "isinstance") (λxs H Q=>∃b x,xs=[x,.ty "list"]/\bh X.K H b x/\qu b=false/\Q (.bl (BQ (toD b))) H):=by
  intro AO s σ H xs us Q I r h;obtain⟨b,x,rfl,o,g,q⟩:=h;obtain⟨u,A,rfl,a,t⟩:=EX r;cases t;exact Yl I (o.toD g) a q
 have i:PA X [e,.Name "list" p2] (tM (tF X.K f) (tM (tC (.ty "list")) Gm)):=bI he (bI (Bk n m (v:=.ty "list") (u:=.type "list") J3 X9) eY) (by rw[hs]<;>rfl);refine JQ (jD j w l Gw i () () (by rw[hs]<;>rfl) X9) λσ H Q h=>?_;obtain⟨H0,ρ,c,E,e,q⟩:=h;obtain⟨b,eb,e⟩:=AU e;split at e
 ·cases e
 rename_i y;cases e;exact⟨H0,ρ,b,E,eb,λv H1 d B a=>⟨b,v,rfl,a,by simpa using y,q _ _ d trivial Vx⟩⟩⟩
def UD(K:B5)(f:Ev->S (S Int)):TO:=λσ H Q=>∃H0 ρ o,aV K H0 H σ ρ/\f ρ=Z o/\∀H',AW H H'->Q o H'
def eJ(X:Cx)(e:S Expr)(f:Ev->S (S Int)):Prop:=PO X e (UD X.K f)
structure FX (X:Cx) (e:Option Expr) (f:Ev->Option (Option Int)):Prop where
 run:eJ X e f
theorem MB{e:S Expr}{t t':TO}(h:PO X e t)(m:∀ σ H Q,t' σ H Q->t σ H Q):PO X e t':=λAO s σ H Q I q=>h AO s σ H Q I (m σ H Q q)
def zF:Ev->S (S Int):=λ_=>Z U
theorem yg  :FX X U zF:=⟨MB gE λσ H Q h=>by
 obtain⟨H0,ρ,o,E,e,q⟩:=h;cases e;exact q H (AW.refl H)⟩
def Iq:Bx->S (S Int)
 |.z (.int i)=>Z (Z i)
 |_=>U
def CZ(f:Ev->S Bx):Ev->S (S Int):=λρ=>(f ρ).bind Iq
theorem yh(h:QV X e f):FX X (Z e) (CZ f):=⟨have h:=h.run;MB (ci h) λσ H Q q=>by
 obtain⟨H0,ρ,o,E,e,q⟩:=q;obtain⟨b,eb,e⟩:=AU e;refine⟨H0,ρ,b,E,eb,λv H1 c d a=>?_⟩;unfold Iq at e;split at e
 ·rename_i i;cases e;exact⟨i,Ly a,q H1 c⟩
 ·cases e⟩
def C8(xs:O Dt)(lo hi:S Int):O Dt:=(xs.drop (HT.iV xs.length 0 lo)).take (HT.iV xs.length xs.length hi-HT.iV xs.length 0 lo)
theorem MP(r:aO K H ds vs)(lo hi:S Int):aO K H (C8 ds lo hi) (Mg vs lo hi):=by
 unfold C8 Mg;rw[r.length];exact(r.drop _).take _
theorem Ym(ds:O Dt)(h1:HT.iV ds.length 0 lo=0)(h2:HT.iV ds.length ds.length hi=ds.length):C8 ds lo hi=ds:=by
 unfold C8;rw[h1,h2];simp
theorem yj{t sl:A2}{c b:A1}{Q:B8}(a:IsTup s.heap t items)(hs:s.heap.IsSliceOf sl c b .none)(pl:IsPart c lo)(f:IsPart b hi)(h1:HT.iV items.size 0 lo=0)(h2:HT.iV items.size items.size hi=items.size)(h:Q (.ref t) s):A8 (A9 prog w) A (getItem (.ref t) (.ref sl)) Q E s:=by
 obtain⟨os,e,i,j⟩:=id hs;have d:s.TypeIs (.ref sl) "slice":=⟨os,e,i⟩;unfold getItem
 try with_reducible refine qa ?_
 first|refine zb (zd ?_)|skip
 refine zb (wpAny_sequenceKey a.typeIs () ?_);refine zb (xm (name:=Str.ofString "__getitem__") a.typeIs PyProof.Rows.slot_tuple_getitem
  (JI PyProof.Rows.slot_tuple_getitem a.typeIs entry_tuple_getitem ?_ (args_tuple_getitem _ _)))
 show A8 _ _ (Builtin.Tuple.tupleItemsOf (.ref t) >>= _) _ _ s;refine zb (tupleItemsOf_ a ?_);refine zb (QY d ?_);rw[zk ()];refine zb (HT.qb hs pl f ?_);have g:(((HT.iV items.size 0 lo:Nat):Int)==0&&(1:Int)==1&&(HT.iV items.size items.size hi-HT.iV items.size 0 lo)==items.size)=true:=by
  rw[h1,h2];simp
 show A8 _ _ (if(((HT.iV items.size 0 lo:Nat):Int)==0&&(1:Int)==1&&(HT.iV items.size items.size hi-HT.iV items.size 0 lo)==items.size)=true then _ else _) _ _ s;rw[zk g]
 first
  |refine zb (zb (QY a.typeIs (zd ?_)))
  |refine zb (QY a.typeIs (zb (zd ?_)))
  |refine zb (QY a.typeIs ?_)
 rw[zk ()]
 first
  |exact zb (ka (zd ⟨_,rfl,zd h⟩))
  |exact zb (ka (zb (zd (zd ⟨_,rfl,zd h⟩))))
def FF(b:Bx)(lo hi:S Int):S Bx:=match b with
 |.z (.str x)=>Z (.z (.str (Txt.slice x lo hi)))
 |.z (.tup ds)=>Z (.z (.tup (C8 ds lo hi)))
 |b=>(qe b).bind λds=>Z (.o (C8 ds lo hi))
def TK(K:B5):V->S Int->S Int->Hp->VK->Prop:=λx lo hi H Q=>∃b c,bh K H b x/\FF b lo hi=Z c/\∀w H',AW H H'->Nw H c w->bh K H' c w->Q w H'
theorem Pf:FI X (TK X.K):=by
 intro AO s σ H x v G D lo hi sl Q I n hs pl d h;obtain⟨b,c,w,e,q⟩:=h;unfold FF at e;split at e
 ·rename_i y;cases e;obtain⟨rfl,f⟩:=Vy w;obtain⟨t,rfl⟩:=n;refine⟨"str", _,F.slot_str_getitem.lookup,typeIs_str _ _ _,?_⟩;obtain⟨o,e1,e2,e3⟩:=hs;have z:∀B k,EP X AO σ Q (.str (Txt.slice y lo hi) B) { s with toks:=k }:=λB k=>⟨.str _,H,I.tok _,⟨_,rfl⟩,q _ H (AW.refl H) trivial (Fu (Zl (Txt.slice_le y _ _) f))⟩;cases pl with
  |none=>
   cases d with
   |none=>exact KU (l:=U) (u:=U) (st:=U) ⟨o,e1,e2,e3⟩ X9 (post_val_or_str ⟨Zl (Txt.slice_le y _ _) f,z⟩)
   |int j A=>exact KU (l:=U) (u:=Z (j,A)) (st:=U) ⟨o,e1,e2,e3⟩ X9 (post_val_or_str ⟨Zl (Txt.slice_le y _ _) f,z⟩)
  |int i E=>
   cases d with
   |none=>exact KU (l:=Z (i,E)) (u:=U) (st:=U) ⟨o,e1,e2,e3⟩ X9 (post_val_or_str ⟨Zl (Txt.slice_le y _ _) f,z⟩)
   |int j A=>exact KU (l:=Z (i,E)) (u:=Z (j,A)) (st:=U) ⟨o,e1,e2,e3⟩ X9 (post_val_or_str ⟨Zl (Txt.slice_le y _ _) f,z⟩)
 ·rename_i ds;cases e;obtain⟨a,vs,rfl,sq,g⟩:=Go w;by_cases m:HT.iV vs.length 0 lo=0/\HT.iV vs.length vs.length hi=vs.length
  ·cases n;obtain⟨AS,r,C,M⟩:=I.tuple sq;have J:AS.toArray.size=vs.length:=by rw[zC];exact r.length.symm
   refine⟨"tuple", _,PyProof.Rows.slot_tuple_getitem.lookup,C.typeIs,yj C hs pl d (by rw[J];exact m.1) (by rw[J];exact m.2) ⟨.ref a,H,I,rfl,q _ H (AW.refl H) trivial ?_⟩⟩;rw[Ym ds (by rw[<-g.length];exact m.1) (by rw[<-g.length];exact m.2)];exact w
  ·refine VY AO s σ H _ v G D lo hi sl Q I n hs pl d ⟨a,vs,rfl,sq,m,λp hp=>q _ _ (bC hp) trivial ?_⟩;unfold bh AX;exact⟨p,_,rfl,.inl (.inl aF),(MP g lo hi).kp (.of (bC hp))⟩
 ·obtain⟨ds,L,e⟩:=AU e;cases e;obtain⟨a,vs,rfl,sq,g⟩:=w.HD L;exact gT AO s σ H _ v G D lo hi sl Q I n hs pl d ⟨a,vs,rfl,sq,λp hp=>q _ _ (bC hp) (λa ea=>by cases ea;exact hp) ⟨p,_,rfl,aF,(MP g lo hi).kp (.of (bC hp))⟩⟩
def DA(f:Ev->S Bx)(fl fh:Ev->S (S Int)):Ev->S Bx:=λρ=>(f ρ).bind λb=>(fl ρ).bind λlo=>(fh ρ).bind λhi=>FF b lo hi
theorem Tw{lo hi:S Expr}{fl fh:Ev->S (S Int)}(he:QV X e f)(i:FX X lo fl)(a:FX X hi fh):QV X (.Subscript e (.Slice lo hi U p2) pos) (DA f fl fh):=⟨have he:=he.run;have i:=i.run;have a:=a.run;JQ (Xj Pf he i a) λσ H Q h=>by
 obtain⟨H0,ρ,c,E,e,q⟩:=h;obtain⟨b,eb,e⟩:=AU e;obtain⟨lo,el,e⟩:=AU e;obtain⟨hi,t,e⟩:=AU e;refine⟨H0,ρ,b,E,eb,λv H1 d x o=>⟨H0,ρ,lo,E.grow d,el,λH2 g=>⟨H0,ρ,hi,E.grow (d.trans g),t,λu j=>?_⟩⟩⟩;have l:=(d.trans g).trans j;exact⟨b,c,(o.same g).same j,e,λw p n s m=>q w p (l.trans n) (s.old l) m⟩⟩
def jy:O Bx->S Bx
 |[.z (.str x)]=>Z (.z (.int x.length))
 |[b]=>(ux b).bind λds=>Z (.z (.int ds.length))
 |_=>U
theorem BV(r:qg K H [b] vs):∃v,vs=[v]/\bh K H b v:=by
 cases r with
 |cons p t=>cases t;exact⟨_,rfl,p⟩
theorem f9:oV X (.builtin "len") jy:=gq.imp (JH.or JK) λxs H Q q=>by
 obtain⟨bs,c,b,e,q⟩:=q;unfold jy at e;split at e
 ·rename_i x;cases e;obtain⟨v,rfl,a⟩:=BV b;obtain⟨rfl,hx⟩:=Vy a;exact .inr ⟨x,rfl,hx,q _ H (AW.refl H) trivial CW⟩
 ·obtain⟨ds,d,e⟩:=AU e;cases e;obtain⟨v,rfl,a⟩:=BV b;obtain⟨p,vs,rfl,sq,f⟩:=uz a d;exact .inl ⟨p,vs,rfl,sq,by rw[f.length];exact q _ H (AW.refl H) trivial CW⟩
 ·cases e
def Yn:O Bx->S Bx
 |[.z (.int i)]=>Z (.z (.int (if i<0 then -i else i)))
 |_=>U
theorem gX:oV X (.builtin "abs") Yn:=gq.imp Xh λxs H Q q=>by
 obtain⟨bs,c,b,e,q⟩:=q;unfold Yn at e;split at e
 ·rename_i i;cases e;obtain⟨v,rfl,a⟩:=BV b;have:=Ly a;subst this;exact⟨i,rfl,q _ H (AW.refl H) trivial CW⟩
 ·cases e
def QF:O Bx->S Bx
 |[.z (.int i)]=>Z (.z (.int i))
 |[.z (.bl k)]=>Z (.z (.int (if k then 1 else 0)))
 |_=>U
theorem QG:oV X (.type "int") QF:=gq.imp Vl λxs H Q q=>by
 obtain⟨bs,c,b,e,q⟩:=q;unfold QF at e;split at e
 ·rename_i i;cases e;obtain⟨v,rfl,a⟩:=BV b;have:=Ly a;subst this;exact .inl ⟨i,rfl,q _ H (AW.refl H) trivial CW⟩
 ·rename_i k;cases e;obtain⟨v,rfl,a⟩:=BV b;simp only[bh,AX]at a;subst a;exact .inr ⟨k,rfl,q _ H (AW.refl H) trivial CW⟩
 ·cases e
def M4:O Bx->S Bx
 |[b]=>(ux b).bind λds=>Z (.o ds)
 |_=>U
theorem UO:oV X (.type "list") M4:=gq.imp JL λxs H Q q=>by
 obtain⟨bs,c,g,e,q⟩:=q;unfold M4 at e;split at e
 ·obtain⟨ds,h,e⟩:=AU e;cases e;obtain⟨v,rfl,d⟩:=BV g;obtain⟨p,vs,rfl,sq,f⟩:=uz d h;exact⟨p,vs,rfl,sq,λl b=>q _ _ (bC b) (λa ea=>by cases ea;exact b) ⟨l,vs,rfl,aF,f.kp (.of (bC b))⟩⟩
 ·cases e
def lJ:O Bx->S Bx
 |[b]=>(ux b).bind λds=>Z (.z (.tup ds))
 |_=>U
theorem lu:oV X (.type "tuple") lJ:=gq.imp Gr λxs H Q q=>by
 obtain⟨bs,c,f,e,q⟩:=q;unfold lJ at e;split at e
 ·obtain⟨ds,g,e⟩:=AU e;cases e;obtain⟨v,rfl,d⟩:=BV f;obtain⟨p,vs,rfl,sq,a⟩:=uz d g;refine⟨p,vs,rfl,?_⟩;rcases sq with sq|sq
  ·refine .inl ⟨sq,λl b=>q _ _ (bC b) trivial ?_⟩;unfold bh AX;exact⟨l,vs,rfl,.inl (.inl aF),a.kp (.of (bC b))⟩
  ·refine .inr ⟨sq,q _ H (AW.refl H) trivial ?_⟩;unfold bh AX;exact⟨p,vs,rfl,sq,a⟩
 ·cases e
def Ia:O Dt->S (O Bool)
 |[]=>Z []
 |.bl b::ds=>(Ia ds).bind λbs=>Z (b::bs)
 |_=>U
theorem Dc{K:B5}{H:Hp}:∀{ds:O Dt} {bs:O Bool} {vs:O V} {us:O A1},Ia ds=Z bs->aO K H ds vs->AY vs us->us=bs.map Value.bool
 |[],_,_,_,e,r,w=>by
  cases e;simp only[aO]at r;subst r;cases w;rfl
 |d::ds,_,_,_,e,r,w=>by
  simp only[aO]at r;obtain⟨v,a,rfl,h1,h2⟩:=r;cases d<;>first|(cases e;done)|skip;simp only[Ia]at e;obtain⟨bs,e1,e⟩:=AU e;cases e;simp only[AX]at h1;subst h1;cases w with
  |cons p t=>
   cases p;rw[Dc e1 h2 t];rfl
theorem CF(bs:O Bool):((dg bs.length).any λi=>bs.getD i false)=bs.any id:=by
 rw[mv,kg,kg];constructor
 ·rintro⟨i,hi,h⟩;have hi:i<bs.length:=by simpa using hi
  exact⟨bs[i],yi hi,by simpa[List.getD,hi]using h⟩
 ·rintro⟨b,a,h⟩;obtain⟨i,hi,rfl⟩:=List.mem_iff_getElem.mp a;exact⟨i,by simpa using hi,by simpa[List.getD,hi]using h⟩
def CM:O Bx->S Bx
 |[b]=>(qe b).bind λds=>(Ia ds).bind λbs=>Z (.z (.bl (bs.any id)))
 |_=>U
theorem M5(bs:O Bool):TruthOf prog w A (λi v=>(bs.map Value.bool).toArray[i]?=Z v) λi=>bs.getD i false:=λi v s Q E h q=>by
 have h':(bs.map Value.bool)[i]?=Z v:=by simpa using h
 rw[zI]at h';cases e:bs[i]? with
 |none=>rw[e]at h';cases h'
 |some b=>
  rw[e]at h';cases h';have:bs.getD i false=b:=by simp[List.getD,e]
  have a:Q b s:=by rw[<-this];exact q
  exact kA a
theorem Yo(p:X.calm=true):oV X (.builtin "any") CM:=by
 intro AO s σ H xs us Q I r h;obtain⟨bs,c,B,e,q⟩:=h;unfold CM at e;split at e
 ·obtain⟨ds,C,e⟩:=AU e;obtain⟨ks,ek,e⟩:=AU e;cases e;obtain⟨v,rfl,x⟩:=BV B;obtain⟨a,vs,rfl,sq,y⟩:=x.HD C;obtain⟨u,rfl,z⟩:=BG r;cases z;obtain⟨AS,w,pl,D⟩:=I.list sq;have d:=Dc ek y w;have m:a<s.heap.objs.size:=by obtain⟨o,n,e,_⟩:=pl;exact zz e
  refine call_any_walk (YN pl.isList ?_);refine⟨s.heap.objs.size,_,_,_,_,_,λi=>ks.getD i false,rfl,Walks.list (by show X.A.handled=U;exact I.ok.hd p) s.heap.objs.size a (zS m) AS.toArray,⟨⟨_,zt _ rfl,rfl,rfl⟩,pl.isList.push _⟩,?_,λh' tk k=>?_⟩
  ·rw[d];exact M5 ks
  ·have j:AS.toArray.size=ks.length:=by rw[d];simp
   rw[j,CF];have t:L2.AV X AO σ H { s with heap:=s.heap.push { cls:=.type "list_iterator",data:=.fields #[.ref a,.int 0 0] } }:=I.kept (t':=s.toks) λb o e=>ze _ e;refine⟨.bl _,H,?_,rfl,q _ H (AW.refl H) trivial Vx⟩;obtain⟨f0,f1,f2,f3,g,f⟩:=I.Qd (b:=s.heap.objs.size) (H':=H) (zl _) (I.hok.fresh (zl _));exact t.turned (it:=s.heap.objs.size) (λb o l e=>k b o (by simpa using l) e) f0 f1 f3 g f
 ·cases e
end P1
namespace P1
open L2
def gv(i:Nat):Ev->S Bx:=λρ=>yZ ρ i
def vB(g:Bx->Bx->S Bx)(fa fb:Ev->S Bx):Ev->S Bool:=λρ=>(b2 g fa fb ρ).bind Xy
def tV(f:Ev->S Bx):Ev->S Bool:=λρ=>(f ρ).bind XD
def aK:Ev->S (O Bx):=λ_=>Z []
def Yp(p:Dt->Bool)(f:Ev->S Bx):Ev->S Bx:=b1 (λb=>if qu b=true then U else Z (.z (.bl (p (toD b))))) f
def iz:Ev->S Ap:=λρ=>Z (.nx ρ)
def jT(f:Ev->S Bx):Ev->S Ap:=λρ=>(f ρ).bind XM
def B4(i:Nat)(f:Ev->S Bx):Ev->S Ap:=λρ=>(f ρ).bind λb=>(XQ ρ i b).bind λa=>Z (.nx a)
def IA(gt:Dt->Ev->S Ev)(f:Ev->S Bx):Ev->S Ap:=λρ=>(f ρ).bind λb=>match b with|.z d=>(gt d ρ).bind λa=>Z (.nx a)|_=>U
def IU(i j:Nat)(fs:Ev->S (O Bx)):Ev->S Ap:=λρ=>(fs ρ).bind (GV i j ρ)
def J4(i:Nat)(f:Ev->S Bx):Ev->S Ap:=λρ=>(f ρ).bind (XS ρ i)
def qX(fi:Ev->S (O Dt))(gt:Dt->Ev->S Ev)(gb:Ev->S Ap):Ev->S Ap:=λρ=>(fi ρ).bind λds=>pK gt gb ds ρ
def VB(f:Ev->S Bx):Ev->S (O Dt):=λρ=>(f ρ).bind X3
def Ib(f:Ev->S Bx):Ev->S (O Dt):=λρ=>(f ρ).bind GB
def Tz(fs:Ev->S (O Bx)):Ev->S (O Dt):=λρ=>(fs ρ).bind L9
def tH(i:Nat):Dt->Ev->S Ev:=λd ρ=>Z (ρ.set i (Z (.z d)))
def uD:Ev->S Bool:=λ_=>Z true
theorem eZ:uo X [] uD:=⟨.inl ⟨rfl,rfl⟩⟩
theorem gO(h:QB X c p):uo X [c] p:=⟨have h:=h.run;.inr ⟨c,rfl,h⟩⟩
theorem VO:Gu X scope cl [] []:=trivial
theorem Su(n:X.N[i]?=Z x)(k:X.env.kindOf x=Z .cell\/X.env.kindOf x=Z .free)(a:(relabel scope X.env).names.lookup x=Z .cell\/(relabel scope X.env).names.lookup x=Z .free)(c:∃c,cl.lookup x=Z c)(r:Gu X scope cl xs is):Gu X scope cl (x::xs) (i::is):=⟨⟨n,k,a,c⟩,r⟩
theorem mem_of_lookup{names:O (AK×NameKind)}{x:AK}{k:NameKind}:names.lookup x=Z k->(x,k)∈names:=kL
theorem WN(clos:closureFor scope X.env=pure cl)(kind:scope.kind=.function)(cell:scope.names.all (λy=>decide (y.2≠.cell)||(cl.lookup y.1).isNone)=true)(names:scope.names.all (λy=>decide (y.2=.local->scope.names.lookup y.1=Z .local))=true)(sub:CD X.env.cells cl)(has:(relabel scope X.env).names.all (λy=>!(y.2==.cell||y.2==.free)||(cl.lookup y.1).isSome||scope.names.contains (y.1,.cell))=true)(cap:Gu X scope cl xs is):nJ X scope cl xs is where
 clos:=clos
 kind:=kind
 cell:=λy a b=>by
  have:=List.all_eq_true.mp cell y a;simp only[b,ne_eq,not_true_eq_false,Kt,kH,ma]at this;exact this
 names:=λy a=>QP (List.all_eq_true.mp names y a)
 sub:=sub
 has:=λx hx=>by
  have h:∃k,(relabel scope X.env).names.lookup x=Z k/\(k==NameKind.cell||k==NameKind.free)=true:=by
   rcases hx with hx|hx
   ·exact⟨_,hx,rfl⟩
   ·exact⟨_,hx,rfl⟩
  obtain⟨k,e,hk⟩:=h;have:=List.all_eq_true.mp has _ (mem_of_lookup e);simp only[hk,k8,kH,hH]at this;rcases this with h|h
  ·exact .inr (mf.mp h)
  ·exact .inl (mB.mp h)
 cap:=cap
theorem BL{k:Nat}(r:iu k A):A.units+100<cLine:=by have:=r.un;omega
theorem gg(h:∀ns:O Int,ns.length<=63->F [.z (.lst (ns.map .int))]=Z (.z (.bl true)))(g:∀ns:O Int,ns.length<=63->F [.l (ns.map .int)]=Z (.z (.bl true)))(K:B5)(H:Hp)(a:A2)(ns:O Int)(d:ns.length<=63)(_:Cb H)(b:sY K H a (ns.map V.int)):
  DC K 1 F [.ref a] H (λv _=>v=.bl true) λ_ _ _=>False:=by
 have e:∀c:O Int,aO K H (c.map Dt.int) (c.map V.int):=λc=>by
  induction c with
  |nil=>exact aO.nil
  |cons m c i=>exact aO.cons (by unfold AX;rfl) i
 have f:∀v (H':Hp),AW H H'->Nw H (.z (.bl true)) v->bh K H' (.z (.bl true)) v->v=.bl true:=λv H' _ _ r=>by simpa only[bh,AX]using r
 rcases b with b|b
 ·exact⟨rfl,[.l (ns.map .int)],_,.cons ⟨a,_,rfl,b,e ns⟩ .nil,rfl,g ns d,f⟩
 ·refine⟨rfl,[.z (.lst (ns.map .int))],_,.cons ?_ .nil,rfl,h ns d,f⟩;unfold bh AX;exact⟨a,_,rfl,.inr b,e ns⟩
theorem S3{f:A2}{k m:Nat}(F:Br K x qual st f fd)(S:bA N ps (aG st))(c:N.length=n)(b:ps.length=m)(d:∀(a:A1) (A:A6) (outer:O Env) (s:A3) (H:Hp) (E:XK),iu k (A.deeper (AL qual (aG st) s.heap.objs.size f a))->S8 (tO zZ P w K mg base N qual (aG st) f a A outer s H E).Vg (fH st) g):
  gW P w K mg base zZ (k+1) f fd ps (DC K m (fM n g)):=by
 subst c b;exact UH F S d
section
variable{st:Expr}{fs:Ev->S Bx}
theorem J5{α β:Type}{f:α->S β}{g:α->β}:∀l:O α,(∀a∈l,f a=Z (g a))->l.filterMap f=l.map g
 |[],_=>rfl
 |a::l,h=>by
  rw[KL,h a (zg ..),zr,J5 l λb c=>h b (zh _ c)]
end
def EO:Bx->Bx->S Bx
 |.z (.int i),.z (.int j)=>Z (.z (.bl (decide (i<j))))
 |.z (.str x),.z (.str y)=>Z (.z (.bl (decide (x.cps.toList<y.cps.toList))))
 |_,_=>U
theorem QH:Ml X (AH .Lt) EO:=by
 intro AO s σ H x y v u Q I f g h;obtain⟨a,b,c,d,l,e,q⟩:=h;unfold EO at e;split at e
 ·rename_i i j;cases e;exact To AO s σ H x y v u Q I f g ⟨i,j,Ly d,Ly l,q _ H (AW.refl H) trivial (by unfold bh;exact Fm)⟩
 ·rename_i i j;cases e;obtain⟨rfl,_⟩:=Vy d;obtain⟨rfl,_⟩:=Vy l;obtain⟨t,rfl⟩:=f;obtain⟨m,rfl⟩:=g;exact PySem.P.lt_str ⟨.bl _,H,I,rfl,q _ H (AW.refl H) trivial (by unfold bh;exact Fm)⟩
 ·cases e
def qw:O Dt->S An
 |[]=>Z []
 |.str x::r=>(qw r).bind λys=>Z (x::ys)
 |_=>U
theorem m9{K:B5}{H:Hp}:∀{ds:O Dt} {vs:O V} {ys:An},aO K H ds vs->qw ds=Z ys->vs=ys.map V.str/\∀y∈ys,y.length<=AB
 |[],_,_,h,e=>by cases e;simp only[aO]at h;subst h;exact⟨rfl,λy a=>by cases a⟩
 |.str x::ds,_,_,h,e=>by
  simp only[qw]at e;obtain⟨ys,e1,e2⟩:=AU e;cases e2;simp only[aO]at h;obtain⟨v,r,rfl,b,c⟩:=h;obtain⟨rfl,hx⟩:v=.str x/\x.length<=AB:=by simpa only[AX]using b
  obtain⟨rfl,h2⟩:=m9 c e1;refine⟨rfl,λy a=>?_⟩;rcases List.mem_cons.mp a with rfl|a
  ·exact hx
  ·exact h2 y a
 |.non::_,_,_,_,e=>by cases e
 |.bl _::_,_,_,_,e=>by cases e
 |.int _::_,_,_,_,e=>by cases e
 |.tup _::_,_,_,_,e=>by cases e
 |.lst _::_,_,_,_,e=>by cases e
 |.emp::_,_,_,_,e=>by cases e
theorem nQ{K:B5}{H:Hp}:∀{ys:An},(∀y∈ys,y.length<=AB)->aO K H (ys.map Dt.str) (ys.map V.str)
 |[],_=>aO.nil
 |y::ys,h=>aO.cons (by unfold AX;exact⟨rfl,h y (zg ..)⟩) (nQ λz a=>h z (zh _ a))
theorem nR:∀{ys:An} {AS:O A1},AY (ys.map V.str) AS->StrsAre AS ys
 |[],_,h=>by cases h;exact .nil
 |y::ys,_,h=>by
  cases h with
  |cons r t=>
   obtain⟨tk,rfl⟩:=r;exact .cons y tk (nR t)
theorem vC:∀{AS:O A1} {ys:An},StrsAre AS ys->AY (ys.map V.str) AS
 |_,_,.nil=>.nil
 |_,_,.cons y t h=>.cons ⟨t,rfl⟩ (vC h)
theorem J6:gq X (.builtin "sorted") (λxs H Q=>∃p ys,xs=[.ref p]/\sY X.K H p (ys.map V.str)/\ys.length<64/\∀l zs,H l=U->zs.Perm ys->sortedS zs=true->Q (.ref l) (B1 H l (.lst (zs.map V.str)))):=by
 intro AO s σ H xs us Q I r h;obtain⟨p,ys,rfl,f,m,q⟩:=h;obtain⟨u,rfl,i⟩:=BG r;cases i;obtain⟨AS,c,pl,d⟩:=I.list f;have j:=c.length;rw[zi]at j d;refine sorted_strs pl.isList (nR c) () λout zs hs hp g=>?_;obtain⟨n,en⟩:=sortedAll_at s.heap AS out;refine⟨.ref (s.heap.objs.size+1),_,I.laid (t':=s.toks) (a:=s.heap.objs.size+1) (o:=.lst (zs.map V.str)) (λb o e=>sortedAll_old e) (kz _) ?_,rfl,q _ zs (I.hok.fresh (kz _)) hp g⟩;refine⟨by rw[zi,hp.length_eq];exact d,out.toList,n,vC hs,?_⟩;rw[en]
def oK(a b:AK):Prop:=ltCps b.cps.toList a.cps.toList=false
theorem yq:∀(p:AK) (l:An),risingS p l=true->(p::l).Pairwise oK
 |p,[],_=>by simp
 |p,x::r,h=>by
  have h':(!ltCps x.cps.toList p.cps.toList&&risingS x r)=true:=h;rw[ZT]at h';have c:=yq x r h'.2;have hx:oK p x:=by simpa[oK]using h'.1
  refine dz.mpr ⟨λy b=>?_,c⟩;rcases List.mem_cons.mp b with rfl|b
  ·exact hx
  ·have a:oK x y:=kq c b;unfold oK at hx a ⊢;rw[ltCps_eq]at hx a ⊢;simp only[QO]at hx a ⊢;exact mP (α:=Nat) hx a
theorem J7{l:An}(h:sortedS l=true):l.Pairwise oK:=by
 cases l with
 |nil=>exact .nil
 |cons p l=>exact yq p l h
theorem yr{a b:AK}(h:oK a b)(h':oK b a):a=b:=by
 unfold oK at h h';rw[ltCps_eq]at h h';simp only[QO]at h h';have:=nN (as:=a.cps.toList) (bs:=b.cps.toList) h h';cases a;cases b;simp only[Str.mk.injEq];exact nS.mp this
theorem yt:∀{l c:An},l.Perm c->l.Pairwise oK->c.Pairwise oK->l=c
 |[],c,h,_,_=>by rw[List.nil_perm.mp h]
 |a::l,[],h,_,_=>by cases List.perm_nil.mp h
 |a::l,b::c,h,p,p'=>by
  have e:a=b:=by
   have f:a∈b::c:=h.mem_iff.mp (zg ..);have d:b∈a::l:=h.mem_iff.mpr (zg ..);rcases List.mem_cons.mp f with h1|h1
   ·exact h1
   ·rcases List.mem_cons.mp d with h2|h2
    ·exact h2.symm
    ·exact yr (kq p h2) (kq p' h1)
  subst e;rw[yt ((List.perm_cons a).mp h) (dz.mp p).2 (dz.mp p').2]
def VD(a b:AK):Bool:=!ltCps b.cps.toList a.cps.toList
def bH(ys:An):An:=ys.mergeSort VD
theorem aX(ys:An):(bH ys).Perm ys:=ic ys VD
theorem fu(ys:An):(bH ys).Pairwise oK:=by
 have h:=xt (le:=VD) (λa b c h1 h2=>by
  unfold VD at *
  rw[ltCps_eq]at *
  simp only[jb,QO]at *
  exact mP (α:=Nat) h1 h2) (λa b=>by
  unfold VD;rw[ltCps_eq,ltCps_eq];simp only[hH,jb,QO];exact List.le_total a.cps.toList b.cps.toList) ys
 exact h.imp λ{a b} hh=>by simpa[VD,oK]using hh
theorem M6(hp:zs.Perm ys)(hs:sortedS zs=true):zs=bH ys:=yt (hp.trans (aX ys).symm) (J7 hs) (fu ys)
def wz:O Bx->S Bx
 |[b]=>(qe b).bind λds=>(qw ds).bind λys=>if ys.length<64 then Z (.o ((bH ys).map Dt.str))else U
 |_=>U
theorem nq:oV X (.builtin "sorted") wz:=gq.imp J6 λxs H Q q=>by
 obtain⟨bs,c,n,e,q⟩:=q;unfold wz at e;split at e
 ·rename_i b;obtain⟨ds,o,e⟩:=AU e;obtain⟨ys,f,e⟩:=AU e;split at e
  ·rename_i g;cases e;obtain⟨v,rfl,i⟩:=BV n;obtain⟨p,vs,rfl,sq,m⟩:=i.HD o;obtain⟨rfl,j⟩:=m9 m f;refine⟨p,ys,rfl,sq,g,λl zs d hp hs=>?_⟩;rw[M6 hp hs];refine q _ _ (bC d) (λa ea=>by cases ea;exact d) ⟨l,_,rfl,aF,nQ λy h=>j y ((aX ys).mem_iff.mp h)⟩
  ·cases e
 ·cases e
def M7(x:AK)(b:Bx):S Bx:=(qe b).bind λds=>(qw ds).bind λys=>if(ys.map (·.length)).sum+ys.length*x.length<=100000 then Z (.z (.str (Txt.join x ys)))else U
theorem Pl:M3 X "str.join" (λx xs H Q=>∃y p ys,x=.str y/\xs=[.ref p]/\sY X.K H p (ys.map V.str)/\(ys.map (·.length)).sum+ys.length*y.length<=100000/\Q (.str (Txt.join y ys)) H):=by
 intro AO s σ H x xs v us Q I d b h;obtain⟨y,p,ys,rfl,rfl,sq,f,q⟩:=h;obtain⟨t,rfl⟩:=d;obtain⟨u,rfl,c⟩:=BG b;cases c;obtain⟨AS,a,pl,g⟩:=I.list sq;exact join_list pl.isList (nR a) () λe k=>⟨.str _,H,I.tok _,⟨_,rfl⟩,q⟩
theorem U1{p1:Pos}(h:QV X e f)(hx:x.length<=AB:=by decide)(t:attributeBase (.Constant (.str x) j p1) "join" X.env (eval (.Constant (.str x) j p1) X.env)=eval (.Constant (.str x) j p1) X.env:=by rfl)(s:((AE cpos (AA [e] X.env)).all (λx=>!x.1)&&(backToKw cpos (keywordEach [] X.env)).all (λx=>x.1.isSome)&&decide ([e].length+([]:O AD).length+(if([]:O AD).isEmpty then 0 else 1)<30))=true:=by rfl)(i:(apos.endLine==cpos.line)=true:=by rfl)(hs:AA [e] X.env=(false,eval e X.env)::AA [] X.env:=by rfl):QV X (.Call (.Attribute (.Constant (.str x) j p1) "join" apos) [e] [] cpos) (b1 (M7 x) f):=⟨have h:=h.run;JQ (Cw (T :="str") F.plainAttrs_str F.slot_str_join F.type_str_join Pl (XC (hx:=hx)) (Mq h Ti hs) t s i hs X9) λσ H Q q=>by
  obtain⟨H0,ρ,c,E,e,q⟩:=q;obtain⟨a,ea,e⟩:=AU e;refine⟨H0,ρ,_,E,rfl,λv H1 b A m=>?_⟩;obtain⟨rfl,z⟩:v=.str x/\x.length<=AB:=by simpa only[bh,AX]using m
  refine⟨rfl,H0,ρ,[a],E.grow b,by simp only[aq,ea,JJ],λvs H2 o u=>?_⟩;obtain⟨w,rfl,g⟩:=BV u;unfold M7 at e;obtain⟨ds,y,e⟩:=AU e;obtain⟨ys,d,e⟩:=AU e;split at e
  ·rename_i l;cases e;obtain⟨p,B,rfl,sq,n⟩:=g.HD y;obtain⟨rfl,C⟩:=m9 n d;refine⟨x,p,ys,rfl,rfl,sq,l,q _ _ (b.trans o) trivial ?_⟩;unfold bh AX;exact⟨rfl,joinOk_length (joinOk_of ())⟩
  ·cases e⟩
def QJ:O Bx->S Bx
 |[.z (.int a),.z (.int b)]=>Z (.z (.int (if b>a then b else a)))
 |_=>U
def Yq:O Bx->S Bx
 |[.z (.int a),.z (.int b)]=>Z (.z (.int (if b<a then b else a)))
 |_=>U
theorem Yr{a:Bx}(h:qg K H [a,b] vs):∃v w,vs=[v,w]/\bh K H a v/\bh K H b w:=by
 cases h with
 |cons p t=>
  cases t with
  |cons p' c=>cases c;exact⟨_,_,rfl,p,p'⟩
theorem QK(g:X.calm=true):oV X (.builtin "max") QJ:=by
 intro AO s σ H xs us Q I r h;obtain⟨bs,c,n,e,q⟩:=h;unfold QJ at e;split at e
 ·rename_i a b;cases e;obtain⟨v,w,rfl,l,f⟩:=Yr n;have j:=Ly l;have o:=Ly f;subst j o;obtain⟨u,x,rfl,m,i⟩:=AY.two r;obtain⟨t,rfl⟩:=m;obtain⟨p,rfl⟩:=i;refine max_two_ints (I.ok.hd g) λh' tk kp=>?_;by_cases d:b>a
  ·rw[zk d]at q ⊢;exact⟨.int b,H,I.kept kp,⟨_,rfl⟩,q _ H (AW.refl H) trivial CW⟩
  ·rw[zw d]at q ⊢;exact⟨.int a,H,I.kept kp,⟨_,rfl⟩,q _ H (AW.refl H) trivial CW⟩
 ·cases e
theorem cw(g:X.calm=true):oV X (.builtin "min") Yq:=by
 intro AO s σ H xs us Q I r h;obtain⟨bs,c,n,e,q⟩:=h;unfold Yq at e;split at e
 ·rename_i a b;cases e;obtain⟨v,w,rfl,l,f⟩:=Yr n;have j:=Ly l;have o:=Ly f;subst j o;obtain⟨u,x,rfl,m,i⟩:=AY.two r;obtain⟨t,rfl⟩:=m;obtain⟨p,rfl⟩:=i;refine min_two_ints (I.ok.hd g) λh' tk kp=>?_;by_cases d:b<a
  ·rw[zk d]at q ⊢;exact⟨.int b,H,I.kept kp,⟨_,rfl⟩,q _ H (AW.refl H) trivial CW⟩
  ·rw[zw d]at q ⊢;exact⟨.int a,H,I.kept kp,⟨_,rfl⟩,q _ H (AW.refl H) trivial CW⟩
 ·cases e
def Dd(AQ:O (AZ×Dt))(x:AZ):S Dt:=(AQ.find? λa=>decide (a.1=x)).map (·.2)
def J8(AQ:O (AZ×Dt))(x:AZ)(d:Dt):O (AZ×Dt):=
 if(AQ.any λa=>decide (a.1=x))=true then AQ.map (λa=>if a.1=x then(a.1,d)else a)else AQ++[(x,d)]
theorem fY.nil:fY K H [] []:=⟨rfl,aO.nil,λp hp=>by cases hp⟩
theorem fY.inv{p:AZ×Dt}(h:fY K H (p::AQ) ks):∃v r,ks=(p.1,v)::r/\AX K H p.2 v/\DL p.1/\fY K H AQ r:=by
 obtain⟨h1,h2,a⟩:=h;cases ks with
 |nil=>simp at h1
 |cons q r=>
  simp only[zr,yT]at h1;obtain⟨e,h1⟩:=h1;simp only[zr,aO]at h2;obtain⟨v,d,e2,b,c⟩:=h2;simp only[yT]at e2;obtain⟨rfl,rfl⟩:=e2;exact⟨q.2,r,by rw[<-e],b,a p (zg ..),h1,c,λx hx=>a x (zh _ hx)⟩
theorem fY.cons{p:AZ×Dt}{AQ:O (AZ×Dt)}{v:V}{r:O (AZ×V)}(a:AX K H p.2 v)(hp:DL p.1)(h:fY K H AQ r):fY K H (p::AQ) ((p.1,v)::r):=
 ⟨by simp[h.1],aO.cons a h.2.1,λx hx=>by
  rcases List.mem_cons.mp hx with rfl|hx
  ·exact hp
  ·exact h.2.2 x hx⟩
theorem fY.append{AQ:O (AZ×Dt)}{ks:O (AZ×V)}{x:AZ}{d:Dt}{v:V}(h:fY K H AQ ks)(a:AX K H d v)(hx:DL x):fY K H (AQ++[(x,d)]) (ks++[(x,v)]):=
 ⟨by simp[h.1],by rw[ZN,ZN];exact aO.append h.2.1 (aO.cons a aO.nil),λp hp=>by
  rcases List.mem_append.mp hp with hp|hp
  ·exact h.2.2 p hp
  ·cases bN.mp hp;exact hx⟩
theorem fY.len(h:fY K H AQ ks):ks.length=AQ.length:=by
 have:=congrArg jt h.1;simpa using this
theorem fY.look:∀{AQ:O (AZ×Dt)} {ks:O (AZ×V)} {x:AZ} {d:Dt},fY K H AQ ks->Dd AQ x=Z d->∃v,qd ks x=Z v/\AX K H d v
 |[],_,_,_,_,e=>by cases e
 |p::AQ,_,x,d,h,e=>by
  obtain⟨v,r,rfl,a,c,b⟩:=h.inv;unfold Dd at e;by_cases hp:p.1=x
  ·rw[List.find?_cons_of_pos (by simpa using hp)]at e;cases e;exact⟨v,tW (by rw[hp]),a⟩
  ·rw[List.find?_cons_of_neg (by simpa using hp)]at e;obtain⟨w,e1,e2⟩:=fY.look b e;exact⟨w,(uc (by simpa using hp)).trans e1,e2⟩
theorem fY.any:∀{AQ:O (AZ×Dt)} {ks:O (AZ×V)} {x:AZ},fY K H AQ ks->(ks.any λa=>decide (a.1=x))=AQ.any λa=>decide (a.1=x)
 |[],ks,_,h=>by
  have:=h.len;cases ks with
  |nil=>rfl
  |cons _ _=>simp at this
 |p::AQ,_,x,h=>by
  obtain⟨v,r,rfl,c,d,b⟩:=h.inv;rw[kF,kF,fY.any b]
theorem fY.Ys:∀{AQ:O (AZ×Dt)} {ks:O (AZ×V)} {x:AZ} {d:Dt} {v:V},fY K H AQ ks->AX K H d v->fY K H (AQ.map λa=>if a.1=x then(a.1,d)else a) (ks.map λa=>if a.1=x then(a.1,v)else a)
 |[],ks,_,_,_,h,_=>by
  have:=h.len;cases ks with
  |nil=>exact fY.nil
  |cons _ _=>simp at this
 |p::AQ,_,x,d,v,h,hd=>by
  obtain⟨w,r,rfl,f,b,e⟩:=h.inv;rw[zr,zr];have c:=fY.Ys (x:=x) e hd;by_cases hp:p.1=x
  ·rw[zk hp,zk (by simp[hp])];exact fY.cons (p:=(p.1,d)) hd b c
  ·rw[zw hp,zw (by simpa using hp)];exact fY.cons f b c
theorem fY.put{x:AZ}(h:fY K H AQ ks)(a:AX K H d v)(hx:DL x):fY K H (J8 AQ x d) (BD ks x v):=by
 unfold J8 BD;rw[h.any];split
 ·exact h.Ys a
 ·exact h.append a hx
section
variable{ek o:Expr}{pos':Pos}
theorem Re  :QV X (.Dict [] [] pos) (λ_=>Z (.m [] U)):=⟨JQ Xr λσ H Q h=>by
 obtain⟨H0,ρ,b,E,e,q⟩:=h;cases e;intro p hp;exact q _ _ (bC hp) (λa ea=>by cases ea;exact hp) ⟨p,[],rfl,aF,fY.nil,λb h=>by cases h⟩⟩
def D3:Bx->S AZ
 |.z (.str x)=>Z (.inr x)
 |.z (.int i)=>Z (.inl i)
 |_=>U
theorem TF{k:AZ}(e:D3 b=Z k)(r:bh K H b v):v=kV k/\DL k:=by
 unfold D3 at e;split at e
 ·cases e;simp only[bh,AX]at r;exact r
 ·cases e;simp only[bh,AX]at r;exact⟨r,trivial⟩
 ·cases e
def oX:Bx->Bx->S Bx
 |.n AQ,b=>(D3 b).bind λk=>(Dd AQ k).bind λd=>Z (.z d)
 |_,_=>U
theorem QL{a c:Bx}(h:oX a b=Z c):∃AQ k d,a=.n AQ/\D3 b=Z k/\Dd AQ k=Z d/\c=.z d:=by
 unfold oX at h;split at h
 ·obtain⟨k,ek,h⟩:=AU h;obtain⟨d,e,h⟩:=AU h;cases h;exact⟨_,k,d,rfl,ek,e,rfl⟩
 ·cases h
theorem qY(B:X.A.units+100<cLine)(f:QV X o fo)(hk:QV X ek fk)(hs:Ic ek:=by intro _ _;rfl):QV X (.Subscript o ek pos) (b2 oX fo fk):=⟨have f:=f.run;have hk:=hk.run;JQ (PF () f hk hs) λσ H Q h=>by
 obtain⟨H0,ρ,c,E,e,q⟩:=h;obtain⟨a,ea,e⟩:=AU e;obtain⟨b,eb,e⟩:=AU e;refine⟨H0,ρ,a,E,ea,λv H1 g C s=>⟨H0,ρ,b,E.grow g,eb,λw H2 i z u=>?_⟩⟩;obtain⟨AQ,x,d,rfl,t,y,rfl⟩:=QL e;obtain⟨p,ks,rfl,m,j⟩:=s.same i;obtain⟨l,ev,n⟩:=j.look y;obtain⟨rfl,_⟩:=TF t u;exact⟨p,l,rfl,.inl ⟨ks,x,m,rfl,ev.symm⟩,q _ _ (g.trans i) trivial n⟩⟩
def M8(ρ:Ev)(i:Nat):Bx->Bx->S Ap
 |.z d,b=>(D3 b).bind λx=>match ρ[i]? with
  |some (Z (.m AQ w))=>if AQ.length<1000 then Z (.nx (ρ.set i (Z (.m (J8 AQ x d) w))))else U
  |_=>U
 |_,_=>U
def Yt(i:Nat)(f fk:Ev->S Bx):Ev->S Ap:=λρ=>(f ρ).bind λb=>(fk ρ).bind λk=>M8 ρ i b k
theorem QM{k:Bx}{r:Ap}(h:M8 ρ i b k=Z r):∃d y AQ w,b=.z d/\D3 k=Z y/\ρ[i]?=Z (Z (.m AQ w))/\AQ.length<1000/\r=.nx (ρ.set i (Z (.m (J8 AQ y d) w))):=by
 unfold M8 at h;split at h
 ·obtain⟨y,a,h⟩:=AU h;split at h
  ·rename_i c;split at h
   ·rename_i e;cases h;exact⟨_,y,_,_,rfl,a,c,e,rfl⟩
   ·cases h
  ·cases h
 ·cases h
theorem OV(i:Nat){p:Pos}(Q:X.A.units+100<cLine)(he:QV X e f)(hk:QV X ek fk)(o:X.N[i]?=Z x:=by rfl)(L:WW X.env.scope x:=by first|exact ko rfl|exact jv (ko X9)|exact jv (jv X9))(K:bv x:=by decide)(z:(x==("__classdict__":AK))=false:=by decide)(hs:swapsWith e (Z (.Subscript (.Name x p) ek pos')) pos.line X.env=pure false:=by rfl):Lx X (.Assign [.Subscript (.Name x p) ek pos'] e pos) (λρ=>(f ρ).bind λb=>(fk ρ).bind λk=>M8 ρ i b k):=⟨have he:=he.run;have hk:=hk.run;PL (aS () (iB (i:=i) o L K z) hk he hs) λD σ H h=>by
  obtain⟨H0,ρ,r,E,e,q⟩:=h;obtain⟨b,eb,e⟩:=AU e;obtain⟨k,ek,e⟩:=AU e;refine⟨H0,ρ,b,E,eb,λv H1 n P B=>?_⟩;obtain⟨d,y,AQ,W,rfl,C,j,G,rfl⟩:=QM e;have g:=E.grow n;obtain⟨w,e1,a,ks,rfl,s,l,J⟩:=g.val i _ j;refine⟨_,e1,H0,ρ,_,g,ek,λu H2 c M I=>?_⟩;obtain⟨rfl,F⟩:=TF C I;have t:=g.grow c;have m:=c _ _ s;have kp:Kp H2 (B1 H2 a (.dK (BD ks y v))):=.dk m;refine⟨a,_,rfl,Xq.k (k:=y) m (by rw[l.len];exact y7 G ()),q _ _ ?_⟩;exact t.ae6 j X9 e1 kp ⟨a,_,rfl,aF,((l.kp (.of c)).put (x:=y) (bh.same c B) F).kp kp,J⟩⟩
end
section
variable{a b:Expr}{fs:Ev->S (O Bx)}
theorem jG{j}(hx:x.length<=AB:=by decide):QV X (.Constant (.str x) j pos) (cB (.str x)):=⟨P1.XC (hx:=hx)⟩
end
section
variable{a b:Expr}{fs:Ev->S (O Bx)}
variable{AT:O Expr}
theorem aj(h1:QV X e f)(h2:Tg X es fs)(hs:AA (e::es) X.env=(false,eval e X.env)::AA es X.env:=by rfl):Tg X (e::es) (aq f fs):=⟨P1.Mq (h1:=h1.run) (h2:=h2.run) (hs:=hs)⟩
theorem au  :Tg X [] (λ_=>Z []):=⟨P1.Ti ⟩
end
theorem bo{f:A2}{k m:Nat}(F:Br K x qual st f fd)(S:bA N ps (aG st))(c:N.length=n)(d:ps.length=m)(e:∀(a:A1) (A:A6) (outer:O Env) (s:A3) (H:Hp) (E:XK),iu k (A.deeper (AL qual (aG st) s.heap.objs.size f a))->PX (tO zZ P w K mg base N qual (aG st) f a A outer s H E).Vg (fH st) g):
  gW P w K mg base zZ (k+1) f fd ps (DC K m (fM n g)):=S3 F S c d λa A outer s H E b=>(e a A outer s H E b).run
theorem z9:∀(vs:O A1) (ys:An),vs.length=ys.length->(∀(j:Nat) v,vs[j]?=Z v->∃y t,ys[j]?=Z y/\v=.str y t)->StrsAre vs ys
 |[],[],_,_=>.nil
 |v::vs,y::ys,hl,h=>by
  obtain⟨b,t,e,rfl⟩:=h 0 v rfl;cases e;exact .cons y t (z9 vs ys (by simpa using hl) λj v a=>h (j+1) v (by simpa using a))
theorem QS{AQ:O (AZ×A1)}(hk:AQ.map (·.1)=ys.map Sum.inr){b:Array A1}(h:ItemsOf (λi v=>∃k x,AQ[i]?=Z (k,x)/\(cG prog w).is k v=true) b AQ.length):StrsAre b.toList ys:=by
 have f:AQ.length=ys.length:=by have:=congrArg jt hk;simpa using this
 refine z9 _ _ (by rw[qh,h.1,f]) λj v d=>?_;obtain⟨k,x,e,hi⟩:=h.2 j v (by simpa using d);have e1:(AQ.map (·.1))[j]?=Z k:=by rw[zI,e];rfl
 rw[hk,zI]at e1;cases a:ys[j]? with
 |none=>rw[a]at e1;cases e1
 |some y=>
  rw[a]at e1;cases e1;have c:jA (Sum.inr y) v=true:=hi;rcases bK c with⟨i,t,e2,e3⟩|⟨z,t,e2,e3⟩
  ·cases e2
  ·cases e2;exact⟨_,t,rfl,e3⟩
def VF:O (AZ×Dt)->S An
 |[]=>Z []
 |(.inr x,_)::r=>(VF r).bind λys=>Z (x::ys)
 |(.inl _,_)::_=>U
theorem vD:∀{AQ:O (AZ×Dt)} {ys:An},VF AQ=Z ys->AQ.map (·.1)=ys.map Sum.inr
 |[],_,e=>by cases e;rfl
 |(.inr x,_)::r,_,e=>by
  obtain⟨ys,e1,e⟩:=AU e;cases e;rw[zr,zr,vD e1]
 |(.inl _,_)::_,_,e=>by cases e
theorem Pc(e:VF AQ=Z ys)(h:∀p∈AQ,DL p.1)(y:AK)(a:y∈ys):y.length<=AB:=by
 have:(Sum.inr y:AZ)∈AQ.map (·.1):=by rw[vD e];exact cc.mpr ⟨y,a,rfl⟩
 obtain⟨p,hp,ep⟩:=cc.mp this;have:=h p hp;rw[ep]at this;exact this
theorem TJ:∀{ks:O (AZ×V)} {vs:O (AZ×A1)},KV ks vs->vs.map (·.1)=ks.map (·.1)
 |_,_,.nil=>rfl
 |_,_,.cons h t=>by rw[zr,zr,TJ t,h.1]
theorem aV.ah2(E:aV K H0 H σ ρ)(i:Nat):aV K H0 H σ (ρ.set i U):=by
 have d:∀(j:Nat) (b:Bx),(ρ.set i U)[j]?=Z (Z b)->ρ[j]?=Z (Z b):=λj b e=>by
  rw[Ki]at e;split at e
  ·split at e<;>cases e
  ·exact e
 refine⟨by rw[qv];exact E.len,λj b e=>E.val j b (d j b e),λj k c a b e1 f e2 e3 h g=>E.own j k c a b (d _ _ e1) f e2 (d _ _ e3) h g,E.base,λj c a e1 f e2=>E.new j c a (d _ _ e1) f e2⟩
def kill(is:O Nat)(ρ:Ev):Ev:=is.foldl (λρ i=>ρ.set i U) ρ
theorem aV.kill{K:B5}{H0 H:Hp}{σ:L2.St}:∀(is:O Nat) {ρ:Ev},aV K H0 H σ ρ->aV K H0 H σ (P1.kill is ρ)
 |[],_,E=>E
 |i::is,_,E=>aV.kill is (E.ah2 i)
def fP(is:O Nat):Ev->S Ap:=λρ=>Z (.nx (kill is ρ))
theorem Yu{c:O AC}(is:O Nat)(h:S8 X c g):S8 X c (aJ g (fP is)):=FS h λD σ H q=>by
 obtain⟨H0,ρ,r,E,e,q⟩:=q;obtain⟨a,e1,e⟩:=AU e;refine⟨H0,ρ,a,E,e1,?_⟩;cases a with
 |nx f=>cases e;exact λσ' H' d=>q σ' H' (d.kill is)
 |rt b=>cases e;exact q
 |bk b=>cases e;exact q
 |ct b=>cases e;exact q
theorem bR{a:O AC}(is:O Nat)(h:PX X a g):PX X a (aJ g (fP is)):=⟨Yu is h.run⟩
end P1
namespace S1
section
variable(rk:A1->Nat)
def at_(xs:Array Keyed)(i:Nat):Nat:=match xs[i]? with
 |some p=>rk p.1
 |none=>0
def Up(xs:Array Keyed)(k:Nat):Prop:=∀i j,i<=j->j<k->at_ rk xs i<=at_ rk xs j
def CI(xs:Array Keyed)(k:Nat):Prop:=∀i j,i<=j->j<k->at_ rk xs j<=at_ rk xs i
structure Bs (kd:SortKind) (b:Array Keyed) (st:SortSt):Prop where
 pm:(arrOf st).Perm b
 kd:kindOf st=kd
 fl:failedOf st=none
 pd:pendingOf st=#[]
variable{rk}{b:Array Keyed}
theorem Bs.sz{st:SortSt}(h:Bs kd b st):(AN st).size=b.size:=h.pm.size_eq
theorem Bs.arr{st:SortSt}{xs:Array Keyed}(h:Bs kd b st)(hp:xs.Perm (AN st)):Bs kd b (PyProof.Rows.setArr st xs):=⟨hp.trans h.pm,h.kd,h.fl,h.pd⟩
theorem uE{xs ys:Array Keyed}(h:xs[i]?=ys[j]?):at_ rk xs i=at_ rk ys j:=by unfold at_;rw[h]
theorem Yv{xs:Array Keyed}{p d:Nat}(hs:p<xs.size)(a:d<=p)(k:Nat):at_ rk (bubble xs p d) k=if k=p-d then at_ rk xs p else if p-d<k/\k<=p then at_ rk xs (k-1)else at_ rk xs k:=by
 have e:=getElem?_bubble hs d a k;by_cases q:k=p-d
 ·simp only[zk q]at e ⊢;exact uE e
 ·simp only[zw q]at e ⊢;by_cases q2:p-d<k/\k<=p
  ·simp only[zk q2]at e ⊢;exact uE e
  ·simp only[zw q2]at e ⊢;exact uE e
theorem QT{xs:Array Keyed}(a:j<=xs.size)(k:Nat):at_ rk (mirror xs i j ((j-i) / 2)) k=if i<=k/\k<j then at_ rk xs (i+j-1-k)else at_ rk xs k:=by
 have e:=getElem?_mirror_all (i:=i) a k;by_cases q:i<=k/\k<j
 ·simp only[zk q]at e ⊢;exact uE e
 ·simp only[zw q]at e ⊢;exact uE e
theorem yu{xs:Array Keyed}(a:j<=xs.size)(he:∀k,i<=k->k<j->at_ rk xs k=at_ rk xs (j-1))(k:Nat):at_ rk (mirror xs i j ((j-i) / 2)) k=at_ rk xs k:=by
 rw[QT a];by_cases q:i<=k/\k<j
 ·rw[zk q,he (i+j-1-k) () (),he k q.1 q.2]
 ·rw[zw q]
end
section
variable{b:Array Keyed}
def VG(prog:A4)(w:A5)(A:A6)(s:A3)(kd:SortKind)(rk:A1->Nat)(b:Array Keyed):Prop:=
 ∀(E:B8) (p q:Keyed) (Q:Bool->A3->Prop),p∈b.toList->q∈b.toList->Q (decide (rk p.1<rk q.1)) s->A8 (A9 prog w) A (keyLt' kd p.1 q.1) Q E s
theorem M9{st:SortSt}{Q:S Bool->SortSt->Prop}(e:VG prog w A s kd rk b)(B:Bs kd b st)(hi:i<b.size)(d:j<b.size)(h:Q (Z (decide (at_ rk (AN st) i<at_ rk (AN st) j))) st):wpS (A9 prog w) A E s (ltAt' i j) Q st:=by
 have get:∀k,k<b.size->∃p,(AN st)[k]?=Z p/\p∈b.toList:=λk hk=>by
  have a:k<(AN st).size:=by rw[B.sz];exact hk
  exact⟨(AN st)[k],getElem?_pos _ k a,(eA.mp B.pm).mem_iff.mp (by simp)⟩
 obtain⟨p,e1,c⟩:=get i hi;obtain⟨q,e2,m2⟩:=get j d;have h:Q (Z (decide (rk p.1<rk q.1))) st:=by unfold at_ at h;rw[e1,e2]at h;exact h
 rw[ltAt'_eq];refine AM (wpS_get ?_);show wpS _ _ _ _ (elem' (AN st) i >>= λx=>elem' (AN st) j >>= λy=>lt' x y) Q st;rw[elem'_eq,elem'_eq,e1,e2];refine AM (wpS_pure ?_);refine AM (wpS_pure ?_);rw[lt'_eq];refine AM (wpS_get ?_);rw[B.kd];exact AM (wpS_lift (wpAny_attempt (e _ p q _ c m2 ⟨rfl,wpS_pure h⟩)))
theorem Mn{st:SortSt}{a:Nat}{Q:AscSt->SortSt->Prop}(f:VG prog w A s kd rk b)(u:n<=b.size)(v:1<=a)(l:a<=n)(B:Bs kd b st)(hs:Up rk (AN st) a)(h:∀m,a<=m->m<=n->Up rk (AN st) m->(m=n\/at_ rk (AN st) m<at_ rk (AN st) (m-1))->Q (U,m) st):wpS (A9 prog w) A E s (ascLoop a n) Q st:=by
 unfold ascLoop;refine wpS_forRange (I:=λx c t=>t=st/\c=(U,x)/\Up rk (AN st) x) ?_ ?_ ⟨rfl,rfl,hs⟩
 ·rintro x c t g p ⟨rfl,rfl,d⟩;refine AM (M9 f B () () ?_);by_cases q:at_ rk (AN t) x<at_ rk (AN t) (x-1)
  ·simp only[q,KS,QU];exact wpS_pure (h x g () d (.inr q))
  ·simp only[q,Kt,zv,qc];refine wpS_pure ⟨rfl,rfl,λi j o y=>?_⟩;by_cases hx:j<x
   ·exact d i j o hx
   ·have e:j=x:=by omega
    subst e;by_cases hi:i=j
    ·rw[hi];exact zl _
    ·have:=d i (j-1) () ();omega
 ·rintro c t ⟨rfl,rfl,d⟩;rw[show max a n=n by omega]at d ⊢;exact h n l (zl _) d (.inl X9)
theorem Nb{st:SortSt}{m:Nat}{Q:S Nat->SortSt->Prop}(d:VG prog w A s kd rk b)(f:n<=b.size)(h1:1<=m)(e:m<=n)(B:Bs kd b st)(hs:CI rk (AN st) m)(h:∀k t,Bs kd b t->1<=k->k<=n->Up rk (AN t) k->Q (Z k) t):wpS (A9 prog w) A E s (tail3 m n) Q st:=by
 unfold tail3;have c:m<=(AN st).size:=by rw[B.sz];omega
 refine AM (wpS_reverse ?_);have a:Bs kd b (PyProof.Rows.setArr st (mirror (AN st) 0 m ((m-0) / 2))):=B.arr (mirror_perm _ _ _ _);refine AM (Mn d f h1 e a (λi j q p=>?_) λk o g l _=>wpS_pure (h k _ a () g l));show at_ rk (mirror (AN st) 0 m ((m-0) / 2)) i<=at_ rk (mirror (AN st) 0 m ((m-0) / 2)) j;rw[QT c,QT c,zk ⟨by omega,by omega⟩,zk ⟨by omega,by omega⟩];exact hs _ _ () ()
theorem cq{st:SortSt}{m:Nat}{Q:DescSt->SortSt->Prop}(g:VG prog w A s kd rk b)(y:n<=b.size)(h1:1<=m)(o:m<=n)(B:Bs kd b st)(hs:CI rk (AN st) m)(h:∀k e t,Bs kd b t->m<=k->k<=n->CI rk (AN t) k->e+1<=k->(∀i,k-(e+1)<=i->i<k->at_ rk (AN t) i=at_ rk (AN t) (k-1))->Q (U,k,e) t):wpS (A9 prog w) A E s (descLoop m n) Q st:=by
 unfold descLoop;refine wpS_forRange (I:=λx c t=>∃e,c=(U,x,e)/\Bs kd b t/\CI rk (AN t) x/\e+1<=x/\∀i,x-(e+1)<=i->i<x->at_ rk (AN t) i=at_ rk (AN t) (x-1)) ?_ ?_ ⟨0,rfl,B,hs,by omega,λi q1 q2=>by rw[show i=m-1 by omega]⟩
 ·rintro x c t u F ⟨e,rfl,a,dn,f,d⟩;have l:x<=(AN t).size:=by rw[a.sz];omega
  have grow:∀xs:Array Keyed,(∀k,at_ rk xs k=at_ rk (AN t) k)->at_ rk (AN t) x<=at_ rk (AN t) (x-1)->CI rk xs (x+1):=λxs hk z i j v C=>by
   rw[hk,hk];by_cases hx:j<x
   ·exact dn i j v hx
   ·have p:j=x:=by omega
    subst p;by_cases hi:i=j
    ·rw[hi];exact zl _
    ·have:=dn i (j-1) () ();omega
  dsimp only;refine AM (M9 g a () () ?_);by_cases q:at_ rk (AN t) x<at_ rk (AN t) (x-1)
  ·simp only[q,KS,QU];by_cases h0:e>0
   ·rw[zk h0];exact AM (wpS_reverse (wpS_pure ⟨0,rfl,a.arr (mirror_perm _ _ _ _),grow _ (yu l d) (),by omega,λi q1 q2=>by rw[show i=x by omega];rfl⟩))
   ·rw[zw h0];exact wpS_pure ⟨0,rfl,a,grow _ (λ_=>X9) (),by omega,λi q1 q2=>by rw[show i=x by omega];rfl⟩
  ·simp only[q,Kt,zv,qc];refine AM (M9 g a () () ?_);by_cases q2:at_ rk (AN t) (x-1)<at_ rk (AN t) x
   ·simp only[q2,KS,QU];exact wpS_pure (h x e t a u () dn f d)
   ·simp only[q2,Kt,zv,qc];refine wpS_pure ⟨e+1,rfl,a,grow _ (λ_=>X9) (),by omega,λi q3 D=>?_⟩;rw[show x+1-1=x by omega];by_cases hi:i=x
    ·rw[hi]
    ·rw[d i () ()];omega
 ·rintro c t ⟨e,rfl,a,dn,f,d⟩;rw[show max m n=n by omega]at dn f d ⊢;exact h n e t a o (zl _) dn f d
theorem NG{st:SortSt}{m:Nat}{Q:S Nat->SortSt->Prop}(a:VG prog w A s kd rk b)(c:n<=b.size)(o:m+1<=n)(B:Bs kd b st)(hs:CI rk (AN st) (m+1))(h:∀k t,Bs kd b t->1<=k->k<=n->Up rk (AN t) k->Q (Z k) t):wpS (A9 prog w) A E s (descPart m n) Q st:=by
 unfold descPart;refine AM (wpS_lift (ka ⟨rfl,?_⟩));refine AM (cq a c () o B hs λk e t d v f dn u g=>?_);have l:k<=(AN t).size:=by rw[d.sz];omega
 by_cases h0:e>0
 ·simp only[zk h0];refine AM (wpS_reverse (Nb a c () f (d.arr (mirror_perm _ _ _ _)) (λi j q p=>?_) h));show at_ rk (mirror (AN t) _ _ _) j<=at_ rk (mirror (AN t) _ _ _) i;rw[yu l g,yu l g];exact dn i j q p
 ·simp only[zw h0];exact Nb a c () f d dn h
theorem T1{st:SortSt}{Q:S Nat->SortSt->Prop}(a:VG prog w A s kd rk b)(d:n<=b.size)(h1:1<=n)(B:Bs kd b st)(h:∀k t,Bs kd b t->1<=k->k<=n->Up rk (AN t) k->Q (Z k) t):wpS (A9 prog w) A E s (countRun' 0 n) Q st:=by
 rw[countRun0_eq];refine AM (Mn a d (zl 1) h1 B (λi j o g=>by rw[show i=j by omega];exact zl _) λm f m2 c or=>?_);by_cases e:m=n
 ·simp only[zk (show(m==n)=true by simpa using e)];exact wpS_pure (h m st B f m2 c)
 ·simp only[zw (show ¬ (m==n)=true by simpa using e)];have lt:=or.resolve_left e;have l:m<=(AN st).size:=by rw[B.sz];omega
  by_cases g1:m>1
  ·rw[zk g1];refine AM (M9 a B () () ?_);by_cases q:at_ rk (AN st) 0<at_ rk (AN st) (m-1)
   ·simp only[q,KS,QU];exact wpS_pure (h m st B f m2 c)
   ·simp only[q,Kt,zv,qc];have all:∀k,0<=k->k<m->at_ rk (AN st) k=at_ rk (AN st) (m-1):=λk _ hk=>by
     have a1:=c 0 k () hk;have a2:=c k (m-1) () ();omega
    refine AM (wpS_reverse (NG a d () (B.arr (mirror_perm _ _ _ _)) (λi j o g=>?_) h));show at_ rk (mirror (AN st) _ _ _) j<=at_ rk (mirror (AN st) _ _ _) i;rw[yu l all,yu l all];by_cases u:j<m
    ·rw[all i () (),all j () u];exact zl _
    ·have p:j=m:=by omega
     subst p;by_cases hi:i=j
     ·rw[hi];exact zl _
     ·rw[all i () ()];omega
  ·rw[zw g1];have e1:m=1:=by omega
   subst e1;refine NG a d () B (λi j o g=>?_) h;by_cases hi:i=j
   ·rw[hi];exact zl _
   ·rw[show i=0 by omega,show j=1 by omega];exact j0 lt
theorem IT{st:SortSt}{g:Nat}{Q:Bool->SortSt->Prop}(v:VG prog w A s kd rk b)(H:n<=b.size)(J:g<=n)(B:Bs kd b st)(hs:Up rk (AN st) g)(h:∀t,Bs kd b t->Up rk (AN t) n->Q true t):wpS (A9 prog w) A E s (binarySort' 0 n g) Q st:=by
 rw[binarySort'_eq];simp only[K0];refine AM (wpS_mono (wpS_forRange (I:=λk c t=>c=(U,gl)/\Bs kd b t/\Up rk (AN t) (min k n)) (Q:=λc t=>c=(U,gl)/\Bs kd b t/\Up rk (AN t) n) ?_ ?_ ?_) ?_)
 ·rintro k c t G K ⟨rfl,f,d⟩;rw[show min k n=k by omega]at d;have hk:k<b.size:=by omega
  refine AM (wpS_mono (wpS_forRange (I:=λx c a=>a=t/\∃l r,c=(U,l,r)/\l<=r/\r<=k/\r-l<=k-x/\(∀i,i<l->at_ rk (AN t) i<=at_ rk (AN t) k)/\(∀i,r<=i->i<k->at_ rk (AN t) k<at_ rk (AN t) i))
   (Q:=λc a=>a=t/\∃l r,c=(U,l,r)/\l<=k/\(∀i,i<l->at_ rk (AN t) i<=at_ rk (AN t) k)/\(∀i,l<=i->i<k->at_ rk (AN t) k<at_ rk (AN t) i)) ?_ ?_ ?_) ?_)
  ·rintro x c a _ hx ⟨rfl,l,r,rfl,y,m,D,lo,hi⟩;dsimp only;by_cases u:l>=r
   ·rw[zk u];have e:l=r:=by omega
    subst e;exact wpS_pure ⟨rfl,l,l,rfl,m,lo,hi⟩
   ·rw[zw u];refine AM (M9 v f hk () ?_);by_cases q:at_ rk (AN a) k<at_ rk (AN a) ((l+r) / 2)
    ·simp only[q,KS,QU];refine wpS_pure ⟨rfl,l,(l+r) / 2,rfl,by omega,by omega,by omega,lo,λi q1 q2=>?_⟩;have:=d ((l+r) / 2) i q1 q2;omega
    ·simp only[q,Kt,zv,qc];refine wpS_pure ⟨rfl,(l+r) / 2+1,r,rfl,by omega,by omega,by omega,λi q1=>?_,hi⟩;have:=d i ((l+r) / 2) () ();omega
  ·rintro c a ⟨rfl,l,r,rfl,y,m,D,lo,hi⟩;have e:l=r:=by omega
   subst e;exact⟨rfl,l,l,rfl,m,lo,hi⟩
  ·exact⟨rfl,0,k,rfl,by omega,by omega,by omega,λi hi=>by omega,λi q1 q2=>by omega⟩
  ·rintro c a ⟨rfl,l,r,rfl,L,lo,hi⟩;show wpS _ _ _ _ (moveDown' k l >>= λ_=>pure (ForInStep.yield (U,gl))) _ _;rw[moveDown'_eq];refine AM (wpS_modify (wpS_pure ⟨rfl,f.arr (bubble_perm _ _ _),?_⟩));rw[show min (k+1) n=k+1 by omega];have p:k<(AN a).size:=by rw[f.sz];exact hk
   intro i j o F;show at_ rk (bubble (AN a) k (k-l)) i<=at_ rk (bubble (AN a) k (k-l)) j;rw[Yv p (),Yv p (),show k-(k-l)=l by omega]
   repeat' split
   all_goals first
    |(exfalso;omega)
    |exact zl _
    |exact lo _ ()
    |exact j0 (hi _ () ())
    |exact d _ _ () ()
 ·rintro c t ⟨C,f,d⟩;refine⟨C,f,?_⟩;rwa [show min (max (max g 1) n) n=n by omega]at d
 ·refine⟨rfl,B,λi j o F=>?_⟩;by_cases z:g=0
  ·rw[show i=j by omega];exact zl _
  ·exact hs i j o ()
 ·rintro c t ⟨rfl,f,d⟩;exact wpS_pure (h t f d)
def Dn(kd:SortKind)(rk:A1->Nat)(b:Array Keyed)(st:SortSt):Prop:=(AN st).Perm b/\failedOf st=U/\pendingOf st=#[(0,b.size,0)]/\Up rk (AN st) b.size
theorem Bs.dn{st:SortSt}(B:Bs kd b st)(a:Up rk (AN st) b.size):Dn kd rk b (setPending st ((pendingOf st).push (0,b.size,0))):=⟨B.pm,B.fl,(by show(pendingOf st).push _=_;rw[B.pd];rfl),a⟩
theorem K'{st:SortSt}{Q:Unit->SortSt->Prop}(g:VG prog w A s kd rk b)(B:Bs kd b st)(h2:2<=b.size)(p:b.size<64)
  (h:∀t,(AN t).Perm b->failedOf t=U->Up rk (AN t) b.size->Q gl t):wpS (A9 prog w) A E s sortRuns' Q st:=by
 rw[sortRuns'_eq];refine AM (wpS_get ?_);have o:minRun' b.size b.size 0=b.size:=by
  obtain⟨f,y⟩:∃f,b.size=f+1:=⟨b.size-1,by omega⟩;have q:minRun' (f+1) b.size 0=b.size:=(minRun'_succ f b.size 0).trans (zk p);rwa [<-y]at q
 simp only[B.sz,o];have i:∀{t:SortSt},Bs kd b t->(pendingOf t).back?=U:=λB=>by rw[B.pd];rfl
 refine AM (wpS_mono (wpS_forRange (I:=λx c t=>(x=0/\c=(U,0)/\Bs kd b t)\/(1<=x/\c=(U,b.size)/\Dn kd rk b t)) (Q:=λc t=>c=(U,b.size)/\Dn kd rk b t) ?_ ?_ (.inl ⟨rfl,rfl,B⟩)) ?_)
 ·rintro x c t _ hx (⟨rfl,rfl,v⟩|⟨C,rfl,D⟩)
  ·dsimp only;rw[zw ()];simp only[Nat.sub_zero,mh,K0];refine AM (T1 g (zl _) () v λm t2 a z m2 d=>?_);dsimp only;by_cases lt:m<b.size
   ·rw[zk lt];refine AM (wpS_lift (ka ⟨rfl,AM (IT g (zl _) m2 a d λtq j l=>?_)⟩));simp only[k8,zv,qc];refine AM (wpS_get ?_);rw[i j];exact AM (wpS_modify (wpS_pure (.inr ⟨by omega,rfl,j.dn l⟩)))
   ·rw[zw lt];have e:m=b.size:=by omega
    subst e;refine AM (wpS_get ?_);rw[i a];exact AM (wpS_modify (wpS_pure (.inr ⟨by omega,rfl,a.dn d⟩)))
  ·dsimp only;rw[zk (zl _)];exact wpS_pure ⟨rfl,D⟩
 ·rintro c t (⟨hx,_,_⟩|⟨_,n,D⟩)
  ·omega
  ·exact⟨n,D⟩
 ·rintro c t ⟨rfl,D⟩;dsimp only;refine AM (wpS_mono (wpS_forRange (I:=λ_ c u=>u=t/\c=(U,gl)) (Q:=λc u=>u=t/\c=(U,gl)) ?_ (λ_ _ q=>q) ⟨rfl,rfl⟩) ?_)
  ·rintro x c u _ _ ⟨rfl,rfl⟩;refine AM (wpS_get ?_);rw[zk (by rw[D.2.2.1];exact zl 1)];exact wpS_pure ⟨rfl,rfl⟩
  ·rintro c u ⟨rfl,rfl⟩;exact wpS_pure (h _ D.1 D.2.1 D.2.2.2)
def Rn(prog:A4)(w:A5)(A:A6)(kd:SortKind)(rk:A1->Nat)(b:Array Keyed):Prop:=∀(E:B8) (s:A3) (st:SortSt) (Q:Unit->SortSt->Prop),VG prog w A s kd rk b->Bs kd b st->2<=b.size →
 (∀t,(AN t).Perm b->failedOf t=U->Up rk (AN t) b.size->Q gl t)->wpS (A9 prog w) A E s sortRuns' Q st
theorem UZ(h:b.size<64):Rn prog w A kd rk b:=λ_ _ _ _ a B h2 q=>K' a B h2 h q
def GU(a:A2)(s s':A3):Prop:=∀c o,c≠a->s.heap.get? c=Z o->s'.heap.get? c=Z o
theorem av{vs:O A1}{P:Fin->A3->Prop}(b:s.heap.get? a=Z (seqObj "list" vs.toArray n))(x:2<=vs.length->∀s',GU a s s'->∀Q:SortKind->A3->Prop,Q kd s'->A8 (A9 prog w) A (keyKind' vs.toArray) Q E s')(l:∀s',GU a s s'->VG prog w A s' kd rk (pairsOf vs))(u:vs.length<=AB)(y:Rn prog w A kd rk (pairsOf vs))(h:∀st:SortSt,(AN st).Perm (pairsOf vs)->Up rk (AN st) (pairsOf vs).size->P (.done (.ret .none)) { s with heap:=sortedHeap s.heap a vs ((AN st).map (·.2)) }):
  A8 (A9 prog w) A (Builtin.«list.sort» ⟨[.ref a],[]⟩) P E s:=by
 rw[list_sort_plain];have m:=zz b;refine zb (listItems_at b X9 (zb (listUpdate_at b X9 ?_)));obtain⟨e1,g1⟩:∃e1,(s.heap.update a (Obj.mapSeq λ_=>#[])).get? a=Z (seqObj "list" #[] e1):=⟨_,get?_update_seq b λ_=>#[]⟩;refine zb (seqEpoch_at g1 X9 (zb (wpAny_newTuple (zb (wpAny_newList (qa ?_))))));have z1:(s.heap.update a (Obj.mapSeq λ_=>#[])).objs.size=s.heap.objs.size:=nV ..;have keep:∀c,c<s.heap.objs.size->(((s.heap.update a (Obj.mapSeq λ_=>#[])).push (seqObj "tuple" vs.toArray 0)).push (seqObj "list" #[] 0)).get? c=(s.heap.update a (Obj.mapSeq λ_=>#[])).get? c:=λc d=>by
  rw[nt _ _ _ (by rw[size_push',z1];exact zS (QQ d)),nt _ _ _ (by rw[z1];exact zS d)]
 have f:=(keep a m).trans g1;have old:GU a s { s with heap:=((s.heap.update a (Obj.mapSeq λ_=>#[])).push (seqObj "tuple" vs.toArray 0)).push (seqObj "list" #[] 0) }:=λc o d e=>by
  show(((s.heap.update a (Obj.mapSeq λ_=>#[])).push (seqObj "tuple" vs.toArray 0)).push (seqObj "list" #[] 0)).get? c=Z o;rw[keep c (zz e),kc _ _ _ _ d];exact e
 show A8 _ _ _ _ _ { s with heap:=((s.heap.update a (Obj.mapSeq λ_=>#[])).push (seqObj "tuple" vs.toArray 0)).push (seqObj "list" #[] 0) };have B:vs.toArray.size=vs.length:=by simp
 have g:∀st:SortSt,(AN st).Perm (pairsOf vs)->((AN st).map (·.2)).size<=AB+1:=λst hp=>by
  have q:((AN st).map (·.2)).size=vs.length:=(Array.size_map ..).trans (hp.size_eq.trans (pairsOf_size _));rw[q];exact lL u
 by_cases h2:vs.toArray.size<2
 ·simp only[zk h2];refine zb (zd ?_);rw[StateT.run_pure];refine zb (zd (zb (seqEpoch_at f X9 (zb (listUpdate_at f X9 ?_ (hsz2:=g (SortSt.mk' general' (pairsOf vs) #[] 7 U) (Array.Perm.refl _)))))));simp only[bne_self_eq_false,zv,qc];refine zd (h (SortSt.mk' general' (pairsOf vs) #[] 7 U) (Array.Perm.refl _) λi j C z=>?_);rw[pairsOf_size]at z;rw[show i=j by omega];exact zl _
 ·simp only[zw h2];refine zb (x () _ old _ ?_);refine zb (ZA (y _ _ (SortSt.mk' kd (pairsOf vs) #[] 7 U) (λ_ t=>(AN t).Perm (pairsOf vs)/\failedOf t=U/\Up rk (AN t) (pairsOf vs).size) (l _ old) ⟨Array.Perm.refl _,rfl,rfl,rfl⟩ (by rw[pairsOf_size];omega) λt q1 q2 q3=>⟨q1,q2,q3⟩) ?_ λ_ _ q=>q);rintro⟨⟨⟩,t⟩ s' ⟨rfl,hp,v,p⟩;dsimp only;refine zb (seqEpoch_at f X9 (zb (listUpdate_at f X9 ?_ (hsz2:=g t hp))));rw[v];simp only[bne_self_eq_false,zv,qc];exact zd (h t hp p)
theorem QW{x:A1}{vs:O A1}{Q:B8}(u:∀(d:B8) (Q':O A1->A3->Prop),(∀h' tk,s.heap.objs.size<=h'.objs.size->(∀c o,s.heap.get? c=Z o->h'.get? c=Z o)->Q' vs { s with heap:=h',toks:=tk })->A8 (A9 prog w) A.in1 (collect x) Q' d s)
  (t:2<=vs.length->∀(d:B8) (a:A6) (s':A3),(∀c o,s.heap.get? c=Z o->s'.heap.get? c=Z o)->∀Q:SortKind->A3->Prop,Q kd s'->A8 (A9 prog w) a (keyKind' vs.toArray) Q d s') (g:∀(a:A6) (s':A3),(∀c o,s.heap.get? c=Z o->s'.heap.get? c=Z o)->VG prog w a s' kd rk (pairsOf vs)) (i:vs.length<=AB) (p:∀a:A6,Rn prog w a kd rk (pairsOf vs))
  (h:∀(l:A2) (h':A7) (tk n:Nat) (st:SortSt),(AN st).Perm (pairsOf vs)->Up rk (AN st) (pairsOf vs).size->s.heap.objs.size<=l->(∀c o,s.heap.get? c=Z o->h'.get? c=Z o)->h'.get? l=Z (seqObj "list" ((AN st).map (·.2)) n)->Q (.ref l) { s with heap:=h',toks:=tk }):
  A8 (A9 prog w) A (call (.builtin "sorted") [x]) Q E s:=by
 refine Calls.call_function_entry kind_sorted plain_sorted entry_sorted (args_sorted1 _) ?_;unfold Builtin.«sorted»;refine zb (m:=checkCount "sorted" 1 1 _) (zd (zb (u _ _ λh1 tk j ext=>zb (wpAny_newList ?_))));have b:(h1.push (seqObj "list" vs.toArray 0)).get? h1.objs.size=Z (seqObj "list" vs.toArray 0):=zt _ rfl;have old:∀s':A3,GU h1.objs.size { s with heap:=h1.push (seqObj "list" vs.toArray 0),toks:=tk } s'->∀c o,s.heap.get? c=Z o->s'.heap.get? c=Z o:=λs' q c o e=>
  q c o (zS (zz (ext c o e))) (ze _ (ext c o e))
 refine zb (qa (JI slot_list_sort ⟨_,b,rfl⟩ entry_list_sort (av b (λq s' o=>t q _ _ s' (old s' o)) (λs' o=>g _ s' (old s' o)) i (p _) λst q1 q2=>⟨_,rfl,zd ⟨_,rfl,?_⟩⟩) (args_list_sort _)));obtain⟨n,en⟩:=sortedHeap_at (out:=(AN st).map (·.2)) b;refine h h1.objs.size _ tk n st q1 q2 j (λc o e=>?_) en;have f:=zz (ext c o e);rw[sortedHeap_old (zS f) (by rw[qB];exact QQ f)];exact ze _ (ext c o e)
theorem VH{x:A1}{vs:O A1}{Q:B8}(g:∀(b:B8) (Q':O A1->A3->Prop),(∀h' tk,s.heap.objs.size<=h'.objs.size->(∀c o,s.heap.get? c=Z o->h'.get? c=Z o)->Q' vs { s with heap:=h',toks:=tk })->A8 (A9 prog w) A.in1 (collect x) Q' b s)
  (f:2<=vs.length->∀(b:B8) (a:A6) (s':A3),(∀c o,s.heap.get? c=Z o->s'.heap.get? c=Z o)->∀Q:SortKind->A3->Prop,Q kd s'->A8 (A9 prog w) a (keyKind' vs.toArray) Q b s') (e:∀(a:A6) (s':A3),(∀c o,s.heap.get? c=Z o->s'.heap.get? c=Z o)->VG prog w a s' kd rk (pairsOf vs)) (d:vs.length<64)
  (h:∀(l:A2) (h':A7) (tk n:Nat) (st:SortSt),(AN st).Perm (pairsOf vs)->Up rk (AN st) (pairsOf vs).size->s.heap.objs.size<=l->(∀c o,s.heap.get? c=Z o->h'.get? c=Z o)->h'.get? l=Z (seqObj "list" ((AN st).map (·.2)) n)->Q (.ref l) { s with heap:=h',toks:=tk }):
  A8 (A9 prog w) A (call (.builtin "sorted") [x]) Q E s:=
 QW g f e (Zl (j0 d) (by rw[sizeLine_eq];omega)) (λ_=>UZ (by rw[pairsOf_size];exact d)) h
end
end S1
namespace S1
open L2
theorem VJ(fb:Bool)(x y:A1):keyLt' (tuples' fb) x y=(do
  let xs <-Builtin.List.listItems x
  let ys <-Builtin.List.listItems y
  for ((p,q),i) in (xs.toList.zip ys.toList).zipIdx do
   if !(<-eqBool p q)then return <-oneLt' (fb&&i==0) p q
  return decide (xs.size<ys.size)):=rfl
def VL:AZ->AZ->Bool
 |.inl a,.inl b=>decide (a<b)
 |.inr x,.inr y=>decide (x.cps.toList<y.cps.toList)
 |.inl _,.inr _=>true
 |.inr _,.inl _=>false
def TQ:AZ->AZ->Bool
 |.inl _,.inl _=>true
 |.inr _,.inr _=>true
 |_,_=>false
def nU:O AZ->O AZ->Bool
 |[],[]=>false
 |[],_::_=>true
 |_::_,[]=>false
 |x::xs,y::ys=>if x=y then nU xs ys else VL x y
def DF:O AZ->O AZ->Prop
 |x::xs,y::ys=>TQ x y=true/\DF xs ys
 |_,_=>True
theorem EH{x y:AZ}{p q:A1}{Q:Bool->A3->Prop}(hp:jA x p=true)(c:jA y q=true)(h:Q (decide (x=y)) s):A8 (A9 prog w) A (eqBool p q) Q E s:=
 (cG prog w).eqBool (a:=x) (b:=y) hp c h
theorem ZB{fb:Bool}{x y:AZ}{p q:A1}{Q:Bool->A3->Prop}(hs:TQ x y=true)(hp:jA x p=true)(a:jA y q=true)(h:Q (VL x y) s):A8 (A9 prog w) A (oneLt' fb p q) Q E s:=by
 rcases bK hp with⟨i,t,rfl,rfl⟩|⟨z,t,rfl,rfl⟩
 ·rcases bK a with⟨j,u,rfl,rfl⟩|⟨z,u,rfl,rfl⟩
  ·cases fb with
   |true=>exact oneLt_int h
   |false=>
    rw[oneLt'_eq];simp only[zv,qc];refine zb (show A8 _ _ (AH .Lt (.int i t) (.int j u)) _ _ _ from lt_int ?_);exact kA h
  ·cases hs
 ·rcases bK a with⟨j,u,rfl,rfl⟩|⟨b,u,rfl,rfl⟩
  ·cases hs
  ·cases fb with
   |true=>exact oneLt_str h
   |false=>
    rw[oneLt'_eq];simp only[zv,qc];refine zb (show A8 _ _ (AH .Lt (.str z t) (.str b u)) _ _ _ from PySem.P.lt_str ?_);exact kA h
def Ks(ks:O AZ)(AS:O A1):Prop:=AJ (λk v=>jA k v=true) ks AS
def DM:O AZ->O AZ->S Bool
 |x::xs,y::ys=>if x=y then DM xs ys else Z (VL x y)
 |_,_=>U
theorem Yw:∀ks a:O AZ,nU ks a=match DM ks a with|some r=>r|none=>decide (ks.length<a.length)
 |[],[]=>rfl
 |[],_::_=>by simp[nU,DM]
 |_::_,[]=>rfl
 |x::xs,y::ys=>by
  simp only[nU,DM];by_cases e:x=y
  ·rw[zk e,zk e,Yw xs ys];simp only[ZZ,Nat.add_lt_add_iff_right]
  ·rw[zw e,zw e]
def turn(fb:Bool):(A1×A1)×Nat->S Bool×Unit->Sem (ForInStep (S Bool×Unit)):=λx _=>match x with
 |((p,q),i)=>do
  let e <-eqBool p q
  if(!e)=true then do
    let r <-oneLt' (fb&&i==0) p q
    pure (ForInStep.done (Z r,gl))
   else pure (ForInStep.yield (U,gl))
theorem IS(fb:Bool):∀(ks b:O AZ) (AS a:O A1) (i:Nat) (R:S Bool×Unit->A3->Prop),Ks ks AS->Ks b a->DF ks b->R (DM ks b,gl) s->A8 (A9 prog w) A (forIn ((AS.zip a).zipIdx i) ((U,gl):S Bool×Unit) (turn fb)) R E s:=by
 intro ks
 induction ks with
 |nil=>intro b AS a i R h _ _ h1;cases h;exact zd h1
 |cons x xs f=>
  intro b AS a i R h h' hs h1;cases h with
  |@cons _ p _ AS hp hk=>
   cases h' with
   |nil=>exact zd h1
   |@cons y q ys a c d=>
    rw[Yf,List.zipIdx_cons,List.forIn_cons];refine zb ?_;show A8 _ _ (eqBool p q >>= _) _ _ _;refine zb (EH hp c ?_);by_cases e:x=y
    ·simp only[e,KS,k8,zv,qc];refine zd (f ys AS a (i+1) R hk d hs.2 ?_);simp only[DM,zk e]at h1;exact h1
    ·simp only[e,Kt,y9,QU];refine zb (ZB hs.1 hp c (zd (zd ?_)));simp only[DM,zw e]at h1;exact h1
theorem ib{fb:Bool}{c:A2}{i f:AF}{d:O A1}{m:Nat}{ks b:O AZ}{Q:Bool->A3->Prop}(o:s.heap.get? a=Z i)(q:i.data=.seq AS.toArray n)(p:s.heap.get? c=Z f)(t:f.data=.seq d.toArray m)(hk:Ks ks AS)(g:Ks b d)(hs:DF ks b)(h:Q (nU ks b) s):A8 (A9 prog w) A (keyLt' (tuples' fb) (.ref a) (.ref c)) Q E s:=by
 rw[VJ];refine zb (listItems_at o q (zb (listItems_at p t ?_)));have j:AS.length=ks.length:=(Paired.length hk).symm;have l:d.length=b.length:=(Paired.length g).symm;refine zb (IS fb ks b AS d 0 _ hk g hs ?_);rw[Yw]at h;cases e:DM ks b with
 |some r=>rw[e]at h;exact zd h
 |none=>
  rw[e]at h;refine zd ?_;simpa[j,l]using h
theorem iO(x:AZ):VL x x=false:=by
 cases x with
 |inl a=>simp[VL]
 |inr a=>simp[VL]
theorem VN{x y z:AZ}(h:VL x y=true)(h':VL y z=true):VL x z=true:=by
 cases x<;>cases y<;>cases z<;>simp only[VL,JS,zv,reduceCtorEq]at h h' ⊢
 ·omega
 ·exact List.lt_trans h h'
theorem WZ{x y:AZ}(h:VL x y=false)(h':VL y x=false):x=y:=by
 cases x<;>cases y<;>simp only[VL,QO,Bool.true_eq_false,reduceCtorEq]at h h'
 ·congr 1;omega
 ·rename_i a b;have:=nN (as:=a.cps.toList) (bs:=b.cps.toList) h' h;cases a;cases b;simp only at this;rw[nS.mp this]
theorem Dg:∀xs:O AZ,nU xs xs=false
 |[]=>rfl
 |x::xs=>by simp only[nU,QU];exact Dg xs
theorem nW:∀{xs ys zs:O AZ},nU xs ys=true->nU ys zs=true->nU xs zs=true
 |[],[],_,h,_=>by cases h
 |[],_::_,[],_,h'=>by cases h'
 |[],_::_,_::_,_,_=>rfl
 |_::_,[],_,h,_=>by cases h
 |_::_,_::_,[],_,h'=>by cases h'
 |x::xs,y::ys,z::zs,h,h'=>by
  simp only[nU]at h h' ⊢;by_cases e1:x=y
  ·subst e1;rw[zk rfl]at h;by_cases e2:x=z
   ·subst e2;rw[zk rfl]at h' ⊢;exact nW h h'
   ·rw[zw e2]at h' ⊢;exact h'
  ·rw[zw e1]at h;by_cases e2:y=z
   ·subst e2;rw[zw e1];exact h
   ·rw[zw e2]at h';have:=VN h h';rw[zw (λe=>by subst e;rw[iO]at this;cases this)];exact this
theorem yw:∀{xs ys:O AZ},nU xs ys=false->nU ys xs=false->xs=ys
 |[],[],_,_=>rfl
 |[],_::_,h,_=>by cases h
 |_::_,[],_,h'=>by cases h'
 |x::xs,y::ys,h,h'=>by
  simp only[nU]at h h';by_cases e:x=y
  ·subst e;rw[zk rfl]at h h';rw[yw h h']
  ·rw[zw e]at h;rw[zw (ja e)]at h';exact absurd (WZ h h') e
def wN(xs ys:O AZ):Bool:=!nU ys xs
theorem Dh(a b c:O AZ)(h:wN a b=true)(h':wN b c=true):wN a c=true:=by
 unfold wN at *
 simp only[jb]at *
 cases d:nU c a with
 |false=>rfl
 |true=>
  cases f:nU a b with
  |true=>rw[nW d f]at h';cases h'
  |false=>
   have e:=yw f h;subst e;rw[d]at h';cases h'
theorem Di(a b:O AZ):(wN a b||wN b a)=true:=by
 unfold wN;cases h:nU b a with
 |false=>rfl
 |true=>
  cases h':nU a b with
  |false=>rfl
  |true=>have:=nW h h';rw[Dg]at this;cases this
theorem VP{a b:O AZ}(h:wN a b=true)(h':wN b a=true):a=b:=by
 unfold wN at *
 simp only[jb]at *
 exact yw h' h
theorem Aa{α:Type}{le:α->α->Prop}(d:∀a b,le a b->le b a->a=b):∀{l c:O α},l.Perm c->l.Pairwise le->c.Pairwise le->l=c
 |[],c,h,_,_=>by rw[List.nil_perm.mp h]
 |a::l,[],h,_,_=>by cases List.perm_nil.mp h
 |a::l,b::c,h,p,p'=>by
  have e:a=b:=by
   have g:a∈b::c:=h.mem_iff.mp (zg ..);have f:b∈a::l:=h.mem_iff.mpr (zg ..);rcases List.mem_cons.mp g with h1|h1
   ·exact h1
   ·rcases List.mem_cons.mp f with h2|h2
    ·exact h2.symm
    ·exact d a b (kq p h2) (kq p' h1)
  subst e;rw[Aa d ((List.perm_cons a).mp h) (dz.mp p).2 (dz.mp p').2]
def wO(dR:O (O AZ)):O (O AZ):=dR.mergeSort wN
theorem Ab(dR:O (O AZ)):(wO dR).Perm dR:=ic ..
theorem Nf(dR:O (O AZ)):(wO dR).Pairwise (λa b=>wN a b=true):=xt Dh Di dR
theorem Ie{out:O (O AZ)}(hp:out.Perm dR)(hs:out.Pairwise (λa b=>wN a b=true)):out=wO dR:=Aa (λ_ _=>VP) (hp.trans (Ab dR).symm) hs (Nf dR)
def CS(dR:O (O AZ))(k:O AZ):Nat:=dR.countP λu=>nU u k
theorem Ig{α:Type}{p q:α->Bool}:∀{l:O α},(∀x∈l,p x=true->q x=true)->(∃x∈l,p x=false/\q x=true)->l.countP p<l.countP q
 |[],_,⟨x,hx,_⟩=>by cases hx
 |a::l,h,⟨x,hx,h1,h2⟩=>by
  have le:l.countP p<=l.countP q:=mM λy b=>h y (zh _ b);rw[nX,nX];rcases List.mem_cons.mp hx with rfl|hx
  ·rw[h1,h2];simp;omega
  ·have:=Ig (λy b=>h y (zh _ b)) ⟨x,hx,h1,h2⟩;have c:=h a (zg ..);cases hp:p a with
   |true=>rw[c hp];simp;omega
   |false=>simp;omega
theorem TV{a b:O AZ}(e:a∈dR):decide (CS dR a<CS dR b)=nU a b:=by
 cases h:nU a b with
 |true=>
  refine qS (Ig (λu _ c=>nW c h) ⟨a,e,Dg a,h⟩)
 |false=>
  refine qr (ew.mpr (mM λu _ c=>?_));cases d:nU b a with
  |true=>exact nW c d
  |false=>rw[yw h d];exact c
def oN(h:A7)(ks:O AZ)(v:A1):Prop:=∃(a:A2) (o:AF) (AS:O A1) (n:Nat),v=.ref a/\h.get? a=Z o/\o.cls=.type "tuple" ∧ o.data=.seq AS.toArray n/\Ks ks AS
theorem oN.keep{h':A7}{ks:O AZ}{v:A1}(q:oN h ks v)(k:∀c o,h.get? c=Z o->h'.get? c=Z o):oN h' ks v:=by
 obtain⟨a,o,AS,n,e,g,c,d,p⟩:=q;exact⟨a,o,AS,n,e,k _ _ g,c,d,p⟩
theorem gI{k l:AZ}{v:A1}(h:jA k v=true)(h':jA l v=true):k=l:=by
 rcases bK h with⟨i,t,rfl,rfl⟩|⟨x,t,rfl,rfl⟩
 ·rcases bK h' with⟨j,u,rfl,e⟩|⟨y,u,rfl,e⟩
  ·cases e;rfl
  ·cases e
 ·rcases bK h' with⟨j,u,rfl,e⟩|⟨y,u,rfl,e⟩
  ·cases e
  ·cases e;rfl
theorem Ks.inj:∀{ks a:O AZ} {AS:O A1},Ks ks AS->Ks a AS->ks=a
 |_,_,[],h,h'=>by cases h;cases h';rfl
 |_,_,v::AS,h,h'=>by
  cases h with
  |cons p t=>cases h' with
   |cons p' t'=>rw[gI p p',Ks.inj t t']
theorem oN.inj{h:A7}{ks f:O AZ}{v:A1}(q:oN h ks v)(j:oN h f v):ks=f:=by
 obtain⟨a,o,AS,n,rfl,g,c,d,p⟩:=q;obtain⟨m,o',l,s,e,i,c',b,p'⟩:=j;cases e;rw[g]at i;cases i;rw[d]at b;injection b with e1 e2;have e3:AS=l:=by simpa using congrArg mT e1
 subst e3;exact p.inj p'
theorem TX{f:α->Sem β}:∀(xs:O α) (ys:O β) (Q:O β->A3->Prop),AJ (λx y=>∀(b:B8) (Q':β->A3->Prop),Q' y s->A8 (A9 prog w) A (f x) Q' b s) xs ys->Q ys s->A8 (A9 prog w) A (xs.mapM f) Q E s:=by
 intro xs
 induction xs with
 |nil=>intro ys Q p h;cases p;rw[List.mapM_nil];exact zd h
 |cons x xs a=>
  intro ys Q p q;cases p with
  |cons h t=>
   rw[List.mapM_cons];exact zb (h _ _ (zb (a _ _ t (zd q))))
theorem Yx(v:A1):firstOfTuple' v=(do
  if(<-typeOf v) != .type "tuple" then return U
  return (<-Builtin.List.listItems v)[0]?):=rfl
theorem VR{k:AZ}{ks:O AZ}{v:A1}(q:oN s.heap (k::ks) v):∃u,jA k u=true/\∀(b:B8) (Q':S A1->A3->Prop),Q' (Z u) s->A8 (A9 prog w) A (firstOfTuple' v) Q' b s:=by
 obtain⟨a,o,AS,n,rfl,g,c,d,p⟩:=q;cases p with
 |@cons _ u _ AS hp t=>
  refine⟨u,hp,λb Q' h=>?_⟩;rw[Yx];refine zb (QY (T :="tuple") ⟨o,g,c⟩ ?_);rw[zw ()];exact zb (listItems_at g d (zd h))
theorem Yy{k:AZ}(h:jA k u=true)(a:B8)(Q':B8)(q:Q' (.type (if k.isLeft then "int" else "str")) s):A8 (A9 prog w) A (typeOf u) Q' a s:=by
 rcases bK h with⟨i,t,rfl,rfl⟩|⟨x,t,rfl,rfl⟩
 ·exact QY (typeIs_int s i t) q
 ·exact QY (typeIs_str s x t) q
theorem V0{vs:O A1}{Q:SortKind->A3->Prop}(i:AJ (oN s.heap) dR vs)(f:∀k∈dR,k≠[])(p:∀k∈dR,∀l∈dR,DF k l)(h2:1<=vs.length)(h:Q (tuples' true) s):A8 (A9 prog w) A (keyKind' vs.toArray) Q E s:=by
 have step:∀(dR:O (O AZ)) (vs:O A1),AJ (oN s.heap) dR vs->(∀k∈dR,k≠[])->∃us:O A1,AJ (λv u=>∀(b:B8) (Q':S A1->A3->Prop),Q' (Z u) s->A8 (A9 prog w) A (firstOfTuple' v) Q' b s) vs us/\AJ (λ(k:O AZ) u=>∃x r,k=x::r/\jA x u=true) dR us:=by
  intro dR vs i
  induction i with
  |nil=>intro _;exact⟨[],.nil,.nil⟩
  |@cons k v dR vs q t c=>
   intro f;obtain⟨us,p1,p2⟩:=c λk hk=>f k (zh _ hk);cases k with
   |nil=>exact absurd X9 (f _ (zg ..))
   |cons x r=>
    obtain⟨u,d,o⟩:=VR (prog:=prog) (w:=w) (A:=A) q;exact⟨u::us,.cons o p1,.cons ⟨x,r,rfl,d⟩ p2⟩
 obtain⟨us,p1,p2⟩:=step dR vs i f;have B:us.length=vs.length:=(Paired.length p1).symm;have C:∀{l:O A1} {j:O A1},AJ (λv u=>∀(b:B8) (Q':S A1->A3->Prop),Q' (Z u) s->A8 (A9 prog w) A (firstOfTuple' v) Q' b s) l j->AJ (λv u=>∀(b:B8) (Q':S A1->A3->Prop),Q' u s->A8 (A9 prog w) A (firstOfTuple' v) Q' b s) l (j.map Z):=λh=>by
  induction h with
  |nil=>exact .nil
  |cons q t c=>exact .cons q c
 rw[keyKind'_eq,nv,map_eq_pure_bind];refine zb (zb (TX vs (us.map Z) _ (C p1) (zd ?_)));have n:(us.map Z).toArray.all (·.isSome)=true:=by simp
 rw[zk n];refine zb (ka ?_);have m:(us.map Z).toArray.filterMap id=us.toArray:=by simp
 rw[m,oneTypeOnly'_eq,nv,map_eq_pure_bind];have ty:∀(dR:O (O AZ)) (us:O A1),AJ (λ(k:O AZ) u=>∃x r,k=x::r/\jA x u=true) dR us->∃ts:O A1,AJ (λu t=>∀(b:B8) (Q':B8),Q' t s->A8 (A9 prog w) A (typeOf u) Q' b s) us ts/\AJ (λ(k:O AZ) t=>∃x r,k=x::r/\t=.type (if x.isLeft then "int" else "str")) dR ts:=by
  intro dR us hp
  induction hp with
  |nil=>exact⟨[],.nil,.nil⟩
  |@cons k u dR us q t c=>
   obtain⟨ts,q1,q2⟩:=c;obtain⟨x,r,rfl,hx⟩:=q;exact⟨_::ts,.cons (λb Q' h=>Yy hx b Q' h) q1,.cons ⟨x,r,rfl,rfl⟩ q2⟩
 obtain⟨ts,q1,q2⟩:=ty dR us p2;refine zb (zb (zb (TX us ts _ q1 (zd ?_))));have lt:ts.length=vs.length:=by rw[<-Paired.length q1,B]
 cases q2 with
 |nil=>simp at lt;omega
 |@cons H F G g h0 z=>
  obtain⟨a,r,rfl,rfl⟩:=h0;have same:∀t∈g,t=Value.type (if a.isLeft then "int" else "str"):=by
   have y:∀(dR:O (O AZ)) (ts:O A1),AJ (λ(k:O AZ) t=>∃x r,k=x::r/\t=Value.type (if x.isLeft then "int" else "str")) dR ts->(∀k∈dR,DF (a::r) k)->∀t∈ts,t=Value.type (if a.isLeft then "int" else "str"):=by
    intro dR ts hp
    induction hp with
    |nil=>intro _ t e;cases e
    |@cons k t dR ts q _ c=>
     intro hs u d;rcases List.mem_cons.mp d with rfl|d
     ·obtain⟨x,D,rfl,rfl⟩:=q;have:=(hs _ (zg ..)).1;cases a<;>cases x<;>first|rfl|cases this
     ·exact c (λk hk=>hs k (zh _ hk)) u d
   exact y _ _ z λk hk=>p _ (zg ..) k (zh _ hk)
  have e0:(Value.type (if a.isLeft then "int" else "str")::g).toArray[0]?=Z (Value.type (if a.isLeft then "int" else "str")):=by simp
  have e1:((Value.type (if a.isLeft then "int" else "str")::g).toArray.all λx=>x==Value.type (if a.isLeft then "int" else "str"))=true:=by
   simp only[List.all_toArray,KF];intro t e;rcases List.mem_cons.mp e with rfl|e
   ·simp
   ·rw[same t e];simp
  rw[e0];simp only[e1,QU];refine zd (zd ?_);have e2:((Z (Value.type (if a.isLeft then "int" else "str"))).any λx=>x !=Value.type "tuple")=true:=by
   cases a with
   |inl _=>exact(by decide:((Z (Value.type "int")).any λx=>x !=Value.type "tuple")=true)
   |inr _=>exact(by decide:((Z (Value.type "str")).any λx=>x !=Value.type "tuple")=true)
  rw[e2];exact h
def BU(dR:O (O AZ))(vs:O A1)(v:A1):O AZ:=match (vs.zip dR).find? (λp=>p.1==v)with
 |some p=>p.2
 |none=>[]
theorem nu{h:A7}:∀{dR:O (O AZ)} {vs:O A1},AJ (oN h) dR vs->∀v∈vs,BU dR vs v∈dR/\oN h (BU dR vs v) v
 |_,_,.nil,v,hv=>by cases hv
 |k::dR,u::vs,.cons q t,v,hv=>by
  unfold BU;rw[Yf,JA];by_cases e:u=v
  ·subst e;simp only[beq_self_eq_true];exact⟨zg ..,q⟩
  ·have e':(u==v)=false:=by simpa using e
   simp only[e'];have b:v∈vs:=by
    rcases List.mem_cons.mp hv with h|h
    ·exact absurd h.symm e
    ·exact h
   have a:=nu t v b;exact⟨zh _ a.1,a.2⟩
theorem Ad{h:A7}:∀{dR:O (O AZ)} {vs:O A1},AJ (oN h) dR vs->∀(K:A1->O AZ),(∀v∈vs,oN h (K v) v)->vs.map K=dR
 |_,_,.nil,_,_=>rfl
 |k::dR,v::vs,.cons q t,K,hK=>by
  rw[zr,(hK v (zg ..)).inj q,Ad t K λu a=>hK u (zh _ a)]
theorem Dj{h:A7}:∀{vs:O A1} {K:A1->O AZ},(∀v∈vs,oN h (K v) v)->AJ (oN h) (vs.map K) vs
 |[],_,_=>.nil
 |v::vs,K,hK=>.cons (hK v (zg ..)) (Dj λu a=>hK u (zh _ a))
theorem Yz{vs:O A1}(i:AJ (oN s.heap) dR vs)(m:∀k∈dR,∀l∈dR,DF k l):VG prog w A s (tuples' true) (λv=>CS dR (BU dR vs v)) (pairsOf vs):=by
 intro E p q Q hp b h;rw[pairsOf_toList]at hp b;obtain⟨f,t1⟩:=nu i p.1 (mem_zip_self hp).2;obtain⟨m2,t2⟩:=nu i q.1 (mem_zip_self b).2;rw[TV f]at h;have u:=m _ f _ m2;obtain⟨a,o,AS,n,e,g,c,d,k⟩:=t1;obtain⟨y,o',B,z,e',t,c',j,x⟩:=t2;rw[e,e'];exact ib g d t j k x u h
theorem YB{vs:O A1}(a:AJ (oN h) dR vs){xs:Array Keyed}(hp:xs.Perm (pairsOf vs))(g:Up (λv=>CS dR (BU dR vs v)) xs (pairsOf vs).size):AJ (oN h) (wO dR) (xs.map (·.2)).toList:=by
 have d:xs.toList.Perm (vs.zip vs):=by rw[<-pairsOf_toList];exact eA.mp hp
 have b:∀p∈xs.toList,p.1=p.2/\p.1∈vs:=λp q=>mem_zip_self (d.mem_iff.mp q);have e:(xs.map (·.2)).toList=xs.toList.map (·.1):=by
  rw[n0];exact qA λp q=>(b p q).1.symm
 have pv:(xs.toList.map (·.1)).Perm vs:=by
  have:=d.map Prod.fst;rwa [List.map_fst_zip (zl _)]at this
 have l:wO dR=(xs.toList.map (·.1)).map (BU dR vs):=by
  refine(Ie ?_ ?_).symm
  ·have:=pv.map (BU dR vs);rwa [Ad a _ λv q=>(nu a v q).2]at this
  ·rw[List.pairwise_iff_getElem];intro i j hi m n;have f:i<xs.size:=by simpa using hi
   have c:j<xs.size:=by simpa using m
   have u:=g i j (j0 n) (by rw[<-hp.size_eq];exact c);unfold at_ at u;rw[getElem?_pos xs i f,getElem?_pos xs j c]at u;have m2:=(nu a xs[j].1 (b xs[j] (by simp)).2).1;simp only[List.getElem_map,Array.getElem_toList];unfold wN;rw[<-TV m2,qr (ew.mpr u)];rfl
 rw[l,e];refine Dj λv q=>(nu a v ?_).2;exact pv.mem_iff.mp q
end S1
namespace P1
open L2 S1
theorem QX{l:A2}{T:String}{vs:O A1}{Q:O A1->A3->Prop}(b:s.heap.get? l=Z o)(f:o.cls=.type T)(a:T ="list" ∨ T ="tuple")(g:o.data=.seq vs.toArray n)(j:vs.length<=AB)(h:∀h' tk,s.heap.objs.size<=h'.objs.size->(∀c o,s.heap.get? c=Z o->h'.get? c=Z o)->Q vs { s with heap:=h',toks:=tk }):A8 (A9 prog w) A (collect (.ref l)) Q E s:=by
 unfold collect;refine zb (wpAny_runValue (kr entry_proto_collect' ?_));show A8 _ _ (newList [] >>= λq=>again (.builtin "list.__iadd__" ⟨[q,.ref l],[]⟩)) _ _ s;refine zb (wpAny_newList (zd ⟨Code.quiet_builtin _ (by decide +kernel),kr entry_list_iadd' ?_⟩));show A8 _ _ (Builtin.List.listExtendWith (.ref s.heap.objs.size) (.ref l) (.ref s.heap.objs.size)) _ _ _;unfold Builtin.List.listExtendWith;have g1:(s.heap.push (seqObj "list" #[] 0)).get? l=Z o:=ze _ b;refine zb (QY (T:=T) ⟨o,g1,f⟩ ?_);have d:(Value.type T==Value.type "list" || Value.type T==Value.type "tuple")=true:=by rcases a with rfl|rfl<;>decide
 rw[zk (by rw[Bool.or_assoc,d];simp)];refine zb (listItems_at g1 g (zb (listItems_at (xs:=#[]) (n:=0) (zt _ X9) X9 ?_)));rw[zw (by simp)];have g2:(s.heap.push (seqObj "list" #[] 0)).get? s.heap.objs.size=Z (seqObj "list" #[] 0):=zt _ rfl;refine zb (listUpdate_at (xs:=#[]) (n:=0) g2 X9 (zd ?_) (qi _) (by show(#[]++vs.toArray).size<=AB+1;simp only[Kj,zC,List.length_nil];omega));show A8 (A9 prog w) A (load s.heap.objs.size >>= _) Q E _;refine zb (y8 (get?_update_seq g2 _) ?_);show A8 _ _ (pure ((#[]:Array A1)++vs.toArray).toList) Q E _;rw[show((#[]:Array A1)++vs.toArray).toList=vs by simp];refine zd (h _ s.toks ?_ λc i e=>?_)
 ·rw[nV,size_push'];exact kz _
 ·rw[kc _ _ _ _ (zS (zz e))];exact ze _ e
def Fs:Dt->S AZ
 |.int i=>Z (.inl i)
 |.str x=>Z (.inr x)
 |_=>U
def Ae:O Dt->S (O AZ)
 |[]=>Z []
 |d::ds=>(Fs d).bind λk=>(Ae ds).bind λks=>Z (k::ks)
def Dk:Dt->S (O AZ)
 |.tup ds=>Ae ds
 |_=>U
def uF:O Dt->S (O (O AZ))
 |[]=>Z []
 |d::ds=>(Dk d).bind λk=>(uF ds).bind λks=>Z (k::ks)
def dK:AZ->Dt
 |.inl i=>.int i
 |.inr x=>.str x
def C2(ks:O AZ):Dt:=.tup (ks.map dK)
theorem gh{k:AZ}(h:Fs d=Z k):d=dK k:=by
 cases d<;>cases h<;>rfl
theorem Ng:∀{ds:O Dt} {ks:O AZ},Ae ds=Z ks->ds=ks.map dK
 |[],_,h=>by cases h;rfl
 |d::ds,_,h=>by
  obtain⟨k,e1,h⟩:=AU h;obtain⟨ks,e2,h⟩:=AU h;cases h;rw[zr,gh e1,Ng e2]
theorem YC{ks:O AZ}(h:Dk d=Z ks):d=C2 ks:=by
 cases d with
 |tup ds=>exact congrArg Dt.tup (Ng h)
 |_=>cases h
theorem Ih:∀{ds:O Dt} {dR:O (O AZ)},uF ds=Z dR->ds=dR.map C2
 |[],_,h=>by cases h;rfl
 |d::ds,_,h=>by
  obtain⟨k,e1,h⟩:=AU h;obtain⟨ks,e2,h⟩:=AU h;cases h;rw[zr,YC e1,Ih e2]
theorem OZ{k:AZ}(h:AX K H (dK k) v):v=kV k:=by
 cases k with
 |inl i=>exact(show v=.int i by simpa only[dK,AX]using h)
 |inr x=>exact(show v=.str x/\x.length<=AB by simpa only[dK,AX]using h).1
theorem Ii{K:B5}{H:Hp}:∀{ks:O AZ} {vs:O V},aO K H (ks.map dK) vs->vs=ks.map kV
 |[],_,h=>by simp only[kU,aO]at h;exact h
 |k::ks,_,h=>by
  simp only[zr,aO]at h;obtain⟨v,r,rfl,h1,h2⟩:=h;rw[OZ h1,Ii h2,zr]
theorem OX(X:Cx){ks:O AZ}:∀{us:O A1},AY (ks.map kV) us->Ks ks us:=by
 induction ks with
 |nil=>intro us h;cases h;exact .nil
 |cons k ks a=>
  intro us h;cases h with
  |cons r t=>exact .cons (Hz (P:=X.prog) (w:=X.w) r) (a t)
theorem J9{AO:O (A2×AF)}{σ:L2.St}{H:Hp}{s:A3}(I:AV X AO σ H s):∀{dR:O (O AZ)} {vs:O V} {AS:O A1},aO X.K H (dR.map C2) vs->AY vs AS->AJ (oN s.heap) dR AS
 |[],_,_,h,r=>by
  simp only[kU,aO]at h;subst h;cases r;exact .nil
 |k::dR,_,_,h,r=>by
  simp only[zr,aO]at h;obtain⟨v,vs,rfl,h1,h2⟩:=h;cases r with
  |cons e i=>
   refine .cons ?_ (J9 I h2 i);simp only[C2,AX]at h1;obtain⟨a,j,rfl,sq,f⟩:=h1;obtain⟨AS,b,⟨o,g,c,n,d⟩,_⟩:=I.tuple sq;cases e;rw[Ii f]at b;exact⟨a,o,AS,n,rfl,g,c,d,OX X b⟩
theorem Ij{AO:O (A2×AF)}{σ:L2.St}{H:Hp}{s:A3}(I:AV X AO σ H s){dR:O (O AZ)}{vs:O V}{AS:O A1}(h:aO X.K H (dR.map C2) vs)(r:AY vs AS):∀{c:O (O AZ)} {out:O A1},AJ (oN s.heap) c out->(∀u∈out,u∈AS)->∃zs,AY zs out/\aO X.K H (c.map C2) zs
 |_,_,.nil,_=>⟨[],.nil,aO.nil⟩
 |l::c,u::out,.cons q t,hm=>by
  obtain⟨zs,z1,z2⟩:=Ij I h r t λx hx=>hm x (zh _ hx);have g:∀(dR:O (O AZ)) (vs:O V) (AS:O A1),aO X.K H (dR.map C2) vs->AY vs AS->u∈AS->∃v,At v u/\AX X.K H (C2 l) v:=by
   intro dR
   induction dR with
   |nil=>
    intro vs AS h r a;simp only[kU,aO]at h;subst h;cases r;cases a
   |cons k dR f=>
    intro vs AS h r a;simp only[zr,aO]at h;obtain⟨v,vs,rfl,h1,h2⟩:=h;cases r with
    |@cons _ j _ _ b i=>
     rcases List.mem_cons.mp a with rfl|a
     ·have e:k=l:=by
       have:=J9 I (dR:=[k]) (vs:=[v]) (AS:=[u]) (by simp only[zr,kU];exact aO.cons h1 aO.nil) (.cons b .nil);cases this with
       |cons d _=>exact d.inj q
      subst e;exact⟨v,b,h1⟩
     ·exact f vs _ h2 i a
  obtain⟨v,b,h1⟩:=g dR vs AS h r (hm u (zg ..));exact⟨v::zs,.cons b z1,by rw[zr];exact aO.cons h1 z2⟩
def Gx(k l:O AZ):Bool:=((k.zip l).all λp=>TQ p.1 p.2)
theorem QZ:∀{k l:O AZ},Gx k l=true->DF k l
 |[],_,_=>by simp[DF]
 |_::_,[],_=>by simp[DF]
 |x::k,y::l,h=>by
  unfold Gx at h;rw[Yf,kK,ZT]at h;exact⟨h.1,QZ h.2⟩
def Fk(dR:O (O AZ)):Bool:=decide (dR.length<64)&&(dR.all (λk=>!k.isEmpty)&&dR.all λk=>dR.all λl=>Gx k l)
def qZ:O Bx->S Bx
 |[b]=>(ux b).bind λds=>(uF ds).bind λdR=>if Fk dR=true then Z (.o ((wO dR).map C2))else U
 |_=>U
theorem Ka(h:bh K H b v)(e:ux b=Z ds):∃a vs,v=.ref a/\(sY K H a vs\/xO K H a vs)/\aO K H ds vs:=by
 cases b with
 |z d=>
  cases d<;>first|(cases e;done)|skip
  ·cases e;simp only[bh,AX]at h;obtain⟨a,vs,e,q,r⟩:=h;exact⟨a,vs,e,.inr q,r⟩
  ·cases e;simp only[bh,AX]at h;obtain⟨a,vs,e,q,r⟩:=h;exact⟨a,vs,e,.inl q.sq,r⟩
 |l c=>cases e;obtain⟨a,vs,e,q,r⟩:=h;exact⟨a,vs,e,.inl (.inl q),r⟩
 |o c=>cases e;obtain⟨a,vs,e,q,r⟩:=h;exact⟨a,vs,e,.inl (.inl (.inl q)),r⟩
 |n _=>cases e
 |m _ _=>cases e
theorem uG:oV X (.builtin "sorted") qZ:=by
 intro AO s σ H xs us Q I rx h;obtain⟨bs,c,M,e,q⟩:=h;unfold qZ at e;split at e
 ·rename_i b;obtain⟨ds,ed,e⟩:=AU e;obtain⟨dR,ek,e⟩:=AU e;split at e
  ·rename_i hs;cases e;simp only[Fk,ZT,JS,KF,jb]at hs;obtain⟨a3,C,A⟩:=hs;obtain⟨v,rfl,J⟩:=BV M;obtain⟨p,vs,rfl,sq,w⟩:=Ka J ed;obtain⟨u,rfl,P⟩:=BG rx;cases P;have N:=Ih ek;subst N;have L:∃(AS:O A1) (o:AF) (T:String) (n:Nat),AY vs AS/\s.heap.get? p=Z o/\o.cls=.type T/\(T ="list" ∨ T ="tuple")/\o.data=.seq AS.toArray n/\vs.length<=AB:=by
    rcases sq with sq|sq
    ·obtain⟨AS,f,pl,j⟩:=I.list sq;obtain⟨o,g,c,n,d⟩:=pl.isList;exact⟨AS,o,_,n,f,g,c,.inl rfl,d,j⟩
    ·obtain⟨AS,f,⟨o,g,c,n,d⟩,j⟩:=I.tuple sq;exact⟨AS,o,_,n,f,g,c,.inr rfl,d,j⟩
   obtain⟨AS,o,T,n,f,g,hc,B,hd,j⟩:=L;have a5:AS.length=dR.length:=by rw[<-f.length,w.length,zi]
   have tv:=J9 I w f;refine VH (kd:=tuples' true) (rk:=λv=>CS dR (BU dR AS v)) (vs:=AS) (λK Q' t=>QX g hc B hd (by rw[<-f.length];exact j) t)
    (λh2 K E s' k Q' t=>V0 (Paired.imp' (λ_ _ z=>oN.keep z k) tv) (λk hk=>by have:=C k hk;cases k with|nil=>cases this|cons _ _=>exact xl _ _) (λk hk l i=>QZ (A k hk l i)) () t)
    (λE s' k=>Yz (Paired.imp' (λ_ _ z=>oN.keep z k) tv) λk hk l i=>QZ (A k hk l i)) () λl h' tk m st hp G i ext D=>?_
   have out:=YB tv hp G;have mem:∀u∈((AN st).map (·.2)).toList,u∈AS:=λu y=>by
    rw[n0]at y;obtain⟨pr,W,rfl⟩:=cc.mp y;have Y:pr∈AS.zip AS:=by rw[<-pairsOf_toList];exact(eA.mp hp).mem_iff.mp W
    have:=mem_zip_self Y;rw[<-this.1];exact this.2
   obtain⟨zs,z1,z2⟩:=Ij I w f out mem;have F:zs.length=dR.length:=by rw[z2.length,zi,(Ab dR).length_eq]
   have x:H l=U:=I.hok.fresh i;refine⟨.ref l,_,I.laid (t':=tk) (a:=l) (o:=.lst zs) ext i ⟨by rw[F];exact j0 (ZO a3 ()),_,m,z1,?_⟩,rfl,q _ _ (bC x) (λa ea=>by cases ea;exact x) ⟨l,zs,rfl,aF,z2.kp (.of (bC x))⟩⟩;rw[D]
  ·cases e
 ·cases e
end P1
namespace S6
def Nh(xs:Array Nat):Prop:=∀i j,i<j->j<xs.size->xs.getD i 0<xs.getD j 0
theorem D8{xs:Array Nat}{k a b:Nat}(h:k<xs.size):xs.getD k a=xs.getD k b:=by simp[Array.getD,h]
theorem Dl(xs:Array Nat)(j:Nat)(a:Nh xs):∀(fuel lo hi:Nat),lo<=hi->hi<=xs.size->hi-lo<=fuel->(∀k,k<lo->xs.getD k 0<j)->(∀k,hi<=k->k<xs.size->j<=xs.getD k 0) →
  dr.go xs j fuel lo hi<=xs.size/\(∀k,k<dr.go xs j fuel lo hi->xs.getD k 0<j)/\∀k,dr.go xs j fuel lo hi<=k->k<xs.size->j<=xs.getD k 0
 |0,lo,hi,h1,h2,h3,h4,h5=>by
  have e:lo=hi:=by omega
  subst e;unfold dr.go;exact⟨h2,h4,h5⟩
 |fuel+1,lo,hi,h1,h2,h3,h4,h5=>by
  unfold dr.go;by_cases d:lo<hi
  ·rw[zk d];dsimp only;have c:(lo+hi) / 2<xs.size:=by omega
   rw[D8 (b:=0) c];by_cases q:xs.getD ((lo+hi) / 2) 0<j
   ·rw[zk q];refine Dl xs j a fuel _ hi () h2 () (λk hk=>?_) h5;by_cases e:k=(lo+hi) / 2
    ·rw[e];exact q
    ·exact y7 (a k _ () c) q
   ·rw[zw q];refine Dl xs j a fuel lo _ () () () h4 λk hk hs=>?_;by_cases e:k=(lo+hi) / 2
    ·rw[e];omega
    ·have:=a _ k (by omega:(lo+hi) / 2<k) hs;omega
  ·rw[zw d];have e:lo=hi:=by omega
   subst e;exact⟨h2,h4,h5⟩
theorem Co{xs:Array Nat}(a:Nh xs)(j:Nat):dr xs j<=xs.size/\(∀k,k<dr xs j->xs.getD k 0<j)/\∀k,dr xs j<=k->k<xs.size->j<=xs.getD k 0:=
 Dl xs j a xs.size 0 xs.size (qi _) (zl _) () (λk h=>absurd h (yA _)) λk h h'=>absurd h' ()
theorem V1{b:Source}{Q:Nat->A3->Prop}(a:n≠0)(h:∀i d,i<n->Q i { s with drawn:=d }):A8 M A (choose b n) Q E s:=
 λc p e=>⟨a,h _ _ (hI _ (Nat.pos_of_ne_zero a))⟩
theorem BP{α:Type}:∀{xs:O α} {i:Nat} (hi:i<xs.length),(xs[i]::xs.eraseIdx i).Perm xs
 |x::xs,0,_=>Kn _
 |x::xs,i+1,h=>by
  rw[kQ,List.getElem_cons_succ];exact(List.Perm.swap _ _ _).trans ((BP (xs:=xs) (i:=i) (by simpa using h)).cons x)
theorem TY:∀(n:Nat) (xs:O α) (s:A3) (Q:O α->A3->Prop),xs.length=n->(∀ys d,ys.Perm xs->Q ys { s with drawn:=d })->A8 M A (drawOrder n xs) Q E s:=by
 intro n
 induction n with
 |zero=>
  intro xs s Q a h;cases xs with
  |nil=>
   unfold drawOrder;exact zd (h [] s.drawn (Kn _))
  |cons x xs=>simp at a
 |succ n b=>
  intro xs s Q a h;cases xs with
  |nil=>simp at a
  |cons x xs=>
   unfold drawOrder;refine zb (V1 (by simp) λi d hi=>?_);have e:(x::xs)[i]?=Z (x::xs)[i]:=by simp[hi]
   rw[e];dsimp only;refine zb (b ((x::xs).eraseIdx i) _ _ (by rw[yv,zk hi];simp at a ⊢;omega) λys c hp=>zd ?_);exact h _ c ((List.Perm.cons _ hp).trans (BP hi))
theorem T3{α:Type}(next:Nat->Nat):∀(n k:Nat) (xs:O α) (out:Array α),xs.length=n->(pickOrder.go next n k xs out).toList.Perm (out.toList++xs)
 |0,k,[],out,_=>by unfold pickOrder.go;simp
 |n+1,k,x::xs,out,hl=>by
  unfold pickOrder.go;have hi:next k%(x::xs).length<(x::xs).length:=hI _ (by simp);have e:(x::xs)[next k%(x::xs).length]?=Z (x::xs)[next k%(x::xs).length]:=by rw[zo hi]
  rw[e];dsimp only;refine(T3 next n (k+1) _ _ (by rw[yv,zk hi];simp at hl ⊢;omega)).trans ?_;rw[nw,qq];exact(Kn _).append (BP hi)
theorem Ik(next:Nat->Nat)(xs:Array α):(pickOrder next xs).toList.Perm xs.toList:=by
 have:=T3 next xs.size 0 xs.toList #[] (by simp);simpa[pickOrder]using this
structure Wk (w:World) (h:Heap) (a:Addr) (es:Array (Int×Value)) (ep:Nat) (t:SetTable):Prop where
 at_:∃o,h.get? a=some o/\o.cls=.type "set" ∧ o.data=.set es ep t
 fit:t.fits es.size=true
 led:w.params.followText "set-order"=false->t.led=true
 non:(1<es.size->t.plain=false)\/Nh t.place
theorem Wk.keep{h':A7}{es:Array (Int×A1)}(x:Wk w h a es ep t)(k:∀o,h.get? a=Z o->h'.get? a=Z o):Wk w h' a es ep t:=
 ⟨let ⟨o,e,r⟩:=x.at_;⟨o,k o e,r⟩,x.fit,x.led,x.non⟩
def It(h:A7)(it a:A2)(first:A1)(i n ep:Nat):Prop:=∃o,h.get? it=Z o/\o.cls=.type "set_iterator" ∧ o.data=.fields #[first,.int (i:Int) 0,.ref a,.int (n:Int) 0,.int (ep:Int) 0]
theorem It.keep{h':A7}{f:A1}(x:It h it a f i n ep)(k:∀o,h.get? it=Z o->h'.get? it=Z o):It h' it a f i n ep:=
 let ⟨o,e,r⟩:=x;⟨o,k o e,r⟩
theorem It.ty{f:A1}(x:It s.heap it a f i n ep):s.TypeIs (.ref it) "set_iterator":=let ⟨o,e,c,_⟩:=x;⟨o,e,c⟩
theorem iY:Slot "set_iterator" "__next__" "set_iterator.__next__":=
 .of (owner :="set_iterator") (n :="__next__") (by rw[typeLookup_type,builtinLookup_eq_fast];kernel_rfl) (by decide +kernel) (by decide +kernel) (by decide +kernel)
  (by first|exact .inl (by decide +kernel)|exact .inr (by decide +kernel)) (by rw[isSubtype_type];kernel_rfl)
theorem yx:Slot "set_iterator" "__iter__" "set_iterator.__iter__":=
 .of (owner :="set_iterator") (n :="__iter__") (by rw[typeLookup_type,builtinLookup_eq_fast];kernel_rfl) (by decide +kernel) (by decide +kernel) (by decide +kernel)
  (by first|exact .inl (by decide +kernel)|exact .inr (by decide +kernel)) (by rw[isSubtype_type];kernel_rfl)
theorem Gy:entryFor table "set_iterator.__next__"=Z Builtin.«set_iterator.__next__»:=entryFor_of_tree (by kernel_rfl)
theorem Aw:entryFor table "set.__iter__"=Z Builtin.«frozenset.__iter__»:=entryFor_alias (id' :="frozenset.__iter__") (by kernel_rfl) X9 (by decide +kernel) (by kernel_rfl)
theorem Gz:entryFor table "set_iterator.__iter__"=Z Builtin.«dict_keyiterator.__iter__»:=entryFor_alias (id' :="dict_keyiterator.__iter__") (by kernel_rfl) X9 (by decide +kernel) (by kernel_rfl)
theorem YD:Manifest.owners.lookup (String.ofList "rotareti_tes".toList.reverse)=Z Manifest.sig_set_iterator:=by kernel_rfl
theorem Kc(a:A1):argsOk "set_iterator.__next__" ⟨[a],[]⟩:=by
 unfold argsOk;rw[signature?_of (id :="set_iterator.__next__") (n :="__txen__".toList) (o :="rotareti_tes".toList) (by kernel_rfl) YD];kernel_rfl
theorem Kd(a:A1):argsOk "set_iterator.__iter__" ⟨[a],[]⟩:=by
 unfold argsOk;rw[signature?_of (id :="set_iterator.__iter__") (n :="__reti__".toList) (o :="rotareti_tes".toList) (by kernel_rfl) YD];kernel_rfl
section
variable{es:Array (Int×A1)}
theorem BR{first:A1}{Q:S A1->A3->Prop}(d:It s.heap it a first i es.size ep)(f:Wk w s.heap a es ep t)
  (h:A8 (A9 prog w) A.in1 (if let .int slot _:=first then(do
    match <-setNext a slot.toNat (i:Int).toNat (ep:Int).toNat with
    |some (x,next)=>
     setField (.ref it) 0 (rawInt next)
     setField (.ref it) 1 (rawInt ((i:Int)+1))
     ret x
    |none=>setField (.ref it) 2 .none;raiseNew (<-newExc (.type "StopIteration") []))
   else(do
    let Z places <-seqItems? first|unsupported "internal:set_iterator"
    match places[(i:Int).toNat]? with
    |some (.int place _)=>
     let x <-setNextDrawn a place.toNat (ep:Int).toNat
     setField (.ref it) 1 (rawInt ((i:Int)+1))
     ret x
    |some _=>unsupported "internal:set_iterator"
    |none=>setField (.ref it) 0 (rawInt 0);setField (.ref it) 2 .none;raiseNew (<-newExc (.type "StopIteration") []))) (λg s'=>∃v,g=.done (.ret v)/\Q (Z v) s') (λe s'=>s'.TypeIs e "StopIteration" ∧ Q U s') s):A8 (A9 prog w) A (pyNext (.ref it)) Q E s:=by
 obtain⟨o,j,q,m⟩:=id d;obtain⟨y,l,u,p⟩:=f.at_;unfold pyNext;refine zb (wpAny_attempt (xm (name:=Str.ofString "__next__") d.ty iY (JI iY d.ty Gy ?_ (Kc _))));unfold Builtin.«set_iterator.__next__»;refine zb (zd ?_);refine zb (wpAny_fieldsOf j m ?_);show A8 _ _ (setEntries a >>= _) _ _ s;refine zb (wpAny_setEntries_of l p f.fit ?_);rw[zw (by simp)];refine ZA h (λg s' c=>?_) λe s' c=>?_
 ·obtain⟨v,rfl,n⟩:=c;exact⟨v,rfl,zd n⟩
 ·refine zb (JE (T :="StopIteration") (b:=true) c.1 isSubtype_stop ?_);exact zd c.2
theorem T4{hp:A7}{Q:S A1->A3->Prop}(c:A.handled=U)(h:∀h',(∀b o,hp.get? b=Z o->h'.get? b=Z o)->Q U { s with heap:=h' }):
  A8 (A9 prog w) A.in1 (do raiseNew (<-newExc (.type "StopIteration") [])) (λ(d:Fin) s'=>∃v,d=.done (.ret v)/\Q (Z v) s') (λe s'=>s'.TypeIs e "StopIteration" ∧ Q U s') { s with heap:=hp }:=by
 refine zb ?_;simp only[newExc,newTuple];refine zb (qo ?_ (by size_fits));refine zb (m:=firstArgMember _ _) (wpAny_of_eq (a:=Value.none) (by first|rfl|(simp only[firstArgMember];rfl)) ?_);refine qo ?_ (by size_fits);simp only[raiseNew];refine zb (wpAny_handled ?_);rw[show A.in1.handled=U from c];refine zb (zd (wpAny_throw ⟨⟨_,zt _ rfl,rfl⟩,?_⟩));exact h _ λb o e=>ze _ (ze _ e)
theorem It.put{f:A1}(c:It h it a f i n ep)(x:A1):It (h.update it (Obj.mapFields (·.setIfInBounds 0 x))) it a x i n ep:=by
 obtain⟨o,e,d,b⟩:=c;exact⟨_,QN _ e (yb (ki b _)),(Obj.cls_mapFields ..).trans d,by rw[ki b];simp⟩
theorem It.step{f:A1}(c:It h it a f i n ep):It (h.update it (Obj.mapFields (·.setIfInBounds 1 (rawInt ((i:Int)+1))))) it a f (i+1) n ep:=by
 obtain⟨o,e,d,b⟩:=c;exact⟨_,QN _ e (yb (ki b _)),(Obj.cls_mapFields ..).trans d,by rw[ki b];simp[rawInt]⟩
theorem It.field{f:A1}{k:Nat}{x:A1}(b:It s.heap it a f i n ep)(hk:k<5)(h:Q gl { s with heap:=s.heap.update it (Obj.mapFields (·.setIfInBounds k x)) }):A8 (A9 prog w) A (setField (.ref it) k x) Q E s:=by
 obtain⟨o,c,e,d⟩:=b;exact wpAny_setField c d (by simpa using hk) h
theorem qz{f:AF->AF}{b:A2}(a:b≠it)(e:h.get? b=Z o):(h.update it f).get? b=Z o:=by rw[kc _ _ _ _ a];exact e
theorem YF{slot next:Nat}{x:A1}{Q:S A1->A3->Prop}(c:It s.heap it a (.int (slot:Int) 0) i es.size ep)(l:Wk w s.heap a es ep t)
  (g:∀{j:A6} {f:B8} {Q':S (A1×Nat)->A3->Prop},Q' (Z (x,next)) s->A8 (A9 prog w) j (setNext a slot i ep) Q' f s)
  (h:∀h',It h' it a (.int (next:Int) 0) (i+1) es.size ep->(∀b o,b≠it->s.heap.get? b=Z o->h'.get? b=Z o)->Q (Z x) { s with heap:=h' }):A8 (A9 prog w) A (pyNext (.ref it)) Q E s:=by
 refine BR c l ?_;show A8 _ _ (setNext a slot i ep >>= _) _ _ s;refine zb (g ?_);refine zb (c.field () ?_);refine zb ((c.put _).field (s:={ s with heap:=_ }) () ?_);exact zd ⟨x,rfl,h _ ((c.put _).step) λb o d e=>qz d (qz d e)⟩
theorem Dm{slot:Nat}{Q:S A1->A3->Prop}(d:A.handled=U)(c:It s.heap it a (.int (slot:Int) 0) i es.size ep)(m:Wk w s.heap a es ep t)
  (f:∀{j:A6} {l:B8} {Q':S (A1×Nat)->A3->Prop},Q' U s->A8 (A9 prog w) j (setNext a slot i ep) Q' l s)
  (h:∀h',(∀b o,b≠it->s.heap.get? b=Z o->h'.get? b=Z o)->Q U { s with heap:=h' }):A8 (A9 prog w) A (pyNext (.ref it)) Q E s:=by
 refine BR c m ?_;show A8 _ _ (setNext a slot i ep >>= _) _ _ s;refine zb (f ?_);refine zb (c.field () (T4 d λh' k=>h h' λb o g e=>k b o (qz g e)))
theorem dP{tp:A2}{g:AF}{c:Nat}{x:Int×A1}{Q:S A1->A3->Prop}(d:It s.heap it a (.ref tp) i es.size ep)(f:Wk w s.heap a es ep t)(l:s.heap.get? tp=Z g)(q:g.data=.seq (pl.map λ(k:Nat)=>rawInt (k:Int)).toArray c)(v:pl[i]?=Z j)(hx:es[j]?=Z x)(h:∀h',It h' it a (.ref tp) (i+1) es.size ep->(∀b o,b≠it->s.heap.get? b=Z o->h'.get? b=Z o)->Q (Z x.2) { s with heap:=h' }):A8 (A9 prog w) A (pyNext (.ref it)) Q E s:=by
 refine BR d f ?_;show A8 _ _ (seqItems? (.ref tp) >>= _) _ _ s;refine zb (m:=seqItems? (.ref tp)) ?_;unfold seqItems?;refine zb (y8 l ?_);rw[q];refine zd ?_;dsimp only;rw[YV,show((pl.map λ(k:Nat)=>rawInt (k:Int)).toArray)[i]?=Z (rawInt (j:Int)) by simp[v]];show A8 _ _ (setNextDrawn a j ep >>= _) _ _ s;obtain⟨z,n,y,u⟩:=f.at_;refine zb (m:=setNextDrawn a j ep) ?_;unfold setNextDrawn;refine zb (qf n u f.fit ?_);dsimp only;rw[zw (by simp),hx];refine zd ?_;refine zb (d.field () ?_);exact zd ⟨x.2,rfl,h _ d.step λb o p e=>qz p e⟩
theorem Ni{tp:A2}{g:AF}{c:Nat}{Q:S A1->A3->Prop}(l:A.handled=U)(d:It s.heap it a (.ref tp) i es.size ep)(q:Wk w s.heap a es ep t)(j:s.heap.get? tp=Z g)(n:g.data=.seq (pl.map λ(k:Nat)=>rawInt (k:Int)).toArray c)(p:pl[i]?=U)(h:∀h',(∀b o,b≠it->s.heap.get? b=Z o->h'.get? b=Z o)->Q U { s with heap:=h' }):A8 (A9 prog w) A (pyNext (.ref it)) Q E s:=by
 refine BR d q ?_;show A8 _ _ (seqItems? (.ref tp) >>= _) _ _ s;refine zb (m:=seqItems? (.ref tp)) ?_;unfold seqItems?;refine zb (y8 j ?_);rw[n];refine zd ?_;dsimp only;rw[YV,show((pl.map λ(k:Nat)=>rawInt (k:Int)).toArray)[i]?=U by simpa using p];refine zb (d.field () ?_);refine zb ((d.put _).field (s:={ s with heap:=_ }) () (T4 l λh' k=>h h' λb o f e=>k b o (qz f (qz f e))))
theorem j4{Q:Bool->A3->Prop}(h:Q (w.params.followText "set-order") s):A8 (A9 prog w) A setsByText Q E s:=by
 unfold setsByText;exact zb (yf (zd h))
theorem Ke{f:A1}{Q:B8}(b:It s.heap it a f i n ep)(h:Q (.ref it) s):A8 (A9 prog w) A (pyIter (.ref it)) Q E s:=by
 refine wpAny_pyIter_slot b.ty yx (JI yx b.ty Gz ?_ (Kd _));show A8 _ _ (ret (.ref it)) _ _ s;exact zd ⟨_,rfl,"set_iterator", _,b.ty,iY.lookup,h⟩
def Kf(w:A5)(a:A2)(ep:Nat)(es:Array (Int×A1)):O A1:=(pickOrder (w.params.setOrder a ep) es).toList.map (·.2)
theorem zG:(Kf w a ep es).Perm (es.toList.map (·.2)):=(Ik _ _).map _
theorem Il{slot:Nat}{Q:S (A1×Nat)->A3->Prop}(d:w.params.followText "set-order"=true)(b:Wk w s.heap a es ep t)(h:Q (((Kf w a ep es)[i]?).map λv=>(v,slot)) s):A8 (A9 prog w) A (setNext a slot i ep) Q E s:=by
 obtain⟨j,c,g,f⟩:=b.at_;unfold setNext;refine zb (qf c f b.fit (zb (j4 ?_)));rw[d];simp only[↓reduceIte,bne_self_eq_false,zv];refine zb (m:=setWalk a) ?_;unfold setWalk;refine zb (qf c f b.fit (zb (j4 ?_)));rw[d];simp only[↓reduceIte];refine zb (yf (zd (zd ?_)));have e:(pickOrder (w.params.setOrder a ep) es)[i]?.map (λe=>(e.2,slot))=((Kf w a ep es)[i]?).map λv=>(v,slot):=by
  unfold Kf;rw[zI,og,Kb];rfl
 rw[<-e]at h;exact h
theorem Q0(m:A.handled=U)(j:w.params.followText "set-order"=true)(n:a≠it)(c:es.size<=AB):Walks prog w A it [it,a] [it] es.size (λi v=>(Kf w a ep es)[i]?=Z v) (λi h=>It h it a (.int 0 0) i es.size ep/\Wk w h a es ep t) where
 sub:=λb d=>by simp at d;simp[d]
 frame:=λ_ _ _ st hk=>⟨st.1.keep λo e=>hk it (by simp) o e,st.2.keep λo e=>hk a (by simp) o e⟩
 item:=λi s Q E hi st f=>by
  have p:(Kf w a ep es).length=es.size:=by rw[zG.length_eq];simp
  obtain⟨v,g⟩:∃v,(Kf w a ep es)[i]?=Z v:=⟨(Kf w a ep es)[i]'(),by rw[zo]⟩;refine YF (slot:=0) (next:=0) (x:=v) st.1 st.2 (λ{A' E' Q'} hq=>Il j st.2 (by rw[g];exact hq)) λh' l k=>?_;exact f v h' s.toks g ⟨l,st.2.keep λo e=>k a o n e⟩ λb o d e=>k b o (λx=>d (by simp[x])) e
 done:=λs Q E st f=>by
  have p:(Kf w a ep es).length=es.size:=by rw[zG.length_eq];simp
  refine Dm (slot:=0) m st.1 st.2 (λ{A' E' Q'} hq=>Il j st.2 (by rw[qk ()];exact hq)) λh' k=>?_;exact f h' s.toks λb o d e=>k b o (λx=>d (by simp[x])) e
 self:=λ_ _ _ _ st f=>Ke st.1 f
def V2(pl:O Nat)(es:Array (Int×A1)):O A1:=pl.filterMap λj=>es[j]?.map (·.2)
theorem V3(h:pl.Perm (dg es.size)):(V2 pl es).Perm (es.toList.map (·.2)):=by
 refine(h.filterMap _).trans ?_;rw[show(dg es.size).filterMap (λj=>es[j]?.map (·.2))=((dg es.size).filterMap λj=>es[j]?).map (·.2) by rw[List.map_filterMap],filterMap_getElem?_range]
theorem Nj:∀{pl:O Nat},(∀j∈pl,j<es.size)->∀(i:Nat) (j:Nat),pl[i]?=Z j->(V2 pl es)[i]?=es[j]?.map (·.2)
 |[],_,_,_,h=>by simp at h
 |k::pl,hb,i,j,h=>by
  have hk:=hb k (zg ..);have e:V2 (k::pl) es=es[k].2::V2 pl es:=by simp[V2,hk]
  rw[e];cases i with
  |zero=>cases(show k=j by simpa using h);simp[hk]
  |succ i=>rw[JY];exact Nj (λj a=>hb j (zh _ a)) i j (by simpa using h)
theorem Q5{tp:A2}(n:A.handled=U)(p:a≠it)(q:tp≠it)(hp:pl.Perm (dg es.size)):Walks prog w A it [it,a,tp] [it] es.size (λi v=>(V2 pl es)[i]?=Z v)
  (λi h=>It h it a (.ref tp) i es.size ep/\Wk w h a es ep t/\∃f c,h.get? tp=Z f/\f.data=.seq (pl.map λ(k:Nat)=>rawInt (k:Int)).toArray c) where
 sub:=λb d=>by simp at d;simp[d]
 frame:=λ_ _ _ st hk=>⟨st.1.keep λo e=>hk it (by simp) o e,st.2.1.keep λo e=>hk a (by simp) o e,let ⟨f,c,e,r⟩:=st.2.2;⟨f,c,hk tp (by simp) f e,r⟩⟩
 item:=λi s Q E hi st g=>by
  obtain⟨f,c,e1,e2⟩:=st.2.2;have u:pl.length=es.size:=by rw[hp.length_eq];simp
  have d:∀j∈pl,j<es.size:=λj l=>dt.mp (hp.mem_iff.mp l);have l:pl[i]?=Z (pl[i]'()):=by rw[zo]
  have hx:es[pl[i]'()]?=Z (es[pl[i]'()]'(d _ (yi _))):=by rw[QR]
  refine dP st.1 st.2.1 e1 e2 l hx λh' m k=>?_;exact g _ h' s.toks (by rw[Nj d i _ l,hx];rfl) ⟨m,st.2.1.keep λo e=>k a o p e,f,c,k tp f q e1,e2⟩ λb o d e=>k b o (λx=>d (by simp[x])) e
 done:=λs Q E st g=>by
  obtain⟨f,c,e1,e2⟩:=st.2.2;have u:pl.length=es.size:=by rw[hp.length_eq];simp
  refine Ni n st.1 st.2.1 e1 e2 (by rw[qk ()]) λh' k=>?_;exact g h' s.toks λb o d e=>k b o (λx=>d (by simp[x])) e
 self:=λ_ _ _ _ st g=>Ke st.1 g
def sy(t:SetTable)(i:Nat):Nat:=if i=0 then 0 else t.place.getD (i-1) 0+1
theorem V4{P:S (A1×Nat)->Prop}{r:S (A1×Nat)}(hp:t.place.size=es.size)(c:Nh t.place)(hi:i<=es.size)
  (e:r=match es[dr t.place (sy t i)]?,t.place[dr t.place (sy t i)]? with
   |some (_,x),Z j=>Z (x,j+1)
   |_,_=>U) (h:P (((es.toList.map (·.2))[i]?).map λv=>(v,sy t (i+1)))):P r:=by
 subst e;have d:dr t.place (sy t i)=i:=by
  obtain⟨b1,b2,b3⟩:=Co c (sy t i);generalize dr t.place (sy t i)=b at *
  unfold sy at b2 b3;by_cases h0:i=0
  ·subst h0;rcases m8 b with q|q
   ·exact q
   ·exact absurd (b2 0 q) (yA _)
  ·rw[zw h0]at b2 b3;rcases Nat.lt_trichotomy b i with q|q|q
   ·have:=b3 (i-1) () ();omega
   ·exact q
   ·have:=b2 i q;have:=c (i-1) i () ();omega
 rw[d];have e2:sy t (i+1)=t.place.getD i 0+1:=by unfold sy;rw[zw (Nat.succ_ne_zero i)];rfl
 rw[e2]at h;by_cases q:i<es.size
 ·have a:i<t.place.size:=by omega
  rw[QR q,QR a];have e3:t.place.getD i 0=t.place[i]:=by simp[Array.getD,a]
  rw[e3,zI,Kb,QR q]at h;exact h
 ·rw[ya ()];rw[zI,Kb,ya ()]at h;exact h
theorem Dp{Q:S (A1×Nat)->A3->Prop}(d:w.params.followText "set-order"=false)(c:Wk w s.heap a es ep t)(j:(!t.plain&&decide (es.size>1))=false)(g:Nh t.place)(hi:i<=es.size)(h:Q (((es.toList.map (·.2))[i]?).map λv=>(v,sy t (i+1))) s):A8 (A9 prog w) A (setNext a (sy t i) i ep) Q E s:=by
 obtain⟨o,f,n,m⟩:=c.at_;have hp:t.place.size=es.size:=by
  have:=c.fit;simp only[eu,ZT,beq_iff_eq]at this;exact this.1
 unfold setNext;refine zb (qf f m c.fit (zb (j4 ?_)));rw[d];simp only[zv,↓reduceIte];split
 ·rename_i b;have b:(!t.plain&&decide (es.size>1))=true:=b;rw[j]at b;cases b
 ·have l:A8 (A9 prog w) A (if(!t.led&&!es.isEmpty)=true then unsupported "set:maker-not-led" else pure PUnit.unit) (λ_ s'=>s'=s) E s:=by
   rw[c.led d];exact zd rfl
  refine zb (ZA l (λ_ s' e=>?_) λ_ _ x=>x);subst e;refine zd ?_;exact V4 (P:=λr=>Q r s') hp g hi X9 h
theorem Nk(n:A.handled=U)(l:w.params.followText "set-order"=false)(g:(!t.plain&&decide (es.size>1))=false)(f:Nh t.place)(p:a≠it):Walks prog w A it [it,a] [it] es.size (λi v=>(es.toList.map (·.2))[i]?=Z v) (λi h=>It h it a (.int (sy t i:Nat) 0) i es.size ep/\Wk w h a es ep t) where
 sub:=λb c=>by simp at c;simp[c]
 frame:=λ_ _ _ st hk=>⟨st.1.keep λo e=>hk it (by simp) o e,st.2.keep λo e=>hk a (by simp) o e⟩
 item:=λi s Q E hi st d=>by
  obtain⟨v,j⟩:∃v,(es.toList.map (·.2))[i]?=Z v:=⟨(es.toList.map (·.2))[i]'(by simpa using hi),by rw[zo]⟩;refine YF (x:=v) st.1 st.2 (λ{A' E' Q'} hq=>Dp l st.2 g f (j0 hi) (by rw[j];exact hq)) λh' m k=>?_;exact d v h' s.toks j ⟨m,st.2.keep λo e=>k a o p e⟩ λb o c e=>k b o (λx=>c (by simp[x])) e
 done:=λs Q E st d=>by
  refine Dm n st.1 st.2 (λ{A' E' Q'} hq=>Dp l st.2 g f (zl _) (by rw[qk (by simp)];exact hq)) λh' k=>?_;exact d h' s.toks λb o c e=>k b o (λx=>c (by simp[x])) e
 self:=λ_ _ _ _ st d=>Ke st.1 d
theorem YG(f:Wk w s.heap a es ep t)(L:es.size<=AB){Q:B8}
  (h:∀(it:A2) (h':A7) (d:Drawn) (fp:O A2) (St:Nat->A7->Prop) (J:O A1),J.Perm (es.toList.map (·.2))->(∀n:A6,n.handled=U->Walks prog w n it fp [it] es.size (λi v=>J[i]?=Z v) St)->St 0 h'->s.heap.objs.size<=it->it<h'.objs.size →
   (∀b∈fp,b=a\/s.heap.objs.size<=b)->(∀b∈fp,b<h'.objs.size)->(∀b o,s.heap.get? b=Z o->h'.get? b=Z o)->Q (.ref it) { s with heap:=h',drawn:=d }):A8 (A9 prog w) A (pyIter (.ref a)) Q E s:=by
 obtain⟨W,g,P,C⟩:=id f.at_;have H:s.TypeIs (.ref a) "set":=⟨W,g,P⟩;have u:a<s.heap.objs.size:=zz g;refine wpAny_pyIter_slot H F.slot_set_iter (JI F.slot_set_iter H Aw ?_ (F.args_set_iter_1 _));show A8 _ _ (Builtin.Frozenset.sizeOf a >>= _) _ _ s;refine zb (m:=Builtin.Frozenset.sizeOf a) (zb (wpAny_setEntries_of g C f.fit (zd ?_)));have B:A8 (A9 prog w) A.in1 (setDrawn a) (λb s'=>s'=s/\b=(!(w.params.followText "set-order")&&(!t.plain&&decide (es.size>1)))) E s:=by
  unfold setDrawn;exact zb (qf g C f.fit (zb (j4 (zd ⟨rfl,rfl⟩))))
 refine zb (ZA B (λb s' e=>?_) λ_ _ x=>x);obtain⟨rfl,rfl⟩:=e;dsimp only;by_cases l:w.params.followText "set-order"=true
 ·rw[l];simp only[k8,mz,zv,qc];refine zb (zd ?_);refine zb (m:=setEpoch a) (kC g C f.fit ?_);refine zb (qo (zd ⟨_,rfl,"set_iterator", _,⟨_,zt _ rfl,rfl⟩,iY.lookup,?_⟩));have:=h s'.heap.objs.size (s'.heap.push { cls:=.type "set_iterator",data:=.fields #[.int 0 0,.int 0 0,.ref a,.int es.size 0,.int ep 0] }) s'.drawn [s'.heap.objs.size,a] _ _ zG (λn y=>Q0 y l (t:=t) (ep:=ep) (zS u) L)
   ⟨⟨_,zt _ rfl,rfl,rfl⟩,f.keep λo e=>ze _ e⟩ (zl _) (by rw[qB];exact qV _) (λb c=>by simp at c;rcases c with rfl|rfl;exact .inr (zl _);exact .inl X9)
   (λb c=>by simp at c;rw[qB];rcases c with rfl|rfl;exact qV _;exact QQ u) λb o e=>ze _ e
  exact this
 ·have l:w.params.followText "set-order"=false:=by simpa using l
  rw[l];simp only[y9,Bool.true_and];cases B:(!t.plain&&decide (es.size>1))with
  |false=>
   have N:Nh t.place:=by
    rcases f.non with q|q
    ·have hs:es.size<=1:=by
      rcases Nat.lt_or_ge 1 es.size with z|z
      ·rw[q z]at B;simp at B;omega
      ·exact z
     have hp:t.place.size=es.size:=by
      have:=f.fit;simp only[eu,ZT,beq_iff_eq]at this;exact this.1
     intro i j h1 h2;omega
    ·exact q
   rw[zw ()];refine zb (zd ?_);refine zb (m:=setEpoch a) (kC g C f.fit ?_);refine zb (qo (zd ⟨_,rfl,"set_iterator", _,⟨_,zt _ rfl,rfl⟩,iY.lookup,?_⟩));have:=h s'.heap.objs.size (s'.heap.push { cls:=.type "set_iterator",data:=.fields #[.int 0 0,.int 0 0,.ref a,.int es.size 0,.int ep 0] }) s'.drawn [s'.heap.objs.size,a] _ _ (Kn _) (λn y=>Nk y l B N (t:=t) (ep:=ep) (zS u))
    ⟨⟨_,zt _ rfl,rfl,rfl⟩,f.keep λo e=>ze _ e⟩ (zl _) (by rw[qB];exact qV _) (λb c=>by simp at c;rcases c with rfl|rfl;exact .inr (zl _);exact .inl X9)
    (λb c=>by simp at c;rw[qB];rcases c with rfl|rfl;exact qV _;exact QQ u) λb o e=>ze _ e
   exact this
  |true=>
   rw[zk rfl];refine zb (TY _ _ _ _ (by simp) λpl d hp=>?_);refine zb (wpAny_newTuple ?_ (by rw[zi,hp.length_eq,YO];exact L));refine zb (m:=setEpoch a) (kC (ze _ g) C f.fit ?_);refine zb (qo (zd ⟨_,rfl,"set_iterator", _,⟨_,zt _ rfl,rfl⟩,iY.lookup,?_⟩));generalize D:s'.heap.push { cls:=.type "tuple",data:=.seq (pl.map λ(k:Nat)=>rawInt (k:Int)).toArray }=G;have p:G.objs.size=s'.heap.objs.size+1:=by rw[<-D,qB]
   have M:G.get? s'.heap.objs.size=Z { cls:=.type "tuple",data:=.seq (pl.map λ(k:Nat)=>rawInt (k:Int)).toArray }:=by rw[<-D];exact zt _ rfl
   have I:∀b o,s'.heap.get? b=Z o->G.get? b=Z o:=λb o e=>by rw[<-D];exact ze _ e
   have K:a<G.objs.size:=by rw[p];exact QQ u
   have:=h G.objs.size (G.push { cls:=.type "set_iterator",data:=.fields #[.ref s'.heap.objs.size,.int 0 0,.ref a,.int es.size 0,.int ep 0] }) d [G.objs.size,a,s'.heap.objs.size] _ _ (V3 hp) (λn y=>Q5 y (t:=t) (ep:=ep) (tp:=s'.heap.objs.size) (zS K) (by rw[p];exact zS (qV _)) hp)
    ⟨⟨_,zt _ rfl,rfl,rfl⟩,f.keep λo e=>ze _ (I _ _ e),_,0,ze _ M,rfl⟩ (by rw[p];exact kz _) (by rw[qB];exact qV _)
    (λb c=>by simp at c;rcases c with rfl|rfl|rfl;exact .inr (by rw[p];exact kz _);exact .inl rfl;exact .inr (zl _))
    (λb c=>by
     simp at c;rw[qB];rcases c with rfl|rfl|rfl
     ·exact qV _
     ·exact QQ K
     ·exact QQ (by rw[p];exact qV _)) λb o e=>ze _ (I _ _ e)
   exact this
end
end S6
namespace S6
open P1
section
variable{es:Array (Int×A1)}
theorem V5{b:O A1}{a:Array A1}(f:b.length=n)(h:ItemsOf (λi v=>b[i]?=Z v) a n):a.toList=b:=by
 apply YU;intro j;by_cases d:j<n
 ·have c:j<a.size:=by rw[h.1];exact d
  have e:a.toList[j]?=Z a[j]:=by simp[c]
  rw[e,h.2 j a[j] (by simp[c])]
 ·rw[qk (by rw[qh,h.1];omega),qk ()]
theorem Nm{Q:O A1->A3->Prop}(J:A.handled=none)(D:Wk w s.heap a es ep t)(L:es.size<=AB)
  (hQ:∀g h' d tk,g.Perm (es.toList.map (·.2))->s.heap.objs.size<=h'.objs.size->(∀b o,s.heap.get? b=Z o->h'.get? b=Z o)->Q g { s with heap:=h',drawn:=d,toks:=tk }):
  A8 (A9 prog w) A (collect (.ref a)) Q E s:=by
 obtain⟨u,h,p,c4⟩:=id D.at_;have hT:s.TypeIs (.ref a) "set":=⟨u,h,p⟩;have B:a<s.heap.objs.size:=zz h;unfold collect;refine zb (wpAny_runValue (kr F.entry_proto_collect ?_));rw[Around.under_plainId F.plain_proto_collect _];show A8 _ A.in1 (newList [] >>= λq=>again (.builtin "list.__iadd__" ⟨[q,.ref a],[]⟩)) _ _ s;refine zb (qo (zd ⟨plainId_quiet F.plain_list_iadd _,kr F.entry_list_iadd ?_⟩));rw[Around.under_plainId F.plain_list_iadd _];show A8 _ A.in1 (Builtin.List.listExtendWith (.ref s.heap.objs.size) (.ref a) (.ref s.heap.objs.size)) _ _ _;unfold Builtin.List.listExtendWith;generalize v:(s.heap.push { cls:=.type "list",data:=.seq ([]:O A1).toArray })=H;have i:∀b o,s.heap.get? b=Z o->H.get? b=Z o:=λb o e=>by rw[<-v];exact ze _ e
 have y:H.objs.size=s.heap.objs.size+1:=by rw[<-v,qB]
 have N:H.get? s.heap.objs.size=Z (seqObj "list" #[] 0):=by rw[<-v];exact zt _ rfl
 have a3:Wk w H a es ep t:=D.keep λo e=>i a o e;refine zb (QY (T :="set") ⟨u,i _ _ h,p⟩ ?_);have h1:Builtin.List.listSameRef (.ref s.heap.objs.size) (.ref a)=false:=by simp[Builtin.List.listSameRef];exact JO B
 simp only[h1,show(Value.type "set"==Value.type "list")=false by decide,show(Value.type "set"==Value.type "tuple")=false by decide,mN,zv,qc];refine zb (YG (s:={ s with heap:=H }) a3 L λit G d fp St g hp W a5 X c3 b0 b6 j=>?_);refine zb (qa ?_);unfold Builtin.List.listLengthHint;have l:Shared.TypeIs { s with heap:=G,drawn:=d } (.ref a) "set":=⟨u,j _ _ (i _ _ h),p⟩;refine zb (wpAny_specialOf (T :="set") l F.slot_set_len.lookup ?_)
 wp_delta
 refine zb (JE (T :="set") (b:=true) l (by rw[isSubtype_type];kernel_rfl) ?_);show A8 _ A.in1 (typeOf (Value.ref a) >>= _) _ _ _;refine zb (QY (T :="set") l (zd ?_));rw[zk ()];show A8 _ A.in1 (Builtin.List.listTouch (Value.ref s.heap.objs.size) >>= λ_=>again (Code.builtin "list.extend.loop" ⟨[Value.ref s.heap.objs.size,Value.ref it,Value.ref s.heap.objs.size],[]⟩)) _ _ _;have n:G.get? s.heap.objs.size=Z (seqObj "list" #[] 0):=j _ _ N;unfold Builtin.List.listTouch;refine zb (zb (listUpdate_at n X9 (listUpdate_at (get?_update_seq n _) X9 ?_ (by show _<=_;decide) (by show _<=_;decide)) (by show _<=_;decide) (by show _<=_;decide)));have K:s.heap.objs.size∉fp:=λf=>by
  rcases b0 _ f with e|e
  ·exact JO B e
  ·have e:H.objs.size<=s.heap.objs.size:=e;rw[y]at e;exact absurd e (Nat.not_succ_le_self _)
 have z:=get?_update_seq (get?_update_seq n (λx=>x.push Value.none)) (λx=>x.pop);generalize Y:(G.update s.heap.objs.size (Obj.mapSeq λx=>x.push Value.none)).update s.heap.objs.size (Obj.mapSeq λx=>x.pop)=U at z;have keep:∀b,b≠s.heap.objs.size->U.get? b=G.get? b:=λb c=>by rw[<-Y,kc _ _ _ _ c,kc _ _ _ _ c]
 have P:St 0 U:=(W A J).frame 0 G U a5 λb c o e=>by rw[keep b λx=>K (x▸c)];exact e
 show A8 _ A.in1 (again _) _ _ { s with heap:=U,drawn:=d };have ho:g.length=es.size:=by rw[hp.length_eq];simp
 refine zd ⟨plainId_quiet F.plain_extend_loop _,codeAny_extend_loopS (W A.in1 J).toS L s.heap.objs.size K _ es.size 0 { s with heap:=U,drawn:=d } #[] _ X9 (qi _) P z (ItemsOf.nil _) λs' b4 c' m I b5=>?_⟩;show A8 _ A (load s.heap.objs.size >>= _) _ _ s';refine zb (y8 I (zd ?_));show Q b4.toList s';rw[V5 ho b5];have C:=hQ g s'.heap s'.drawn s'.toks hp (j0 (zz I)) λb M e=>by
  have c:=zz e;refine m.heap b M (λf=>?_) ((keep b (zS c)).trans (j _ _ (i _ _ e)));simp only[js,ke,or_false]at f;rcases f with f|f
  ·exact zS c f
  ·have:H.objs.size<=it:=X;rw[y,<-f]at this;exact absurd c (ew.mpr (ly this))
 have e1:s'.gens=s.gens:=m.gens;have e2:s'.os=s.os:=m.os;rw[<-e1,<-e2]at C;exact C
end
theorem yC{α:Type}[DecidableEq α]:∀{xs ys:O α},xs.Nodup->ys.Nodup->(∀z,z∈xs↔z∈ys)->xs.Perm ys
 |[],ys,_,_,h=>by
  have:ys=[]:=hL.mpr λz a=>by simpa using(h z).mpr a
  subst this;exact .refl _
 |x::xs,ys,hx,hy,h=>by
  have c:x∈ys:=(h x).mp (zg ..);have b:=cT.mp hx;refine((yC b.2 (hy.erase x) λz=>?_).cons x).trans (List.perm_cons_erase c).symm;rw[hy.mem_erase_iff];constructor
  ·intro a;exact⟨λe=>b.1 (e▸a),(h z).mp (zh _ a)⟩
  ·intro⟨hn,a⟩;rcases List.mem_cons.mp ((h z).mpr a)with e|e
   ·exact absurd e hn
   ·exact e
theorem lA{R:α->β->Prop}:∀{l a:O β},a.Perm l->∀{ys:O α},AJ R ys l->∃b,b.Perm ys/\AJ R b a:=by
 intro l a hp
 replace hp:=hp.symm
 induction hp with
 |nil=>intro ys h;exact⟨ys,.refl _,h⟩
 |cons x _ i=>intro ys h;cases h with|cons r t=>obtain⟨zs,z1,z2⟩:=i t;exact⟨_::zs,z1.cons _,.cons r z2⟩
 |swap x y l=>intro ys h;cases h with|cons r t=>cases t with|cons e c=>exact⟨_,List.Perm.swap _ _ _,.cons e (.cons r c)⟩
 |trans _ _ j g=>intro ys h;obtain⟨zs,z1,z2⟩:=j h;obtain⟨us,f,d⟩:=g z2;exact⟨us,f.trans z1,d⟩
theorem Q6{R:α->β->Prop}{xs:O α}{us:O β}{ys:O α}{vs:O β}(h:AJ R xs us)(k:AJ R ys vs):AJ R (xs++ys) (us++vs):=by
 induction h with
 |nil=>exact k
 |cons r _ a=>exact .cons r a
theorem P6(t:SetTable)(es:Array (Int×A1))(h:Int)(x:A1):(layNew t es h x).2.1.led=t.led:=by
 unfold layNew;split
 ·dsimp only[SetTable.put,SetTable.orStandIn];generalize eu _ _=b;cases b<;>rfl
 ·rfl
theorem V6(t:SetTable)(es:Array (Int×A1))(n:Nat):(relayAll t es n).2.1.led=t.led/\(t.plain=false->(relayAll t es n).2.1.plain=false):=by
 unfold relayAll;split
 ·rename_i a f e;have c:a.led=t.led/\a.plain=t.plain:=by
   unfold SetTable.relaid kW at e;cases d:dq (dO n-1) (es.map (·.1))with
   |none=>rw[d]at e;cases e
   |some g=>rw[d]at e;cases e;exact⟨rfl,rfl⟩
  dsimp only;generalize (coversAll f es.size&&_)=b;cases b
  ·exact⟨rfl,λ_=>X9⟩
  ·exact⟨c.1,λhp=>c.2.trans hp⟩
 ·exact⟨rfl,λ_=>X9⟩
def Dq(prog:A4)(w:A5)(y:AK)(e:Int×A1):Prop:=∃tk,e=((strKind prog w).hash y,.str y tk)
structure V7 (prog:Program) (w:World) (ys:An) (es:Array (Int×Value)) (t:SetTable):Prop where
 rel:Paired (Dq prog w) ys es.toList
 nd:ys.Nodup
 fit:t.fits es.size=true
 led:w.params.followText "set-order"=false->t.led=true
 non:0<es.size->t.plain=false
def Tx(prog:A4)(w:A5)(h:A7)(a:A2)(ys:An):Prop:=∃o es ep t,h.get? a=Z o/\o.ExactSet/\o.data=.set es ep t/\V7 prog w ys es t
theorem Tx.keep{h':A7}(x:Tx prog w h a ys)(k:∀o,h.get? a=Z o->h'.get? a=Z o):Tx prog w h' a ys:=
 let ⟨o,es,ep,t,e,r⟩:=x;⟨o,es,ep,t,k o e,r⟩
theorem V7.elems{es:Array (Int×A1)}(x:V7 prog w ys es t):ElemsOf (strKind prog w) es.toList:=by
 have:∀{ys:An} {l:O (Int×A1)},AJ (Dq prog w) ys l->ElemsOf (strKind prog w) l:=by
  intro ys l h
  induction h with
  |nil=>intro e a;cases a
  |cons r _ b=>
   intro e a;rcases List.mem_cons.mp a with rfl|a
   ·obtain⟨tk,rfl⟩:=r;exact⟨⟨_,strKind_is _ _ _ _,rfl⟩,rfl⟩
   ·exact b e a
 exact this x.rel
theorem V7.size{es:Array (Int×A1)}(x:V7 prog w ys es t):es.size=ys.length:=by rw[x.rel.length];simp
theorem Kg{z:AK}{e:Int×A1}(h:Dq prog w y e):(strKind prog w).is z e.2=true↔z=y:=by
 obtain⟨tk,rfl⟩:=h;constructor
 ·intro q;exact(strKind prog w).inj _ _ _ q (strKind_is _ _ _ _)
 ·rintro rfl;exact strKind_is _ _ _ _
theorem uH{y:AK}:∀{ys:An} {l:O (Int×A1)},AJ (Dq prog w) ys l->((l.findIdx? λe=>(strKind prog w).is y e.2)=U↔y∉ys)
 |_,_,.nil=>by simp
 |z::ys,e::l,.cons r t=>by
  rw[nf];by_cases q:(strKind prog w).is y e.2=true
  ·rw[zk q,(Kg r).mp q];simp
  ·rw[zw q];have:y≠z:=λe'=>q ((Kg r).mpr e');rw[Option.map_eq_none_iff,uH t];simp[this]
theorem Np{Q:Bool->A3->Prop}(hS:Tx prog w s.heap a ys)(d1:ys.length+1<scanBound)(h:∀b h' K,Heap.SameBut a s.heap h'->Tx prog w h' a K->(∀z,z∈K↔z∈ys\/z=y)->K.length<=ys.length+1->Q b { s with heap:=h' }):A8 (A9 prog w) A (setAddHashed a (.str y tk) ((strKind prog w).hash y)) Q E s:=by
 obtain⟨o,es,ep,t,B,P,F,x⟩:=id hS;have b6:=x.size;have d4:es.size+1<scanBound:=by rw[b6];exact d1
 have a3:=x.elems;have d0:=strKind_is prog w y tk;unfold setAddHashed setAddHashedIn;refine qa (zb (qf B F x.fit ?_));dsimp only;rw[byScan_of (knd:=strKind prog w) (x:=.str y tk) X9 () a3];simp only[↓reduceIte];unfold setAddByScan;refine zb (zb (ka (zb (wpAny_setScan_of d0 B F x.fit a3 ?_))));cases I:es.toList.findIdx? (λe=>(strKind prog w).is y e.2)with
 |some j=>
  dsimp only;have i:y∈ys:=by
   by_cases q:y∈ys
   ·exact q
   ·rw[(uH x.rel).mpr q]at I;cases I
  refine zd (zd (h _ s.heap ys (JU a s.heap) hS (λz=>⟨.inl,λq=>q.elim id λe=>e▸i⟩) (kz _)))
 |none=>
  dsimp only;have i:y∉ys:=(uH x.rel).mp I;have gw:∀(b:Bool) {b4:A3} {Q':Unit->A3->Prop},Q' gl b4->A8 (A9 prog w) A (match b with|true=>rule "set.scan.the-table-gave-way" | false=>pure gl) Q' E b4:=
   λb _ _ N=>by cases b;exact zd N;exact ka N
  have f:=layNew_perm t es ((strKind prog w).hash y) (.str y tk);have C:=layNew_fits t es ((strKind prog w).hash y) (.str y tk);have n:=P6 t es ((strKind prog w).hash y) (.str y tk);generalize layNew t es ((strKind prog w).hash y) (.str y tk)=L at f C n ⊢;obtain⟨c,t1,c3,d2⟩:=L;dsimp only at f C n ⊢;rw[nw]at f;refine zb (gw _ ?_);have c6:AJ (Dq prog w) (ys++[y]) (es.toList++[((strKind prog w).hash y,.str y tk)]):=Q6 x.rel (.cons ⟨tk,rfl⟩ .nil);obtain⟨p,p1,r1⟩:=lA f c6;have b0:p.Nodup:=p1.nodup_iff.mpr (List.nodup_append.mpr ⟨x.nd,by simp,λu hu v hv=>by simp at hv;subst hv;exact λe=>i (e▸hu)⟩);have m1:∀z,z∈p↔z∈ys\/z=y:=λz=>by rw[p1.mem_iff];simp
  have Y:p.length=ys.length+1:=by rw[p1.length_eq];simp
  have z1:c.size=es.size+1:=by rw[<-qh,f.length_eq];simp
  have M:∀t2:SetTable,t2.fits c.size=true->t2.led=t1.led->t2.plain=false->A8 (A9 prog w) A (do
    storeSet a c t2
    if(!c3&&t2.tooFull)=true then do
      (match (relayAll t2 c (eh c.size)).2.2 with|true=>rule "set.scan.the-table-gave-way" | false=>pure gl)
      storeSet a (relayAll t2 c (eh c.size)).1 (relayAll t2 c (eh c.size)).2.1
      pure (Z true)
     else pure (Z true)) (λr s'=>∃b,r=Z b/\Q b s') E s:=by
   intro t2 f2 l2 p2;have up:∀(hp:A7) (l:AF) (e1 e2:Array (Int×A1)) (H:Nat) (X d:SetTable),hp.get? a=Z l->l.data=.set e1 H X->(hp.update a (Obj.putSet e2 d)).get? a=Z { l with data:=.set e2 (H+1) d }:=λhp l e1 e2 H X d g q=>by
    have:=QN (Obj.putSet e2 d) g (by rw[putSet_of e2 d q];rfl);rw[putSet_of e2 d q]at this;exact this
   have g1:=up s.heap o es c ep t t2 B F;refine zb (kB B F ?_ (fits_of_scanBound ()));split
   ·have hp:=relayAll_perm t2 c (eh c.size);have J:=relayAll_fits t2 c (eh c.size);have D:=V6 t2 c (eh c.size);generalize relayAll t2 c (eh c.size)=Rl at hp J D ⊢;obtain⟨a5,W,d3⟩:=Rl;dsimp only at hp J D ⊢;obtain⟨c5,G,r2⟩:=lA hp r1;refine zb (gw _ ?_);refine zb (kB g1 X9 ?_ (fits_of_scanBound (by rw[<-qh,hp.length_eq,qh];omega)));have g2:=up _ _ c a5 _ t2 W g1 rfl;exact zd ⟨true,rfl,h _ _ c5 ((Q4 ..).trans (Q4 ..)) ⟨_,a5,_,W,g2,P,rfl,r2,G.nodup_iff.mpr b0,J,λq=>(D.1.trans l2).trans (n.trans (x.led q)),λ_=>D.2 p2⟩ (λz=>by rw[G.mem_iff];exact m1 z) (by rw[G.length_eq];exact hF Y)⟩
   ·exact zd ⟨true,rfl,h _ _ p (Q4 ..) ⟨_,c,_,t2,g1,P,rfl,r1,b0,f2,λq=>l2.trans (n.trans (x.led q)),λ_=>p2⟩ m1 (hF Y)⟩
  have c4:∀{m:Sem (S Bool)},A8 (A9 prog w) A m (λr s'=>∃b,r=Z b/\Q b s') E s->A8 (A9 prog w) A m (λr s'=>A8 (A9 prog w) A (match r with|some b5=>pure b5|none=>setAddHashedIn a (.str y tk) ((strKind prog w).hash y) 99999) Q E s') E s:=λi=>ZA i (λr s' q=>by obtain⟨b,rfl,q⟩:=q;exact zd q) λ_ _ q=>q;refine c4 ?_;split
  ·refine zb ?_;rw[hashByValue_scannable 8 (x:=.str y tk) rfl];refine zd ?_;exact M { t1 with plain:=false } (SetTable.fits_plain_off C) X9 rfl
  ·rename_i hp;refine zb (zd ?_);simp only[↓reduceIte];exact M t1 C X9 (by simpa using hp)
def BH(w:A5):AF:={ cls:=.type "set",dict:=U,data:=.set #[] 0 (.fresh 0 0 (!w.params.followText "set-order")) }
structure EM (prog:Program) (w:World) (S:Addr) (wr:List Addr) {κ:Type} (C:Heap->List κ->Prop) (P:Nat->Value->Prop) (val:Nat->κ) (n:Nat):Prop where
 keep:∀h h' ys,C h ys->(∀b o,b∉wr->h.get? b=some o->h'.get? b=some o)->C h' ys
 add:∀(A:Around) (E:B8) (s:Shared) (i:Nat) (v:Value) (ys:List κ) (Q:Bool->Shared->Prop),A.units<cLine->i<n->P i v->C s.heap ys->ys.length<=i →
  (∀b h' tk ys',Heap.SameBut S s.heap h'->C h' ys'->(∀z,z∈ys'↔z∈ys\/z=val i)->ys'.length<=i+1->s.toks<=tk->Q b { s with heap:=h',toks:=tk })->wpAny (model prog w) A (setAdd S v) Q E s
section
variable{R:Result->A3->Prop}{I:A2}{wr:O A2}{P:Nat->A1->Prop}{St:Nat->A3->Prop}{C:A7->O κ->Prop}{val:Nat->κ}
theorem YH(W:WalksS prog w A.in1 I fp wr (λa b=>b=a) n P St)(S:A2)(N:S∉fp)(ad:EM prog w S wr C P val n)(E:A.units+1<cLine):
  ∀(k i:Nat) (s:A3) (ys:O κ),n-i=k->i<=n->St i s->C s.heap ys->(∀z,z∈ys↔∃j,j<i/\z=val j)->ys.length<=i →
   (∀s' d,Moved (S::wr) (λa b=>b=a) s s'->C s'.heap d->(∀z,z∈d↔∃j,j<n/\z=val j)->R (.ok (.ret .none)) s') →
   AG (A9 prog w) A (.builtin "set.update.loop" ⟨[.ref S,.ref I],[]⟩) R s:=by
 have sub:∀b,b∈wr->b∈S::wr:=λb q=>zh _ q;intro k
 induction k with
 |zero=>
  intro i s ys hk hi st l m t g;have:i=n:=by omega
  subst this;refine kr F.entry_set_update_loop ?_;rw[Around.under_plainId xw _];show A8 _ A.in1 (pyNext (.ref I) >>= _) _ _ s;refine zb (W.done s _ _ st λs' c=>?_);show A8 _ A.in1 (ret Value.none) _ _ s';exact zd (g s' ys (c.mono sub) (ad.keep _ _ _ l c.heap) m)
 |succ k Q=>
  intro i s ys hk hi st l m t g;have h:i<n:=by omega
  refine kr F.entry_set_update_loop ?_;rw[Around.under_plainId xw _];show A8 _ A.in1 (pyNext (.ref I) >>= _) _ _ s;refine zb (W.item i s _ _ h st λv s' K D c=>?_);show A8 _ A.in1 (holding [v] (setAdd S v) >>= _) _ _ s';refine zb (qa (ad.add _ _ s' i v ys _ E h K (ad.keep _ _ _ l c.heap) t λb h' tk d p x G X u=>?_));refine zd ⟨plainId_quiet xw _,Q (i+1) _ d () h (W.frame _ s' _ _ D u λb f o e=>?_) x (λz=>?_) X λy B J H M=>?_⟩
  ·rw[p.2 b λq=>N (q▸f)];exact e
  ·rw[G z,m z];constructor
   ·rintro(⟨j,L,e⟩|e)
    ·exact⟨j,by omega,e⟩
    ·exact⟨i,by omega,e⟩
   ·rintro⟨j,L,e⟩;by_cases q:j=i
    ·exact .inr (q▸e)
    ·exact .inl ⟨j,by omega,e⟩
  ·refine g y B (Moved.trans W.gtrans ((c.mono sub).then_heap u λb o f e=>?_) J) H M;rw[p.2 b λq=>f (by rw[q];exact zg)];exact e
end
theorem Q7(x:A1){Q₁:B8}(h:Q₁ (.ref s.heap.objs.size) { s with heap:=s.heap.push (BH w) }):
  AG (A9 prog w) A (.call (.builtin "set.__new__") ⟨[.type "set",x],[]⟩) (wants Q₁ E) s:=by
 refine codeAny_of_tree ?_;show A8 _ A.in1 (do checkBuiltinCall "set.__new__" ⟨[.type "set",x],[]⟩;again (.builtin "set.__new__" ⟨[.type "set",x],[]⟩)) _ _ s;refine zb (wpAny_of_eq (F.newCall_set_1 x) (zd ⟨plainId_quiet F.plain_set_new _,kr F.entry_set_new ?_⟩));rw[Around.under_plainId F.plain_set_new _];unfold Builtin.«set.__new__» Builtin.Frozenset.newClass;have a:=sub_set_self;obtain⟨hp,g,d,tk,os⟩:=s;dsimp only
 wp_walk
 refine yf (zd ?_);dsimp only;simp only[newObj];refine zb (wpAny_alloc (zd ?_));exact zd h
theorem C1:isSubtype (.type "tuple") (.type "set")=pure false:=by rw[isSubtype_type];kernel_rfl
theorem BM:isSubtype (.type "tuple") (.type "frozenset")=pure false:=by rw[isSubtype_type];kernel_rfl
theorem YJ(hU:A.units+60<cLine){T:String}{l:A2}{C:A7->O κ->Prop}{P:Nat->A1->Prop}{val:Nat->κ}{Q:B8}(hh:A.handled=U)(L:s.heap.get? l=Z o)(b6:o.cls=.type T)(m:T ="list" ∨ T ="tuple")(b0:∀(d:A6) (E':B8) (Q':B8) (h0:A7),d.handled=U->(∀b a,s.heap.get? b=Z a->h0.get? b=Z a) →
   (∀(h':A7) (St:Nat->A7->Prop),(∀d,d.handled=U->Walks prog w d h0.objs.size [h0.objs.size,l] [h0.objs.size] n P St)->St 0 h'->(∀b a,h0.get? b=Z a->h'.get? b=Z a)->Q' (.ref h0.objs.size) { s with heap:=h' })->A8 (A9 prog w) d (pyIter (.ref l)) Q' E' { s with heap:=h0 })(ad:EM prog w s.heap.objs.size [s.heap.objs.size+1] C P val n)(Y:∀h',h'.get? s.heap.objs.size=Z (BH w)->(∀b a,s.heap.get? b=Z a->h'.get? b=Z a)->C h' [])(h:∀(h':A7) (tk:Nat) (ys:O κ),C h' ys->(∀z,z∈ys↔∃j,j<n/\z=val j)->(∀b a,s.heap.get? b=Z a->h'.get? b=Z a)->Q (.ref s.heap.objs.size) { s with heap:=h',toks:=tk }):
  A8 (A9 prog w) A (call (.type "set") [.ref l]) Q E s:=by
 obtain⟨c,tl,e0⟩:=F.called_set.mro;have d2:=F.called_set.made;have d0:=F.called_set.sub;have b4:l<s.heap.objs.size:=zz L;refine ye (codeAny_of_tree ?_);show A8 _ _ (callAny (.type "set") _) _ _ _;refine zd ⟨Code.quiet_builtin _ (by decide +kernel),kr F.entry_type_call ?_⟩;rw[Around.under_plain (weight_type_call_type "set" [.ref l] []) rfl];have h1:=F.called_set.notType;have h2:=F.called_set.canCreate;have d3:=F.typeCall_set_1 (.ref l)
 repeat (any_goals (first|assumption|wp_step))
 refine KW (Q7 (.ref l) (E:=E) (Q₁:=λN J=>N=.ref s.heap.objs.size/\J={ s with heap:=s.heap.push (BH w) }) ⟨rfl,rfl⟩) λr J t=>?_;cases r with
 |error e=>exact t
 |ok fl=>
  cases fl with
  |ret N=>
   obtain⟨rfl,rfl⟩:=t;generalize D:s.heap.push (BH w)=H;have I:H.objs.size=s.heap.objs.size+1:=by rw[<-D,qB]
   have y:H.get? s.heap.objs.size=Z (BH w):=by rw[<-D];exact zt _ rfl
   have i:∀b a,s.heap.get? b=Z a->H.get? b=Z a:=λb a e=>by rw[<-D];exact ze _ e
   have X:Shared.TypeIs { s with heap:=H } (.ref s.heap.objs.size) "set":=⟨_,y,rfl⟩;have c6:=F.called_set.init.lookup;have d1:=F.called_set.init.bind (.ref s.heap.objs.size)
   repeat (any_goals (first|assumption|wp_step))
   refine KW (yo (R:=wants (λr f=>r=.none/\∃h' tk ys,f={ s with heap:=h',toks:=tk }/\C h' ys/\(∀z,z∈ys↔∃j,j<n/\z=val j)/\(∀b a,s.heap.get? b=Z a->h'.get? b=Z a)) E) F.called_set.init.plain F.entry_set_init (check_set_init_1 X ?_)) λa3 f B=>?_
   ·have x:Shared.TypeIs { s with heap:=H } (.ref l) T:=⟨o,i _ _ L,b6⟩;have i1:isSubtype (.type T) (.type "set")=pure false:=by rcases m with rfl|rfl;exact F.sub_list_set;exact C1
    have i2:isSubtype (.type T) (.type "frozenset")=pure false:=by rcases m with rfl|rfl;exact F.sub_list_frozenset;exact BM
    have i3:(Value.type T==Value.type "dict")=false:=by rcases m with rfl|rfl<;>decide
    show A8 _ _ (Builtin.«set.__init__» ⟨[.ref s.heap.objs.size,.ref l],[]⟩) _ _ _;have K:∀d:A6,d.handled=U->d.units+4<cLine->A8 (A9 prog w) d (Builtin.Frozenset.updateFrom "set.__init__" s.heap.objs.size (.ref l)) (λ_ f=>∃h' tk ys,f={ s with heap:=h',toks:=tk }/\C h' ys/\(∀z,z∈ys↔∃j,j<n/\z=val j)/\(∀b a,s.heap.get? b=Z a->h'.get? b=Z a)) E { s with heap:=H }:=by
     intro d M d4;unfold Builtin.Frozenset.updateFrom Builtin.Frozenset.isAnySet;refine zb (zb (JE x i1 ?_));refine JE x i2 ?_;simp only[zv,qc];refine zb (QY x ?_);simp only[i3,zv,qc];refine zb (b0 d _ _ H M i λG St W b5 v=>?_);rw[I]at W;rw[I];have c4:s.heap.objs.size∉[s.heap.objs.size+1,l]:=λq=>by
      simp only[js,ke,or_false]at q;rcases q with q|q
      ·exact zS (qV _) q
      ·exact JO b4 q
     refine zb (wpAny_runValue (YH (W d.in1 M).toS s.heap.objs.size c4 ad () (n-0) 0 _ [] X9 (qi _) b5 (Y G (v _ _ y) λb a e=>v _ _ (i _ _ e)) (λz=>⟨λq=>(by cases q),λ⟨j,q,_⟩=>absurd q (yA _)⟩) (zl _) λs' ys g c1 c2=>?_));refine zd ⟨s'.heap,s'.toks,ys,?_,c1,c2,λb a e=>?_⟩
     ·have e1:s'.gens=s.gens:=g.gens;have e2:s'.os=s.os:=g.os;have e3:s'.drawn=s.drawn:=g.drawn;rw[<-e1,<-e2,<-e3]
     ·have p:=zz e;refine g.heap b a (λq=>?_) (v _ _ (i _ _ e));simp only[js,ke,or_false]at q;rcases q with q|q
      ·exact zS p q
      ·exact zS (QQ p) q
    have p:(BH w).data=.set #[] 0 (.fresh 0 0 (!w.params.followText "set-order")):=rfl;unfold Builtin.«set.__init__» noKeywords;generalize c5:Builtin.Frozenset.updateFrom=UF at K ⊢;unfold BH at y
    wp_walk
    refine ZA (K _ (by simp[hh]) (by simp;omega)) (λu f q=>?_) λ_ _ q=>q;obtain⟨h',tk,ys,rfl,q⟩:=q;show A8 _ _ (ret Value.none) _ _ _;exact zd ⟨rfl,h',tk,ys,rfl,q⟩
   ·cases a3 with
    |error e=>exact B
    |ok a5=>
     cases a5 with
     |ret r=>
      obtain⟨rfl,h',tk,ys,rfl,c1,c2,c3⟩:=B
      repeat (any_goals (first|assumption|wp_step))
      exact h _ _ _ c1 c2 c3
     |_=>exact False.elim B
  |_=>exact False.elim t
end S6
namespace S6
open PySem
structure Tb (t:SetTable):Prop where
 mask:t.mask=7\/t.mask=31\/t.mask=127
 dum:t.dummies=#[]
 rise:Nh t.place
 bd:∀j:Nat,j∈t.place->j<=t.mask
 full:t.place.size<=t.mask
def Nq(mask:Nat)(p:SetTable.Probe):SetTable.Probe:=
 if p.more>0 then { p with j:=p.j+1,more:=p.more-1 }else
 { p with j:=(dV mask p.i p.perturb).1,more:=dc mask (dV mask p.i p.perturb).1-(dV mask p.i p.perturb).1,i:=(dV mask p.i p.perturb).1,perturb:=(dV mask p.i p.perturb).2 }
def DU(mask i perturb:Nat):SetTable.Probe:={ j:=i,more:=dc mask i-i,i,perturb,dummy:=U }
def Gj(mask:Nat)(h:Int):Nat->SetTable.Probe
 |0=>DU mask (da h%(mask+1)) (da h)
 |n+1=>Nq mask (Gj mask h n)
theorem YK:∀(xs ys:O Nat),xs.Nodup->(∀x,x∈xs->x∈ys)->xs.length<=ys.length
 |[],_,_,_=>qi _
 |x::xs,ys,hn,hs=>by
  have a:=cT.mp hn;have b:=hs x (zg ..);have:=YK xs (ys.erase x) a.2 λz c=>(hO (λe:z=x=>a.1 (by rw[<-e];exact c))).mpr (hs z (zh _ c));have:=Y1 b;have:0<ys.length:=gu b;simp only[ZZ];omega
def nx(M i:Nat):Nat:=(i*5+1)%M
def Im(M:Nat):Nat->Nat->Nat
 |0,i=>i
 |k+1,i=>Im M k (nx M i)
theorem BW(M:Nat):∀(a b i:Nat),Im M (a+b) i=Im M b (Im M a i)
 |0,b,i=>by rw[K0];rfl
 |a+1,b,i=>by rw[Nat.succ_add];exact BW M a b _
theorem VW:(∀r,r<8->∃k,k<8/\Im 8 k 0=r)/\Im 8 8 0=0:=by decide +kernel
theorem Of:(∀r,r<32->∃k,k<32/\Im 32 k 0=r)/\Im 32 32 0=0:=by decide +kernel
theorem iS:(∀r,r<16->∃k,k<16/\Im 16 k 0=r)/\Im 16 16 0=0:=by decide +kernel
theorem RH:(∀r,r<64->∃k,k<64/\Im 64 k 0=r)/\Im 64 64 0=0:=by decide +kernel
theorem XU{M:Nat}(h:(∀r,r<M->∃k,k<M/\Im M k 0=r)/\Im M M 0=0){r:Nat}(hi:i<M)(c:r<M):∃k,k<M/\Im M k i=r:=by
 obtain⟨a,e,rfl⟩:=h.1 i hi;obtain⟨b,d,rfl⟩:=h.1 r c;by_cases q:a<=b
 ·exact⟨b-a,by omega,by rw[<-BW,show a+(b-a)=b by omega]⟩
 ·exact⟨M-a+b,by omega,by rw[<-BW,show a+(M-a+b)=M+b by omega,BW,h.2]⟩
def lp(mask:Nat)(h:Int):Nat->Nat×Nat
 |0=>(da h%(mask+1),da h)
 |l+1=>dV mask (lp mask h l).1 (lp mask h l).2
theorem Kh(mask i:Nat):i<=dc mask i/\dc mask i<=i+9:=by unfold dc;split<;>omega
theorem YL(h:i<=mask):dc mask i<=mask:=by unfold dc;split<;>omega
theorem yD{mask:Nat}{h:Int}{s i p:Nat}(e:Gj mask h s=DU mask i p):∀k,k<=dc mask i-i->Gj mask h (s+k)={ DU mask i p with j:=i+k,more:=dc mask i-i-k }
 |0,_=>by rw[Nat.add_zero,e];rfl
 |k+1,hk=>by
  have a:=yD e k ();show Nq mask (Gj mask h (s+k))=_;rw[a];unfold Nq;rw[zk (by dsimp only;omega)];rfl
theorem YM{h:Int}{s p:Nat}(e:Gj mask h s=DU mask i p):Gj mask h (s+(dc mask i-i)+1)=DU mask (dV mask i p).1 (dV mask i p).2:=by
 show Nq mask (Gj mask h (s+(dc mask i-i)))=_;rw[yD e _ (zl _)];unfold Nq;rw[zw (by dsimp only;omega)];rfl
theorem gi(mask:Nat)(h:Int):∀l,(lp mask h l).1<mask+1
 |0=>hI _ (mi _)
 |l+1=>hI _ (mi _)
theorem Nr(mask:Nat)(h:Int):∀l,(lp mask h l).2*32 ^ l<=da h
 |0=>by simp[lp]
 |l+1=>by
  have a:=Nr mask h l;show(lp mask h l).2 / 32*32 ^ (l+1)<=_;have h1:(lp mask h l).2 / 32*32<=(lp mask h l).2:=Nat.div_mul_le_self _ _;have h2:=Nat.mul_le_mul_right (32 ^ l) h1;rw[Nat.pow_succ,m6 (32 ^ l) 32,<-Nat.mul_assoc];exact Zl h2 a
theorem iP(h:Int):da h<18446744073709551616:=by
 unfold da;have h1:h%18446744073709551616<18446744073709551616:=YE _ ();have h2:0<=h%18446744073709551616:=yY _ ();show(h%18446744073709551616).toNat<_;omega
theorem T5(mask:Nat)(h:Int):∀k,(lp mask h (12+k)).2<32
 |0=>by
  have h1:=Nr mask h 12;have h2:=iP h;rw[show(32:Nat) ^ 12=1152921504606846976 from rfl]at h1;show(lp mask h 12).2<32;omega
 |k+1=>by
  have:=T5 mask h k;show(lp mask h (12+k)).2 / 32<32;omega
theorem iA(mask:Nat)(h:Int):∀k,(lp mask h (12+k)).1=Im (mask+1) k (lp mask h 12).1:=by
 have step:∀k,(lp mask h (12+k+1)).1=nx (mask+1) (lp mask h (12+k)).1:=λk=>by
  have:=T5 mask h k;show((lp mask h (12+k)).1*5+1+(lp mask h (12+k)).2 / 32)%(mask+1)=_;rw[show(lp mask h (12+k)).2 / 32=0 by omega];rfl
 have b:∀k i,Im (mask+1) k (nx (mask+1) i)=nx (mask+1) (Im (mask+1) k i):=λk=>by
  induction k with
  |zero=>intro i;rfl
  |succ k a=>intro i;exact a _
 intro k
 induction k with
 |zero=>rfl
 |succ k a=>
  rw[show 12+(k+1)=12+k+1 by omega,step,a];exact(b k _).symm
def Ct(mask:Nat):Prop:=∀(h:Int) (r:Nat),r<mask+1->∃l,l<mask+13/\(lp mask h l).1=r
theorem Kl(c:(∀r,r<mask+1->∃k,k<mask+1/\Im (mask+1) k 0=r)/\Im (mask+1) (mask+1) 0=0):Ct mask:=λh r a=>by
 obtain⟨k,hk,e⟩:=XU c (gi mask h 12) a;exact⟨12+k,by omega,by rw[iA,e]⟩
theorem gD(xs:Array α)(k:Nat)(a:α):xs.getD k a=xs[k]?.getD a:=by
 by_cases h:k<xs.size
 ·rw[QR h];simp[Array.getD,h]
 ·rw[ya ()];simp[Array.getD,h]
structure Tok (t:SetTable) (es:Array (Int×Value)):Prop extends Tb t where
 size:t.place.size=es.size
 reach:∀(i j:Nat) e,t.place[i]?=some j->es[i]?=some e->∃n,n<10*ef t.mask/\(Gj t.mask e.1 n).j=j/\∀m,m<n->(Gj t.mask e.1 m).j∈t.place
theorem YQ(xs:Array α)(p:Nat)(x:α):(eX xs p x).toList=xs.toList.take p++x::xs.toList.drop p:=by
 unfold eX;simp[Array.toList_extract,gG]
theorem YS(xs:Array α)(p:Nat)(x:α):(eX xs p x).size=xs.size+1:=by
 rw[<-qh,YQ,Zp,ZZ,KB,xh,qh];omega
theorem YT{mask:Nat}(h:Int):∀n,(Gj mask h n).j+(Gj mask h n).more<=mask
 |0=>by
  have h1:da h%(mask+1)<mask+1:=hI _ (mi _);have:=YL (mask:=mask) (i:=da h%(mask+1)) ();have:=Kh mask (da h%(mask+1));show da h%(mask+1)+(dc mask (da h%(mask+1))-da h%(mask+1))<=mask;omega
 |n+1=>by
  have b:=YT (mask:=mask) h n;show(Nq mask (Gj mask h n)).j+(Nq mask (Gj mask h n)).more<=mask;unfold Nq;split
  ·dsimp only;omega
  ·dsimp only;generalize a:(dV mask (Gj mask h n).i (Gj mask h n).perturb).1=i;have h1:i<mask+1:=by rw[<-a];exact hI _ (mi _)
   have:=YL (mask:=mask) (i:=i) ();have:=Kh mask i;omega
theorem No(h:Int)(n:Nat):(Gj mask h n).j<=mask:=by have:=YT (mask:=mask) h n;omega
def Q8(owner:Array (S Nat))(j:Nat):Prop:=(owner.getD j (Z 0)).isNone=false
theorem Io{mask:Nat}{h:Int}{owner:Array (S Nat)}:∀(fuel l s j:Nat),Gj mask h s=DU mask (lp mask h l).1 (lp mask h l).2->s<=10*l->(∀m,m<s->Q8 owner (Gj mask h m).j) →
  dq.free mask owner fuel (lp mask h l).1 (lp mask h l).2=Z j->∃n,n<10*(l+fuel)/\(Gj mask h n).j=j/\(owner.getD j (Z 0)).isNone=true/\∀m,m<n->Q8 owner (Gj mask h m).j
 |0,l,s,j,_,_,_,e=>by unfold dq.free at e;cases e
 |fuel+1,l,s,j,hs,hl,ho,e=>by
  have i:=Kh mask (lp mask h l).1;unfold dq.free at e;cases c:(dg (dc mask (lp mask h l).1+1-(lp mask h l).1)).find? λk=>(owner.getD ((lp mask h l).1+k) (Z 0)).isNone with
  |some k=>
   rw[c]at e;cases e;obtain⟨h1,h2,f⟩:=List.find?_range_eq_some.mp c;rw[dt]at h2;refine⟨s+k,by omega,?_,h1,λm g=>?_⟩
   ·rw[yD hs k ()]
   ·by_cases q:m<s
    ·exact ho m q
    ·have d:=f (m-s) ();rw[show m=s+(m-s) by omega,yD hs (m-s) ()];simpa[Q8]using d
  |none=>
   rw[c]at e;have f:=mm.mp c;obtain⟨n,a,b⟩:=Io fuel (l+1) _ j (YM hs) () (λm g=>by
    by_cases q:m<s
    ·exact ho m q
    ·have d:=f (m-s) ();rw[show m=s+(m-s) by omega,yD hs (m-s) ()];simpa[Q8]using d) e
   exact⟨n,by omega,b⟩
theorem Ip{mask:Nat}{h:Int}{owner:Array (S Nat)}:∀(fuel l:Nat),dq.free mask owner fuel (lp mask h l).1 (lp mask h l).2=U->∀a,l<=a->a<l+fuel->Q8 owner (lp mask h a).1
 |0,l,_,a,h1,h2=>by omega
 |fuel+1,l,e,a,h1,h2=>by
  have f:=Kh mask (lp mask h l).1;unfold dq.free at e;cases b:(dg (dc mask (lp mask h l).1+1-(lp mask h l).1)).find? λk=>(owner.getD ((lp mask h l).1+k) (Z 0)).isNone with
  |some k=>rw[b]at e;cases e
  |none=>
   rw[b]at e;have d:=mm.mp b;by_cases q:a=l
   ·subst q;have c:=d 0 ();simpa[Q8]using c
   ·exact Ip fuel (l+1) e a () ()
structure Ow (mask:Nat) (hs:List Int) (owner:Array (Option Nat)):Prop where
 size:owner.size=mask+1
 lt:∀(j idx:Nat),owner[j]?=some (some idx)->idx<hs.length
 all:∀(idx:Nat) h,hs[idx]?=some h->∃j,owner[j]?=some (some idx)/\∃n,n<10*ef mask/\(Gj mask h n).j=j/\∀m,m<n->Q8 owner (Gj mask h m).j
 inj:∀(j j' idx:Nat),owner[j]?=some (some idx)->owner[j']?=some (some idx)->j=j'
theorem i9(o:Ow mask hs owner)(c:j<=mask):Q8 owner j↔∃a,owner[j]?=Z (Z a):=by
 unfold Q8;have b:j<owner.size:=by rw[o.size];omega
 rw[gD,QR b];cases owner[j]with
 |none=>simp
 |some i=>simp
theorem V9{f:Nat->Nat}:∀{xs:O Nat},xs.Nodup->(∀x∈xs,∀y∈xs,f x=f y->x=y)->(xs.map f).Nodup:=λ{xs} hn hi=>
 fO.mpr (Y2 (λc b a e=>a (hi _ c _ b e)) hn)
theorem Pp(o:Ow mask hs owner)(g:hs.length<=mask):∃r,r<mask+1/\¬ Q8 owner r:=by
 by_cases q:∃r,r<mask+1/\¬ Q8 owner r
 ·exact q
 ·exfalso;have all:∀r,r<mask+1->∃b,owner[r]?=Z (Z b):=λr a=>by
   by_cases d:Q8 owner r
   ·exact(i9 o ()).mp d
   ·exact absurd ⟨r,a,d⟩ q
  have f:∀r,r<mask+1->owner[r]?=Z (Z ((owner[r]?.getD U).getD 0)):=λr a=>by
   obtain⟨b,e⟩:=all r a;rw[e];rfl
  have:=YK ((dg (mask+1)).map λr=>(owner[r]?.getD U).getD 0) (dg hs.length) (V9 mr λx hx y c e=>by
   rw[dt]at hx c;have e1:=f x hx;have e2:=f y c;rw[e]at e1;exact o.inj x y _ e1 e2) λx hx=>by
    obtain⟨r,a,rfl⟩:=cc.mp hx;rw[dt]at a;exact dt.mpr (o.lt r _ (f r a))
  rw[zi,YO,YO]at this;omega
theorem fN(f:Ct mask)(o:Ow mask hs owner)(t:hs.length<=mask)(h:Int):
  ∃j,dq.free mask owner (ef mask) (da h%(mask+1)) (da h)=Z j/\Ow mask (hs++[h]) (owner.setIfInBounds j (Z hs.length)):=by
 obtain⟨r,u,v⟩:=Pp o t;cases s:dq.free mask owner (ef mask) (da h%(mask+1)) (da h)with
 |none=>
  obtain⟨l,A,e⟩:=f h r u;have:=Ip (h:=h) (owner:=owner) (ef mask) 0 s l (qi _) (by unfold ef;omega);rw[e]at this;exact absurd this v
 |some j=>
  obtain⟨n,h1,h2,i,w⟩:=Io (h:=h) (owner:=owner) (ef mask) 0 0 j X9 (zl _) (λm f=>absurd f (yA _)) s;rw[K0]at h1;have B:j<=mask:=by rw[<-h2];exact No h n
  have x:j<owner.size:=by rw[o.size];omega
  have get:∀k:Nat,(owner.setIfInBounds j (Z hs.length))[k]?=if k=j then Z (Z hs.length)else owner[k]?:=λk=>by
   rw[Array.getElem?_setIfInBounds];by_cases q:k=j
   ·rw[zk q,zk q.symm,zk x]
   ·rw[zw q,zw (λe=>q e.symm)]
  have old:∀k d:Nat,owner[k]?=Z (Z d)->k≠j:=λk d e q=>by
   subst q;rw[gD,e]at i;cases i
  have p:∀k,Q8 owner k->Q8 (owner.setIfInBounds j (Z hs.length)) k:=λk q=>by
   unfold Q8 at q ⊢;rw[gD]at q ⊢;rw[get];by_cases e:k=j
   ·rw[zk e];rfl
   ·rw[zw e];exact q
  refine⟨j,rfl,⟨by rw[Array.size_setIfInBounds];exact o.size,λk d e=>?_,λd g e=>?_,λa b d e1 e2=>?_⟩⟩
  ·rw[get]at e;rw[Zp];by_cases q:k=j
   ·rw[zk q]at e;cases e;simp
   ·rw[zw q]at e;have:=o.lt k d e;simp;omega
  ·by_cases q:d<hs.length
   ·rw[ZH q]at e;obtain⟨k,e1,y,a,b,c⟩:=o.all d g e;exact⟨k,by rw[get,zw (old k d e1)];exact e1,y,a,b,λm f=>p _ (c m f)⟩
   ·rw[Z3 ()]at e;have:d-hs.length=0:=by
     by_cases z:d-hs.length=0
     ·exact z
     ·rw[qk (by simp;omega)]at e;cases e
    rw[this]at e;cases e;have:d=hs.length:=by omega
    subst this;exact⟨j,by rw[get,zk rfl],n,h1,h2,λm f=>p _ (w m f)⟩
  ·rw[get]at e1 e2;by_cases q1:a=j
   ·by_cases q2:b=j
    ·rw[q1,q2]
    ·rw[zk q1]at e1;rw[zw q2]at e2;cases e1;have:=o.lt b _ e2;omega
   ·by_cases q2:b=j
    ·rw[zw q1]at e1;rw[zk q2]at e2;cases e2;have:=o.lt a _ e1;omega
    ·rw[zw q1]at e1;rw[zw q2]at e2;exact o.inj a b d e1 e2
theorem RF(mask:Nat):Ow mask [] (oe (mask+1) U):=by
 have no:∀(j a:Nat),(oe (mask+1) (U:S Nat))[j]?≠Z (Z a):=λj a e=>by
  rw[Array.getElem?_replicate]at e;split at e<;>cases e
 exact⟨Array.size_replicate,λj a e=>absurd e (no j a),λa h e=>by simp at e,λj b a e=>absurd e (no j a)⟩
theorem PU(f:Ct mask)(hs:O Int)(b:hs.length<=mask):∃owner,dq mask hs.toArray=Z owner/\Ow mask hs owner:=by
 have g:∀(ys xs:O Int) (owner:Array (S Nat)),Ow mask xs owner->xs.length+ys.length<=mask->∃d,ys.foldl (λ(l:S (Array (S Nat)×Nat)) h=>do
   let (owner,k) <-l
   let j <-dq.free mask owner (ef mask) (da h%(mask+1)) (da h)
   pure (owner.setIfInBounds j (Z k),k+1)) (Z (owner,xs.length))=Z (d,xs.length+ys.length)/\Ow mask (xs++ys) d:=by
  intro ys
  induction ys with
  |nil=>intro xs owner o _;exact⟨owner,rfl,by rw[Qb];exact o⟩
  |cons y ys i=>
   intro xs owner o b;rw[ZZ]at b;obtain⟨j,e,o'⟩:=fN f o () y;obtain⟨a,e2,c⟩:=i (xs++[y]) _ o' (by simp;omega);refine⟨a,?_,by rw[qq]at c;exact c⟩;rw[QA];simp only[Option.bind_eq_bind,JJ,e,pure];rw[show(xs++[y]).length=xs.length+1 by simp]at e2;rw[ZZ,show xs.length+(ys.length+1)=xs.length+1+ys.length by omega];exact e2
 obtain⟨a,e,o⟩:=g hs [] _ (RF mask) (by simpa using b);refine⟨a,?_,by simpa using o⟩;unfold dq;rw[List.foldl_toArray];exact congrArg (Option.map (·.1)) e
theorem J5{α β:Type}{f:α->S β}{g:α->β}:∀{xs:O α},(∀x∈xs,f x=Z (g x))->xs.filterMap f=xs.map g
 |[],_=>rfl
 |x::xs,h=>by
  rw[KL,h x (zg ..),zr,J5 λy a=>h y (zh _ a)]
end S6
namespace S6
open P1 L2
abbrev XO(prog:A4)(w:A5)(ks:O AZ):Int:=tupleKeyHash (cG prog w) ks
def TE(prog:A4)(w:A5)(h:A7)(z:O AZ×A2)(e:Int×A1):Prop:=e=(XO prog w z.1,.ref z.2)/\IsTupleKey (cG prog w) h z.1 z.2
theorem least(p:Nat->Prop):∀(k n:Nat),p (n+k)->∃d,d<=k/\p (n+d)/\∀m,n<=m->m<n+d->¬ p m
 |0,n,h=>⟨0,zl _,h,λm h1 h2=>absurd h2 ()⟩
 |k+1,n,h=>by
  by_cases q:p n
  ·exact⟨0,qi _,q,λm h1 h2=>absurd h2 ()⟩
  ·obtain⟨d,h1,h2,c⟩:=least p k (n+1) (by rw[show n+1+k=n+(k+1) by omega];exact h);refine⟨d+1,by omega,by rw[show n+(d+1)=n+1+d by omega];exact h2,λm a b=>?_⟩;by_cases e:m=n
   ·rw[e];exact q
   ·exact c m () ()
end S6
namespace S1
open L2
end S1
namespace S6
end S6
namespace S1
def B4:Nat->StateT SortSt Sem Unit:=sortPriv% PySem.Builtin.setMinGallop
section
variable{b:Array Keyed}
end
section
variable(le:Keyed->Keyed->Prop)
variable{le}{out xs ys:O Keyed}
end
section
variable{b:Array Keyed}
abbrev Le(rk:A1->Nat):Keyed->Keyed->Prop:=λp q=>rk p.1<=rk q.1
section
variable{x y:Array Keyed}
abbrev l6:=S (Array Keyed)×Array Keyed×Nat×Nat×Nat×Nat×Nat
section
variable{P:ForInStep l6->SortSt->Prop}
end
abbrev brk(o:S α)(f:α->StateT SortSt Sem β)(g:Unit->StateT SortSt Sem β):StateT SortSt Sem β:=Break.runK.match_1 (motive:=λ_=>StateT SortSt Sem β) o f g
section
variable{a b c:Type}
end
end
end
section
variable{b:Array Keyed}
variable{x y:Array Keyed}
abbrev Oy:=S (Array Keyed)×Nat×Nat×Array Keyed×Nat×Nat×Nat
section
variable{P:ForInStep Oy->SortSt->Prop}
end
end
section
variable{b:Array Keyed}
end
section
variable(rk:A1->Nat)(lo:Nat)
abbrev al(xs:Array Keyed)(i:Nat):Nat:=at_ rk xs (lo+i)
def NX(xs:Array Keyed)(k:Nat):Prop:=∀i j,i<=j->j<k->al rk lo xs j<=al rk lo xs i
end
section
variable{b:Array Keyed}{lo:Nat}{u:SortSt}
theorem grow{xs ys:Array Keyed}{x:Nat}(dn:NX rk lo xs x)(hk:∀k,al rk lo ys k=al rk lo xs k)(c:1<=x->al rk lo xs x<=al rk lo xs (x-1)):NX rk lo ys (x+1):=λi j a d=>by
 rw[hk,hk];by_cases hx:j<x
 ·exact dn i j a hx
 ·have b:j=x:=by omega
  subst b;by_cases hi:i=j
  ·rw[hi];exact zl _
  ·have:=dn i (j-1) () ();have:=c ();omega
end
section
variable(rk:A1->Nat)
def Ds:Nat->O (O Keyed)->O (Nat×Nat×Nat)->Prop
 |_,[],[]=>True
 |lo,g::gs,(a,n,_)::ps=>a=lo/\n=g.length/\g≠[]/\g.Pairwise (Le rk)/\Ds (lo+g.length) gs ps
 |_,_,_=>False
variable{rk}
end
section
variable{b:Array Keyed}
structure St (rk:Value->Nat) (kd:SortKind) (b:Array Keyed) (R:List Keyed) (gs:List (List Keyed)) (t:SortSt):Prop where
 kd:kindOf t=kd
 fl:failedOf t=none
 pm:(arrOf t).Perm b
 ar:(arrOf t).toList=gs.flatten++R
 ds:Ds rk 0 gs (pendingOf t).toList
end
end S1
namespace S6
open PySem
theorem T6{finger moves:Nat}{led plain:Bool}{es:Array (Int×A1)}(w:Ct mask)(B:es.size<=mask):
  ∃t' n,kW mask finger moves (led:=led) (plain:=plain) (es.map (·.1))=Z (t',n)/\(n.filterMap (es[·]?)).toList.Perm es.toList/\t'.place.size=es.size/\t'.dummies=#[]/\t'.mask=mask/\t'.led=led/\t'.plain=plain:=by
 have hs:(es.toList.map (·.1)).length=es.size:=by simp
 obtain⟨c,e,o⟩:=PU w (es.toList.map (·.1)) ();have ea:es.map (·.1)=(es.toList.map (·.1)).toArray:=by
  apply Array.ext';simp
 let L:O (Nat×Nat):=(dg (mask+1)).filterMap λj=>(c.getD j U).map λk=>(j,k)
 have d:∀j k,(j,k)∈L↔c[j]?=Z (Z k):=λj k=>by
  show(j,k)∈List.filterMap _ _↔_;rw[eG];constructor
  ·rintro⟨a,f,q⟩;rw[gD]at q;cases h1:c[a]? with
   |none=>rw[h1]at q;cases q
   |some x=>
    rw[h1]at q;cases x with
    |none=>cases q
    |some y=>cases q;exact h1
  ·intro q;refine⟨j,dt.mpr ?_,?_⟩
   ·by_cases h:j<c.size
    ·rw[<-o.size];exact h
    ·rw[ya ()]at q;cases q
   ·rw[gD,q];rfl
 have A:L.Pairwise λa b=>a.1<b.1:=by
  refine List.pairwise_filterMap.mpr (List.pairwise_lt_range.imp λ{a b} hab x hx y hy=>?_);cases h1:c.getD a U with
  |none=>rw[h1]at hx;cases hx
  |some u=>
   cases h2:c.getD b U with
   |none=>rw[h2]at hy;cases hy
   |some v=>rw[h1]at hx;rw[h2]at hy;cases hx;cases hy;exact hab
 have t:(L.map (·.2)).Nodup:=by
  refine fO.mpr (Y2 (λ{a b} f hb hab e=>?_) A);have h1:=(d a.1 a.2).mp f;have h2:=(d b.1 b.2).mp hb;rw[e]at h1;have:=o.inj _ _ _ h1 h2;omega
 have l:(L.map (·.2)).Perm (dg es.size):=yC t mr λz=>by
  rw[cc,dt];constructor
  ·rintro⟨a,f,rfl⟩;have:=o.lt _ _ ((d a.1 a.2).mp f);omega
  ·intro C;obtain⟨j,h1,_⟩:=o.all z ((es.toList.map (·.1))[z]'()) (zo ());exact⟨(j,z),(d j z).mpr h1,rfl⟩
 let g:Nat->Int×A1:=λk=>es.getD k (0,.none)
 have s:∀k,k<es.size->es[k]?=Z (g k):=λk hk=>by
  show _=Z (es.getD k _);rw[gD,QR hk];rfl
 have m:(L.map (·.2)).filterMap (λk=>es[k]?)=(L.map (·.2)).map g:=J5 λk hk=>s k (dt.mp (l.mem_iff.mp hk));have eL:((L.map (·.2)).toArray.filterMap (λk=>es[k]?)).toList=L.map λp=>g p.2:=by
  rw[mx,m,ZY];rfl
 refine⟨{ mask:=mask,place:=(L.map (·.1)).toArray,dummies:=#[],finger:=finger,led:=led,moves:=moves,plain:=plain },(L.map (·.2)).toArray,?_,?_,?_,rfl,rfl,rfl,rfl⟩
 ·unfold kW;rw[ea,e];rfl
 ·rw[mx,m];refine(l.map g).trans ?_;have:(dg es.size).map g=es.toList:=by
   apply YU;intro i;rw[zI];by_cases h:i<es.size
   ·rw[y0 h,Kb,s i h];rfl
   ·rw[qk (by simp;omega),qk (by simp;omega)];rfl
  rw[this]
 ·have:=l.length_eq;rw[zi,YO]at this;simpa using this
end S6
namespace P1
open L2 S6
def lB:An->An
 |[]=>[]
 |y::ys=>if y∈ys then lB ys else y::lB ys
theorem qC:∀{ys:An} {z:AK},z∈lB ys↔z∈ys
 |[],z=>by simp[lB]
 |y::ys,z=>by
  unfold lB;split
  ·rename_i h;rw[qC,js];exact⟨.inr,λq=>q.elim (λe=>e▸h) id⟩
  ·rw[js,qC,js]
theorem BX:∀(ys:An),(lB ys).Nodup
 |[]=>by simp[lB]
 |y::ys=>by
  unfold lB;split
  ·exact BX ys
  ·rename_i h;exact cT.mpr ⟨λq=>h (qC.mp q),BX ys⟩
theorem Nt:∀(ys:An),(lB ys).length<=ys.length
 |[]=>by simp[lB]
 |y::ys=>by
  have:=Nt ys;unfold lB;split<;>simp<;>omega
theorem Af:∀{vs:O A1} {ys:An},StrsAre vs ys->∀(i:Nat) (v:A1),vs[i]?=Z v->∃y t,ys[i]?=Z y/\v=.str y t
 |_,_,.nil,i,v,h=>by simp at h
 |_,_,.cons y t r,0,v,h=>by simp at h;exact⟨y,t,rfl,h.symm⟩
 |_,_,.cons y t r,i+1,v,h=>by
  obtain⟨z,t',e,a⟩:=Af r i v (by simpa using h);exact⟨z,t',by simpa using e,a⟩
theorem Ag{prog:A4}{w:A5}:∀{ys:An} {l:O (Int×A1)},AJ (Dq prog w) ys l->StrsAre (l.map (·.2)) ys
 |_,_,.nil=>.nil
 |_,_,.cons r t=>by obtain⟨tk,rfl⟩:=r;exact .cons _ _ (Ag t)
theorem Km:∀{l c:O A1},c.Perm l->∀{ys:An},StrsAre l ys->∃d,d.Perm ys/\StrsAre c d:=by
 intro l c hp
 replace hp:=hp.symm
 induction hp with
 |nil=>intro ys h;exact⟨ys,.refl _,h⟩
 |cons x _ j=>intro ys h;cases h with|cons y k t=>obtain⟨zs,z1,z2⟩:=j t;exact⟨y::zs,z1.cons _,.cons y k z2⟩
 |swap x y l=>intro ys h;cases h with|cons a k t=>cases t with|cons b m e=>exact⟨_,List.Perm.swap _ _ _,.cons b m (.cons a k e)⟩
 |trans _ _ n i=>intro ys h;obtain⟨zs,z1,z2⟩:=n h;obtain⟨us,g,f⟩:=i z2;exact⟨us,g.trans z1,f⟩
section
def DB(X:Cx)(a:A2)(zs:An):HO:=.ext λh=>Tx X.prog X.w h a zs
def SE(X:Cx):O V->Hp->VK->Prop:=λxs H Q=>∃v b ds ys,xs=[v]/\bh X.K H b v/\ux b=Z ds/\qw ds=Z ys/\ys.length<4000/\∀a zs H',AW H H'->H' a=Z (DB X a zs)->(∀z,z∈zs↔z∈ys)->zs.Nodup->Q (.ref a) H'
theorem Nu{S:A2}(hs:StrsAre AS ys)(x:ys.length<4000):EM X.prog X.w S [S+1] (λh zs=>Tx X.prog X.w h S zs) (λi v=>AS.toArray[i]?=Z v) (λi=>ys.getD i "") AS.length where
 keep:=λh h' zs t k=>t.keep λo e=>k S o (by simp only[js,ke,or_false];exact zS (qV _)) e
 add:=λA E s i v zs Q _ hi j f z h=>by
  obtain⟨y,t,a,rfl⟩:=Af hs i v (by simpa using j);have u:i<ys.length:=by
   rcases Nat.lt_or_ge i ys.length with q|q
   ·exact q
   ·rw[qk q]at a;cases a
  have n:ys.getD i ""=y:=by simp[List.getD,a]
  unfold setAdd;refine qa (zb ((strKind X.prog X.w).pyHash (strKind_is X.prog X.w y t) ?_));have g:scanBound=4096:=rfl;refine Np (s:={ s with toks:=s.toks+1 }) f (by rw[g];omega) λb h' p c d m l=>?_;exact h b h' _ p c d (by rw[n];exact m) () (kz _)
theorem Wl(hc:X.calm=true)(hu:X.A.units+100<cLine):gq X (.type "set") (SE X):=by
 intro AO s σ H xs us Q I r h;obtain⟨v,b,ds,ys,rfl,rb,ed,ey,M,q⟩:=h;obtain⟨u,rfl,ru⟩:=BG r;obtain⟨p,vs,rfl,sq,W⟩:=Ka rb ed;obtain⟨rfl,hy⟩:=m9 W ey;cases ru;have N:=I.ok.hd hc;have K:∀(h':A7) (tk:Nat) (zs:An) (AS:O A1),StrsAre AS ys->AS.length=ys.length->Tx X.prog X.w h' s.heap.objs.size zs->(∀z,z∈zs↔∃j,j<AS.length/\z=ys.getD j "")->(∀b D,s.heap.get? b=Z D->h'.get? b=Z D)->EP X AO σ Q (.ref s.heap.objs.size) { s with heap:=h',toks:=tk }:=by
  intro h' tk zs AS _ l tx C k;have a3:=I.hok.fresh (zl s.heap.objs.size);refine⟨.ref s.heap.objs.size,_,I.laid (t':=tk) (a:=s.heap.objs.size) (o:=DB X s.heap.objs.size zs) k (zl _) ?_,rfl,q _ zs _ (bC a3) aF (λz=>?_) ?_⟩
  ·obtain⟨o,es,ep,t,L,_⟩:=id tx;exact⟨tx,⟨o,L⟩,λh1 h2 t1 k1=>Tx.keep t1 k1⟩
  ·rw[C z];constructor
   ·rintro⟨j,y,rfl⟩;rw[l]at y;simp[List.getD,y]
   ·intro J;obtain⟨j,y,e⟩:=KG J;exact⟨j,by rw[l];exact y,by simp[List.getD,y,e]⟩
  ·obtain⟨o,es,ep,t,L,_,_,x⟩:=tx;exact x.nd
 rcases sq with sq|sq
 ·obtain⟨AS,m,pl,J⟩:=I.list sq;have hs:=nR m;have l:AS.length=ys.length:=by rw[<-m.length,zi]
  obtain⟨o,g,c,n,d⟩:=pl.isList;refine YJ () (T :="list") N g c (.inl X9) (P:=λi v=>AS.toArray[i]?=Z v) (n:=AS.length) (λG Y Q' h0 B f E=>?_) (Nu hs M) (λh' e k=>?_) λh' tk zs tx C k=>K h' tk zs AS hs l tx C k
  ·refine YN (items:=AS.toArray) ⟨o,f _ _ g,c,n,d⟩ ?_;have F:p≠h0.objs.size:=zS (zz (f _ _ g));refine E _ (λi h=>h.IsListIter h0.objs.size p i/\h.IsList p AS.toArray) (λG B=>by have:=Walks.list (prog:=X.prog) (w:=X.w) B h0.objs.size p F AS.toArray;rw[zC]at this;exact this) ⟨⟨_,zt _ rfl,rfl,rfl⟩,⟨o,ze _ (f _ _ g),c,n,d⟩⟩ λb D e=>ze _ e
  ·exact⟨_,#[],0,_,e,⟨rfl,rfl,rfl⟩,rfl,.nil,Kk,rfl,λq=>by simp[ei,q],λq=>absurd q (jS _)⟩
 ·obtain⟨AS,m,pl,J⟩:=I.tuple sq;have hs:=nR m;have l:AS.length=ys.length:=by rw[<-m.length,zi]
  obtain⟨o,g,c,n,d⟩:=id pl;refine YJ () (T :="tuple") N g c (.inr X9) (P:=λi v=>AS.toArray[i]?=Z v) (n:=AS.length) (λG Y Q' h0 B f E=>?_) (Nu hs M) (λh' e k=>?_) λh' tk zs tx C k=>K h' tk zs AS hs l tx C k
  ·refine wpAny_pyIter_tuple (items:=AS.toArray) ⟨o,f _ _ g,c,n,d⟩ ?_;have F:p≠h0.objs.size:=zS (zz (f _ _ g));refine E _ (λi h=>h.IsTupleIter h0.objs.size p i/\h.IsTuple p AS.toArray) (λG B=>by have:=Walks.tuple (prog:=X.prog) (w:=X.w) B h0.objs.size p F AS.toArray;rw[zC]at this;exact this) ⟨⟨_,zt _ rfl,rfl,rfl⟩,⟨o,ze _ (f _ _ g),c,n,d⟩⟩ λb D e=>ze _ e
  ·exact⟨_,#[],0,_,e,⟨rfl,rfl,rfl⟩,rfl,.nil,Kk,rfl,λq=>by simp[ei,q],λq=>absurd q (jS _)⟩
theorem Q9(I:AV X AO σ H s)(h:H a=Z (DB X a zs)):Tx X.prog X.w s.heap a zs:=(I.hok _ _ h).1
theorem Ir{d:Drawn}(I:AV X AO σ H s):AV X AO σ H { s with drawn:=d }:=⟨I.ok,I.os,I.bare,I.base,I.loc,I.cell,I.free,I.ju,I.pin,I.hok,I.len⟩
def lS(X:Cx):O V->Hp->VK->Prop:=λxs H Q=>∃a zs,xs=[.ref a]/\H a=Z (DB X a zs)/\zs.length<64/\(∀z∈zs,z.length<=AB)/\∀l H',AW H H'->H l=U->H' l=Z (.lst ((bH zs).map V.str))->Q (.ref l) H'
theorem hJ(K:X.calm=true):gq X (.builtin "sorted") (lS X):=by
 intro AO s σ H xs us Q I r h;obtain⟨a,zs,rfl,z,W,Y,q⟩:=h;obtain⟨u,rfl,G⟩:=BG r;cases G;obtain⟨o,es,ep,t,E,v,L,x⟩:=Q9 I z;have B:=x.size;have y:Wk X.w s.heap a es ep t:=⟨⟨o,E,v.1,L⟩,x.fit,x.led,.inl λq=>x.non ()⟩;refine Calls.call_function_entry kind_sorted plain_sorted entry_sorted (args_sorted1 _) ?_;unfold Builtin.«sorted»;refine zb (m:=checkCount "sorted" 1 1 _) (zd (zb (Nm (by exact I.ok.hd K) y (by rw[B,sizeLine_eq];omega) λc h1 d tk hp p ext=>?_)));obtain⟨ys,M,g⟩:=Km hp (Ag x.rel);have N:c.length<64:=by rw[hp.length_eq];simp;omega
 refine zb (wpAny_newList ?_);have i:(h1.push (seqObj "list" c.toArray 0)).get? h1.objs.size=Z (seqObj "list" c.toArray 0):=zt _ rfl;refine zb (qa (JI slot_list_sort ⟨_,i,rfl⟩ entry_list_sort (list_sort_treeK strKind_oneLt i g.keysOf (λP a3 AT e=>keyKind_strs (by rw[<-e];exact g)) N λf a1 a2=>⟨_,rfl,zd ⟨_,rfl,?_⟩⟩) (args_list_sort _)));obtain⟨us,A,J,F⟩:=sorted_out_str g a1 a2;obtain⟨n,en⟩:=sortedHeap_at (out:=(AN f).map (·.2)) i;have D:=M6 (J.trans M) F;subst D;have l:=I.hok.fresh (a:=h1.objs.size) p;have C:=Ir (d:=d) (I.laid (t':=tk) (a:=h1.objs.size) (o:=.lst ((bH zs).map V.str)) (h':=sortedHeap (h1.push (seqObj "list" c.toArray 0)) h1.objs.size c ((AN f).map (·.2))) (λb o e=>by
  have e1:=ext b o e;have j:=zz e1;rw[sortedHeap_old (zS j) (by rw[qB];exact QQ j)];exact ze _ e1) p ⟨by rw[zi,(aX _).length_eq,sizeLine_eq];omega,((AN f).map (·.2)).toList,n,vC A,by rw[en]⟩)
 exact⟨.ref h1.objs.size,_,C,rfl,q _ _ (bC l) l aF⟩
def tS(X:Cx)(f:Ev->S An):TE:=λσ H Q=>∃H0 ρ ys,aV X.K H0 H σ ρ/\f ρ=Z ys/\ys.length<4000/\∀a zs H',AW H H'->H' a=Z (DB X a zs)->(∀z,z∈zs↔z∈ys)->zs.Nodup->(∀z∈zs,z.length<=AB)->Q (.ref a) H'
def ID(X:Cx)(e:Expr)(f:Ev->S An):Prop:=PE X e (tS X f)
def YX(b:Bx):S An:=(ux b).bind qw
variable{fs:Ev->S An}{p:Pos}
theorem WU(s:X.calm=true)(n:X.A.units+100<cLine)(y:Gl X "set")(t:X.mg "set"=U)(o:PV X e f)(he:AA (e::[]) X.env=(false,eval e X.env)::AA [] X.env:=by rfl):ID X (.Call (.Name "set" p) [e] [] pos) (λρ=>(f ρ).bind YX):=by
 refine JQ (Hx (T :="set") (Wl s n) y t X9 (bI o eY he) (he:=he)) λσ H Q h=>?_;obtain⟨H0,ρ,ys,E,c,x,q⟩:=h;obtain⟨b,eb,c⟩:=AU c;obtain⟨ds,i,d⟩:=AU c;refine⟨H0,ρ,b,E,eb,λv H1 l C g=>⟨v,b,ds,ys,rfl,g,i,d,x,λa zs H2 w e2 m j=>?_⟩⟩;refine q a zs H2 (l.trans w) e2 m j λz B=>?_;obtain⟨p',vs,rfl,sq,u⟩:=Ka g i;exact(m9 u d).2 z ((m z).mp B)
theorem V'(n:X.calm=true)(v:Gl X "sorted")(s:X.mg "sorted"=U)(j:ID X e fs)(he:AA (e::[]) X.env=(false,eval e X.env)::AA [] X.env:=by rfl):PV X (.Call (.Name "sorted" p) [e] [] pos) (λρ=>(fs ρ).bind λys=>if ys.length<4000/\(lB ys).length<64 then Z (.o ((bH (lB ys)).map Dt.str))else U):=by
 refine JQ (jD (id :="sorted") (hJ n) v s X9 (bI j eY he) (he:=he)) λσ H Q h=>?_;obtain⟨H0,ρ,b,E,c,q⟩:=h;obtain⟨ys,i,c⟩:=AU c;split at c
 ·rename_i w;cases c;refine⟨H0,ρ,ys,E,i,by omega,λa zs H1 f e1 m d g=>⟨a,zs,rfl,e1,?_,g,λl H2 t u e2=>?_⟩⟩
  ·have:=(yC d (BX ys) λz=>by rw[m z,qC]).length_eq;omega
  ·have pm:=yC d (BX ys) λz=>by rw[m z,qC]
   have es:bH zs=bH (lB ys):=yt ((aX zs).trans (pm.trans (aX _).symm)) (fu zs) (fu _);rw[es]at e2;exact q _ H2 (f.trans t) (λa ea=>by cases ea;exact f.free u) ⟨l,_,rfl,e2,nQ λy h=>g y (pm.mem_iff.mpr ((aX _).mem_iff.mp h))⟩
 ·cases c
end
theorem Wa{Q:B8}(h:Q (.ref s.heap.objs.size) { s with heap:=s.heap.push (BH w) }):A8 (A9 prog w) A (newSet (.type "set")) Q E s:=by
 unfold newSet;refine zb (j4 ?_);simp only[newObj];exact zb (wpAny_alloc (zd h))
section
variable{ts:An}
end
theorem Nv:∀{ds:O Dt} {ys:An},qw ds=Z ys->ds=ys.map Dt.str
 |[],_,e=>by cases e;rfl
 |.str x::ds,_,e=>by
  simp only[qw]at e;obtain⟨ys,e1,e2⟩:=AU e;cases e2;rw[zr,<-Nv e1]
 |.non::_,_,e=>by cases e
 |.bl _::_,_,e=>by cases e
 |.int _::_,_,e=>by cases e
 |.tup _::_,_,e=>by cases e
 |.lst _::_,_,e=>by cases e
 |.emp::_,_,e=>by cases e
section
structure FC (X:Cx) (e:Expr) (f:Ev->Option An):Prop where
 run:ID X e f
def Dr(f:Ev->S Bx):Ev->S An:=λρ=>(f ρ).bind YX
def Du(fs:Ev->S An):Ev->S Bx:=λρ=>(fs ρ).bind λys=>if ys.length<4000/\(lB ys).length<64 then Z (.o ((bH (lB ys)).map Dt.str))else U
variable{fs:Ev->S An}{p':Pos}
theorem BZ(c:X.calm=true)(a:X.A.units+100<cLine)(g:Gl X "set")(d:X.mg "set"=U)(b:QV X e f)(he:AA (e::[]) X.env=(false,eval e X.env)::AA [] X.env:=by rfl):FC X (.Call (.Name "set" p') [e] [] pos) (Dr f):=⟨WU c a g d b.run he⟩
theorem T7(a:X.calm=true)(b:Gl X "sorted")(d:X.mg "sorted"=U)(c:FC X e fs)(he:AA (e::[]) X.env=(false,eval e X.env)::AA [] X.env:=by rfl):QV X (.Call (.Name "sorted" p') [e] [] pos) (Du fs):=⟨V' a b d c.run he⟩
end
end P1
namespace P1
open L2 S1 S6
section
variable [DecidableEq α]
end
section
def Gc(ks:O AZ):Bool:=ks.any λk=>k.isRight
variable{fs:Ev->S (O (O AZ))}{p:Pos}
end
end P1
namespace P1
open L2
def Dv:Bx->Bx->S Bx
 |.z (.str k),.z d=>Z (.z (.tup [.str k,d]))
 |_,_=>U
theorem Ra{a:Bx}{y:Dt}(h:Dv a b=Z (.z y)):∃k d,a=.z (.str k)/\b=.z d/\y=.tup [.str k,d]:=by
 unfold Dv at h;split at h
 ·cases h;exact⟨_,_,rfl,rfl,rfl⟩
 ·cases h
def LI(AQ:O (AZ×Dt)):Dt->O (AZ×Dt)
 |.tup [.str k,d]=>J8 AQ (.inr k) d
 |_=>AQ
def dictOf(out:O Dt):O (AZ×Dt):=out.foldl LI []
theorem Nx(out:O Dt)(k:AK)(d:Dt):dictOf (out++[.tup [.str k,d]])=J8 (dictOf out) (.inr k) d:=by
 unfold dictOf;rw[ny];rfl
theorem Wb{AQ:O (AZ×V)}{k:AZ}{r:A1}(I:L2.AV X AO σ H s)(e:H a=Z (.dK AQ))(l:AQ.length<AB)(g:At (kV k) u)(i:At v r)(h:∀s',L2.AV X AO σ (B1 H a (.dK (BD AQ k v))) s'->Q gl s'):
  A8 (db X) A (dictSet a u r) Q E s:=by
 obtain⟨z,f,vs,c,m⟩:=Xo I.hok e;have n:vs.length<=AB:=by rw[<-c.length];exact z
 have j:(BD AQ k v).length<=AB:=by have:=lg AQ k v;omega
 refine wpAny_dictSet_pairs (hsz:=n) (Hz g) m λh' b hs=>h _ ?_;have d:∃q,h'.get? a=Z q:=let ⟨q,_,_,hq,_⟩:=b;⟨q,hq⟩;exact Bq I (by rw[e];exact True.intro) hs d (Qs j f (c.put k i) b)
section
variable{kx vx:Expr}{ts:An}
def EV(K:B5)(_:A2)(H:Hp)(a:O Dt)(o:HO):Prop:=∃us,o=.dK us/\fY K H (dictOf a) us/\us.length<=a.length
theorem EV.kp{K:B5}{D:A2}{H H':Hp}{a:O Dt}{o:HO}(k:Kp H H'):EV K D H a o->EV K D H' a o:=λ⟨us,e,r,z⟩=>⟨us,e,r.kp k,z⟩
theorem ie(hk:PV X kx fk)(L:PV X vx fv):Qw X (λD env=>do let f <-eval kx env;let vv <-holding [f] (eval vx env);standAt { kx.pos with endLine:=vx.pos.endLine,endCol:=vx.pos.endCol };holding [f,vv] (dictSet D f vv)) (Yg (b2 Dv fk fv)) (EV X.K) 999 n:=by
 refine X7 λAO s σ H H0 ρ D o o1 ys I En eb hD ⟨us,e,r4,hl⟩ hi=>?_;subst e;obtain⟨b,e0,e1⟩:=AU eb;obtain⟨y,rfl,rfl⟩:=zj e1;obtain⟨bk,q,eb⟩:=AU e0;obtain⟨Q,C,eb⟩:=AU eb;obtain⟨c,w,rfl,rfl,rfl⟩:=Ra eb;refine zb (ZA (hk AO s σ H (λv a=>AW H a/\bh X.K a (.z (.str c)) v) I ⟨H0,ρ,_,En,q,λv a g _ d=>⟨g,d⟩⟩) (λf E i=>?_) λ_ _ z=>z);obtain⟨u,m,N,rk,l,A⟩:=i;refine zb (qa (ZA (L AO E σ m (λv a=>AW m a/\AX X.K a w v) N ⟨H0,ρ,_,En.grow l,C,λv a g _ d=>⟨g,d⟩⟩) (λv g i=>?_) λ_ _ z=>z));obtain⟨h,a,B,t,F,d⟩:=i;have j:=l.trans F;have p:a D=Z (.dK us):=j _ _ hD;obtain⟨rfl,G⟩:u=.str c/\c.length<=AB:=by simpa only[bh,AX]using A
 have kp:Kp a (B1 a D (.dK (BD us (Sum.inr c) h))):=.dk p;refine zb (jI (qa ?_));simp only[km]at hi;refine Wb B p (by have:(1000:Nat)<AB:=();omega) (k:=Sum.inr c) rk t λP M=>?_;have J:=((r4.kp (.of j)).put (x:=Sum.inr c) d G).kp kp;exact⟨a,_,M,j,kp,BD us (Sum.inr c) h,rfl,by rw[Nx];exact J,by have:=lg us (Sum.inr c) h;simp;omega⟩
def T8(fi:Ev->S (O Dt))(gt:Dt->Ev->S Ev)(p:Ev->S Bool)(fk fv:Ev->S Bx)(is:O Nat)(n:Nat):Ev->S Bx:=λρ=>(fi ρ).bind λds=>
 if ds.length<1000 then(z6 gt p (b2 Dv fk fv) (ji is ρ++ba n U) ds).bind λout=>Z (.m (dictOf out) U)else U
theorem YZ(hu:X.A.units+100<cLine)(ts:An)(O:nJ X scope cl xs is)(b4:X.calm=true)(hi:EQ X tgt iter fi)
  (Bu:∀C c d fp,WY (um X (xs++ts) scope cl C c d fp) tgt gt) (a3:∀C c d fp,uo (um X (xs++ts) scope cl C c d fp) ifs p) (z:∀C c d fp,QV (um X (xs++ts) scope cl C c d fp) kx fk) (l:∀C c d fp,QV (um X (xs++ts) scope cl C c d fp) vx fv) (b0:X6 is.length (is.length+ts.length) gt)
  (hs:∀x,foldedSetIterable iter X.env x=pure x:=by intro _;rfl):QV X (.DictComp kx vx [⟨tgt,iter,ifs,0⟩] scope pos) (T8 fi gt p fk fv is ts.length):=⟨λAO s σ H Q I h=>by
 obtain⟨H0,ρ,b,E,e,q⟩:=h;obtain⟨ds,ed,e⟩:=AU e;split at e
 ·rename_i b6;obtain⟨out,j,e⟩:=AU e;cases e;rw[arm_eval_DictComp];refine JP (use:=U) X9 hs O.clos O.kind O.names ?_;refine gK (hi.run AO s σ H (λJ H'=>AW H H'/\B6 X.K J ds H') I ⟨H0,ρ,ds,E,ed,λJ H' s' y=>⟨s',y⟩⟩) λv s1 h1=>gK h1 λc3 W h2=>?_;obtain⟨it,fp,tn,J,H2,rfl,i,T,st,G,g,Y⟩:=h2;refine zp (B:=z7) (Ac:=EV X.K) (O0:=.dK []) (N:=999) (RR:=λb5 C=>compPost (db X) X.A X.xe U (EP X AO σ Q) b5 C) (ts:=ts) (xs:=xs) O b4 (λC c d fp=>(Bu C c d fp).run) (λC c d fp=>(a3 C c d fp).run) (λC c d fp=>ie (z C c d fp).run (l C c d fp).run) b0 (Nat.le_add_right ..) i ((E.grow g).caps is ts.length) (CQ T) st G Y j (Zl (vA j) (Nat.le_of_lt_succ b6)) ?_
   qo (λ_=>Mi W.heap i.big) (λ_=>⟨[],rfl,fY.nil,zl _⟩) EV.kp (λ_ _ _=>X9) codeAny_compStart_dict λh=>h
  rintro D C s' H' o F n fC ⟨m,M⟩ P a5 ⟨us,rfl,rm,_⟩;refine⟨m,M,λh' t=>⟨.ref D,H',?_,rfl,q (.ref D) H' (g.trans P) (λa ea=>by cases ea;exact g.free F) ⟨D,us,rfl,a5,rm,λb f=>by cases f⟩⟩⟩;obtain⟨f0,f1,f2,f3,L,u⟩:=fC;exact n.turned (t':=s'.toks) (λb o f e=>(t.2 b f).trans e) f0 f1 f3 L u
 ·cases e⟩
end
theorem Dw(j:∀f u,X.H₀ a≠Z (.iU f u))(I:L2.AV X AO σ H s)(e:H a=Z (.iU o (.dK ks))):L2.AV X AO σ (B1 H a (.dK ks)) s:=by
 have g:∀{b:A2} {u:HO},H b=Z u->u≠.iU o (.dK ks)->b≠a:=λq n z=>by subst z;rw[e]at q;cases q;exact n rfl
 have h:∀{b:A2},H b=U->b≠a:=λq z=>by subst z;rw[e]at q;cases q
 refine⟨I.ok,I.os,I.bare,⟨I.base.keep,I.base.slot,λb f q n hx=>?_,I.base.there,λb xs q=>?_,λb f u q=>?_,λb ps q=>?_⟩,I.loc,I.cell,?_,λx c q=>?_,λp hp=>?_,λb f q=>?_,I.len⟩
 ·have:=I.base.free b f q n hx;rw[aD (h this)];exact this
 ·have:=I.base.tups b xs q;rw[aD (g this λz=>by cases z)];exact this
 ·have:=I.base.oM b f u q;rw[aD (λz=>by subst z;exact j _ _ q)];exact this
 ·obtain⟨m,this⟩:=I.base.sX b ps q;exact⟨m,by rw[aD (g this λz=>by cases z)];exact this⟩
 ·have:=I.free;rw[aD (h this)];exact this
 ·have:=I.ju x c q;rw[aD (h this)];exact this
 ·obtain⟨p1,p2,p3⟩:=I.pin p hp;exact⟨p1,by rw[aD (h p2)];exact p2,p3⟩
 ·have st:∀{c:A2} {w:HO},eV X.prog X.w H s.heap c w->eV X.prog X.w (B1 H a (.dK ks)) s.heap c w:=λx=>
   x.stay (λ_ _ _ r=>r) (λd r=>by rw[aD (g r λz=>by cases z)];exact r) (λd xs r=>by rw[aD (g r λz=>by cases z)];exact r) λd o' l r=>by rw[aD (g r λz=>by cases z)];exact r
  by_cases i:b=a
  ·subst i;rw[aF]at q;cases q;exact st (I.hok _ _ e).2
  ·rw[aD i]at q;exact st (I.hok _ _ q)
theorem b9(I:L2.AV X AO σ H s)(e:H a=Z (.dK ks))(b:s.heap.get? a=Z o):L2.AV X AO σ (B1 H a (.iU o (.dK ks))) s:=by
 have:=I.write (t':=s.toks) (h':=s.heap) (x:=a) (e:=a) (o:=.iU o (.dK ks)) (by rw[e];exact True.intro) (.inl X9) (λ_ _ _ z=>z) ⟨o,b⟩ ⟨b,(I.hok _ _ e).stay (λ_ _ _ r=>r) (λd r=>by rw[aD (jB r e (by intro z;cases z))];exact r) (λd xs r=>by rw[aD (jB r e (by intro z;cases z))];exact r) λd o' c r=>by rw[aD (jB r e (by intro z;cases z))];exact r⟩;exact this
theorem eW(I:L2.AV X AO σ H s)(e:H a=Z (.dK ks)):∀b u,X.H₀ a≠Z (.iU b u):=λb u q=>by
 have:=I.base.oM a b u q;rw[e]at this;cases this
mutual
theorem AX.Dw{K:B5}(e:H a=Z (.iU o (.dK ks)))(hk:ks≠[]):∀{d:Dt} {v:V},AX K H d v->AX K (B1 H a (.dK ks)) d v
 |.non,_,h=>by simpa only[AX]using h
 |.bl _,_,h=>by simpa only[AX]using h
 |.int _,_,h=>by simpa only[AX]using h
 |.str _,_,h=>by simpa only[AX]using h
 |.tup ds,_,h=>by
  simp only[AX]at h ⊢;obtain⟨b,vs,e1,q,r⟩:=h;refine⟨b,vs,e1,?_,aO.Dw e hk r⟩;rcases q with (q|⟨c,q⟩)|q
  ·exact .inl (.inl (by rw[aD (λz=>by subst z;rw[e]at q;cases q)];exact q))
  ·exact .inl (.inr ⟨c,by rw[aD (λz=>by subst z;rw[e]at q;cases q)];exact q⟩)
  ·exact .inr q
 |.lst ds,_,h=>by
  simp only[AX]at h ⊢;obtain⟨b,vs,e1,q,r⟩:=h;refine⟨b,vs,e1,?_,aO.Dw e hk r⟩;rcases q with⟨c,q⟩|q
  ·exact .inl ⟨c,by rw[aD (λz=>by subst z;rw[e]at q;cases q)];exact q⟩
  ·exact .inr q
 |.emp,_,h=>by
  simp only[AX]at h ⊢;obtain⟨b,c,e1,q⟩:=h;exact⟨b,c,e1,by rw[aD (λz=>by subst z;rw[e]at q;cases q;exact hk X9)];exact q⟩
theorem aO.Dw{K:B5}(e:H a=Z (.iU o (.dK ks)))(hk:ks≠[]):∀{ds:O Dt} {vs:O V},aO K H ds vs->aO K (B1 H a (.dK ks)) ds vs
 |[],_,h=>by simpa only[aO]using h
 |d::ds,_,h=>by
  simp only[aO]at h ⊢;obtain⟨v,r,e1,q,t⟩:=h;exact⟨v,r,e1,AX.Dw e hk q,aO.Dw e hk t⟩
end
def M'(a:A2)(o:AF)(ks:O (AZ×V)):It:=
 ⟨λi H=>H a=Z (.iU o (.dK ks))/\i<ks.length,λi H x H'=>H'=H/\(ks.map λk=>kV k.1)[i]?=Z x,λi H=>H a=Z (.iU o (.dK ks))/\ks.length<=i⟩
theorem T9(x:eV P w H h a (.iU o (.dK ks))){es:Array DictEntry}(b:o.data=.dict es ep):∃vs,KV ks vs/\h.DictAt (cG P w) a vs ep:=by
 obtain⟨e,_,_,vs,f,g,i,j,e2,c,d,r⟩:=x;rw[e]at e2;cases e2;rw[b]at d;cases d;exact⟨vs,f,o,es,e,c,b,r⟩
theorem Y0:∀{ks:O (AZ×V)} {vs:O (AZ×A1)},KV ks vs->∀{i:Nat} {p},ks[i]?=Z p->∃x,vs[i]?=Z (p.1,x)
 |_,_,.nil,i,p,q=>by simp at q
 |_,_,.cons h _,0,p,q=>by simp at q;subst q;exact⟨_,by rw[List.getElem?_cons_zero,h.1]⟩
 |_,_,.cons _ t,i+1,p,q=>by
  rw[JY]at q;obtain⟨x,hx⟩:=Y0 t q;exact⟨x,by rw[JY];exact hx⟩
theorem Iu(it:A2){es:Array DictEntry}(L:o.data=.dict es ep)(Y:a≠it):CC P w K tg (M' a o ks) [it] it (λi h=>h.IsKeyIter it a i ks.length ep) where
 mem:=by simp
 obj:=λi h st b g=>by
  have e:b=it:=by simpa using g
  subst e;obtain⟨f,e,c,d⟩:=st;exact⟨f,e,λv z=>by rw[d]at z;cases z⟩
 keep:=λi h h' st k=>st.at λf e=>k it (by simp) f e
 item:=by
  intro X D B A J i AO s σ H E I m st q;subst D B A;obtain⟨p,hi⟩:=q;obtain⟨vs,l,F⟩:=T9 (I.hok _ _ p) L;have n:ks.length=vs.length:=l.length;obtain⟨x,hx⟩:=Y0 l (show ks[i]?=Z ks[i] by simp[hi]);obtain⟨f0,f1,f2,f3,C,u⟩:=m it (by simp);rw[n]at st;refine wpAny_pyNext_dict_item st F hx λG h' Q y N=>?_;rw[<-n]at y;have W:L2.AV X AO σ H { s with heap:=h' }:=I.turned (t':=s.toks) (λb f g e=>(N.2 b g).trans e) f0 f1 f3 C u;obtain⟨f,e,c,d⟩:=id y;refine⟨G,rfl,Hq (s:={ s with heap:=h' }) e c d () ⟨kV (ks[i]).1,H,W,?_,⟨rfl,by rw[zI,zo hi];rfl⟩,y,λb g=>(m b g).1⟩⟩;have M:jA (ks[i]).1 G=true:=Q;rcases bK M with⟨j,t,e2,e3⟩|⟨z,t,e2,e3⟩
  ·rw[e2,e3];exact⟨t,rfl⟩
  ·rw[e2,e3];exact⟨t,rfl⟩
 done:=by
  intro X D B A J i AO s σ H E I m st q;subst D B A;obtain⟨p,hi⟩:=q;obtain⟨vs,l,F⟩:=T9 (I.hok _ _ p) L;have n:ks.length=vs.length:=l.length;obtain⟨f0,f1,f2,f3,C,u⟩:=m it (by simp);rw[n]at st;exact wpAny_pyNext_dict_end (I.ok.hd J) st F (qk ()) λh' eb=>⟨rfl,I.turned (t':=s.toks) (λb f g e=>eb b f g e) f0 f1 f3 C u⟩
 self:=λ_ _ _ _ _ st h=>wpAny_pyIter_keyiter st h
def Rb:AZ->Dt
 |.inl i=>.int i
 |.inr x=>.str x
theorem Y4{k:AZ}(h:DL k):AX K H (Rb k) (kV k):=by
 cases k with
 |inl i=>unfold Rb AX;rfl
 |inr x=>unfold Rb AX;exact⟨rfl,h⟩
def Cc:Bx->S (O Dt)
 |.n AQ=>Z (AQ.map λp=>Rb p.1)
 |_=>U
theorem Wc(h:Cc b=Z ds):∃AQ,b=.n AQ/\ds=AQ.map λp=>Rb p.1:=by
 unfold Cc at h;split at h
 ·cases h;exact⟨_,rfl,rfl⟩
 ·cases h
theorem Ah(c:Hs a=Z (.iU o (.dK ks)))(b:fY K Hs AQ ks):B6 K (M' a o ks) (AQ.map λp=>Rb p.1) Hs:=.of λi H s=>by
 have f:=b.len;refine⟨λd e=>?_,λe=>⟨s _ _ c,by rw[zi]at e;omega⟩⟩;rw[zI]at e;cases hp:AQ[i]? with
 |none=>rw[hp]at e;cases e
 |some p=>
  rw[hp]at e;cases e;have hi:i<AQ.length:=(cf.mp hp).1;refine⟨⟨s _ _ c,by omega⟩,λx H' y=>?_⟩;obtain⟨y1,y2⟩:=y;refine⟨y1,?_⟩;have h1:(ks.map (·.1))[i]?=Z p.1:=by rw[b.1,zI,hp];rfl
  rw[zI]at h1 y2;cases hk:ks[i]? with
  |none=>rw[hk]at h1;cases h1
  |some q=>
   rw[hk]at h1 y2;cases y2;have:q.1=p.1:=by simpa using h1
   show AX K H (Rb p.1) (kV q.1);rw[this];exact Y4 (b.2.2 p (ZI hp))
theorem Rc{H1:Hp}(e:H1 a=Z (.dK ks))(E:aV K H1 H1 (vU is σ++ba n U) (ji is ρ++ba n U)):aV K (B1 H1 a (.iU o (.dK ks))) (B1 H1 a (.iU o (.dK ks))) (vU is σ++ba n U) (ji is ρ++ba n U):=by
 have kp:Kp H1 (B1 H1 a (.iU o (.dK ks))):=.dk e;have g:∀(j:Nat) c,(ji is ρ++ba n U)[j]?=Z (Z c)->qj c=false:=λj c e=>by
  by_cases s:j<is.length
  ·rw[ZH (by simp[ji];omega)]at e;unfold ji at e;rw[zI]at e;cases q:is[j]? with
   |none=>rw[q]at e;cases e
   |some i=>
    rw[q]at e;have:yZ ρ i=Z c:=by simpa using e
    exact xT this
  ·rw[Z3 (by simp[ji];omega),Q1]at e;split at e<;>cases e
 refine⟨E.len,λj b eb=>?_,λj k c a b e h=>absurd h (by rw[g j c e];exact z5),AW.refl _,λj c a e h=>absurd h (by rw[g j c e];exact z5)⟩;obtain⟨v,ev,r⟩:=E.val j b eb;refine⟨v,ev,?_⟩;cases b with
 |z d=>exact AX.kp kp r
 |o ds=>have:=g j _ eb;cases this
 |m ds _=>have:=g j _ eb;cases this
 |l ds=>
  obtain⟨b,vs,e1,q,r⟩:=r;refine⟨b,vs,e1,?_,r.kp kp⟩;rcases q with q|⟨f,q⟩
  ·exact .inl (by rw[aD (jB q e (by intro z;cases z))];exact q)
  ·exact .inr ⟨f,by rw[aD (jB q e (by intro z;cases z))];exact q⟩
 |n ds=>
  obtain⟨b,vs,e1,q,r⟩:=r;refine⟨b,vs,e1,?_,r.kp kp⟩;by_cases p:b=a
  ·subst p;rcases q with q|⟨f,q⟩
   ·rw[e]at q;cases q;exact .inr ⟨o,aF⟩
   ·rw[e]at q;cases q
  ·rcases q with q|⟨f,q⟩
   ·exact .inl (by rw[aD p];exact q)
   ·exact .inr ⟨f,by rw[aD p];exact q⟩
section
variable{fd:Ev->S Bx}{ts:An}
def Aj(fd:Ev->S Bx):Ev->S (O Dt):=λρ=>(fd ρ).bind Cc
theorem Wf(ρ:Ev):z6 gt p fe ρ []=Z []:=rfl
theorem Dy(ts:An)(O:nJ X scope cl xs is)(c6:X.calm=true)(hi:QV X iter fd)
  (Bu:∀C c f fp,WY (um X (xs++ts) scope cl C c f fp) tgt gt) (c4:∀C c f fp,uo (um X (xs++ts) scope cl C c f fp) ifs p) (b0:∀C c f fp,QV (um X (xs++ts) scope cl C c f fp) elt fe) (c5:X6 is.length (is.length+ts.length) gt)
  (hs:∀x,foldedSetIterable iter X.env x=pure x:=by intro _;rfl):QV X (.ListComp elt [⟨tgt,iter,ifs,0⟩] scope pos) (fK (Aj fd) gt p fe is ts.length):=⟨λAO s σ H Q I h=>by
 obtain⟨H0,ρ,b,E,e,q⟩:=h;obtain⟨ds,ed,e⟩:=AU e;split at e
 ·rename_i d0;obtain⟨out,y,e⟩:=AU e;cases e;obtain⟨bd,d3,ed⟩:=AU ed;obtain⟨AQ,rfl,rfl⟩:=Wc ed;rw[eval_ListComp];refine JP (use:=U) X9 hs O.clos O.kind O.names ?_;refine gK (hi.run AO s σ H (λv H1=>AW H H1/\bh X.K H1 (.n AQ) v) I ⟨H0,ρ,_,E,d3,λv H1 d _ L=>⟨d,L⟩⟩) λv d ⟨v',H1,I1,rv,s01,L⟩=>?_;obtain⟨a,ks,rfl,g,rm⟩:=L;cases rv;obtain⟨_,d2,vs,kv,t,es,ep,W⟩:=ud I1.hok g;have N:=W.1;have b5:=W.2.2.1;refine wpAny_pyIter_dict d2 (⟨t,es,W⟩:d.heap.DictAt (cG X.prog X.w) a vs ep) ?_;have b4:a<d.heap.objs.size:=zz N;have hl:ks.length=vs.length:=kv.length;have b6:∀{H':Hp},L2.AV X AO σ H' d->∀b∈[d.heap.objs.size],nD X AO H' b:=λj b i=>by
   have e:b=d.heap.objs.size:=by simpa using i
   subst e;exact j.Qd (zl _) (j.hok.fresh (zl _))
  have c3:Heap.IsKeyIter (d.heap.push { cls:=.type "dict_keyiterator",data:=.fields #[.ref a,.int 0 0,.int vs.length 0,.int ep 0] }) d.heap.objs.size a 0 ks.length ep:=⟨_,zt _ rfl,rfl,by rw[hl];rfl⟩;rcases g with g|⟨o',g⟩
  ·
   have I2:=b9 I1 g N;have P:L2.AV X AO σ (B1 H1 a (.iU t (.dK ks))) { d with heap:=d.heap.push { cls:=.type "dict_keyiterator",data:=.fields #[.ref a,.int 0 0,.int vs.length 0,.int ep 0] } }:=I2.kept (t':=d.toks) λb o e=>ze _ e;have d1:fY X.K (B1 H1 a (.iU t (.dK ks))) AQ ks:=rm.kp (.dk g);refine xU (B:=z7) (RR:=λa3 C=>compPost (db X) X.A X.xe U (EP X AO σ Q) a3 C) (ts:=ts) (xs:=xs) O c6 (λC c f fp=>(Bu C c f fp).run) (λC c f fp=>(c4 C c f fp).run) (λC c f fp=>(b0 C c f fp).run) c5 P (Rc g ((E.grow s01).caps is ts.length)) (CQ (Iu d.heap.objs.size b5 (zS b4))) c3 (b6 I2) (Ah aF d1) d0 y ?_;intro D C s' H' us l j Y ⟨m,hn⟩ s2' hD' r';have F:H' a=Z (.iU t (.dK ks)):=s2' _ _ aF;have a5:D≠a:=λz=>by subst z;rw[aF]at l;cases l
   have e1:H1 D=U:=by rw[aD a5]at l;exact l
   have sm:AW H1 (B1 H' a (.dK ks)):=λb u e=>by
    by_cases i:b=a
    ·subst i;rw[g]at e;cases e;exact aF
    ·rw[aD i];exact s2' b u (by rw[aD i];exact e)
   have rr:aO X.K (B1 H' a (.dK ks)) out us:=by
    by_cases hk:ks=[]
    ·have:AQ=[]:=by have:=rm.len;rw[hk]at this;exact dd.mp (by simpa using this.symm)
     subst this;simp only[kU]at y;rw[Wf]at y;cases y;simpa only[aO]using r'
    ·exact aO.Dw F hk r'
   refine⟨m,hn,λh' G=>⟨.ref D,B1 H' a (.dK ks),?_,rfl,q _ _ (s01.trans sm) (λa ea=>by cases ea;exact s01.free e1) ⟨D,us,rfl,by rw[aD a5];exact hD',rr⟩⟩⟩;obtain⟨f0,f1,f2,f3,M,J⟩:=Y;have e0:C≠a:=λz=>by subst z;rw[F]at f0;cases f0
   exact(Dw (eW I1 g) j F).turned (t':=s'.toks) (λb o i e=>(G.2 b i).trans e) (by rw[aD e0];exact f0) f1 f3 M J
  ·have d4:o'=t:=by
    have:=(I1.hok _ _ g).1;rw[N]at this;cases this;rfl
   subst d4;have P:L2.AV X AO σ H1 { d with heap:=d.heap.push { cls:=.type "dict_keyiterator",data:=.fields #[.ref a,.int 0 0,.int vs.length 0,.int ep 0] } }:=I1.kept (t':=d.toks) λb o e=>ze _ e;refine xU (B:=z7) (RR:=λa3 C=>compPost (db X) X.A X.xe U (EP X AO σ Q) a3 C) (ts:=ts) (xs:=xs) O c6 (λC c f fp=>(Bu C c f fp).run) (λC c f fp=>(c4 C c f fp).run) (λC c f fp=>(b0 C c f fp).run) c5 P ((E.grow s01).caps is ts.length) (CQ (Iu d.heap.objs.size b5 (zS b4))) c3 (b6 I1) (Ah g rm) d0 y ?_;intro D C s' H' us l j Y ⟨m,hn⟩ s2' hD' r';refine⟨m,hn,λh' G=>⟨.ref D,H',?_,rfl,q _ _ (s01.trans s2') (λa ea=>by cases ea;exact s01.free l) ⟨D,us,rfl,hD',r'⟩⟩⟩;obtain⟨f0,f1,f2,f3,M,J⟩:=Y;exact j.turned (t':=s'.toks) (λb o i e=>(G.2 b i).trans e) f0 f1 f3 M J
 ·cases e⟩
end
theorem Ny{R:Result->A3->Prop}{d:A2}{AQ:O (AZ×A1)}(Q:A.handled=none)(X:(d==sysModules)=false)(j:s.heap.DictAt (cG prog w) d AQ ep)(M:AQ.length<=AB)(S:A2)(l:d≠S)(p:A1)(z:Nat)(t:s.heap.get? S=Z { cls:=.type "list",data:=.seq #[] z })(D:∀h' tk g c',(∀b o,b≠S->s.heap.get? b=Z o->h'.get? b=Z o)->h'.get? S=Z { cls:=.type "list",dict:=none,data:=.seq g c',slots:=#[] } →
   ItemsOf (λi v=>∃k x,AQ[i]?=Z (k,x)/\(cG prog w).is k v=true) g AQ.length->R (.ok (.ret p)) { s with heap:=h',toks:=tk }):
  A8 (A9 prog w) A.in1 (Builtin.List.listExtendWith (.ref S) (.ref d) p)
   (λK s'=>match K with|.done f=>R (.ok f) s'|.again c'=>c'.quiet=true/\AG (A9 prog w) A c' R s') (λe s'=>R (.error e) s') s:=by
 have H:d<s.heap.objs.size:=by obtain⟨o,_,L,_⟩:=j;exact zz L
 have I:S<s.heap.objs.size:=zz t;unfold Builtin.List.listExtendWith;refine zb (QY (T :="dict") j.dictOf.typeIs ?_);have h1:Builtin.List.listSameRef (.ref S) (.ref d)=false:=by simp[Builtin.List.listSameRef];exact λe=>l e.symm
 simp only[h1,show(Value.type "dict"==Value.type "list")=false by decide,show(Value.type "dict"==Value.type "tuple")=false by decide,mN,zv,qc];refine zb (wpAny_pyIter_dict X j ?_);refine zb (qa ?_);have c:=j.at' (h':=s.heap.push { cls:=.type "dict_keyiterator",data:=.fields #[.ref d,.int 0 0,.int AQ.length 0,.int ep 0] }) λo e=>ze _ e;unfold Builtin.List.listLengthHint;refine zb (wpAny_specialOf (T :="dict") c.dictOf.typeIs F.slot_dict_len.lookup ?_)
 wp_delta
 refine zb (JE (T :="dict") (b:=true) c.dictOf.typeIs (by rw[isSubtype_type];kernel_rfl) ?_);show A8 _ A.in1 (typeOf (Value.ref d) >>= _) _ _ _;refine zb (QY (T :="dict") c.dictOf.typeIs (zd ?_));rw[zk ()];show A8 _ A.in1 (Builtin.List.listTouch (Value.ref S) >>= λ_=>again (Code.builtin "list.extend.loop" ⟨[Value.ref S,Value.ref s.heap.objs.size,p],[]⟩)) _ _ _;generalize n:s.heap.push { cls:=.type "dict_keyiterator",data:=.fields #[.ref d,.int 0 0,.int AQ.length 0,.int ep 0] }=G at c ⊢;have m:G.get? S=Z { cls:=.type "list",data:=.seq #[] z }:=by
  rw[<-n];exact ze _ t
 have C:G.get? s.heap.objs.size=Z { cls:=.type "dict_keyiterator",data:=.fields #[.ref d,.int 0 0,.int AQ.length 0,.int ep 0] }:=by
  rw[<-n];exact zt _ rfl
 unfold Builtin.List.listTouch;refine zb (zb (listUpdate_at m X9 (listUpdate_at (get?_update_seq m _) X9 ?_ (by show _<=_;decide) (by show _<=_;decide)) (by show _<=_;decide) (by show _<=_;decide)));have u:s.heap.objs.size≠S:=JO I;have q:=get?_update_seq (get?_update_seq m (λx=>x.push Value.none)) (λx=>x.pop);generalize J:(G.update S (Obj.mapSeq λx=>x.push Value.none)).update S (Obj.mapSeq λx=>x.pop)=U at q;have keep:∀b,b≠S->U.get? b=G.get? b:=λb a=>by rw[<-J,kc _ _ _ _ a,kc _ _ _ _ a]
 have N:U.IsKeyIter s.heap.objs.size d 0 AQ.length ep/\U.DictAt (cG prog w) d AQ ep:=⟨⟨_,(keep _ u).trans C,rfl,rfl⟩,c.at' λo e=>(keep d l).trans e⟩;show A8 _ A.in1 (again _) _ _ { s with heap:=U };have W:S∉[s.heap.objs.size,d]:=λh=>by
  simp only[js,ke,or_false]at h;rcases h with h|h
  ·exact u h.symm
  ·exact l h.symm
 refine zd ⟨plainId_quiet F.plain_extend_loop _,codeAny_extend_loopS (Walks.dictKeys (A:=A.in1) Q s.heap.objs.size d (zS H) AQ ep).toS M S W _ AQ.length 0 { s with heap:=U } #[] _ X9 (qi _) N q (ItemsOf.nil _) λs' g c' y P Y=>?_⟩;rw[Moved.eq_with y];refine D s'.heap s'.toks g c' (λb B a e=>?_) P Y;have E:=zz e;refine y.heap b B (λh=>?_) ((keep b a).trans ?_)
 ·simp only[js,ke,or_false]at h;rcases h with h|h
  ·exact a h
  ·exact zS E h
 ·rw[<-n];exact ze _ e
theorem Dz{Q:B8}{d:A2}{AQ:O (AZ×A1)}(B:A.handled=U)(D:(d==sysModules)=false)(l:s.heap.DictAt (cG prog w) d AQ ep)(u:AQ.length<=AB)(t:∀h' tk c c',(∀b o,s.heap.get? b=Z o->h'.get? b=Z o) →
   h'.get? s.heap.objs.size=Z { cls:=.type "list",dict:=U,data:=.seq c c',slots:=#[] }->ItemsOf (λi v=>∃k x,AQ[i]?=Z (k,x)/\(cG prog w).is k v=true) c AQ.length->Q (.ref s.heap.objs.size) { s with heap:=h',toks:=tk }):
  A8 (A9 prog w) A (call (.type "list") [.ref d]) Q E s:=by
 have g:d<s.heap.objs.size:=by obtain⟨o,_,q,_⟩:=l;exact zz q
 refine callType_codes (Q₁:=λj m=>j=.ref s.heap.objs.size/\m={ s with heap:=s.heap.push { cls:=.type "list",data:=.seq #[] } }) F.called_list (F.typeCall_list_1 _) F.entry_list_init
  (code_list_new _ ⟨rfl,rfl⟩) λj m z=>?_
 obtain⟨rfl,rfl⟩:=z;have a:(s.heap.push { cls:=.type "list",data:=.seq #[] }).get? s.heap.objs.size=Z { cls:=.type "list",data:=.seq #[] }:=zt _ rfl;have f:=l.at' (h':=s.heap.push { cls:=.type "list",data:=.seq #[] }) λo e=>ze _ e;refine⟨⟨_,a,rfl⟩,F.args_list_init_2 _ _,?_⟩;generalize C:s.heap.push { cls:=.type "list",data:=.seq #[] }=H at a f ⊢;show A8 _ _ (do let old <-Builtin.List.listItems (.ref s.heap.objs.size);Builtin.List.listUpdate (.ref s.heap.objs.size) (λ_=>#[]);letGo old.toList.reverse;Builtin.List.listExtendWith (.ref s.heap.objs.size) (.ref d) .none) _ _ { s with heap:=H };refine zb ?_;unfold Builtin.List.listItems;refine zb (wpAny_seqItems a X9 (zd ?_));show A8 _ _ (updateSeq s.heap.objs.size (λ_=>#[]) >>= λ_=>letGo (#[]:Array A1).toList.reverse >>= λ_=>Builtin.List.listExtendWith (.ref s.heap.objs.size) (.ref d) .none) _ _ _;refine zb (wpAny_updateSeq a X9 ?_);have p:=QN (Obj.mapSeq (λ_=>(#[]:Array A1))) a rfl;have h:∀b o,b≠s.heap.objs.size->H.get? b=Z o->(H.update s.heap.objs.size (Obj.mapSeq (λ_=>(#[]:Array A1)))).get? b=Z o:=
  λb o n e=>(Q3 _ _ (ja n)).trans e
 refine zb (wpAny_letGo ?_);refine Ny (A:=A.in1) B D (f.at' λo e=>h d o (zS g) e) u s.heap.objs.size (zS g) .none _ p λh' tk c c' hk y G=>?_;exact⟨rfl,t h' tk c c' (λb o e=>hk b o (zS (zz e)) (h b o (zS (zz e)) (by rw[<-C];exact ze _ e))) y G⟩
theorem bn{P:Nat->A1->Prop}(val:Nat->AK)(a:∀i v,P i v->∃t,v=.str (val i) t):CmpOf prog w A .Lt P (λi j=>decide ((val i).cps.toList<(val j).cps.toList)):=λi j c d s Q E hi b h=>by
 obtain⟨t,rfl⟩:=a i c hi;obtain⟨u,rfl⟩:=a j d b;exact richCompare_gives (op:=.Lt) (typeIs_str s _ t) (typeIs_str s _ u) F.slot_str_lt F.entry_str_lt (F.args_str_lt_2 _ _) (gives_str_lt _ _ t u) (λx=>nomatch x) h
def two(a b:AK)(i:Nat):AK:=if i=0 then a else b
theorem Sn{a b:AK}{t u:Tok}(i:Nat)(v:A1)(h:(#[Value.str a t,Value.str b u])[i]?=Z v):∃t',v=.str (two a b i) t':=by
 match i,h with
 |0,h=>cases h;exact⟨t,rfl⟩
 |1,h=>cases h;exact⟨u,rfl⟩
 |_+2,h=>simp at h
theorem Y5{a b:AK}{t u:Tok}{Q:B8}{bt:Nat->Nat->Bool}(q:A.handled=U)(d:CmpOf prog w A.in1 op (λi v=>(#[Value.str a t,Value.str b u])[i]?=Z v) bt)(h:∀h' tk,(∀c o,s.heap.get? c=Z o->h'.get? c=Z o)->Q (if bt 1 0=true then .str b u else .str a t) { s with heap:=h',toks:=tk }):
  A8 (A9 prog w) A.in1 (pyIter (.ref s.heap.objs.size)) (λit j=>∃I fp wr n P St bt,it=.ref I/\Walks prog w A.in1 I fp wr n P St/\St 0 j.heap/\(∀b∈fp,b<j.heap.objs.size)/\0<n/\CmpOf prog w A.in1 op P bt ∧
   ∀v h' tk,P (argBest bt (n-1)) v->(∀b o,b∉wr->j.heap.get? b=Z o->h'.get? b=Z o)->Q v { j with heap:=h',toks:=tk }) E
   { s with heap:=s.heap.push { cls:=.type "tuple",data:=.seq #[.str a t,.str b u] } }:=by
 have m:(s.heap.push { cls:=.type "tuple",data:=.seq #[.str a t,.str b u] }).IsTuple s.heap.objs.size #[.str a t,.str b u]:=⟨_,zt _ rfl,rfl,0,rfl⟩;refine wpAny_pyIter_tuple m ?_;have g:(s.heap.push { cls:=.type "tuple",data:=.seq #[.str a t,.str b u] }).objs.size=s.heap.objs.size+1:=qB ..;refine⟨_,[_,s.heap.objs.size],[_],_,_,_,bt,rfl,Walks.tuple (A:=A.in1) q _ s.heap.objs.size (by rw[g];exact zS (qV _)) #[.str a t,.str b u],
  ⟨⟨_,zt _ rfl,rfl,rfl⟩,m.push _⟩,λc d=>?_,by simp,d,λv h' tk x hk=>?_⟩
 ·show c<((s.heap.push _).push _).objs.size;rw[qB,g];rcases List.mem_cons.mp d with rfl|d
  ·rw[g];exact qV _
  ·rcases List.mem_cons.mp d with rfl|d
   ·exact QQ (qV _)
   ·cases d
 ·have hold:∀c o,s.heap.get? c=Z o->h'.get? c=Z o:=λc o e=>by
   refine hk c o (λl=>?_) (ze _ (ze _ e));rcases List.mem_cons.mp l with e1|l
   ·have:=zz e;rw[e1,g]at this;exact jS _ (Nat.lt_of_succ_lt this)
   ·cases l
  have:=h h' tk hold;have y:v=if bt 1 0=true then Value.str b u else Value.str a t:=by
   have f:(#[Value.str a t,Value.str b u])[argBest bt 1]?=Z v:=x;unfold argBest argBest at f;by_cases p:bt 1 0=true
   ·rw[zk p]at f ⊢;exact(by simpa using f.symm)
   ·rw[zw p]at f ⊢;exact(by simpa using f.symm)
  rw[y];exact this
def Ak:O Bx->S Bx
 |[.z (.str a),.z (.str b)]=>Z (.z (.str (if afM b a=true then b else a)))
 |_=>U
where afM (x y:AK):Bool:=decide (x.cps.toList<y.cps.toList)
theorem Ua(i:X.calm=true):oV X (.builtin "min") Ak:=by
 intro AO s σ H xs us Q I r h;obtain⟨bs,c,m,e,q⟩:=h;unfold Ak at e;split at e
 ·rename_i a b;cases e;obtain⟨v,w,rfl,g,d⟩:=Yr m;obtain⟨rfl,h1⟩:=Vy g;obtain⟨rfl,h2⟩:=Vy d;obtain⟨u,o,rfl,l,j⟩:=AY.two r;obtain⟨t,rfl⟩:=l;obtain⟨n,rfl⟩:=j;refine call_min_two (Y5 (I.ok.hd i) (bn (two a b) Sn) λh' tk kp=>?_);show EP X AO σ Q (if Ak.afM b a=true then _ else _) _;by_cases f:Ak.afM b a=true
  ·rw[zk f]at q ⊢;exact⟨.str b,H,I.kept kp,⟨_,rfl⟩,q _ H (AW.refl H) trivial d⟩
  ·rw[zw f]at q ⊢;exact⟨.str a,H,I.kept kp,⟨_,rfl⟩,q _ H (AW.refl H) trivial g⟩
 ·cases e
def DG:O Bx->S Bx
 |[.n AQ]=>(VF AQ).bind λys=>Z (.o (ys.map Dt.str))
 |_=>U
theorem Y6(j:X.calm=true):oV X (.type "list") DG:=by
 intro AO s σ H xs us Q I r h;obtain⟨bs,c,x,e,q⟩:=h;unfold DG at e;split at e
 ·rename_i AQ;obtain⟨ys,d,e⟩:=AU e;cases e;have A:AQ.length=ys.length:=by have:=congrArg jt (vD d);simpa using this
  obtain⟨v,rfl,l⟩:=BV x;obtain⟨a,ks,rfl,i,b⟩:=l;obtain⟨u,rfl,n⟩:=BG r;cases n;obtain⟨B,z,vs,f,o,es,ep,t⟩:=ud I.hok i;have hk:vs.map (·.1)=ys.map Sum.inr:=by rw[TJ f,b.1];exact vD d
  have C:ks.length=vs.length:=f.length;refine Dz (I.ok.hd j) z ⟨o,es,t⟩ () λh' tk w c' ext en p=>?_;have z1:=QS hk p;have m:∀y∈ys,y.length<=AB:=Pc d b.2.2;have g:=I.hok.fresh (zl s.heap.objs.size);refine⟨.ref s.heap.objs.size,_,I.laid (t':=tk) (a:=s.heap.objs.size) (o:=.lst (ys.map V.str)) ext (zl _) ?_,rfl,q _ _ (bC g) (λa ea=>by cases ea;exact g) ⟨_,_,rfl,aF,nQ m⟩⟩;refine⟨by rw[zi,<-A,<-b.len];exact B,w.toList,c',vC z1,?_⟩;rw[en]
 ·cases e
def CH(H:Hp)(a:A2):Hp:=λb=>if b=a then U else H b
theorem Ub{b:A2}(h:b≠a):CH H a b=H b:=zw h
theorem Uc:CH H a a=U:=zk rfl
def DJ:Bx->Bool
 |.z _=>true
 |_=>false
def Fc(K:B5)(n:Nat)(G:A2->O (AZ×Dt)->O Bx->S (O (AZ×Dt))):Sp:=λvs H Q _=>vs.length=n+1/\∃a ks AQ AT bs c,vs=.ref a::AT/\H a=Z (.dK ks)/\fY K H AQ ks/\qg K H bs AT/\bs.all DJ=true/\G a AQ bs=Z c/\∀H' b,AW (CH H a) H'->H' a=Z (.dK b)->fY K H' c b->Q .non H'
def Nz(n:Nat)(g:Ev->S Ap):A2->O (AZ×Dt)->O Bx->S (O (AZ×Dt)):=λa AQ bs=>(g ((Bx.m AQ (Z a)::bs).map Z++ba (n-(bs.length+1)) U)).bind λr=>match r with
 |.nx ρ=>match ρ[0]? with
  |some (Z (Bx.m kvs' (Z b)))=>if b=a then Z kvs' else U
  |_=>U
 |_=>U
theorem Rf{c:O (AZ×Dt)}{bs:O Bx}(h:Nz n g a AQ bs=Z c):∃ ρ,g ((Bx.m AQ (Z a)::bs).map Z++ba (n-(bs.length+1)) U)=Z (.nx ρ)/\ρ[0]?=Z (Z (.m c (Z a))):=by
 obtain⟨r,er,h⟩:=AU h;cases r with
 |nx ρ=>
  dsimp only at h;split at h
  ·rename_i k b e;split at h
   ·rename_i d;cases h;subst d;exact⟨ρ,er,e⟩
   ·cases h
  ·cases h
 |rt _=>cases h
 |bk _=>cases h
 |ct _=>cases h
theorem Rh{R:α->β->Prop}:∀{xs:O α} {ys:O β},AJ R xs ys->∀{i:Nat} {x:α},xs[i]?=Z x->∃y,ys[i]?=Z y/\R x y:=by
 intro xs ys h
 induction h with
 |nil=>intro i x q;simp at q
 |cons r _ a=>
  intro i x q;cases i with
  |zero=>simp at q;subst q;exact⟨_,rfl,r⟩
  |succ i=>
   rw[JY]at q;obtain⟨y,y1,y2⟩:=a q;exact⟨y,by rw[JY];exact y1,y2⟩
theorem aV.startM{bs:O Bx}{AT:O V}(p:H a=Z (.dK ks))(n:fY K H AQ ks)(r:qg K H bs AT)(y:bs.all DJ=true):aV K (CH H a) H (L2.start N (.ref a::AT)) ((Bx.m AQ (Z a)::bs).map Z++ba (N.length-(bs.length+1)) U):=by
 have u:bs.length=AT.length:=Paired.length r;have w:qg K H (.m AQ (Z a)::bs) (.ref a::AT):=.cons ⟨a,ks,rfl,p,n,λb h=>by cases h;rfl⟩ r;have get:∀(i:Nat) b,((Bx.m AQ (Z a)::bs).map Z++ba (N.length-(bs.length+1)) U)[i]?=Z (Z b)->(Bx.m AQ (Z a)::bs)[i]?=Z b:=λi b e=>by
  by_cases hi:i<(Bx.m AQ (Z a)::bs).length
  ·rw[ZH (by simpa using hi),zI]at e;cases q:(Bx.m AQ (Z a)::bs)[i]? with
   |none=>rw[q]at e;cases e
   |some z=>rw[q]at e;simpa using e
  ·rw[Z3 (by simp at hi ⊢;omega),Q1]at e;split at e<;>cases e
 have s:∀(i:Nat) b,((Bx.m AQ (Z a)::bs).map Z++ba (N.length-(bs.length+1)) U)[i]?=Z (Z b)->i≠0->loose b=false:=λi b e hi=>by
  have e2:=get i b e;cases i with
  |zero=>exact absurd X9 hi
  |succ j=>
   rw[JY]at e2;have:=List.all_eq_true.mp y b (ZI e2);cases b<;>first|rfl|cases this
 have l:∀c,qj c=true->loose c=true:=λc f=>by cases c<;>first|rfl|cases f
 have zero:∀(i:Nat) c,((Bx.m AQ (Z a)::bs).map Z++ba (N.length-(bs.length+1)) U)[i]?=Z (Z c)->loose c=true->i=0:=λi c e f=>by
  by_cases hi:i=0
  ·exact hi
  ·rw[s i c e hi]at f;cases f
 have st:∀i v,(Value.ref a=Value.ref a)->(V.ref a::AT)[i]?=Z v->(L2.start N (.ref a::AT))[i]?=Z (Z v):=λi v _ e=>by
  have hi:i<(V.ref a::AT).length:=(cf.mp e).1;unfold L2.start;rw[ZH (by simpa using hi),zI,e];rfl
 refine⟨by unfold L2.start;simp[u],λi b e=>?_,λi j c x b e1 g _ e3 d _=>?_,λb o e=>?_,λi c x e g e2=>?_⟩
 ·obtain⟨v,e1,t⟩:=Rh w (get i b e);exact⟨v,st i v X9 e1,t⟩
 ·rw[zero i c e1 (l c g),zero j b e3 d]
 ·by_cases d:b=a
  ·subst d;rw[Uc]at e;cases e
  ·rw[Ub d]at e;exact e
 ·have hi:=zero i c e (l c g);subst hi;rw[st 0 (.ref a) X9 rfl]at e2;cases e2;exact Uc
theorem OY{f:A2}{k m:Nat}(F:Br K x qual st f fd)(S:bA N ps (aG st))(p:N.length=n)(y:ps.length=m+1)(z:∀(c:A1) (A:A6) (outer:O Env) (s:A3) (H:Hp) (E:XK),iu k (A.deeper (AL qual (aG st) s.heap.objs.size f c))->PX (tO zZ P w K mg base N qual (aG st) f c A outer s H E).Vg (fH st) g):
  gW P w K mg base zZ (k+1) f fd ps (Fc K m (Nz n g)):=by
 subst p;refine F.ok S (λvs H Q E h=>by rw[y];exact h.1) λc A outer s H vs Q E l h=>?_;obtain⟨I,a,ks,AQ,AT,bs,G,rfl,u,j,C,D,e,q⟩:=h;refine⟨_,(z c A outer s H E l).run,?_⟩;obtain⟨ρ,er,e0⟩:=Rf e;refine⟨CH H a,_,_,aV.startM u j C D,er,?_⟩;intro σ' H' d;obtain⟨v,ev,b,B,rfl,t,i,o⟩:=d.val 0 _ e0;have:=o a rfl;subst this;exact q H' B d.base t i
open Classical in
noncomputable def DK(i n:Nat)(G:A2->O (AZ×Dt)->O Bx->S (O (AZ×Dt)))(fs:Ev->S (O Bx)):Ev->S Ap:=λρ=>match ρ[i]? with
 |some (Z (.m AQ w))=>(fs ρ).bind λbs=>if h:bs.length=n/\bs.all DJ=true/\∃b,∀a,G a AQ bs=Z b then Z (.nx (ρ.set i (Z (.m (Classical.choose h.2.2) w))))else U
 |_=>U
theorem Ri{fs:Ev->S (O Bx)}{r:Ap}(h:DK i n G fs ρ=Z r):∃AQ w bs c,ρ[i]?=Z (Z (.m AQ w))/\fs ρ=Z bs/\bs.length=n/\bs.all DJ=true/\(∀a,G a AQ bs=Z c)/\r=.nx (ρ.set i (Z (.m c w))):=by
 unfold DK at h;split at h
 ·rename_i AQ w e;obtain⟨bs,eb,h⟩:=AU h;split at h
  ·rename_i b;cases h;exact⟨AQ,w,bs,_,e,eb,b.1,b.2.1,Classical.choose_spec b.2.2,rfl⟩
  ·cases h
 ·cases h
theorem Y7{fs:Ev->S (O Bx)}{b:O (AZ×Dt)}{w:S A2}{bs:O Bx}(e:ρ[i]?=Z (Z (.m AQ w)))(eb:fs ρ=Z bs)(g:bs.length=n)(h:bs.all DJ=true)(d:∀a,G a AQ bs=Z b):DK i n G fs ρ=Z (.nx (ρ.set i (Z (.m b w)))):=by
 unfold DK;rw[e];simp only[eb,akK];have c:bs.length=n/\bs.all DJ=true/\∃b,∀a,G a AQ bs=Z b:=⟨g,h,b,d⟩;rw[dif_pos c];have:=Classical.choose_spec c.2.2 0;rw[d 0]at this;injection this with this;rw[<-this]
where akK {α β:Type} (a:α) (f:α->S β):(Z a).bind f=f a:=rfl
theorem aV.aij{H':Hp}{B:O (AZ×Dt)}{w:S A2}{G:O (AZ×V)}(E:aV K H0 H σ ρ)(h:ρ[i]?=Z (Z (.m AQ w)))(hs:σ[i]?=Z (Z (.ref a)))(I:H a=Z (.dK ks))(W:AW (CH H a) H')(N:H' a=Z (.dK G))(X:fY K H' B G)(Y:∀b,w=Z b->b=a):
  aV K H0 H' σ (ρ.set i (Z (.m B w))):=by
 have hi:i<ρ.length:=(cf.mp h).1;have L:H0 a=U:=E.new i _ a h X9 hs;have g:∀b u,b≠a->H b=Z u->H' b=Z u:=λb u C e=>W b u (by rw[Ub C];exact e);have kp:Kp H H':=⟨λb xs e=>g b _ (jB e I (by intro z;cases z)) e,λb ob u e=>g b _ (jB e I (by intro z;cases z)) e⟩;refine⟨by rw[qv];exact E.len,λj y e=>?_,λj M c f y e1 D e2 e3 e4 P=>?_,λc o e=>?_,λj c f e1 D e2=>?_⟩
 ·rcases B7 e with⟨rfl,e',_⟩|⟨C,e'⟩
  ·cases e';exact⟨_,hs,a,G,rfl,N,X,Y⟩
  ·obtain⟨v,e1,t⟩:=E.val j y e';refine⟨v,e1,?_⟩;have A:∀f,v=.ref f->loose y=true->f≠a:=λf ev Q z=>by
    subst z;exact C (E.own i j _ _ _ h X9 hs e' Q (by rw[e1,ev])).symm
   cases y with
   |z d=>exact AX.kp kp t
   |l F=>
    obtain⟨f,s,rfl,q,p⟩:=t;have x:=A f X9 rfl;exact⟨f,s,rfl,q.imp (g _ _ x) λ⟨o,q⟩=>⟨o,g _ _ x q⟩,p.kp kp⟩
   |o F=>
    obtain⟨f,s,rfl,q,p⟩:=t;exact⟨f,s,rfl,g _ _ (A f X9 X9) q,p.kp kp⟩
   |n F=>
    obtain⟨f,s,rfl,q,p⟩:=t;have x:=A f X9 rfl;exact⟨f,s,rfl,q.imp (g _ _ x) λ⟨o,q⟩=>⟨o,g _ _ x q⟩,p.kp kp⟩
   |m F _=>
    obtain⟨f,s,rfl,q,p,tt⟩:=t;exact⟨f,s,rfl,g _ _ (A f X9 X9) q,p.kp kp,tt⟩
 ·have J:∀{j:Nat} {c:Bx},(ρ.set i (Z (.m B w)))[j]?=Z (Z c)->∃c',ρ[j]?=Z (Z c')/\(qj c=true->qj c'=true)/\(loose c=true->loose c'=true):=λ{j c} e=>by
   rcases B7 e with⟨rfl,e',_⟩|⟨_,e'⟩
   ·exact⟨_,h,λ_=>X9,λ_=>X9⟩
   ·exact⟨c,e',id,id⟩
  obtain⟨c',p1,p2,_⟩:=J e1;obtain⟨b2,q1,_,q3⟩:=J e3;exact E.own j M c' f b2 p1 (p2 D) e2 q1 (q3 e4) P
 ·have e2:=E.base c o e;exact g c o (λz=>by subst z;rw[L]at e;cases e) e2
 ·rcases B7 e1 with⟨rfl,e',_⟩|⟨_,e'⟩
  ·exact E.new _ _ f h X9 e2
  ·exact E.new j c f e' D e2
section
variable{fs:Ev->S (O Bx)}{p px spos:Pos}{k:Nat}{f:A2}
theorem fm(i:Nat)(F:gW X.prog X.w X.K X.mg X.base zZ k f fd ps (Fc X.K n G))(B:iu k X.A)(t:Gl X x)(hm:X.mg x=Z (.ref f))(hk:keepIn X.K (.ref f)=true)(m:B9 X.K fd ps [])
  (o:Tg X es fs) (l:X.N[i]?=Z y:=by rfl) (hv:WW X.env.scope y:=by first|exact ko rfl|exact jv (ko X9)|exact jv (jv X9)) (hd:bv y:=by decide)
  (I:(y==("__classdict__":AK))=false:=by decide) (C:bv x:=by decide) (he:AA (.Name y px::es) X.env=(false,eval (.Name y px) X.env)::AA es X.env:=by rfl) (L:(AE pos (AA es X.env)).any (·.1)=false:=by rfl) (hs:swapsWith (.Call (.Name x p) (.Name y px::es) [] pos) U spos.line X.env=pure false:=by rfl):
  Lx X (.Expr (.Call (.Name x p) (.Name y px::es) [] pos) spos) (DK i n G fs):=⟨PL (qO (Bm F B t hm hk m .nil LN (bI (iB (i:=i) l hv hd I) o.run he) C he L) hs) λD σ H h=>by
 obtain⟨H0,ρ,r,E,e,q⟩:=h;obtain⟨AQ,w,bs,j,c,eb,M,u,W,rfl⟩:=Ri e;obtain⟨v,e1,a,ks,rfl,J,Q,Y⟩:=E.val i _ c;refine⟨_,e1,H0,ρ,bs,E,eb,λvs H1 b g=>?_⟩;have d:=b _ _ J;refine⟨by simp only[Qb,ZZ];rw[<-Paired.length g,M],a,ks,AQ,vs,bs,j,by simp,d,Q.kp (.of b),g,u,W a,λH' a3 P s z=>?_⟩;exact q σ H' ((E.grow b).aij c e1 d P s z Y)⟩
end
def Rs:S Bool->Bool
 |some true=>true
 |_=>false
def OA(x:Dt)(ys:O Dt):S Bool:=if(ys.all λy=>(Gi y x).isSome&&decide (min (xX y) (xX x)<=60))=true then Z (ys.any λy=>Rs (Gi y x))else U
def inX(a b:Bx):S Bx:=match a with
 |.z d=>(ux b).bind λys=>(OA d ys).bind λk=>Z (.z (.bl k))
 |_=>U
section
variable{st:O AC}
def IY(i:Nat)(ρ:Ev):S Ev:=match ρ[i]? with
 |some (Z (.o ds))=>Z (ρ.set i (Z (.z (.lst ds))))
 |_=>U
def EC(i:Nat)(g:Ev->S Ap):Ev->S Ap:=λρ=>(IY i ρ).bind g
theorem U2(h:S8 X st g):S8 X st (EC i g):=by
 intro AO s σ H D I q;obtain⟨H0,ρ,r,E,e,f⟩:=q;obtain⟨m,e1,e2⟩:=AU e;unfold IY at e1;split at e1
 ·rename_i ds b;cases e1;obtain⟨v,j,a,vs,rfl,c,l⟩:=E.val i _ b;obtain⟨o,d⟩:=qR I c;have kp:Kp H (B1 H a (.iU o (.lst vs))):=.lst c;refine h AO s σ _ D d ⟨H0,_,r,E.ae6 b X9 j kp ?_,e2,f⟩;simp only[bh,AX];exact⟨a,vs,rfl,.inl ⟨o,aF⟩,l.kp kp⟩
 ·cases e1
theorem Rj(h:PX X st g):PX X st (EC i g):=⟨U2 h.run⟩
end
open AutoSeq1 (wpAny_loadPart')
open SeqAt
section
variable{o:Expr}{fx:Ev->S Bx}
end
section
variable{t:Ev->S Bool}
def W2(t:Ev->S Bool)(g:Ev->S Ap):Nat->Ev->S Ap
 |0,_=>U
 |n+1,ρ=>(t ρ).bind λb=>if b=true then(g ρ).bind λr=>match r with
  |.nx ρ'=>W2 t g n ρ'
  |.ct ρ'=>W2 t g n ρ'
  |.bk ρ'=>Z (.nx ρ')
  |.rt b=>Z (.rt b)
  else Z (.nx ρ)
theorem Y8(n:Nat)(hp:PassesOwn (db X) X.A X.env X.xe)(o:PB X c t)(l:S8 X body g):NW X (.While c body [] pos) (W2 t g n):=
 PL (Xd hp o l) λD σ H q=>by
  obtain⟨H0,ρ,r,E,e,f⟩:=q;refine⟨λm σ H=>∃H0 ρ r,aV X.K H0 H σ ρ/\W2 t g m ρ=Z r/\Qt X.K H0 D r,⟨n,H0,ρ,r,E,e,f⟩,?_⟩;rintro m σ H ⟨H0,ρ,r,E,e,f⟩;cases m with
  |zero=>cases e
  |succ m=>
   obtain⟨b,eb,e⟩:=AU e;refine⟨H0,ρ,b,E,eb,λH1 i=>?_⟩;cases b with
   |false=>
    rw[zw ()]at e ⊢;cases e;exact f σ H1 (E.grow i)
   |true=>
    rw[zk rfl]at e ⊢;obtain⟨j,er,e⟩:=AU e;refine⟨λσ' H'=>∃h,h<m+1/\∃H0 ρ r,aV X.K H0 H' σ' ρ/\W2 t g h ρ=Z r/\Qt X.K H0 D r,λσ' H' z=>z,H0,ρ,j,E.grow i,er,?_⟩;cases j with
    |nx d=>exact λσ' H' a=>⟨m,qV m,H0,d,r,a,e,f⟩
    |ct d=>exact λσ' H' a=>⟨m,qV m,H0,d,r,a,e,f⟩
    |bk d=>cases e;exact λσ' H' a=>f σ' H' a
    |rt b=>cases e;exact f
theorem Y9(n:Nat)(hp:PassesOwn (db X) X.A X.env X.xe)(b:QB X c t)(a:PX X body g):Lx X (.While c body [] pos) (W2 t g n):=⟨Y8 n hp b.run a.run⟩
end
section
variable{h':A7}
end
section
variable{p:Pos}{fs:Ev->S (O Bx)}
end
def Iv:O Dt->S BF
 |[]=>Z []
 |.int k::r=>(Iv r).bind λks=>Z (k::ks)
 |_=>U
section
variable{ek ev:Expr}
def II:Ev->S Ap:=λ_=>U
theorem Pd:Lx X st II:=⟨λD AO s σ H I q=>by
 obtain⟨H0,ρ,r,E,e,q⟩:=q;cases e⟩
def Ud(f:Ev->S Bx):Ev->S Ap:=λρ=>(f ρ).bind λ_=>Z (.nx ρ)
theorem e8(he:QV X e f)(hs:swapsWith e U pos.line X.env=pure false:=by rfl):Lx X (.Expr e pos) (Ud f):=⟨PL (qO he.run hs) λD σ H h=>by
 obtain⟨H0,ρ,r,E,e,q⟩:=h;obtain⟨b,eb,e⟩:=AU e;cases e;exact⟨H0,ρ,b,E,eb,λv H1 a d c=>q _ _ (E.grow a)⟩⟩
end
section
variable{st:Expr}{fs:Ev->S Bx}
end
theorem ad{a b:Nat}(h:a≠b):@Ne A2 a b:=h
section
variable{K:Type} [DecidableEq K] {knd:KeyKind prog w K}
end
section
variable{ea eb:Expr}{p1 pos1 pos2:Pos}
end
theorem pN(xs:An)(is:O Nat)(c:closureFor scope X.env=pure cl:=by with_unfolding_all rfl)(b:scope.kind=.function:=by rfl)(d:scope.names.all (λy=>decide (y.2≠.cell)||(cl.lookup y.1).isNone)=true:=by rfl)(names:scope.names.all (λy=>decide (y.2=.local->scope.names.lookup y.1=Z .local))=true:=by decide +kernel)(sub:CD X.env.cells cl:=by repeat (first|exact trivial|refine⟨rfl,?_⟩))(has:(relabel scope X.env).names.all (λy=>!(y.2==.cell||y.2==.free)||(cl.lookup y.1).isSome||scope.names.contains (y.1,.cell))=true:=by rfl)(a:Gu X scope cl xs is:=by repeat (first|exact VO|refine Su X9 (by first|exact .inl rfl|exact .inr X9) (by first|exact .inl rfl|exact .inr X9) ⟨_,rfl⟩ ?_)):nJ X scope cl xs is:=WN c b d names sub has a
theorem j5{a:Scope}(h1:a.kind=.function:=by rfl)(h2:a.isCoroutine=false:=by rfl)(f:a.isGenerator=false:=by rfl)(b:N.Nodup:=by decide +kernel)(e:N.take ps.length=ps:=by rfl)(c:∀x∈ps,a.names.lookup x=Z .local\/a.names.lookup x=Z .cell:=by decide +kernel)(d:∀y∈a.names,y.2≠.free:=by decide +kernel):bA N ps a:=⟨h1,h2,f,b,e,c,d⟩
instance:Inhabited Dt:=⟨.non⟩
theorem Au(a:α)(f:α->S β):(Z a).bind f=f a:=(JJ a f).trans (Eq.refl _)
def hold:S Prop->Prop
 |none=>True
 |some p=>p
def aY:S Prop->S Prop->S Prop
 |none,q=>q
 |some p,U=>Z p
 |some p,Z q=>Z (p/\q)
def zH(c:Prop):S Prop->S Prop
 |none=>U
 |some p=>Z (c->p)
theorem aA{p q:S Prop}(h:hold (aY p q)):hold p/\hold q:=by
 cases p with
 |none=>exact⟨trivial,h⟩
 |some p=>cases q with
  |none=>exact⟨h,trivial⟩
  |some q=>exact h
theorem jj{c:Prop}{p:S Prop}(h:hold (zH c p))(a:c):hold p:=by
 cases p with
 |none=>trivial
 |some p=>exact h a
structure R {α β:Type} (f:Ev->Option β) (ρ:Ev) (c:α->β) where
 v:α
 D:Option Prop
 ok:hold D->f ρ=some (c v)
abbrev zE(e:α->Dt):α->Bx:=λa=>.z (e a)
abbrev oE(e:α->Dt):O α->Bx:=λxs=>.o (xs.map e)
abbrev lE(e:α->Dt):O α->Bx:=λxs=>.l (xs.map e)
abbrev tE:Bool->Bool:=λb=>b
abbrev iE(e:α->Dt):O α->O Dt:=λxs=>xs.map e
abbrev eI:Int->Dt:=Dt.int
abbrev eB:Bool->Dt:=Dt.bl
abbrev eS:AK->Dt:=Dt.str
abbrev eD:Dt->Dt:=λd=>d
abbrev eN:Unit->Dt:=λ_=>.non
abbrev eL(e:α->Dt):O α->Dt:=λxs=>.lst (xs.map e)
abbrev eT(e:α->Dt):O α->Dt:=λxs=>.tup (xs.map e)
abbrev eO(e:α->Dt):S α->Dt:=λo=>match o with|none=>.non|some a=>e a
abbrev MA(a:α->Dt):α->Dt:=λx=>.tup [a x]
abbrev D9(a:α->Dt)(b:β->Dt):α×β->Dt:=λx=>.tup [a x.1,b x.2]
abbrev DS(a:α->Dt)(b:β->Dt)(c:γ->Dt):α×β×γ->Dt:=λx=>.tup [a x.1,b x.2.1,c x.2.2]
abbrev GH(a:α->Dt)(b:β->Dt)(c:γ->Dt)(d:δ->Dt):α×β×γ×δ->Dt:=λx=>.tup [a x.1,b x.2.1,c x.2.2.1,d x.2.2.2]
structure RL {α:Type} (f:Ev->Option Bx) (ρ:Ev) (e:α->Dt) where
 v:List α
 D:Option Prop
 b:Bx
 lk:qe b=some (v.map e)
 ok:hold D->f ρ=some b
section
variable{fs:Ev->S (O Bx)}{e:α->Dt}{e':β->Dt}
def iw(a:R f ρ (oE e)):RL f ρ e:=⟨a.v,a.D,_,rfl,a.ok⟩
def gF(a:R f ρ (lE e)):RL f ρ e:=⟨a.v,a.D,_,rfl,a.ok⟩
def qD(a:R f ρ (zE (eL e))):RL f ρ e:=⟨a.v,a.D,_,rfl,a.ok⟩
def Lp(b:Bx)(ds:O Dt):Prop:=b=.z (.lst ds)\/b=.l ds
theorem Lp.HD(h:Lp b ds):qe b=Z ds:=by rcases h with rfl|rfl<;>rfl
theorem Lp.get{b:Bx}{ds:O Dt}{i:Nat}(h:Lp b ds)(hi:ρ[i]?=Z (Z b)):yZ ρ i=Z b:=by
 rcases h with rfl|rfl<;>(unfold yZ;rw[hi])
theorem dj(h:qe b=Z ds):Lp (P1.lend b) ds:=by
 cases b with
 |z d=>cases d<;>cases h;exact .inl rfl
 |l d=>cases h;exact .inr rfl
 |o d=>cases h;exact .inr rfl
 |n d=>cases h
 |m d _=>cases h
def aB(i:Nat)(c:α->Bx)(a:α)(h:yZ ρ i=Z (c a)):R (gv i) ρ c:=⟨a,U,λ_=>h⟩
def bw(i:Nat)(e:α->Dt)(a:O α)(h:Lp b (a.map e))(hi:ρ[i]?=Z (Z b)):RL (gv i) ρ e:=⟨a,U,b,h.HD,λ_=>h.get hi⟩
def sI(d:Dt)(e:α->Dt)(a:α)(h:d=e a):R (cB d) ρ (zE e):=⟨a,U,λ_=>by rw[h];rfl⟩
def GY(a:R f ρ (oE e)):R (b1 Gs f) ρ (zE (eL e)):=⟨a.v,a.D,λh=>by simp only[b1,a.ok h,Au,Gs]⟩
def sJ(a:R f ρ (zE e)):R (b1 Gs f) ρ (zE e):=⟨a.v,a.D,λh=>by simp only[b1,a.ok h,Au,Gs]⟩
def lC(a:R fa ρ (zE eI))(b:R fb ρ (zE eI)):R (b2 iD fa fb) ρ (zE eI):=⟨a.v+b.v,aY a.D b.D,λh=>by
 obtain⟨h1,h2⟩:=aA h;simp only[b2,a.ok h1,b.ok h2,Au,iD]⟩
def bb(a:R fa ρ (zE eI))(b:R fb ρ (zE eI)):R (b2 ED fa fb) ρ (zE eI):=⟨a.v-b.v,aY a.D b.D,λh=>by
 obtain⟨h1,h2⟩:=aA h;simp only[b2,a.ok h1,b.ok h2,Au,i2]⟩
def G0(a b:Int):Prop:=(-18446744073709551616<a/\a<18446744073709551616)\/(-18446744073709551616<b/\b<18446744073709551616)
def MZ(a:R fa ρ (zE eI))(b:R fb ρ (zE eI)):R (b2 uw fa fb) ρ (zE eI):=⟨a.v*b.v,aY (aY a.D b.D) (Z (G0 a.v b.v)),λh=>by
 obtain⟨h,c⟩:=aA h;obtain⟨h1,h2⟩:=aA h;simp only[b2,a.ok h1,b.ok h2,Au];exact zk c⟩
def DN(n:Int)(a : -18446744073709551616<n/\n<18446744073709551616)(b:R fb ρ (zE eI)):R (b2 uw (cB (.int n)) fb) ρ (zE eI):=⟨n*b.v,b.D,λh=>by
 simp only[b2,b.ok h,Au,cB];exact zk (.inl a)⟩
def Ue(a:R fa ρ (zE eI))(n:Int)(b : -18446744073709551616<n/\n<18446744073709551616):R (b2 uw fa (cB (.int n))) ρ (zE eI):=⟨a.v*n,a.D,λh=>by
 simp only[b2,a.ok h,Au,cB];exact zk (.inr b)⟩
def Rk(a:R fa ρ (zE eI))(b:R fb ρ (zE eI)):R (b2 nM fa fb) ρ (zE eI):=⟨a.v / b.v,aY (aY a.D b.D) (Z (0<b.v/\b.v<1073741824)),λh=>by
 obtain⟨h,c⟩:=aA h;obtain⟨h1,h2⟩:=aA h;have c:0<b.v/\b.v<1073741824:=c;simp only[b2,a.ok h1,b.ok h2,Au,i2,zk c]⟩
def lY(a:R fa ρ (zE eI))(n:Int)(b:0<n/\n<1073741824):R (b2 nM fa (cB (.int n))) ρ (zE eI):=⟨a.v / n,a.D,λh=>by
 simp only[b2,a.ok h,Au,i2,cB,zk b]⟩
def yE(a:R fa ρ (zE eI))(b:R fb ρ (zE eI)):R (b2 jf fa fb) ρ (zE eI):=⟨a.v%b.v,aY (aY a.D b.D) (Z (0<b.v)),λh=>by
 obtain⟨h,c⟩:=aA h;obtain⟨h1,h2⟩:=aA h;have c:0<b.v:=c;simp only[b2,a.ok h1,b.ok h2,Au,i2,zk c]⟩
def gB(a:R fa ρ (zE eI))(n:Int)(b:0<n):R (b2 jf fa (cB (.int n))) ρ (zE eI):=⟨a.v%n,a.D,λh=>by
 simp only[b2,a.ok h,Au,i2,cB,zk b]⟩
def d5(a b:Int)(n:Nat)(h:0<=b/\b<=1000/\a.natAbs<18446744073709551616)(c:b.toNat=n):R (b2 L3 (cB (.int a)) (cB (.int b))) ρ (zE eI):=⟨a ^ n,U,λ_=>by
 simp only[b2,Au,cB];show((if 0<=b/\b<=1000/\a.natAbs<2 ^ 64 then Z (Dt.int (a ^ b.toNat))else U).bind λd=>Z (Bx.z d))=_;rw[zk h,c];rfl⟩
def Ff(a:R fa ρ (zE eI))(b:R fb ρ (zE eI)):R (b2 EU fa fb) ρ (zE eB):=⟨decide (b.v<a.v),aY a.D b.D,λh=>by
 obtain⟨h1,h2⟩:=aA h;simp only[b2,a.ok h1,b.ok h2,Au,i2]⟩
def L6(a:R fa ρ (zE eI))(b:R fb ρ (zE eI)):R (b2 Hc fa fb) ρ (zE eB):=⟨decide (b.v<=a.v),aY a.D b.D,λh=>by
 obtain⟨h1,h2⟩:=aA h;simp only[b2,a.ok h1,b.ok h2,Au,i2]⟩
def Za(a:R fa ρ (zE eI))(b:R fb ρ (zE eI)):R (b2 EO fa fb) ρ (zE eB):=⟨decide (a.v<b.v),aY a.D b.D,λh=>by
 obtain⟨h1,h2⟩:=aA h;simp only[b2,a.ok h1,b.ok h2,Au,EO]⟩
def Ko(x y:AK):Bool:=decide (x.cps.toList<y.cps.toList)
end
class BA {α:Type} [DecidableEq α] (e:α->Dt) (n:outParam Nat):Prop where
 eq:∀a b,Gi (e a) (e b)=some (decide (a=b))
 dp:∀a,xX (e a)<=n
class CO {α:Type} (e:α->Dt):Prop where
 l:∀a,Gi .non (e a)=some false
 r:∀a,Gi (e a) .non=some false
instance:BA eI 1:=⟨λa b=>rfl,λa=>by simp[xX]⟩
instance:BA eB 1:=⟨λa b=>rfl,λa=>by simp[xX]⟩
instance:BA eS 1:=⟨λa b=>rfl,λa=>by simp[xX]⟩
instance:CO eI:=⟨λa=>rfl,λa=>rfl⟩
instance:CO eB:=⟨λa=>rfl,λa=>rfl⟩
instance:CO eS:=⟨λa=>rfl,λa=>rfl⟩
section
variable [DecidableEq α] [DecidableEq β] [DecidableEq γ] [DecidableEq δ] {e:α->Dt}{e':β->Dt}{e'':γ->Dt}{e3:δ->Dt}{m k l:Nat}
theorem DP[BA e n]:∀xs ys:O α,jZ (xs.map e) (ys.map e)=Z (decide (xs=ys))
 |[],[]=>by simp[jZ]
 |[],y::ys=>by simp[jZ]
 |x::xs,[]=>by simp[jZ]
 |x::xs,y::ys=>by
  simp only[zr,jZ,BA.eq,DP xs ys];congr 1;by_cases h:x=y<;>by_cases h':xs=ys<;>simp[h,h']
theorem DR[BA e n]:∀xs:O α,xY (xs.map e)<=n
 |[]=>by simp[xY]
 |x::xs=>by
  have:=BA.dp (e:=e) x;have:=DR xs;simp only[zr,xY];omega
instance [BA e n]:BA (eL e) (n+1):=⟨λa b=>DP a b,λa=>by simp only[xX];have:=DR (e:=e) a;omega⟩
instance [BA e n]:BA (eT e) (n+1):=⟨λa b=>DP a b,λa=>by simp only[xX];have:=DR (e:=e) a;omega⟩
instance:CO (eL e):=⟨λa=>rfl,λa=>rfl⟩
instance:CO (eT e):=⟨λa=>rfl,λa=>rfl⟩
instance:CO (MA e):=⟨λa=>rfl,λa=>rfl⟩
instance:CO (D9 e e'):=⟨λa=>rfl,λa=>rfl⟩
instance:CO (DS e e' e''):=⟨λa=>rfl,λa=>rfl⟩
instance:CO (GH e e' e'' e3):=⟨λa=>rfl,λa=>rfl⟩
instance [BA e n]:BA (MA e) (n+1):=⟨λa b=>by
 simp only[Bw,jZ,BA.eq,yn],λa=>by
 have:=BA.dp (e:=e) a;simp only[xX,xY];omega⟩
theorem ER{a b:Nat}(h:a<=n)(h':b<=m):max a b<=max n m:=Nat.max_le.mpr ⟨Zl h (Nat.le_max_left ..),Zl h' (Nat.le_max_right ..)⟩
theorem Hn{a:Nat}(h:a<=n):max a 0<=n:=Nat.max_le.mpr ⟨h,qi _⟩
instance [BA e n] [BA e' m]:BA (D9 e e') (max n m+1):=⟨λa b=>by
 obtain⟨a,a'⟩:=a;obtain⟨b,b'⟩:=b;simp only[Bw,jZ,BA.eq,oi.injEq,mw,yn],λa=>Y3 (ER (BA.dp (e:=e) a.1) (Hn (BA.dp (e:=e') a.2)))⟩
instance [BA e n] [BA e' m] [BA e'' k]:BA (DS e e' e'') (max n (max m k)+1):=⟨λa b=>by
 obtain⟨a,a',a2⟩:=a;obtain⟨b,b',b2⟩:=b;simp only[Bw,jZ,BA.eq,oi.injEq,mw,yn],λa=>Y3 (ER (BA.dp (e:=e) a.1) (ER (BA.dp (e:=e') a.2.1) (Hn (BA.dp (e:=e'') a.2.2))))⟩
instance [BA e n] [BA e' m] [BA e'' k] [BA e3 l]:BA (GH e e' e'' e3) (max n (max m (max k l))+1):=⟨λa b=>by
 obtain⟨a,a',a2,a3⟩:=a;obtain⟨b,b',b2,b3⟩:=b;simp only[Bw,jZ,BA.eq,oi.injEq,mw,yn],λa=>Y3 (ER (BA.dp (e:=e) a.1) (ER (BA.dp (e:=e') a.2.1) (ER (BA.dp (e:=e'') a.2.2.1) (Hn (BA.dp (e:=e3) a.2.2.2)))))⟩
instance [BA e n] [CO e]:BA (eO e) (n+1):=⟨λa b=>by
 cases a with
 |none=>cases b with
  |none=>exact rfl
  |some b=>exact(CO.l (e:=e) b).trans (by simp)
 |some a=>cases b with
  |none=>exact(CO.r (e:=e) a).trans (by simp)
  |some b=>exact(BA.eq (e:=e) a b).trans (by simp),λa=>by
 cases a with
 |none=>show xX .non<=n+1;simp[xX]
 |some a=>exact lL (BA.dp (e:=e) a)⟩
end
section
variable{fs:Ev->S (O Bx)}{e:α->Dt}{e':β->Dt}
def BS[DecidableEq α][BA e n](c:n<=100)(a:R fa ρ (zE e))(b:R fb ρ (zE e)):R (b2 Be fa fb) ρ (zE eB):=⟨decide (a.v=b.v),aY a.D b.D,λh=>by
 obtain⟨h1,h2⟩:=aA h;have:=BA.dp (e:=e) a.v;simp only[b2,a.ok h1,b.ok h2,Au,Be,qu,toD,zv,or_self,qc,BA.eq];rw[zk ()]⟩
def Hk[DecidableEq α][BA e n](c:n<=100)(a:R fa ρ (zE e))(b:R fb ρ (zE e)):R (b2 Tr fa fb) ρ (zE eB):=⟨!decide (a.v=b.v),aY a.D b.D,λh=>by
 obtain⟨h1,h2⟩:=aA h;have:=BA.dp (e:=e) a.v;simp only[b2,a.ok h1,b.ok h2,Au,Tr,qu,toD,zv,or_self,qc,BA.eq];rw[zk ()]⟩
theorem lZ(h:qe b=Z ds):toD b=.lst ds/\qu b=false:=by
 cases b with
 |z d=>cases d<;>cases h;exact⟨rfl,rfl⟩
 |l d=>cases h;exact⟨rfl,rfl⟩
 |o d=>cases h;exact⟨rfl,rfl⟩
 |n d=>cases h
 |m d _=>cases h
def MW[DecidableEq α][BA e n](c:n+1<=100)(a:RL fa ρ e)(b:RL fb ρ e):R (b2 Be fa fb) ρ (zE eB):=⟨decide (a.v=b.v),aY a.D b.D,λh=>by
 obtain⟨h1,h2⟩:=aA h;have:=BA.dp (e:=eL e) a.v;simp only[b2,a.ok h1,b.ok h2,Au,Be,(lZ a.lk).1,(lZ a.lk).2,(lZ b.lk).1,(lZ b.lk).2,zv,or_self,qc];have e1:=BA.eq (e:=eL e) a.v b.v;rw[zk (Zl (Nat.min_le_left _ _) (Zl (BA.dp (e:=eL e) a.v) c)),e1,Au]⟩
def NK[DecidableEq α][BA e n](c:n+1<=100)(a:RL fa ρ e)(b:RL fb ρ e):R (b2 Tr fa fb) ρ (zE eB):=⟨!decide (a.v=b.v),aY a.D b.D,λh=>by
 obtain⟨h1,h2⟩:=aA h;simp only[b2,a.ok h1,b.ok h2,Au,Tr,(lZ a.lk).1,(lZ a.lk).2,(lZ b.lk).1,(lZ b.lk).2,zv,or_self,qc];have e1:=BA.eq (e:=eL e) a.v b.v;rw[zk (Zl (Nat.min_le_left _ _) (Zl (BA.dp (e:=eL e) a.v) c)),e1,Au]⟩
def DW(a:R fa ρ (zE eB)):R (tV fa) ρ tE:=⟨a.v,a.D,λh=>by simp only[tV,a.ok h,Au,XD]⟩
def NM(a:RL fa ρ e):R (tV fa) ρ tE:=⟨!a.v.isEmpty,a.D,λh=>by
 have:XD a.b=Z (!(a.v.map e).isEmpty):=by
  have:=a.lk;generalize a.v.map e=ds at this
  revert this
  generalize a.b=b;intro this;cases b with
  |z d=>cases d<;>cases this;rfl
  |l d=>cases this;rfl
  |o d=>cases this;rfl
  |n d=>cases this
  |m d _=>cases this
 simp only[tV,a.ok h,Au,this,List.isEmpty_map]⟩
def d8{g:Bx->Bx->S Bx}(a:R (b2 g fa fb) ρ (zE eB)):R (vB g fa fb) ρ tE:=⟨a.v,a.D,λh=>by simp only[vB,a.ok h,Au,Xy]⟩
def XE(a:R p ρ tE)(b:R q ρ tE):R (XF p q) ρ tE:=⟨a.v&&b.v,aY a.D (zH (a.v=true) b.D),λh=>by
 obtain⟨h1,h2⟩:=aA h;simp only[XF,a.ok h1,Au];cases c:a.v with
 |true=>simp only[QU,Bool.true_and];exact b.ok (jj h2 c)
 |false=>simp only[zv,qc,mz]⟩
def NP(a:R p ρ tE)(b:R q ρ tE):R (WX p q) ρ tE:=⟨a.v||b.v,aY a.D (zH (a.v=false) b.D),λh=>by
 obtain⟨h1,h2⟩:=aA h;simp only[WX,a.ok h1,Au];cases c:a.v with
 |true=>simp only[QU,Bool.true_or]
 |false=>simp only[zv,qc,kH];exact b.ok (jj h2 c)⟩
def wA(a:R p ρ tE):R (za p) ρ tE:=⟨!a.v,a.D,λh=>by simp only[za,a.ok h,Au]⟩
def NE{c:α->Bx}(t:R p ρ tE)(a:R fa ρ c)(b:R fb ρ c):R (Ee p fa fb) ρ c:=⟨if t.v=true then a.v else b.v,aY t.D (aY (zH (t.v=true) a.D) (zH (t.v=false) b.D)),λh=>by
 obtain⟨h1,h2⟩:=aA h;obtain⟨h2,e⟩:=aA h2;simp only[Ee,t.ok h1,Au];cases d:t.v with
 |true=>simp only[QU];exact a.ok (jj h2 d)
 |false=>simp only[zv,qc];exact b.ok (jj e d)⟩
end
section
variable{ε:Type}{fd:Ev->S Bx}{fs:Ev->S (O Bx)}{e:α->Dt}{e':β->Dt}{e'':γ->Dt}{e3:δ->Dt}
def SH(e:α->Dt):R (cP sZ aK) ρ (zE (eT e)):=⟨[],U,λ_=>X9⟩
def Rm(a:R fa ρ (zE e))(b:R fb ρ (zE e'))(c:R fc ρ (zE e'')):R (cP sZ (aq fa (aq fb (aq fc aK)))) ρ (zE (DS e e' e'')):=⟨(a.v,b.v,c.v),aY a.D (aY b.D c.D),λh=>by
 obtain⟨h1,h⟩:=aA h;obtain⟨h2,d⟩:=aA h;simp only[cP,aq,aK,a.ok h1,b.ok h2,c.ok d,Au];rfl⟩
def jg(e:α->Dt):R aK ρ (λxs:O α=>xs.map (zE e)):=⟨[],U,λ_=>X9⟩
def jH(a:R fa ρ (zE e))(t:R fs ρ (λxs:O α=>xs.map (zE e))):R (aq fa fs) ρ (λxs:O α=>xs.map (zE e)):=⟨a.v::t.v,aY a.D t.D,λh=>by
 obtain⟨h1,h2⟩:=aA h;simp only[aq,a.ok h1,t.ok h2,Au,zr]⟩
theorem DX:∀xs:O α,JT (xs.map (zE e))=Z (xs.map e)
 |[]=>rfl
 |x::xs=>by simp only[zr,JT,DX xs,Au]
def oY(t:R fs ρ (λxs:O α=>xs.map (zE e)))(a:t.v.length<=1000):R (cP nG fs) ρ (oE e):=⟨t.v,t.D,λh=>by
 simp only[cP,t.ok h,Au,nG,zi,zk a,DX]⟩
def Zb(t:R fs ρ (λxs:O α=>xs.map (zE e)))(a:t.v.length<=1000):R (cP sZ fs) ρ (zE (eT e)):=⟨t.v,t.D,λh=>by
 simp only[cP,t.ok h,Au,sZ,zi,zk a,DX]⟩
def at'[Inhabited α](xs:O α)(i:Int):α:=(Cu xs i).getD default
def In(n:Nat)(i:Int):Prop:=-(n:Int)<=i/\i<n
theorem Kq{xs:O α}{i:Int}(h:In xs.length i):∃x,Cu xs i=Z x:=by
 obtain⟨h1,h2⟩:=h;unfold Cu DT;by_cases h0:0<=i
 ·rw[zk h0,zk h2];exact⟨xs[i.toNat]'(),zo ()⟩
 ·rw[zw h0,zk h1];exact⟨xs[(i+xs.length).toNat]'(),zo ()⟩
theorem i8{xs:O α}{i:Int}{x:α}(h:Cu xs i=Z x):Cu (xs.map e) i=Z (e x):=by
 unfold Cu at h ⊢;rw[zi];obtain⟨j,a,h⟩:=AU h;rw[a,Au,zI,h];rfl
theorem Zc[Inhabited α]{xs:O α}{i:Int}(h:In xs.length i):Cu (xs.map e) i=Z (e (at' xs i)):=by
 obtain⟨x,hx⟩:=Kq h;rw[i8 hx];unfold at';rw[hx];rfl
theorem cb{i:Int}(h:qe b=Z ds):nP b (.z (.int i))=(Cu ds i).bind λd=>Z (.z d):=by
 cases b with
 |z d=>cases d<;>cases h;rfl
 |l d=>cases h;rfl
 |o d=>cases h;rfl
 |n d=>cases h
 |m d _=>cases h
def jU[Inhabited α](a:RL fa ρ e)(b:R fb ρ (zE eI)):R (b2 nP fa fb) ρ (zE e):=⟨at' a.v b.v,aY (aY a.D b.D) (Z (In a.v.length b.v)),λh=>by
 obtain⟨h,c⟩:=aA h;obtain⟨h1,h2⟩:=aA h;simp only[b2,a.ok h1,b.ok h2,Au,cb a.lk,Zc (show In a.v.length b.v from c)]⟩
def NQ[Inhabited α](a:R fa ρ (zE (eT e)))(b:R fb ρ (zE eI)):R (b2 nP fa fb) ρ (zE e):=⟨at' a.v b.v,aY (aY a.D b.D) (Z (In a.v.length b.v)),λh=>by
 obtain⟨h,c⟩:=aA h;obtain⟨h1,h2⟩:=aA h;simp only[b2,a.ok h1,b.ok h2,Au,nP,ux,Zc (show In a.v.length b.v from c)]⟩
def ch(x:AK)(i:Int):AK:=⟨#[(Cu x.cps.toList i).getD 0]⟩
def Ug(a:R fa ρ (zE eS))(b:R fb ρ (zE eI)):R (b2 nP fa fb) ρ (zE eS):=⟨ch a.v b.v,aY (aY a.D b.D) (Z (In a.v.length b.v)),λh=>by
 obtain⟨h,c⟩:=aA h;obtain⟨h1,h2⟩:=aA h;obtain⟨x,hx⟩:=Kq (xs:=a.v.cps.toList) (i:=b.v) (show In a.v.length b.v from c);simp only[b2,a.ok h1,b.ok h2,Au,nP,hx,ch,Option.getD_some]⟩
def FD(xs:O α)(lo hi:S Int):O α:=(xs.drop (HT.iV xs.length 0 lo)).take (HT.iV xs.length xs.length hi-HT.iV xs.length 0 lo)
theorem Tl(xs:O α)(lo hi:S Int):C8 (xs.map e) lo hi=(FD xs lo hi).map e:=by
 unfold C8 FD;rw[zi,List.map_take,List.map_drop]
abbrev pE:S Int->S Int:=λo=>o
def GE:R zF ρ pE:=⟨U,U,λ_=>X9⟩
def GT(a:R fa ρ (zE eI)):R (CZ fa) ρ pE:=⟨Z a.v,a.D,λh=>by simp only[CZ,a.ok h,Au,Iq]⟩
variable{fl fh:Ev->S (S Int)}
theorem XY(h:qe b=Z ds):FF b lo hi=Z (.o (C8 ds lo hi)):=by
 cases b with
 |z d=>cases d<;>cases h;rfl
 |l d=>cases h;rfl
 |o d=>cases h;rfl
 |n d=>cases h
 |m d _=>cases h
def N2(a:RL fa ρ e)(l:R fl ρ pE)(u:R fh ρ pE):R (DA fa fl fh) ρ (oE e):=⟨FD a.v l.v u.v,aY a.D (aY l.D u.D),λh=>by
 obtain⟨h1,h⟩:=aA h;obtain⟨h2,b⟩:=aA h;simp only[DA,a.ok h1,l.ok h2,u.ok b,Au,XY a.lk,Tl]⟩
def NF(a:R fa ρ (zE eS))(l:R fl ρ pE)(u:R fh ρ pE):R (DA fa fl fh) ρ (zE eS):=⟨Txt.slice a.v l.v u.v,aY a.D (aY l.D u.D),λh=>by
 obtain⟨h1,h⟩:=aA h;obtain⟨h2,b⟩:=aA h;simp only[DA,a.ok h1,l.ok h2,u.ok b,Au,FF]⟩
def GC(n:Nat):Prop:=n<=1000000
def Zd(a:R fa ρ (zE eS))(b:R fb ρ (zE eS)):R (b2 iD fa fb) ρ (zE eS):=⟨a.v++b.v,aY (aY a.D b.D) (Z (GC (a.v.length+b.v.length))),λh=>by
 obtain⟨h,c⟩:=aA h;obtain⟨h1,h2⟩:=aA h;simp only[b2,a.ok h1,b.ok h2,Au,iD,zk (show a.v.length+b.v.length<=Vz from c)]⟩
theorem NT{e:Bx}{ds':O Dt}(h:qe b=Z ds)(h':qe e=Z ds')(c:ds.length+ds'.length<=Vz):iD b e=Z (.o (ds++ds')):=by
 cases b with
 |z d=>
  cases d<;>cases h;cases e with
  |z a=>cases a<;>cases h';exact zk c
  |l a=>cases h';exact zk c
  |o a=>cases h';exact zk c
  |n a=>cases h'
  |m a=>cases h'
 |l d=>
  cases h;cases e with
  |z a=>cases a<;>cases h';exact zk c
  |l a=>cases h';exact zk c
  |o a=>cases h';exact zk c
  |n a=>cases h'
  |m a=>cases h'
 |o d=>
  cases h;cases e with
  |z a=>cases a<;>cases h';exact zk c
  |l a=>cases h';exact zk c
  |o a=>cases h';exact zk c
  |n a=>cases h'
  |m a=>cases h'
 |n d=>cases h
 |m d _=>cases h
def DY(a:RL fa ρ e)(b:RL fb ρ e):R (b2 iD fa fb) ρ (oE e):=⟨a.v++b.v,aY (aY a.D b.D) (Z (GC (a.v.length+b.v.length))),λh=>by
 obtain⟨h,c⟩:=aA h;obtain⟨h1,h2⟩:=aA h;simp only[b2,a.ok h1,b.ok h2,Au];rw[NT a.lk b.lk (by rw[zi,zi];exact c)];simp only[oE,ZN]⟩
def Ze(a:R fa ρ (zE eS))(b:R fb ρ (zE eI)):R (b2 uw fa fb) ρ (zE eS):=⟨Txt.mul a.v b.v,aY (aY a.D b.D) (Z (b.v<=1000 ∧ -1000<=b.v/\a.v.length<=1000)),λh=>by
 obtain⟨h,c⟩:=aA h;obtain⟨h1,h2⟩:=aA h;simp only[b2,a.ok h1,b.ok h2,Au];exact zk c⟩
theorem Zf(h:qe b=Z ds):jy [b]=Z (.z (.int ds.length)):=by
 cases b with
 |z d=>cases d<;>cases h;rfl
 |l d=>cases h;rfl
 |o d=>cases h;rfl
 |n d=>cases h
 |m d _=>cases h
theorem Zg(h:qe b=Z ds):ux b=Z ds:=by
 cases b with
 |z d=>cases d<;>cases h;rfl
 |l d=>cases h;rfl
 |o d=>cases h;rfl
 |n d=>cases h
 |m d _=>cases h
def BE(a:RL fa ρ e):R (cP jy (aq fa aK)) ρ (zE eI):=⟨(a.v.length:Int),a.D,λh=>by
 simp only[cP,aq,aK,a.ok h,Au,Zf a.lk,zi]⟩
def Ea(a:R fa ρ (zE (eT e))):R (cP jy (aq fa aK)) ρ (zE eI):=⟨(a.v.length:Int),a.D,λh=>by
 simp only[cP,aq,aK,a.ok h,Au,jy,ux,zi]⟩
def Xt(a:R fa ρ (zE eS)):R (cP jy (aq fa aK)) ρ (zE eI):=⟨(a.v.length:Int),a.D,λh=>by
 simp only[cP,aq,aK,a.ok h,Au,jy]⟩
def oZ(a:RL fa ρ e):R (cP lJ (aq fa aK)) ρ (zE (eT e)):=⟨a.v,a.D,λh=>by
 simp only[cP,aq,aK,a.ok h,Au,lJ,Zg a.lk]⟩
def Xs(a:R fa ρ (zE (eT e))):R (cP M4 (aq fa aK)) ρ (oE e):=⟨a.v,a.D,λh=>by
 simp only[cP,aq,aK,a.ok h,Au,M4,ux]⟩
def Pe(a:R fa ρ (zE eI)):R (cP Yn (aq fa aK)) ρ (zE eI):=⟨if a.v<0 then -a.v else a.v,a.D,λh=>by
 simp only[cP,aq,aK,a.ok h,Au,Yn]⟩
def Ro(a:R fa ρ (zE eB)):R (cP QF (aq fa aK)) ρ (zE eI):=⟨if a.v=true then 1 else 0,a.D,λh=>by
 simp only[cP,aq,aK,a.ok h,Au,QF]⟩
theorem Iw:∀l:O Bool,Ia (l.map eB)=Z l
 |[]=>rfl
 |a::l=>by simp only[zr,Ia,Iw l,Au]
def NI(a:RL fa ρ eB):R (cP CM (aq fa aK)) ρ (zE eB):=⟨a.v.any id,a.D,λh=>by
 simp only[cP,aq,aK,a.ok h,Au,CM,a.lk,Iw]⟩
def Zh(a:R fa ρ (zE eI))(b:R fb ρ (zE eI)):R (cP QJ (aq fa (aq fb aK))) ρ (zE eI):=⟨if b.v>a.v then b.v else a.v,aY a.D b.D,λh=>by
 obtain⟨h1,h2⟩:=aA h;simp only[cP,aq,aK,a.ok h1,b.ok h2,Au,QJ]⟩
def cK(a:R fa ρ (zE eI))(b:R fb ρ (zE eI)):R (cP Yq (aq fa (aq fb aK))) ρ (zE eI):=⟨if b.v<a.v then b.v else a.v,aY a.D b.D,λh=>by
 obtain⟨h1,h2⟩:=aA h;simp only[cP,aq,aK,a.ok h1,b.ok h2,Au,Yq]⟩
def g7(P:Dt->Bool)(a:RL fa ρ e)(k:Bool)(hk:∀ds,P (.lst ds)=k):R (Yp P fa) ρ (zE eB):=⟨k,a.D,λh=>by
 simp only[Yp,b1,a.ok h,Au,lZ a.lk,zv,qc,hk]⟩
theorem BI:∀l:An,qw (l.map eS)=Z l
 |[]=>rfl
 |a::l=>by simp only[zr,qw,BI l,Au]
def df(s:AK)(a:RL fa ρ eS):R (b1 (M7 s) fa) ρ (zE eS):=⟨Txt.join s a.v,aY a.D (Z ((a.v.map (·.length)).sum+a.v.length*s.length<=100000)),λh=>by
 obtain⟨h,b⟩:=aA h;simp only[b1,a.ok h,Au,M7,a.lk,BI];exact zk b⟩
def vG(a:RL fa ρ eS):R (cP wz (aq fa aK)) ρ (oE eS):=⟨bH a.v,aY a.D (Z (a.v.length<64)),λh=>by
 obtain⟨h,b⟩:=aA h;simp only[cP,aq,aK,a.ok h,Au,wz,a.lk,BI];exact zk b⟩
class C7 {α:Type} (e:α->Dt):Prop where
 f:∀a,yd (e a)=true
instance:C7 eI:=⟨λ_=>rfl⟩
instance:C7 eB:=⟨λ_=>rfl⟩
instance:C7 eS:=⟨λ_=>rfl⟩
theorem Eb[DecidableEq α][BA e n][C7 e](x:α)(ys:O α):CL (e x) (ys.map e)=Z (decide (x∈ys)):=by
 unfold CL;rw[zk ⟨C7.f x,by rw[List.all_map];exact List.all_eq_true.mpr λy _=>C7.f y⟩,hP];congr 1;rw[mv,kg,decide_eq_true_iff];constructor
 ·rintro⟨y,a,h⟩;simp only[Function.comp,BA.eq]at h;by_cases e1:y=x
  ·rw[<-e1];exact a
  ·simp only[e1,Kt]at h;cases h
 ·intro h;exact⟨x,h,by simp only[Function.comp,BA.eq,KS]⟩
theorem Uh(h:qe b=Z ds):ET (.z d) b=CL d ds:=by
 cases b with
 |z a=>cases a<;>cases h;cases d<;>rfl
 |l a=>cases h;cases d<;>rfl
 |o a=>cases h;cases d<;>rfl
 |n a=>cases h
 |m a=>cases h
theorem SS:ET (.z d) (.z (.tup ds))=CL d ds:=by cases d<;>rfl
def GO[DecidableEq α][BA e n][C7 e](a:R fa ρ (zE e))(b:RL fb ρ e):R (b2 CY fa fb) ρ (zE eB):=⟨decide (a.v∈b.v),aY a.D b.D,λh=>by
 obtain⟨h1,h2⟩:=aA h;simp only[b2,a.ok h1,b.ok h2,Au,CY,Uh b.lk,Eb]⟩
def S0[DecidableEq α][BA e n][C7 e](a:R fa ρ (zE e))(b:RL fb ρ e):R (b2 Fh fa fb) ρ (zE eB):=⟨!decide (a.v∈b.v),aY a.D b.D,λh=>by
 obtain⟨h1,h2⟩:=aA h;simp only[b2,a.ok h1,b.ok h2,Au,Fh,Uh b.lk,Eb]⟩
def ME[DecidableEq α][BA e n][C7 e](a:R fa ρ (zE e))(b:R fb ρ (zE (eT e))):R (b2 CY fa fb) ρ (zE eB):=⟨decide (a.v∈b.v),aY a.D b.D,λh=>by
 obtain⟨h1,h2⟩:=aA h;simp only[b2,a.ok h1,b.ok h2,Au,CY,SS,Eb]⟩
end
structure AR {γ:Type} (cA:γ->List Bx->Prop) (fs:Ev->Option (List Bx)) (ρ:Ev) where
 v:γ
 D:Option Prop
 bs:List Bx
 h:cA v bs
 ok:hold D->fs ρ=some bs
section
variable{ε σ:Type}{fd:Ev->S Bx}{fs:Ev->S (O Bx)}{e:α->Dt}{e':β->Dt}{e'':γ->Dt}{e3:δ->Dt}
def aN:Unit->O Bx->Prop:=λ_ bs=>bs=[]
def aZ(e:α->Dt)(t:γ->O Bx->Prop):α×γ->O Bx->Prop:=λx bs=>∃r,bs=.z (e x.1)::r/\t x.2 r
def aL(e:α->Dt)(t:γ->O Bx->Prop):O α×γ->O Bx->Prop:=λx bs=>∃b r,bs=b::r/\qe b=Z (x.1.map e)/\t x.2 r
def bM:AR aN aK ρ:=⟨gl,U,[],rfl,λ_=>X9⟩
def gJ{t:γ->O Bx->Prop}(a:R fa ρ (zE e))(r:AR t fs ρ):AR (aZ e t) (aq fa fs) ρ:=⟨(a.v,r.v),aY a.D r.D,_,⟨_,rfl,r.h⟩,λh=>by
 obtain⟨h1,h2⟩:=aA h;simp only[aq,a.ok h1,r.ok h2,Au]⟩
def dI{t:γ->O Bx->Prop}(a:RL fa ρ e)(r:AR t fs ρ):AR (aL e t) (aq fa fs) ρ:=⟨(a.v,r.v),aY a.D r.D,_,⟨_,_,rfl,a.lk,r.h⟩,λh=>by
 obtain⟨h1,h2⟩:=aA h;simp only[aq,a.ok h1,r.ok h2,Au]⟩
def As{b:γ->O Bx->Prop}{c:α->Bx}{T:γ->α}{d:γ->Option Prop}(S:∀v bs,b v bs->bs.length=n/\(hold (d v)->F (bs.map lend)=Z (c (T v))))(a:AR b fs ρ):R (bU n F fs) ρ c:=⟨T a.v,aY a.D (d a.v),λh=>by
 obtain⟨h1,h2⟩:=aA h;obtain⟨f,e⟩:=S a.v a.bs a.h;simp only[bU,a.ok h1,Au,zk f,e h2]⟩
theorem SA{bs:O Bx}{c:α->Bx}(x:R g (bs.map Z++ba (n-bs.length) U) (λr=>Ap.rt (c r)))(h:hold x.D):fM n g bs=Z (c x.v):=by
 unfold fM;rw[x.ok h];rfl
def Zi(xs:O α)(P:α->S Prop):S Prop:=Z (∀x∈xs,hold (P x))
theorem Ed{fs:Ev->S (O Dt)}{b:Ev}{g:α->O Dt}{π:α->Bool}:∀xs:O α,(∀x∈xs,∃a,gt (e x) b=Z a/\p a=Z (π x)/\(π x=true->fs a=Z (g x)))->zf gt p fs b (xs.map e)=Z ((xs.filter π).flatMap g)
 |[],_=>rfl
 |x::xs,h=>by
  obtain⟨a,h1,h2,f⟩:=h x (zg ..);have c:=Ed (g:=g) (π:=π) xs λy d=>h y (zh _ d);cases hp:π x with
  |true=>simp only[zr,zf,h1,Au,h2,hp,QU,f hp,c,kM,YR]
  |false=>simp only[zr,zf,h1,Au,h2,hp,c,kM,zv,qc]
theorem NZ{g:α->β}:∀xs:O α,xs.flatMap (λx=>[e' (g x)])=(xs.map g).map e'
 |[]=>rfl
 |x::xs=>by rw[YR,NZ xs];rfl
theorem Ef{b:Ev}{g:α->β}{π:α->Bool}(xs:O α)(h:∀x∈xs,∃a,gt (e x) b=Z a/\p a=Z (π x)/\(π x=true->fe a=Z (.z (e' (g x))))):z6 gt p fe b (xs.map e)=Z (((xs.filter π).map g).map e'):=by
 rw[<-NZ];exact Ed xs λx hx=>let ⟨a,h1,h2,h3⟩:=h x hx;⟨a,h1,h2,λhp=>by rw[h3 hp];rfl⟩
theorem Bn{b:Ev}{g:α->β}(xs:O α)(h:∀x∈xs,∃a,gt (e x) b=Z a/\fe a=Z (.z (e' (g x)))):z6 gt uD fe b (xs.map e)=Z ((xs.map g).map e'):=
 (Ef (π:=λ_=>true) xs λx hx=>let ⟨a,h1,h2⟩:=h x hx;⟨a,h1,rfl,λ_=>h2⟩).trans (by rw[mS.mpr λ_ _=>X9])
def zJ(it:R fi ρ (iE e))(a:α->Ev)(d:∀x,gt (e x) (ji is ρ++ba n U)=Z (a x))(b:∀x,R fe (a x) (zE e')):R (fK fi gt uD fe is n) ρ (oE e'):=⟨it.v.map λx=>(b x).v,aY (aY it.D (Z (it.v.length<=100000))) (Zi it.v λx=>(b x).D),λh=>by
 obtain⟨h,c⟩:=aA h;obtain⟨h1,h2⟩:=aA h;have c:∀x∈it.v,hold (b x).D:=c;simp only[fK,it.ok h1,Au,zi,zk (show it.v.length<=100000 from h2),Bn it.v λx hx=>⟨a x,d x,(b x).ok (c x hx)⟩]⟩
def Kr(it:R fi ρ (iE e))(a:α->Ev)(d:∀x,gt (e x) (ji is ρ++ba n U)=Z (a x))(b:∀x,R fe (a x) (zE e'))(c:∀x,(b x).D=U):R (fK fi gt uD fe is n) ρ (oE e'):=⟨it.v.map λx=>(b x).v,aY it.D (Z (it.v.length<=100000)),λh=>by
 obtain⟨h1,h2⟩:=aA h;simp only[fK,it.ok h1,Au,zi,zk (show it.v.length<=100000 from h2),Bn it.v λx hx=>⟨a x,d x,(b x).ok (by rw[c x];trivial)⟩]⟩
def vH(it:R fi ρ (iE e))(a:α->Ev)(f:∀x,gt (e x) (ji is ρ++ba n U)=Z (a x))(t:∀x,R p (a x) tE)(b:∀x,R fe (a x) (zE e')):R (fK fi gt p fe is n) ρ (oE e'):=⟨(it.v.filter λx=>(t x).v).map λx=>(b x).v,aY (aY it.D (Z (it.v.length<=100000))) (Zi it.v λx=>aY (t x).D (zH ((t x).v=true) (b x).D)),λh=>by
 obtain⟨h,c⟩:=aA h;obtain⟨h1,h2⟩:=aA h;have c:∀x∈it.v,hold (aY (t x).D (zH ((t x).v=true) (b x).D)):=c;simp only[fK,it.ok h1,Au,zi,zk (show it.v.length<=100000 from h2),Ef it.v λx hx=>⟨a x,f x,(t x).ok (aA (c x hx)).1,λd=>(b x).ok (jj (aA (c x hx)).2 d)⟩]⟩
def Eh(it:R fi ρ (iE e))(a:α->Ev)(d:∀x,gt (e x) (ji is ρ++ba n U)=Z (a x))(t:∀x,R p (a x) tE)(b:∀x,R fe (a x) (zE e'))(f:∀x,(t x).D=U)(c:∀x,(b x).D=U):R (fK fi gt p fe is n) ρ (oE e'):=⟨(it.v.filter λx=>(t x).v).map λx=>(b x).v,aY it.D (Z (it.v.length<=100000)),λh=>by
 obtain⟨h1,h2⟩:=aA h;simp only[fK,it.ok h1,Au,zi,zk (show it.v.length<=100000 from h2),Ef it.v λx hx=>⟨a x,d x,(t x).ok (by rw[f x];trivial),λ_=>(b x).ok (by rw[c x];trivial)⟩]⟩
def zK(a:RL fa ρ e):R (Ib fa) ρ (iE e):=⟨a.v,a.D,λh=>by
 have:GB a.b=Z (a.v.map e):=by
  have:=a.lk
  revert this
  generalize a.b=b;generalize a.v.map e=ds;intro this;cases b with
  |z d=>cases d<;>cases this;rfl
  |l d=>cases this;rfl
  |o d=>cases this;rfl
  |n d=>cases this
  |m d _=>cases this
 simp only[Ib,a.ok h,Au,this]⟩
def IF(a:R fa ρ (zE (eT e))):R (Ib fa) ρ (iE e):=⟨a.v,a.D,λh=>by simp only[Ib,a.ok h,Au,GB]⟩
def Wg(a:R fa ρ (oE e)):R (VB fa) ρ (iE e):=⟨a.v,a.D,λh=>by simp only[VB,a.ok h,Au,X3]⟩
def OO(a:R fa ρ (zE (eT e))):R (VB fa) ρ (iE e):=⟨a.v,a.D,λh=>by simp only[VB,a.ok h,Au,X3]⟩
def rng(i:Int)(n:Nat):O Int:=(dg n).map λk:Nat=>i+(k:Int)
theorem Ui(i:Int)(n:Nat):JV i n=(rng i n).map eI:=by
 unfold JV rng;rw[ZY];rfl
def Rg(j:Int):Prop:=-4611686018427387904<=j/\j<4611686018427387904
def N5(a:R fa ρ (zE eI)):R (Tz (aq fa aK)) ρ (iE eI):=⟨rng 0 a.v.toNat,aY a.D (Z (Rg a.v)),λh=>by
 obtain⟨h,b⟩:=aA h;simp only[Tz,aq,aK,a.ok h,Au];show(if -(2 ^ 62)<=a.v/\a.v<2 ^ 62 then Z (JV 0 a.v.toNat)else U)=_;exact(zk b).trans (by rw[Ui])⟩
def f'(n:Int)(m:Nat)(b:n.toNat=m)(a:Rg n):R (Tz (aq (cB (.int n)) aK)) ρ (iE eI):=⟨rng 0 m,U,λ_=>by
 simp only[Tz,aq,aK,Au,cB];show(if -(2 ^ 62)<=n/\n<2 ^ 62 then Z (JV 0 n.toNat)else U)=_;exact(zk a).trans (by rw[Ui,b])⟩
end
section
variable{ε σ τ:Type}{fd:Ev->S Bx}{fs:Ev->S (O Bx)}{e:α->Dt}{e':β->Dt}{k:Ev->S Ap}{cO:γ->Ap}
theorem jh{ρ':Ev}(h:g1 ρ=Z (.nx ρ')):aJ g1 k ρ=k ρ':=by
 unfold aJ;rw[h];rfl
def bO(x:R (aJ g (aJ g1 k)) ρ cO):R (aJ (aJ g g1) k) ρ cO:=⟨x.v,x.D,λh=>by
 rw[<-x.ok h];unfold aJ;cases g ρ with
 |none=>rfl
 |some o=>cases o<;>rfl⟩
def cQ(x:R k ρ cO):R (aJ iz k) ρ cO:=⟨x.v,x.D,λh=>x.ok h⟩
def cu(x:γ)(h:cO x=.nx (kill is ρ)):R (fP is) ρ cO:=⟨x,U,λ_=>by rw[h];rfl⟩
def gY{c:α->Bx}(inj:α->γ)(a:R f ρ c)(h:∀x,cO (inj x)=.rt (c x))(d:∀x,XM (c x)=Z (.rt (c x))):R (aJ (jT f) k) ρ cO:=⟨inj a.v,a.D,λb=>by
 have:jT f ρ=Z (.rt (c a.v)):=by unfold jT;rw[a.ok b,Au,d]
 unfold aJ;rw[this,h];rfl⟩
def Ku{c:α->Bx}(i:Nat)(inj:α->γ)(a:α)(hi:ρ[i]?=Z (Z (c a)))(h:∀x,cO (inj x)=.rt (c x))(b:∀x,XM (c x)=Z (.rt (c x))):R (aJ (CJ i) k) ρ cO:=⟨inj a,U,λd=>by
 have:CJ i ρ=Z (.rt (c a)):=by unfold CJ;rw[hi];exact b a
 unfold aJ;rw[this,h];rfl⟩
def bV{c:α->Bx}(i:Nat)(a:R f ρ c)(d:∀x,XQ ρ i (c x)=Z (ρ.set i (Z (c x))))(K:∀x,R k (ρ.set i (Z (c x))) cO):R (aJ (B4 i f) k) ρ cO:=⟨(K a.v).v,aY a.D (K a.v).D,λb=>by
 obtain⟨h1,h2⟩:=aA b;rw[jh (ρ':=ρ.set i (Z (c a.v))) (by unfold B4;rw[a.ok h1,Au,d,Au])];exact(K a.v).ok h2⟩
def RY(a:R f ρ (zE e))(b:α->Ev)(d:∀x,gt (e x) ρ=Z (b x))(K:∀x,R k (b x) cO):R (aJ (IA gt f) k) ρ cO:=⟨(K a.v).v,aY a.D (K a.v).D,λc=>by
 obtain⟨h1,h2⟩:=aA c;rw[jh (ρ':=b a.v) (by unfold IA;rw[a.ok h1,Au];simp only[d,Au])];exact(K a.v).ok h2⟩
def bi(i j:Nat)(a:R fa ρ (zE e))(b:R fb ρ (zE e'))(K:∀x y,R k ((ρ.set i (Z (.z (e x)))).set j (Z (.z (e' y)))) cO):R (aJ (IU i j (aq fa (aq fb aK))) k) ρ cO:=⟨(K a.v b.v).v,aY (aY a.D b.D) (K a.v b.v).D,λc=>by
 obtain⟨h1,d⟩:=aA c;obtain⟨h1,h2⟩:=aA h1;rw[jh (ρ':=(ρ.set i (Z (.z (e a.v)))).set j (Z (.z (e' b.v)))) (by unfold IU;simp only[aq,aK,a.ok h1,b.ok h2,Au,GV])];exact(K a.v b.v).ok d⟩
def Uj(i:Nat)(xs:O α)(hi:ρ[i]?=Z (Z (.o (xs.map e))))(a:R f ρ (zE e))(K:∀ys:O α,R k (ρ.set i (Z (.o (ys.map e)))) cO):R (aJ (J4 i f) k) ρ cO:=⟨(K (xs++[a.v])).v,aY (aY a.D (Z (GC xs.length))) (K (xs++[a.v])).D,λb=>by
 obtain⟨h1,c⟩:=aA b;obtain⟨h1,h2⟩:=aA h1;have h2:xs.length<=1000000:=h2;rw[jh (ρ':=ρ.set i (Z (.o ((xs++[a.v]).map e)))) (by
  unfold J4;rw[a.ok h1,Au];simp only[XS,hi,zi,ZN,zr,kU];rw[zk (kl h2 ())])]
 exact(K _).ok c⟩
def qF(t:R p ρ tE)(a:R (aJ g1 k) ρ cO)(b:R (aJ g2 k) ρ cO):R (aJ (Av p g1 g2) k) ρ cO:=⟨if t.v=true then a.v else b.v,aY t.D (aY (zH (t.v=true) a.D) (zH (t.v=false) b.D)),λe=>by
 obtain⟨h1,h2⟩:=aA e;obtain⟨h2,g⟩:=aA h2;have e1:∀c,t.v=c->aJ (Av p g1 g2) k ρ=aJ (if c=true then g1 else g2) k ρ:=λc f=>by
  unfold aJ Av;rw[t.ok h1,Au,f];cases c<;>rfl
 cases d:t.v with
 |true=>rw[e1 true d];simp only[QU];exact a.ok (jj h2 d)
 |false=>rw[e1 false d];simp only[zv,qc];exact b.ok (jj g d)⟩
def Iz(E:σ->Ev)(t:R p ρ tE)(a:R g1 ρ (λs=>Ap.nx (E s)))(b:R g2 ρ (λs=>Ap.nx (E s)))(K:∀s,R k (E s) cO):R (aJ (Av p g1 g2) k) ρ cO:=⟨(K (if t.v=true then a.v else b.v)).v,aY (aY t.D (aY (zH (t.v=true) a.D) (zH (t.v=false) b.D))) (K (if t.v=true then a.v else b.v)).D,λd=>by
 obtain⟨h,e⟩:=aA d;obtain⟨h1,h2⟩:=aA h;obtain⟨h2,f⟩:=aA h2;rw[jh (ρ':=E (if t.v=true then a.v else b.v)) (by
  unfold Av;rw[t.ok h1,Au];cases c:t.v with
  |true=>simp only[QU];exact a.ok (jj h2 c)
  |false=>simp only[zv,qc];exact b.ok (jj f c))]
 exact(K _).ok e⟩
def mj(step:σ->α->σ)(P:σ->α->S Prop):O α->σ->Prop
 |[],_=>True
 |x::xs,s=>hold (P s x)/\mj step P xs (step s x)
theorem yF{gb:Ev->S Ap}(E:σ->Ev)(a:σ->α->Ev)(b:∀s x,gt (e x) (E s)=Z (a s x))(body:∀s x,R gb (a s x) (λs=>Ap.nx (E s))):∀(xs:O α) (s:σ),mj (λs x=>(body s x).v) (λs x=>(body s x).D) xs s->pK gt gb (xs.map e) (E s)=Z (.nx (E (xs.foldl (λs x=>(body s x).v) s)))
 |[],s,_=>rfl
 |x::xs,s,h=>by
  simp only[zr,pK,b,Au,(body s x).ok h.1,QA];exact yF E a b body xs _ h.2
def IK(E:σ->Ev)(a:σ)(c:ρ=E a)(it:R fi ρ (iE e))(b:σ->α->Ev)(g:∀s x,gt (e x) (E s)=Z (b s x))(body:∀s x,R gb (b s x) (λs=>Ap.nx (E s)))(K:∀s,R k (E s) cO):R (aJ (qX fi gt gb) k) ρ cO:=⟨(K (it.v.foldl (λs x=>(body s x).v) a)).v,aY (aY it.D (Z (mj (λs x=>(body s x).v) (λs x=>(body s x).D) it.v a))) (K (it.v.foldl (λs x=>(body s x).v) a)).D,λf=>by
 obtain⟨h,d⟩:=aA f;obtain⟨h1,h2⟩:=aA h;rw[jh (ρ':=E (it.v.foldl (λs x=>(body s x).v) a)) (by
  unfold qX;rw[it.ok h1,Au];subst c;exact yF E b g body it.v a h2)]
 exact(K _).ok d⟩
def ij(E:σ->Ev)(a:σ)(c:ρ=E a)(it:R fi ρ (iE e))(b:σ->α->Ev)(i:∀s x,gt (e x) (E s)=Z (b s x))(body:∀s x,R gb (b s x) (λs=>Ap.nx (E s)))(d:∀s x,(body s x).D=U)(K:∀s,R k (E s) cO):R (aJ (qX fi gt gb) k) ρ cO:=⟨(K (it.v.foldl (λs x=>(body s x).v) a)).v,aY it.D (K (it.v.foldl (λs x=>(body s x).v) a)).D,λg=>by
 obtain⟨h1,f⟩:=aA g;have h2:∀(xs:O α) (s:σ),mj (λs x=>(body s x).v) (λs x=>(body s x).D) xs s:=λxs=>by
  induction xs with
  |nil=>intro s;trivial
  |cons x xs h=>intro s;exact⟨by show hold (body s x).D;rw[d s x];trivial,h _⟩
 rw[jh (ρ':=E (it.v.foldl (λs x=>(body s x).v) a)) (by
  unfold qX;rw[it.ok h1,Au];subst c;exact yF E b i body it.v a (h2 _ _))]
 exact(K _).ok f⟩
inductive j6 (σ τ:Type) where
 |nx (s:σ)|rt (r:τ)|bk (s:σ)|ct (s:σ)
def cC(E:σ->Ev)(c:τ->Bx):j6 σ τ->Ap
 |.nx s=>.nx (E s)
 |.rt r=>.rt (c r)
 |.bk s=>.bk (E s)
 |.ct s=>.ct (E s)
def lK(step:σ->α->j6 σ τ):O α->σ->j6 σ τ
 |[],s=>.nx s
 |x::xs,s=>match step s x with
  |.nx s'=>lK step xs s'
  |.ct s'=>lK step xs s'
  |.bk s'=>.nx s'
  |.rt r=>.rt r
def uI(step:σ->α->j6 σ τ)(P:σ->α->S Prop):O α->σ->Prop
 |[],_=>True
 |x::xs,s=>hold (P s x)/\match step s x with
  |.nx s'=>uI step P xs s'
  |.ct s'=>uI step P xs s'
  |.bk _=>True
  |.rt _=>True
theorem Ca{c:τ->Bx}(E:σ->Ev)(a:σ->α->Ev)(b:∀s x,gt (e x) (E s)=Z (a s x))(body:∀s x,R gb (a s x) (cC E c)):∀(xs:O α) (s:σ),uI (λs x=>(body s x).v) (λs x=>(body s x).D) xs s->pK gt gb (xs.map e) (E s)=Z (cC E c (lK (λs x=>(body s x).v) xs s))
 |[],s,_=>rfl
 |x::xs,s,h=>by
  obtain⟨h1,h2⟩:=h;dsimp only at h2;simp only[zr,pK,b,Au,(body s x).ok h1,lK]
  revert h2
  cases(body s x).v with
  |nx s'=>intro h2;exact Ca E a b body xs s' h2
  |ct s'=>intro h2;exact Ca E a b body xs s' h2
  |bk s'=>intro _;rfl
  |rt r=>intro _;rfl
theorem yG(step:σ->α->j6 σ τ):∀(xs:O α) (s:σ),(∃s',lK step xs s=.nx s')\/∃r,lK step xs s=.rt r
 |[],s=>.inl ⟨s,rfl⟩
 |x::xs,s=>by
  unfold lK;cases step s x with
  |nx s'=>exact yG step xs s'
  |ct s'=>exact yG step xs s'
  |bk s'=>exact .inl ⟨s',rfl⟩
  |rt r=>exact .inr ⟨r,rfl⟩
def BO(r:j6 σ τ)(inj:τ->γ)(K:σ->γ):γ:=match r with
 |.rt r=>inj r
 |.nx s=>K s
 |.bk s=>K s
 |.ct s=>K s
def yH(r:j6 σ τ)(K:σ->Prop):Prop:=match r with
 |.rt _=>True
 |.nx s=>K s
 |.bk s=>K s
 |.ct s=>K s
def Kv(r:j6 σ τ)(K:σ->S Prop):S Prop:=Z (yH r λs=>hold (K s))
def Zj{c:τ->Bx}(E:σ->Ev)(a:σ)(f:ρ=E a)(it:R fi ρ (iE e))(b:σ->α->Ev)(j:∀s x,gt (e x) (E s)=Z (b s x))(body:∀s x,R gb (b s x) (cC E c))(inj:τ->γ)(i:∀r,cO (inj r)=.rt (c r))(K:∀s,R k (E s) cO):R (aJ (qX fi gt gb) k) ρ cO:=⟨BO (lK (λs x=>(body s x).v) it.v a) inj λs=>(K s).v,aY (aY it.D (Z (uI (λs x=>(body s x).v) (λs x=>(body s x).D) it.v a))) (Kv (lK (λs x=>(body s x).v) it.v a) λs=>(K s).D),λg=>by
 obtain⟨h,d⟩:=aA g;obtain⟨h1,h2⟩:=aA h;have e1:qX fi gt gb ρ=Z (cC E c (lK (λs x=>(body s x).v) it.v a)):=by
  unfold qX;rw[it.ok h1,Au];subst f;exact Ca E b j body it.v a h2
 rcases yG (λs x=>(body s x).v) it.v a with⟨s',es⟩|⟨r,es⟩
 ·rw[es]at e1 d ⊢;rw[jh e1];exact(K s').ok d
 ·rw[es]at e1 ⊢;show aJ (qX fi gt gb) k ρ=Z (cO (inj r));unfold aJ;rw[e1,i];rfl⟩
theorem aI(h:ρ[i]?=Z (Z (.l ds))):uh i gt gb ρ=pK gt gb ds ρ:=by unfold uh;rw[h]
theorem WC(h:ρ[i]?=Z (Z (.z (.tup ds)))):uh i gt gb ρ=pK gt gb ds ρ:=by unfold uh;rw[h];rfl
theorem PH(h:ρ[i]?=Z (Z (.z (.lst ds)))):uh i gt gb ρ=pK gt gb ds ρ:=by unfold uh;rw[h];rfl
theorem bS(hp:Lp b ds)(h:ρ[i]?=Z (Z b)):uh i gt gb ρ=pK gt gb ds ρ:=by
 rcases hp with rfl|rfl
 ·exact PH h
 ·exact aI h
def hW(i:Nat){ρ':Ev}(xs:O α)(g:uh i gt gb ρ=pK gt gb (xs.map e) ρ')(E:σ->Ev)(a:σ)(c:ρ'=E a)(b:σ->α->Ev)(h:∀s x,gt (e x) (E s)=Z (b s x))(body:∀s x,R gb (b s x) (λs=>Ap.nx (E s)))(K:∀s,R k (E s) cO):R (aJ (uh i gt gb) k) ρ cO:=⟨(K (xs.foldl (λs x=>(body s x).v) a)).v,aY (Z (mj (λs x=>(body s x).v) (λs x=>(body s x).D) xs a)) (K (xs.foldl (λs x=>(body s x).v) a)).D,λf=>by
 obtain⟨h2,d⟩:=aA f;rw[jh (ρ':=E (xs.foldl (λs x=>(body s x).v) a)) (by
  rw[g,c];exact yF E b h body xs a h2)]
 exact(K _).ok d⟩
def de{c:τ->Bx}(i:Nat){ρ':Ev}(xs:O α)(h:uh i gt gb ρ=pK gt gb (xs.map e) ρ')(E:σ->Ev)(a:σ)(f:ρ'=E a)(b:σ->α->Ev)(l:∀s x,gt (e x) (E s)=Z (b s x))(body:∀s x,R gb (b s x) (cC E c))(inj:τ->γ)(j:∀r,cO (inj r)=.rt (c r))(K:∀s,R k (E s) cO):R (aJ (uh i gt gb) k) ρ cO:=⟨BO (lK (λs x=>(body s x).v) xs a) inj λs=>(K s).v,aY (Z (uI (λs x=>(body s x).v) (λs x=>(body s x).D) xs a)) (Kv (lK (λs x=>(body s x).v) xs a) λs=>(K s).D),λg=>by
 obtain⟨h2,d⟩:=aA g;have e1:uh i gt gb ρ=Z (cC E c (lK (λs x=>(body s x).v) xs a)):=by
  rw[h,f];exact Ca E b l body xs a h2
 rcases yG (λs x=>(body s x).v) xs a with⟨s',es⟩|⟨r,es⟩
 ·rw[es]at e1 d ⊢;rw[jh e1];exact(K s').ok d
 ·rw[es]at e1 ⊢;show aJ (uh i gt gb) k ρ=Z (cO (inj r));unfold aJ;rw[e1,j];rfl⟩
class Ky {κ:Type} (c:κ->AZ):Prop where
 inj:∀a b,c a=c b->a=b
abbrev kS:AK->AZ:=Sum.inr
abbrev kI:Int->AZ:=Sum.inl
instance:Ky kS:=⟨λ_ _ h=>by cases h;rfl⟩
instance:Ky kI:=⟨λ_ _ h=>by cases h;rfl⟩
abbrev mE(e:α->Dt):O (AK×α)->Bx:=λm=>.m (m.map λq=>(kS q.1,e q.2)) U
abbrev nE(e:α->Dt):O (AK×α)->Bx:=λm=>.n (m.map λq=>(kS q.1,e q.2))
section
variable [DecidableEq κ] {c:κ->AZ}
def look[Inhabited α](m:O (κ×α))(x:κ):α:=((m.find? λq=>decide (q.1=x)).map (·.2)).getD default
def has(m:O (κ×α))(x:κ):Bool:=m.any λq=>decide (q.1=x)
def put(m:O (κ×α))(x:κ)(a:α):O (κ×α):=if has m x=true then m.map (λq=>if q.1=x then(q.1,a)else q)else m++[(x,a)]
theorem Mb[Ky c](a b:κ):decide (c a=c b)=decide (a=b):=by
 by_cases h:a=b
 ·rw[h];simp
 ·rw[qr h,qr λz=>h (Ky.inj (c:=c) _ _ z)]
theorem Zk[Ky c](m:O (κ×α))(x:κ):Dd (m.map λq=>(c q.1,e q.2)) (c x)=((m.find? λq=>decide (q.1=x)).map (·.2)).map e:=by
 unfold Dd;rw[List.find?_map];simp only[og,Function.comp_def,Mb]
theorem N6[Ky c][Inhabited α]{m:O (κ×α)}{x:κ}(h:has m x=true):Dd (m.map λq=>(c q.1,e q.2)) (c x)=Z (e (look m x)):=by
 rw[Zk];unfold look;unfold has at h;rw[kg]at h;obtain⟨q,a,hx⟩:=h;cases b:m.find? λq=>decide (q.1=x)with
 |none=>exact absurd hx (by simpa using eH.mp b q a)
 |some q=>rfl
theorem Uk[Ky c](m:O (κ×α))(x:κ)(a:α):J8 (m.map λq=>(c q.1,e q.2)) (c x) (e a)=(put m x a).map λq=>(c q.1,e q.2):=by
 unfold J8 put has;rw[hP];simp only[Function.comp_def,Mb];by_cases h:(m.any λq=>decide (q.1=x))=true
 ·rw[zk h,zk h];rw[ZY,ZY];refine qA λq _=>?_;simp only[Function.comp];by_cases b:q.1=x
  ·simp[b]
  ·have h':¬ c q.1=c x:=λz=>b (Ky.inj (c:=c) _ _ z);simp[b,h']
 ·rw[zw h,zw h];simp
end
theorem N7:∀m:O (AK×α),VF (m.map λq=>(kS q.1,e q.2))=Z (m.map (·.1))
 |[]=>rfl
 |q::m=>by rw[zr,VF,N7 m,Au];rfl
def zL[Inhabited α](a:R fa ρ (nE e))(b:R fb ρ (zE eS)):R (b2 oX fa fb) ρ (zE e):=⟨look a.v b.v,aY (aY a.D b.D) (Z (has a.v b.v=true)),λh=>by
 obtain⟨h,d⟩:=aA h;obtain⟨h1,h2⟩:=aA h;simp only[b2,a.ok h1,b.ok h2,Au,oX,D3,N6 (c:=kS) (show has a.v b.v=true from d)]⟩
end
section
variable{fs:Ev->S An}{e:α->Dt}
abbrev sE:An->An:=λys=>ys
theorem Ul(h:qe b=Z ds):ux b=Z ds:=by
 cases b with
 |z d=>cases d<;>first|exact h|(cases h;done)
 |l _=>exact h
 |o _=>exact h
 |n _=>cases h
 |m _ _=>cases h
def Um(a:RL fa ρ eS):R (Dr fa) ρ sE:=⟨a.v,a.D,λh=>by
 simp only[Dr,a.ok h,Au,YX,Ul a.lk,BI]⟩
def Zm(a:R fs ρ sE):R (Du fs) ρ (oE eS):=⟨bH (lB a.v),aY a.D (Z (a.v.length<4000/\(lB a.v).length<64)),λh=>by
 obtain⟨h,b⟩:=aA h;simp only[Du,a.ok h,Au];exact zk b⟩
theorem MO(n:Nat):∃m,m=n:=⟨n,rfl⟩
noncomputable def kN(n:Nat):Nat:=Classical.choose (MO n)
theorem Zn(n:Nat):kN n=n:=Classical.choose_spec (MO n)
noncomputable def Zo(n:Int)(m:Nat)(b:n.toNat=m)(a:Rg n):R (Tz (aq (cB (.int n)) aK)) ρ (iE eI):=⟨rng 0 (kN m),U,λh=>by rw[Zn];exact(f' n m b a).ok h⟩
end
end P1
namespace P1
open L2 S1 S6
class o7 {α:Type} (e:α->Dt) where
 k:α->AZ
 ok:∀a,Fs (e a)=some (k a)
 inj:∀a b,k a=k b->a=b
 same:∀a b,TQ (k a) (k b)=true
instance:o7 eI:=⟨λi=>.inl i,λ_=>rfl,λa b h=>by cases h;rfl,λ_ _=>rfl⟩
instance:o7 eS:=⟨λi=>.inr i,λ_=>rfl,λa b h=>by cases h;rfl,λ_ _=>rfl⟩
class N8 {α:Type} (e:α->Dt) where
 k:α->List AZ
 ok:∀a,Dk (e a)=some (k a)
 inj:∀a b,k a=k b->a=b
 shp:∀a b,Gx (k a) (k b)=true
 ne:∀a,(k a).isEmpty=false
class L8 {α:Type} (e:α->Dt) [N8 e]:Prop where
 tx:∀a,Gc (N8.k e a)=true
section
variable{e:α->Dt}{e':β->Dt}{e'':γ->Dt}{e3:δ->Dt}
instance [o7 e] [o7 e']:N8 (D9 e e'):=⟨λq=>[o7.k e q.1,o7.k e' q.2],λq=>by simp only[Dk,Ae,o7.ok,Au],λa b h=>by
 simp only[yT,and_true]at h;exact jq (o7.inj _ _ h.1) (o7.inj _ _ h.2),λa b=>by simp[Gx,o7.same],λ_=>rfl⟩
instance [o7 e] [o7 e'] [o7 e'']:N8 (DS e e' e''):=⟨λq=>[o7.k e q.1,o7.k e' q.2.1,o7.k e'' q.2.2],λq=>by simp only[Dk,Ae,o7.ok,Au],λa b h=>by
 simp only[yT,and_true]at h;exact jq (o7.inj _ _ h.1) (jq (o7.inj _ _ h.2.1) (o7.inj _ _ h.2.2)),λa b=>by simp[Gx,o7.same],λ_=>rfl⟩
instance [o7 e] [o7 e'] [o7 e''] [o7 e3]:N8 (GH e e' e'' e3):=⟨λq=>[o7.k e q.1,o7.k e' q.2.1,o7.k e'' q.2.2.1,o7.k e3 q.2.2.2],λq=>by simp only[Dk,Ae,o7.ok,Au],λa b h=>by
 simp only[yT,and_true]at h;exact jq (o7.inj _ _ h.1) (jq (o7.inj _ _ h.2.1) (jq (o7.inj _ _ h.2.2.1) (o7.inj _ _ h.2.2.2))),λa b=>by simp[Gx,o7.same],λ_=>rfl⟩
instance [o7 e]:L8 (D9 e eS):=⟨λa=>by simp[N8.k,Gc,o7.k]⟩
instance [o7 e] [o7 e']:L8 (DS e eS e'):=⟨λa=>by simp[N8.k,Gc,o7.k]⟩
instance [o7 e] [o7 e'] [o7 e'']:L8 (GH e eS e' e''):=⟨λa=>by simp[N8.k,Gc,o7.k]⟩
variable{fs:Ev->S (O (O AZ))}
theorem Ei[N8 e]:∀xs:O α,uF (xs.map e)=Z (xs.map (N8.k e))
 |[]=>rfl
 |x::xs=>by simp only[zr,uF,N8.ok,Au,Ei xs]
end
end P1
namespace P1
open L2
section
variable{fd:Ev->S Bx}{fs:Ev->S (O Bx)}{e:α->Dt}{e':β->Dt}{k:Ev->S Ap}{cO:γ->Ap}
abbrev mW(w:S A2)(e:α->Dt):O (AK×α)->Bx:=λm=>.m (m.map λq=>(kS q.1,e q.2)) w
def aM(e:α->Dt)(t:γ->O Bx->Prop):O (AK×α)×γ->O Bx->Prop:=λx bs=>∃b r,bs=b::r/\(b=nE e x.1\/b=mE e x.1)/\t x.2 r
def LO{t:γ->O Bx->Prop}(a:R fa ρ (nE e))(r:AR t fs ρ):AR (aM e t) (aq fa fs) ρ:=⟨(a.v,r.v),aY a.D r.D,_,⟨_,_,rfl,.inl rfl,r.h⟩,λh=>by
 obtain⟨h1,h2⟩:=aA h;simp only[aq,a.ok h1,r.ok h2,Au]⟩
def UR(w:S A2)(i:Nat)(m:O (AK×α))(hi:ρ[i]?=Z (Z (mW w e m)))(a:R fa ρ (zE e))(b:R fb ρ (zE eS))(K:∀c:O (AK×α),R k (ρ.set i (Z (mW w e c))) cO):R (aJ (Yt i fa fb) k) ρ cO:=⟨(K (put m b.v a.v)).v,aY (aY (aY a.D b.D) (Z (m.length<1000))) (K (put m b.v a.v)).D,λf=>by
 obtain⟨h,d⟩:=aA f;obtain⟨h,g⟩:=aA h;obtain⟨h1,h2⟩:=aA h;rw[jh (ρ':=ρ.set i (Z (mW w e (put m b.v a.v)))) (by
  unfold Yt;rw[a.ok h1,Au,b.ok h2,Au];simp only[M8,D3,Au,hi,mW,zi,zk (show m.length<1000 from g),Uk])]
 exact(K _).ok d⟩
def FA(a:O (AK×β)):O (AK×β):=a.foldl (λm q=>put m q.1 q.2) []
theorem Rp(a:O (AK×β)):dictOf (a.map (D9 eS e'))=(FA a).map λq=>(kS q.1,e' q.2):=by
 unfold dictOf FA;have:∀(a:O (AK×β)) (m:O (AK×β)),(a.map (D9 eS e')).foldl LI (m.map λq=>(kS q.1,e' q.2))=(a.foldl (λm q=>put m q.1 q.2) m).map λq=>(kS q.1,e' q.2):=by
  intro a
  induction a with
  |nil=>intro m;rfl
  |cons q a b=>
   intro m;rw[zr,QA,QA];show(a.map (D9 eS e')).foldl LI (J8 (m.map λq=>(kS q.1,e' q.2)) (kS q.1) (e' q.2))=_;rw[Uk (c:=kS)];exact b _
 exact this a []
def OP(a:R fk ρ (zE eS))(b:R fv ρ (zE e)):R (b2 Dv fk fv) ρ (zE (D9 eS e)):=⟨(a.v,b.v),aY a.D b.D,λh=>by
 obtain⟨h1,h2⟩:=aA h;simp only[b2,a.ok h1,b.ok h2,Au,Dv]⟩
def Sk(i:R fi ρ (iE e))(a:R (fK fi gt p (b2 Dv fk fv) is n) ρ (oE (D9 eS e'))):R (T8 fi gt p fk fv is n) ρ (mE e'):=⟨FA a.v,aY (aY i.D (Z (i.v.length<1000))) a.D,λh=>by
 obtain⟨h,d⟩:=aA h;obtain⟨h1,h2⟩:=aA h;have h2:i.v.length<1000:=h2;have b:=a.ok d;unfold fK at b;unfold T8;rw[i.ok h1,Au]at b ⊢;rw[zk (by rw[zi];omega)]at b;rw[zk (by rw[zi];exact h2)];obtain⟨out,c,b⟩:=AU b;rw[c,Au];injection b with b;injection b with b;rw[b,Rp]⟩
def My(a:R fd ρ (nE e)):R (Aj fd) ρ (iE eS):=⟨a.v.map (·.1),a.D,λh=>by
 simp only[Aj,a.ok h,Au,Cc,ZY];rfl⟩
def Tk(a:R fa ρ (nE e)):R (cP DG (aq fa aK)) ρ (oE eS):=⟨a.v.map (·.1),a.D,λh=>by
 simp only[cP,aq,aK,a.ok h,Au,DG,N7]⟩
def Zq(a:R fa ρ (zE eS))(b:R fb ρ (zE eS)):R (cP Ak (aq fa (aq fb aK))) ρ (zE eS):=⟨if Ko b.v a.v=true then b.v else a.v,aY a.D b.D,λh=>by
 obtain⟨h1,h2⟩:=aA h;simp only[cP,aq,aK,a.ok h1,b.ok h2,Au,Ak];rfl⟩
theorem OS{bs:O Bx}{m:O (AK×α)}{c:O (AK×α)->Ev}(x:R g ((mW (Z a) e m::bs).map Z++ba (n-(bs.length+1)) U) (λb=>Ap.nx (c b)))(h:hold x.D)(h0:∀b,(c b)[0]?=Z (Z (mW (Z a) e b))):Nz n g a (m.map λq=>(kS q.1,e q.2)) bs=Z (x.v.map λq=>(kS q.1,e q.2)):=by
 unfold Nz;rw[x.ok h,Au];simp only[h0,QU]
def VM{c:γ->O Bx->Prop}{cO:δ->Ap}{T:O (AK×α)->γ->O (AK×α)}{b:O (AK×α)->γ->Option Prop}(w:Option A2)(i:Nat)(m:O (AK×α))(hi:ρ[i]?=Z (Z (mW w e m)))(S:∀m v bs,c v bs->bs.length=n/\bs.all DJ=true/\(hold (b m v)->∀a,G a (m.map λq=>(kS q.1,e q.2)) bs=Z ((T m v).map λq=>(kS q.1,e q.2))))(a:AR c fs ρ)(K:∀d:O (AK×α),R k (ρ.set i (Z (mW w e d))) cO):R (aJ (DK i n G fs) k) ρ cO:=⟨(K (T m a.v)).v,aY (aY a.D (b m a.v)) (K (T m a.v)).D,λl=>by
 obtain⟨h,j⟩:=aA l;obtain⟨h1,h2⟩:=aA h;obtain⟨f,o,g⟩:=S m a.v a.bs a.h;rw[jh (Y7 hi (a.ok h1) f o (g h2))];exact(K _).ok j⟩
end
section
variable{e:α->Dt}
end
end P1
namespace P1
open L2 S1 S6
def kT(xs:An):O AZ:=xs.map Sum.inr
theorem Oa:∀(xs:An),Ae (xs.map eS)=Z (kT xs)
 |[]=>rfl
 |x::xs=>by simp only[zr,Ae,Fs,Au,Oa xs];rfl
theorem IV:∀(a:O An),uF (a.map (eT eS))=Z (a.map kT)
 |[]=>rfl
 |x::a=>by simp only[zr,uF,Dk,eT,Oa,Au,IV a]
def FR(a b:An):Bool:=wN (kT a) (kT b)
def dW(a:O An):O An:=a.mergeSort FR
theorem iG(xs:O An):(dW xs).Perm xs:=ic ..
theorem uJ(xs:O An):(dW xs).Pairwise (λa b=>FR a b=true):=xt (le:=FR) (λa b c=>Dh (kT a) (kT b) (kT c)) (λa b=>Di (kT a) (kT b)) xs
theorem Rq(xs:O An):wO (xs.map kT)=(dW xs).map kT:=(Ie ((iG xs).map _) (fO.mpr (uJ xs))).symm
theorem XL(xs:O An):(xs.map kT).map C2=xs.map (eT eS):=by
 rw[ZY];refine qA λa _=>?_;show Dt.tup ((kT a).map dK)=Dt.tup (a.map eS);unfold kT;rw[ZY];rfl
theorem PP(a b:An):Gx (kT a) (kT b)=true:=by
 unfold Gx kT;rw[KF];rintro⟨x,y⟩ h;obtain⟨h1,h2⟩:=hC h;obtain⟨p,_,rfl⟩:=cc.mp h1;obtain⟨q,_,rfl⟩:=cc.mp h2;rfl
theorem TH(xs:O An)(h:xs.length<64)(c:∀x∈xs,x.isEmpty=false):Fk (xs.map kT)=true:=by
 simp only[Fk,ZT,JS,KF,jb,zi,cc,forall_exists_index,and_imp,forall_apply_eq_imp_iff₂];refine⟨h,λa d=>?_,λa _ b _=>PP a b⟩;have:=c a d;cases a with
 |nil=>cases this
 |cons _ _=>rfl
def yI(a:RL fa ρ (eT eS)):R (cP qZ (aq fa aK)) ρ (oE (eT eS)):=⟨dW a.v,aY a.D (Z (a.v.length<64/\∀x∈a.v,x.isEmpty=false)),λh=>by
 obtain⟨h,b⟩:=aA h;obtain⟨b,c⟩:a.v.length<64/\∀x∈a.v,x.isEmpty=false:=b;simp only[cP,aq,aK,a.ok h,Au,qZ,Ul a.lk,IV,TH a.v b c,QU,Rq,XL]⟩
section
variable{e:α->Dt}
theorem map_some(e:α->Dt)(xs:O α):(xs.map Z).map (eO e)=xs.map e:=by rw[ZY];rfl
end
end P1
namespace P1
open L2
section
variable{k:Ev->S Ap}{cO:α->Ap}
def LG(i:Nat)(E:Ev)(a:IY i ρ=Z E)(K:R k E cO):R (EC i k) ρ cO:=⟨K.v,K.D,λh=>by
 unfold EC;rw[a];exact K.ok h⟩
end
section
variable{e:α->Dt}
end
section
variable{σ τ:Type}{k:Ev->S Ap}{cO:γ->Ap}
def Rr(a:σ->Bool)(step:σ->j6 σ τ):Nat->σ->j6 σ τ
 |0,s=>.nx s
 |n+1,s=>if a s=true then(match step s with
  |.nx s'=>Rr a step n s'
  |.ct s'=>Rr a step n s'
  |.bk s'=>.nx s'
  |.rt r=>.rt r)else .nx s
def EB(b:σ->Bool)(a:σ->S Prop)(step:σ->j6 σ τ)(P:σ->S Prop):Nat->σ->Prop
 |0,_=>False
 |n+1,s=>hold (a s)/\(b s=true->hold (P s)/\match step s with
  |.nx s'=>EB b a step P n s'
  |.ct s'=>EB b a step P n s'
  |.bk _=>True
  |.rt _=>True)
theorem Kw(a:σ->Bool)(step:σ->j6 σ τ):∀(n:Nat) (s:σ),(∃s',Rr a step n s=.nx s')\/∃r,Rr a step n s=.rt r
 |0,s=>.inl ⟨s,rfl⟩
 |n+1,s=>by
  unfold Rr;split
  ·cases step s with
   |nx s'=>exact Kw a step n s'
   |ct s'=>exact Kw a step n s'
   |bk s'=>exact .inl ⟨s',rfl⟩
   |rt r=>exact .inr ⟨r,rfl⟩
  ·exact .inl ⟨s,rfl⟩
theorem Rt{c:τ->Bx}(E:σ->Ev)(a:∀s,R p (E s) tE)(body:∀s,R gb (E s) (cC E c)):∀(n:Nat) (s:σ),EB (λs=>(a s).v) (λs=>(a s).D) (λs=>(body s).v) (λs=>(body s).D) n s->W2 p gb n (E s)=Z (cC E c (Rr (λs=>(a s).v) (λs=>(body s).v) n s))
 |0,s,h=>absurd h id
 |n+1,s,h=>by
  obtain⟨h1,h2⟩:=h;have e:p (E s)=Z (a s).v:=(a s).ok h1;unfold W2 Rr;rw[e,Au];cases f:(a s).v with
  |false=>rfl
  |true=>
   obtain⟨g,b⟩:=h2 f;rw[zk rfl,zk rfl,(body s).ok g,Au];cases d:(body s).v with
   |nx s'=>dsimp only at b;rw[d]at b;exact Rt E a body n s' b
   |ct s'=>dsimp only at b;rw[d]at b;exact Rt E a body n s' b
   |bk s'=>rfl
   |rt r=>rfl
def WE{c:τ->Bx}(n:Nat)(E:σ->Ev)(b:σ)(e:ρ=E b)(a:∀s,R p (E s) tE)(body:∀s,R gb (E s) (cC E c))(inj:τ->γ)(g:∀r,cO (inj r)=.rt (c r))(K:∀s,R k (E s) cO):R (aJ (W2 p gb n) k) ρ cO:=
 ⟨BO (Rr (λs=>(a s).v) (λs=>(body s).v) n b) inj λs=>(K s).v,aY (Z (EB (λs=>(a s).v) (λs=>(a s).D) (λs=>(body s).v) (λs=>(body s).D) n b)) (Kv (Rr (λs=>(a s).v) (λs=>(body s).v) n b) λs=>(K s).D),λf=>by
 obtain⟨h2,d⟩:=aA f;have e1:W2 p gb n ρ=Z (cC E c (Rr (λs=>(a s).v) (λs=>(body s).v) n b)):=by
  subst e;exact Rt E a body n b h2
 rcases Kw (λs=>(a s).v) (λs=>(body s).v) n b with⟨s',es⟩|⟨r,es⟩
 ·rw[es]at e1 d ⊢;rw[jh e1];exact(K s').ok d
 ·rw[es]at e1 ⊢;show aJ (W2 p gb n) k ρ=Z (cO (inj r));unfold aJ;rw[e1,g];rfl⟩
end
section
variable{e:α->Dt}
end
section
variable{σ τ:Type}
theorem Uo{step:σ->α->σ}{P:σ->α->S Prop}(I:Nat->σ->Prop):∀(xs:O α) (m:Nat) (a:σ),I m a->(∀k x s,xs[k]?=Z x->I (m+k) s->hold (P s x)/\I (m+k+1) (step s x))->mj step P xs a/\I (m+xs.length) (xs.foldl step a)
 |[],m,a,h0,_=>⟨trivial,h0⟩
 |x::xs,m,a,h0,hs=>by
  obtain⟨h1,h2⟩:=hs 0 x a X9 h0;have:=Uo I xs (m+1) (step a x) h2 λk y s e h=>by
   have:=hs (k+1) y s (by simpa using e) (by rw[show m+(k+1)=m+1+k by omega];exact h);rw[show m+(k+1)+1=m+1+k+1 by omega]at this;exact this
  refine⟨⟨h1,this.1⟩,?_⟩;rw[ZZ,show m+(xs.length+1)=m+1+xs.length by omega];exact this.2
theorem O3{i:Int}{k:Nat}{x:Int}(h:(rng i n)[k]?=Z x):x=i+k/\k<n:=by
 unfold rng at h;rw[zI]at h;cases hk:(dg n)[k]? with
 |none=>rw[hk]at h;cases h
 |some j=>
  rw[hk]at h;have a:k<n:=by simpa using(cf.mp hk).1
  have:j=k:=by
   rw[y0 a]at hk;cases hk;rfl
  subst this;cases h;exact⟨rfl,a⟩
theorem mq(i:Int)(n:Nat):(rng i n).length=n:=by unfold rng;simp
theorem Ob{step:σ->Int->σ}{P:σ->Int->S Prop}(I:Nat->σ->Prop)(n:Nat)(a:σ)(h0:I 0 a)(hs:∀(k:Nat) s,k<n->I k s->hold (P s k)/\I (k+1) (step s k)):mj step P (rng 0 n) a/\I n ((rng 0 n).foldl step a):=by
 have:=Uo (P:=P) I (rng 0 n) 0 a h0 λk x s e h=>by
  obtain⟨rfl,hk⟩:=O3 e;rw[K0]at h ⊢;rw[ng];exact hs k s hk h
 rw[mq,K0]at this;exact this
theorem Ej{step:Unit->α->j6 Unit Bool}{P:Unit->α->S Prop}:∀xs:O α,(∀x∈xs,hold (P gl x)/\(step gl x=.nx gl\/step gl x=.ct gl))->lK step xs gl=.nx gl/\uI step P xs gl
 |[],_=>⟨rfl,trivial⟩
 |x::xs,h=>by
  obtain⟨h1,h2⟩:=h x (zg ..);have a:=Ej (P:=P) xs λy b=>h y (zh _ b);rcases h2 with h2|h2
  ·exact⟨by unfold lK;rw[h2];exact a.1,h1,by rw[h2];exact a.2⟩
  ·exact⟨by unfold lK;rw[h2];exact a.1,h1,by rw[h2];exact a.2⟩
theorem Kz[Inhabited α]{xs:O α}{i:Int}(h:In xs.length i):at' xs i∈xs:=by
 obtain⟨x,hx⟩:=Kq h;unfold at';rw[hx];unfold Cu at hx;obtain⟨j,_,hx⟩:=AU hx;exact ZI hx
theorem zM[Inhabited α]{xs:O α}{k:Nat}{x:α}(h:xs[k]?=Z x):at' xs (k:Int)=x:=by
 have a:k<xs.length:=(cf.mp h).1;unfold at' Cu DT;rw[zk (),zk (),Au,YV,h];rfl
theorem T2[Inhabited α](xs:O α)(k:Nat)(h:k<xs.length):at' xs (k:Int)=xs[k]:=zM (zo h)
theorem BB{i:Int}(h0:0<=i)(h1:i<n):In n i:=⟨by omega,h1⟩
theorem El{k:Nat}(h:k<n):In n (k:Int):=⟨by omega,by omega⟩
theorem Ru{x m:Int}(a:0<m)(h:m<=n):In n (x%m):=BB (yY _ ()) (Int.lt_of_lt_of_le (YE _ a) h)
theorem lD(x:Int){m:Int}(a:0<m):0<=x%m/\x%m<m:=⟨yY _ (),YE _ a⟩
theorem Oc{j:Int}(h0:0<=j)(h1:j<=1000000):Rg j:=⟨by omega,by omega⟩
theorem MX{a b:Int}(h0:0<=a)(h1:a<18446744073709551616):G0 a b:=.inl ⟨by omega,h1⟩
theorem uK(x y:AK):(x++y).length=x.length+y.length:=by
 show(x.cps++y.cps).size=_;rw[Kj];rfl
theorem zN(x:AK)(i:Int):(ch x i).length=1:=rfl
theorem slice_le(x:AK)(l u:S Int):(Txt.slice x l u).length<=x.length:=PyProof.Txt.length_slice_le x l u
end
section
variable [Inhabited α] {e:α->Dt}{k:Ev->S Ap}{cO:γ->Ap}
end
theorem IW:∀xs:O Int,Iv (xs.map eI)=Z xs
 |[]=>rfl
 |x::xs=>by simp only[zr,eI,Iv,IW xs,Au]
section
variable{e:α->Dt}{k:Ev->S Ap}{cO:γ->Ap}
end
section
variable{e:α->Dt}{k:Ev->S Ap}{cO:γ->Ap}
def br[Inhabited γ]:R (aJ II k) ρ cO:=⟨default,Z False,λh=>absurd h id⟩
def ce{c:α->Bx}(a:R f ρ c)(K:R k ρ cO):R (aJ (Ud f) k) ρ cO:=⟨K.v,aY a.D K.D,λb=>by
 obtain⟨h1,h2⟩:=aA b;rw[jh (ρ':=ρ) (by unfold Ud;rw[a.ok h1,Au])];exact K.ok h2⟩
theorem am{bs:O Bx}{a:γ->Ev}(x:R g (bs.map Z++ba (n-bs.length) U) (λr=>Ap.nx (a r)))(h:hold x.D):fM n g bs=Z (.z .non):=by
 unfold fM;rw[x.ok h];rfl
end
section
variable{e:α->Dt}
end
section
variable{e:α->Dt}{e':β->Dt}
end
def RP(f:Ev->S β)(ρ:Ev)(c:α->β)(v:α)(D:S Prop):Prop:=hold D->f ρ=Z (c v)
theorem R.tp{f:Ev->S β}{c:α->β}{b:α}{a:S Prop}(x:R f ρ c)(d:x.v=b:=by kernel_rfl)(e:x.D=a:=by kernel_rfl):RP f ρ c b a:=λh=>by
 subst d e;exact x.ok h
def RP.r{f:Ev->S β}{c:α->β}{v:α}{D:S Prop}(h:RP f ρ c v D):R f ρ c:=⟨v,D,h⟩
theorem IP{p:O α->Prop}(h:∀a,p [a]):∀us:O α,us.length=1->p us
 |[a],_=>h a
theorem F2{p:O α->Prop}(h:∀a b,p [a,b]):∀us:O α,us.length=2->p us
 |[a,b],_=>h a b
theorem RI{p:O α->Prop}(h:∀a b c,p [a,b,c]):∀us:O α,us.length=3->p us
 |[a,b,c],_=>h a b c
theorem Sa{p:O α->Prop}(h:∀a b c d,p [a,b,c,d]):∀us:O α,us.length=4->p us
 |[a,b,c,d],_=>h a b c d
theorem e7{p:O α->Prop}(h:∀a b c d e,p [a,b,c,d,e]):∀us:O α,us.length=5->p us
 |[a,b,c,d,e],_=>h a b c d e
end P1
namespace P1
open L2 S1
end P1
namespace P1
open L2
section
variable{fs:Ev->S (O Bx)}
end
section
variable{AT:O AC}
end
section
variable{ks:O V}
theorem LU(j:∀f u,X.H₀ a≠Z (.iU f u))(I:L2.AV X AO σ H s)(e:H a=Z (.iU o (.lst ks))):L2.AV X AO σ (B1 H a (.lst ks)) s:=by
 have g:∀{b:A2} {u:HO},H b=Z u->u≠.iU o (.lst ks)->b≠a:=λq n z=>by subst z;rw[e]at q;cases q;exact n rfl
 have h:∀{b:A2},H b=U->b≠a:=λq z=>by subst z;rw[e]at q;cases q
 refine⟨I.ok,I.os,I.bare,⟨I.base.keep,I.base.slot,λb f q n hx=>?_,I.base.there,λb xs q=>?_,λb f u q=>?_,λb ps q=>?_⟩,I.loc,I.cell,?_,λx c q=>?_,λp hp=>?_,λb f q=>?_,I.len⟩
 ·have:=I.base.free b f q n hx;rw[aD (h this)];exact this
 ·have:=I.base.tups b xs q;rw[aD (g this λz=>by cases z)];exact this
 ·have:=I.base.oM b f u q;rw[aD (λz=>by subst z;exact j _ _ q)];exact this
 ·obtain⟨m,this⟩:=I.base.sX b ps q;exact⟨m,by rw[aD (g this λz=>by cases z)];exact this⟩
 ·have:=I.free;rw[aD (h this)];exact this
 ·have:=I.ju x c q;rw[aD (h this)];exact this
 ·obtain⟨p1,p2,p3⟩:=I.pin p hp;exact⟨p1,by rw[aD (h p2)];exact p2,p3⟩
 ·have st:∀{c:A2} {w:HO},eV X.prog X.w H s.heap c w->eV X.prog X.w (B1 H a (.lst ks)) s.heap c w:=λx=>
   x.stay (λ_ _ _ r=>r) (λd r=>by rw[aD (g r λz=>by cases z)];exact r) (λd xs r=>by rw[aD (g r λz=>by cases z)];exact r) λd o' l r=>by rw[aD (g r λz=>by cases z)];exact r
  by_cases i:b=a
  ·subst i;rw[aF]at q;cases q;exact st (I.hok _ _ e).2
  ·rw[aD i]at q;exact st (I.hok _ _ q)
end
section
variable{M0 M1 M2 er:Expr}{f0 f2:Ev->S Bx}{d0 d2:Dt}{z0 z1 z2 z3:Pos}
end
theorem aV.sl(E:aV K H0 H σ ρ)(h:∀c,ρ[i]?≠Z (Z c))(v:S V):aV K H0 H (σ.set i v) ρ:=by
 have d:∀{j:Nat} {c:Bx},ρ[j]?=Z (Z c)->(σ.set i v)[j]?=σ[j]?:=λe=>kD (λz=>h _ (z▸e));exact⟨by rw[qv];exact E.len,λj b e=>by rw[d e];exact E.val j b e,λj k c a b e1 e2 e3 f g l=>E.own j k c a b e1 e2 (by rw[<-d e1];exact e3) f g (by rw[<-d f];exact l),E.base,λj c a e1 e2 e3=>E.new j c a e1 e2 (by rw[<-d e1];exact e3)⟩
section
variable{st:O AC}{fr:Ev->S Bx}{i':Nat}{W:O Nat}{z:Pos}
end
section
variable{a b c:Ev->S Ap}{k:Nat}
end
end P1
namespace P1
open L2 S6
section
variable{kx vx t1 i1 t2 i2:Expr}{f1 f2:O Expr}{g1 g2:Dt->Ev->S Ev}{p1 p2:Ev->S Bool}{fi1 fi2:Ev->S (O Dt)}{fs:Ev->S (O Dt)}{N m:Nat}
def cls2(fi:Ev->S (O Dt))(gt:Dt->Ev->S Ev)(p:Ev->S Bool)(fs:Ev->S (O Dt))(is:O Nat)(n:Nat):Ev->S (O Dt):=λρ=>(fi ρ).bind λds=>zf gt p fs (ji is ρ++ba n U) ds
def KC(fi:Ev->S (O Dt))(gt:Dt->Ev->S Ev)(p:Ev->S Bool)(fs:Ev->S (O Dt))(is:O Nat)(n:Nat):Ev->S Bx:=λρ=>(cls2 fi gt p fs is n ρ).bind λout=>if out.length<=100000 then Z (.o out)else U
structure NO (X:Cx) (ts:An) (m:Nat) (scope:Scope) (cl:List (Str×Addr)) (xs:An) (is:List Nat) (t1 i1:Expr) (f1:List Expr) (t2 i2:Expr) (f2:List Expr) (fi1 fi2:Ev->Option (List Dt)) (g1 g2:Dt->Ev->Option Ev) (p1 p2:Ev->Option Bool):Prop where
 ok:nJ X scope cl xs is
 calm:X.calm=true
 it1:EQ X t1 i1 fi1
 tg1:∀C s₀ H₀ fp,WY (um X (xs++ts) scope cl C s₀ H₀ fp) t1 g1
 c1:∀C s₀ H₀ fp,uo (um X (xs++ts) scope cl C s₀ H₀ fp) f1 p1
 k1:X6 is.length m g1
 it2:∀C s₀ H₀ fp,EA (um X (xs++ts) scope cl C s₀ H₀ fp) t2 i2 fi2
 tg2:∀C s₀ H₀ fp,WY (um X (xs++ts) scope cl C s₀ H₀ fp) t2 g2
 c2:∀C s₀ H₀ fp,uo (um X (xs++ts) scope cl C s₀ H₀ fp) f2 p2
 k2:X6 m (is.length+ts.length) g2
 hm:is.length<=m:=by decide
 hm2:m<=is.length+ts.length:=by decide
 hs:∀x,foldedSetIterable i1 X.env x=pure x:=by intro _;rfl
 hs2:∀C x,foldedSetIterable i2 (compEnvC scope (cellsFrom (C+1) scope.names cl) C X.env) x=pure x:=by intro _ _;rfl
theorem W0.no{a:O Dt}{o:HO}:W0 K D H a o->(∀b u,o≠.iU b u)/\∀vs,o≠.tup vs:=λ⟨_,e,_⟩=>by subst e;exact⟨λ_ _ z=>(by cases z),λ_ z=>(by cases z)⟩
theorem Zr(ts:An)(W:NO X ts m scope cl xs is t1 i1 f1 t2 i2 f2 fi1 fi2 g1 g2 p1 p2)(he:∀C c f fp,QV (um X (xs++ts) scope cl C c f fp) elt fe):
  QV X (.ListComp elt [⟨t1,i1,f1,0⟩,⟨t2,i2,f2,0⟩] scope pos) (KC fi1 g1 p1 (FG fi2 g2 p2 (Yg fe)) is ts.length):=⟨λAO s σ H Q I h=>by
 obtain⟨H0,ρ,b,E,e,q⟩:=h;obtain⟨out,i,e⟩:=AU e;obtain⟨ds,ed,i⟩:=AU i;split at e
 ·rename_i a5;cases e;rw[eval_ListComp];refine JP (use:=U) X9 W.hs W.ok.clos W.ok.kind W.ok.names ?_;refine gK (W.it1.run AO s σ H (λJ H'=>AW H H'/\B6 X.K J ds H') I ⟨H0,ρ,ds,E,ed,λJ H' s' y=>⟨s',y⟩⟩) λv s1 h1=>gK h1 λb0 s2 h2=>?_;obtain⟨it,fp,tn,J,H2,rfl,z,T,st,x,g,Y⟩:=h2;refine zp (B:=z7) (Ac:=W0 X.K) (O0:=.lst []) (N:=100000) (RR:=λa3 C=>compPost (db X) X.A X.xe U (EP X AO σ Q) a3 C) (ts:=ts) (xs:=xs) W.ok W.calm (λC c f fp=>(W.tg1 C c f fp).run) (λC c f fp=>(W.c1 C c f fp).run)
   (λC c f fp=>Yd (X:=um X (xs++ts) scope cl C c f fp) (comp:=.ListComp elt [⟨t1,i1,f1,0⟩,⟨t2,i2,f2,0⟩] scope pos) (d:=1) W.calm X9 (W.it2 C c f fp).run (W.tg2 C c f fp).run (W.c2 C c f fp).run (Tp (he C c f fp).run) W.k2 W.hm2 W0.kp W0.no (W.hs2 C) (λ_ _ _=>X9) (Vu X9 λh=>h) λh=>h)
   W.k1 W.hm z ((E.grow g).caps is ts.length) (CQ T) st x Y i a5 ?_
   qo (λ_=>⟨qi _,[],0,.nil,zt _ rfl⟩) (λ_=>⟨[],rfl,aO.nil⟩) W0.kp (λ_ _ _=>by simp only[bind_assoc,pure_bind];rfl) codeAny_compStart_list λh=>h
  rintro D C s' H' o u n M ⟨m,G⟩ L P ⟨us,rfl,j⟩;refine⟨m,G,λh' p=>⟨.ref D,H',?_,rfl,q _ _ (g.trans L) (λa ea=>by cases ea;exact g.free u) ⟨D,us,rfl,P,j⟩⟩⟩;obtain⟨f0,f1,f2,f3,F,t⟩:=M;exact n.turned (t':=s'.toks) (λb o l e=>(p.2 b l).trans e) f0 f1 f3 F t
 ·cases e⟩
end
end P1
namespace P1
open L2
section
variable{e:α->Dt}{e':β->Dt}{fs:Ev->S (O Dt)}
theorem Od{g:α->O β}:∀xs:O α,(xs.flatMap g).map e'=xs.flatMap λx=>(g x).map e'
 |[]=>rfl
 |x::xs=>by rw[YR,ZN,Od xs];rfl
def OT(it:R fi ρ (iE e))(a:α->Ev)(c:∀x,gt (e x) (ji is ρ++ba n U)=Z (a x))(b:∀x,R fs (a x) (iE e')):R (cls2 fi gt uD fs is n) ρ (iE e'):=⟨it.v.flatMap λx=>(b x).v,aY it.D (Zi it.v λx=>(b x).D),λh=>by
 obtain⟨h1,h2⟩:=aA h;have h2:∀x∈it.v,hold (b x).D:=h2;simp only[cls2,it.ok h1,Au];rw[Ed (π:=λ_=>true) (g:=λx=>(b x).v.map e') it.v λx hx=>⟨a x,c x,rfl,λ_=>(b x).ok (h2 x hx)⟩,mS.mpr λ_ _=>X9];rw[iE,Od]⟩
def TD(it:R fi ρ (iE e))(a:α->Ev)(c:∀x,gt (e x) ρ=Z (a x))(b:∀x,R fe (a x) (zE e')):R (FG fi gt uD (Yg fe)) ρ (iE e'):=⟨it.v.map λx=>(b x).v,aY it.D (Zi it.v λx=>(b x).D),λh=>by
 obtain⟨h1,h2⟩:=aA h;have h2:∀x∈it.v,hold (b x).D:=h2;simp only[FG,it.ok h1,Au];exact Bn it.v λx hx=>⟨a x,c x,(b x).ok (h2 x hx)⟩⟩
def OG(a:R (cls2 fi gt p fs is n) ρ (iE e)):R (KC fi gt p fs is n) ρ (oE e):=⟨a.v,aY a.D (Z (a.v.length<=100000)),λh=>by
 obtain⟨h1,h2⟩:=aA h;simp only[KC,a.ok h1,Au,zi,zk (show a.v.length<=100000 from h2)]⟩
end
def MU:V->O V->Hp->VK->Prop:=λx vs H Q=>∃l ks k v,x=.ref l/\vs=[kV k,v]/\H l=Z (.dK ks)/\ks.length<AB/\(∀w,qd ks k=Z w->Q w H)/\(qd ks k=U->Q v (B1 H l (.dK (BD ks k v))))
theorem dS:IJ X "dict.setdefault" MU:=by
 intro AO s σ H x vs v us Q I D t h;obtain⟨l,ks,k,y,rfl,rfl,n,E,q1,q2⟩:=h;cases D;obtain⟨i,d,rfl,rk,m⟩:=t.two;obtain⟨z,o,vs,c,g⟩:=Xo I.hok n;have C:vs.length<=AB:=by rw[<-c.length];exact z
 refine JI PySem.F.slot_dict_setdefault g.typeIs PySem.F.entry_dict_setdefault ?_ (PySem.F.args_dict_setdefault_3 _ _ _);unfold Builtin.«dict.setdefault»;refine zb ?_;unfold Builtin.Dict.keyAndDefault;refine zb (wpAny_notOrdered_dict g.typeIs ?_);show A8 _ _ (pure (l,i,Z d)) _ _ s;refine zd ?_;show A8 _ _ (if(l==sysModules)=true then _ else(dictSetDefault l i d >>= _)) _ _ s;rw[zw (by rw[o];exact z5)];refine zb (kt_dictSetDefault_pairs (hsz:=C) (Hz rk) g (λw u=>?_) λA h' j hs=>?_)
 ·have a:=c.val k;rw[u]at a;cases b:qd ks k with
  |none=>rw[b]at a;exact a.elim
  |some f=>
   rw[b]at a;exact zd ⟨w,rfl,f,H,I.kept (t':=s.toks+1) λ_ _ e=>e,a,q1 f b⟩
 ·have b:qd ks k=U:=by
   have a:=c.val k;rw[A]at a;cases b:qd ks k with
   |none=>rfl
   |some f=>rw[b]at a;exact a.elim
  have B:(BD ks k y).length<=AB:=by have:=lg ks k y;omega
  have p:∃q,h'.get? l=Z q:=let ⟨q,_,_,hq,_⟩:=j;⟨q,hq⟩;exact zd ⟨d,rfl,y,_,Bq (t':=s.toks+1) I (by rw[n];exact True.intro) hs p (Qs B o (c.put k m) j),m,q2 b⟩
def hx(h:A7)(a:A2):HO:=.ext λh'=>h'.get? a=h.get? a
def LD(o:S HO):Prop:=(∃xs,o=Z (.lst xs))\/∃ks,o=Z (.dK ks)
def EJ(as:O A2)(σ:L2.St)(ρ:Ev):Prop:=∀(j:Nat) c a,ρ[j]?=Z (Z c)->loose c=true->σ[j]?=Z (Z (.ref a))->a∉as
section
variable{H2:Hp}{as:O A2}
theorem aV.move{p H':Hp}(E:aV K Hb H σ ρ)(S:EJ as σ ρ)(kp:Kp H H')(i:∀b,b∉as->H' b=H b)(u:AW p H')(t:∀(j:Nat) c a,ρ[j]?=Z (Z c)->qj c=true->σ[j]?=Z (Z (.ref a))->p a=U):aV K p H' σ ρ:=by
 refine⟨E.len,λj b e=>?_,E.own,u,t⟩;obtain⟨v,ev,h⟩:=E.val j b e;refine⟨v,ev,?_⟩;cases b with
 |z d=>exact AX.kp kp h
 |l s=>
  obtain⟨a,vs,rfl,q,f⟩:=h;have g:=i a (S j _ a e X9 ev);exact⟨a,vs,rfl,q.imp (λq=>g.trans q) λ⟨o,q⟩=>⟨o,g.trans q⟩,f.kp kp⟩
 |o s=>
  obtain⟨a,vs,rfl,q,f⟩:=h;exact⟨a,vs,rfl,(i a (S j _ a e X9 ev)).trans q,f.kp kp⟩
 |n s=>
  obtain⟨a,vs,rfl,q,f⟩:=h;have g:=i a (S j _ a e X9 ev);exact⟨a,vs,rfl,q.imp (λq=>g.trans q) λ⟨o,q⟩=>⟨o,g.trans q⟩,f.kp kp⟩
 |m s _=>
  obtain⟨a,vs,rfl,q,f⟩:=h;exact⟨a,vs,rfl,(i a (S j _ a e X9 ev)).trans q,f.1.kp kp,f.2⟩
end
theorem uL:∀{as:O A2} {H:Hp},L2.AV X AO σ H s->(∀a∈as,∃vs,H a=Z (.lst vs))->as.Nodup->∃H',L2.AV X AO σ H' s/\Kp H H'/\(∀b,b∉as->H' b=H b)/\∀a∈as,∃o vs,H a=Z (.lst vs)/\H' a=Z (.iU o (.lst vs))
 |[],H,I,_,_=>⟨H,I,⟨λ_ _ e=>e,λ_ _ _ e=>e⟩,λ_ _=>X9,λ_ h=>by cases h⟩
 |a::as,H,I,h,d=>by
  obtain⟨j,d⟩:=cT.mp d;obtain⟨vs,g⟩:=h a (zg ..);obtain⟨o,q⟩:=qR I g;have n:Kp H (B1 H a (.iU o (.lst vs))):=.lst g;obtain⟨H',p,l,h1,h2⟩:=uL (as:=as) q (λb c=>by
   obtain⟨i,e⟩:=h b (zh _ c);exact⟨i,by rw[aD (show b≠a from λz=>j (by rw[<-z];exact c))];exact e⟩) d
  refine⟨H',p,⟨λb xs e=>l.t _ _ (n.t _ _ e),λb m u e=>l.f _ _ _ (n.f _ _ _ e)⟩,λb c=>?_,λb c=>?_⟩
  ·rw[h1 b λz=>c (zh _ z),aD (show b≠a from λz=>c (by rw[z];exact zg ..))]
  ·rcases List.mem_cons.mp c with rfl|c
   ·exact⟨o,vs,g,by rw[h1 _ j];exact aF⟩
   ·obtain⟨m,i,e1,e2⟩:=h2 b c;rw[aD (show b≠a from λz=>j (by rw[<-z];exact c))]at e1;exact⟨m,i,e1,e2⟩
def W'(P:L2.St->Hp->Prop):L2.St->Hp->Prop:=λσ H=>∃as:O A2,as.Nodup/\(∀a∈as,∃vs,H a=Z (.lst vs))/\∀H',Kp H H'->(∀b,b∉as->H' b=H b)->(∀a∈as,∃o vs,H a=Z (.lst vs)/\H' a=Z (.iU o (.lst vs)))->P σ H'
theorem UQ{t:TS}(h:PS X st t):PS X st (λD σ H=>t { D with nx:=W' D.nx } σ H):=λAO s σ H D I q=>by
 refine gK (h AO s σ H _ I q) λf d q=>?_;cases f with
 |next=>
  obtain⟨σ',H',b,as,a,k,q⟩:=q;obtain⟨H2,c,kp,h1,h2⟩:=uL b k a;exact⟨σ',H2,c,q H2 kp h1 h2⟩
 |ret v=>exact q
 |brk=>exact q
 |cont=>exact q
def uM(m:O (Int×O α))(k:Int)(d:α):O (Int×O α):=if(m.any λq=>decide (q.1=k))=true then m.map λq=>if q.1=k then(q.1,q.2++[d])else q else m++[(k,[d])]
def KD(k j:Nat)(f1:Ev->S Bx)(p:Ev->S Bool)(f2 fv:Ev->S Bx)(ρ:Ev):O Dt->O (Int×O Dt)->S (O (Int×O Dt))
 |[],m=>Z m
 |d::ds,m=>(f1 (ρ.set k (Z (.z d)))).bind λb1=>match b1 with
  |.z a=>(p ((ρ.set k (Z (.z d))).set j (Z (.z a)))).bind λt=>(if t=true then f2 ((ρ.set k (Z (.z d))).set j (Z (.z a)))else Z (.z a)).bind λb2=>match b2 with
   |.z (.int y)=>(fv (((ρ.set k (Z (.z d))).set j (Z (.z a))).set j (Z (.z (.int y))))).bind λv=>match v with
    |.z x=>if m.length<1000/\(∀q∈m,q.2.length<1000)then KD k j f1 p f2 fv ρ ds (uM m y x)else U
    |_=>U
   |_=>U
  |_=>U
def Em(i j k:Nat)(fi:Ev->S (O Dt))(f1:Ev->S Bx)(p:Ev->S Bool)(f2 fv:Ev->S Bx):Ev->S Ap:=λρ=>match ρ[i]? with
 |some (Z (.m [] U))=>if j<ρ.length then(fi (((ρ.set i U).set j U).set k U)).bind λds=>(KD k j f1 p f2 fv (((ρ.set i U).set j U).set k U) ds []).bind λm=>
  Z (.nx ((((ρ.set i U).set j U).set k U).set i (Z (.m (m.map λq=>(Sum.inl q.1,Dt.lst q.2)) U))))else U
 |_=>U
structure Gp (K:B5) (H:Hp) (D:Addr) (gs:List (Int×Addr×List Dt)):Prop where
 d:H D=some (.dK (gs.map λg=>(Sum.inl g.1,V.ref g.2.1)))
 l:∀g∈gs,∃vs,H g.2.1=some (.lst vs)/\aO K H g.2.2 vs
 k:(gs.map (·.1)).Nodup
 a:(gs.map (·.2.1)).Nodup
def Eo(D:A2)(gs:O (Int×A2×O Dt)):O A2:=D::gs.map (·.2.1)
def Ja(gs:O (Int×A2×O Dt)):O (Int×O Dt):=gs.map λg=>(g.1,g.2.2)
theorem Gp.ld(G:Gp K H D gs):∀a∈Eo D gs,LD (H a):=λa b=>by
 rcases List.mem_cons.mp b with rfl|b
 ·exact .inr ⟨_,G.d⟩
 ·obtain⟨g,c,rfl⟩:=cc.mp b;obtain⟨vs,e,_⟩:=G.l g c;exact .inl ⟨vs,e⟩
theorem Gp.kept{H':Hp}(G:Gp K H D gs)(h:∀a∈Eo D gs,H' a=H a)(r:∀ds vs,aO K H ds vs->aO K H' ds vs):Gp K H' D gs:=
 ⟨(h D (zg ..)).trans G.d,λg b=>let ⟨vs,e,q⟩:=G.l g b;⟨vs,(h _ (zh _ (cc.mpr ⟨g,b,rfl⟩))).trans e,r _ _ q⟩,G.k,G.a⟩
theorem Gp.same{H':Hp}(G:Gp K H D gs)(s:AW H H'):Gp K H' D gs:=
 ⟨s _ _ G.d,λg b=>let ⟨vs,e,q⟩:=G.l g b;⟨vs,s _ _ e,q.kp (.of s)⟩,G.k,G.a⟩
theorem Gp.val{k:Int}:∀{w:V},qd (gs.map λg=>((Sum.inl g.1:AZ),V.ref g.2.1)) (Sum.inl k)=Z w->∃g∈gs,g.1=k/\w=.ref g.2.1:=by
 induction gs with
 |nil=>intro w e;cases e
 |cons g gs a=>
  intro w e;rw[zr]at e;by_cases hk:g.1=k
  ·rw[tW (by rw[hk])]at e;cases e;exact⟨g,zg ..,hk,rfl⟩
  ·rw[uc (by simpa using hk)]at e;obtain⟨b,h1,h2,c⟩:=a e;exact⟨b,zh _ h1,h2,c⟩
theorem ir{k:Int}:((Ja gs).any λq=>decide (q.1=k))=(qd (gs.map λg=>((Sum.inl g.1:AZ),V.ref g.2.1)) (Sum.inl k)).isSome:=by
 rw[<-xR,Ja,hP,hP];congr 1;funext g;simp
section
variable{l:A2}{k:Int}{x:Dt}{u:V}
theorem yJ{α β:Type}{f:α->β}:∀{xs:O α},(xs.map f).Nodup->∀{a b:α},a∈xs->b∈xs->f a=f b->a=b
 |y::ys,h,a,b,ha,hb,e=>by
  obtain⟨h1,h2⟩:=cT.mp (show(f y::ys.map f).Nodup from h);rcases List.mem_cons.mp ha with q|q<;>rcases List.mem_cons.mp hb with t|t
  ·rw[q,t]
  ·exact absurd (cc.mpr ⟨b,t,by rw[<-e,q]⟩) h1
  ·exact absurd (cc.mpr ⟨a,q,by rw[e,t]⟩) h1
  ·exact yJ h2 q t e
def sO(gs:O (Int×A2×O Dt))(k:Int)(x:Dt):O (Int×A2×O Dt):=gs.map λg=>if g.1=k then(g.1,g.2.1,g.2.2++[x])else g
theorem Gp.app(G:Gp K H D gs){g:Int×A2×O Dt}(e:g∈gs)(hk:g.1=k)(h:H g.2.1=Z (.lst vs))(r:aO K H g.2.2 vs)(o:AX K H x u):
  Gp K (B1 H g.2.1 (.lst (vs++[u]))) D (sO gs k x)/\Eo D (sO gs k x)=Eo D gs/\Ja (sO gs k x)=uM (Ja gs) k x:=by
 have kp:Kp H (B1 H g.2.1 (.lst (vs++[u]))):=.lst h;have e1:(sO gs k x).map (·.1)=gs.map (·.1):=by unfold sO;rw[ZY];exact qA λg _=>by simp only[Function.comp];split<;>rfl
 have e2:(sO gs k x).map (·.2.1)=gs.map (·.2.1):=by unfold sO;rw[ZY];exact qA λg _=>by simp only[Function.comp];split<;>rfl
 have e3:((sO gs k x).map λg=>((Sum.inl g.1:AZ),V.ref g.2.1))=gs.map λg=>(Sum.inl g.1,V.ref g.2.1):=by unfold sO;rw[ZY];exact qA λg _=>by simp only[Function.comp];split<;>rfl
 refine⟨⟨?_,λp m=>?_,by rw[e1];exact G.k,by rw[e2];exact G.a⟩,by unfold Eo;rw[e2],?_⟩
 ·rw[e3,aD (jB G.d h (by intro z;cases z))];exact G.d
 ·obtain⟨c,h0,rfl⟩:=cc.mp m;by_cases b:c.1=k
  ·have:c=g:=yJ G.k h0 e (by rw[b,hk]);subst this;rw[zk b];exact⟨_,aF,(r.append (aO.cons o aO.nil)).kp kp⟩
  ·rw[zw b];obtain⟨n,j,i⟩:=G.l c h0;refine⟨n,?_,i.kp kp⟩;rw[aD λz=>b (by rw[yJ (f:=λg:Int×A2×O Dt=>g.2.1) G.a h0 e z];exact hk)];exact j
 ·unfold uM;have:((Ja gs).any λq=>decide (q.1=k))=true:=List.any_eq_true.mpr ⟨(g.1,g.2.2),cc.mpr ⟨g,e,rfl⟩,by simpa using hk⟩;rw[zk this];unfold Ja sO;rw[ZY,ZY];exact qA λg _=>by simp only[Function.comp];split<;>rfl
theorem Gp.new(G:Gp K H D gs)(m:qd (gs.map λg=>((Sum.inl g.1:AZ),V.ref g.2.1)) (Sum.inl k)=U)(q:H l=Z (.lst []))(i:l∉Eo D gs):
  Gp K (B1 H D (.dK (BD (gs.map λg=>(Sum.inl g.1,V.ref g.2.1)) (Sum.inl k) (.ref l)))) D (gs++[(k,l,[])]):=by
 have kp:Kp H (B1 H D (.dK (BD (gs.map λg=>(Sum.inl g.1,V.ref g.2.1)) (Sum.inl k) (.ref l)))):=.dk G.d;have j:((gs.map λg=>((Sum.inl g.1:AZ),V.ref g.2.1)).any λp=>decide (p.1=Sum.inl k))=false:=by rw[xR,m];rfl
 have o:l≠D:=λz=>i (by rw[z];exact zg ..);have n:k∉gs.map (·.1):=λz=>by
  obtain⟨g,c,e⟩:=cc.mp z;have:=nz.mp j _ (cc.mpr ⟨g,c,rfl⟩);simp only[JS]at this;exact this (by rw[e])
 refine⟨?_,λg c=>?_,?_,?_⟩
 ·rw[aF,BD,zw (by rw[j];exact z5),ZN];rfl
 ·rcases List.mem_append.mp c with c|c
  ·obtain⟨vs,e,r⟩:=G.l g c;exact⟨vs,by rw[aD λz=>by rw[z,G.d]at e;cases e];exact e,r.kp kp⟩
  ·cases bN.mp c;exact⟨[],by rw[aD o];exact q,aO.nil⟩
 ·rw[ZN,Jn];exact⟨G.k,by simp,λa f b h=>by cases bN.mp h;exact λz=>n (by rw[z]at f;exact f)⟩
 ·rw[ZN,Jn];exact⟨G.a,by simp,λa f b h=>by cases bN.mp h;exact λz=>i (zh _ (by rw[z]at f;exact f))⟩
theorem Zt(b:qd (gs.map λg=>((Sum.inl g.1:AZ),V.ref g.2.1)) (Sum.inl k)=U):uM (Ja gs) k x=Ja (sO (gs++[(k,l,[])]) k x):=by
 have a:((Ja gs).any λq=>decide (q.1=k))=false:=by rw[ir,b];rfl
 unfold uM;rw[zw (by rw[a];exact z5)];unfold Ja sO;rw[ZN,ZN];congr 1
 ·rw[ZY];refine qA λg c=>?_;have:=nz.mp a (g.1,g.2.2) (cc.mpr ⟨g,c,rfl⟩);simp only[JS]at this;simp only[Function.comp,zw this]
 ·simp
end
section
variable{e1 ev:Expr}{f2:Ev->S Bx}{w:AK}{pw py py2 py3 px p1 p3 p4 pl a1 a2 c1 c2:Pos}
def Zu(X:Cx)(i j:Nat)(fv:Ev->S Bx):TE:=E8 X.K "list" Bp (E8 X.K "dict" MU (qM i) (tM (qM j) (tM (HZ Gm) Gm))) (tM (tF X.K fv) Gm)
theorem UI{y:Hp}{f:L2.St}{m:Ev}{k:Int}{Q:L2.St->Hp->Prop}(C:aV X.K Hs y f m)(hj:m[j]?=Z (Z (.z (.int k))))(hi:f[i]?=Z (Z (.ref D)))(ev:fv m=Z (.z d))(G:Gp X.K y D gs)(I:∀a∈Eo D gs,Hs a=U)(S:EJ (Eo D gs) f m)(hl:gs.length<1000)(b6:∀g∈gs,g.2.2.length<1000)(q:∀H' E,aV X.K Hs H' f m->Gp X.K H' D E->(∀a∈Eo D E,Hs a=U)->EJ (Eo D E) f m->Ja E=uM (Ja gs) k d->Q f H'):Zu X i j fv f y (λ_ H'=>Q f H'):=by
 obtain⟨vk,b5,rk⟩:=C.val j _ hj;have rk:vk=.int k:=by simpa only[bh,AX]using rk
 subst rk;have sz:(1000:Nat)<AB:=by decide
 refine⟨_,hi,.inr (.inr (.inl ⟨rfl,.inl ⟨_,G.d⟩⟩)),_,b5,qi _,λl F=>?_⟩;have sl:AW y (B1 y l (.lst [])):=bC F;have A:=G.same sl;have p:=C.grow sl;refine⟨D,_,Sum.inl k,.ref l,rfl,rfl,A.d,by rw[zi];omega,λw hw=>?_,λhn=>?_⟩
 ·obtain⟨g,t,hk,rfl⟩:=Gp.val hw;obtain⟨vs,P,a3⟩:=A.l g t;refine⟨.inl ⟨rfl,vs,.inl (.inl P)⟩,Hs,m,_,p,ev,λu B e n7 N=>?_⟩;have M:=A.same e;have n:=e _ _ P;have L:AX X.K B d u:=N;obtain⟨J,x,eM⟩:=M.app t hk n (a3.kp (.of e)) L;refine⟨_,vs,u,rfl,rfl,n,by rw[a3.length];have:=b6 g t;omega,q _ _ ?_ J (by rw[x];exact I) (by rw[x];exact S) eM⟩;have s:g.2.1∈Eo D gs:=zh _ (cc.mpr ⟨g,t,rfl⟩);exact(p.grow e).move (as:=[g.2.1]) (λj c a e1 e2 e3 z=>S j c a e1 e2 e3 (by rw[bN.mp z];exact s)) (.lst n) (λb v=>aD λz=>v (by rw[z];simp)) (λb o eb=>by
   rw[aD λz=>by rw[z,I _ s]at eb;cases eb];exact(p.grow e).base b o eb) p.new
 ·have a5:l∉Eo D gs:=λz=>by
   have:=G.ld l z;rcases this with⟨_,q⟩|⟨_,q⟩<;>(rw[F]at q;cases q)
  have M:=A.new hn aF a5;have H:=p.move (as:=[D]) (λj c a e1 e2 e3 z=>S j c a e1 e2 e3 (by rw[bN.mp z];exact zg ..)) (.dk A.d) (λb v=>aD (o:=.dK (BD (gs.map λg=>(Sum.inl g.1,V.ref g.2.1)) (Sum.inl k) (.ref l))) λz=>v (by rw[z];simp)) (λb o eb=>by
   rw[aD λz=>by rw[z,I _ (zg ..)]at eb;cases eb];exact p.base b o eb) p.new
  have W:l≠D:=λz=>a5 (by rw[z];exact zg ..);refine⟨.inl ⟨rfl,[],.inl (.inl (by rw[aD W];exact aF))⟩,Hs,m,_,H,ev,λu B e n7 N=>?_⟩;have J:=M.same e;have L:AX X.K B d u:=N;have t:(k,l,([]:O Dt))∈gs++[(k,l,[])]:=Zs _ (bN.mpr X9);have n:B l=Z (.lst []):=e _ _ (by rw[aD W];exact aF);obtain⟨G4,x,eM⟩:=J.app t X9 n aO.nil L;have b4:Hs l=U:=C.base.free F;have Y:∀(j:Nat) c a,m[j]?=Z (Z c)->loose c=true->f[j]?=Z (Z (.ref a))->a≠l:=λj c a e1 e2 e3 z=>Ch C j c a e1 e2 e3 (by rw[z];exact F);have b0:∀{a:A2},a∈Eo D (gs++[(k,l,[])])->a∈Eo D gs\/a=l:=λ{a} h=>by
   unfold Eo at h ⊢;rw[ZN]at h;rcases List.mem_cons.mp h with z|z
   ·exact .inl (by rw[z];exact zg ..)
   ·rcases List.mem_append.mp z with z|z
    ·exact .inl (zh _ z)
    ·exact .inr (by simpa using z)
  refine⟨l,[],u,rfl,rfl,n,ZO (Nat.zero_lt_succ _) (j0 sz),q _ _ ?_ G4 (by rw[x];exact λa s=>(b0 s).elim (I a) λz=>by rw[z];exact b4) (by rw[x];exact λj c a e1 e2 e3 s=>(b0 s).elim (S j c a e1 e2 e3) (Y j c a e1 e2 e3)) (Zt (l:=l) hn).symm⟩;exact(H.grow e).move (as:=[l]) (λj c a e1 e2 e3 z=>Y j c a e1 e2 e3 (bN.mp z)) (.lst n) (λb v=>aD λz=>v (by rw[z];simp)) (λb o eb=>by
   rw[aD λz=>by rw[z,b4]at eb;cases eb];exact(H.grow e).base b o eb) H.new
theorem KH{q:Nat}(h:(ρ.set i U)[q]?=Z (Z b)):q≠i/\ρ[q]?=Z (Z b):=by
 rcases B7 h with⟨_,z,_⟩|⟨h1,h2⟩
 ·cases z
 ·exact⟨h1,h2⟩
theorem Zw(i j k:Nat)(hp:PassesOwn (db X) X.A X.env X.xe)(hc:X.calm=true)(hN:X.N.Nodup)(hi:EA X (.Name w pw) iter fi)(h1:QV X e1 f1)(i7:QB X c p)(h2:QV X e2 f2)(hv:QV X ev fv)
  (e4:i≠j:=by decide) (f5:i≠k:=by decide) (l0:j≠k:=by decide) (xi:X.N[i]?=Z x:=by rfl) (xj:X.N[j]?=Z y:=by rfl) (xk:X.N[k]?=Z w:=by rfl)
  (vi:WW X.env.scope x:=by first|exact ko rfl|exact jv (ko X9)|exact jv (jv X9)) (vj:WW X.env.scope y:=by first|exact ko rfl|exact jv (ko X9)|exact jv (jv X9))
  (lj:D2 X.env.scope y:=by first|exact ko rfl|exact jv X9) (lk:D2 X.env.scope w:=by first|exact ko rfl|exact jv X9)
  (fj:X.fn y=true\/X.env.scope.names.lookup y=Z .local:=by first|exact .inl rfl|exact .inr X9) (fk:X.fn w=true\/X.env.scope.names.lookup w=Z .local:=by first|exact .inl rfl|exact .inr X9)
  (dx:bv x:=by decide) (cx:(x==("__classdict__":AK))=false:=by decide) (dy:bv y:=by decide) (cy:(y==("__classdict__":AK))=false:=by decide)
  (hs:∀z,foldedSetIterable iter X.env z=pure z:=by intro _;rfl) (s1:swapsWith e1 (Z (.Name y py)) p1.line X.env=pure false:=by rfl) (s2:swapsWith e2 (Z (.Name y py2)) p2.line X.env=pure false:=by rfl)
  (e5:AA [.Name y py3,.List [] pl] X.env=[(false,eval (.Name y py3) X.env),(false,eval (.List [] pl) X.env)]:=by rfl) (g0:AA [ev] X.env=[(false,eval ev X.env)]:=by rfl)
  (h7:attributeBase (.Name x px) "setdefault" X.env (eval (.Name x px) X.env)=eval (.Name x px) X.env:=by rfl)
  (j2:attributeBase (.Call (.Attribute (.Name x px) "setdefault" a1) [.Name y py3,.List [] pl] [] c1) "append" X.env (eval (.Call (.Attribute (.Name x px) "setdefault" a1) [.Name y py3,.List [] pl] [] c1) X.env)=eval (.Call (.Attribute (.Name x px) "setdefault" a1) [.Name y py3,.List [] pl] [] c1) X.env:=by rfl)
  (i4:((AE c1 (AA [.Name y py3,.List [] pl] X.env)).all (λx=>!x.1)&&(backToKw c1 (keywordEach [] X.env)).all (λx=>x.1.isSome)&&decide ([Expr.Name y py3,.List [] pl].length+([]:O AD).length+(if([]:O AD).isEmpty then 0 else 1)<30))=true:=by rfl)
  (h4:((AE c2 (AA [ev] X.env)).all (λx=>!x.1)&&(backToKw c2 (keywordEach [] X.env)).all (λx=>x.1.isSome)&&decide ([ev].length+([]:O AD).length+(if([]:O AD).isEmpty then 0 else 1)<30))=true:=by rfl)
  (j1:(a1.endLine==c1.line)=true:=by rfl) (i6:(a2.endLine==c2.line)=true:=by rfl)
  (s4:swapsWith (.Call (.Attribute (.Call (.Attribute (.Name x px) "setdefault" a1) [.Name y py3,.List [] pl] [] c1) "append" a2) [ev] [] c2) U p4.line X.env=pure false:=by rfl):
  Lx X (.For (.Name w pw) iter [.Assign [.Name y py] e1 p1,.If c [.Assign [.Name y py2] e2 p2] [] p3,.Expr (.Call (.Attribute (.Call (.Attribute (.Name x px) "setdefault" a1) [.Name y py3,.List [] pl] [] c1) "append" a2) [ev] [] c2) p4] [] pos) (Em i j k fi f1 p f2 fv):=by
 have i3:PE X (.Call (.Attribute (.Call (.Attribute (.Name x px) "setdefault" a1) [.Name y py3,.List [] pl] [] c1) "append" a2) [ev] [] c2) (Zu X i j fv):=
  Cw kP KO KM m7
   (Cw PySem.F.plainAttrs_dict PySem.F.slot_dict_setdefault PySem.F.type_dict_setdefault dS (iB (i:=i) xi vi dx cx) (bI (iB (i:=j) xj vj dy cy) (bI (Qk eY) eY X9) (by rw[e5]<;>rfl)) h7 i4 j1 (by rw[e5]<;>rfl) X9)
   (bI hv.run eY (by rw[g0]<;>rfl)) j2 h4 i6 (by rw[g0]<;>rfl) rfl
 refine⟨PL (UQ (Jy hp hc hi.run (L2.qP hN xk lk fk) (dU (qQ (pos:=p1) (pos':=py) hN xj lj h1.run s1 fj) (dU (Ma (pos:=p3) i7.run (qN (qQ (pos:=p2) (pos':=py2) hN xj lj h2.run s2 fj)) oU) (qN (qO i3 s4)))) hs)) λDe σ H h=>?_⟩;obtain⟨H0,ρ,r,E,e,q⟩:=h;unfold Em at e;split at e
 ·rename_i b0;split at e;rotate_left
  ·cases e
  rename_i k3;obtain⟨ds,ed,e⟩:=AU e;obtain⟨m,em,e⟩:=AU e;cases e;obtain⟨v,b4,D,ks,rfl,hD,rm,_⟩:=E.val i _ b0;have i0:ks=[]:=dd.mp (by rw[rm.len];rfl);subst i0;have k0:i<ρ.length:=(cf.mp b0).1;have fr:∀(q:Nat) b,(((ρ.set i U).set j U).set k U)[q]?=Z (Z b)->q≠i/\q≠j/\q≠k/\ρ[q]?=Z (Z b):=λq b e=>by
   obtain⟨s,e⟩:=KH e;obtain⟨B,e⟩:=KH e;obtain⟨n3,e⟩:=KH e;exact⟨n3,B,s,e⟩
  have j3:(((ρ.set i U).set j U).set k U).length=ρ.length:=by simp
  generalize ((ρ.set i U).set j U).set k U=ρ0 at *
  have E0:aV X.K H0 H σ ρ0:=E.forget j3.symm λq b e=>(fr q b e).2.2.2;refine⟨H0,ρ0,ds,E0,ed,λJ H1 d4 y=>?_⟩;have E1:=E0.grow d4;have c3:=d4 _ _ hD;have c5:∀(q:Nat) c a,ρ0[q]?=Z (Z c)->loose c=true->σ[q]?=Z (Z (.ref a))->a≠D:=λq c a e1 e2 e3 z=>by
   subst z;obtain⟨s,_,_,e⟩:=fr q c e1;exact s (E.own i q _ a c b0 X9 b4 e e2 e3).symm
  have Y:B6 X.K J ds (qt (dw H1 σ ρ0) D):=by
   refine y _ (qW.trans lX) (λa C=>?_) (λa o u C=>?_) λa vs C=>?_
   ·rw[jF λz=>by rw[z,hD]at C;cases C];unfold dw;rw[zw];rintro⟨q,c,e1,ec,e2⟩;obtain⟨v,e3,rc⟩:=E0.val q _ e1;exact Ch E0 q c a e1 (by cases c<;>first|rfl|cases ec) e2 C
   ·rw[jF λz=>by rw[z,c3]at C;cases C];exact fL E1 (λvs z=>by rw[C]at z;cases z) λvs z=>by rw[C]at z;cases z
   ·rw[jF λz=>by rw[z,c3]at C;cases C];exact fL E1 (λvs z=>by rw[C]at z;cases z) λvs z=>by rw[C]at z;cases z
  have sub:AW H0 (qt (dw H1 σ ρ0) D):=λb o eb=>by
   rw[jF λz=>by rw[z,E.new i _ D b0 rfl b4]at eb;cases eb];exact E1.sub b o eb
  have ES:aV X.K (qt (dw H1 σ ρ0) D) H1 σ ρ0:=by
   have:=E1.sans;exact⟨this.len,this.val,this.own,qW.trans lX,λq c a e1 ec e2=>by
    unfold qt;split
    ·rfl
    ·exact this.new q c a e1 ec e2⟩
  generalize e9:qt (dw H1 σ ρ0) D=Hs at Y sub ES;have h5:Hs D=U:=by rw[<-e9];exact zk rfl
  clear e9;refine⟨λn m' σ' H'=>m'=ds.length-n/\n<=ds.length/\(∀q,q≠j->q≠k->σ'[q]?=σ[q]?)/\∃gs,aV X.K Hs H' σ' ρ0/\Gp X.K H' D gs/\(∀a∈Eo D gs,Hs a=U)/\EJ (Eo D gs) σ ρ0/\KD k j f1 p f2 fv ρ0 (ds.drop n) (Ja gs)=Z m,⟨ds.length,by simp,qi _,λ_ _ _=>X9,[],ES,⟨c3,λg L=>(by cases L),Kk,Kk⟩,λa C=>by rw[bN.mp C];exact h5,λq c a e1 e2 e3 z=>c5 q c a e1 e2 e3 (bN.mp z),em⟩,?_⟩;rintro n m' σ' H' ⟨rfl,hn,d3,gs,E',G,f0,S,f⟩;obtain⟨y1,y2⟩:=Y n H' E'.base;by_cases d0:n<ds.length
  ·right;have hd:ds[n]?=Z ds[n]:=by simp[d0]
   obtain⟨go,yl⟩:=y1 _ hd;rw[YI d0]at f;simp only[KD]at f;obtain⟨b1,i5,f⟩:=AU f;refine⟨go,λc6 H2=>(∀q,q≠j->q≠k->c6[q]?=σ[q]?)/\∃gs,aV X.K Hs H2 c6 ρ0/\Gp X.K H2 D gs/\(∀a∈Eo D gs,Hs a=U)/\EJ (Eo D gs) σ ρ0/\KD k j f1 p f2 fv ρ0 (ds.drop (n+1)) (Ja gs)=Z m,λc6 H2 ⟨z1,z2⟩=>⟨ds.length-(n+1),by omega,rfl,d0,z1,z2⟩,λxv H2 yy=>?_⟩;obtain⟨f3,rx⟩:=yl xv H2 yy;have Ek:aV X.K Hs H2 (σ'.set k (Z xv)) (ρ0.set k (Z (.z ds[n]))):=(E'.grow f3).set (b:=.z ds[n]) (AW.refl H2) rx (.inr X9) trivial;cases b1 with
   |z W=>
    obtain⟨t,et,f⟩:=AU f;obtain⟨b2,b6,f⟩:=AU f;refine⟨Hs,_,_,Ek,i5,λv1 H3 s3 n3 r3=>?_⟩;have E3:aV X.K Hs H3 ((σ'.set k (Z xv)).set j (Z v1)) ((ρ0.set k (Z (.z ds[n]))).set j (Z (.z W))):=Ek.set (b:=.z W) s3 r3 (.inr X9) trivial;have G3:=(G.same f3).same s3;split at f
    ·rename_i yk;obtain⟨v,i1,f⟩:=AU f;split at f
     ·rename_i xd;split at f
      ·rename_i h3;have e6:∀I H5,aV X.K Hs H5 I (((ρ0.set k (Z (.z ds[n]))).set j (Z (.z W))).set j (Z (.z (.int yk))))->AW H3 H5->(∀q,q≠j->q≠k->I[q]?=σ'[q]?)->Zu X i j fv I H5 (λ_ H'=>(∀q,q≠j->q≠k->I[q]?=σ[q]?)/\∃gs,aV X.K Hs H' I ρ0/\Gp X.K H' D gs/\(∀a∈Eo D gs,Hs a=U)/\EJ (Eo D gs) σ ρ0/\KD k j f1 p f2 fv ρ0 (ds.drop (n+1)) (Ja gs)=Z m):=λI H5 E5 s5 a5=>by
        have ag:∀q,q≠j->q≠k->I[q]?=σ[q]?:=λq s B=>(a5 q s B).trans (d3 q s B);have up:∀(q:Nat) b,ρ0[q]?=Z (Z b)->(((ρ0.set k (Z (.z ds[n]))).set j (Z (.z W))).set j (Z (.z (.int yk))))[q]?=Z (Z b):=λq b e=>by
         obtain⟨_,s,B,_⟩:=fr q b e;rw[qm _ s,qm _ s,qm _ B];exact e
        have dn:∀(q:Nat) b,loose b=true->(((ρ0.set k (Z (.z ds[n]))).set j (Z (.z W))).set j (Z (.z (.int yk))))[q]?=Z (Z b)->ρ0[q]?=Z (Z b):=λq b hl e=>by
         rcases B7 e with⟨_,z,_⟩|⟨_,e⟩
         ·cases z;cases hl
         ·rcases B7 e with⟨_,z,_⟩|⟨_,e⟩
          ·cases z;cases hl
          ·rcases B7 e with⟨_,z,_⟩|⟨_,e⟩
           ·cases z;cases hl
           ·exact e
        refine UI (Q:=λI H'=>(∀q,q≠j->q≠k->I[q]?=σ[q]?)/\∃gs,aV X.K Hs H' I ρ0/\Gp X.K H' D gs/\(∀a∈Eo D gs,Hs a=U)/\EJ (Eo D gs) σ ρ0/\KD k j f1 p f2 fv ρ0 (ds.drop (n+1)) (Ja gs)=Z m) E5 (zc _ (by simp;omega)) ((ag i e4 f5).trans b4) i1 (G3.same s5) f0 (λq c a e1 e2 e3=>?_) (by have:=h3.1;simpa[Ja]using this) (λg L=>h3.2 _ (cc.mpr ⟨g,L,rfl⟩)) λH6 M E6 G6 h6 S6 eM=>⟨ag,M,E6.forget (by simp) up,G6,h6,λq c a e1 e2 e3=>?_,by rw[eM];exact f⟩
        ·have e0:=dn q c e2 e1;obtain⟨_,s,B,_⟩:=fr q c e0;exact S q c a e0 e2 (by rw[<-ag q s B];exact e3)
        ·obtain⟨_,s,B,_⟩:=fr q c e1;exact S6 q c a (up q c e1) e2 (by rw[ag q s B];exact e3)
       have a3:∀q,q≠j->q≠k->((σ'.set k (Z xv)).set j (Z v1))[q]?=σ'[q]?:=λq s B=>by rw[qm _ s,qm _ B]
       refine⟨Hs,_,t,E3,et,λH4 P=>?_⟩;cases t with
       |true=>
        rw[zk rfl]at b6 ⊢;refine⟨Hs,_,_,E3.grow P,b6,λv2 H5 s5 n5 r5=>?_⟩;exact e6 _ _ ((E3.grow P).set (b:=.z (.int yk)) s5 r5 (.inr X9) trivial) (P.trans s5) λq s B=>by rw[qm _ s];exact a3 q s B
       |false=>
        rw[zw z5]at b6 ⊢;cases b6;exact e6 _ _ (by rw[List.set_set];exact E3.grow P) P a3
      ·cases f
     ·cases f
    ·cases f
   |l _=>cases f
   |o _=>cases f
   |n _=>cases f
   |m _ _=>cases f
  ·left;have f4:ds.length<=n:=by omega
   rw[gm f4]at f;cases f;refine⟨y2 f4,gs.map (·.2.1),G.a,λa C=>?_,λH2 kp o1 o2=>?_⟩
   ·obtain⟨g,L,rfl⟩:=cc.mp C;obtain⟨vs,e,_⟩:=G.l g L;exact⟨vs,e⟩
   ·have d2:∀(q:Nat) c,ρ0[q]?=Z (Z c)->σ'[q]?=σ[q]?:=λq c e=>let ⟨_,s,B,_⟩:=fr q c e;d3 q s B;have h9:D∉gs.map (·.2.1):=λz=>by
     obtain⟨g,L,e⟩:=cc.mp z;obtain⟨vs,e2,_⟩:=G.l g L;rw[e,G.d]at e2;cases e2
    have E2:aV X.K H0 H2 σ' ρ0:=E'.move (as:=gs.map (·.2.1)) (λq c a e1 e2 e3 z=>S q c a e1 e2 (by rw[<-d2 q c e1];exact e3) (zh _ z)) kp o1 (λb o eb=>by
     have c4:=sub b o eb;rw[o1 b λz=>by rw[f0 b (zh _ z)]at c4;cases c4];exact E'.base b o c4) λq c a e1 ec e2=>sub.free (E'.new q c a e1 ec e2)
    have b5:σ'[i]?=Z (Z (.ref D)):=(d3 i e4 f5).trans b4;have rD:bh X.K H2 (.m ((Ja gs).map λq=>(Sum.inl q.1,Dt.lst q.2)) U) (.ref D):=by
     refine⟨D,_,rfl,(o1 D h9).trans G.d,⟨?_,?_,?_⟩,λb h=>by cases h⟩
     ·unfold Ja;rw[ZY,ZY,ZY];rfl
     ·have:∀M:O (Int×A2×O Dt),(∀g∈M,g∈gs)->aO X.K H2 (((Ja M).map λq=>((Sum.inl q.1:AZ),Dt.lst q.2)).map (·.2)) ((M.map λg=>((Sum.inl g.1:AZ),V.ref g.2.1)).map (·.2)):=by
       intro M
       induction M with
       |nil=>intro _;exact aO.nil
       |cons g M ih=>
        intro h;refine aO.cons ?_ (ih λg L=>h g (zh _ L));obtain⟨vs,e1,r1⟩:=G.l g (h g (zg ..));obtain⟨o,k5,e2,e3⟩:=o2 g.2.1 (cc.mpr ⟨g,h g (zg ..),rfl⟩);rw[e1]at e2;cases e2;simp only[AX];exact⟨g.2.1,vs,rfl,.inl ⟨o,e3⟩,r1.kp kp⟩
      exact this gs λ_ h=>h
     ·intro pr h8;obtain⟨g,_,rfl⟩:=cc.mp h8;trivial
    refine q σ' H2 ⟨by rw[qv];exact E2.len,λq b e=>?_,λq1 q2 c a b g1 g2 g3 g4 g5 g6=>?_,E2.base,λq c a g1 g2 g3=>?_⟩
    ·rcases B7 e with⟨rfl,z,_⟩|⟨s,e⟩
     ·cases z;exact⟨_,b5,rD⟩
     ·exact E2.val q b e
    ·rcases B7 g1 with⟨rfl,z,_⟩|⟨s,k1⟩
     ·cases z;rw[b5]at g3;cases g3;rcases B7 g4 with⟨rfl,_,_⟩|⟨B,k4⟩
      ·rfl
      ·exact absurd X9 (c5 q2 b _ k4 g5 (by rw[<-d2 q2 b k4];exact g6))
     ·rcases B7 g4 with⟨rfl,z,_⟩|⟨B,k4⟩
      ·cases z;rw[b5]at g6;cases g6;exact absurd X9 (c5 q1 c _ k1 (by cases c<;>first|rfl|cases g2) (by rw[<-d2 q1 c k1];exact g3))
      ·exact E2.own q1 q2 c a b k1 g2 g3 k4 g5 g6
    ·rcases B7 g1 with⟨rfl,z,_⟩|⟨s,g1⟩
     ·rw[b5]at g3;cases g3;exact E.new _ _ _ b0 X9 b4
     ·exact E2.new q c a g1 g2 g3
 ·cases e
end
end P1
namespace P1
open L2 S6
section
variable{kx vx t1 i1 t2 i2:Expr}{f1 f2:O Expr}{g1 g2:Dt->Ev->S Ev}{p1 p2:Ev->S Bool}{fi1 fi2:Ev->S (O Dt)}{m:Nat}
end
end P1
namespace P1
open L2
section
variable{e:α->Dt}{e0:β->Dt}{fd f2:Ev->S Bx}{kk:Ev->S Ap}{cO:γ->Ap}
abbrev mI(e:α->Dt):O (Int×α)->Bx:=λm=>.m (m.map λq=>(kI q.1,e q.2)) U
abbrev nI(e:α->Dt):O (Int×α)->Bx:=λm=>.n (m.map λq=>(kI q.1,e q.2))
def X0(e:α->Dt):R (λ_=>Z (.m [] U)) ρ (mI e):=⟨[],U,λ_=>X9⟩
def WI[Inhabited α](a:R fa ρ (nI e))(b:R fb ρ (zE eI)):R (b2 oX fa fb) ρ (zE e):=⟨look a.v b.v,aY (aY a.D b.D) (Z (has a.v b.v=true)),λh=>by
 obtain⟨h,d⟩:=aA h;obtain⟨h1,h2⟩:=aA h;simp only[b2,a.ok h1,b.ok h2,Au,oX,D3,N6 (c:=kI) (show has a.v b.v=true from d)]⟩
def Sb(a:R fd ρ (nI e)):R (Aj fd) ρ (iE eI):=⟨a.v.map (·.1),a.D,λh=>by
 simp only[Aj,a.ok h,Au,Cc,ZY];rfl⟩
def Oe(k:β->Int)(v:β->α)(xs:O β):O (Int×O α):=xs.foldl (λm x=>uM m (k x) (v x)) []
theorem Zx(m:O (Int×O α))(k:Int)(x:α):uM (m.map λq=>(q.1,q.2.map e)) k (e x)=(uM m k x).map λq=>(q.1,q.2.map e):=by
 unfold uM;rw[hP];simp only[Function.comp_def];by_cases h:(m.any λq=>decide (q.1=k))=true
 ·rw[zk h,zk h,ZY,ZY];refine qA λq _=>?_;simp only[Function.comp];split<;>simp
 ·rw[zw h,zw h];simp
theorem Zy(m:O (Int×O α))(k:Int)(x:α)(n:Nat)(h:m.length<=n/\∀q∈m,q.2.length<=n):(uM m k x).length<=n+1/\∀q∈uM m k x,q.2.length<=n+1:=by
 unfold uM;split
 ·refine⟨by rw[zi];omega,λq a=>?_⟩;obtain⟨b,h',rfl⟩:=cc.mp a;have:=h.2 b h';split
  ·simp;omega
  ·omega
 ·refine⟨by simp;omega,λq a=>?_⟩;rcases List.mem_append.mp a with a|a
  ·have:=h.2 q a;omega
  ·cases bN.mp a;simp
theorem Zz{k j:Nat}{K:β->Int}{V:β->α}:∀(xs:O β) (m:O (Int×O α)) (n:Nat),(∀x∈xs,∃y1 t,f1 (ρ.set k (Z (.z (e0 x))))=Z (.z (.int y1))/\p ((ρ.set k (Z (.z (e0 x)))).set j (Z (.z (.int y1))))=Z t/\(if t=true then f2 ((ρ.set k (Z (.z (e0 x)))).set j (Z (.z (.int y1))))else Z (.z (.int y1)))=Z (.z (.int (K x)))/\fv (((ρ.set k (Z (.z (e0 x)))).set j (Z (.z (.int y1)))).set j (Z (.z (.int (K x)))))=Z (.z (e (V x)))) →
  (m.length<=n/\∀q∈m,q.2.length<=n)->n+xs.length<1000->KD k j f1 p f2 fv ρ (xs.map e0) (m.map λq=>(q.1,q.2.map e))=Z ((xs.foldl (λm x=>uM m (K x) (V x)) m).map λq=>(q.1,q.2.map e))
 |[],m,n,_,_,_=>rfl
 |x::xs,m,n,h,hm,hl=>by
  obtain⟨y1,t,h1,h2,d,b⟩:=h x (zg ..);rw[zr,QA];simp only[KD,h1,Au,h2,d,b];simp only[ZZ]at hl;rw[zk ⟨by rw[zi];have:=hm.1;omega,λq a=>by
   obtain⟨f,h',rfl⟩:=cc.mp a;have:=hm.2 f h';simp only[zi];omega⟩,Zx]
  exact Zz xs _ (n+1) (λy c=>h y (zh _ c)) (Zy m _ _ n hm) ()
def OB(i j k:Nat)(l:O (Int×O α))(hi:ρ[i]?=Z (Z (mI (eL e) l)))(A:j<ρ.length){ρ0:Ev}(h0:((ρ.set i U).set j U).set k U=ρ0)(it:R fi ρ0 (iE e0))(a:∀x,R f1 (ρ0.set k (Z (.z (e0 x)))) (zE eI))(c:∀x (y:Int),R p ((ρ0.set k (Z (.z (e0 x)))).set j (Z (.z (.int y)))) tE)(b:∀x (y:Int),R f2 ((ρ0.set k (Z (.z (e0 x)))).set j (Z (.z (.int y)))) (zE eI))
  (v:∀x (y1 y:Int),R fv (((ρ0.set k (Z (.z (e0 x)))).set j (Z (.z (.int y1)))).set j (Z (.z (.int y)))) (zE e)) (K:∀m:O (Int×O α),R kk (ρ0.set i (Z (mI (eL e) m))) cO):R (aJ (Em i j k fi f1 p f2 fv) kk) ρ cO:=
 let d:=λx=>if(c x (a x).v).v=true then(b x (a x).v).v else(a x).v
 ⟨(K (Oe d (λx=>(v x (a x).v (d x)).v) it.v)).v,aY (aY (aY (aY (Z (l=[])) it.D) (Z (it.v.length<1000))) (Zi it.v λx=>aY (a x).D (aY (c x (a x).v).D (aY (zH ((c x (a x).v).v=true) (b x (a x).v).D) (v x (a x).v (d x)).D)))) (K (Oe d (λx=>(v x (a x).v (d x)).v) it.v)).D,λw=>by
 obtain⟨h,u⟩:=aA w;obtain⟨h,o⟩:=aA h;obtain⟨h',h2⟩:=aA h;obtain⟨n,h1⟩:=aA h';have n:l=[]:=n;rw[n]at hi;have h2:it.v.length<1000:=h2;have o:∀x∈it.v,hold (aY (a x).D (aY (c x (a x).v).D (aY (zH ((c x (a x).v).v=true) (b x (a x).v).D) (v x (a x).v (d x)).D))):=o;rw[jh (ρ':=ρ0.set i (Z (mI (eL e) (Oe d (λx=>(v x (a x).v (d x)).v) it.v)))) (by
  unfold Em;rw[show ρ[i]?=Z (Z (Bx.m [] U)) from hi];simp only[zk A,h0,it.ok h1,Au];have:=Zz (ρ:=ρ0) (k:=k) (j:=j) (f1:=f1) (p:=p) (f2:=f2) (fv:=fv) (e:=e) (e0:=e0) (K:=d) (V:=λx=>(v x (a x).v (d x)).v) it.v [] 0 (λx hx=>by
   obtain⟨B,d2⟩:=aA (o x hx);obtain⟨d2,g⟩:=aA d2;obtain⟨g,s⟩:=aA g;refine⟨(a x).v,(c x (a x).v).v,(a x).ok B,(c x (a x).v).ok d2,?_,(v x (a x).v (d x)).ok s⟩;by_cases f:(c x (a x).v).v=true
   ·rw[zk f,(b x (a x).v).ok (jj g f)];simp only[d,zk f]
   ·rw[zw f];simp only[d,zw f]) ⟨zl _,λq t=>by cases t⟩ (by simpa using h2)
  rw[kU]at this;rw[show(iE e0) it.v=it.v.map e0 from rfl,this,Au];congr 5;rw[ZY];rfl)]
 exact(K _).ok u⟩
end
section
variable{e:α->Dt}{fs:Ev->S (O Dt)}
end
section
variable{a:Expr}
end
theorem dX{bs:O Bx}{c:α->Bx}{v:α}{D:S Prop}(x:RP g (bs.map Z++ba (n-bs.length) U) (λr=>Ap.rt (c r)) v D)(h:hold D):fM n g bs=Z (c v):=SA x.r h
section
variable{e:α->Dt}
end
open PySem.Builtin PySem.Builtin.Str
section
variable{o:Expr}{fx:Ev->S Bx}
end
section
variable{g:Ev->S AK}
end
section
variable{e1 e3:Expr}{gr:Ev->S Ap}{fx:Ev->S Dt}{tR tQ:TS}{xr xj y1 y2:AK}{AT no:O AC}{kk:Nat}{p0 p00 p01 p02 q1 q2 pt pj pa px pb pif pf2 px3 a1 c1 pe1 pr a2 pj2 c2 pe2:Pos}
end
section
variable{e:α->Dt}{ea:β->Dt}{eb:δ->Dt}{kk:Ev->S Ap}{cO:γ->Ap}
end
end P1
namespace P1
open L2 S1
section
variable{k:Nat}{f:A2}{p:Pos}
end
end P1
namespace P1
open L2 S1 S6
theorem LB{p:O α->Prop}(h:p []):∀us:O α,us.length=0->p us
 |[],_=>h
section
variable{e:α->Dt}{g:Ev->S Bx}{c:α->Bx}
end
def BC(i:Int):R (cB (.int i)) ρ (zE eI):=sI (.int i) eI i rfl
def Wh(s:AK):R (cB (.str s)) ρ (zE eS):=sI (.str s) eS s rfl
abbrev Nn(K:B5)(n:AK)(f:A2):Prop:=nsIn K mainGlobals n=Z (Z (.ref f))
abbrev Lk(K:B5)(f:A2)(n:AK)(st:AC)(b:A1)(od:S A2)(sl:Array (S A1))(kV a pm:A1)(d:S A2)(c ct:A1):Prop:=K.lookup f=Z ⟨b,od,.func (fnOf n n (lW st) (fH st) (aG st) .none kV a pm d c ct),sl⟩
end P1
namespace P1
open L2
section
variable{e:α->Dt}
end
def LH(h:A7)(e:A2)(C:A1)(dx:S A2):Prop:=∃vs sl,h.get? e=Z ⟨C,dx,.fields vs,sl⟩/\vs[1]?=Z .none/\vs[2]?=Z .none
def Rv(h:A7)(e:A2)(C:A1)(dx:S A2)(fl:A1)(T:A2):Prop:=
 ∃vs sl a ts,h.get? e=Z ⟨C,dx,.fields vs,sl⟩/\vs[1]?=Z (.ref T)/\T≠e/\h.get? T=Z a/\a.data=.fields ts/\ts[3]?=Z fl/\vs[2]?=Z .none
structure KJ (S ch:List Addr) (h h':Heap):Prop where
 keep:∀b o,h.get? b=some o->b∉ch->b∉S->h'.get? b=some o
 slot:∀b o,h.get? b=some o->b∉ch->∃sl,h'.get? b=some { o with slots:=sl }
theorem KJ.trans{S c1 c2:O A2}{h1 h2:A7}(a:KJ S c1 h h1)(b:KJ S c2 h1 h2):KJ S (c1++c2) h h2:=by
 refine⟨λx o e n m=>b.keep x o (a.keep x o e (λz=>n (Q2 _ z)) m) (λz=>n (Zs _ z)) m,λx o e n=>?_⟩;obtain⟨d,e1⟩:=a.slot x o e (λz=>n (Q2 _ z));obtain⟨c,e2⟩:=b.slot x _ e1 (λz=>n (Zs _ z));exact⟨c,e2⟩
theorem KJ.mono{S S' c1 c2:O A2}{h1:A7}(a:KJ S c1 h h1)(c:∀b∈c1,b∈c2)(hs:∀b∈S,b∈S'):KJ S' c2 h h1:=
 ⟨λx o e n m=>a.keep x o e (λz=>n (c _ z)) (λz=>m (hs _ z)),λx o e n=>a.slot x o e (λz=>n (c _ z))⟩
theorem KJ.wL{S ch:O A2}{h1:A7}{l:O Env}(a:KJ S ch h h1)(c:∀b∈ch,∀o,h.get? b=Z o->∃vs,o.data=.fields vs)(g:h.FunFrames base l):h1.FunFrames base l:=
 g.of_keeps λb o e f=>by
  obtain⟨sl,q⟩:=a.slot b o e λz=>by
   obtain⟨vs,d⟩:=c b z o e;exact f vs d
  exact⟨_,q,rfl⟩
section
variable{L e T:A2}{C fl:A1}
theorem Jb{c:A1}{v:Bool}{vs:Array A1}{sl:Array (S A1)}(G:A.frames=Z (env::outer))(p:s.heap.FunFrames base (env::outer))(x:env.frame=Z L)
  (he:s.heap.get? e=Z ⟨C,dx,.fields vs,sl⟩) (hsz:1<vs.size) (h2:vs[2]?=Z .none)
  (h:∀h' T,s.heap.objs.size<=T->KJ (Bz (env::outer)) [e] s.heap h'->Rv h' e C dx (rawInt L) T->Q gl { s with heap:=h' }):
  A8 M A (do let a <-frameOf env;let pl <-entryPlaceOf L v;let b <-EntryCells.newEntry c a .none (rawInt L) .none pl;setField (.ref e) 1 b) Q Ex s:=by
 have H:e∉Bz (env::outer):=λE=>by
  obtain⟨_,o,j,D⟩:=p.mem E;rw[he]at j;cases j;exact D vs rfl
 refine zb (wpAny_frameOf_fun G p x λh1 d=>?_);refine zb (wpAny_entryPlaceOf λpl l=>?_);unfold EntryCells.newEntry newFields;refine zb (qo ?_ (l.sizeOk5 _ _ _ _ _));have i:h1.get? e=Z ⟨C,dx,.fields vs,sl⟩:=(d.2.1 e H).trans he;have g:=ze (h:=h1) { cls:=.type "traceback",dict:=U,data:=.fields ([c,.ref L,.none,rawInt L,.none]++(if pl.isEmpty then ba 6 Value.none else pl)).toArray } i;refine wpAny_setField g X9 hsz (h _ h1.objs.size (by rw[d.1];exact zl _) ?_ ?_)
 ·have kp:∀b o,b≠e->h1.get? b=Z o->_:=λb o u t=>(Q3 _ (Obj.mapFields (·.setIfInBounds 1 (Value.ref h1.objs.size))) (ja u)).trans (ze
   { cls:=.type "traceback",dict:=U,data:=.fields ([c,.ref L,.none,rawInt L,.none]++(if pl.isEmpty then ba 6 Value.none else pl)).toArray } t)
  refine⟨λb o q n m=>kp b o (λz=>n (by simp[z])) ((d.2.1 b m).trans q),λb o q n=>?_⟩;obtain⟨w,y⟩:=d.2.2 b o q;exact⟨w,kp b _ (λz=>n (by simp[z])) y⟩
 ·have f:h1.objs.size≠e:=JO (zz i);have F:=QN (Obj.mapFields (·.setIfInBounds 1 (Value.ref h1.objs.size))) g (yb (ki X9 _));have B:=(Q3 (h1.push { cls:=.type "traceback",dict:=U,data:=.fields ([c,.ref L,.none,rawInt L,.none]++(if pl.isEmpty then ba 6 Value.none else pl)).toArray })
   (Obj.mapFields (·.setIfInBounds 1 (Value.ref h1.objs.size))) (ja f)).trans (zt h1 X9)
  refine⟨_,_,_,_,F,by simp[hsz],f,B,rfl,?_,?_⟩
  ·first|(simp;done)|(rcases l with rfl|⟨_,_,_,_,_,_,_,rfl⟩<;>simp)
  ·rw[Array.getElem?_setIfInBounds_ne ()];exact h2
theorem ZC(c:A.frames=Z (env::outer))(d:s.heap.FunFrames base (env::outer))(b:env.frame=Z L)(hx:LH s.heap e C dx)
  (h:∀h' T,s.heap.objs.size<=T->KJ (Bz (env::outer)) [e] s.heap h'->Rv h' e C dx (rawInt L) T->Q gl { s with heap:=h' }):A8 M A (noteFrame (.ref e) env) Q Ex s:=by
 obtain⟨vs,sl,a,h1,h2⟩:=hx;unfold noteFrame;simp only[b];refine zb (kR a X9 h1 ?_);rw[zw ()];exact Jb c d b a (dB.mp h1).1 h2 h
theorem Wi(d:env.frame=Z L)(hx:Rv s.heap e C dx (rawInt L) T)(h:Q gl s):A8 M A (noteFrame (.ref e) env) Q Ex s:=by
 obtain⟨vs,sl,g,ts,a,h1,i,b,c,f,h2⟩:=hx;unfold noteFrame;simp only[d];refine zb (kR a X9 h1 ?_);rw[zk (show(Value.ref T !=Value.none)=true from by simp)];refine zb (kR b c f ?_);rw[zk (show(rawInt L==rawInt L)=true from by simp)];exact zd h
theorem Uq{fl':A1}(hx:Rv s.heap e C dx fl T):∀h',h'=s.heap.update T (Obj.mapFields (·.setIfInBounds 3 fl'))->KJ [] [T] s.heap h'/\Rv h' e C dx fl' T:=by
 obtain⟨vs,sl,m,ts,f,h1,c,g,d,j,h2⟩:=hx;have i:3<ts.size:=(dB.mp j).1;intro h' l;subst l;have a:∀b,b≠T->(s.heap.update T (Obj.mapFields (·.setIfInBounds 3 fl'))).get? b=s.heap.get? b:=λb h=>Q3 _ _ (ja h);refine⟨⟨λb o q n _=>(a b λz=>n (by simp[z])).trans q,λb o q n=>⟨o.slots,(a b λz=>n (by simp[z])).trans q⟩⟩,vs,sl,_,_,(a e (ja c)).trans f,h1,c,
  QN _ g (yb (ki d _)),ki d _,by simp[i],h2⟩
theorem q9(fr:S A2)(hx:Rv s.heap e C dx fl T)(h:∀h',KJ [] [T] s.heap h'->Rv h' e C dx (fr.elim .none λf=>rawInt f) T->Q gl { s with heap:=h' }):A8 M A (setFlight (.ref e) fr) Q Ex s:=by
 obtain⟨x1,c⟩:=Uq (fl':=fr.elim .none λf=>rawInt f) hx _ rfl;obtain⟨vs,sl,i,ts,a,h1,j,b,d,g,h2⟩:=hx;unfold setFlight;refine zb (kR a X9 h1 ?_);rw[zk (show(Value.ref T !=Value.none)=true from by simp)];exact wpAny_setField b d (dB.mp g).1 (h _ x1 c)
theorem Ur(p:A.frames=Z (env::outer))(l:s.heap.FunFrames base (env::outer))(i:env.frame=Z L)(hx:Rv s.heap e C dx .none T)
  (h:∀h' a,s.heap.objs.size<=a->KJ (Bz (env::outer)) [T,e] s.heap h'->Rv h' e C dx (rawInt L) a->Q gl { s with heap:=h' }):A8 M A (noteFrame (.ref e) env) Q Ex s:=by
 obtain⟨x1,u⟩:=Uq (fl':=.none) hx _ rfl;obtain⟨vs,sl,t,ts,g,h1,m,d,f,j,h2⟩:=hx;unfold noteFrame;simp only[i];refine zb (kR g X9 h1 ?_);rw[zk (show(Value.ref T !=Value.none)=true from by simp)];refine zb (kR d f j ?_);rw[zw (show ¬ ((Value.none==rawInt L)=true) from by simp[rawInt])];refine zb (wpAny_setField d f (dB.mp j).1 ?_);have n:KJ (Bz (env::outer)) [T] _ _:=x1.mono (λ_ z=>z) (λ_ z=>nomatch z);refine Jb (base:=base) p (x1.wL (λb z o q=>by
  obtain rfl:b=T:=by simpa using z
  rw[d]at q;cases q;exact⟨_,f⟩) l) i ((x1.keep e _ g (by simpa using ja m) (by simp))) (dB.mp h1).1 h2 λh' a z c x=>?_
 exact h h' a (by have:=my s.heap T (Obj.mapFields (·.setIfInBounds 3 Value.none));exact this▸z) (n.trans c) x
end
structure yK (X:Cx) (H:Hp) (b:Addr):Prop where
 un:H b=none
 ab:X.s₀.heap.objs.size<=b
 nl:b≠X.env.locals
 nc:∀x c,X.env.cells.lookup x=some c->c≠b
section
variable{H':Hp}{h':A7}{ch:O A2}
theorem yK.new(I:AV X [] σ H s){b:A2}(h:s.heap.objs.size<=b):yK X H b:=
 ⟨I.hok.fresh h,Zl I.sz h,λz=>by have:=I.lt;rw[<-z]at this;exact absurd this (ew.mpr h),λx c e z=>by
  obtain⟨v,q⟩:=I.cell x c e;have:c<s.heap.objs.size:=by
   obtain⟨o,q⟩:∃o,s.heap.get? c=Z o:=by
    first|(obtain⟨o,q,_⟩:=q;exact⟨o,q⟩)|exact⟨_,q⟩
   exact zz q
  rw[z]at this;exact absurd this (ew.mpr h)⟩
theorem Cd{t':Nat}(x:X.pn=[])(I:AV X [] σ H s)(c:KJ (Bz X.stack) ch s.heap h')(g:∀b∈ch,yK X H b):AV X [] σ H { s with heap:=h',toks:=t' }:=by
 refine I.step (g':=s.gens) (d':=s.drawn) (ch:=ch) (λb a=>⟨.inr (g b a).ab,(g b a).nl,(g b a).nc,λp hp=>by rw[x]at hp;cases hp⟩)
  (λb o l a f e n=>c.keep b o e f λz=>(List.mem_cons.mp (I.yV b z)).elim l a) (λb o _ _ f e n=>c.slot b o e f) (λ_ _ _ _ n=>n)
  (λb o f e=>let ⟨_,q⟩:=c.slot b o e f;⟨_,q⟩) (λ_ _ e=>e) (λ_ _ _ e=>e) (λb ps e=>⟨#[],by rw[e];simp⟩) (λm i=>?_) (λb u e=>?_) I.bare
 ·obtain⟨o,es,ep,j,r⟩:=i;obtain⟨sl,q⟩:=c.slot _ o j λz=>(g _ z).nl rfl;exact⟨_,es,ep,q,r⟩
 ·have h:∀(d:A2) (w:HO),H d=Z w->d∉ch/\d∉Bz X.stack:=λd w q=>⟨λz=>(by rw[(g d z).un]at q;cases q),λz=>(by rw[I.Bh d z]at q;cases q)⟩;refine(I.hok b u e).stay (λd v t q=>?_) (λ_ q=>q) (λ_ _ q=>q) λ_ _ _ q=>q;rcases t with z|z
  ·subst z;exact c.keep _ _ q (h _ _ e).1 (h _ _ e).2
  ·exact c.keep _ _ q (h _ _ z).1 (h _ _ z).2
def RX(X:Cx)(E:XK)(e:A1)(s:A3):Prop:=
 ∃a C dx σ H,e=.ref a/\AV X [] σ H s/\yK X H a/\(LH s.heap a C dx\/∃T,yK X H T/\(Rv s.heap a C dx (rawInt X.env.locals) T\/Rv s.heap a C dx .none T))/\E C dx H
def Ep(P:A4)(w:A5):Vm:=λouter H s E e s'=>
 ∃a C dx H' T,e=.ref a/\s'.os=s.os/\AllBare s'.gens/\Un (Bz outer) [] H H' s.heap s'.heap/\u0 P w H' s'.heap/\s.heap.objs.size<=a/\s.heap.objs.size<=T/\H' a=U/\H' T=U ∧
  Rv s'.heap a C dx .none T/\E C dx H'
theorem ap{fs:O A2}{h1 h2:A7}(u:Un fs [] H H' h h1)(c:KJ fs ch h1 h2)(g:∀b∈ch,h.get? b=U):Un fs [] H H' h h2:=by
 have d:∀b o,h.get? b=Z o->b∉ch:=λb o e z=>by rw[g b z]at e;cases e
 refine⟨λb o e n f x=>c.keep b o (u.keep b o e n f x) (d b o e) f,λb o e n f x=>?_,u.free,λb o e x=>?_,u.tups,u.oM,u.sX⟩
 ·obtain⟨sl,q⟩:=u.slot b o e n f x;obtain⟨i,a⟩:=c.slot b _ q (d b o e);exact⟨i,a⟩
 ·obtain⟨o',q⟩:=u.there b o e x;obtain⟨sl,a⟩:=c.slot b _ q (d b o e);exact⟨_,a⟩
theorem Us{E:XK}{C:A1}(l:X.pn=[])(d:X.stack=X.env::X.outer)(g:X.env.frame=Z X.env.locals)(I:AV X [] σ H s)(j:yK X H a)(hx:LH s.heap a C dx\/∃T,yK X H T/\(Rv s.heap a C dx (rawInt X.env.locals) T\/Rv s.heap a C dx .none T))(h:∀h' T,AV X [] σ H { s with heap:=h' }->yK X H T->Rv h' a C dx (rawInt X.env.locals) T->Q gl { s with heap:=h' }):A8 (db X) X.A (noteFrame (.ref a) X.env) Q Ex s:=by
 rcases hx with x|⟨T,f,x|x⟩
 ·have fr:=I.stack;rw[d]at fr;refine ZC (base:=X.base) (d▸I.ok.frames) fr g x λh' T z c i=>?_;rw[<-d]at c;have f:yK X H T:=yK.new I z;exact h h' T (Cd (t':=s.toks) l I c (λb e=>(bN.mp e)▸j)) f i
 ·exact Wi g x (h s.heap T I f x)
 ·have fr:=I.stack;rw[d]at fr;refine Ur (base:=X.base) (d▸I.ok.frames) fr g x λh' m z c i=>?_;rw[<-d]at c;exact h h' m (Cd (t':=s.toks) l I c (λb e=>by
   rcases List.mem_cons.mp e with rfl|e
   ·exact f
   ·exact(bN.mp e)▸j)) (yK.new I z) i
theorem Wj{E:XK}(f:X.pn=[])(n:X.stack=X.env::X.outer)(g:X.env.frame=Z X.env.locals):PassesOwn (db X) X.A X.env (RX X E):=by
 intro e s' h;obtain⟨a,C,dx,σ,H,rfl,I,d,hx,j⟩:=h;refine Us (E:=E) f n g I d hx λh' T l i x=>?_;show A8 _ _ _ _ _ _;obtain⟨vs,sl,q,ts,h1,h2,y,t,u,v⟩:=id x;refine zb (kR h1 X9 h2 ?_);rw[zw (by simp)];rw[g];refine q9 (s:={ s' with heap:=h' }) (Z X.env.locals) x λp c o=>?_;exact⟨a,C,dx,σ,H,rfl,Cd (s:={ s' with heap:=h' }) (t':=s'.toks) f l (c.mono (λ_ z=>z) λ_ z=>nomatch z) (λb m=>(bN.mp m)▸i),d,.inr ⟨T,i,.inl o⟩,j⟩
theorem ZD{E:XK}{e:A1}(g:X.pn=[])(o:X.stack=X.env::X.outer)(p:X.env.frame=Z X.env.locals)(l:X.ex=[])(h:RX X E e s):
  A8 (db X) X.A (leaving X.env e) (λ_ j=>Ep X.prog X.w X.outer X.H₀ X.s₀ E e j) Ex s:=by
 obtain⟨a,C,dx,σ,H,rfl,I,d,hx,i⟩:=h;unfold leaving;refine zb (Us (E:=E) g o p I d hx λh' T m f x=>?_);refine q9 (s:={ s with heap:=h' }) U x λt c q=>?_;have J:=Cd (s:={ s with heap:=h' }) (t':=s.toks) g m (c.mono (λ_ z=>z) λ_ z=>nomatch z) (λb n=>(bN.mp n)▸f);have u:=J.base;rw[l]at u;exact⟨a,C,dx,H,T,rfl,J.os,J.bare,u,J.hok,d.ab,f.ab,d.un,f.un,q,i⟩
end
def ZF(K:B5)(C fI:A2)(bmB:O A1)(newId:String):Bool:=match K.lookup C with
 |some ⟨.type "type", _,.cls cd,sl⟩=>(match cd.mro,sl.toList with
  |.ref C'::bm,[_,_,_,_,Z (.builtin n),_]=>C'==C&&(n==newId&&(!cd.hasDel&&(PySem.W.tailIn K bmB bm&&(findIn K (.ref C) "__init__"==Z (Z (.ref fI))&&isFn K (.ref fI)))))
  |_,_=>false)
 |_=>false
def IL(h:A7)(C:A2)(bmB:O A1)(newId:String):Prop:=∃nm q N bs a l e sub i j b m d f g c,h.get? C=Z (excClassObj nm q C N bs a l e sub i j b m d f g c newId)/\OwnTail h bmB a
theorem KN(X:K.In h)(q:ZF K C fI bmB newId=true):IL h C bmB newId/\findIn K (.ref C) "__init__"=Z (Z (.ref fI))/\isFn K (.ref fI)=true:=by
 unfold ZF at q;split at q
 ·rename_i u s sl p;split at q
  ·rename_i A i c e f b n d g hs;simp only[ZT,beq_iff_eq,jb]at q;obtain⟨rfl,rfl,a,w,hi,o⟩:=q;obtain⟨nm,bs,D,t,v,x,j,sub,y,z,B⟩:=s;dsimp only at g a;subst g a;have m:sl=#[c,e,f,b,Z (.builtin n),d]:=by
    obtain⟨l⟩:=sl;simp only at hs;rw[hs]
   subst m;exact⟨⟨nm,v,t,bs,i,x,j,sub,y,z,u,c,e,f,b,d,X _ _ p,PySem.W.tail_of_in X w⟩,hi,o⟩
  ·cases q
 ·cases q
section
variable{g:Array GenState}{d:Drawn}{t:Nat}{e:A2}{AT:O A1}{B:String}
abbrev Ut(C t:A2):AF:={ cls:=.ref C,data:=.fields #[.ref t,.none,.none,.none,.bool false,.none] }
theorem iN{Q:Fin->A3->Prop}(F:ExcBaseFacts B newId initId bmB)(X:K.In h)(hx:ZF K C fI bmB newId=true)(c:AT.length<=AB)
  (i:∀h',(∀b o,h.get? b=Z o->h'.get? b=Z o)->h'.get? (h.objs.size+1)=Z (Ut C h.objs.size) →
   A8 (A9 prog w) A (call (.ref fI) (.ref (h.objs.size+1)::AT)) (λr s'=>r=.none/\Q (.done (.ret (.ref (h.objs.size+1)))) s') E ⟨h',g,d,t,os⟩):
  A8 (A9 prog w) A (Builtin.«type.__call__» ⟨.ref C::AT,[]⟩) Q E ⟨h,g,d,t,os⟩:=by
 obtain⟨x,hi,l⟩:=KN X hx;obtain⟨nm,q,N,bs,j,y,D,sub,P,W,H,I,L,M,G,J,a,T⟩:=x
 repeat (first|with_reducible refine K2 a ?_|with_reducible refine wpAny_madeBy_exc a ?_|wp_step)
 refine codeAny_call_builtin_code (Code.quiet_builtin _ F.quiet) (wpAny_check_new_subT F T a ?_);refine codeAny_exc_new_subT F T a ?_ c;show A8 _ _ _ _ _ _;have kp:∀b o,h.get? b=Z o->((h.push { cls:=.type "tuple",data:=.seq AT.toArray }).push (Ut C h.objs.size)).get? b=Z o:=λb o z=>ze _ (ze _ z);have f:((h.push { cls:=.type "tuple",data:=.seq AT.toArray }).push (Ut C h.objs.size)).get? (h.objs.size+1)=Z (Ut C h.objs.size):=by heap_get
 have v:(Value.ref C::j).contains (.ref C)=true:=by simp
 unfold isInstance
 repeat (first|with_reducible refine K2 f ?_|(with_reducible refine wpAny_isSubtype_exc (kp _ _ a) ?_;rw[v])|wp_step)
 show A8 _ _ (typeLookup (.ref C) _) _ _ _;refine(looks_findIn (X.keeps kp) hi).at ?_;refine qa (zb ?_);unfold bindSpecial;obtain⟨e,m,s⟩:∃e,h.get? fI=Z e/\e.cls=.type "function":=by
  have this:(K.lookup fI).map (·.cls)=Z (.type "function"):=beq_iff_eq.mp l;obtain⟨o,n,u⟩:=dv.mp this;exact⟨o,X _ _ n,u⟩
 refine zb (QY (T :="function") ⟨_,kp _ _ m,s⟩ ?_);rw[zk ()];refine zd (zb (ZA (i _ kp f) (λr s' c=>?_) λ_ _ x=>x));obtain⟨rfl,p⟩:=c
 wp_walk
 exact p
end
abbrev W3(C t:A2)(dx:S A2):AF:={ cls:=.ref C,dict:=dx,data:=.fields #[.ref t,.none,.none,.none,.bool false,.none] }
section
variable{g:Array GenState}{d:Drawn}{t:Nat}{e:A2}{AT:O A1}{B:String}
theorem Sr{Q:B8}(F:ExcBaseFacts B newId initId bmB)(X:K.In h)(hx:ZF K C fI bmB newId=true)(e:AT.length<=AB)
  (f:∀h',(∀b o,h.get? b=Z o->h'.get? b=Z o)->h'.get? (h.objs.size+1)=Z (W3 C h.objs.size U) →
   A8 (A9 prog w) (A.under (.builtin "type.__call__" ⟨.ref C::AT,[]⟩)) (call (.ref fI) (.ref (h.objs.size+1)::AT)) (λr s'=>r=.none/\Q (.ref (h.objs.size+1)) s') E ⟨h',g,d,t,os⟩):
  A8 (A9 prog w) A (call (.ref C) AT) Q E ⟨h,g,d,t,os⟩:=by
 obtain⟨nm,q,N,bs,j,x,n,sub,u,v,y,z,m,s,p,i,a,T⟩:=(KN X hx).1;have f1:=tc_lookup;have f2:=tc_bind (.ref C);have l:(⟨h,g,d,t,os⟩:A3).TypeIs (.ref C) "type":=⟨_,a,rfl⟩;refine ye (codeAny_of_tree ?_);show A8 _ _ (callAny (.ref C) _) _ _ _
 repeat (any_goals (first|assumption|with_reducible refine K2 a ?_|wp_step))
 refine⟨rfl,?_⟩;exact codeAny_call_builtin_at (Code.quiet_builtin _ (by decide +kernel)) entry_typeCall (wpAny_check_type_call_sub a (iN F X hx e λh' k c=>f h' k c))
theorem OK{x:Sem A1}{Q:Flow->A3->Prop}(j:bmB.contains (.type "BaseException")=true)(m:A.handled=U)(f:A8 M A x (λv a=>∃e t dx,v=.ref e/\IL a.heap C bmB newId/\a.heap.get? e=Z (W3 C t dx)/\E (.ref e) a) E s):A8 M A (raiseStmt env (Z x) U) Q E s:=by
 unfold raiseStmt;refine zb (ZA f (λv a h1=>?_) λ_ _ z=>z);obtain⟨e,t,dx,rfl,⟨nm,q,N,bs,h,n,o,sub,F,G,u,w,B,D,p,y,b,T⟩,c,i⟩:=h1;obtain⟨hp,g,d,tk,os⟩:=a;dsimp only at b c;have l:(Value.ref C::h).contains (.type "BaseException")=true:=by rw[nh,T.hasType j,Bool.or_true]
 repeat (first|with_reducible refine K2 c ?_|with_reducible refine K2 b ?_|(with_reducible refine wpAny_isSubtype_exc b ?_;rw[l])|wp_step)
 exact wpAny_raiseNew_none m i
theorem VU{Q:B8}{i:A2}(F:ExcBaseFacts B newId initId bmB)(x:IL h C bmB newId)(he:h.get? e=Z (W3 C i dx))(n:AT.length<=AB)(c:∀h' t1,(∀b o,b≠e->h.get? b=Z o->h'.get? b=Z o)->h'.get? e=Z (W3 C t1 dx)->h.objs.size<=t1->h'.objs.size=h.objs.size+1->Q .none ⟨h',g,d,t,os⟩):
  A8 (A9 prog w) A (call (.builtin initId) (.ref e::AT)) Q E ⟨h,g,d,t,os⟩:=by
 obtain⟨nm,q,N,bs,G,D,p,sub,v,y,j,H,m,s,u,l,a,T⟩:=x;refine ye (yo F.init.plain F.initEntry (wpAny_check_init_subT F T a he X9 ?_))
 wp_walk
 refine c _ h.objs.size (λb o f z=>?_) ?_ (zl _) ?_
 ·rw[Q3 _ _ (ja f)];exact ze _ z
 ·rw[QN _ (ze _ he) rfl];rfl
 ·rw[my,qB]
end
abbrev EW:O A1:=[.type "ValueError", .type "Exception", .type "BaseException", .type "object"]
theorem ay(a:A1):refuseLoop a "__setattr__" EW=pure gl:=by kernel_rfl
def rz:O A1->Bool
 |.ref _::r=>rz r
 |l=>l==EW
theorem Er(d:A1):∀{l:O A1},rz l=true->refuseLoop d "__setattr__" l=pure gl/\l.contains (.type "object")=true/\l.isEmpty=false
 |.ref c::r,e=>by
  have e':rz r=true:=by unfold rz at e;exact e
  obtain⟨a,b,_⟩:=Er d (l:=r) e';exact⟨by rw[refuseLoop_ref];exact a,by rw[nh,b,Bool.or_true],rfl⟩
 |[],e=>by cases e
 |.none::r,e=>by cases e
 |.bool _::r,e=>by cases e
 |.int _ _::r,e=>by cases e
 |.str _ _::r,e=>by cases e
 |.bytes _ _::r,e=>by cases e
 |.float _ _::r,e=>by cases e
 |.builtin _::r,e=>by cases e
 |.type n::r,e=>by
  have e':(.type n::r)=EW:=by unfold rz at e;exact beq_iff_eq.mp e
  rw[e'];exact⟨ay d,by decide,rfl⟩
def C3(K:B5)(C:A2)(name:AK):Bool:=
 (clsIn K C).any (λa=>a.hasDict&&rz a.mro)&&(findIn K (.ref C) "__setattr__"==Z (Z (.builtin "object.__setattr__"))&&findIn K (.ref C) name==Z U)
section
variable{g:Array GenState}{d:Drawn}{t:Nat}{e:A2}
theorem a9{i:A2}{v:A1}(X:K.In h)(hs:C3 K C name=true)(he:h.get? e=Z (W3 C i U))(D:∀h' tk,(∀b o,b≠e->h.get? b=Z o->h'.get? b=Z o)->h'.get? e=Z (W3 C i (Z h.objs.size))->h'.Ns1 h.objs.size (λy=>if y=name then Z v else U)->Q gl ⟨h',g,d,tk,os⟩):
  A8 (A9 prog w) A (setAttr (.ref e) name v) Q E ⟨h,g,d,t,os⟩:=by
 unfold C3 at hs;rw[ZT,ZT,beq_iff_eq,beq_iff_eq]at hs;obtain⟨h1,h2,L⟩:=hs;obtain⟨a,j,c⟩:∃a,clsIn K C=Z a/\(a.hasDict&&rz a.mro)=true:=by
  cases q:clsIn K C with
  |none=>rw[q]at h1;cases h1
  |some a=>rw[q]at h1;exact⟨a,rfl,h1⟩
 rw[ZT]at c;obtain⟨J,c⟩:=c;obtain⟨p1,p2,p3⟩:=Er (.ref e) c;have I:InstAt h e (W3 C i U) C U:=⟨he,rfl,rfl,trivial⟩;refine PySem.W.set_plain (s:=⟨h,g,d,t,os⟩) X I h2 ?_;have f:=PySem.F.store_object;have sub:PySem.W.Looks (A9 prog w) h (isInstance (.ref e) (.type "object")) true:=I.type.andThen (looks_mroIn X (by unfold mroIn;rw[j,JJ,zw (by rw[p3];decide),p2]));refine yo f.slot.plain f.entry (@check_slot (A9 prog w) _ _ ⟨h,g,d,t+1,os⟩ "object.__setattr__" "object" "__setattr__" (.ref e) [.str name t,v] [] _ f.kind f.split sub (f.args (.ref e) (.str name t) v) ?_);have H:PySem.W.Looks (A9 prog w) h (mroOf (.ref C)) a.mro:=(looks_clsIn X j).andThen .now;rw[PySem.W.osa_eq,refuse_eq];refine zb (zb (I.type.at (zb (H.at ?_))));rw[p1];refine zd (zb (I.type.at (zb ((looks_findIn X L).at (zb (zd ?_))))));refine zb (zd (zb ?_));show A8 _ _ (instanceDict e true) _ _ _;unfold instanceDict;refine zb (wpAny_loadPart he (zb ((looks_clsIn X j).at ?_)));rw[J];show A8 _ _ (alloc { cls:=.type "dict",data:=.dict #[] } >>= λdx=>update e (λo=>{ o with dict:=Z dx }) >>= λ_=>dictMade (.ref C) e dx) _ _ _;have hp:∀b o,h.get? b=Z o->(h.push { cls:=.type "dict",data:=.dict #[] }).get? b=Z o:=λb o z=>ze _ z;have m:h.objs.size≠e:=JO (zz he);have B:((h.push { cls:=.type "dict",data:=.dict #[] }).update e (λo=>{ o with dict:=Z h.objs.size })).get? h.objs.size=Z { cls:=.type "dict",data:=.dict #[] }:=by
  rw[Q3 _ _ (ja m)];exact zt _ rfl
 refine zb (wpAny_alloc (zb (wpAny_update (hp _ _ he) (zd ?_))));show A8 _ _ (Builtin.ObjectAttr.storeInDict h.objs.size (.str name t) name v) _ _ _;unfold Builtin.ObjectAttr.storeInDict;refine zb (zd (zb ?_));have M:((h.push { cls:=.type "dict",data:=.dict #[] }).update e (λo=>{ o with dict:=Z h.objs.size })).Ns1 h.objs.size (λ_=>U):=
  .of_empty ⟨_,#[],0,B,rfl,λx z=>by simp at z,λ_=>X9⟩
 refine wpAny_nsSet1 M λh' n l=>?_;obtain⟨o,es,ep,p,u,G⟩:=n.count (ns:=[name]) (Within.cons name v Within.nil);refine zb (wpAny_lookBehind p (by rw[u];exact pastItsLine_dict (Zl G (Nat.le_add_left _ _))) (zd ?_));refine D h' _ (λb o c z=>?_) ?_ n
 ·rw[l.2 b (zS (zz z)),Q3 _ _ (ja c)];exact hp _ _ z
 ·rw[l.2 e (ja m),QN _ (hp _ _ he) rfl]
end
def uN(K:B5)(C:A2):Bool:=
 (clsIn K C).any (λa=>a.hasDict&&(!a.mro.isEmpty&&(a.mro.contains (.type "BaseException")&&a.mro.contains (.type "object"))))&&(findIn K (.ref C) "__getattribute__"==Z (Z (.builtin "BaseException.__getattribute__")) &&
  (findIn K (.ref C) "__getattr__"==Z U&&(findIn K (.ref C) "__class__"==Z (Z (.builtin "object.__class__")) &&
  (specialIn K (.builtin "object.__class__") "__get__"==Z (Z (.builtin "getset_descriptor.__get__"))&&takesIn K (.builtin "object.__class__")==Z true))))
section
variable{g:Array GenState}{d:Drawn}{t:Nat}{e dx:A2}{v:A1}{vs:Array A1}{sl:Array (S A1)}{m:AK->S A1}
theorem Wm{es:Array DictEntry}(b:o.data=.dict es ep)(a:nsFind es name=Z v):lookIn name o=Z (Z v):=by
 unfold lookIn;rw[b];dsimp only;unfold nsFind findBy at a;rw[<-ky]at a;obtain⟨en,h1,h2⟩:=dv.mp a;rw[h1];dsimp only;rw[h2]
structure FY (K:B5) (C:Addr) (cd:ClassData):Prop where
 cls:clsIn K C=some cd
 dct:cd.hasDict=true
 ne:cd.mro.isEmpty=false
 be:cd.mro.contains (.type "BaseException")=true
 ob:cd.mro.contains (.type "object")=true
 ga:findIn K (.ref C) "__getattribute__"=some (some (.builtin "BaseException.__getattribute__"))
 hk:findIn K (.ref C) "__getattr__"=some none
 cl:findIn K (.ref C) "__class__"=some (some (.builtin "object.__class__"))
 gt:specialIn K (.builtin "object.__class__") "__get__"=some (some (.builtin "getset_descriptor.__get__"))
 tk:takesIn K (.builtin "object.__class__")=some true
theorem Ce(hs:uN K C=true):∃a,FY K C a:=by
 unfold uN at hs;simp only[ZT,beq_iff_eq]at hs;obtain⟨h1,h2,e,b,d,c⟩:=hs;cases q:clsIn K C with
 |none=>rw[q]at h1;cases h1
 |some a=>
  rw[q]at h1;have h1:(a.hasDict&&(!a.mro.isEmpty&&(a.mro.contains (.type "BaseException")&&a.mro.contains (.type "object"))))=true:=h1;simp only[ZT,jb]at h1;exact⟨a,⟨q,h1.1,h1.2.1,h1.2.2.1,h1.2.2.2,h2,e,b,d,c⟩⟩
theorem FY.sub{a:ClassData}(G:FY K C a):mroIn K C (.type "object")=Z true/\mroIn K C (.type "BaseException")=Z true:=by
 unfold mroIn;rw[G.cls,JJ,JJ,zw (by rw[G.ne];decide),zw (by rw[G.ne];decide),G.ob,G.be];exact⟨rfl,rfl⟩
theorem ZG{j:ClassData}{Q:B8}{i n:Bool}{dx:S A2}{od:S AF}{tk:Tok}{fo:Builtin.ObjectAttr.Found}(X:K.In h)(G:FY K C j)(I:InstAt h e ⟨.ref C,dx,.fields vs,sl⟩ C od)
  (q:findObj K C od name=Z fo)
  (c:A8 (A9 prog w) A.in1 (match fo with|.value v=>ret v|.bind g a=>Builtin.ObjectAttr.bindTo g a (.ref e) (.ref C)|.missing=>unsupported "") (λb s'=>match b with|.done (.ret v)=>A8 (A9 prog w) A (handedOut v) Q E s'|_=>False) (λ_ _=>False) ⟨h,g,d,t,os⟩)
  (l:fo≠.missing):A8 (A9 prog w) A (getAttrBy (.ref e) (.str name tk) n i) Q E ⟨h,g,d,t,os⟩:=by
 have m:=looks_findIn (M:=A9 prog w) X G.ga;have s:PySem.W.Looks (A9 prog w) h (hookBefore (.ref C)) U:=PySem.W.looks_hook X (by rw[zk (by rfl)];exact G.hk);have sub:PySem.W.Looks (A9 prog w) h (isInstance (.ref e) (.type "BaseException")) true:=I.type.andThen (looks_mroIn X G.sub.2);unfold getAttrBy;refine qa (zb (I.type.at (zb (m.at ?_))));have o:(Value.builtin "BaseException.__getattribute__"==Value.builtin "object.__getattribute__")=false:=by decide +kernel
 dsimp only;rw[zw (by rw[o,Ya];decide)];unfold getAttrByItsOwn;refine zb (s.at (zb (wpAny_attempt (qa ?_))));unfold callGetattribute;rw[zw (by cases i<;>simp[onTheHeap])];unfold boundAndCalled;have f:=PySem.F.attrBase_ValueError.ga;rw[f.bind];refine zb (zd ?_);refine ye (yo f.plain PySem.F.entry_bexc_ga (@check_slot (A9 prog w) _ _ ⟨h,g,d,t,os⟩ "BaseException.__getattribute__" "BaseException" "__getattribute__" (.ref e) [.str name tk] [] _ (by decide +kernel) (by decide +kernel) sub (PySem.F.args_bexc_ga (.ref e) (.str name tk)) ?_));have p:=PySem.W.looks_find (M:=A9 prog w) X I q;refine zb (zd (zb (zd (zb (I.type.at (zb (p.at ?_)))))));cases fo with
 |missing=>exact absurd X9 l
 |value v=>
  refine ZA c (λb s' z=>?_) (λ_ _ z=>False.elim z);rcases b with (_|_|_|_)|_<;>first|exact z|exact z.elim
 |bind g a=>
  refine ZA c (λb s' z=>?_) (λ_ _ z=>False.elim z);rcases b with (_|_|_|_)|_<;>first|exact z|exact z.elim
theorem eP{Q:B8}{j:Bool}(X:K.In h)(hs:uN K C=true)(i:findIn K (.ref C) name=Z U)(he:h.get? e=Z ⟨.ref C,Z dx,.fields vs,sl⟩)(c:h.Ns1 dx m)(l:m name=Z v)(n:handedIn v=true)
  (f:Q v ⟨h,g,d,t+1,os⟩):A8 (A9 prog w) A (getAttr (.ref e) name j) Q E ⟨h,g,d,t,os⟩:=by
 obtain⟨s,G⟩:=Ce hs;obtain⟨a,es,ep,b,p,hk,u,o⟩:=c;have I:InstAt h e ⟨.ref C,Z dx,.fields vs,sl⟩ C (Z a):=⟨he,rfl,rfl,b⟩;have q:findObj K C (Z a) name=Z (.value v):=by
  unfold findObj PySem.W.ownOf;rw[G.cls,i];simp only[JJ,G.dct,QU,Wm p ((o name).trans l)]
 unfold getAttr;refine zb (wpAny_mkText (ZG X G I q (zd ?_) (by intro z;cases z)));show A8 _ _ (handedOut v) _ _ _;rw[PySem.W.handedOut_of n];exact zd f
def LP(e C:A2)(h:A7):Prop:=∃dx vs sl a,InstAt h e ⟨.ref C,dx,.fields vs,sl⟩ C a
theorem fq(hs:uN K C=true):PySem.W.KitX K (.ref e) (.ref C) (LP e C) where
 ty:=λM h X ⟨dx,vs,sl,od,I⟩=>I.type
 it:=λM h X _=>by
  obtain⟨c,G⟩:=Ce hs;have a:=G.cls;unfold clsIn at a;split at a
  ·rename_i c' f m i b;intro o Q' u s' k q;unfold isType loadHead;exact zb (wpAny_loadPart (k _ _ (X _ _ b)) (zd q))
  ·cases a
 ne:=λh tp v AS n sl X j=>by
  obtain⟨c,G⟩:=Ce hs;have a:=G.cls;refine Bool.eq_false_iff.mpr λq=>?_;have e:C=tp:=Value.ref.inj (beq_iff_eq.mp q);subst e;unfold clsIn at a;split at a
  ·rename_i c' f m i b;have z:=(X _ _ b).symm.trans j;cases z
  ·cases a
 ca:=λ{prog w A E Q s} X p k=>by
  obtain⟨c,G⟩:=Ce hs;obtain⟨dx,vs,sl,od,I⟩:=p;obtain⟨h,g,d,t,os⟩:=s;have l:findObj K C od "__class__"=Z (.bind (.builtin "getset_descriptor.__get__") (.builtin "object.__class__")):=by
   unfold findObj;rw[G.cls,JJ,G.cl,JJ];simp[G.gt,G.tk]
  unfold getAttr? getAttrBy?;refine zb (wpAny_mkText (zb (wpAny_attempt (ZG X G I l ?_ (by intro z;cases z)))));refine zb (qa (ye (PySem.W.class_get (s:=⟨h,g,d,t+1,os⟩) (od:=od) X I G.sub.1 (zd ?_))));exact PySem.W.handed_on X9 (zd k)
end
def Jc(e C:A2)(dx:S A2):HO:=.ext λh=>∃t,h.get? e=Z (W3 C t dx)
theorem Rw{e t:A2}(q:h.get? e=Z (W3 C t dx)):eV P w H h e (Jc e C dx):=⟨⟨t,q⟩,⟨_,q⟩,λ_ _ ⟨t,p⟩ k=>⟨t,k _ p⟩⟩
section
variable{o value:Expr}{tv:TE}{f:AK}{pos' p:Pos}{B:String}{t:TA}
theorem Rx(I:AV X AO σ H s)(e:H a=Z (Jc a C dx)):∃t,s.heap.get? a=Z (W3 C t dx):=(I.hok a _ e).1
theorem AV.acL{h':A7}(I:AV X AO σ H s)(ea:H a=Z (Jc a C dx))(k:∀b u,b≠a->s.heap.get? b=Z u->h'.get? b=Z u){t1:A2}(he:h'.get? a=Z (W3 C t1 dx)):
  AV X AO σ H { s with heap:=h',toks:=tk }:=by
 have z:=I.write (t':=tk) (x:=a) (e:=a) (o:=Jc a C dx) (by rw[ea];trivial) (.inl X9) k ⟨_,he⟩ (Rw he);have q:B1 H a (Jc a C dx)=H:=by
  funext b;by_cases c:b=a
  ·subst c;rw[aF,ea]
  ·rw[aD c]
 rwa [q]at z
theorem AV.attr{h':A7}(I:AV X AO σ H s)(ea:H a=Z (Jc a C U))(x:At v u)(k:∀b o,b≠a->s.heap.get? b=Z o->h'.get? b=Z o){t1:A2}(he:h'.get? a=Z (W3 C t1 (Z s.heap.objs.size)))(B:h'.Ns1 s.heap.objs.size (λy=>if y=f then Z u else U)):
  AV X AO σ (B1 (B1 H s.heap.objs.size (.xd [(f,v)])) a (Jc a C (Z s.heap.objs.size))) { s with heap:=h',toks:=tk }:=by
 have A:H s.heap.objs.size=U:=I.hok.fresh (zl _);have t:a<s.heap.objs.size:=I.hok.lt ea;have D:s.heap.objs.size≠a:=JO t;have lt:∀b u,s.heap.get? b=Z u->b≠s.heap.objs.size:=λb u q=>zS (zz q);have e:∀b,b≠a->b≠s.heap.objs.size->B1 (B1 H s.heap.objs.size (.xd [(f,v)])) a (Jc a C (Z s.heap.objs.size)) b=H b:=λb h1 h2=>by rw[aD h1,aD h2]
 have d:∀b w,H b=Z w->(∀m,w≠.ext m)->b≠a:=λb w q h z=>by subst z;rw[ea]at q;cases q;exact h _ rfl
 have g:∀b w,H b=Z w->b≠s.heap.objs.size:=λb w q z=>by rw[z,A]at q;cases q
 refine I.un (t':=tk) ⟨λb u q n _ _=>k b u (λz=>by subst z;rw[ea]at n;cases n) q,λb u q n _ _=>⟨u.slots,k b u (λz=>by subst z;rw[ea]at n;cases n) q⟩,
  λb u q n _=>?_,λb u q _=>?_,λb xs q=>?_,λb u xs q=>?_,λb ps q=>⟨#[],?_⟩⟩ (λb w q=>?_)
 ·rw[e b (λz=>by subst z;rw[ea]at n;cases n) (lt b u q)];exact n
 ·by_cases i:b=a
  ·subst i;exact⟨_,he⟩
  ·exact⟨u,k b u i q⟩
 ·rw[e b (d b _ q λ_ z=>nomatch z) (g b _ q)];exact q
 ·rw[e b (d b _ q λ_ z=>nomatch z) (g b _ q)];exact q
 ·rw[e b (d b _ q λ_ z=>nomatch z) (g b _ q),q];simp
 ·by_cases i:b=a
  ·subst i;rw[aF]at q;cases q;exact Rw he
  ·rw[aD i]at q;by_cases p:b=s.heap.objs.size
   ·subst p;rw[aF]at q;cases q;refine⟨_,B,λy=>?_⟩;by_cases l:y=f
    ·subst l;rw[zk rfl];simp only[nK,beq_self_eq_true];exact x
    ·rw[zw l];have:(y==f)=false:=beq_eq_false_iff_ne.mpr l;simp only[nK,this];trivial
   ·rw[aD p]at q;refine(I.hok b w q).stay (λc u j z=>k c u ?_ z) (λc z=>?_) (λc xs z=>?_) λc o' m z=>?_
    ·rcases j with j|j
     ·rw[j];exact i
     ·exact d c _ j λ_ z=>nomatch z
    ·rw[e c (d c _ z λ_ z=>nomatch z) (g c _ z)];exact z
    ·rw[e c (d c _ z λ_ z=>nomatch z) (g c _ z)];exact z
    ·rw[e c (d c _ z λ_ z=>nomatch z) (g c _ z)];exact z
def XZ(C:A2)(ta tv:TE)(f:AK):TS:=λD σ H=>tv σ H λy H1=>ta σ H1 λx H2=>∃a,x=.ref a/\H2 a=Z (Jc a C U)/\∀dx,H2 dx=U->dx≠a->D.nx σ (B1 (B1 H2 dx (.xd [(f,y)])) a (Jc a C (Z dx)))
theorem RS(j:C3 X.K C f=true)(i:PE X o ta)(l:PE X value tv)(hs:swapsWith value (Z (.Attribute o f pos')) pos.line X.env=pure false:=by rfl):PS X (.Assign [.Attribute o f pos'] value pos) (XZ C ta tv f):=by
 intro AO s σ H D I h;refine plainObj_wpAny_Assign_Attribute (gK (l AO s σ H _ I h) λu s1 ⟨y,H1,I1,ry,q⟩=>gK (i AO s1 σ H1 _ I1 q) λov s2 ⟨x,H2,I2,rx,a,ex,ea,q2⟩=>?_) hs;subst ex;obtain rfl:ov=Value.ref a:=rx;obtain⟨t,c⟩:=Rx I2 ea;have m:H2 s2.heap.objs.size=U:=I2.hok.fresh (zl _);obtain⟨p,g,d,tk,os⟩:=s2;refine a9 I2.Gk j c λh' e k b n=>?_;exact⟨σ,_,AV.attr (tk:=e) I2 ea ry k b n,q2 _ m (JO (I2.hok.lt ea))⟩
def VQ(C:A2)(t:TA):TE:=λσ H Q=>t σ H λvs H1=>∃a v,vs=[.ref a,v]/\H1 a=Z (Jc a C U)/\Q .non H1
def Uu(K:B5)(FE:A2)(initId:String):Prop:=
 specialIn K (.ref FE) "__getattribute__"=Z (Z (.builtin "type.__getattribute__"))/\PySem.W.readsIn K FE (.type "type")=true/\PySem.W.findCls K (.ref FE) (.type "type") "__init__"=Z (.val (.builtin initId))
theorem ZJ{pl:Sem Bool}{FE:A2}(F:ExcBaseFacts B newId initId bmB)(hx:ZF X.K C fI bmB newId=true)(w:Gl X x)(o:X.mg x=Z (.ref FE))(c:Uu X.K FE initId)(j:handedIn (.builtin initId)=true)(l:PA X (e::es) t)(m:bv x:=by decide)(he:AA (e::es) X.env=(false,eval e X.env)::AA es X.env:=by rfl)(n:(AE pos (AA es X.env)).any (·.1)=false:=by rfl)(i:eval (.Call (.Attribute (.Name x p) "__init__" apos) (e::es) [] pos) X.env=(do
   let ov <-eval (.Name x p) X.env
   standAt apos.atName
   let (f,first) <-holding [ov] (getMethod ov "__init__" pl)
   callWith pos f first (AE pos (AA (e::es) X.env)) (backToKw pos (keywordEach [] X.env))):=by rfl):
  PE X (.Call (.Attribute (.Name x p) "__init__" apos) (e::es) [] pos) (VQ C t):=by
 intro AO s σ H Q I h;refine PySem.W.methodCall_KW (pl:=pl) (xM I w o ?_ m) i;refine PySem.W.method_cls I.Gk c.1 (PySem.W.cls_value I.Gk c.2.1 c.2.2 j ?_);refine PyProof.Rows.callWith_builtin1 (gK (l pos AO _ σ H _ (I.tok (s.toks+1)) h) λus s1 ⟨vs,H1,I1,b,a,v,ev,ea,q⟩=>?_) he n;subst ev;cases b with
 |cons u b=>
  cases b with
  |cons A b=>
   cases b;obtain rfl:=u;obtain⟨z,h0⟩:=Rx I1 ea;have x1:=(KN I1.Gk hx).1;obtain⟨y,g,d,tk,os⟩:=s1;refine VU F x1 h0 (show 1<=AB by decide +kernel) λh' t1 k he _ _=>?_;exact⟨.non,H1,AV.acL (tk:=tk) I1 ea k he,rfl,q⟩
end
def o8(H:Hp)(a:A2):Hp:=λb=>if b=a then U else H b
section
variable{f:AK}{p:Pos}{B:String}
theorem AV.acM{d:A7->Prop}(I:AV X AO σ H s)(ea:H a=Z (.ext d)):AV X [] σ (o8 H a) s:=by
 have dn:∀b,H b=U->o8 H a b=U:=λb q=>by unfold o8;split<;>first|rfl|exact q
 have ds:∀b u,H b=Z u->(∀f,u≠.ext f)->o8 H a b=Z u:=λb u q n=>by
  unfold o8;rw[zw (λz=>by subst z;rw[ea]at q;cases q;exact n _ X9)];exact q
 refine⟨I.ok,I.os,I.bare,⟨I.base.keep,I.base.slot,λb o e n x=>dn b (I.base.free b o e n x),I.base.there,λb xs q=>ds b _ (I.base.tups b xs q) (λ_ z=>nomatch z),λb o u q=>ds b _ (I.base.oM b o u q) (λ_ z=>nomatch z),λb ps q=>?_⟩,
  I.loc,I.cell,dn _ I.free,λy c q=>dn _ (I.ju y c q),λp hp=>?_,λb u q=>?_,I.len⟩
 ·obtain⟨more,z⟩:=I.base.sX b ps q;exact⟨more,ds b _ z λ_ z=>nomatch z⟩
 ·obtain⟨z1,z2,z3⟩:=I.pin p (by rcases List.mem_append.mp hp with z|z;exact Q2 _ z;cases z);exact⟨z1,dn _ z2,z3⟩
 ·have g:H b=Z u:=by
   unfold o8 at q;split at q
   ·cases q
   ·exact q
  exact(I.hok b u g).stay (λ_ _ _ z=>z) (λc z=>ds c _ z λ_ z=>nomatch z) (λc xs z=>ds c _ z λ_ z=>nomatch z) λc o' d z=>ds c _ z λ_ z=>nomatch z
def F8(C:A2)(f:AK)(ok:V->Prop):Sp:=λvs H Q _=>∃a v,vs=[.ref a,v]/\ok v/\H a=Z (Jc a C U)/\∀H1 dx,AW H H1->H1 dx=U->dx≠a->Q .non (B1 (B1 H1 dx (.xd [(f,v)])) a (Jc a C (Z dx)))
def a8(C:A2)(f:AK)(ok:V->Prop)(E:XK)(t:TA):TS:=λ_ σ H=>t σ H λvs H1=>∃v,vs=[v]/\ok v/\∀H2 dx,AW H1 H2->H2 dx=U->E (.ref C) (Z dx) (B1 H2 dx (.xd [(f,v)]))
theorem cE{k:Nat}{E:XK}{t:TA}{ok:V->Prop}(Fe:ExcBaseFacts B newId initId bmB)(hx:ZF X.K C fI bmB newId=true)(b5:bmB.contains (.type "BaseException")=true)(hk:keepIn X.K (.ref C)=true)(F:gW X.prog X.w X.K X.mg X.base zZ k fI fd ps (F8 C f ok))(i:B9 X.K fd ps [])(Q:iu (k+1) X.A)(hg:Gl X x)(hm:X.mg x=Z (.ref C))(Og:∀e s,RX X E e s->X.xe e s)(ha:PA X (e::es) t)(a5:bv x:=by decide)(hs:AA (e::es) X.env=(false,eval e X.env)::AA es X.env:=by rfl)(b4:(AE cpos (AA es X.env)).any (·.1)=false:=by rfl):
  PS X (.Raise (Z (.Call (.Name x p) (e::es) [] cpos)) U pos) (a8 C f ok E t):=by
 intro AO s σ H D I h;rw[arm_exec_Raise];refine zb (jI (OK (C:=C) (bmB:=bmB) (newId:=newId) b5 Q.hd (zb (ZA ?_ (λv s3 h3=>zb (jI (zd h3))) λ_ _ x=>x))));refine KP (xM I hg hm ?_ a5);refine callWith_K (h₀:=X.base) I.ok.mod.kin hk (gK (ha cpos AO s σ H _ I h) λus s1 ⟨vs,H1,I1,r,v,ev,hok,q⟩=>⟨I1.Gk,?_⟩) hs b4;subst ev;have W:us.length=1:=r.length.symm;have hf:H1 (s1.heap.objs.size+1)=U:=I1.hok.fresh (kz _);have M:yK X H1 (s1.heap.objs.size+1):=yK.new (I1.xK (W9:=[]) λ_ z=>nomatch z) (kz _);obtain⟨a,g,d,tk,os⟩:=s1;refine Sr Fe I1.Gk hx (by rw[k7,W];decide +kernel) λh' k' he=>?_;have L:AV X AO σ (B1 H1 (a.objs.size+1) (Jc (a.objs.size+1) C U)) ⟨h',g,d,tk,os⟩:=I1.laid (t':=tk) k' (kz _) (Rw he);have r2:AY [V.ref (a.objs.size+1),v] (Value.ref (a.objs.size+1)::us):=.cons X9 r;have a3:ps.length=2:=(F.len [V.ref (a.objs.size+1),v] (B1 H1 (a.objs.size+1) (Jc (a.objs.size+1) C U)) (λ_ _=>True) E0 ⟨_,_,rfl,hok,aF,λ_ _ _ _ _=>trivial⟩).symm;rw[k7];refine ye (KW (F.run _ X.stack _ _ ⟨Value.ref (a.objs.size+1)::us,[]⟩ (Value.ref (a.objs.size+1)::us) _ (λy Y=>y=.non/\∃c dx,AW (B1 H1 (a.objs.size+1) (Jc (a.objs.size+1) C U)) c/\c dx=U/\dx≠a.objs.size+1/\Y=B1 (B1 c dx (.xd [(f,v)])) (a.objs.size+1) (Jc (a.objs.size+1) C (Z dx))) E0 (Q.make C us [])
  (L.env0.make C us []) (by have:=i ⟨h',g,d,tk,os⟩ (Value.ref (a.objs.size+1)::us) L.Gk (by rw[Qb,ZZ,W,a3]);rwa [Qb]at this) r2
  ⟨_,_,rfl,hok,aF,λc dx n P l=>⟨rfl,c,dx,n,P,l,rfl⟩⟩) λr s' j=>?_)
 cases r with
 |error e=>exact False.elim j
 |ok fl=>
  cases fl with
  |next=>exact False.elim j
  |brk=>exact False.elim j
  |cont=>exact False.elim j
  |ret u=>
   obtain⟨y,Y,N,ry,ey,c,dx,n,P,l,G⟩:=L.after j;subst ey G;obtain rfl:u=Value.none:=ry;refine⟨rfl,a.objs.size+1,?_⟩;have ea:(B1 (B1 c dx (.xd [(f,v)])) (a.objs.size+1) (Jc (a.objs.size+1) C (Z dx))) (a.objs.size+1)=Z (Jc (a.objs.size+1) C (Z dx)):=aF;obtain⟨t1,h1⟩:=Rx N ea;have G:o8 (B1 (B1 c dx (.xd [(f,v)])) (a.objs.size+1) (Jc (a.objs.size+1) C (Z dx))) (a.objs.size+1)=B1 (o8 c (a.objs.size+1)) dx (.xd [(f,v)]):=by
    funext b;unfold o8;by_cases i:b=a.objs.size+1
    ·rw[zk i,i,aD (ja l),zk rfl]
    ·rw[zw i,aD i];by_cases m:b=dx
     ·rw[m,aF,aF]
     ·rw[aD m,aD m,zw i]
   have J:=AV.acM N ea;rw[G]at J;have sm:AW H1 (o8 c (a.objs.size+1)):=λb o eb=>by
    have i:b≠a.objs.size+1:=λz=>by rw[z,hf]at eb;cases eb
    unfold o8;rw[zw i];exact n b o (by rw[aD i];exact eb)
   have b0:o8 c (a.objs.size+1) dx=U:=by unfold o8;rw[zw l];exact P
   refine⟨t1,Z dx,rfl,(KN N.Gk hx).1,h1,Og _ _ ⟨a.objs.size+1,.ref C,Z dx,σ,_,rfl,J,⟨by rw[aD (ja l)];unfold o8;rw[zk rfl],M.ab,M.nl,M.nc⟩,.inl ⟨_,_,h1,⟨rfl,rfl⟩⟩,q _ _ sm b0⟩⟩
end
theorem Oh{name x:AK}(hx:x≠name):∀(l:O DictEntry) (i:Nat),l.findIdx? (λe=>e.key.isStr name)=Z i->(l.eraseIdx i).find? (λe=>e.key.isStr x)=l.find? (λe=>e.key.isStr x)
 |[],i,hi=>by simp at hi
 |e::l,i,hi=>by
  rw[nf]at hi;by_cases he:e.key.isStr name=true
  ·simp only[he,QU,Option.some.injEq]at hi;subst hi;have:e.key.isStr x=false:=by
    cases b:e.key.isStr x
    ·rfl
    ·exact absurd (Value.isStr_inj _ _ _ b he) hx
   rw[List.eraseIdx_zero,List.tail_cons,JA,this]
  ·have c:e.key.isStr name=false:=by simpa using he
   simp only[c,zv,qc]at hi;cases a:l.findIdx? (λe=>e.key.isStr name)with
   |none=>simp[a]at hi
   |some j=>
    simp only[a,hG,Option.some.injEq]at hi;subst hi;rw[kQ,JA,JA];cases e.key.isStr x with
    |false=>exact Oh hx l j a
    |true=>rfl
theorem af{m:AK->S A1}{v:A1}{Q:Bool->A3->Prop}(y:s.heap.Ns a m)(z:m name=Z v)(w:∀h' c,h'.Ns a c->(∀x,x≠name->c x=m x)->Heap.SameBut a s.heap h'->Q true { s with heap:=h' }):A8 M A (nsDel a name) Q E s:=by
 obtain⟨o,es,ep,b,g,hk,f⟩:=id y;have C:es.any (·.refKey)=false:=by
  rw[Array.any_eq_false'];intro e q;obtain⟨n,t,h⟩:=hk e q;simp[DictEntry.refKey,h]
 have j:es.any (·.key.isStr name)=true:=by
  have h1:=(f name).trans z;unfold nsFind findBy at h1;obtain⟨en,h2,_⟩:=dv.mp h1;rw[Array.any_eq_true'];exact⟨en,Array.mem_of_find?_eq_some h2,by have:=Array.find?_some h2;exact this⟩
 have p:nsHas name o=pure true:=by
  rw[nsHas_eq];unfold nsHasByArray;rw[g];show(if(es.any λx=>x.key.isStr name)=true then _ else _)=_;rw[zk j]
 unfold nsDel;refine zb (wpAny_loadPart b ?_);rw[p];refine zb (zd ?_);rw[zk rfl];refine zb (wpAny_updatePart b (zd ?_));obtain⟨cl,d,B,sl⟩:=o;subst g;cases hi:es.findIdx? (·.key.isStr name)with
 |none=>
  exfalso;obtain⟨i,u,hp⟩:=Array.any_eq_true.mp j;have:=Array.findIdx?_eq_none_iff.mp hi es[i] (Array.getElem_mem u);rw[this]at hp;cases hp
 |some i=>
  refine w _ (nsFind (es.eraseIdxIfInBounds i)) ⟨_,_,ep+1,QN _ b (by simp only[Obj.dropName_eq,Obj.dropNameByArray,hi]<;>rfl),(by simp only[Obj.dropName_eq,Obj.dropNameByArray,hi]<;>rfl),hk.erase i,λ_=>X9⟩ (λx hx=>?_) (Q4 ..);rw[<-f x];unfold nsFind findBy;rw[<-ky,<-ky,Array.toList_eraseIdxIfInBounds,Oh hx es.toList i (by rw[<-hi];obtain⟨l⟩:=es;simp)]
theorem bz(I:AV X AO σ H s)(P:X.N.Nodup)(hi:X.N[i]?=Z x)(hx:X.env.scope.names.lookup x=Z .local)(hv:σ[i]?=Z (Z v))(h:∀s',AV X AO (σ.set i U) H s'->Q gl s'):A8 M A (deleteName X.env x) Q E s:=by
 obtain⟨m,hn,J⟩:=id I.loc;obtain⟨u,ru,lk⟩:=J i x v hi hv (.inl hx);have hk:X.env.kindOf x=Z .local:=hx;have hm:m x=Z u:=by
  rcases lk with⟨_,q⟩|⟨q,_⟩
  ·exact q
  ·rw[hk]at q;rcases q with q|q<;>cases q
 have go:∀h' d,h'.Ns X.env.locals d->(∀y,y≠x->d y=m y)->Heap.SameBut X.env.locals s.heap h'->Q gl { s with heap:=h' }:=λh' d F B a=>by
  refine h _ ?_;have C:∀b o,X.s₀.heap.get? b=Z o->b≠X.env.locals:=λb o e=>zS (ZO (zz e) I.ok.above);have tr:∀b w,H b=Z w->b≠X.env.locals:=λb w q z=>by rw[z,I.free]at q;cases q
  refine⟨I.ok,I.os,I.bare,⟨λb o e n f y=>(a.2 b (C b o e)).trans (I.base.keep b o e n f y),λb o e n f y=>?_,I.base.free,λb o e y=>?_,I.base.tups,I.base.oM,I.base.sX⟩,
   ⟨d,F,λj y t h1 h2 h3=>?_⟩,λy c e=>?_,I.free,I.ju,λp hp=>?_,λb w q=>?_,by rw[qv];exact I.len⟩
  ·obtain⟨sl,q⟩:=I.base.slot b o e n f y;exact⟨sl,(a.2 b (C b o e)).trans q⟩
  ·obtain⟨o',q⟩:=I.base.there b o e y;exact⟨o',(a.2 b (C b o e)).trans q⟩
  ·have K:j≠i:=λz=>by
    subst z;rw[Ki]at h2;split at h2
    ·split at h2<;>cases h2
    ·rename_i z;exact z rfl
   rw[kD (ja K)]at h2;obtain⟨u',L,W⟩:=J j y t h1 h2 h3;refine⟨u',L,?_⟩;rcases W with⟨D,l⟩|⟨D,c,l,G⟩
   ·exact .inl ⟨D,by rw[B y (λz=>K (Cp P (z▸h1) hi))];exact l⟩
   ·refine .inr ⟨D,c,l,?_⟩;have:=I.cne y c l;unfold Heap.IsCell at G ⊢;rw[a.2 c this];exact G
  ·obtain⟨t,q⟩:=I.cell y c e;refine⟨t,?_⟩;unfold Heap.IsCell at q ⊢;rw[a.2 c (I.cne y c e)];exact q
  ·obtain⟨q1,q2,q3,Y⟩:=I.pin p hp;exact⟨(a.2 _ q3).trans q1,q2,q3,Y⟩
  ·refine(I.hok b w q).stay (λc u g z=>(a.2 c ?_).trans z) (λ_ z=>z) (λ_ _ z=>z) λ_ _ _ z=>z;rcases g with g|g
   ·rw[g];exact tr b w q
   ·exact tr c _ g
 unfold deleteName;rw[hk];dsimp only;rw[I.ok.kind,zw (by rw[show(ScopeKind.function==ScopeKind.class)=false from rfl,show(ScopeKind.function==ScopeKind.module)=false from rfl];simp)];refine zb (af hn hm λh' d F B a=>?_);exact zd (go h' d F B a)
section
variable{E:XK}
theorem RX.jC{Ex:B8}{e:A1}(h:RX (X.wish Ex) E e s):RX X E e s:=by
 obtain⟨a,C,dx,σ,H,r,I,m,x,q⟩:=h;refine⟨a,C,dx,σ,H,r,I.jC,⟨m.un,m.ab,m.nl,m.nc⟩,?_,q⟩;rcases x with x|⟨T,b,x⟩
 ·exact .inl x
 ·exact .inr ⟨T,⟨b.un,b.ab,b.nl,b.nc⟩,x⟩
theorem wM.mono{st:O AC}{t:TS}{a:B8}(h:wM (X.wish a) st t)(k:∀e s,a e s->X.xe e s):wM X st t:=λAO s σ H D I b=>
 ZA (h AO s σ H D (I.wish _) b) (λ_ _ q=>q.jC) k
end
theorem Br.okX{f:A2}{k:Nat}(F:Br K x qual st f fd)(S:bA N ps (aG st))(len:∀vs H Q E,sp vs H Q E->vs.length=ps.length)(i:∀(a:A1) (A:A6) (outer:O Env) (s:A3) (H:Hp) (vs:O V) (Q:VK) (E:XK),iu k (A.deeper (AL qual (aG st) s.heap.objs.size f a))->sp vs H Q E →
   ∃t,wM ((tO (Ep P w) P w K mg base N qual (aG st) f a A outer s H E).wish (RX (tO (Ep P w) P w K mg base N qual (aG st) f a A outer s H E) E)) (fH st) t/\t { nx:=λ_ H'=>Q .non H',rt:=Q } (start N vs) H):gW P w K mg base (Ep P w) (k+1) f fd ps sp:=by
 obtain⟨j,l,kV,m,pm,n,a,ct,osl,rfl,g,d⟩:=F.ex;refine LV g d S len λA outer s H vs Q E b c=>?_;obtain⟨t,h,q⟩:=i a A outer s H vs Q E b c;exact⟨t,wM.mono h λe s' hx=>ZD X9 X9 X9 X9 hx,q⟩
def D0(a C:A2)(dx:S A2):HO:=.ext λh=>∃vs sl,h.get? a=Z ⟨.ref C,dx,.fields vs,sl⟩/\vs[2]?=Z .none
theorem OQ{vs:Array A1}{sl:Array (S A1)}(q:h.get? a=Z ⟨.ref C,dx,.fields vs,sl⟩)(q2:vs[2]?=Z .none):eV P w H h a (D0 a C dx):=
 ⟨⟨vs,sl,q,q2⟩,⟨_,q⟩,λ_ _ ⟨vs,sl,p,p2⟩ k=>⟨vs,sl,k _ p,p2⟩⟩
theorem b7{h':A7}{S ch:O A2}(ok:u0 P w H h)(c:KJ S ch h h')(g:∀b∈ch,H b=U)(f:∀b∈S,H b=U):u0 P w H h':=λb u e=>by
 have a:∀(d:A2) (w:HO),H d=Z w->d∉ch/\d∉S:=λd w q=>⟨λz=>(by rw[g d z]at q;cases q),λz=>(by rw[f d z]at q;cases q)⟩;refine(ok b u e).stay (λd v i q=>?_) (λ_ q=>q) (λ_ _ q=>q) λ_ _ _ q=>q;rcases i with z|z
 ·subst z;exact c.keep _ _ q (a _ _ e).1 (a _ _ e).2
 ·exact c.keep _ _ q (a _ _ z).1 (a _ _ z).2
theorem a6{o:HO}(ok:u0 P w H h)(d:H a=U)(new:eV P w (B1 H a o) h a o):u0 P w (B1 H a o) h:=λb u e=>by
 by_cases f:b=a
 ·subst f;rw[aF]at e;cases e;exact new
 ·rw[aD f]at e;exact(ok b u e).stay (λ_ _ _ q=>q) (λc q=>by rw[aD (bF q d)];exact q) (λc xs q=>by rw[aD (bF q d)];exact q) λc o' g q=>by rw[aD (bF q d)];exact q
theorem lP{fs:O A2}{H':Hp}{h':A7}{o:HO}(u:Un fs [] H H' h h')(d:H' a=U)(f:h.get? a=U):Un fs [] H (B1 H' a o) h h':=
 ⟨u.keep,u.slot,λb c e n x=>by rw[aD (λz=>by rw[z,f]at e;cases e)];exact u.free b c e n x,u.there,λb xs q=>by rw[aD (bF (u.tups b xs q) d)];exact u.tups b xs q,
  λb c xs q=>by rw[aD (bF (u.oM b c xs q) d)];exact u.oM b c xs q,λb ps q=>by
   obtain⟨m,z⟩:=u.sX b ps q;exact⟨m,by rw[aD (bF z d)];exact z⟩⟩
abbrev Cx.inX(X:Cx)(a:A2):Cx:={ X with A:=X.A.mark (Z (.ref a)),calm:=false,xe:=λ_ _=>False }
theorem AV.inX(I:AV X AO σ H s):AV (Cx.inX X a) AO σ H s:=
 ⟨⟨I.ok.mod,I.ok.kind,I.ok.glob,I.ok.blt,I.ok.above,I.ok.inj,I.ok.has,I.ok.cab,λz=>(by cases z),I.ok.frames,I.ok.stk,I.ok.exf,I.ok.bs,I.ok.bsz,I.ok.Ve,I.ok.W8,I.ok.wL,I.ok.frf,I.ok.tabs⟩,I.os,I.bare,I.base,I.loc,I.cell,I.free,I.ju,I.pin,I.hok,I.len⟩
theorem AV.akY(ok:X.Ok)(I:AV (Cx.inX X a) AO σ H s):AV X AO σ H s:=⟨ok,I.os,I.bare,I.base,I.loc,I.cell,I.free,I.ju,I.pin,I.hok,I.len⟩
def XT(X:Cx)(C:A2)(iv:Nat)(ts:A2->TS)(D:BN)(σ:L2.St):XK:=λb dx H2=>b=.ref C/\∃d:S A2,dx=d/\∀a,H2 a=U →
 ts a { nx:=λσ' H'=>D.nx (σ'.set iv U) H',rt:=D.rt } (σ.set iv (Z (.ref a))) (B1 H2 a (D0 a C d))
theorem Ry{Cn:A2}{iv:Nat}{n cn:AK}{np hp:Pos}{D:BN}{H1:Hp}{g s':A3}{e:A1}(G:X.stack=X.env::X.outer)(hf:X.env.frame=Z X.env.locals)(B:X.N.Nodup)(hi:X.N[iv]?=Z n)(l:X.env.scope.names.lookup n=Z .local)(hg:Gl X cn)(hm:X.mg cn=Z (.ref Cn))(hx:exmOne X.K (.ref C) (.ref Cn)=Z true)(hs:∀a,wM (Cx.inX X a) (b0::suite) (ts a))(H:AV X AO σ H1 g)(hq:Ep X.prog X.w X.stack H1 g (XT X C iv ts D σ) e s')(b4:bv cn:=by decide):
  A8 (db X) X.A (noteFrame e X.env) (λ_ s2=>A8 (db X) X.A (setFlight e U) (λ_ s3=>A8 (db X) X.A (handleBy e X.env [.ExceptHandler (Z (.Name cn np)) (Z n) (b0::suite) hp]) (SP X AO D) X.xe s3) X.xe s2) X.xe s':=by
 obtain⟨a,Cv,d,H2,T,rfl,os,P,un,F,ha,hT,x,nT,ex,rfl,_,rfl,hE⟩:=hq;have J0:AV X AO σ H2 s':=H.call' (ch:=[]) os un F P λ_ z=>nomatch z;have fr:=J0.stack;rw[G]at fr;have old:∀b,s'.heap.objs.size<=b->g.heap.get? b=U:=λb z=>by
  cases q:g.heap.get? b with
  |none=>rfl
  |some o=>
   obtain⟨o',q'⟩:=un.there b o q (λz=>nomatch z);exact absurd (zz q') (ew.mpr z)
 have oa:g.heap.get? a=U:=hB ha;have mk:∀(h:A7) (ch:O A2) (tk:Nat),KJ (Bz X.stack) ch s'.heap h->(∀b∈ch,g.heap.get? b=U/\H2 b=U)->(∃vs sl,h.get? a=Z ⟨.ref C,d,.fields vs,sl⟩/\vs[2]?=Z .none)->AV X AO σ (B1 H2 a (D0 a C d)) { s' with heap:=h,toks:=tk }:=λh ch tk c hc y=>by
  obtain⟨vs,sl,y,b5⟩:=y;refine H.call' (ch:=[]) (s':={ s' with heap:=h,toks:=tk }) os (lP (ap un c λb z=>(hc b z).1) x oa) ?_ P λ_ z=>nomatch z;exact a6 (b7 F c (λb z=>(hc b z).2) J0.Bh) x (OQ y b5)
 refine Ur (base:=X.base) (G▸H.ok.frames) fr hf ex λh4 p z c4 x4=>?_;rw[<-G]at c4;refine q9 (s:={ s' with heap:=h4 }) U x4 λt c5 x5=>?_;have a3:H2 p=U:=F.fresh z;have L:=c4.trans (c5.mono (S':=Bz X.stack) (c2:=[p]) (λ_ z=>z) λ_ z=>nomatch z);have E:∀b∈[T,a]++[p],g.heap.get? b=U/\H2 b=U:=λb f=>by
  simp only[yB,js,ke,or_false]at f;rcases f with (rfl|rfl)|rfl
  ·exact⟨hB hT,nT⟩
  ·exact⟨oa,x⟩
  ·exact⟨old _ z,a3⟩
 have I:∃vs sl,t.get? a=Z ⟨.ref C,d,.fields vs,sl⟩/\vs[2]?=Z .none:=by
  obtain⟨vs,sl,_,_,q,_,_,_,_,_,q2⟩:=x5;exact⟨vs,sl,q,q2⟩
 have I5:=mk t _ s'.toks L E I;have LT:PySem.W.Looks (db X) t (typeOf (.ref a)) (.ref C):=by
  obtain⟨vs,sl,q,_⟩:=I;exact(PySem.W.Looks.ld q).andThen .now
 refine wpAny_handleBy_cons (codeAny_handlers_test (xM (X:=Cx.inX X a) (AV.inX I5) hg hm ?_ b4)) (by intro q;cases q);refine(PySem.W.exm_one I5.Gk LT hx).at ?_;show AG _ _ _ _ _;refine codeAny_handlers_suite_as ?_;refine q9 (s:={ s' with heap:=t }) U x5 λh6 c6 x6=>?_;have I6:=mk h6 _ s'.toks (L.trans (c6.mono (S':=Bz X.stack) (c2:=[p]) (λ_ z=>z) λ_ z=>nomatch z)) (λb f=>by
  rcases List.mem_append.mp f with f|f
  ·exact E b f
  ·exact E b (Zs _ f)) (by obtain⟨vs,sl,_,_,q,_,_,_,_,_,q2⟩:=x6;exact⟨vs,sl,q,q2⟩)
 refine pY (X:=X) (v:=.ref a) I6 B hi (.inl l) X9 (λs7 Y=>?_) (.inr l);refine ZA (hs a AO s7 _ _ _ (AV.inX Y) (hE a x)) (λfl s8 m=>?_) λ_ _ z=>False.elim z;show A8 _ _ _ _ _ _;have Q:∀{σ':L2.St} {H':Hp},AV (Cx.inX X a) AO σ' H' s8->(∀i,AV X AO (σ'.set iv U) H' i->SP X AO D fl i) →
   A8 (db X) X.A (do bindName X.env n .none;unbindBehindTheSuite X.env n hp) (λ_ s5=>SP X AO D fl s5) X.xe s8:=λ{σ' H'} J k=>by
  have M:=AV.akY Y.ok J;have a5:iv<σ'.length:=by rw[M.len];exact(cf.mp hi).1
  refine zb (wpAny_bindName (pY (v:=.non) M B hi (.inl l) X9 (λi j=>?_) (.inr l)));unfold unbindBehindTheSuite unbindName;refine wpAny_onRaise (zb (wpAny_point (zb (bz (v:=.non) j B hi l (by rw[QE a5]) λb6 Yc=>wpAny_point (k b6 ?_)))));rwa [List.set_set]at Yc
 cases fl with
 |next=>
  obtain⟨σ',H',J,q⟩:=m;exact Q J λi j=>⟨_,H',j,q⟩
 |ret u=>
  obtain⟨v,σ',H',J,rv,q⟩:=m;exact Q J λi j=>⟨v,_,H',j,rv,q⟩
 |brk=>
  obtain⟨_,_,_,q⟩:=m;exact False.elim q
 |cont=>
  obtain⟨_,_,_,q⟩:=m;exact False.elim q
section
variable{Cn f:A2}{iv iy k:Nat}{n cn:AK}{np hp p py pa:Pos}{tf:TE}{t:TA}
end
section
variable{d:A2}{fs:O (AK×V)}{f:AK}{o:Expr}
theorem f8(I:AV X AO σ H s)(ea:H a=Z (D0 a C d))(c:H d=Z (.xd fs)):∃vs sl m,s.heap.get? a=Z ⟨.ref C,Z d,.fields vs,sl⟩/\s.heap.Ns1 d m/\∀f,Cm (fs.lookup f) (m f):=by
 obtain⟨vs,sl,q,_⟩:=(I.hok a _ ea).1;obtain⟨m,b,r⟩:=I.hok d _ c;exact⟨vs,sl,m,q,b,r⟩
def NV(K:B5)(H:Hp)(C:A2)(c:V)(b:Bool):Prop:=
 (∃D,c=.ref D/\kitOne K (.ref C) (.ref D)=Z b)\/(∃T,c=.ty T/\kitOne K (.ref C) (.type T)=Z b) ∨
  ∃(tp:A2) (cs:O A2),c=.ref tp/\H tp=Z (.tup (cs.map V.ref))/\PySem.W.kitAny K (.ref C) (cs.map Value.ref)=Z b
theorem Jd:∀{cs:O A2} {us:O A1},AY (cs.map V.ref) us->us=cs.map Value.ref
 |[],_,h=>by cases h;rfl
 |c::cs,_,h=>by
  cases h with
  |cons r t=>rw[Jd t];obtain rfl:=r;rfl
def Y'(H:Hp)(a C:A2):Prop:=∃d:S A2,H a=Z (D0 a C d)/\∀x,d=Z x->∃fs,H x=Z (.xd fs)
theorem ZK(u:∀C,C∈Cs->uN X.K C=true):gq X (.builtin "isinstance") (λvs H Q=>∃a C c b,C∈Cs/\vs=[.ref a,c]/\Y' H a C/\NV X.K H C c b/\Q (.bl b) H):=by
 intro AO s σ H vs us Q I r h;obtain⟨a,C,c,b,w,rfl,⟨d,ea,B⟩,f,q⟩:=h;cases r with
 |cons A r=>
  cases r with
  |cons g r=>
   cases r;obtain rfl:=A;have Z:=fq (e:=a) (u C w);have p:LP a C s.heap:=by
    obtain⟨vs,sl,h1,_⟩:=(I.hok a _ ea).1;cases d with
    |none=>exact⟨U,vs,sl,U,h1,rfl,rfl,trivial⟩
    |some x=>
     obtain⟨fs,ex⟩:=B x rfl;obtain⟨m,⟨v,_,_,h2,_⟩,_⟩:=I.hok x _ ex;exact⟨some x,vs,sl,some v,h1,rfl,rfl,h2⟩
   rcases f with⟨D,rfl,f⟩|⟨T,rfl,f⟩|⟨tp,cs,rfl,t,f⟩
   ·obtain rfl:=g;exact kia_one Z I.Gk p f (λz=>nomatch z) λtk=>⟨.bl b,H,I.tok tk,rfl,q⟩
   ·obtain rfl:=g;exact kia_one Z I.Gk p f (λz=>nomatch z) λtk=>⟨.bl b,H,I.tok tk,rfl,q⟩
   ·obtain rfl:=g;obtain⟨_,AS,y,o,i,j,⟨G,l⟩,n⟩:=I.hok tp _ t;obtain⟨E,J,F,osl⟩:=o;dsimp only at j l n;subst j l n;rw[Jd y]at i;exact PySem.W.kia_tup Z I.Gk p i f (λz=>nomatch z) λtk=>⟨.bl b,H,I.tok tk,rfl,q⟩
theorem qG(f:∀C,C∈Cs->uN X.K C=true):gq X (.builtin "isinstance") (λvs H Q=>∃(a C d:A2) (fs:O (AK×V)) (c:V) (b:Bool),C∈Cs/\vs=[.ref a,c]/\H a=Z (D0 a C d)/\H d=Z (.xd fs)/\NV X.K H C c b/\Q (.bl b) H):=λAO s σ H vs us Q I r ⟨a,C,d,fs,c,b,hm,e,ea,ed,hb,q⟩=>
 ZK f AO s σ H vs us Q I r ⟨a,C,c,b,hm,e,⟨d,ea,λx z=>by cases z;exact⟨fs,ed⟩⟩,hb,q⟩
def gf(Cs:O A2)(ta:TE)(f:AK):TE:=λσ H Q=>ta σ H λx H1=>∃(a C d:A2) (v:V),C∈Cs/\x=.ref a/\H1 a=Z (D0 a C d)/\H1 d=Z (.xd [(f,v)])/\Q v H1
theorem Rz(r:At v u):handedIn u=true:=by
 cases v with
 |non=>obtain rfl:=r;rfl
 |bl b=>obtain rfl:=r;rfl
 |int i=>obtain⟨t,rfl⟩:=r;rfl
 |str x=>obtain⟨t,rfl⟩:=r;rfl
 |byt b=>obtain⟨t,rfl⟩:=r;rfl
 |flt b=>obtain⟨t,rfl⟩:=r;rfl
 |ref a=>obtain rfl:=r;rfl
 |ty n=>obtain rfl:=r;rfl
theorem RB(c:∀C,C∈Cs->uN X.K C=true/\findIn X.K (.ref C) f=Z U)(i:PE X o ta)(e:attributeBase o f X.env (eval o X.env)=eval o X.env):PE X (.Attribute o f pos) (gf Cs ta f):=by
 intro AO s σ H Q I h;refine fE e (gK (i AO s σ H _ I h) λu s1 ⟨x,H1,I1,rx,a,C,d,v,hm,ex,ea,ed,q⟩=>?_);subst ex;obtain rfl:u=Value.ref a:=rx;obtain⟨vs,sl,m,h1,h2,j⟩:=f8 I1 ea ed;have r:=j f;simp only[nK,beq_self_eq_true]at r;cases b:m f with
 |none=>rw[b]at r;exact False.elim r
 |some u=>
  rw[b]at r;obtain⟨n,g,l,tk,os⟩:=s1;exact eP I1.Gk (c C hm).1 (c C hm).2 h1 h2 b (Rz r) ⟨v,H1,I1.tok _,r,q⟩
end
def XW(K:B5)(C:A2)(f:AK)(E:XK)(H0:Hp)(d:Dt):Prop:=∀dx H',AW H0 H'->(if f ="" then dx=U else ∃x v,dx=Z x/\H' x=Z (.xd [(f,v)])/\AX K H' d v)->E (.ref C) dx H'
theorem XW.rebase{f:AK}{E:XK}(s:AW H0 Hs)(h:XW K C f E H0 d):XW K C f E Hs d:=λdx H' s' e=>h dx H' (s.trans s') e
def tX(K:B5)(C:A2)(f:AK)(E:XK)(gx:Ev->S Dt):TS:=λ_ σ H=>∃H0 ρ d,aV K H0 H σ ρ/\gx ρ=Z d/\XW K C f E H0 d
structure F1 (X:Cx) (C:Addr) (f:Str) (E:XK) (st:Stmt) (gx:Ev->Option Dt):Prop where
 run:PS X st (tX X.K C f E gx)
structure EI (X:Cx) (C:Addr) (f:Str) (E:XK) (st:List Stmt) (gx:Ev->Option Dt):Prop where
 run:wM X st (tX X.K C f E gx)
def zD:Bx->S Dt
 |.z d=>Z d
 |_=>U
section
variable{f:AK}{E:XK}{gy:Ev->S Dt}{p:Pos}{AT a b:O AC}{B:String}{pc:Ev->S Bool}
def FU(okX:Dt->Bool)(fe:Ev->S Bx):Ev->S Dt:=λρ=>(fe ρ).bind λb=>(zD b).bind λd=>if okX d=true then Z d else U
theorem ZL{okX:Dt->Bool}{k:Nat}{ok:V->Prop}(W:ExcBaseFacts B newId initId bmB)(hx:ZF X.K C fI bmB newId=true)(Q:bmB.contains (.type "BaseException")=true)(hk:keepIn X.K (.ref C)=true)(F:gW X.prog X.w X.K X.mg X.base zZ k fI fd ps (F8 C f ok))(t:B9 X.K fd ps [])(G:iu (k+1) X.A)(y:Gl X x)(Y:X.mg x=Z (.ref C))(u:∀e s,RX X E e s->X.xe e s)(he:QV X e fe)(L:∀d v K H,okX d=true->AX K H d v->ok v)(J:f ≠ "":=by decide)(I:bv x:=by decide)(hs:AA [e] X.env=(false,eval e X.env)::AA [] X.env:=by rfl)(P:(AE cpos (AA [] X.env)).any (·.1)=false:=by rfl):
  F1 X C f E (.Raise (Z (.Call (.Name x p) [e] [] cpos)) U pos) (FU okX fe):=⟨PL (cE W hx Q hk F t G y Y u (bI he.run eY hs) I hs P) λD σ H h=>by
 obtain⟨H0,ρ,d,Ev,a,w⟩:=h;obtain⟨b,eb,a⟩:=AU a;obtain⟨M,c,a⟩:=AU a;split at a
 ·rename_i N;cases a;cases b with
  |z M=>
   cases c;refine⟨H0,ρ,_,Ev,eb,λv H1 q _ g=>⟨v,rfl,L _ _ _ _ N g,λH2 dx i hd=>?_⟩⟩;have j:AW H2 (B1 H2 dx (.xd [(f,v)])):=bC hd;exact w (Z dx) _ ((Ev.base.trans q).trans (i.trans j)) (by rw[zw J];exact⟨dx,v,rfl,aF,AX.kp (Kp.of (i.trans j)) g⟩)
  |l _=>cases c
  |o _=>cases c
  |n _=>cases c
  |m _ _=>cases c
 ·cases a⟩
theorem uO(h:F1 X C f E st gx):EI X C f E (st::AT) gx:=⟨λAO s σ H D I a=>KA (ZA (h.run AO s σ H { nx:=λ_ _=>False,rt:=D.rt,bk:=D.bk,ct:=D.ct } I a) (λfl b q=>by
 cases fl with
 |next=>obtain⟨_,_,_,z⟩:=q;exact False.elim z
 |ret v=>exact q
 |brk=>exact q
 |cont=>exact q) λ_ _ z=>z)⟩
def Oi(g:Ev->S Ap)(gx:Ev->S Dt):Ev->S Dt:=λρ=>(g ρ).bind λr=>match r with
 |.nx a=>gx a
 |_=>U
theorem Oj(h:Lx X st g)(hx:EI X C f E AT gx):EI X C f E (st::AT) (Oi g gx):=⟨λAO s σ H D I j=>by
 obtain⟨H0,ρ,d,Ev,a,w⟩:=j;obtain⟨r,er,a⟩:=AU a;cases r with
 |nx b=>
  refine KA (ZA (h.run AO s σ H { nx:=λσ' H'=>aV X.K H0 H' σ' b,rt:=λ_ _=>False } I ⟨H0,ρ,_,Ev,er,λσ' H' z=>z⟩) (λfl c q=>?_) λ_ _ z=>z);cases fl with
  |next=>
   obtain⟨σ',H',e,i⟩:=q;exact hx.run AO c σ' H' D e ⟨H0,b,d,i,a,w⟩
  |ret v=>obtain⟨_,_,_,_,_,z⟩:=q;exact False.elim z
  |brk=>obtain⟨_,_,_,z⟩:=q;exact False.elim z
  |cont=>obtain⟨_,_,_,z⟩:=q;exact False.elim z
 |rt _=>cases a
 |bk _=>cases a
 |ct _=>cases a⟩
def HV(pc:Ev->S Bool)(gx gy:Ev->S Dt):Ev->S Dt:=λρ=>(pc ρ).bind λk=>if k=true then gx ρ else gy ρ
theorem ZM{sts:O AC}:EI X C f E sts (λ_=>U):=⟨λAO s σ H D I b=>by
 obtain⟨H0,ρ,d,Ev,a,w⟩:=b;cases a⟩
theorem iq(j:QB X c pc)(l:EI X C f E a gx)(i:EI X C f E b gy):F1 X C f E (.If c a b pos) (HV pc gx gy):=⟨PL (Ma j.run l.run i.run) λD σ H h=>by
 obtain⟨H0,ρ,d,Ev,e,w⟩:=h;obtain⟨k,ek,e⟩:=AU e;refine⟨H0,ρ,k,Ev,ek,λH1 g=>?_⟩;cases k with
 |true=>rw[zk rfl]at e ⊢;exact⟨H0,ρ,d,Ev.grow g,e,w⟩
 |false=>rw[zw z5]at e ⊢;exact⟨H0,ρ,d,Ev.grow g,e,w⟩⟩
end
def RD(K:B5)(n:Nat)(Fx:O Bx->S Dt)(C:A2)(f:AK):Sp:=λvs H _ E=>vs.length=n/\∃bs d,qg K H bs vs/\bs.all (λb=>!lc b)=true/\Fx bs=Z d/\XW K C f E H d
def gC(n:Nat)(gx:Ev->S Dt):O Bx->S Dt:=λbs=>gx (bs.map Z++ba (n-bs.length) U)
abbrev FV(P:A4)(w:A5)(K:B5)(mg:AK->S A1)(base:A7)(N:An)(qual:AK)(scope:Scope)(f:A2)(a:A1)(A:A6)(outer:O Env)(s:A3)(H:Hp)(E:XK):Cx:=
 (tO (Ep P w) P w K mg base N qual scope f a A outer s H E).wish (RX (tO (Ep P w) P w K mg base N qual scope f a A outer s H E) E)
theorem Uv{f:A2}{a:AK}{k m:Nat}(F:Br K x qual st f fd)(S:bA N ps (aG st))(i:N.length=n)(j:ps.length=m)(o:∀(b:A1) (A:A6) (outer:O Env) (s:A3) (H:Hp) (E:XK),iu k (A.deeper (AL qual (aG st) s.heap.objs.size f b)) →
   (∀e s',RX (FV P w K mg base N qual (aG st) f b A outer s H E) E e s'->(FV P w K mg base N qual (aG st) f b A outer s H E).xe e s') →
   PassesOwn (A9 P w) (A.deeper (AL qual (aG st) s.heap.objs.size f b)) (AL qual (aG st) s.heap.objs.size f b) (FV P w K mg base N qual (aG st) f b A outer s H E).xe →
   EI (FV P w K mg base N qual (aG st) f b A outer s H E) C a E (fH st) gx):gW P w K mg base (Ep P w) (k+1) f fd ps (RD K m (gC n gx) C a):=
 Br.okX F S (λvs H Q E h=>h.1.trans j.symm) λb A outer s H vs Q E g l=>by
  obtain⟨_,bs,d,r,c,e,w⟩:=l;subst i;exact⟨_,(o b A outer s H E g (λe s' h=>h.jC) (Wj (X:=tO (Ep P _) P _ K mg base N qual (aG st) f b A outer s H E) X9 X9 X9)).run,H,_,d,aV.start r c,e,w⟩
theorem VA{c g fe a:AK}{f FE:A2}{k:Nat}{d:Expr}{ok:V->Prop}{ρ0:V->Ev}{p1 p3 p4 o j n m t:Pos}{B:String}(F:Br K x qual st f fd)(S:bA [c,g] [c,g] (aG st))(Fe:ExcBaseFacts B newId initId bmB)(hx:ZF K C f bmB newId=true)(W:C3 K C a=true)(hm:mg fe=Z (.ref FE))(D:Uu K FE initId)(hh:handedIn (.builtin initId)=true)(I:fH st=[.Expr (.Call (.Attribute (.Name fe p1) "__init__" p2) [.Name c p3,d] [] p4) o,.Assign [.Attribute (.Name c j) a n] (.Name g m) t])(u:∀v,ok v->∃b,fa (ρ0 v)=Z b/\∀H e,aV K H H [Z (.ref e),Z v] (ρ0 v))(a5:∀(l:A1) (A:A6) (outer:O Env) (s:A3) (H:Hp) (E:XK) (X:Cx),X=(tO zZ P w K mg base [c,g] qual (aG st) f l A outer s H E).Vg->iu k X.A →
   Gl X fe/\QV X d fa/\PE X (.Name c p3) (qM 0)/\PE X (.Name c j) (qM 0)/\PE X (.Name g m) (qM 1)/\(fe==("__debug__":AK))=false/\AA [.Name c p3,d] X.env=(false,eval (.Name c p3) X.env)::AA [d] X.env/\AA [d] X.env=(false,eval d X.env)::AA [] X.env ∧
   (AE p4 (AA [d] X.env)).any (·.1)=false/\swapsWith (.Call (.Attribute (.Name fe p1) "__init__" p2) [.Name c p3,d] [] p4) U o.line X.env=pure false/\swapsWith (.Name g m) (Z (.Attribute (.Name c j) a n)) t.line X.env=pure false ∧
   ∃pl:Sem Bool,eval (.Call (.Attribute (.Name fe p1) "__init__" p2) [.Name c p3,d] [] p4) X.env=(do
    let ov <-eval (.Name fe p1) X.env
    standAt p2.atName
    let (f,first) <-holding [ov] (getMethod ov "__init__" pl)
    callWith p4 f first (AE p4 (AA [.Name c p3,d] X.env)) (backToKw p4 (keywordEach [] X.env)))):
  gW P w K mg base zZ (k+1) f fd [c,g] (F8 C a ok):=
 Br.ok F S (λvs H Q E h=>by obtain⟨_,_,rfl,_⟩:=h;rfl) λl A outer s H vs Q E J b5=>by
  obtain⟨e,v,rfl,Y,ea,q⟩:=b5;obtain⟨h1,h2,h3,h4,M,h6,p,L,G,a3,b0,pl,N⟩:=a5 l A outer s H E _ X9 J;rw[I];refine⟨_,dU (qO (ZJ (pl:=pl) Fe hx h1 hm D hh (bI h3 (bI h2.run eY L) p) h6 p G N) a3) (qN (RS W h4 M b0)),?_⟩;obtain⟨b,eb,b4⟩:=u v Y;refine⟨.ref e,rfl,H,ρ0 v,b,b4 H e,eb,λy H1 i _ _=>⟨e,y,rfl,i _ _ ea,?_⟩⟩;exact⟨v,rfl,.ref e,rfl,e,rfl,i _ _ ea,λdx hd z=>q H1 dx i hd z⟩
section
variable{k:Nat}{f h:A2}{fs:Ev->S (O Bx)}{p q:Pos}
end
end P1
namespace P1
open L2 S6
section
variable{ts:An}
end
section
variable{se:Expr}{fS:Ev->S An}{fx:Ev->S Dt}{no AT:O AC}{tR tQ:TS}{p0 p02 px pb pif pk:Pos}{f:AK}{E:XK}
end
end P1
namespace P1
open L2
section
variable{e1 e3:Expr}{gr:Ev->S Ap}{xr xj y1 y2:AK}{AT no:O AC}{kk:Nat}{p0 p00 p01 p02 q1 q2 pt pj pa px pb pif pf2 px3 a1 c1 pe1 pr a2 pj2 c2 pe2:Pos}{fx:Ev->S Dt}{f:AK}{E:XK}
end
section
variable{Cn f:A2}{iv k:Nat}{n cn:AK}{np hp p pa:Pos}{tf:TE}{t:TA}
def d6(X:Cx)(C f:A2)(iv:Nat)(ts:A2->TS)(tf:TE)(t:TA)(sp:Sp):TS:=λD σ H=>tf σ H λv H0=>v=.ref f/\t σ H0 λvs H1=>sp vs H1 (λ_ H2=>D.nx σ H2) (XT X C iv ts D σ)
end
section
variable{fx:Ev->S Bx}
end
section
variable{l:A2}{xs:Array A1}
end
theorem u6:∀{AS:O A1} {ns:O Int},IntsAre AS ns->AY (ns.map V.int) AS
 |_,_,.nil=>.nil
 |_,_,.cons y t h=>.cons ⟨t,rfl⟩ (u6 h)
section
variable{e:α->Dt}
end
section
variable{e:α->Dt}{ea:β->Dt}{eb:δ->Dt}{fx:Ev->S Dt}
end
section
variable{e:α->Dt}{g:Ev->S β}{c:γ->β}
end
section
variable{E:XK}
theorem Uw(l:∀e s,RX X E e s->X.xe e s):C6 (Ep X.prog X.w) X E:=λAO σ H s e s' I h=>by
 obtain⟨a,C,dx,H',T,rfl,os,i,un,A,m,j,y,n,ex,g⟩:=h;have J:AV X AO σ H' s':=I.call' (ch:=[]) os un A i λ_ z=>nomatch z;have u:AV X [] σ H' s':=⟨J.ok,J.os,J.bare,J.base,J.loc,J.cell,J.free,J.ju,λp hp=>J.pin p (List.mem_append.mpr ((List.mem_append.mp hp).elim .inl λz=>nomatch z)),J.hok,J.len⟩;have f:∀b,s.heap.objs.size<=b->H' b=U->yK X H' b:=λb d t=>⟨t,Zl I.sz d,λz=>by have:=I.lt;rw[<-z]at this;exact absurd this (ew.mpr d),λx c e z=>by
  obtain⟨v,q⟩:=I.cell x c e;have:c<s.heap.objs.size:=by
   obtain⟨o,q⟩:∃o,s.heap.get? c=Z o:=by
    first|(obtain⟨o,q,_⟩:=q;exact⟨o,q⟩)|exact⟨_,q⟩
   exact zz q
  rw[z]at this;exact absurd this (ew.mpr d)⟩
 exact l _ _ ⟨a,C,dx,σ,H',rfl,u,f a m y,.inr ⟨T,f T j n,.inr ex⟩,g⟩
end
section
variable{f:AK}{E:XK}{fs:Ev->S (O Bx)}{gy:Ev->S Dt}{p p1 epos:Pos}{AT:O AC}
def Ol(n:Nat)(Fx:O Bx->S Dt)(fs:Ev->S (O Bx)):Ev->S Dt:=λρ=>(fs ρ).bind λbs=>if bs.length=n then Fx (bs.map lend)else U
end
section
variable{o:Expr}
def ZP:Dt->Bool
 |.non=>true
 |.tup _=>true
 |_=>false
def LY:Dt->Bool
 |.non=>true
 |_=>false
end
section
variable{o l:Expr}{fs:Ev->S (O Bx)}{z:AK}
end
instance {σ τ:Type} [Inhabited σ]:Inhabited (j6 σ τ):=⟨.nx default⟩
section
variable{e:α->Dt}
theorem ZQ(a:∀x,∃ds,e x=.tup ds)(ys:O (S α)):(ys.map (eO e)).all ZP=true/\(LY ∘ eO e)=Option.isNone:=by
 refine⟨?_,?_⟩
 ·rw[KF];intro d b;obtain⟨o,_,rfl⟩:=cc.mp b;cases o with
  |none=>rfl
  |some x=>obtain⟨ds,q⟩:=a x;show ZP (e x)=true;rw[q];rfl
 ·funext o;cases o with
  |none=>rfl
  |some x=>obtain⟨ds,q⟩:=a x;show LY (e x)=false;rw[q];rfl
end
section
variable{o:Expr}{fx fy:Ev->S Bx}
end
section
variable{f:AK}{E:XK}{gy:Ev->S Dt}{sts AT:O AC}{p0 p00 p01 p02:Pos}
end
structure DQ (K:B5) (mg:Str->Option Value) (x:Str) (st:Stmt) (ps:An) where
 f:Addr
 fd:FuncData
 F:Br K x x st f fd
 b:B9 K fd ps []
 m:mg x=some (.ref f)
 k:keepIn K (.ref f)=true
structure IQ (K:B5) (C:Addr) (q:Str) (st:Stmt) (ps:An) where
 f:Addr
 fd:FuncData
 F:Br K "__init__" q st f fd
 b:B9 K fd ps []
def mC{f:A2}{od b:S A2}{sl:Array (S A1)}{e kV m pm d ct:A1}(X:K.In h)(G:h.Ns mainGlobals mg)(a:Nn K x f)(l:Lk K f x st e od sl kV m pm b d ct)(c:codeIn K d x=true)(k:keepIn K (.ref f)=true)(j:∀(kV i pm:A1) (b:S A2) (g ct:A1) (us:O A1),us.length=ps.length->bindArgs (fnOf x x (lW st) (fH st) (aG st) .none kV i pm b g ct) ⟨us,[]⟩=pure (ps.zip us):=by intro _ _ _ _ _ _;first|exact P1.IP λ_=>X9|exact P1.F2 λ_ _=>X9|exact P1.RI λ_ _ _=>X9|exact P1.Sa λ_ _ _ _=>X9|exact P1.e7 λ_ _ _ _ _=>X9|exact P1.LB X9):DQ K mg x st ps:=
 ⟨f,_,JN l c k,(JN l c k).binds j,mg_of X G a,k⟩
def OW{f:A2}{q:AK}{od b:S A2}{sl:Array (S A1)}{e kV j pm d ct:A1}(a:findIn K (.ref C) "__init__"=Z (Z (.ref f)))(l:K.lookup f=Z ⟨e,od,.func (fnOf "__init__" q (lW st) (fH st) (aG st) .none kV j pm b d ct),sl⟩)(c:codeIn K d q=true)(k:keepIn K (.ref f)=true)(i:∀(kV h pm:A1) (b:S A2) (g ct:A1) (us:O A1),us.length=ps.length->bindArgs (fnOf "__init__" q (lW st) (fH st) (aG st) .none kV h pm b g ct) ⟨us,[]⟩=pure (ps.zip us):=by intro _ _ _ _ _ _;exact P1.F2 λ_ _=>X9):IQ K C q st ps:=
 ⟨f,_,JN l c k,(JN l c k).binds i⟩
abbrev Ok(P:A4)(w:A5)(base:A7)(d:DQ K mg x st ps)(k n:Nat)(F:O Bx->S Bx):Prop:=gW P w K mg base zZ k d.f d.fd ps (DC K n F)
theorem Je{k m:Nat}(d:DQ K mg x st ps)(S:bA N ps (aG st))(h:∀(a:A1) (A:A6) (outer:O Env) (s:A3) (H:Hp) (E:XK),iu k (A.deeper (AL x (aG st) s.heap.objs.size d.f a))->(A.deeper (AL x (aG st) s.heap.objs.size d.f a)).units+100<cLine->N.Nodup->PX (tO zZ P w K mg base N x (aG st) d.f a A outer s H E).Vg (fH st) g)(c:N.length=n:=by rfl)(e:ps.length=m:=by rfl):Ok P w base d (k+1) m (fM n g):=bo d.F S c e λa A outer s H E b=>h a A outer s H E b (BL b) S.nd
section
variable{k m:Nat}{fs:Ev->S (O Bx)}{p:Pos}
theorem cW(d:DQ X.K X.mg x st ps)(G:Ok X.prog X.w X.base d k n F)(a:iu m X.A)(c:Tg X (e::es) fs)(i:Gl X x:=by rfl)(h:k<=m:=by decide)(f:bv x:=by decide)(he:AA (e::es) X.env=(false,eval e X.env)::AA es X.env:=by rfl)(g:(AE pos (AA es X.env)).any (·.1)=false:=by rfl):QV X (.Call (.Name x p) (e::es) [] pos) (bU n F fs):=
 JZ G (a.mono h) i d.m d.k d.b c f he g
end
theorem F7{q:A4}{loose:An}{d:DefRec}{K:Params->B5}{T:B5->(AK->S A1)->Type}{k:Nat}{F_law:O Bx->S Bx}(b:∀{K mg},T K mg->DQ K mg "law" st [x])(hk:iu k callerA)(M:d.name ="law")(G:∀(w:A5) (mg:AK->S A1) (base:A7) (t:T (K w.params) mg),Ok l.prog w base (b t) k 1 F_law)(J:l.most=Z 63)(v:d.params.defaults=[])(h1:∀ns:O Int,ns.length<=63->F_law [.z (.lst (ns.map .int))]=Z (.z (.bl true)))(h2:∀ns:O Int,ns.length<=63->F_law [.l (ns.map .int)]=Z (.z (.bl true)))(p:∀(kV c pm:A1) (i:S A2) (g ct u:A1),bindArgs (fnOf "law" "law" (lW st) (fH st) (aG st) .none kV c pm i g ct) ⟨[u],[]⟩=pure [(x,u)])(j:∀(w:A5) (h:A7),YP w h->(K w.params).In h)(o:∀(w:A5) (h:A7) (mg y:AK->S A1) (D:ExcName->S A1) (B:An),(K w.params).In h->Top q B D mg y h->∃E,L2.Xu (K w.params) h E)(F:∀(w:A5) (mg:AK->S A1) (h:A7),(K w.params).In h->h.Ns mainGlobals mg->T (K w.params) mg):
  PySem.W.WalkO q loose XP YP l.row.toRowW d [] (λf vs=>PySem.call f vs):=
 L2.Xw (n:=63) (k:=k) (x:=x) (CX:=zZ) (sp:=λK=>DC K 1 F_law) J () v hk j (λw mg fa h X N e=>by
  have t:=F w mg h X N;have A:=(b t).m;rw[M,A]at e;cases e;refine⟨(b t).fd,λs u=>?_,λbase _ _=>G w mg base t⟩;obtain⟨P,Q,kV,c,pm,i,g,ct,osl,e,lk,Y⟩:=(b t).F.ex;rw[e];exact .of_eq (p kV c pm i g ct u)) (λK H a ns L C I=>gg h1 h2 K H a ns L C I) (λ_ _ _ _ z=>z) o
section
variable{k:Nat}{f:A2}{sp:A2->O V->Hp->VK->Prop}{p:Pos}{t:TA}
end
section
variable{p0 p1:Pos}{e:A2}{a:Expr}{ta:TA}
end
section
variable{f:AK}{E:XK}{fs:Ev->S (O Bx)}{p:Pos}
theorem Om{k:Nat}{fa:A2}{Fx:O Bx->S Dt}(G:gW X.prog X.w X.K X.mg X.base (Ep X.prog X.w) k fa fd ps (RD X.K n Fx C f))(g:iu k X.A)(u:Gl X x)(q:X.mg x=Z (.ref fa))(hk:keepIn X.K (.ref fa)=true)(i:B9 X.K fd ps [])(l:∀e s,RX X E e s->X.xe e s)(j:Tg X (e::es) fs)(m:bv x:=by decide)(he:AA (e::es) X.env=(false,eval e X.env)::AA es X.env:=by rfl)(o:(AE cpos (AA es X.env)).any (·.1)=false:=by rfl)(t:swapsWith (.Call (.Name x p) (e::es) [] cpos) U pos.line X.env=pure false:=by rfl):
  F1 X C f E (.Expr (.Call (.Name x p) (e::es) [] cpos) pos) (Ol n Fx fs):=⟨λAO s σ H D I y=>by
 refine wpAny_Expr_any (ZA (Bm (p:=p) (pos:=cpos) G g u q hk i .nil (Uw l) j.run m he o AO s σ H (λ_ _=>False) I ?_) (λv b h1=>?_) λ_ _ z=>z) I.quiet t
 ·obtain⟨H0,ρ,d,Ev,a,w⟩:=y;obtain⟨bs,eb,a⟩:=AU a;split at a
  ·rename_i h;refine⟨H0,ρ,bs,Ev,eb,λvs H1 b c=>?_⟩;show RD X.K n Fx C f (vs++[]) H1 _ E;rw[Qb];exact⟨by rw[<-Paired.length c];exact h,_,d,xV c,Bv bs,a,w.rebase (Ev.base.trans b)⟩
  ·cases a
 ·obtain⟨_,_,_,_,z⟩:=h1;exact False.elim z⟩
end
theorem XW.of{f:AK}{E:XK}(a:f ≠ "")(h:∀dx v H',AW H0 H'->H' dx=Z (.xd [(f,v)])->AX K H' d v->E (.ref C) (Z dx) H'):XW K C f E H0 d:=λdx H' s q=>by
 rw[zw a]at q;obtain⟨x,v,rfl,e,r⟩:=q;exact h x v H' s e r
section
variable{g:Array GenState}{d:Drawn}{t:Nat}{AT:O A1}{B:String}
end
section
variable{E:XK}{p:Pos}{B:String}{k:Nat}{t:TA}
end
section
variable{p kp cp:Pos}{fs:Ev->S (O Bx)}{j:Int}{kk:Nat}
end
section
variable{e:α->Dt}
end
section
variable{g:Ev->S AK}
variable{e:α->Dt}
end
section
variable{e:α->Dt}{σ' τ:Type}
def qE(e:α->Dt):S (O α)->Bx
 |none=>.z .non
 |some l=>.o (l.map e)
def TZ(e:α->Dt):S (O α)->Bx
 |none=>.z .non
 |some l=>.l (l.map e)
class Is (c:Option (List α)->Bx) (e:outParam (α->Dt)):Prop where
 d:∀v,toD (c v)=eO (eL e) v/\qu (c v)=false
instance:Is (qE e) e:=⟨λv=>by cases v<;>exact⟨rfl,rfl⟩⟩
instance:Is (TZ e) e:=⟨λv=>by cases v<;>exact⟨rfl,rfl⟩⟩
instance:Is (zE (eO (eL e))) e:=⟨λv=>⟨rfl,rfl⟩⟩
end
section
variable{p:Pos}{fs:Ev->S (O Bx)}
end
section
variable{e:α->Dt}
end
section
variable{e:α->Dt}
end
section
variable{AT:O AC}{ga:Ev->S Ap}
end
section
variable{k:Nat}{f:A2}{Fa Fb:O Bx->S Bx}{p spos:Pos}{fs:Ev->S (O Bx)}
end
section
variable{e:α->Dt}
end
end P1
namespace P1
open L2 S1 S6
section
variable{e:α->Dt}
end
end P1
namespace P1
open L2
section
variable{e:α->Dt}
end
section
variable{R:Result->A3->Prop}{I:A2}{wr:O A2}{P:Nat->A1->Prop}{St:Nat->A7->Prop}
end
section
variable{e:α->Dt}
end
def D4{α:Type}:O α->O α
 |[]=>[]
 |x::xs=>x::D4 (xs.drop 5)
termination_by l=>l.length
decreasing_by simp;omega
section
variable{st:Expr}{fs:Ev->S Bx}
end
section
variable{e:α->Dt}
end
section
variable{AT:O AC}{W:O Nat}
end
section
variable{e:α->Dt}
end
section
variable{st:O AC}{fr:Ev->S Bx}{W:O Nat}{z:Pos}{Φ:Hp->Hp->L2.St->Ev->Prop}
end
section
variable{AT:O AC}
end
end P1
namespace P1
open L2 S6
section
variable{p p' pos':Pos}
end
end P1
namespace P1
open L2 S1
section
variable{T:O AZ->A1->Prop}(inj:∀ k l v,T k v->T l v->k=l)
include inj
end
end P1
namespace P1
open L2 S1 S6
section
variable{e:α->Dt}{e':β->Dt}
end
end P1
namespace P1
open L2
section
variable{q:AK}{body:Expr}{f c':A2}{pm:A1}
end
end P1
namespace P1
open PySem PySem.Spec PySem.Calls PyProof.Rows L2 S1
def ON:{ f:String->Builtin // f "min"=Builtin.«min»/\f "max"=Builtin.«max» }:=by
 refine⟨?f,?a,?b⟩
 case a=>delta Builtin.«min»;rfl
 case b=>delta Builtin.«max»;rfl
def VX:{ f:String->CmpOp->Builtin // f "min" .Lt=Builtin.«min.loop»/\f "max" .Gt=Builtin.«max.loop» }:=by
 refine⟨?f,?a,?b⟩
 case a=>delta Builtin.«min.loop»;rfl
 case b=>delta Builtin.«max.loop»;rfl
structure MM (nm lp:String) (op:CmpOp):Prop where
 hk:builtinKind nm=none
 hp:plainId nm=true
 he:entryFor table nm=some (ON.1 nm)
 pl:plainId lp=true
 le:entryFor table lp=some (VX.1 nm op)
 hn:(toString nm++toString ".loop":String)=lp
 a1:∀a,argsOk nm ⟨[a],[]⟩
 a2:∀a b,argsOk nm ⟨[a,b],[]⟩
 ak:∀a v,argsOk nm ⟨[a],[(Str.ofString "key",v)]⟩
section
variable{nm lp:String}(hM:MM nm lp op){R:Result->A3->Prop}
include hM in
end
section
variable{nm lp:String}(hM:MM nm lp op){R:Result->A3->Prop}{I:A2}{wr:O A2}{P:Nat->A1->Prop}{St:Nat->A7->Prop}
include hM in
include hM in
end
end P1
namespace P1
open L2 S1
section
variable{body:Expr}{ak5 p kpos:Pos}{c P:A2}{q:AK}{bt:Dt->Dt->Bool}{okk:Dt->Bool}
end
end P1
namespace P1
open L2
section
variable{o:Expr}
end
end P1
namespace P1
open L2 S1
end P1
namespace P1
open L2 S1 S6
section
variable{e:α->Dt}{e':β->Dt}
def hk(q:AK×β):O AZ:=[.inr q.1]
end
end P1
namespace P1
open L2
section
variable [Inhabited α] {e:α->Dt}{k:Ev->S Ap}{cO:γ->Ap}
end
section
variable{k:Nat}{f:A2}{p:Pos}{fs:Ev->S (O Bx)}
end
end P1
namespace P1
open PySem PySem.Spec PySem.Calls PyProof.Rows L2
def lT(f:A2)(v:A1):Bool:=match v with
 |.ref g=>g==f
 |_=>false
section
variable{D:O (AK×A2)}{k:AK}{tk:Tok}
end
section
variable{D:O (AK×A2)}{dn:AK}{ek:Expr}{p0 p1 p3 q0 q1 q2 q3:Pos}{AT:O AC}{fh:Ev->S Bx}
end
end P1
namespace P1
open L2
def uP(o:AF):S (AK×A2):=match o.data with
 |.fields vs=>match vs[1]?,vs[11]? with
  |some (Value.str x _),Z (Value.ref P)=>if NC.contains x=true then Z (x,P)else U
  |_,_=>U
 |_=>U
def TN(K:B5):O (A2×AK):=K.filterMap λp=>(uP p.2).map λq=>(q.2,q.1)
def N3(x:AK):Array A1:=#[.str (x++(".<locals>.<lambda>":AK)) 0]
def Iy(K:B5):O (A2×Array A1):=(TN K).map λp=>(p.1,N3 p.2)
def CU(K:B5)(x:AK):S A2:=match nsIn K mainGlobals x with
 |some (Z (.ref f))=>match K.lookup f with
  |some a=>match a.data with
   |.func fd=>match fd.code with
    |.ref c=>Z c
    |_=>U
   |_=>U
  |none=>U
 |_=>U
def Cg(p:A4)(K:B5)(c:A2)(x:AK)(P:A2):Bool:=(recsOf p).any (λd=>d.name==x)&&CU K x==Z c&&(K.lookup c).bind uP==Z (x,P)&&(K.lookup P).isNone&&(TN K).lookup P==Z x
def SZ(p:A4)(K:B5):Bool:=K.all λr=>match uP r.2 with
 |none=>true
 |some (x,P)=>Cg p K r.1 x P
theorem wQ{α β γ:Type}[BEq α]{a:α}(f:β->γ):∀l:O (α×β),(l.map λp=>(p.1,f p.2)).lookup a=(l.lookup a).map f
 |[]=>rfl
 |(b,c)::l=>by
  simp only[zr,xf];split
  ·rfl
  ·exact wQ f l
theorem zO{α β:Type}[BEq α][LawfulBEq α]{a:α}{b:β}:∀{l:O (α×β)},l.lookup a=Z b->(a,b)∈l
 |[],h=>by cases h
 |(c,d)::l,h=>by
  rw[xf]at h;split at h
  ·rename_i e;cases h;rw[eq_of_beq e];exact zg ..
  ·exact zh _ (zO h)
theorem Wn{P:A2}(h:uP o=Z (x,P)):∃vs t,o.data=.fields vs/\vs[1]?=Z (.str x t)/\vs[11]?=Z (.ref P):=by
 unfold uP at h;cases a:o.data with
 |fields vs=>
  rw[a]at h;dsimp only at h;split at h
  ·rename_i y t Q e1 e2;split at h
   ·cases h;exact⟨vs,t,rfl,e1,e2⟩
   ·cases h
  ·cases h
 |_=>rw[a]at h;cases h
theorem D5{p:A4}{w:AK->S A1}{F:ExcName->S A1}{C:An}(g:SZ p K=true)(X:K.In h)(T:Top p C F mg w h):L2.Xu K h (Iy K):=by
 have n:∀c o x P,(c,o)∈K->uP o=Z (x,P)->Cg p K c x P=true:=λc o x P m e=>by
  have:=List.all_eq_true.mp g _ m;simp only[e]at this;exact this
 refine⟨λP q k=>?_,λP ps e=>?_⟩
 ·obtain⟨c,o,vs,x,t,e,d,v,m,f,j⟩:=k;subst j;have er:uP o=Z (x,P):=by
   unfold uP;simp only[d,v,f];rw[zk (mB.mpr m)]
  have z:=n c o x P (zO e) er;simp only[Cg,ZT,beq_iff_eq]at z;refine⟨N3 x,?_,rfl,Nat.zero_lt_one⟩;unfold Iy;rw[wQ,z.2];rfl
 ·unfold Iy at e;rw[wQ]at e;obtain⟨x,ex,rfl⟩:=dv.mp e;have m:=zO ex;obtain⟨⟨c,o⟩,Q,i⟩:=eG.mp m;obtain⟨⟨B,G⟩,i,j⟩:=dv.mp i;obtain⟨q1,q2⟩:=oi.inj j;have q1:G=P:=q1;have q2:B=x:=q2;rw[q1,q2]at i;have z:=n c o x P Q i;simp only[Cg,ZT,beq_iff_eq,kg,ma]at z;obtain⟨⟨⟨⟨⟨d,W,hx⟩,b⟩,M⟩,I⟩,_⟩:=z;obtain⟨a,o1,fd,c1,P1,t1,t2,u,E,_,l⟩:=T.tab d W;rw[hx]at t1;obtain⟨o',Y,J⟩:=Option.bind_eq_some_iff.mp M;obtain⟨vs,t,N,_,y⟩:=Wn J;have A:c1=c:=by
   unfold CU at b;split at b
   ·rename_i f D;have:=mg_of X T.g D;rw[t1]at this;cases this;split at b
    ·rename_i ob H;have:=X _ _ H;rw[t2]at this;cases this;split at b
     ·rename_i a3 s;rw[u]at s;cases s;rw[E]at b;cases b;rfl
     ·cases b
    ·cases b
   ·cases b
  subst A;have L:P1=P:=by
   obtain⟨⟨o2,ws,e1,_,e2,e3⟩,_⟩:=l;rw[X _ _ Y]at e1;cases e1;rw[N]at e2;cases e2;rw[y]at e3;cases e3;rfl
  subst L;exact⟨I,l.2,l.isCodeTable,rfl⟩
section
variable{e:α->Dt}{c:β->Bx}{fh:Ev->S Bx}{k:Ev->S Ap}{cO:γ->Ap}{tt:O (AK×(O α->β)×(O α->S Prop))}
end
end P1
namespace P1
open PySem PySem.Spec PySem.Calls PyProof.Rows L2 S1
end P1
namespace P1
open L2
section
variable{K:Type} [DecidableEq K] {knd:KeyKind prog w K}
end
end P1
namespace L2
end L2
namespace P1
open L2
section
variable{a b:Expr}{fs:Ev->S (O Bx)}
end
end P1
namespace P1
open L2 S1 S6
section
variable{e:α->Dt}{e':β->Dt}{e3:γ->Dt}{k:Ev->S Ap}{cO:δ->Ap}
end
end P1
namespace P1
open L2
section
variable{o f k v:Expr}{ff:Ev->S Bx}{keys:O (S Expr)}{values:O Expr}
end
section
variable{e:α->Dt}
end
end P1
namespace P1
open L2 S1
section
variable{kS:A2}{vs:O A1}{keys:Array A1}{e e1:Nat}{P:PySem.Fin->A3->Prop}
end
end P1
namespace P1
open L2 S6
section
variable{t1 i1 tY i2 tZ i3:Expr}{f1 f2 f3:O Expr}{g1 g2 g3:Dt->Ev->S Ev}{p1 p2 p3:Ev->S Bool}{fi1 fi2 fi3:Ev->S (O Dt)}{m m2:Nat}
section
variable{e:α->Dt}{e':β->Dt}{fs:Ev->S (O Dt)}
end
end
end P1
namespace P1
open L2 S1
def LW(ks:O Dt):S (O (O AZ)):=(uF ks).bind λdR=>if(dR.all (λk=>!k.isEmpty)&&dR.all λk=>dR.all λl=>Gx k l)=true then Z dR else U
def Fn:O Dt->S (O (O AZ))
 |[]=>Z []
 |.str x::ds=>(Fn ds).bind λr=>Z ([.inr x]::r)
 |_=>U
section
variable{k:Nat}{f:A2}
end
section
variable{p kp kpos:Pos}{k:Nat}{f:A2}
end
section
variable{body:Expr}{ak5 p kpos:Pos}{c P:A2}{q:AK}
end
end P1
namespace P1
open L2
section
variable{K:Type} [DecidableEq K] {knd:KeyKind prog w K}
end
end P1
namespace P1
open L2 S1 S6
section
variable{e:α->Dt}{e':β->Dt}
class HM {β:Type} (e':β->Dt) (kf:outParam (List Dt->Option (List (List AZ)))) where
 kk:β->List AZ
 ok:∀xs:List β,kf (xs.map e')=some (xs.map kk)
 inj:∀a b,kk a=kk b->a=b
instance [N8 e']:HM e' LW:=⟨N8.k e',λxs=>by
 unfold LW;rw[Ei,Au,zk];simp only[ZT,KF,jb,cc,forall_exists_index,and_imp,forall_apply_eq_imp_iff₂];exact⟨λa _=>N8.ne a,λa _ b _=>N8.shp a b⟩,N8.inj⟩
theorem Ux:∀xs:An,Fn (xs.map eS)=Z (xs.map λx=>[.inr x])
 |[]=>rfl
 |x::xs=>by
  rw[zr,eS,Fn,Ux xs,Au];rfl
instance:HM eS Fn:=⟨λx=>[.inr x],Ux,λa b h=>by cases h;rfl⟩
section
variable [HM e' kf] {κ:α->β}
structure SR (fe:Ev->Option Bx) (ρ:Ev) (e:α->Dt) where
 v:List α
 D:Option Prop
 ok:hold D->∃b,fe ρ=some b/\ux b=some (v.map e)
end
end
section
variable{e:α->Dt}{e':β->Dt}{fs:Ev->S (O Dt)}
end
section
variable{e:α->Dt}
end
end P1
namespace L2
end L2
namespace P1
open L2
section
variable{e1:Expr}{fs:Ev->S (O Bx)}
variable{e:α->Dt}{k:Ev->S Ap}{cO:γ->Ap}
end
section
variable{en:α->Dt}{k:Ev->S Ap}{cO:γ->Ap}
end
section
variable{a b:Expr}
variable{e1:α->Dt}{e2:β->Dt}{k:Ev->S Ap}{cO:γ->Ap}
end
end P1
namespace P1
open PySem PySem.Spec PySem.Calls PyProof.Rows L2 S1
end P1
namespace P1
open PySem PySem.Spec PySem.Calls PyProof.Rows L2
section
variable{o:Expr}{to:TE}
variable{p:Pos}
end
end P1
namespace P1
open L2 S1 S6
section
variable{e:α->Dt}
end
end P1
namespace P1
open L2 S6
theorem GD:entryFor table "set.__xor__"=Z Builtin.«frozenset.__xor__»:=entryFor_alias (id' :="frozenset.__xor__") (by kernel_rfl) X9 (by decide +kernel) (by kernel_rfl)
theorem l8:∀n,n<31->5<=n->dO ((0+n)*2)=if n<8 then 16 else if n<16 then 32 else 64:=by decide +kernel
theorem Es{hp:A7}{c:AF}{e1 e2:Array (Int×A1)}{d:Nat}{e b:SetTable}(g:hp.get? a=Z c)(q:c.data=.set e1 d e):(hp.update a (Obj.putSet e2 b)).get? a=Z { c with data:=.set e2 (d+1) b }:=by
 have:=QN (Obj.putSet e2 b) g (by rw[putSet_of e2 b q];rfl);rw[putSet_of e2 b q]at this;exact this
theorem ZR(e:h.get? a=Z (BH w)):Tx prog w h a []:=
 ⟨_,#[],0,_,e,⟨rfl,rfl,rfl⟩,rfl,.nil,Kk,rfl,λq=>by simp[ei,q],λq=>absurd q (jS _)⟩
section
variable{b:A2}
structure Mt (w:World) (n:Nat) (t:SetTable):Prop where
 pl:t.place=#[]
 du:t.dummies=#[]
 led:w.params.followText "set-order"=false->t.led=true
 rch:Ct t.mask
 le:n<=t.mask
theorem WF:Ct 7:=Kl VW
theorem VZ:Ct 15:=Kl iS
theorem ax:Ct 31:=Kl Of
theorem Tu:Ct 63:=Kl RH
def N9(es:Array (Int×A1))(laid:S (SetTable×Array Nat)):Sem (Array (Int×A1)×SetTable):=do
 let Z (t,order):=laid|unsupported "internal:set-table-without-room"
 let a:=order.filterMap (es[·]?)
 if a.size !=es.size then unsupported "internal:set-table-lost-an-element"
 pure (a,t)
def qH(D:A2)(a:Array (Int×A1))(to:SetTable)(M:Sem Unit):Sem Unit:=
 setState D >>= λx=>match x.2.2.road to with
 |.slotForSlot=>storeSet D a { to with finger:=x.2.2.finger,led:=x.2.2.led&&to.led,moves:=x.2.2.moves,plain:=x.2.2.plain&&to.plain }
 |.clean=>N9 a (kW x.2.2.mask x.2.2.finger x.2.2.moves (led:=x.2.2.led&&to.led) (plain:=x.2.2.plain&&to.plain) (a.map (·.1))) >>= λy=>storeSet D y.1 y.2
 |.oneByOne=>M
theorem RG{k:Nat}{t1 to:SetTable}{e:AF}{a:Array (Int×A1)}{M:Sem Unit}(b:s.heap.get? D=Z e)(c:e.data=.set #[] k t1)(hx:e.ExactSet)(m:Mt w a.size t1)(x:V7 prog w ys a to)(hs:a.size<100)(h0:0<a.size)(h:∀h' d,Heap.SameBut D s.heap h'->Tx prog w h' D d->(∀z,z∈d↔z∈ys)->Q gl { s with heap:=h' }):A8 (A9 prog w) A (qH D a to M) Q E s:=by
 unfold qH;have n:t1.fits (#[]:Array (Int×A1)).size=true:=by simp[eu,la,m.pl,m.du]
 refine zb (qf b c n ?_);dsimp only;have hp:=x.non h0;have j:t1.fill=0:=by simp[la,m.pl,m.du]
 have led:w.params.followText "set-order"=false->(t1.led&&to.led)=true:=λq=>by rw[m.led q,x.led q];rfl
 by_cases g:(t1.mask==to.mask&&to.dummies.isEmpty)=true
 ·have f:t1.road to=.slotForSlot:=by unfold oj;rw[j];simp only[bne_self_eq_false,zv,qc,g,QU]
  rw[f];dsimp only;refine kB b c ?_ (fits_of_scanBound (by have:scanBound=4096:=rfl;omega));exact h _ ys (Q4 ..) ⟨_,a,_,_,Es b c,hx,rfl,x.rel,x.nd,x.fit,led,λ_=>by show(t1.plain&&to.plain)=false;rw[hp,Ya]⟩ λz=>Iff.rfl
 ·have f:t1.road to=.clean:=by unfold oj;rw[j];simp only[bne_self_eq_false,zv,qc,g]
  rw[f];dsimp only;obtain⟨v,u,e3,pr,p,t,mk,ld,l⟩:=T6 (mask:=t1.mask) (finger:=t1.finger) (moves:=t1.moves) (led:=t1.led&&to.led) (plain:=t1.plain&&to.plain) (es:=a) m.rch m.le;rw[e3];unfold N9;have sz:(u.filterMap (λi=>a[i]?)).size=a.size:=by rw[<-qh,pr.length_eq,qh]
  refine zb ?_;dsimp only;rw[zw (by rw[sz];simp)];refine zd ?_;dsimp only;refine kB b c ?_ (fits_of_scanBound (by rw[sz];have:scanBound=4096:=rfl;omega));obtain⟨d,p',o⟩:=lA pr x.rel;refine h _ d (Q4 ..) ⟨_,_,_,_,Es b c,hx,rfl,o,p'.nodup_iff.mpr x.nd,?_,λq=>by rw[ld];exact led q,λ_=>by rw[l,hp,Ya]⟩ λz=>p'.mem_iff;have:=m.le;simp[eu,la,p,t,mk,sz,this]
theorem Wo{G:Sem Unit}(c:s.heap.get? D=Z (BH w))(v:Tx prog w s.heap b ys)(u:(D==b)=false)(X:ys.length<=30)(h:∀h' j,Heap.SameBut D s.heap h'->Tx prog w h' D j->(∀z,z∈j↔z∈ys)->Q gl { s with heap:=h' }):A8 (A9 prog w) A (setMerge D b G) Q E s:=by
 obtain⟨o,a,ep,to,H,P,L,x⟩:=id v;have W:=x.size;unfold setMerge;rw[zw (by rw[u];simp)];refine zb (qf H L x.fit ?_);dsimp only;by_cases d:a.isEmpty=true
 ·rw[zk d];have e0:ys=[]:=by
   have:a.size=0:=by simpa using d
   exact dd.mp ()
  exact zd (h s.heap [] (JU ..) (ZR c) λz=>by rw[e0])
 ·rw[zw d];have h0:0<a.size:=by
   rcases m8 a.size with q|q
   ·exact absurd (by simpa using q) d
   ·exact q
  have n:(ei 0 0 (!w.params.followText "set-order")).fits (#[]:Array (Int×A1)).size=true:=rfl;refine zb ?_;unfold setRoomFor;refine zb (qf c X9 n ?_);dsimp only;have K:(ei 0 0 (!w.params.followText "set-order")).roomFor a.size=if(0+a.size)*5>=7*3 then Z ((0+a.size)*2)else U:=rfl;have p:∀{M:Sem Unit} {s':A3} {k:Nat} {t1:SetTable},s'.heap.get? D=Z { BH w with data:=.set #[] k t1 }->Mt w a.size t1->Heap.SameBut D s.heap s'.heap->s'={ s with heap:=s'.heap }->A8 (A9 prog w) A (qH D a to M) Q E s':=λ{M s' k t1} g m sb es'=>by
   refine RG g X9 ⟨rfl,rfl,rfl⟩ m x () h0 λh' j I f y=>?_;rw[es'];exact h h' j (sb.trans I) f y
  rw[K];by_cases t:(0+a.size)*5>=7*3
  ·rw[zk t];dsimp only;unfold setRelay;refine zb (qf c X9 n ?_);dsimp only;have F:=l8 a.size () ();have e:Ct (dO ((0+a.size)*2)-1)/\a.size<=dO ((0+a.size)*2)-1/\¬ dO ((0+a.size)*2)>AB:=by
    rw[F];split
    ·exact⟨VZ,by omega,by decide⟩
    ·split
     ·exact⟨ax,by omega,by decide⟩
     ·exact⟨Tu,by omega,by decide⟩
   rw[zw e.2.2];obtain⟨f,l,e3,pr,B,C,mk,ld,N⟩:=T6 (mask:=dO ((0+a.size)*2)-1) (finger:=0) (moves:=(ei 0 0 (!w.params.followText "set-order")).movedTo (dO ((0+a.size)*2)-1)) (led:=!w.params.followText "set-order") (plain:=true) (es:=#[]) e.1 (qi _);have J:(ei 0 0 (!w.params.followText "set-order")).relaid ((#[]:Array (Int×A1)).map (·.1)) ((0+a.size)*2)=Z (f,l):=e3;rw[J];have sz:(l.filterMap (λi=>(#[]:Array (Int×A1))[i]?))=#[]:=by
    apply ym;rw[<-qh,pr.length_eq];rfl
   refine zb ?_;show A8 _ _ (if((l.filterMap (λi=>(#[]:Array (Int×A1))[i]?)).size !=(#[]:Array (Int×A1)).size)=true then _ else pure (l.filterMap (λi=>(#[]:Array (Int×A1))[i]?),f)) _ _ _;rw[sz,zw (by simp)];refine zd ?_;dsimp only;refine kB c X9 ?_ (qi _);show A8 _ _ (qH D a to _) _ _ _;refine p (s':={ s with heap:=_ }) (Es c X9) ⟨?_,C,λq=>by rw[ld,q];rfl,by rw[mk];exact e.1,by rw[mk];exact e.2.1⟩ (Q4 ..) rfl;exact ym B
  ·rw[zw t];dsimp only;refine zd ?_;show A8 _ _ (qH D a to _) _ _ _;exact(p c ⟨rfl,rfl,λq=>by show(!_)=true;rw[q];rfl,WF,by show _<=7;omega⟩ (JU ..) X9)
end
theorem Oo(xs:Array α)(p:Nat):(ej xs p).toList=xs.toList.eraseIdx p:=by
 unfold ej;rw[List.eraseIdx_eq_take_drop_succ];simp;exact gG (by simp)
theorem Oq{xs:Array α}{p:Nat}(h:p<xs.size):(ej xs p).size=xs.size-1:=by
 rw[<-qh,Oo,yv,zk (by simpa using h),qh]
theorem Et{α β:Type}{R:α->β->Prop}:∀{xs:O α} {us:O β} (n:Nat),AJ R xs us->AJ R (xs.eraseIdx n) (us.eraseIdx n)
 |_,_,n,.nil=>by simpa using .nil
 |_,_,0,.cons _ t=>t
 |_,_,n+1,.cons r t=>.cons r (Et n t)
theorem Wq(h:t.fits n=true)(a:j<n):(t.drop j).fits (n-1)=true/\(t.drop j).led=t.led/\(t.drop j).plain=t.plain:=by
 have h1:t.place.size=n:=by simp[eu]at h;exact h.1
 have h2:t.place.size+t.dummies.size<=t.mask:=by simp[eu,la]at h;exact QP h.2
 have hp:t.place[j]?=Z t.place[j]:=QR ();unfold SetTable.drop;rw[hp];refine⟨?_,rfl,rfl⟩;have e1:(ej t.place j).size=t.place.size-1:=Oq ();show((ej t.place j).size==n-1&&decide ((ej t.place j).size+(eX t.dummies (dr t.dummies t.place[j]) t.place[j]).size<=t.mask))=true;rw[YS,ZT];exact⟨by rw[beq_iff_eq];omega,qS ()⟩
section
variable{b:A2}
theorem Wr{Q:Bool->A3->Prop}(C:Tx prog w s.heap D zs)(G:y∈zs)(J:zs.length<1000)(h:∀h' c,Heap.SameBut D s.heap h'->Tx prog w h' D c->(∀z,z∈c↔z∈zs/\z≠y)->c.length<1000->Q true { s with heap:=h' }):A8 (A9 prog w) A (setDiscardHashed D (.str y tk) ((strKind prog w).hash y)) Q E s:=by
 obtain⟨o,es,ep,t,a,v,b,x⟩:=id C;have I:=x.size;have m:=x.elems;have F:=strKind_is prog w y tk;unfold setDiscardHashed setFind setFindIn;refine zb (zb (qf a b x.fit ?_));dsimp only;rw[byScan_of (knd:=strKind prog w) (x:=.str y tk) X9 (by have:scanBound=4096:=rfl;omega) m];simp only[↓reduceIte];refine zb (ka (zb (wpAny_setScan_of F a b x.fit m ?_)));cases i:es.toList.findIdx? (λe=>(strKind prog w).is y e.2)with
 |none=>exact absurd G ((uH x.rel).mp i)
 |some j=>
  dsimp only;obtain⟨u,hp,_⟩:=List.findIdx?_eq_some_iff_getElem.mp i;have p:j<es.size:=by simpa using u
  have n:j<zs.length:=by omega
  have B:zs[j]=y:=by
   have:∀{zs:An} {l:O (Int×A1)} (j:Nat) (h1:j<l.length) (h2:j<zs.length),AJ (Dq prog w) zs l->(strKind prog w).is y l[j].2=true->zs[j]=y:=by
    intro zs l j h1 h2 hp
    induction hp generalizing j with
    |nil=>cases h1
    |cons r _ H=>
     cases j with
     |zero=>exact λq=>((Kg r).mp q).symm
     |succ j=>exact H j (by simpa using h1) (by simpa using h2)
   exact this j u n x.rel hp
  refine zd ?_;dsimp only;rw[K0];refine zb (qf a b x.fit ?_);dsimp only;have g:=Oq (xs:=es) p;obtain⟨f1,f2,f3⟩:=Wq x.fit p;refine zb (kB a b ?_ (fits_of_scanBound (by rw[g];have:scanBound=4096:=rfl;omega)));refine zb (wpAny_point (zd ?_));have d:=BP (xs:=zs) n;rw[B]at d;have f:=(d.nodup_iff).mpr x.nd;rw[cT]at f;refine h _ (zs.eraseIdx j) (Q4 ..) ⟨_,_,_,_,Es a b,v,rfl,by rw[Oo];exact Et j x.rel,f.2,by rw[g];exact f1,λq=>f2.trans (x.led q),λ_=>f3.trans (x.non ())⟩ (λz=>?_) (by rw[yv];split<;>omega);rw[<-d.mem_iff,js];constructor
  ·exact λq=>⟨.inr q,λe=>f.1 (e▸q)⟩
  ·exact λq=>q.1.elim (λe=>absurd e q.2) id
theorem RJ{Q:Bool->A3->Prop}(j:Tx prog w s.heap b ys)(i:Tx prog w s.heap D zs)(h:Q true s):A8 (A9 prog w) A (setsQuiet [b,D]) Q E s:=by
 unfold setsQuiet;refine zb ?_;refine wpAny_forIn_list _ (λAT r s'=>r.1=U/\s'=s/\∀c∈AT,∃us,Tx prog w s.heap c us) _ (λc AT r s' a=>?_) (λr s' a=>?_) _ _ ⟨rfl,rfl,λc d=>?_⟩
 ·obtain⟨h1,rfl,h2⟩:=a;obtain⟨us,o,es,ep,t,g,p,l,x⟩:=h2 c (zg ..);unfold setEntries;refine zb (zb (qf g l x.fit (zd ?_)));dsimp only;refine zb ?_;rw[<-ni];refine wpAny_forIn_list _ (λAT r f=>r.1=U/\f=s'/\∃us,AJ (Dq prog w) us AT) _ (λe AT r f a=>?_) (λr f a=>?_) _ _ ⟨rfl,rfl,us,x.rel⟩
  ·obtain⟨i1,rfl,us,i2⟩:=a;cases i2 with
   |cons q t=>
    obtain⟨tk,rfl⟩:=q;exact zd ⟨rfl,rfl,_,t⟩
  ·obtain⟨i1,rfl,_⟩:=a;obtain⟨m,n⟩:=r;cases i1;exact zd ⟨rfl,rfl,λc d=>h2 c (zh _ d)⟩
 ·obtain⟨h1,rfl,_⟩:=a;obtain⟨m,n⟩:=r;cases h1;exact zd h
 ·rcases List.mem_cons.mp d with rfl|d
  ·exact⟨_,j⟩
  ·rw[bN.mp d];exact⟨_,i⟩
end
section
variable{b:A2}
theorem vI(x:Tx prog w h a ys):∃o,h.get? a=Z o/\o.cls=.type "set":=let ⟨o,_,_,_,e,c,_⟩:=x;⟨o,e,c.1⟩
theorem Ci{Q:Bool->A3->Prop}(x:Tx prog w s.heap a ys)(h:Q true s):A8 (A9 prog w) A (Builtin.Frozenset.isAnySet (.ref a)) Q E s:=by
 unfold Builtin.Frozenset.isAnySet;exact zb (JE (T :="set") (b:=true) (vI x) (by rw[isSubtype_type];kernel_rfl) (zd h))
theorem ZS{Q:B8}(x:Tx prog w s.heap a ys)(h:Q (.type "set") s):A8 (A9 prog w) A (Builtin.Frozenset.baseOf a) Q E s:=by
 unfold Builtin.Frozenset.baseOf;exact zb (JE (T :="set") (b:=true) (vI x) (by rw[isSubtype_type];kernel_rfl) (zd h))
end
section
theorem Uy{α:Type}[DecidableEq α]:∀{xs ys:O α},xs.Nodup->(∀z,z∈xs->z∈ys)->xs.length<=ys.length
 |[],_,_,_=>qi _
 |x::xs,ys,hn,hs=>by
  obtain⟨h1,h2⟩:=cT.mp hn;have hx:=hs x (zg ..);have:=Uy (ys:=ys.erase x) h2 λz a=>(hO (λe:z=x=>h1 (by rw[<-e];exact a))).mpr (hs z (zh _ a));rw[Y1 hx]at this;have:=gu hx;rw[ZZ];omega
variable{e1:Expr}{f1 f2:Ev->S An}
end
section
variable{f1 f2:Ev->S An}
end
end P1
namespace P1
open L2
section
variable{e:α->Dt}
end
section
variable{ts:An}
def ZV(X:Cx)(ifs:O Expr)(tc:TT):Prop:=(ifs=[]/\tc=λ_ H Q=>Q true H)\/∃c,ifs=[c]/\PT X c tc
theorem RK{d:Nat}{e2:Pos}{R:Result->A3->Prop}{g:TG}(n:Nat)(W V:Nat->L2.St->Hp->Prop)(b0:X.calm=true)(hx:X.xe=λ_ _=>False)(Bu:PG X tgt g)(d4:ZV X ifs tc)(c4:∀i AO s σ H,i<n->L2.AV X AO σ H s->V i σ H->A8 (db X) X.A (el D X.env) (λ_ s'=>∃ σ' H',L2.AV X AO σ' H' s'/\W (i+1) σ' H') X.xe s)(I:L2.AV X AO σ H s)(w0:W 0 σ H)(T:CC X.prog X.w X.K tgt J fp it tn)(st:tn 0 s.heap)(hf:∀b∈fp,nD X AO H b)(e0:∀i σ H,i<n->W i σ H->J.go i H/\∀x H1,J.yld i H x H1->g x σ H1 λG H2=>tc G H2 λb H3=>if b=true then V i G H3 else W (i+1) G H3)(b4:∀ σ H,W n σ H->J.stop n H)(e1:∀(it:A1) (D:A2) (env:Env),compTurn comp d it (.ref D) env=(standAt e2 >>= λ_=>pyNext it >>= λr=>match r with
   |none=>pure (.done .next)
   |some v=>letOwnedTupleGo tgt it v >>= λ_=>assign tgt env v >>= λ_=>(forIn ifs true λc r=>if r=true then isTrue c env (eval c env) >>= λok=>pure (ForInStep.yield ok)else pure (ForInStep.yield r)) >>= λok=>if ok=true then el D env >>= λ_=>again (.compLoop comp d it (.ref D) env)else again (.compLoop comp d it (.ref D) env)))(d3:∀{it N:A1} {env:Env} {Q:Fin->A3->Prop} {E:B8} {s:A3},A8 (db X) X.A ((compTurn comp d it N env).onRaise (λx=>noteFrame x env >>= λ_=>theTreesLotGoes x)) Q E s->A8 (db X) (X.A.under (.compLoop comp d it N env)) ((db X).den (.compLoop comp d it N env)) Q E s)(hR:∀s' σ' H',L2.AV X AO σ' H' s'->W n σ' H'->R (.ok .next) s'):
  AG (db X) X.A (.compLoop comp d (.ref it) (.ref D) X.env) R s:=by
 have L:∀{H':Hp},(∀b∈fp,H' b=U)->∀b∈fp,nD X AO H' b:=λ{H'} hn b a=>⟨hn b a,(hf b a).2⟩;refine codeAny_loop X9 (λk s'=>∃(i:Nat) (σ':L2.St) (H':Hp),k=n-i/\i<=n/\L2.AV X AO σ' H' s'/\tn i s'.heap/\(∀b∈fp,H' b=U)/\W i σ' H') ?_ n
  ⟨0,σ,H,by simp,qi _,I,st,λb a=>(hf b a).1,w0⟩
 rintro k s4 ⟨i,p,C,rfl,hi,I4,a5,a3,M⟩;refine d3 (wpAny_noted ?_);rw[e1];by_cases y:i<n
 ·obtain⟨go,yl⟩:=e0 i p C y M;refine zb (jI (zb ?_));refine gK (T.item X X9 X9 X9 b0 i AO s4 p C _ I4 (L a3) a5 go) λr s5 ⟨u,hr,h5⟩=>?_;subst hr;refine zb (gK h5 λ_ s6 ⟨x,H6,I6,r6,y6,D4,fr6⟩=>?_);have c5:=I6.pinned (L fr6) (T.obj _ _ D4);have ha:=Bu _ s6 p H6 x u _ c5 r6 (yl x H6 y6);rw[hx]at ha;refine zb (ZA ha (λ_ s7 h7=>?_) λ_ _ z=>z.elim);obtain⟨j,Y,I7,q7⟩:=h7;have ht:A8 (db X) X.A (forIn ifs true λc r=>if r=true then do let ok <-isTrue c X.env (eval c X.env);pure (ForInStep.yield ok)else pure (ForInStep.yield r))
    (λok F=>∃f,L2.AV X (AO++tL fp s6.heap) j f F/\if ok=true then V i j f else W (i+1) j f) (notedBy (db X) X.A X.env λe s'=>R (.error e) s') s7:=by
   rcases d4 with⟨rfl,rfl⟩|⟨c,rfl,hc⟩
   ·exact wpAny_tests_nil ⟨Y,I7,q7⟩
   ·refine wpAny_tests_one ?_;have:=hc _ s7 j Y _ I7 q7;rw[hx]at this;exact ZA this (λb F ⟨f,B,h⟩=>⟨f,B,h⟩) λ_ _ z=>z.elim
  refine zb (ZA ht (λok F h8=>?_) λ_ _ z=>z);obtain⟨f,B,h⟩:=h8;have CT:∀{q:L2.St} {l:Hp} {t:A3},L2.AV X (AO++tL fp s6.heap) q l t->L2.AV X AO q l t/\tn (i+1) t.heap/\∀b∈fp,l b=U:=λ{q l t} m=>by
   refine⟨m.nF,T.keep _ _ _ D4 λb a o e=>(m.pin (b,o) (Zs _ (Zs _ (jX a e)))).1,λb a=>?_⟩;obtain⟨o,e,d⟩:=T.obj _ _ D4 b a;exact(m.pin (b,o) (Zs _ (Zs _ (jX a e)))).2.1
  cases ok with
  |false=>
   rw[zw z5]at h;obtain⟨m,d1,c6⟩:=CT B;exact zd ⟨rfl,n-(i+1),by omega,i+1,j,f,rfl,y,m,d1,c6,h⟩
  |true=>
   rw[zk rfl]at h;have P:=c4 i _ F j f y B h;rw[hx]at P;refine zb (ZA P (λ_ e3 d2=>?_) λ_ _ z=>z.elim);obtain⟨q,l,Yc,d0⟩:=d2;obtain⟨b5,c3,b6⟩:=CT Yc;exact zd ⟨rfl,n-(i+1),by omega,i+1,q,l,rfl,y,b5,c3,b6,d0⟩
 ·have:i=n:=by omega
  subst this;refine zb (jI (zb ?_));refine gK (T.done X X9 X9 X9 b0 i AO s4 p C _ I4 (L a3) a5 (b4 _ _ M)) λr s5 ⟨hr,I5⟩=>?_;subst hr;exact zd (hR s5 p C I5 M)
def Me(te:TE)(D:A2)(W:L2.St->Hp->Prop):L2.St->Hp->Prop:=λσ H=>te σ H λv a=>∃us,a D=Z (.lst us)/\us.length<AB/\W σ (B1 a D (.lst (us++[v])))
def Eu(ns:Nat)(is:O Nat)(i:Nat)(d:TI)(g:TG)(tc:TT)(te:TE):TS:=λDn σ H=>d σ H λJ H2=>∃(n:Nat) (W:A2->Nat->L2.St->Hp->Prop),
 (∀D,H2 D=U->W D 0 (vU is σ++ba ns U) (B1 H2 D (.lst []))) ∧
 (∀D i σ H,H2 D=U->i<n->W D i σ H->J.go i H/\∀x H1,J.yld i H x H1->g x σ H1 λa H2=>tc a H2 λb c=>if b=true then Me te D (W D (i+1)) a c else W D (i+1) a c) ∧
 (∀D σ H,W D n σ H->J.stop n H) ∧
 ∀D σ' H',H2 D=U->W D n σ' H'->Dn.nx (σ.set i (Z (.ref D))) H'
theorem Ot(i:Nat){py spos:Pos}{wi:TI}{g:TG}(ts:An)(O:nJ X scope cl xs is)(e4:X.calm=true)(hN:X.N.Nodup)(hi:PI X tgt iter wi)(Bu:∀C l u fp,PG (um X (xs++ts) scope cl C l u fp) tgt g)(d4:∀C l u fp,ZV (um X (xs++ts) scope cl C l u fp) ifs tc)(c3:∀C l u fp,PE (um X (xs++ts) scope cl C l u fp) elt te)(d3:swapsWith (.ListComp elt [⟨tgt,iter,ifs,0⟩] scope pos) (Z (.Name y py)) spos.line X.env=pure true:=by with_unfolding_all rfl)(hy:X.N[i]?=Z y:=by rfl)(hx:D2 X.env.scope y:=by first|exact ko rfl|exact jv X9)(hf:X.fn y=true\/X.env.scope.names.lookup y=Z .local:=by first|exact .inl rfl|exact .inr X9)(hs:∀x,foldedSetIterable iter X.env x=pure x:=by intro _;rfl):PS X (.Assign [.Name y py] (.ListComp elt [⟨tgt,iter,ifs,0⟩] scope pos) spos) (Eu ts.length is i wi g tc te):=λAO s σ H Dn I h=>by
 rw[exec_Assign_Name_used _ _ _ _ d3];refine zb (jI (zb ?_));show A8 _ X.A (do let _ <-comprehension (.ListComp elt [⟨tgt,iter,ifs,0⟩] scope pos) scope X.env _ (newList []) false (eval iter X.env) (Z (assign (.Name y py) X.env))) _ _ s;refine zb (ZA (JP (use:=Z (assign (.Name y py) X.env)) (Q:=λ_ s'=>SP X AO Dn .next s') X9 hs O.clos O.kind O.names ?_) (λ_ s' L=>zd (zd L)) λ_ _ e=>e);refine gK (hi AO s σ H _ I h) λv s1 h1=>gK h1 λg0 a h2=>?_;obtain⟨it,fp,tn,J,H2,rfl,I2,T,st,b5,n,W,w0,ws,we,wd⟩:=h2;refine qo (HF ?_);have Y:H2 a.heap.objs.size=U:=I2.hok.fresh (zl _);have K:L2.AV X AO σ (B1 H2 a.heap.objs.size (.lst [])) { a with heap:=a.heap.push (seqObj "list" #[] 0) }:=
  I2.laid (t':=a.toks) (λb o e=>ze _ e) (zl _) ⟨qi _,[],0,.nil,zt _ rfl⟩
 have Ye:∀b∈fp,b<a.heap.objs.size:=λb f=>let ⟨o,e,_⟩:=T.obj 0 _ st b f;zz e;have a3:∀b∈fp,nD X AO (B1 H2 a.heap.objs.size (.lst [])) b:=λb f=>⟨by rw[aD (zS (Ye b f))];exact(b5 b f).1,(b5 b f).2⟩;have b0:tn 0 (a.heap.push (seqObj "list" #[] 0)):=T.keep 0 _ _ st λb f o e=>ze _ e;have G:∀b∈fp,b<(a.heap.push (seqObj "list" #[] 0)).objs.size:=λb f=>by rw[qB];exact QQ (Ye b f)
 have c4:=w0 _ Y;generalize d1:({ a with heap:=a.heap.push (seqObj "list" #[] 0) }:A3)=s3 at *
 have e5:s3.heap=a.heap.push (seqObj "list" #[] 0):=by rw[<-d1]
 rw[<-e5]at b0 G;have IC:=Ms (ts:=ts) K O a3 G;have b4:tn 0 (pushCells (s3.heap.push { cls:=.type "dict",data:=.dict #[] }) scope.names):=T.keep 0 _ _ b0 λb f o e=>pushCells_keeps _ _ b o (ze _ e);have X8:∀b∈fp,nD (um X (xs++ts) scope cl s3.heap.objs.size s3 (B1 H2 a.heap.objs.size (.lst [])) fp) [] (B1 H2 a.heap.objs.size (.lst [])) b:=λb f=>by
  obtain⟨f0,f1,f2,f3,t,B⟩:=a3 b f;refine⟨f0,zS (G b f),λz=>?_,.inl f,λx c e z=>?_,λq L=>absurd (show q∈([]:List (A2×AF)) from L) (by simp)⟩
  ·rcases List.mem_cons.mp (K.yV b z)with q|q
   ·exact f1 q
   ·exact f2 q
  ·rcases u9 _ _ _ x c e with h|h
   ·exact t x c (O.sub.get h) z
   ·rw[z]at h;exact absurd (ZO (G b f) (ly h)) (jS _)
 have lp:=RK (X:=um X (xs++ts) scope cl s3.heap.objs.size s3 (B1 H2 a.heap.objs.size (.lst [])) fp) (D:=a.heap.objs.size) (R:=compPost (db X) X.A X.xe (Z (assign (.Name y py) X.env)) (λ_ s'=>SP X AO Dn .next s') (.ref a.heap.objs.size) s3.heap.objs.size) (comp:=.ListComp elt [⟨tgt,iter,ifs,0⟩] scope pos) (d:=0)
  n (W a.heap.objs.size) (λi=>Me te a.heap.objs.size (W a.heap.objs.size (i+1))) e4 X9 (Bu _ _ _ _) (d4 _ _ _ _) (el:=λD env=>do let _ <-call (.builtin "list.append") [.ref D,<-eval elt env]) (λi AO s σ H _ I v=>by
   refine zb (ZA (c3 _ _ _ _ AO s σ H _ I v) (λv s9 h9=>?_) λ_ _ z=>z);obtain⟨x,H9,I9,rx,us,e9,l9,w9⟩:=h9;refine zb (ZA ((m7 (X:=um X (xs++ts) scope cl s3.heap.objs.size s3 (B1 H2 a.heap.objs.size (.lst [])) fp)) _ s9 σ H9 (.ref a.heap.objs.size) [x] (.ref a.heap.objs.size) [v] (λ_ M=>W a.heap.objs.size (i+1) σ M) I9 X9 (.cons rx .nil) ⟨_,us,x,rfl,rfl,e9,l9,w9⟩) (λw g1 d2=>?_) λ_ _ z=>z);obtain⟨_,M,Yc,_,d0⟩:=d2;exact zd ⟨σ,M,Yc,d0⟩) IC c4 T b4 X8 (ws _ · · · Y) (we _) (λ_ _ _=>X9) (λh=>h) λF e6 E j w5=>?_
 ·exact codeAny_compStart_list lp (T.self _ 0 _ _ _ b4 lp)
 ·have I':L2.AV X AO σ E F:=K.call' (ch:=fp) j.os j.base j.hok j.bare λb f=>by
   obtain⟨f0,f1,f2,f3,t,B⟩:=a3 b f;exact⟨f3,f1,t,B⟩
  obtain⟨m,hn,_⟩:=j.loc;have fC:=K.Qd (zl _) j.free;show A8 _ X.A (assign (.Name y py) X.env (.ref a.heap.objs.size)) _ _ F;obtain⟨f0,f1,f2,f3,t,B⟩:=fC;obtain⟨p,e3,ep,c5,a5,e0⟩:=id hn;have b6:L2.AV X (AO++[(s3.heap.objs.size,p)]) σ E F:=I'.xK λpp hp=>by
   rcases List.mem_append.mp hp with z|z
   ·exact I'.pin pp (Zs _ z)
   ·have:pp=(s3.heap.objs.size,p):=by simpa using z
    subst this;exact⟨c5,f0,f1,f2,λv z=>by rw[a5]at z;cases z⟩
  refine gK (L2.qP hN hy hx hf (AO++[(s3.heap.objs.size,p)]) F σ E (.ref a.heap.objs.size) (.ref a.heap.objs.size) (λσ' P=>σ'=σ.set i (Z (.ref a.heap.objs.size))/\P=E) b6 X9 ⟨rfl,rfl⟩) λ_ s'' ⟨σ',P,J',e1,e2⟩=>?_;subst e1 e2;have c6:=(J'.pin (s3.heap.objs.size,p) (by simp)).1;refine⟨m,⟨p,e3,ep,c6,a5,e0⟩,λh' sb=>?_⟩;exact⟨σ.set i (Z (.ref a.heap.objs.size)),P,J'.nF.turned (t':=s''.toks) (λb o f e=>(sb.2 b f).trans e) f0 f1 f3 t B,wd _ _ _ Y w5⟩
end
def Mv(X:Cx)(Q:Hp->Prop)(H:Hp):Prop:=∀(AO:O (A2×AF)) (σ:L2.St) (s:A3),L2.AV X AO σ H s->∃H',L2.AV X AO σ H' s/\Q H'
section
variable{Q Q':Hp->Prop}{ks:O V}
theorem Mv.Dw(e:H a=Z (.iU o (.lst ks)))(b:∀c u,X.H₀ a≠Z (.iU c u))(h:Q (B1 H a (.lst ks))):Mv X Q H:=λp σ s I=>⟨_,LU b I e,h⟩
theorem Mv.iU(e:H a=Z (.lst ks))(h:∀o,Q (B1 H a (.iU o (.lst ks)))):Mv X Q H:=λp σ s I=>let ⟨o,I'⟩:=qR I e;⟨_,I',h o⟩
def DV(X:Cx)(te:TE):TE:=λσ H Q=>te σ H λv H1=>Mv X (λH2=>Q v H2) H1
theorem Ou(h:PE X e te):PE X e (DV X te):=λAO s σ H Q I q=>gK (h AO s σ H _ I q) λu s1 ⟨v,H1,I1,rv,m⟩=>let ⟨H2,I2,q⟩:=m _ _ _ I1;⟨v,H2,I2,rv,q⟩
theorem ZW{st:O AC}{t:TS}(h:wM X st t):wM X st (λD σ H=>Mv X (t D σ) H):=λAO s σ H D I m=>let ⟨H1,I1,q⟩:=m _ _ _ I;h AO s σ H1 D I1 q
def RC(X:Cx)(t:TS):TS:=λD σ H=>t { D with nx:=λσ H=>Mv X (D.nx σ) H } σ H
theorem UU{st:O AC}{t:TS}(h:wM X st t):wM X st (RC X t):=λAO s σ H D I q=>gK (h AO s σ H _ I q) λf c z=>by
 cases f with
 |next=>
  obtain⟨σ',H',a,m⟩:=z;obtain⟨H2,b,q⟩:=m _ _ _ a;exact⟨σ',H2,b,q⟩
 |_=>exact z
end
abbrev W4(x:An):Dt:=.lst (x.map .str)
def Dx(fz:Bool)(H:Hp)(p:A2)(x:An):Prop:=match fz with
 |true=>∃o,H p=Z (.iU o (.lst (x.map .str)))
 |false=>H p=Z (.lst (x.map .str))
theorem Dx.mono{fz:Bool}{H':Hp}{p:A2}{x:An}(h:Dx fz H p x)(s:∀u,H p=Z u->H' p=Z u):Dx fz H' p x:=by
 cases fz with
 |true=>obtain⟨o,e⟩:=h;exact⟨o,s _ e⟩
 |false=>exact s _ h
structure oO (X:Cx) (H0 Hb:Hp) (ρ:Ev) (fz:Bool) (L:List An) (a:Addr) (ps:List Addr) (σ:L2.St) (H:Hp):Prop where
 env:aV X.K H0 Hb σ ρ
 sub:AW Hb H
 at2:σ[2]?=some (some (.ref a))
 out:H a=some (.lst (ps.map .ref))
 na:Hb a=none
 nd:ps.Nodup
 len:L.length=ps.length
 inn:∀(k:Nat) x p,L[k]?=some x->ps[k]?=some p->Hb p=none/\Dx fz H p x
 sz:∀x∈L,∀y∈x,y.length<=sizeLine
 hx:∀b ob u,X.H₀ b=some (.iU ob u)->Hb b≠none
section
variable{H':Hp}{fz:Bool}{ps:O A2}
theorem oO.get(h:oO X H0 Hb ρ fz L a ps σ H){p:A2}(hp:p∈ps):∃(k:Nat) (x:An),L[k]?=Z x/\ps[k]?=Z p:=by
 obtain⟨k,hk,e⟩:=KG hp;exact⟨k,L[k]'(by rw[h.len];exact hk),zo _,by rw[<-e];exact zo hk⟩
theorem oO.Uz(h:oO X H0 Hb ρ fz L a ps σ H):a∉ps:=λm=>by
 obtain⟨k,x,ex,ep⟩:=h.get m;have hi:=(h.inn k x a ex ep).2;cases fz with
 |true=>
  obtain⟨o,e⟩:=hi;rw[h.out]at e;cases e
 |false=>
  have e:H a=Z (.lst (x.map .str)):=hi;rw[h.out]at e;have e:ps.map V.ref=x.map V.str:=by injection e with e;injection e
  cases ps with
  |nil=>cases m
  |cons p r=>
   cases x with
   |nil=>cases e
   |cons y z=>cases e
theorem oO.grow(h:oO X H0 Hb ρ fz L a ps σ H)(s:AW H H'):oO X H0 Hb ρ fz L a ps σ H':=
 ⟨h.env,h.sub.trans s,h.at2,s _ _ h.out,h.na,h.nd,h.len,λk x p e1 e2=>⟨(h.inn k x p e1 e2).1,(h.inn k x p e1 e2).2.mono λu e=>s _ _ e⟩,h.sz,h.hx⟩
theorem UG{K:B5}:∀{L:O An} {ps:O A2},L.length=ps.length->(∀(k:Nat) x p,L[k]?=Z x->ps[k]?=Z p->Dx true H p x)->(∀x∈L,∀y∈x,y.length<=AB)->aO K H (L.map W4) (ps.map .ref)
 |[],[],_,_,_=>aO.nil
 |x::L,p::ps,hl,h,z=>by
  obtain⟨o,e⟩:=h 0 x p X9 rfl;refine aO.cons ?_ (UG (by simpa using hl) (λk x p e1 e2=>h (k+1) x p e1 e2) λx hx=>z x (zh _ hx));show AX K H (.lst _) _;rw[AX];exact⟨p,_,rfl,.inl ⟨o,e⟩,nQ (z x zg)⟩
 |[],_::_,hl,_,_=>by cases hl
 |_::_,[],hl,_,_=>by cases hl
theorem CA{l:O (S α)}{v:S α}(h:l[i]?=Z v):l.set i v=l:=by
 apply YU;intro j;rw[Ki];split
 ·rename_i e;subst e;rw[zk (cf.mp h).1,h]
 ·rfl
theorem oO.ZX(h:oO X H0 Hb ρ true L a ps σ H):aV X.K H0 H σ (ρ.set 2 (Z (.o (L.map W4)))):=by
 have:=h.env.set (i:=2) (b:=.o (L.map W4)) (v:=.ref a) h.sub ⟨a,_,rfl,h.out,UG h.len (λk x p e1 e2=>(h.inn k x p e1 e2).2) h.sz⟩ (.inl X9) λb e=>by cases e;exact h.na
 rwa [CA h.at2]at this
theorem oO.ix(h:oO X H0 Hb ρ true L a ps σ H){k:Nat}(hk:k<L.length):∃x p,L[k]?=Z x/\ps[k]?=Z p/\Hb p=U/\(∃o,H p=Z (.iU o (.lst (x.map .str))))/\(∀c u,X.H₀ p≠Z (.iU c u))/\(∀y∈x,y.length<=AB)/\p≠a:=by
 have b:k<ps.length:=by rw[<-h.len];exact hk
 have e1:L[k]?=Z L[k]:=zo hk;have e2:ps[k]?=Z ps[k]:=zo b;obtain⟨n,o⟩:=h.inn k _ _ e1 e2;exact⟨_,_,e1,e2,n,o,λc u z=>h.hx _ _ _ z n,h.sz _ (yi hk),λz=>h.Uz (z▸yi b)⟩
theorem oO.put(h:oO X H0 Hb ρ true L a ps σ H){k:Nat}{x x':An}{p:A2}(hk:L[k]?=Z x)(hp:ps[k]?=Z p)(c:∀b u,b≠p->H b=Z u->H' b=Z u)(e:H' p=Z (.iU o (.lst (x'.map .str))))(z:∀y∈x',y.length<=AB):oO X H0 Hb ρ true (L.set k x') a ps σ H':=by
 have f:=(h.inn k x p hk hp).1;have i:p∈ps:=ZI hp;refine⟨h.env,λb u eb=>c b u (λq=>by rw[q,f]at eb;cases eb) (h.sub b u eb),h.at2,c _ _ (λq=>h.Uz (q▸i)) h.out,h.na,h.nd,by rw[qv];exact h.len,λg y q e1 e2=>?_,λy j=>?_,h.hx⟩
 ·by_cases d:g=k
  ·subst d;rw[QE (cf.mp hk).1]at e1;cases e1;rw[hp]at e2;cases e2;exact⟨f,o,e⟩
  ·rw[kD (ja d)]at e1;obtain⟨n,w⟩:=h.inn g y q e1 e2;exact⟨n,w.mono λu=>c _ u λl=>d ((nB (cf.mp e2).1 h.nd).mp (by rw[e2,hp,l]))⟩
 ·rcases md j with q|q
  ·exact h.sz y q
  ·rw[q];exact z
theorem oO.more(h:oO X H0 Hb ρ true L a ps σ H){x:An}{p:A2}(g:H p=U)(f:∀b u,b≠p->b≠a->H b=Z u->H' b=Z u)(e:H' p=Z (.iU o (.lst (x.map .str))))(ea:H' a=Z (.lst (ps.map .ref++[.ref p])))(z:∀y∈x,y.length<=AB):oO X H0 Hb ρ true (L++[x]) a (ps++[p]) σ H':=by
 have d:Hb p=U:=h.sub.free g;have np:p∉ps:=λm=>by
  obtain⟨k,y,e1,e2⟩:=h.get m;obtain⟨o,w⟩:=(h.inn k y p e1 e2).2;rw[g]at w;cases w
 refine⟨h.env,λb u eb=>f b u (λq=>by rw[q,d]at eb;cases eb) (λq=>by rw[q,h.na]at eb;cases eb) (h.sub b u eb),h.at2,by rw[ZN];exact ea,h.na,List.nodup_append.mpr ⟨h.nd,xo ..,λb d c i q=>np (by have:=bN.mp i;rw[this]at q;exact q▸d)⟩,by simp[h.len],λk y q e1 e2=>?_,λy j=>?_,h.hx⟩
 ·by_cases hk:k<L.length
  ·rw[ZH hk]at e1;rw[ZH (by rw[<-h.len];exact hk)]at e2;obtain⟨n,w⟩:=h.inn k y q e1 e2;exact⟨n,w.mono λu=>f _ u (λz=>np (z▸ZI e2)) λz=>h.Uz (z▸ZI e2)⟩
  ·rw[Z3 (xc hk)]at e1;rw[Z3 (by rw[<-h.len];exact xc hk),<-h.len]at e2;have:k-L.length=0:=by
    have:=(cf.mp e1).1;simpa using this
   rw[this]at e1 e2;cases e1;cases e2;exact⟨d,o,e⟩
 ·rcases List.mem_append.mp j with q|q
  ·exact h.sz y q
  ·rw[bN.mp q];exact z
theorem oO.sl(h:oO X H0 Hb ρ fz L a ps σ H)(b:j≠2)(v:S V){ρ':Ev}(e:aV X.K H0 Hb (σ.set j v) ρ'):oO X H0 Hb ρ' fz L a ps (σ.set j v) H:=⟨e,h.sub,by rw[kD b];exact h.at2,h.out,h.na,h.nd,h.len,h.inn,h.sz,h.hx⟩
theorem Jf{AO:O (A2×AF)}{s:A3}:∀{as:O A2} {H:Hp},L2.AV X AO σ H s->(∀a∈as,(∃o vs,H a=Z (.iU o (.lst vs)))/\∀j u,X.H₀ a≠Z (.iU j u))->as.Nodup->∃H',L2.AV X AO σ H' s/\(∀b,b∉as->H' b=H b)/\∀a∈as,∀o vs,H a=Z (.iU o (.lst vs))->H' a=Z (.lst vs)
 |[],H,I,_,_=>⟨H,I,λ_ _=>X9,λ_ h=>by cases h⟩
 |a::as,H,I,h,d=>by
  obtain⟨i,d⟩:=cT.mp d;obtain⟨⟨o,vs,e⟩,c⟩:=h a zg;have g:∀b∈as,b≠a:=λb c z=>i (z▸c);obtain⟨H',l,f,m⟩:=Jf (as:=as) (LU c I e) (λb c=>by rw[aD (g b c)];exact h b (zh _ c)) d;refine⟨H',l,λb c=>?_,λb c o' n e'=>?_⟩
  ·rw[f b λz=>c (zh _ z),aD λz=>c (by rw[z];exact zg)]
  ·rcases List.mem_cons.mp c with q|q
   ·subst q;rw[e]at e';cases e';rw[f _ i,aF]
   ·exact m b q o' n (by rw[aD (g b q)];exact e')
theorem oO.other(h:oO X H0 Hb ρ fz L a ps σ H){g:Bool}(c:∀b,b∉ps->H' b=H b)(hi:∀p∈ps,∀x,Dx fz H p x->Dx g H' p x):oO X H0 Hb ρ g L a ps σ H':=
 ⟨h.env,λb u e=>by
  rw[c b λm=>by
   obtain⟨k,x,e1,e2⟩:=h.get m;rw[(h.inn k x b e1 e2).1]at e;cases e]
  exact h.sub b u e,h.at2,by rw[c a h.Uz];exact h.out,h.na,h.nd,h.len,λk x p e1 e2=>⟨(h.inn k x p e1 e2).1,hi p (ZI e2) x (h.inn k x p e1 e2).2⟩,h.sz,h.hx⟩
theorem oO.ad3{Q:Hp->Prop}(h:oO X H0 Hb ρ true L a ps σ H)(q:∀H',oO X H0 Hb ρ false L a ps σ H'->Q H'):Mv X Q H:=λAO σ' s I=>by
 obtain⟨H',b,c,d⟩:=Jf (as:=ps) I (λp m=>by
  obtain⟨k,x,e1,e2⟩:=h.get m;obtain⟨n,o,e⟩:=h.inn k x p e1 e2;exact⟨⟨o,_,e⟩,λf u z=>h.hx _ _ _ z n⟩) h.nd
 exact⟨H',b,q H' (h.other c λp m x ⟨o,e⟩=>d p m o _ e)⟩
theorem oO.oM{Q:Hp->Prop}(h:oO X H0 Hb ρ false L a ps σ H)(q:∀H',oO X H0 Hb ρ true L a ps σ H'->Q H'):Mv X Q H:=λAO σ' s I=>by
 obtain⟨H',b,_,c,d⟩:=uL (as:=ps) I (λp m=>by
  obtain⟨k,x,e1,e2⟩:=h.get m;exact⟨_,(h.inn k x p e1 e2).2⟩) h.nd
 exact⟨H',b,q H' (h.other c λp m x e=>by
  obtain⟨o,vs,e1,e2⟩:=d p m;have e:H p=Z (.lst (x.map .str)):=e;rw[e]at e1;cases e1;exact⟨o,e2⟩)⟩
end
def lM(x:Int)(n:Nat):Nat:=(x%(n:Int)).toNat
theorem rA{x:Int}(h:0<n):lM x n<n:=by
 have h1:=yY x (show(n:Int)≠0 by omega);have h2:=YE x (show(0:Int)<n by omega);unfold lM;omega
theorem RM{x:Int}(h:0<n):x%(n:Int)=(lM x n:Int):=by
 have h1:=yY x (show(n:Int)≠0 by omega);unfold lM;omega
def qI(x:An):Bool:=!decide (x=[])
def KQ(L:O An)(k m:Nat):O An:=(L.set k ((L.getD k []).eraseIdx m)).filter qI
def BY(L:O An)(x:Int)(nm:AK):O An:=if(decide (x / 256%2=0)||decide (L=[]))=true then L++[[nm]]else L.set (lM (x / 512) L.length) (L.getD (lM (x / 512) L.length) []++[nm])
def Ew(L:O An)(x:Int):An:=L.getD (lM x L.length) []
def GW(L:O An)(x:Int):AK:=(Ew L x).getD (lM (x / 16) (Ew L x).length) ""
def lF(L:O An)(x:Int):O An:=if L=[]then L else BY (KQ L (lM x L.length) (lM (x / 16) (Ew L x).length)) x (GW L x)
structure GN (L:List An):Prop where
 ne:∀x∈L,x≠[]
 lt:L.flatten.length<64
theorem uQ:∀{L:O An},(∀x∈L,x≠[])->L.length<=L.flatten.length
 |[],_=>zl _
 |x::L,h=>by
  have:=uQ λy a=>h y (zh _ a);have hx:0<x.length:=cN.mpr (h x zg);rw[ZE,Zp,ZZ];omega
theorem Ey{x:An}(h:x∈L):x.length<=L.flatten.length:=by
 induction L with
 |nil=>cases h
 |cons y L a=>
  rw[ZE,Zp];rcases List.mem_cons.mp h with q|q
  ·rw[q];omega
  ·have:=a q;omega
theorem Ez:∀{L:O An} {k:Nat} {x y:An},L[k]?=Z x->(L.set k y).flatten.length+x.length=L.flatten.length+y.length
 |[],_,_,_,h=>by simp at h
 |z::L,0,x,y,h=>by
  cases h;rw[nj,ZE,ZE,Zp,Zp];omega
 |z::L,k+1,x,y,h=>by
  have:=Ez (L:=L) (k:=k) (y:=y) (by simpa using h);rw[nk,ZE,ZE,Zp,Zp];omega
theorem yL:∀(L:O An),(L.filter qI).flatten=L.flatten
 |[]=>rfl
 |x::L=>by
  by_cases h:x=[]
  ·subst h;rw[List.filter_cons_of_neg (),yL L];rfl
  ·rw[List.filter_cons_of_pos (by simp[qI,h]),ZE,ZE,yL L]
theorem getD_some{l:O α}{k:Nat}{x d:α}(h:l[k]?=Z x):l.getD k d=x:=by rw[lb,h];rfl
theorem UJ{k m:Nat}{x:An}(hk:L[k]?=Z x)(b:m<x.length):(∀y∈KQ L k m,y≠[])/\(KQ L k m).flatten.length+1=L.flatten.length:=by
 refine⟨λy a=>?_,?_⟩
 ·have:=(cD.mp a).2;simpa[qI]using this
 ·unfold KQ;rw[yL,getD_some hk];have:=Ez (y:=x.eraseIdx m) hk;rw[List.length_eraseIdx_of_lt b]at this;omega
theorem TB{x:Int}{nm:AK}(h:∀y∈L,y≠[]):(∀y∈BY L x nm,y≠[])/\(BY L x nm).flatten.length=L.flatten.length+1:=by
 unfold BY;split
 ·refine⟨λy a=>?_,by simp⟩;rcases List.mem_append.mp a with q|q
  ·exact h y q
  ·rw[bN.mp q];simp
 ·rename_i q;have b:L≠[]:=λz=>q (by simp[z]);have hk:lM (x / 512) L.length<L.length:=rA (cN.mpr b);have e:L[lM (x / 512) L.length]?=Z L[lM (x / 512) L.length]:=zo hk;refine⟨λy a=>?_,?_⟩
  ·rcases md a with z|z
   ·exact h y z
   ·rw[z];simp
  ·have:=Ez (y:=L.getD (lM (x / 512) L.length) []++[nm]) e;rw[getD_some e]at this ⊢;simp only[Zp,km]at this;omega
theorem EY{x:Int}(a:L≠[]):L[lM x L.length]?=Z (Ew L x):=by
 have hk:=rA (x:=x) (cN.mpr a);have e:L[lM x L.length]?=Z L[lM x L.length]:=zo hk;rw[e];unfold Ew;rw[getD_some e]
theorem GN.step(g:GN L)(x:Int):GN (lF L x)/\(lF L x).flatten.length=L.flatten.length:=by
 unfold lF;split
 ·exact⟨g,rfl⟩
 ·rename_i a;have e:=EY (x:=x) a;have hp:Ew L x≠[]:=g.ne _ (ZI e);obtain⟨a1,a2⟩:=UJ e (rA (x:=x / 16) (cN.mpr hp));obtain⟨b1,b2⟩:=TB (x:=x) (nm:=GW L x) a1;have:=g.lt;exact⟨⟨b1,by omega⟩,by omega⟩
def MI:Ev->S Bool:=vB Tr (gv 2) (cP nG aK)
def HP:Ev->S Bx:=b2 jf (gv 3) (cP jy (aq (gv 2) aK))
def IN:Ev->S Bx:=b2 jf (b2 nM (gv 3) (cB (.int 16))) (cP jy (aq (gv 4) aK))
def Ha:Ev->S Bool:=vB Tr (gv 0) (cP nG aK)
def IE:Ev->S Bool:=WX (vB Be (b2 jf (b2 nM (gv 3) (cB (.int 256))) (cB (.int 2))) (cB (.int 0))) (vB Be (gv 2) (cP nG aK))
def MQ:Ev->S Bx:=b2 jf (b2 nM (gv 3) (cB (.int 512))) (cP jy (aq (gv 2) aK))
section
variable{b0 b1:Bx}{x:Int}{u v:S Bx}
theorem VT:MI [Z b0,Z b1,Z (.o (L.map W4)),u,U,v]=Z (!decide (L=[])):=
 (d8 (NK () (gF (aB 2 (lE (eL eS)) L X9)) (iw (oY (jg (eL eS)) (ZU X9))))).ok trivial
theorem KR(h:0<n):(0:Int)<(n:Int):=by omega
theorem X2(h:0<L.length):HP [Z b0,Z b1,Z (.o (L.map W4)),Z (.z (.int x)),U,v]=Z (.z (.int (lM x L.length:Nat))):=by
 rw[<-RM h];exact(yE (aB 3 (zE eI) x X9) (BE (gF (aB 2 (lE (eL eS)) L X9)))).ok (KR h)
theorem bq{p:An}(h:0<p.length):IN [Z b0,Z b1,U,Z (.z (.int x)),Z (.z (W4 p)),v]=Z (.z (.int (lM (x / 16) p.length:Nat))):=by
 rw[<-RM h];exact(yE (lY (aB 3 (zE eI) x X9) 16 ()) (BE (qD (aB 4 (zE (eL eS)) p X9)))).ok (KR h)
theorem Op{p:An}:Ha [Z (.z (W4 p))]=Z (qI p):=
 (d8 (NK () (qD (aB 0 (zE (eL eS)) p X9)) (iw (oY (jg eS) (ZU X9))))).ok trivial
theorem bp:IE [Z b0,Z b1,Z (.o (L.map W4)),Z (.z (.int x)),U,v]=Z (decide (x / 256%2=0)||decide (L=[])):=
 (NP (d8 (BS () (gB (lY (aB 3 (zE eI) x X9) 256 ()) 2 ()) (BC 0))) (d8 (MW () (gF (aB 2 (lE (eL eS)) L X9)) (iw (oY (jg (eL eS)) (ZU X9)))))).ok trivial
theorem Sc(h:0<L.length):MQ [Z b0,Z b1,Z (.o (L.map W4)),Z (.z (.int x)),U,v]=Z (.z (.int (lM (x / 512) L.length:Nat))):=by
 rw[<-RM h];exact(yE (lY (aB 3 (zE eI) x X9) 512 ()) (BE (gF (aB 2 (lE (eL eS)) L X9)))).ok (KR h)
end
abbrev Lz(b0 b1:Bx)(x v:S Bx):Ev:=[Z b0,Z b1,U,x,U,v]
section
variable{b0 b1:Bx}{x:Int}{v:S Bx}{ps:O A2}{D:BN}
theorem Z0{u:S Bx}(a:j=2\/j=4):∀c,(Lz b0 b1 u v)[j]?≠Z (Z c):=λc e=>by
 rcases a with rfl|rfl<;>cases e
theorem Jg{α β:Type}(f:α->β):∀(l:O α) (k:Nat),(l.map f).eraseIdx k=(l.eraseIdx k).map f
 |[],_=>rfl
 |_::_,0=>rfl
 |x::l,k+1=>by rw[zr,kQ,kQ,zr,Jg f l k]
theorem SY(h:oO X H0 Hb (Lz b0 b1 (Z (.z (.int x))) v) true L a ps σ H)(c:L≠[])(q:∀H' p,ps[lM x L.length]?=Z p->oO X H0 Hb (Lz b0 b1 (Z (.z (.int x))) v) true L a ps (σ.set 4 (Z (.ref p))) H'->D.nx (σ.set 4 (Z (.ref p))) H'):
  Vh (DZ (Xl X.K) (qM 2) (tF X.K HP)) (pZ 4) D σ H:=by
 have b:=cN.mpr c;refine⟨.ref a,h.at2,H0,_,_,h.ZX,X2 b,λw H2 d g e=>?_⟩;have h2:=h.grow d;obtain⟨y,p,e1,e2,_⟩:=h2.ix (rA (x:=x) b);have f:w=.int (lM x L.length:Nat):=by simpa only[bh,AX]using e
 refine⟨a,_,_,.ref p,rfl,f,.inl (.inl h2.out),Td (by rw[zI,e2];rfl),q H2 p e2 (h2.sl () _ (h2.env.sl (Z0 (.inr X9)) _))⟩
theorem RO{y:An}{p:A2}{k:Nat}(h:oO X H0 Hb (Lz b0 b1 (Z (.z (.int x))) v) true L a ps σ H)(hk:L[k]?=Z y)(hp:ps[k]?=Z p)(g:σ[4]?=Z (Z (.ref p)))(B:y≠[])(t:y.length<64)
  (q:∀H',oO X H0 Hb (Lz b0 b1 (Z (.z (.int x))) (Z (.z (.str (y.getD (lM (x / 16) y.length) ""))))) true (L.set k (y.eraseIdx (lM (x / 16) y.length))) a ps (σ.set 5 (Z (.str (y.getD (lM (x / 16) y.length) "")))) H'->D.nx (σ.set 5 (Z (.str (y.getD (lM (x / 16) y.length) "")))) H'):
  Vh (DV X (E8 X.K "list" Qp (qM 4) (tM (DV X (tF X.K IN)) Gm))) (pZ 5) D σ H:=by
 have s:=cN.mpr B;have l:=rA (x:=x / 16) s;obtain⟨A,o,c⟩:=h.inn k y p hk hp;have j:=h.env.set (i:=4) (b:=.z (W4 y)) (v:=.ref p) h.sub (by simp only[bh];rw[AX];exact⟨p,_,rfl,.inl ⟨o,c⟩,nQ (h.sz y (ZI hk))⟩) (.inr X9) trivial;rw[CA g]at j;refine⟨.ref p,g,.inl ⟨rfl,_,.inl (.inr ⟨o,c⟩)⟩,H0,_,_,j,bq s,λw H2 n F C=>?_⟩;have E:w=.int (lM (x / 16) y.length:Nat):=by simpa only[bh,AX]using C
 refine Mv.Dw (n _ _ c) (λG u z=>h.hx _ _ _ z A) ?_;have f:y[lM (x / 16) y.length]?=Z (y.getD (lM (x / 16) y.length) ""):=by rw[zo l,lb,zo l];rfl
 have hs:(y.getD (lM (x / 16) y.length) "").length<=AB:=h.sz y (ZI hk) _ (ZI f);refine⟨p,_,_,lM (x / 16) y.length,.str (y.getD (lM (x / 16) y.length) ""),rfl,by rw[E],aF,by omega,by omega,?_,by rw[zI,f];rfl,?_⟩
 ·rw[zi];exact PySem.StrLaws.seqIndex_nonneg () ()
 refine Mv.iU aF λo'=>q _ ?_;have m:=h.put (o:=o') (x':=y.eraseIdx (lM (x / 16) y.length)) (H':=B1 (B1 (B1 H2 p (.lst (y.map V.str))) p (.lst ((y.map V.str).eraseIdx (lM (x / 16) y.length)))) p (.iU o' (.lst ((y.map V.str).eraseIdx (lM (x / 16) y.length))))) hk hp (λb u d e=>by
  rw[aD d,aD d,aD d];exact n _ _ e) (by rw[aF,Jg]) λz t=>h.sz y (ZI hk) z (List.mem_of_mem_eraseIdx t)
 refine m.sl () _ ?_;have:=m.env.set (i:=5) (b:=.z (.str (y.getD (lM (x / 16) y.length) ""))) (v:=.str (y.getD (lM (x / 16) y.length) "")) (AW.refl Hb) (by simp only[bh];rw[AX];exact⟨rfl,hs⟩) (.inr X9) trivial;exact this
theorem R1(h:oO X H0 Hb (Lz b0 b1 (Z (.z (.int x))) v) true L a ps σ H)(hz:L.length<64)
  (q:∀d a5 H',oO X H0 Hb (Lz b0 b1 (Z (.z (.int x))) v) true (L.filter qI) d a5 (σ.set 2 (Z (.ref d))) H'->D.nx (σ.set 2 (Z (.ref d))) H'):
  Eu 1 [] 2 (Xe X.K (qM 2)) (pZ 0) (Tf X.K Ha) (qM 0) D σ H:=by
 let fp:Nat->O (An×A2):=λj=>((L.zip ps).take j).filter λc=>qI c.1
 have P:(L.zip ps).length=ps.length:=by rw[List.length_zip,h.len,mh]
 refine⟨.ref a,h.at2,a,rfl,⟨_,.inl (.inl h.out)⟩,ps.length,λd j σ' H'=>σ'.length=1/\AW H H'/\H' d=Z (.lst ((fp j).map λc=>.ref c.2)),λd g=>⟨rfl,bC g,aF⟩,λd j σ' H' g hj ⟨l1,sm,eD⟩=>?_,λd σ' H' ⟨_,sm,_⟩=>⟨_,.inl (.inl (sm _ _ h.out)),by rw[zi];exact zl _⟩,λd σ' H' g ⟨_,sm,eD⟩=>?_⟩
 ·have F:j<L.length:=by rw[h.len];exact hj
  have ep:ps[j]?=Z ps[j]:=zo hj;have eL:L[j]?=Z L[j]:=zo F;have I:=sm _ _ h.out;refine⟨⟨_,.ref ps[j],.inl (.inl I),by rw[zI,ep];rfl⟩,λw H1 B=>?_⟩;obtain⟨rfl,m⟩:=B;have m:=m _ (.inl (.inl I));rw[zI,ep]at m;cases m;obtain⟨nb,o,t⟩:=h.inn j _ _ eL ep;have b4:=sm _ _ t;have Q:aV X.K H1 H1 (σ'.set 0 (Z (.ref ps[j]))) [Z (.z (W4 L[j]))]:=by
   refine⟨by rw[qv,l1];rfl,λi b e=>?_,λi j c a b e f=>?_,AW.refl _,λi c a e f=>?_⟩
   ·cases i with
    |zero=>
     cases e;refine⟨.ref ps[j],QE (),?_⟩;simp only[bh];rw[AX];exact⟨_,_,rfl,.inl ⟨o,b4⟩,nQ (h.sz _ (yi F))⟩
    |succ i=>cases e
   ·cases i with
    |zero=>cases e;cases f
    |succ i=>cases e
   ·cases i with
    |zero=>cases e;cases f
    |succ i=>cases e
  have C:(L.zip ps).take (j+1)=(L.zip ps).take j++[(L[j],ps[j])]:=by
   rw[gH (),n1]
  refine⟨H1,_,qI L[j],Q,Op,λH3 s=>?_⟩;cases E:qI L[j]with
  |true=>
   rw[zk rfl];refine⟨.ref ps[j],QE (),_,s _ _ eD,?_,?_⟩
   ·have:(fp j).length<=(L.zip ps).length:=Zl (QI _ _) (by rw[KB];exact Nat.min_le_right _ _);rw[zi];have big:64<AB:=by decide
    have:=h.len;exact kl () big
   ·refine⟨by rw[qv,l1],λb u e=>?_,?_⟩
    ·rw[aD (bF e g)];exact s _ _ (sm _ _ e)
    ·rw[aF];show _=Z (HO.lst ((((L.zip ps).take (j+1)).filter λc=>qI c.1).map λc=>V.ref c.2));rw[C,YA,ZN];have:[(L[j],ps[j])].filter (λc=>qI c.1)=[(L[j],ps[j])]:=by simp[E]
     rw[this];rfl
  |false=>
   rw[zw z5];refine⟨by rw[qv,l1],sm.trans s,?_⟩;rw[s _ _ eD];show _=Z (HO.lst ((((L.zip ps).take (j+1)).filter λc=>qI c.1).map λc=>V.ref c.2));rw[C,YA];have:[(L[j],ps[j])].filter (λc=>qI c.1)=[]:=by simp[E]
   rw[this,Qb]
 ·have e1:∀(L:O An) (ps:O A2),L.length=ps.length->((L.zip ps).filter λc=>qI c.1).map (·.1)=L.filter qI:=λL=>by
   induction L with
   |nil=>intro ps _;rfl
   |cons y L ih=>
    intro ps G;cases ps with
    |nil=>cases G
    |cons p ps=>
     rw[Yf,kM,kM];have:=ih ps (by simpa using G);split
     ·rw[zr,this]
     ·exact this
  have a3:fp ps.length=(L.zip ps).filter λc=>qI c.1:=by
   show((L.zip ps).take ps.length).filter _=_;rw[<-P,n4]
  rw[a3]at eD;have b6:σ.length=6:=h.env.len;have W:(((L.zip ps).filter λc=>qI c.1).map (·.2)).Sublist ps:=by
   have:=(y4 (l:=L.zip ps) (p:=λc=>qI c.1)).map (·.2);rwa [List.map_snd_zip (by rw[h.len];exact zl _)]at this
  refine q d (((L.zip ps).filter λc=>qI c.1).map (·.2)) H' ⟨h.env.sl (Z0 (.inl X9)) _,h.sub.trans sm,QE (),by rw[ZY];exact eD,h.sub.free g,h.nd.sublist W,by rw[<-e1 L ps h.len,zi,zi],λk y p M A=>?_,λy B=>h.sz y (cD.mp B).1,h.hx⟩;rw[<-e1 L ps h.len,zI]at M;rw[zI]at A;obtain⟨c,f,hc⟩:=dv.mp M;rw[f]at A;cases A;subst hc;have N:=(cD.mp (ZI f)).1;obtain⟨i,hi,J⟩:=KG N;rw[n1]at J;have b5:i<L.length:=by rw[h.len];omega
  have Y:i<ps.length:=by omega
  obtain⟨n,o,t⟩:=h.inn i _ _ (zo b5) (zo Y);rw[<-J];exact⟨n,o,sm _ _ t⟩
end
section
variable{b0 b1:Bx}{x:Int}{u v:S Bx}{ps:O A2}{D:BN}
abbrev Eg(X:Cx):TE:=DV X (E8 X.K "list" Bp (qM 2) (tM (HZ (tM (qM 5) Gm)) Gm))
abbrev NJ(X:Cx):TE:=DV X (E8 X.K "list" Bp (DV X (DZ (Xl X.K) (qM 2) (tF X.K MQ))) (tM (qM 5) Gm))
theorem gL{nm:AK}(h:oO X H0 Hb (Lz b0 b1 (Z (.z (.int x))) (Z (.z (.str nm)))) true L a ps σ H)(f:L.length<64)(i:∀y∈L,y.length<64)
  (q:∀G H',oO X H0 Hb (Lz b0 b1 (Z (.z (.int x))) (Z (.z (.str nm)))) true (BY L x nm) a G σ H'->D.nx σ H'):
  HR (Tf X.K IE) (LA (LR (Eg X)) Xb) (LA (LR (NJ X)) Xb) D σ H:=by
 obtain⟨w,j,F⟩:=h.env.val 5 _ rfl;obtain⟨rfl,hs⟩:w=.str nm/\nm.length<=AB:=by simpa only[bh,AX]using F
 have big:64<AB:=by decide
 refine⟨H0,_,_,h.ZX,bp,λH2 E=>?_⟩;have h2:=h.grow E;by_cases c:(decide (x / 256%2=0)||decide (L=[]))=true
 ·have ep:BY L x nm=L++[[nm]]:=by unfold BY;rw[zk c]
  rw[ep]at q;dsimp only;rw[zk c];refine⟨.ref a,h2.at2,.inl ⟨rfl,_,.inl (.inl h2.out)⟩,.str nm,j,(show 1<=AB by decide),λp hp=>?_⟩;have np:a≠p:=λz=>by rw[<-z,h2.out]at hp;cases hp
  have ea:(B1 H2 p (.lst [V.str nm])) a=Z (.lst (ps.map .ref)):=by rw[aD np];exact h2.out
  refine⟨a,ps.map .ref,.ref p,rfl,rfl,ea,by rw[zi,<-h2.len];exact y7 f big,?_⟩;refine Mv.iU (a:=p) (ks:=[V.str nm]) (by rw[aD (ja np),aF]) λo=>q (ps++[p]) _ ?_;refine h2.more (o:=o) (x:=[nm]) hp (λb z d n e=>by rw[aD d,aD n,aD d];exact e) aF (by rw[aD np,aF]) λy i=>?_;rw[bN.mp i];exact hs
 ·have ep:BY L x nm=L.set (lM (x / 512) L.length) (L.getD (lM (x / 512) L.length) []++[nm]):=by unfold BY;rw[zw c]
  rw[ep]at q;dsimp only;rw[zw c];have t:L≠[]:=λz=>c (by simp[z]);have l:=cN.mpr t;refine⟨.ref a,h2.at2,H0,_,_,h2.ZX,Sc l,λw N B I v=>?_⟩;have g:=h2.grow B;have A:w=.int (lM (x / 512) L.length:Nat):=by simpa only[bh,AX]using v
  obtain⟨y,p,e1,e2,M,⟨o,C⟩,s,u,J⟩:=g.ix (rA (x:=x / 512) l);refine⟨a,_,_,.ref p,rfl,A,.inl (.inl g.out),Td (by rw[zI,e2];rfl),?_⟩;refine Mv.Dw C s ⟨.inl ⟨rfl,_,.inl (.inl aF)⟩,.str nm,j,p,_,.str nm,rfl,rfl,aF,?_,?_⟩
  ·rw[zi];exact y7 (i y (ZI e1)) big
  refine Mv.iU aF λo'=>q ps _ ?_;rw[getD_some e1];refine g.put (o:=o') e1 e2 (λb z d e=>by rw[aD d,aD d,aD d];exact e) (by rw[aF,ZN];rfl) λz f=>?_;rcases List.mem_append.mp f with m|m
  ·exact u z m
  ·rw[bN.mp m];exact hs
def RN(X:Cx):TS:=λD σ H=>∃H0 Hb b0 b1 x L a ps v,oO X H0 Hb (Lz b0 b1 (Z (.z (.int x))) v) false L a ps σ H/\GN L/\∀ σ' H' c b d,oO X H0 Hb (Lz b0 b1 (Z (.z (.int x))) d) false (lF L x) c b σ' H'->D.nx σ' H'
theorem Ws{c1 l:Expr}{n j m e1 e2:AC}{q1 J:Pos}(G:PT X c1 (Tf X.K MI))(h2:PS X n (Vh (DZ (Xl X.K) (qM 2) (tF X.K HP)) (pZ 4)))(d:PS X j (Vh (DV X (E8 X.K "list" Qp (qM 4) (tM (DV X (tF X.K IN)) Gm))) (pZ 5)))
  (f:PS X m (Eu 1 [] 2 (Xe X.K (qM 2)) (pZ 0) (Tf X.K Ha) (qM 0))) (F:PT X l (Tf X.K IE)) (E:PS X e1 (LR (Eg X))) (C:PS X e2 (LR (NJ X))):wM X [.If c1 [n,j,m,.If l [e1] [e2] J] [] q1] (RN X):=by
 refine FS (UU (ZW (dU (Ma G (dU h2 (dU d (dU f (dU (Ma F (dU E oU) (dU C oU)) oU)))) oU) oU))) λD σ H h=>?_;obtain⟨H0,Hb,b0,b1,x,L,a,ps,v,h,g,q⟩:=h;refine h.oM λH1 h1=>?_;refine⟨H0,_,_,h1.ZX,VT,λH2 I=>?_⟩;have h2:=h1.grow I;by_cases b:L=[]
 ·have e:lF L x=L:=by unfold lF;rw[zk b]
  rw[e]at q;dsimp only;rw[zw (by simp[b])];exact h2.ad3 λH' h'=>q σ H' a ps v h'
 dsimp only;rw[zk (by simp[b])];refine SY h2 b λH3 p ep d=>?_;have c:=EY (x:=x) b;have hp:=g.ne _ (ZI c);have s:∀y∈L,y.length<64:=λy i=>kl (Ey i) g.lt;have f:(σ.set 4 (Z (V.ref p)))[4]?=Z (Z (.ref p)):=QE (by have:=d.env.len;rw[qv]at this;rw[this];exact(show 4<6 by decide));refine RO d c ep f hp (s _ (ZI c)) λH4 A=>?_;obtain⟨t,M⟩:=UJ c (rA (x:=x / 16) (cN.mpr hp));have ep:KQ L (lM x L.length) (lM (x / 16) (Ew L x).length)=(L.set (lM x L.length) ((Ew L x).eraseIdx (lM (x / 16) (Ew L x).length))).filter qI:=by unfold KQ;rw[getD_some c]
 have W:=uQ g.ne;have:=g.lt;refine R1 A (by rw[qv];omega) λB Y P o=>?_;rw[<-ep]at o;have N:=uQ t;refine gL o () (λy i=>by have:=Ey i;omega) λu Q w=>?_;refine w.ad3 λH' h'=>q _ H' B u (Z (.z (.str (GW L x)))) ?_;have e:lF L x=BY (KQ L (lM x L.length) (lM (x / 16) (Ew L x).length)) x (GW L x):=by unfold lF;rw[zw b]
 rw[e];exact h'
end
def Ov:O Dt->S (O An)
 |[]=>Z []
 |.tup ds::r=>(qw ds).bind λx=>(Ov r).bind λy=>Z (x::y)
 |_=>U
theorem Jh:∀L:O An,Ov (L.map (eT eS))=Z L
 |[]=>rfl
 |x::L=>by
  show(qw (x.map eS)).bind (λz=>(Ov (L.map (eT eS))).bind λy=>Z (z::y))=_;rw[BI,Jh L];rfl
theorem Ox:∀{ds:O Dt} {L:O An},Ov ds=Z L->ds=L.map (eT eS)
 |[],L,h=>by cases h;rfl
 |d::r,L,h=>by
  cases d with
  |tup ds=>
   obtain⟨x,e1,h⟩:=AU h;obtain⟨y,e2,h⟩:=AU h;cases h;rw[Nv e1,Ox e2];rfl
  |_=>cases h
theorem Oz:∀{ds:O Dt} {L:O Int},Iv ds=Z L->ds=L.map eI
 |[],L,h=>by cases h;rfl
 |d::r,L,h=>by
  cases d with
  |int i=>
   obtain⟨y,e2,h⟩:=AU (show(Iv r).bind (λy=>Z (i::y))=Z L from h);cases h;rw[Oz e2];rfl
  |_=>cases h
def Z1:Bx->S (O Dt)
 |.z (.lst ds)=>Z ds
 |.l ds=>Z ds
 |_=>U
theorem UL(h:Z1 b=Z ds):Lp b ds:=by
 unfold Z1 at h;split at h
 ·cases h;exact .inl rfl
 ·cases h;exact .inr rfl
 ·cases h
theorem UW(h:Lp b ds):Z1 b=Z ds:=by rcases h with rfl|rfl<;>rfl
def wR(xs:O Int):O Int:=FD xs U (Z (1+at' xs 7%4))
def EG(one:O An)(xs:O Int):Prop:=(∀x∈one,x≠[])/\one.flatten.length<64/\In xs.length 7
instance (one:List An) (xs:List Int):Decidable (EG one xs):=by unfold EG In;infer_instance
def Ji(one:O An)(xs:O Int):O An:=dW (((wR xs).foldl lF one).map bH)
def gN:Ev->S Ap
 |[Z b0,Z b1,U,U,U,U]=>(Z1 b0).bind λd0=>(Ov d0).bind λone=>(Z1 b1).bind λa=>(Iv a).bind λxs=>if EG one xs then Z (.rt (.o ((Ji one xs).map (eT eS))))else U
 |_=>U
def HQ:Ev->S Bx:=cP M4 (aq (gv 0) aK)
def IX:Ev->S Bx:=DA (gv 1) zF (CZ (b2 iD (cB (.int 1)) (b2 jf (b2 nP (gv 1) (cB (.int 7))) (cB (.int 4)))))
def N4:Ev->S Bx:=cP qZ (aq (fK (Ib (gv 2)) (tH 0) uD (cP lJ (aq (cP wz (aq (gv 0) aK)) aK)) [] 1) aK)
theorem Os{x:An}:HQ [Z (.z (eT eS x))]=Z (.o (x.map eS)):=(Xs (aB 0 (zE (eT eS)) x X9)).ok trivial
theorem a7{b0 b1:Bx}{b u a v:S Bx}{xs:O Int}(h:Lp b1 (xs.map eI))(hi:In xs.length 7):VB IX [Z b0,Z b1,b,u,a,v]=Z ((wR xs).map eI):=
 (Wg (N2 (bw 1 eI xs h X9) GE (GT (lC (BC 1) (gB (jU (bw 1 eI xs h X9) (BC 7)) 4 ()))))).ok hi
theorem bu{b0 b1:Bx}{u v:S Bx}(h:GN L):N4 [Z b0,Z b1,Z (.o (L.map W4)),u,U,v]=Z (.o ((dW (L.map bH)).map (eT eS))):=by
 have l:=uQ h.ne;have:=h.lt;have d:∀y∈L,y.length<64:=λy a=>kl (Ey a) h.lt;refine(yI (iw (zJ (zK (gF (aB 2 (lE (eL eS)) L X9))) _ (λ_=>X9) (λb:An=>(oZ (iw (vG (qD (aB 0 (zE (eL eS)) b X9))))))))).ok ?_;refine⟨⟨show L.length<=100000 by omega,d⟩,?_,?_⟩
 ·show(L.map bH).length<64;rw[zi];omega
 ·intro y a;obtain⟨z,c,rfl⟩:=cc.mp a;have:(bH z).length=z.length:=(aX z).length_eq;have h0:z≠[]:=h.ne z c;show(bH z).isEmpty=false;cases q:bH z with
  |nil=>
   rw[q]at this;exact absurd (dd.mp this.symm) h0
  |cons _ _=>rfl
section
variable{b0 b1:Bx}{one:O An}{xs:O Int}{u v:S Bx}{ps:O A2}{D:BN}
theorem WV{w:V}(g:σ.length=1)(r:AX K H d w):aV K H H (σ.set 0 (Z w)) [Z (.z d)]:=by
 refine⟨by rw[qv,g];rfl,λi b e=>?_,λi j c a b e f=>?_,AW.refl _,λi c a e f=>?_⟩
 ·cases i with
  |zero=>cases e;exact⟨w,QE (),r⟩
  |succ i=>cases e
 ·cases i with
  |zero=>cases e;cases f
  |succ i=>cases e
 ·cases i with
  |zero=>cases e;cases f
  |succ i=>cases e
theorem az(E:aV X.K H0 H σ (Lz b0 b1 U U))(hx:∀b n u,X.H₀ b=Z (.iU n u)->H b≠U)(h0:Lp b0 (one.map (eT eS)))(hz:one.length<64)
  (q:∀a ps H',oO X H0 H (Lz b0 b1 U U) false one a ps (σ.set 2 (Z (.ref a))) H'->D.nx (σ.set 2 (Z (.ref a))) H'):
  Eu 1 [] 2 (iC X.K (Ib (gv 0))) (pZ 0) (λ_ H Q=>Q true H) (tF X.K HQ) D σ H:=by
 have big:64<AB:=by decide
 refine⟨H0,_,_,E,(zK (bw 0 (eT eS) one h0 X9)).ok trivial,λJ H2 i Y=>⟨one.length,λa j σ' H'=>σ'.length=1/\∃ps:O A2,ps.length=j/\ps.Nodup/\AW H2 H'/\H' a=Z (.lst (ps.map .ref))/\∀(k:Nat) x p,one[k]?=Z x->ps[k]?=Z p->H2 p=U/\H' p=Z (.lst (x.map .str))/\∀y∈x,y.length<=AB,
  λa g=>⟨rfl,[],rfl,.nil,bC g,aF,λk x p _ e=>by simp at e⟩,λa j σ' H' g hj ⟨l1,ps,lp,nd,sm,eD,inn⟩=>?_,λa σ' H' ⟨_,ps,_,_,sm,_⟩=>(Y _ H' sm).2 (by show(one.map (eT eS)).length<=_;rw[zi];exact zl _),λa σ' H' g ⟨_,ps,lp,nd,sm,eD,inn⟩=>?_⟩⟩
 ·have e1:(one.map (eT eS))[j]?=Z (eT eS one[j]):=by rw[zI,zo hj];rfl
  obtain⟨go,o⟩:=(Y j H' sm).1 _ e1;refine⟨go,λw H1 P=>?_⟩;obtain⟨d,F⟩:=o w H1 P;unfold pZ;dsimp only;rw[zk rfl];refine⟨H1,_,_,WV l1 F,Os,λv H4 h W C=>?_⟩;obtain⟨p,vs,rfl,ep,B⟩:=C;obtain⟨rfl,G⟩:=m9 B (BI one[j]);have np:=W p rfl;have N:=h _ _ (d _ _ eD);have L:p≠a:=λz=>by rw[z,d _ _ eD]at np;cases np
  have I:p∉ps:=λm=>by
   obtain⟨k,hk,ek⟩:=KG m;have:=(inn k one[k] p (zo ()) (by rw[<-ek];exact zo hk)).2.1;rw[d _ _ this]at np;cases np
  refine⟨_,N,by rw[zi,lp];omega,by rw[qv,l1],ps++[p],by simp[lp],List.nodup_append.mpr ⟨nd,xo ..,λb A c M z=>I (by rw[bN.mp M]at z;exact z▸A)⟩,λb w e=>?_,by rw[aF,ZN];rfl,λk y r l f=>?_⟩
  ·rw[aD (bF e g)];exact h _ _ (d _ _ (sm _ _ e))
  ·by_cases hk:k<ps.length
   ·rw[ZH hk]at f;obtain⟨i1,i2,i3⟩:=inn k y r l f;have s:r≠a:=λz=>by
     rw[z,eD]at i2;have e:ps.map V.ref=y.map V.str:=by injection i2 with e;injection e
     cases ps with
     |nil=>simp at hk
     |cons p' t=>
      cases y with
      |nil=>cases e
      |cons _ _=>cases e
    exact⟨i1,by rw[aD s];exact h _ _ (d _ _ i2),i3⟩
   ·rw[Z3 (xc hk)]at f;have:k-ps.length=0:=by
     have:=(cf.mp f).1;simpa using this
    rw[this]at f;cases f;have ek:k=j:=by omega
    subst ek;rw[zo hj]at l;cases l;exact⟨sm.free (d.free np),by rw[aD L];exact ep,G⟩
 ·have a3:σ.length=6:=E.len;refine q a ps H' ⟨E.sl (Z0 (.inl X9)) _,i.trans sm,QE (),eD,i.free g,nd,lp.symm,λk x p e1 e2=>⟨i.free (inn k x p e1 e2).1,(inn k x p e1 e2).2.1⟩,λx hx=>?_,hx⟩;obtain⟨k,hk,ek⟩:=KG hx;exact(inn k x ps[k] (by rw[<-ek];exact zo hk) (zo ())).2.2
theorem GN.fold:∀(zs:O Int) {L:O An},GN L->GN (zs.foldl lF L)
 |[],_,g=>g
 |z::zs,_,g=>GN.fold zs (g.step z).1
theorem ia(h:oO X H0 Hb (Lz b0 b1 U U) false one a ps σ H)(g:GN one)(h1:Lp b1 (xs.map eI))(hi:In xs.length 7)
  (q:∀Hs d f u v σ' H',oO X H0 Hs (Lz b0 b1 u v) false ((wR xs).foldl lF one) d f σ' H'->D.nx σ' H'):IH (iF X.K (VB IX)) (pZ 3) (RN X) D σ H:=by
 refine⟨H0,_,_,h.env.grow h.sub,a7 h1 hi,λJ H1 j y=>?_⟩;have A:=h.grow j
 let Hs:Hp:=λb=>if b=a\/b∈ps then U else H1 b
 have hs:∀b,b≠a->b∉ps->Hs b=H1 b:=λb n m=>zw λz=>z.elim n m;have kn:∀b,b∈ps->∃w,H b=Z (.lst w):=λb m=>by
  obtain⟨k,x,e1,e2⟩:=h.get m;exact⟨_,(h.inn k x b e1 e2).2⟩
 have C:AW Hs H1:=λb w e=>by
  by_cases c:b=a\/b∈ps
  ·rw[show Hs b=U from zk c]at e;cases e
  ·rw[<-show Hs b=H1 b from zw c];exact e
 have Y:=y Hs C (λb s=>hs b (λz=>by rw[z,h.out]at s;cases s) λm=>by obtain⟨w,e⟩:=kn b m;rw[s]at e;cases e)
  (λb o w e=>hs b (λz=>by rw[z,j _ _ h.out]at e;cases e) λm=>by obtain⟨B,e'⟩:=kn b m;rw[j _ _ e']at e;cases e)
  (λb vs e=>hs b (λz=>by rw[z,j _ _ h.out]at e;cases e) λm=>by obtain⟨B,e'⟩:=kn b m;rw[j _ _ e']at e;cases e)
 have F:AW Hb Hs:=λb w e=>by
  rw[hs b (λz=>by rw[z,h.na]at e;cases e) λm=>by
   obtain⟨k,x,e1,e2⟩:=h.get m;rw[(h.inn k x b e1 e2).1]at e;cases e]
  exact A.sub _ _ e
 have I:oO X H0 Hs (Lz b0 b1 U U) false one a ps σ H1:=⟨h.env.grow F,C,h.at2,A.out,zk (.inl X9),h.nd,h.len,λk x p e1 e2=>⟨zk (.inr (ZI e2)),(A.inn k x p e1 e2).2⟩,h.sz,λb G w e z=>by
  cases c:Hb b with
  |none=>exact h.hx b G w e c
  |some B=>rw[F b B c]at z;cases z⟩
 generalize b4:wR xs=zs at Y q;refine⟨λi m σ' H'=>∃d f u v,oO X H0 Hs (Lz b0 b1 u v) false ((zs.take i).foldl lF one) d f σ' H'/\m=zs.length-i/\i<=zs.length,⟨zs.length,a,ps,U,U,by simpa using I,by simp,qi _⟩,λi m σ' H' ⟨d,f,u,v,n,em,hi'⟩=>?_⟩;obtain⟨y1,y2⟩:=Y i H' n.sub;by_cases t:i<zs.length
 ·right;obtain⟨go,L⟩:=y1 (.int zs[i]) (by rw[zI,zo t];rfl);refine⟨go,λE H2=>∃d f v,oO X H0 Hs (Lz b0 b1 (Z (.z (.int zs[i]))) v) false ((zs.take (i+1)).foldl lF one) d f E H2,λE H2 ⟨a2,p2,v2,l⟩=>⟨zs.length-(i+1),by omega,a2,p2,_,v2,l,rfl,t⟩,λw H2 hy=>?_⟩;obtain⟨Q,P⟩:=L w H2 hy;have N:w=.int zs[i]:=by simpa only[AX]using P
  subst N;have l:=n.grow Q;have e3:=l.env.set (i:=3) (b:=.z (.int zs[i])) (v:=.int zs[i]) (AW.refl Hs) (by simp only[bh,AX]) (.inr X9) trivial;refine⟨H0,Hs,b0,b1,zs[i],_,d,f,v,l.sl () _ e3,GN.fold _ g,λa5 H3 M p3 v3 W=>⟨M,p3,v3,?_⟩⟩;rw[gH t,ny];exact W
 ·left;have:i=zs.length:=by omega
  subst this;rw[n4]at n;exact⟨y2 (by show(zs.map eI).length<=_;rw[zi];exact zl _),q Hs d f u v σ' H' n⟩
theorem S4{d c SR:AC}{B:O AC}(i:PS X d (Eu 1 [] 2 (iC X.K (Ib (gv 0))) (pZ 0) (λ_ H Q=>Q true H) (tF X.K HQ)))(m:∀{t:TS},wM X B t->PS X c (IH (iF X.K (VB IX)) (pZ 3) t))(o:wM X B (RN X))(j:PS X SR (ND (tF X.K N4))):PX X [d,c,SR] gN:=⟨by
 intro AO s σ H D I q;obtain⟨H0,ρ,r,E,e,fo⟩:=q;unfold gN at e;split at e
 ·rename_i b0 b1;obtain⟨d0,p0,e⟩:=AU e;obtain⟨one,p,e⟩:=AU e;obtain⟨W,p1,e⟩:=AU e;obtain⟨xs,t1,e⟩:=AU e;split at e
  ·rename_i ok;cases e;have y:=Ox p;have n:=Oz t1;subst y n;have g:GN one:=⟨ok.1,ok.2.1⟩;have M:=uQ g.ne;have G:=g.lt;refine(dU i (dU (m o) (ZW (dU j oU)))) AO s σ H D I ?_;refine az E (λb l w z f=>by rw[I.base.oM b l w z]at f;cases f) (UL p0) () λL ps H1 h1=>?_;refine ia h1 g (UL p1) ok.2.2 λHs J N u v σ' H2 h2=>?_;refine h2.oM λP a=>?_;have h:=a.env.base.trans a.sub;exact⟨H0,_,_,a.ZX,bu (GN.fold _ g),λw C x F A=>fo w C (h.trans x) (F.old h) A⟩
  ·cases e
 ·cases e⟩
end
theorem Pi{one:O An}{xs:O Int}{b0 b1:Bx}(h0:Lp b0 (one.map (eT eS)))(h1:Lp b1 (xs.map eI)):RP gN [Z b0,Z b1,U,U,U,U] (λr=>Ap.rt ((oE (eT eS)) r)) (Ji one xs) (Z (EG one xs)):=R.tp (⟨Ji one xs,Z (EG one xs),λh=>by
 have h:EG one xs:=h;unfold gN;simp only[UW h0,UW h1,Au,Jh,IW];rw[zk h]⟩)
section
variable{e:α->Dt}
end
section
variable{e:α->Dt}
end
section
variable{ek:Expr}{pos':Pos}
end
section
variable{e:α->Dt}{k:Ev->S Ap}{cO:γ->Ap}
end
end P1
namespace P1
open L2 S6
section
variable{b:A2}
theorem Wt{Q:Bool->A3->Prop}(d:Tx prog w s.heap D zs)(f:y∉zs)(j:zs.length<1000)(h:Q false s):A8 (A9 prog w) A (setDiscardHashed D (.str y tk) ((strKind prog w).hash y)) Q E s:=by
 obtain⟨o,es,ep,t,a,g,b,x⟩:=id d;have i:=x.size;have c:=x.elems;have e:=strKind_is prog w y tk;unfold setDiscardHashed setFind setFindIn;refine zb (zb (qf a b x.fit ?_));dsimp only;rw[byScan_of (knd:=strKind prog w) (x:=.str y tk) X9 (by have:scanBound=4096:=rfl;omega) c];simp only[↓reduceIte];refine zb (ka (zb (wpAny_setScan_of e a b x.fit c ?_)));rw[(uH x.rel).mpr f];exact zd (zd h)
theorem Z2{f:S A2}(G:f=Z D){Q:Array (Int×A1)->A3->Prop}(n:Tx prog w s.heap b ys)(e:Tx prog w s.heap D zs)(M:zs.length<1000)
  (h:∀(l:Array (Int×A1)) g d h',Heap.SameBut D s.heap h'->Tx prog w h' D zs->AJ (Dq prog w) g l.toList->g.Perm ys->Q l { s with heap:=h',drawn:=d }):A8 (A9 prog w) A (setWalkUnseen b [D] f) Q E s:=by
 subst G;obtain⟨o,es,ep,t,u,I,z,x⟩:=id n;have J:=x.size;have B:A8 (A9 prog w) A (setWalk b) Q E s:=by
  unfold setWalk;refine zb (qf u z x.fit ?_);dsimp only;refine zb (j4 ?_);cases i:w.params.followText "set-order" with
  |true=>
   simp only[QU];refine zb (yf (zd ?_));obtain⟨g,p,r⟩:=lA (Ik (w.params.setOrder b ep) es) x.rel;exact h _ g s.drawn s.heap (JU ..) e r p
  |false=>
   simp only[zv,qc];by_cases v:(!t.plain&&decide (es.size>1))=true
   ·refine Eq.mpr (congrArg (λc=>A8 (A9 prog w) A c Q E s) (zk v)) ?_;refine zb (TY es.size es.toList s _ (by simp) λl d p=>zd ?_);obtain⟨g,p',r⟩:=lA p x.rel;exact h _ g d s.heap (JU ..) e (by simpa using r) p'
   ·refine Eq.mpr (congrArg (λc=>A8 (A9 prog w) A c Q E s) (zw v)) ?_;refine zb ?_;have F:(!t.led&&decide (es.size>1))=false:=by rw[x.led i];rfl
    refine Eq.mpr (congrArg (λc=>A8 (A9 prog w) A c (λ_ s'=>A8 (A9 prog w) A (pure es) Q E s') E s) (zw (by rw[F];exact z5))) ?_;exact zd (zd (h es ys s.drawn s.heap (JU ..) e x.rel (.refl _)))
 unfold setWalkUnseen;refine zb (qf u z x.fit ?_);dsimp only;refine zb (j4 ?_);split
 ·exact B
 ·rename_i y;refine zb (RJ n e ?_);simp only[k8,zv,qc];refine zb (ka ?_);obtain⟨P,N,H,t2,m,C,j,a⟩:=id e;refine zb (qf m j a.fit ?_);dsimp only;have L:w.params.followText "set-order"=false:=by
   cases i:w.params.followText "set-order" with
   |true=>simp[i]at y
   |false=>rfl
  have h1:1<es.size:=by
   by_cases q:es.size<=1
   ·simp[q]at y
   ·omega
  by_cases hs:((t2.led&&!t.led)||(t2.plain&&!t.plain))=true
  ·rw[zk hs];have K:=a.size;refine zb (kB m j ?_ (fits_of_scanBound (by have:scanBound=4096:=rfl;omega)))
   ·refine zd (h es ys s.drawn _ (Q4 ..) ⟨_,_,_,_,Es m j,C,rfl,a.rel,a.nd,a.fit,λq=>?_,λq=>?_⟩ x.rel (.refl _))
    ·show(t2.led&&t.led)=true;rw[a.led q,x.led q];rfl
    ·show(t2.plain&&t.plain)=false;rw[a.non q];rfl
  ·rw[zw hs];exact zd (h es ys s.drawn s.heap (JU ..) e x.rel (.refl _))
theorem cz[DecidableEq α]{xs ys:O α}(h:xs.Nodup)(hs:∀z,z∈xs->z∈ys):xs.length<=ys.length:=Uy h hs
theorem WO(x:Tx prog w h D zs):zs.Nodup:=by
 obtain⟨_,_,_,_,_,_,_,x⟩:=x;exact x.nd
def oR(p q:Prop):Prop:=(p/\¬ q)\/(¬ p/\q)
theorem Z4{id:String}{es:Array (Int×A1)}(J:s.heap.get? a=Z o)(L:o.data=.set es ep t)(I:t.fits es.size=true)(m:D≠a)(l:O (Int×A1))(X:AJ (Dq prog w) ys l)(Y:ys.Nodup)(W:Tx prog w s.heap D zs)(b0:zs.length+ys.length<1000)(h:∀h' us,Heap.SameBut D s.heap h'->Tx prog w h' D us->(∀z,z∈us↔oR (z∈zs) (z∈ys))->Q gl { s with heap:=h' }):
  A8 (A9 prog w) A (forIn l PUnit.unit λx _=>do
   holding [x.2] (do if !(<-setDiscardHashed D x.2 x.1)then let _ <-setAddHashed D x.2 x.1)
   Builtin.Frozenset.unchanged id a ep
   pure (ForInStep.yield PUnit.unit)) Q E s:=by
 refine wpAny_forIn_list _ (λAT _ s'=>∃f d,AJ (Dq prog w) f AT/\f.Nodup/\(∀z∈f,z∈ys)/\Tx prog w s'.heap D d/\(∀z,z∈d↔oR (z∈zs) (z∈ys/\z∉f))/\d.length+f.length<=zs.length+ys.length/\Heap.SameBut D s.heap s'.heap/\s'={ s with heap:=s'.heap }) _ (λx AT r s' F=>?_) (λr s' F=>?_) _ _ ⟨ys,zs,X,Y,λz b=>b,W,λz=>⟨λq=>.inl ⟨q,λc=>c.2 c.1⟩,λq=>q.elim (λc=>c.1) λc=>absurd c.2.1 c.2.2⟩,zl _,JU ..,rfl⟩
 ·obtain⟨f,d,i1,i2,p,i3,i,H,g,u⟩:=F;cases i1 with
  |@cons y _ v _ q t=>
   obtain⟨tk,rfl⟩:=q;have N:=(cT.mp i2).1;have M:y∈ys:=p y (zg ..);have G:∀z,z≠y->((z∈ys/\z∉y::v)↔(z∈ys/\z∉v)):=λz b=>by
    rw[js,not_or];exact⟨λc=>⟨c.1,c.2.2⟩,λc=>⟨c.1,b,c.2⟩⟩
   rw[ZZ]at H;have K:y∈d↔y∈zs:=by
    rw[i y];exact⟨λq=>q.elim (λc=>c.1) λc=>absurd (zg ..) c.2.2,λq=>.inl ⟨q,λc=>c.2 (zg ..)⟩⟩
   by_cases C:y∈d
   ·refine zb (qa (zb (Wr i3 C () λh' B j tx n P=>?_)));simp only[k8,zv,qc];refine zd ?_;refine zb ?_;unfold Builtin.Frozenset.unchanged;refine zb (kC (o:=o) (by show h'.get? a=_;rw[j.2 a (ja m),g.2 a (ja m)];exact J) L I ?_);simp only[bne_self_eq_false,zv,qc];have a3:B.Nodup:=WO tx;have a5:=cz (ys:=d) a3 λz b=>((n z).mp b).1;refine zd (zd ⟨v,B,t,(cT.mp i2).2,λz b=>p z (zh _ b),tx,λz=>?_,by omega,g.trans j,by rw[u]⟩);rw[n z];by_cases e:z=y
    ·subst e;exact⟨λq=>absurd X9 q.2,λq=>q.elim (λc=>absurd ⟨M,N⟩ c.2) λc=>absurd (K.mp C) c.1⟩
    ·rw[i z];unfold oR;rw[G z e];exact⟨λq=>q.1,λq=>⟨q,e⟩⟩
   ·refine zb (qa (zb (Wt i3 C () ?_)));simp only[y9,QU];refine zb (Np (s:={ s' with heap:=s'.heap }) i3 (by have:scanBound=4096:=rfl;omega) λ_ h' B j tx n P=>?_);refine zd ?_;refine zb ?_;unfold Builtin.Frozenset.unchanged;refine zb (kC (o:=o) (by show h'.get? a=_;rw[j.2 a (ja m),g.2 a (ja m)];exact J) L I ?_);simp only[bne_self_eq_false,zv,qc];refine zd (zd ⟨v,B,t,(cT.mp i2).2,λz b=>p z (zh _ b),tx,λz=>?_,by omega,g.trans j,by rw[u]⟩);rw[n z];by_cases e:z=y
    ·subst e;exact⟨λ_=>.inr ⟨λc=>C (K.mpr c),M,N⟩,λ_=>.inr rfl⟩
    ·rw[i z];unfold oR;rw[G z e];exact⟨λq=>q.elim (λc=>c) λc=>absurd c e,.inl⟩
 ·obtain⟨f,d,i1,i2,p,i3,i,H,g,u⟩:=F;cases i1;rw[u];exact h _ _ g i3 λz=>by rw[i z];simp
theorem PC{Q:B8}(f:Tx prog w s.heap a xs)(g:Tx prog w s.heap b ys)(D:ys.length<=30)(c4:xs.length<=30)
  (h:∀h' d us,(∀c o,s.heap.get? c=Z o->h'.get? c=Z o)->Tx prog w h' s.heap.objs.size us->(∀z,z∈us↔oR (z∈xs) (z∈ys))->Q (.ref s.heap.objs.size) { s with heap:=h',drawn:=d }):A8 (A9 prog w) A (binaryOp .BitXor (.ref a) (.ref b)) Q E s:=by
 refine wpAny_binaryOp_same (T :="set") (vI f) (vI g) F.fills_set_xor F.slot_set_xor ?_;refine JI F.slot_set_xor (vI f) GD ?_ (F.args_set_xor_2 _ _);show A8 _ _ (Builtin.Frozenset.slot1 "__xor__" _ >>= _) _ _ _;refine zb (zd ?_);dsimp only;simp only[zv,qc];refine zb (zb (Ci f ?_));simp only[toBool,cond_true];refine Ci g ?_;simp only[k8,zv,qc];refine zb (m:=Builtin.Frozenset.addrOf (.ref a)) (zd ?_);refine zb ?_;have i:a<s.heap.objs.size:=by obtain⟨o,_,_,_,e,_⟩:=f;exact zz e
 have M:b<s.heap.objs.size:=by obtain⟨o,_,_,_,e,_⟩:=g;exact zz e
 show A8 _ _ (Builtin.Frozenset.baseOf a >>= _) _ _ _;refine zb (ZS f ?_);show A8 _ _ (Builtin.Frozenset.newFrom _ _ _ >>= _) _ _ _;refine zb ?_;unfold Builtin.Frozenset.newFrom;refine zb (Wa ?_);generalize H:s.heap.push (BH w)=H1;have gD:H1.get? s.heap.objs.size=Z (BH w):=by rw[<-H];exact zt _ rfl
 have p:∀c o,s.heap.get? c=Z o->H1.get? c=Z o:=λc o e=>by rw[<-H];exact ze _ e
 have J:=f.keep (h':=H1) (p a);have u:=g.keep (h':=H1) (p b);refine zb (m:=Builtin.Frozenset.addrOf _) (zd ?_);refine zb (qa ?_);unfold Builtin.Frozenset.updateFrom;refine zb (Ci (s:={ s with heap:=H1 }) u ?_);simp only[QU];refine zb (m:=Builtin.Frozenset.addrOf (.ref b)) (zd ?_);unfold Builtin.Frozenset.merge;obtain⟨ob,eb,b0,tb,Y,b4,L,B⟩:=id u;refine zb (kC (s:={ s with heap:=H1 }) Y L B.fit ?_);refine Wo (s:={ s with heap:=H1 }) gD u (by simp;exact JO M) D λH2 zs y tx x=>?_;refine zd ?_;refine zb (m:=Builtin.Frozenset.addrOf _) (zd ?_);refine zb (qa ?_);unfold Builtin.Frozenset.symmetricDifferenceUpdate;have K:(Value.ref a==Value.ref s.heap.objs.size)=false:=by
  have:a≠s.heap.objs.size:=zS i;simp[this]
 rw[zw (by rw[K];exact z5)];have j:Tx prog w H2 a xs:=J.keep λo e=>(y.2 a (zS i)).trans e;refine zb (QY (T :="set") (vI (h:=H2) j) ?_);rw[zw ()];refine zb (Ci (s:={ s with heap:=H2 }) j ?_);simp only[QU];refine zb (zd ?_);refine zb (m:=Builtin.Frozenset.addrOf (.ref a)) (zd ?_);obtain⟨oa,ea,c3,ta,C,b6,v,n⟩:=id j;refine zb (kC (s:={ s with heap:=H2 }) C v n.fit ?_);refine qa ?_;have lz:zs.length<=30:=by
  obtain⟨_,_,_,_,_,_,_,P⟩:=id tx;rw[(yC P.nd B.nd x).length_eq];exact D
 refine zb (Z2 (s:={ s with heap:=H2 }) X9 j tx () λl b5 d I G W X pl=>?_);rw[<-ni];have g4:I.get? a=Z oa:=(G.2 a (zS i)).trans C;refine zb (Z4 (s:={ s with heap:=I,drawn:=d }) (zs:=zs) g4 v n.fit (JO i) l.toList X (pl.nodup_iff.mpr n.nd) W (by rw[pl.length_eq];omega) λH3 us a3 a5 N=>?_);refine zd (zd (zd ⟨_,rfl,(by intro z;cases z),h H3 d us (λc o e=>?_) a5 λz=>?_⟩))
 ·have t:c≠s.heap.objs.size:=zS (zz e);rw[a3.2 c t,G.2 c t,y.2 c t];exact p c o e
 ·rw[N z,x z,pl.mem_iff];unfold oR;exact⟨λq=>q.elim (λc=>.inr ⟨c.2,c.1⟩) λc=>.inl ⟨c.2,c.1⟩,λq=>q.elim (λc=>.inr ⟨c.2,c.1⟩) λc=>.inl ⟨c.2,c.1⟩⟩
end
section
def So(X:Cx):R2:=λx y H Q=>∃a b zs us,x=.ref a/\y=.ref b/\H a=Z (DB X a zs)/\H b=Z (DB X b us)/\us.length<=30/\zs.length<=30/\∀D H' vs,AW H H'->H' D=Z (DB X D vs)->vs.Nodup->(∀z,z∈vs↔oR (z∈zs) (z∈us))->Q (.ref D) H'
theorem VI:yU X (binaryOp .BitXor) (So X):=by
 intro AO s σ H x y v u Q I n p h;obtain⟨a,b,zs,us,rfl,rfl,i,g,m,f,q⟩:=h;cases n;cases p;refine PC (Q9 I i) (Q9 I g) m f λh' d vs k tx l=>?_;have j:=I.hok.fresh (zl s.heap.objs.size);obtain⟨o,es,ep,t,c,_,_,x⟩:=id tx;refine⟨.ref s.heap.objs.size,_,Ir (I.laid (t':=s.toks) (a:=s.heap.objs.size) (o:=DB X s.heap.objs.size vs) k (zl _) ⟨tx,⟨o,c⟩,λh1 h2 t1 e=>Tx.keep t1 e⟩),rfl,q _ _ vs (bC j) aF x.nd l⟩
def vV(xs ys:An):An:=xs.filter (λx=>!decide (x∈ys))++ys.filter (λy=>!decide (y∈xs))
theorem Fg{z:AK}:z∈vV xs ys↔oR (z∈xs) (z∈ys):=by
 unfold vV oR;rw[yB,cD,cD];simp only[jb,QO];exact⟨λq=>q.elim .inl λc=>.inr ⟨c.2,c.1⟩,λq=>q.elim .inl λc=>.inr ⟨c.2,c.1⟩⟩
def Wu(f1 f2:Ev->S An):Ev->S An:=λρ=>(f1 ρ).bind λxs=>(f2 ρ).bind λys=>if xs.length<=30/\ys.length<=30 then Z (vV xs ys)else U
variable{e1:Expr}{f1 f2:Ev->S An}
theorem OD(h1:FC X e1 f1)(h2:FC X e2 f2):FC X (.BinOp e1 .BitXor e2 pos) (Wu f1 f2):=⟨JQ (MY VI h1.run h2.run) λσ H Q h=>by
 obtain⟨H0,ρ,ys,E,d,F,q⟩:=h;obtain⟨xs,ex,d⟩:=AU d;obtain⟨zs,x,d⟩:=AU d;split at d
 ·rename_i v;cases d;obtain⟨A,y⟩:=v;refine⟨H0,ρ,xs,E,ex,by omega,λa us H1 f ea i n p=>⟨H0,ρ,zs,E.grow f,x,by omega,λb m H2 j eb g o t=>?_⟩⟩;have C:us.length<=xs.length:=Uy n λz e=>(i z).mp e;have B:m.length<=zs.length:=Uy o λz e=>(g z).mp e;refine⟨a,b,us,m,rfl,rfl,j _ _ ea,eb,by omega,by omega,λD w vs s eD u l=>q D vs w ((f.trans j).trans s) eD (λz=>?_) u λz e=>?_⟩
  ·rw[l z,i z,g z,Fg]
  ·exact((l z).mp e).elim (λc=>p z c.1) λc=>t z c.2
 ·cases d⟩
end
section
variable{f1 f2:Ev->S An}
def Z5(a:R f1 ρ sE)(b:R f2 ρ sE):R (Wu f1 f2) ρ sE:=⟨vV a.v b.v,aY a.D (aY b.D (Z (a.v.length<=30/\b.v.length<=30))),λh=>by
 obtain⟨h1,h⟩:=aA h;obtain⟨h2,c⟩:=aA h;show(f1 ρ).bind _=_;rw[a.ok h1];show(f2 ρ).bind _=_;rw[b.ok h2];exact zk c⟩
end
end P1
namespace P1
open L2
section
variable{f:AK}{E:XK}{fs:Ev->S (O Bx)}{p:Pos}
theorem gS{k:Nat}{fa:A2}{Fx:O Bx->S Dt}(G:gW X.prog X.w X.K X.mg X.base (Ep X.prog X.w) k fa fd ps (RD X.K n Fx C f))(g:iu k X.A)(t:Gl X x)(q:X.mg x=Z (.ref fa))(hk:keepIn X.K (.ref fa)=true)(i:B9 X.K fd ps [])(l:∀e s,RX X E e s->X.xe e s)(j:Tg X (e::es) fs)(m:bv x:=by decide)(he:AA (e::es) X.env=(false,eval e X.env)::AA es X.env:=by rfl)(o:(AE cpos (AA es X.env)).any (·.1)=false:=by rfl)(hs:∀y,foldedSetIterable (.Call (.Name x p) (e::es) [] cpos) X.env y=pure y:=by intro _;rfl):
  F1 X C f E (.For tg (.Call (.Name x p) (e::es) [] cpos) body [] pos) (Ol n Fx fs):=⟨λAO s σ H D I u=>by
 refine wpAny_For (ZA (Bm (p:=p) (pos:=cpos) G g t q hk i .nil (Uw l) j.run m he o AO s σ H (λ_ _=>False) I ?_) (λv b h1=>?_) λ_ _ z=>z) hs
 ·obtain⟨H0,ρ,d,Ev,a,w⟩:=u;obtain⟨bs,eb,a⟩:=AU a;split at a
  ·rename_i h;refine⟨H0,ρ,bs,Ev,eb,λvs H1 b c=>?_⟩;show RD X.K n Fx C f (vs++[]) H1 _ E;rw[Qb];exact⟨by rw[<-Paired.length c];exact h,_,d,xV c,Bv bs,a,w.rebase (Ev.base.trans b)⟩
  ·cases a
 ·obtain⟨_,_,_,_,z⟩:=h1;exact False.elim z⟩
end
section
variable{Cn f:A2}{iv k:Nat}{n cn:AK}{np hp p pa:Pos}{tf:TE}{t:TA}{t1 t2:TS}{h0:ExceptHandler}{a b:O AC}
def HK(X:Cx)(h0:ExceptHandler)(AO:O (A2×AF))(D:BN)(e:A1)(s':A3):Prop:=
 A8 (db X) X.A (noteFrame e X.env) (λ_ b=>A8 (db X) X.A (setFlight e U) (λ_ a=>A8 (db X) X.A (handleBy e X.env [h0]) (SP X AO D) X.xe a) X.xe b) X.xe s'
def FB(X:Cx)(h0:ExceptHandler)(body:O AC)(t:TS):Prop:=∀(AO:O (A2×AF)) (s:A3) (σ:L2.St) (H:Hp) (D:BN),AV X AO σ H s->t D σ H →
 A8 (db X) X.A (execs body X.env) (SP X AO D) (HK X h0 AO D) s
theorem f7(h:FB X h0 body t1):PS X (.Try body [h0] [] [] pos) t1:=λAO s σ H D I a=>
 wpAny_Try_except (ZA (h AO s σ H D I a) (λfl b q=>by
  cases fl with
  |next=>exact k6 q
  |ret v=>exact q
  |brk=>exact q
  |cont=>exact q) λ_ _ q=>q)
theorem Ll(j:PT X.Vg c tc)(l:FB X h0 a t1)(i:FB X h0 b t2):FB X h0 [.If c a b pos] (HR tc t1 t2):=by
 intro AO s σ H D I h;refine KA (wpAny_If (ZA (j AO s σ H _ (I.wish _) h) (λd s1 ⟨H1,I1,q1⟩=>?_) (λ_ _ z=>False.elim z)));have g:=I1.jC;have k:∀{fl:Flow} {e:A3},SP X AO D fl e->(match fl with|.next=>A8 (db X) X.A (execs [] X.env) (SP X AO D) (HK X h0 AO D) e|f=>SP X AO D f e):=λ{fl e} q=>by
  cases fl with
  |next=>exact k6 q
  |ret v=>exact q
  |brk=>exact q
  |cont=>exact q
 cases d with
 |true=>exact ZA (l AO s1 σ H1 D g q1) (λfl e q=>k q) λ_ _ q=>q
 |false=>exact ZA (i AO s1 σ H1 D g q1) (λfl e q=>k q) λ_ _ q=>q
theorem Fi(L:X.stack=X.env::X.outer)(P:X.env.frame=Z X.env.locals)(d:X.N.Nodup)(hi:X.N[iv]?=Z n)(G:X.env.scope.names.lookup n=Z .local)
  (j:Gl X cn) (M:X.mg cn=Z (.ref Cn)) (hx:exmOne X.K (.ref C) (.ref Cn)=Z true) (hs:∀a,wM (Cx.inX X a) (b0::suite) (ts a))
  (Q:PE X.Vg (.Name x p) tf) (F:gW X.prog X.w X.K X.mg X.base (Ep X.prog X.w) k f fd ps sp) (m:iu k X.A) (hk:keepIn X.K (.ref f)=true) (g:B9 X.K fd ps []) (i:PA X.Vg (e::es) t)
  (o:bv cn:=by decide) (y:AA (e::es) X.env=(false,eval e X.env)::AA es X.env:=by rfl) (E:(AE cpos (AA es X.env)).any (·.1)=false:=by rfl)
  (J:swapsWith (.Call (.Name x p) (e::es) [] cpos) U pa.line X.env=pure false:=by rfl):
  FB X (.ExceptHandler (Z (.Name cn np)) (Z n) (b0::suite) hp) [.Expr (.Call (.Name x p) (e::es) [] cpos) pa] (d6 X C f iv ts tf t sp):=by
 intro AO s σ H D I h;refine KA (wpAny_Expr_any (KP ?_) I.quiet J);refine ZA (Q AO s σ H _ (I.wish _) h) (λu s0 ⟨v,H0,I0,r0,ev,q0⟩=>?_) (λ_ _ z=>False.elim z);subst ev;obtain rfl:u=Value.ref f:=r0;refine callWith_K (h₀:=X.base) I.ok.mod.kin hk (ZA (i cpos AO s0 σ H0 _ I0 q0) (λus s1 ⟨vs,H1,I1,r,q⟩=>⟨I1.Gk,?_⟩) (λ_ _ z=>False.elim z)) y E;have c:=I1.jC;have l:us.length=ps.length:=by rw[<-r.length];exact F.len _ _ _ _ q
 rw[k7];refine ye (KW (F.run X.A X.stack s1 H1 ⟨us,[]⟩ us vs _ _ m c.env0 (by have:=g s1 us c.Gk (by rw[Qb];exact l);rwa [Qb]at this) r q) λr s' b=>?_);cases r with
 |error e=>exact Ry L P d hi G j M hx hs c b o
 |ok fl=>
  cases fl with
  |next=>exact False.elim b
  |brk=>exact False.elim b
  |cont=>exact False.elim b
  |ret u=>
   obtain⟨v,H2,B,W,q2⟩:=c.after b;exact k6 ⟨_,H2,B,q2⟩
end
section
variable{e:α->Dt}{e':β->Dt}{e'':δ->Dt}
def eE(e:α->Dt):S α->Dt
 |none=>.tup []
 |some a=>e a
class GA {α:Type} (e:α->Dt):Prop where
 l:∀a,Gi (.tup []) (e a)=some false
 r:∀a,Gi (e a) (.tup [])=some false
instance:GA (DS e e' e''):=⟨λ_=>rfl,λ_=>rfl⟩
instance {n:Nat} [DecidableEq α] [BA e n] [GA e]:BA (eE e) (n+1):=⟨λa b=>by
 cases a with
 |none=>cases b with
  |none=>rfl
  |some b=>exact(GA.l (e:=e) b).trans (by simp)
 |some a=>cases b with
  |none=>exact(GA.r (e:=e) a).trans (by simp)
  |some b=>exact(BA.eq (e:=e) a b).trans (by simp),λa=>by
 cases a with
 |none=>show 1<=n+1;omega
 |some a=>exact lL (BA.dp (e:=e) a)⟩
theorem Z6(l:O α):(l.map Z++[U]).map (eE e)=l.map e++[.tup []]:=by
 rw[ZN,ZY];rfl
def XB{k:Ev->S Ap}{cO:γ->Ap}(i:Nat)(l:O α)(hi:ρ[i]?=Z (Z (oE e l)))(K:∀ds:O (S α),R k (ρ.set i (Z (oE (eE e) ds))) cO):R (aJ (J4 i (cP sZ aK)) k) ρ cO:=⟨(K (l.map Z++[U])).v,aY (Z (GC l.length)) (K (l.map Z++[U])).D,λa=>by
 obtain⟨h1,b⟩:=aA a;have h2:l.length<=1000000:=h1;have hi:ρ[i]?=Z (Z (.o (l.map e))):=hi;rw[jh (ρ':=ρ.set i (Z (oE (eE e) (l.map Z++[U])))) (by
  have:oE (eE e) (l.map Z++[U])=.o (l.map e++[.tup []]):=congrArg Bx.o (Z6 l);rw[this];have t:cP sZ aK ρ=Z (.z (.tup [])):=rfl;unfold J4;simp only[t,Au,XS,hi,zi];rw[zk (kl h2 ())])]
 exact(K _).ok b⟩
def PD(a:RL fa ρ e):R (b2 iD fa (cP nG (aq (cP sZ aK) aK))) ρ (oE (eE e)):=⟨a.v.map Z++[U],aY a.D (Z (GC (a.v.length+1))),λh=>by
 obtain⟨h1,b⟩:=aA h;have t:cP nG (aq (cP sZ aK) aK) ρ=Z (.o [.tup []]):=rfl;simp only[b2,a.ok h1,t,Au];rw[NT a.lk (ds':=[.tup []]) X9 (by rw[zi];exact b)];exact congrArg Z (congrArg Bx.o (Z6 a.v).symm)⟩
end
theorem BT(a b:AK):Ko a b=true↔oK a b/\a≠b:=by
 unfold Ko oK;rw[ltCps_eq];simp only[JS,QO];constructor
 ·intro h;exact⟨List.lt_asymm h,λe=>by subst e;exact List.lt_irrefl _ h⟩
 ·intro⟨h,hn⟩;by_cases q:a.cps.toList<b.cps.toList
  ·exact q
  ·exact absurd (yr (a:=a) (b:=b) (by unfold oK;rw[ltCps_eq];simpa using h) (by unfold oK;rw[ltCps_eq];simpa using q)) hn
theorem yM{i:Int}(h:i∈rng 0 n):∃k:Nat,k<n/\i=(k:Int):=by
 unfold rng at h;obtain⟨k,hk,rfl⟩:=cc.mp h;exact⟨k,dt.mp hk,by omega⟩
end P1
namespace P1
open L2 S1 S6
theorem wU{α:Type}[DecidableEq α]:∀{xs ys:O α},xs.Nodup->(∀x∈xs,x∈ys)->xs.length<=ys.length
 |[],_,_,_=>qi _
 |x::xs,ys,nd,h=>by
  obtain⟨h1,h2⟩:=cT.mp nd;have hx:=h x (zg ..);have:=wU (ys:=ys.erase x) h2 λy a=>(hO λe=>h1 (by rw[<-e];exact a)).mpr (h y (zh _ a));rw[Y1 hx]at this;have:=gu hx;simp only[ZZ];omega
theorem RQ[DecidableEq α]{xs ys:O α}(h1:xs.Nodup)(h2:ys.Nodup)(h:∀x,x∈xs↔x∈ys):xs.Perm ys:=by
 rw[List.perm_iff_count];intro a;by_cases b:a∈xs
 ·rw[h1.count,h2.count,zk b,zk ((h a).mp b)]
 ·rw[h1.count,h2.count,zw b,zw λz=>b ((h a).mpr z)]
structure Wd (U:An) (w:List An):Prop where
 ne:∀s∈w,s≠[]
 so:∀s∈w,s.Pairwise oK
 nd:w.flatten.Nodup
 sub:∀x∈w.flatten,x∈U
 st:w.Pairwise (λa b=>FR a b=true)
def same(w:O An)(x y:AK):Prop:=∃s∈w,x∈s/\y∈s
theorem Fj{α:Type}:∀{w:O (O α)},w.flatten.Nodup->∀{s:O α},s∈w->s.Nodup
 |a::w,h,s,hs=>by
  rw[ZE,Jn]at h;rcases List.mem_cons.mp hs with e|e
  ·rw[e];exact h.1
  ·exact Fj h.2.1 e
structure EL (m:List (Int×List α)) (xs:List α):Prop where
 k:(m.map (·.1)).Nodup
 ne:∀q∈m,q.2≠[]
 p:(m.map (·.2)).flatten.Perm xs
theorem EL.put{m:O (Int×O α)}{xs:O α}(h:EL m xs)(k:Int)(x:α):EL (uM m k x) (xs++[x]):=by
 unfold uM;split
 ·rename_i hk;obtain⟨q0,c,e⟩:=List.any_eq_true.mp hk;have e:q0.1=k:=QP e;obtain⟨g,AT,rfl⟩:=kG c;have d:=h.k;rw[ZN,zr,Jn]at d;have i:∀l:O (Int×O α),k∉l.map (·.1)->l.map (λq=>if q.1=k then(q.1,q.2++[x])else q)=l:=λl n=>by
   conv=>rhs;rw[<-jV l]
   exact qA λq c=>by rw[zw λz=>n (cc.mpr ⟨q,c,z⟩)];rfl
  have f1:=i g λz=>d.2.2 _ z _ (zg ..) e.symm;have f2:=i AT λz=>(cT.mp d.2.1).1 (by rw[e];exact z);have f3:(g++q0::AT).map (λq=>if q.1=k then(q.1,q.2++[x])else q)=g++(q0.1,q0.2++[x])::AT:=by rw[ZN,zr,f1,f2,zk e]
  rw[f3];refine⟨by have:=h.k;simpa using this,λq c=>?_,?_⟩
  ·rcases List.mem_append.mp c with c|c
   ·exact h.ne q (Q2 _ c)
   ·rcases List.mem_cons.mp c with z|c
    ·rw[z];simp
    ·exact h.ne q (Zs _ (zh _ c))
  ·refine List.Perm.trans ?_ (h.p.append_right [x]);simp only[ZN,zr,KI,ZE,qq];refine List.Perm.append_left _ (List.Perm.append_left _ ?_);exact ez
 ·rename_i hk;refine⟨?_,λq c=>?_,?_⟩
  ·rw[ZN,Jn];refine⟨h.k,by simp,λa j b f=>?_⟩;have f:b=k:=by simpa using f
   subst f;intro z;subst z;obtain⟨q,c,e⟩:=cc.mp j;exact hk (List.any_eq_true.mpr ⟨q,c,qS e⟩)
  ·rcases List.mem_append.mp c with c|c
   ·exact h.ne q c
   ·cases bN.mp c;simp
  ·rw[ZN,KI];simpa using h.p.append_right [x]
theorem WJ(k:β->Int)(v:β->α)(xs:O β):EL (Oe k v xs) (xs.map v):=by
 unfold Oe;have:∀(ys:O β) (m:O (Int×O α)) (zs:O α),EL m zs->EL (ys.foldl (λm x=>uM m (k x) (v x)) m) (zs++ys.map v):=by
  intro ys
  induction ys with
  |nil=>intro m zs h;simpa using h
  |cons y ys a=>
   intro m zs h;have:=a _ _ (h.put (k y) (v y));simpa[qq]using this
 simpa using this xs [] [] ⟨Kk,λ_ h=>(by cases h),.nil⟩
theorem Fl[Inhabited α]{m:O (Int×α)}(b:(m.map (·.1)).Nodup){q:Int×α}(h:q∈m):look m q.1=q.2:=by
 unfold look;cases a:m.find? λp=>decide (p.1=q.1)with
 |none=>exact absurd (eH.mp a q h) (by simp)
 |some p=>
  have h1:=me a;have h2:p.1=q.1:=by simpa using List.find?_some a
  have:p=q:=yJ (f:=λp:Int×α=>p.1) b h1 h h2;rw[this];rfl
theorem wV:∀{m:O An},(m.map bH).flatten.Perm m.flatten
 |[]=>.nil
 |s::m=>by rw[zr,ZE,ZE];exact(aX s).append wV
theorem vJ{w a:O An}(h:w.Perm a):w.flatten.Perm a.flatten:=by
 induction h with
 |nil=>exact .nil
 |cons x _ b=>rw[ZE,ZE];exact b.append_left x
 |swap x y l=>
  simp only[ZE,<-qq];exact ez.append_right _
 |trans _ _ h1 h2=>exact h1.trans h2
theorem Sf{m:O (Int×An)}{U:An}(h:EL m xs)(c:xs.Nodup)(f:∀x∈xs,x∈U):Wd U (dW ((m.map (·.1)).map λk:Int=>bH (look m k)))/\(dW ((m.map (·.1)).map λk:Int=>bH (look m k))).flatten.Perm xs:=by
 have e:((m.map (·.1)).map λk:Int=>bH (look m k))=(m.map (·.2)).map bH:=by
  rw[ZY,ZY];exact qA λq a=>by simp only[Function.comp,Fl h.k a]
 rw[e];have pm:=iG ((m.map (·.2)).map bH);have b:(dW ((m.map (·.2)).map bH)).flatten.Perm xs:=(vJ pm).trans (wV.trans h.p);have mem:∀s∈dW ((m.map (·.2)).map bH),∃q∈m,s=bH q.2:=λs hs=>by
  obtain⟨t,d,rfl⟩:=cc.mp (pm.mem_iff.mp hs);obtain⟨q,a,rfl⟩:=cc.mp d;exact⟨q,a,rfl⟩
 refine⟨⟨λs hs z=>?_,λs hs=>?_,b.nodup_iff.mpr c,λx hx=>f x (b.mem_iff.mp hx),uJ _⟩,b⟩
 ·obtain⟨q,a,rfl⟩:=mem s hs;exact h.ne q a (by have:=(aX q.2).length_eq;rw[z]at this;exact dd.mp this.symm)
 ·obtain⟨q,a,rfl⟩:=mem s hs;exact fu _
end P1
section
set_option maxHeartbeats 1000000
namespace P1
open L2
open PySem.Builtin PySem.Builtin.Str
abbrev cs(s:AK):O Nat:=s.cps.toList
theorem KY(a b:AK):cs (a++b)=cs a++cs b:=iJ
theorem Z8(a:AK):a.length=(cs a).length:=by simp[Str.length]
theorem VS(y p q:AK)(ps:An):Str.join y (p::q::ps)=p++y++Str.join y (q::ps):=rfl
theorem Z9(h:n<=x.length):cs (Txt.slice x (Z (n:Int)) U)=(cs x).drop n:=by
 rw[slice_from_eq (b:=x.length) () () rfl];show((cs x).drop ((n:Int).toNat)).take _=_;rw[YV,gG (by rw[xh,<-Z8];omega)]
theorem Sj(h:n<=x.length):cs (Txt.slice x U (Z (n:Int)))=(cs x).take n:=by
 have:=slice_closes_to (x:=x) (j:=(n:Int)) ⟨by omega,by rw[show x.cps.toList.length=x.length by simp[Str.length]];omega⟩;rw[eq_of_beq this];show((cs x).drop 0).take _=_;simp
theorem Wp:∀(y p:AK) (ps:An),cs (Txt.join y (p::ps))=cs p++ps.flatMap λq=>cs y++cs q:=by
 intro y p ps;rw[show Txt.join y (p::ps)=Str.join y (p::ps) from StrLaws.glued_eq_join y _]
 induction ps generalizing p with
 |nil=>simp[Str.join]
 |cons q ps a=>rw[VS,KY,KY,a,YR,qq,qq]
end P1
end
section
set_option maxHeartbeats 1000000
namespace P1
open L2 S1 S6
section
variable [Inhabited α]
end
section
variable{e:α->Dt} [N8 e]
end
end P1
end
namespace P1
open L2
open PySem.Builtin PySem.Builtin.Str
end P1
section
set_option maxHeartbeats 1000000
namespace P1
open L2
open PySem.Builtin PySem.Builtin.Str
end P1
end
section
set_option synthInstance.maxSize 100000
namespace G45
open L2 P1
noncomputable section
abbrev lf:=O P1.Dt
abbrev pP:Type:=AK×(O An)×(O An)
abbrev vW:pP->Dt:=DS eS (eT (eT eS)) (eT (eT eS))
abbrev Mc:Type:=An×(O An)×(O An)
abbrev Mo:Mc->Dt:=DS (eL eS) (eL (eT eS)) (eL (eT eS))
def top(i:Nat):AC:=PySem.Challenge.pw_onefolk_k45_groups_told.main.body.getD i (.Pass ⟨0,0,0,0⟩)
abbrev Fo:AC:=top 29
abbrev wB:AC:=top 30
abbrev Al:AC:=top 31
abbrev wC:AC:=top 32
abbrev Fp:AC:=top 34
abbrev Jj:AC:=top 33
abbrev yN:AC:=top 35
abbrev uR:AC:=top 36
abbrev Jk:AC:=top 37
abbrev Fq:AC:=top 9
abbrev fQ:AC:=top 12
abbrev yO:AC:=top 4
abbrev yP:AC:=top 5
abbrev wD:AC:=top 7
abbrev yQ:AC:=top 6
abbrev Ft:AC:=top 14
abbrev Fv:AC:=top 13
abbrev o9:AC:=top 11
abbrev wF:AC:=top 39
abbrev pQ:AC:=top 38
abbrev nY:AC:=top 40
abbrev s_law:AC:=top 41
def fuel:Nat:=4
def wG:Ev->S Ap:=(aJ (aJ (B4 2 (b2 jf (b2 iD (b2 uw (gv 2) (cB (.int 69621))) (gv 3)) (cB (.int 2147483647)))) iz) (fP [3]))
def rB:Ev->S Ap:=(aJ (Av (vB EO (gv 1) (cP jy (aq (gv 0) aK))) (aJ (jT (b2 nP (gv 0) (gv 1))) iz) iz) (aJ (B4 2 (b2 jf (b2 uw (cB (.int 48271)) (b2 iD (b2 iD (b2 uw (gv 1) (gv 1)) (b2 uw (cB (.int 7)) (gv 1))) (cB (.int 11)))) (cB (.int 2147483647)))) (aJ (qX (VB (DA (gv 0) zF (CZ (cB (.int 3))))) (tH 3) wG) (aJ (jT (gv 2)) iz))))
def iH:O Bx->S Bx:=fM 4 rB
def j7:Ev->S Ap:=(aJ (aJ (B4 3 (b2 jf (b2 iD (b2 iD (b2 uw (gv 3) (b2 iD (b2 jf (gv 3) (cB (.int 65521))) (cB (.int 40487)))) (b2 uw (cB (.int 7)) (gv 5))) (cB (.int 5))) (cB (.int 1999999973)))) (aJ (J4 2 (b2 nP (cP nG (aq (gv 3) (aq (b2 jf (gv 4) (cB (.int 1000000))) aK))) (cP QF (aq (b2 EU (gv 4) (cB (.int 0))) aK)))) (aJ (B4 4 (b2 nM (gv 4) (cB (.int 1000000)))) iz))) (fP [5]))
def j9:Ev->S Ap:=(aJ (B4 2 (cP nG aK)) (aJ (B4 3 (b2 jf (b2 uw (b2 iD (b2 jf (gv 0) (cB (.int 1999999973))) (cB (.int 31))) (cB (.int 765432101))) (cB (.int 1999999973)))) (aJ (B4 4 (cB (.int 0))) (aJ (Av (WX (vB EO (gv 0) (cB (.int 0))) (vB Hc (gv 0) (b2 L3 (cB (.int 10)) (cB (.int 18))))) (aJ (aJ (B4 4 (cP Yn (aq (gv 0) aK))) iz) (fP [])) (aJ iz (fP []))) (aJ (qX (Tz (aq (gv 1) aK)) (tH 5) j7) (aJ (CJ 2) iz))))))
def d9:O Bx->S Bx:=fM 6 j9
def nZ:Ev->S Ap:=(aJ (aJ (B4 7 (b2 nP (gv 2) (b2 jf (b2 iD (gv 6) (b2 nP (gv 0) (cB (.int 2)))) (cB (.int 15))))) (aJ (B4 8 (b2 iD (b2 iD (DA (gv 3) zF (CZ (gv 4))) (gv 7)) (DA (gv 3) (CZ (gv 4)) zF))) (aJ (Av (vB Be (b2 jf (b2 nP (gv 0) (cB (.int 3))) (cB (.int 3))) (cB (.int 1))) (aJ (aJ (B4 8 (b2 uw (b2 nP (gv 2) (b2 nM (gv 6) (cB (.int 8)))) (b2 iD (cB (.int 1)) (b2 jf (gv 6) (cB (.int 8)))))) iz) (fP [])) (aJ iz (fP []))) (aJ (J4 5 (gv 8)) iz)))) (fP [6,7,8]))
def pq:Ev->S Ap:=(aJ (B4 2 (cB (.str "abcdefghijklmnopqrstuvwxyz"))) (aJ (B4 3 (b1 (M7 "") (fK (Tz (aq (b2 jf (b2 nP (gv 0) (cB (.int 0))) (cB (.int 6))) aK)) (tH 2) uD (b2 nP (gv 0) (b2 jf (b2 nM (b2 nP (gv 1) (gv 2)) (cB (.int 40))) (cB (.int 26)))) [2,0] 1))) (aJ (B4 4 (b2 jf (b2 nP (gv 0) (cB (.int 1))) (b2 iD (cP jy (aq (gv 3) aK)) (cB (.int 1))))) (aJ (B4 5 (cP nG aK)) (aJ (qX (Tz (aq (gv 1) aK)) (tH 6) nZ) (aJ (CJ 5) iz))))))
def pA:O Bx->S Bx:=fM 9 pq
def kh:Ev->S Ap:=(aJ (B4 2 (λ_=>Z (.m [] U))) (aJ (Em 2 4 3 (Tz (aq (cP jy (aq (gv 0) aK)) aK)) (b2 jf (b2 nM (b2 nP (gv 1) (b2 jf (gv 3) (cP jy (aq (gv 1) aK)))) (b2 iD (cB (.int 1)) (b2 nM (gv 3) (cP jy (aq (gv 1) aK))))) (cP QJ (aq (cB (.int 1)) (aq (cP jy (aq (gv 0) aK)) aK)))) (vB EU (b2 jf (b2 nP (gv 1) (cB (.int 0))) (cB (.int 3))) (cB (.int 0))) (b2 jf (gv 4) (cB (.int 3))) (b2 nP (gv 0) (gv 3))) (aJ (jT (cP qZ (aq (fK (Aj (gv 2)) (tH 1) uD (cP lJ (aq (cP wz (aq (b2 oX (gv 0) (gv 1)) aK)) aK)) [2] 1) aK))) iz)))
def jk:O Bx->S Bx:=fM 5 kh
def rC:Ev->S Ap:=gN
def rE:O Bx->S Bx:=fM 6 rC
def vK:Ev->S Ap:=(aJ (B4 2 (bU 2 d9 (aq (b1 Gs (bU 2 iH (aq (gv 0) (aq (gv 1) aK)))) (aq (cB (.int 12)) aK)))) (aJ (B4 3 (b2 jf (b2 nP (gv 2) (cB (.int 6))) (cB (.int 11)))) (aJ (B4 4 (cP wz (aq (bU 2 pA (aq (gv 2) (aq (gv 3) aK))) aK))) (aJ (Av (vB Be (b2 jf (b2 nM (b2 nP (gv 2) (cB (.int 6))) (cB (.int 11))) (cB (.int 16))) (cB (.int 7))) (aJ (aJ (B4 4 (cP wz (aq (fK (Tz (aq (cB (.int 16)) aK)) (tH 0) uD (b2 uw (b2 nP (cB (.str "ab")) (b2 nM (gv 0) (cB (.int 8)))) (b2 iD (cB (.int 1)) (b2 jf (gv 0) (cB (.int 8))))) [] 1) aK))) iz) (fP [])) (aJ iz (fP []))) (aJ (B4 5 (bU 2 d9 (aq (b1 Gs (bU 2 iH (aq (gv 0) (aq (b1 Gs (b2 iD (gv 1) (cB (.int 1)))) aK)))) (aq (cB (.int 16)) aK)))) (aJ (B4 6 (bU 2 d9 (aq (b1 Gs (bU 2 iH (aq (gv 0) (aq (b1 Gs (b2 iD (gv 1) (cB (.int 2)))) aK)))) (aq (cB (.int 16)) aK)))) (aJ (B4 7 (bU 2 jk (aq (gv 4) (aq (gv 5) aK)))) (aJ (B4 8 (bU 2 jk (aq (gv 4) (aq (gv 6) aK)))) (aJ (Av (vB Be (b2 jf (b2 nP (gv 2) (cB (.int 7))) (cB (.int 3))) (cB (.int 1))) (aJ (aJ (B4 8 (bU 2 rE (aq (gv 7) (aq (gv 6) aK)))) iz) (fP [])) (aJ iz (fP []))) (EC 4 (EC 7 (EC 8 (aJ (jT (cP sZ (aq (gv 4) (aq (gv 7) (aq (gv 8) aK))))) iz)))))))))))))
def vL:O Bx->S Bx:=fM 9 vK
def sS:Ev->S Ap:=(aJ (aJ (Av (tV (cP CM (aq (fK (Ib (gv 7)) (tH 1) uD (b2 CY (gv 1) (gv 0)) [5] 1) aK))) (aJ (aJ (B4 5 (b2 iD (gv 5) (fK (Ib (gv 7)) (tH 1) (vB Fh (gv 1) (gv 0)) (gv 1) [5] 1))) iz) (fP [])) (aJ iz (fP []))) iz) (fP [7]))
def sU:Ev->S Ap:=(aJ (aJ (B4 6 (cP jy (aq (gv 5) aK))) (aJ (qX (VB (b2 iD (gv 1) (gv 2))) (tH 7) sS) iz)) (fP [7]))
def sV:Ev->S Ap:=(aJ (aJ (Av (za (tV (cP CM (aq (fK (Ib (gv 3)) (tH 1) uD (b2 CY (gv 0) (gv 1)) [4] 1) aK)))) (aJ (B4 5 (cP nG (aq (gv 4) aK))) (aJ (B4 6 (cB (.int 0))) (aJ (W2 (vB EO (gv 6) (cP jy (aq (gv 5) aK))) sU 70) (aJ (J4 3 (b1 Gs (cP wz (aq (gv 5) aK)))) iz)))) iz) iz) (fP [4,5,6,7]))
def mF:Ev->S Ap:=(aJ (B4 3 (cP nG aK)) (aJ (uh 0 (tH 4) sV) (aJ (CJ 3) iz)))
def mG:O Bx->S Bx:=fM 8 mF
def jJ:Ev->S Ap:=(aJ (Av (vB Be (cP jy (aq (gv 0) aK)) (cB (.int 1))) (aJ (jT (b2 nP (cP nG (aq (cB (.str "kept")) (aq (cB (.str "split")) aK))) (cP QF (aq (b2 EU (cP jy (aq (gv 1) aK)) (cB (.int 1))) aK)))) iz) iz) (aJ (jT (b2 nP (cP nG (aq (cB (.str "joined")) (aq (cB (.str "mixed")) aK))) (cP QF (aq (b2 EU (cP jy (aq (gv 1) aK)) (cB (.int 1))) aK)))) iz))
def jK:O Bx->S Bx:=fM 2 jJ
def yR:Ev->S Ap:=(aJ (aJ (B4 5 (cP lJ (aq (fK (Ib (gv 1)) (tH 1) (vB CY (b2 nP (gv 1) (cB (.int 0))) (gv 0)) (gv 1) [4] 1) aK))) (aJ (B4 6 (cP lJ (aq (fK (Ib (gv 2)) (tH 1) (vB CY (b2 nP (gv 1) (cB (.int 0))) (gv 0)) (gv 1) [4] 1) aK))) (aJ (J4 3 (cP sZ (aq (b1 Gs (bU 2 jK (aq (gv 5) (aq (gv 6) aK)))) (aq (gv 5) (aq (gv 6) aK))))) iz))) (fP [4,5,6]))
def vM:Ev->S Ap:=(aJ (B4 3 (cP nG aK)) (aJ (qX (VB (bU 3 mG (aq (gv 0) (aq (gv 1) (aq (gv 2) aK))))) (tH 4) yR) (aJ (CJ 3) iz)))
def vN:O Bx->S Bx:=fM 7 vM
def rG:Ev->S Ap:=(aJ (jT (cP wz (aq (KC (Ib (gv 0)) (tH 0) uD (FG (VB (gv 0)) (tH 1) uD (Yg (gv 1))) [] 2) aK))) iz)
def cM:O Bx->S Bx:=fM 1 rG
def fU:Ev->S Ap:=(aJ (aJ (B4 2 (Du (Wu (Dr (bU 1 cM (aq (gv 0) aK))) (Dr (bU 1 cM (aq (gv 1) aK)))))) (aJ (Av (tV (gv 2)) (aJ II iz) iz) iz)) (fP [2]))
def fV:O Bx->S Bx:=fM 3 fU
def mH:Ev->S Ap:=(aJ (jT (T8 (Ib (gv 0)) (tH 0) uD (gv 0) (gv 0) [] 1)) iz)
def mJ:O Bx->S Bx:=fM 1 mH
def sW:Ev->S Ap:=(aJ (aJ (Av (WX (vB Be (b2 oX (gv 0) (gv 4)) (gv 1)) (vB Be (b2 oX (gv 0) (gv 4)) (gv 2))) (aJ (aJ (Yt 0 (gv 3) (gv 4)) iz) (fP [])) (aJ iz (fP []))) iz) (fP [4]))
def mK:Ev->S Ap:=(aJ (aJ (B4 3 (cP Ak (aq (gv 1) (aq (gv 2) aK)))) (aJ (qX (VB (cP DG (aq (gv 0) aK))) (tH 4) sW) iz)) (fP [3,4]))
def jL:A2->O (AZ×Dt)->O Bx->S (O (AZ×Dt)):=Nz 5 mK
def kj:Ev->S Ap:=(aJ (jT (cP lJ (aq (fK (Aj (gv 0)) (tH 2) (vB Be (b2 oX (gv 1) (gv 2)) (gv 0)) (gv 2) [1,0] 1) aK))) iz)
def kE:O Bx->S Bx:=fM 2 kj
def mL:Ev->S Ap:=(aJ (jT (fK (Aj (gv 0)) (tH 1) (vB Be (b2 oX (gv 0) (gv 1)) (gv 1)) (b1 Gs (bU 2 kE (aq (gv 0) (aq (gv 1) aK)))) [0] 1)) iz)
def mO:O Bx->S Bx:=fM 1 mL
def rH:Ev->S Ap:=(aJ (Av (vB Be (gv 0) (cB (.int 1))) (aJ (jT (Ee (vB Be (gv 1) (cB (.int 1))) (cB (.str "kept")) (cB (.str "split")))) iz) iz) (aJ (jT (Ee (vB Be (gv 1) (cB (.int 1))) (cB (.str "joined")) (cB (.str "mixed")))) iz))
def rJ:O Bx->S Bx:=fM 2 rH
def rK:Ev->S Ap:=(aJ (B4 3 (cP lJ (aq (fK (Ib (gv 0)) (tH 1) (vB CY (b2 nP (gv 1) (cB (.int 0))) (gv 0)) (gv 1) [2] 1) aK))) (aJ (B4 4 (cP lJ (aq (fK (Ib (gv 1)) (tH 1) (vB CY (b2 nP (gv 1) (cB (.int 0))) (gv 0)) (gv 1) [2] 1) aK))) (aJ (jT (cP sZ (aq (b1 Gs (bU 2 rJ (aq (b1 Gs (cP jy (aq (gv 3) aK))) (aq (b1 Gs (cP jy (aq (gv 4) aK))) aK)))) (aq (gv 3) (aq (gv 4) aK))))) iz)))
def rM:O Bx->S Bx:=fM 5 rK
def uT:Ev->S Ap:=(aJ (aJ (DK 2 2 jL (aq (b2 oX (gv 2) (b2 nP (gv 3) (cB (.int 0)))) (aq (b2 oX (gv 2) (gv 4)) aK))) iz) (fP [4]))
def uU:Ev->S Ap:=(aJ (aJ (uh 3 (tH 4) uT) iz) (fP [3,4]))
def pB:Ev->S Ap:=(aJ (Ud (bU 2 fV (aq (gv 0) (aq (gv 1) aK)))) (aJ (B4 2 (bU 1 mJ (aq (b1 Gs (bU 1 cM (aq (gv 0) aK))) aK))) (aJ (qX (VB (b2 iD (gv 0) (gv 1))) (tH 3) uU) (aJ (jT (fK (Ib (bU 1 mO (aq (gv 2) aK))) (tH 2) uD (b1 Gs (bU 3 rM (aq (gv 0) (aq (gv 1) (aq (gv 2) aK))))) [0,1] 1)) iz))))
def lG:O Bx->S Bx:=fM 5 pB
def kJ:Ev->S Ap:=(aJ (B4 2 (fK (Ib (gv 0)) (tH 1) uD (cP lJ (aq (fK (Ib (gv 1)) (tH 1) (vB Tr (gv 1) (gv 0)) (gv 1) [0] 1) aK)) [1] 1)) (aJ (jT (cP qZ (aq (fK (Ib (gv 2)) (tH 0) (vB Tr (gv 0) (cP sZ aK)) (gv 0) [] 1) aK))) iz))
def g8:O Bx->S Bx:=fM 3 kJ
def n6:Ev->S Dt:=Oi (B4 2 (Du (Wu (Dr (bU 1 cM (aq (gv 0) aK))) (Dr (bU 1 cM (aq (gv 1) aK)))))) (HV (tV (gv 2)) (FU (λ_=>true) (b2 nP (gv 2) (cB (.int 0)))) (λ_=>U))
def yS:Ev->S Dt:=Ol 2 (gC 3 n6) (aq (gv 0) (aq (gv 1) aK))
def Jl:Ev->S Dt:=Oi (B4 2 (cP nG aK)) (Ol 2 (gC 5 yS) (aq (gv 0) (aq (gv 1) aK)))
def Jm:Ev->S Dt:=Ol 2 (gC 3 n6) (aq (gv 0) (aq (gv 1) aK))
def OJ:Bx->S Bx
 |.z (.bl true)=>Z (.z (.bl true))
 |_=>U
def F5:Bx->Bx->Bx->S Dt
 |.z (.int n),b1,b2=>if n=0 then gC 5 yS [b1,b2]else if n=1 then gC 6 Jl [b1,b2]else gC 9 Jm [b1,b2]
 |_,_,_=>U
def bZ:O Bx->S Bx
 |[b0,b1,b2,b3]=>(F5 b0 b1 b2).bind λd=>(Be (.z d) b3).bind OJ
 |_=>U
def jW:Ev->S Ap:=(aJ (aJ (Av (WX (za (tV (bU 4 bZ (aq (gv 13) (aq (gv 1) (aq (gv 4) (aq (b2 nP (gv 0) (cB (.int 0))) aK))))))) (za (tV (bU 4 bZ (aq (gv 13) (aq (gv 4) (aq (gv 1) (aq (b2 nP (gv 0) (cB (.int 0))) aK)))))))) (aJ (jT (cB (.bl false))) iz) iz) (aJ (Av (WX (za (tV (bU 4 bZ (aq (gv 13) (aq (gv 1) (aq (gv 5) (aq (cB (.str "zzzzzzz")) aK))))))) (za (tV (bU 4 bZ (aq (gv 13) (aq (gv 5) (aq (gv 4) (aq (b2 nP (gv 0) (cB (.int 0))) aK)))))))) (aJ (jT (cB (.bl false))) iz) iz) (aJ (Av (WX (za (tV (bU 4 bZ (aq (gv 13) (aq (gv 1) (aq (gv 6) (aq (b2 nP (gv 0) (cB (.int 0))) aK))))))) (za (tV (bU 4 bZ (aq (gv 13) (aq (gv 6) (aq (gv 1) (aq (b2 nP (gv 0) (cB (.int 0))) aK)))))))) (aJ (jT (cB (.bl false))) iz) iz) (aJ (Av (XF (vB Tr (gv 7) (gv 9)) (za (tV (bU 4 bZ (aq (gv 13) (aq (gv 10) (aq (gv 11) (aq (gv 12) aK)))))))) (aJ (jT (cB (.bl false))) iz) iz) iz)))) (fP [13]))
def gP:Ev->S Ap:=(aJ (Av (vB Be (gv 0) (cP nG aK)) (aJ (jT (cB (.bl true))) iz) iz) (aJ (B4 4 (bU 2 g8 (aq (gv 2) (aq (b2 nP (gv 0) (cB (.int 0))) aK)))) (aJ (B4 5 (cP qZ (aq (b2 iD (gv 2) (cP nG (aq (cP sZ (aq (cB (.str "zzzzzzz")) aK)) aK))) aK))) (aJ (B4 6 (cP qZ (aq (b2 iD (gv 4) (cP nG (aq (cP sZ (aq (cB (.str "zzzzzzz")) aK)) aK))) aK))) (aJ (B4 7 (b2 jf (gv 3) (cP jy (aq (gv 0) aK)))) (aJ (B4 8 (b2 iD (cB (.int 1)) (b2 jf (b2 nM (gv 3) (cP jy (aq (gv 0) aK))) (cP QJ (aq (cB (.int 1)) (aq (b2 ED (cP jy (aq (gv 0) aK)) (cB (.int 1))) aK)))))) (aJ (B4 9 (b2 jf (b2 iD (gv 7) (gv 8)) (cP jy (aq (gv 0) aK)))) (aJ (IU 10 11 (aq (b1 Gs (bU 2 g8 (aq (gv 1) (aq (b2 nP (gv 0) (gv 7)) aK)))) (aq (b1 Gs (bU 2 g8 (aq (gv 2) (aq (b2 nP (gv 0) (gv 9)) aK)))) aK))) (aJ (B4 12 (cP Ak (aq (b2 nP (gv 0) (gv 7)) (aq (b2 nP (gv 0) (gv 9)) aK)))) (aJ (qX (Tz (aq (cB (.int 3)) aK)) (tH 13) jW) (aJ (jT (cB (.bl true))) iz)))))))))))
def gQ:O Bx->S Bx:=fM 14 gP
def O1:Ev->S Ap:=(aJ (aJ (IA (XR 3 (CK (tH 2) (CK (tH 3) (CK (tH 4) NN)))) (bU 2 vL (aq (gv 0) (aq (b2 uw (cB (.int 3)) (gv 1)) aK)))) (aJ (B4 5 (bU 3 vN (aq (gv 2) (aq (gv 3) (aq (gv 4) aK))))) (aJ (B4 6 (bU 2 lG (aq (gv 3) (aq (gv 4) aK)))) (aJ (Av (WX (za (tV (Yp BQ (gv 6)))) (vB Tr (gv 6) (gv 5))) (aJ (jT (cB (.bl false))) iz) iz) (aJ (J4 6 (cP sZ aK)) (aJ (Av (WX (vB Tr (bU 2 lG (aq (gv 3) (aq (gv 4) aK))) (gv 5)) (vB Tr (gv 6) (b2 iD (gv 5) (cP nG (aq (cP sZ aK) aK))))) (aJ (jT (cB (.bl false))) iz) iz) (aJ (Av (za (tV (bU 4 gQ (aq (gv 2) (aq (gv 3) (aq (gv 4) (aq (b2 nP (bU 2 d9 (aq (b1 Gs (bU 2 iH (aq (gv 0) (aq (b2 uw (cB (.int 3)) (gv 1)) aK)))) (aq (cB (.int 12)) aK))) (cB (.int 8))) aK))))))) (aJ (jT (cB (.bl false))) iz) iz) iz))))))) (fP [1,2,3,4,5,6]))
def U0:Ev->S Ap:=(aJ (qX (Tz (aq (cP QJ (aq (cB (.int 1)) (aq (cP Yq (aq (b2 nM (cP jy (aq (gv 0) aK)) (cB (.int 3))) (aq (cB (.int 3)) aK))) aK))) aK)) (tH 1) O1) (aJ (jT (cB (.bl true))) iz))
def F_law:O Bx->S Bx:=fM 7 U0
end
end G45
end
section
set_option synthInstance.maxSize 100000
namespace G45
open L2 P1
abbrev lN:AC:=top 15
abbrev lO:AC:=top 19
abbrev RT:AC:=match top 2 with
 |.ClassDef _ _ _ b _ _ _ _ _ _ _=>b.getD 0 (.Pass ⟨0,0,0,0⟩)
 |s=>s
section
variable{fdI:FuncData}{FE:A2}
theorem WG:bA ["self","name"] ["self","name"] (aG RT):=j5
theorem KZ(F:Br K "__init__" "NoName.__init__" RT fI fdI)(hx:ZF K D fI EW "ValueError.__new__"=true)(h:C3 K D "name"=true)(f:mg "FolkError"=Z (.ref FE))(d:Uu K FE "ValueError.__init__"):
  gW P w K mg base zZ 1 fI fdI ["self","name"] (F8 D "name" λ_=>True):=by
 refine VA (k:=0) (fa:=cB (.str "this name is refused")) (ρ0:=λ_=>[U,U]) F WG PySem.F.excBase_ValueError hx h f d (by decide +kernel) X9 (λv _=>⟨_,rfl,λH e=>⟨rfl,λi b z=>?_,λi j c a b z=>?_,AW.refl H,λi c a z=>?_⟩⟩) λl A outer s H E X g m=>?_
 ·match i with
  |0=>cases z
  |1=>cases z
  |_+2=>cases z
 ·match i with
  |0=>cases z
  |1=>cases z
  |_+2=>cases z
 ·match i with
  |0=>cases z
  |1=>cases z
  |_+2=>cases z
 ·subst g;exact⟨rfl,jG,pv 0,pv 0,pv 1,by decide,rfl,rfl,rfl,rfl,rfl,_,rfl⟩
variable{agJ Am GF RV RW ai9:A2}{ad5 zP Jo U3 U4 ad6:FuncData}
theorem NR:bA ["one","other","alone"] ["one","other"] (aG fQ):=j5
theorem RZ(F:Br K "refuse_other_names" "refuse_other_names" fQ Am zP)(e:gW P w K mg base zZ 1 agJ ad5 ["sets"] (DC K 1 cM))(g:mg "names_in"=Z (.ref agJ))(c:keepIn K (.ref agJ)=true)(f:B9 K ad5 ["sets"] [])(b:mg "set"=U)(j:mg "sorted"=U)
  (hx:ZF K D fI EW "ValueError.__new__"=true) (hk:keepIn K (.ref D)=true) (i:gW P w K mg base zZ 1 fI fdI ["self","name"] (F8 D "name" λ_=>True)) (l:B9 K fdI ["self","name"] []) (n:mg "NoName"=Z (.ref D)):
  gW P w K mg base (Ep P w) 3 Am zP ["one","other"] (RD K 2 (gC 3 n6) D "name"):=by
 refine Uv (k:=2) (gx:=n6) F NR X9 X9 λo A outer s H E a m hp=>?_;have d:=BL a;have h:=NR.nd;exact Oj (bB 2 h (T7 X9 X9 j (OD (BZ X9 d X9 b (JZ e (a.mono ()) X9 g c f (aj (ao 0) au))) (BZ X9 d X9 b (JZ e (a.mono ()) X9 g c f (aj (ao 1) au)))))) (uO (iq (jY (ao 2)) (uO (ZL (okX:=λ_=>true) PySem.F.excBase_ValueError hx () hk i l (a.mono ()) X9 n m (cZ (ao 2) aH) (λ_ _ _ _ _ _=>trivial))) ZM))
theorem lI:bA ["one","other","heads","own","name"] ["one","other"] (aG o9):=j5
theorem NY(F:Br K "groups_of" "groups_of" o9 GF Jo)(G:gW P w K mg base (Ep P w) 3 Am zP ["one","other"] (RD K 2 (gC 3 n6) D "name"))(d:mg "refuse_other_names"=Z (.ref Am))(b:keepIn K (.ref Am)=true)(e:B9 K zP ["one","other"] []):
  gW P w K mg base (Ep P w) 4 GF Jo ["one","other"] (RD K 2 (gC 5 yS) D "name"):=by
 refine Uv (k:=3) (gx:=yS) F lI X9 X9 λf A outer s H E a c hp=>?_;exact uO (Om G (a.mono ()) X9 d b e c (aj (ao 0) (aj (ao 1) au)))
theorem MH:bA ["one","other","steps","word","ones","others"] ["one","other"] (aG lN):=j5
theorem OL(F:Br K "steps_between" "steps_between" lN RV U3)(G:gW P w K mg base (Ep P w) 4 GF Jo ["one","other"] (RD K 2 (gC 5 yS) D "name"))(f:mg "groups_of"=Z (.ref GF))(d:keepIn K (.ref GF)=true)(b:B9 K Jo ["one","other"] []):
  gW P w K mg base (Ep P w) 5 RV U3 ["one","other"] (RD K 2 (gC 6 Jl) D "name"):=by
 refine Uv (k:=4) (gx:=Jl) F MH X9 X9 λg A outer s H E c e hp=>?_;have a:=MH.nd;exact Oj (bB 2 a (je au)) (uO (gS G (c.mono ()) X9 f d b e (aj (ao 0) (aj (ao 1) au))))
theorem P8:bA ["one","other","shares","prices","mates","row","pairs","stayed","moved"] ["one","other"] (aG lO):=j5
theorem aa(F:Br K "moved_between" "moved_between" lO RW U4)(G:gW P w K mg base (Ep P w) 3 Am zP ["one","other"] (RD K 2 (gC 3 n6) D "name"))(d:mg "refuse_other_names"=Z (.ref Am))(b:keepIn K (.ref Am)=true)(e:B9 K zP ["one","other"] []):
  gW P w K mg base (Ep P w) 4 RW U4 ["one","other"] (RD K 2 (gC 9 Jm) D "name"):=by
 refine Uv (k:=3) (gx:=Jm) F P8 X9 X9 λf A outer s H E a c hp=>?_;exact uO (Om G (a.mono ()) X9 d b e c (aj (ao 0) (aj (ao 1) au)))
theorem Lm:bA ["_law_which","_law_one","_law_other","_law_due_here","_law_refused_here","e"] ["_law_which","_law_one","_law_other","_law_due_here"] (aG pQ):=j5
theorem R0{r:Bx}(h:OJ b=Z r):b=.z (.bl true)/\r=.z (.bl true):=by
 unfold OJ at h;split at h
 ·cases h;exact⟨rfl,rfl⟩
 ·cases h
theorem R3(F:Br K "_law_refused" "_law_refused" pQ ai9 ad6)(GG:gW P w K mg base (Ep P w) 4 GF Jo ["one","other"] (RD K 2 (gC 5 yS) D "name"))(d3:mg "groups_of"=Z (.ref GF))(d2:keepIn K (.ref GF)=true)(e2:B9 K Jo ["one","other"] [])
  (GS:gW P w K mg base (Ep P w) 5 RV U3 ["one","other"] (RD K 2 (gC 6 Jl) D "name")) (d4:mg "steps_between"=Z (.ref RV)) (e4:keepIn K (.ref RV)=true) (c6:B9 K U3 ["one","other"] [])
  (GM:gW P w K mg base (Ep P w) 4 RW U4 ["one","other"] (RD K 2 (gC 9 Jm) D "name")) (e9:mg "moved_between"=Z (.ref RW)) (c4:keepIn K (.ref RW)=true) (e5:B9 K U4 ["one","other"] [])
  (O2:mg "FolkError"=Z (.ref FE)) (Y:exmOne K (.ref D) (.ref FE)=Z true) (c3:uN K D=true) (d1:findIn K (.ref D) "name"=Z U) (mD:mg "NoName"=Z (.ref D)) (b5:kitOne K (.ref D) (.ref D)=Z true) (b4:kitOne K (.ref D) (.type "ValueError")=Z true) (x:mg "isinstance"=U) (a3:mg "ValueError"=U):
  gW P w K mg base zZ 7 ai9 ad6 ["_law_which","_law_one","_law_other","_law_due_here"] (DC K 4 bZ):=by
 refine Br.ok (k:=6) F Lm (λvs H Q E h=>h.1) λf0 A outer s H vs Q E N e6=>?_;have o:=Lm.nd;have G:=BL N;have u:∀C,C∈[D]->uN K C=true:=λC z=>by rw[bN.mp z];exact c3
 have a5:∀C,C∈[D]->uN K C=true/\findIn K (.ref C) "name"=Z U:=λC z=>by rw[bN.mp z];exact⟨c3,d1⟩
 refine⟨_,(by exact(dU (qQ (i:=4) o X9 (.inl X9) LM) (dU (f7 (Ll (Jz (of_eq G) (pv 0) Qa (bW _)) (Fi (C:=D) (iv:=5) (f:=GF) X9 X9 o X9 X9 X9 O2 Y (λa=>qN (qQ (X:=Cx.inX _ a) (i:=4) o X9 (.inl X9) (yW (jD (X:=Cx.inX _ a) (qG (Cs:=[D]) u) X9 x X9 (bI (pv 5) (bI (u5 (v:=.ref D) X9 mD X9) eY))) (yW (jD (X:=Cx.inX _ a) (qG (Cs:=[D]) u) X9 x X9 (bI (pv 5) (bI (Bk (v:=.ty "ValueError") X9 a3 X9 X9) eY))) (Qc (Bl (X:=Cx.inX _ a) (of_eq G) (RB (Cs:=[D]) a5 (pv 5) X9) (pv 3) (bW _))))))) (u5 (v:=.ref GF) X9 d3 X9) GG (N.mono ()) d2 e2 (bI (pv 1) (bI (pv 2) eY))) (Ll (Jz (of_eq G) (pv 0) Qa (bW _)) (Fi (C:=D) (iv:=5) (f:=RV) X9 X9 o X9 X9 X9 O2 Y (λa=>qN (qQ (X:=Cx.inX _ a) (i:=4) o X9 (.inl X9) (yW (jD (X:=Cx.inX _ a) (qG (Cs:=[D]) u) X9 x X9 (bI (pv 5) (bI (u5 (v:=.ref D) X9 mD X9) eY))) (yW (jD (X:=Cx.inX _ a) (qG (Cs:=[D]) u) X9 x X9 (bI (pv 5) (bI (Bk (v:=.ty "ValueError") X9 a3 X9 X9) eY))) (Qc (Bl (X:=Cx.inX _ a) (of_eq G) (RB (Cs:=[D]) a5 (pv 5) X9) (pv 3) (bW _))))))) (u5 (v:=.ref RV) X9 d4 X9) GS (N.mono ()) e4 c6 (bI (pv 1) (bI (pv 2) eY))) (Fi (C:=D) (iv:=5) (f:=RW) X9 X9 o X9 X9 X9 O2 Y (λa=>qN (qQ (X:=Cx.inX _ a) (i:=4) o X9 (.inl X9) (yW (jD (X:=Cx.inX _ a) (qG (Cs:=[D]) u) X9 x X9 (bI (pv 5) (bI (u5 (v:=.ref D) X9 mD X9) eY))) (yW (jD (X:=Cx.inX _ a) (qG (Cs:=[D]) u) X9 x X9 (bI (pv 5) (bI (Bk (v:=.ty "ValueError") X9 a3 X9 X9) eY))) (Qc (Bl (X:=Cx.inX _ a) (of_eq G) (RB (Cs:=[D]) a5 (pv 5) X9) (pv 3) (bW _))))))) (u5 (v:=.ref RW) X9 e9 X9) GM (N.mono ()) c4 e5 (bI (pv 1) (bI (pv 2) eY)))))) (qN (Jx (pv 4)))))),?_⟩;obtain⟨hl,bs,r,d0,no,er,q⟩:=e6;unfold bZ at er;split at er
 ·rename_i b0 b1 b2 b3;obtain⟨J,m,t,p,rfl⟩:∃J m t p,vs=[J,m,t,p]:=by
   match vs,hl with
   |[J,m,t,p],_=>exact⟨J,m,t,p,rfl⟩
  obtain⟨d,ex,er⟩:=AU er;obtain⟨c,ec,er⟩:=AU er;obtain⟨rfl,rfl⟩:=R0 er;obtain⟨g,rfl⟩:∃g,b0=.z (.int g):=by
   unfold F5 at ex;split at ex
   ·exact⟨_,rfl⟩
   ·cases ex
  cases d0 with
  |cons r0 n=>cases n with
   |cons r1 n=>cases n with
    |cons r2 n=>cases n with
     |cons r3 n=>
      cases n;have h0:J=.int g:=by simpa only[bh,AX]using r0
      subst h0;have b6:[b1,b2].all (λb=>!lc b)=true:=by
       simp only[kK,ZT]at no ⊢;exact⟨no.2.1,no.2.2.1,rfl⟩
      unfold F5 at ex;dsimp only at ex;refine⟨.int g,rfl,.z (.int g),.z (.int 0),.z (.bl (g==0)),by simp only[bh,AX],by simp only[bh,AX],rfl,λw0 H0 W _ c5=>?_⟩;obtain rfl:w0=.bl (g==0):=by simpa only[bh,AX]using c5
      refine⟨_,rfl,?_⟩;show(if(g==0)=true then _ else _);by_cases e0:g=0
      ·rw[zk (by rw[e0];rfl)];rw[zk e0]at ex;refine⟨rfl,m,rfl,t,rfl,rfl,[b1,b2],d,.cons (r1.same W) (.cons (r2.same W) .nil),b6,ex,XW.of () λdx v H' s' j y=>⟨rfl,Z dx,rfl,λa M=>?_⟩⟩;have e:AW H' (B1 H' a (D0 a D (Z dx))):=bC M;refine⟨.ref a,rfl,a,D,dx,_,_,_,bN.mpr rfl,rfl,aF,e _ _ j,.inl ⟨D,rfl,b5⟩,true,rfl,?_⟩;show(if true=true then _ else _);rw[zk rfl];refine⟨.ref a,rfl,a,D,dx,_,_,_,bN.mpr rfl,rfl,aF,e _ _ j,.inr (.inl ⟨"ValueError",rfl,b4⟩),true,rfl,?_⟩;show(if true=true then _ else _);rw[zk rfl];have l:=(W.trans s').trans e;refine⟨.ref a,rfl,a,D,dx,v,bN.mpr rfl,rfl,aF,e _ _ j,p,rfl,.z d,b3,.z (.bl true),AX.kp (Kp.of e) y,r3.same l,ec,λw L I _ B=>?_⟩;exact⟨w,rfl,q w L (l.trans I) trivial B⟩
      ·rw[zw (by simpa using e0)];rw[zw e0]at ex;refine⟨.int g,rfl,.z (.int g),.z (.int 1),.z (.bl (g==1)),by simp only[bh,AX],by simp only[bh,AX],rfl,λw1 H1 t1 _ e3=>?_⟩;obtain rfl:w1=.bl (g==1):=by simpa only[bh,AX]using e3
       refine⟨_,rfl,?_⟩;show(if(g==1)=true then _ else _);have t1:=W.trans t1;by_cases e1:g=1
       ·rw[zk (by rw[e1];rfl)];rw[zk e1]at ex;refine⟨rfl,m,rfl,t,rfl,rfl,[b1,b2],d,.cons (r1.same t1) (.cons (r2.same t1) .nil),b6,ex,XW.of () λdx v H' s' j y=>⟨rfl,Z dx,rfl,λa M=>?_⟩⟩;have e:AW H' (B1 H' a (D0 a D (Z dx))):=bC M;refine⟨.ref a,rfl,a,D,dx,_,_,_,bN.mpr rfl,rfl,aF,e _ _ j,.inl ⟨D,rfl,b5⟩,true,rfl,?_⟩;show(if true=true then _ else _);rw[zk rfl];refine⟨.ref a,rfl,a,D,dx,_,_,_,bN.mpr rfl,rfl,aF,e _ _ j,.inr (.inl ⟨"ValueError",rfl,b4⟩),true,rfl,?_⟩;show(if true=true then _ else _);rw[zk rfl];have l:=(t1.trans s').trans e;refine⟨.ref a,rfl,a,D,dx,v,bN.mpr rfl,rfl,aF,e _ _ j,p,rfl,.z d,b3,.z (.bl true),AX.kp (Kp.of e) y,r3.same l,ec,λw L I _ B=>?_⟩;exact⟨w,rfl,q w L (l.trans I) trivial B⟩
       ·rw[zw (by simpa using e1)];rw[zw e1]at ex;refine⟨rfl,m,rfl,t,rfl,rfl,[b1,b2],d,.cons (r1.same t1) (.cons (r2.same t1) .nil),b6,ex,XW.of () λdx v H' s' j y=>⟨rfl,Z dx,rfl,λa M=>?_⟩⟩;have e:AW H' (B1 H' a (D0 a D (Z dx))):=bC M;refine⟨.ref a,rfl,a,D,dx,_,_,_,bN.mpr rfl,rfl,aF,e _ _ j,.inl ⟨D,rfl,b5⟩,true,rfl,?_⟩;show(if true=true then _ else _);rw[zk rfl];refine⟨.ref a,rfl,a,D,dx,_,_,_,bN.mpr rfl,rfl,aF,e _ _ j,.inr (.inl ⟨"ValueError",rfl,b4⟩),true,rfl,?_⟩;show(if true=true then _ else _);rw[zk rfl];have l:=(t1.trans s').trans e;refine⟨.ref a,rfl,a,D,dx,v,bN.mpr rfl,rfl,aF,e _ _ j,p,rfl,.z d,b3,.z (.bl true),AX.kp (Kp.of e) y,r3.same l,ec,λw L I _ B=>?_⟩;exact⟨w,rfl,q w L (l.trans I) trivial B⟩
 ·cases er
end
set_option genInjectivity false
set_option genSizeOf false
structure T (K:B5) (mg:Str->Option Value) where
 {D:Addr}
 {FE:Addr}
 O2:mg "FolkError"=some (.ref FE)
 jmC:mg "NoName"=some (.ref D)
 xJ:IQ K D "NoName.__init__" RT ["self","name"]
 ac8:DQ K mg "steps_between" lN ["one","other"]
 ac9:DQ K mg "moved_between" lO ["one","other"]
 hbi:Uu K FE "ValueError.__init__"
 jx:ZF K D xJ.f EW "ValueError.__new__"=true
 agP:C3 K D "name"=true
 jkC:keepIn K (.ref D)=true
 jex:exmOne K (.ref D) (.ref FE)=some true
 alu:uN K D=true
 jfn:findIn K (.ref D) "name"=some none
 h0:kitOne K (.ref D) (.ref D)=some true
 hve:kitOne K (.ref D) (.type "ValueError")=some true
 aai:mg "ValueError"=none
 iI:DQ K mg "_law_cell" Fo ["_law_script","_law_k"]
 eF:DQ K mg "_law_numbers" wB ["_law_cell_here","_law_many"]
 pC:DQ K mg "_law_names" Al ["_law_xs","_law_many"]
 jl:DQ K mg "_law_joining" wC ["_law_names_here","_law_xs"]
 rN:DQ K mg "_law_near" Fp ["_law_one","_law_xs"]
 vO:DQ K mg "_law_two" Jj ["_law_script","_law_at"]
 mQ:DQ K mg "_law_groups" yN ["_law_names_here","_law_one","_law_other"]
 jM:DQ K mg "_law_word_for" uR ["_law_ones","_law_others"]
 vP:DQ K mg "_law_due" Jk ["_law_names_here","_law_one","_law_other"]
 bY:DQ K mg "names_in" Fq ["sets"]
 aP:DQ K mg "refuse_other_names" fQ ["one","other"]
 mR:DQ K mg "lone_heads" yO ["names"]
 fW:DQ K mg "join_heads" yP ["heads","one","other"]
 kO:DQ K mg "names_under" wD ["heads","head"]
 mU:DQ K mg "sets_under" yQ ["heads"]
 rO:DQ K mg "word_for" Ft ["ones","others"]
 rP:DQ K mg "group_of" Fv ["one","other","names"]
 cR:DQ K mg "groups_of" o9 ["one","other"]
 ig:DQ K mg "_law_lacking" wF ["_law_sets","_law_name"]
 cU:DQ K mg "_law_refused" pQ ["_law_which","_law_one","_law_other","_law_due_here"]
 gR:DQ K mg "_law_unlike_right" nY ["_law_names_here","_law_one","_law_other","_law_x"]
 x_law:DQ K mg "law" s_law ["_law_script"]
 ajj:mg "abs"=none
 aea:mg "any"=none
 aaj:mg "int"=none
 dY:mg "isinstance"=none
 jo:mg "len"=none
 R4:mg "list"=none
 aak:mg "max"=none
 aal:mg "min"=none
 rQ:mg "range"=none
 Ao:mg "set"=none
 dF:mg "sorted"=none
 pF:mg "tuple"=none
section
variable(t:T K mg)
theorem O4:bA ["_law_script","_law_k","_law_state","_law_cell_here"] ["_law_script","_law_k"] (aG Fo):=j5
theorem O5:Ok P w base t.iI 1 2 iH:=Je (g:=rB) t.iI O4 λ_ _ _ _ _ _ c b a=>(aC (jE (cI QH (ao 1) (aU f9 X9 t.jo fZ (aj (ao 0) au)) (bW _)) (aC (dM (cZ (ao 0) (ao 1))) aQ) aQ) (aC (bB 2 a (aW cV (aW nO aH (aW dN (aW dN (aW nO (ao 1) (ao 1)) (aW nO aH (ao 1))) aH)) aH)) (aC (qU PassesOwn.never X9 (qT (Tw (ao 0) yg (yh aH))) (bJ 3 a) (bR [3] (aC (bB 2 a (aW cV (aW dN (aW nO (ao 2) aH) (ao 3)) aH)) aQ))) (aC (dM (ao 2)) aQ))))
theorem Fw:bA ["_law_cell_here","_law_many","_law_found","_law_state","_law_digits","_law_k"] ["_law_cell_here","_law_many"] (aG wB):=j5
theorem Fy:Ok P w base t.eF 1 2 d9:=Je (g:=j9) t.eF Fw λ_ _ _ _ _ _ c b a=>(aC (bB 2 a (je au)) (aC (bB 3 a (aW cV (aW nO (aW dN (aW cV (ao 0) aH) aH) aH) aH)) (aC (bB 4 a aH) (aC (jE (JR (uf (cI QH (ao 0) aH (bW _)) (oW (cI WP (ao 0) (aW UY aH aH) (bW _))))) (bR [] (aC (bB 4 a (aU gX X9 t.ajj UX (aj (ao 0) au))) aQ)) (bR [] aQ)) (aC (qU PassesOwn.never X9 (nH X9 t.rQ (aj (ao 1) au)) (bJ 5 a) (bR [5] (aC (bB 3 a (aW cV (aW dN (aW dN (aW nO (ao 3) (aW dN (aW cV (ao 3) aH) aH)) (aW nO aH (ao 5))) aH) aH)) (aC (CP 2 (cZ (je (aj (ao 3) (aj (aW cV (ao 4) aH) au))) (eU QG X9 t.aaj Qz (aj (Cy Tt (ao 4) aH (bW _)) au)))) (aC (bB 4 a (aW jr (ao 4) aH)) aQ))))) (aC (Bt 2) aQ))))))
theorem K1:bA ["_law_xs","_law_many","_law_letters","_law_stem","_law_at","_law_found","_law_k","_law_mark","_law_name"] ["_law_xs","_law_many"] (aG Al):=j5
theorem K3:Ok P w base t.pC 1 2 pA:=Je (g:=pq) t.pC K1 λ_ _ _ _ _ _ c b a=>(aC (bB 2 a jG) (aC (bB 3 a (U1 (iW ["_law_k"] (pN ["_law_letters","_law_xs"] [2,0]) X9 (Yh (nH X9 t.rQ (aj (aW cV (cZ (ao 0) aH) aH) au))) (λ_ _ _ _=>(dl 2)) (λ_ _ _ _=>eZ) (λ_ _ _ _=>(cZ (ao 0) (aW cV (aW jr (cZ (ao 1) (ao 2)) aH) aH))) (dJ)))) (aC (bB 4 a (aW cV (cZ (ao 0) aH) (aW dN (aU f9 X9 t.jo fZ (aj (ao 3) au)) aH))) (aC (bB 5 a (je au)) (aC (qU PassesOwn.never X9 (nH X9 t.rQ (aj (ao 1) au)) (bJ 6 a) (bR [6,7,8] (aC (bB 7 a (cZ (ao 2) (aW cV (aW dN (ao 6) (cZ (ao 0) aH)) aH))) (aC (bB 8 a (aW dN (aW dN (Tw (ao 3) yg (yh (ao 4))) (ao 7)) (Tw (ao 3) (yh (ao 4)) yg))) (aC (jE (cI (of_eq b) (aW cV (cZ (ao 0) aH) aH) aH (bW _)) (bR [] (aC (bB 8 a (aW nO (cZ (ao 2) (aW jr (ao 6) aH)) (aW dN aH (aW cV (ao 6) aH)))) aQ)) (bR [] aQ)) (aC (CP 5 (ao 8)) aQ)))))) (aC (Bt 5) aQ))))))
theorem Fz:bA ["_law_names_here","_law_xs","_law_found","_law_k","_law_spot"] ["_law_names_here","_law_xs"] (aG wC):=j5
theorem FJ:Ok P w base t.jl 1 2 jk:=Je (g:=kh) t.jl Fz λ_ _ _ _ _ _ c b a=>(aC (bB 2 a Re) (aC (Zw 2 4 3 PassesOwn.never X9 a (nH X9 t.rQ (aj (aU f9 X9 t.jo fZ (aj (ao 0) au)) au)) (aW cV (aW jr (cZ (ao 1) (aW cV (ao 3) (aU f9 X9 t.jo fZ (aj (ao 1) au)))) (aW dN aH (aW jr (ao 3) (aU f9 X9 t.jo fZ (aj (ao 1) au))))) (aU (QK X9) X9 t.aak QD (aj aH (aj (aU f9 X9 t.jo fZ (aj (ao 0) au)) au)))) (cI Tt (aW cV (cZ (ao 1) aH) aH) aH (bW _)) (aW cV (ao 4) aH) (cZ (ao 0) (ao 3))) (aC (dM (aU uG X9 t.dF gA (aj (Dy ["_law_spot"] (pN ["_law_found"] [2]) X9 (ao 2) (λ_ _ _ _=>(dl 1)) (λ_ _ _ _=>eZ) (λ_ _ _ _=>(eU lu X9 t.pF lq (aj (aU nq X9 t.dF gA (aj (qY b (ao 0) (ao 1)) au)) au))) (dJ)) au))) aQ)))
theorem O6:bA ["_law_one","_law_xs","_law_found","_law_x","_law_part","_law_name"] ["_law_one","_law_xs"] (aG Fp):=j5
theorem O7:Ok P w base t.rN 1 2 rE:=Je (g:=rC) t.rN O6 λ_ _ _ _ _ _ c b a=>S4 (Ot 2 ["_law_part"] (pN [] []) X9 a (EQ.run (gM (ao 0))) (λ_ _ _ _=>(qP (by show List.Nodup (_++_);decide +kernel) X9 (.inl X9))) (λ_ _ _ _=>.inl ⟨rfl,rfl⟩) (λ_ _ _ _=>QV.run (eU UO X9 t.R4 J3 (aj (ao 0) au)))) (λh=>Jy PassesOwn.never X9 (EA.run (qT (Tw (ao 1) yg (yh (aW dN aH (aW cV (cZ (ao 1) aH) aH)))))) (qP a X9 (.inl X9)) h) (Ws (QB.run (cI (z8 b) (ao 2) (je au) (bW _))) (qQ a X9 (.inl X9) (Xk JC (iB (i:=2) X9 (.inl X9)) (QV.run (aW cV (ao 3) (aU f9 X9 t.jo fZ (aj (ao 2) au)))) (by intro _ _;with_unfolding_all rfl))) (qQ a X9 (.inl X9) (Ou (Cw kP PySem.F.slot_list_pop PySem.F.type_list_pop Xn (iB (i:=4) X9 (.inl X9)) (bI (Ou (QV.run (aW cV (aW jr (ao 3) aH) (aU f9 X9 t.jo fZ (aj (ao 4) au))))) eY X9)))) (Ot 2 ["_law_some"] (pN [] []) X9 a (T0 (iB (i:=2) X9 (.inl X9))) (λ_ _ _ _=>(qP (by show List.Nodup (_++_);decide +kernel) X9 (.inl X9))) (λ_ _ _ _=>.inr ⟨_,rfl,(QB.run (cI (z8 b) (ao 0) (je au) (bW _)))⟩) (λ_ _ _ _=>(iB (i:=0) X9 (.inl X9)))) (QB.run (JR (uf (cI (of_eq b) (aW cV (aW jr (ao 3) aH) aH) aH (bW _)) (oW (cI (of_eq b) (ao 2) (je au) (bW _)))))) (qO (Ou (Cw kP KO KM m7 (iB (i:=2) X9 (.inl X9)) (bI (Qk (bI (iB (i:=5) X9 (.inl X9)) eY X9)) eY X9)))) (qO (Ou (Cw kP KO KM m7 (Ou (Xk JC (iB (i:=2) X9 (.inl X9)) (QV.run (aW cV (aW jr (ao 3) aH) (aU f9 X9 t.jo fZ (aj (ao 2) au)))) (by intro _ _;with_unfolding_all rfl))) (bI (iB (i:=5) X9 (.inl X9)) eY X9))))) (Jx (QV.run (aU uG X9 t.dF gA (aj (iW ["_law_part"] (pN [] []) X9 (gM (ao 2)) (λ_ _ _ _=>(dl 0)) (λ_ _ _ _=>eZ) (λ_ _ _ _=>(eU lu X9 t.pF lq (aj (aU nq X9 t.dF gA (aj (ao 0) au)) au))) (dJ)) au))))
theorem R5:bA ["_law_script","_law_at","_law_xs","_law_many","_law_names_here","_law_ys","_law_zs","_law_one","_law_other"] ["_law_script","_law_at"] (aG Jj):=j5
theorem R6(c:Ok P w base t.iI 1 2 iH)(f:Ok P w base t.jl 1 2 jk)(j:Ok P w base t.pC 1 2 pA)(h:Ok P w base t.rN 1 2 rE)(d:Ok P w base t.eF 1 2 d9):Ok P w base t.vO 2 2 vL:=Je (g:=vK) t.vO R5 λ_ _ _ _ _ _ a e b=>(aC (bB 2 b (cW t.eF d a (aj (lV (cW t.iI c a (aj (ao 0) (aj (ao 1) au)))) (aj aH au)))) (aC (bB 3 b (aW cV (cZ (ao 2) aH) aH)) (aC (bB 4 b (aU nq X9 t.dF gA (aj (cW t.pC j a (aj (ao 2) (aj (ao 3) au))) au))) (aC (jE (cI (of_eq e) (aW cV (aW jr (cZ (ao 2) aH) aH) aH) aH (bW _)) (bR [] (aC (bB 4 b (aU nq X9 t.dF gA (aj (iW ["_law_k"] (pN [] []) X9 (Yh (nH X9 t.rQ (aj aH au))) (λ_ _ _ _=>(dl 0)) (λ_ _ _ _=>eZ) (λ_ _ _ _=>(aW nO (cZ jG (aW jr (ao 0) aH)) (aW dN aH (aW cV (ao 0) aH)))) (dJ)) au))) aQ)) (bR [] aQ)) (aC (bB 5 b (cW t.eF d a (aj (lV (cW t.iI c a (aj (ao 0) (aj (lV (aW dN (ao 1) aH)) au)))) (aj aH au)))) (aC (bB 6 b (cW t.eF d a (aj (lV (cW t.iI c a (aj (ao 0) (aj (lV (aW dN (ao 1) aH)) au)))) (aj aH au)))) (aC (bB 7 b (cW t.jl f a (aj (ao 4) (aj (ao 5) au)))) (aC (bB 8 b (cW t.jl f a (aj (ao 4) (aj (ao 6) au)))) (aC (jE (cI (of_eq e) (aW cV (cZ (ao 2) aH) aH) aH (bW _)) (bR [] (aC (bB 8 b (cW t.rN h a (aj (ao 7) (aj (ao 6) au)))) aQ)) (bR [] aQ)) (Rj (i:=4) (Rj (i:=7) (Rj (i:=8) (aC (dM (ug (aj (ao 4) (aj (ao 7) (aj (ao 8) au))))) aQ)))))))))))))
theorem GJ:bA ["_law_names_here","_law_one","_law_other","_law_found","_law_name","_law_group","_law_size","_law_part"] ["_law_names_here","_law_one","_law_other"] (aG yN):=j5
theorem GK:Ok P w base t.mQ 1 3 mG:=Je (g:=mF) t.mQ GJ λ_ _ _ _ _ _ c b a=>(aC (bB 3 a (je au)) (aC (Tj 0 PassesOwn.never X9 (bJ 4 a) (bR [4,5,6,7] (aC (jE (pJ (jY (aU (Yo X9) X9 t.aea Yk (aj (iW ["_law_group"] (pN ["_law_name"] [4]) X9 (gM (ao 3)) (λ_ _ _ _=>(dl 1)) (λ_ _ _ _=>eZ) (λ_ _ _ _=>(Cy HY (ao 0) (ao 1) (by with_unfolding_all rfl))) (dJ)) au)))) (aC (bB 5 a (je (aj (ao 4) au))) (aC (bB 6 a aH) (aC (Y9 70 PassesOwn.never (cI QH (ao 6) (aU f9 X9 t.jo fZ (aj (ao 5) au)) (bW _)) (bR [7] (aC (bB 6 a (aU f9 X9 t.jo fZ (aj (ao 5) au))) (aC (qU PassesOwn.never X9 (qT (aW dN (ao 1) (ao 2))) (bJ 7 a) (bR [7] (aC (jE (jY (aU (Yo X9) X9 t.aea Yk (aj (iW ["_law_some"] (pN ["_law_group"] [5]) X9 (gM (ao 7)) (λ_ _ _ _=>(dl 1)) (λ_ _ _ _=>eZ) (λ_ _ _ _=>(Cy HY (ao 1) (ao 0) (by with_unfolding_all rfl))) (dJ)) au))) (bR [] (aC (bB 5 a (aW dN (ao 5) (iW ["_law_some"] (pN ["_law_group"] [5]) X9 (gM (ao 7)) (λ_ _ _ _=>(dl 1)) (λ_ _ _ _=>(gO (cI Yj (ao 1) (ao 0) (by with_unfolding_all rfl)))) (λ_ _ _ _=>(ao 1)) (dJ)))) aQ)) (bR [] aQ)) aQ))) aQ)))) (aC (CP 3 (lV (aU nq X9 t.dF gA (aj (ao 5) au)))) aQ)))) aQ) aQ))) (aC (Bt 3) aQ)))
theorem Ax:bA ["_law_ones","_law_others"] ["_law_ones","_law_others"] (aG uR):=j5
theorem Ay:Ok P w base t.jM 1 2 jK:=Je (g:=jJ) t.jM Ax λ_ _ _ _ _ _ c a b=>(aC (jE (cI (of_eq a) (aU f9 X9 t.jo fZ (aj (ao 0) au)) aH (bW _)) (aC (dM (cZ (je (aj jG (aj jG au))) (eU QG X9 t.aaj Qz (aj (Cy Tt (aU f9 X9 t.jo fZ (aj (ao 1) au)) aH (bW _)) au)))) aQ) aQ) (aC (dM (cZ (je (aj jG (aj jG au))) (eU QG X9 t.aaj Qz (aj (Cy Tt (aU f9 X9 t.jo fZ (aj (ao 1) au)) aH (bW _)) au)))) aQ))
theorem R7:bA ["_law_names_here","_law_one","_law_other","_law_found","_law_group","_law_ones","_law_others"] ["_law_names_here","_law_one","_law_other"] (aG Jk):=j5
theorem R8(d:Ok P w base t.mQ 1 3 mG)(c:Ok P w base t.jM 1 2 jK):Ok P w base t.vP 2 3 vN:=Je (g:=vM) t.vP R7 λ_ _ _ _ _ _ b e a=>(aC (bB 3 a (je au)) (aC (qU PassesOwn.never X9 (qT (cW t.mQ d b (aj (ao 0) (aj (ao 1) (aj (ao 2) au))))) (bJ 4 a) (bR [4,5,6] (aC (bB 5 a (eU lu X9 t.pF lq (aj (iW ["_law_part"] (pN ["_law_group"] [4]) X9 (gM (ao 1)) (λ_ _ _ _=>(dl 1)) (λ_ _ _ _=>(gO (cI HY (cZ (ao 1) aH) (ao 0) (by with_unfolding_all rfl)))) (λ_ _ _ _=>(ao 1)) (dJ)) au))) (aC (bB 6 a (eU lu X9 t.pF lq (aj (iW ["_law_part"] (pN ["_law_group"] [4]) X9 (gM (ao 2)) (λ_ _ _ _=>(dl 1)) (λ_ _ _ _=>(gO (cI HY (cZ (ao 1) aH) (ao 0) (by with_unfolding_all rfl)))) (λ_ _ _ _=>(ao 1)) (dJ)) au))) (aC (CP 3 (ug (aj (lV (cW t.jM c b (aj (ao 5) (aj (ao 6) au)))) (aj (ao 5) (aj (ao 6) au))))) aQ))))) (aC (Bt 3) aQ)))
theorem O8:bA ["sets"] ["sets"] (aG Fq):=j5
theorem O9:Ok P w base t.bY 1 1 cM:=Je (g:=rG) t.bY O8 λ_ _ _ _ _ _ c a b=>(aC (dM (aU nq X9 t.dF gA (aj (Zr ["own","name"] (NO.mk (m:=1) (pN [] []) X9 (gM (ao 0)) (λ_ _ _ _=>(dl 0)) (λ_ _ _ _=>eZ) (dJ) (λ_ _ _ _=>(qT (ao 0))) (λ_ _ _ _=>(dl 1)) (λ_ _ _ _=>eZ) (dJ)) (λ_ _ _ _=>(ao 1))) au))) aQ)
theorem tu:bA ["one","other","alone"] ["one","other"] (aG fQ):=j5
theorem tB(b:Ok P w base t.bY 1 1 cM):Ok P w base t.aP 2 2 fV:=Je (g:=fU) t.aP tu λ_ _ _ _ _ _ c a d=>(bR [2] (aC (bB 2 d (T7 X9 X9 t.dF (OD (BZ X9 a X9 t.Ao (cW t.bY b c (aj (ao 0) au))) (BZ X9 a X9 t.Ao (cW t.bY b c (aj (ao 1) au)))))) (aC (jE (jY (ao 2)) (aC Pd aQ) aQ) aQ)))
theorem GP:bA ["names"] ["names"] (aG yO):=j5
theorem GQ:Ok P w base t.mR 1 1 mJ:=Je (g:=mH) t.mR GP λ_ _ _ _ _ _ c a b=>(aC (dM (YZ a ["name"] (pN [] []) X9 (gM (ao 0)) (λ_ _ _ _=>(dl 0)) (λ_ _ _ _=>eZ) (λ_ _ _ _=>(ao 0)) (λ_ _ _ _=>(ao 0)) (dJ))) aQ)
theorem wH:bA ["heads","one","other","head","name"] ["heads","one","other"] (aG yP):=j5
theorem GR:gW P w K mg base zZ 1 t.fW.f t.fW.fd ["heads","one","other"] (Fc K 2 jL):=by
 unfold jL;refine OY (k:=0) (g:=mK) t.fW.F wH X9 X9 λd A outer s H E c=>?_;have a:=BL c;have b:=wH.nd;exact(bR [3,4] (aC (bB 3 b (aU (Ua X9) X9 t.aal QC (aj (ao 1) (aj (ao 2) au)))) (aC (qU PassesOwn.never X9 (qT (eU (Y6 X9) X9 t.R4 J3 (aj (ao 0) au))) (bJ 4 b) (bR [4] (aC (jE (JR (uf (cI (of_eq a) (qY a (ao 0) (ao 4)) (ao 1) (bW _)) (oW (cI (of_eq a) (qY a (ao 0) (ao 4)) (ao 2) (bW _))))) (bR [] (aC (OV 0 a (ao 3) (ao 4)) aQ)) (bR [] aQ)) aQ))) aQ)))
theorem FN:bA ["heads","head"] ["heads","head"] (aG wD):=j5
theorem FP:Ok P w base t.kO 1 2 kE:=Je (g:=kj) t.kO FN λ_ _ _ _ _ _ c a b=>(aC (dM (eU lu X9 t.pF lq (aj (Dy ["name"] (pN ["head","heads"] [1,0]) X9 (ao 0) (λ_ _ _ _=>(dl 2)) (λ_ _ _ _=>(gO (cI (of_eq a) (qY a (ao 1) (ao 2)) (ao 0) (bW _)))) (λ_ _ _ _=>(ao 2)) (dJ)) au))) aQ)
theorem GX:bA ["heads"] ["heads"] (aG yQ):=j5
theorem GZ(c:Ok P w base t.kO 1 2 kE):Ok P w base t.mU 2 1 mO:=Je (g:=mL) t.mU GX λ_ _ _ _ _ _ b a d=>(aC (dM (Dy ["name"] (pN ["heads"] [0]) X9 (ao 0) (λ_ _ _ _=>(dl 1)) (λ_ _ _ _=>(gO (cI (of_eq a) (qY a (ao 0) (ao 1)) (ao 1) (bW _)))) (λ_ _ _ _=>(lV (cW t.kO c b (aj (ao 0) (aj (ao 1) au))))) (dJ))) aQ)
theorem Pa:bA ["ones","others"] ["ones","others"] (aG Ft):=j5
theorem Pb:Ok P w base t.rO 1 2 rJ:=Je (g:=rH) t.rO Pa λ_ _ _ _ _ _ c a b=>(aC (jE (cI (of_eq a) (ao 0) aH (bW _)) (aC (dM (XJ (cI (of_eq a) (ao 1) aH (bW _)) jG jG)) aQ) aQ) (aC (dM (XJ (cI (of_eq a) (ao 1) aH (bW _)) jG jG)) aQ))
theorem Pg:bA ["one","other","names","ones","others"] ["one","other","names"] (aG Fv):=j5
theorem Ph(b:Ok P w base t.rO 1 2 rJ):Ok P w base t.rP 2 3 rM:=Je (g:=rK) t.rP Pg λ_ _ _ _ _ _ c d a=>(aC (bB 3 a (eU lu X9 t.pF lq (aj (iW ["own"] (pN ["names"] [2]) X9 (gM (ao 0)) (λ_ _ _ _=>(dl 1)) (λ_ _ _ _=>(gO (cI HY (cZ (ao 1) aH) (ao 0) (by with_unfolding_all rfl)))) (λ_ _ _ _=>(ao 1)) (dJ)) au))) (aC (bB 4 a (eU lu X9 t.pF lq (aj (iW ["own"] (pN ["names"] [2]) X9 (gM (ao 1)) (λ_ _ _ _=>(dl 1)) (λ_ _ _ _=>(gO (cI HY (cZ (ao 1) aH) (ao 0) (by with_unfolding_all rfl)))) (λ_ _ _ _=>(ao 1)) (dJ)) au))) (aC (dM (ug (aj (lV (cW t.rO b c (aj (lV (aU f9 X9 t.jo fZ (aj (ao 3) au))) (aj (lV (aU f9 X9 t.jo fZ (aj (ao 4) au))) au)))) (aj (ao 3) (aj (ao 4) au))))) aQ)))
theorem K4:bA ["one","other","heads","own","name"] ["one","other"] (aG o9):=j5
theorem K5(e:Ok P w base t.rP 2 3 rM)(l:gW P w K mg base zZ 1 t.fW.f t.fW.fd ["heads","one","other"] (Fc K 2 jL))(j:Ok P w base t.mR 1 1 mJ)(i:Ok P w base t.bY 1 1 cM)(n:Ok P w base t.aP 2 2 fV)(h:Ok P w base t.mU 2 1 mO):Ok P w base t.cR 3 2 lG:=Je (g:=pB) t.cR K4 λ_ _ _ _ _ _ a d c=>(aC (e8 (cW t.aP n a (aj (ao 0) (aj (ao 1) au)))) (aC (bB 2 c (cW t.mR j a (aj (lV (cW t.bY i a (aj (ao 0) au))) au))) (aC (qU PassesOwn.never X9 (qT (aW dN (ao 0) (ao 1))) (bJ 3 c) (bR [3,4] (aC (Tj 3 PassesOwn.never X9 (bJ 4 c) (bR [4] (aC (fm 2 l (a.mono ()) X9 t.fW.m t.fW.k t.fW.b (aj (qY d (ao 2) (cZ (ao 3) aH)) (aj (qY d (ao 2) (ao 4)) au))) aQ))) aQ))) (aC (dM (iW ["names"] (pN ["one","other"] [0,1]) X9 (gM (cW t.mU h a (aj (ao 2) au))) (λ_ _ _ _=>(dl 2)) (λ_ _ _ _=>eZ) (λ_ _ _ _=>(lV (cW t.rP e a (aj (ao 0) (aj (ao 1) (aj (ao 2) au)))))) (dJ))) aQ))))
theorem FQ:bA ["_law_sets","_law_name","_law_less"] ["_law_sets","_law_name"] (aG wF):=j5
theorem FT:Ok P w base t.ig 1 2 g8:=Je (g:=kJ) t.ig FQ λ_ _ _ _ _ _ c a b=>(aC (il 2 ["_law_part"] (pN ["_law_name"] [1]) X9 b (gM (ao 0)) (λ_ _ _ _=>(dl 1)) (λ_ _ _ _=>eZ) (λ_ _ _ _=>(eU lu X9 t.pF lq (aj (iW ["_law_some"] (pN ["_law_name"] [0]) X9 (gM (ao 1)) (λ_ _ _ _=>(dl 1)) (λ_ _ _ _=>(gO (cI (z8 a) (ao 1) (ao 0) (bW _)))) (λ_ _ _ _=>(ao 1)) (dJ)) au))) (dJ)) (aC (dM (aU uG X9 t.dF gA (aj (iW ["_law_part"] (pN [] []) X9 (gM (ao 2)) (λ_ _ _ _=>(dl 0)) (λ_ _ _ _=>(gO (cI (z8 a) (ao 0) (ug au) (bW _)))) (λ_ _ _ _=>(ao 0)) (dJ)) au))) aQ))
theorem FW(a:Ok P w base t.bY 1 1 cM):Ok P w base t.cU 7 4 bZ:=
 R3 t.cU.F (NY t.cR.F (RZ t.aP.F a t.bY.m t.bY.k t.bY.b t.Ao t.dF t.jx t.jkC (KZ t.xJ.F t.jx t.agP t.O2 t.hbi) t.xJ.b t.jmC) t.aP.m t.aP.k t.aP.b) t.cR.m t.cR.k t.cR.b (OL t.ac8.F (NY t.cR.F (RZ t.aP.F a t.bY.m t.bY.k t.bY.b t.Ao t.dF t.jx t.jkC (KZ t.xJ.F t.jx t.agP t.O2 t.hbi) t.xJ.b t.jmC) t.aP.m t.aP.k t.aP.b) t.cR.m t.cR.k t.cR.b) t.ac8.m t.ac8.k t.ac8.b (aa t.ac9.F (RZ t.aP.F a t.bY.m t.bY.k t.bY.b t.Ao t.dF t.jx t.jkC (KZ t.xJ.F t.jx t.agP t.O2 t.hbi) t.xJ.b t.jmC) t.aP.m t.aP.k t.aP.b) t.ac9.m t.ac9.k t.ac9.b t.O2 t.jex t.alu t.jfn t.jmC t.h0 t.hve t.dY t.aai
theorem vX:bA ["_law_names_here","_law_one","_law_other","_law_x","_law_less","_law_more","_law_both","_law_i","_law_step","_law_j","_law_here","_law_there","_law_least","_law_which"] ["_law_names_here","_law_one","_law_other","_law_x"] (aG nY):=j5
theorem vY(d:Ok P w base t.ig 1 2 g8)(c:Ok P w base t.cU 7 4 bZ):Ok P w base t.gR 8 4 gQ:=Je (g:=gP) t.gR vX λ_ _ _ _ _ _ a e b=>(aC (jE (cI (of_eq e) (ao 0) (je au) (bW _)) (aC (dM wg) aQ) aQ) (aC (bB 4 b (cW t.ig d a (aj (ao 2) (aj (cZ (ao 0) aH) au)))) (aC (bB 5 b (aU uG X9 t.dF gA (aj (aW dN (ao 2) (je (aj (ug (aj jG au)) au))) au))) (aC (bB 6 b (aU uG X9 t.dF gA (aj (aW dN (ao 4) (je (aj (ug (aj jG au)) au))) au))) (aC (bB 7 b (aW cV (ao 3) (aU f9 X9 t.jo fZ (aj (ao 0) au)))) (aC (bB 8 b (aW dN aH (aW cV (aW jr (ao 3) (aU f9 X9 t.jo fZ (aj (ao 0) au))) (aU (QK X9) X9 t.aak QD (aj aH (aj (aW WH (aU f9 X9 t.jo fZ (aj (ao 0) au)) aH) au)))))) (aC (bB 9 b (aW cV (aW dN (ao 7) (ao 8)) (aU f9 X9 t.jo fZ (aj (ao 0) au)))) (aC (XV 10 11 X9 b (aj (lV (cW t.ig d a (aj (ao 1) (aj (cZ (ao 0) (ao 7)) au)))) (aj (lV (cW t.ig d a (aj (ao 2) (aj (cZ (ao 0) (ao 9)) au)))) au))) (aC (bB 12 b (aU (Ua X9) X9 t.aal QC (aj (cZ (ao 0) (ao 7)) (aj (cZ (ao 0) (ao 9)) au)))) (aC (qU PassesOwn.never X9 (nH X9 t.rQ (aj aH au)) (bJ 13 b) (bR [13] (aC (jE (JR (uf (pJ (jY (cW t.cU c a (aj (ao 13) (aj (ao 1) (aj (ao 4) (aj (cZ (ao 0) aH) au))))))) (oW (pJ (jY (cW t.cU c a (aj (ao 13) (aj (ao 4) (aj (ao 1) (aj (cZ (ao 0) aH) au)))))))))) (aC (dM wg) aQ) aQ) (aC (jE (JR (uf (pJ (jY (cW t.cU c a (aj (ao 13) (aj (ao 1) (aj (ao 5) (aj jG au))))))) (oW (pJ (jY (cW t.cU c a (aj (ao 13) (aj (ao 5) (aj (ao 4) (aj (cZ (ao 0) aH) au)))))))))) (aC (dM wg) aQ) aQ) (aC (jE (JR (uf (pJ (jY (cW t.cU c a (aj (ao 13) (aj (ao 1) (aj (ao 6) (aj (cZ (ao 0) aH) au))))))) (oW (pJ (jY (cW t.cU c a (aj (ao 13) (aj (ao 6) (aj (ao 1) (aj (cZ (ao 0) aH) au)))))))))) (aC (dM wg) aQ) aQ) (aC (jE (JR (cm (cI (z8 e) (ao 7) (ao 9) (bW _)) (XH (pJ (jY (cW t.cU c a (aj (ao 13) (aj (ao 10) (aj (ao 11) (aj (ao 12) au)))))))))) (aC (dM wg) aQ) aQ) aQ)))))) (aC (dM wg) aQ)))))))))))
theorem UP:bA ["_law_script","_law_k","_law_names_here","_law_one","_law_other","_law_due_here","_law_found"] ["_law_script"] (aG s_law):=j5
theorem gz(f:Ok P w base t.iI 1 2 iH)(i:Ok P w base t.vP 2 3 vN)(j:Ok P w base t.eF 1 2 d9)(h:Ok P w base t.vO 2 2 vL)(e:Ok P w base t.gR 8 4 gQ)(d:Ok P w base t.cR 3 2 lG):Ok P w base t.x_law 9 1 F_law:=Je (g:=U0) t.x_law UP λ_ _ _ _ _ _ a c b=>(aC (qU PassesOwn.never X9 (nH X9 t.rQ (aj (aU (QK X9) X9 t.aak QD (aj aH (aj (aU (cw X9) X9 t.aal QC (aj (aW jr (aU f9 X9 t.jo fZ (aj (ao 0) au)) aH) (aj aH au))) au))) au)) (bJ 1 b) (bR [1,2,3,4,5,6] (aC (U' (cW t.vO h a (aj (ao 0) (aj (aW nO aH (ao 1)) au))) (VC X9 (CN (bJ 2 b) (CN (bJ 3 b) (CN (bJ 4 b) Si))))) (aC (bB 5 b (cW t.vP i a (aj (ao 2) (aj (ao 3) (aj (ao 4) au))))) (aC (bB 6 b (cW t.cR d a (aj (ao 3) (aj (ao 4) au)))) (aC (jE (JR (uf (pJ (jY (MN (ao 6) X9 t.dY X9 t.R4))) (oW (cI (z8 c) (ao 6) (ao 5) (bW _))))) (aC (dM wg) aQ) aQ) (aC (CP 6 (ug au)) (aC (jE (JR (uf (cI (z8 c) (cW t.cR d a (aj (ao 3) (aj (ao 4) au))) (ao 5) (bW _)) (oW (cI (z8 c) (ao 6) (aW dN (ao 5) (je (aj (ug au) au))) (bW _))))) (aC (dM wg) aQ) aQ) (aC (jE (pJ (jY (cW t.gR e a (aj (ao 2) (aj (ao 3) (aj (ao 4) (aj (cZ (cW t.eF j a (aj (lV (cW t.iI f a (aj (ao 0) (aj (aW nO aH (ao 1)) au)))) (aj aH au))) aH) au))))))) (aC (dM wg) aQ) aQ) aQ))))))))) (aC (dM wg) aQ))
theorem EK:Ok P w base t.x_law 9 1 F_law:=by
 have b:=O5 (P:=P) (w:=w) (base:=base) t;have c:=Fy (P:=P) (w:=w) (base:=base) t;have i:=K3 (P:=P) (w:=w) (base:=base) t;have o:=FJ (P:=P) (w:=w) (base:=base) t;have v:=O7 (P:=P) (w:=w) (base:=base) t;have x:=R6 (P:=P) (w:=w) (base:=base) t b o i v c;have p:=GK (P:=P) (w:=w) (base:=base) t;have z:=Ay (P:=P) (w:=w) (base:=base) t;have y:=R8 (P:=P) (w:=w) (base:=base) t p z;have a:=O9 (P:=P) (w:=w) (base:=base) t;have n:=tB (P:=P) (w:=w) (base:=base) t a;have l:=GQ (P:=P) (w:=w) (base:=base) t;have m:=GR (P:=P) (w:=w) (base:=base) t;have h:=FP (P:=P) (w:=w) (base:=base) t;have s:=GZ (P:=P) (w:=w) (base:=base) t h;have g:=Pb (P:=P) (w:=w) (base:=base) t;have d:=Ph (P:=P) (w:=w) (base:=base) t g;have e:=K5 (P:=P) (w:=w) (base:=base) t d m l a n s;have u:=FT (P:=P) (w:=w) (base:=base) t;have f:=FW (P:=P) (w:=w) (base:=base) t a;have q:=vY (P:=P) (w:=w) (base:=base) t u f;have j:=gz (P:=P) (w:=w) (base:=base) t b y c x q e;exact j
end
end G45
end
section
set_option synthInstance.maxSize 100000
namespace G45
open L2 P1
noncomputable section
def wI(a:Int)(b:Int):Int:=(let a:=(((a*69621)+b)%2147483647);a)
theorem G5(d:BF)(e:Lp bL (d.map eI))(c:Int)(a:Int)(b:Int):RP wG [Z bL,Z (zE eI c),Z (zE eI a),Z (zE eI b)] (λs=>Ap.nx ((λa:Int=>[Z bL,Z (zE eI c),Z (zE eI a),U]) s)) (wI  a b) (U):=R.tp (bO (bV 2 (gB (lC (Ue (aB 2 (zE eI) a X9) 69621 ()) (aB 3 (zE eI) b X9)) 2147483647 ()) (λ_=>X9) λa=>(cQ (cu a X9))))
def bG(c:BF)(b:Int):Int:=(if(decide (b<(c.length:Int)))=true then(at' c b)else(let a:=((48271*(((b*b)+(7*b))+11))%2147483647);(let a:Int:=((FD c U (Z 3)).foldl (λ(a:Int) (d:Int)=>(wI  a d)) a);a)))
def iM(b:BF)(a:Int):Prop:=(((decide (a<(b.length:Int)))=true->In b.length a)/\((decide (a<(b.length:Int)))=false->G0 a a))
theorem R9(b:BF)(d:Lp bL (b.map eI))(a:Int):RP rB [Z bL,Z (zE eI a),U,U] (λr=>Ap.rt (zE eI r)) (bG b a) (Z (iM b a)):=R.tp (qF (d8 (Za (aB 1 (zE eI) a X9) (BE (bw 0 eI b d X9)))) (bO (gY (λr=>r) (jU (bw 0 eI b d X9) (aB 1 (zE eI) a X9)) (λ_=>X9) λ_=>X9)) (cQ (bV 2 (gB (DN 48271 () (lC (lC (MZ (aB 1 (zE eI) a X9) (aB 1 (zE eI) a X9)) (DN 7 () (aB 1 (zE eI) a X9))) (BC 11))) 2147483647 ()) (λ_=>X9) λc=>(ij (λc:Int=>[Z bL,Z (zE eI a),Z (zE eI c),U]) c X9 (Wg (N2 (bw 0 eI b d X9) GE (GT (BC 3)))) _ (λ_ _=>X9) (λ(c:Int) (e:Int)=>(G5 b d a c e).r) (λ_ _=>X9) λc=>(gY (λr=>r) (aB 2 (zE eI) c X9) (λ_=>X9) λ_=>X9)))))
theorem rY:∀v bs,(aL eI (aZ eI aN)) v bs->bs.length=2/\(hold (Z (iM v.1 v.2.1))->iH (bs.map lend)=Z ((zE eI) (bG v.1 v.2.1))):=by
 rintro⟨b,a,_⟩ _ ⟨bL,_,rfl,c,⟨_,rfl,rfl⟩⟩;exact⟨rfl,λh=>dX (g:=rB) (n:=4) (bs:=[lend bL,.z (eI a)]) (R9 b (dj c) a) h⟩
def cF(a:Int×BF×Int)(c:Int):Int×BF×Int:=(let b:=((((a.1*((a.1%65521)+40487))+(7*c))+5)%1999999973);(let d:=a.2.1++[(at' [b,(a.2.2%1000000)] (if(decide ((0:Int)<a.2.2))=true then(1:Int)else 0))];(let e:=(a.2.2 / (1000000:Int));(b,d,e))))
def iZ(a:Int×BF×Int)(c:Int):Prop:=(G0 a.1 ((a.1%65521)+40487)/\(let b:=((((a.1*((a.1%65521)+40487))+(7*c))+5)%1999999973);(In [b,(a.2.2%1000000)].length (if(decide ((0:Int)<a.2.2))=true then(1:Int)else 0)/\GC a.2.1.length)))
theorem zT(c:Int)(d:Int)(a:Int×BF×Int)(b:Int):RP j7 [Z (zE eI c),Z (zE eI d),Z ((oE eI) a.2.1),Z ((zE eI) a.1),Z ((zE eI) a.2.2),Z (zE eI b)] (λs=>Ap.nx ((λa:Int×BF×Int=>[Z (zE eI c),Z (zE eI d),Z ((oE eI) a.2.1),Z ((zE eI) a.1),Z ((zE eI) a.2.2),U]) s)) (cF  a b) (Z (iZ  a b)):=R.tp (bO (bV 3 (gB (lC (lC (MZ (aB 3 (zE eI) a.1 X9) (lC (gB (aB 3 (zE eI) a.1 X9) 65521 ()) (BC 40487))) (DN 7 () (aB 5 (zE eI) b X9))) (BC 5)) 1999999973 ()) (λ_=>X9) λe=>(bO (Uj 2 a.2.1 X9 (jU (iw (oY (jH (aB 3 (zE eI) e X9) (jH (gB (aB 4 (zE eI) a.2.2 X9) 1000000 ()) (jg eI))) (ZU X9))) (Ro (Ff (aB 4 (zE eI) a.2.2 X9) (BC 0)))) λf=>(bO (bV 4 (lY (aB 4 (zE eI) a.2.2 X9) 1000000 ()) (λ_=>X9) λg=>(cQ (cu (e,f,g) X9))))))))
def jc(g:Int)(b:Int)(c:BF)(e:Int)(f:Int):BF:=(let a:Int×BF×Int:=((rng 0 b.toNat).foldl (λ(a:Int×BF×Int) (d:Int)=>(cF  a d)) (e,c,f));a.2.1)
def j8(g:Int)(c:Int)(d:BF)(e:Int)(f:Int):Prop:=(Rg c/\mj (λ(a:Int×BF×Int) (b:Int)=>(cF  a b)) (λ(a:Int×BF×Int) (b:Int)=>Z (iZ  a b)) (rng 0 c.toNat) (e,d,f))
def zU:Ev->S Ap:=(aJ (qX (Tz (aq (gv 1) aK)) (tH 5) j7) (aJ (CJ 2) iz))
theorem zV(c:Int)(b:Int)(d:BF)(e:Int)(f:Int):RP zU [Z (zE eI c),Z (zE eI b),Z (oE eI d),Z (zE eI e),Z (zE eI f),U] (λr=>Ap.rt (oE eI r)) (jc c b d e f) (Z (j8 c b d e f)):=R.tp (IK (λa:Int×BF×Int=>[Z (zE eI c),Z (zE eI b),Z ((oE eI) a.2.1),Z ((zE eI) a.1),Z ((zE eI) a.2.2),U]) (e,d,f) X9 (N5 (aB 1 (zE eI) b X9)) _ (λ_ _=>X9) (λ(a:Int×BF×Int) (g:Int)=>(zT c b a g).r) λa=>(Ku 2 (λr=>r) a.2.1 X9 (λ_=>X9) λ_=>X9))
def bD(a:Int)(c:Int):BF:=(let d:=([]:O Int);(let e:=((((a%1999999973)+31)*765432101)%1999999973);(let b:=(0:Int);(let b:Int:=(if((decide (a<0))||(decide (((10:Int) ^ 18)<=a)))=true then(let b:=(if a<0 then -a else a);b)else b);(jc a c d e b)))))
def gj(a:Int)(c:Int):Prop:=(let d:=([]:O Int);(let e:=((((a%1999999973)+31)*765432101)%1999999973);(let b:=(0:Int);(let b:Int:=(if((decide (a<0))||(decide (((10:Int) ^ 18)<=a)))=true then(let b:=(if a<0 then -a else a);b)else b);(j8 a c d e b)))))
theorem G7(a:Int)(c:Int):RP j9 [Z (zE eI a),Z (zE eI c),U,U,U,U] (λr=>Ap.rt (oE eI r)) (bD a c) (Z (gj a c)):=R.tp (bV 2 (oY (jg eI) (ZU X9)) (λ_=>X9) λd=>(bV 3 (gB (Ue (lC (gB (aB 0 (zE eI) a X9) 1999999973 ()) (BC 31)) 765432101 ()) 1999999973 ()) (λ_=>X9) λe=>(bV 4 (BC 0) (λ_=>X9) λb=>(Iz (λb:Int=>[Z (zE eI a),Z (zE eI c),Z (oE eI d),Z (zE eI e),Z (zE eI b),U]) (NP (d8 (Za (aB 0 (zE eI) a X9) (BC 0))) (d8 (L6 (aB 0 (zE eI) a X9) (d5 10 18 18 () X9)))) (bO (bV 4 (Pe (aB 0 (zE eI) a X9)) (λ_=>X9) λb=>(cQ (cu b X9)))) (cQ (cu b X9)) λb=>(zV a c d e b).r))))
theorem kY:∀v bs,(aZ eI (aZ eI aN)) v bs->bs.length=2/\(hold (Z (gj v.1 v.2.1))->d9 (bs.map lend)=Z ((oE eI) (bD v.1 v.2.1))):=by
 rintro⟨b,a,_⟩ _ ⟨_,rfl,⟨_,rfl,rfl⟩⟩;exact⟨rfl,λh=>dX (g:=j9) (n:=6) (bs:=[.z (eI b),.z (eI a)]) (G7 b a) h⟩
def fB(d:BF)(e:AK)(g:AK)(f:Int)(c:An)(b:Int):An:=(let h:=(ch e ((b+(at' d 2))%15));(let a:=(((Txt.slice g U (Z f))++h)++(Txt.slice g (Z f) U));(let a:AK:=(if(decide (((at' d 3)%3)=1))=true then(let a:=(Txt.mul (ch e (b / (8:Int))) (1+(b%8)));a)else a);(let c:=c++[a];c))))
def jN(b:BF)(c:AK)(e:AK)(d:Int)(h:An)(a:Int):Prop:=((In b.length 2/\In c.length ((a+(at' b 2))%15))/\(let g:=(ch c ((a+(at' b 2))%15));((GC ((Txt.slice e U (Z d)).length+g.length)/\GC (((Txt.slice e U (Z d))++g).length+(Txt.slice e (Z d) U).length))/\(let f:=(((Txt.slice e U (Z d))++g)++(Txt.slice e (Z d) U));((In b.length 3/\((decide (((at' b 3)%3)=1))=true->(In c.length (a / (8:Int))/\((1+(a%8))<=1000 ∧ -1000<=(1+(a%8))/\(ch c (a / (8:Int))).length<=1000))))/\(let f:AK:=(if(decide (((at' b 3)%3)=1))=true then(let f:=(Txt.mul (ch c (a / (8:Int))) (1+(a%8)));f)else f);GC h.length))))))
theorem FZ(g:BF)(j:Lp bL (g.map eI))(h:Int)(d:AK)(f:AK)(e:Int)(a:An)(c:Int):RP nZ [Z bL,Z (zE eI h),Z (zE eS d),Z (zE eS f),Z (zE eI e),Z (oE eS a),Z (zE eI c),U,U] (λs=>Ap.nx ((λa:An=>[Z bL,Z (zE eI h),Z (zE eS d),Z (zE eS f),Z (zE eI e),Z (oE eS a),U,U,U]) s)) (fB g d f e a c) (Z (jN g d f e a c)):=R.tp (bO (bV 7 (Ug (aB 2 (zE eS) d X9) (gB (lC (aB 6 (zE eI) c X9) (jU (bw 0 eI g j X9) (BC 2))) 15 ())) (λ_=>X9) λi=>(bO (bV 8 (Zd (Zd (NF (aB 3 (zE eS) f X9) GE (GT (aB 4 (zE eI) e X9))) (aB 7 (zE eS) i X9)) (NF (aB 3 (zE eS) f X9) (GT (aB 4 (zE eI) e X9)) GE)) (λ_=>X9) λb=>(bO (Iz (λb:AK=>[Z bL,Z (zE eI h),Z (zE eS d),Z (zE eS f),Z (zE eI e),Z (oE eS a),Z (zE eI c),Z (zE eS i),Z (zE eS b)]) (d8 (BS () (gB (jU (bw 0 eI g j X9) (BC 3)) 3 ()) (BC 1))) (bO (bV 8 (Ze (Ug (aB 2 (zE eS) d X9) (lY (aB 6 (zE eI) c X9) 8 ())) (lC (BC 1) (gB (aB 6 (zE eI) c X9) 8 ()))) (λ_=>X9) λb=>(cQ (cu b X9)))) (cQ (cu b X9)) λb=>(bO (Uj 5 a X9 (aB 8 (zE eS) b X9) λa=>(cQ (cu a X9))))))))))
def jO(b:BF)(d:Int)(f:AK)(c:AK):An:=(let g:=((at' b 1)%((c.length:Int)+1));(let a:=([]:An);(let a:An:=((rng 0 d.toNat).foldl (λ(a:An) (e:Int)=>(fB b f c g a e)) a);a)))
def oh(b:BF)(e:Int)(f:AK)(c:AK):Prop:=((In b.length 1/\0<((c.length:Int)+1))/\(let g:=((at' b 1)%((c.length:Int)+1));(let a:=([]:An);(Rg e/\mj (λ(a:An) (d:Int)=>(fB b f c g a d)) (λ(a:An) (d:Int)=>Z (jN b f c g a d)) (rng 0 e.toNat) a))))
def Ga:Ev->S Ap:=(aJ (B4 4 (b2 jf (b2 nP (gv 0) (cB (.int 1))) (b2 iD (cP jy (aq (gv 3) aK)) (cB (.int 1))))) (aJ (B4 5 (cP nG aK)) (aJ (qX (Tz (aq (gv 1) aK)) (tH 6) nZ) (aJ (CJ 5) iz))))
theorem Gb(d:BF)(f:Lp bL (d.map eI))(b:Int)(e:AK)(c:AK):RP Ga [Z bL,Z (zE eI b),Z (zE eS e),Z (zE eS c),U,U,U,U,U] (λr=>Ap.rt (oE eS r)) (jO d b e c) (Z (oh d b e c)):=R.tp (bV 4 (yE (jU (bw 0 eI d f X9) (BC 1)) (lC (Xt (aB 3 (zE eS) c X9)) (BC 1))) (λ_=>X9) λg=>(bV 5 (oY (jg eS) (ZU X9)) (λ_=>X9) λa=>(IK (λa:An=>[Z bL,Z (zE eI b),Z (zE eS e),Z (zE eS c),Z (zE eI g),Z (oE eS a),U,U,U]) a X9 (N5 (aB 1 (zE eI) b X9)) _ (λ_ _=>X9) (λ(a:An) (h:Int)=>(FZ d f b e c g a h).r) λa=>(Ku 5 (λr=>r) a X9 (λ_=>X9) λ_=>X9))))
def cX(a:BF)(d:Int):An:=(let b:=("abcdefghijklmnopqrstuvwxyz":AK);(let e:=(Txt.join "" ((rng 0 ((at' a 0)%6).toNat).map λc:Int=>(ch b (((at' a c) / (40:Int))%26))));(jO a d b e)))
def pH(a:BF)(d:Int):Prop:=(let c:=("abcdefghijklmnopqrstuvwxyz":AK);(((((In a.length 0/\Rg ((at' a 0)%6))/\(rng 0 ((at' a 0)%6).toNat).length<=100000)/\(∀b∈(rng 0 ((at' a 0)%6).toNat),(In a.length b/\In c.length (((at' a b) / (40:Int))%26))))/\(((rng 0 ((at' a 0)%6).toNat).map λb:Int=>(ch c (((at' a b) / (40:Int))%26))).map (·.length)).sum+((rng 0 ((at' a 0)%6).toNat).map λb:Int=>(ch c (((at' a b) / (40:Int))%26))).length*("":AK).length<=100000)/\(let e:=(Txt.join "" ((rng 0 ((at' a 0)%6).toNat).map λb:Int=>(ch c (((at' a b) / (40:Int))%26))));(oh a d c e))))
theorem Pj(a:BF)(c:Lp bL (a.map eI))(b:Int):RP pq [Z bL,Z (zE eI b),U,U,U,U,U,U,U] (λr=>Ap.rt (oE eS r)) (cX a b) (Z (pH a b)):=R.tp (bV 2 (Wh "abcdefghijklmnopqrstuvwxyz") (λ_=>X9) λd=>(bV 3 (df "" (iw (zJ (N5 (gB (jU (bw 0 eI a c X9) (BC 0)) 6 ())) _ (λ_=>X9) (λe:Int=>(Ug (aB 0 (zE eS) d X9) (gB (lY (jU (bw 1 eI a c (congrArg Z (c.get X9))) (aB 2 (zE eI) e X9)) 40 ()) 26 ())))))) (λ_=>X9) λf=>(Gb a c b d f).r))
theorem Pk:∀v bs,(aL eI (aZ eI aN)) v bs->bs.length=2/\(hold (Z (pH v.1 v.2.1))->pA (bs.map lend)=Z ((oE eS) (cX v.1 v.2.1))):=by
 rintro⟨b,a,_⟩ _ ⟨bL,_,rfl,c,⟨_,rfl,rfl⟩⟩;exact⟨rfl,λh=>dX (g:=pq) (n:=9) (bs:=[lend bL,.z (eI a)]) (Pj b (dj c) a) h⟩
def bQ(c:An)(a:BF):(O An):=(let d:=([]:(O (Int×An)));(let d:=(Oe (λb:Int=>(let y1:=(((at' a (b%(a.length:Int))) / (1+(b / (a.length:Int))))%(if(c.length:Int)>1 then(c.length:Int)else 1));if(decide ((0:Int)<((at' a 0)%3)))=true then(y1%3)else y1)) (λb:Int=>(let y1:=(((at' a (b%(a.length:Int))) / (1+(b / (a.length:Int))))%(if(c.length:Int)>1 then(c.length:Int)else 1));let y2:=(if(decide ((0:Int)<((at' a 0)%3)))=true then(y1%3)else y1);(at' c b))) (rng 0 (c.length:Int).toNat));(dW ((d.map (·.1)).map λe:Int=>(bH (look d e))))))
def dD(b:An)(a:BF):Prop:=(let d:=([]:(O (Int×An)));((((d=[]/\Rg (b.length:Int))/\(rng 0 (b.length:Int).toNat).length<1000)/\(∀c∈(rng 0 (b.length:Int).toNat),(((((0<(a.length:Int)/\In a.length (c%(a.length:Int)))/\(0<(a.length:Int)/\(a.length:Int)<1073741824))/\(0<(1+(c / (a.length:Int)))/\(1+(c / (a.length:Int)))<1073741824))/\0<(if(b.length:Int)>1 then(b.length:Int)else 1))/\((let y1:=(((at' a (c%(a.length:Int))) / (1+(c / (a.length:Int))))%(if(b.length:Int)>1 then(b.length:Int)else 1));In a.length 0)/\(let y1:=(((at' a (c%(a.length:Int))) / (1+(c / (a.length:Int))))%(if(b.length:Int)>1 then(b.length:Int)else 1));let y2:=(if(decide ((0:Int)<((at' a 0)%3)))=true then(y1%3)else y1);In b.length c)))))/\(let d:=(Oe (λc:Int=>(let y1:=(((at' a (c%(a.length:Int))) / (1+(c / (a.length:Int))))%(if(b.length:Int)>1 then(b.length:Int)else 1));if(decide ((0:Int)<((at' a 0)%3)))=true then(y1%3)else y1)) (λc:Int=>(let y1:=(((at' a (c%(a.length:Int))) / (1+(c / (a.length:Int))))%(if(b.length:Int)>1 then(b.length:Int)else 1));let y2:=(if(decide ((0:Int)<((at' a 0)%3)))=true then(y1%3)else y1);(at' b c))) (rng 0 (b.length:Int).toNat));(((d.map (·.1)).length<=100000/\(∀e∈(d.map (·.1)),(has d e=true/\(look d e).length<64)))/\(((d.map (·.1)).map λe:Int=>(bH (look d e))).length<64/\∀x∈((d.map (·.1)).map λe:Int=>(bH (look d e))),x.isEmpty=false)))))
theorem G8(c:An)(f:Lp bL (c.map eS))(a:BF)(e:Lp b_1 (a.map eI)):RP kh [Z bL,Z b_1,U,U,U] (λr=>Ap.rt ((oE (eT eS)) r)) (bQ c a) (Z (dD c a)):=R.tp (bV 2 (X0 (eL eS)) (λ_=>X9) λd=>(OB 2 4 3 d X9 (ZU X9) (ρ0:=[Z bL,Z b_1,U,U,U]) X9 (N5 (BE (bw 0 eS c f X9))) (λb:Int=>(yE (Rk (jU (bw 1 eI a e X9) (yE (aB 3 (zE eI) b X9) (BE (bw 1 eI a e X9)))) (lC (BC 1) (Rk (aB 3 (zE eI) b X9) (BE (bw 1 eI a e X9))))) (Zh (BC 1) (BE (bw 0 eS c f X9))))) (λ(b:Int) y1=>(d8 (Ff (gB (jU (bw 1 eI a e X9) (BC 0)) 3 ()) (BC 0)))) (λ(b:Int) y1=>(gB (aB 4 (zE eI) y1 X9) 3 ())) (λ(b:Int) y1 y2=>(jU (bw 0 eS c f X9) (aB 3 (zE eI) b X9))) λd=>(gY (λr=>r) (yI (iw (zJ (Sb (aB 2 (nI (eL eS)) d X9)) _ (λ_=>X9) (λg:Int=>(oZ (iw (vG (qD (WI (aB 0 (nI (eL eS)) d X9) (aB 1 (zE eI) g X9)))))))))) (λ_=>X9) λ_=>X9)))
theorem wJ:∀v bs,(aL eS (aL eI aN)) v bs->bs.length=2/\(hold (Z (dD v.1 v.2.1))->jk (bs.map lend)=Z ((oE (eT eS)) (bQ v.1 v.2.1))):=by
 rintro⟨a,b,_⟩ _ ⟨bL,_,rfl,c,⟨b_1,_,rfl,d,rfl⟩⟩;exact⟨rfl,λh=>dX (g:=kh) (n:=5) (bs:=[lend bL,lend b_1]) (G8 a (dj c) b (dj d)) h⟩
def ou(b:O An)(a:BF):(O An):=Ji b a
def oA(b:O An)(a:BF):Prop:=EG b a
theorem Sd(b:O An)(c:Lp bL (b.map (eT eS)))(a:BF)(d:Lp b_1 (a.map eI)):RP rC [Z bL,Z b_1,U,U,U,U] (λr=>Ap.rt ((oE (eT eS)) r)) (ou b a) (Z (oA b a)):=Pi c d
theorem Sg:∀v bs,(aL (eT eS) (aL eI aN)) v bs->bs.length=2/\(hold (Z (oA v.1 v.2.1))->rE (bs.map lend)=Z ((oE (eT eS)) (ou v.1 v.2.1))):=by
 rintro⟨c,a,_⟩ _ ⟨bL,_,rfl,b,⟨b_1,_,rfl,d,rfl⟩⟩;exact⟨rfl,λh=>dX (g:=rC) (n:=6) (bs:=[lend bL,lend b_1]) (Sd c (dj b) a (dj d)) h⟩
def nA(e:BF)(d:Int):Mc:=(let c:=(bD (bG e d) 12);(let i:=((at' c 6)%11);(let a:=(bH (cX c i));(let a:An:=(if(decide ((((at' c 6) / (11:Int))%16)=7))=true then(let a:=(bH ((rng 0 (kN 16)).map λg:Int=>(Txt.mul (ch ("ab":AK) (g / (8:Int))) (1+(g%8)))));a)else a);(let j:=(bD (bG e (d+1)) 16);(let f:=(bD (bG e (d+2)) 16);(let h:=(bQ a j);(let b:=(bQ a f);(let b:(O An):=(if(decide (((at' c 7)%3)=1))=true then(let b:=(ou h f);b)else b);(a,h,b))))))))))
def qJ(d:BF)(c:Int):Prop:=(((iM d c)/\(gj (bG d c) 12))/\(let a:=(bD (bG d c) 12);(In a.length 6/\(let g:=((at' a 6)%11);(((pH a g)/\(cX a g).length<64)/\(let e:=(bH (cX a g));((In a.length 6/\((decide ((((at' a 6) / (11:Int))%16)=7))=true->(((rng 0 (kN 16)).length<=100000/\(∀b∈(rng 0 (kN 16)),(In ("ab":AK).length (b / (8:Int))/\((1+(b%8))<=1000 ∧ -1000<=(1+(b%8))/\(ch ("ab":AK) (b / (8:Int))).length<=1000))))/\((rng 0 (kN 16)).map λb:Int=>(Txt.mul (ch ("ab":AK) (b / (8:Int))) (1+(b%8)))).length<64)))/\(let e:An:=(if(decide ((((at' a 6) / (11:Int))%16)=7))=true then(let e:=(bH ((rng 0 (kN 16)).map λb:Int=>(Txt.mul (ch ("ab":AK) (b / (8:Int))) (1+(b%8)))));e)else e);(((iM d (c+1))/\(gj (bG d (c+1)) 16))/\(let h:=(bD (bG d (c+1)) 16);(((iM d (c+2))/\(gj (bG d (c+2)) 16))/\(let f:=(bD (bG d (c+2)) 16);((dD e h)/\(let i:=(bQ e h);((dD e f)/\(let j:=(bQ e f);(In a.length 7/\((decide (((at' a 7)%3)=1))=true->(oA i f)))))))))))))))))))
theorem Wv(g:BF)(j:Lp bL (g.map eI))(b:Int):RP vK [Z bL,Z (zE eI b),U,U,U,U,U,U,U] (λr=>Ap.rt (zE Mo r)) (nA g b) (Z (qJ g b)):=R.tp (bV 2 (As kY (gJ (sJ (As rY (dI (bw 0 eI g j X9) (gJ (aB 1 (zE eI) b X9) bM)))) (gJ (BC 12) bM))) (λ_=>X9) λd=>(bV 3 (gB (jU (gF (aB 2 (lE eI) d X9)) (BC 6)) 11 ()) (λ_=>X9) λf=>(bV 4 (vG (iw (As Pk (dI (gF (aB 2 (lE eI) d X9)) (gJ (aB 3 (zE eI) f X9) bM))))) (λ_=>X9) λa=>(Iz (λa:An=>[Z bL,Z (zE eI b),Z (oE eI d),Z (zE eI f),Z (oE eS a),U,U,U,U]) (d8 (BS () (gB (lY (jU (gF (aB 2 (lE eI) d X9)) (BC 6)) 11 ()) 16 ()) (BC 7))) (bO (bV 4 (vG (iw (zJ (Zo 16 16 X9 (by unfold Rg;decide)) _ (λ_=>X9) (λl:Int=>(Ze (Ug (Wh "ab") (lY (aB 0 (zE eI) l X9) 8 ())) (lC (BC 1) (gB (aB 0 (zE eI) l X9) 8 ()))))))) (λ_=>X9) λa=>(cQ (cu a X9)))) (cQ (cu a X9)) λa=>(bV 5 (As kY (gJ (sJ (As rY (dI (bw 0 eI g j X9) (gJ (sJ (lC (aB 1 (zE eI) b X9) (BC 1))) bM)))) (gJ (BC 16) bM))) (λ_=>X9) λi=>(bV 6 (As kY (gJ (sJ (As rY (dI (bw 0 eI g j X9) (gJ (sJ (lC (aB 1 (zE eI) b X9) (BC 2))) bM)))) (gJ (BC 16) bM))) (λ_=>X9) λe=>(bV 7 (As wJ (dI (gF (aB 4 (lE eS) a X9)) (dI (gF (aB 5 (lE eI) i X9)) bM))) (λ_=>X9) λh=>(bV 8 (As wJ (dI (gF (aB 4 (lE eS) a X9)) (dI (gF (aB 6 (lE eI) e X9)) bM))) (λ_=>X9) λc=>(Iz (λc:(O An)=>[Z bL,Z (zE eI b),Z (oE eI d),Z (zE eI f),Z (oE eS a),Z (oE eI i),Z (oE eI e),Z ((oE (eT eS)) h),Z ((oE (eT eS)) c)]) (d8 (BS () (gB (jU (gF (aB 2 (lE eI) d X9)) (BC 7)) 3 ()) (BC 1))) (bO (bV 8 (As Sg (dI (gF (aB 7 (lE (eT eS)) h X9)) (dI (gF (aB 6 (lE eI) e X9)) bM))) (λ_=>X9) λc=>(cQ (cu c X9)))) (cQ (cu c X9)) λc=>(LG 4 [Z bL,Z (zE eI b),Z (oE eI d),Z (zE eI f),Z ((zE (eL eS)) a),Z (oE eI i),Z (oE eI e),Z ((oE (eT eS)) h),Z ((oE (eT eS)) c)] X9 (LG 7 [Z bL,Z (zE eI b),Z (oE eI d),Z (zE eI f),Z ((zE (eL eS)) a),Z (oE eI i),Z (oE eI e),Z ((zE (eL (eT eS))) h),Z ((oE (eT eS)) c)] X9 (LG 8 [Z bL,Z (zE eI b),Z (oE eI d),Z (zE eI f),Z ((zE (eL eS)) a),Z (oE eI i),Z (oE eI e),Z ((zE (eL (eT eS))) h),Z ((zE (eL (eT eS))) c)] X9 (gY (λr=>r) (Rm (aB 4 (zE (eL eS)) a X9) (aB 7 (zE (eL (eT eS))) h X9) (aB 8 (zE (eL (eT eS))) c X9)) (λ_=>X9) λ_=>X9)))))))))))))
theorem Ww:∀v bs,(aL eI (aZ eI aN)) v bs->bs.length=2/\(hold (Z (qJ v.1 v.2.1))->vL (bs.map lend)=Z ((zE Mo) (nA v.1 v.2.1))):=by
 rintro⟨b,a,_⟩ _ ⟨bL,_,rfl,c,⟨_,rfl,rfl⟩⟩;exact⟨rfl,λh=>dX (g:=vK) (n:=9) (bs:=[lend bL,.z (eI a)]) (Wv b (dj c) a) h⟩
def cg(a:An)(c:An):An:=(let a:An:=(if((c.map λb:AK=>(decide (b∈a))).any id)=true then(let a:=(a++((c.filter λb:AK=>(!decide (b∈a))).map λb:AK=>b));a)else a);a)
def gZ(c:An)(b:An):Prop:=(b.length<=100000/\(((b.map λa:AK=>(decide (a∈c))).any id)=true->(b.length<=100000/\GC (c.length+((b.filter λa:AK=>(!decide (a∈c))).map λa:AK=>a).length))))
theorem Az(g:An)(m:Lp bL (g.map eS))(h:O An)(l:Lp b_1 (h.map (eT eS)))(i:O An)(j:Lp mV (i.map (eT eS)))(f:O An)(d:AK)(e:Int)(a:An)(b:An):RP sS [Z bL,Z b_1,Z mV,Z ((oE (eL eS)) f),Z (zE eS d),Z (oE eS a),Z (zE eI e),Z ((zE (eT eS)) b)] (λs=>Ap.nx ((λa:An=>[Z bL,Z b_1,Z mV,Z ((oE (eL eS)) f),Z (zE eS d),Z (oE eS a),Z (zE eI e),U]) s)) (cg  a b) (Z (gZ  a b)):=R.tp (bO (Iz (λa:An=>[Z bL,Z b_1,Z mV,Z ((oE (eL eS)) f),Z (zE eS d),Z (oE eS a),Z (zE eI e),Z ((zE (eT eS)) b)]) (DW (NI (iw (Kr (IF (aB 7 (zE (eT eS)) b X9)) _ (λ_=>X9) (λc:AK=>(GO (aB 1 (zE eS) c X9) (gF (aB 0 (lE eS) a X9)))) λ_=>X9)))) (bO (bV 5 (DY (gF (aB 5 (lE eS) a X9)) (iw (Eh (IF (aB 7 (zE (eT eS)) b X9)) _ (λ_=>X9) (λc:AK=>(d8 (S0 (aB 1 (zE eS) c X9) (gF (aB 0 (lE eS) a X9))))) (λc:AK=>(aB 1 (zE eS) c X9)) (λ_=>X9) λ_=>X9))) (λ_=>X9) λa=>(cQ (cu a X9)))) (cQ (cu a X9)) λa=>(cQ (cu a X9))))
def cL(e:O An)(f:O An)(b:Int×An):j6 (Int×An) (O An):=(let c:=(b.2.length:Int);(let a:An:=((e++f).foldl (λ(a:An) (d:An)=>(cg  a d)) b.2);(j6.nx (c,a))))
def lQ(d:O An)(e:O An)(c:Int×An):Prop:=(let f:=(c.2.length:Int);(GC (d.length+e.length)/\mj (λ(b:An) (a:An)=>(cg  b a)) (λ(b:An) (a:An)=>Z (gZ  b a)) (d++e) c.2))
theorem Ba(h:An)(m:Lp bL (h.map eS))(c:O An)(j:Lp b_1 (c.map (eT eS)))(d:O An)(i:Lp mV (d.map (eT eS)))(f:O An)(e:AK)(a:Int×An):RP sU [Z bL,Z b_1,Z mV,Z ((oE (eL eS)) f),Z (zE eS e),Z ((oE eS) a.2),Z ((zE eI) a.1),U] (cC (λa:Int×An=>[Z bL,Z b_1,Z mV,Z ((oE (eL eS)) f),Z (zE eS e),Z ((oE eS) a.2),Z ((zE eI) a.1),U]) (oE (eL eS))) (cL c d a ) (Z (lQ c d a )):=R.tp (bO (bV 6 (BE (gF (aB 5 (lE eS) a.2 X9))) (λ_=>X9) λg=>(bO (IK (λb:An=>[Z bL,Z b_1,Z mV,Z ((oE (eL eS)) f),Z (zE eS e),Z (oE eS b),Z (zE eI g),U]) a.2 X9 (Wg (DY (bw 1 (eT eS) c j X9) (bw 2 (eT eS) d i X9))) _ (λ_ _=>X9) (λ(b:An) (l:An)=>(Az h m c j d i f e g b l).r) λb=>(cQ (cu (.nx (g,b)) X9))))))
def bT(f:O An)(g:O An)(b:O An)(d:AK):j6 ((O An)) (O An):=(if(!((b.map λc:An=>(decide (d∈c))).any id))=true then(let c:=[d];(let e:=(0:Int);(BO (Rr (λa:Int×An=>(decide (a.1<(a.2.length:Int)))) (λa:Int×An=>((cL f g a):j6 (Int×An) (O An))) 70 (e,c)) (λr=>j6.rt r) λa:Int×An=>(let b:=b++[(bH a.2)];(j6.nx b)))))else(j6.nx b))
def lR(d:O An)(e:O An)(c:O An)(f:AK):Prop:=(c.length<=100000/\((!((c.map λb:An=>(decide (f∈b))).any id))=true->(let b:=[f];(let g:=(0:Int);(EB (λa:Int×An=>(decide (a.1<(a.2.length:Int)))) (λa:Int×An=>U) (λa:Int×An=>((cL d e a):j6 (Int×An) (O An))) (λa:Int×An=>Z (lQ d e a)) 70 (g,b)/\(yH (Rr (λa:Int×An=>(decide (a.1<(a.2.length:Int)))) (λa:Int×An=>((cL d e a):j6 (Int×An) (O An))) 70 (g,b)) λa:Int×An=>(a.2.length<64/\GC c.length)))))))
theorem Bb(g:An)(l:Lp bL (g.map eS))(d:O An)(j:Lp b_1 (d.map (eT eS)))(e:O An)(i:Lp mV (e.map (eT eS)))(a:O An)(c:AK):RP sV [Z bL,Z b_1,Z mV,Z ((oE (eL eS)) a),Z (zE eS c),U,U,U] (cC (λa:(O An)=>[Z bL,Z b_1,Z mV,Z ((oE (eL eS)) a),U,U,U,U]) (oE (eL eS))) (bT d e a c) (Z (lR d e a c)):=R.tp (bO (qF (wA (DW (NI (iw (Kr (zK (gF (aB 3 (lE (eL eS)) a X9))) _ (λ_=>X9) (λf:An=>(GO (aB 0 (zE eS) c X9) (qD (aB 1 (zE (eL eS)) f X9)))) λ_=>X9))))) (bO (bV 5 (oY (jH (aB 4 (zE eS) c X9) (jg eS)) (ZU X9)) (λ_=>X9) λf=>(bO (bV 6 (BC 0) (λ_=>X9) λh=>(bO (WE 70 (λb:Int×An=>[Z bL,Z b_1,Z mV,Z ((oE (eL eS)) a),Z (zE eS c),Z ((oE eS) b.2),Z ((zE eI) b.1),U]) (h,f) X9 (λb:Int×An=>(d8 (Za (aB 6 (zE eI) b.1 X9) (BE (gF (aB 5 (lE eS) b.2 X9)))))) (λb:Int×An=>((Ba g l d j e i a c b).r:R _ _ (cC (λb:Int×An=>[Z bL,Z b_1,Z mV,Z ((oE (eL eS)) a),Z (zE eS c),Z ((oE eS) b.2),Z ((zE eI) b.1),U]) (oE (eL eS))))) .rt (λ_=>X9) λb=>(bO (Uj 3 a X9 (GY (vG (gF (aB 5 (lE eS) b.2 X9)))) λa=>(cQ (cQ (cu (.nx a) X9))))))))))) (cQ (cQ (cu (.nx a) X9)))))
def jd(c:An)(d:O An)(e:O An):(O An):=(let a:=([]:O An);(BO (lK (λ(a:O An) (b:AK)=>((bT d e a b):j6 ((O An)) (O An))) c a) (λr=>r) λa:(O An)=>a))
def jP(e:An)(c:O An)(d:O An):Prop:=(let a:=([]:O An);(uI (λ(a:O An) (b:AK)=>((bT c d a b):j6 ((O An)) (O An))) (λ(a:O An) (b:AK)=>Z (lR c d a b)) e a/\(yH (lK (λ(a:O An) (b:AK)=>((bT c d a b):j6 ((O An)) (O An))) e a) λa:(O An)=>True)))
theorem K6(b:An)(e:Lp bL (b.map eS))(c:O An)(h:Lp b_1 (c.map (eT eS)))(d:O An)(g:Lp mV (d.map (eT eS))):RP mF [Z bL,Z b_1,Z mV,U,U,U,U,U] (λr=>Ap.rt ((oE (eL eS)) r)) (jd b c d) (Z (jP b c d)):=R.tp (bV 3 (oY (jg (eL eS)) (ZU X9)) (λ_=>X9) λa=>(de 0 b (bS e X9) (λa:(O An)=>[Z bL,Z b_1,Z mV,Z ((oE (eL eS)) a),U,U,U,U]) a X9 _ (λ_ _=>X9) (λ(a:O An) (f:AK)=>((Bb b e c h d g a f).r:R _ _ (cC (λa:(O An)=>[Z bL,Z b_1,Z mV,Z ((oE (eL eS)) a),U,U,U,U]) (oE (eL eS))))) (λr=>r) (λ_=>X9) λa=>(Ku 3 (λr=>r) a X9 (λ_=>X9) λ_=>X9)))
theorem K7:∀v bs,(aL eS (aL (eT eS) (aL (eT eS) aN))) v bs->bs.length=3/\(hold (Z (jP v.1 v.2.1 v.2.2.1))->mG (bs.map lend)=Z ((oE (eL eS)) (jd v.1 v.2.1 v.2.2.1))):=by
 rintro⟨a,e,f,_⟩ _ ⟨bL,_,rfl,d,⟨b_1,_,rfl,c,⟨mV,_,rfl,b,rfl⟩⟩⟩;exact⟨rfl,λh=>dX (g:=mF) (n:=8) (bs:=[lend bL,lend b_1,lend mV]) (K6 a (dj d) e (dj c) f (dj b)) h⟩
def iQ(b:O An)(a:O An):AK:=(if(decide ((b.length:Int)=1))=true then(at' [("kept":AK),("split":AK)] (if(decide ((1:Int)<(a.length:Int)))=true then(1:Int)else 0))else(at' [("joined":AK),("mixed":AK)] (if(decide ((1:Int)<(a.length:Int)))=true then(1:Int)else 0)))
def iR(b:O An)(a:O An):Prop:=(((decide ((b.length:Int)=1))=true->In [("kept":AK),("split":AK)].length (if(decide ((1:Int)<(a.length:Int)))=true then(1:Int)else 0))/\((decide ((b.length:Int)=1))=false->In [("joined":AK),("mixed":AK)].length (if(decide ((1:Int)<(a.length:Int)))=true then(1:Int)else 0)))
theorem Gd(b:O An)(a:O An):RP jJ [Z ((zE (eT (eT eS))) b),Z ((zE (eT (eT eS))) a)] (λr=>Ap.rt (zE eS r)) (iQ b a) (Z (iR b a)):=R.tp (qF (d8 (BS () (Ea (aB 0 (zE (eT (eT eS))) b X9)) (BC 1))) (bO (gY (λr=>r) (jU (iw (oY (jH (Wh "kept") (jH (Wh "split") (jg eS))) (ZU X9))) (Ro (Ff (Ea (aB 1 (zE (eT (eT eS))) a X9)) (BC 1)))) (λ_=>X9) λ_=>X9)) (cQ (gY (λr=>r) (jU (iw (oY (jH (Wh "joined") (jH (Wh "mixed") (jg eS))) (ZU X9))) (Ro (Ff (Ea (aB 1 (zE (eT (eT eS))) a X9)) (BC 1)))) (λ_=>X9) λ_=>X9)))
theorem Ge:∀v bs,(aZ (eT (eT eS)) (aZ (eT (eT eS)) aN)) v bs->bs.length=2/\(hold (Z (iR v.1 v.2.1))->jK (bs.map lend)=Z ((zE eS) (iQ v.1 v.2.1))):=by
 rintro⟨b,a,_⟩ _ ⟨_,rfl,⟨_,rfl,rfl⟩⟩;exact⟨rfl,λh=>dX (g:=jJ) (n:=2) (bs:=[.z ((eT (eT eS)) b),.z ((eT (eT eS)) a)]) (Gd b a) h⟩
def fX(f:O An)(g:O An)(b:O pP)(d:An):(O pP):=(let e:=((f.filter λa:An=>(decide ((at' a 0)∈d))).map λa:An=>a);(let c:=((g.filter λa:An=>(decide ((at' a 0)∈d))).map λa:An=>a);(let b:=b++[((iQ e c),e,c)];b)))
def jQ(b:O An)(c:O An)(f:O pP)(d:An):Prop:=((b.length<=100000/\(∀a∈b,In a.length 0))/\(let g:=((b.filter λa:An=>(decide ((at' a 0)∈d))).map λa:An=>a);((c.length<=100000/\(∀a∈c,In a.length 0))/\(let e:=((c.filter λa:An=>(decide ((at' a 0)∈d))).map λa:An=>a);((iR g e)/\GC f.length)))))
theorem K8(h:An)(l:Lp bL (h.map eS))(d:O An)(j:Lp b_1 (d.map (eT eS)))(e:O An)(i:Lp mV (e.map (eT eS)))(a:O pP)(c:An):RP yR [Z bL,Z b_1,Z mV,Z (oE vW a),Z ((zE (eL eS)) c),U,U] (λs=>Ap.nx ((λa:(O pP)=>[Z bL,Z b_1,Z mV,Z (oE vW a),U,U,U]) s)) (fX d e a c) (Z (jQ d e a c)):=R.tp (bO (bV 5 (oZ (iw (vH (zK (bw 1 (eT eS) d j X9)) _ (λ_=>X9) (λb:An=>(d8 (GO (NQ (aB 1 (zE (eT eS)) b X9) (BC 0)) (qD (aB 0 (zE (eL eS)) c X9))))) (λb:An=>(aB 1 (zE (eT eS)) b X9))))) (λ_=>X9) λg=>(bO (bV 6 (oZ (iw (vH (zK (bw 2 (eT eS) e i X9)) _ (λ_=>X9) (λb:An=>(d8 (GO (NQ (aB 1 (zE (eT eS)) b X9) (BC 0)) (qD (aB 0 (zE (eL eS)) c X9))))) (λb:An=>(aB 1 (zE (eT eS)) b X9))))) (λ_=>X9) λf=>(bO (Uj 3 a X9 (Rm (sJ (As Ge (gJ (aB 5 (zE (eT (eT eS))) g X9) (gJ (aB 6 (zE (eT (eT eS))) f X9) bM)))) (aB 5 (zE (eT (eT eS))) g X9) (aB 6 (zE (eT (eT eS))) f X9)) λa=>(cQ (cu a X9))))))))
def nC(e:An)(b:O An)(c:O An):(O pP):=(let a:=([]:O pP);(let a:(O pP):=((jd e b c).foldl (λ(a:O pP) (d:An)=>(fX b c a d)) a);a))
def qK(e:An)(b:O An)(c:O An):Prop:=(let a:=([]:O pP);((jP e b c)/\mj (λ(a:O pP) (d:An)=>(fX b c a d)) (λ(a:O pP) (d:An)=>Z (jQ b c a d)) (jd e b c) a))
theorem Wx(b:An)(g:Lp bL (b.map eS))(c:O An)(f:Lp b_1 (c.map (eT eS)))(d:O An)(e:Lp mV (d.map (eT eS))):RP vM [Z bL,Z b_1,Z mV,U,U,U,U] (λr=>Ap.rt (oE vW r)) (nC b c d) (Z (qK b c d)):=R.tp (bV 3 (oY (jg vW) (ZU X9)) (λ_=>X9) λa=>(IK (λa:(O pP)=>[Z bL,Z b_1,Z mV,Z (oE vW a),U,U,U]) a X9 (Wg (As K7 (dI (bw 0 eS b g X9) (dI (bw 1 (eT eS) c f X9) (dI (bw 2 (eT eS) d e X9) bM))))) _ (λ_ _=>X9) (λ(a:O pP) (h:An)=>(K8 b g c f d e a h).r) λa=>(Ku 3 (λr=>r) a X9 (λ_=>X9) λ_=>X9)))
theorem Wy:∀v bs,(aL eS (aL (eT eS) (aL (eT eS) aN))) v bs->bs.length=3/\(hold (Z (qK v.1 v.2.1 v.2.2.1))->vN (bs.map lend)=Z ((oE vW) (nC v.1 v.2.1 v.2.2.1))):=by
 rintro⟨a,e,f,_⟩ _ ⟨bL,_,rfl,d,⟨b_1,_,rfl,c,⟨mV,_,rfl,b,rfl⟩⟩⟩;exact⟨rfl,λh=>dX (g:=vM) (n:=7) (bs:=[lend bL,lend b_1,lend mV]) (Wx a (dj d) e (dj c) f (dj b)) h⟩
def bf(c:O An):An:=(bH (c.flatMap λa:An=>(a.map λb:AK=>b)))
def fD(c:O An):Prop:=(((∀a∈c,(∀b∈a,True))/\(c.flatMap λa:An=>(a.map λb:AK=>b)).length<=100000)/\(c.flatMap λa:An=>(a.map λb:AK=>b)).length<64)
theorem Sh(a:O An)(d:Lp bL (a.map (eT eS))):RP rG [Z bL] (λr=>Ap.rt (oE eS r)) (bf a) (Z (fD a)):=R.tp (gY (λr=>r) (vG (iw (OG (OT (zK (bw 0 (eT eS) a d X9)) _ (λ_=>X9) (λb:An=>(TD (OO (aB 0 (zE (eT eS)) b X9)) _ (λ_=>X9) (λc:AK=>(aB 1 (zE eS) c X9)))))))) (λ_=>X9) λ_=>X9)
theorem oF:∀v bs,(aL (eT eS) aN) v bs->bs.length=1/\(hold (Z (fD v.1))->cM (bs.map lend)=Z ((oE eS) (bf v.1))):=by
 rintro⟨b,_⟩ _ ⟨bL,_,rfl,a,rfl⟩;exact⟨rfl,λh=>dX (g:=rG) (n:=1) (bs:=[lend bL]) (Sh b (dj a)) h⟩
def lH(a:O An)(vs:O An):Unit:=(let b:=(bH (lB (vV (bf a) (bf vs))));(if(!b.isEmpty)=true then default else gl))
def dG(a:O An)(vs:O An):Prop:=((((fD a)/\((fD vs)/\((bf a).length<=30/\(bf vs).length<=30)))/\((vV (bf a) (bf vs)).length<4000/\(lB (vV (bf a) (bf vs))).length<64))/\(let b:=(bH (lB (vV (bf a) (bf vs))));((!b.isEmpty)=true->False)))
theorem uW(a:O An)(c:Lp bL (a.map (eT eS)))(vs:O An)(d:Lp b_1 (vs.map (eT eS))):RP fU [Z bL,Z b_1,U] (λ_:Unit=>Ap.nx [Z bL,Z b_1,U]) (lH a vs) (Z (dG a vs)):=R.tp (bO (bV 2 (Zm (Z5 (Um (iw (As oF (dI (bw 0 (eT eS) a c X9) bM)))) (Um (iw (As oF (dI (bw 1 (eT eS) vs d X9) bM)))))) (λ_=>X9) λb=>(bO (qF (NM (gF (aB 2 (lE eS) b X9))) (bO br) (cQ (cQ (cu gl X9)))))))
theorem uX:∀v bs,(aL (eT eS) (aL (eT eS) aN)) v bs->bs.length=2/\(hold (Z (dG v.1 v.2.1))->fV (bs.map lend)=Z ((zE eN) (lH v.1 v.2.1))):=by
 rintro⟨b,vs,_⟩ _ ⟨bL,_,rfl,a,⟨b_1,_,rfl,c,rfl⟩⟩;exact⟨rfl,λh=>am (g:=fU) (n:=3) (bs:=[lend bL,lend b_1]) (uW b (dj a) vs (dj c)).r h⟩
def dZ(b:An):(O (AK×AK)):=(FA (b.map λa:AK=>(a,a)))
def mX(a:An):Prop:=(a.length<1000/\a.length<=100000)
theorem K9(a:An)(c:Lp bL (a.map eS)):RP mH [Z bL] (λr=>Ap.rt (mE eS r)) (dZ a) (Z (mX a)):=R.tp (gY (λr=>r) (Sk (zK (bw 0 eS a c X9)) (Kr (zK (bw 0 eS a c X9)) _ (λ_=>X9) (λb:AK=>(OP (aB 0 (zE eS) b X9) (aB 0 (zE eS) b X9))) λ_=>X9)) (λ_=>X9) λ_=>X9)
theorem La:∀v bs,(aL eS aN) v bs->bs.length=1/\(hold (Z (mX v.1))->mJ (bs.map lend)=Z ((mE eS) (dZ v.1))):=by
 rintro⟨a,_⟩ _ ⟨bL,_,rfl,b,rfl⟩;exact⟨rfl,λh=>dX (g:=mH) (n:=1) (bs:=[lend bL]) (K9 a (dj b)) h⟩
def cY(c:AK)(vs:AK)(b:AK)(vx:(O (AK×AK)))(a:AK):(O (AK×AK)):=(let vx:(O (AK×AK)):=(if((decide ((look vx a)=c))||(decide ((look vx a)=vs)))=true then(let vx:=put vx a b;vx)else vx);vx)
def lU(b:AK)(vs:AK)(c:AK)(vx:(O (AK×AK)))(a:AK):Prop:=((has vx a=true/\((decide ((look vx a)=b))=false->has vx a=true))/\(((decide ((look vx a)=b))||(decide ((look vx a)=vs)))=true->vx.length<1000))
theorem Bc(c:AK)(vs:AK)(b:AK)(vx:(O (AK×AK)))(a:AK):RP sW [Z ((mW (Z a_) eS) vx),Z (zE eS c),Z (zE eS vs),Z (zE eS b),Z (zE eS a)] (λs=>Ap.nx ((λvx:(O (AK×AK))=>[Z ((mW (Z a_) eS) vx),Z (zE eS c),Z (zE eS vs),Z (zE eS b),U]) s)) (cY c vs b vx a) (Z (lU c vs b vx a)):=R.tp (bO (Iz (λvx:(O (AK×AK))=>[Z ((mW (Z a_) eS) vx),Z (zE eS c),Z (zE eS vs),Z (zE eS b),Z (zE eS a)]) (NP (d8 (BS () (zL (aB 0 (nE eS) vx X9) (aB 4 (zE eS) a X9)) (aB 1 (zE eS) c X9))) (d8 (BS () (zL (aB 0 (nE eS) vx X9) (aB 4 (zE eS) a X9)) (aB 2 (zE eS) vs X9)))) (bO (UR (Z a_) 0 vx X9 (aB 3 (zE eS) b X9) (aB 4 (zE eS) a X9) λvx=>(cQ (cu vx X9)))) (cQ (cu vx X9)) λvx=>(cQ (cu vx X9))))
def mY(vx:(O (AK×AK)))(a:AK)(vs:AK):(O (AK×AK)):=(let b:=(if Ko vs a=true then vs else a);(let vx:(O (AK×AK)):=((vx.map (·.1)).foldl (λ(vx:(O (AK×AK))) (c:AK)=>(cY a vs b vx c)) vx);vx))
def mZ(vx:(O (AK×AK)))(a:AK)(vs:AK):Prop:=(let c:=(if Ko vs a=true then vs else a);mj (λ(vx:(O (AK×AK))) (b:AK)=>(cY a vs c vx b)) (λ(vx:(O (AK×AK))) (b:AK)=>Z (lU a vs c vx b)) (vx.map (·.1)) vx)
def rZ(vx:(O (AK×AK)))(a:AK)(vs:AK):R mK [Z ((mW (Z a_) eS) vx),Z (zE eS a),Z (zE eS vs),U,U] (λc=>Ap.nx [Z ((mW (Z a_) eS) c),Z (zE eS a),Z (zE eS vs),U,U]):=(bO (bV 3 (Zq (aB 1 (zE eS) a X9) (aB 2 (zE eS) vs X9)) (λ_=>X9) λb=>(bO (IK (λvx:(O (AK×AK))=>[Z ((mW (Z a_) eS) vx),Z (zE eS a),Z (zE eS vs),Z (zE eS b),U]) vx X9 (Wg (Tk (aB 0 (nE eS) vx X9))) _ (λ_ _=>X9) (λ(vx:(O (AK×AK))) (d:AK)=>(Bc a vs b vx d).r) λvx=>(cQ (cu vx X9))))))
theorem G9(vx:(O (AK×AK)))(a:AK)(vs:AK):(rZ (a_:=a_) vx a vs).v=mY vx a vs:=by kernel_rfl
theorem Hf(vx:(O (AK×AK)))(a:AK)(vs:AK):(rZ (a_:=a_) vx a vs).D=Z (mZ vx a vs):=by kernel_rfl
theorem Lb:∀(vx:(O (AK×AK))) v bs,(aZ eS (aZ eS aN)) v bs->bs.length=2/\bs.all DJ=true/\(hold (Z (mZ vx v.1 v.2.1))->∀a,jL a (vx.map λq=>(kS q.1,eS q.2)) bs=Z ((mY vx v.1 v.2.1).map λq=>(kS q.1,eS q.2))):=by
 rintro vx ⟨b,vs,_⟩ _ ⟨_,rfl,⟨_,rfl,rfl⟩⟩;exact⟨rfl,rfl,λh a=>(OS (g:=mK) (n:=5) (bs:=[.z (eS b),.z (eS vs)]) (rZ (a_:=a) vx b vs) ((congrArg hold (Hf (a_:=a) vx b vs)).mpr h) (λ_=>X9)).trans (congrArg (λr:(O (AK×AK))=>Z (r.map λq=>(kS q.1,eS q.2))) (G9 (a_:=a) vx b vs))⟩
def kZ(vx:(O (AK×AK)))(b:AK):An:=(((vx.map (·.1)).filter λa:AK=>(decide ((look vx a)=b))).map λa:AK=>a)
def pU(vx:(O (AK×AK)))(b:AK):Prop:=((vx.map (·.1)).length<=100000/\(∀a∈(vx.map (·.1)),has vx a=true))
theorem Hg(vx:(O (AK×AK)))(a:AK):RP kj [Z (nE eS vx),Z (zE eS a)] (λr=>Ap.rt ((zE (eT eS)) r)) (kZ vx a) (Z (pU vx a)):=R.tp (gY (λr=>r) (oZ (iw (vH (My (aB 0 (nE eS) vx X9)) _ (λ_=>X9) (λb:AK=>(d8 (BS () (zL (aB 1 (nE eS) vx X9) (aB 2 (zE eS) b X9)) (aB 0 (zE eS) a X9)))) (λb:AK=>(aB 2 (zE eS) b X9))))) (λ_=>X9) λ_=>X9)
theorem Hh:∀v bs,(aM eS (aZ eS aN)) v bs->bs.length=2/\(hold (Z (pU v.1 v.2.1))->kE (bs.map lend)=Z ((zE (eT eS)) (kZ v.1 v.2.1))):=by
 rintro⟨vx,a,_⟩ _ ⟨_,_,rfl,(rfl|rfl),⟨_,rfl,rfl⟩⟩
 all_goals exact⟨rfl,λh=>dX (g:=kj) (n:=2) (bs:=[nE eS vx,.z (eS a)]) (Hg vx a) h⟩
def d7(vx:(O (AK×AK))):(O An):=(((vx.map (·.1)).filter λa:AK=>(decide ((look vx a)=a))).map λa:AK=>(kZ vx a))
def m5(vx:(O (AK×AK))):Prop:=((vx.map (·.1)).length<=100000/\(∀a∈(vx.map (·.1)),(has vx a=true/\((decide ((look vx a)=a))=true->(pU vx a)))))
theorem Ld(vx:(O (AK×AK))):RP mL [Z (nE eS vx)] (λr=>Ap.rt ((oE (eT eS)) r)) (d7 vx) (Z (m5 vx)):=R.tp (gY (λr=>r) (vH (My (aB 0 (nE eS) vx X9)) _ (λ_=>X9) (λa:AK=>(d8 (BS () (zL (aB 0 (nE eS) vx X9) (aB 1 (zE eS) a X9)) (aB 1 (zE eS) a X9)))) (λa:AK=>(sJ (As Hh (LO (aB 0 (nE eS) vx X9) (gJ (aB 1 (zE eS) a X9) bM)))))) (λ_=>X9) λ_=>X9)
theorem Lf:∀v bs,(aM eS aN) v bs->bs.length=1/\(hold (Z (m5 v.1))->mO (bs.map lend)=Z ((oE (eT eS)) (d7 v.1))):=by
 rintro⟨vx,_⟩ _ ⟨_,_,rfl,(rfl|rfl),rfl⟩
 all_goals exact⟨rfl,λh=>dX (g:=mL) (n:=1) (bs:=[nE eS vx]) (Ld vx) h⟩
def gU(b:Int)(a:Int):AK:=(if(decide (b=1))=true then(if(decide (a=1))=true then("kept":AK)else("split":AK))else(if(decide (a=1))=true then("joined":AK)else("mixed":AK)))
theorem Ss(b:Int)(a:Int):RP rH [Z (zE eI b),Z (zE eI a)] (λr=>Ap.rt (zE eS r)) (gU b a) U:=R.tp (qF (d8 (BS () (aB 0 (zE eI) b X9) (BC 1))) (bO (gY (λr=>r) (NE (d8 (BS () (aB 1 (zE eI) a X9) (BC 1))) (Wh "kept") (Wh "split")) (λ_=>X9) λ_=>X9)) (cQ (gY (λr=>r) (NE (d8 (BS () (aB 1 (zE eI) a X9) (BC 1))) (Wh "joined") (Wh "mixed")) (λ_=>X9) λ_=>X9)))
theorem Sv:∀v bs,(aZ eI (aZ eI aN)) v bs->bs.length=2/\(hold (U)->rJ (bs.map lend)=Z ((zE eS) (gU v.1 v.2.1))):=by
 rintro⟨a,b,_⟩ _ ⟨_,rfl,⟨_,rfl,rfl⟩⟩;exact⟨rfl,λh=>dX (g:=rH) (n:=2) (bs:=[.z (eI a),.z (eI b)]) (Ss a b) h⟩
def oG(e:O An)(vs:O An)(c:An):pP:=(let d:=((e.filter λa:An=>(decide ((at' a 0)∈c))).map λa:An=>a);(let b:=((vs.filter λa:An=>(decide ((at' a 0)∈c))).map λa:An=>a);((gU (d.length:Int) (b.length:Int)),d,b)))
def wZ(b:O An)(vs:O An)(c:An):Prop:=((b.length<=100000/\(∀a∈b,In a.length 0))/\(let d:=((b.filter λa:An=>(decide ((at' a 0)∈c))).map λa:An=>a);(vs.length<=100000/\(∀a∈vs,In a.length 0))))
theorem Sw(c:O An)(g:Lp bL (c.map (eT eS)))(vs:O An)(f:Lp b_1 (vs.map (eT eS)))(b:An):RP rK [Z bL,Z b_1,Z ((zE (eT eS)) b),U,U] (λr=>Ap.rt (zE vW r)) (oG c vs b) (Z (wZ c vs b)):=R.tp (bV 3 (oZ (iw (vH (zK (bw 0 (eT eS) c g X9)) _ (λ_=>X9) (λa:An=>(d8 (ME (NQ (aB 1 (zE (eT eS)) a X9) (BC 0)) (aB 0 (zE (eT eS)) b X9)))) (λa:An=>(aB 1 (zE (eT eS)) a X9))))) (λ_=>X9) λe=>(bV 4 (oZ (iw (vH (zK (bw 1 (eT eS) vs f X9)) _ (λ_=>X9) (λa:An=>(d8 (ME (NQ (aB 1 (zE (eT eS)) a X9) (BC 0)) (aB 0 (zE (eT eS)) b X9)))) (λa:An=>(aB 1 (zE (eT eS)) a X9))))) (λ_=>X9) λd=>(gY (λr=>r) (Rm (sJ (As Sv (gJ (sJ (Ea (aB 3 (zE (eT (eT eS))) e X9))) (gJ (sJ (Ea (aB 4 (zE (eT (eT eS))) d X9))) bM)))) (aB 3 (zE (eT (eT eS))) e X9) (aB 4 (zE (eT (eT eS))) d X9)) (λ_=>X9) λ_=>X9)))
theorem Sx:∀v bs,(aL (eT eS) (aL (eT eS) (aZ (eT eS) aN))) v bs->bs.length=3/\(hold (Z (wZ v.1 v.2.1 v.2.2.1))->rM (bs.map lend)=Z ((zE vW) (oG v.1 v.2.1 v.2.2.1))):=by
 rintro⟨c,vs,a,_⟩ _ ⟨bL,_,rfl,b,⟨b_1,_,rfl,d,⟨_,rfl,rfl⟩⟩⟩;exact⟨rfl,λh=>dX (g:=rK) (n:=5) (bs:=[lend bL,lend b_1,.z (eT eS a)]) (Sw c (dj b) vs (dj d) a) h⟩
def fG(a:An)(vx:(O (AK×AK)))(b:AK):(O (AK×AK)):=(let vx:=(mY vx (look vx (at' a 0)) (look vx b));vx)
def oH(a:An)(vx:(O (AK×AK)))(b:AK):Prop:=(((In a.length 0/\has vx (at' a 0)=true)/\has vx b=true)/\(mZ vx (look vx (at' a 0)) (look vx b)))
theorem Gf(c:O An)(e:Lp bL (c.map (eT eS)))(vs:O An)(d:Lp b_1 (vs.map (eT eS)))(a:An)(vx:(O (AK×AK)))(b:AK):RP uT [Z bL,Z b_1,Z (mE eS vx),Z ((zE (eT eS)) a),Z (zE eS b)] (λs=>Ap.nx ((λvx:(O (AK×AK))=>[Z bL,Z b_1,Z (mE eS vx),Z ((zE (eT eS)) a),U]) s)) (fG a vx b) (Z (oH a vx b)):=R.tp (bO (VM U 2 vx X9 Lb (gJ (zL (aB 2 (nE eS) vx X9) (NQ (aB 3 (zE (eT eS)) a X9) (BC 0))) (gJ (zL (aB 2 (nE eS) vx X9) (aB 4 (zE eS) b X9)) bM)) λvx=>(cQ (cu vx X9))))
def cJ(vx:(O (AK×AK)))(a:An):(O (AK×AK)):=(let vx:(O (AK×AK)):=(a.foldl (λ(vx:(O (AK×AK))) (b:AK)=>(fG a vx b)) vx);vx)
def jR(vx:(O (AK×AK)))(a:An):Prop:=mj (λ(vx:(O (AK×AK))) (b:AK)=>(fG a vx b)) (λ(vx:(O (AK×AK))) (b:AK)=>Z (oH a vx b)) a vx
theorem Gg(b:O An)(e:Lp bL (b.map (eT eS)))(vs:O An)(d:Lp b_1 (vs.map (eT eS)))(vx:(O (AK×AK)))(a:An):RP uU [Z bL,Z b_1,Z (mE eS vx),Z ((zE (eT eS)) a),U] (λs=>Ap.nx ((λvx:(O (AK×AK))=>[Z bL,Z b_1,Z (mE eS vx),U,U]) s)) (cJ  vx a) (Z (jR  vx a)):=R.tp (bO (hW 3 a (WC X9) (λvx:(O (AK×AK))=>[Z bL,Z b_1,Z (mE eS vx),Z ((zE (eT eS)) a),U]) vx X9 _ (λ_ _=>X9) (λ(vx:(O (AK×AK))) (c:AK)=>(Gf b e vs d a vx c).r) λvx=>(cQ (cu vx X9))))
def dH(a:O An)(vs:O An):(O pP):=(let vx:=(dZ (bf a));(let vx:(O (AK×AK)):=((a++vs).foldl (λ(vx:(O (AK×AK))) (b:An)=>(cJ  vx b)) vx);((d7 vx).map λc:An=>(oG a vs c))))
def iT(a:O An)(vs:O An):Prop:=((dG a vs)/\(((fD a)/\(mX (bf a)))/\(let vx:=(dZ (bf a));((GC (a.length+vs.length)/\mj (λ(vx:(O (AK×AK))) (b:An)=>(cJ  vx b)) (λ(vx:(O (AK×AK))) (b:An)=>Z (jR  vx b)) (a++vs) vx)/\(let vx:(O (AK×AK)):=((a++vs).foldl (λ(vx:(O (AK×AK))) (b:An)=>(cJ  vx b)) vx);(((m5 vx)/\(d7 vx).length<=100000)/\(∀c∈(d7 vx),(wZ a vs c))))))))
theorem Pn(a:O An)(b:Lp bL (a.map (eT eS)))(vs:O An)(c:Lp b_1 (vs.map (eT eS))):RP pB [Z bL,Z b_1,U,U,U] (λr=>Ap.rt (oE vW r)) (dH a vs) (Z (iT a vs)):=R.tp (ce (As uX (dI (bw 0 (eT eS) a b X9) (dI (bw 1 (eT eS) vs c X9) bM))) (bV 2 (As La (dI (qD (GY (As oF (dI (bw 0 (eT eS) a b X9) bM)))) bM)) (λ_=>X9) λvx=>(IK (λvx:(O (AK×AK))=>[Z bL,Z b_1,Z (mE eS vx),U,U]) vx X9 (Wg (DY (bw 0 (eT eS) a b X9) (bw 1 (eT eS) vs c X9))) _ (λ_ _=>X9) (λ(vx:(O (AK×AK))) (d:An)=>(Gg a b vs c vx d).r) λvx=>(gY (λr=>r) (zJ (zK (iw (As Lf (LO (aB 2 (nE eS) vx X9) bM)))) _ (λ_=>X9) (λe:An=>(sJ (As Sx (dI (bw 0 (eT eS) a b (congrArg Z (b.get X9))) (dI (bw 1 (eT eS) vs c (congrArg Z (c.get X9))) (gJ (aB 2 (zE (eT eS)) e X9) bM))))))) (λ_=>X9) λ_=>X9))))
theorem Aq:∀v bs,(aL (eT eS) (aL (eT eS) aN)) v bs->bs.length=2/\(hold (Z (iT v.1 v.2.1))->lG (bs.map lend)=Z ((oE vW) (dH v.1 v.2.1))):=by
 rintro⟨b,vs,_⟩ _ ⟨bL,_,rfl,a,⟨b_1,_,rfl,c,rfl⟩⟩;exact⟨rfl,λh=>dX (g:=pB) (n:=5) (bs:=[lend bL,lend b_1]) (Pn b (dj a) vs (dj c)) h⟩
def aR(d:O An)(c:AK):(O An):=(let e:=(d.map λa:An=>((a.filter λb:AK=>(!decide (b=c))).map λb:AK=>b));(dW ((e.filter λa:An=>(!decide (a=([]:An)))).map λa:An=>a)))
def gk(b:O An)(e:AK):Prop:=((b.length<=100000/\(∀a∈b,a.length<=100000))/\(let c:=(b.map λa:An=>((a.filter λd:AK=>(!decide (d=e))).map λd:AK=>d));(c.length<=100000/\(((c.filter λa:An=>(!decide (a=([]:An)))).map λa:An=>a).length<64/\∀x∈((c.filter λa:An=>(!decide (a=([]:An)))).map λa:An=>a),x.isEmpty=false))))
theorem Hi(c:O An)(f:Lp bL (c.map (eT eS)))(b:AK):RP kJ [Z bL,Z (zE eS b),U] (λr=>Ap.rt ((oE (eT eS)) r)) (aR c b) (Z (gk c b)):=R.tp (bV 2 (zJ (zK (bw 0 (eT eS) c f X9)) _ (λ_=>X9) (λa:An=>(oZ (iw (Eh (IF (aB 1 (zE (eT eS)) a X9)) _ (λ_=>X9) (λd:AK=>(d8 (Hk () (aB 1 (zE eS) d X9) (aB 0 (zE eS) b X9)))) (λd:AK=>(aB 1 (zE eS) d X9)) (λ_=>X9) λ_=>X9))))) (λ_=>X9) λe=>(gY (λr=>r) (yI (iw (Eh (zK (gF (aB 2 (lE (eT eS)) e X9))) _ (λ_=>X9) (λa:An=>(d8 (Hk () (aB 0 (zE (eT eS)) a X9) (SH eS)))) (λa:An=>(aB 0 (zE (eT eS)) a X9)) (λ_=>X9) λ_=>X9))) (λ_=>X9) λ_=>X9))
theorem pX:∀v bs,(aL (eT eS) (aZ eS aN)) v bs->bs.length=2/\(hold (Z (gk v.1 v.2.1))->g8 (bs.map lend)=Z ((oE (eT eS)) (aR v.1 v.2.1))):=by
 rintro⟨c,a,_⟩ _ ⟨bL,_,rfl,b,⟨_,rfl,rfl⟩⟩;exact⟨rfl,λh=>dX (g:=kJ) (n:=3) (bs:=[lend bL,.z (eS a)]) (Hi c (dj b) a) h⟩
def W6(A B:O An):An:=bH (lB (vV (bf A) (bf B)))
def bx(a:Int)(c:O An)(d:O An)(b:AK):Bool:=true
def FK(a b:O An):Prop:=((fD a)/\((fD b)/\((bf a).length<=30/\(bf b).length<=30)))/\((vV (bf a) (bf b)).length<4000/\(lB (vV (bf a) (bf b))).length<64)
def cj(d:Int)(a:O An)(b:O An)(c:AK):Prop:=FK a b/\(W6 a b).head?=Z c
theorem SI{R:Ev->S Dt}{ρ':Ev}(h:g ρ=Z (.nx ρ')):Oi g R ρ=R ρ':=by
 unfold Oi;rw[h];rfl
theorem dA(a:O An)(b:Lp bL (a.map (eT eS)))(vs:O An)(c:Lp b_1 (vs.map (eT eS))):RP (Du (Wu (Dr (bU 1 cM (aq (gv 0) aK))) (Dr (bU 1 cM (aq (gv 1) aK))))) [Z bL,Z b_1,U] (oE eS) (W6 a vs) (Z (FK a vs)):=R.tp (Zm (Z5 (Um (iw (As oF (dI (bw 0 (eT eS) a b X9) bM)))) (Um (iw (As oF (dI (bw 1 (eT eS) vs c X9) bM))))))
theorem aT(a:An):RP (tV (gv 2)) [Z bL,Z b_1,Z (oE eS a)] (λb=>b) (!a.isEmpty) U:=R.tp (NM (gF (aB 2 (lE eS) a X9)))
theorem SO(a:An):RP (b2 nP (gv 2) (cB (.int 0))) [Z bL,Z b_1,Z (oE eS a)] (zE eS) (at' a 0) (Z (In a.length 0)):=R.tp (jU (gF (aB 2 (lE eS) a X9)) (BC 0))
theorem S2(a:AK):RP (b2 Be (gv 0) (gv 1)) [Z (.z (.str a)),Z (.z (eS a))] (zE eB) (decide (a=a)) U:=R.tp (BS () (aB 0 (zE eS) a X9) (aB 1 (zE eS) a X9))
theorem WB{a vs:O An}(i:Lp bL (a.map (eT eS)))(f:Lp b_1 (vs.map (eT eS)))(g:FK a vs){n:AK}(b:(W6 a vs).head?=Z n):gC 3 n6 [bL,b_1]=Z (.str n):=by
 have e:=dA a i vs f g;have e2:B4 2 (Du (Wu (Dr (bU 1 cM (aq (gv 0) aK))) (Dr (bU 1 cM (aq (gv 1) aK))))) [Z bL,Z b_1,U]=Z (.nx [Z bL,Z b_1,Z (oE eS (W6 a vs))]):=by
  unfold B4;rw[e];rfl
 show n6 [Z bL,Z b_1,U]=_;unfold n6;rw[SI e2];have e3:=aT (bL:=bL) (b_1:=b_1) (W6 a vs) trivial;have h:(!(W6 a vs).isEmpty)=true:=by
  cases q:W6 a vs with
  |nil=>rw[q]at b;cases b
  |cons x r=>rfl
 rw[h]at e3;have c:In (W6 a vs).length (0:Int)/\at' (W6 a vs) (0:Int)=n:=by
  cases q:W6 a vs with
  |nil=>rw[q]at b;cases b
  |cons x r=>rw[q]at b;cases b;exact⟨⟨by omega,by simp⟩,zM (k:=0) rfl⟩
 have d:=SO (bL:=bL) (b_1:=b_1) (W6 a vs) c.1;rw[c.2]at d;unfold HV;rw[e3];show FU _ _ _=_;unfold FU;rw[d];rfl
theorem Lv{b vs:O An}(a:Lp bL (b.map (eT eS)))(c:Lp b_1 (vs.map (eT eS)))(h:gC 3 n6 [bL,b_1]=Z d):gC 5 yS [bL,b_1]=Z d:=by
 rcases a with rfl|rfl<;>rcases c with rfl|rfl<;>exact h
theorem UE{b vs:O An}(a:Lp bL (b.map (eT eS)))(c:Lp b_1 (vs.map (eT eS)))(h:gC 5 yS [bL,b_1]=Z d):gC 6 Jl [bL,b_1]=Z d:=by
 rcases a with rfl|rfl<;>rcases c with rfl|rfl<;>exact h
theorem hZ{b vs:O An}(a:Lp bL (b.map (eT eS)))(c:Lp b_1 (vs.map (eT eS)))(h:gC 3 n6 [bL,b_1]=Z d):gC 9 Jm [bL,b_1]=Z d:=by
 rcases a with rfl|rfl<;>rcases c with rfl|rfl<;>exact h
theorem gn:∀v bs,(aZ eI (aL (eT eS) (aL (eT eS) (aZ eS aN)))) v bs->bs.length=4/\(hold (Z (cj v.1 v.2.1 v.2.2.1 v.2.2.2.1))->bZ (bs.map lend)=Z ((zE eB) (bx v.1 v.2.1 v.2.2.1 v.2.2.2.1))):=by
 rintro⟨b,j,l,a,_⟩ _ ⟨_,rfl,⟨b_1,_,rfl,f,⟨mV,_,rfl,c,⟨_,rfl,rfl⟩⟩⟩⟩;refine⟨rfl,λh=>?_⟩;obtain⟨i,g⟩:cj b j l a:=h;have e:=WB (dj f) (dj c) i g;have ex:F5 (.z (eI b)) (lend b_1) (lend mV)=Z (.str a):=by
  show(if b=0 then gC 5 yS [lend b_1,lend mV]else if b=1 then gC 6 Jl [lend b_1,lend mV]else gC 9 Jm [lend b_1,lend mV])=_;split
  ·exact Lv (dj f) (dj c) e
  ·split
   ·exact UE (dj f) (dj c) (Lv (dj f) (dj c) e)
   ·exact hZ (dj f) (dj c) e
 show((F5 (.z (eI b)) (lend b_1) (lend mV)).bind λd=>(Be (.z d) (.z (eS a))).bind OJ)=Z (.z (.bl true));rw[ex];have q:Be (.z (.str a)) (.z (eS a))=Z (.z (.bl true)):=by
  have:=S2 a trivial;rw[qS rfl]at this;exact this
 show(Be (.z (.str a)) (.z (eS a))).bind OJ=_;rw[q];rfl
def cH(b:An)(c:O An)(d:O An)(f:O An)(e:O An)(j:Int)(l:Int)(i:O An)(g:O An)(h:AK)(m:Unit)(a:Int):j6 (Unit) Bool:=(if((!(bx a c d (at' b 0)))||(!(bx a d c (at' b 0))))=true then(j6.rt false)else(if((!(bx a c f ("zzzzzzz":AK)))||(!(bx a f d (at' b 0))))=true then(j6.rt false)else(if((!(bx a c e (at' b 0)))||(!(bx a e c (at' b 0))))=true then(j6.rt false)else(if((!decide (j=l))&&(!(bx a i g h)))=true then(j6.rt false)else(j6.nx gl)))))
def fJ(a:An)(c:O An)(d:O An)(f:O An)(e:O An)(j:Int)(l:Int)(i:O An)(g:O An)(h:AK)(m:Unit)(b:Int):Prop:=(((In a.length 0/\(cj b c d (at' a 0)))/\((!(bx b c d (at' a 0)))=false->(In a.length 0/\(cj b d c (at' a 0)))))/\(((!(bx b c d (at' a 0)))||(!(bx b d c (at' a 0))))=false->(((cj b c f ("zzzzzzz":AK))/\((!(bx b c f ("zzzzzzz":AK)))=false->(In a.length 0/\(cj b f d (at' a 0)))))/\(((!(bx b c f ("zzzzzzz":AK)))||(!(bx b f d (at' a 0))))=false->(((In a.length 0/\(cj b c e (at' a 0)))/\((!(bx b c e (at' a 0)))=false->(In a.length 0/\(cj b e c (at' a 0)))))/\(((!(bx b c e (at' a 0)))||(!(bx b e c (at' a 0))))=false->((!decide (j=l))=true->(cj b i g h))))))))
theorem tD(b:An)(m:Lp bL (b.map eS))(c:O An)(l:Lp b_1 (c.map (eT eS)))(s:O An)(t:Lp mV (s.map (eT eS)))(p:Int)(d:O An)(f:O An)(e:O An)(j:Int)(q:Int)(n:Int)(i:O An)(g:O An)(h:AK)(o:Unit)(a:Int):RP jW [Z bL,Z b_1,Z mV,Z (zE eI p),Z ((oE (eT eS)) d),Z ((oE (eT eS)) f),Z ((oE (eT eS)) e),Z (zE eI j),Z (zE eI q),Z (zE eI n),Z ((zE (eL (eT eS))) i),Z ((zE (eL (eT eS))) g),Z (zE eS h),Z (zE eI a)] (cC (λo:Unit=>[Z bL,Z b_1,Z mV,Z (zE eI p),Z ((oE (eT eS)) d),Z ((oE (eT eS)) f),Z ((oE (eT eS)) e),Z (zE eI j),Z (zE eI q),Z (zE eI n),Z ((zE (eL (eT eS))) i),Z ((zE (eL (eT eS))) g),Z (zE eS h),U]) (zE eB)) (cH b c d f e j n i g h o a) (Z (fJ b c d f e j n i g h o a)):=R.tp (bO (qF (NP (wA (DW (As gn (gJ (aB 13 (zE eI) a X9) (dI (bw 1 (eT eS) c l X9) (dI (gF (aB 4 (lE (eT eS)) d X9)) (gJ (jU (bw 0 eS b m X9) (BC 0)) bM))))))) (wA (DW (As gn (gJ (aB 13 (zE eI) a X9) (dI (gF (aB 4 (lE (eT eS)) d X9)) (dI (bw 1 (eT eS) c l X9) (gJ (jU (bw 0 eS b m X9) (BC 0)) bM)))))))) (bO (gY .rt (sI (.bl false) eB false X9) (λ_=>X9) λ_=>X9)) (cQ (bO (qF (NP (wA (DW (As gn (gJ (aB 13 (zE eI) a X9) (dI (bw 1 (eT eS) c l X9) (dI (gF (aB 5 (lE (eT eS)) f X9)) (gJ (Wh "zzzzzzz") bM))))))) (wA (DW (As gn (gJ (aB 13 (zE eI) a X9) (dI (gF (aB 5 (lE (eT eS)) f X9)) (dI (gF (aB 4 (lE (eT eS)) d X9)) (gJ (jU (bw 0 eS b m X9) (BC 0)) bM)))))))) (bO (gY .rt (sI (.bl false) eB false X9) (λ_=>X9) λ_=>X9)) (cQ (bO (qF (NP (wA (DW (As gn (gJ (aB 13 (zE eI) a X9) (dI (bw 1 (eT eS) c l X9) (dI (gF (aB 6 (lE (eT eS)) e X9)) (gJ (jU (bw 0 eS b m X9) (BC 0)) bM))))))) (wA (DW (As gn (gJ (aB 13 (zE eI) a X9) (dI (gF (aB 6 (lE (eT eS)) e X9)) (dI (bw 1 (eT eS) c l X9) (gJ (jU (bw 0 eS b m X9) (BC 0)) bM)))))))) (bO (gY .rt (sI (.bl false) eB false X9) (λ_=>X9) λ_=>X9)) (cQ (bO (qF (XE (d8 (Hk () (aB 7 (zE eI) j X9) (aB 9 (zE eI) n X9))) (wA (DW (As gn (gJ (aB 13 (zE eI) a X9) (dI (qD (aB 10 (zE (eL (eT eS))) i X9)) (dI (qD (aB 11 (zE (eL (eT eS))) g X9)) (gJ (aB 12 (zE eS) h X9) bM)))))))) (bO (gY .rt (sI (.bl false) eB false X9) (λ_=>X9) λ_=>X9)) (cQ (cQ (cu (.nx gl) X9))))))))))))))
def c7(a:An)(h:O An)(d:O An)(f:Int):Bool:=(if(decide (a=([]:An)))=true then true else(let g:=(aR d (at' a 0));(let o:=(dW (d++[[("zzzzzzz":AK)]]));(let j:=(dW (g++[[("zzzzzzz":AK)]]));(let b:=(f%(a.length:Int));(let q:=(1+((f / (a.length:Int))%(if((a.length:Int)-1)>1 then((a.length:Int)-1)else 1)));(let c:=((b+q)%(a.length:Int));(let y2:=(aR h (at' a b));let p:=(aR d (at' a c));let n:=y2;let l:=p;(let m:=(if Ko (at' a c) (at' a b)=true then(at' a c)else(at' a b));(BO (lK (λ(e:Unit) (i:Int)=>((cH a h g o j b c n l m e i):j6 (Unit) Bool)) (rng 0 (kN 3)) gl) (λr=>r) λe:Unit=>true))))))))))
def dh(a:An)(h:O An)(d:O An)(o:Int):Prop:=((decide (a=([]:An)))=false->((In a.length 0/\(gk d (at' a 0)))/\(let e:=(aR d (at' a 0));((GC (d.length+[[("zzzzzzz":AK)]].length)/\((d++[[("zzzzzzz":AK)]]).length<64/\∀x∈(d++[[("zzzzzzz":AK)]]),x.isEmpty=false))/\(let n:=(dW (d++[[("zzzzzzz":AK)]]));((GC (e.length+[[("zzzzzzz":AK)]].length)/\((e++[[("zzzzzzz":AK)]]).length<64/\∀x∈(e++[[("zzzzzzz":AK)]]),x.isEmpty=false))/\(let i:=(dW (e++[[("zzzzzzz":AK)]]));(0<(a.length:Int)/\(let b:=(o%(a.length:Int));(((0<(a.length:Int)/\(a.length:Int)<1073741824)/\0<(if((a.length:Int)-1)>1 then((a.length:Int)-1)else 1))/\(let q:=(1+((o / (a.length:Int))%(if((a.length:Int)-1)>1 then((a.length:Int)-1)else 1)));(0<(a.length:Int)/\(let c:=((b+q)%(a.length:Int));(((In a.length b/\(gk h (at' a b)))/\(In a.length c/\(gk d (at' a c))))/\(let y2:=(aR h (at' a b));let p:=(aR d (at' a c));let m:=y2;let j:=p;((In a.length b/\In a.length c)/\(let l:=(if Ko (at' a c) (at' a b)=true then(at' a c)else(at' a b));(uI (λ(f:Unit) (g:Int)=>((cH a h e n i b c m j l f g):j6 (Unit) Bool)) (λ(f:Unit) (g:Int)=>Z (fJ a h e n i b c m j l f g)) (rng 0 (kN 3)) gl/\(yH (lK (λ(f:Unit) (g:Int)=>((cH a h e n i b c m j l f g):j6 (Unit) Bool)) (rng 0 (kN 3)) gl) λf:Unit=>True)))))))))))))))))))
theorem w6(a:An)(b:Lp bL (a.map eS))(g:O An)(s:Lp b_1 (g.map (eT eS)))(d:O An)(i:Lp mV (d.map (eT eS)))(c:Int):RP gP [Z bL,Z b_1,Z mV,Z (zE eI c),U,U,U,U,U,U,U,U,U,U] (λr=>Ap.rt (zE eB r)) (c7 a g d c) (Z (dh a g d c)):=R.tp (qF (d8 (MW () (bw 0 eS a b X9) (iw (oY (jg eS) (ZU X9))))) (bO (gY (λr=>r) (sI (.bl true) eB true X9) (λ_=>X9) λ_=>X9)) (cQ (bV 4 (As pX (dI (bw 2 (eT eS) d i X9) (gJ (jU (bw 0 eS a b X9) (BC 0)) bM))) (λ_=>X9) λj=>(bV 5 (yI (iw (DY (bw 2 (eT eS) d i X9) (iw (oY (jH (Zb (jH (Wh "zzzzzzz") (jg eS)) (ZU X9)) (jg (eT eS))) (ZU X9)))))) (λ_=>X9) λq=>(bV 6 (yI (iw (DY (gF (aB 4 (lE (eT eS)) j X9)) (iw (oY (jH (Zb (jH (Wh "zzzzzzz") (jg eS)) (ZU X9)) (jg (eT eS))) (ZU X9)))))) (λ_=>X9) λm=>(bV 7 (yE (aB 3 (zE eI) c X9) (BE (bw 0 eS a b X9))) (λ_=>X9) λe=>(bV 8 (lC (BC 1) (yE (Rk (aB 3 (zE eI) c X9) (BE (bw 0 eS a b X9))) (Zh (BC 1) (bb (BE (bw 0 eS a b X9)) (BC 1))))) (λ_=>X9) λl=>(bV 9 (yE (lC (aB 7 (zE eI) e X9) (aB 8 (zE eI) l X9)) (BE (bw 0 eS a b X9))) (λ_=>X9) λf=>(bi 10 11 (GY (As pX (dI (bw 1 (eT eS) g s X9) (gJ (jU (bw 0 eS a b X9) (aB 7 (zE eI) e X9)) bM)))) (GY (As pX (dI (bw 2 (eT eS) d i X9) (gJ (jU (bw 0 eS a b X9) (aB 9 (zE eI) f X9)) bM)))) λp n=>(bV 12 (Zq (jU (bw 0 eS a b X9) (aB 7 (zE eI) e X9)) (jU (bw 0 eS a b X9) (aB 9 (zE eI) f X9))) (λ_=>X9) λo=>(Zj (λh:Unit=>[Z bL,Z b_1,Z mV,Z (zE eI c),Z ((oE (eT eS)) j),Z ((oE (eT eS)) q),Z ((oE (eT eS)) m),Z (zE eI e),Z (zE eI l),Z (zE eI f),Z ((zE (eL (eT eS))) p),Z ((zE (eL (eT eS))) n),Z (zE eS o),U]) gl X9 (Zo 3 3 X9 (by unfold Rg;decide)) _ (λ_ _=>X9) (λ(h:Unit) (t:Int)=>((tD a b g s d i c j q m e l f p n o h t).r:R _ _ (cC (λh:Unit=>[Z bL,Z b_1,Z mV,Z (zE eI c),Z ((oE (eT eS)) j),Z ((oE (eT eS)) q),Z ((oE (eT eS)) m),Z (zE eI e),Z (zE eI l),Z (zE eI f),Z ((zE (eL (eT eS))) p),Z ((zE (eL (eT eS))) n),Z (zE eS o),U]) (zE eB)))) (λr=>r) (λ_=>X9) λh=>(gY (λr=>r) (sI (.bl true) eB true X9) (λ_=>X9) λ_=>X9))))))))))))
theorem xq:∀v bs,(aL eS (aL (eT eS) (aL (eT eS) (aZ eI aN)))) v bs->bs.length=4/\(hold (Z (dh v.1 v.2.1 v.2.2.1 v.2.2.2.1))->gQ (bs.map lend)=Z ((zE eB) (c7 v.1 v.2.1 v.2.2.1 v.2.2.2.1))):=by
 rintro⟨b,f,i,a,_⟩ _ ⟨bL,_,rfl,e,⟨b_1,_,rfl,d,⟨mV,_,rfl,c,⟨_,rfl,rfl⟩⟩⟩⟩;exact⟨rfl,λh=>dX (g:=gP) (n:=14) (bs:=[lend bL,lend b_1,lend mV,.z (eI a)]) (w6 b (dj e) f (dj d) i (dj c) a) h⟩
def oJ(d:BF)(e:Unit)(c:Int):j6 (Unit) Bool:=(let q2:=(nA d (3*c));(let b:=(nC q2.1 q2.2.1 q2.2.2);(let a:=(dH q2.2.1 q2.2.2);(if((!true)||(!decide (a=b)))=true then(j6.rt false)else(let a:=(a.map Z++[U]);(if((!decide ((dH q2.2.1 q2.2.2)=b))||(!decide (a=(b.map Z++[U]))))=true then(j6.rt false)else(if(!(c7 q2.1 q2.2.1 q2.2.2 (at' (bD (bG d (3*c)) 12) 8)))=true then(j6.rt false)else(j6.nx gl))))))))
def uY(b:BF)(e:Unit)(a:Int):Prop:=((qJ b (3*a))/\(let q2:=(nA b (3*a));((qK q2.1 q2.2.1 q2.2.2)/\(let c:=(nC q2.1 q2.2.1 q2.2.2);((iT q2.2.1 q2.2.2)/\(let d:=(dH q2.2.1 q2.2.2);(((!true)||(!decide (d=c)))=false->(GC d.length/\(let d:=(d.map Z++[U]);(((iT q2.2.1 q2.2.2)/\((!decide ((dH q2.2.1 q2.2.2)=c))=false->GC (c.length+1)))/\(((!decide ((dH q2.2.1 q2.2.2)=c))||(!decide (d=(c.map Z++[U]))))=false->((((iM b (3*a))/\(gj (bG b (3*a)) 12))/\In (bD (bG b (3*a)) 12).length 8)/\(dh q2.1 q2.2.1 q2.2.2 (at' (bD (bG b (3*a)) 12) 8))))))))))))))
theorem eR(c:BF)(f:Lp bL (c.map eI))(e:Unit)(a:Int):RP O1 [Z bL,Z (zE eI a),U,U,U,U,U] (cC (λe:Unit=>[Z bL,U,U,U,U,U,U]) (zE eB)) (oJ c e a) (Z (uY c e a)):=R.tp (bO (RY (As Ww (dI (bw 0 eI c f X9) (gJ (DN 3 () (aB 1 (zE eI) a X9)) bM))) _ (λ_=>X9) λq2=>(bO (bV 5 (As Wy (dI (qD (aB 2 (zE (eL eS)) q2.1 X9)) (dI (qD (aB 3 (zE (eL (eT eS))) q2.2.1 X9)) (dI (qD (aB 4 (zE (eL (eT eS))) q2.2.2 X9)) bM)))) (λ_=>X9) λd=>(bO (bV 6 (As Aq (dI (qD (aB 3 (zE (eL (eT eS))) q2.2.1 X9)) (dI (qD (aB 4 (zE (eL (eT eS))) q2.2.2 X9)) bM))) (λ_=>X9) λb=>(bO (qF (NP (wA (DW (g7 BQ (gF (aB 6 (lE vW) b X9)) true λ_=>X9))) (d8 (NK () (gF (aB 6 (lE vW) b X9)) (gF (aB 5 (lE vW) d X9))))) (bO (gY .rt (sI (.bl false) eB false X9) (λ_=>X9) λ_=>X9)) (cQ (bO (XB 6 b X9 λb=>(bO (qF (NP (d8 (NK () (iw (As Aq (dI (qD (aB 3 (zE (eL (eT eS))) q2.2.1 X9)) (dI (qD (aB 4 (zE (eL (eT eS))) q2.2.2 X9)) bM)))) (gF (aB 5 (lE vW) d X9)))) (d8 (NK () (gF (aB 6 (lE (eE vW)) b X9)) (iw (PD (gF (aB 5 (lE vW) d X9))))))) (bO (gY .rt (sI (.bl false) eB false X9) (λ_=>X9) λ_=>X9)) (cQ (bO (qF (wA (DW (As xq (dI (qD (aB 2 (zE (eL eS)) q2.1 X9)) (dI (qD (aB 3 (zE (eL (eT eS))) q2.2.1 X9)) (dI (qD (aB 4 (zE (eL (eT eS))) q2.2.2 X9)) (gJ (jU (iw (As kY (gJ (sJ (As rY (dI (bw 0 eI c f X9) (gJ (DN 3 () (aB 1 (zE eI) a X9)) bM)))) (gJ (BC 12) bM)))) (BC 8)) bM))))))) (bO (gY .rt (sI (.bl false) eB false X9) (λ_=>X9) λ_=>X9)) (cQ (cQ (cu (.nx gl) X9)))))))))))))))))))
def Pq(a:BF):Bool:=(BO (lK (λ(b:Unit) (c:Int)=>((oJ a b c):j6 (Unit) Bool)) (rng 0 (if(if(3:Int)<((a.length:Int) / (3:Int))then(3:Int)else((a.length:Int) / (3:Int)))>1 then(if(3:Int)<((a.length:Int) / (3:Int))then(3:Int)else((a.length:Int) / (3:Int)))else 1).toNat) gl) (λr=>r) λb:Unit=>true)
def Pr(a:BF):Prop:=((Rg (if(if(3:Int)<((a.length:Int) / (3:Int))then(3:Int)else((a.length:Int) / (3:Int)))>1 then(if(3:Int)<((a.length:Int) / (3:Int))then(3:Int)else((a.length:Int) / (3:Int)))else 1)/\uI (λ(b:Unit) (c:Int)=>((oJ a b c):j6 (Unit) Bool)) (λ(b:Unit) (c:Int)=>Z (uY a b c)) (rng 0 (if(if(3:Int)<((a.length:Int) / (3:Int))then(3:Int)else((a.length:Int) / (3:Int)))>1 then(if(3:Int)<((a.length:Int) / (3:Int))then(3:Int)else((a.length:Int) / (3:Int)))else 1).toNat) gl)/\(yH (lK (λ(b:Unit) (c:Int)=>((oJ a b c):j6 (Unit) Bool)) (rng 0 (if(if(3:Int)<((a.length:Int) / (3:Int))then(3:Int)else((a.length:Int) / (3:Int)))>1 then(if(3:Int)<((a.length:Int) / (3:Int))then(3:Int)else((a.length:Int) / (3:Int)))else 1).toNat) gl) λb:Unit=>True))
theorem bP(a:BF)(c:Lp bL (a.map eI)):RP U0 [Z bL,U,U,U,U,U,U] (λr=>Ap.rt (zE eB r)) (Pq a) (Z (Pr a)):=R.tp (Zj (λb:Unit=>[Z bL,U,U,U,U,U,U]) gl X9 (N5 (Zh (BC 1) (cK (lY (BE (bw 0 eI a c X9)) 3 ()) (BC 3)))) _ (λ_ _=>X9) (λ(b:Unit) (d:Int)=>((eR a c b d).r:R _ _ (cC (λb:Unit=>[Z bL,U,U,U,U,U,U]) (zE eB)))) (λr=>r) (λ_=>X9) λb=>(gY (λr=>r) (sI (.bl true) eB true X9) (λ_=>X9) λ_=>X9))
theorem MS:∀v bs,(aL eI aN) v bs->bs.length=1/\(hold (Z (Pr v.1))->F_law (bs.map lend)=Z ((zE eB) (Pq v.1))):=by
 rintro⟨a,_⟩ _ ⟨bL,_,rfl,b,rfl⟩;exact⟨rfl,λh=>dX (g:=U0) (n:=7) (bs:=[lend bL]) (bP a (dj b)) h⟩
theorem Mm(h:∀ns:O Int,ns.length<=63->Pr ns/\Pq ns=true):(∀ns:O Int,ns.length<=63->F_law [.z (.lst (ns.map .int))]=Z (.z (.bl true)))/\∀ns:O Int,ns.length<=63->F_law [.l (ns.map .int)]=Z (.z (.bl true)):=
 ⟨λns a=>((MS (ns,gl) [.z (.lst (ns.map .int))] ⟨_,_,rfl,rfl,rfl⟩).2 (h ns a).1).trans (by rw[(h ns a).2]),λns a=>((MS (ns,gl) [.l (ns.map .int)] ⟨_,_,rfl,rfl,rfl⟩).2 (h ns a).1).trans (by rw[(h ns a).2])⟩
end
theorem Lj(a:O Int)(k:Int)(h0:0<=k)(h1:k<=1000):iM a k:=by
 unfold iM;exact⟨λh=>BB h0 (by simpa using h),λ_=>MX h0 ()⟩
theorem bE(k:Nat)(s:Int×O Int×Int)(hk:k<1000)(h:(0<=s.1/\s.1<1999999973)/\s.2.1.length=k/\(∀x∈s.2.1,0<=x)/\0<=s.2.2):iZ s k/\(0<=(cF s k).1/\(cF s k).1<1999999973)/\(cF s k).2.1.length=k+1/\(∀x∈(cF s k).2.1,0<=x)/\0<=(cF s k).2.2:=by
 obtain⟨h1,h2,b,c⟩:=h;have a:In 2 (if(decide ((0:Int)<s.2.2))=true then(1:Int)else 0):=by split<;>exact BB () ()
 refine⟨⟨MX h1.1 (),a,?_⟩,lD _ (),?_,?_,Int.ediv_nonneg c ()⟩
 ·show s.2.1.length<=1000000;omega
 ·show(s.2.1++[_]).length=k+1;rw[Zp,h2];rfl
 ·intro x hx;rcases List.mem_append.mp hx with hx|hx
  ·exact b x hx
  ·cases bN.mp hx;have:=Kz (xs:=[((((s.1*((s.1%65521)+40487))+(7*k))+5)%1999999973),(s.2.2%1000000)]) a;simp only[js,ke,or_false]at this;rcases this with e|e<;>rw[e]
   ·exact(lD _ ()).1
   ·exact(lD _ ()).1
theorem Ln(c m:Int)(h0:0<=m)(h1:m<=1000):gj c m/\(bD c m).length=m.toNat/\∀x∈bD c m,0<=x:=by
 have d:∀st a:Int,(0<=st/\st<1999999973)->0<=a->j8 c m [] st a/\(jc c m [] st a).length=m.toNat/\∀x∈jc c m [] st a,0<=x:=λst a hs b=>by
  have:=Ob (P:=λs k=>Z (iZ s k)) (λk s=>(0<=s.1/\s.1<1999999973)/\s.2.1.length=k/\(∀x∈s.2.1,0<=x)/\0<=s.2.2) (step:=λs k=>cF s k) m.toNat (st,[],a) ⟨hs,rfl,λx h=>(by cases h),b⟩ λk s hk h=>bE k s () h;exact⟨⟨Oc h0 (),this.1⟩,this.2.2.1,this.2.2.2.1⟩
 refine d _ _ (lD _ ()) ?_;dsimp only;split<;>(try split)<;>omega
theorem vQ{m:O (AK×α)}:has m x=true↔x∈m.map (·.1):=by
 unfold has;rw[kg,cc];constructor
 ·rintro⟨q,a,h⟩;exact⟨q,a,QP h⟩
 ·rintro⟨q,a,h⟩;exact⟨q,a,qS h⟩
theorem Pu[Inhabited α]{a AT:O (AK×α)}{n:AK}{h:α}(c:n∉a.map (·.1)):look (a++(n,h)::AT) n=h:=by
 unfold look;have:a.find? (λq=>decide (q.1=n))=U:=eH.mpr λq b e=>c (cc.mpr ⟨q,b,QP e⟩);rw[List.find?_append,this];simp
theorem aw{a AT:O (AK×α)}{n:AK}{h v:α}(f:n∉a.map (·.1))(c:n∉AT.map (·.1)):put (a++(n,h)::AT) n v=a++(n,v)::AT:=by
 unfold put;rw[zk (vQ.mpr (by simp))];have b:∀l:O (AK×α),n∉l.map (·.1)->l.map (λq=>if q.1=n then(q.1,v)else q)=l:=λl g=>by
  conv=>rhs;rw[<-jV l]
  refine qA λq d=>?_;rw[zw λe=>g (cc.mpr ⟨q,d,e⟩)];rfl
 rw[ZN,zr,b a f,b AT c];simp
theorem Wz[Inhabited α]{m:O (AK×α)}(h:x∈m.map (·.1)):(x,look m x)∈m:=by
 unfold look;cases a:m.find? λq=>decide (q.1=x)with
 |none=>
  obtain⟨q,b,rfl⟩:=cc.mp h;have:=eH.mp a q b;simp at this
 |some q=>
  have h1:=me a;have h2:q.1=x:=by simpa using List.find?_some a
  show(x,q.2)∈m;rw[<-h2];exact h1
theorem Lq[Inhabited α]{m:O (AK×α)}(a:(m.map (·.1)).Nodup){q:AK×α}(h:q∈m):look m q.1=q.2:=by
 obtain⟨b,AT,rfl⟩:=kG h;have:q.1∉b.map (·.1):=λe=>by
  rw[ZN,zr,Jn]at a;exact a.2.2 _ e _ (zg ..) rfl
 exact Pu this
def mn(one other:AK):AK:=if Ko other one=true then other else one
def jn(one other h:AK):AK:=if h=one\/h=other then mn one other else h
theorem Px(a b:AK):mn a b=a\/mn a b=b:=by unfold mn;split;exact .inr rfl;exact .inl rfl
def jm(m:O (AK×AK))(one other:AK):O (AK×AK):=m.map λq=>(q.1,jn one other q.2)
theorem U5(m:O (AK×AK))(one other:AK):(jm m one other).map (·.1)=m.map (·.1):=by unfold jm;rw[ZY];rfl
theorem UT{one other:AK}(a:(m.map (·.1)).Nodup)(h:x∈m.map (·.1)):look (jm m one other) x=jn one other (look m x):=by
 have h1:=Wz h;have:(x,jn one other (look m x))∈jm m one other:=cc.mpr ⟨_,h1,rfl⟩;exact Lq (by rw[U5];exact a) this
theorem C4(one other:AK):∀(b a:O (AK×AK)),((a++b).map (·.1)).Nodup->(a++b).length<1000 →
  mj (λ(c:(O (AK×AK))) (name:AK)=>(cY one other (mn one other) c name)) (λ(c:(O (AK×AK))) (name:AK)=>Z (lU one other (mn one other) c name)) (b.map (·.1)) (a++b) ∧
  (b.map (·.1)).foldl (λ(c:(O (AK×AK))) (name:AK)=>(cY one other (mn one other) c name)) (a++b)=a++jm b one other
 |[],a,_,_=>⟨trivial,rfl⟩
 |(n,h)::AT,a,nd,hl=>by
  have g:n∉a.map (·.1):=λe=>by
   rw[ZN,zr,Jn]at nd;exact nd.2.2 _ e _ (zg ..) rfl
  have i:n∉AT.map (·.1):=by
   rw[ZN,zr,Jn,cT]at nd;exact nd.2.1.1
  have f:has (a++(n,h)::AT) n=true:=vQ.mpr (by simp);have e:cY one other (mn one other) (a++(n,h)::AT) n=a++(n,jn one other h)::AT:=by
   unfold cY;dsimp only;rw[Pu g];unfold jn;by_cases q:h=one\/h=other
   ·rw[zk q,zk (by simpa using q),aw g i]
   ·rw[zw q,zw (by simpa using q)]
  have d:=C4 one other AT (a++[(n,jn one other h)]) (by simpa using nd) (by simpa using hl);rw[qq]at d;refine⟨⟨⟨⟨f,λ_=>f⟩,λ_=>hl⟩,?_⟩,?_⟩
  ·show mj _ _ _ (cY one other (mn one other) (a++(n,h)::AT) n);rw[e];exact d.1
  ·rw[zr,QA,e];rw[show a++(n,jn one other h)::AT=a++([(n,jn one other h)]++AT) by simp,d.2];unfold jm;simp
theorem dQ(one other:AK)(a:(m.map (·.1)).Nodup)(b:m.length<1000):mZ m one other/\mY m one other=jm m one other:=C4 one other m [] a b
theorem U6:∀(a m:O (AK×AK)),((m++a).map (·.1)).Nodup->a.foldl (λm q=>put m q.1 q.2) m=m++a
 |[],m,_=>by simp
 |q::a,m,nd=>by
  rw[QA];have:put m q.1 q.2=m++[q]:=by
   unfold put;rw[zw];intro e;have e:=vQ.mp e;rw[ZN,zr,Jn]at nd;exact nd.2.2 _ e _ (zg ..) rfl
  rw[this,U6 a (m++[q]) (by simpa using nd)];simp
theorem U7(n_:An)(a:n_.Nodup)(b:n_.length<1000):mX n_/\dZ n_=n_.map λn=>(n,n):=by
 refine⟨⟨b,by omega⟩,?_⟩;unfold dZ FA;rw[U6 _ [] (by rw[k7,ZY];show(n_.map id).Nodup;rw[jV];exact a)];rfl
structure Hd (n_:An) (m:List (Str×Str)):Prop where
 keys:m.map (·.1)=n_
 nd:n_.Nodup
 len:n_.length<1000
 mem:∀x∈n_,look m x∈n_
 idem:∀x∈n_,look m (look m x)=look m x
theorem Hd.kn(h:Hd n_ m):(m.map (·.1)).Nodup:=by rw[h.keys];exact h.nd
theorem Hd.ml(h:Hd n_ m):m.length<1000:=by rw[<-zi (f:=(·.1)),h.keys];exact h.len
theorem Hd.has(h:Hd n_ m)(hx:x∈n_):has m x=true:=vQ.mpr (by rw[h.keys];exact hx)
theorem Hd.lone(b:n_.Nodup)(c:n_.length<1000):Hd n_ (n_.map λn=>(n,n)):=by
 have k:(n_.map λn=>(n,n)).map (·.1)=n_:=by rw[ZY];show n_.map id=n_;rw[jV]
 have a:∀x∈n_,look (n_.map λn=>(n,n)) x=x:=λx hx=>Lq (q:=(x,x)) (by rw[k];exact b) (cc.mpr ⟨x,hx,rfl⟩);exact⟨k,b,c,λx hx=>by rw[a x hx];exact hx,λx hx=>by rw[a x hx,a x hx]⟩
theorem zW(a:n_.Nodup)(hx:x∈n_):look (n_.map λn=>(n,n)) x=x:=
 Lq (q:=(x,x)) (by rw[ZY];show(n_.map id).Nodup;rw[jV];exact a) (cc.mpr ⟨x,hx,rfl⟩)
theorem Hd.wK(h:Hd n_ m){one other:AK}(hx:x∈n_):look (jm m one other) x=jn one other (look m x):=UT h.kn (by rw[h.keys];exact hx)
theorem Hd.join(h:Hd n_ m){a b:AK}(d:a∈n_)(c:b∈n_):Hd n_ (jm m (look m a) (look m b)):=by
 have g:=h.mem a d;have m2:=h.mem b c;refine⟨(U5 _ _ _).trans h.keys,h.nd,h.len,λx hx=>?_,λx hx=>?_⟩
 ·rw[h.wK hx];unfold jn;split
  ·rcases Px (look m a) (look m b)with e|e<;>rw[e]<;>assumption
  ·exact h.mem x hx
 ·have f:jn (look m a) (look m b) (look m x)∈n_:=by
   unfold jn;split
   ·rcases Px (look m a) (look m b)with e|e<;>rw[e]<;>assumption
   ·exact h.mem x hx
  rw[h.wK hx,h.wK f];unfold jn;by_cases q:look m x=look m a\/look m x=look m b
  ·rw[zk q];rcases Px (look m a) (look m b)with e|e
   ·rw[e,h.idem a d,zk (.inl X9)]
   ·rw[e,h.idem b c,zk (.inr X9)]
  ·rw[zw q,h.idem x hx,zw q]
def jz(n_:An)(m:O (AK×AK)):An:=n_.filter λx=>decide (look m x=x)
theorem eC(h:Hd n_ m):m5 m/\(d7 m).length=(jz n_ m).length:=by
 have b:=h.len;refine⟨⟨by rw[h.keys];omega,λx hx=>⟨vQ.mpr hx,λ_=>⟨by rw[h.keys];omega,λy a=>vQ.mpr a⟩⟩⟩,?_⟩;unfold d7 jz;rw[zi,h.keys]
theorem qL(a:AK):oK a a:=by unfold oK;rw[ltCps_eq];simp
theorem Jp{a b c:AK}(h:oK a b)(h':oK b c):oK a c:=by
 unfold oK at *
 rw[ltCps_eq]at *
 simp only[QO]at *
 exact mP (α:=Nat) h h'
theorem Jq(a b:AK):oK a b\/oK b a:=by
 unfold oK;rw[ltCps_eq,ltCps_eq];simp only[QO];exact List.le_total a.cps.toList b.cps.toList
structure HC (N:An) (C:List An) (m:List (Str×Str)):Prop where
 hd:Hd N m
 one:∀c∈C,∀x∈c,∀y∈c,look m x=look m y
 least:∀P:Str->Prop,(∀c∈C,∀x∈c,∀y∈c,P x->P y)->∀x∈N,∀y∈N,look m x=look m y->P x->P y
 low:∀x∈N,oK (look m x) x
theorem HC.mem{C b:O An}(h:HC N C m)(e:∀c,c∈b↔c∈C):HC N b m:=
 ⟨h.hd,λc a=>h.one c ((e c).mp a),λP d=>h.least P λc a=>d c ((e c).mpr a),h.low⟩
structure D1 (N:An) (C:List An):Prop where
 ne:∀c∈C,c≠[]
 sub:∀c∈C,∀x∈c,x∈N
def EE(N:An)(C:O An)(m:O (AK×AK)):Prop:=(∀x∈N,oK (look m x) x)/\∀P:AK->Prop,(∀c∈C,∀x∈c,∀y∈c,P x->P y)->∀x∈N,∀y∈N,look m x=look m y->P x->P y
section
variable{C:O An}
theorem fT{a b:AK}(h:oK a x):oK (mn a b) x:=by
 unfold mn;split
 ·rename_i q;exact Jp ((BT _ _).mp q).1 h
 ·exact h
theorem bc{a b:AK}(h:oK b x):oK (mn a b) x:=by
 unfold mn;split
 ·exact h
 ·rename_i q;refine Jp ?_ h;rcases Jq a b with e|e
  ·exact e
  ·by_cases z:b=a
   ·rw[z];exact qL _
   ·exact absurd ((BT _ _).mpr ⟨e,z⟩) q
theorem EE.join(h:Hd N m)(l:EE N C m){c:An}{a b:AK}(o:c∈C)(p:a∈c)(n:b∈c)(aN:a∈N)(s:b∈N):EE N C (jm m (look m a) (look m b)):=by
 refine⟨λx hx=>?_,?_⟩
 ·rw[h.wK hx];unfold jn;split
  ·rename_i q;have i:=l.1 x hx;rcases q with q|q
   ·rw[q]at i;exact fT i
   ·rw[q]at i;exact bc i
  ·exact l.1 x hx
 intro P j x hx y g e px;rw[h.wK hx,h.wK g]at e;have l:=l.2 P j;have u:P a->P b:=j c o a p b n;have t:P b->P a:=j c o b n a p;unfold jn at e;by_cases f:look m x=look m a\/look m x=look m b
 ·by_cases d:look m y=look m a\/look m y=look m b
  ·have pa:P a:=by
    rcases f with q|q
    ·exact l x hx a aN q px
    ·exact t (l x hx b s q px)
   rcases d with q|q
   ·exact l a aN y g q.symm pa
   ·exact l b s y g q.symm (u pa)
  ·rw[zk f,zw d]at e;rcases Px (look m a) (look m b)with z|z
   ·exact absurd (.inl (e.symm.trans z)) d
   ·exact absurd (.inr (e.symm.trans z)) d
 ·by_cases d:look m y=look m a\/look m y=look m b
  ·rw[zw f,zk d]at e;rcases Px (look m a) (look m b)with z|z
   ·exact absurd (.inl (e.trans z)) f
   ·exact absurd (.inr (e.trans z)) f
  ·rw[zw f,zw d]at e;exact l x hx y g e px
theorem ck(a b:AK):jn a b a=jn a b b:=by unfold jn;rw[zk (.inl X9),zk (.inr X9)]
theorem DU{r:An}:at' (x::r) (0:Int)=x:=zM (k:=0) rfl
theorem Db{c:An}(h:c≠[]):In c.length 0/\at' c 0∈c:=by
 cases c with
 |nil=>exact absurd X9 h
 |cons x r=>exact⟨⟨by omega,by simp⟩,by rw[DU];exact zg⟩
theorem U8(K:D1 N C){c:An}(b:c∈C):∀(ts:An) (m:O (AK×AK)),(∀t∈ts,t∈c)->Hd N m->EE N C m →
  mj (λ(f:O (AK×AK)) (g:AK)=>fG c f g) (λ(f:O (AK×AK)) (g:AK)=>Z (oH c f g)) ts m/\∃a,ts.foldl (λ(f:O (AK×AK)) (g:AK)=>fG c f g) m=a/\Hd N a/\EE N C a/\(∀x∈N,∀y∈N,look m x=look m y->look a x=look a y)/\∀t∈ts,look a t=look a (at' c 0)
 |[],m,_,h,l=>⟨trivial,m,rfl,h,l,λ_ _ _ _ e=>e,λ_ h=>by cases h⟩
 |t::ts,m,hts,h,l=>by
  obtain⟨w,c0⟩:=Db (K.ne c b);have tc:=hts t zg;have i:=K.sub c b t tc;have j:=K.sub c b _ c0;obtain⟨d,e⟩:=dQ (m:=m) (look m (at' c 0)) (look m t) h.kn h.ml;have es:fG c m t=jm m (look m (at' c 0)) (look m t):=e;obtain⟨d2,a,e2,h2,s,o,z⟩:=U8 K b ts (jm m (look m (at' c 0)) (look m t)) (λt p=>hts t (zh _ p)) (h.join j i) (l.join h b c0 tc j i);refine⟨⟨⟨⟨⟨w,h.has j⟩,h.has i⟩,d⟩,by show mj _ _ ts (fG c m t);rw[es];exact d2⟩,a,by rw[QA,es];exact e2,h2,s,λx hx y n e=>o x hx y n (by rw[h.wK hx,h.wK n,e]),λu v=>?_⟩;rcases List.mem_cons.mp v with q|q
  ·rw[q];exact o t i _ j (by rw[h.wK i,h.wK j];exact(ck _ _).symm)
  ·exact z u q
theorem CB(K:D1 N C):∀(cs:O An) (m:O (AK×AK)),(∀c∈cs,c∈C)->Hd N m->EE N C m →
  mj (λ(d:O (AK×AK)) (vs:An)=>cJ d vs) (λ(d:O (AK×AK)) (vs:An)=>Z (jR d vs)) cs m/\∃a,cs.foldl (λ(d:O (AK×AK)) (vs:An)=>cJ d vs) m=a/\Hd N a/\EE N C a/\(∀x∈N,∀y∈N,look m x=look m y->look a x=look a y)/\∀c∈cs,∀t∈c,look a t=look a (at' c 0)
 |[],m,_,h,l=>⟨trivial,m,rfl,h,l,λ_ _ _ _ e=>e,λ_ h=>by cases h⟩
 |c::cs,m,hcs,h,l=>by
  have b:=hcs c zg;obtain⟨w,g,e1,h1,s,n,u⟩:=U8 K b c m (λ_ h=>h) h l;obtain⟨d2,a,e2,h2,o,j,v⟩:=CB K cs g (λc b=>hcs c (zh _ b)) h1 s;have es:cJ m c=g:=e1;refine⟨⟨w,by show mj _ _ cs (cJ m c);rw[es];exact d2⟩,a,by rw[QA,es];exact e2,h2,o,λx hx y i e=>j x hx y i (n x hx y i e),λc' p t f=>?_⟩;rcases List.mem_cons.mp p with q|q
  ·subst q;exact j t (K.sub _ b t f) _ (K.sub _ b _ (Db (K.ne _ b)).2) (u t f)
  ·exact v c' q t f
theorem WD(K:D1 N C)(a:N.Nodup)(i:N.length<1000):mj (λ(b:O (AK×AK)) (vs:An)=>cJ b vs) (λ(b:O (AK×AK)) (vs:An)=>Z (jR b vs)) C (dZ N)/\HC N C (C.foldl (λ(b:O (AK×AK)) (vs:An)=>cJ b vs) (dZ N)):=by
 rw[(U7 N a i).2];obtain⟨d,j,e,h,l,_,r⟩:=CB K C _ (λ_ h=>h) (Hd.lone a i) ⟨λx hx=>by rw[zW a hx];exact qL x,λP _ x hx y f e px=>by
  rw[zW a hx,zW a f]at e;rw[<-e];exact px⟩
 rw[e];exact⟨d,h,λc g x hx y f=>(r c g x hx).trans (r c g y f).symm,l.2,l.1⟩
end
def Hj(m:O (AK×AK))(A:O An)(v:AK):O An:=A.filter λc=>decide (look m (at' c 0)=v)
theorem pI(h:n<=100000):GC n:=Zl h ()
section
variable{A B:O An}{d:AK}
structure Gq (N:An) (m:List (Str×Str)) (d:Str) (g:An):Prop where
 dm:d∈g
 nd:g.Nodup
 in_:∀y∈g,y∈N/\look m y=look m d
def HH(C:O An)(g:An):Prop:=∀c∈C,(∃x∈c,x∈g)->∀y∈c,y∈g
theorem Gq.len{g:An}(q:Gq N m d g):g.length<=N.length:=wU q.nd λx hx=>(q.in_ x hx).1
theorem MR{c g:An}:((c.map λd:AK=>(decide (d∈g))).any id)=true↔∃x∈c,x∈g:=by
 rw[kg];constructor
 ·rintro⟨b,a,e⟩;obtain⟨x,hx,rfl⟩:=cc.mp a;exact⟨x,hx,QP e⟩
 ·rintro⟨x,hx,f⟩;exact⟨_,cc.mpr ⟨x,hx,rfl⟩,qS f⟩
theorem Gq.b3(h:HC N (A++B) m)(K:D1 N (A++B))(kn:∀c∈A++B,c.Nodup)(s:N.length<60){g c:An}(q:Gq N m d g)(f:c∈A++B):
  gZ g c/\Gq N m d (cg g c)/\g.length<=(cg g c).length/\((cg g c).length=g.length->cg g c=g/\((∃x∈c,x∈g)->∀y∈c,y∈g)):=by
 have cl:=wU (kn c f) (K.sub c f);have t:=q.len;have fl:(c.filter λj:AK=>(!decide (j∈g))).length<=c.length:=QI ..;unfold gZ cg;dsimp only;rw[Kx];refine⟨⟨by omega,λ_=>⟨by omega,pI ()⟩⟩,?_⟩;split
 ·rename_i e;obtain⟨x,hx,p⟩:=MR.mp e;refine⟨⟨Q2 _ q.dm,List.nodup_append.mpr ⟨q.nd,(kn c f).sublist y4,λa o b n z=>?_⟩,λy i=>?_⟩,by rw[Zp];omega,λe=>?_⟩
  ·have:=(cD.mp n).2;rw[<-z]at this;simp[o]at this
  ·rcases List.mem_append.mp i with z|z
   ·exact q.in_ y z
   ·have l:=(cD.mp z).1;exact⟨K.sub c f y l,(h.one c f y l x hx).trans (q.in_ x p).2⟩
  ·rw[Zp]at e;have e0:c.filter (λj:AK=>(!decide (j∈g)))=[]:=dd.mp ();refine⟨by rw[e0,Qb],λ_ y i=>?_⟩;have:=List.filter_eq_nil_iff.mp e0 y i;simpa using this
 ·rename_i e;exact⟨q,zl _,λ_=>⟨rfl,λz=>absurd (MR.mpr z) e⟩⟩
theorem Gq.pass(h:HC N (A++B) m)(K:D1 N (A++B))(kn:∀c∈A++B,c.Nodup)(i:N.length<60):∀(cs:O An) {g:An},(∀c∈cs,c∈A++B)->Gq N m d g →
  mj (λ(b:An) (a:An)=>cg b a) (λ(b:An) (a:An)=>Z (gZ b a)) cs g/\∃g',cs.foldl (λ(b:An) (a:An)=>cg b a) g=g'/\Gq N m d g'/\g.length<=g'.length/\(g'.length=g.length->g'=g/\HH cs g)
 |[],g,_,q=>⟨trivial,g,rfl,q,zl _,λ_=>⟨rfl,λ_ h=>by cases h⟩⟩
 |c::cs,g,hcs,q=>by
  obtain⟨s,q1,o,e1⟩:=q.b3 h K kn i (hcs c zg);obtain⟨d2,g',e2,q2,j,p⟩:=Gq.pass h K kn i cs (λc n=>hcs c (zh _ n)) q1;refine⟨⟨s,d2⟩,g',by rw[QA];exact e2,q2,Zl o j,λe=>?_⟩;obtain⟨z1,z2⟩:=e1 ();obtain⟨z3,f⟩:=p ();rw[z1]at z3 f;refine⟨z3,λc' l=>?_⟩;rcases List.mem_cons.mp l with w|w
  ·rw[w];exact z2
  ·exact f c' w
abbrev PZ:=Int×An
abbrev U9:PZ->Bool:=λa:Int×An=>(decide (a.1<(a.2.length:Int)))
theorem Gq.wh(h:HC N (A++B) m)(K:D1 N (A++B))(kn:∀c∈A++B,c.Nodup)(i:N.length<60)(o:A.length+B.length<=1000):∀(n k:Nat) (g:An),Gq N m d g->k<=g.length->(k=g.length->HH (A++B) g)->N.length+2<=n+k →
  EB U9 (λa:Int×An=>U) (λa:Int×An=>((cL A B a):j6 (Int×An) (O An))) (λa:Int×An=>Z (lQ A B a)) n ((k:Int),g)/\∃f g',Rr U9 (λa:Int×An=>((cL A B a):j6 (Int×An) (O An))) n ((k:Int),g)=.nx (f,g')/\Gq N m d g'/\HH (A++B) g'
 |0,k,g,q,hk,_,hn=>by have:=q.len;omega
 |n+1,k,g,q,hk,hs,hn=>by
  unfold EB Rr;by_cases c:k<g.length
  ·have b:U9 ((k:Int),g)=true:=qS (by show(k:Int)<(g.length:Int);omega);obtain⟨p,g',e1,q1,l,a⟩:=Gq.pass h K kn i (A++B) (λ_ h=>h) q;have es:(cL A B ((k:Int),g):j6 (Int×An) (O An))=.nx ((g.length:Int),g'):=by
    unfold cL;dsimp only;rw[e1]
   obtain⟨d2,f,j,e2,r⟩:=Gq.wh h K kn i o n g.length g' q1 l (λe=>by obtain⟨z1,z2⟩:=a e.symm;rw[z1];exact z2) ();rw[zk b,es];exact⟨⟨trivial,λ_=>⟨⟨pI (),p⟩,d2⟩⟩,f,j,e2,r⟩
  ·have b:¬ U9 ((k:Int),g)=true:=λz=>c (by have:(k:Int)<(g.length:Int):=QP z;omega);rw[zw b];exact⟨⟨trivial,λz=>absurd z b⟩,_,_,rfl,q,hs ()⟩
def cls(N:An)(m:O (AK×AK))(v:AK):An:=N.filter λy=>decide (look m y=v)
theorem Fd.all(h:HC N (A++B) m)(K:D1 N (A++B))(kn:∀c∈A++B,c.Nodup)(u:N.length<60)(t:A.length+B.length<=1000)(o:N.Pairwise oK):∀(xs f:An),N=f++xs →
  uI (λ(p:O An) (n:AK)=>((bT A B p n):j6 ((O An)) (O An))) (λ(p:O An) (n:AK)=>Z (lR A B p n)) xs ((jz f m).map (cls N m))/\lK (λ(p:O An) (n:AK)=>((bT A B p n):j6 ((O An)) (O An))) xs ((jz f m).map (cls N m))=.nx ((jz N m).map (cls N m))
 |[],f,e=>by
  rw[Qb]at e;subst e;exact⟨trivial,rfl⟩
 |x::xs,f,eN=>by
  have l:x∈N:=by rw[eN];exact Zs _ zg
  have E:N=(f++[x])++xs:=by rw[qq];exact eN
  have w:=h.hd.nd;have fl:((jz f m).map (cls N m)).length<=N.length:=by
   rw[zi];refine Zl (QI ..) ?_;rw[eN,Zp];omega
  have ea:((((jz f m).map (cls N m)).map λi:An=>(decide (x∈i))).any id)=true↔look m x∈f:=by
   rw[kg];constructor
   ·rintro⟨b,s,e⟩;obtain⟨g,L,rfl⟩:=cc.mp s;obtain⟨v,Q,rfl⟩:=cc.mp L;have e1:=cD.mp (QP e:x∈cls N m v);rw[QP e1.2];exact(cD.mp Q).1
   ·intro e;refine⟨_,cc.mpr ⟨cls N m (look m x),cc.mpr ⟨look m x,cD.mpr ⟨e,qS (h.hd.idem x l)⟩,rfl⟩,rfl⟩,qS (cD.mpr ⟨l,qS rfl⟩)⟩
  unfold uI lK;by_cases c:look m x∈f
  ·have c1:¬ (!((((jz f m).map (cls N m)).map λi:An=>(decide (x∈i))).any id))=true:=by rw[ea.mpr c];decide
   have es:(bT A B ((jz f m).map (cls N m)) x:j6 ((O An)) (O An))=.nx ((jz f m).map (cls N m)):=by
    unfold bT;rw[zw c1]
   have G:x∉f:=λz=>by
    rw[eN]at w;exact(List.nodup_append.mp w).2.2 x z x zg rfl
   have C:jz (f++[x]) m=jz f m:=by
    unfold jz;rw[YA,kM,zw (by
     intro z;rw[QP z]at c;exact G c)]
    simp
   obtain⟨d2,e2⟩:=Fd.all h K kn u t o xs (f++[x]) E;rw[C]at d2 e2;rw[es];exact⟨⟨⟨by omega,λz=>absurd z c1⟩,d2⟩,e2⟩
  ·have c1:(!((((jz f m).map (cls N m)).map λi:An=>(decide (x∈i))).any id))=true:=by
    cases e:(((jz f m).map (cls N m)).map λi:An=>(decide (x∈i))).any id with
    |true=>exact absurd (ea.mp e) c
    |false=>rfl
   have hx:look m x=x:=by
    have F:=h.hd.mem x l;have m2:look m x∈x::xs:=by
     rw[eN]at F;exact(List.mem_append.mp F).resolve_left c
    rcases List.mem_cons.mp m2 with q|q
    ·exact q
    ·rw[eN]at o;have:=(dz.mp (List.pairwise_append.mp o).2.1).1 _ q;exact yr (h.low x l) this
   obtain⟨W,J,g,e1,q1,j⟩:=Gq.wh (d:=x) h K kn u t 70 0 [x] ⟨bN.mpr rfl,xo ..,λy D=>by rw[bN.mp D];exact⟨l,rfl⟩⟩ (qi _) (λe=>by simp at e) ();have e1:Rr (λj:Int×An=>(decide (j.1<(j.2.length:Int)))) (λj:Int×An=>((cL A B j):j6 (Int×An) (O An))) 70 ((0:Int),[x])=.nx (J,g):=e1;have I:∀y∈N,y∈g↔look m y=look m x:=λy D=>⟨λz=>(q1.in_ y z).2,λe=>h.least (λz=>z∈g) (λc P a H b s pa=>j c P ⟨a,H,pa⟩ b s) x l y D e.symm q1.dm⟩;have M:bH g=cls N m x:=by
    refine yt ((aX g).trans (RQ q1.nd (w.sublist y4) λy=>?_)) (fu g) (o.sublist y4);unfold cls;rw[cD,JS];constructor
    ·exact λz=>⟨(q1.in_ y z).1,((q1.in_ y z).2).trans hx⟩
    ·exact λz=>(I y z.1).mpr (z.2.trans hx.symm)
   have es:(bT A B ((jz f m).map (cls N m)) x:j6 ((O An)) (O An))=.nx ((jz f m).map (cls N m)++[cls N m x]):=by
    unfold bT;rw[zk c1];dsimp only;rw[e1];show j6.nx (_++[bH g])=_;rw[M]
   have X:=q1.len;have C:(jz (f++[x]) m).map (cls N m)=(jz f m).map (cls N m)++[cls N m x]:=by
    unfold jz;rw[YA,kM,zk (qS hx)];simp
   obtain⟨d2,e2⟩:=Fd.all h K kn u t o xs (f++[x]) E;rw[C]at d2 e2;rw[es];refine⟨⟨⟨by omega,λ_=>⟨W,?_⟩⟩,d2⟩,e2⟩;rw[e1];exact⟨by show g.length<64;omega,pI ()⟩
theorem Hl(h:HC N (A++B) m)(K:D1 N (A++B))(kn:∀c∈A++B,c.Nodup)(f:N.length<60)(d:A.length+B.length<=1000)(g:N.Pairwise oK):jP N A B/\jd N A B=(jz N m).map (cls N m):=by
 obtain⟨i,e⟩:=Fd.all h K kn f d g N [] rfl;have e:lK (λ(b:O An) (a:AK)=>((bT A B b a):j6 ((O An)) (O An))) N []=.nx ((jz N m).map (cls N m)):=e;unfold jP jd;dsimp only;rw[e];exact⟨⟨i,trivial⟩,rfl⟩
end
theorem Va{a b:An}(h:a.Perm b):bH a=bH b:=yt ((aX a).trans (h.trans (aX b).symm)) (fu a) (fu b)
structure SL (L:List An):Prop where
 nd:L.flatten.Nodup
 ne:∀x∈L,x≠[]
 ln:L.flatten.length<60
theorem Sy:∀{L:O An},(∀x∈L,x≠[])->L.length<=L.flatten.length
 |[],_=>zl _
 |x::L,h=>by
  have:=Sy λy a=>h y (zh _ a);have hx:0<x.length:=cN.mpr (h x zg);rw[ZE,Zp,ZZ];omega
theorem SL.ll(h:SL L):L.length<60:=kl (Sy h.ne) h.ln
theorem dL{x:An}(h:x≠[]):bH x≠[]:=λe=>h (by have:=(aX x).length_eq;rw[e]at this;exact dd.mp this.symm)
theorem SJ{p:An->Bool}:∀L:O An,(L.filter p).flatten.Sublist L.flatten
 |[]=>List.Sublist.refl _
 |x::L=>by
  rw[kM,ZE];split
  ·rw[ZE];exact(SJ L).append_left x
  ·exact(SJ L).trans (List.sublist_append_right ..)
structure PN (N:An):Prop where
 nd:N.Nodup
 ln:N.length<=30
 so:bH N=N
structure PJ (N:An) (A:List An):Prop where
 W:Wd N A
 pm:A.flatten.Perm N
section
variable{A B:O An}
theorem PJ.sl(n:PN N)(a:PJ N A):SL A:=⟨a.W.nd,a.W.ne,by rw[a.pm.length_eq];have:=n.ln;omega⟩
theorem PJ.in_(a:PJ N A){c:An}(h:c∈A)(hx:x∈c):x∈N:=a.pm.mem_iff.mp (eg.mpr ⟨c,h,hx⟩)
theorem PJ.c0(a:PJ N A){c:An}(h:c∈A):at' c 0∈c/\at' c 0∈N:=⟨(Db (a.W.ne c h)).2,a.in_ h (Db (a.W.ne c h)).2⟩
theorem PJ.cls(a:PJ N A)(b:PJ N B):D1 N (A++B):=⟨λc d=>(List.mem_append.mp d).elim (a.W.ne c) (b.W.ne c),λc d x hx=>(List.mem_append.mp d).elim (λh=>a.in_ h hx) λh=>b.in_ h hx⟩
theorem PJ.kn(a:PJ N A)(b:PJ N B):∀c∈A++B,c.Nodup:=λc d=>(List.mem_append.mp d).elim (Fj a.W.nd) (Fj b.W.nd)
theorem uZ(n:PN N)(a:PJ N A):fD A/\bf A=N:=by
 have e:(A.flatMap λvs:An=>(vs.map λb:AK=>b))=A.flatten:=by
  rw[n8];simp only[Kx]
 unfold fD bf;rw[e,a.pm.length_eq];have:=n.ln;exact⟨⟨⟨λ_ _ _ _=>trivial,by omega⟩,by omega⟩,(Va a.pm).trans n.so⟩
theorem WK(N:An):vV N N=[]:=by
 refine hL.mpr λz a=>?_;rcases Fg.mp a with⟨h1,h2⟩|⟨h1,h2⟩
 ·exact h2 h1
 ·exact h1 h2
theorem WL(n:PN N)(a:PJ N A)(b:PJ N B):dG A B:=by
 obtain⟨c,e1⟩:=uZ n a;obtain⟨d2,e2⟩:=uZ n b;have z0:bH (lB ([]:An))=[]:=dd.mp (aX (lB ([]:An))).length_eq;unfold dG;dsimp only;rw[e1,e2,WK];refine⟨⟨⟨c,d2,n.ln,n.ln⟩,by decide,by decide⟩,λz=>?_⟩;rw[z0]at z;cases z
theorem UC(h:Hd N m):d7 m=(jz N m).map λz=>N.filter λy=>decide (look m y=z):=by
 unfold d7 jz;rw[h.keys];refine qA λz _=>?_;unfold kZ;rw[h.keys];exact Kx _
theorem Jr(a:PJ N A)(v:AK):((A.filter λvs:An=>(decide ((at' vs 0)∈N.filter λy=>decide (look m y=v)))).map λvs:An=>vs)=Hj m A v:=by
 rw[Kx];refine List.filter_congr λc b=>?_;refine decide_eq_decide.mpr ?_;rw[cD,JS];exact⟨λh=>h.2,λh=>⟨(a.c0 b).2,h⟩⟩
theorem WM(n:PN N)(a:PJ N A)(b:PJ N B):iT A B/\∃m,HC N (A++B) m/\dH A B=(jz N m).map λv=>(gU ((Hj m A v).length:Int) ((Hj m B v).length:Int),Hj m A v,Hj m B v):=by
 have j:=n.ln;obtain⟨f,e1⟩:=uZ n a;obtain⟨d2,d⟩:=WD (a.cls b) n.nd ();have i:=(a.sl n).ll;have g:=(b.sl n).ll;unfold iT dH;dsimp only;rw[e1];generalize (A++B).foldl _ (dZ N)=m at d ⊢;obtain⟨e,h⟩:=eC d.hd;have fl:(jz N m).length<=N.length:=QI ..;refine⟨⟨WL n a b,⟨f,(U7 N n.nd ()).1⟩,⟨pI (),d2⟩,⟨e,by omega⟩,λS _=>⟨⟨by omega,λc d=>(Db (a.W.ne c d)).1⟩,by omega,λc d=>(Db (b.W.ne c d)).1⟩⟩,m,d,?_⟩;rw[UC d.hd,ZY];refine qA λv _=>?_;show oG A B (N.filter λy=>decide (look m y=v))=_;unfold oG;dsimp only;rw[Jr a,Jr b]
theorem VV(h:HC N (A++B) m)(a:PJ N A){v:AK}:y∈(Hj m A v).flatten↔y∈N/\look m y=v:=by
 rw[eg];constructor
 ·rintro⟨c,b,d⟩;obtain⟨h1,h2⟩:=cD.mp b;exact⟨a.in_ h1 d,(h.one c (Q2 _ h1) y d _ (a.c0 h1).1).trans (QP h2)⟩
 ·rintro⟨d,e⟩;obtain⟨c,b,f⟩:=eg.mp (a.pm.mem_iff.mpr d);exact⟨c,cD.mpr ⟨b,qS ((h.one c (Q2 _ b) _ (a.c0 b).1 y f).trans e)⟩,f⟩
theorem Py(h:HC N (A++B) m)(a:PJ N A){v:AK}(b:v∈jz N m):∃o r,Hj m A v=o::r:=by
 obtain⟨h1,h2⟩:=cD.mp b;obtain⟨c,d,_⟩:=eg.mp ((VV h a).mpr ⟨h1,QP h2⟩);exact List.exists_cons_of_ne_nil (nr d)
end
theorem By{α:Type}(c:Array α):∀(n:Nat) (a:Array α),((ba n c).foldl (·++·) a).size=a.size+n*c.size
 |0,a=>by simp
 |n+1,a=>by
  rw[kb,QA,By c n,Kj,m4];omega
theorem J1(x:AK)(k:Int):(Txt.mul x k).length<=x.length*k.toNat:=by
 unfold Txt.mul;split
 ·exact qi _
 split
 ·rename_i h0 h;simp only[hH,beq_iff_eq]at h;rcases h with h|h
  ·subst h;simp
  ·rw[h];simp
 ·show(Array.size _)<=_;rw[By];have:x.cps.size=x.length:=rfl;rw[this,m6];simp
def LT:AK:=("abcdefghijklmnopqrstuvwxyz":AK)
theorem SM:LT.length=26:=by decide +kernel
theorem SN(h:n<=1000):GC n:=Zl h ()
theorem SQ(xs:O Int)(l:6<=xs.length)(b:AK)(hs:b.length<=5)(at_:Int)(k:Nat)(a:An)(hk:k<200)(h:a.length=k/\∀n∈a,n.length<=12):jN xs LT b at_ a k/\(fB xs LT b at_ a k).length=k+1/\∀n∈fB xs LT b at_ a k,n.length<=12:=by
 have i:=Zl (slice_le b U (Z at_)) hs;have j:=Zl (slice_le b (Z at_) U) hs;have c1:=zN LT ((↑k+at' xs 2)%15);have g:=lD (k:Int) (m:=8) ();have d:(0:Int)<=(k:Int) / 8/\(k:Int) / 8<26:=by omega
 refine⟨⟨⟨BB () (),Ru () (by rw[SM];decide)⟩,⟨SN (),SN (by rw[uK];omega)⟩,⟨BB () (),λ_=>⟨BB d.1 (by rw[SM];exact d.2),by omega,by omega,by rw[zN];decide⟩⟩,SN ()⟩,?_⟩;have e:∀n:AK,n.length<=12->(a++[n]).length=k+1/\∀m∈a++[n],m.length<=12:=λn f=>⟨by simp[h.1],λm c=>by
  rcases List.mem_append.mp c with c|c
  ·exact h.2 m c
  ·cases bN.mp c;exact f⟩
 unfold fB;dsimp only;split
 ·exact e _ (by have:=J1 (ch LT ((k:Int) / 8)) (1+(k:Int)%8);rw[zN]at this;exact Zl this ())
 ·exact e _ (by rw[uK,uK,c1];omega)
theorem MG(xs:An)(n:Nat)(h:∀x∈xs,x.length<=n):(Txt.join "" xs).length<=xs.length*n:=by
 have h1:=StrLaws.join_length_le ("":AK) xs;rw[<-StrLaws.glued_eq_join]at h1;have h2:(xs.map (·.length)).sum<=xs.length*n:=by
  clear h1
  induction xs with
  |nil=>simp
  |cons a l b=>
   have:=b λx hx=>h x (zh _ hx);have:=h a (zg ..);simp only[zr,List.sum_cons,ZZ,m4];omega
 have c:("":AK).length=0:=rfl;rw[c,Nat.mul_zero]at h1;exact Zl h1 ()
theorem ae(xs:An)(h:∀x∈xs,x.length=1):(xs.map (·.length)).sum=xs.length:=by
 induction xs with
 |nil=>rfl
 |cons a l b=>
  have:=b λx hx=>h x (zh _ hx);have:=h a (zg ..);simp only[zr,List.sum_cons,ZZ];omega
theorem Pt(xs:O Int)(d:6<=xs.length)(a:Int)(h0:0<=a)(h1:a<=200):pH xs a/\(cX xs a).length=a.toNat/\∀n∈cX xs a,n.length<=12:=by
 have g:=lD (at' xs 0) (m:=6) ();have st:∀b:AK,b.length<=5->oh xs a LT b/\(jO xs a LT b).length=a.toNat/\∀n∈jO xs a LT b,n.length<=12:=λb hs=>by
  have:=Ob (P:=λf k=>Z (jN xs LT b (at' xs 1%((b.length:Int)+1)) f k)) (step:=λf k=>fB xs LT b (at' xs 1%((b.length:Int)+1)) f k) (λk s=>s.length=k/\∀n∈s,n.length<=12) a.toNat [] ⟨rfl,λn h=>(by cases h)⟩ λk s hk h=>SQ xs d b hs _ k s () h;exact⟨⟨⟨BB () (),by omega⟩,Oc h0 (),this.1⟩,this.2⟩
 have c1:∀x∈((rng 0 (at' xs 0%6).toNat).map λc:Int=>ch LT (at' xs c / 40%26)),x.length=1:=λx hx=>by
  obtain⟨k,_,rfl⟩:=cc.mp hx;exact zN _ _
 have:=st (Txt.join "" ((rng 0 (at' xs 0%6).toNat).map λc:Int=>ch LT (at' xs c / 40%26))) (by
  have:=MG _ 1 λx hx=>hF (c1 x hx);rw[zi,mq]at this;omega)
 refine⟨⟨⟨⟨⟨⟨BB () (),Oc g.1 ()⟩,by rw[mq];omega⟩,λk hk=>?_⟩,?_⟩,this.1⟩,this.2⟩
 ·obtain⟨j,i,rfl⟩:=yM hk;exact⟨BB () (),Ru () (by rw[show("abcdefghijklmnopqrstuvwxyz":AK)=LT from rfl,SM];decide)⟩
 ·rw[show("abcdefghijklmnopqrstuvwxyz":AK)=LT from rfl,ae _ c1,zi,mq];have e:("":AK).length=0:=rfl;rw[e];omega
def D7(xs:O Int)(a:AK)(at_:Int)(k:Int):AK:=if(decide (((at' xs 3)%3)=1))=true then(Txt.mul (ch LT (k / (8:Int))) (1+(k%8)))else(((Txt.slice a U (Z at_))++(ch LT ((k+(at' xs 2))%15)))++(Txt.slice a (Z at_) U))
theorem xu{α β:Type}(g:β->α):∀(l:O β) (f:O α),l.foldl (λf k=>f++[g k]) f=f++l.map g
 |[],f=>by simp
 |k::l,f=>by rw[QA,xu g l];simp
theorem P9(xs:O Int)(a:Int):∃b at_,cX xs a=(rng 0 a.toNat).map (D7 xs b at_):=by
 refine⟨_,_,(xu (D7 xs _ _) _ []).trans (k7 _)⟩
theorem SX{a b m c:AK}(h:(a++m)++b=(a++c)++b):m=c:=by
 have h:=congrArg (λs:AK=>s.cps.toList) h;have h:((a.cps++m.cps)++b.cps).toList=((a.cps++c.cps)++b.cps).toList:=h;simp only[iJ]at h;have:=List.append_cancel_left (List.append_cancel_right h);cases m;cases c;congr 1;exact Array.ext' this
theorem l7:∀i:Fin 30,∀j:Fin 30,Txt.mul (ch LT ((i.val:Int) / 8)) (1+(i.val:Int)%8)=Txt.mul (ch LT ((j.val:Int) / 8)) (1+(j.val:Int)%8)->i=j:=by decide +kernel
theorem io:∀i:Fin 15,∀j:Fin 15,ch LT (i.val:Int)=ch LT (j.val:Int)->i=j:=by decide +kernel
theorem SC{x y:Int}(hx:0<=x/\x<15)(a:0<=y/\y<15)(h:ch LT x=ch LT y):x=y:=by
 have:=io ⟨x.toNat,by omega⟩ ⟨y.toNat,by omega⟩ (by
  show ch LT ((x.toNat:Nat):Int)=ch LT ((y.toNat:Nat):Int);rw[iK hx.1,iK a.1];exact h)
 have:=congrArg Fin.val this;have:x.toNat=y.toNat:=this;omega
theorem eK{xs:O Int}{a:AK}{at_:Int}(hi:i<15)(b:j<15)(h:D7 xs a at_ i=D7 xs a at_ j):i=j:=by
 unfold D7 at h;by_cases e:(decide (((at' xs 3)%3)=1))=true
 ·rw[zk e,zk e]at h;exact congrArg Fin.val (l7 ⟨i,by omega⟩ ⟨j,by omega⟩ h)
 ·rw[zw e,zw e]at h;have:=SC (lD _ ()) (lD _ ()) (SX h);omega
theorem ZQ{g:Int->AK}(h:∀i j:Nat,i<n->j<n->g i=g j->i=j):((rng 0 n).map g).Nodup:=by
 unfold rng;rw[ZY];unfold List.Nodup;rw[fO];refine Y2 ?_ (mr (n:=n));intro a b f d c e;refine c (h a b (dt.mp f) (dt.mp d) ?_);have e:g (0+(a:Int))=g (0+(b:Int)):=e;rwa [ng,ng]at e
theorem ip(xs:O Int)(a:Int)(h:a<=15):(cX xs a).Nodup:=by
 obtain⟨b,at_,e⟩:=P9 xs a;rw[e];exact ZQ λi j hi c=>eK () ()
def Lw(c:Nat):Prop:=97<=c/\c<=122
theorem Pm(c:Nat)(n:Int)(h:1<=n):cs (Txt.mul ⟨#[c]⟩ n)=ba n.toNat c:=by
 unfold Txt.mul;split
 ·omega
 split
 ·rename_i h;simp only[hH,beq_iff_eq]at h;rcases h with h|h
  ·subst h;rfl
  ·cases h
 ·have:∀(k:Nat) (a:Array Nat),((ba k (#[c]:Array Nat)).foldl (·++·) a).toList=a.toList++ba k c:=by
   intro k
   induction k with
   |zero=>intro a;simp
   |succ k b=>
    intro a;rw[kb,QA,b,iJ,kb];simp
  exact(this _ _).trans (by simp)
theorem HI{i:Int}(h:0<=i/\i<26):ch LT i=⟨#[97+i.toNat]⟩:=by
 have:∀i:Fin 26,ch LT (i.val:Int)=⟨#[97+i.val]⟩:=by decide +kernel
 have:=this ⟨i.toNat,by omega⟩;rwa [show((⟨i.toNat,by omega⟩:Fin 26).val:Int)=i by show(i.toNat:Int)=i;omega]at this
theorem P5{l:An}{c:Nat}(h:c∈cs (Txt.join "" l)):∃q∈l,c∈cs q:=by
 cases l with
 |nil=>cases h
 |cons p ps=>
  rw[Wp]at h;rcases List.mem_append.mp h with h|h
  ·exact⟨p,zg ..,h⟩
  ·obtain⟨q,a,h⟩:=List.mem_flatMap.mp h;exact⟨q,zh _ a,h⟩
theorem WQ(xs:O Int)(e:Int):∃(b:AK) (at_:Int),(∀c∈cs b,Lw c)/\b.length<=5/\0<=at_/\at_<=(b.length:Int)/\cX xs e=(rng 0 e.toNat).map (D7 xs b at_):=by
 have g:=lD (at' xs 0) (m:=6) ();have mem:∀x∈((rng 0 (at' xs 0%6).toNat).map λa:Int=>ch LT (at' xs a / 40%26)),x.length=1/\∀c∈cs x,Lw c:=λx hx=>by
  obtain⟨k,_,rfl⟩:=cc.mp hx;refine⟨zN _ _,λc d=>?_⟩;rw[HI (lD _ ())]at d;cases bN.mp d;have:=lD (at' xs k / 40) (m:=26) ();unfold Lw;omega
 refine⟨Txt.join "" ((rng 0 (at' xs 0%6).toNat).map λa:Int=>ch LT (at' xs a / 40%26)),at' xs 1%(((Txt.join "" ((rng 0 (at' xs 0%6).toNat).map λa:Int=>ch LT (at' xs a / 40%26))).length:Int)+1),λc d=>?_,?_,?_,?_,(xu (D7 xs _ _) _ []).trans (k7 _)⟩
 ·obtain⟨q,f,h⟩:=P5 d;exact(mem q f).2 c h
 ·have:=MG _ 1 λx hx=>hF (mem x hx).1;rw[zi,mq]at this;omega
 ·exact(lD _ ()).1
 ·have:=(lD (at' xs 1) (m:=((Txt.join "" ((rng 0 (at' xs 0%6).toNat).map λa:Int=>ch LT (at' xs a / 40%26))).length:Int)+1) ()).2;omega
theorem Cf:∀(a b:O Nat) (c n:Nat),(∀x∈a,x<=122)->c<122->a.length<n->(a++c::b)<ba n 122
 |a,b,c,0,_,_,h=>absurd h (yA _)
 |[],b,c,n+1,_,hc,_=>by
  rw[kb];exact List.Lex.rel hc
 |x::a,b,c,n+1,h,hc,hl=>by
  rw[kb,n9];by_cases e:x=122
  ·rw[e];exact List.Lex.cons (Cf a b c n (λy d=>h y (zh _ d)) hc (by simpa using hl))
  ·exact List.Lex.rel (by have:=h x zg;omega)
theorem ac:cs ("zzzzzzz":AK)=ba 7 122:=by decide +kernel
theorem Nd{a b:O Nat}{c:Nat}(e:cs x=a++c::b)(f:∀y∈a,y<=122)(d:c<122)(g:a.length<7):Ko x ("zzzzzzz":AK)=true:=by
 unfold Ko;refine qS ?_;show cs x<cs _;rw[e,ac];exact Cf a b c 7 f d g
theorem O'{xs:O Int}{b:AK}{at_:Int}(h1:∀c∈cs b,Lw c)(h2:b.length<=5)(j:0<=at_)(l:at_<=(b.length:Int)){k:Int}(hk:0<=k/\k<15):Ko (D7 xs b at_ k) ("zzzzzzz":AK)=true:=by
 unfold D7;split
 ·have e:=Pm (97+(k / 8).toNat) (1+k%8) ();rw[<-HI (i:=k / 8) ()]at e;have:(1+k%8).toNat=(k%8).toNat+1:=by omega
  rw[this,kb]at e;exact Nd (a:=[]) e (λ_ h=>by cases h) () ()
 ·have d:=Sj (x:=b) (n:=at_.toNat) ();have f:=Z9 (x:=b) (n:=at_.toNat) ();rw[iK j]at d f;have m:=lD (k+at' xs 2) (m:=15) ();have c1:=HI (i:=(k+at' xs 2)%15) ();have e:cs ((Txt.slice b U (Z at_)++ch LT ((k+at' xs 2)%15))++Txt.slice b (Z at_) U)=(cs b).take at_.toNat++(97+((k+at' xs 2)%15).toNat)::(cs b).drop at_.toNat:=by
   rw[KY,KY,d,f,c1,qq];rfl
  refine Nd e (λy g=>(h1 y (List.mem_of_mem_take g)).2) () ?_;rw[KB,<-Z8];omega
theorem Pv(xs:O Int)(a:Int)(h:a<=15):∀n∈cX xs a,Ko n ("zzzzzzz":AK)=true:=by
 obtain⟨f,at_,h1,h2,d,c,e⟩:=WQ xs a;rw[e];intro n b;obtain⟨k,hk,rfl⟩:=cc.mp b;obtain⟨j,g,rfl⟩:=yM hk;exact O' h1 h2 d c ()
theorem ajp(p:α->Bool)(l:O α):(l.filter p).length<=l.length:=QI p l
theorem ah[Inhabited α](xs:O α):(rng 0 (xs.length:Int).toNat).map (λk:Int=>at' xs k)=xs:=by
 refine YU λk=>?_;rw[zI];by_cases h:k<xs.length
 ·have h1:(rng 0 (xs.length:Int).toNat)[k]?=Z (k:Int):=by
   unfold rng;rw[zI,y0 ()];simp
  rw[h1,hG,T2 xs k h,zo h]
 ·rw[qk (by rw[mq];omega),qk ()];rfl
theorem S5(n_:An)(xs:O Int)(c:n_.Nodup)(l:n_.length<60)(h0:0<xs.length)(h1:xs.length<=1000):dD n_ xs/\Wd n_ (bQ n_ xs)/\(bQ n_ xs).flatten.Perm n_:=by
 have hx:(0:Int)<(xs.length:Int):=by omega
 have pos:(0:Int)<(if(n_.length:Int)>1 then(n_.length:Int)else 1):=by split<;>omega
 unfold bQ dD;dsimp only;have G:=WJ (λb:Int=>if(decide ((0:Int)<((at' xs 0)%3)))=true then((((at' xs (b%(xs.length:Int))) / (1+(b / (xs.length:Int))))%(if(n_.length:Int)>1 then(n_.length:Int)else 1))%3)else(((at' xs (b%(xs.length:Int))) / (1+(b / (xs.length:Int))))%(if(n_.length:Int)>1 then(n_.length:Int)else 1))) (λb:Int=>at' n_ b) (rng 0 (n_.length:Int).toNat);rw[ah]at G;generalize Oe _ _ _=m at G;have W:=Sf G c λx h=>h;have ajp:∀(w:O An),(∀s∈w,s≠[])->w.length<=w.flatten.length:=λw=>by
  induction w with
  |nil=>intro _;exact qi _
  |cons s w g=>
   intro h;have:=g λs hs=>h s (zh _ hs);have:=cN.mpr (h s (zg ..));rw[ZE,Zp,ZZ];omega
 have ml:m.length<=n_.length:=by
  have:=ajp (m.map (·.2)) λs hs=>by obtain⟨q,a,rfl⟩:=cc.mp hs;exact G.ne q a
  rw[zi,G.p.length_eq]at this;exact this
 have d:∀q∈m,q.2.length<=n_.length:=λq a=>by
  rw[<-G.p.length_eq];obtain⟨j,AT,e⟩:=kG (cc.mpr ⟨q,a,rfl⟩:q.2∈m.map (·.2));rw[e,KI,ZE];simp only[Zp];omega
 refine⟨⟨⟨⟨⟨rfl,Oc () ()⟩,by rw[mq];omega⟩,λv f=>?_⟩,⟨by rw[zi];omega,λk hk=>?_⟩,by rw[zi,zi];omega,λs hs=>?_⟩,W.1,W.2⟩
 ·obtain⟨k,hk,rfl⟩:=yM f;have d0:(0:Int)<=(k:Int) / (xs.length:Int):=Int.ediv_nonneg () ();have n:(k:Int) / (xs.length:Int)<=k:=Int.ediv_le_self _ ();exact⟨⟨⟨⟨⟨hx,Ru hx ()⟩,hx,by omega⟩,by omega,by omega⟩,pos⟩,BB () hx,El ()⟩
 ·obtain⟨q,a,rfl⟩:=cc.mp hk;refine⟨List.any_eq_true.mpr ⟨q,a,by simp⟩,?_⟩;rw[Fl G.k a];have:=d q a;omega
 ·obtain⟨k,hk,rfl⟩:=cc.mp hs;obtain⟨q,a,rfl⟩:=cc.mp hk;rw[Fl G.k a];have:=G.ne q a;have hp:=(aX q.2).length_eq;cases i:bH q.2 with
  |nil=>rw[i]at hp;exact absurd (dd.mp hp.symm) this
  |cons _ _=>rfl
theorem zX:∀{L:O An} {k:Nat} {x y:An},L[k]?=Z x->((L.set k y).flatten++x).Perm (L.flatten++y)
 |[],_,_,_,h=>by simp at h
 |z::L,0,x,y,h=>by
  cases h;rw[nj,ZE,ZE];refine(ez).trans ?_;rw[qq];exact List.Perm.append_left z ez
 |z::L,k+1,x,y,h=>by
  rw[nk,ZE,ZE,qq,qq];exact(zX (L:=L) (k:=k) (by simpa using h)).append_left z
theorem Gh:∀(l:An) (k:Nat) (h:k<l.length),(l[k]::l.eraseIdx k).Perm l
 |x::l,0,_=>Kn _
 |x::l,k+1,h=>by
  rw[kQ];exact(List.Perm.swap x _ _).trans ((Gh l k (by simpa using h)).cons x)
theorem iX{k:Nat}{x:An}(hk:L[k]?=Z x)(a:j<x.length):(x.getD j ""::(KQ L k j).flatten).Perm L.flatten:=by
 unfold KQ;rw[yL,getD_some hk,getD_some (zo a)];have p:=zX (y:=x.eraseIdx j) hk;have q:(x[j]::x.eraseIdx j).Perm x:=Gh x j a;have:((x[j]::(L.set k (x.eraseIdx j)).flatten)++x.eraseIdx j).Perm (L.flatten++x.eraseIdx j):=by
  refine List.Perm.trans ?_ p;rw[n9];exact List.perm_middle.symm.trans (q.append_left _)
 exact(lr _).mp this
theorem Ps{x:Int}{nm:AK}:(BY L x nm).flatten.Perm (nm::L.flatten):=by
 unfold BY;split
 ·rw[KI];exact lx nm L.flatten
 ·rename_i q;have a:L≠[]:=λz=>q (by simp[z]);have hk:lM (x / 512) L.length<L.length:=rA (cN.mpr a);have e:L[lM (x / 512) L.length]?=Z L[lM (x / 512) L.length]:=zo hk;rw[getD_some e];have p:=zX (y:=L[lM (x / 512) L.length]++[nm]) e;refine(lr L[lM (x / 512) L.length]).mp (p.trans ?_);rw[<-qq];exact(lx nm _)
theorem WR(g:GN L)(x:Int):(lF L x).flatten.Perm L.flatten:=by
 unfold lF;split
 ·exact Kn _
 ·rename_i a;have e:=EY (x:=x) a;have hp:Ew L x≠[]:=g.ne _ (ZI e);exact Ps.trans (iX e (rA (cN.mpr hp)))
theorem Js:∀(zs:O Int) {L:O An},GN L->(zs.foldl lF L).flatten.Perm L.flatten
 |[],_,_=>Kn _
 |z::zs,_,g=>(Js zs (g.step z).1).trans (WR g z)
theorem On{A:O An}(n:PN N)(a:PJ N A){xs:O Int}(hx:7<xs.length):oA A xs/\PJ N (ou A xs):=by
 have e:=a.pm.length_eq;have d:=n.ln;have g:GN A:=⟨a.W.ne,by omega⟩;have p:=Js (wR xs) g;have g2:=GN.fold (wR xs) g;refine⟨⟨a.W.ne,by omega,El (k:=7) hx⟩,?_⟩;show PJ N (Ji A xs);unfold Ji;generalize (wR xs).foldl lF A=L at p g2;have b:(dW (L.map bH)).flatten.Perm N:=(vJ (iG _)).trans (wV.trans (p.trans a.pm));refine⟨⟨λs hs=>?_,λs hs=>?_,b.nodup_iff.mpr n.nd,λx hx=>b.mem_iff.mp hx,uJ _⟩,b⟩
 ·obtain⟨z,c,rfl⟩:=cc.mp ((iG _).mem_iff.mp hs);exact dL (g2.ne z c)
 ·obtain⟨z,c,rfl⟩:=cc.mp ((iG _).mem_iff.mp hs);exact fu z
theorem Lr{X:An}(a:X.Nodup)(b:X.length<=30):PN (bH X):=⟨(aX X).nodup_iff.mpr a,by rw[(aX X).length_eq];exact b,Va (aX X)⟩
theorem Pz(n:PN N){xs:O Int}(h:xs.length=16):dD N xs/\PJ N (bQ N xs):=by
 have a:=n.ln;obtain⟨d,W,p⟩:=S5 N xs n.nd () () ();exact⟨d,W,p⟩
def DE:An:=(rng 0 16).map λa:Int=>(Txt.mul (ch ("ab":AK) (a / (8:Int))) (1+(a%8)))
theorem Nc:DE.Nodup:=by unfold DE;decide +kernel
theorem TC:∀x∈DE,Ko x ("zzzzzzz":AK)=true:=by unfold DE;decide +kernel
theorem Cj:DE.length=16:=by unfold DE;rw[zi,mq]
theorem dE(b:O Int)(a:Int)(h0:0<=a)(h1:a<=100):qJ b a/\∃N A B,nA b a=(N,A,B)/\PN N/\(N.length<=20/\∀x∈N,Ko x ("zzzzzzz":AK)=true)/\PJ N A/\PJ N B:=by
 obtain⟨p,h,_⟩:=Ln (bG b a) 12 () ();obtain⟨d2,e,_⟩:=Ln (bG b (a+1)) 16 () ();obtain⟨i,g,_⟩:=Ln (bG b (a+2)) 16 () ();have c1:=Lj b a h0 ();have c2:=Lj b (a+1) () ();have w:=Lj b (a+2) () ();unfold qJ nA;dsimp only;rw[Zn];generalize bD (bG b a) 12=xs at p h;generalize bD (bG b (a+1)) 16=ys at d2 e;generalize bD (bG b (a+2)) 16=zs at i g;have h:xs.length=12:=h;have e:ys.length=16:=e;have g:zs.length=16:=g;obtain⟨y,G⟩:=lD (at' xs 6) (m:=11) ();generalize at' xs 6%11=many at y G;obtain⟨s,q,_⟩:=Pt xs () many y ();have C:=ip xs many ();have p0:PN (bH (cX xs many)):=Lr C (by rw[q];omega);have E:(rng 0 16).length<=100000/\∀d∈(rng 0 16),(In ("ab":AK).length (d / (8:Int))/\((1+(d%8))<=1000 ∧ -1000<=(1+(d%8))/\(ch ("ab":AK) (d / (8:Int))).length<=1000)):=by
  refine⟨by rw[mq];decide,λv F=>?_⟩;obtain⟨k,hk,rfl⟩:=yM F;have:("ab":AK).length=2:=by decide
  rw[this,zN];exact⟨BB () (),by omega,by omega,by decide⟩
 have u:∀N,PN N->((dD N ys)/\((dD N zs)/\(In xs.length 7/\((decide (((at' xs 7)%3)=1))=true->(oA (bQ N ys) zs)))))/\PJ N (bQ N ys)/\PJ N (if(decide (((at' xs 7)%3)=1))=true then ou (bQ N ys) zs else bQ N zs):=λN n=>by
  obtain⟨e1,t⟩:=Pz n e;obtain⟨e2,H⟩:=Pz n g;obtain⟨e3,D⟩:=On n t (xs:=zs) ();refine⟨⟨e1,e2,El (k:=7) (),λ_=>e3⟩,t,?_⟩;split
  ·exact D
  ·exact H
 have f:In xs.length 6:=El (k:=6) ();by_cases c:(decide ((((at' xs 6) / (11:Int))%16)=7))=true
 ·rw[zk c];obtain⟨l,o,j⟩:=u (bH DE) (Lr Nc (by rw[Cj];decide));exact⟨⟨⟨c1,p⟩,f,⟨s,by omega⟩,⟨f,λ_=>⟨E,by show DE.length<64;rw[Cj];decide⟩⟩,⟨c2,d2⟩,⟨w,i⟩,l⟩,bH DE,_,_,rfl,Lr Nc (by rw[Cj];decide),⟨by rw[(aX _).length_eq,Cj];decide,λx hx=>TC x ((aX _).mem_iff.mp hx)⟩,o,j⟩
 ·rw[zw c];obtain⟨l,o,j⟩:=u _ p0;exact⟨⟨⟨c1,p⟩,f,⟨s,by omega⟩,⟨f,λz=>absurd z c⟩,⟨c2,d2⟩,⟨w,i⟩,l⟩,_,_,_,rfl,p0,⟨by rw[(aX _).length_eq,q];omega,λx hx=>Pv xs many () x ((aX _).mem_iff.mp hx)⟩,o,j⟩
structure Bg (X:List An) (P:Str->Prop) (k:Nat):Prop where
 mem:∀z,z∈X.flatten↔P z
 ln:X.flatten.length<=k
 ne:∀x∈X,x≠[]
section
variable{X Y:O An}{P Q:AK->Prop}{k l:Nat}{v n:AK}
theorem Bg.ll(a:Bg X P k):X.length<=k:=Zl (Sy a.ne) a.ln
theorem Bg.le{x:An}(a:Bg X P k)(h:x∈X):x.length<=k:=Zl (List.sublist_flatten_of_mem h).length_le a.ln
theorem Bg.names(a:Bg X P k)(hk:k<=30):fD X/\bf X=bH X.flatten:=by
 have e:(X.flatMap λvs:An=>(vs.map λb:AK=>b))=X.flatten:=by
  rw[n8];simp only[Kx]
 have:=a.ln;unfold fD bf;rw[e];exact⟨⟨⟨λ_ _ _ _=>trivial,by omega⟩,by omega⟩,rfl⟩
theorem c9(xs ys:An):(vV xs ys).length<=xs.length+ys.length:=by
 unfold vV;rw[Zp];exact Nat.add_le_add (QI ..) (QI ..)
theorem S7{L:An}(a:v∈L)(c:∀z∈L,oK v z):(bH L).head?=Z v:=by
 have p:=aX L;have b:=fu L;cases e:bH L with
 |nil=>rw[<-p.mem_iff,e]at a;cases a
 |cons w r=>
  rw[e]at p b;have d:w∈L:=p.mem_iff.mp zg;have h1:=c w d;have h2:=p.mem_iff.mpr a;rcases List.mem_cons.mp h2 with q|q
  ·rw[q];rfl
  ·rw[yr h1 ((dz.mp b).1 v q)];rfl
theorem Jt(a:Bg X P k)(b:Bg Y Q l)(hk:k<=30)(e:l<=30)(d:oR (P v) (Q v))(h:∀z,oR (P z) (Q z)->oK v z)(w:Int):cj w X Y v:=by
 obtain⟨f,e1⟩:=a.names hk;obtain⟨d2,e2⟩:=b.names e;have n:=a.ln;have j:=b.ln;have m:=(aX X.flatten).length_eq;have i:=(aX Y.flatten).length_eq;have o:=c9 (bH X.flatten) (bH Y.flatten);have ld:=Nt (vV (bH X.flatten) (bH Y.flatten));have c:∀z,z∈lB (vV (bH X.flatten) (bH Y.flatten))↔oR (P z) (Q z):=λz=>by
  rw[qC,Fg,(aX _).mem_iff,(aX _).mem_iff,a.mem,b.mem]
 unfold cj FK W6;rw[e1,e2];exact⟨⟨⟨f,d2,by omega,by omega⟩,by omega,by omega⟩,S7 ((c v).mpr d) λz g=>h z ((c z).mp g)⟩
theorem ML(a:Bg X P k)(b:Bg Y Q l)(hk:k<=30)(e:l<=30)(c:oR (P v) (Q v))(h:∀z,oR (P z) (Q z)->oK v z)(w:Int):cj w Y X v:=Jt b a e hk (c.elim (λq=>.inr ⟨q.2,q.1⟩) λq=>.inl ⟨q.2,q.1⟩) (λz d=>h z (d.elim (λq=>.inr ⟨q.2,q.1⟩) λq=>.inl ⟨q.2,q.1⟩)) w
theorem N0(f:An->An)(h:∀x,(f x).length<=x.length):∀X:O An,(X.map f).flatten.length<=X.flatten.length
 |[]=>zl _
 |x::X=>by
  rw[zr,ZE,ZE,Zp,Zp];exact Nat.add_le_add (h x) (N0 f h X)
theorem Bg.perm(a:Bg X P k)(p:X.Perm Y):Bg Y P k:=⟨λz=>by rw[<-(vJ p).mem_iff];exact a.mem z,by rw[<-(vJ p).length_eq];exact a.ln,λx hx=>a.ne x (p.mem_iff.mpr hx)⟩
theorem Md{x:An}(h:x≠[]):x.isEmpty=false:=by
 cases x with
 |nil=>exact absurd X9 h
 |cons=>rfl
theorem vR(a:Bg X P k)(hk:k<=60):gk X n/\Bg (aR X n) (λz=>P z/\z≠n) k:=by
 have ll:=a.ll;have q:Bg ((((X.map λc:An=>((c.filter λb:AK=>(!decide (b=n))).map λb:AK=>b))).filter λc:An=>(!decide (c=([]:An)))).map λc:An=>c) (λz=>P z/\z≠n) k:=by
  rw[Kx];refine⟨λz=>?_,?_,λx hx=>?_⟩
  ·rw[<-a.mem z,eg];constructor
   ·rintro⟨y,f,e⟩;obtain⟨x,hx,rfl⟩:=cc.mp (cD.mp f).1;rw[Kx]at e;obtain⟨h1,h2⟩:=cD.mp e;exact⟨eg.mpr ⟨x,hx,h1⟩,by simpa using h2⟩
   ·rintro⟨h1,h2⟩;obtain⟨x,hx,g⟩:=eg.mp h1;have d:z∈(x.filter λb:AK=>(!decide (b=n))).map λb:AK=>b:=by
     rw[Kx];exact cD.mpr ⟨g,by simpa using h2⟩
    refine⟨_,cD.mpr ⟨cc.mpr ⟨x,hx,rfl⟩,?_⟩,d⟩;have:((x.filter λb:AK=>(!decide (b=n))).map λb:AK=>b)≠[]:=nr d;simpa using this
  ·refine Zl (SJ _).length_le (Zl (N0 _ (λx=>?_) X) a.ln);rw[zi];exact QI ..
  ·have:=(cD.mp hx).2;simpa using this
 unfold gk aR;dsimp only;refine⟨⟨⟨by omega,λx hx=>by have:=a.le hx;omega⟩,by rw[zi];omega,?_,λx hx=>Md (q.ne x hx)⟩,q.perm (iG _).symm⟩;rw[zi];refine kl (QI ..) ?_;rw[zi];omega
abbrev Z7:AK :="zzzzzzz"
theorem XN(a:Bg X P k):Bg (X++[[("zzzzzzz":AK)]]) (λz=>P z\/z=Z7) (k+1):=by
 have e:(X++[[("zzzzzzz":AK)]]).flatten=X.flatten++[Z7]:=by rw[KI];rfl
 refine⟨λz=>?_,?_,λx hx=>?_⟩
 ·rw[e,yB,bN,a.mem]
 ·rw[e,Zp];exact Nat.add_le_add_right a.ln 1
 ·rcases List.mem_append.mp hx with h|h
  ·exact a.ne x h
  ·rw[bN.mp h];exact xl _ _
theorem Ck(a:Bg X P k)(hk:k<=60):((GC (X.length+[[("zzzzzzz":AK)]].length)/\((X++[[("zzzzzzz":AK)]]).length<64/\∀x∈(X++[[("zzzzzzz":AK)]]),x.isEmpty=false)))/\Bg (dW (X++[[("zzzzzzz":AK)]])) (λz=>P z\/z=Z7) (k+1):=by
 have ll:=a.ll;have q:=XN a;refine⟨⟨pI (by simp only[km];omega),by rw[Zp,km];omega,λx hx=>Md (q.ne x hx)⟩,q.perm (iG _).symm⟩
end
theorem PJ.nms{A:O An}(a:PJ N A){k:Nat}(h:N.length<=k):Bg A (λz=>z∈N) k:=⟨λz=>a.pm.mem_iff,by rw[a.pm.length_eq];exact h,a.W.ne⟩
theorem a0(f:n_.Nodup){i j:Int}(hi:0<=i/\i<n_.length)(h:0<=j/\j<n_.length)(g:i≠j):at' n_ i≠at' n_ j:=by
 obtain⟨a,rfl⟩:=mu hi.1;obtain⟨b,rfl⟩:=mu h.1;have c:a<n_.length:=by omega
 have d:b<n_.length:=by omega
 rw[zM (zo c),zM (zo d)];intro e;have:a=b:=(nB c f).mp (by rw[zo c,zo d,e]);exact g (congrArg _ this)
theorem fw{p q:O An}(hp:p≠[])(d:q≠[]):iR p q/\iQ p q=gU (p.length:Int) (q.length:Int):=by
 have h1:0<p.length:=cN.mpr hp;have h2:0<q.length:=cN.mpr d;have i2:∀a b:AK,In [a,b].length (if(decide ((1:Int)<(q.length:Int)))=true then(1:Int)else 0):=λa b=>by
  split
  ·exact BB () (show(1:Int)<2 by omega)
  ·exact BB () (show(0:Int)<2 by omega)
 unfold iR iQ gU;refine⟨⟨λ_=>i2 _ _,λ_=>i2 _ _⟩,?_⟩;by_cases c:1<q.length
 ·rw[qS (show(1:Int)<(q.length:Int) by omega),qr (show ¬ (q.length:Int)=1 by omega)];split<;>rfl
 ·rw[qr (show ¬ (1:Int)<(q.length:Int) by omega),qS (show(q.length:Int)=1 by omega)];split<;>rfl
theorem PK{N:An}{A B:O An}{m:O (AK×AK)}(h:HC N (A++B) m)(n:PN N)(a:PJ N A)(b:PJ N B):∀(V:An) (f:O pP),(∀v∈V,v∈jz N m)->f.length+V.length<=1000 →
  mj (λ(i:O pP) (g:An)=>(fX A B i g)) (λ(i:O pP) (g:An)=>Z (jQ A B i g)) (V.map (cls N m)) f ∧
  (V.map (cls N m)).foldl (λ(i:O pP) (g:An)=>(fX A B i g)) f=f++V.map λv=>(gU ((Hj m A v).length:Int) ((Hj m B v).length:Int),Hj m A v,Hj m B v)
 |[],f,_,_=>⟨trivial,(Qb _).symm⟩
 |v::V,f,hV,hl=>by
  have t:HC N (B++A) m:=h.mem λc=>by rw[yB,yB,or_comm]
  have l:=hV v zg;rw[ZZ]at hl;have z:=(a.sl n).ll;have y:=(b.sl n).ll;obtain⟨o,r,e1⟩:=Py h a l;obtain⟨p,q,e2⟩:=Py t b l;obtain⟨u,s⟩:=fw (p:=Hj m A v) (q:=Hj m B v) (by rw[e1];exact xl _ _) (by rw[e2];exact xl _ _);have es:fX A B f (cls N m v)=f++[(gU ((Hj m A v).length:Int) ((Hj m B v).length:Int),Hj m A v,Hj m B v)]:=by
   unfold fX cls;dsimp only;rw[Jr a,Jr b,s]
  obtain⟨d,e⟩:=PK h n a b V (f++[(gU ((Hj m A v).length:Int) ((Hj m B v).length:Int),Hj m A v,Hj m B v)]) (λw x=>hV w (zh _ x)) (by rw[Zp,km];omega);rw[zr,QA,es,zr];refine⟨⟨?_,by show mj _ _ _ (fX A B f (cls N m v));rw[es];exact d⟩,by rw[e,qq];rfl⟩;show jQ A B f (cls N m v);unfold jQ cls;dsimp only;rw[Jr a,Jr b];exact⟨⟨by omega,λc j=>(Db (a.W.ne c j)).1⟩,⟨by omega,λc j=>(Db (b.W.ne c j)).1⟩,u,pI ()⟩
theorem Ts{A B:O An}(n:PN N)(a:PJ N A)(b:PJ N B):iT A B/\qK N A B/\nC N A B=dH A B/\(dH A B).length<=30:=by
 obtain⟨d,m,h,e⟩:=WM n a b;have i:=(a.sl n).ll;have g:=(b.sl n).ll;have j:=n.ln;have c:N.Pairwise oK:=by rw[<-n.so];exact fu N
 obtain⟨g1,g2⟩:=Hl h (a.cls b) (a.kn b) () () c;have fl:(jz N m).length<=N.length:=QI ..;obtain⟨f,e1⟩:=PK h n a b (jz N m) [] (λ_ h=>h) (by simp;omega);unfold qK nC;dsimp only;rw[g2,e1,e];exact⟨d,⟨g1,f⟩,rfl,by rw[zi];omega⟩
theorem RU{A B:O An}(n:PN N)(d:N.length<=20/\∀x∈N,Ko x ("zzzzzzz":AK)=true)(a:PJ N A)(b:PJ N B)(y:N≠[]){i j:Int}(hi:0<=i/\i<N.length)(t:0<=j/\j<N.length)(w:Int):
  fJ N A (aR B (at' N 0)) (dW (B++[[("zzzzzzz":AK)]])) (dW (aR B (at' N 0)++[[("zzzzzzz":AK)]])) i j (aR A (at' N i)) (aR B (at' N j)) (if Ko (at' N j) (at' N i)=true then(at' N j)else(at' N i)) gl w:=by
 obtain⟨J,d⟩:=d;have L:N.Pairwise oK:=by rw[<-n.so];exact fu N
 have g:In N.length 0:=BB (Int.le_refl _) (by have:=cN.mpr y;omega);have l:at' N 0∈N:=Kz g;have h:∀z∈N,oK (at' N 0) z:=λz d=>by
  cases N with
  |nil=>exact absurd X9 y
  |cons x r=>
   rw[show at' (x::r) (0:Int)=x from zM (k:=0) rfl];rcases List.mem_cons.mp d with e|e
   ·rw[e];exact qL _
   ·exact(dz.mp L).1 z e
 have H:Z7∉N:=λz=>by have:=(BT _ _).mp (d _ z);exact this.2 rfl
 have G:oK (at' N 0) Z7:=((BT _ _).mp (d _ l)).1;have f:Bg A (λz=>z∈N) 20:=a.nms J;have s:Bg B (λz=>z∈N) 20:=b.nms J;have m:=(vR (n:=at' N 0) s ()).2;have M0:=(Ck s ()).2;have C:=(Ck m ()).2;have Y:=Kz (BB hi.1 hi.2);have K:=Kz (BB t.1 t.2);have Q:=(vR (n:=at' N i) f ()).2;have Bj:=(vR (n:=at' N j) s ()).2;have E:oR (at' N 0∈N) (at' N 0∈N/\at' N 0≠at' N 0):=.inl ⟨l,λz=>z.2 rfl⟩;have v:∀z,oR (z∈N) (z∈N/\z≠at' N 0)->oK (at' N 0) z:=λz d=>d.elim (λq=>h z q.1) λq=>absurd q.2.1 q.1;have X:oR (Z7∈N) (Z7∈N\/Z7=Z7):=.inr ⟨H,.inr rfl⟩;have W:∀z,oR (z∈N) (z∈N\/z=Z7)->oK Z7 z:=λz d=>d.elim (λq=>absurd (.inl q.1) q.2) λq=>by
  rcases q.2 with e|e
  ·exact absurd e q.1
  ·rw[e];exact qL _
 have M:oR (at' N 0∈N\/at' N 0=Z7) (at' N 0∈N/\at' N 0≠at' N 0):=.inl ⟨.inl l,λz=>z.2 rfl⟩;have P:∀z,oR (z∈N\/z=Z7) (z∈N/\z≠at' N 0)->oK (at' N 0) z:=λz d=>d.elim (λq=>q.1.elim (h z) λe=>by rw[e];exact G) λq=>h z q.2.1;have I:oR (at' N 0∈N) ((at' N 0∈N/\at' N 0≠at' N 0)\/at' N 0=Z7):=.inl ⟨l,λz=>z.elim (λq=>q.2 X9) λe=>H (e▸l)⟩;have D:∀z,oR (z∈N) ((z∈N/\z≠at' N 0)\/z=Z7)->oK (at' N 0) z:=λz d=>d.elim (λq=>h z q.1) λq=>q.2.elim (λe=>h z e.1) λe=>by rw[e];exact G
 refine⟨⟨⟨g,Jt f m () () E v w⟩,λ_=>⟨g,ML f m () () E v w⟩⟩,λ_=>⟨⟨Jt f M0 () () X W w,λ_=>⟨g,Jt M0 m () () M P w⟩⟩,λ_=>⟨⟨⟨g,Jt f C () () I D w⟩,λ_=>⟨g,ML f C () () I D w⟩⟩,λ_ o=>?_⟩⟩⟩;have o:i≠j:=by simpa using o
 have u:=a0 n.nd hi t o;refine Jt Q Bj () () ?_ ?_ w
 ·split
  ·exact .inl ⟨⟨K,u.symm⟩,λz=>z.2 rfl⟩
  ·exact .inr ⟨λz=>z.2 rfl,Y,u⟩
 ·intro z d;have F:z=at' N i\/z=at' N j:=by
   rcases d with⟨⟨p1,p2⟩,q⟩|⟨p,q1,q2⟩
   ·by_cases e:z=at' N j
    ·exact .inr e
    ·exact absurd ⟨p1,e⟩ q
   ·by_cases e:z=at' N i
    ·exact .inl e
    ·exact absurd ⟨q1,e⟩ p
  split
  ·rename_i c;rcases F with e|e
   ·rw[e];exact((BT _ _).mp c).1
   ·rw[e];exact qL _
  ·rename_i c;rcases F with e|e
   ·rw[e];exact qL _
   ·rw[e];rcases Jq (at' N i) (at' N j)with q|q
    ·exact q
    ·exact absurd ((BT _ _).mpr ⟨q,u.symm⟩) c
theorem WT{A B:O An}(n:PN N)(l:N.length<=20/\∀x∈N,Ko x ("zzzzzzz":AK)=true)(a:PJ N A)(b:PJ N B)(x:Int):dh N A B x/\c7 N A B x=true:=by
 by_cases d:N=[]
 ·have e:decide (N=([]:An))=true:=qS d;unfold dh c7;rw[zk e];exact⟨λz=>Bool.noConfusion (e.symm.trans z),rfl⟩
 ·have e:decide (N=([]:An))=false:=qr d;have lp:=cN.mpr d;have p:In N.length 0:=BB (Int.le_refl _) ();have m:Bg A (λz=>z∈N) 20:=a.nms l.1;have g:Bg B (λz=>z∈N) 20:=b.nms l.1;obtain⟨q,s⟩:=vR (n:=at' N 0) g ();obtain⟨M0,_⟩:=Ck g ();obtain⟨o,_⟩:=Ck s ();unfold dh c7;rw[e,Zn];dsimp only;have hi:0<=x%(N.length:Int)/\x%(N.length:Int)<(N.length:Int):=lD _ ();generalize x%(N.length:Int)=i at hi;generalize 1+x / (N.length:Int)%(if((N.length:Int)-1)>1 then((N.length:Int)-1)else 1)=st;have c:0<=(i+st)%(N.length:Int)/\(i+st)%(N.length:Int)<(N.length:Int):=lD _ ();generalize (i+st)%(N.length:Int)=j at c;have F:=Ej (step:=λ(h:Unit) (f:Int)=>((cH N A (aR B (at' N 0)) (dW (B++[[("zzzzzzz":AK)]])) (dW (aR B (at' N 0)++[[("zzzzzzz":AK)]])) i j (aR A (at' N i)) (aR B (at' N j)) (if Ko (at' N j) (at' N i)=true then(at' N j)else(at' N i)) h f):j6 (Unit) Bool)) (P:=λ(h:Unit) (f:Int)=>Z (fJ N A (aR B (at' N 0)) (dW (B++[[("zzzzzzz":AK)]])) (dW (aR B (at' N 0)++[[("zzzzzzz":AK)]])) i j (aR A (at' N i)) (aR B (at' N j)) (if Ko (at' N j) (at' N i)=true then(at' N j)else(at' N i)) h f)) (rng 0 3) λz _=>⟨RU n l a b d hi c z,.inl (by
   unfold cH bx;simp)⟩
  rw[zw z5,F.1];refine⟨λ_=>⟨⟨p,q⟩,M0,o,by omega,⟨⟨by omega,by omega⟩,by split<;>omega⟩,by omega,⟨⟨BB hi.1 hi.2,(vR m ()).1⟩,BB c.1 c.2,(vR g ()).1⟩,⟨BB hi.1 hi.2,BB c.1 c.2⟩,F.2,trivial⟩,rfl⟩
theorem UM(c:O Int)(k:Nat)(hk:k<3):uY c gl (k:Int)/\oJ c gl (k:Int)=.nx gl:=by
 obtain⟨d0,N,A,B,e0,n,j,a,b⟩:=dE c (3*(k:Int)) () ();obtain⟨d,d2,e,l⟩:=Ts n a b;obtain⟨h,i,_⟩:=Ln (bG c (3*(k:Int))) 12 () ();have c1:=Lj c (3*(k:Int)) () ();obtain⟨f,g⟩:=WT n j a b (at' (bD (bG c (3*(k:Int))) 12) 8);unfold uY oJ;dsimp only;rw[e0];dsimp only;rw[e,g];simp only[KS,k8,Bool.or_self,zv,qc];refine⟨⟨d0,d2,d,λ_=>⟨pI (),⟨d,λ_=>pI ()⟩,λ_=>⟨⟨⟨c1,h⟩,El (k:=8) (by rw[i];decide)⟩,f⟩⟩⟩,trivial⟩
theorem Nl(ns:O Int)(_:ns.length<=63):Pr ns/\Pq ns=true:=by
 unfold Pr Pq;generalize d:(if(if(3:Int)<((ns.length:Int) / (3:Int))then(3:Int)else((ns.length:Int) / (3:Int)))>1 then(if(3:Int)<((ns.length:Int) / (3:Int))then(3:Int)else((ns.length:Int) / (3:Int)))else 1)=j;have c:0<=j/\j<=3:=by
  rw[<-d];split<;>split<;>omega
 have F:=Ej (step:=λ(a:Unit) (b:Int)=>((oJ ns a b):j6 (Unit) Bool)) (P:=λ(a:Unit) (b:Int)=>Z (uY ns a b)) (rng 0 j.toNat) λz e=>by
  obtain⟨k,hk,rfl⟩:=yM e;have:=UM ns k ();exact⟨this.1,.inl this.2⟩
 rw[F.1];exact⟨⟨⟨Oc c.1 (),F.2⟩,trivial⟩,rfl⟩
theorem H1:∀ns:O Int,ns.length<=63->F_law [.z (.lst (ns.map .int))]=Z (.z (.bl true)):=(Mm Nl).1
theorem H2:∀ns:O Int,ns.length<=63->F_law [.l (ns.map .int)]=Z (.z (.bl true)):=(Mm Nl).2
end G45
end
open PySem PySem.W PyProof.Rows
namespace PySem.W.Fast
def tw7263308593134978363:=0
def tw14456297116585957794:=0
def tw1291345366141881097:=0
def tw18209349557751562665:=0
def tw741937690838121384:=0
def tw15562672895770678648:=0
def tw7387454124149342185:=0
def tw5456427372057070977:=0
def tw11458643964309614852:=0
def tw12058427997772837974:=0
def tw1842698144335277781:=0
def tw2644939822683101014:=0
def tw16128995958906093166:=0
def tw14373085063725328312:=0
def tw8435711327677193703:=0
def tw18330435699908583751:=0
def tw14761706198030228128:=0
def tw8447363385785042245:=0
def tw4571523596033117156:=0
def tw2427786750791256295:=0
def tw11857943625981274964:=0
def tw3370812175257251270:=0
def tw6451738665236192417:=0
def tw15788215967435003565:=0
def tw15222716152219886529:=0
def tw1391837145227046756:=0
def tw3590906302147233705:=0
def tw8322495295673337498:=0
def tw9440438277223912332:=0
def tw18326547901801511953:=0
def tw14593054672145207536:=0
def tw13848937978671417214:=0
def tw2263914802375402841:=0
def tw14164256189522828198:=0
def tw2441097987685052800:=0
def tw11656735961772233207:=0
def tw3546244974496231114:=0
def tw315427511477279554:=0
def tw10790751554922165627:=0
def tw16876044333764042719:=0
def tw5934134447809888937:=0
def tw2671971120255642518:=0
def tw6956411322489674217:=0
def tw14561403263585403409:=0
def tw13253582054980958254:=0
def tw4754692432096512656:=0
def tw13472126416015228599:=0
def tw3441556654247364534:=0
def tw7531218431413533610:=0
def tw10608191439341183343:=0
def tw4801884349975314133:=0
def tw12978279829768158299:=0
def tw17466438429710849171:=0
def tw17971603607412866557:=0
def tw9027921178520381132:=0
def tw2864688767830196727:=0
def tw13527171808519771295:=0
def tw15025665831862054924:=0
def tw15771441925337582543:=0
def tw7041801061104462113:=0
def tw3939209462391191463:=0
def tw9804621549666839869:=0
def tw9365333858112210918:=0
def tw5168466353968277262:=0
def tw1540229208439437699:=0
def tw17363659529818426044:=0
def tw14934903859774847101:=0
def tw1259555303678205272:=0
def tw5288140158327572035:=0
def tw14183916791025433505:=0
def tw7926299066179719111:=0
def tw17890588708661782190:=0
def tw4343337912105871657:=0
def tw13310933307184988249:=0
def tw1309277790947962340:=0
def tw2997474904061060254:=0
def tw9819133217035593518:=0
def tw1418402764630707821:=0
def tw15128793820646345048:=0
def tw18171973551521059447:=0
def tw3698963627889815511:=0
def tw15363805011089765058:=0
def tw17632247939285710619:=0
def tw8112648208172080575:=0
def tw10640213822462322197:=0
def tw17041349030613935533:=0
def tw2634989778293041196:=0
def tw3036611892671990420:=0
def tw4022758128017271455:=0
def tw6854485090224523608:=0
def tw11669795413793622941:=0
def tw5271741289921135513:=0
def tw17843909444146734867:=0
def tw13443889956532593910:=0
def tw12460900813052479712:=0
def tw18306583013402406755:=0
def tw4224642219670408701:=0
def tw4839383929390508270:=0
def tw18437972966520396832:=0
def tw17097518545494617565:=0
def tw4231967119215952297:=0
def tw1823038476013281710:=0
def tw2405222778714682071:=0
def tw15867159166685613282:=0
def tw15120324358704810503:=0
def tw13220636412652999654:=0
def tw9510679444171786442:=0
def tw15738542449766002180:=0
def tw12131208715218901539:=0
def tw17052271806754436921:=0
def tw8004826669599510331:=0
def tw14279461919022994554:=0
def tw11293585682851354009:=0
def tw11705953462957447562:=0
def tw7914772409557779780:=0
def tw17412792710361697650:=0
def tw15815869170943642568:=0
def tw164016596205083602:=0
def tw10963756563527536962:=0
def tw9281471369461514572:=0
def tw4249412763454333132:=0
def tw15117068360932232930:=0
def tw9054700051420458048:=0
def tw4137638068707854098:=0
def tw11166697136039947023:=0
def tw9111444587490450102:=0
def tw6367183572864533384:=0
def tw11775403165814047716:=0
def tw9886982831086974139:=0
def tw5187858253229760068:=0
def tw5430865735331183700:=0
def tw4001693063880463542:=0
def tw104735373562461591:=0
def tw14858438693499732056:=0
def tw11751172213458827704:=0
def tw17223109913187913092:=0
def tw480779098564426563:=0
def tw11339173757154929681:=0
def tw13599227615601630638:=0
def tw1980063335748904572:=0
def tw3459863285375071047:=0
def tw10041930008444881725:=0
def tw15047508156272595887:=0
def tw5711424627916844820:=0
def tw11178924798116692578:=0
def tw4105160831224345096:=0
def tw9753291159867452816:=0
def tw10641086219655966219:=0
def tw786144032500586807:=0
def tw1511747438696027743:=0
def tw2779511349413106311:=0
def tw16990364786682689803:=0
def tw4299212883348345546:=0
def tw5169392628674871247:=0
def tw15772695252476052580:=0
def tw8376664693509023466:=0
def tw10916476519609682810:=0
def tw2594483710264100273:=0
def tw7688420085773344747:=0
def tw3257123744665370370:=0
def tw555668776121376683:=0
def tw7413681030188188515:=0
def tw15916003963192006187:=0
def tw16162477993535451906:=0
def tw1449285935089008290:=0
def tw1816436189188693128:=0
def tw14248211202206483962:=0
def tw13274669521922913440:=0
def tw2165981889373156776:=0
def tw8496988278752272616:=0
def tw7129775835939133338:=0
def tw15687154010812735762:=0
def tw7562016006318723944:=0
def tw13588233597117446005:=0
def tw10989819176955271370:=0
def tw8237014039605460424:=0
def tw3771297503538981805:=0
def tw1477586028509126983:=0
def tw9029500513969919971:=0
def tw4273883585224189475:=0
def tw5272489815165261580:=0
def tw2909793034448163254:=0
def tw4095066947849204775:=0
def tw3850489361259764130:=0
def tw7871146271117303345:=0
def tw3427199550758208269:=0
def tw8585954084855616540:=0
def tw16711183101635704265:=0
def tw4328291404319685960:=0
def tw4207148198403761241:=0
def tw12053020547627105906:=0
def tw15803370039698657975:=0
def tw5579604603219772106:=0
def tw8061358517392270918:=0
def tw1633140350989882754:=0
def tw9917212454606672623:=0
def tw15063619200268719230:=0
def tw5656300599095397454:=0
def tw3909678557018680553:=0
def tw2290318406037490171:=0
end PySem.W.Fast
set_option maxRecDepth 100000 in
set_option maxHeartbeats 0 in
theorem PySem.Challenge.cw_onefolk_k45_groups_told_holds : PySem.Challenge.rw_onefolk_k45_groups_told.Holds := by
 w_on;refine PySem.W.holds_law (by decide +kernel) λsaid=>?_
 k_head;(case hw=>w_witness2)
 k_fill
 refine P1.F7 (l:=PySem.Challenge.rw_onefolk_k45_groups_told) (T:=G45.T) (k:=9) (x := "_law_script") (st:=G45.s_law) (F_law:=G45.F_law) (λt=>t.x_law) ⟨rfl,by decide,by decide⟩ rfl (λw mg base t=>G45.EK t) rfl rfl G45.H1 G45.H2 (λ_ _ _ _ _ _ _=>rfl) (λw h Y=>PySem.W.km_in_of Y) (λw h _ _ _ _ X T=>⟨_,P1.D5 (by kernel_rfl) X T⟩) ?F
 case F=>
  intro w mg h KX G
  refine' ⟨PySem.W.mg_of KX G _,PySem.W.mg_of KX G _,P1.OW _ _ _ _,P1.mC KX G _ _ _ _,P1.mC KX G _ _ _ _,⟨_,_,_⟩,_,_,_,_,_,_,_,_,Qr KX G _,P1.mC KX G _ _ _ _,P1.mC KX G _ _ _ _,P1.mC KX G _ _ _ _,P1.mC KX G _ _ _ _,P1.mC KX G _ _ _ _,P1.mC KX G _ _ _ _,P1.mC KX G _ _ _ _,P1.mC KX G _ _ _ _,P1.mC KX G _ _ _ _,P1.mC KX G _ _ _ _,P1.mC KX G _ _ _ _,P1.mC KX G _ _ _ _,P1.mC KX G _ _ _ _,P1.mC KX G _ _ _ _,P1.mC KX G _ _ _ _,P1.mC KX G _ _ _ _,P1.mC KX G _ _ _ _,P1.mC KX G _ _ _ _,P1.mC KX G _ _ _ _,P1.mC KX G _ _ _ _,P1.mC KX G _ _ _ _,P1.mC KX G _ _ _ _,Qr KX G _,Qr KX G _,Qr KX G _,Qr KX G _,Qr KX G _,Qr KX G _,Qr KX G _,Qr KX G _,Qr KX G _,Qr KX G _,Qr KX G _,Qr KX G _⟩
  all_goals try (show _=_;k_is)
  all_goals try kernel_rfl
