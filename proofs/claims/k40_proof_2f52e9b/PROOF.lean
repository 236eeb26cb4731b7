import PyProof.Rows.All
import Wide.All
import OpenK.AllK
import Wide.FinOn
import Lean
import PySem.Challenge.RW_onefolk_k40_least_plans
open PySem.Heap renaming get?_push_of_some->zd,get?_push_size->zl,lt_size->zw,size_push->qk,get?_update_ne->JP,get?_update_self->KI,get?_update_other->gT,get?_push_ne->iO,size_update->jT
open List renaming mem_cons_self->zg,mem_cons_of_mem->zh,length_map->zk,map_cons->zr,size_toArray->zt,mem_append_right->zz,getElem?_map->z5,flatten_cons->Zs,length_append->ZA,map_append->ZE,getElem?_eq_getElem->ZH,length_cons->ZN,map_congr_left->ZT,map_map->ZY,getElem?_append_left->qi,replicate_succ->qo,not_mem_nil->qv,getElem?_eq_none->qA,all_eq_true->Qb,mem_cons->Qr,length_set->QE,nodup_nil->QQ,mem_append_left->QR,getElem?_append_right->QU,any_eq_true->Q1,foldl_cons->ja,length_take->jn,length_drop->js,getElem?_replicate->jI,nodup_append->j3,append_assoc->Jn,length_pos_of_mem->JS,any_cons->JY,getElem_mem->kc,rel_of_pairwise_cons->ki,map_nil->kl,map_id'->kn,flatMap_cons->kq,filter_cons->kz,find?_cons->kC,append_nil->kD,all_cons->kK,lookup_cons_self->kP,mem_of_getElem?->k5,getElem?_set_ne->k6,getElem?_range->k9,nil_append->Ki,filter_congr->KB,length_singleton->KG,any_map->KU,ne_nil_of_length_pos->ya,drop_eq_getElem_cons->yb,getElem?_set->yf,lookup_cons->yo,cons_ne_nil->yv,pairwise_mergeSort->yT,getElem?_cons_succ->yY,replicate->ab,mem_map->bc,mem_singleton->bo,getElem?_eq_some_iff->cc,mem_append->cf,range->cw,nodup_cons->cz,filter_sublist->da,mem_flatten->de,mem_filter->df,length_pos_iff->dg,mem_range->di,pairwise_map->dm,mem_iff_getElem->dq,length_eq_zero_iff->dt,pairwise_cons->du,length->dv,getElem?_set_self->dC,drop_eq_nil_of_le->dP,take_succ_eq_append_getElem->dQ,mem_flatMap->dS,length_replicate->dU,contains_iff_mem->dV,perm_append_comm->eg,length_filter_le->eh,of_mem_zip->ei,eq_nil_of_length_eq_zero->eA,filterMap_cons->eC,mergeSort_perm->eH,flatten_append->eJ,mem_filterMap->eR,zip_cons_cons->fg,filter_filter->fm,sum_cons->fA,take_sublist->fE,length_range->fR,ext_getElem?->fT,mem_of_find?_eq_some->gd,exists_mem_of_ne_nil->gf,all_map->gi,length_erase_of_mem->gz,nodup_range->gE,range_succ_eq_map->gX,countP_mono_left->hH,getElem?_zipWith->hI,getElem?_toArray->hJ,foldl->hO,length_eraseIdx->hV,mem_erase_of_ne->hX,getElem_of_mem->ia,filter_eq_self->ib,map_eq_nil_iff->ic,getElem_set_ne->ie,find?_eq_none->ip,append_of_mem->ix,filter_append->iA,mapM_toArray->iP,any_eq_false->i0,drop_sublist->i4,getElem_inj->i6,le_antisymm->i8,countP_cons->jV,getElem_map->ky,take_length->kG
open Nat renaming le_refl->zi,le_trans->zv,ne_of_lt->zI,le_of_ble_eq_true->z4,lt_of_lt_of_le->Zl,zero_le->qc,lt_succ_of_lt->qh,lt_of_le_of_lt->QA,lt_succ_self->QI,le_of_lt->QO,pow_le_pow_right->JO,lt_irrefl->JU,le_succ->kA,ne_of_gt->kB,pos_of_ne_zero->Kn,testBit_lt_two_pow->KF,succ_mul->ej,zero_add->ew,le_of_succ_le->fF,le_succ_of_le->fN,not_lt->fW,lt_trans->gg,le_of_eq->gh,succ_le_succ->gn,not_lt_zero->gL,min_eq_left->gS,le_of_succ_le_succ->hG,not_succ_le_zero->hW,mul_comm->ik,min_self->il,pow_succ->ir,one_le_two_pow->iL,lt_trichotomy->iX
open Bool renaming false_ne_true->zC,false_eq_true->zD,and_eq_true->ZO,not_eq_true'->Q2,false_and->kg,eq_iff_iff->kF,true_and->kL,and_true->kM,and_false->KA,not_false->eQ,false_or->ft,not_true->fu,or_eq_true->gH,decide_and->gN,or_false->hY,noConfusion->kH
open Int renaming toNat_natCast->Z3,natCast_pow->ez,toNat_of_nonneg->eK,fdiv_eq_ediv_of_nonneg->fq,zero_add->gu,eq_ofNat_of_zero_le->gG,emod_lt_of_pos->iq,le_refl->i5
open Array renaming length_toList->qV,size_append->kX,getElem?_eq_getElem->k8,toList_append->KS,append_assoc->K2,perm_iff_toList_perm->dz,getElem?_toList->ef,toArray_toList->ey,getElem?_eq_none->hE,toList->ij,toList_push->iS,toList_inj->i9,toList_map->km
open Or renaming inr->QN,inl->JJ
open Unit renaming unit->cr
local macro_rules|`(())=>`(by first|omega|decide)
open Option renaming map_some->Kb,isSome_iff_exists->dj,map_eq_some_iff->dE,isSome_some->eW,isNone_iff_eq_none->gc,bind_some->gm,getD_some->gp,isSome_map->iN,getD_none->i7,map_map->k3
open PySem.SetTable renaming below->dc,grown->dr,leap->dA,bits->fw,fits->hZ,runEnd->k0
open Prod renaming ext->eP,mk->la
open Option renaming some->Z,none->Y3
abbrev O:=List
abbrev Y:=Option
theorem S{α:Sort u}{a:α}:a=a:=rfl
open PySem renaming Value->A0,Addr->A1,Shared->A2,Program->A3,World->A4,Around->A5,Heap->A6,wpAny->A7,model->A8,starEach->A9,sizeLine->AA,Stmt->AB,Keyword->AC,backTo->AD,Obj->AE,codeAny->AF,compareOp->AG,bootBuiltins->AH,Paired->AI,Str->AJ
abbrev ad(x:AJ):=(x==("__debug__":AJ))=false
open PyProof.Rows renaming envOfC->AK,wpS_bind->AL,arrOf->AM
open PySem.W (methodObj keepIn cellsFrom_some fnOf codeIn nsIn mg_of kla_obj envX kla_fn)
set_option maxRecDepth 100000
set_option maxHeartbeats 4000000
set_option linter.all false
set_option Elab.async false
open PySem PySem.Spec PyProof.Rows
variable{w:A4}{i:Nat}{x:AJ}{a:A1}{prog:A3}{us:O A0}{u:A0}{κ:Type}{items:Array A0}{P:A3}{α β:Type}{e:Expr}{n:Nat}{mg:AJ->Y A0}{base:A6}{l:A1}{env:Env}{m:Nat}{AN:O (A1×AE)}{s:A2}{ns:O Int}{it:A1}{j:Nat}{M:Model}{A:A5}{Q:Y A0->A2->Prop}{hi:Y Int}{D:A1}{es:O Expr}{st:AB}{pos:Pos}{op:CmpOp}{y:AJ}{c tg:Expr}{fp:O A1}{tn:Nat->A6->Prop}{iter:Expr}{lo:Y Int}{pl:O Nat}{body:O AB}{C:A1}{AT:O A0}{name:AJ}{tpos:Pos}{fd:FuncData}{apos:Pos}{qual:AJ}{scope:Scope}{params:Arguments}{pm:A0}{osl:Array (Y A0)}{p2 cpos:Pos}{XP:(AJ->Y A0)->A6->Prop}{YP:A4->A6->Prop}{cl:O (AJ×A1)}{is:O Nat}{ifs:O Expr}{elt tgt:Expr}{el:A1->Env->Sem Unit}{B:A5->Bool->Prop}{comp:Expr}{RR:A0->A1->Result->A2->Prop}{ep:Nat}{rk:A0->Nat}{kd:SortKind}{W:O Keyed}{elts:O Expr}{x1:Nat}{γ δ:Type}{e2:Expr}{os:OsState}{bmB:O A0}{newId initId:String}{suite:O AB}{vn:O Int}
abbrev Ap:=O PySem.Str
abbrev BC:=PySem.Value->PySem.Shared->Prop
abbrev B5:=PySem.W.Frag
abbrev B7:=O Int
abbrev zb:=@wpAny_bind
abbrev ze:=@wpAny_pure
abbrev zo:=@if_pos
abbrev zS:=@if_neg
abbrev Zp:=@decide_eq_false
abbrev ZI:=@decide_eq_true
abbrev ZU:=@wpAny_mono
abbrev qa:=@wpAny_newObj_type
abbrev qf:=@PySem.W.mg_none_of
abbrev qr:=@wpAny_holding
abbrev qB:=@if_false
abbrev qS:=@decide_eq_true_eq
abbrev QP:=@wpAny_truthy_bool
abbrev QY:=@wpAny_standAt
abbrev Q3:=@wpAny_typeOf
abbrev Q4:=@codeAny_builtin
abbrev jb:=@wpAny_call_entry
abbrev jv:=@decide_eq_false_iff_not
abbrev jS:=@if_true
abbrev j0:=@Ne.symm
abbrev JA:=@PySem.mem_of_lookup
abbrev JE:=@Option.some.inj
abbrev JI:=@wpAny_comprehension_free
abbrev ke:=@wpAny_rule
abbrev ko:=@of_decide_eq_true
abbrev ku:=@Heap.SameBut.update
abbrev kQ:=@wpAny_setState_of
abbrev kR:=@wpAny_pyIter_list
abbrev kU:=@F.plain_list_iadd
abbrev k7:=@decide_false
abbrev Kj:=@List.cons.injEq
abbrev Kk:=@wpAny_load
abbrev Kt:=@wpAny_getItem_str_slice
abbrev Kx:=@wpAny_tryCatch
abbrev KL:=@wpAny_isInstance
abbrev KM:=@wpAny_newList
abbrev KO:=@decide_true
abbrev KP:=@wpAny_passesOwn
abbrev KW:=@wpAny_Call_Name_kw
abbrev K0:=@Obj.data_mapFields
abbrev ye:=@Calls.call_function_entry
abbrev yi:=@PySem.F.args_tuple_add_2
abbrev ym:=@List.Pairwise.imp_of_mem
abbrev yn:=@wpAny_askSetting
abbrev yz:=@wpAny_callSpecial?_slot
abbrev yA:=@PySem.F.plainAttrs_list
abbrev yB:=@PySem.F.entry_tuple_add
variable{ps:Ap}{K:B5}{L:O Ap}{N:Ap}{E:BC}{ys ts:Ap}{ws:O (O Ap)}{vx U:Ap}
namespace L2
abbrev An:=Sum Int AJ
def jz:An->A0->Bool
 |.inl k,v=>Value.isInt k v
 |.inr x,v=>Value.isStrOf x v
def TM(w:A4):An->Int
 |.inl k=>hashInt k
 |.inr x=>hashStr w x
theorem bF:∀{k:An} {v:A0},jz k v=true->(∃i t,k=Sum.inl i/\v=Value.int i t)\/(∃x t,k=Sum.inr x/\v=Value.str x t)
 |.inl i,v,h=>by
  obtain⟨t,e⟩:=Value.isInt_shape (k:=i) (v:=v) h;exact .inl ⟨i,t,rfl,e⟩
 |.inr x,v,h=>by
  obtain⟨t,e⟩:=Value.isStrOf_shape (x:=x) (v:=v) h;exact .inr ⟨x,t,rfl,e⟩
theorem TF(i:Int)(t:Tok):jz (.inl i) (.int i t)=true:=by simp[jz,Value.isInt]
theorem TJ(x:AJ)(t:Tok):jz (.inr x) (.str x t)=true:=by simp[jz,Value.isStrOf]
theorem ae(a b:Int):decide ((Sum.inl a:An)=Sum.inl b)=(a==b):=by
 by_cases e:a=b
 ·subst e;simp
 ·have h:¬ (Sum.inl a:An)=Sum.inl b:=λq=>e (Sum.inl.inj q);rw[Zp h];exact(beq_eq_false_iff_ne.mpr e).symm
theorem T'(a b:AJ):decide ((Sum.inr a:An)=Sum.inr b)=decide (a=b):=by
 by_cases e:a=b
 ·subst e;simp
 ·have h:¬ (Sum.inr a:An)=Sum.inr b:=λq=>e (Sum.inr.inj q);rw[Zp h,Zp e]
theorem Tl(a:Int)(b:AJ):decide ((Sum.inl a:An)=Sum.inr b)=false:=Zp (λq=>nomatch q)
theorem TD(a:AJ)(b:Int):decide ((Sum.inr a:An)=Sum.inl b)=false:=Zp (λq=>nomatch q)
def cH(prog:A3)(w:A4):PySem.KeyKind prog w An where
 is:=jz
 hash:=TM w
 inj:=λv a b g d=>by
  rcases bF g with⟨i,t,rfl,rfl⟩|⟨x,t,rfl,rfl⟩
  ·rcases bF d with⟨j,u,rfl,e⟩|⟨y,u,rfl,e⟩
   ·injection e with e1 _;rw[e1]
   ·exact nomatch e
  ·rcases bF d with⟨j,u,rfl,e⟩|⟨y,u,rfl,e⟩
   ·exact nomatch e
   ·injection e with e1 _;rw[e1]
 byValue:=λk v h=>by
  rcases bF h with⟨i,t,rfl,rfl⟩|⟨x,t,rfl,rfl⟩<;>rfl
 pyHash:=λc h=>by
  rcases bF c with⟨i,t,rfl,rfl⟩|⟨x,t,rfl,rfl⟩
  ·exact wpAny_pyHash_int h
  ·exact wpAny_pyHash_str h
 eqBool:=λf c h=>by
  rcases bF f with⟨i,t,rfl,rfl⟩|⟨x,t,rfl,rfl⟩
  ·rcases bF c with⟨j,u,rfl,rfl⟩|⟨y,u,rfl,rfl⟩
   ·rw[ae]at h;exact wpAny_eqBool_int h
   ·rw[Tl]at h;exact SeqAt.EqAt.int_str i t y u _ _ _ _ h
  ·rcases bF c with⟨j,u,rfl,rfl⟩|⟨y,u,rfl,rfl⟩
   ·rw[TD]at h;exact SeqAt.EqAt.str_int x t j u _ _ _ _ h
   ·rw[T']at h;exact wpAny_eqBool_str h
 «strs»:=λk x t v h=>by
  rcases bF h with⟨i,u,rfl,e⟩|⟨y,u,rfl,e⟩
  ·exact nomatch e
  ·injection e with e1 _;subst e1;cases v<;>rfl
theorem Kz(prog:A3)(w:A4)(i:Int)(t:Tok):(cH prog w).is (.inl i) (.int i t)=true:=TF i t
theorem KC(prog:A3)(w:A4)(x:AJ)(t:Tok):(cH prog w).is (.inr x) (.str x t)=true:=TJ x t
end L2
namespace L2
inductive V where
 |non|bl (b:Bool)|int (i:Int)|str (x:Str)|byt (b:Array UInt8)|flt (b:UInt64)|ref (a:Addr)|ty (n:String)
 deriving DecidableEq
def At:V->A0->Prop
 |.non,u=>u=Value.none
 |.bl b,u=>u=Value.bool b
 |.int i,u=>∃t,u=Value.int i t
 |.str x,u=>∃t,u=Value.str x t
 |.byt b,u=>∃t,u=Value.bytes b t
 |.flt b,u=>∃t,u=Value.float b t
 |.ref a,u=>u=Value.ref a
 |.ty n,u=>u=Value.type n
abbrev AZ:O V->O A0->Prop:=AI At
theorem AZ.length{xs:O V}{us:O A0}(r:AZ xs us):xs.length=us.length:=Paired.length r
theorem AZ.get:∀{xs:O V} {us:O A0} {i:Nat} {x:V},AZ xs us->xs[i]?=Z x->∃u,us[i]?=Z u/\At x u
 |_,_,_,_,.nil,e=>by simp at e
 |_,_,0,_,.cons r _,e=>by simp at e;subst e;exact⟨_,rfl,r⟩
 |_,_,i+1,x,.cons _ t,e=>by
  obtain⟨u,h1,h2⟩:=AZ.get (i:=i) (x:=x) t (by simpa using e);exact⟨u,by simpa using h1,h2⟩
theorem AZ.set{x:V}{u:A0}(r:At x u):∀{xs:O V} {us:O A0} (i:Nat),AZ xs us->AZ (xs.set i x) (us.set i u)
 |_,_,_,.nil=>.nil
 |_,_,0,.cons _ t=>.cons r t
 |_,_,i+1,.cons q t=>.cons q (AZ.set r i t)
theorem AZ.append:∀{xs ys:O V} {us ws:O A0},AZ xs us->AZ ys ws->AZ (xs++ys) (us++ws)
 |_,_,_,_,.nil,s=>s
 |_,_,_,_,.cons r t,s=>.cons r (AZ.append t s)
theorem AZ.take:∀{xs:O V} {us:O A0} (n:Nat),AZ xs us->AZ (xs.take n) (us.take n)
 |_,_,0,_=>.nil
 |_,_,_+1,.nil=>.nil
 |_,_,n+1,.cons r t=>.cons r (AZ.take n t)
theorem AZ.drop:∀{xs:O V} {us:O A0} (n:Nat),AZ xs us->AZ (xs.drop n) (us.drop n)
 |_,_,0,r=>r
 |_,_,_+1,.nil=>.nil
 |_,_,n+1,.cons _ t=>AZ.drop n t
def Fi:Y V->Y A0->Prop
 |some v,Z u=>At v u
 |none,Y3=>True
 |_,_=>False
def KV:O (κ×V)->O (κ×A0)->Prop:=AI λ(p:κ×V) (q:κ×A0)=>p.1=q.1/\At p.2 q.2
def kV:An->V
 |.inl i=>.int i
 |.inr x=>.str x
inductive HO where
 |lst (xs:List V)
 |tup (xs:List V)
 |dK (AO:List (An×V))|dT (AO:List (List An×V))
 |set (S:Int->Bool) (n:Nat)
 |ins (C dx:Addr) (fs:List (Str×V))
 |own (x:Addr)
 |xd (fs:List (Str×V))
 |met (f x:Addr)
 |rng (lo hi:Int)
 |jo (o:Obj) (u:HO)
 |Ib (ps:Array Value)
 |ext (φ:Heap->Prop)
abbrev Hp:=A1->Y HO
def B1(H:Hp)(a:A1)(o:HO):Hp:=λb=>if b=a then Z o else H b
theorem aJ{H:Hp}{o:HO}:B1 H a o a=Z o:=by unfold B1;rw[zo rfl]
theorem aF{H:Hp}{b:A1}{o:HO}(h:b≠a):B1 H a o b=H b:=by unfold B1;rw[zS h]
def pU(h:A6)(a:A1)(items:Array A0):Prop:=∃o,h.get? a=Z o/\o.cls=.type "tuple" ∧ (∃n,o.data=.seq items n)/\o.dict=Y3
theorem pU.weak{h:A6}(x:pU h a items):IsTup h a items:=let ⟨o,e,c,d,_⟩:=x;⟨o,e,c,d⟩
theorem pU.new(h:A6)(items:Array A0):pU (h.push { cls:=.type "tuple",data:=.seq items }) h.objs.size items:=⟨_,zl _ rfl,rfl,⟨_,rfl⟩,rfl⟩
theorem d9{H:Hp}{b:A1}{o u:HO}(h:H a=Z o)(h':H b=Z u)(d:o≠u):a≠b:=by
 intro e;subst e;rw[h]at h';exact d (JE h')
theorem bQ{H:Hp}{b:A1}{o:HO}(h:H a=Z o)(h':H b=Y3):a≠b:=by
 intro e;subst e;rw[h]at h';cases h'
def tq(ps:Array A0):AJ:=match ps[0]? with
 |some (Value.str q _)=>q
 |_ => ""
def tr(ps:Array A0):Array A0:=ps.extract 1 ps.size
def V7:Ap:=["most_word","longest_word","ground_of","least_for","nearest_pair"]
def GU(K:B5)(P:A1)(q:AJ):Prop:=∃c o vs x t,K.lookup c=Z o/\o.data=.fields vs/\vs[1]?=Z (.str x t)/\x∈V7/\vs[11]?=Z (.ref P)/\q=x++(".<locals>.<lambda>":AJ)
def ci(o:AE):Bool:=match o.data with
 |.fields vs=>match vs[1]? with
  |some (Value.str x _)=>!V7.contains x
  |_=>true
 |_=>true
def BT(K:B5)(H:Hp):Prop:=∀P q,GU K P q->∃ps,H P=Z (.Ib ps)/\tq ps=q/\0<ps.size
theorem BT.go{H H':Hp}(x:BT K H)(u:∀b ps,H b=Z (.Ib ps)->∃a,H' b=Z (.Ib (ps++a))):BT K H':=λP q k=>by
 obtain⟨ps,e,h,z⟩:=x P q k;obtain⟨a,e'⟩:=u P ps e;refine⟨_,e',?_,by rw[kX];omega⟩;rw[<-h];unfold tq;rw[Array.getElem?_append_left z]
section
variable(P:A3)(w:A4)
def dw(H:Hp)(h:A6)(a:A1):HO->Prop
 |.lst xs=>xs.length<=AA/\∃(AT:O A0) (n:Nat),AZ xs AT/\h.get? a=Z { cls:=.type "list",data:=.seq AT.toArray n }
 |.tup xs=>xs.length<=AA/\∃AT:O A0,AZ xs AT/\pU h a AT.toArray
 |.dK AO=>AO.length<=AA/\(a==sysModules)=false/\∃vs,KV AO vs/\h.DictOf (cH P w) a vs
 |.dT AO=>AO.length<=AA/\(a==sysModules)=false/\∃xs:O (O An×A1×A0),
   AI (λ(p:O An×V) (q:O An×A1×A0)=>p.1=q.1/\H q.2.1=Z (.tup (p.1.map kV))/\At p.2 q.2.2) AO xs ∧
   ∃o es ep,h.get? a=Z o/\o.ExactDict/\o.data=.dict es ep/\es.toList=xs.map (entryOfKey (tupleKind (cH P w)))/\(xs.map (·.1)).Nodup
 |.set S n=>h.SetOf (intKind P w) a S n
 |.ins C dx fs=>H dx=Z (.own a)/\fs.length<=1000/\dx≠a/\h.get? a=Z (PySem.W.instObj C dx) ∧
   ∃mA,h.Ns1 dx mA/\(∀f,Fi (fs.lookup f) (mA f))/\PySem.Within mA (fs.map (·.1))
 |.own _=>∃o,h.get? a=Z o
 |.xd fs=>∃mA,h.Ns1 a mA/\∀f,Fi (fs.lookup f) (mA f)
 |.rng lo hi=>∃t u v,h.get? a=Z { cls:=.type "range",data:=.fields #[.int lo t,.int hi u,.int 1 v] }
 |.jo o u=>h.get? a=Z o/\dw H h a u
 |.Ib ps=>∃d,h.get? a=Z { cls:=.none,data:=.fields (tr ps++d) }/\TriplesOk (tr ps++d).toList ∧
   ∀pos e,codeAmong pos (tr ps++d).toList=Z e->∃c g vs t,e=.ref c/\H c=Z (.jo g (.ext λ_=>True))/\g.data=.fields vs/\vs[1]?=Z (.str (tq ps) t)
 |.met f x=>h.get? a=Z (methodObj (.ref f) (.ref x))
 |.ext b=>b h/\(∃o,h.get? a=Z o)/\∀h1 h2:A6,b h1->(∀o,h1.get? a=Z o->h2.get? a=Z o)->b h2
def vP(H:Hp)(h:A6):Prop:=∀a o,H a=Z o->dw P w H h a o
end
section
variable{H H':Hp}{h h':A6}{o:HO}
theorem dw.lt(x:dw P w H h a o):a<h.objs.size:=by
 cases o with
 |lst xs=>obtain⟨_,_,_,_,e⟩:=x;exact zw e
 |tup xs=>obtain⟨_,_,_,p⟩:=x;exact p.weak.lt
 |dK AO=>obtain⟨_,_,_,_,o,_,_,e,_⟩:=x;exact zw e
 |dT AO=>obtain⟨_,_,_,_,o,_,_,e,_⟩:=x;exact zw e
 |set S n=>obtain⟨o,_,_,_,e,_⟩:=x;exact zw e
 |ins C dx fs=>obtain⟨_,_,_,e,_⟩:=x;exact zw e
 |own y=>obtain⟨_,e⟩:=x;exact zw e
 |xd fs=>obtain⟨_,⟨_,_,_,e,_⟩,_⟩:=x;exact zw e
 |rng lo hi=>obtain⟨_,_,_,e⟩:=x;exact zw e
 |jo b u=>obtain⟨e,_⟩:=x;exact zw e
 |Ib ps=>obtain⟨_,e,_⟩:=x;exact zw e
 |met f y=>exact zw (show h.get? a=Z _ from x)
 |ext c=>obtain⟨_,⟨_,e⟩,_⟩:=x;exact zw e
theorem Paired.Z2{α β:Type}{F G:α->β->Prop}:∀{d:O α} {c:O β},AI F d c->(∀a b,F a b->G a b)->AI G d c
 |_,_,.nil,_=>.nil
 |_,_,.cons r t,f=>.cons (f _ _ r) (Paired.Z2 t f)
theorem Paired.imp'{F G:α->β->Prop}(f:∀a b,F a b->G a b){d:O α}{c:O β}(r:AI F d c):AI G d c:=Paired.Z2 r f
theorem dw.stay(x:dw P w H h a o)(k:∀b u,(b=a\/H b=Z (.own a))->h.get? b=Z u->h'.get? b=Z u)
  (I:∀b,H b=Z (.own a)->H' b=Z (.own a)) (B:∀b xs,H b=Z (.tup xs)->H' b=Z (.tup xs)) (J:∀b o l,H b=Z (.jo o (.ext l))->H' b=Z (.jo o (.ext l))):dw P w H' h' a o:=by
 induction o with
 |lst xs=>obtain⟨z,AT,n,r,e⟩:=x;exact⟨z,AT,n,r,k _ _ (.inl rfl) e⟩
 |tup xs=>obtain⟨z,AT,r,i,e,c⟩:=x;exact⟨z,AT,r,i,k _ _ (.inl rfl) e,c⟩
 |dK AO=>obtain⟨z,y,vs,r,i,es,ep,e,c⟩:=x;exact⟨z,y,vs,r,i,es,ep,k _ _ (.inl rfl) e,c⟩
 |dT AO=>
  obtain⟨z,y,xs,r,i,es,ep,e,c⟩:=x;exact⟨z,y,xs,Paired.Z2 r λp q z=>⟨z.1,B _ _ z.2.1,z.2.2⟩,i,es,ep,k _ _ (.inl rfl) e,c⟩
 |set S n=>obtain⟨i,es,ep,t,e,c⟩:=x;exact⟨i,es,ep,t,k _ _ (.inl rfl) e,c⟩
 |ins C dx fs=>
  obtain⟨d,z,A,e,mA,⟨j,es,ep,e2,c⟩,r⟩:=x;exact⟨I _ d,z,A,k _ _ (.inl rfl) e,mA,⟨j,es,ep,k _ _ (.inr d) e2,c⟩,r⟩
 |own y=>obtain⟨i,e⟩:=x;exact⟨i,k _ _ (.inl rfl) e⟩
 |xd fs=>obtain⟨mA,⟨j,es,ep,e,c⟩,r⟩:=x;exact⟨mA,⟨j,es,ep,k _ _ (.inl rfl) e,c⟩,r⟩
 |rng lo hi=>obtain⟨t,u,v,e⟩:=x;exact⟨t,u,v,k _ _ (.inl rfl) e⟩
 |jo i u G=>obtain⟨e,q⟩:=x;exact⟨k _ _ (.inl rfl) e,G q⟩
 |Ib ps=>
  obtain⟨s,e,D,F⟩:=x;refine⟨s,k a _ (.inl rfl) e,D,λpos E z=>?_⟩;obtain⟨c,m,vs,t,rfl,g,d,v⟩:=F pos E z;exact⟨c,m,vs,t,rfl,J c m _ g,d,v⟩
 |met f y=>
  have e:h.get? a=Z (methodObj (.ref f) (.ref y)):=x;show h'.get? a=Z (methodObj (.ref f) (.ref y));exact k a _ (.inl rfl) e
 |ext l=>obtain⟨p,⟨o,e⟩,st⟩:=x;exact⟨st _ _ p λo q=>k _ _ (.inl rfl) q,⟨o,k _ _ (.inl rfl) e⟩,st⟩
theorem vP.lt(x:vP P w H h)(e:H a=Z o):a<h.objs.size:=(x a o e).lt
theorem vP.fresh(x:vP P w H h)(e:h.objs.size<=a):H a=Y3:=by
 cases q:H a with
 |none=>rfl
 |some u=>exact absurd (Zl (x.lt q) e) (JU _)
theorem vP.kept(x:vP P w H h)(k:∀b u,h.get? b=Z u->h'.get? b=Z u):vP P w H h':=λa o e=>
 (x a o e).stay (λb u _ q=>k b u q) (λ_ q=>q) (λ_ _ q=>q) λ_ _ _ q=>q
theorem vP.laid(x:vP P w H h)(k:∀b u,h.get? b=Z u->h'.get? b=Z u)(hp:h.objs.size<=a)(new:dw P w (B1 H a o) h' a o):vP P w (B1 H a o) h':=λb u e=>by
 have d:=x.fresh hp;by_cases f:b=a
 ·subst f;rw[aJ]at e;cases e;exact new
 ·rw[aF f]at e;exact(x b u e).stay (λc v _ q=>k c v q) (λc q=>by rw[aF (bQ q d)];exact q) (λc xs q=>by rw[aF (bQ q d)];exact q) λc o' g q=>by rw[aF (bQ q d)];exact q
end
def Rd(H:Hp)(a:A1)(u:HO):Prop:=H a=Z u\/∃o,H a=Z (.jo o u)
theorem Rd.ok{H:Hp}{h:A6}{u:HO}(r:Rd H a u)(x:vP P w H h):dw P w H h a u:=by
 rcases r with r|⟨o,r⟩
 ·exact x a u r
 ·obtain⟨_,q⟩:=x a _ r;exact q
def Eg:Y HO->Prop
 |some (.lst _)=>True
 |some (.dK _)=>True
 |some (.dT _)=>True
 |some (.set _ _)=>True
 |some (.ins _ _ _)=>True
 |some (.ext _)=>True
 |_=>False
section
variable{H:Hp}{h h':A6}{x e:A1}{o':HO}
theorem vP.write(ok:vP P w H h)(a:Eg (H x))(he:e=x\/H e=Z (.own x))(k:∀b u,b≠e->h.get? b=Z u->h'.get? b=Z u)(m:∃u,h'.get? e=Z u)
  (new:dw P w (B1 H x o') h' x o'):vP P w (B1 H x o') h':=λb u q=>by
 have j:∀c y,H c=Z (.own y)->c≠x:=λc y r z=>by subst z;rw[r]at a;exact a
 have n:∀c xs,H c=Z (.tup xs)->c≠x:=λc xs r z=>by subst z;rw[r]at a;exact a
 have p:∀c o' i,H c=Z (.jo o' i)->c≠x:=λc o' i r z=>by subst z;rw[r]at a;exact a
 by_cases f:b=x
 ·subst f;rw[aJ]at q;cases q;exact new
 ·rw[aF f]at q;by_cases g:b=e
  ·have l:H b=Z (.own x):=by
    rcases he with z|z
    ·exact absurd (g.trans z) f
    ·rw[g];exact z
   rw[q]at l;cases l;obtain⟨v,o⟩:=m;exact⟨v,by rw[g];exact o⟩
  ·refine(ok b u q).stay (λc v d r=>k c v ?_ r) (λc r=>by rw[aF (j c b r)];exact r) (λc xs r=>by rw[aF (n c xs r)];exact r) λc o' i r=>by rw[aF (p c o' _ r)];exact r
   rcases d with rfl|d
   ·exact g
   ·rintro rfl;rcases he with z|z
    ·exact j c b d z
    ·rw[d]at z;cases z;exact f rfl
end
structure Un (fs ex:List Addr) (H H':Hp) (h h':Heap):Prop where
 keep:∀b o,h.get? b=some o->H b=none->b∉fs->b∉ex->h'.get? b=some o
 slot:∀b o,h.get? b=some o->H b=none->b∈fs->b∉ex->∃sl,h'.get? b=some { o with slots:=sl }
 free:∀b o,h.get? b=some o->H b=none->b∉ex->H' b=none
 there:∀b o,h.get? b=some o->b∉ex->∃o',h'.get? b=some o'
 tups:∀b xs,H b=some (.tup xs)->H' b=some (.tup xs)
 z7:∀b o u,H b=some (.jo o u)->H' b=some (.jo o u)
 uT:∀b ps,H b=some (.Ib ps)->∃more,H' b=some (.Ib (ps++more))
section
variable{fs fs' ex ex':O A1}{H H1 H2:Hp}{h h1 h2 h':A6}{x e:A1}{o:HO}
theorem Un.any(u:Un fs ex H H1 h h1){b:A1}{a:AE}(q:h.get? b=Z a)(n:H b=Y3)(hx:b∉ex):∃sl,h1.get? b=Z { a with slots:=sl }:=by
 by_cases c:b∈fs
 ·exact u.slot b a q n c hx
 ·exact⟨a.slots,u.keep b a q n c hx⟩
theorem Un.kept(k:∀b u,h.get? b=Z u->h'.get? b=Z u):Un fs ex H H h h':=
 ⟨λb a q _ _ _=>k b a q,λb a q _ _ _=>⟨a.slots,k b a q⟩,λ_ _ _ n _=>n,λb a q _=>⟨a,k b a q⟩,λ_ _ q=>q,λ_ _ _ q=>q,λ_ ps q=>⟨#[],by rw[q];simp⟩⟩
theorem Un.refl:Un fs ex H H h h:=Un.kept λ_ _ q=>q
theorem Un.laid(k:∀b u,h.get? b=Z u->h'.get? b=Z u)(hp:h.objs.size<=a)(hn:H a=Y3):Un fs ex H (B1 H a o) h h' where
 keep:=λb u q _ _ _=>k b u q
 slot:=λb u q _ _ _=>⟨u.slots,k b u q⟩
 free:=λb u q n _=>by rw[aF (zI (Zl (zw q) hp))];exact n
 there:=λb u q _=>⟨u,k b u q⟩
 tups:=λb xs q=>by rw[aF (bQ q hn)];exact q
 z7:=λb u xs q=>by rw[aF (bQ q hn)];exact q
 uT:=λb ps q=>⟨#[],by rw[aF (bQ q hn),q];simp⟩
theorem Un.write(a:Eg (H x))(he:e=x\/H e=Z (.own x))(k:∀b u,b≠e->h.get? b=Z u->h'.get? b=Z u)(g:∃u,h'.get? e=Z u):Un fs ex H (B1 H x o) h h':=by
 have hx:∀b,H b=Y3->b≠x:=λb n z=>by subst z;rw[n]at a;exact a
 have d:∀b,H b=Y3->b≠e:=λb n z=>by
  subst z;rcases he with r|r
  ·exact hx b n r
  ·rw[n]at r;cases r
 have c:∀b u,H b=Z u->¬ Eg (Z u)->b≠x:=λb u q nm z=>by subst z;rw[q]at a;exact nm a
 refine⟨λb u q n _ _=>k b u (d b n) q,λb u q n _ _=>⟨u.slots,k b u (d b n) q⟩,λb u q n _=>by rw[aF (hx b n)];exact n,λb u q _=>?_,
  λb xs q=>by rw[aF (c b _ q λz=>z)];exact q,λb u xs q=>by rw[aF (c b _ q λz=>z)];exact q,λb ps q=>⟨#[],by rw[aF (c b _ q λz=>z),q];simp⟩⟩
 by_cases f:b=e
 ·subst f;exact g
 ·exact⟨u,k b u f q⟩
end
def FY(h:A6)(H:Hp):O A1:=(cw h.objs.size).filter λa=>(H a).isSome
def Ie(h:A6)(H:Hp):A6:=PySem.W.hideAll h (FY h H)
theorem TQ(h:A6)(H:Hp):(Ie h H).objs.size=h.objs.size:=PySem.W.hideAll_size _ _
theorem V8{h:A6}{H:Hp}{b:A1}{o:AE}(e:h.get? b=Z o)(n:H b=Y3):(Ie h H).get? b=Z o:=
 PySem.W.hideAll_get _ e λa=>by
  have q:(H b).isSome=true:=(df.mp a).2;rw[n]at q;simp at q
theorem Z4{h:A6}{H:Hp}{b:A1}{o:AE}(e:(Ie h H).get? b=Z o):h.get? b=Z o/\H b=Y3:=by
 have e':h.get? b=Z o:=PySem.W.of_hideAll (FY h H) e;refine⟨e',?_⟩;cases q:H b with
 |none=>rfl
 |some x=>
  have a:b∈FY h H:=df.mpr ⟨di.mpr (zw e'),by simp[q]⟩;have z:(Ie h H).get? b=Y3:=PySem.W.hideAll_none (FY h H) a;rw[z]at e;cases e
def Z5(g h:A6)(L:A1):O (A1×AE):=(cw h.objs.size).filterMap λa=>if a=L\/(g.get? a).isSome=true then Y3 else(h.get? a).map λo=>(a,o)
def AU(g h:A6)(L d:A1):O (A1×AE):=(Z5 g h L).filter λp=>decide (p.1≠d)
end L2
namespace L2
structure Mod (K:B5) (mg:Str->Option Value) (base:Heap):Prop where
 kin:K.In base
 glob:base.Ns mainGlobals mg
 blt:∃mb,base.Ns builtinsNs mb/\∀x:Str,x ≠ "__name__" → mb x=bootBuiltins x
 nolimit:base.NoLimit
 bmain:∃bm ob,mg "__builtins__"=some (.ref bm)/\bm≠builtinsNs/\base.get? bm=some ob/\ob.cls=.type "module" ∧ ob.dict=some builtinsNs/\ob.data=.plain
structure Cx where
 prog:Program
 w:World
 K:B5
 mg:Str->Option Value
 base:Heap
 A:Around
 N:Ap
 s₀:Shared
 H₀:Hp
 env:Env
 outer:List Env
 stack:List Env
 ex:List Addr
 fn:Str->Bool
 calm:Bool
 pn:List (Addr×Obj)
 xe:BC
abbrev bn(X:Cx):=A8 X.prog X.w
def Co(l:O Env):O A1:=l.filterMap (·.frame)
abbrev Cx.fs(X:Cx):O A1:=Co X.outer
def Ov(a:Scope)(x:AJ):Prop:=a.names.lookup x=Z .local\/a.names.lookup x=Z .cell\/a.names.lookup x=Z .free
def Cs(a:Scope)(x:AJ):Prop:=a.names.lookup x=Z .local\/a.names.lookup x=Z .cell
def IG(env:Env)(h:A6)(m:AJ->Y A0)(x:AJ)(u:A0):Prop:=
 (env.kindOf x=Z .local/\m x=Z u)\/((env.kindOf x=Z .cell\/env.kindOf x=Z .free)/\∃c,env.cells.lookup x=Z c/\h.IsCell c (Z u))
structure Cx.Ok (X:Cx):Prop where
 mod:Mod X.K X.mg X.base
 kind:X.env.scope.kind=.function
 glob:X.env.globals=mainGlobals
 blt:X.env.builtins=builtinsNs
 above:X.s₀.heap.objs.size<=X.env.locals
 inj:∀x y c,X.env.cells.lookup x=some c->X.env.cells.lookup y=some c->x=y
 has:∀x,(X.env.kindOf x=some .cell\/X.env.kindOf x=some .free)->∃c,X.env.cells.lookup x=some c
 cab:∀x c,X.fn x=true->X.env.cells.lookup x=some c->X.s₀.heap.objs.size<=c
 hd:X.calm=true->X.A.handled=none
 frames:X.A.frames=some X.stack
 stk:X.stack=X.outer\/(X.stack=X.env::X.outer/\X.env.frame=some X.env.locals)
 exf:∀b∈X.ex,b≠X.env.locals/\∀x c,X.env.cells.lookup x=some c->c≠b
 bs:∀b o,X.base.get? b=some o->X.s₀.heap.get? b=some o/\X.H₀ b=none
 Z6:X.base.objs.size<=X.s₀.heap.objs.size
 V9:∀b o,X.base.get? b=some o->b∉X.ex
 Z7:∀b∈X.ex,b∉X.fs
 Bq:X.s₀.heap.FunFrames X.base X.outer
 frf:∀b∈X.fs,X.H₀ b=none
 tabs:BT X.K X.H₀
structure AW (X:Cx) (AN:List (Addr×Obj)) (σ:List (Option V)) (H:Hp) (s:Shared):Prop where
 ok:X.Ok
 os:s.os=X.s₀.os
 bare:AllBare s.gens
 base:Un X.fs X.ex X.H₀ H X.s₀.heap s.heap
 loc:∃m,s.heap.Ns X.env.locals m/\∀(i:Nat) (x:Str) (v:V),X.N[i]?=some x->σ[i]?=some (some v)->Ov X.env.scope x->∃u,At v u/\IG X.env s.heap m x u
 cell:∀x c,X.env.cells.lookup x=some c->∃v,s.heap.IsCell c v
 free:H X.env.locals=none
 mU:∀x c,X.env.cells.lookup x=some c->H c=none
 pin:∀p∈X.pn++AN,s.heap.get? p.1=some p.2/\H p.1=none/\p.1≠X.env.locals/\p.1∉X.fs/\∀v,p.2.data≠.cell v
 hok:vP X.prog X.w H s.heap
 len:σ.length=X.N.length
section
variable{X:Cx}{σ:O (Y V)}{H H':Hp}{h':A6}
theorem Cx.Ok.aiY(ok:X.Ok){b:A1}{o:AE}(e:X.base.get? b=Z o):b∉X.fs:=λa=>by
 have:=(ok.Bq.mem a).1;rw[e]at this;cases this
theorem AW.bs(I:AW X AN σ H s):∀b o,X.base.get? b=Z o->s.heap.get? b=Z o/\H b=Y3:=λb o e=>
 ⟨I.base.keep b o (I.ok.bs b o e).1 (I.ok.bs b o e).2 (I.ok.aiY e) (I.ok.V9 b o e),I.base.free b o (I.ok.bs b o e).1 (I.ok.bs b o e).2 (I.ok.V9 b o e)⟩
theorem AW.bk(I:AW X AN σ H s):∀b o,X.base.get? b=Z o->s.heap.get? b=Z o:=λb o e=>(I.bs b o e).1
theorem AW.mod(I:AW X AN σ H s):Mod X.K X.mg X.base:=I.ok.mod
theorem AW.kIn(I:AW X AN σ H s):X.K.In s.heap:=I.ok.mod.kin.keeps I.bk
theorem AW.nolimit(I:AW X AN σ H s):s.heap.NoLimit:=I.ok.mod.nolimit.keeps I.bk
theorem AW.lt(I:AW X AN σ H s):X.env.locals<s.heap.objs.size:=let ⟨_,hn,_⟩:=I.loc;hn.lt
theorem AW.sz(I:AW X AN σ H s):X.s₀.heap.objs.size<=s.heap.objs.size:=zv I.ok.above (QO I.lt)
theorem AW.agm(I:AW X AN σ H s)(h:s.heap.objs.size<=a):a∉X.fs:=λc=>by
 obtain⟨_,o,b,_⟩:=I.ok.Bq.mem c;exact absurd (Zl (zw b) (zv I.sz h)) (JU _)
theorem AW.cne(I:AW X AN σ H s):∀x c,X.env.cells.lookup x=Z c->c≠X.env.locals:=λx c e z=>by
 obtain⟨v,o,a,hd⟩:=I.cell x c e;obtain⟨m,⟨o',es,ep,d,b,_⟩,_⟩:=I.loc;rw[z,d]at a;cases a;rw[b]at hd;cases hd
theorem AW.Bq(I:AW X AN σ H s):s.heap.FunFrames X.base X.outer:=by
 have all:∀(l:O Env),(∀b∈Co l,b∈X.fs)->X.s₀.heap.FunFrames X.base l->s.heap.FunFrames X.base l:=by
  intro l
  induction l with
  |nil=>intro _ _;trivial
  |cons env r i=>
   intro f j;obtain⟨hk,⟨L,o,d,h,m,hd⟩,g⟩:=j;have a:L∈X.fs:=f L (by unfold Co;rw[eC,d];exact zg);obtain⟨sl,e⟩:=I.base.slot L o m (I.ok.frf L a) a λz=>I.ok.Z7 L z a;exact⟨hk,⟨L,_,d,h,e,hd⟩,i (λb c=>f b (by unfold Co;rw[eC,d];exact zh _ c)) g⟩
 exact all X.outer (λ_ c=>c) I.ok.Bq
theorem AW.stack(I:AW X AN σ H s):s.heap.FunFrames X.base X.stack:=by
 rcases I.ok.stk with e|⟨e,b⟩
 ·rw[e];exact I.Bq
 ·rw[e];obtain⟨m,a,_⟩:=I.loc;refine .cons (by rw[I.ok.kind];decide) b a ?_ I.Bq;exact Heap.get?_none_of_le (zv I.ok.Z6 I.ok.above)
theorem AW.Br(I:AW X AN σ H s):∀b∈Co X.stack,b∈X.env.locals::X.fs:=λb a=>by
 rcases I.ok.stk with e|⟨e,c⟩
 ·rw[e]at a;exact zh _ a
 ·rw[e]at a;unfold Co at a;rw[eC,c]at a;exact a
theorem AW.Ig(I:AW X AN σ H s):∀b∈Co X.stack,H b=Y3:=λb a=>by
 rcases List.mem_cons.mp (I.Br b a)with e|a
 ·rw[e];exact I.free
 ·obtain⟨_,o,c,_⟩:=I.ok.Bq.mem a;exact I.base.free b o c (I.ok.frf b a) λz=>I.ok.Z7 b z a
theorem AW.step{g':Array GenState}{t':Nat}{d':Drawn}{ch:O A1}(I:AW X AN σ H s)
  (h:∀b∈ch,(b∈X.ex\/X.s₀.heap.objs.size<=b)/\b≠X.env.locals/\(∀x c,X.env.cells.lookup x=Z c->c≠b)/\∀p∈X.pn++AN,p.1≠b)
  (keep:∀b o,b≠X.env.locals->b∉X.fs->b∉ch->s.heap.get? b=Z o->H b=Y3->h'.get? b=Z o)
  (slot:∀b o,b≠X.env.locals->b∈X.fs->b∉ch->s.heap.get? b=Z o->H b=Y3->∃sl,h'.get? b=Z { o with slots:=sl }) (free:∀b o,b∉ch->s.heap.get? b=Z o->H b=Y3->H' b=Y3)
  (L:∀b o,b∉ch->s.heap.get? b=Z o->∃o',h'.get? b=Z o')
  (Q:∀b xs,H b=Z (.tup xs)->H' b=Z (.tup xs)) (F:∀b o u,H b=Z (.jo o u)->H' b=Z (.jo o u)) (E:∀b ps,H b=Z (.Ib ps)->∃J,H' b=Z (.Ib (ps++J)))
  (ns:∀m,s.heap.Ns X.env.locals m->h'.Ns X.env.locals m) (M:vP X.prog X.w H' h') (K:AllBare g'):
  AW X AN σ H' { s with heap:=h',gens:=g',drawn:=d',toks:=t' }:=by
 have B:∀b o,X.s₀.heap.get? b=Z o->b≠X.env.locals:=λb o e=>zI (Zl (zw e) I.ok.above);have j:∀b o,X.s₀.heap.get? b=Z o->b∉X.ex->b∉ch:=λb o e hx a=>by
  rcases(h b a).1 with z|z
  ·exact hx z
  ·exact absurd (Zl (zw e) z) (JU _)
 have D:∀x c,X.env.cells.lookup x=Z c->∀v,s.heap.IsCell c v->h'.IsCell c v:=λx c e v ⟨o,f,hd⟩=>by
  have g:c∉ch:=λz=>(h c z).2.2.1 x c e rfl;by_cases A:c∈X.fs
  ·obtain⟨sl,q⟩:=slot c o (I.cne x c e) A g f (I.mU x c e);exact⟨_,q,hd⟩
  ·exact⟨o,keep c o (I.cne x c e) A g f (I.mU x c e),hd⟩
 refine⟨I.ok,I.os,K,⟨λb o e n a hx=>?_,λb o e n a hx=>?_,λb o e n hx=>?_,λb o e hx=>?_,λb xs e=>Q b xs (I.base.tups b xs e),λb o xs e=>F b o xs (I.base.z7 b o xs e),λb ps e=>?_⟩,?_,λx c e=>?_,?_,λx c e=>?_,λp hp=>?_,M,I.len⟩
 ·exact keep b o (B b o e) a (j b o e hx) (I.base.keep b o e n a hx) (I.base.free b o e n hx)
 ·obtain⟨sl,e1⟩:=I.base.slot b o e n a hx;obtain⟨G,e2⟩:=slot b _ (B b o e) a (j b o e hx) e1 (I.base.free b o e n hx);exact⟨G,e2⟩
 ·obtain⟨o',e1⟩:=I.base.there b o e hx;exact free b o' (j b o e hx) e1 (I.base.free b o e n hx)
 ·obtain⟨o',e1⟩:=I.base.there b o e hx;exact L b o' (j b o e hx) e1
 ·obtain⟨P,e1⟩:=I.base.uT b ps e;obtain⟨m2,e2⟩:=E b _ e1;exact⟨P++m2,by rw[e2,K2]⟩
 ·obtain⟨m,N,U⟩:=I.loc;refine⟨m,ns m N,λi x v e1 e2 e3=>?_⟩;obtain⟨u,r,l⟩:=U i x v e1 e2 e3;refine⟨u,r,?_⟩;rcases l with l|⟨k,c,e,z⟩
  ·exact .inl l
  ·exact .inr ⟨k,c,e,D x c e _ z⟩
 ·obtain⟨v,z⟩:=I.cell x c e;exact⟨v,D x c e v z⟩
 ·obtain⟨m,⟨o,_,_,f,_⟩,_⟩:=I.loc;exact free _ o (λz=>(h _ z).2.1 S) f I.free
 ·obtain⟨v,o,f,hd⟩:=I.cell x c e;exact free c o (λz=>(h c z).2.2.1 x c e S) f (I.mU x c e)
 ·obtain⟨e,n,C,y,d⟩:=I.pin p hp;have g:p.1∉ch:=λz=>(h p.1 z).2.2.2 p hp rfl;exact⟨keep p.1 p.2 C y g e n,free p.1 p.2 g e n,C,y,d⟩
theorem AW.un{t':Nat}(I:AW X AN σ H s)(u:Un X.fs [] H H' s.heap h')(l:vP X.prog X.w H' h'):AW X AN σ H' { s with heap:=h',toks:=t' }:=by
 obtain⟨m,⟨o,es,ep,c,r⟩,_⟩:=id I.loc;obtain⟨sl,f⟩:=u.any c I.free (by simp);exact I.step (g':=s.gens) (d':=s.drawn) (ch:=[]) (λ_ z=>nomatch z) (λb o _ a _ e n=>u.keep b o e n a (by simp)) (λb o _ a _ e n=>u.slot b o e n a (by simp)) (λb o _ e n=>u.free b o e n (by simp)) (λb o _ e=>u.there b o e (by simp)) u.tups u.z7 u.uT (λp j=>by
  obtain⟨o',h,g,d,i⟩:=j;rw[c]at d;cases d;exact⟨_,h,g,f,i⟩) l I.bare
theorem AW.call{g':Array GenState}{t':Nat}{d':Drawn}{ch:O A1}(I:AW X AN σ H s)(u:Un (Co X.stack) ch H H' s.heap h')(A:vP X.prog X.w H' h')(q:AllBare g')
  (g:∀b∈ch,(b∈X.ex\/X.s₀.heap.objs.size<=b)/\b≠X.env.locals/\(∀x c,X.env.cells.lookup x=Z c->c≠b)/\∀p∈X.pn++AN,p.1≠b):
  AW X AN σ H' { s with heap:=h',gens:=g',drawn:=d',toks:=t' }:=by
 obtain⟨m,⟨o,es,ep,f,r⟩,_⟩:=id I.loc;obtain⟨sl,d⟩:=u.any f I.free λz=>(g _ z).2.1 rfl;exact I.step (ch:=ch) g (λb o d v a e n=>u.keep b o e n (λz=>(List.mem_cons.mp (I.Br b z)).elim d v) a) (λb o _ _ a e n=>u.any e n a) (λb o a e n=>u.free b o e n a) (λb o a e=>u.there b o e a) u.tups u.z7 u.uT (λB y=>by
  obtain⟨o',j,i,h,l⟩:=y;rw[f]at h;cases h;exact⟨_,j,i,d,l⟩) A q
theorem AW.turned{t':Nat}(I:AW X AN σ H s)(k:∀b o,b≠it->s.heap.get? b=Z o->h'.get? b=Z o)(hn:H it=Y3)(d:it≠X.env.locals)(h1:it∈X.ex\/X.s₀.heap.objs.size<=it)(h2:∀x c,X.env.cells.lookup x=Z c->c≠it)(g:∀p∈X.pn++AN,p.1≠it):AW X AN σ H { s with heap:=h',toks:=t' }:=by
 have f:∀b u,H b=Z u->b≠it:=λb u e z=>by rw[z,hn]at e;cases e
 refine I.step (g':=s.gens) (d':=s.drawn) (ch:=[it]) (λb h=>?_) (λb o _ _ a e _=>k b o (λz=>a (by simp[z])) e) (λb o _ _ a e _=>⟨o.slots,k b o (λz=>a (by simp[z])) e⟩) (λ_ _ _ _ n=>n)
  (λb o a e=>⟨o,k b o (λz=>a (by simp[z])) e⟩) (λ_ _ e=>e) (λ_ _ _ e=>e) (λb ps e=>⟨#[],by rw[e];simp⟩) (λm i=>?_) (λb u e=>?_) I.bare
 ·have e:b=it:=by simpa using h
  subst e;exact⟨h1,d,h2,g⟩
 ·obtain⟨o,es,ep,j,r⟩:=i;exact⟨o,es,ep,k _ o (j0 d) j,r⟩
 ·refine(I.hok b u e).stay (λc v a q=>k c v ?_ q) (λ_ q=>q) (λ_ _ q=>q) λ_ _ _ q=>q;rcases a with z|z
  ·rw[z];exact f b u e
  ·exact f c _ z
theorem AW.tok(I:AW X AN σ H s)(t:Nat):AW X AN σ H { s with toks:=t }:=I.un (h':=s.heap) (t':=t) Un.refl I.hok
theorem AW.kept{t':Nat}(I:AW X AN σ H s)(k:∀b u,s.heap.get? b=Z u->h'.get? b=Z u):AW X AN σ H { s with heap:=h',toks:=t' }:=I.un (Un.kept k) (I.hok.kept k)
theorem AW.laid{a:A1}{o:HO}{t':Nat}(I:AW X AN σ H s)(k:∀b u,s.heap.get? b=Z u->h'.get? b=Z u)(hp:s.heap.objs.size<=a)(new:dw X.prog X.w (B1 H a o) h' a o):
  AW X AN σ (B1 H a o) { s with heap:=h',toks:=t' }:=I.un (Un.laid k hp (I.hok.fresh hp)) (I.hok.laid k hp new)
theorem AW.write{x e:A1}{o:HO}{t':Nat}(I:AW X AN σ H s)(c:Eg (H x))(he:e=x\/H e=Z (.own x))(k:∀b u,b≠e->s.heap.get? b=Z u->h'.get? b=Z u)(a:∃u,h'.get? e=Z u)
  (new:dw X.prog X.w (B1 H x o) h' x o):AW X AN σ (B1 H x o) { s with heap:=h',toks:=t' }:=I.un (Un.write c he k a) (I.hok.write c he k a new)
theorem AW.tu{a:O (A1×AE)}(I:AW X AN σ H s)(h:∀p∈a,s.heap.get? p.1=Z p.2/\H p.1=Y3/\p.1≠X.env.locals/\p.1∉X.fs/\∀v,p.2.data≠.cell v):AW X a σ H s:=
 ⟨I.ok,I.os,I.bare,I.base,I.loc,I.cell,I.free,I.mU,λp hp=>(cf.mp hp).elim (λz=>I.pin p (QR _ z)) (h p),I.hok,I.len⟩
theorem KD(c:N.Nodup)(a:N[i]?=Z x)(b:N[j]?=Z x):i=j:=by
 obtain⟨h1,e1⟩:=cc.mp a;obtain⟨h2,e2⟩:=cc.mp b;exact(i6 c).mp (e1.trans e2.symm)
theorem TV{v:V}{Q:Unit->A2->Prop}(I:AW X AN σ H s)(hN:X.N.Nodup)(hi:X.N[i]?=Z x)(hx:Cs X.env.scope x)(r:At v u)(h:∀s',AW X AN (σ.set i (Z v)) H s'->(∃a,Heap.SameBut a s.heap s'.heap/\(a=X.env.locals\/X.env.cells.lookup x=Z a))->Q cr s')(hf:X.fn x=true\/X.env.scope.names.lookup x=Z .local:=by first|exact .inl rfl|exact .inr rfl|assumption):A7 M A (storeName X.env x u) Q E s:=by
 obtain⟨m,L,hl⟩:=id I.loc;have b0:(X.env.scope.kind==.class||(X.env.scope.kind==.module&&X.env.locals !=X.env.globals))=false:=by rw[I.ok.kind];rfl
 have a3:i<σ.length:=by rw[I.len];exact(cc.mp hi).1
 have cne:=I.cne;have W:∀{a:A1} {h':A6},(∃o,s.heap.get? a=Z o/\H a=Y3)->Heap.SameBut a s.heap h'->vP X.prog X.w H h':=λ{a h'} ha f b ob e=>by
  obtain⟨_,_,U⟩:=ha;refine(I.hok b ob e).stay (λc D g q=>(f.2 c ?_).trans q) (λ_ q=>q) (λ_ _ q=>q) λ_ _ _ q=>q;rintro rfl;rcases g with rfl|g
  ·rw[U]at e;cases e
  ·rw[U]at g;cases g
 rcases hx with hk|hk
 ·refine wpAny_storeName_local hk L (λh' a7 f=>?_) b0;obtain⟨oL,_,_,b3,_⟩:=id L;refine h _ ⟨I.ok,I.os,I.bare,⟨λb o e n B hx=>?_,λb o e n B hx=>?_,I.base.free,λb o e hx=>?_,I.base.tups,I.base.z7,I.base.uT⟩,⟨_,a7,λj y J e1 e2 e3=>?_⟩,λy c e=>?_,I.free,I.mU,λp hp=>?_,W ⟨oL,b3,I.free⟩ f,by simpa using I.len⟩ ⟨_,f,.inl rfl⟩
  ·exact(f.2 b (zI (Zl (zw e) I.ok.above))).trans (I.base.keep b o e n B hx)
  ·obtain⟨sl,e1⟩:=I.base.slot b o e n B hx;exact⟨sl,(f.2 b (zI (Zl (zw e) I.ok.above))).trans e1⟩
  ·obtain⟨o',e1⟩:=I.base.there b o e hx;exact⟨o',(f.2 b (zI (Zl (zw e) I.ok.above))).trans e1⟩
  ·by_cases l:j=i
   ·subst l;rw[hi]at e1;cases e1;rw[dC a3]at e2;cases e2;exact⟨u,r,.inl ⟨hk,by simp⟩⟩
   ·rw[k6 (j0 l)]at e2;obtain⟨G,K,q⟩:=hl j y J e1 e2 e3;refine⟨G,K,?_⟩;rcases q with⟨k,e⟩|⟨k,c,e,z⟩
    ·refine .inl ⟨k,?_⟩;have:y≠x:=λe=>l (KD hN e1 (e▸hi));simp[this,e]
    ·exact .inr ⟨k,c,e,z.sameBut f (cne y c e)⟩
  ·obtain⟨D,z⟩:=I.cell y c e;exact⟨D,z.sameBut f (cne y c e)⟩
  ·obtain⟨e,n,C,F,d⟩:=I.pin p hp;exact⟨(f.2 p.1 C).trans e,n,C,F,d⟩
 ·have P:X.fn x=true:=by
   rcases hf with z|z
   ·exact z
   ·rw[z]at hk;cases hk
  obtain⟨c,g⟩:=I.ok.has x (.inl hk);obtain⟨D,z⟩:=I.cell x c g;refine wpAny_storeName_cell I.ok.kind hk g z (λh' a5 f=>?_);obtain⟨oc,a6,b4⟩:=id z;refine h { s with heap:=h' } ⟨I.ok,I.os,I.bare,⟨λb o e n B hx=>?_,λb o e n B hx=>?_,I.base.free,λb o e hx=>?_,I.base.tups,I.base.z7,I.base.uT⟩,⟨m,L.sameBut f (j0 (cne x c g)),λj y J e1 e2 e3=>?_⟩,λy c' e=>?_,I.free,I.mU,λp hp=>?_,W ⟨oc,a6,I.mU x c g⟩ f,by simpa using I.len⟩ ⟨c,f,.inr g⟩
  ·exact(f.2 b (zI (Zl (zw e) (I.ok.cab x c P g)))).trans (I.base.keep b o e n B hx)
  ·obtain⟨sl,e1⟩:=I.base.slot b o e n B hx;exact⟨sl,(f.2 b (zI (Zl (zw e) (I.ok.cab x c P g)))).trans e1⟩
  ·obtain⟨o',e1⟩:=I.base.there b o e hx;exact⟨o',(f.2 b (zI (Zl (zw e) (I.ok.cab x c P g)))).trans e1⟩
  ·by_cases l:j=i
   ·subst l;rw[hi]at e1;cases e1;rw[dC a3]at e2;cases e2;exact⟨u,r,.inr ⟨.inl hk,c,g,a5⟩⟩
   ·rw[k6 (j0 l)]at e2;obtain⟨G,K,q⟩:=hl j y J e1 e2 e3;refine⟨G,K,?_⟩;rcases q with q|⟨k,c',e,z'⟩
    ·exact .inl q
    ·refine .inr ⟨k,c',e,z'.sameBut f ?_⟩;rintro rfl;exact l (KD hN e1 (I.ok.inj _ _ _ e g▸hi))
  ·by_cases a4:c'=c
   ·subst a4;exact⟨_,a5⟩
   ·obtain⟨w2,z2⟩:=I.cell y c' e;exact⟨w2,z2.sameBut f a4⟩
  ·obtain⟨e,n,C,F,d⟩:=I.pin p hp;refine⟨(f.2 p.1 ?_).trans e,n,C,F,d⟩;intro q;rw[q,a6]at e;have q':oc=p.2:=JE e;exact d D (by rw[<-q'];exact b4)
theorem vR{v:V}{Q:Unit->A2->Prop}(I:AW X AN σ H s)(a:X.N.Nodup)(hi:X.N[i]?=Z x)(hx:Cs X.env.scope x)(r:At v u)(h:∀s',AW X AN (σ.set i (Z v)) H s'->Q cr s')(c:X.fn x=true\/X.env.scope.names.lookup x=Z .local:=by first|exact .inl rfl|exact .inr rfl|assumption):A7 M A (storeName X.env x u) Q E s:=
 TV I a hi hx r (λs' b _=>h s' b) c
theorem AW.call'{s':A2}{ch:O A1}(I:AW X AN σ H s)(d:s'.os=s.os)(u:Un (Co X.stack) ch H H' s.heap s'.heap)(g:vP X.prog X.w H' s'.heap)(f:AllBare s'.gens)
  (a:∀b∈ch,(b∈X.ex\/X.s₀.heap.objs.size<=b)/\b≠X.env.locals/\(∀x c,X.env.cells.lookup x=Z c->c≠b)/\∀p∈X.pn++AN,p.1≠b):AW X AN σ H' s':=by
 obtain⟨h',g',d',t',o'⟩:=s';have e:o'=s.os:=d;subst e;exact I.call (g':=g') (t':=t') (d':=d') u g f a
end
abbrev XK:=A0->Y A1->Hp->Prop
abbrev St:=O (Y V)
abbrev VK:=V->Hp->Prop
abbrev TE:=St->Hp->VK->Prop
abbrev TT:=St->Hp->(Bool->Hp->Prop)->Prop
abbrev TA:=St->Hp->(O V->Hp->Prop)->Prop
structure BV where
 nx:St->Hp->Prop
 rt:VK
 bk:St->Hp->Prop:=λ_ _=>False
 ct:St->Hp->Prop:=λ_ _=>False
abbrev TS:=BV->St->Hp->Prop
def EP(X:Cx)(AN:O (A1×AE))(σ:St)(Q:VK)(u:A0)(s':A2):Prop:=∃v H',AW X AN σ H' s'/\At v u/\Q v H'
def TP(X:Cx)(AN:O (A1×AE))(σ:St)(Q:Bool->Hp->Prop)(b:Bool)(s':A2):Prop:=∃H',AW X AN σ H' s'/\Q b H'
def AP(X:Cx)(AN:O (A1×AE))(σ:St)(Q:O V->Hp->Prop)(us:O A0)(s':A2):Prop:=∃vs H',AW X AN σ H' s'/\AZ vs us/\Q vs H'
def SP(X:Cx)(AN:O (A1×AE))(D:BV)(f:Flow)(s':A2):Prop:=
 match f with
 |.next=>∃ σ' H',AW X AN σ' H' s'/\D.nx σ' H'
 |.brk=>∃ σ' H',AW X AN σ' H' s'/\D.bk σ' H'
 |.cont=>∃ σ' H',AW X AN σ' H' s'/\D.ct σ' H'
 |.ret u=>∃v σ' H',AW X AN σ' H' s'/\At v u/\D.rt v H'
def PE(X:Cx)(e:Expr)(t:TE):Prop:=
 ∀(AN:O (A1×AE)) (s:A2) (σ:St) (H:Hp) (Q:VK),AW X AN σ H s->t σ H Q->A7 (bn X) X.A (eval e X.env) (EP X AN σ Q) X.xe s
def PT(X:Cx)(e:Expr)(t:TT):Prop:=
 ∀(AN:O (A1×AE)) (s:A2) (σ:St) (H:Hp) (Q:Bool->Hp->Prop),AW X AN σ H s->t σ H Q->A7 (bn X) X.A (isTrue e X.env (eval e X.env)) (TP X AN σ Q) X.xe s
def PW(X:Cx)(e:Expr)(t:TT):Prop:=
 ∀(a:Sem A0) (AN:O (A1×AE)) (s:A2) (σ:St) (H:Hp) (Q:Bool->Hp->Prop),AW X AN σ H s->t σ H Q->A7 (bn X) X.A (isTrue e X.env a) (TP X AN σ Q) X.xe s
theorem PW.pt{X:Cx}{t:TT}(h:PW X e t):PT X e t:=h _
def PA(X:Cx)(es:O Expr)(t:TA):Prop:=
 ∀(pos:Pos) (AN:O (A1×AE)) (s:A2) (σ:St) (H:Hp) (Q:O V->Hp->Prop),AW X AN σ H s->t σ H Q->A7 (bn X) X.A (spliced (AD pos (A9 es X.env))) (AP X AN σ Q) X.xe s
def PS(X:Cx)(st:AB)(t:TS):Prop:=
 ∀(AN:O (A1×AE)) (s:A2) (σ:St) (H:Hp) (D:BV),AW X AN σ H s->t D σ H->A7 (bn X) X.A (exec st X.env) (SP X AN D) X.xe s
def KH(X:Cx)(st:O AB)(t:TS):Prop:=
 ∀(AN:O (A1×AE)) (s:A2) (σ:St) (H:Hp) (D:BV),AW X AN σ H s->t D σ H->A7 (bn X) X.A (execs st X.env) (SP X AN D) X.xe s
theorem fB{t:Sem α}{Q Q':α->A2->Prop}(h:A7 M A t Q E s)(b:∀a s,Q a s->Q' a s):A7 M A t Q' E s:=ZU h b λ_ _ x=>x
end L2
namespace L2
section
variable{X:Cx}
def TX(i:Nat):TE:=λσ H Q=>∃v,σ[i]?=Z (Z v)/\Q v H
def tC(v:V):TE:=λ_ H Q=>Q v H
theorem oV(p:X.N[i]?=Z x)(j:Ov X.env.scope x)(hd:ad x:=by decide)(g:(x==("__classdict__":AJ))=false:=by decide):PE X (.Name x pos) (TX i):=by
 intro AN s σ H Q I h;obtain⟨v,e,h⟩:=h;obtain⟨m,f,o⟩:=I.loc;obtain⟨u,r,l⟩:=o i x v p e j;have a:EP X AN σ Q u s:=⟨v,H,I,r,h⟩;rcases l with⟨hk,n⟩|⟨hk,c,b,d⟩
 ·exact wpAny_Name (wpAny_loadName_local I.ok.kind hk f n a) hd
 ·rcases hk with hk|hk
  ·exact wpAny_Name (wpAny_loadName_cell I.ok.kind hk b d a) hd
  ·exact wpAny_Name (wpAny_loadName_free I.ok.kind hk b d a g) hd
theorem Of{i j pos}:PE X (.Constant (.int i) j pos) (tC (.int i)):=λ_ _ _ H _ I h=>wpAny_Constant_int ⟨.int i,H,I.tok _,⟨_,rfl⟩,h⟩
theorem Wa{b j pos}:PE X (.Constant (.bool b) j pos) (tC (.bl b)):=λ_ _ _ H _ I h=>Constant_bool ⟨.bl b,H,I,rfl,h⟩
theorem UH{j pos}:PE X (.Constant .none j pos) (tC .non):=λ_ _ _ H _ I h=>Constant_none ⟨.non,H,I,rfl,h⟩
theorem Sa{x j pos}:PE X (.Constant (.str x) j pos) (tC (.str x)):=λ_ _ _ H _ I h=>Calls.Constant_str ⟨.str x,H,I.tok _,⟨_,rfl⟩,h⟩
def Gl(X:Cx)(x:AJ):Prop:=X.env.kindOf x=Z .globalImplicit
theorem Z8{σ:St}{H:Hp}{Q:BC}(I:AW X AN σ H s)(b:Gl X x)(a:X.mg x=Z u)(h:Q u s)(hd:ad x:=by decide):A7 (bn X) X.A (eval (.Name x pos) X.env) Q E s:=
 Calls.Name_function_global I.ok.kind b (Calls.loadGlobal_global (by rw[I.ok.glob];exact I.mod.glob.keeps I.bk) a h) hd
theorem rA{σ:St}{H:Hp}{Q:BC}(I:AW X AN σ H s)(b:Gl X x)(a:X.mg x=Y3)(c:AH x=Z u)(h:Q u s)(hn:x ≠ "__name__":=by decide)(hd:ad x:=by decide):A7 (bn X) X.A (eval (.Name x pos) X.env) Q E s:=by
 obtain⟨d,h1,h2⟩:=I.mod.blt;exact Calls.Name_function_global I.ok.kind b (Calls.loadGlobal_builtin (by rw[I.ok.glob];exact I.mod.glob.keeps I.bk) a (by rw[I.ok.blt];exact h1.keeps I.bk) ((h2 x hn).trans c) h) hd
theorem Ih{v:V}(b:Gl X x)(a:X.mg x=Y3)(c:AH x=Z u)(r:At v u)(hn:x ≠ "__name__":=by decide)(hd:ad x:=by decide):PE X (.Name x pos) (tC v):=
 λ_ _ _ H _ I h=>rA I b a c ⟨v,H,I,r,h⟩ hn hd
variable{a b:Expr}{ta tb:TE}
def PC(X:Cx)(op:CmpOp)(a b:Expr)(t:TE):Prop:=
 ∀(AN:O (A1×AE)) (s:A2) (σ:St) (H:Hp) (Q:VK),AW X AN σ H s->t σ H Q →
  A7 (bn X) X.A (eval a X.env) (λv c=>A7 (bn X) X.A (eval b X.env) (λu d=>A7 (bn X) X.A (AG op v u) (EP X AN σ Q) X.xe d) X.xe c) X.xe s
theorem Wb(b:Expr)(h:op≠.In)(h2:op≠.NotIn):behindInMarks op b=false:=by
 have e1:(op==CmpOp.In)=false:=by cases op<;>first|rfl|exact absurd S h
 have e2:(op==CmpOp.NotIn)=false:=by cases op<;>first|rfl|exact absurd S h2
 cases b<;>simp[behindInMarks,e1,e2]
def tB(t:TE):TT:=λσ H Q=>t σ H λx H1=>∃c,x=.bl c/\Q c H1
theorem cS{t:TE}(h:PC X op a b t)(h1:behindInMarks op b=false:=by first|exact Wb _ () ()|rfl):PT X (.Compare a [op] [b] pos) (tB t):=by
 intro AN s σ H Q I e;refine wpAny_isTrue_Compare1 (fB (h AN s σ H _ I e) λv g h1=>fB h1 λu f h2=>fB h2 λc s3 ⟨x,H1,I1,r1,q1⟩=>?_) h1;obtain⟨d,rfl,q⟩:=q1;cases r1;exact QP ⟨H1,I1,q⟩
variable{tA tB':TT}{AU:O Expr}
def L3(t u:TT):TT:=λσ H Q=>t σ H λc H1=>if c=true then u σ H1 Q else Q false H1
def LZ(t u:TT):TT:=λσ H Q=>t σ H λc H1=>if c=true then Q true H1 else u σ H1 Q
def aE(t:TT):TT:=λσ H Q=>t σ H λc H1=>Q (!c) H1
theorem Z9(b:PT X a tA):PW X (.BoolOp .And [a] pos) tA:=by
 intro d AN s σ H Q I h;refine isTrue_and (fB (b AN s σ H Q I h) λc f e=>?_);cases c with
 |true=>exact isTrue_and_nil e
 |false=>exact e
theorem XO(b:PT X a tA):PW X (.BoolOp .Or [a] pos) tA:=by
 intro d AN s σ H Q I h;refine isTrue_or (fB (b AN s σ H Q I h) λc f e=>?_);cases c with
 |false=>exact isTrue_or_nil e
 |true=>exact e
theorem XB(f:PT X a tA)(e:PW X (.BoolOp .And (b::AU) pos) tB'):PW X (.BoolOp .And (a::b::AU) pos) (L3 tA tB'):=by
 intro d AN s σ H Q I h;refine isTrue_and (fB (f AN s σ H _ I h) λc s1 ⟨H1,I1,q1⟩=>?_);cases c with
 |true=>exact e d AN s1 σ H1 Q I1 q1
 |false=>exact⟨H1,I1,q1⟩
theorem az(f:PT X a tA)(e:PW X (.BoolOp .Or (b::AU) pos) tB'):PW X (.BoolOp .Or (a::b::AU) pos) (LZ tA tB'):=by
 intro d AN s σ H Q I h;refine isTrue_or (fB (f AN s σ H _ I h) λc s1 ⟨H1,I1,q1⟩=>?_);cases c with
 |true=>exact⟨H1,I1,q1⟩
 |false=>exact e d AN s1 σ H1 Q I1 q1
theorem S0(b:PT X a tA):PT X (.UnaryOp .Not a pos) (aE tA):=by
 intro AN s σ H Q I h;exact isTrue_not (b AN s σ H (λc H1=>Q (!c) H1) I h)
def Pw(ta tb:TE):TE:=λσ H Q=>ta σ H λx H1=>∃c,x=.bl c/\if c=true then tb σ H1 Q else Q (.bl false) H1
def NF(ta:TE):TE:=λσ H Q=>ta σ H λx H1=>∃c,x=.bl c/\Q (.bl (!c)) H1
theorem OZ{op}{t:TE}(h:PE X a t):PE X (.BoolOp op [a] pos) t:=λAN s σ H Q I b=>BoolOp_one (h AN s σ H Q I b)
theorem NH(e:PE X a ta)(d:PE X (.BoolOp .And (b::AU) pos) tb):PE X (.BoolOp .And (a::b::AU) pos) (Pw ta tb):=by
 intro AN s σ H Q I h;refine BoolOp_and (fB (e AN s σ H _ I h) λv s1 ⟨x,H1,I1,r1,q1⟩=>?_);obtain⟨c,rfl,q1⟩:=q1;cases r1;refine QP ?_;cases c with
 |true=>exact d AN s1 σ H1 Q I1 q1
 |false=>exact⟨.bl false,H1,I1,rfl,q1⟩
theorem UM(b:PE X a ta):PE X (.UnaryOp .Not a pos) (NF ta):=by
 intro AN s σ H Q I h;refine UnaryOp_ (fB (b AN s σ H _ I h) λv s1 ⟨x,H1,I1,r1,q1⟩=>?_);obtain⟨c,rfl,q1⟩:=q1;cases r1;exact not_of (QP ⟨.bl (!c),H1,I1,rfl,q1⟩)
end
end L2
namespace L2
def nG(K:B5)(H:Hp)(a:A1)(xs:O V):Prop:=
 Rd H a (.lst xs) ∨
  ∃(o:AE) (AT:Array A0) (n:Nat),K.lookup a=Z o/\o.cls=.type "list" ∧ o.dict=Y3/\o.data=.seq AT n/\AT.size<=AA/\AZ xs AT.toList
def vU(K:B5)(H:Hp)(a:A1)(xs:O V):Prop:=
 Rd H a (.tup xs) ∨
  ∃(o:AE) (AT:Array A0) (n:Nat),K.lookup a=Z o/\(o.cls=.type "tuple" ∧ o.dict=Y3)/\o.data=.seq AT n/\AT.size<=AA/\AZ xs AT.toList
def IA:A0->Y V
 |.none=>Z .non
 |.bool b=>Z (.bl b)
 |.int i _=>Z (.int i)
 |.str x _=>Z (.str x)
 |.bytes b _=>Z (.byt b)
 |.float b _=>Z (.flt b)
 |.ref a=>Z (.ref a)
 |.type n=>Z (.ty n)
 |_=>Y3
theorem At.abs{x:V}(r:At x u):IA u=Z x:=by
 cases x with
 |non=>cases r;rfl
 |bl _=>cases r;rfl
 |int _=>obtain⟨t,rfl⟩:=r;rfl
 |str _=>obtain⟨t,rfl⟩:=r;rfl
 |byt _=>obtain⟨t,rfl⟩:=r;rfl
 |flt _=>obtain⟨t,rfl⟩:=r;rfl
 |ref _=>cases r;rfl
 |ty _=>cases r;rfl
theorem At.inj{x y:V}{u:A0}(r:At x u)(q:At y u):x=y:=JE (r.abs.symm.trans q.abs)
theorem AZ.inj:∀{xs ys:O V} {us:O A0},AZ xs us->AZ ys us->xs=ys
 |_,_,_,.nil,.nil=>rfl
 |_,_,_,.cons r t,.cons r' t'=>by rw[r.inj r',AZ.inj t t']
section
variable{X:Cx}{σ:St}{H:Hp}{xs ys:O V}
theorem AW.list(I:AW X AN σ H s)(h:nG X.K H a xs):∃AT:O A0,AZ xs AT/\PlainL s.heap a AT.toArray/\xs.length<=AA:=by
 rcases h with h|⟨o,AT,n,hk,b,hd,c,d,r⟩
 ·obtain⟨z,AT,n,r,e⟩:=h.ok I.hok;exact⟨AT,r,⟨_,n,e,rfl,rfl,rfl⟩,z⟩
 ·refine⟨AT.toList,r,⟨o,n,I.kIn a o hk,b,hd,by simpa using c⟩,?_⟩;have e:=r.length;simp only[qV]at e;omega
theorem AW.tuple(I:AW X AN σ H s)(h:vU X.K H a xs):∃AT:O A0,AZ xs AT/\IsTup s.heap a AT.toArray/\xs.length<=AA:=by
 rcases h with h|⟨o,AT,n,hk,b,c,d,r⟩
 ·obtain⟨z,AT,r,p⟩:=h.ok I.hok;exact⟨AT,r,p.weak,z⟩
 ·refine⟨AT.toList,r,⟨o,I.kIn a o hk,b.1,n,by simpa using c⟩,?_⟩;have e:=r.length;simp only[qV]at e;omega
theorem AW.Bu(I:AW X AN σ H s)(h:nG X.K H a xs)(h':nG X.K H a ys):xs=ys:=by
 obtain⟨AT,r,⟨o,n,e,_,_,d⟩,_⟩:=I.list h;obtain⟨f,c,⟨o',i,e',_,_,b⟩,_⟩:=I.list h';rw[e]at e';cases e';rw[d]at b;injection b with g _;have:AT=f:=by simpa using congrArg ij g
 subst this;exact r.inj c
theorem AW.Gm(I:AW X AN σ H s)(h:vU X.K H a xs)(h':vU X.K H a ys):xs=ys:=by
 obtain⟨AT,r,⟨o,e,_,n,d⟩,_⟩:=I.tuple h;obtain⟨f,c,⟨o',e',_,i,b⟩,_⟩:=I.tuple h';rw[e]at e';cases e';rw[d]at b;injection b with g _;have:AT=f:=by simpa using congrArg ij g
 subst this;exact r.inj c
end
abbrev Cx.wish(X:Cx)(E:BC):Cx:={ X with xe:=E }
abbrev Cx.ZS(X:Cx):Cx:=X.wish λ_ _=>False
theorem Cx.Ok.wish{X:Cx}(ok:X.Ok)(E:BC):(X.wish E).Ok:=
 ⟨ok.mod,ok.kind,ok.glob,ok.blt,ok.above,ok.inj,ok.has,ok.cab,ok.hd,ok.frames,ok.stk,ok.exf,ok.bs,ok.Z6,ok.V9,ok.Z7,ok.Bq,ok.frf,ok.tabs⟩
theorem Cx.Ok.rB{X:Cx}(ok:(X.wish E).Ok):X.Ok:=
 ⟨ok.mod,ok.kind,ok.glob,ok.blt,ok.above,ok.inj,ok.has,ok.cab,ok.hd,ok.frames,ok.stk,ok.exf,ok.bs,ok.Z6,ok.V9,ok.Z7,ok.Bq,ok.frf,ok.tabs⟩
section
variable{X:Cx}{σ:St}{H:Hp}
theorem AW.wish(I:AW X AN σ H s)(E:BC):AW (X.wish E) AN σ H s:=⟨I.ok.wish E,I.os,I.bare,I.base,I.loc,I.cell,I.free,I.mU,I.pin,I.hok,I.len⟩
theorem AW.rB(I:AW (X.wish E) AN σ H s):AW X AN σ H s:=⟨I.ok.rB,I.os,I.bare,I.base,I.loc,I.cell,I.free,I.mU,I.pin,I.hok,I.len⟩
theorem SP.rB{D:BV}{f:Flow}{s':A2}(h:SP (X.wish E) AN D f s'):SP X AN D f s':=by
 cases f with
 |next=>obtain⟨σ',H',I,q⟩:=h;exact⟨σ',H',I.rB,q⟩
 |brk=>obtain⟨σ',H',I,q⟩:=h;exact⟨σ',H',I.rB,q⟩
 |cont=>obtain⟨σ',H',I,q⟩:=h;exact⟨σ',H',I.rB,q⟩
 |ret u=>obtain⟨v,σ',H',I,r,q⟩:=h;exact⟨v,σ',H',I.rB,r,q⟩
theorem KH.ZS{st:O AB}{t:TS}(h:KH X.ZS st t):KH X st t:=λAN s σ H D I a=>
 ZU (h AN s σ H D (I.wish _) a) (λ_ _ q=>q.rB) λ_ _ z=>False.elim z
end
section
variable{X:Cx}{AU:O AB}{t u:TS}{te:TE}
def bg:TS:=λD σ H=>D.nx σ H
def WJ(t u:TS):TS:=λD σ H=>t { D with nx:=u D } σ H
theorem Aq:KH X [] bg:=λ_ _ σ H _ I h=>wpAny_execs_nil ⟨σ,H,I,h⟩
theorem jA(h1:PS X st t)(h2:KH X AU u):KH X (st::AU) (WJ t u):=by
 intro AN s σ H D I h;refine wpAny_execs_cons (fB (h1 AN s σ H { D with nx:=u D } I h) λf b q=>?_);cases f with
 |next=>
  obtain⟨σ',H',a,q⟩:=q;exact h2 AN b σ' H' D a q
 |ret v=>exact q
 |brk=>exact q
 |cont=>exact q
theorem nQ(h1:PS X st t):KH X [st] t:=by
 intro AN s σ H D I h;refine wpAny_execs_cons (fB (h1 AN s σ H D I h) λf a q=>?_);cases f with
 |next=>exact wpAny_execs_nil q
 |ret v=>exact q
 |brk=>exact q
 |cont=>exact q
theorem AW.quiet{σ:St}{H:Hp}(I:AW X AN σ H s):interactive X.env=false:=by simp[interactive,I.ok.kind]
def Sc(te:TE):TS:=λD σ H=>te σ H λ_ H1=>D.nx σ H1
theorem Ii(he:PE X e te)(hs:swapsWith e Y3 pos.line X.env=pure false:=by rfl):PS X (.Expr e pos) (Sc te):=by
 intro AN s σ H D I h;exact wpAny_Expr_any (fB (he AN s σ H _ I h) λv s1 ⟨x,H1,I1,r1,q1⟩=>⟨σ,H1,I1,q1⟩) I.quiet hs
def LJ(te:TE):TS:=λD σ H=>te σ H D.rt
theorem uU(he:PE X e te):PS X (.Return (Z e) pos) (LJ te):=by
 intro AN s σ H D I h;exact wpAny_Return_some (fB (he AN s σ H _ I h) λv s1 ⟨x,H1,I1,r1,q1⟩=>⟨x,σ,H1,I1,r1,q1⟩)
def bz(c:TT)(t u:TS):TS:=λD σ H=>c σ H λb H1=>if b=true then t D σ H1 else u D σ H1
theorem Rm{a b:O AB}{tc:TT}(e:PT X c tc)(g:KH X a t)(f:KH X b u):PS X (.If c a b pos) (bz tc t u):=by
 intro AN s σ H D I h;refine wpAny_If (fB (e AN s σ H _ I h) λd s1 ⟨H1,I1,q1⟩=>?_);cases d with
 |true=>exact g AN s1 σ H1 D I1 q1
 |false=>exact f AN s1 σ H1 D I1 q1
end
abbrev TG:=V->St->Hp->(St->Hp->Prop)->Prop
abbrev DO:=O V->St->Hp->(St->Hp->Prop)->Prop
def PG(X:Cx)(a:Expr)(t:TG):Prop:=
 ∀(AN:O (A1×AE)) (s:A2) (σ:St) (H:Hp) (v:V) (u:A0) (Q:St->Hp->Prop),AW X AN σ H s->At v u->t v σ H Q →
  A7 (bn X) X.A (assign a X.env u) (λ_ s'=>∃ σ' H',AW X AN σ' H' s'/\Q σ' H') X.xe s
def Ro(X:Cx)(ts:O Expr)(t:DO):Prop:=
 ∀(AN:O (A1×AE)) (s:A2) (σ:St) (H:Hp) (vs:O V) (us:O A0) (Q:St->Hp->Prop),AW X AN σ H s->AZ vs us->t vs σ H Q →
  A7 (bn X) X.A (assignInOrder ((assignEach ts X.env).map (·.2)) us) (λ_ s'=>∃ σ' H',AW X AN σ' H' s'/\Q σ' H') X.xe s
abbrev IE:=V->V->V->Hp->(Hp->Prop)->Prop
def IS(X:Cx)(t:IE):Prop:=
 ∀(AN:O (A1×AE)) (s:A2) (σ:St) (H:Hp) (o i v:V) (a iv u:A0) (Q:Hp->Prop),AW X AN σ H s->At o a->At i iv->At v u->t o i v H Q →
  A7 (bn X) X.A (setItem a iv u) (λ_ s'=>∃H',AW X AN σ H' s'/\Q H') X.xe s
section
variable{X:Cx}
def Mc(i:Nat):TG:=λv σ H Q=>Q (σ.set i (Z v)) H
theorem jB(a:X.N.Nodup)(hi:X.N[i]?=Z x)(hx:Cs X.env.scope x)(c:X.fn x=true\/X.env.scope.names.lookup x=Z .local:=by first|exact .inl rfl|exact .inr rfl|assumption):PG X (.Name x pos) (Mc i):=by
 intro AN s σ H v u Q I r h;exact wpAny_assign_Name (vR I a hi hx r (λs' b=>⟨_,H,b,h⟩) c)
def To:DO:=λvs σ H Q=>vs=[]/\Q σ H
def PU(t:TG)(u:DO):DO:=λvs σ H Q=>∃v r,vs=v::r/\t v σ H λσ' H'=>u r σ' H' Q
theorem Ar:Ro X [] To:=by
 intro AN s σ H vs us Q I r h;obtain⟨e,h⟩:=h;subst e;cases r;exact assignInOrder_nil ⟨σ,H,I,h⟩
theorem mV{t:TG}{u:DO}(h1:PG X e t)(h2:Ro X es u)(hs:(assignEach (e::es) X.env).map (·.2)=assign e X.env::(assignEach es X.env).map (·.2):=by rfl):Ro X (e::es) (PU t u):=by
 intro AN s σ H vs us Q I r h;obtain⟨v,b,e1,h⟩:=h;subst e1;cases r with
 |cons r a=>
  rw[hs];refine assignInOrder_cons (fB (h1 AN s σ H _ _ _ I r h) λ_ s1 ⟨σ1,H1,I1,q1⟩=>?_);exact h2 AN s1 σ1 H1 _ _ Q I1 a q1
def PP(K:B5)(n:Nat)(t:DO):TG:=λv σ H Q=>∃a xs,v=.ref a/\vU K H a xs/\xs.length=n/\t xs σ H Q
theorem Ij{k:Nat}{t:DO}(f:X.calm=true)(h:Ro X es t)(hn:(assignEach es X.env).length=n:=by rfl)(i:(assignEach es X.env).findIdx? (·.1)=Y3:=by rfl):PG X (.Tuple es k pos) (PP X.K n t):=by
 intro AN s σ H v u Q I r c;obtain⟨a,xs,e1,m,l,c⟩:=c;subst e1;cases r;obtain⟨AT,d,j,p⟩:=I.tuple m;refine assign_Tuple_tuple (I.ok.hd f) j (by simp[hn,<-l,d.length]) i λh' hx=>?_;have g:AW X AN σ H { s with heap:=h' }:=I.kept (t':=s.toks) λb o e=>hx b o (zI (zw e)) e;exact h AN _ σ H xs _ Q g (by simpa using d) c
def O'(to b:TE)(t:IE):TG:=λv σ H Q=>to σ H λo H1=>b σ H1 λi H2=>t o i v H2 λa=>Q σ a
theorem OH{o i:Expr}{to a:TE}{t:IE}(b:PE X o to)(hi:PE X i a)(hs:IS X t)
  (c:∀v,assign (.Subscript o i pos) X.env v=(do
   let ov <-holding [v] (eval o X.env)
   let iv <-holding [v,ov] (eval i X.env)
   standAt pos
   holding [v,ov,iv] (setItem ov iv v)
   release [v,ov,iv] []):=by intro _;rfl):PG X (.Subscript o i pos) (O' to a t):=by
 intro AN s σ H v u Q I r h;rw[c];refine zb (qr (fB (b AN s σ H _ I h) λov s1 ⟨x,H1,I1,r1,q1⟩=>?_));refine zb (qr (fB (hi AN s1 σ H1 _ I1 q1) λiv s2 ⟨y,H2,I2,r2,q2⟩=>?_));refine zb (QY (zb (qr (fB (hs AN s2 σ H2 x y v ov iv u _ I2 r1 r2 r q2) λ_ s3 ⟨H3,I3,q3⟩=>?_))));exact wpAny_release ⟨σ,H3,I3,q3⟩
def LP(te:TE)(g:TG):TS:=λD σ H=>te σ H λx H1=>g x σ H1 D.nx
theorem Ik{te:TE}{g:TG}(he:PE X e te)(b:PG X tg g)(hs:swapsWithSole [tg] e pos.line X.env=pure false:=by rfl)(a:swappedStores [tg] e X.env=pure Y3:=by rfl)(h1:(assignEach [tg] X.env).map (·.2)=[assign tg X.env]:=by rfl):PS X (.Assign [tg] e pos) (LP te g):=by
 intro AN s σ H D I h;refine wpAny_Assign_stores (fB (he AN s σ H _ I h) λv s1 ⟨x,H1,I1,r1,q1⟩=>?_) hs a;rw[h1];exact fB (b AN s1 σ H1 x v _ I1 r1 q1) λ_ c q=>q
theorem Ow{te:TE}{pos':Pos}(b:X.N.Nodup)(hi:X.N[i]?=Z x)(hx:Cs X.env.scope x)(he:PE X e te)(hs:swapsWith e (Z (.Name x pos')) pos.line X.env=pure false:=by rfl)(c:X.fn x=true\/X.env.scope.names.lookup x=Z .local:=by first|exact .inl rfl|exact .inr rfl|assumption):
  PS X (.Assign [.Name x pos'] e pos) (LP te (Mc i)):=by
 intro AN s σ H D I h;refine wpAny_Assign_Name (fB (he AN s σ H _ I h) λv s1 ⟨y,H1,I1,r1,q1⟩=>?_) hs;exact vR I1 b hi hx r1 (λd a=>⟨_,H1,a,q1⟩) c
def Pc(i j:Nat)(ta:TA):TS:=λD σ H=>ta σ H λvs H1=>∃v w,vs=[v,w]/\D.nx ((σ.set i (Z v)).set j (Z w)) H1
theorem Ts{a b:Expr}{ta:TA}{px py pt:Pos}{kt k2 pt2}(C:X.calm=true)(g:X.N.Nodup)(hi:X.N[i]?=Z x)(E:X.N[j]?=Z y)(G:i≠j)(hx:X.env.scope.names.lookup x=Z .local)(l:X.env.scope.names.lookup y=Z .local)(n:PA X [a,b] ta)(m:swappedStores [.Tuple [.Name x px,.Name y py] kt pt] (.Tuple [a,b] k2 pt2) X.env=pure (Z [x,y]))(hs:swapsWithSole [.Tuple [.Name x px,.Name y py] kt pt] (.Tuple [a,b] k2 pt2) pos.line X.env=pure false:=by rfl):
  PS X (.Assign [.Tuple [.Name x px,.Name y py] kt pt] (.Tuple [a,b] k2 pt2) pos) (Pc i j ta):=by
 intro AN s σ H D I h;rw[exec_Assign_arm];refine zb (QY ?_);rw[hs];refine zb (ze ?_);rw[zS ()];refine zb (Tuple_ (fB (n _ AN s σ H _ I h) λus s1 ⟨vs,H1,I1,r1,q1⟩=>?_));obtain⟨v,w,e1,q1⟩:=q1;subst e1;obtain⟨d,c,rfl,J,F⟩:∃d c,us=[d,c]/\At v d/\At w c:=by
  cases r1 with
  |cons p q=>
   cases q with
   |cons p' L=>
    cases L;exact⟨_,_,rfl,p,p'⟩
 refine qa ?_ (by show 2<=AA;decide);have K:AW X AN σ H1 { s1 with heap:=s1.heap.push { cls:=.type "tuple",data:=.seq [d,c].toArray } }:=I1.kept (t':=s1.toks) λb o e=>zd _ e;rw[m];refine zb (ze ?_);show A7 (bn X) X.A (do rule "assign.swapped-stores"; let items <-unpackItems (.ref s1.heap.objs.size) 2 Y3;assignInOrder [λv=>bindName X.env y v,λv=>bindName X.env x v] items.reverse;pure Flow.next) _ _ _;refine zb (ke (zb (unpackItems_tuple (items:=#[d,c]) (I.ok.hd C) (IsTup.new s1.heap _) λh' u=>?_)));have B:=K.kept (h':=h') (t':=s1.toks) λb o e=>u b o (zI (zw e)) e;show A7 _ _ (assignInOrder [λv=>bindName X.env y v,λv=>bindName X.env x v] [c,d] >>= λ_=>pure Flow.next) _ _ _;refine zb (assignInOrder_cons (wpAny_bindName (vR B g E (.inl l) F (λP z=>?_) (.inr l))));refine assignInOrder_cons (wpAny_bindName (vR z g hi (.inl hx) J (λM f=>assignInOrder_nil (ze ?_)) (.inr hx)));rw[List.set_comm _ _ (j0 G)]at f;exact⟨_,H1,f,q1⟩
end
structure It where
 go:Nat->Hp->Prop
 yld:Nat->Hp->V->Hp->Prop
 stop:Nat->Hp->Prop
def lO(X:Cx)(AN:O (A1×AE))(H:Hp)(b:A1):Prop:=
 H b=Y3/\b≠X.env.locals/\b∉X.fs/\(b∈X.ex\/X.s₀.heap.objs.size<=b)/\(∀x c,X.env.cells.lookup x=Z c->c≠b)/\∀p∈X.pn++AN,p.1≠b
theorem AW.Bv{X:Cx}{σ:St}{H H':Hp}{b:A1}(I:AW X AN σ H s)(a:s.heap.objs.size<=b)(hn:H' b=Y3):lO X AN H' b:=by
 refine⟨hn,kB (Zl I.lt a),I.agm a,.inr (zv I.sz a),λx c e z=>?_,λp hp z=>?_⟩
 ·obtain⟨v,q⟩:=I.cell x c e;exact absurd (Zl q.lt (by rw[z];exact a)) (JU _)
 ·exact absurd (Zl (zw (I.pin p hp).1) (by rw[z];exact a)) (JU _)
structure C2 (P:Program) (w:World) (K:B5) (tg:Expr) (J:It) (fp:List Addr) (it:Addr) (tn:Nat->Heap->Prop):Prop where
 mem:it∈fp
 obj:∀i h,tn i h->∀b∈fp,∃o,h.get? b=some o/\∀v,o.data≠.cell v
 keep:∀i h h',tn i h->(∀b∈fp,∀o,h.get? b=some o->h'.get? b=some o)->tn i h'
 item:∀(X:Cx),X.prog=P->X.w=w->X.K=K->X.calm=true->∀(i:Nat) (AN:List (Addr×Obj)) (s:Shared) (σ:St) (H:Hp) (E:BC),AW X AN σ H s->(∀b∈fp,lO X AN H b)->tn i s.heap->J.go i H →
  wpAny (model P w) X.A (pyNext (.ref it)) (λr s1=>∃u,r=some u ∧
   wpAny (model P w) X.A (letOwnedTupleGo tg (.ref it) u) (λ_ s2=>∃x H',AW X AN σ H' s2/\At x u/\J.yld i H x H'/\tn (i+1) s2.heap/\∀b∈fp,H' b=none) E s1) E s
 done:∀(X:Cx),X.prog=P->X.w=w->X.K=K->X.calm=true->∀(i:Nat) (AN:List (Addr×Obj)) (s:Shared) (σ:St) (H:Hp) (E:BC),AW X AN σ H s->(∀b∈fp,lO X AN H b)->tn i s.heap->J.stop i H →
  wpAny (model P w) X.A (pyNext (.ref it)) (λr s1=>r=none/\AW X AN σ H s1) E s
 self:∀(A:Around) (i:Nat) (s:Shared) (Q:BC) (E:BC),tn i s.heap->Q (.ref it) s->wpAny (model P w) A (pyIter (.ref it)) Q E s
abbrev TI:=St->Hp->(It->Hp->Prop)->Prop
def Mo(X:Cx)(AN:O (A1×AE))(σ:St)(tg:Expr)(R:It->Hp->Prop)(c:A0)(a:A2):Prop:=
 ∃(it:A1) (fp:O A1) (tn:Nat->A6->Prop) (J:It) (H':Hp),c=.ref it/\AW X AN σ H' a/\C2 X.prog X.w X.K tg J fp it tn/\tn 0 a.heap/\(∀b∈fp,lO X AN H' b)/\R J H'
def PI(X:Cx)(tg iter:Expr)(b:TI):Prop:=
 ∀(AN:O (A1×AE)) (s:A2) (σ:St) (H:Hp) (R:It->Hp->Prop),AW X AN σ H s->b σ H R →
  A7 (bn X) X.A (eval iter X.env) (λv a=>A7 (bn X) X.A (pyIter v) (Mo X AN σ tg R) X.xe a) X.xe s
theorem Gn{o:AE}{n:String}{vs:Array A0}{Q:Unit->A2->Prop}(c:s.heap.get? it=Z o)(b:o.cls=.type n)(hd:o.data=.fields vs)(hn:["enumerate","zip","dict_itemiterator","dict_reverseitemiterator","odict_iterator","itertools.zip_longest","itertools.pairwise"].contains n=false)(a:Q cr s):A7 M A (letOwnedTupleGo tg (.ref it) u) Q E s:=by
 unfold letOwnedTupleGo;cases tg<;>first
  |exact ze a
  |(cases u<;>first
    |exact ze a
    |(refine zb (Kk c ?_)
      rw[b,hd];show A7 M A (if(["enumerate","zip","dict_itemiterator","dict_reverseitemiterator","odict_iterator","itertools.zip_longest","itertools.pairwise"].contains n&&vs[0]?==Z (rawInt _))=true then _ else _) Q E s;rw[zS (by intro h;rw[hn,kg]at h;cases h)];exact ze a))
def F7(K:B5)(a:A1):It:=
 ⟨λi H=>∃xs x,nG K H a xs/\xs[i]?=Z x,λi H x H'=>H'=H/\∀xs,nG K H a xs->xs[i]?=Z x,λi H=>∃xs,nG K H a xs/\xs.length<=i⟩
def HU(K:B5)(a:A1):It:=
 ⟨λi H=>∃xs x,vU K H a xs/\xs[i]?=Z x,λi H x H'=>H'=H/\∀xs,vU K H a xs->xs[i]?=Z x,λi H=>∃xs,vU K H a xs/\xs.length<=i⟩
def F3(lo:Int)(n:Nat):It:=⟨λi _=>i<n,λi H x H'=>H'=H/\x=.int (lo+i),λi _=>n<=i⟩
theorem Gq(a it:A1):C2 P w K tg (F7 K a) [it] it (λi h=>h.IsListIter it a i) where
 mem:=by simp
 obj:=λi h st b f=>by
  have e:b=it:=by simpa using f
  subst e;obtain⟨o,e,c,d⟩:=st;exact⟨o,e,λv z=>by rw[d]at z;cases z⟩
 keep:=λi h h' st k=>st.at λo e=>k it (by simp) o e
 item:=by
  intro X m l q D i AN s σ H E I j st n;subst m l q;obtain⟨xs,x,g,hx⟩:=n;obtain⟨AT,A,p,M⟩:=I.list g;obtain⟨u,F,L⟩:=A.get hx;obtain⟨f0,f1,f2,f3,B,y⟩:=j it (by simp);refine wpAny_pyNext_list_item st p.isList (x:=u) (by simpa using F) λh' C J=>?_;have G:AW X AN σ H { s with heap:=h' }:=I.turned (t':=s.toks) (λb o f e=>(J.2 b f).trans e) f0 f1 f3 B y;obtain⟨o,e,c,d⟩:=id C;exact⟨u,rfl,Gn (s:={ s with heap:=h' }) e c d () ⟨x,H,G,L,⟨rfl,λys N=>by rw[I.Bu N g];exact hx⟩,C,λb f=>(j b f).1⟩⟩
 done:=by
  intro X m l q D i AN s σ H E I j st n;subst m l q;obtain⟨xs,g,hx⟩:=n;obtain⟨AT,A,p,M⟩:=I.list g;obtain⟨f0,f1,f2,f3,B,y⟩:=j it (by simp);have Q:=A.length;exact wpAny_pyNext_list_end (I.ok.hd D) st p.isList (by simp;omega) λh' eb=>⟨rfl,I.turned (t':=s.toks) (λb o f e=>eb b o f e) f0 f1 f3 B y⟩
 self:=λ_ _ _ _ _ st h=>wpAny_pyIter_listiter st h
theorem Ox(a it:A1):C2 P w K tg (HU K a) [it] it (λi h=>h.IsTupleIter it a i) where
 mem:=by simp
 obj:=λi h st b f=>by
  have e:b=it:=by simpa using f
  subst e;obtain⟨o,e,c,d⟩:=st;exact⟨o,e,λv z=>by rw[d]at z;cases z⟩
 keep:=λi h h' st k=>st.at λo e=>k it (by simp) o e
 item:=by
  intro X m l q D i AN s σ H E I j st n;subst m l q;obtain⟨xs,x,g,hx⟩:=n;obtain⟨AT,A,p,M⟩:=I.tuple g;obtain⟨u,F,L⟩:=A.get hx;obtain⟨f0,f1,f2,f3,B,y⟩:=j it (by simp);refine wpAny_pyNext_tuple_item st (show s.heap.IsTuple a AT.toArray from p) (x:=u) (by simpa using F) λh' C J=>?_;have G:AW X AN σ H { s with heap:=h' }:=I.turned (t':=s.toks) (λb o f e=>(J.2 b f).trans e) f0 f1 f3 B y;obtain⟨o,e,c,d⟩:=id C;exact⟨u,rfl,Gn (s:={ s with heap:=h' }) e c d () ⟨x,H,G,L,⟨rfl,λys N=>by rw[I.Gm N g];exact hx⟩,C,λb f=>(j b f).1⟩⟩
 done:=by
  intro X m l q D i AN s σ H E I j st n;subst m l q;obtain⟨xs,g,hx⟩:=n;obtain⟨AT,A,p,M⟩:=I.tuple g;obtain⟨f0,f1,f2,f3,B,y⟩:=j it (by simp);have Q:=A.length;exact wpAny_pyNext_tuple_end (I.ok.hd D) st (show s.heap.IsTuple a AT.toArray from p) (by simp;omega) λh' eb=>⟨rfl,I.turned (t':=s.toks) (λb o f e=>eb b o f e) f0 f1 f3 B y⟩
 self:=λ_ _ _ _ _ st h=>wpAny_pyIter_tupleiter st h
theorem Oz(it:A1)(lo:Int)(n:Nat):C2 P w K tg (F3 lo n) [it] it (λi h=>IsRangeIter h it (lo+(i:Nat)*1) ((n:Int)-(i:Nat)) 1) where
 mem:=by simp
 obj:=λi h st b a=>by
  have e:b=it:=by simpa using a
  subst e;exact⟨_,st,λv z=>by
   have u:Data.fields _=Data.cell v:=z;cases u⟩
 keep:=λi h h' st k=>k it (by simp) _ st
 item:=by
  intro X l d g f i AN s σ H E I c st j;subst l d g;obtain⟨f0,f1,f2,f3,p,m⟩:=c it (by simp);have W:=Walks.range (prog:=X.prog) (w:=X.w) (I.ok.hd f) it lo 1 n;refine W.item i s _ _ j st λv h' tk y q kk=>?_;obtain⟨t,rfl⟩:=y;have x:AW X AN σ H { s with heap:=h',toks:=tk }:=I.turned (λb o a e=>kk b o (by simpa using a) e) f0 f1 f3 p m;refine⟨_,rfl,Gn (s:={ s with heap:=h',toks:=tk }) (n :="range_iterator") q S S () ⟨.int (lo+i),H,x,⟨t,?_⟩,⟨rfl,rfl⟩,q,λb a=>(c b a).1⟩⟩;rw[Int.mul_one]
 done:=by
  intro X l d g f i AN s σ H E I c st j;subst l d g;obtain⟨f0,f1,f2,f3,p,m⟩:=c it (by simp);exact wpAny_pyNext_range_end (I.ok.hd f) st (by have:n<=i:=j;omega) λh' eb=>⟨rfl,I.turned (t':=s.toks) (λb o a e=>eb b o a e) f0 f1 f3 p m⟩
 self:=λ_ _ _ _ _ st h=>wpAny_pyIter_rangeiter st h
end L2
namespace L2
section
variable{X:Cx}
def bi(K:B5)(tl:TE):TI:=λσ H R=>tl σ H λx H1=>∃a,x=.ref a/\(∃xs,nG K H1 a xs)/\R (F7 K a) H1
theorem OV{l:Expr}{tl:TE}(d:PE X l tl):PI X tg l (bi X.K tl):=by
 intro AN s σ H R I h;refine fB (d AN s σ H _ I h) λv s1 ⟨x,H1,I1,r1,q1⟩=>?_;obtain⟨a,e,⟨xs,f⟩,q⟩:=q1;subst e;cases r1;obtain⟨AT,i,p,g⟩:=I1.list f;refine kR p.isList ?_;refine⟨s1.heap.objs.size,[s1.heap.objs.size],_,_,H1,rfl,I1.kept (t':=s1.toks) λb o e=>zd _ e,Gq a _,⟨_,zl _ rfl,rfl,rfl⟩,λb c=>?_,q⟩;have e:b=s1.heap.objs.size:=by simpa using c
 subst e;exact I1.Bv (zi _) (I1.hok.fresh (zi _))
theorem KJ{σ:St}{H:Hp}{R:It->Hp->Prop}{lo hi:Int}{t u v:Tok}{tk:Nat}(I:AW X AN σ H s)(h1 : -(2 ^ 62)<=lo)(h2:lo<2 ^ 62)(d : -(2 ^ 62)<=hi)(c:hi<2 ^ 62)(q:R (F3 lo (hi-lo).toNat) H):A7 (bn X) X.A (pyIter (.ref s.heap.objs.size)) (Mo X AN σ tg R) E { s with heap:=s.heap.push { cls:=.type "range",data:=.fields #[.int lo t,.int hi u,.int 1 v] },toks:=tk }:=by
 refine wpAny_pyIter_range (IsRange.new ..) (small_one h1 h2 d c) ?_;have a:AW X AN σ H { s with heap:=s.heap.push { cls:=.type "range",data:=.fields #[.int lo t,.int hi u,.int 1 v] },toks:=tk }:=I.kept λb o e=>zd _ e;refine⟨(s.heap.push { cls:=.type "range",data:=.fields #[.int lo t,.int hi u,.int 1 v] }).objs.size,[(s.heap.push { cls:=.type "range",data:=.fields #[.int lo t,.int hi u,.int 1 v] }).objs.size],_,_,H,rfl,
  a.kept (t':=tk) λb o e=>zd _ e,Oz _ lo (hi-lo).toNat,?_,λb f=>?_,q⟩
 ·have e1:lo+((0:Nat):Int)*1=lo:=by simp
  have e2:(((hi-lo).toNat:Nat):Int)-((0:Nat):Int)=Builtin.Range.rangeSize lo hi 1:=by rw[rangeSize_one];split<;>omega
  show IsRangeIter _ _ (lo+((0:Nat):Int)*1) ((((hi-lo).toNat:Nat):Int)-((0:Nat):Int)) 1;rw[e1,e2];exact zl _ rfl
 ·have e:b=(s.heap.push { cls:=.type "range",data:=.fields #[.int lo t,.int hi u,.int 1 v] }).objs.size:=by simpa using f
  subst e;exact a.Bv (zi _) (a.hok.fresh (zi _))
def S3(ta:TA):TI:=λσ H R=>ta σ H λvs H1=>∃j:Int,vs=[.int j] ∧ -(2 ^ 62)<=j/\j<2 ^ 62/\R (F3 0 j.toNat) H1
def NX(ta:TA):TI:=λσ H R=>ta σ H λvs H1=>∃i j:Int,vs=[.int i,.int j]/\(-(2 ^ 62)<=i/\i<2 ^ 62 ∧ -(2 ^ 62)<=j/\j<2 ^ 62)/\R (F3 i (j-i).toNat) H1
theorem TY{a:Expr}{ta:TA}{p:Pos}(c:Gl X "range")(b:X.mg "range"=Y3)(d:PA X [a] ta)(hs:A9 [a] X.env=[(false,eval a X.env)]:=by rfl):PI X tg (.Call (.Name "range" p) [a] [] pos) (S3 ta):=by
 intro AN s σ H R I h;refine Call_ (rA I c b boot_range (PyProof.Rows.callWith_type1 (fB (d pos AN s σ H _ I h) λus s1 ⟨vs,H1,I1,r1,q1⟩=>?_) hs S));obtain⟨j,e,q1,q2,q⟩:=q1;subst e;cases r1 with
 |cons r f=>
  cases f;obtain⟨t,rfl⟩:=r;exact call_range_1 (KJ I1 () () q1 q2 (by simpa using q))
theorem T3{a b:Expr}{ta:TA}{p:Pos}(m:Gl X "range")(n:X.mg "range"=Y3)(g:PA X [a,b] ta)(hs:A9 [a,b] X.env=[(false,eval a X.env),(false,eval b X.env)]:=by rfl)(d:A9 [b] X.env=[(false,eval b X.env)]:=by rfl):
  PI X tg (.Call (.Name "range" p) [a,b] [] pos) (NX ta):=by
 intro AN s σ H R I h;refine Call_ (rA I m n boot_range (PyProof.Rows.callWith_type1 (fB (g pos AN s σ H _ I h) λus s1 ⟨vs,H1,I1,r1,q1⟩=>?_) (by rw[hs,d]) (by rw[d];rfl)));obtain⟨i,j,e,⟨q1,q2,q3,f⟩,q⟩:=q1;subst e;cases r1 with
 |cons r c=>
  cases c with
  |cons l c=>
   cases c;obtain⟨t,rfl⟩:=r;obtain⟨o,rfl⟩:=l;exact call_range_2 (KJ I1 q1 q2 q3 f q)
def UO(c:TI)(g:TG)(tb:TS):TS:=λD σ H=>c σ H λJ H1=>∃W:Nat->Nat->St->Hp->Prop,(∃m,W 0 m σ H1)/\∀i m σ H,W i m σ H →
 (J.stop i H/\D.nx σ H)\/(J.go i H/\∃N:St->Hp->Prop,(∀ σ' H',N σ' H'->∃a,a<m/\W (i+1) a σ' H')/\∀x H',J.yld i H x H'->g x σ H' λb H2=>tb { D with nx:=N,ct:=N,bk:=D.nx } b H2)
def rC(fp:O A1)(h:A6):O (A1×AE):=fp.filterMap λb=>(h.get? b).map λo=>(b,o)
theorem jY{h:A6}{b:A1}{o:AE}(a:b∈fp)(e:h.get? b=Z o):(b,o)∈rC fp h:=eR.mpr ⟨b,a,by rw[e];rfl⟩
theorem T4{h:A6}{p:A1×AE}(hp:p∈rC fp h):p.1∈fp/\h.get? p.1=Z p.2:=by
 obtain⟨b,a,e⟩:=eR.mp hp;cases q:h.get? b with
 |none=>rw[q]at e;cases e
 |some o=>
  rw[q]at e;have e':(b,o)=p:=JE e;subst e';exact⟨a,q⟩
theorem AW.pinned{σ:St}{H:Hp}(I:AW X AN σ H s)(f:∀b∈fp,lO X AN H b)(c:∀b∈fp,∃o,s.heap.get? b=Z o/\∀v,o.data≠.cell v):AW X (AN++rC fp s.heap) σ H s:=
 I.tu λp hp=>(cf.mp hp).elim (λz=>I.pin p (zz _ z)) λz=>by
  obtain⟨a,e⟩:=T4 z;obtain⟨f0,f1,f2,_⟩:=f p.1 a;obtain⟨o,e',d⟩:=c p.1 a;rw[e]at e';cases e';exact⟨e,f0,f1,f2,d⟩
theorem AW.mX{pl:O (A1×AE)}{σ:St}{H:Hp}(I:AW X (AN++pl) σ H s):AW X AN σ H s:=I.tu λp hp=>I.pin p (zz _ (QR _ hp))
theorem OD{P:TI}{g:TG}{tb:TS}(hp:PassesOwn (bn X) X.A X.env X.xe)(F:X.calm=true)(hi:PI X tg iter P)(hg:PG X tg g)(j:KH X body tb)(hs:∀x,foldedSetIterable iter X.env x=pure x:=by intro _;rfl):PS X (.For tg iter body [] pos) (UO P g tb):=by
 intro AN s σ H D I h;refine wpAny_For (fB (hi AN s σ H _ I h) λv s1 h1=>fB h1 λa6 s2 h2=>?_) hs;obtain⟨it,fp,tn,J,H2,e,I2,T,a4,f2,W,⟨m0,w0⟩,turn⟩:=h2;subst e;have C:∀{H':Hp},(∀b∈fp,H' b=Y3)->∀b∈fp,lO X AN H' b:=λhn b j=>⟨hn b j,(f2 b j).2⟩;refine codeAny_forLoop_any (λn s'=>∃i σ' H',AW X AN σ' H' s'/\tn i s'.heap/\(∀b∈fp,H' b=Y3)/\W i n σ' H') ?_ m0 ⟨0,σ,H2,I2,a4,λb j=>(f2 b j).1,w0⟩;rintro n G ⟨i,q,z,E,K,M,Q⟩;rcases turn i n q z Q with⟨a3,U⟩|⟨go,N,hN,step⟩
 ·refine KP hp (fB (T.done X S S S F i AN G q z X.xe E (C M) K a3) λr s4 ⟨hr,I4⟩=>?_);subst hr;exact wpAny_execs_nil ⟨q,z,I4,U⟩
 ·refine KP hp (fB (T.item X S S S F i AN G q z X.xe E (C M) K go) λr s4 ⟨u,hr,h4⟩=>?_);subst hr;refine KP hp (fB h4 λ_ s5 ⟨x,H5,I5,r5,y5,st5,fr5⟩=>?_);have a5:=I5.pinned (C fr5) (T.obj _ _ st5);refine KP hp (fB (hg _ s5 q H5 x u _ a5 r5 (step x H5 y5)) λ_ s6 ⟨σ6,H6,I6,q6⟩=>?_);refine KP hp (fB (j _ s6 σ6 H6 _ I6 q6) λf B p=>?_);have L:∀{c:St} {a:Hp},AW X (AN++rC fp s5.heap) c a B->N c a->∃m,m<n/\∃i σ' H',AW X AN σ' H' B/\tn i B.heap/\(∀b∈fp,H' b=Y3)/\W i m σ' H':=λ{c a} l y=>by
   obtain⟨m',hm,w7⟩:=hN c a y;refine⟨m',hm,i+1,c,a,l.mX,T.keep _ _ _ st5 λb j o e=>(l.pin (b,o) (zz _ (zz _ (jY j e)))).1,λb j=>?_,w7⟩;obtain⟨o,e,d⟩:=T.obj _ _ st5 b j;exact(l.pin (b,o) (zz _ (zz _ (jY j e)))).2.1
  cases f with
  |next=>obtain⟨c,a,l,y⟩:=p;exact L l y
  |cont=>obtain⟨c,a,l,y⟩:=p;exact L l y
  |brk=>obtain⟨c,a,l,p⟩:=p;exact⟨c,a,l.mX,p⟩
  |ret v=>obtain⟨x7,c,a,l,r7,p⟩:=p;exact⟨x7,c,a,l.mX,r7,p⟩
end
end L2
namespace L2
abbrev R2:=V->V->Hp->VK->Prop
def rz(X:Cx)(f:A0->A0->Sem A0)(r:R2):Prop:=
 ∀(AN:O (A1×AE)) (s:A2) (σ:St) (H:Hp) (x y:V) (v u:A0) (Q:VK),AW X AN σ H s->At x v->At y u->r x y H Q →
  A7 (bn X) X.A (f v u) (EP X AN σ Q) X.xe s
def DF(X:Cx)(f:A0->Sem A0)(r:V->Hp->VK->Prop):Prop:=
 ∀(AN:O (A1×AE)) (s:A2) (σ:St) (H:Hp) (x:V) (v:A0) (Q:VK),AW X AN σ H s->At x v->r x H Q →
  A7 (bn X) X.A (f v) (EP X AN σ Q) X.xe s
def fK(X:Cx)(f:A0)(r:O V->Hp->VK->Prop):Prop:=
 ∀(AN:O (A1×AE)) (s:A2) (σ:St) (H:Hp) (xs:O V) (us:O A0) (Q:VK),AW X AN σ H s->AZ xs us->r xs H Q →
  A7 (bn X) X.A (call f us) (EP X AN σ Q) X.xe s
def aT(X:Cx)(r:V->Hp->(Bool->Hp->Prop)->Prop):Prop:=
 ∀(AN:O (A1×AE)) (s:A2) (σ:St) (H:Hp) (x:V) (v:A0) (Q:Bool->Hp->Prop),AW X AN σ H s->At x v->r x H Q →
  A7 (bn X) X.A (truthy v) (TP X AN σ Q) X.xe s
def EV(r:R2)(ta tb:TE):TE:=λσ H Q=>ta σ H λx H1=>tb σ H1 λy H2=>r x y H2 Q
def IX(r:V->Hp->VK->Prop)(ta:TE):TE:=λσ H Q=>ta σ H λx H1=>r x H1 Q
def rI(C:Int->Int->Prop)(g:Int->Int->V):R2:=λx y H Q=>∃i j,x=.int i/\y=.int j/\C i j/\Q (g i j) H
def DH(g:Int->Int->V):R2:=λx y H Q=>∃i j,x=.int i/\y=.int j/\Q (g i j) H
def rU(g:Int->V):V->Hp->VK->Prop:=λx H Q=>∃i,x=.int i/\Q (g i) H
section
variable{X:Cx}{a b:Expr}{ta tb tc:TE}
theorem Hn(d:PE X a ta)(g:PE X b tb){σ:St}{H:Hp}{R:V->V->Hp->Prop}(I:AW X AN σ H s)(h:ta σ H λx H1=>tb σ H1 λy H2=>R x y H2){Q:BC}{f:A0->A0->Sem A0}(j:∀v u c x y H2,AW X AN σ H2 c->At x v->At y u->R x y H2->A7 (bn X) X.A (f v u) Q X.xe c):
  A7 (bn X) X.A (eval a X.env) (λv i=>A7 (bn X) X.A (eval b X.env) (λu e=>A7 (bn X) X.A (f v u) Q X.xe e) X.xe i) X.xe s:=by
 refine fB (d AN s σ H _ I h) λv s1 ⟨x,H1,I1,r1,q1⟩=>?_;refine fB (g AN s1 σ H1 _ I1 q1) λu c ⟨y,H2,I2,r2,q2⟩=>?_;exact j v u c x y H2 I2 r1 r2 q2
theorem Ya{op:Operator}{r:R2}(g:rz X (binaryOp op) r)(c:PE X a ta)(e:PE X b tb):PE X (.BinOp a op b pos) (EV r ta tb):=by
 intro AN s σ H Q I h;exact wpAny_BinOp (Hn c e I h λv u f x y H2 i d j q=>g AN f σ H2 x y v u Q i d j q)
theorem cE{op:UnaryOp}{r:V->Hp->VK->Prop}(b:DF X (unaryOp op) r)(c:PE X a ta):PE X (.UnaryOp op a pos) (IX r ta):=by
 intro AN s σ H Q I h;exact UnaryOp_ (fB (c AN s σ H _ I h) λv s1 ⟨x,H1,I1,r1,q1⟩=>b AN s1 σ H1 x v Q I1 r1 q1)
theorem EK{f:A0->A0->Sem A0}{C:Int->Int->Prop}{g:Int->Int->Int}
  (c:∀(i j:Int) (t u:Tok) (s:A2) (Q:BC) (E:BC),C i j->Q (.int (g i j) s.toks) { s with toks:=s.toks+1 }->A7 (bn X) X.A (f (.int i t) (.int j u)) Q E s):
  rz X f (rI C λi j=>.int (g i j)):=by
 intro AN s σ H x y v u Q I b e h;obtain⟨i,j,rfl,rfl,a,q⟩:=h;obtain⟨t,rfl⟩:=b;obtain⟨d,rfl⟩:=e;exact c i j t d s _ _ a ⟨.int (g i j),H,I.tok _,⟨_,rfl⟩,q⟩
theorem IM{f:A0->A0->Sem A0}{g:Int->Int->Int}
  (d:∀(i j:Int) (t u:Tok) (s:A2) (Q:BC) (E:BC),Q (.int (g i j) s.toks) { s with toks:=s.toks+1 }->A7 (bn X) X.A (f (.int i t) (.int j u)) Q E s):
  rz X f (DH λi j=>.int (g i j)):=by
 intro AN s σ H x y v u Q I b c h;obtain⟨i,j,rfl,rfl,q⟩:=h;obtain⟨t,rfl⟩:=b;obtain⟨a,rfl⟩:=c;exact d i j t a s _ _ ⟨.int (g i j),H,I.tok _,⟨_,rfl⟩,q⟩
theorem Go{f:A0->A0->Sem A0}{g:Int->Int->Bool}
  (d:∀(i j:Int) (t u:Tok) (s:A2) (Q:BC) (E:BC),Q (.bool (g i j)) s->A7 (bn X) X.A (f (.int i t) (.int j u)) Q E s):
  rz X f (DH λi j=>.bl (g i j)):=by
 intro AN s σ H x y v u Q I b c h;obtain⟨i,j,rfl,rfl,q⟩:=h;obtain⟨t,rfl⟩:=b;obtain⟨a,rfl⟩:=c;exact d i j t a s _ _ ⟨.bl (g i j),H,I,rfl,q⟩
def NV(i j:Int):Prop:=0<j/\j<1073741824
def L6(i j:Int):Prop:=0<=j/\j<=1000000/\i.natAbs<2 ^ 64
def GT(i j:Int):Prop:=(-(2 ^ 64)<i/\i<2 ^ 64)\/(-(2 ^ 64)<j/\j<2 ^ 64)
theorem GT.ok{i j:Int}(h:GT i j):IntMulOk i j:=by
 rcases h with⟨h1,h2⟩|⟨h1,h2⟩
 ·exact .of_left (intBits_le_64 h1 h2)
 ·exact .of_right (intBits_le_64 h1 h2)
theorem OJ(k:Nat):(0:Int)<=2 ^ k:=by
 rw[two_pow_cast];exact Int.natCast_nonneg _
theorem RS:rz X (binaryOp .Add) (DH λi j=>.int (i+j)):=IM λ_ _ _ _ _ _ _ q=>add_int q
theorem TH:rz X (binaryOp .Sub) (DH λi j=>.int (i-j)):=IM λ_ _ _ _ _ _ _ q=>sub_int q
theorem OO:rz X (binaryOp .Mult) (rI GT λi j=>.int (i*j)):=EK λ_ _ _ _ _ _ _ a q=>mul_int q a.ok
theorem Ps:rz X (binaryOp .FloorDiv) (rI NV λi j=>.int (i / j)):=EK λi j _ _ _ _ _ a q=>by
 have h1:(0:Int)<j:=a.1;have h2:j<1073741824:=a.2;exact floordiv_int () (by rw[fq i ()];exact q) (.inl (PyProof.noPylong_small ()))
theorem P6:rz X (binaryOp .Mod) (rI (λ_ j=>0<j) λi j=>.int (i%j)):=EK λi j _ _ _ _ _ a q=>by
 have h1:(0:Int)<j:=a;exact mod_int' () (by rw[Int.fmod_eq_emod_of_nonneg i ()];exact q)
theorem SR:rz X (binaryOp .Pow) (rI L6 λi j=>.int (i ^ j.toNat)):=EK λ_ _ _ _ _ _ _ a q=>pow_int_small a.1 a.2.1 a.2.2 q
theorem bP:rz X (binaryOp .LShift) (rI L6 λi j=>.int (i*2 ^ j.toNat)):=EK λ_ _ _ _ _ _ _ a q=>lshift_int_small a.1 a.2.1 a.2.2 q
theorem VA:rz X (binaryOp .RShift) (rI (λ_ j=>0<=j) λi j=>.int (i / 2 ^ j.toNat)):=EK λi j _ _ _ _ _ a q=>
 rshift_int a (by rw[fq i (OJ _)];exact q)
theorem OM:rz X (binaryOp .BitAnd) (DH λi j=>.int (Builtin.bitAnd i j)):=IM λ_ _ _ _ _ _ _ q=>and_int q
theorem OS{f:A0->Sem A0}{g:Int->Int}
  (b:∀(i:Int) (t:Tok) (s:A2) (Q:BC) (E:BC),Q (.int (g i) s.toks) { s with toks:=s.toks+1 }->A7 (bn X) X.A (f (.int i t)) Q E s):
  DF X f (rU λi=>.int (g i)):=by
 intro AN s σ H x v Q I a h;obtain⟨i,rfl,q⟩:=h;obtain⟨t,rfl⟩:=a;exact b i t s _ _ ⟨.int (g i),H,I.tok _,⟨_,rfl⟩,q⟩
theorem NO:DF X (unaryOp .USub) (rU λi=>.int (-i)):=OS λ_ _ _ _ _ q=>neg_int q
theorem Wc{σ:St}{H:Hp}{Q:VK}{k a:Bool}(I:AW X AN σ H s)(q:Q (.bl k) H)(e:k=a):EP X AN σ Q (.bool a) s:=by
 subst e;exact⟨.bl k,H,I,rfl,q⟩
theorem XG:rz X (AG .Lt) (DH λi j=>.bl (decide (i<j))):=Go λ_ _ _ _ _ _ _ q=>lt_int q
theorem Tu:rz X (AG .Gt) (DH λi j=>.bl (decide (j<i))):=Go λ_ _ _ _ _ _ _ q=>gt_int q
theorem XI:rz X (AG .GtE) (DH λi j=>.bl (decide (j<=i))):=Go λ_ _ _ _ _ _ _ q=>ge_int q
theorem T5:rz X (AG .In) (λx y H Q=>∃i j,x=.str i/\y=.str j/\Q (.bl (!(Builtin.Str.occurrences j i 0 j.length 1).isEmpty)) H):=by
 intro AN s σ H x y v u Q I a b h;obtain⟨i,j,rfl,rfl,q⟩:=h;obtain⟨t,rfl⟩:=a;obtain⟨c,rfl⟩:=b;exact in_str (Wc I q S)
theorem Se:rz X (AG .Is) (λx y H Q=>y=.non/\Q (.bl (decide (x=.non))) H):=by
 intro AN s σ H x y v u Q I a b h;obtain⟨rfl,q⟩:=h;cases b;refine is_none_gen (Wc I q ?_);cases x<;>first
  |(cases a;rfl)
  |(obtain⟨t,rfl⟩:=a;rfl)
theorem bV(b:Expr)(h:op≠.In:=by decide)(h2:op≠.NotIn:=by decide):behindInMarks op b=false:=by
 have e1:(op==CmpOp.In)=false:=by cases op<;>first|rfl|exact absurd S h
 have e2:(op==CmpOp.NotIn)=false:=by cases op<;>first|rfl|exact absurd S h2
 cases b<;>simp[behindInMarks,e1,e2]
theorem Sm{r:R2}(i:rz X (AG op) r)(c:PE X a ta)(e:PE X b tb)(f:behindInMarks op b=false):PE X (.Compare a [op] [b] pos) (EV r ta tb):=by
 intro AN s σ H Q I h;exact wpAny_Compare1 (Hn c e I h λv u g x y H2 j d l q=>i AN g σ H2 x y v u Q j d l q) f
def OR(t:TE):TT:=λσ H Q=>t σ H λx H'=>∃k,x=.bl k/\Q k H'
theorem XY{r:R2}(f:rz X (AG op) r)(i:PE X a ta)(g:PE X b tb)(d:behindInMarks op b=false):PT X (.Compare a [op] [b] pos) (OR (EV r ta tb)):=by
 intro AN s σ H Q I h;refine wpAny_isTrue_Compare1 (fB (i AN s σ H _ I h) λv s1 ⟨x,H1,I1,r1,q1⟩=>fB (g AN s1 σ H1 _ I1 q1) λu s2 ⟨y,H2,I2,r2,q2⟩=>
  fB (f AN s2 σ H2 x y v u _ I2 r1 r2 q2) λc s3 ⟨z,H3,I3,r3,k,e,q3⟩=>?_) d
 subst e;cases r3;exact QP ⟨H3,I3,q3⟩
def Wf(r c:R2)(ta tb tc:TE):TE:=λσ H Q=>ta σ H λx H1=>tb σ H1 λy H2=>r x y H2 λz a=>∃k,z=.bl k ∧
 (if k=true then tc σ a λd b=>c y d b Q else Q (.bl false) a)
theorem Wg{f:CmpOp}{r g:R2}(n:rz X (AG op) r)(o:rz X (AG f) g)(j:PE X a ta)(l:PE X b tb)(i:PE X c tc)(m:lastMarks [op,f] [b,c]=false:=by with_unfolding_all rfl):PE X (.Compare a [op,f] [b,c] pos) (Wf r g ta tb tc):=by
 intro AN s σ H Q I h;refine Compare_chain (fB (j AN s σ H _ I h) λv s1 ⟨x,H1,I1,r1,q1⟩=>chain_link (fB (l AN s1 σ H1 _ I1 q1) λu s2 ⟨y,H2,I2,r2,q2⟩=>
  fB (n AN s2 σ H2 x y v u _ I2 r1 r2 q2) λd s3 ⟨z,H3,I3,r3,k,e,q3⟩=>?_)) m
 subst e;cases r3;refine QP ?_;cases k with
 |false=>exact ite_ff ⟨.bl false,H3,I3,rfl,q3⟩
 |true=>exact ite_tt (chain_last (fB (i AN s3 σ H3 _ I3 q3) λw' s4 ⟨z',H4,I4,r4,q4⟩=>o AN s4 σ H4 y z' u w' Q I4 r2 r4 q4))
def HE(K:B5)(x:V)(H:Hp)(k:Bool):Prop:=
 match x with
 |.non=>k=false
 |.bl b=>k=b
 |.int i=>k=(i != 0)
 |.str y=>y.length<=AA/\k=((y.length:Int) != 0)
 |.byt y=>y.size<=AA/\k=((y.size:Int) != 0)
 |.ref p=>(∃xs,nG K H p xs/\k=!xs.isEmpty)\/(∃xs,vU K H p xs/\k=!xs.isEmpty)\/∃AO,H p=Z (.dK AO)/\k=!AO.isEmpty
 |_=>False
theorem O1{AO:O (κ×V)}{vs:O (κ×A0)}(r:KV AO vs):(!vs.isEmpty)=!AO.isEmpty:=by
 cases r<;>rfl
theorem Bw{xs:O V}(r:AZ xs AT):(!AT.toArray.isEmpty)=!xs.isEmpty:=by
 cases r<;>simp
theorem uV:(AA:Nat)<2 ^ 63:=by rw[sizeLine_eq];decide
theorem VI:aT X (λx H Q=>∃k,HE X.K x H k/\Q k H):=by
 intro AN s σ H x v Q I a h;obtain⟨k,e,q⟩:=h;have l:=uV;have j:AA=16777216:=sizeLine_eq;cases x with
 |non=>
  cases a;have e':k=false:=e;subst e';exact truthy_none ⟨H,I,q⟩
 |bl b=>
  cases a;have e':k=b:=e;subst e';exact QP ⟨H,I,q⟩
 |int i=>
  obtain⟨t,rfl⟩:=a;have e':k=(i != 0):=e;subst e';exact PySem.P.truthy_int ⟨H,I,q⟩
 |str y=>
  obtain⟨t,rfl⟩:=a;obtain⟨g,e'⟩:y.length<=AA/\k=((y.length:Int) != 0):=e;subst e';exact PySem.P.truthy_str () ⟨H,I.tok _,q⟩
 |byt y=>
  obtain⟨t,rfl⟩:=a;obtain⟨g,e'⟩:y.size<=AA/\k=((y.size:Int) != 0):=e;subst e';exact PySem.W.truthy_bytes () ⟨H,I.tok _,q⟩
 |ref p=>
  cases a;have e':(∃xs,nG X.K H p xs/\k=!xs.isEmpty)\/(∃xs,vU X.K H p xs/\k=!xs.isEmpty)\/∃AO,H p=Z (.dK AO)/\k=!AO.isEmpty:=e;rcases e' with⟨xs,hx,e'⟩|⟨xs,hx,e'⟩|⟨AO,hx,e'⟩
  ·subst e';obtain⟨AT,r,pl,d⟩:=I.list hx;have c:=r.length;exact wpAny_truthy_list pl.isList (by simp only[zt];omega) ⟨H,I.tok _,by rw[Bw r];exact q⟩
  ·subst e';obtain⟨AT,r,pl,d⟩:=I.tuple hx;have c:=r.length;exact truthy_tuple pl (by simp only[zt];omega) ⟨H,I.tok _,by rw[Bw r];exact q⟩
  ·subst e';obtain⟨d,f,vs,r,m⟩:AO.length<=AA/\(p==sysModules)=false/\∃vs,KV AO vs/\s.heap.DictOf (cH X.prog X.w) p vs:=I.hok p _ hx;have c:AO.length=vs.length:=Paired.length r;exact wpAny_truthy_dict f m () ⟨H,I.tok _,by rw[O1 r];exact q⟩
 |_=>exact(show False from e).elim
theorem Wh(c:PE X a ta)(he:∀b,isTrue a X.env b=(do let v <-b;standAt a.pos;holding [v] (truthy v))):
  PT X a (λσ H Q=>ta σ H λx H'=>∃k,HE X.K x H' k/\Q k H'):=by
 intro AN s σ H Q I h;exact isTrue_plain (fB (c AN s σ H _ I h) λv s1 ⟨x,H1,I1,r1,q1⟩=>VI AN s1 σ H1 x v Q I1 r1 q1) (he _)
theorem O2:rz X (binaryOp .Add) (λx y H Q=>∃i j,x=.str i/\y=.str j/\i.length+j.length<=AA/\Q (.str (i++j)) H):=by
 intro AN s σ H x y v u Q I b d h;obtain⟨i,j,rfl,rfl,c,q⟩:=h;obtain⟨t,rfl⟩:=b;obtain⟨a,rfl⟩:=d;exact add_str (λa tk=>⟨.str (i++j),H,I.tok _,⟨_,rfl⟩,q⟩) c
theorem BG{x:V}(r:AZ [x] us):∃u,us=[u]/\At x u:=by
 cases r with
 |cons b a=>cases a;exact⟨_,rfl,b⟩
theorem C6{x y:V}(r:AZ [x,y] us):∃u w',us=[u,w']/\At x u/\At y w':=by
 cases r with
 |cons b a=>
  cases a with
  |cons c d=>cases d;exact⟨_,_,rfl,b,c⟩
theorem Wi:fK X (.builtin "abs") (λxs H Q=>∃i,xs=[.int i]/\Q (.int (if i<0 then -i else i)) H):=by
 intro AN s σ H xs us Q I r h;obtain⟨i,rfl,q⟩:=h;obtain⟨u,rfl,t,rfl⟩:=BG r;exact call_abs_int λu tk=>⟨.int (if i<0 then -i else i),H,I.tok _,⟨_,rfl⟩,q⟩
theorem T6:fK X (.type "int") (λxs H Q=>(∃i,xs=[.int i]/\Q (.int i) H)\/∃k,xs=[.bl k]/\Q (.int (if k then 1 else 0)) H):=by
 intro AN s σ H xs us Q I r h;rcases h with⟨i,rfl,q⟩|⟨k,rfl,q⟩
 ·obtain⟨u,rfl,t,rfl⟩:=BG r;exact call_int_int ⟨.int i,H,I,⟨_,rfl⟩,q⟩
 ·obtain⟨u,rfl,a⟩:=BG r;cases a;exact call_int_bool ⟨.int (if k then 1 else 0),H,I.tok _,⟨_,rfl⟩,q⟩
end
end L2
namespace L2
section
variable{x dx f:A1}{mA:AJ->Y A0}{v:A0}
end
theorem Fi.some_of{v:V}{o:Y A0}(r:Fi (Z v) o):∃u,o=Z u/\At v u:=by
 cases o with
 |none=>exact(show False from r).elim
 |some u=>exact⟨u,rfl,r⟩
section
variable{H H':Hp}{h h':A6}{dx:A1}{fs fs':O (AJ×V)}
end
section
variable{X:Cx}{σ:St}{H:Hp}{dx:A1}{fs:O (AJ×V)}{f:AJ}{v:V}
end
section
variable{X:Cx}{o value:Expr}{f:AJ}{pos':Pos}{ta tv:TE}
end
section
variable{X:Cx}{σ:St}{H:Hp}{Q:BC}{c:A0}{b:Bool}
end
end L2
namespace L2
structure jW (k:Nat) (A:Around):Prop where
 hd:A.handled=none
 dp:A.depth+3*k+5<recursionLimit
 un:A.units+16*k+200<cLine
theorem jW.mono{k:Nat}(r:jW k A)(h:j<=k):jW j A:=⟨r.hd,by have:=r.dp;omega,by have:=r.un;omega⟩
theorem jW.deeper{k:Nat}(r:jW (k+1) A)(env:Env):jW k (A.deeper env):=
 ⟨r.hd,by have:=r.dp;show A.depth+1+3*k+5<_;omega,by have:=r.un;show A.units+3+16*k+200<_;omega⟩
theorem jW.depth{k:Nat}(r:jW k A):A.depth<recursionLimit:=by have:=r.dp;omega
theorem jW.units{k:Nat}(r:jW k A):A.units+64<cLine:=by have:=r.un;omega
def O4:TA:=λ_ H Q=>Q [] H
def uF(ta:TE)(tr:TA):TA:=λσ H Q=>ta σ H λx H1=>tr σ H1 λxs H2=>Q (x::xs) H2
section
variable{X:Cx}{te:TE}{t:TA}
theorem fQ:PA X [] O4:=λ_ _ _ _ H Q I h=>Calls.spliced_nil ⟨[],H,I,.nil,h⟩
theorem bD(b:PE X e te)(a:PA X es t)(hs:A9 (e::es) X.env=(false,eval e X.env)::A9 es X.env:=by rfl):PA X (e::es) (uF te t):=by
 intro pos AN s σ H Q I h;rw[hs];show A7 _ _ (spliced ((false,eval e X.env)::AD pos (A9 es X.env))) _ _ s;refine Calls.spliced_cons (fB (b AN s σ H _ I h) λu s1 ⟨x,H1,I1,r1,q1⟩=>?_);exact fB (a pos AN s1 σ H1 _ I1 q1) λus s2 ⟨xs,H2,I2,r2,q2⟩=>⟨x::xs,H2,I2,.cons r1 r2,q2⟩
def Uf(t:TA):TE:=λσ H Q=>t σ H λxs H1=>xs.length<=AA/\∀p,H1 p=Y3->Q (.ref p) (B1 H1 p (.tup xs))
def MQ(t:TA):TE:=λσ H Q=>t σ H λxs H1=>xs.length<=AA/\∀p,H1 p=Y3->Q (.ref p) (B1 H1 p (.lst xs))
theorem SS{x1}(h:PA X es t):PE X (.Tuple es x1 pos) (Uf t):=by
 intro AN s σ H Q I a;refine wpAny_Tuple_spliced (fB (h pos AN s σ H _ I a) λus s1 ⟨xs,H1,I1,r,z,q⟩=>⟨by rw[<-r.length];exact z,?_⟩);have c:H1 s1.heap.objs.size=Y3:=I1.hok.fresh (zi _);refine⟨.ref s1.heap.objs.size,B1 H1 s1.heap.objs.size (.tup xs),I1.laid (t':=s1.toks) (λb u e=>zd _ e) (zi _) ?_,rfl,q _ c⟩;exact⟨z,us,r,⟨_,zl _ rfl,rfl,⟨_,rfl⟩,rfl⟩⟩
theorem Wm(h:PA X es t):PE X (.List es pos) (MQ t):=by
 intro AN s σ H Q I a;refine wpAny_List_spliced (fB (h pos AN s σ H _ I a) λus s1 ⟨xs,H1,I1,r,z,q⟩=>⟨by rw[<-r.length];exact z,?_⟩);have c:H1 s1.heap.objs.size=Y3:=I1.hok.fresh (zi _);refine⟨.ref s1.heap.objs.size,B1 H1 s1.heap.objs.size (.lst xs),I1.laid (t':=s1.toks) (λb u e=>zd _ e) (zi _) ?_,rfl,q _ c⟩;exact⟨z,us,0,r,zl _ rfl⟩
end
abbrev Sp:=O V->Hp->VK->XK->Prop
abbrev V2:=O Env->Hp->A2->XK->A0->A2->Prop
structure GI (P:Program) (w:World) (K:B5) (mg:Str->Option Value) (base:Heap) (A:Around) (outer:List Env) (s:Shared) (H:Hp):Prop where
 frames:A.frames=some outer
 mod:Mod K mg base
 bs:∀b o,base.get? b=some o->s.heap.get? b=some o/\H b=none
 Z6:base.objs.size<=s.heap.objs.size
 Bq:s.heap.FunFrames base outer
 frf:∀b∈Co outer,H b=none
 hok:vP P w H s.heap
 bare:AllBare s.gens
 tabs:BT K H
def CE(outer:O Env)(P:A3)(w:A4)(H:Hp)(s:A2)(Q:VK)(u:A0)(s':A2):Prop:=
 ∃v H',s'.os=s.os/\AllBare s'.gens/\Un (Co outer) [] H H' s.heap s'.heap/\vP P w H' s'.heap/\At v u/\Q v H'
def CR(CX:V2)(outer:O Env)(P:A3)(w:A4)(H:Hp)(s:A2)(Q:VK)(E:XK)(r:Result)(s':A2):Prop:=
 match r with
 |.ok (.ret u)=>CE outer P w H s Q u s'
 |.ok _=>False
 |.error e=>CX outer H s E e s'
structure jx (P:Program) (w:World) (K:B5) (mg:Str->Option Value) (base:Heap) (CX:V2) (k:Nat) (f:Addr) (fd:FuncData) (ps:Ap) (sp:Sp):Prop where
 len:∀vs H Q E,sp vs H Q E->vs.length=ps.length
 run:∀(A:Around) (outer:List Env) (s:Shared) (H:Hp) (args:Args) (us:List Value) (vs:List V) (Q:VK) (E:XK),jW k A->GI P w K mg base A outer s H->BindsTo s fd args (ps.zip us)->AZ vs us->sp vs H Q E →
  codeAny (model P w) A (.call (.ref f) args) (CR CX outer P w H s Q E) s
section
variable{X:Cx}{σ:St}{H:Hp}{s':A2}
theorem AW.env0(I:AW X AN σ H s):GI X.prog X.w X.K X.mg X.base X.A X.stack s H:=
 ⟨I.ok.frames,I.ok.mod,I.bs,zv I.ok.Z6 I.sz,I.stack,I.Ig,I.hok,I.bare,I.ok.tabs.go I.base.uT⟩
theorem AW.after{Q:VK}(I:AW X AN σ H s)(h:CE X.stack X.prog X.w H s Q u s'):EP X AN σ Q u s':=by
 obtain⟨v,H',os,c,un,e,r,q⟩:=h;obtain⟨a,g,d,t,f⟩:=s';obtain rfl:f=s.os:=os;exact⟨v,H',I.call (h':=a) (g':=g) (d':=d) (t':=t) (ch:=[]) un e c (λb z=>absurd z (by simp)),r,q⟩
end
def VU(sp:Sp)(dvs:O V)(E:XK)(t:TA):TE:=λσ H Q=>t σ H λvs H1=>sp (vs++dvs) H1 Q E
def BE(K:B5)(fd:FuncData)(ps:Ap)(ds:O A0):Prop:=
 ∀(s:A2) (us:O A0),K.In s.heap->(us++ds).length=ps.length->BindsTo s fd ⟨us,[]⟩ (ps.zip (us++ds))
theorem BE.all(h:∀us:O A0,us.length=ps.length->bindArgs fd ⟨us,[]⟩=pure (ps.zip us)):BE K fd ps []:=λs us _ a=>by
 rw[kD]at a ⊢;exact .of_eq (h us a)
def C8(CX:V2)(X:Cx)(E:XK):Prop:=∀(AN:O (A1×AE)) (σ:St) (H:Hp) (s:A2) (e:A0) (s':A2),AW X AN σ H s->CX X.stack H s E e s'->X.xe e s'
section
variable{X:Cx}{CX:V2}{k:Nat}{f:A1}{sp:Sp}{dvs:O V}{ds:O A0}{E:XK}{m:AJ}{p:Pos}{o:Expr}{ta:TE}{t:TA}
theorem WI{σ:St}{H:Hp}{Q:VK}{vs:O V}(F:jx X.prog X.w X.K X.mg X.base CX k f fd ps sp)(c:jW k X.A)(d:BE X.K fd ps ds)(hd:AZ dvs ds)(hx:C8 CX X E)(I:AW X AN σ H s)(r:AZ vs us)(h:sp (vs++dvs) H Q E):A7 (bn X) X.A (call (.ref f) us) (EP X AN σ Q) X.xe s:=by
 have b:AZ (vs++dvs) (us++ds):=r.append hd;have g:(us++ds).length=ps.length:=by rw[<-b.length];exact F.len _ _ _ _ h
 refine wpAny_call (codeAny_mono (F.run X.A X.stack s H ⟨us,[]⟩ (us++ds) (vs++dvs) Q E c I.env0 (d s us I.kIn g) b h) λr s' a=>?_);cases r with
 |error e=>exact hx AN σ H s e s' I a
 |ok fl=>
  cases fl with
  |ret u=>exact I.after a
  |next=>exact False.elim a
  |brk=>exact False.elim a
  |cont=>exact False.elim a
theorem pW(F:jx X.prog X.w X.K X.mg X.base CX k f fd ps sp)(a:jW k X.A)(c:Gl X x)(g:X.mg x=Z (.ref f))(hk:keepIn X.K (.ref f)=true)(d:BE X.K fd ps ds)(hd:AZ dvs ds)(hx:C8 CX X E)
  (b:PA X (e::es) t) (j:ad x:=by decide) (he:A9 (e::es) X.env=(false,eval e X.env)::A9 es X.env:=by rfl) (i:(AD pos (A9 es X.env)).any (·.1)=false:=by rfl):
  PE X (.Call (.Name x p) (e::es) [] pos) (VU sp dvs E t):=by
 intro AN s σ H Q I h;refine KW (Z8 I c g ?_ j);refine PySem.W.callWith_K (h₀:=X.base) I.ok.mod.kin hk (fB (b pos AN s σ H _ I h) λus s1 ⟨vs,H1,I1,r,q⟩=>⟨I1.kIn,?_⟩) he i;exact WI F a d hd hx I1 r q
end
section
variable{X:Cx}{CX:V2}{k:Nat}{f:A1}{ks:Ap}{sp:Sp}{E:XK}{m:AJ}{p kpos:Pos}{o:Expr}{kws:O AC}{te ta:TE}{t tk:TA}{nm:Y AJ}
variable{g:O A0->O A0->O A0}{gV:O V->O V->O V}
end
structure bH (N P:Ap) (sc:Scope):Prop where
 kind:sc.kind=.function
 co:sc.isCoroutine=false
 gen:sc.isGenerator=false
 nd:N.Nodup
 pre:N.take P.length=P
 par:∀x∈P,sc.names.lookup x=some .local\/sc.names.lookup x=some .cell
 aed:∀y∈sc.names,y.2≠.free
theorem Gr{b:AJ->Y NameKind}{x:AJ}:∀{binds:O (AJ×A0)} {m:AJ->Y A0},(∀v,(x,v)∉binds)->bindL b binds m x=m x
 |[],_,_=>rfl
 |(n,v)::r,m,h=>by
  unfold bindL;rw[Gr λw a=>h w (zh _ a)];split
  ·have:x≠n:=by rintro rfl;exact h v zg
   simp[this]
  ·rfl
theorem Gs{b:AJ->Y NameKind}{x:AJ}:∀{binds:O (AJ×A0)} {m:AJ->Y A0},(∀v,(x,v)∉binds)->bindC b binds m x=m x
 |[],_,_=>rfl
 |(n,v)::r,m,h=>by
  unfold bindC;rw[Gs λw a=>h w (zh _ a)];split
  ·rfl
  ·have:x≠n:=by rintro rfl;exact h v zg
   simp[this]
theorem Gu{a:AJ->Y NameKind}{x:AJ}{v:A0}:∀{P:Ap} {vs:O A0} {i:Nat} {m:AJ->Y A0},P.Nodup->P[i]?=Z x->vs[i]?=Z v->a x=Z .local →
  bindL a (P.zip vs) m x=Z v
 |[],_,_,_,_,h,_,_=>by simp at h
 |_::_,[],_,_,_,_,h,_=>by simp at h
 |p::P,w::vs,0,m,nd,h1,h2,hk=>by
  simp at h1 h2;subst h1;subst h2;show bindL a ((p,w)::P.zip vs) m p=_;unfold bindL;rw[Gr λv b=>(cz.mp nd).1 (ei b).1,zo hk];simp
 |p::P,w::vs,i+1,m,nd,h1,h2,hk=>by
  show bindL a ((p,w)::P.zip vs) m x=_;unfold bindL;exact Gu (i:=i) (cz.mp nd).2 (by simpa using h1) (by simpa using h2) hk
theorem Gv{a:AJ->Y NameKind}{x:AJ}{v:A0}:∀{P:Ap} {vs:O A0} {i:Nat} {m:AJ->Y A0},P.Nodup->P[i]?=Z x->vs[i]?=Z v->a x≠Z .local →
  bindC a (P.zip vs) m x=Z v
 |[],_,_,_,_,h,_,_=>by simp at h
 |_::_,[],_,_,_,_,h,_=>by simp at h
 |p::P,w::vs,0,m,nd,h1,h2,hk=>by
  simp at h1 h2;subst h1;subst h2;show bindC a ((p,w)::P.zip vs) m p=_;unfold bindC;rw[Gs λv b=>(cz.mp nd).1 (ei b).1,zS hk];simp
 |p::P,w::vs,i+1,m,nd,h1,h2,hk=>by
  show bindC a ((p,w)::P.zip vs) m x=_;unfold bindC;exact Gv (i:=i) (cz.mp nd).2 (by simpa using h1) (by simpa using h2) hk
def start(N:Ap)(vs:O V):St:=vs.map Z++ab (N.length-vs.length) Y3
def BJ(CX:V2)(P:A3)(w:A4)(K:B5)(mg:AJ->Y A0)(base:A6)(N:Ap)(qual:AJ)(scope:Scope)(f:A1)(a:A0)(A:A5)(outer:O Env)(s:A2)(H:Hp)(E:XK):Cx where
 prog:=P
 w:=w
 K:=K
 mg:=mg
 base:=base
 A:=A.deeper (AK qual scope s.heap.objs.size f a)
 N:=N
 s₀:=s
 H₀:=H
 env:=AK qual scope s.heap.objs.size f a
 outer:=outer
 stack:=AK qual scope s.heap.objs.size f a::outer
 ex:=[]
 calm:=true
 fn:=λ_=>true
 pn:=[]
 xe:=λe s'=>A7 (A8 P w) (A.deeper (AK qual scope s.heap.objs.size f a)) (leaving (AK qual scope s.heap.objs.size f a) e) (λ_ b=>CX outer H s E e b) (λe' b=>CX outer H s E e' b) s'
theorem KN{a:Scope}(h:a.names.lookup x=Z .cell):∃c,(cellsFrom n a.names []).lookup x=Z c:=by
 have q:=cellsFrom_some a.names n [] (.inl h);exact dj.mp q
theorem T7{CX:V2}{f:A1}{g:A0}{outer:O Env}{m:A2}{H:Hp}{E:XK}{vs:O V}(S:bH N ps scope)(hd:A.handled=Y3)(e0:GI P w K mg base A outer s H)(G:vs.length=ps.length)(r:AZ vs us)(x:InCallC s s.heap.objs.size (bindL (AK qual scope s.heap.objs.size f g).kindOf (ps.zip us) λ_=>Y3) (cellsFrom (s.heap.objs.size+1) scope.names []) (bindC (AK qual scope s.heap.objs.size f g).kindOf (ps.zip us) λ_=>Y3) m):
  AW (BJ CX P w K mg base N qual scope f g A outer s H E) [] (start N vs) H m:=by
 have F:ps.length<=N.length:=by have:=congrArg dv S.pre;rw[jn]at this;omega
 obtain⟨h1,tk,rfl,hk⟩:=x.done;have j:∀b:A1,b∉(BJ CX P w K mg base N qual scope f g A outer s H E).ex:=λb z=>absurd (show b∈([]:O A1) from z) (by simp);refine⟨⟨e0.mod,S.kind,rfl,rfl,zi _,λy z c h1 h2=>?_,λy d=>?_,λy c _ h=>?_,λ_=>hd,Around.frames_deeper e0.frames,.inr ⟨rfl,rfl⟩,λb z=>absurd z (j b),e0.bs,e0.Z6,λb _ _=>j b,λb z=>absurd z (j b),e0.Bq,e0.frf,e0.tabs⟩,
  rfl,e0.bare,Un.kept hk,⟨_,x.toInCall.ns,λi y v h1 h2 D=>?_⟩,λy c h=>⟨_,x.cell y c h⟩,e0.hok.fresh (zi _),λy c h=>?_,λp hp=>absurd (show p∈([]:O (A1×AE)) from hp) (by simp),e0.hok.kept hk,?_⟩
 ·exact name_of_addr x.apart (JA h1) (JA h2)
 ·have d:scope.names.lookup y=Z .cell\/scope.names.lookup y=Z .free:=d;rcases d with d|d
  ·exact KN d
  ·exact absurd rfl (S.aed _ (JA d))
 ·exact QO (x.above y c (JA h))
 ·have hi:i<vs.length:=by
   unfold start at h2;by_cases hi:i<vs.length
   ·exact hi
   ·rw[QU (by simpa using hi)]at h2;rw[jI]at h2;split at h2<;>cases h2
  have B:vs[i]?=Z v:=by
   unfold start at h2;rw[qi (by simpa using hi),z5]at h2;cases e:vs[i]? with
   |none=>rw[e]at h2;cases h2
   |some a=>rw[e]at h2;cases h2;rfl
  obtain⟨u,o,C⟩:=r.get B;have hp:ps[i]?=Z y:=by
   rw[<-S.pre,List.getElem?_take_of_lt ()];exact h1
  have l:ps.Nodup:=by rw[<-S.pre];exact S.nd.sublist (fE _ _)
  refine⟨u,C,?_⟩;rcases S.par y (k5 hp)with k|k
  ·exact .inl ⟨k,Gu l hp o k⟩
  ·obtain⟨c,e⟩:=KN (n:=s.heap.objs.size+1) k;refine .inr ⟨.inl k,c,e,?_⟩;have q:=x.cell y c e;rw[Gv l hp o (by show scope.names.lookup y≠_;rw[k];decide)]at q;exact q
 ·exact e0.hok.fresh (QO (x.above y c (JA h)))
 ·unfold start;show _=N.length;rw[ZA,zk,dU];omega
theorem LB{CX:V2}{k:Nat}{f:A1}{i kV h a ct U:A0}{z L:Y A1}{sp:Sp}(B:K.lookup f=Z ⟨U,L,.func (fnOf name qual params body scope i kV h pm z a ct),osl⟩)(D:codeIn K a qual=true)(S:bH N ps scope)(len:∀vs H Q E,sp vs H Q E->vs.length=ps.length)(F:∀(A:A5) (outer:O Env) (s:A2) (H:Hp) (vs:O V) (Q:VK) (E:XK),jW k (A.deeper (AK qual scope s.heap.objs.size f a))->sp vs H Q E →
   ∃t,KH (BJ CX P w K mg base N qual scope f a A outer s H E) body t/\t { nx:=λ_ H'=>Q .non H',rt:=Q } (start N vs) H):
  jx P w K mg base CX (k+1) f (fnOf name qual params body scope i kV h pm z a ct) ps sp:=by
 refine⟨len,λA outer s H a4 us vs Q E d e0 X r p=>?_⟩;have hl:=len _ _ _ _ p;have j:K.In s.heap:=e0.mod.kin.keeps λb o e=>(e0.bs b o e).1;have C:s.heap.NoLimit:=e0.mod.nolimit.keeps λb o e=>(e0.bs b o e).1;have a3:∀y∈ps.zip us,scope.names.lookup y.1=Z .local\/(scope.names.lookup y.1=Z .cell/\((cellsFrom (s.heap.objs.size+1) scope.names []).lookup y.1).isSome=true):=λ⟨n,v⟩ hy=>by
  rcases S.par n (ei hy).1 with q|q
  ·exact .inl q
  ·exact .inr ⟨q,cellsFrom_some _ _ _ (.inl q)⟩
 refine codeAny_call_function d.depth (j _ _ B) rfl S.co S.gen rfl (PySem.W.codeRec_of j D) (X _ _ _ _ ?_);refine wpAny_newFunctionEnv_cells S.kind a3 λenv he l x=>?_;subst he;refine⟨C.keeps x.toInCall.keep,codeAny_func ?_⟩;obtain⟨t,M,G⟩:=F A outer s H vs Q E (d.deeper _) p;have I:AW (BJ CX P w K mg base N qual scope f a A outer s H E) [] (start N vs) H l:=T7 S d.hd e0 hl r x;refine ZU (M [] l (start N vs) H _ I G) (λfl s' c=>?_) λe s' c=>c;have m:∀{σ':St} {H':Hp} {v:V} {u:A0},AW (BJ CX P w K mg base N qual scope f a A outer s H E) [] σ' H' s'->At v u->Q v H'->CE outer P w H s Q u s':=
  λ{σ' H' v u} J g q=>⟨v,H',J.os,J.bare,J.base,J.hok,g,q⟩
 cases fl with
 |ret u=>
  obtain⟨v,σ',H',J,g,q⟩:=c;exact m J g q
 |next=>
  obtain⟨σ',H',J,q⟩:=c;exact m (v:=V.non) (u:=Value.none) J rfl q
 |brk=>
  obtain⟨_,_,_,q⟩:=c;exact False.elim q
 |cont=>
  obtain⟨_,_,_,q⟩:=c;exact False.elim q
end L2
namespace L2
section
variable{X:Cx}{p:Pos}{t:TA}{id T:String}{r:O V->Hp->VK->Prop}
def IH(r:O V->Hp->VK->Prop)(t:TA):TE:=λσ H Q=>t σ H λvs H1=>r vs H1 Q
theorem rE(a:fK X (.builtin id) r)(c:Gl X x)(f:X.mg x=Y3)(d:AH x=Z (.builtin id))(b:PA X (e::es) t)(hn:x ≠ "__name__":=by decide)(i:ad x:=by decide)
  (he:A9 (e::es) X.env=(false,eval e X.env)::A9 es X.env:=by rfl) (g:(AD pos (A9 es X.env)).any (·.1)=false:=by rfl):PE X (.Call (.Name x p) (e::es) [] pos) (IH r t):=by
 intro AN s σ H Q I h;refine KW (rA I c f d ?_ hn i);exact PyProof.Rows.callWith_builtin1 (fB (b pos AN s σ H _ I h) λus s1 ⟨vs,H1,I1,r1,q1⟩=>a AN s1 σ H1 vs us Q I1 r1 q1) he g
theorem yw(a:fK X (.type T) r)(c:Gl X x)(f:X.mg x=Y3)(d:AH x=Z (.type T))(b:PA X (e::es) t)(hn:x ≠ "__name__":=by decide)(i:ad x:=by decide)
  (he:A9 (e::es) X.env=(false,eval e X.env)::A9 es X.env:=by rfl) (g:(AD pos (A9 es X.env)).any (·.1)=false:=by rfl):PE X (.Call (.Name x p) (e::es) [] pos) (IH r t):=by
 intro AN s σ H Q I h;refine KW (rA I c f d ?_ hn i);exact PyProof.Rows.callWith_type1 (fB (b pos AN s σ H _ I h) λus s1 ⟨vs,H1,I1,r1,q1⟩=>a AN s1 σ H1 vs us Q I1 r1 q1) he g
end
end L2
namespace HT
open PySem PyProof.Rows
section
open PySem.SeqAt
open PySem.AutoSeq1 (wpAny_loadPart')
open PySem.MeetsSeq PySem.MeetsSeq2 PySem.MeetsSeq3
end
theorem aai{t b:A1}{vs ws:O A0}{Q:BC}(q:IsTup s.heap t vs.toArray)(p:IsTup s.heap b ws.toArray)(l:vs≠[])
  (h1:ws=[]->Q (.ref t) s) (h2:ws≠[]->Q (.ref s.heap.objs.size) { s with heap:=s.heap.push { cls:=.type "tuple",data:=.seq (vs++ws).toArray } })
  (hsz:vs.length+ws.length<=AA):A7 (A8 prog w) A (binaryOp .Add (.ref t) (.ref b)) Q E s:=by
 obtain⟨⟨cls,m,data,sl⟩,d,i,n,hd⟩:=id q;obtain⟨⟨cls2,f,u,j⟩,c,g,o,h⟩:=id p;simp only at i hd g h;subst i hd g h;have e:vs.toArray++ws.toArray=(vs++ws).toArray:=by simp
 by_cases a:ws=[]
 ·exact concat_meets ⟨_,d,rfl⟩ ⟨_,c,rfl⟩ noFill_tuple_add seq_tuple_add PySem.F.slot_tuple_add yB (yi _ _)
   (tuple_addW1 t b vs.toArray ws.toArray n o m f sl j (by simpa using l) (by simp[a])) ⟨d,c,h1 a⟩
 ·refine concat_meets ⟨_,d,rfl⟩ ⟨_,c,rfl⟩ noFill_tuple_add seq_tuple_add PySem.F.slot_tuple_add yB (yi _ _)
   (tuple_addW2 t b vs.toArray ws.toArray n o m f sl j (by simpa using l) (by simpa using a) (by rw[zt,zt];exact hsz)) ⟨d,c,?_⟩
  rw[e];exact h2 a
def gZ(n d:Nat):Y Int->Nat
 |none=>d
 |some v=>if v<0 then(v+(n:Int)).toNat else min v.toNat n
theorem KQ(n d:Nat):gZ n d Y3=d:=rfl
theorem Rp(n d k:Nat):gZ n d (Z (k:Int))=min k n:=by
 show(if(k:Int)<0 then((k:Int)+(n:Int)).toNat else min (k:Int).toNat n)=min k n;rw[zS (),Z3]
theorem VM(n d:Nat)(hd:d<=n)(o:Y Int):gZ n d o<=n:=by
 cases o with
 |none=>exact hd
 |some v=>
  show(if v<0 then(v+(n:Int)).toNat else min v.toNat n)<=n;by_cases a:v<0
  ·rw[zo a];omega
  ·rw[zS a];exact Nat.min_le_right _ _
theorem Rq(v:Int)(n d:Nat):(if v<0 then max (v+(n:Int)) 0 else min v (n:Int))=((gZ n d (Z v):Nat):Int):=by
 show(if v<0 then max (v+(n:Int)) 0 else min v (n:Int))=(((if v<0 then(v+(n:Int)).toNat else min v.toNat n):Nat):Int);by_cases a:v<0
 ·simp only[zo a];omega
 ·simp only[zS a];omega
theorem O5(lo hi:Y Int)(n:Nat):Builtin.Slice.sliceAdjust lo hi 1 (n:Int)=(((gZ n 0 lo:Nat):Int),((gZ n n hi:Nat):Int)):=by
 have h1:¬ ((1:Int)<0):=by omega
 unfold Builtin.Slice.sliceAdjust;simp only[h1,qB];refine eP ?_ ?_
 ·cases lo with
  |none=>rfl
  |some v=>exact Rq v n 0
 ·cases hi with
  |none=>rfl
  |some v=>exact Rq v n n
theorem O6(i j:Nat):Builtin.Slice.slicePlaces (i:Int) (j:Int) 1=j-i:=by
 unfold Builtin.Slice.slicePlaces;have h1:(1:Int)>0:=by omega
 simp only[h1,jS,Int.ediv_one];split<;>omega
theorem BK{v:A0}{o:Y Int}{Q:Y Int->A2->Prop}(p:IsPart v o)(h:Q o s):A7 (A8 prog w) A (Builtin.Slice.slicePartIndex v) Q E s:=by
 cases p with
 |none=>exact slicePart_none h
 |int i t=>exact slicePart_int h
theorem pq{sl:A1}{d b:A0}{Q:Int×Int×Nat->A2->Prop}(hs:s.heap.IsSliceOf sl d b .none)(pl:IsPart d lo)(e:IsPart b hi)(h:Q (((gZ n 0 lo:Nat):Int),1,gZ n n hi-gZ n 0 lo) s):A7 (A8 prog w) A (Builtin.Slice.sliceApplied (.ref sl) (pure (n:Int))) Q E s:=by
 obtain⟨os,a,f,c⟩:=id hs;unfold Builtin.Slice.sliceApplied Builtin.Slice.sliceFields;refine zb (zb (wpAny_field a c (x:=d) S (zb (wpAny_field a c (x:=b) S (zb (wpAny_field a c (x:=.none) S (ze ?_)))))));refine zb (slicePart_none ?_);show A7 _ _ (if((1:Int)==0)=true then _ else _) _ _ s;rw[zS ()];refine zb (BK pl (zb (BK e (zb (ze ?_)))));show A7 _ _ (match Builtin.Slice.sliceAdjust lo hi 1 (n:Int)with|(lo,hi)=>pure (lo,(1:Int),Builtin.Slice.slicePlaces lo hi 1)) _ _ s;rw[O5 lo hi n];show A7 _ _ (pure (((gZ n 0 lo:Nat):Int),(1:Int),Builtin.Slice.slicePlaces ((gZ n 0 lo:Nat):Int) ((gZ n n hi:Nat):Int) 1)) _ _ s;rw[O6];exact ze h
theorem Wn(xs:Array A0)(i k:Nat):((cw k).filterMap λ(m:Nat)=>xs[((i:Int)+(m:Int)*1).toNat]?).toArray=((xs.toList.drop i).take k).toArray:=by
 have e:(λ(m:Nat)=>xs[((i:Int)+(m:Int)*1).toNat]?)=λm=>xs[i+m]?:=by
  funext m;have:((i:Int)+(m:Int)*1).toNat=i+m:=by omega
  rw[this]
 rw[e];have:=pick_run xs i k;rw[List.filterMap_map]at this;have e2:((λx=>xs[x]?) ∘ λx=>i+x)=λm=>xs[i+m]?:=rfl;rw[e2]at this;rw[this]
theorem vV{t sl:A1}{d c:A0}{Q:BC}(b:IsTup s.heap t items)(hs:s.heap.IsSliceOf sl d c .none)(pl:IsPart d lo)(j:IsPart c hi)(f:¬ (gZ items.size 0 lo=0/\gZ items.size items.size hi=items.size))(h:Q (.ref s.heap.objs.size) { s with heap:=s.heap.push { cls:=.type "tuple",data:=.seq ((items.toList.drop (gZ items.size 0 lo)).take (gZ items.size items.size hi-gZ items.size 0 lo)).toArray } })(hsz:items.size<=AA):A7 (A8 prog w) A (getItem (.ref t) (.ref sl)) Q E s:=by
 have a:sizeOk (.seq ((items.toList.drop (gZ items.size 0 lo)).take (gZ items.size items.size hi-gZ items.size 0 lo)).toArray):=by
  show((items.toList.drop (gZ items.size 0 lo)).take (gZ items.size items.size hi-gZ items.size 0 lo)).toArray.size<=AA;rw[zt,jn,js,qV];omega
 have n:gZ items.size items.size hi<=items.size:=VM _ _ (zi _) hi;obtain⟨os,e,g,o⟩:=id hs;have l:s.TypeIs (.ref sl) "slice":=⟨os,e,g⟩;unfold getItem
 try with_reducible refine qr ?_
 first|refine zb (ze ?_)|skip
 refine zb (wpAny_sequenceKey b.typeIs () ?_);refine zb (yz (name:=Str.ofString "__getitem__") b.typeIs PyProof.Rows.slot_tuple_getitem
  (jb PyProof.Rows.slot_tuple_getitem b.typeIs entry_tuple_getitem ?_ (args_tuple_getitem _ _)))
 show A7 _ _ (Builtin.Tuple.tupleItemsOf (.ref t) >>= _) _ _ s;refine zb (tupleItemsOf_ b ?_);refine zb (Q3 l ?_);rw[zo ()];refine zb (pq hs pl j ?_);have i:¬ ((((gZ items.size 0 lo:Nat):Int)==0&&(1:Int)==1&&(gZ items.size items.size hi-gZ items.size 0 lo)==items.size)=true):=by
  intro q;rw[ZO,ZO]at q;have q1:((gZ items.size 0 lo:Nat):Int)=0:=eq_of_beq q.1.1;have q2:gZ items.size items.size hi-gZ items.size 0 lo=items.size:=eq_of_beq q.2;exact f ⟨by omega,by omega⟩
 show A7 _ _ (if(((gZ items.size 0 lo:Nat):Int)==0&&(1:Int)==1&&(gZ items.size items.size hi-gZ items.size 0 lo)==items.size)=true then _ else _) _ _ s;rw[zS i,Wn]
 first
  |exact zb (m:=Builtin.Tuple.tupleExact _) (qa (ze ⟨_,rfl,ze h⟩) a)
  |exact zb (m:=Builtin.Tuple.tupleExact _) (qa (zb (ze (ze ⟨_,rfl,ze h⟩))) a)
  |exact zb (zb (m:=Builtin.Tuple.tupleExact _) (qa (ze (ze ⟨_,rfl,ze h⟩)) a))
  |exact zb (zb (m:=Builtin.Tuple.tupleExact _) (qa (ze ⟨_,rfl,ze h⟩) a))
end HT
namespace L2
abbrev TO:=St->Hp->(Y Int->Hp->Prop)->Prop
def PO(X:Cx)(e:Y Expr)(t:TO):Prop:=
 ∀(AN:O (A1×AE)) (s:A2) (σ:St) (H:Hp) (Q:Y Int->Hp->Prop),AW X AN σ H s->t σ H Q →
  A7 (bn X) X.A (evalPart e X.env) (λu s'=>∃o H',AW X AN σ H' s'/\IsPart u o/\Q o H') X.xe s
def Xt:TO:=λ_ H Q=>Q Y3 H
def R1(t:TE):TO:=λσ H Q=>t σ H λx H1=>∃i,x=.int i/\Q (Z i) H1
section
variable{X:Cx}{te:TE}{lo hi:Y Expr}{tl th:TO}
theorem V':PO X Y3 Xt:=by
 intro AN s σ H Q I h;rw[evalPart_none];exact ze ⟨Y3,H,I,.none,h⟩
theorem X1(h:PE X e te):PO X (Z e) (R1 te):=by
 intro AN s σ H Q I a;rw[evalPart_some];refine fB (h AN s σ H _ I a) λu s1 ⟨x,H1,I1,r1,q1⟩=>?_;obtain⟨i,rfl,q⟩:=q1;obtain⟨t,rfl⟩:=r1;exact⟨Z i,H1,I1,.int i t,q⟩
def FB(X:Cx)(r:V->Y Int->Y Int->Hp->VK->Prop):Prop:=
 ∀(AN:O (A1×AE)) (s:A2) (σ:St) (H:Hp) (x:V) (v a b:A0) (lo hi:Y Int) (sl:A1) (Q:VK),AW X AN σ H s->At x v->s.heap.IsSliceOf sl a b .none->IsPart a lo->IsPart b hi->r x lo hi H Q →
  ∃T id,typeLookup (.type T) "__getitem__"=pure (Z (.builtin id))/\s.TypeIs v T/\A7 (bn X) X.A (getItem v (.ref sl)) (EP X AN σ Q) X.xe s
def SH(r:V->Y Int->Y Int->Hp->VK->Prop)(te:TE)(tl th:TO):TE:=λσ H Q=>te σ H λx H1=>tl σ H1 λl H2=>th σ H2 λu a=>r x l u a Q
theorem Wo{r:V->Y Int->Y Int->Hp->VK->Prop}(a:FB X r)(he:PE X e te)(i:PO X lo tl)(c:PO X hi th):PE X (.Subscript e (.Slice lo hi Y3 p2) pos) (SH r te tl th):=by
 intro AN s σ H Q I h;refine Subscript_ (fB (he AN s σ H _ I h) λv s1 ⟨x,H1,I1,r1,q1⟩=>?_);refine wpAny_Slice (fB (i AN s1 σ H1 _ I1 q1) λvl s2 ⟨l,H2,I2,pl,q2⟩=>fB (c AN s2 σ H2 _ I2 q2) λvu s3 ⟨u,H3,I3,pu,q3⟩=>?_);rw[evalPart_none];refine ze ?_;have d:AW X AN σ H3 { s3 with heap:=s3.heap.push { cls:=.type "slice",data:=.fields #[vl,vu,.none] } }:=I3.kept (t':=s3.toks) λb m q=>zd _ q;obtain⟨T,id,j,g,f⟩:=a AN { s3 with heap:=s3.heap.push { cls:=.type "slice",data:=.fields #[vl,vu,.none] } } σ H3 x v vl vu l u s3.heap.objs.size Q d r1 (Heap.IsSliceOf.new ..) pl pu q3;show A7 (bn X) X.A (subscriptTail e (.Slice lo hi Y3 p2) v (.ref s3.heap.objs.size)) (EP X AN σ Q) X.xe { s3 with heap:=s3.heap.push { cls:=.type "slice",data:=.fields #[vl,vu,.none] } };exact tail_any (ops:=[.ref s3.heap.objs.size,v]) g j f (by with_unfolding_all rfl)
def KR(xs:O V)(lo hi:Y Int):O V:=(xs.drop (HT.gZ xs.length 0 lo)).take (HT.gZ xs.length xs.length hi-HT.gZ xs.length 0 lo)
theorem zq(xs:O V)(lo hi:Y Int):(KR xs lo hi).length<=xs.length:=by
 unfold KR;rw[jn,js];omega
def Pm(K:B5):V->Y Int->Y Int->Hp->VK->Prop:=λx lo hi H Q=>∃a xs,x=.ref a/\vU K H a xs ∧
 ¬ (HT.gZ xs.length 0 lo=0/\HT.gZ xs.length xs.length hi=xs.length)/\∀p,H p=Y3->Q (.ref p) (B1 H p (.tup (KR xs lo hi)))
theorem YU:FB X (Pm X.K):=by
 intro AN s σ H x v n l lo hi sl Q I g j pl i h;obtain⟨a,xs,rfl,hx,f,q⟩:=h;cases g;obtain⟨AT,r,d,e⟩:=I.tuple hx;have c:AT.toArray.size=xs.length:=by rw[zt];exact r.length.symm
 refine⟨"tuple", _,PyProof.Rows.slot_tuple_getitem.lookup,d.typeIs,?_⟩;refine HT.vV d j pl i (by rw[c];exact f) ?_ (by rw[c];exact e);rw[c];refine⟨.ref s.heap.objs.size,_,I.laid (t':=s.toks) (o:=.tup (KR xs lo hi)) (λb m q=>zd _ q) (zi _) ?_,rfl,q _ (I.hok.fresh (zi _))⟩;exact⟨zv (zq xs lo hi) e,_,(r.drop (HT.gZ xs.length 0 lo)).take (HT.gZ xs.length xs.length hi-HT.gZ xs.length 0 lo),pU.new _ _⟩
def XT(K:B5):R2:=λx y H Q=>∃a b xs ys,x=.ref a/\y=.ref b/\vU K H a xs/\vU K H b ys/\xs≠[]/\xs.length+ys.length<=AA ∧
 (ys=[]->Q (.ref a) H)/\(ys≠[]->∀p,H p=Y3->Q (.ref p) (B1 H p (.tup (xs++ys))))
theorem AZ.Av{xs:O V}(r:AZ xs us):us=[]↔xs=[]:=by
 cases r with
 |nil=>simp
 |cons _ _=>simp
theorem S':rz X (binaryOp .Add) (XT X.K):=by
 intro AN s σ H x y v u Q I g j h;obtain⟨a,b,xs,ys,rfl,rfl,f,i,hx,e,q1,q2⟩:=h;cases g;cases j;obtain⟨AT,d,p1,_⟩:=I.tuple f;obtain⟨m,c,p2,_⟩:=I.tuple i;refine HT.aai p1 p2 (λz=>hx (d.Av.mp z)) (λz=>⟨.ref a,H,I,rfl,q1 (c.Av.mp z)⟩) (λz=>?_) (by rw[<-d.length,<-c.length];exact e);refine⟨.ref s.heap.objs.size,_,I.laid (t':=s.toks) (o:=.tup (xs++ys)) (λb l q=>zd _ q) (zi _) ?_,rfl,q2 (λw=>z (c.Av.mpr w)) _ (I.hok.fresh (zi _))⟩;exact⟨by rw[ZA];exact e,_,d.append c,pU.new _ _⟩
end
end L2
namespace L2
def DE(n:Nat)(i:Int):Y Nat:=if 0<=i then(if i<n then Z i.toNat else Y3)else if -(n:Int)<=i then Z (i+n).toNat else Y3
def Fj(xs:O α)(i:Int):Y α:=(DE xs.length i).bind λj=>xs[j]?
theorem Rt{i:Int}(h:DE n i=Z j):seqIndex? i n=Z j/\j<n ∧ -(n:Int)<=i/\i<n:=by
 unfold DE at h;by_cases h0:0<=i
 ·rw[zo h0]at h;by_cases h1:i<n
  ·rw[zo h1]at h;have e:i.toNat=j:=JE h;exact⟨by rw[seqIndex_of h0 h1,e],by omega,by omega,h1⟩
  ·rw[zS h1]at h;cases h
 ·rw[zS h0]at h;by_cases h1 : -(n:Int)<=i
  ·rw[zo h1]at h;have e:(i+n).toNat=j:=JE h;exact⟨by rw[seqIndex_neg () h1,e],by omega,h1,by omega⟩
  ·rw[zS h1]at h;cases h
theorem Il{xs:O α}{i:Int}{v:α}(h:Fj xs i=Z v):∃j,seqIndex? i xs.length=Z j/\xs[j]?=Z v/\j<xs.length ∧ -(xs.length:Int)<=i/\i<xs.length:=by
 unfold Fj at h;cases e:DE xs.length i with
 |none=>rw[e]at h;cases h
 |some j=>
  rw[e]at h;obtain⟨h1,h2,b,a⟩:=Rt e;exact⟨j,h1,h,h2,b,a⟩
def Ru(b:Expr):Prop:=∀o i,subscripted b false o i=operate [o,i] (getItem o i)
def DB(X:Cx)(r:R2):Prop:=
 ∀(value a:Expr) (AN:O (A1×AE)) (s:A2) (σ:St) (H:Hp) (x y:V) (v u:A0) (Q:VK),AW X AN σ H s->At x v->At y u->r x y H Q →
  subscripted a false v u=operate [v,u] (getItem v u)->A7 (bn X) X.A (subscriptTail value a v u) (EP X AN σ Q) X.xe s
def MR(X:Cx)(id:String)(r:V->O V->Hp->VK->Prop):Prop:=
 ∀(AN:O (A1×AE)) (s:A2) (σ:St) (H:Hp) (x:V) (xs:O V) (v:A0) (us:O A0) (Q:VK),AW X AN σ H s->At x v->AZ xs us->r x xs H Q →
  A7 (bn X) X.A (call (.builtin id) (v::us)) (EP X AN σ Q) X.xe s
section
variable{X:Cx}{a b:Expr}{ta tb:TE}
theorem DB.or{r a:R2}(h:DB X r)(h':DB X a):DB X (λx y H Q=>r x y H Q\/a x y H Q):=by
 intro value b AN s σ H x y v u Q I c e q d;rcases q with q|q
 ·exact h value b AN s σ H x y v u Q I c e q d
 ·exact h' value b AN s σ H x y v u Q I c e q d
theorem SG{r:R2}(c:DB X r)(d:PE X a ta)(f:PE X b tb)(hs:Ru b):PE X (.Subscript a b pos) (EV r ta tb):=by
 intro AN s σ H Q I h;exact Subscript_ (Hn d f I h λv u g x y H2 i e j q=>c a b AN g σ H2 x y v u Q i e j q (hs _ _))
def Lu(K:B5):R2:=λx y H Q=>∃p xs i v,x=.ref p/\y=.int i/\nG K H p xs/\Fj xs i=Z v/\Q v H
def LY(K:B5):R2:=λx y H Q=>∃p xs i v,x=.ref p/\y=.int i/\vU K H p xs/\Fj xs i=Z v/\Q v H
def Mn:R2:=λx y H Q=>∃z i c,x=.str z/\y=.int i/\z.length<=AA/\Fj z.cps.toList i=Z c/\Q (.str ⟨#[c]⟩) H
theorem UB:DB X (Lu X.K):=by
 intro value D AN s σ H x y v u Q I g A h c;obtain⟨p,xs,i,z,rfl,rfl,o,m,q⟩:=h;cases g;obtain⟨t,rfl⟩:=A;obtain⟨AT,r,pl,E⟩:=I.list o;obtain⟨j,h1,h2,B,l,f⟩:=Il m;obtain⟨w,b,e⟩:=r.get h2;have n:=r.length;have C:=uV;have d:EP X AN σ Q w s:=⟨z,H,I,e,q⟩;by_cases h0:0<=i
 ·have a:i.toNat=j:=by
   rw[seqIndex_of h0 f]at h1;exact JE h1
  exact item_listR pl.isList h0 () (by rw[a];simpa using b) d c
 ·have a:(i+(AT.toArray.size:Int)).toNat=j:=by
   rw[seqIndex_neg () l]at h1;rw[zt,<-n];exact JE h1
  exact subscriptTail_builtinR (x:=w) pl.isList.typeIs slot_list_getitem.lookup
   (wpAny_getItem_list_neg (Q:=λr s'=>r=w/\EP X AN σ Q r s') pl.isList () (by rw[zt]<;>omega) () (by rw[a];simpa using b) ⟨rfl,d⟩) c
theorem RF:DB X (LY X.K):=by
 intro value A AN s σ H x y v u Q I c m h d;obtain⟨p,xs,i,z,rfl,rfl,l,f,q⟩:=h;cases c;obtain⟨t,rfl⟩:=m;obtain⟨AT,r,pl,D⟩:=I.tuple l;obtain⟨j,h1,h2,n,C,B⟩:=Il f;obtain⟨w,b,a⟩:=r.get h2;have g:=r.length;have o:=uV;have e:EP X AN σ Q w s:=⟨z,H,I,a,q⟩;exact subscriptTail_builtinR (x:=w) pl.typeIs slot_tuple_getitem.lookup
  (getItem_tuple (j:=j) (Q:=λr s'=>r=w/\EP X AN σ Q r s') pl () () (by rw[zt,<-g];exact h1) (by simpa using b) ⟨rfl,e⟩) d
theorem TC:DB X Mn:=by
 intro value o AN s σ H x y v u Q I a l h e;obtain⟨z,i,c,rfl,rfl,p,f,q⟩:=h;obtain⟨t,rfl⟩:=a;obtain⟨w,rfl⟩:=l;obtain⟨j,h1,h2,m,d,b⟩:=Il f;have g:z.cps.toList.length=z.length:=by simp[Str.length]
 rw[g]at h1 d b;have n:=uV;exact tail_any (typeIs_str s z t) slot_str_getitem.lookup (getItem_str (c:=c) (by
  have e1:decide (i < -(2 ^ 63:Int))=false:=Zp ();have e2:decide (i>=2 ^ 63)=false:=Zp ();rw[e1,e2,hY]) (by rw[h1];simpa using h2) ⟨.str ⟨#[c]⟩,H,I.tok _,⟨_,rfl⟩,q⟩) e
def OT(K:B5):R2:=λx y H Q=>Lu K x y H Q\/LY K x y H Q\/Mn x y H Q
theorem NU:DB X (OT X.K):=UB.or (RF.or TC)
theorem O7(AT:O A0)(n j:Nat)(u:A0):Obj.mapSeq (·.setIfInBounds j u) { cls:=.type "list",data:=.seq AT.toArray n }={ cls:=.type "list",data:=.seq (AT.set j u).toArray n }:=by
 simp[Obj.mapSeq]
theorem AW.lst{σ:St}{H:Hp}{p:A1}{xs:O V}(I:AW X AN σ H s)(h:H p=Z (.lst xs)):
  ∃(AT:O A0) (n:Nat),AZ xs AT/\s.heap.get? p=Z { cls:=.type "list",data:=.seq AT.toArray n }/\xs.length<=AA:=by
 obtain⟨z,AT,n,r,e⟩:=I.hok p _ h;exact⟨AT,n,r,e,z⟩
theorem AW.aej{σ:St}{H:Hp}{p:A1}{xs ys:O V}{its':O A0}{a:Nat}{f:AE->AE}(I:AW X AN σ H s)(h:H p=Z (.lst xs))(i:s.heap.get? p=Z { cls:=.type "list",data:=.seq AT.toArray n })(c:f { cls:=.type "list",data:=.seq AT.toArray n }={ cls:=.type "list",data:=.seq its'.toArray a })(r:AZ ys its')(g:ys.length<=AA)(t:Nat):
  AW X AN σ (B1 H p (.lst ys)) { s with heap:=s.heap.update p f,toks:=t }:=by
 have e:(s.heap.update p f).get? p=Z { cls:=.type "list",data:=.seq its'.toArray a }:=by
  rw[KI f i (by rw[c]<;>rfl),c]
 refine I.write (x:=p) (e:=p) (by rw[h];trivial) (.inl S) (λb u d q=>(gT _ _ (j0 d)).trans q) ⟨_,e⟩ ?_;exact⟨g,its',a,r,e⟩
def T1:V->V->V->Hp->(Hp->Prop)->Prop:=λo i v H Q=>∃p xs k j,o=.ref p/\i=.int k/\H p=Z (.lst xs)/\DE xs.length k=Z j/\Q (B1 H p (.lst (xs.set j v)))
theorem Cf:IS X T1:=by
 intro AN s σ H o i v y iv u Q I w g l h;obtain⟨p,xs,k,j,rfl,rfl,hp,f,q⟩:=h;cases w;obtain⟨t,rfl⟩:=g;obtain⟨AT,n,r,b,m⟩:=I.lst hp;obtain⟨h1,h2,c,e⟩:=Rt f;have a:=r.length;have x:=uV;have d:AW X AN σ (B1 H p (.lst (xs.set j v))) { s with heap:=s.heap.update p (Obj.mapSeq (·.setIfInBounds j u)) }:=
  I.aej hp b (O7 AT n j u) (r.set l j) (by rw[QE];exact m) s.toks
 by_cases h0:0<=k
 ·have hk:k.toNat=j:=by
   rw[seqIndex_of h0 e]at h1;exact JE h1
  exact PySem.W.ki_setAt b h0 () (by rw[zt,<-a];exact e) (by rw[hk];exact⟨_,d,q⟩)
 ·have hk:(k+(AT.toArray.size:Int)).toNat=j:=by
   rw[seqIndex_neg () c]at h1;rw[zt,<-a];exact JE h1
  exact PySem.W.ki_setBack b () (by rw[zt,<-a];exact c) () (by rw[hk];exact⟨_,d,q⟩)
theorem Im(lo hi:Y Int)(n:Nat):(sliceBounds lo hi Y3 n).1=((HT.gZ n 0 lo:Nat):Int)/\(sliceBounds lo hi Y3 n).2.1=((HT.gZ n n hi:Nat):Int)/\(sliceBounds lo hi Y3 n).2.2=1:=by
 refine⟨?_,?_,rfl⟩
 ·cases lo with
  |none=>simp[sliceBounds,HT.gZ]
  |some i=>
   simp only[sliceBounds,HT.gZ,i7,show(1:Int)>0 by decide,jS];by_cases h:i<0
   ·simp only[h,jS]<;>omega
   ·simp only[h,qB]<;>omega
 ·cases hi with
  |none=>simp[sliceBounds,HT.gZ]
  |some i=>
   simp only[sliceBounds,HT.gZ,i7,show(1:Int)>0 by decide,jS];by_cases h:i<0
   ·simp only[h,jS]<;>omega
   ·simp only[h,qB]<;>omega
theorem Fl(AT:O A0)(lo hi:Y Int):slicePick AT.toArray lo hi Y3=((AT.drop (HT.gZ AT.length 0 lo)).take (HT.gZ AT.length AT.length hi-HT.gZ AT.length 0 lo)).toArray:=by
 obtain⟨h1,h2,a⟩:=Im lo hi AT.toArray.size;unfold slicePick;rw[h1,h2,a];simp only[sliceRange_one,pick_run,zt]<;>rfl
def Sb(K:B5):V->Y Int->Y Int->Hp->VK->Prop:=λx lo hi H Q=>∃a xs,x=.ref a/\nG K H a xs/\∀p,H p=Y3->Q (.ref p) (B1 H p (.lst (KR xs lo hi)))
theorem WV:FB X (Sb X.K):=by
 intro AN s σ H x v m j lo hi sl Q I d g pl f h;obtain⟨a,xs,rfl,hx,q⟩:=h;cases d;obtain⟨AT,r,c,i⟩:=I.list hx;have e:=r.length;refine⟨"list", _,slot_list_getitem.lookup,c.isList.typeIs,?_⟩;refine wpAny_getItem_list_slice c.isList g pl f .none (by simp) ?_ (by rw[zt]<;>omega);rw[Fl,<-e];refine⟨.ref s.heap.objs.size,_,I.laid (t':=s.toks) (o:=.lst (KR xs lo hi)) (λb l q=>zd _ q) (zi _) ?_,rfl,q _ (I.hok.fresh (zi _))⟩;exact⟨zv (zq xs lo hi) i,_,0,(r.drop (HT.gZ xs.length 0 lo)).take (HT.gZ xs.length xs.length hi-HT.gZ xs.length 0 lo),zl _ rfl⟩
def qM:V->Bool
 |.non=>true
 |.bl _=>true
 |.int _=>true
 |.str _=>true
 |_=>false
def D5:V->V->Bool
 |.non,.non=>true
 |.bl a,.bl b=>a==b
 |.bl a,.int b=>(if a then 1 else 0)==b
 |.int a,.bl b=>a==(if b then 1 else 0)
 |.int a,.int b=>a==b
 |.str a,.str b=>a==b
 |_,_=>false
theorem b8{y x:V}{v:A0}(e:At y u)(c:At x v)(fy:qM y=true)(fx:qM x=true):SeqAt.EqAt A s u v (D5 y x):=by
 cases y with
 |non=>
  cases e;cases x with
  |non=>cases c;exact SeqAt.EqAt.same _
  |bl b=>cases c;exact SeqAt.EqAt.none_bool b
  |int b=>obtain⟨t,rfl⟩:=c;exact SeqAt.EqAt.none_int b t
  |str b=>obtain⟨t,rfl⟩:=c;exact SeqAt.EqAt.none_str b t
  |_=>exact absurd (show false=true from fx) zC
 |bl a=>
  cases e;cases x with
  |non=>cases c;exact SeqAt.EqAt.bool_none a
  |bl b=>cases c;exact SeqAt.EqAt.bool_bool a b
  |int b=>obtain⟨t,rfl⟩:=c;exact SeqAt.EqAt.bool_int a b t
  |str b=>obtain⟨t,rfl⟩:=c;exact SeqAt.EqAt.bool_str a b t
  |_=>exact absurd (show false=true from fx) zC
 |int a=>
  obtain⟨d,rfl⟩:=e;cases x with
  |non=>cases c;exact SeqAt.EqAt.int_none a d
  |bl b=>cases c;exact SeqAt.EqAt.int_bool a d b
  |int b=>obtain⟨t,rfl⟩:=c;exact SeqAt.EqAt.int_int a d b t
  |str b=>obtain⟨t,rfl⟩:=c;exact SeqAt.EqAt.int_str a d b t
  |_=>exact absurd (show false=true from fx) zC
 |str a=>
  obtain⟨d,rfl⟩:=e;cases x with
  |non=>cases c;exact SeqAt.EqAt.str_none a d
  |bl b=>cases c;exact SeqAt.EqAt.str_bool a d b
  |int b=>obtain⟨t,rfl⟩:=c;exact SeqAt.EqAt.str_int a d b t
  |str b=>obtain⟨t,rfl⟩:=c;exact SeqAt.EqAt.str_str a d b t
  |_=>exact absurd (show false=true from fx) zC
 |_=>exact absurd (show false=true from fy) zC
def O8(x:V)(u:A0):Bool:=match u with
 |.none=>D5 .non x
 |.bool b=>D5 (.bl b) x
 |.int i _=>D5 (.int i) x
 |.str z _=>D5 (.str z) x
 |_=>false
theorem Wq{x y:V}(r:At y u)(f:qM y=true):O8 x u=D5 y x:=by
 cases y with
 |non=>cases r;rfl
 |bl b=>cases r;rfl
 |int i=>obtain⟨t,rfl⟩:=r;rfl
 |str z=>obtain⟨t,rfl⟩:=r;rfl
 |_=>exact absurd (show false=true from f) zC
theorem vW{x:V}:∀{xs:O V} {us:O A0},AZ xs us->xs.all qM=true->us.any (O8 x)=xs.any λy=>D5 y x
 |_,_,.nil,_=>rfl
 |y::xs,u::us,.cons r t,f=>by
  rw[kK,ZO]at f;rw[JY,JY,Wq r f.1,vW t f.2]
theorem rG{A:A5}{s:A2}{x:V}{v:A0}(b:At x v)(fx:qM x=true):∀{xs:O V} {us:O A0},AZ xs us->xs.all qM=true->∀u∈us,SeqAt.EqAt A s u v (O8 x u)
 |_,_,.nil,_=>λu a=>by cases a
 |y::xs,u::us,.cons r t,f=>λc a=>by
  rw[kK,ZO]at f;rcases List.mem_cons.mp a with rfl|a
  ·rw[Wq r f.1];exact b8 r b f.1 fx
  ·exact rG b fx t f.2 c a
def FA(x:V)(xs:O V):Bool:=xs.any λy=>D5 y x
def LG(K:B5)(a:Bool):R2:=λx y H Q=>∃p xs,y=.ref p/\(nG K H p xs\/vU K H p xs)/\qM x=true/\xs.all qM=true/\Q (.bl (if a then !FA x xs else FA x xs)) H
theorem T8:rz X (AG .In) (LG X.K false):=by
 intro AN s σ H x y v u Q I c e h;obtain⟨p,xs,rfl,a,fx,fs,q⟩:=h;cases e;rcases a with a|a
 ·obtain⟨AT,r,pl,d⟩:=I.list a;refine SeqAt.in_listAt (O8 x) pl.isList (λw b=>rG c fx r fs w (by simpa using b)) ⟨.bl _,H,I,rfl,?_⟩;rw[show AT.toArray.any (O8 x)=AT.any (O8 x) by simp,vW r fs];exact q
 ·obtain⟨AT,r,pl,d⟩:=I.tuple a;refine SeqAt.in_tupleAt (O8 x) pl (λw b=>rG c fx r fs w (by simpa using b)) ⟨.bl _,H,I,rfl,?_⟩;rw[show AT.toArray.any (O8 x)=AT.any (O8 x) by simp,vW r fs];exact q
theorem Io:rz X (AG .NotIn) (LG X.K true):=by
 intro AN s σ H x y v u Q I c e h;obtain⟨p,xs,rfl,a,fx,fs,q⟩:=h;cases e;rcases a with a|a
 ·obtain⟨AT,r,pl,d⟩:=I.list a;refine SeqAt.notIn_listAt (O8 x) pl.isList (λw b=>rG c fx r fs w (by simpa using b)) ⟨.bl _,H,I,rfl,?_⟩;rw[show AT.toArray.any (O8 x)=AT.any (O8 x) by simp,vW r fs];exact q
 ·obtain⟨AT,r,pl,d⟩:=I.tuple a;refine SeqAt.notIn_tupleAt (O8 x) pl (λw b=>rG c fx r fs w (by simpa using b)) ⟨.bl _,H,I,rfl,?_⟩;rw[show AT.toArray.any (O8 x)=AT.any (O8 x) by simp,vW r fs];exact q
theorem Ip:rz X (AG .NotIn) (λx y H Q=>∃i j,x=.str i/\y=.str j/\Q (.bl (!(!(Builtin.Str.occurrences j i 0 j.length 1).isEmpty))) H):=by
 intro AN s σ H x y v u Q I a b h;obtain⟨i,j,rfl,rfl,q⟩:=h;obtain⟨t,rfl⟩:=a;obtain⟨c,rfl⟩:=b;exact notIn_str ⟨.bl _,H,I,rfl,q⟩
theorem Ir:fK X (.builtin "len") (λxs H Q=>∃p ys,xs=[.ref p]/\(nG X.K H p ys\/vU X.K H p ys)/\Q (.int ys.length) H):=by
 intro AN s σ H xs us Q I r h;obtain⟨p,ys,rfl,a,q⟩:=h;obtain⟨u,rfl,d⟩:=BG r;cases d;have f:=uV;rcases a with a|a
 ·obtain⟨AT,b,pl,e⟩:=I.list a;have c:=b.length;exact Calls.call_len_list pl.isList (by simp only[zt]<;>omega) ⟨.int ys.length,H,I.tok _,⟨s.toks+1,by rw[zt,c]⟩,q⟩
 ·obtain⟨AT,b,pl,e⟩:=I.tuple a;have c:=b.length;exact len_tuple pl (by simp only[zt]<;>omega) ⟨.int ys.length,H,I.tok _,⟨s.toks+1,by rw[zt,c]⟩,q⟩
theorem Iu:fK X (.builtin "len") (λxs H Q=>∃z,xs=[.str z]/\z.length<=AA/\Q (.int z.length) H):=by
 intro AN s σ H xs us Q I r h;obtain⟨z,rfl,b,q⟩:=h;obtain⟨u,rfl,t,rfl⟩:=BG r;have a:=uV;exact len_str () ⟨.int z.length,H,I.tok _,⟨_,rfl⟩,q⟩
theorem fK.or{f:A0}{r a:O V->Hp->VK->Prop}(h:fK X f r)(h':fK X f a):fK X f (λxs H Q=>r xs H Q\/a xs H Q):=by
 intro AN s σ H xs us Q I b q;rcases q with q|q
 ·exact h AN s σ H xs us Q I b q
 ·exact h' AN s σ H xs us Q I b q
theorem uG:fK X (.type "tuple") (λxs H Q=>∃p ys,xs=[.ref p]/\((nG X.K H p ys/\∀l,H l=Y3->Q (.ref l) (B1 H l (.tup ys)))\/(vU X.K H p ys/\Q (.ref p) H))):=by
 intro AN s σ H xs us Q I r h;obtain⟨p,ys,rfl,h⟩:=h;obtain⟨u,rfl,g⟩:=BG r;cases g;rcases h with⟨c,q⟩|⟨c,q⟩
 ·obtain⟨AT,a,pl,f⟩:=I.list c;have j:=a.length;refine call_tuple_list pl.isList (λh' kp=>?_) (by simp only[zt]<;>omega);have d:AW X AN σ H { s with heap:=h' }:=I.kept (t':=s.toks) kp;have i:AW X AN σ (B1 H h'.objs.size (.tup ys)) { s with heap:=h'.push { cls:=.type "tuple",data:=.seq AT.toArray } }:=
   d.laid (t':=s.toks) (λb o e=>zd _ e) (zi _) (show dw X.prog X.w _ _ _ (.tup ys) from⟨f,AT,a,pU.new _ _⟩)
  exact⟨.ref h'.objs.size,_,i,rfl,q _ (d.hok.fresh (zi _))⟩
 ·obtain⟨AT,a,pl,f⟩:=I.tuple c;exact call_tuple_same pl ⟨.ref p,H,I,rfl,q⟩
def N1(K:B5)(T:String)(x:V)(H:Hp):Prop:=match x with
 |.str _=>T ="str"
 |.int _=>T ="int"
 |.ref p=>(T ="list" ∧ ∃xs,nG K H p xs)\/(T ="tuple" ∧ ∃o,K.lookup p=Z o/\o.cls=.type "tuple" ∧ o.dict=Y3) ∨
   (T ="dict" ∧ ((∃AO,H p=Z (.dK AO))\/∃AO,H p=Z (.dT AO)))\/(T ="set" ∧ ∃S n,H p=Z (.set S n))
 |_=>False
theorem SZ{σ:St}{H:Hp}{T:String}{x:V}{v:A0}(I:AW X AN σ H s)(r:At x v)(ty:N1 X.K T x H):
  s.TypeIs v T/\∀a,v=.ref a->∃b,s.heap.get? a=Z b/\b.dict=Y3:=by
 cases x with
 |str z=>
  obtain⟨t,rfl⟩:=r;cases(show T ="str" from ty);exact⟨typeIs_str s z t,λ_ e=>nomatch e⟩
 |int i=>
  obtain⟨t,rfl⟩:=r;cases(show T ="int" from ty);exact⟨typeIs_int s i t,λ_ e=>nomatch e⟩
 |ref p=>
  cases r;rcases ty with⟨rfl,xs,f⟩|⟨rfl,o,hk,d,hd⟩|⟨rfl,hk⟩|⟨rfl,S,n,hk⟩
  ·obtain⟨AT,_,pl,_⟩:=I.list f;refine⟨pl.isList.typeIs,λa e=>?_⟩;cases e;obtain⟨o,n,e,c,hd,_⟩:=pl;exact⟨o,e,hd⟩
  ·refine⟨⟨o,I.kIn p o hk,d⟩,λa e=>?_⟩;cases e;exact⟨o,I.kIn _ o hk,hd⟩
  ·have z:∃o,s.heap.get? p=Z o/\o.ExactDict:=by
    rcases hk with⟨AO,hk⟩|⟨AO,hk⟩
    ·obtain⟨_,_,_,_,o,_,_,e,ex,_⟩:=I.hok p _ hk;exact⟨o,e,ex⟩
    ·obtain⟨_,_,_,_,o,_,_,e,ex,_⟩:=I.hok p _ hk;exact⟨o,e,ex⟩
   obtain⟨o,e,ex⟩:=z;refine⟨⟨o,e,ex.1⟩,λa e2=>?_⟩;cases e2;exact⟨o,e,ex.2.1⟩
  ·obtain⟨o,_,_,_,e,ex,_⟩:=I.hok p _ hk;refine⟨⟨o,e,ex.1⟩,λa e2=>?_⟩;cases e2;exact⟨o,e,ex.2.1⟩
 |_=>exact False.elim ty
def HC(K:B5)(T:String)(r:V->O V->Hp->VK->Prop)(to:TE)(t:TA):TE:=λσ H Q=>to σ H λx H1=>N1 K T x H1/\t σ H1 λxs H2=>r x xs H2 Q
variable{o:Expr}{to:TE}{t:TA}{T id:String}{r:V->O V->Hp->VK->Prop}
theorem KY(pa:PlainAttrs T)(slot:Slot T name id)(l:typeOf (.builtin id)=pure (.type "method_descriptor"))(f:MR X id r)(j:PE X o to)(b:PA X (e::es) t)
  (d:attributeBase o name X.env (eval o X.env)=eval o X.env:=by rfl)
  (c:((AD cpos (A9 (e::es) X.env)).all (λx=>!x.1)&&(backToKw cpos (keywordEach [] X.env)).all (λx=>x.1.isSome)
   && decide ((e::es).length+([]:O AC).length+(if([]:O AC).isEmpty then 0 else 1)<30))=true:=by rfl)
  (g:(apos.endLine==cpos.line)=true:=by rfl) (hs:A9 (e::es) X.env=(false,eval e X.env)::A9 es X.env:=by rfl) (i:(AD cpos (A9 es X.env)).any (·.1)=false:=by rfl):
  PE X (.Call (.Attribute o name apos) (e::es) [] cpos) (HC X.K T r to t):=by
 intro AN s σ H Q I h;refine wpAny_Call_method_late d c g S (fB (j AN s σ H _ I h) λv s1 ⟨x,H1,I1,r1,ty,q1⟩=>?_);obtain⟨h1,h2⟩:=SZ I1 r1 ty;refine⟨T,id,pa,slot,l,h1,h2,?_⟩;have a:=b cpos AN s1 σ H1 _ I1 q1;rw[hs]at a ⊢;refine Calls.callWith_builtin (by show(false||(AD cpos (A9 es X.env)).any (·.1))=false;rw[i]<;>rfl) (Calls.evalArgs_plain ?_);exact fB a λus s2 ⟨vs,H2,I2,r2,q2⟩=>f AN s2 σ H2 x vs v us Q I2 r1 r2 q2
end
end L2
namespace L2
def F8(X:Cx)(id:String)(r:V->O V->Hp->VK->Prop):Prop:=
 ∀(AN:O (A1×AE)) (s:A2) (σ:St) (H:Hp) (x:V) (xs:O V) (v:A0) (us:O A0) (Q:VK),AW X AN σ H s->At x v->AZ xs us->r x xs H Q →
  A7 (bn X) X.A (call (.builtin id) (v::us)) (EP X AN σ Q) X.xe s
theorem AZ.one:∀{x:V} {us:O A0},AZ [x] us->∃u,us=[u]/\At x u:=λh=>by
 cases h with
 |cons r t=>cases t;exact⟨_,rfl,r⟩
theorem AZ.two:∀{x y:V} {us:O A0},AZ [x,y] us->∃u v,us=[u,v]/\At x u/\At y v:=λh=>by
 cases h with
 |cons r t=>
  cases t with
  |cons q t=>cases t;exact⟨_,_,rfl,r,q⟩
theorem AZ.rep{xs:O V}{us:O A0}(h:AZ xs us):∀k:Nat,AZ (ab k xs).flatten (ab k us).flatten
 |0=>.nil
 |k+1=>by
  rw[qo,qo,Zs,Zs];exact AZ.append h (AZ.rep h k)
theorem Bz(AT:O A0):∀(k:Nat) (a:O A0),
  hO (λx1 b=>x1++b) a.toArray (ab k AT.toArray)=(a++(ab k AT).flatten).toArray
 |0,a=>by simp
 |k+1,a=>by
  have e:a.toArray++AT.toArray=(a++AT).toArray:=by simp
  have e2:(a++AT)++(ab k AT).flatten=a++(ab (k+1) AT).flatten:=by
   rw[qo,Zs,Jn]
  rw[<-e2,<-Bz AT k (a++AT),<-e,qo,ja]
section
variable{X:Cx}{σ:St}{H:Hp}{b:A1}{xs ys zs:O V}
theorem AW.T9{its':O A0}{f:Array A0->Array A0}{t':Nat}(I:AW X AN σ H s)(g:H l=Z (.lst xs))(e:s.heap.get? l=Z { cls:=.type "list",data:=.seq AT.toArray n })(h:f AT.toArray=its'.toArray)(b:AZ ys its')(d:ys.length<=AA):
  AW X AN σ (B1 H l (.lst ys)) { s with heap:=s.heap.update l (Obj.mapSeq f),toks:=t' }:=by
 have q:=PySem.IsL.update e f;rw[h]at q;refine I.write (x:=l) (e:=l) (by rw[g];exact trivial) (.inl S) (λi u c a=>(gT s.heap (Obj.mapSeq f) (j0 c)).trans a) ⟨_,q⟩ ?_;exact⟨d,its',_,b,q⟩
theorem AW.ajh{t':Nat}(I:AW X AN σ H s)(a:AZ ys AT)(b:ys.length<=AA):
  AW X AN σ (B1 H s.heap.objs.size (.lst ys)) { s with heap:=s.heap.push { cls:=.type "list",data:=.seq AT.toArray },toks:=t' }:=
 I.laid (λ_ _ q=>zd _ q) (zi _) ⟨b,AT,0,a,zl _ rfl⟩
theorem AW.fresh(I:AW X AN σ H s):H s.heap.objs.size=Y3:=I.hok.fresh (zi _)
theorem AW.Iv(I:AW X AN σ H s)(a:H l=Z (.lst xs)):xs.length<=AA/\∃(AT:O A0) (n:Nat),AZ xs AT/\xs.length=AT.length/\s.heap.get? l=Z { cls:=.type "list",data:=.seq AT.toArray n }:=by
 obtain⟨z,AT,n,r,e⟩:=I.hok l _ a;exact⟨z,AT,n,r,r.length,e⟩
theorem KZ(h:n<=AA):Builtin.List.listTooLong n=false:=by
 unfold Builtin.List.listTooLong;exact Zp ()
end
section
variable{X:Cx}
def Rv:V->O V->Hp->VK->Prop:=λx vs H Q=>∃l xs y,x=.ref l/\vs=[y]/\H l=Z (.lst xs)/\xs.length<AA/\Q .non (B1 H l (.lst (xs++[y])))
theorem tD:F8 X "list.append" Rv:=by
 intro AN s σ H x vs v us Q I b c h;obtain⟨l,xs,y,rfl,rfl,a,f,q⟩:=h;cases b;obtain⟨u,rfl,d⟩:=c.one;obtain⟨z,AT,n,r,g,e⟩:=I.Iv a;refine call_meets F.slot_list_append ⟨_,e,rfl⟩ F.entry_list_append (F.args_list_append_2 _ _) (PySem.list_append l AT.toArray n u (by rw[zt];omega)) ⟨e,?_⟩;refine⟨.non,_,I.T9 (its':=AT++[u]) a e (by simp) (r.append (.cons d .nil)) ?_,rfl,q⟩;rw[ZA,KG];omega
def UQ:V->O V->Hp->VK->Prop:=λx vs H Q=>∃l b xs zs,x=.ref l/\vs=[.ref b]/\H l=Z (.lst xs)/\H b=Z (.lst zs)/\xs.length+zs.length<=AA/\Q .non (B1 H l (.lst (xs++zs)))
theorem Ua:F8 X "list.extend" UQ:=by
 intro AN s σ H x vs v us Q I g j h;obtain⟨l,b,xs,zs,rfl,rfl,c,p,y,q⟩:=h;cases g;obtain⟨u,rfl,i⟩:=j.one;cases i;obtain⟨z,AT,n,r,A,e⟩:=I.Iv c;obtain⟨z2,a,m,d,w,e2⟩:=I.Iv p;have o:AT.toArray.size+a.toArray.size<=AA:=by rw[zt,zt];omega
 have f:¬ (!AT.toArray.isEmpty&&Builtin.List.listTooLong (AT.toArray.size+a.toArray.size))=true:=by
  rw[KZ o,KA];exact zC
 refine call_meets F.slot_list_extend ⟨_,e,rfl⟩ F.entry_list_extend (F.args_list_extend_2 _ _)
  (AutoSeq1.list_extend_list_list_0 l AT.toArray n b a.toArray m f (by rw[zt];omega) ()) ⟨e,e2,?_⟩
 refine⟨.non,_,I.T9 (its':=AT++a) c e (by simp) (r.append d) ?_,rfl,q⟩;rw[ZA];omega
def OF:R2:=λx y H Q=>∃l k xs,x=.ref l/\y=.int k/\H l=Z (.lst xs) ∧ -(2 ^ 63)<=k/\k<2 ^ 63/\xs.length*k.toNat<=AA ∧
 ∀p,H p=Y3->Q (.ref p) (B1 H p (.lst (ab k.toNat xs).flatten))
theorem D8(xs:O α)(k:Nat):(ab k xs).flatten.length=k*xs.length:=by
 induction k with
 |zero=>simp
 |succ k a=>rw[qo,Zs,ZA,a,ej,Nat.add_comm]
theorem SD:rz X (binaryOp .Mult) OF:=by
 intro AN s σ H x y v u Q I j A h;obtain⟨l,k,xs,rfl,rfl,p,h1,h2,c,q⟩:=h;cases j;obtain⟨t,rfl⟩:=A;obtain⟨z,AT,n,r,w,e⟩:=I.Iv p;have o:AT.toArray.size*k.toNat<=AA:=by rw[zt,<-w];exact c
 have f:¬ AT.toArray.size*k.toNat>(2 ^ 63-1) / 8:=by
  have:(AA:Nat)<=(2 ^ 63-1) / 8:=by decide
  omega
 have g:¬ (!Builtin.List.listFitsIndex k)=true:=by
  rw[fitsIndex_both h1 h2];exact zC
 have d:¬ Builtin.List.listTooLong (AT.toArray.size*k.toNat)=true:=by
  rw[KZ o];exact zC
 have i:hO (λx1 b=>x1++b) #[] (ab (if AT.toArray.isEmpty=true then 0 else k.toNat) AT.toArray)=(ab k.toNat AT).flatten.toArray:=by
  have f0:∀m:Nat,hO (λx1 b=>x1++b) #[] (ab m AT.toArray)=(ab m AT).flatten.toArray:=λm=>by
   have:=Bz AT m [];rw[Ki]at this;exact this
  rw[f0];cases AT with
  |nil=>simp
  |cons a B=>rw[zS (by simp)]
 refine wpAny_binaryOp_repeat_ref (T :="list") (U :="int") () ⟨_,e,rfl⟩ (λs'=>typeIs_int s' k t) noFill_list_mul F.fills_int_mul F.slot_int_rmul repeat_list F.slot_int_index.lookup
  (call_meets F.slot_int_rmul (typeIs_int s k t) F.entry_int_rmul (F.args_int_rmul_2 _ _) (int___rmul___int_list k t l AT.toArray n)
   ⟨e,rfl,⟨_,e,rfl⟩,call_meets F.slot_list_mul ⟨_,e,rfl⟩ F.entry_list_mul (F.args_list_mul_2 _ _) (AutoListH.list___mul___list_int_3 l AT.toArray n k t g f d) ⟨e,?_⟩⟩)
 rw[i];exact⟨.ref _,_,I.ajh (t':=s.toks) (r.rep k.toNat) (by rw[D8,ik];exact c),rfl,q _ I.fresh⟩
end
section
variable{X:Cx}
end
end L2
namespace L2
section
variable [DecidableEq κ]
def lq(AO:O (κ×V))(k:κ):Y V:=(AO.find? λa=>decide (a.1=k)).map (·.2)
def BH(AO:O (κ×V))(k:κ)(v:V):O (κ×V):=
 if(AO.any λa=>decide (a.1=k))=true then AO.map (λa=>if a.1=k then(a.1,v)else a)else AO++[(k,v)]
theorem rH{p:κ×V}{r:O (κ×V)}{k:κ}(e:p.1=k):lq (p::r) k=Z p.2:=by simp[lq,kC,e]
theorem rJ{p:κ×V}{r:O (κ×V)}{k:κ}(e:¬ p.1=k):lq (p::r) k=lq r k:=by simp[lq,kC,e]
theorem rK(k:κ):∀AO:O (κ×V),(AO.any λa=>decide (a.1=k))=(lq AO k).isSome
 |[]=>rfl
 |p::r=>by
  rw[JY];by_cases e:p.1=k
  ·simp only[rH e,ZI e,Bool.true_or,eW]
  ·rw[rJ e,Zp e,ft];exact rK k r
theorem rM(AO:O (κ×V))(k:κ)(v:V):(BH AO k v).length<=AO.length+1:=by
 unfold BH;split
 ·rw[zk];omega
 ·rw[ZA,ZN,List.length_nil];omega
theorem Fi.yx{o:Y V}{u:Y A0}(r:Fi o u):o.isSome=u.isSome:=by
 cases o with
 |none=>cases u with
  |none=>rfl
  |some _=>exact(show False from r).elim
 |some _=>cases u with
  |none=>exact(show False from r).elim
  |some _=>rfl
theorem KV.val{AO:O (κ×V)}{vs:O (κ×A0)}(r:KV AO vs)(k:κ):Fi (lq AO k) (valueAt vs k):=by
 unfold KV at r
 induction r with
 |nil=>exact True.intro
 |@cons p q ps a h t c=>
  obtain⟨h1,h2⟩:=h;by_cases e:p.1=k
  ·have e':q.1=k:=h1.symm.trans e;have b:valueAt (q::a) k=Z q.2:=by simp[valueAt,kC,e']
   rw[rH e,b];exact h2
  ·have e':¬ q.1=k:=λz=>e (h1.trans z);have b:valueAt (q::a) k=valueAt a k:=by simp[valueAt,kC,e']
   rw[rJ e,b];exact c
theorem KV.any{AO:O (κ×V)}{vs:O (κ×A0)}(r:KV AO vs)(k:κ):(AO.any λa=>decide (a.1=k))=vs.any λa=>decide (a.1=k):=by
 unfold KV at r
 induction r with
 |nil=>rfl
 |cons h t b=>rw[JY,JY,b,h.1]
theorem KV.repl{AO:O (κ×V)}{vs:O (κ×A0)}(r:KV AO vs)(k:κ){y:V}(c:At y u):
  KV (AO.map λa=>if a.1=k then(a.1,y)else a) (vs.map λa=>if a.1=k then(a.1,u)else a):=by
 unfold KV at r ⊢
 induction r with
 |nil=>exact .nil
 |@cons p q ps d h t b=>
  rw[zr,zr];refine .cons ?_ b;obtain⟨h1,h2⟩:=h;by_cases e:p.1=k
  ·rw[zo e,zo (h1.symm.trans e)];exact⟨h1,c⟩
  ·rw[zS e,zS (λz=>e (h1.trans z))];exact⟨h1,h2⟩
theorem KV.put{AO:O (κ×V)}{vs:O (κ×A0)}(r:KV AO vs)(k:κ){y:V}(a:At y u):KV (BH AO k y) (stored vs k u):=by
 unfold BH stored;rw[r.any k];by_cases e:(vs.any λb=>decide (b.1=k))=true
 ·rw[zo e,zo e];exact r.repl k a
 ·rw[zS e,zS e];exact Paired.snoc r ⟨rfl,a⟩
theorem KV.length{AO:O (κ×V)}{vs:O (κ×A0)}(r:KV AO vs):AO.length=vs.length:=Paired.length r
end
theorem Gw{k:An}(r:At (kV k) u):(cH P w).is k u=true:=by
 cases k with
 |inl i=>obtain⟨t,e⟩:=(show ∃t,u=Value.int i t from r);subst e;exact Kz P w i t
 |inr x=>obtain⟨t,e⟩:=(show ∃t,u=Value.str x t from r);subst e;exact KC P w x t
theorem Gx{P:A3}{w:A4}:∀{ks:O An} {us:O A0},AZ (ks.map kV) us->ItemsAre (cH P w) ks us
 |[],_,r=>by rw[kl]at r;cases r;exact .nil
 |k::ks,_,r=>by
  rw[zr]at r;cases r with
  |cons h t=>exact .cons (Gw h) (Gx t)
abbrev KT(H:Hp):O (O An×V)->O (O An×A1×A0)->Prop:=AI λp q=>p.1=q.1/\H q.2.1=Z (.tup (p.1.map kV))/\At p.2 q.2.2
theorem KT.val{H:Hp}{AO:O (O An×V)}{xs:O (O An×A1×A0)}(r:KT H AO xs)(k:O An):Fi (lq AO k) ((atKey xs k).map (·.2)):=by
 induction r with
 |nil=>exact True.intro
 |@cons p q ps a h t c=>
  obtain⟨h1,_,h2⟩:=h;by_cases e:p.1=k
  ·have e':q.1=k:=h1.symm.trans e;have b:atKey (q::a) k=Z q.2:=by simp[atKey,kC,e']
   rw[rH e,b];exact h2
  ·have e':¬ q.1=k:=λz=>e (h1.trans z);have b:atKey (q::a) k=atKey a k:=by simp[atKey,kC,e']
   rw[rJ e,b];exact c
theorem KT.repl{H:Hp}{AO:O (O An×V)}{xs:O (O An×A1×A0)}(r:KT H AO xs)(k:O An){y:V}(d:At y u):
  KT H (AO.map λa=>if a.1=k then(a.1,y)else a) (xs.map (putAt k u)):=by
 induction r with
 |nil=>exact .nil
 |@cons p q ps f h t c=>
  rw[zr,zr];refine .cons ?_ c;obtain⟨h1,h2,b⟩:=h;unfold putAt;by_cases e:p.1=k
  ·rw[zo e,zo (h1.symm.trans e)];exact⟨h1,h2,d⟩
  ·rw[zS e,zS (λz=>e (h1.trans z))];exact⟨h1,h2,b⟩
theorem KT.put{H:Hp}{AO:O (O An×V)}{xs:O (O An×A1×A0)}(r:KT H AO xs)(k:O An){b:A1}{y:V}(d:H b=Z (.tup (k.map kV)))(a:At y u):
  KT H (BH AO k y) (storedH xs k b u):=by
 have e:(AO.any λc=>decide (c.1=k))=(atKey xs k).isSome:=by
  rw[rK,(r.val k).yx,iN]
 unfold BH storedH;rw[e];by_cases q:(atKey xs k).isSome=true
 ·rw[zo q,zo q];exact r.repl k a
 ·rw[zS q,zS q];exact Paired.snoc r ⟨rfl,d,a⟩
theorem KT.keeps{H H':Hp}{AO:O (O An×V)}{xs:O (O An×A1×A0)}(r:KT H AO xs)(a:∀b ys,H b=Z (.tup ys)->H' b=Z (.tup ys)):KT H' AO xs:=
 Paired.Z2 r λ_ _ z=>⟨z.1,a _ _ z.2.1,z.2.2⟩
section
variable{H:Hp}{h:A6}
theorem N3{u:HO}(ok:vP P w H h)(e:Rd H a u):dw P w H h a u:=e.ok ok
theorem qN{AO:O (An×V)}(ok:vP P w H h)(e:Rd H a (.dK AO)):AO.length<=AA/\(a==sysModules)=false/\∃vs,KV AO vs/\h.DictOf (cH P w) a vs:=
 show dw P w H h a (.dK AO) from N3 ok e
theorem IT{AO:O (An×V)}(ok:vP P w H h)(e:H a=Z (.dK AO)):AO.length<=AA/\(a==sysModules)=false/\∃vs,KV AO vs/\h.DictOf (cH P w) a vs:=qN ok (.inl e)
theorem Iw{ks:O An}(ok:vP P w H h)(e:H a=Z (.tup (ks.map kV))):(tupleKind (cH P w)).is h ks a:=by
 obtain⟨_,AT,r,o,h1,h2,⟨n,b⟩,_⟩:=(show dw P w H h a (.tup (ks.map kV)) from ok a _ e);exact⟨o,AT.toArray,n,h1,h2,b,by simpa using Gx r⟩
theorem Rw{AO:O (O An×V)}(ok:vP P w H h)(e:Rd H a (.dT AO)):AO.length<=AA/\(a==sysModules)=false ∧
  ∃xs,KT H AO xs/\h.DictOfH (tupleKind (cH P w)) a xs:=by
 obtain⟨z,y,xs,r,o,es,ep,h1,h2,c,f,d⟩:=(show dw P w H h a (.dT AO) from N3 ok e);refine⟨z,y,xs,r,o,es,ep,h1,h2,c,f,λx hx=>?_,d⟩;have all:∀{l:O (O An×V)} {m:O (O An×A1×A0)},KT H l m->∀x∈m,(tupleKind (cH P w)).is h x.1 x.2.1:=by
  intro l m q
  induction q with
  |nil=>intro x hx;exact nomatch hx
  |@cons p q ps i b t g=>
   intro x hx;rcases List.mem_cons.mp hx with e|hx
   ·subst e;exact Iw ok (by rw[<-b.1];exact b.2.1)
   ·exact g x hx
 exact all r x hx
theorem XW{AO:O (O An×V)}(ok:vP P w H h)(e:H a=Z (.dT AO)):AO.length<=AA/\(a==sysModules)=false ∧
  ∃xs,KT H AO xs/\h.DictOfH (tupleKind (cH P w)) a xs:=Rw ok (.inl e)
end
def Iz(H:Hp)(a:A1)(y:V)(r:Y V):Prop:=
 (∃AO k,Rd H a (.dK AO)/\y=kV k/\r=lq AO k)\/∃AO k b,Rd H a (.dT AO)/\y=.ref b/\H b=Z (.tup (k.map kV))/\r=lq AO k
def K1(H:Hp)(a:A1)(y v:V)(H':Hp):Prop:=
 (∃AO k,H a=Z (.dK AO)/\y=kV k/\AO.length<AA/\H'=B1 H a (.dK (BH AO k v))) ∨
 ∃AO k b,H a=Z (.dT AO)/\y=.ref b/\H b=Z (.tup (k.map kV))/\AO.length<AA/\H'=B1 H a (.dT (BH AO k v))
theorem Iz.t{H:Hp}{b:A1}{AO:O (O An×V)}{k:O An}(e:H a=Z (.dT AO))(eb:H b=Z (.tup (k.map kV))):Iz H a (.ref b) (lq AO k):=.inr ⟨AO,k,b,.inl e,rfl,eb,rfl⟩
theorem K1.k{H:Hp}{a:A1}{AO:O (An×V)}{k:An}{v:V}(e:H a=Z (.dK AO))(b:AO.length<AA):K1 H a (kV k) v (B1 H a (.dK (BH AO k v))):=.inl ⟨AO,k,e,rfl,b,rfl⟩
theorem K1.t{H:Hp}{b:A1}{AO:O (O An×V)}{k:O An}{v:V}(e:H a=Z (.dT AO))(eb:H b=Z (.tup (k.map kV)))(c:AO.length<AA):
  K1 H a (.ref b) v (B1 H a (.dT (BH AO k v))):=.inr ⟨AO,k,b,e,rfl,eb,c,rfl⟩
section
variable{X:Cx}{σ:St}{H:Hp}{y v:V}{r:A0}{o:Y V}
theorem AW.big(I:AW X AN σ H s):sysModules<s.heap.objs.size:=by
 have h:mainGlobals<s.heap.objs.size:=(I.mod.glob.keeps I.bk).lt;exact gg () h
theorem Ub{Q:BC}(n:A.units+1<cLine)(I:AW X AN σ H s)(g:Iz H a y (Z v))(m:At y u)(h:∀w' s',AW X AN σ H s'->At v w'->Q w' s'):
  A7 (bn X) A (getItem (.ref a) u) Q E s:=by
 rcases g with⟨AO,k,e,c,l⟩|⟨AO,k,b,e,c,eb,l⟩
 ·subst c;obtain⟨z,hd,vs,j,i⟩:=qN I.hok e;obtain⟨w',d,f⟩:=Fi.some_of (v:=v) (o:=valueAt vs k) (by rw[l];exact j.val k);exact wpAny_getItem_of (Gw m) i.mapOf d (h w' _ (I.tok _) f)
 ·subst c;cases(show u=Value.ref b from m);obtain⟨z,hd,xs,j,i⟩:=Rw I.hok e;obtain⟨w',d,f⟩:=Fi.some_of (v:=v) (o:=(atKey xs k).map (·.2)) (by rw[l];exact j.val k);obtain⟨p,hp,q⟩:=dE.mp d;refine wpAny_getItem_heap (tupleKind_room_in1 n) (Iw I.hok eb) i hp ?_;rw[q];exact h w' _ (I.tok _) f
theorem PZ{Q:BC}(j:A.units+1<cLine)(I:AW X AN σ H s)(g:Iz H a y o)(i:At y u)(h:∀s',AW X AN σ H s'->Q (.bool (!o.isSome)) s'):
  A7 (bn X) A (AG .NotIn u (.ref a)) Q E s:=by
 rcases g with⟨AO,k,e,c,l⟩|⟨AO,k,b,e,c,eb,l⟩
 ·subst c;obtain⟨z,hd,vs,f,d⟩:=qN I.hok e;refine wpAny_notIn_of (Gw i) hd d.mapOf ?_;rw[<-(f.val k).yx,<-l];exact h _ (I.tok _)
 ·subst c;cases(show u=Value.ref b from i);obtain⟨z,hd,xs,f,d⟩:=Rw I.hok e;refine wpAny_notIn_heap (tupleKind_room_in1 j) (Iw I.hok eb) hd d ?_;have q:=(f.val k).yx;rw[iN]at q;rw[<-q,<-l];exact h _ (I.tok _)
theorem IK{h':A6}{t':Nat}{c:HO}(I:AW X AN σ H s)(d:Eg (H a))(hs:Heap.SameBut a s.heap h')(he:∃q,h'.get? a=Z q)(new:dw X.prog X.w (B1 H a c) h' a c):
  AW X AN σ (B1 H a c) { s with heap:=h',toks:=t' }:=
 I.write (x:=a) (e:=a) d (.inl S) (λb q f z=>(hs.2 b f).trans z) he new
theorem Wt{H':Hp}{h':A6}{AO:O (An×V)}{vs:O (An×A0)}(z:AO.length<=AA)(hd:(a==sysModules)=false)(b:KV AO vs)(c:h'.DictOf (cH P w) a vs):
  dw P w H' h' a (.dK AO):=⟨z,hd,vs,b,c⟩
theorem Uc{H':Hp}{Q:Unit->A2->Prop}(G:A.units+1<cLine)(I:AW X AN σ H s)(g:K1 H a y v H')(D:At y u)(C:At v r)(h:∀s',AW X AN σ H' s'->Q cr s'):
  A7 (bn X) A (setItem (.ref a) u r) Q E s:=by
 rcases g with⟨AO,k,e,j,l,m⟩|⟨AO,k,b,e,j,eb,l,m⟩
 ·subst j m;obtain⟨z,hd,vs,d,n⟩:=IT I.hok e;have p:vs.length<=AA:=by rw[<-d.length];exact z
  have x:(BH AO k v).length<=AA:=by have:=rM AO k v;omega
  refine wpAny_setItem_pairs (hsz:=p) (Gw D) n λh' f o=>h _ ?_;have L:∃q,h'.get? a=Z q:=let ⟨q,_,_,i,_⟩:=f;⟨q,i⟩;exact IK I (by rw[e];exact True.intro) o L (Wt x hd (d.put k C) f)
 ·subst j m;cases(show u=Value.ref b from D);obtain⟨z,hd,xs,d,n⟩:=XW I.hok e;have p:xs.length<=AA:=by rw[<-Paired.length d];exact z
  have x:(BH AO k v).length<=AA:=by have:=rM AO k v;omega
  refine wpAny_setItem_heap (hsz:=p) (tupleKind_room_in1 G) (Iw I.hok eb) n λh' f o=>h _ ?_;obtain⟨q,es,ep,i,h2,F,K,_,J⟩:=f;refine IK I (by rw[e];exact True.intro) o ⟨q,i⟩ ⟨x,hd,_,(d.put k eb C).keeps λc ys B=>?_,q,es,ep,i,h2,F,K,J⟩;rw[aF (d9 B e (λz=>nomatch z))];exact B
end
section
variable{X:Cx}{σ:St}{H:Hp}{AO:O (An×V)}{k:An}
end
def HP(i:Expr):Prop:=∀a iv,subscripted i false a iv=operate [a,iv] (getItem a iv)
theorem Pd{value a:Expr}{T id:String}{Q:BC}(m:typeLookup (.type T) "__getitem__"=pure (Z (.builtin id)))(hs:HP a)(h:A7 (A8 prog w) A (eval value env) (λo e=>A7 (A8 prog w) A (eval a env) (λi b=>b.TypeIs o T/\A7 (A8 prog w) A (getItem o i) Q E b) E e) E s):
  A7 (A8 prog w) A (eval (.Subscript value a pos) env) Q E s:=by
 refine Subscript_ (ZU h (λo e l=>ZU l (λi b c=>?_) λ_ _ x=>x) λ_ _ x=>x);obtain⟨g,c⟩:=c;unfold subscriptTail;refine zb ?_;rw[getitemInPython_of_ne g.not_modules];refine zb (wpAny_specialOf g m ?_);have d:A7 (A8 prog w) A (subscripted a false o i) (λr f=>A7 (A8 prog w) A (letTemporaryGo value o r >>= λ_=>pure r) Q E f) E b:=by
  rw[hs o i];exact wpAny_operating (ZU c (λr f j=>zb (wpAny_letTemporaryGo (ze j))) λ_ _ x=>x)
 first
  |exact ze (zb d)
  |exact zb (ze (zb d))
  |exact zb d
theorem K3{X:Cx}{σ:St}{H:Hp}{y:V}{o:Y V}(I:AW X AN σ H s)(g:Iz H a y o):s.TypeIs (.ref a) "dict":=by
 rcases g with⟨AO,k,e,_,_⟩|⟨AO,k,b,e,_,_,_⟩
 ·obtain⟨_,_,vs,_,c⟩:=qN I.hok e;exact c.typeIs
 ·obtain⟨_,_,xs,_,c⟩:=Rw I.hok e;exact c.typeIs
def MD(td ty:TE):TE:=λσ H Q=>td σ H λx H1=>ty σ H1 λy H2=>∃a v,x=.ref a/\Iz H2 a y (Z v)/\Q v H2
def RH(ty td:TE):TE:=λσ H Q=>ty σ H λy H1=>td σ H1 λx H2=>∃a o,x=.ref a/\Iz H2 a y o/\Q (.bl (!o.isSome)) H2
def Os(td ty tv:TE):TS:=λD σ H=>tv σ H λv H1=>td σ H1 λx H2=>ty σ H2 λy c=>∃a b,x=.ref a/\K1 c a y v b/\D.nx σ b
section
variable{X:Cx}{o i value:Expr}{pos':Pos}{td ty tv:TE}
theorem Rx(b:X.A.units+1<cLine)(e:PE X o td)(hi:PE X i ty)(hs:HP i):PE X (.Subscript o i pos) (MD td ty):=by
 intro AN s σ H Q I h;refine Pd PySem.F.slot_dict_getitem.lookup hs (fB (e AN s σ H _ I h) λu s1 ⟨x,H1,I1,rx,q1⟩=>fB (hi AN s1 σ H1 _ I1 q1) λiv s2 ⟨y,H2,I2,ry,a,v,ex,g,q2⟩=>?_);subst ex;obtain rfl:u=Value.ref a:=rx;exact⟨K3 I2 g,Ub b I2 g ry λj f d c=>⟨v,H2,d,c,q2⟩⟩
theorem Ud(d:X.A.units+1<cLine)(hi:PE X i ty)(c:PE X o td):PC X .NotIn i o (RH ty td):=by
 intro AN s σ H Q I h;refine fB (hi AN s σ H _ I h) λiv s1 ⟨y,H1,I1,ry,q1⟩=>fB (c AN s1 σ H1 _ I1 q1) λu s2 ⟨x,H2,I2,rx,a,ov,ex,g,q2⟩=>?_;subst ex;obtain rfl:u=Value.ref a:=rx;exact PZ d I2 g ry λe b=>⟨.bl (!ov.isSome),H2,b,rfl,q2⟩
theorem Ry(b:X.A.units+1<cLine)(e:PE X o td)(hi:PE X i ty)(d:PE X value tv)(hs:swapsWith value (Z (.Subscript o i pos')) pos.line X.env=pure false):
  PS X (.Assign [.Subscript o i pos'] value pos) (Os td ty tv):=by
 intro AN s σ H D I h;refine wpAny_Assign_Subscript (fB (d AN s σ H _ I h) λr s1 ⟨v,H1,I1,rv,q1⟩=>fB (e AN s1 σ H1 _ I1 q1) λu s2 ⟨x,H2,I2,rx,q2⟩=>fB (hi AN s2 σ H2 _ I2 q2) λiv s3 ⟨y,H3,I3,ry,a,H4,ex,g,q3⟩=>?_) hs;subst ex;obtain rfl:u=Value.ref a:=rx;exact Uc b I3 g ry rv λf c=>⟨σ,H4,c,q3⟩
end
theorem Wu{H:Hp}(h:A6)(a:sysModules<h.objs.size):dw P w H (h.push { cls:=.type "dict",data:=.dict #[] }) h.objs.size (.dK []):=
 ⟨qc _,beq_eq_false_iff_ne.mpr (j0 (zI a)),[],.nil,Heap.DictOf.new h⟩
theorem Wv{H:Hp}(h:A6)(a:sysModules<h.objs.size):dw P w H (h.push { cls:=.type "dict",data:=.dict #[] }) h.objs.size (.dT []):=
 ⟨qc _,beq_eq_false_iff_ne.mpr (j0 (zI a)),[],.nil,_,#[],0,zl _ rfl,⟨rfl,rfl,rfl⟩,rfl,rfl,QQ⟩
def Oy:TE:=λ_ H Q=>∀p,H p=Y3->Q (.ref p) (B1 H p (.dK []))
def Nc:TE:=λ_ H Q=>∀p,H p=Y3->Q (.ref p) (B1 H p (.dT []))
section
variable{X:Cx}
theorem Ww:PE X (.Dict [] [] pos) Oy:=λAN s σ H Q I h=>
 wpAny_Dict_empty ⟨.ref s.heap.objs.size,_,I.laid (a:=s.heap.objs.size) (o:=.dK []) (t':=s.toks) (λ_ _ q=>zd _ q) (zi _) (Wu s.heap I.big),rfl,h _ (I.hok.fresh (zi _))⟩
theorem Wx:PE X (.Dict [] [] pos) Nc:=λAN s σ H Q I h=>
 wpAny_Dict_empty ⟨.ref s.heap.objs.size,_,I.laid (a:=s.heap.objs.size) (o:=.dT []) (t':=s.toks) (λ_ _ q=>zd _ q) (zi _) (Wv s.heap I.big),rfl,h _ (I.hok.fresh (zi _))⟩
end
structure M1 (X:Cx) (o:Expr) (m:Str) (apos:Pos) (e:Expr) (cpos:Pos):Prop where
 base:attributeBase o m X.env (eval o X.env)=eval o X.env
 few:((backTo cpos (starEach [e] X.env)).all (λx=>!x.1)&&(backToKw cpos (keywordEach [] X.env)).all (λx=>x.1.isSome)
  && decide (([e]:List Expr).length+([]:List Keyword).length+(if([]:List Keyword).isEmpty then 0 else 1)<30))=true
 line:(apos.endLine==cpos.line)=true
 trees:backTo cpos (starEach [e] X.env)=[(false,eval e X.env)]
structure M2 (X:Cx) (o:Expr) (m:Str) (apos:Pos) (e f:Expr) (cpos:Pos):Prop where
 base:attributeBase o m X.env (eval o X.env)=eval o X.env
 few:((backTo cpos (starEach [e,f] X.env)).all (λx=>!x.1)&&(backToKw cpos (keywordEach [] X.env)).all (λx=>x.1.isSome)
  && decide (([e,f]:List Expr).length+([]:List Keyword).length+(if([]:List Keyword).isEmpty then 0 else 1)<30))=true
 line:(apos.endLine==cpos.line)=true
 trees:backTo cpos (starEach [e,f] X.env)=[(false,eval e X.env),(false,eval f X.env)]
section
variable{X:Cx}{σ:St}{H:Hp}{y d:V}{r:A0}{o:Y V}
end
section
variable{X:Cx}{o f:Expr}{td ty tx:TE}
end
section
variable{X:Cx}{σ:St}{H:Hp}{AO:O (An×V)}
end
section
variable{X:Cx}{σ:St}{H:Hp}{y:V}
end
end L2
namespace Att
open PySem PySem.W PySem.Calls PyProof.Rows
theorem z8{P:Params}{h:A6}:∀(ns:O Int) (vs:O A0),WellAll P h vs (ns.map WData.int)->IntsAre vs ns:=by
 intro ns
 induction ns with
 |nil=>
  intro vs w;rw[kl]at w;cases w;exact .nil
 |cons n ns c=>
  intro vs w;rw[zr]at w;cases w with
  |cons a b=>
   cases a;exact .cons _ _ (c _ b)
theorem Ue{l:OpenLaw}(hn:l.most=Z n){P:Params}{h:A6}{args:O WData}{g:O A0}(f:l.row.toRowW.claim.pre args=true)(s:WellAll P h g args):
  ∃a vs ns,g=[Value.ref a]/\args=[WData.list (ns.map WData.int)]/\h.get? a=Z { cls:=.type "list",data:=.seq vs.toArray }/\IntsAre vs ns/\ns.length<=n:=by
 have v:WShape.hasAll [] args [.list .int]=true:=(pre_splitW f).1;have e:l.pre.holds [] { args:=args }=true:=(pre_splitW f).2;obtain⟨d,r,rfl,h1,h2⟩:=hasAllW_cons v;obtain rfl:=hasAllW_nil h2;obtain⟨xs,rfl,j⟩:=hasW_list h1;obtain⟨ns,rfl⟩:=items_int j;have m:ns.length<=n:=by
  unfold OpenLaw.pre at e;have c:(WTm.not (.lt (.lit (.int (n:Int))) (.len (.arg 0)))).holds [] { args:=[.list (ns.map .int)] }=true:=by
   have c:=(holds_andW e).1;rw[hn]at c;exact c
  have b:=condW_of c (w_not (w_lt w_lit (w_len_list (w_arg S))));rw[zk]at b;refine Nat.le_of_not_lt λq=>?_;have u:(n:Int)<((ns.length:Nat):Int):=by omega
  first
   |(rw[ZI u]at b;exact absurd b ())
   |(simp at b;omega)
 cases s with
 |cons o i=>
  cases i;cases o with
  |list w p=>exact⟨_,_,ns,rfl,rfl,w,z8 ns _ p,m⟩
theorem Ug(l:OpenLaw)(args:O WData):l.row.toRowW.claim.post args (.bool true) args=true:=
 postW_of (r:=l.row.toRowW) (X:=(true==true))
  (show WShape.has [] (.bool true) .bool=true by first|rfl|decide|simp[WShape.has,WShape.arms,WShape.armsAll])
  (show(WTm.eq .res (.lit (.bool true))).value [] { args:=args,res:=Z (.bool true),after:=args }=Z (.bool (true==true)) from w_eq_bool (w_res S) w_lit) rfl
theorem K4{l:OpenLaw}{q:A3}{loose:Ap}{d:DefRec}(hn:l.most=Z n)(F:d.params.defaults=[])(call:∀(w:A4) (h b:A2) (mg g:AJ->Option A0) (fa:A1) (o:AE) (pm c e:A0) (a:A1) (vs:O A0) (ns:O Int),
   Ground q loose [] XP w h mg g b.heap->YP w b.heap →
   b.heap.get? fa=Z o->o.data=.func (docDef d.name d.params d.body d.scope pm c e)->b.heap.CodeRec c d.name->mg d.name=Z (.ref fa) →
   b.heap.get? a=Z { cls:=.type "list",data:=.seq vs.toArray }->IntsAre vs ns->ns.length<=n->b.gens=#[] →
   AF (A8 l.prog w) callerA (.call (.ref fa) ⟨[.ref a],[]⟩) (λr s'=>r=.ok (.ret (.bool true))/\OldK b.heap s'.heap/\s'.os=b.os/\AllBare s'.gens) b):
  WalkO q loose XP YP l.row.toRowW d [] (λf vs=>PySem.call f vs):=by
 intro w h b mg g G Y fa o pm c e p kV A hd u i B v H K as s L I y J;obtain rfl:p=.none:=Dflts.none i F;obtain rfl:kV=.none:=Dflts.noKw i;obtain⟨a,vs,ns,rfl,rfl,D,C,E⟩:=Ue hn s y;refine enter_call (codeAny_mono (call w h b mg g fa o pm c e a vs ns G Y A (fd_plain hd) u B D C E v) λr s' z=>?_);obtain⟨rfl,h2,j,x⟩:=z;exact⟨.inl ⟨.bool true,.bool true,[],rfl,λ_=>S,.bool true,Ug l _,λ_=>⟨List.Pairwise.nil,λ_ m=>(nomatch m)⟩⟩,h2,j,x⟩
section
variable{K:Frag}
end
end Att
namespace L2
theorem tH:∀{vs:O A0} {ns:O Int},IntsAre vs ns->AZ (ns.map V.int) vs
 |_,_,.nil=>.nil
 |_,_,.cons n t h=>.cons ⟨t,rfl⟩ (tH h)
def CO(H:Hp):Prop:=∀b,H b=Y3\/(∃o xs,H b=Z (.jo o (.lst xs)))\/∃ps,H b=Z (.Ib ps)
structure Wy (K:B5) (h:Heap) (TL:List (Addr×Array Value)):Prop where
 all:∀P q,GU K P q->∃ps,TL.lookup P=some ps/\tq ps=q/\0<ps.size
 ok:∀P ps,TL.lookup P=some ps->K.lookup P=none/\h.get? P=some { cls:=.none,data:=.fields #[] }/\isCodeTable h P/\tr ps=#[]
theorem Wz{E:AJ->Y A0}{CX:V2}{k:Nat}{fa:A1}{sp:Sp}{c:A2}{vs:O A0}{f:O (A1×Array A0)}(J:K.In c.heap)(Q:c.heap.Ns mainGlobals mg)(i:c.heap.Ns builtinsNs E)(a7:∀x:AJ,x ≠ "__name__" → E x=AH x)(a5:c.heap.NoLimit)(c8:∃j p,mg "__builtins__"=Z (.ref j)/\j≠builtinsNs/\c.heap.get? j=Z p/\p.cls=.type "module" ∧ p.dict=Z builtinsNs/\p.data=.plain)(hg:c.gens=#[])(y:c.heap.get? a=Z { cls:=.type "list",data:=.seq vs.toArray })(hi:IntsAre vs ns)(hl:ns.length<=AA)(hr:jW k callerA)(F:∀base:A6,K.In base->base.Ns mainGlobals mg->jx P w K mg base CX k fa fd [x] sp)(a4:∀(s:A2) (u:A0),BindsTo s fd ⟨[u],[]⟩ [(x,u)])(c3:∀H:Hp,CO H->nG K H a (ns.map V.int)->sp [.ref a] H (λv _=>v=.bl true) λ_ _ _=>False)(d0:∀H e s',CX [] H c (λ_ _ _=>False) e s'->False)(T:Wy K c.heap f):
  AF (A8 P w) callerA (.call (.ref fa) ⟨[.ref a],[]⟩) (λr s'=>r=.ok (.ret (.bool true))/\OldK c.heap s'.heap/\s'.os=c.os/\AllBare s'.gens) c:=by
 have U:=tH hi;have a6:=hi.length;have N:f.lookup a=Y3:=by
  cases e:f.lookup a with
  |none=>rfl
  |some ps=>
   have q:=(T.ok a ps e).2.1;rw[y]at q;cases q
 have tok:∀(H:Hp) (b:A1) (ps:Array A0),f.lookup b=Z ps->dw P w H c.heap b (.Ib ps):=λH b ps e=>by
  obtain⟨_,g,_,z⟩:=T.ok b ps e;refine⟨#[],by rw[z];exact g,?_,λpos cv q=>?_⟩
  ·rw[z];simp[TriplesOk]
  ·rw[z]at q;cases q
 have a3:∀H:Hp,CO H->nG K H a (ns.map V.int)->vP P w H c.heap->(∀b,H b≠Y3->b=a\/∃ps,f.lookup b=Z ps)->(∀b ps,f.lookup b=Z ps->H b=Z (.Ib ps))->(H a≠Y3->K.lookup a=Y3) →
   AF (A8 P w) callerA (.call (.ref fa) ⟨[.ref a],[]⟩) (λr s'=>r=.ok (.ret (.bool true))/\OldK c.heap s'.heap/\s'.os=c.os/\AllBare s'.gens) c:=by
  intro H X hS D C b0 hK;have G:∀{b:A1} {o:AE},c.heap.get? b=Z o->H b=Y3->(Ie c.heap H).get? b=Z o:=λe n=>V8 e n;have c0:∀{b:A1} {o:AE} {es:Array DictEntry} {ep:Nat},c.heap.get? b=Z o->o.data=.dict es ep->H b=Y3:=λ{b o es ep} e d=>by
   cases q:H b with
   |none=>rfl
   |some u=>
    rcases C b (by rw[q];simp)with e'|⟨ps,e'⟩
    ·subst e';rw[y]at e;cases e;have d':Data.seq vs.toArray _=Data.dict es ep:=d;cases d'
    ·rw[(T.ok b ps e').2.1]at e;cases e;cases d
  have B:∀{b:A1} {m:AJ->Y A0},c.heap.Ns b m->(Ie c.heap H).Ns b m:=λ{b m} ⟨o,es,ep,e,d,r⟩=>⟨o,es,ep,G e (c0 e d),d,r⟩;have M:K.In (Ie c.heap H):=λb o e=>G (J b o e) (by
   cases q:H b with
   |none=>rfl
   |some u=>
    rcases C b (by rw[q];simp)with e'|⟨ps,e'⟩
    ·subst e';rw[hK (by rw[q];simp)]at e;cases e
    ·rw[(T.ok b ps e').1]at e;cases e)
  have hM:Mod K mg (Ie c.heap H):=⟨M,B Q,⟨E,B i,a7⟩,let ⟨mc,h1,h2⟩:=a5;⟨mc,B h1,h2⟩,let ⟨j,p,b1,b2,b3,b4,b5,b6⟩:=c8;⟨j,p,b1,b2,G b3 (by
   cases q:H j with
   |none=>rfl
   |some u=>
    rcases C j (by rw[q];simp)with e'|⟨ps,e'⟩
    ·subst e';rw[y]at b3;cases b3;injection b4 with z;exact absurd z ()
    ·rw[(T.ok j ps e').2.1]at b3;cases b3;cases b4),b4,b5,b6⟩⟩
  have e0:GI P w K mg (Ie c.heap H) callerA [] c H:=⟨rfl,hM,λb o e=>Z4 e,gh (TQ _ _),trivial,λb i=>absurd (show b∈([]:O A1) from i) (by simp),D,.of_eq hg,λP q k=>by
   obtain⟨ps,l,r⟩:=T.all P q k;exact⟨ps,b0 P ps l,r⟩⟩
  refine codeAny_mono ((F _ M (B Q)).run callerA [] c H ⟨[.ref a],[]⟩ [.ref a] [.ref a] _ _ hr e0 (a4 c (.ref a)) (.cons S .nil) (c3 H X hS)) λr s' h=>?_;cases r with
  |error e=>exact(d0 H e s' h).elim
  |ok fl=>
   cases fl with
   |next=>exact False.elim h
   |brk=>exact False.elim h
   |cont=>exact False.elim h
   |ret u=>
    obtain⟨v,H',os,c5,un,W,r',q⟩:=h;have q':v=.bl true:=q;subst q';obtain rfl:u=Value.bool true:=r';have I:∀b o,c.heap.get? b=Z o->s'.heap.get? b=Z o\/(isCodeTable c.heap b/\o.cls=.none/\∃vs L,o.data=.fields vs/\s'.heap.get? b=Z { o with data:=.fields (vs++L) }):=λb o e=>by
     cases q:H b with
     |none=>exact .inl (un.keep b o e q (by intro z;exact absurd (show b∈([]:O A1) from z) (by simp)) (by simp))
     |some u=>
      rcases X b with z|⟨p,xs,z⟩|⟨ps,z⟩
      ·rw[q]at z;cases z
      ·have z2:=un.z7 b p _ z;obtain⟨e1,_⟩:=D b _ z;obtain⟨e2,_⟩:=W b _ z2;rw[e]at e1;cases e1;exact .inl e2
      ·rcases C b (by rw[q];simp)with e'|⟨c4,e'⟩
       ·subst e';obtain⟨L,g,_⟩:=D b _ z;rw[y]at g;cases g
       ·obtain⟨_,g,ct,_⟩:=T.ok b c4 e';rw[e]at g;cases g;obtain⟨m1,z2⟩:=un.uT b ps z;obtain⟨m2,g2,_⟩:=W b _ z2;exact .inr ⟨ct,rfl,#[],_,rfl,by rw[g2,Array.empty_append]⟩
    refine⟨rfl,⟨λb o e=>(I b o e).imp id .inl,λb o e=>?_⟩,os,c5⟩;rcases I b o e with z|⟨_,_,_,_,_,z⟩<;>exact⟨_,z⟩
 cases hk:K.lookup a with
 |some o=>
  have e:=J a o hk;rw[y]at e;cases e;refine a3 (λb=>(f.lookup b).map .Ib) (λb=>?_) (.inr ⟨_,vs.toArray,_,hk,rfl,rfl,rfl,by rw[zt,a6];exact hl,by simpa using U⟩) (λb u z=>?_) (λb z=>?_) (λb ps e=>by show(f.lookup b).map _=_;rw[e];rfl) λz=>absurd (by show(f.lookup a).map _=Y3;rw[N];rfl) z
  ·cases e:f.lookup b with
   |none=>exact .inl (by show(f.lookup b).map HO.Ib=Y3;rw[e];rfl)
   |some ps=>exact .inr (.inr ⟨ps,by show(f.lookup b).map HO.Ib=_;rw[e];rfl⟩)
  ·have z:(f.lookup b).map HO.Ib=Z u:=z;cases e:f.lookup b with
   |none=>rw[e]at z;cases z
   |some ps=>rw[e]at z;cases z;exact tok _ b ps e
  ·cases e:f.lookup b with
   |none=>exact absurd (by show(f.lookup b).map HO.Ib=Y3;rw[e];rfl) z
   |some ps=>exact .inr ⟨ps,rfl⟩
 |none=>
  refine a3 (λb=>if b=a then Z (.jo { cls:=.type "list",data:=.seq vs.toArray } (.lst (ns.map V.int)))else(f.lookup b).map .Ib) (λb=>?_) (.inl (.inr ⟨{ cls:=.type "list",data:=.seq vs.toArray },zo rfl⟩)) (λb u z=>?_) (λb z=>?_) (λb ps e=>?_) λ_=>hk
  ·by_cases i:b=a
   ·exact .inr (.inl ⟨_,_,zo i⟩)
   ·cases e:f.lookup b with
    |none=>exact .inl ((zS i).trans (by rw[e];rfl))
    |some ps=>exact .inr (.inr ⟨ps,(zS i).trans (by rw[e];rfl)⟩)
  ·by_cases i:b=a
   ·have A:=(zo i).symm.trans z;cases A;subst i;exact⟨y,by rw[zk];exact hl,vs,_,U,y⟩
   ·have A:=(zS i).symm.trans z;cases e:f.lookup b with
    |none=>rw[e]at A;cases A
    |some ps=>rw[e]at A;cases A;exact tok _ b ps e
  ·by_cases i:b=a
   ·exact .inl i
   ·cases e:f.lookup b with
    |none=>exact absurd ((zS i).trans (by rw[e];rfl)) z
    |some ps=>exact .inr ⟨ps,rfl⟩
  ·have i:b≠a:=λz=>by rw[z,N]at e;cases e
   exact(zS i).trans (by rw[e];rfl)
end L2
namespace L2
theorem SO{l:PySem.W.OpenLaw}{k:Nat}{q:A3}{loose:Ap}{d:DefRec}{K:Params->B5}{CX:A4->V2}{sp:A4->Sp}(hn:l.most=Z n)(z:n<=AA)(a3:d.params.defaults=[])(p:jW k callerA)(A:∀(w:A4) (h:A6),YP w h->(K w.params).In h)(F:∀(w:A4) (mg:AJ->Option A0) (fa:A1) (h:A6),(K w.params).In h->h.Ns mainGlobals mg->mg d.name=Z (.ref fa) →
   ∃fd:FuncData,(∀(s:A2) (u:A0),BindsTo s fd ⟨[u],[]⟩ [(x,u)]) ∧
    ∀base:A6,(K w.params).In base->base.Ns mainGlobals mg->jx l.prog w (K w.params) mg base (CX w) k fa fd [x] (sp w))(D:∀(w:A4) (H:Hp) (a:A1) (ns:O Int),ns.length<=n->CO H->nG (K w.params) H a (ns.map V.int)->sp w [.ref a] H (λv _=>v=.bl true) λ_ _ _=>False)(M:∀(w:A4) (H:Hp) (s:A2) (e:A0) (s':A2),CX w [] H s (λ_ _ _=>False) e s'->False)(J:∀(w:A4) (h:A6) (mg i:AJ->Option A0) (E:ExcName->Option A0) (L:Ap),(K w.params).In h->Top q L E mg i h->∃j,Wy (K w.params) h j):
  PySem.W.WalkO q loose XP YP l.row.toRowW d [] (λf vs=>PySem.call f vs):=by
 refine Att.K4 hn a3 λw a6 X mg i fa o pm cd a4 a vs ns G Y ho hd a5 C P I m B=>?_;have c:=A w _ Y;obtain⟨fd,U,N⟩:=F w mg fa _ c G.T.g C;obtain⟨j,tl⟩:=J w _ _ _ _ _ c G.T;exact Wz c G.T.g G.T.b G.T.builtins G.T.nolimit G.T.bmain B P I (zv m z) p N U (λH Q y=>D w H a ns m Q y) (λH e s'=>M w H X e s') tl
theorem WD{l:PySem.W.OpenLaw}{k:Nat}{q:A3}{loose:Ap}{d:DefRec}{K:Params->B5}{CX:V2}{sp:B5->Sp}(hn:l.most=Z n)(z:n<=AA)(y:d.params.defaults=[])(j:jW k callerA)(b:∀(w:A4) (h:A6),YP w h->(K w.params).In h)(F:∀(w:A4) (mg:AJ->Y A0) (fa:A1) (h:A6),(K w.params).In h->h.Ns mainGlobals mg->mg d.name=Z (.ref fa) →
   ∃fd:FuncData,(∀(s:A2) (u:A0),BindsTo s fd ⟨[u],[]⟩ [(x,u)]) ∧
    ∀base:A6,(K w.params).In base->base.Ns mainGlobals mg->jx l.prog w (K w.params) mg base CX k fa fd [x] (sp (K w.params)))(g:∀(K:B5) (H:Hp) (a:A1) (ns:O Int),ns.length<=n->CO H->nG K H a (ns.map V.int)->sp K [.ref a] H (λv _=>v=.bl true) λ_ _ _=>False)(c:∀(H:Hp) (s:A2) (e:A0) (s':A2),CX [] H s (λ_ _ _=>False) e s'->False)(A:∀(w:A4) (h:A6) (mg m:AJ->Y A0) (o:ExcName->Y A0) (B:Ap),(K w.params).In h->Top q B o mg m h->∃p,Wy (K w.params) h p):
  PySem.W.WalkO q loose XP YP l.row.toRowW d [] (λf vs=>PySem.call f vs):=
 SO (K:=K) (CX:=λ_=>CX) (sp:=λw=>sp (K w.params)) hn z y j b F (λw H a ns h1 h2 i=>g (K w.params) H a ns h1 h2 i) (λ_ H s e s'=>c H s e s') A
end L2
namespace L2
def pX(s:AB):Arguments:=match s with
 |.FunctionDef _ a _ _ _ _ _ _ _ _=>a
 |_=>{ posonlyargs:=[],args:=[],vararg:=Y3,kwonlyargs:=[],kw_defaults:=[],kwarg:=Y3,defaults:=[] }
def iG(s:AB):O AB:=match s with
 |.FunctionDef _ _ b _ _ _ _ _ _ _=>b
 |_=>[]
def aO(s:AB):Scope:=match s with
 |.FunctionDef _ _ _ _ _ _ a _ _ _=>a
 |_=>{ kind:=.function,names:=[],isGenerator:=false,isCoroutine:=false }
abbrev uH:V2:=λ_ _ _ _ _ _=>False
abbrev E0:XK:=λ_ _ _=>False
theorem BL{X:Cx}:C8 uH X E0:=λ_ _ _ _ _ _ _ h=>h.elim
structure Aw (K:B5) (x qual:Str) (st:Stmt) (f:Addr) (fd:FuncData):Prop where
 ex:∃(oc:Value) (od:Option Addr) (kV doc pm:Value) (an:Option Addr) (cdv ct:Value) (osl:Array (Option Value)),
  fd=fnOf x qual (pX st) (iG st) (aO st) .none kV doc pm an cdv ct/\K.lookup f=some ⟨oc,od,.func fd,osl⟩/\codeIn K cdv qual=true
 kp:keepIn K (.ref f)=true
theorem Aw.ok{f:A1}{k:Nat}{sp:Sp}(F:Aw K x qual st f fd)(S:bH N ps (aO st))(len:∀vs H Q E,sp vs H Q E->vs.length=ps.length)(g:∀(a:A0) (A:A5) (outer:O Env) (s:A2) (H:Hp) (vs:O V) (Q:VK) (E:XK),jW k (A.deeper (AK qual (aO st) s.heap.objs.size f a))->sp vs H Q E →
   ∃t,KH (BJ uH P w K mg base N qual (aO st) f a A outer s H E).ZS (iG st) t/\t { nx:=λ_ H'=>Q .non H',rt:=Q } (start N vs) H):jx P w K mg base uH (k+1) f fd ps sp:=by
 obtain⟨m,j,kV,i,pm,l,a,ct,osl,rfl,d,e⟩:=F.ex;refine LB d e S len λA outer s H vs Q E c b=>?_;obtain⟨t,h,q⟩:=g a A outer s H vs Q E c b;exact⟨t,h.ZS,q⟩
theorem Aw.binds{f:A1}(F:Aw K x qual st f fd)(h:∀(kV a pm:A0) (c:Y A1) (b ct:A0) (us:O A0),us.length=ps.length->bindArgs (fnOf x qual (pX st) (iG st) (aO st) .none kV a pm c b ct) ⟨us,[]⟩=pure (ps.zip us)):BE K fd ps []:=by
 obtain⟨i,d,kV,a,pm,c,b,ct,osl,rfl,e,g⟩:=F.ex;exact .all (h kV a pm c b ct)
theorem WK{f:A1}{g:A0}{e d:Y A1}{kV b a ct:A0}(l:K.lookup f=Z ⟨g,e,.func (fnOf x qual (pX st) (iG st) (aO st) .none kV b pm d a ct),osl⟩)(c:codeIn K a qual=true)(k:keepIn K (.ref f)=true):Aw K x qual st f (fnOf x qual (pX st) (iG st) (aO st) .none kV b pm d a ct):=⟨⟨g,e,kV,b,pm,d,a,ct,osl,rfl,l,c⟩,k⟩
theorem bb{k:Nat}(a:jW k A):A.units+1<cLine:=QA (Nat.add_le_add_left (by decide:1<=64) _) a.units
section
variable{X:Cx}
theorem pv(i:Nat)(a:X.N[i]?=Z x:=by rfl)(c:Ov X.env.scope x:=by first|exact JJ rfl|exact QN (JJ S)|exact QN (QN S))(hd:ad x:=by decide)(b:(x==("__classdict__":AJ))=false:=by decide):PE X (.Name x pos) (TX i):=oV a c hd b
end
def AX(H H':Hp):Prop:=∀b o,H b=Z o->H' b=Z o
theorem AX.refl(H:Hp):AX H H:=λ_ _ h=>h
theorem AX.trans{H H1 H2:Hp}(a:AX H H1)(b:AX H1 H2):AX H H2:=λc o h=>b c o (a c o h)
theorem AX.free{H H':Hp}(e:AX H H')(h:H' l=Option.none):H l=Option.none:=by
 cases q:H l with
 |none=>rfl
 |some o=>
  rw[e l o q]at h;cases h
theorem AX.seq{H H':Hp}{xs:O V}(e:AX H H')(h:nG K H a xs):nG K H' a xs:=by
 rcases h with (h|⟨o,h⟩)|h
 ·exact .inl (.inl (e _ _ h))
 ·exact .inl (.inr ⟨o,e _ _ h⟩)
 ·exact .inr h
end L2
variable{xs:O L2.V}{H:L2.Hp}{o:L2.HO}{X:L2.Cx}{σ:L2.St}{v:L2.V}{ta te:L2.TE}{J:L2.It}{vs:O L2.V}{AO:O (O L2.An×L2.V)}{sp:L2.Sp}{ks:O (L2.An×L2.V)}{H0 Hs Hb:L2.Hp}{dH:O (O L2.An)}
namespace P1
open L2
inductive Dt where
 |non|bl (b:Bool)|int (i:Int)|str (x:Str)|tup (xs:List Dt)|lst (xs:List Dt)|emp
inductive Bx where
 |z (d:Dt)|l (ds:List Dt)|o (ds:List Dt)|n (AO:List (An×Dt))|m (AO:List (An×Dt)) (w:Option Addr)
abbrev Ev:=O (Y Bx)
def F1(K:B5)(H:Hp)(a:A1)(xs:O V):Prop:=
 (∃o,H a=Z (.jo o (.lst xs))) ∨
  ∃(o:AE) (AT:Array A0) (n:Nat),K.lookup a=Z o/\o.cls=.type "list" ∧ o.dict=Y3/\o.data=.seq AT n/\AT.size<=AA/\AZ xs AT.toList
theorem F1.sq(h:F1 K H a xs):nG K H a xs:=by
 rcases h with h|h
 ·exact .inl (.inr h)
 ·exact .inr h
mutual
def AY(K:B5)(H:Hp):Dt->V->Prop
 |.non,v=>v=.non
 |.bl b,v=>v=.bl b
 |.int i,v=>v=.int i
 |.str x,v=>v=.str x/\x.length<=AA
 |.tup ds,v=>∃a vs,v=.ref a/\vU K H a vs/\aG K H ds vs
 |.lst ds,v=>∃a vs,v=.ref a/\F1 K H a vs/\aG K H ds vs
 |.emp,v=>∃a o,v=.ref a/\H a=Z (.jo o (.dK []))
def aG(K:B5)(H:Hp):O Dt->O V->Prop
 |[],vs=>vs=[]
 |d::ds,vs=>∃v r,vs=v::r/\AY K H d v/\aG K H ds r
end
structure Kp (H H':Hp):Prop where
 t:∀a xs,H a=some (.tup xs)->H' a=some (.tup xs)
 f:∀a o u,H a=some (.jo o u)->H' a=some (.jo o u)
theorem Kp.of{H':Hp}(s:AX H H'):Kp H H':=⟨λa _ h=>s a _ h,λa _ _ h=>s a _ h⟩
theorem Kp.sqT{H':Hp}(k:Kp H H')(h:vU K H a xs):vU K H' a xs:=by
 rcases h with (h|⟨o,h⟩)|h
 ·exact .inl (.inl (k.t _ _ h))
 ·exact .inl (.inr ⟨o,k.f _ _ _ h⟩)
 ·exact .inr h
theorem Kp.fzL{H':Hp}(k:Kp H H')(h:F1 K H a xs):F1 K H' a xs:=by
 rcases h with⟨o,h⟩|h
 ·exact .inl ⟨o,k.f _ _ _ h⟩
 ·exact .inr h
theorem Kp.lst(h:H a=Z (.lst xs)):Kp H (B1 H a o):=by
 refine⟨λb ys e=>?_,λb c u e=>?_⟩
 ·rw[aF (d9 e h (by intro z;cases z))];exact e
 ·rw[aF (d9 e h (by intro z;cases z))];exact e
theorem Kp.dk{xs:O (An×V)}(h:H a=Z (.dK xs)):Kp H (B1 H a o):=by
 refine⟨λb ys e=>?_,λb c u e=>?_⟩
 ·rw[aF (d9 e h (by intro z;cases z))];exact e
 ·rw[aF (d9 e h (by intro z;cases z))];exact e
mutual
theorem AY.kp{K:B5}{H H':Hp}(k:Kp H H'):∀{d:Dt} {v:V},AY K H d v->AY K H' d v
 |.non,_,h=>by simpa only[AY]using h
 |.bl _,_,h=>by simpa only[AY]using h
 |.int _,_,h=>by simpa only[AY]using h
 |.str _,_,h=>by simpa only[AY]using h
 |.tup ds,_,h=>by
  simp only[AY]at h ⊢;obtain⟨a,vs,e,q,r⟩:=h;exact⟨a,vs,e,k.sqT q,aG.kp k r⟩
 |.lst ds,_,h=>by
  simp only[AY]at h ⊢;obtain⟨a,vs,e,q,r⟩:=h;exact⟨a,vs,e,k.fzL q,aG.kp k r⟩
 |.emp,_,h=>by
  simp only[AY]at h ⊢;obtain⟨a,o,e,q⟩:=h;exact⟨a,o,e,k.f _ _ _ q⟩
theorem aG.kp{K:B5}{H H':Hp}(k:Kp H H'):∀{ds:O Dt} {vs:O V},aG K H ds vs->aG K H' ds vs
 |[],_,h=>by simpa only[aG]using h
 |d::ds,_,h=>by
  simp only[aG]at h ⊢;obtain⟨v,r,e,q,t⟩:=h;exact⟨v,r,e,AY.kp k q,aG.kp k t⟩
end
theorem aG.length{K:B5}{H:Hp}:∀{ds:O Dt} {vs:O V},aG K H ds vs->vs.length=ds.length
 |[],_,h=>by simp only[aG]at h;subst h;rfl
 |d::ds,_,h=>by
  simp only[aG]at h;obtain⟨v,r,rfl,_,t⟩:=h;simp[aG.length t]
theorem aG.nil:aG K H [] []:=by simp only[aG]
theorem aG.cons{K:B5}{H:Hp}{d:Dt}{v:V}{ds:O Dt}{vs:O V}(h:AY K H d v)(t:aG K H ds vs):aG K H (d::ds) (v::vs):=by
 simp only[aG];exact⟨v,vs,rfl,h,t⟩
theorem aG.append{K:B5}{H:Hp}:∀{ds es:O Dt} {vs us:O V},aG K H ds vs->aG K H es us->aG K H (ds++es) (vs++us)
 |[],_,_,_,h,t=>by simp only[aG]at h;subst h;exact t
 |d::ds,_,_,_,h,t=>by
  simp only[aG]at h;obtain⟨v,r,rfl,q,h⟩:=h;exact aG.cons q (aG.append h t)
theorem aG.drop{K:B5}{H:Hp}:∀(n:Nat) {ds:O Dt} {vs:O V},aG K H ds vs->aG K H (ds.drop n) (vs.drop n)
 |0,_,_,h=>h
 |n+1,[],_,h=>by simp only[aG]at h;subst h;exact aG.nil
 |n+1,d::ds,_,h=>by
  simp only[aG]at h;obtain⟨v,r,rfl,q,h⟩:=h;exact aG.drop n h
theorem aG.take{K:B5}{H:Hp}:∀(n:Nat) {ds:O Dt} {vs:O V},aG K H ds vs->aG K H (ds.take n) (vs.take n)
 |0,_,_,_=>aG.nil
 |n+1,[],_,h=>by simp only[aG]at h;subst h;exact aG.nil
 |n+1,d::ds,_,h=>by
  simp only[aG]at h;obtain⟨v,r,rfl,q,h⟩:=h;exact aG.cons q (aG.take n h)
theorem aG.get{K:B5}{H:Hp}:∀{ds:O Dt} {vs:O V} {i:Nat} {d:Dt},aG K H ds vs->ds[i]?=Z d->∃v,vs[i]?=Z v/\AY K H d v
 |[],_,_,_,_,e=>by simp at e
 |d::ds,_,0,_,h,e=>by
  simp only[aG]at h;obtain⟨v,r,rfl,q,h⟩:=h;simp at e;subst e;exact⟨v,rfl,q⟩
 |d::ds,_,i+1,_,h,e=>by
  simp only[aG]at h;obtain⟨v,r,rfl,q,h⟩:=h;obtain⟨u,e1,e2⟩:=aG.get h (i:=i) (by simpa using e);exact⟨u,by simpa using e1,e2⟩
def DU:An->Prop
 |.inl _=>True
 |.inr x=>x.length<=AA
def gD(K:B5)(H:Hp)(AO:O (An×Dt))(ks:O (An×V)):Prop:=ks.map (·.1)=AO.map (·.1)/\aG K H (AO.map (·.2)) (ks.map (·.2))/\∀p∈AO,DU p.1
theorem gD.kp{K:B5}{H H':Hp}{AO:O (An×Dt)}{ks:O (An×V)}(h:gD K H AO ks)(k:Kp H H'):gD K H' AO ks:=⟨h.1,h.2.1.kp k,h.2.2⟩
def aX(K:B5)(H:Hp):Bx->V->Prop
 |.z d,v=>AY K H d v
 |.l ds,v=>∃a vs,v=.ref a/\Rd H a (.lst vs)/\aG K H ds vs
 |.o ds,v=>∃a vs,v=.ref a/\H a=Z (.lst vs)/\aG K H ds vs
 |.n AO,v=>∃a ks,v=.ref a/\Rd H a (.dK ks)/\gD K H AO ks
 |.m AO w,v=>∃a ks,v=.ref a/\H a=Z (.dK ks)/\gD K H AO ks/\∀b,w=Z b->b=a
theorem aX.same{H':Hp}(s:AX H H'){b:Bx}(h:aX K H b v):aX K H' b v:=by
 cases b with
 |z d=>exact AY.kp (.of s) h
 |l ds=>
  obtain⟨a,vs,e,q,r⟩:=h;refine⟨a,vs,e,?_,r.kp (.of s)⟩;rcases q with q|⟨o,q⟩
  ·exact .inl (s _ _ q)
  ·exact .inr ⟨o,s _ _ q⟩
 |o ds=>
  obtain⟨a,vs,e,q,r⟩:=h;exact⟨a,vs,e,s _ _ q,r.kp (.of s)⟩
 |n AO=>
  obtain⟨a,vs,e,q,r⟩:=h;refine⟨a,vs,e,?_,r.kp (.of s)⟩;rcases q with q|⟨o,q⟩
  ·exact .inl (s _ _ q)
  ·exact .inr ⟨o,s _ _ q⟩
 |m AO _=>
  obtain⟨a,vs,e,q,r⟩:=h;exact⟨a,vs,e,s _ _ q,r.1.kp (.of s),r.2⟩
def lY:Bx->Y (O Dt)
 |.z (.lst ds)=>Z ds
 |.l ds=>Z ds
 |.o ds=>Z ds
 |_=>Y3
theorem aX.Ax{b:Bx}{ds:O Dt}(h:aX K H b v)(e:lY b=Z ds):∃a vs,v=.ref a/\nG K H a vs/\aG K H ds vs:=by
 cases b with
 |z d=>
  cases d<;>first|(cases e;done)|skip;cases e;simp only[aX,AY]at h;obtain⟨a,vs,e,q,r⟩:=h;exact⟨a,vs,e,q.sq,r⟩
 |l c=>
  cases e;obtain⟨a,vs,e,q,r⟩:=h;exact⟨a,vs,e,.inl q,r⟩
 |o c=>
  cases e;obtain⟨a,vs,e,q,r⟩:=h;exact⟨a,vs,e,.inl (.inl q),r⟩
 |n _=>cases e
 |m _ _=>cases e
abbrev vX(K:B5)(H:Hp):O Bx->O V->Prop:=AI (aX K H)
def Nw(H:Hp):Bx->V->Prop
 |.o _,v=>∀a,v=.ref a->H a=Y3
 |.m _ _,v=>∀a,v=.ref a->H a=Y3
 |_,_=>True
theorem Nw.old{H1:Hp}(s:AX H H1){b:Bx}(h:Nw H1 b v):Nw H b v:=by
 cases b with
 |o ds=>exact λa e=>s.free (h a e)
 |m ds _=>exact λa e=>s.free (h a e)
 |_=>trivial
def loose:Bx->Bool
 |.z _=>false
 |_=>true
def qZ:Bx->Bool
 |.o _=>true
 |.m _ _=>true
 |_=>false
structure aY (K:B5) (H0 H:Hp) (σ:L2.St) (ρ:Ev):Prop where
 len:σ.length=ρ.length
 val:∀(i:Nat) b,ρ[i]?=some (some b)->∃v,σ[i]?=some (some v)/\aX K H b v
 own:∀(i j:Nat) c a b,ρ[i]?=some (some c)->qZ c=true->σ[i]?=some (some (.ref a))->ρ[j]?=some (some b)->loose b=true->σ[j]?=some (some (.ref a))->i=j
 base:AX H0 H
 new:∀(i:Nat) c a,ρ[i]?=some (some c)->qZ c=true->σ[i]?=some (some (.ref a))->H0 a=none
theorem aY.grow{H':Hp}{ρ:Ev}(r:aY K H0 H σ ρ)(s:AX H H'):aY K H0 H' σ ρ:=
 ⟨r.len,λi b e=>let ⟨v,e1,h⟩:=r.val i b e;⟨v,e1,h.same s⟩,r.own,r.base.trans s,r.new⟩
def tF(K:B5)(f:Ev->Y Bx):TE:=λσ H Q=>∃H0 ρ b,aY K H0 H σ ρ/\f ρ=Z b/\∀v H',AX H H'->Nw H b v->aX K H' b v->Q v H'
def IR(K:B5)(f:Ev->Y (O Bx)):TA:=λσ H Q=>∃H0 ρ bs,aY K H0 H σ ρ/\f ρ=Z bs/\∀vs H',AX H H'->vX K H' bs vs->Q vs H'
def WL(K:B5)(f:Ev->Y Bool):TT:=λσ H Q=>∃H0 ρ b,aY K H0 H σ ρ/\f ρ=Z b/\∀H',AX H H'->Q b H'
def PV(X:Cx)(e:Expr)(f:Ev->Y Bx):Prop:=PE X e (tF X.K f)
structure QV (X:Cx) (e:Expr) (f:Ev->Option Bx):Prop where
 run:PV X e f
def F2(X:Cx)(es:O Expr)(f:Ev->Y (O Bx)):Prop:=PA X es (IR X.K f)
structure Uh (X:Cx) (es:List Expr) (f:Ev->Option (List Bx)):Prop where
 run:F2 X es f
def PB(X:Cx)(e:Expr)(f:Ev->Y Bool):Prop:=PT X e (WL X.K f)
structure QB (X:Cx) (e:Expr) (f:Ev->Option Bool):Prop where
 run:PB X e f
theorem Ay{t t':TE}(h:PE X e t)(m:∀ σ H Q,t' σ H Q->t σ H Q):PE X e t':=λAN s σ H Q I q=>h AN s σ H Q I (m σ H Q q)
theorem IZ{e:O Expr}{t t':TA}(h:PA X e t)(m:∀ σ H Q,t' σ H Q->t σ H Q):PA X e t':=λpos AN s σ H Q I q=>h pos AN s σ H Q I (m σ H Q q)
theorem IN{t t':TT}(h:PT X e t)(m:∀ σ H Q,t' σ H Q->t σ H Q):PT X e t':=λAN s σ H Q I q=>h AN s σ H Q I (m σ H Q q)
theorem Mm{t t':TT}(h:PW X e t)(m:∀ σ H Q,t' σ H Q->t σ H Q):PW X e t':=λa AN s σ H Q I q=>h a AN s σ H Q I (m σ H Q q)
theorem V3{e:AB}{t t':TS}(h:PS X e t)(m:∀D σ H,t' D σ H->t D σ H):PS X e t':=λAN s σ H D I q=>h AN s σ H D I (m D σ H q)
theorem GY{e:O AB}{t t':TS}(h:KH X e t)(m:∀D σ H,t' D σ H->t D σ H):KH X e t':=λAN s σ H D I q=>h AN s σ H D I (m D σ H q)
def rF(K:B5)(g:Bx->Bx->Y Bx):R2:=λx y H Q=>∃a b c,aX K H a x/\aX K H b y/\g a b=Z c/\∀w H',AX H H'->Nw H c w->aX K H' c w->Q w H'
def NB(K:B5)(g:Bx->Y Bx):V->Hp->VK->Prop:=λx H Q=>∃a c,aX K H a x/\g a=Z c/\∀w H',AX H H'->Nw H c w->aX K H' c w->Q w H'
def LW(K:B5)(g:O Bx->Y Bx):O V->Hp->VK->Prop:=λxs H Q=>∃bs c,vX K H bs xs/\g bs=Z c/\∀w H',AX H H'->Nw H c w->aX K H' c w->Q w H'
abbrev z9(X:Cx)(f:A0->A0->Sem A0)(g:Bx->Bx->Y Bx):Prop:=rz X f (rF X.K g)
abbrev Mk(X:Cx)(f:A0->Sem A0)(g:Bx->Y Bx):Prop:=DF X f (NB X.K g)
abbrev nR(X:Cx)(f:A0)(g:O Bx->Y Bx):Prop:=fK X f (LW X.K g)
theorem rz.imp{f:A0->A0->Sem A0}{r a:R2}(h:rz X f r)(m:∀x y H Q,a x y H Q->r x y H Q):rz X f a:=λAN s σ H x y v u Q I b c q=>h AN s σ H x y v u Q I b c (m x y H Q q)
theorem DF.imp{f:A0->Sem A0}{r a:V->Hp->VK->Prop}(h:DF X f r)(m:∀x H Q,a x H Q->r x H Q):DF X f a:=λAN s σ H x v Q I b q=>h AN s σ H x v Q I b (m x H Q q)
theorem fK.imp{f:A0}{r a:O V->Hp->VK->Prop}(h:fK X f r)(m:∀x H Q,a x H Q->r x H Q):fK X f a:=λAN s σ H xs us Q I b q=>h AN s σ H xs us Q I b (m xs H Q q)
def b2(g:Bx->Bx->Y Bx)(fa fb:Ev->Y Bx):Ev->Y Bx:=λρ=>(fa ρ).bind λx=>(fb ρ).bind λy=>g x y
def b1(g:Bx->Y Bx)(fa:Ev->Y Bx):Ev->Y Bx:=λρ=>(fa ρ).bind g
def cT(g:O Bx->Y Bx)(fs:Ev->Y (O Bx)):Ev->Y Bx:=λρ=>(fs ρ).bind g
theorem AV{o:Y α}{f:α->Y β}{b:β}(h:o.bind f=Z b):∃a,o=Z a/\f a=Z b:=by
 cases o with
 |none=>cases h
 |some a=>exact⟨a,rfl,h⟩
theorem WM{g:Bx->Bx->Y Bx}{fa fb:Ev->Y Bx}(σ:L2.St)(H:Hp)(Q:VK)(h:tF K (b2 g fa fb) σ H Q):EV (rF K g) (tF K fa) (tF K fb) σ H Q:=by
 obtain⟨H0,ρ,c,E,e,q⟩:=h;obtain⟨a,ea,e⟩:=AV e;obtain⟨b,eb,e⟩:=AV e;refine⟨H0,ρ,a,E,ea,λv H1 d p j=>⟨H0,ρ,b,E.grow d,eb,λu H2 f s i=>?_⟩⟩;exact⟨a,b,c,j.same f,i,e,λw m n o l=>q w m ((d.trans f).trans n) (o.old (d.trans f)) l⟩
theorem ZB{g:Bx->Y Bx}{fa:Ev->Y Bx}(σ:L2.St)(H:Hp)(Q:VK)(h:tF K (b1 g fa) σ H Q):IX (NB K g) (tF K fa) σ H Q:=by
 obtain⟨H0,ρ,c,E,e,q⟩:=h;obtain⟨a,ea,e⟩:=AV e;exact⟨H0,ρ,a,E,ea,λv H1 b m d=>⟨a,c,d,e,λw i j l f=>q w i (b.trans j) (l.old b) f⟩⟩
theorem DS{g:O Bx->Y Bx}{fs:Ev->Y (O Bx)}(σ:L2.St)(H:Hp)(Q:VK)(h:tF K (cT g fs) σ H Q):IH (LW K g) (IR K fs) σ H Q:=by
 obtain⟨H0,ρ,c,E,e,q⟩:=h;obtain⟨a,ea,e⟩:=AV e;exact⟨H0,ρ,a,E,ea,λv H1 b d=>⟨a,c,d,e,λw i j l f=>q w i (b.trans j) (l.old b) f⟩⟩
section
variable{a b:Expr}{fa fb fc f:Ev->Y Bx}{fs:Ev->Y (O Bx)}
theorem aU{op:Operator}{g:Bx->Bx->Y Bx}(e:z9 X (binaryOp op) g)(d:QV X a fa)(c:QV X b fb):QV X (.BinOp a op b pos) (b2 g fa fb):=⟨have d:=d.run;have c:=c.run;Ay (Ya e d c) WM⟩
theorem VT{op:UnaryOp}{g:Bx->Y Bx}(c:Mk X (unaryOp op) g)(b:QV X a fa):QV X (.UnaryOp op a pos) (b1 g fa):=⟨have b:=b.run;Ay (cE c b) ZB⟩
theorem yC{g:Bx->Bx->Y Bx}(f:z9 X (AG op) g)(d:QV X a fa)(c:QV X b fb)(e:behindInMarks op b=false):QV X (.Compare a [op] [b] pos) (b2 g fa fb):=⟨have d:=d.run;have c:=c.run;Ay (Sm f d c e) WM⟩
def BP:Bx->Y Bool
 |.z (.bl b)=>Z b
 |_=>Y3
theorem vY{b:Bx}{k:Bool}(h:aX K H b v)(e:BP b=Z k):v=.bl k:=by
 cases b with
 |z d=>
  cases d<;>first|(cases e;done)|skip;cases e;simpa only[aX,AY]using h
 |_=>cases e
theorem XV(σ:L2.St)(H:Hp)(Q:Bool->Hp->Prop)(h:WL K (λρ=>(f ρ).bind BP) σ H Q):tF K f σ H (λx H'=>∃k,x=.bl k/\Q k H'):=by
 obtain⟨H0,ρ,k,E,e,q⟩:=h;obtain⟨b,eb,e⟩:=AV e;exact⟨H0,ρ,b,E,eb,λv H1 c d a=>⟨k,vY a e,q H1 c⟩⟩
theorem bW{g:Bx->Bx->Y Bx}(f:z9 X (AG op) g)(d:QV X a fa)(c:QV X b fb)(e:behindInMarks op b=false):QB X (.Compare a [op] [b] pos) (λρ=>(b2 g fa fb ρ).bind BP):=⟨have d:=d.run;have c:=c.run;IN (XY f d c e) λσ H Q h=>WM σ H _ (XV σ H Q h)⟩
def EX(g g':Bx->Bx->Y Bx)(fa fb fc:Ev->Y Bx):Ev->Y Bx:=λρ=>(fa ρ).bind λx=>(fb ρ).bind λy=>(g x y).bind λr=>(BP r).bind λk=>if k=true then(fc ρ).bind λw=>g' y w else Z (.z (.bl false))
theorem RA{g g':Bx->Bx->Y Bx}(σ:L2.St)(H:Hp)(Q:VK)(h:tF K (EX g g' fa fb fc) σ H Q):Wf (rF K g) (rF K g') (tF K fa) (tF K fb) (tF K fc) σ H Q:=by
 obtain⟨H0,ρ,d,E,e,q⟩:=h;obtain⟨a,ea,e⟩:=AV e;obtain⟨b,eb,e⟩:=AV e;obtain⟨r,er,e⟩:=AV e;obtain⟨k,ek,e⟩:=AV e;refine⟨H0,ρ,a,E,ea,λv H1 j L o=>⟨H0,ρ,b,E.grow j,eb,λu H2 n M i=>?_⟩⟩;refine⟨a,b,r,o.same n,i,er,λw p l I z=>⟨k,vY z ek,?_⟩⟩;have c:=(j.trans n).trans l;cases k with
 |false=>
  rw[zS zC]at e ⊢;cases e;exact q _ p c trivial (by simp only[aX,AY])
 |true=>
  rw[zo rfl]at e ⊢;obtain⟨m,F,e⟩:=AV e;refine⟨H0,ρ,m,E.grow c,F,λx G f J s=>?_⟩;exact⟨b,m,d,(i.same l).same f,s,e,λy A C D B=>q y A ((c.trans f).trans C) (D.old (c.trans f)) B⟩
theorem WQ{d:CmpOp}{g g':Bx->Bx->Y Bx}(j:z9 X (AG op) g)(l:z9 X (AG d) g')(f:QV X a fa)(h:QV X b fb)(e:QV X c fc)(i:lastMarks [op,d] [b,c]=false:=by with_unfolding_all rfl):QV X (.Compare a [op,d] [b,c] pos) (EX g g' fa fb fc):=⟨have f:=f.run;have h:=h.run;have e:=e.run;Ay (Wg j l f h e i) RA⟩
def yD(ρ:Ev)(i:Nat):Y Bx:=match ρ[i]? with
 |some (Z (.o ds))=>Z (.l ds)
 |some (Z (.m AO _))=>Z (.n AO)
 |some (Z b)=>Z b
 |_=>Y3
theorem K5{ρ:Ev}{b:Bx}(E:aY K H0 H σ ρ)(e:yD ρ i=Z b):∃v,σ[i]?=Z (Z v)/\aX K H b v:=by
 unfold yD at e;split at e
 ·rename_i ds h;cases e;obtain⟨v,e1,a,vs,e2,q,r⟩:=E.val i _ h;exact⟨v,e1,a,vs,e2,.inl q,r⟩
 ·rename_i ds h;cases e;obtain⟨v,e1,a,vs,e2,q,r⟩:=E.val i _ h;exact⟨v,e1,a,vs,e2,.inl q,r.1⟩
 ·rename_i c h;cases e;exact E.val i _ h
 ·cases e
theorem vZ{ρ:Ev}{b:Bx}(e:yD ρ i=Z b):qZ b=false:=by
 unfold yD at e;split at e
 ·cases e;rfl
 ·cases e;rfl
 ·rename_i c h1 h2 a;cases e;cases b with
  |o ds=>exact absurd S (h1 ds)
  |m ds _=>exact absurd S (h2 ds _)
  |_=>rfl
 ·cases e
theorem aj(i:Nat)(a:X.N[i]?=Z x:=by rfl)(d:Ov X.env.scope x:=by first|exact JJ rfl|exact QN (JJ S)|exact QN (QN S))(hd:ad x:=by decide)(c:(x==("__classdict__":AJ))=false:=by decide):QV X (.Name x pos) (λρ=>yD ρ i):=⟨Ay (oV a d hd c) λσ H Q h=>by
 obtain⟨H0,ρ,b,E,e,q⟩:=h;obtain⟨v,e1,r⟩:=K5 E e;refine⟨v,e1,q v H (AX.refl H) ?_ r⟩;cases b with
 |o ds=>have:=vZ e;cases this
 |m ds _=>have:=vZ e;cases this
 |_=>trivial⟩
def cB(d:Dt):Ev->Y Bx:=λ_=>Z (.z d)
theorem Fm{d:Dt}(h:PE X e (tC v))(r:∀H,AY X.K H d v):PV X e (cB d):=Ay h λσ H Q q=>by
 obtain⟨H0,ρ,b,E,e,q⟩:=q;cases e;exact q v H (AX.refl H) trivial (r H)
theorem aD{i j}:QV X (.Constant (.int i) j pos) (cB (.int i)):=⟨Fm Of λH=>by simp only[AY]⟩
theorem BR{i j}:QV X (.Constant (.bool i) j pos) (cB (.bl i)):=⟨Fm Wa λH=>by simp only[AY]⟩
theorem uW{j}:QV X (.Constant .none j pos) (cB .non):=⟨Fm UH λH=>by simp only[AY]⟩
theorem WR{j}(hx:x.length<=AA:=by decide):PV X (.Constant (.str x) j pos) (cB (.str x)):=Fm Sa λH=>by unfold AY;exact⟨rfl,hx⟩
def GH:Bx->Y Bool
 |.z .non=>Z false
 |.z (.bl b)=>Z b
 |.z (.int i)=>Z (i != 0)
 |.z (.str x)=>Z ((x.length:Int) != 0)
 |.z (.tup ds)=>Z (!ds.isEmpty)
 |.z (.lst ds)=>Z (!ds.isEmpty)
 |.l ds=>Z (!ds.isEmpty)
 |.o ds=>Z (!ds.isEmpty)
 |.z .emp=>Y3
 |.n _=>Y3
 |.m _ _=>Y3
theorem aG.isEmpty{ds:O Dt}(h:aG K H ds vs):(!ds.isEmpty)=!vs.isEmpty:=by
 have:=h.length;cases ds<;>cases vs<;>simp_all
theorem S4{b:Bx}{k:Bool}(r:aX K H b v)(e:GH b=Z k):HE K v H k:=by
 cases b with
 |z d=>
  cases d with
  |non=>cases e;simp only[aX,AY]at r;subst r;rfl
  |bl b=>cases e;simp only[aX,AY]at r;subst r;rfl
  |int b=>cases e;simp only[aX,AY]at r;subst r;rfl
  |str x=>cases e;simp only[aX,AY]at r;obtain⟨rfl,h⟩:=r;exact⟨h,rfl⟩
  |tup ds=>
   cases e;simp only[aX,AY]at r;obtain⟨a,vs,rfl,q,r⟩:=r;exact .inr (.inl ⟨vs,q,r.isEmpty⟩)
  |lst ds=>
   cases e;obtain⟨a,vs,rfl,q,r⟩:=r.Ax rfl;exact .inl ⟨vs,q,r.isEmpty⟩
  |emp=>cases e
 |l ds=>
  cases e;obtain⟨a,vs,rfl,q,r⟩:=r.Ax rfl;exact .inl ⟨vs,q,r.isEmpty⟩
 |o ds=>
  cases e;obtain⟨a,vs,rfl,q,r⟩:=r.Ax rfl;exact .inl ⟨vs,q,r.isEmpty⟩
 |n _=>cases e
 |m _ _=>cases e
theorem mY(h:QV X e f)(he:∀a,isTrue e X.env a=(do let v <-a;standAt e.pos;holding [v] (truthy v)):=by intro _;rfl):QB X e (λρ=>(f ρ).bind GH):=⟨have h:=h.run;IN (Wh h he) λσ H Q q=>by
 obtain⟨H0,ρ,k,E,e,q⟩:=q;obtain⟨b,eb,e⟩:=AV e;exact⟨H0,ρ,b,E,eb,λv H1 d g c=>⟨k,S4 c e,q H1 d⟩⟩⟩
def IW(p q:Ev->Y Bool):Ev->Y Bool:=λρ=>(p ρ).bind λc=>if c=true then q ρ else Z false
def Rz(p q:Ev->Y Bool):Ev->Y Bool:=λρ=>(p ρ).bind λc=>if c=true then Z true else q ρ
def K6(p:Ev->Y Bool):Ev->Y Bool:=λρ=>(p ρ).bind λc=>Z (!c)
def WZ(X:Cx)(e:Expr)(f:Ev->Y Bool):Prop:=PW X e (WL X.K f)
structure Db (X:Cx) (e:Expr) (f:Ev->Option Bool):Prop where
 run:WZ X e f
variable{p q:Ev->Y Bool}{AU:O Expr}
theorem BW(b:QB X a p):Db X (.BoolOp .And [a] pos) p:=⟨have b:=b.run;Z9 b⟩
theorem pY(b:QB X a p):Db X (.BoolOp .Or [a] pos) p:=⟨have b:=b.run;XO b⟩
theorem OB(σ:L2.St)(H:Hp)(Q:Bool->Hp->Prop)(h:WL K (IW p q) σ H Q):L3 (WL K p) (WL K q) σ H Q:=by
 obtain⟨H0,ρ,k,E,e,w⟩:=h;obtain⟨c,d,e⟩:=AV e;refine⟨H0,ρ,c,E,d,λH1 a=>?_⟩;cases c with
 |true=>rw[zo rfl]at e ⊢;exact⟨H0,ρ,k,E.grow a,e,λH2 b=>w H2 (a.trans b)⟩
 |false=>rw[zS zC]at e ⊢;cases e;exact w H1 a
theorem VE(σ:L2.St)(H:Hp)(Q:Bool->Hp->Prop)(h:WL K (Rz p q) σ H Q):LZ (WL K p) (WL K q) σ H Q:=by
 obtain⟨H0,ρ,k,E,e,w⟩:=h;obtain⟨c,d,e⟩:=AV e;refine⟨H0,ρ,c,E,d,λH1 a=>?_⟩;cases c with
 |true=>rw[zo rfl]at e ⊢;cases e;exact w H1 a
 |false=>rw[zS zC]at e ⊢;exact⟨H0,ρ,k,E.grow a,e,λH2 b=>w H2 (a.trans b)⟩
theorem wg(d:QB X a p)(c:Db X (.BoolOp .And (b::AU) pos) q):Db X (.BoolOp .And (a::b::AU) pos) (IW p q):=⟨have d:=d.run;have c:=c.run;Mm (XB d c) OB⟩
theorem oW(d:QB X a p)(c:Db X (.BoolOp .Or (b::AU) pos) q):Db X (.BoolOp .Or (a::b::AU) pos) (Rz p q):=⟨have d:=d.run;have c:=c.run;Mm (az d c) VE⟩
theorem Fo(h:Db X e p):QB X e p:=⟨have h:=h.run;h.pt⟩
theorem BX(b:QB X a p):QB X (.UnaryOp .Not a pos) (K6 p):=⟨have b:=b.run;IN (S0 b) λσ H Q h=>by
 obtain⟨H0,ρ,k,E,e,w⟩:=h;obtain⟨c,f,e⟩:=AV e;cases e;exact⟨H0,ρ,c,E,f,λH1 d=>w H1 d⟩⟩
def FR(fa fb:Ev->Y Bx):Ev->Y Bx:=λρ=>((fa ρ).bind BP).bind λc=>if c=true then fb ρ else Z (.z (.bl false))
def FO(fa:Ev->Y Bx):Ev->Y Bx:=λρ=>((fa ρ).bind BP).bind λc=>Z (.z (.bl (!c)))
theorem VV{op}(h:QV X a fa):QV X (.BoolOp op [a] pos) fa:=⟨have h:=h.run;OZ h⟩
theorem Ta(f:QV X a fa)(i:QV X (.BoolOp .And (b::AU) pos) fb):QV X (.BoolOp .And (a::b::AU) pos) (FR fa fb):=⟨have f:=f.run;have i:=i.run;Ay (NH f i) λσ H Q h=>by
 obtain⟨H0,ρ,k,E,e,w⟩:=h;obtain⟨c,g,e⟩:=AV e;obtain⟨x,ex,g⟩:=AV g;refine⟨H0,ρ,x,E,ex,λv H1 d o l=>⟨c,vY l g,?_⟩⟩;cases c with
 |true=>rw[zo rfl]at e ⊢;exact⟨H0,ρ,k,E.grow d,e,λv H2 n m j=>w v H2 (d.trans n) (m.old d) j⟩
 |false=>rw[zS zC]at e ⊢;cases e;exact w _ H1 d trivial (by simp only[aX,AY])⟩
theorem VX(d:QV X a fa):QV X (.UnaryOp .Not a pos) (FO fa):=⟨have d:=d.run;Ay (UM d) λσ H Q h=>by
 obtain⟨H0,ρ,k,E,e,w⟩:=h;obtain⟨c,b,e⟩:=AV e;obtain⟨x,ex,b⟩:=AV b;cases e;exact⟨H0,ρ,x,E,ex,λv H1 g i f=>⟨c,vY f b,w _ H1 g trivial (by simp only[aX,AY])⟩⟩⟩
theorem RB:F2 X [] (λ_=>Z []):=IZ fQ λσ H Q h=>by
 obtain⟨H0,ρ,bs,E,e,q⟩:=h;cases e;exact q [] H (AX.refl H) .nil
def aA(f:Ev->Y Bx)(fs:Ev->Y (O Bx)):Ev->Y (O Bx):=λρ=>(f ρ).bind λb=>(fs ρ).bind λbs=>Z (b::bs)
theorem K7(h1:PV X e f)(h2:F2 X es fs)(hs:A9 (e::es) X.env=(false,eval e X.env)::A9 es X.env:=by rfl):F2 X (e::es) (aA f fs):=IZ (bD h1 h2 hs) λσ H Q h=>by
 obtain⟨H0,ρ,bs,E,e,q⟩:=h;obtain⟨b,eb,e⟩:=AV e;obtain⟨j,i,e⟩:=AV e;cases e;refine⟨H0,ρ,b,E,eb,λv H1 a l g=>⟨H0,ρ,j,E.grow a,i,λvs H2 c d=>?_⟩⟩;exact q (v::vs) H2 (a.trans c) (.cons (g.same c) d)
def zu:Bx->Y Bx
 |.z d=>Z (.z d)
 |.o ds=>Z (.z (.lst ds))
 |.l _=>Y3
 |.n _=>Y3
 |.m _ _=>Y3
theorem uX{a:A1}(I:L2.AW X AN σ H s)(h:H a=Z (.lst vs)):∃o,L2.AW X AN σ (B1 H a (.jo o (.lst vs))) s:=by
 obtain⟨z,AT,n,r,e⟩:=I.hok a _ h;refine⟨{ cls:=.type "list",data:=.seq AT.toArray n },⟨I.ok,I.os,I.bare,⟨I.base.keep,I.base.slot,λb d q1 q2 q3=>?_,I.base.there,λb xs q=>?_,λb d u q=>?_,λb ps q=>?_⟩,I.loc,I.cell,?_,λx c q=>?_,λp hp=>?_,?_,I.len⟩⟩
 ·have:=I.base.free b d q1 q2 q3;rw[aF (bQ h this).symm];exact this
 ·have:=I.base.tups b xs q;rw[aF (d9 this h (by intro z;cases z))];exact this
 ·have:=I.base.z7 b d u q;rw[aF (d9 this h (by intro z;cases z))];exact this
 ·obtain⟨m,this⟩:=I.base.uT b ps q;rw[aF (d9 this h (by intro z;cases z))];exact⟨m,this⟩
 ·rw[aF (bQ h I.free).symm];exact I.free
 ·rw[aF (bQ h (I.mU x c q)).symm];exact I.mU x c q
 ·obtain⟨q1,q2,q3⟩:=I.pin p hp;refine⟨q1,?_,q3⟩;rw[aF (bQ h q2).symm];exact q2
 ·intro b u q;by_cases f:b=a
  ·subst f;rw[aJ]at q;cases q;exact⟨e,z,AT,n,r,e⟩
  ·rw[aF f]at q;refine(I.hok b u q).stay (λc v _ w=>w) (λc w=>?_) (λc xs w=>?_) λc o' g w=>?_
   ·rw[aF (d9 w h (by intro z;cases z))];exact w
   ·rw[aF (d9 w h (by intro z;cases z))];exact w
   ·rw[aF (d9 w h (by intro z;cases z))];exact w
theorem iY(h:QV X e f):QV X e (b1 zu f):=⟨by
 have h:=h.run;intro AN s σ H Q I q;obtain⟨H0,ρ,b,E,e,q⟩:=q;obtain⟨x,ex,e⟩:=AV e;cases x with
 |z d=>
  cases e;exact h AN s σ H Q I ⟨H0,ρ,_,E,ex,λv H' s' i g=>q v H' s' trivial g⟩
 |l ds=>cases e
 |n ds=>cases e
 |m ds _=>cases e
 |o ds=>
  cases e;refine fB (h AN s σ H (λv H'=>AX H H'/\Nw H (.o ds) v/\aX X.K H' (.o ds) v) I ⟨H0,ρ,_,E,ex,λv H' s' i g=>⟨s',i,g⟩⟩) λu F C=>?_;obtain⟨v,H1,w,A,s',i,g⟩:=C;obtain⟨a,vs,rfl,p,y⟩:=g;obtain⟨o,D⟩:=uX w p;refine⟨.ref a,_,D,A,q _ _ (λc B j=>?_) trivial ?_⟩
  ·rw[aF (bQ j (i a S))];exact s' c B j
  ·simp only[aX,AY];exact⟨a,vs,rfl,.inl ⟨o,aJ⟩,y.kp (.lst p)⟩⟩
def Ja:O Bx->Y (O Dt)
 |[]=>Z []
 |.z d::r=>(Ja r).bind λds=>Z (d::ds)
 |_=>Y3
theorem BZ{K:B5}{H:Hp}:∀{bs:O Bx} {vs:O V} {ds:O Dt},vX K H bs vs->Ja bs=Z ds->aG K H ds vs
 |_,_,_,.nil,e=>by cases e;exact aG.nil
 |b::bs,_,_,.cons h t,e=>by
  cases b with
  |z d=>
   simp only[Ja]at e;obtain⟨a,e1,e2⟩:=AV e;cases e2;exact aG.cons h (BZ t e1)
  |_=>cases e
theorem Ca:∀{bs:O Bx} {ds:O Dt},Ja bs=Z ds->ds.length=bs.length
 |[],_,e=>by cases e;rfl
 |.z d::r,_,e=>by
  simp only[Ja]at e;obtain⟨a,e1,e2⟩:=AV e;cases e2;simp[Ca e1]
 |.l _::_,_,e=>by cases e
 |.o _::_,_,e=>by cases e
 |.n _::_,_,e=>by cases e
 |.m _ _::_,_,e=>by cases e
def rN(bs:O Bx):Y Bx:=if bs.length<=1000 then(Ja bs).bind λds=>Z (.z (.tup ds))else Y3
def rO(bs:O Bx):Y Bx:=if bs.length<=1000 then(Ja bs).bind λds=>Z (.o ds)else Y3
theorem bf{p:A1}(h:H p=Y3):AX H (B1 H p o):=λb u e=>by rw[aF (bQ e h)];exact e
theorem MB(h:n<=1000):n<=AA:=zv h ()
theorem jC{x1}(h:Uh X es fs):QV X (.Tuple es x1 pos) (cT rN fs):=⟨have h:=h.run;Ay (SS h) λσ H Q q=>by
 obtain⟨H0,ρ,c,E,e,q⟩:=q;obtain⟨bs,f,e⟩:=AV e;refine⟨H0,ρ,bs,E,f,λvs H1 d b=>?_⟩;unfold rN at e;split at e
 ·rename_i g;obtain⟨ds,e1,e⟩:=AV e;cases e;have a:=BZ b e1;refine⟨MB (by rw[a.length,Ca e1];exact g),λp hp=>q _ _ (d.trans (bf hp)) trivial ?_⟩;simp only[aX,AY];exact⟨p,vs,rfl,.inl (.inl aJ),a.kp (.of (bf hp))⟩
 ·cases e⟩
theorem lQ(h:Uh X es fs):QV X (.List es pos) (cT rO fs):=⟨have h:=h.run;Ay (Wm h) λσ H Q q=>by
 obtain⟨H0,ρ,c,E,e,q⟩:=q;obtain⟨bs,g,e⟩:=AV e;refine⟨H0,ρ,bs,E,g,λvs H1 d f=>?_⟩;unfold rO at e;split at e
 ·rename_i i;obtain⟨ds,e1,e⟩:=AV e;cases e;have b:=BZ f e1;refine⟨MB (by rw[b.length,Ca e1];exact i),λp hp=>q _ _ (d.trans (bf hp)) (λa ea=>by cases ea;exact d.free hp) ?_⟩;exact⟨p,vs,rfl,aJ,b.kp (.of (bf hp))⟩
 ·cases e⟩
theorem aV{id:String}{g:O Bx->Y Bx}{p:Pos}(b:nR X (.builtin id) g)(c:Gl X x)(f:X.mg x=Y3)(d:AH x=Z (.builtin id))(a:Uh X (e::es) fs)(hn:x ≠ "__name__":=by decide)(i:ad x:=by decide)(he:A9 (e::es) X.env=(false,eval e X.env)::A9 es X.env:=by rfl)(h:(AD pos (A9 es X.env)).any (·.1)=false:=by rfl):QV X (.Call (.Name x p) (e::es) [] pos) (cT g fs):=⟨have a:=a.run;Ay (rE b c f d a hn i he h) DS⟩
theorem jZ{T:String}{g:O Bx->Y Bx}{p:Pos}(b:nR X (.type T) g)(c:Gl X x)(f:X.mg x=Y3)(d:AH x=Z (.type T))(a:Uh X (e::es) fs)(hn:x ≠ "__name__":=by decide)(i:ad x:=by decide)(he:A9 (e::es) X.env=(false,eval e X.env)::A9 es X.env:=by rfl)(h:(AD pos (A9 es X.env)).any (·.1)=false:=by rfl):QV X (.Call (.Name x p) (e::es) [] pos) (cT g fs):=⟨have a:=a.run;Ay (yw b c f d a hn i he h) DS⟩
end
inductive As where
 |nx (ρ:Ev)|rt (b:Bx)|bk (ρ:Ev)|ct (ρ:Ev)
def WT(K:B5)(H0:Hp)(D:BV):As->Prop
 |.nx ρ=>∀ σ H,aY K H0 H σ ρ->D.nx σ H
 |.rt b=>∀v H,AX H0 H->Nw H0 b v->aX K H b v->D.rt v H
 |.bk ρ=>∀ σ H,aY K H0 H σ ρ->D.bk σ H
 |.ct ρ=>∀ σ H,aY K H0 H σ ρ->D.ct σ H
def tG(K:B5)(g:Ev->Y As):TS:=λD σ H=>∃H0 ρ r,aY K H0 H σ ρ/\g ρ=Z r/\WT K H0 D r
def N2(X:Cx)(st:AB)(g:Ev->Y As):Prop:=PS X st (tG X.K g)
structure RD (X:Cx) (st:Stmt) (g:Ev->Option As):Prop where
 run:N2 X st g
def Ro(X:Cx)(st:O AB)(g:Ev->Y As):Prop:=KH X st (tG X.K g)
structure Ui (X:Cx) (st:List Stmt) (g:Ev->Option As):Prop where
 run:Ro X st g
def aH(g1 g2:Ev->Y As):Ev->Y As:=λρ=>(g1 ρ).bind λr=>match r with
 |.nx a=>g2 a
 |r=>Z r
section
variable{a b:Expr}{fa fb fc f:Ev->Y Bx}{fs:Ev->Y (O Bx)}{AU:O AB}{g g1 g2:Ev->Y As}
theorem aR  :Ui X [] (λρ=>Z (.nx ρ)):=⟨GY Aq λD σ H h=>by
 obtain⟨H0,ρ,r,E,e,q⟩:=h;cases e;exact q σ H E⟩
theorem aB(h1:RD X st g1)(h2:Ui X AU g2):Ui X (st::AU) (aH g1 g2):=⟨have h1:=h1.run;have h2:=h2.run;GY (jA h1 h2) λD σ H h=>by
 obtain⟨H0,ρ,r,E,e,q⟩:=h;obtain⟨c,e1,e⟩:=AV e;refine⟨H0,ρ,c,E,e1,?_⟩;cases c with
 |nx a=>exact λσ' H' d=>⟨H0,a,r,d,e,q⟩
 |rt b=>cases e;exact q
 |bk a=>cases e;exact q
 |ct a=>cases e;exact q⟩
def WW:Bx->Y As
 |.l _=>Y3
 |.n _=>Y3
 |b=>Z (.rt b)
theorem cR(h:QV X e f):RD X (.Return (Z e) pos) (λρ=>(f ρ).bind WW):=⟨have h:=h.run;V3 (uU h) λD σ H h=>by
 obtain⟨H0,ρ,r,E,e,q⟩:=h;obtain⟨b,eb,e⟩:=AV e;refine⟨H0,ρ,b,E,eb,λv H1 c g a=>?_⟩;cases b with
 |l ds=>cases e
 |z d=>cases e;exact q v H1 (E.base.trans c) trivial a
 |o ds=>cases e;exact q v H1 (E.base.trans c) (g.old E.base) a
 |n ds=>cases e
 |m ds _=>cases e;exact q v H1 (E.base.trans c) (g.old E.base) a⟩
def Cd(i:Nat)(ρ:Ev):Y As:=match ρ[i]? with
 |some (Z b)=>WW b
 |_=>Y3
theorem Az(i:Nat){p:Pos}(s:X.N[i]?=Z x:=by rfl)(j:Ov X.env.scope x:=by first|exact JJ rfl|exact QN (JJ S)|exact QN (QN S))(hd:ad x:=by decide)(g:(x==("__classdict__":AJ))=false:=by decide):RD X (.Return (Z (.Name x p)) pos) (Cd i):=⟨V3 (uU (oV s j hd g)) λD σ H h=>by
 obtain⟨H0,ρ,r,E,e,q⟩:=h;unfold Cd at e;split at e
 ·rename_i b f;obtain⟨v,e1,c⟩:=E.val i b f;refine⟨v,e1,?_⟩;cases b with
  |l ds=>cases e
  |z d=>cases e;exact q v H E.base trivial c
  |o ds=>cases e;exact q v H E.base (λa ea=>E.new i _ a f S (by rw[e1,ea])) c
  |n ds=>cases e
  |m ds _=>cases e;exact q v H E.base (λa ea=>E.new i _ a f S (by rw[e1,ea])) c
 ·cases e⟩
def Aa(p:Ev->Y Bool)(g1 g2:Ev->Y As):Ev->Y As:=λρ=>(p ρ).bind λk=>if k=true then g1 ρ else g2 ρ
theorem jD{p:Ev->Y Bool}{u v:O AB}(a:QB X c p)(d:Ui X u g1)(b:Ui X v g2):RD X (.If c u v pos) (Aa p g1 g2):=⟨have a:=a.run;have d:=d.run;have b:=b.run;V3 (Rm a d b) λD σ H h=>by
 obtain⟨H0,ρ,r,E,e,q⟩:=h;obtain⟨k,ek,e⟩:=AV e;refine⟨H0,ρ,k,E,ek,λH1 f=>?_⟩;cases k with
 |true=>rw[zo rfl]at e ⊢;exact⟨H0,ρ,r,E.grow f,e,q⟩
 |false=>rw[zS zC]at e ⊢;exact⟨H0,ρ,r,E.grow f,e,q⟩⟩
theorem BA{l:O α}{x y:α}(h:(l.set i x)[j]?=Z y):(j=i/\y=x/\i<l.length)\/(j≠i/\l[j]?=Z y):=by
 rw[yf]at h;by_cases e:i=j
 ·subst e;rw[zo rfl]at h;split at h
  ·cases h;exact .inl ⟨rfl,rfl,by assumption⟩
  ·cases h
 ·rw[zS e]at h;exact .inr ⟨λz=>e z.symm,h⟩
theorem yE{l:O α}(x:α)(h:i<l.length):(l.set i x)[i]?=Z x:=by
 rw[yf,zo rfl,zo h]
theorem pA{l:O α}(x:α)(h:j≠i):(l.set i x)[j]?=l[j]?:=by
 rw[yf,zS (j0 h)]
theorem aY.set{H1:Hp}{ρ:Ev}{b:Bx}(E:aY K H0 H σ ρ)(s:AX H H1)(r:aX K H1 b v)(x:qZ b=true\/loose b=false)(n:Nw H b v):aY K H0 H1 (σ.set i (Z v)) (ρ.set i (Z b)):=by
 have F:=E.grow s;have D:∀(j:Nat) (g:Bx) (a:A1),ρ[j]?=Z (Z g)->loose g=true->σ[j]?=Z (Z (.ref a))->H a≠Y3:=λj g a e1 e2 e3 z=>by
  obtain⟨J,h,y⟩:=E.val j g e1;rw[e3]at h;cases h;cases g with
  |z d=>cases e2
  |l ds=>
   obtain⟨C,vs,f,q,_⟩:=y;cases f;rcases q with q|⟨o,q⟩<;>(rw[z]at q;cases q)
  |o ds=>
   obtain⟨C,vs,f,q,_⟩:=y;cases f;rw[z]at q;cases q
  |n ds=>
   obtain⟨C,vs,f,q,_⟩:=y;cases f;rcases q with q|⟨o,q⟩<;>(rw[z]at q;cases q)
  |m ds _=>
   obtain⟨C,vs,f,q,_⟩:=y;cases f;rw[z]at q;cases q
 have A:qZ b=true->∀a,v=.ref a->H a=Y3:=λG=>by
  cases b with
  |o ds=>exact n
  |m ds _=>exact n
  |_=>cases G
 refine⟨by rw[QE,QE];exact E.len,λj g e=>?_,λj k c a g e1 p e2 e3 h f=>?_,F.base,λj c a e1 p e2=>?_⟩
 ·rcases BA e with⟨rfl,e',hi⟩|⟨w,e'⟩
  ·cases e';exact⟨v,yE _ (by rw[E.len];exact hi),r⟩
  ·rw[pA _ w];exact F.val j g e'
 ·rcases BA e1 with⟨rfl,e',hi⟩|⟨w,e'⟩
  ·cases e';rw[yE _ (by rw[E.len];exact hi)]at e2;cases e2;rcases BA e3 with⟨rfl,u,_⟩|⟨B,u⟩
   ·rfl
   ·rw[pA _ B]at f;exact absurd (A p a S) (D k g a u h f)
  ·rw[pA _ w]at e2;rcases BA e3 with⟨rfl,u,hi⟩|⟨B,u⟩
   ·cases u;rw[yE _ (by rw[E.len];exact hi)]at f;cases f;have I:loose c=true:=by cases c<;>first|rfl|cases p
    rcases x with x|x
    ·exact absurd (A x a S) (D j _ a e' I e2)
    ·rw[x]at h;cases h
   ·rw[pA _ B]at f;exact E.own j k c a g e' p e2 u h f
 ·rcases BA e1 with⟨rfl,e',hi⟩|⟨w,e'⟩
  ·cases e';rw[yE _ (by rw[E.len];exact hi)]at e2;cases e2;exact E.base.free (A p a S)
  ·rw[pA _ w]at e2;exact E.new j c a e' p e2
def WX(ρ:Ev)(i:Nat):Bx->Y Ev
 |.l _=>Y3
 |.n _=>Y3
 |b=>Z (ρ.set i (Z b))
theorem NY{H1:Hp}{ρ ρ':Ev}{b:Bx}(E:aY K H0 H σ ρ)(s:AX H H1)(r:aX K H1 b v)(n:Nw H b v)(e:WX ρ i b=Z ρ'):aY K H0 H1 (σ.set i (Z v)) ρ':=by
 cases b with
 |l ds=>cases e
 |z d=>cases e;exact E.set s r (.inr S) n
 |o d=>cases e;exact E.set s r (.inl S) n
 |n ds=>cases e
 |m d _=>cases e;exact E.set s r (.inl S) n
theorem bM(i:Nat){p:Pos}(j:X.N.Nodup)(he:QV X e f)(hi:X.N[i]?=Z x:=by rfl)(hx:Cs X.env.scope x:=by first|exact JJ rfl|exact QN S)(hs:swapsWith e (Z (.Name x p)) pos.line X.env=pure false:=by rfl)(l:X.fn x=true\/X.env.scope.names.lookup x=Z .local:=by first|exact .inl rfl|exact .inr S):RD X (.Assign [.Name x p] e pos) (λρ=>(f ρ).bind λb=>(WX ρ i b).bind λρ'=>Z (.nx ρ')):=⟨have he:=he.run;V3 (Ow j hi hx he hs l) λD σ H h=>by
 obtain⟨H0,ρ,r,E,e,q⟩:=h;obtain⟨b,eb,e⟩:=AV e;obtain⟨ρ',c,e⟩:=AV e;cases e;exact⟨H0,ρ,b,E,eb,λv H1 d g a=>q _ _ (NY E d a g c)⟩⟩
def Lo(σ:L2.St)(ρ:Ev)(σ':L2.St)(ρ':Ev):Prop:=∀(j:Nat) b,loose b=true->ρ'[j]?=Z (Z b)->ρ[j]?=Z (Z b)/\σ'[j]?=σ[j]?
theorem Lo.refl{ρ:Ev}:Lo σ ρ σ ρ:=λ_ _ _ e=>⟨e,rfl⟩
theorem Lo.trans{σ d h:L2.St}{ρ f g:Ev}(a:Lo σ ρ d f)(b:Lo d f h g):Lo σ ρ h g:=λj c l e=>by
 obtain⟨e1,e2⟩:=b j c l e;obtain⟨e3,i⟩:=a j c l e1;exact⟨e3,e2.trans i⟩
theorem Lo.set{ρ:Ev}(i:Nat)(v:V)(d:Dt):Lo σ ρ (σ.set i (Z v)) (ρ.set i (Z (.z d))):=λj b l e=>by
 rcases BA e with⟨rfl,e',_⟩|⟨a,e'⟩
 ·cases e';cases l
 ·exact⟨e',pA _ a⟩
def MS(K:B5)(g:Dt->Ev->Y Ev):TG:=λv σ H Q=>∃H0 ρ d a,aY K H0 H σ ρ/\AY K H d v/\g d ρ=Z a/\∀ σ',aY K H0 H σ' a->Lo σ ρ σ' a->Q σ' H
def EU(X:Cx)(t:Expr)(g:Dt->Ev->Y Ev):Prop:=PG X t (MS X.K g)
structure ZV (X:Cx) (t:Expr) (g:Dt->Ev->Option Ev):Prop where
 run:EU X t g
theorem bw(i:Nat)(a:X.N.Nodup)(hi:X.N[i]?=Z x:=by rfl)(hx:Cs X.env.scope x:=by first|exact JJ rfl|exact QN S)(f:X.fn x=true\/X.env.scope.names.lookup x=Z .local:=by first|exact .inl rfl|exact .inr S):ZV X (.Name x pos) (λd ρ=>Z (ρ.set i (Z (.z d)))):=⟨λAN s σ H v u Q I r h=>by
 obtain⟨H0,ρ,d,g,E,c,e,q⟩:=h;cases e;exact jB a hi hx f AN s σ H v u Q I r (q _ (E.set (b:=.z d) (AX.refl H) c (.inr S) trivial) (Lo.set i v d))⟩
theorem ce(i:Nat)(a:X.N.Nodup:=by show List.Nodup (_++_);decide +kernel)(hi:X.N[i]?=Z x:=by rfl)(hx:Cs X.env.scope x:=by first|exact JJ rfl|exact QN S)(f:X.fn x=true\/X.env.scope.names.lookup x=Z .local:=by first|exact .inl rfl|exact .inr S):ZV X (.Name x pos) (λd ρ=>Z (ρ.set i (Z (.z d)))):=bw i a hi hx f
def aa(K:B5)(g:O Dt->Ev->Y Ev):DO:=λvs σ H Q=>∃H0 ρ ds a,aY K H0 H σ ρ/\aG K H ds vs/\g ds ρ=Z a/\∀ σ',aY K H0 H σ' a->Lo σ ρ σ' a->Q σ' H
def SY(X:Cx)(t:O Expr)(g:O Dt->Ev->Y Ev):Prop:=L2.Ro X t (aa X.K g)
structure GA (X:Cx) (t:List Expr) (g:List Dt->Ev->Option Ev):Prop where
 run:SY X t g
def WY:O Dt->Ev->Y Ev
 |[],ρ=>Z ρ
 |_,_=>Y3
def yF(g:Dt->Ev->Y Ev)(gs:O Dt->Ev->Y Ev):O Dt->Ev->Y Ev
 |d::ds,ρ=>(g d ρ).bind (gs ds)
 |_,_=>Y3
theorem OI  :GA X [] WY:=⟨λAN s σ H vs us Q I r h=>by
 obtain⟨H0,ρ,ds,b,E,a,e,q⟩:=h;cases ds with
 |nil=>cases e;unfold aG at a;exact Ar AN s σ H vs us Q I r ⟨a,q _ E Lo.refl⟩
 |cons d ds=>cases e⟩
theorem K8{t:Expr}{ts:O Expr}{gt:Dt->Ev->Y Ev}{gs:O Dt->Ev->Y Ev}(h1:ZV X t gt)(h2:GA X ts gs)(hs:(assignEach (t::ts) X.env).map (·.2)=assign t X.env::(assignEach ts X.env).map (·.2):=by rfl):GA X (t::ts) (yF gt gs):=⟨have h1:=h1.run;have h2:=h2.run;λAN s σ H vs us Q I r h=>by
 obtain⟨H0,ρ,ds,l,E,a,e,q⟩:=h;cases ds with
 |nil=>cases e
 |cons d ds=>
  unfold aG at a;obtain⟨v,m,rfl,f,c⟩:=a;simp only[yF]at e;obtain⟨b,e1,e⟩:=AV e;exact mV h1 h2 hs AN s σ H _ us Q I r ⟨v,m,rfl,H0,ρ,d,b,E,f,e1,λp i j=>⟨H0,b,ds,l,i,c,e,λn o g=>q n o (j.trans g)⟩⟩⟩
def K9(n:Nat)(gs:O Dt->Ev->Y Ev):Dt->Ev->Y Ev
 |.tup ds,ρ=>if ds.length=n then gs ds ρ else Y3
 |_,_=>Y3
theorem OL{ts:O Expr}{k:Nat}{gs:O Dt->Ev->Y Ev}(g:X.calm=true)(h:GA X ts gs)(hn:(assignEach ts X.env).length=n:=by rfl)(j:(assignEach ts X.env).findIdx? (·.1)=Y3:=by rfl):ZV X (.Tuple ts k pos) (K9 n gs):=⟨have h:=h.run;λAN s σ H v u Q I r f=>by
 obtain⟨H0,ρ,d,i,E,b,e,q⟩:=f;cases d with
 |tup ds=>
  simp only[K9]at e;split at e
  ·rename_i l;unfold AY at b;obtain⟨a,vs,rfl,m,c⟩:=b;exact Ij g h hn j AN s σ H _ u Q I r ⟨a,vs,rfl,m,by rw[c.length];exact l,H0,ρ,ds,i,E,c,e,q⟩
  ·cases e
 |_=>cases e⟩
def Fs(i j:Nat)(ρ:Ev):O Bx->Y As
 |[.z d,.z d']=>Z (.nx ((ρ.set i (Z (.z d))).set j (Z (.z d'))))
 |_=>Y3
theorem W0(i j:Nat){px py pt:Pos}{kt k2 pt2}(l:X.calm=true)(v:X.N.Nodup)(c:Uh X [a,b] fs)(hi:X.N[i]?=Z x:=by rfl)(n:X.N[j]?=Z y:=by rfl)(s:i≠j:=by decide)(hx:X.env.scope.names.lookup x=Z .local:=by rfl)(u:X.env.scope.names.lookup y=Z .local:=by rfl)(f:swappedStores [.Tuple [.Name x px,.Name y py] kt pt] (.Tuple [a,b] k2 pt2) X.env=pure (Z [x,y]):=by rfl)(hs:swapsWithSole [.Tuple [.Name x px,.Name y py] kt pt] (.Tuple [a,b] k2 pt2) pos.line X.env=pure false:=by rfl):RD X (.Assign [.Tuple [.Name x px,.Name y py] kt pt] (.Tuple [a,b] k2 pt2) pos) (λρ=>(fs ρ).bind (Fs i j ρ)):=⟨have c:=c.run;V3 (Ts l v hi n s hx u c f hs) λD σ H h=>by
 obtain⟨H0,ρ,r,E,e,q⟩:=h;obtain⟨bs,eb,e⟩:=AV e;refine⟨H0,ρ,bs,E,eb,λvs H1 m g=>?_⟩;unfold Fs at e;split at e
 ·rename_i d o;cases e;cases g with
  |cons p t=>
   cases t with
   |cons p' w=>
    cases w;refine⟨_,_,rfl,q _ _ ?_⟩;exact((E.grow m).set (b:=.z d) (AX.refl H1) p (.inr S) trivial).set (b:=.z o) (AX.refl H1) p' (.inr S) trivial
 ·cases e⟩
def FX(ρ:Ev)(i:Nat):Bx->Y As
 |.z d=>match ρ[i]? with
  |some (Z (.o ds))=>if ds.length<AA then Z (.nx (ρ.set i (Z (.o (ds++[d])))))else Y3
  |_=>Y3
 |_=>Y3
theorem aY.aeA{ρ:Ev}{y c1:Bx}{a:A1}{u:HO}(E:aY K H0 H σ ρ)(h:ρ[i]?=Z (Z y))(w:qZ y=true)(hs:σ[i]?=Z (Z (.ref a)))(k:Kp H (B1 H a u))(r:aX K (B1 H a u) c1 (.ref a)):
  aY K H0 (B1 H a u) σ (ρ.set i (Z c1)):=by
 have hi:i<ρ.length:=(cc.mp h).1;have Q:H0 a=Y3:=E.new i y a h w hs;have lo:∀c,qZ c=true->loose c=true:=λc M=>by cases c<;>first|rfl|cases M
 refine⟨by rw[QE];exact E.len,λj C e=>?_,λj I c f C e1 A e2 e3 L N=>?_,λc o e=>?_,λj c f e1 A e2=>?_⟩
 ·rcases BA e with⟨rfl,e',_⟩|⟨D,e'⟩
  ·cases e';exact⟨_,hs,r⟩
  ·obtain⟨v,e1,x⟩:=E.val j C e';refine⟨v,e1,?_⟩;have B:∀f,v=.ref f->loose C=true->f≠a:=λf ev U z=>by
    subst z;exact D (E.own i j y _ _ h w hs e' U (by rw[e1,ev])).symm
   cases C with
   |z d=>exact AY.kp k x
   |l F=>
    obtain⟨f,s,rfl,q,p⟩:=x;refine⟨f,s,rfl,?_,p.kp k⟩;have g:=B f S rfl;rcases q with q|⟨o,q⟩
    ·exact .inl (by rw[aF g];exact q)
    ·exact .inr ⟨o,by rw[aF g];exact q⟩
   |o F=>
    obtain⟨f,s,rfl,q,p⟩:=x;have g:=B f S rfl;exact⟨f,s,rfl,by rw[aF g];exact q,p.kp k⟩
   |n F=>
    obtain⟨f,s,rfl,q,p⟩:=x;refine⟨f,s,rfl,?_,p.kp k⟩;have g:=B f S rfl;rcases q with q|⟨o,q⟩
    ·exact .inl (by rw[aF g];exact q)
    ·exact .inr ⟨o,by rw[aF g];exact q⟩
   |m F=>
    obtain⟨f,s,rfl,q,p⟩:=x;have g:=B f S rfl;exact⟨f,s,rfl,by rw[aF g];exact q,p.1.kp k,p.2⟩
 ·have G:∀(m:Nat) (b:Bx),(ρ.set i (Z c1))[m]?=Z (Z b)->loose b=true->∃b0,ρ[m]?=Z (Z b0)/\loose b0=true/\(qZ b=true->qZ b0=true):=λm b e l=>by
   rcases BA e with⟨rfl,e',_⟩|⟨D,e'⟩
   ·exact⟨_,h,lo _ w,λ_=>w⟩
   ·exact⟨b,e',l,λz=>z⟩
  obtain⟨b0,q1,q2,q3⟩:=G j _ e1 (lo _ A);obtain⟨b1,P,J,_⟩:=G I _ e3 L;exact E.own j I b0 f b1 q1 (q3 A) e2 P J N
 ·rw[aF (bQ e Q)];exact E.base c o e
 ·rcases BA e1 with⟨rfl,e',_⟩|⟨D,e'⟩
  ·exact E.new _ y f h w e2
  ·exact E.new j c f e' A e2
theorem aY.T9{ρ:Ev}{ds es:O Dt}{a:A1}{us:O V}(E:aY K H0 H σ ρ)(h:ρ[i]?=Z (Z (.o ds)))(hs:σ[i]?=Z (Z (.ref a)))(b:H a=Z (.lst vs))(r:aG K H es us):
  aY K H0 (B1 H a (.lst us)) σ (ρ.set i (Z (.o es))):=E.aeA h S hs (.lst b) ⟨a,us,rfl,aJ,r.kp (.lst b)⟩
theorem yG(i:Nat){p:Pos}(he:QV X e f)(G:X.N[i]?=Z x:=by rfl)(w:Ov X.env.scope x:=by first|exact JJ rfl|exact QN (JJ S)|exact QN (QN S))(hd:ad x:=by decide)(s:(x==("__classdict__":AJ))=false:=by decide)(j:A9 [e] X.env=[(false,eval e X.env)]:=by rfl)(y:attributeBase (.Name x p) "append" X.env (eval (.Name x p) X.env)=eval (.Name x p) X.env:=by rfl)(o:((AD cpos (A9 [e] X.env)).all (λx=>!x.1)&&(backToKw cpos (keywordEach [] X.env)).all (λx=>x.1.isSome)&&decide ([e].length+([]:O AC).length+(if([]:O AC).isEmpty then 0 else 1)<30))=true:=by rfl)(B:(apos.endLine==cpos.line)=true:=by rfl)(hs:swapsWith (.Call (.Attribute (.Name x p) "append" apos) [e] [] cpos) Y3 pos.line X.env=pure false:=by rfl):RD X (.Expr (.Call (.Attribute (.Name x p) "append" apos) [e] [] cpos) pos) (λρ=>(f ρ).bind (FX ρ i)):=⟨have he:=he.run;V3 (Ii (KY yA PySem.F.slot_list_append PySem.F.type_list_append tD (oV (i:=i) G w hd s) (bD he fQ (by rw[j]<;>rfl)) y o B (by rw[j]<;>rfl) S) hs) λD σ H h=>by
  obtain⟨H0,ρ,r,E,e,q⟩:=h;obtain⟨b,eb,e⟩:=AV e;cases b with
  |z d=>
   simp only[FX]at e;split at e
   ·rename_i ds m;split at e
    ·rename_i C;cases e;obtain⟨v,e1,a,vs,rfl,g,l⟩:=E.val i _ m;refine⟨_,e1,.inl ⟨rfl,vs,.inl (.inl g)⟩,H0,ρ,_,E,eb,λu H1 c I n=>?_⟩;have A:=E.grow c;refine⟨a,vs,u,rfl,rfl,c _ _ g,by rw[l.length];exact C,q _ _ ?_⟩;exact A.T9 m e1 (c _ _ g) ((l.kp (.of c)).append (aG.cons n aG.nil))
    ·cases e
   ·cases e
  |_=>cases e⟩
end
def IP(x:AJ):It:=⟨λi _=>i<x.cps.size,λi H v H'=>H'=H/\∃c,x.cps[i]?=Z c/\v=.str ⟨#[c]⟩,λi _=>x.cps.size<=i⟩
def OK(h:A6)(it:A1)(x:AJ)(i:Nat):Prop:=∃t,h.IsStrIter it "str_ascii_iterator" x t i\/h.IsStrIter it "str_iterator" x t i
theorem La(it:A1)(x:AJ):C2 P w K tg (IP x) [it] it (λi h=>OK h it x i) where
 mem:=by simp
 obj:=λi h st b a=>by
  have e:b=it:=by simpa using a
  subst e;obtain⟨t,⟨o,e,c,d⟩|⟨o,e,c,d⟩⟩:=st
  ·exact⟨o,e,λv z=>by rw[d]at z;cases z⟩
  ·exact⟨o,e,λv z=>by rw[d]at z;cases z⟩
 keep:=λi h h' st k=>by
  obtain⟨t,⟨o,e,c⟩|⟨o,e,c⟩⟩:=st
  ·exact⟨t,.inl ⟨o,k it (by simp) o e,c⟩⟩
  ·exact⟨t,.inr ⟨o,k it (by simp) o e,c⟩⟩
 item:=by
  intro X y m p n i AN s σ H E I l st u;subst y m p;obtain⟨f0,f1,f2,f3,j,g⟩:=l it (by simp);have hi:i<x.cps.size:=u;have hx:x.cps[i]?=Z x.cps[i]:=by simp[hi]
  obtain⟨t,st|st⟩:=st
  ·refine wpAny_pyNext_ascii_item st hx λh' f A=>?_;have q:L2.AW X AN σ H { s with heap:=h',toks:=s.toks+1 }:=I.turned (λb o a e=>(A.2 b a).trans e) f0 f1 f3 j g;obtain⟨o,e,c,d⟩:=id f;exact⟨_,rfl,Gn (s:={ s with heap:=h',toks:=s.toks+1 }) e c d () ⟨.str ⟨#[x.cps[i]]⟩,H,q,⟨_,rfl⟩,⟨rfl,_,hx,rfl⟩,⟨t,.inl f⟩,λb a=>(l b a).1⟩⟩
  ·refine wpAny_pyNext_wide_item st hx λh' f A=>?_;have q:L2.AW X AN σ H { s with heap:=h',toks:=s.toks+1 }:=I.turned (λb o a e=>(A.2 b a).trans e) f0 f1 f3 j g;obtain⟨o,e,c,d⟩:=id f;exact⟨_,rfl,Gn (s:={ s with heap:=h',toks:=s.toks+1 }) e c d () ⟨.str ⟨#[x.cps[i]]⟩,H,q,⟨_,rfl⟩,⟨rfl,_,hx,rfl⟩,⟨t,.inr f⟩,λb a=>(l b a).1⟩⟩
 done:=by
  intro X y m p n i AN s σ H E I l st u;subst y m p;obtain⟨f0,f1,f2,f3,j,g⟩:=l it (by simp);have hx:x.cps[i]?=Y3:=by have:x.cps.size<=i:=u;simp[this]
  obtain⟨t,st|st⟩:=st
  ·exact wpAny_pyNext_ascii_end (I.ok.hd n) st hx λh' eb=>⟨rfl,I.turned (t':=s.toks) (λb o a e=>eb b o a e) f0 f1 f3 j g⟩
  ·exact wpAny_pyNext_wide_end (I.ok.hd n) st hx λh' eb=>⟨rfl,I.turned (t':=s.toks) (λb o a e=>eb b o a e) f0 f1 f3 j g⟩
 self:=λ_ _ _ _ _ st h=>by
  obtain⟨t,st|st⟩:=st
  ·exact wpAny_pyIter_striter_ascii st h
  ·exact wpAny_pyIter_striter_wide st h
def T2(K:B5)(tl:TE):TI:=λσ H R=>tl σ H λx H1=>(∃a,x=.ref a/\(∃xs,nG K H1 a xs)/\R (F7 K a) H1)\/(∃a,x=.ref a/\(∃xs,vU K H1 a xs)/\R (HU K a) H1)\/∃y,x=.str y/\R (IP y) H1
theorem O9{l:Expr}{tl:TE}(m:PE X l tl):PI X tg l (T2 X.K tl):=by
 intro AN s σ H R I h;refine fB (m AN s σ H _ I h) λv s1 ⟨x,H1,I1,r1,q1⟩=>?_;have c:∀(o:AE) (b:A1),b∈[s1.heap.objs.size]->lO X AN H1 b:=λo b g=>by
  have e:b=s1.heap.objs.size:=by simpa using g
  subst e;exact I1.Bv (zi _) (I1.hok.fresh (zi _))
 rcases q1 with⟨a,e,⟨xs,d⟩,q⟩|⟨a,e,⟨xs,d⟩,q⟩|⟨y,e,q⟩
 ·subst e;cases r1;obtain⟨AT,j,p,i⟩:=I1.list d;refine kR p.isList ?_;exact⟨s1.heap.objs.size,[s1.heap.objs.size],_,_,H1,rfl,I1.kept (t':=s1.toks) λb o e=>zd _ e,Gq a _,⟨_,zl _ rfl,rfl,rfl⟩,c default,q⟩
 ·subst e;cases r1;obtain⟨AT,j,p,i⟩:=I1.tuple d;refine wpAny_pyIter_tuple (show s1.heap.IsTuple a AT.toArray from p) ?_;exact⟨s1.heap.objs.size,[s1.heap.objs.size],_,_,H1,rfl,I1.kept (t':=s1.toks) λb o e=>zd _ e,Ox a _,⟨_,zl _ rfl,rfl,rfl⟩,c default,q⟩
 ·subst e;obtain⟨t,rfl⟩:=r1;cases f:y.cps.all (· < 128)with
  |true=>
   refine wpAny_pyIter_ascii f ?_;exact⟨s1.heap.objs.size,[s1.heap.objs.size],_,_,H1,rfl,I1.kept (t':=s1.toks) λb o e=>zd _ e,La _ y,⟨t,.inl ⟨_,zl _ rfl,rfl,rfl⟩⟩,c default,q⟩
  |false=>
   refine wpAny_pyIter_wide f ?_;exact⟨s1.heap.objs.size,[s1.heap.objs.size],_,_,H1,rfl,I1.kept (t':=s1.toks) λb o e=>zd _ e,La _ y,⟨t,.inr ⟨_,zl _ rfl,rfl,rfl⟩⟩,c default,q⟩
def B4(K:B5)(J:It)(ds:O Dt)(Hs:Hp):Prop:=∀(i:Nat) (H:Hp),AX Hs H →
 (∀d,ds[i]?=Z d->J.go i H/\∀x H',J.yld i H x H'->AX H H'/\AY K H' d x)/\(ds.length<=i->J.stop i H)
theorem B4.of{ds:O Dt}(h:∀(i:Nat) (H:Hp),AX Hs H →
  (∀d,ds[i]?=Z d->J.go i H/\∀x H',J.yld i H x H'->H'=H/\AY K H d x)/\(ds.length<=i->J.stop i H)):B4 K J ds Hs:=λi H s=>
 ⟨λd e=>⟨((h i H s).1 d e).1,λx H' y=>by
  obtain⟨rfl,r⟩:=((h i H s).1 d e).2 x H' y;exact⟨AX.refl _,r⟩⟩,(h i H s).2⟩
def C0(x:AJ):O Dt:=x.cps.toList.map λc=>.str ⟨#[c]⟩
theorem B4.list{ds:O Dt}(h:nG K Hs a vs)(r:aG K Hs ds vs):B4 K (F7 K a) ds Hs:=.of λi H s=>by
 have h':=s.seq h;have b:=r.kp (.of s);refine⟨λd e=>?_,λe=>⟨vs,h',by rw[r.length];exact e⟩⟩;obtain⟨v,ev,c⟩:=b.get e;refine⟨⟨vs,v,h',ev⟩,λx H' y=>?_⟩;obtain⟨y1,y2⟩:=y;have:=y2 vs h';rw[ev]at this;cases this;exact⟨y1,c⟩
theorem B4.tup{ds:O Dt}(h:vU K Hs a vs)(r:aG K Hs ds vs):B4 K (HU K a) ds Hs:=.of λi H s=>by
 have h':=(Kp.of s).sqT h;have b:=r.kp (.of s);refine⟨λd e=>?_,λe=>⟨vs,h',by rw[r.length];exact e⟩⟩;obtain⟨v,ev,c⟩:=b.get e;refine⟨⟨vs,v,h',ev⟩,λx H' y=>?_⟩;obtain⟨y1,y2⟩:=y;have:=y2 vs h';rw[ev]at this;cases this;exact⟨y1,c⟩
theorem B4.str(x:AJ):B4 K (IP x) (C0 x) Hs:=.of λi H s=>by
 refine⟨λd e=>?_,λe=>?_⟩
 ·unfold C0 at e;rw[z5]at e;cases h:x.cps.toList[i]? with
  |none=>rw[h]at e;cases e
  |some c=>
   rw[h]at e;cases e;have b:x.cps[i]?=Z c:=by simpa using h
   have hi:i<x.cps.size:=by
    have:=(cc.mp h).1;simpa using this
   refine⟨hi,λv H' y=>?_⟩;obtain⟨y1,c',a,rfl⟩:=y;rw[b]at a;cases a;refine⟨y1,?_⟩;unfold AY;exact⟨rfl,by show(1:Nat)<=AA;decide⟩
 ·have:(C0 x).length=x.cps.size:=by simp[C0]
  show x.cps.size<=i;omega
def wj(lo:Int)(n:Nat):O Dt:=(cw n).map λk=>.int (lo+(k:Nat))
theorem B4.rng(lo:Int)(n:Nat):B4 K (F3 lo n) (wj lo n) Hs:=.of λi H s=>by
 refine⟨λd e=>?_,λe=>?_⟩
 ·unfold wj at e;rw[z5]at e;by_cases hi:i<n
  ·rw[k9 hi]at e;cases e;refine⟨hi,λv H' y=>?_⟩;obtain⟨y1,y2⟩:=y;refine⟨y1,?_⟩;unfold AY;exact y2
  ·rw[qA (by simp;omega)]at e;cases e
 ·have:(wj lo n).length=n:=by simp[wj]
  show n<=i;omega
def iF(K:B5)(f:Ev->Y (O Dt)):TI:=λσ H R=>∃H0 ρ ds,aY K H0 H σ ρ/\f ρ=Z ds/\∀J H',AX H H' →
 (∀Hs,AX Hs H'->(∀a,H a=Y3->Hs a=H' a)->(∀a o u,H' a=Z (.jo o u)->Hs a=H' a)->(∀a vs,H' a=Z (.tup vs)->Hs a=H' a)->B4 K J ds Hs)->R J H'
def Lm(X:Cx)(tg iter:Expr)(f:Ev->Y (O Dt)):Prop:=PI X tg iter (iF X.K f)
structure ED (X:Cx) (tg iter:Expr) (f:Ev->Option (List Dt)):Prop where
 run:Lm X tg iter f
def W2:Bx->Y (O Dt)
 |.z (.lst ds)=>Z ds
 |.z (.tup ds)=>Z ds
 |.z (.str x)=>Z (C0 x)
 |.o ds=>Z ds
 |_=>Y3
section
variable{f:Ev->Y Bx}{fs:Ev->Y (O Bx)}
mutual
theorem AY.part{K:B5}{H Hs:Hp}(b:∀a o u,H a=Z (.jo o u)->Hs a=H a)(c:∀a vs,H a=Z (.tup vs)->Hs a=H a):∀{d:Dt} {v:V},AY K H d v->AY K Hs d v
 |.non,_,h=>by simpa only[AY]using h
 |.bl _,_,h=>by simpa only[AY]using h
 |.int _,_,h=>by simpa only[AY]using h
 |.str _,_,h=>by simpa only[AY]using h
 |.tup ds,_,h=>by
  simp only[AY]at h ⊢;obtain⟨a,vs,e,q,r⟩:=h;refine⟨a,vs,e,?_,aG.part b c r⟩;rcases q with (q|⟨o,q⟩)|q
  ·exact .inl (.inl ((c _ _ q).trans q))
  ·exact .inl (.inr ⟨o,(b _ _ _ q).trans q⟩)
  ·exact .inr q
 |.lst ds,_,h=>by
  simp only[AY]at h ⊢;obtain⟨a,vs,e,q,r⟩:=h;refine⟨a,vs,e,?_,aG.part b c r⟩;rcases q with⟨o,q⟩|q
  ·exact .inl ⟨o,(b _ _ _ q).trans q⟩
  ·exact .inr q
 |.emp,_,h=>by
  simp only[AY]at h ⊢;obtain⟨a,o,e,q⟩:=h;exact⟨a,o,e,(b _ _ _ q).trans q⟩
theorem aG.part{K:B5}{H Hs:Hp}(c:∀a o u,H a=Z (.jo o u)->Hs a=H a)(b:∀a vs,H a=Z (.tup vs)->Hs a=H a):∀{ds:O Dt} {vs:O V},aG K H ds vs->aG K Hs ds vs
 |[],_,h=>by simpa only[aG]using h
 |d::ds,_,h=>by
  simp only[aG]at h ⊢;obtain⟨v,r,e,q,t⟩:=h;exact⟨v,r,e,AY.part c b q,aG.part c b t⟩
end
theorem Ba(h:QV X e f):ED X tg e (λρ=>(f ρ).bind W2):=⟨have h:=h.run;λAN s σ H R I q=>by
 refine O9 h AN s σ H R I ?_;obtain⟨H0,ρ,ds,E,e,q⟩:=q;obtain⟨b,eb,e⟩:=AV e;refine⟨H0,ρ,b,E,eb,λv H1 w B i=>?_⟩;cases b with
 |z d=>
  cases d with
  |tup u=>
   cases e;simp only[aX,AY]at i;obtain⟨a,vs,rfl,c,p⟩:=i;refine .inr (.inl ⟨a,rfl,⟨vs,c⟩,q _ _ w λHs A y g j=>.tup ?_ (p.part g j)⟩);rcases c with (c|⟨o,c⟩)|c
   ·exact .inl (.inl ((j _ _ c).trans c))
   ·exact .inl (.inr ⟨o,(g _ _ _ c).trans c⟩)
   ·exact .inr c
  |lst u=>
   cases e;simp only[aX,AY]at i;obtain⟨a,vs,rfl,c,p⟩:=i;refine .inl ⟨a,rfl,⟨vs,c.sq⟩,q _ _ w λHs A y g j=>.list ?_ (p.part g j)⟩;rcases c with⟨o,c⟩|c
   ·exact .inl (.inr ⟨o,(g _ _ _ c).trans c⟩)
   ·exact .inr c
  |str x=>
   cases e;simp only[aX,AY]at i;obtain⟨rfl,_⟩:=i;exact .inr (.inr ⟨x,rfl,q _ _ w λHs A y g j=>.str x⟩)
  |_=>cases e
 |l u=>cases e
 |n u=>cases e
 |m u=>cases e
 |o u=>
  cases e;obtain⟨a,vs,rfl,c,p⟩:=i;refine .inl ⟨a,rfl,⟨vs,.inl (.inl c)⟩,q _ _ w λHs A y g j=>.list (.inl (.inl ((y a (B a S)).trans c))) (p.part g j)⟩⟩
def HG:O Bx->Y (O Dt)
 |[.z (.int j)]=>if -(2 ^ 62)<=j/\j<2 ^ 62 then Z (wj 0 j.toNat)else Y3
 |_=>Y3
def Hd:O Bx->Y (O Dt)
 |[.z (.int i),.z (.int j)]=>if(-(2 ^ 62)<=i/\i<2 ^ 62) ∧ -(2 ^ 62)<=j/\j<2 ^ 62 then Z (wj i (j-i).toNat)else Y3
 |_=>Y3
theorem ig{p:Pos}(f:Gl X "range")(g:X.mg "range"=Y3)(a:Uh X [e] fs)(hs:A9 [e] X.env=[(false,eval e X.env)]:=by rfl):ED X tg (.Call (.Name "range" p) [e] [] pos) (λρ=>(fs ρ).bind HG):=⟨have a:=a.run;λAN s σ H R I q=>by
 refine TY f g a hs AN s σ H R I ?_;obtain⟨H0,ρ,ds,E,e,q⟩:=q;obtain⟨bs,eb,e⟩:=AV e;refine⟨H0,ρ,bs,E,eb,λvs H1 d c=>?_⟩;unfold HG at e;split at e
 ·rename_i j;split at e
  ·rename_i b;cases e;cases c with
   |cons p t=>
    cases t;simp only[aX,AY]at p;subst p;exact⟨j,rfl,b.1,b.2,q _ _ d λHs _ _ _ _=>.rng 0 _⟩
  ·cases e
 ·cases e⟩
theorem W3{e':Expr}{p:Pos}(g:Gl X "range")(h:X.mg "range"=Y3)(b:Uh X [e,e'] fs)(hs:A9 [e,e'] X.env=[(false,eval e X.env),(false,eval e' X.env)]:=by rfl)(f:A9 [e'] X.env=[(false,eval e' X.env)]:=by rfl):ED X tg (.Call (.Name "range" p) [e,e'] [] pos) (λρ=>(fs ρ).bind Hd):=⟨have b:=b.run;λAN s σ H R I q=>by
 refine T3 g h b hs f AN s σ H R I ?_;obtain⟨H0,ρ,ds,E,e,q⟩:=q;obtain⟨bs,eb,e⟩:=AV e;refine⟨H0,ρ,bs,E,eb,λvs H1 d c=>?_⟩;unfold Hd at e;split at e
 ·rename_i i j;split at e
  ·rename_i a;cases e;cases c with
   |cons p t=>
    cases t with
    |cons p' l=>
     cases l;simp only[aX,AY]at p p';subst p p';exact⟨i,j,rfl,⟨a.1.1,a.1.2,a.2.1,a.2.2⟩,q _ _ d λHs _ _ _ _=>.rng i _⟩
  ·cases e
 ·cases e⟩
def pB(gt:Dt->Ev->Y Ev)(gb:Ev->Y As):O Dt->Ev->Y As
 |[],ρ=>Z (.nx ρ)
 |d::ds,ρ=>(gt d ρ).bind λc=>(gb c).bind λr=>match r with
  |.nx a=>pB gt gb ds a
  |.ct a=>pB gt gb ds a
  |.bk a=>Z (.nx a)
  |.rt b=>Z (.rt b)
noncomputable def cV(H:Hp)(σ:L2.St)(ρ:Ev):Hp:=λa=>@ite _ (∃(i:Nat) (c:Bx),ρ[i]?=Z (Z c)/\qZ c=true/\σ[i]?=Z (Z (.ref a))) (Classical.propDecidable _) Y3 (H a)
theorem lZ{ρ:Ev}:AX (cV H σ ρ) H:=λa o e=>by
 unfold cV at e;split at e
 ·cases e
 ·exact e
theorem aY.rebase{ρ:Ev}(E:aY K Hs H σ ρ)(s:AX H0 Hs):aY K H0 H σ ρ:=⟨E.len,E.val,E.own,s.trans E.base,λi c a e1 b e2=>s.free (E.new i c a e1 b e2)⟩
theorem aY.sans{ρ:Ev}(E:aY K H0 H σ ρ):aY K (cV H σ ρ) H σ ρ:=⟨E.len,E.val,E.own,lZ,λi c a e1 b e2=>by
 unfold cV;rw[zo ⟨i,c,e1,b,e2⟩]⟩
theorem aY.sub{ρ:Ev}(E:aY K H0 H σ ρ):AX H0 (cV H σ ρ):=λa o e=>by
 unfold cV;split
 ·rename_i h;obtain⟨i,c,e1,b,e2⟩:=h;rw[E.new i c a e1 b e2]at e;cases e
 ·exact E.base a o e
theorem eF{ρ:Ev}(E:aY K H0 H σ ρ)(h:∀vs,H a≠Z (.lst vs))(h2:∀vs,H a≠Z (.dK vs)):cV H σ ρ a=H a:=by
 unfold cV;split
 ·rename_i e;obtain⟨i,c,e1,f,e2⟩:=e;obtain⟨v,e3,d⟩:=E.val i _ e1;rw[e2]at e3;cases e3;cases c with
  |o ds=>obtain⟨g,vs,b,q,_⟩:=d;cases b;exact absurd q (h vs)
  |m ds _=>obtain⟨g,vs,b,q,_⟩:=d;cases b;exact absurd q (h2 vs)
  |_=>cases f
 ·rfl
theorem WT.rebase{K:B5}{H0 Hs:Hp}{D:BV}{r:As}(s:AX H0 Hs)(h:WT K H0 D r):WT K Hs D r:=by
 cases r with
 |nx ρ=>exact λσ H E=>h σ H (E.rebase s)
 |bk ρ=>exact λσ H E=>h σ H (E.rebase s)
 |ct ρ=>exact λσ H E=>h σ H (E.rebase s)
 |rt b=>exact λv H s' n r=>h v H (s.trans s') (n.old s) r
theorem pC{gt:Dt->Ev->Option Ev}{gb:Ev->Option As}{ds:O Dt}{H1:Hp}{ρ:Ev}{D:BV}{r:As}(s:aY X.K H0 H1 σ ρ)(Y:B4 X.K J ds (cV H1 σ ρ))(e:pB gt gb ds ρ=Z r)(q:WT X.K H0 D r):
  ∃W:Nat->Nat->L2.St->Hp->Prop,(∃m,W 0 m σ H1)/\∀i m σ H,W i m σ H →
   (J.stop i H/\D.nx σ H)\/(J.go i H/\∃N:L2.St->Hp->Prop,(∀ σ' H',N σ' H'->∃o,o<m/\W (i+1) o σ' H')/\∀x H',J.yld i H x H'->MS X.K gt x σ H' λc H2=>tG X.K gb { D with nx:=N,ct:=N,bk:=D.nx } c H2):=by
 have u:=s.sans;have q2:=q.rebase s.sub;generalize cV H1 σ ρ=Hs at Y u q2;refine⟨λi m σ' H'=>m=ds.length-i/\i<=ds.length/\∃d,aY X.K Hs H' σ' d/\pB gt gb (ds.drop i) d=Z r,⟨ds.length,by simp,qc _,ρ,u,by simpa using e⟩,?_⟩;rintro i m σ' H' ⟨rfl,C,d,j,e'⟩;obtain⟨y1,y2⟩:=Y i H' j.base;by_cases g:i<ds.length
 ·right;have hd:ds[i]?=Z ds[i]:=by simp[g]
  obtain⟨go,w⟩:=y1 _ hd;rw[yb g]at e';simp only[pB]at e';obtain⟨n,e1,e'⟩:=AV e';obtain⟨l,e2,e'⟩:=AV e';refine⟨go,λc H2=>∃a,aY X.K Hs H2 c a/\pB gt gb (ds.drop (i+1)) a=Z r,λc H2 ⟨a,h,e3⟩=>⟨ds.length-(i+1),by omega,rfl,g,a,h,e3⟩,λx H2 z=>?_⟩;obtain⟨y,A⟩:=w x H2 z;refine⟨Hs,d,ds[i],n,j.grow y,A,e1,λB h _=>⟨Hs,n,l,h,e2,?_⟩⟩;cases l with
  |nx a=>exact λc v f=>⟨a,f,e'⟩
  |ct a=>exact λc v f=>⟨a,f,e'⟩
  |bk a=>cases e';exact q2
  |rt b=>cases e';exact q2
 ·left;have p:ds.length<=i:=by omega
  refine⟨y2 p,?_⟩;rw[dP p]at e';cases e';exact q2 σ' H' j
theorem uY{fi:Ev->Y (O Dt)}{gt:Dt->Ev->Y Ev}{gb:Ev->Y As}(hp:PassesOwn (bn X) X.A X.env X.xe)(n:X.calm=true)(hi:ED X tg iter fi)(d:ZV X tg gt)(f:Ui X body gb)(hs:∀x,foldedSetIterable iter X.env x=pure x:=by intro _;rfl):RD X (.For tg iter body [] pos) (λρ=>(fi ρ).bind λds=>pB gt gb ds ρ):=⟨have hi:=hi.run;have d:=d.run;have f:=f.run;V3 (OD hp n hi d f hs) λD σ H h=>by
 obtain⟨H0,ρ,r,E,e,q⟩:=h;obtain⟨ds,C,e⟩:=AV e;refine⟨H0,ρ,ds,E,C,λJ H1 s y=>?_⟩;have j:=E.grow s;refine pC j ?_ e q;refine y _ lZ (λa b=>?_) (λa o u b=>eF j (λvs z=>by rw[b]at z;cases z) (λvs z=>by rw[b]at z;cases z)) λa vs b=>eF j (λvs z=>by rw[b]at z;cases z) (λvs z=>by rw[b]at z;cases z);unfold cV;split
 ·rename_i p;obtain⟨i,c,e1,B,e2⟩:=p;obtain⟨v,e3,l⟩:=E.val i _ e1;rw[e2]at e3;cases e3;cases c with
  |o ds=>obtain⟨F,vs,g,q,_⟩:=l;cases g;rw[b]at q;cases q
  |m ds _=>obtain⟨F,vs,g,q,_⟩:=l;cases g;rw[b]at q;cases q
  |_=>cases B
 ·rfl⟩
theorem aY.lend{ρ:Ev}{ds:O Dt}(E:aY K H0 H σ ρ)(h:ρ[i]?=Z (Z (.o ds))):aY K H0 H σ (ρ.set i (Z (.l ds))):=by
 have g:∀(j:Nat) (b:Bx),(ρ.set i (Z (.l ds)))[j]?=Z (Z b)->(j=i/\b=.l ds)\/(j≠i/\ρ[j]?=Z (Z b)):=λj b e=>by
  rcases BA e with⟨rfl,e',_⟩|⟨f,e'⟩
  ·cases e';exact .inl ⟨rfl,rfl⟩
  ·exact .inr ⟨f,e'⟩
 refine⟨by rw[QE];exact E.len,λj b e=>?_,λj k c a b e1 d e2 e3 p m=>?_,E.base,λj c a e1 d e2=>?_⟩
 ·rcases g j b e with⟨rfl,rfl⟩|⟨f,e'⟩
  ·obtain⟨v,e1,a,vs,e2,q,r⟩:=E.val _ _ h;exact⟨v,e1,a,vs,e2,.inl q,r⟩
  ·exact E.val j b e'
 ·rcases g j _ e1 with⟨rfl,z⟩|⟨f,e'⟩
  ·subst z;cases d
  ·rcases g k _ e3 with⟨rfl,z⟩|⟨s,n⟩
   ·exact E.own j _ c a _ e' d e2 h S m
   ·exact E.own j k c a b e' d e2 n p m
 ·rcases g j _ e1 with⟨rfl,z⟩|⟨f,e'⟩
  ·subst z;cases d
  ·exact E.new j c a e' d e2
def pF(i:Nat)(gt:Dt->Ev->Y Ev)(gb:Ev->Y As)(ρ:Ev):Y As:=match ρ[i]? with
 |some (Z (.o ds))=>pB gt gb ds (ρ.set i (Z (.l ds)))
 |some (Z (.l ds))=>pB gt gb ds ρ
 |some (Z b)=>(W2 b).bind λds=>pB gt gb ds ρ
 |_=>Y3
theorem W4{ρ:Ev}{ds:O Dt}(E:aY X.K H0 H σ ρ)(h:ρ[i]?=Z (Z (.l ds))):∃a vs,σ[i]?=Z (Z (.ref a))/\nG X.K H a vs/\B4 X.K (F7 X.K a) ds (cV H σ ρ):=by
 obtain⟨v,e1,a,vs,rfl,q,r⟩:=E.val i _ h;have hk:cV H σ ρ a=H a:=by
  unfold cV;split
  ·rename_i f;obtain⟨j,c,e2,e,e3⟩:=f;have:=E.own j i c a _ e2 e e3 h S e1;subst this;rw[h]at e2;cases e2;cases e
  ·rfl
 refine⟨a,vs,e1,.inl q,.list (.inl ?_) (r.part (λb o u d=>eF E (λvs z=>by rw[d]at z;cases z) (λvs z=>by rw[d]at z;cases z)) λb ws d=>eF E (λvs z=>by rw[d]at z;cases z) (λvs z=>by rw[d]at z;cases z))⟩;rcases q with q|⟨o,q⟩
 ·exact .inl (hk.trans q)
 ·exact .inr ⟨o,hk.trans q⟩
theorem tK(i:Nat){p:Pos}{gt:Dt->Ev->Option Ev}{gb:Ev->Option As}(hp:PassesOwn (bn X) X.A X.env X.xe)(K:X.calm=true)(F:ZV X tg gt)(f:Ui X body gb)(Q:X.N[i]?=Z x:=by rfl)(M:Ov X.env.scope x:=by first|exact JJ rfl|exact QN (JJ S)|exact QN (QN S))(hd:ad x:=by decide)(L:(x==("__classdict__":AJ))=false:=by decide)(hs:∀y,foldedSetIterable (.Name x p) X.env y=pure y:=by intro _;rfl):RD X (.For tg (.Name x p) body [] pos) (pF i gt gb):=⟨have F:=F.run;have f:=f.run;V3 (OD hp K (O9 (oV (i:=i) Q M hd L)) F f hs) λD σ H h=>by
 obtain⟨H0,ρ,r,E,e,q⟩:=h;unfold pF at e;split at e
 ·rename_i ds B;have J:=E.lend B;have hi:i<ρ.length:=(cc.mp B).1;obtain⟨a,vs,e1,sq,Y⟩:=W4 J (yE _ hi);exact⟨_,e1,.inl ⟨a,rfl,⟨vs,sq⟩,pC J Y e q⟩⟩
 ·rename_i ds B;obtain⟨a,vs,e1,sq,Y⟩:=W4 E B;exact⟨_,e1,.inl ⟨a,rfl,⟨vs,sq⟩,pC E Y e q⟩⟩
 ·rename_i b P U B;obtain⟨ds,g,e⟩:=AV e;obtain⟨v,e1,j⟩:=E.val i _ B;have C:∀b o u,H b=Z (.jo o u)->cV H σ ρ b=H b:=λb o u f=>eF E (λvs z=>by rw[f]at z;cases z) (λvs z=>by rw[f]at z;cases z);have G:∀b ws,H b=Z (.tup ws)->cV H σ ρ b=H b:=λb ws f=>eF E (λvs z=>by rw[f]at z;cases z) (λvs z=>by rw[f]at z;cases z);cases b with
  |z d=>
   cases d with
   |tup s=>
    cases g;simp only[aX,AY]at j;obtain⟨a,vs,rfl,c,I⟩:=j;refine⟨_,e1,.inr (.inl ⟨a,rfl,⟨vs,c⟩,pC E (.tup ?_ (I.part C G)) e q⟩)⟩;rcases c with (c|⟨o,c⟩)|c
    ·exact .inl (.inl ((G _ _ c).trans c))
    ·exact .inl (.inr ⟨o,(C _ _ _ c).trans c⟩)
    ·exact .inr c
   |lst s=>
    cases g;simp only[aX,AY]at j;obtain⟨a,vs,rfl,c,I⟩:=j;refine⟨_,e1,.inl ⟨a,rfl,⟨vs,c.sq⟩,pC E (.list ?_ (I.part C G)) e q⟩⟩;rcases c with⟨o,c⟩|c
    ·exact .inl (.inr ⟨o,(C _ _ _ c).trans c⟩)
    ·exact .inr c
   |str x=>
    cases g;simp only[aX,AY]at j;obtain⟨rfl,_⟩:=j;exact⟨_,e1,.inr (.inr ⟨x,rfl,pC E (.str x) e q⟩)⟩
   |_=>cases g
  |l s=>cases g
  |o s=>exact absurd S (P s)
  |n s=>cases g
  |m s=>cases g
 ·cases e⟩
end
def C3(a:O (AJ×A1)):O (AJ×A1)->Prop
 |[]=>True
 |(n,c)::r=>a.lookup n=Z c/\C3 a r
theorem C3.get{a:O (AJ×A1)}:∀{cl:O (AJ×A1)},C3 a cl->∀{x:AJ} {c:A1},cl.lookup x=Z c->a.lookup x=Z c
 |[],_,_,_,e=>by cases e
 |(n,d)::r,h,x,c,e=>by
  rw[yo]at e;by_cases hx:x==n
  ·simp only[hx]at e;cases e;have:x=n:=by simpa using hx
   rw[this];exact h.1
  ·have hx:(x==n)=false:=by simpa using hx
   simp only[hx]at e;exact C3.get h.2 e
structure MC (X:Cx) (scope:Scope) (cl:List (Str×Addr)) (x:Str) (i:Nat):Prop where
 n:X.N[i]?=some x
 k:X.env.kindOf x=some .cell\/X.env.kindOf x=some .free
 k':(relabel scope X.env).names.lookup x=some .cell\/(relabel scope X.env).names.lookup x=some .free
 c:∃c,cl.lookup x=some c
def Fp(X:Cx)(scope:Scope)(cl:O (AJ×A1)):Ap->O Nat->Prop
 |[],[]=>True
 |x::xs,i::is=>MC X scope cl x i/\Fp X scope cl xs is
 |_,_=>False
theorem Fp.get{X:Cx}{scope:Scope}{cl:O (AJ×A1)}:∀{xs:Ap} {is:O Nat},Fp X scope cl xs is->xs.length=is.length/\∀(j:Nat) (x:AJ),xs[j]?=Z x->∃i,is[j]?=Z i/\MC X scope cl x i
 |[],[],_=>⟨rfl,λj x e=>by simp at e⟩
 |x::xs,i::is,h=>by
  obtain⟨h1,h2⟩:=h;obtain⟨l,g⟩:=Fp.get h2;refine⟨by simp[l],λj y e=>?_⟩;cases j with
  |zero=>simp at e;subst e;exact⟨i,rfl,h1⟩
  |succ j=>obtain⟨k,e1,e2⟩:=g j y (by simpa using e);exact⟨k,by simpa using e1,e2⟩
 |[],_::_,h=>h.elim
 |_::_,[],h=>h.elim
def GS(a:O (AJ×NameKind))(x:AJ):Bool:=match a.lookup x with
 |some .cell=>true
 |_=>false
def tL(X:Cx)(a:Ap)(scope:Scope)(cl:O (AJ×A1))(C:A1)(s₀:A2)(H₀:Hp)(fp:O A1):Cx:=
 { X with N:=a,s₀:=s₀,H₀:=H₀,env:=compEnvC scope (cellsFrom (C+1) scope.names cl) C X.env,outer:=X.stack,ex:=fp,fn:=GS scope.names,pn:=[],xe:=λ_ _=>False }
structure IJ (h:Heap) (cs:List (Str×Addr)):Prop where
 inj:∀x y c,cs.lookup x=some c->cs.lookup y=some c->x=y
 cell:∀x c,cs.lookup x=some c->∃v,h.IsCell c v
theorem jq{n:AJ}{a:α}{l:O (AJ×α)}(h:x≠n):((n,a)::l).lookup x=l.lookup x:=by
 rw[yo,beq_eq_false_iff_ne.mpr h]
theorem W5:∀(i:O (AJ×NameKind)) (h:A6) (d:O (AJ×A1)),IJ h d->IJ (pushCells h i) (cellsFrom h.objs.size i d)
 |[],_,_,x=>x
 |(n,k)::r,h,d,x=>by
  unfold pushCells cellsFrom;split
  ·have g:∀y c,d.lookup y=Z c->c≠h.objs.size:=λy c e=>let ⟨_,q⟩:=x.cell y c e;zI q.lt;have:=W5 r (h.push { cls:=.type "cell",data:=.cell Y3 }) ((n,h.objs.size)::d) ⟨λy z c e1 e2=>?_,λy c e=>?_⟩
   ·rwa [qk]at this
   ·by_cases a:y=n<;>by_cases f:z=n
    ·rw[a,f]
    ·subst a;rw[kP]at e1;rw[jq f]at e2;cases e1;exact absurd S (g _ _ e2)
    ·subst f;rw[kP]at e2;rw[jq a]at e1;cases e2;exact absurd S (g _ _ e1)
    ·rw[jq a]at e1;rw[jq f]at e2;exact x.inj y z c e1 e2
   ·by_cases a:y=n
    ·subst a;rw[kP]at e;cases e;exact⟨Y3,_,zl _ rfl,rfl⟩
    ·rw[jq a]at e;obtain⟨v,q⟩:=x.cell y c e;exact⟨v,q.keeps λb o e=>zd _ e⟩
  ·exact W5 r h d x
theorem tM:∀(b:O (AJ×NameKind)) (n:Nat) (a:O (AJ×A1)) (x:AJ) (c:A1),(cellsFrom n b a).lookup x=Z c->a.lookup x=Z c\/n<=c
 |[],_,_,_,_,e=>.inl e
 |(m,k)::r,n,a,x,c,e=>by
  unfold cellsFrom at e;split at e
  ·rcases tM r _ _ x c e with h|h
   ·by_cases hx:x=m
    ·subst hx;rw[kP]at h;cases h;exact .inr (zi _)
    ·rw[jq hx]at h;exact .inl h
   ·exact .inr ()
  ·exact tM r _ _ x c e
theorem Jb:∀(c:O (AJ×NameKind)) (n:Nat) (a:O (AJ×A1)) (x:AJ),(x,NameKind.cell)∉c->(cellsFrom n c a).lookup x=a.lookup x
 |[],_,_,_,_=>rfl
 |(m,k)::r,n,a,x,h=>by
  unfold cellsFrom;have b:(x,NameKind.cell)∉r:=λz=>h (zh _ z);split
  ·rename_i hk;rw[Jb r _ _ x b,jq λz=>h (by rw[z,<-beq_iff_eq.mp hk];exact zg ..)]
  ·exact Jb r _ _ x b
theorem Pa:∀(b:O (AJ×NameKind)) (n:Nat) (a:O (AJ×A1)) (x:AJ),((x,NameKind.cell)∈b\/∃c,a.lookup x=Z c)->∃c,(cellsFrom n b a).lookup x=Z c
 |[],_,_,_,h=>h.elim (λz=>by simp at z) λz=>z
 |(m,k)::r,n,a,x,h=>by
  unfold cellsFrom;split
  ·refine Pa r _ _ x ?_;by_cases hx:x=m
   ·exact .inr ⟨n,by rw[hx,kP]⟩
   ·rw[jq hx];exact h.imp_left λz=>(List.mem_cons.mp z).elim (λz=>absurd (congrArg Prod.fst z) hx) λz=>z
  ·rename_i hk;exact Pa r _ _ x (h.imp_left λz=>(List.mem_cons.mp z).elim (λz=>by cases z;exact absurd S hk) λz=>z)
theorem Gy{g:A1}{Q:Env->A2->Prop}(h:Q (newEnv scope s.heap.objs.size g (cellsFrom (s.heap.objs.size+1) scope.names cl) qual Y3 .none (Z env) builtinsNs) { s with heap:=pushCells (s.heap.push { cls:=.type "dict",data:=.dict #[] }) scope.names }):
  A7 M A (newFunctionEnv scope g cl [] qual Y3 .none (Z env)) Q E s:=by
 simp only[newFunctionEnv,eW,jS];refine zb (wpAny_alloc ?_);refine zb (wpAny_layCells _ (λname a b=>by cases a==NameKind.cell<;>simp) _ _ _ _ ?_);rw[show({ s with heap:=s.heap.push { cls:=.type "dict",data:=.dict #[] } }:A2).heap.objs.size=s.heap.objs.size+1 from qk ..];rw[List.forIn_nil];exact zb (ze (ze h))
structure oX (X:Cx) (scope:Scope) (cl:List (Str×Addr)) (xs:Ap) (is:List Nat):Prop where
 clos:closureFor scope X.env=pure cl
 kind:scope.kind=.function
 cell:∀y∈scope.names,y.2=.cell->cl.lookup y.1=none
 names:∀y∈scope.names,y.2=.local->scope.names.lookup y.1=some .local
 sub:C3 X.env.cells cl
 has:∀x,((relabel scope X.env).names.lookup x=some .cell\/(relabel scope X.env).names.lookup x=some .free)->(x,NameKind.cell)∈scope.names\/∃c,cl.lookup x=some c
 cap:Fp X scope cl xs is
def nH(is:O Nat)(σ:L2.St):L2.St:=is.map λi=>(σ[i]?).bind λv=>v
def iu(is:O Nat)(ρ:Ev):Ev:=is.map λi=>yD ρ i
def V4(n m:Nat)(g:Dt->Ev->Y Ev):Prop:=∀d ρ a,g d ρ=Z a->a.length=ρ.length/\∀j,j<n\/m<=j->a[j]?=ρ[j]?
def FS(n m:Nat)(g:O Dt->Ev->Y Ev):Prop:=∀d ρ a,g d ρ=Z a->a.length=ρ.length/\∀j,j<n\/m<=j->a[j]?=ρ[j]?
theorem bR(h:n<=i:=by decide)(h':i<m:=by decide):V4 n m (λd ρ=>Z (ρ.set i (Z (.z d)))):=λd ρ b e=>by
 cases e;exact⟨by rw[QE],λj a=>pA _ ()⟩
theorem ac:FS n m WY:=λd ρ a e=>by
 cases d with
 |nil=>cases e;exact⟨rfl,λ_ _=>S⟩
 |cons=>cases e
theorem Lb{g:Dt->Ev->Y Ev}{gs:O Dt->Ev->Y Ev}(h:V4 n m g)(hs:FS n m gs):FS n m (yF g gs):=λd ρ o e=>by
 cases d with
 |nil=>cases e
 |cons d ds=>
  simp only[yF]at e;obtain⟨l,e1,e⟩:=AV e;obtain⟨a,b⟩:=h _ _ _ e1;obtain⟨i,f⟩:=hs _ _ _ e;exact⟨i.trans a,λj c=>(f j c).trans (b j c)⟩
theorem SV{k:Nat}{gs:O Dt->Ev->Y Ev}(hs:FS n m gs):V4 n m (K9 k gs):=λd ρ a e=>by
 cases d with
 |tup ds=>
  simp only[K9]at e;split at e
  ·exact hs _ _ _ e
  ·cases e
 |_=>cases e
def uz(gt:Dt->Ev->Y Ev)(p:Ev->Y Bool)(fs:Ev->Y (O Dt))(ρ:Ev):O Dt->Y (O Dt)
 |[]=>Z []
 |d::ds=>(gt d ρ).bind λa=>(p a).bind λk=>if k=true then(fs a).bind λys=>(uz gt p fs ρ ds).bind λzs=>Z (ys++zs)else uz gt p fs ρ ds
def Hc:Bx->Y (O Dt)
 |.z y=>Z [y]
 |_=>Y3
def Ce(gt:Dt->Ev->Y Ev)(p:Ev->Y Bool)(fe:Ev->Y Bx)(ρ:Ev):O Dt->Y (O Dt):=uz gt p (λρ=>(fe ρ).bind Hc) ρ
theorem yH{b:Bx}{ys:O Dt}(h:Hc b=Z ys):∃y,b=.z y/\ys=[y]:=by
 cases b<;>cases h;exact⟨_,rfl,rfl⟩
theorem yI{gt:Dt->Ev->Y Ev}{p:Ev->Y Bool}{fe:Ev->Y Bx}{ρ:Ev}:∀{ds out:O Dt},Ce gt p fe ρ ds=Z out->out.length<=ds.length
 |[],_,e=>by cases e;exact zi _
 |d::ds,out,e=>by
  simp only[Ce,uz]at e;obtain⟨f,_,e⟩:=AV e;obtain⟨k,_,e⟩:=AV e;cases k with
  |false=>
   rw[zS zC]at e;exact zv (yI (gt:=gt) (p:=p) (fe:=fe) e) (by simp)
  |true=>
   rw[zo rfl]at e;obtain⟨ys,a,e⟩:=AV e;obtain⟨zs,c,e⟩:=AV e;obtain⟨b,_,a⟩:=AV a;obtain⟨y,_,rfl⟩:=yH a;cases e;simpa using yI (gt:=gt) (p:=p) (fe:=fe) c
def C5(X:Cx)(ifs:O Expr)(p:Ev->Y Bool):Prop:=(ifs=[]/\p=λ_=>Z true)\/∃c,ifs=[c]/\PB X c p
structure uZ (X:Cx) (ifs:List Expr) (p:Ev->Option Bool):Prop where
 run:C5 X ifs p
section
variable{xs:Ap}{gt:Dt->Ev->Y Ev}{p:Ev->Y Bool}{fe:Ev->Y Bx}{fi:Ev->Y (O Dt)}
theorem Ld{p:Hp}{d:A2}(a:L2.AW X AN σ p d)(O:oX X scope cl xs is)(A:∀b∈fp,lO X AN p b)(D:∀b∈fp,b<d.heap.objs.size):
  L2.AW (tL X (xs++ts) scope cl d.heap.objs.size d p fp) [] (nH is σ++ab ts.length Y3) p { d with heap:=pushCells (d.heap.push { cls:=.type "dict",data:=.dict #[] }) scope.names }:=by
 obtain⟨hl,I⟩:=O.cap.get;have m:=O.sub;have W:(d.heap.push { cls:=.type "dict",data:=.dict #[] }).objs.size=d.heap.objs.size+1:=qk ..;have hk:∀b o,d.heap.get? b=Z o->(pushCells (d.heap.push { cls:=.type "dict",data:=.dict #[] }) scope.names).get? b=Z o:=λb o e=>pushCells_keeps _ _ b o (zd _ e);have C:IJ (pushCells (d.heap.push { cls:=.type "dict",data:=.dict #[] }) scope.names) (cellsFrom (d.heap.objs.size+1) scope.names cl):=by
  rw[<-W];refine W5 _ _ _ ⟨λx y c e1 e2=>a.ok.inj x y c (m.get e1) (m.get e2),λx c e=>?_⟩;obtain⟨v,q⟩:=a.cell x c (m.get e);exact⟨v,q.keeps λb o e=>zd _ e⟩
 have E:∀x c,(cellsFrom (d.heap.objs.size+1) scope.names cl).lookup x=Z c->X.env.cells.lookup x=Z c\/d.heap.objs.size<c:=λx c e=>(tM _ _ _ x c e).imp_left m.get;refine⟨⟨a.ok.mod,O.kind,a.ok.glob,a.ok.blt,zi _,C.inj,λx hx=>Pa _ _ _ x (O.has x hx),λx c hx e=>?_,a.ok.hd,a.ok.frames,.inl rfl,λb f=>⟨zI (D b f),λx c e=>?_⟩,a.bs,zv a.ok.Z6 a.sz,λb o e f=>?_,λb f K=>?_,a.stack,a.Ig,a.ok.tabs.go a.base.uT⟩,
  rfl,a.bare,Un.kept hk,⟨_,(Heap.Ns.new d.heap (.type "dict")).keeps (pushCells_keeps _ _),λj x v e1 e2 _=>?_⟩,C.cell,a.hok.fresh (zi _),λx c e=>(E x c e).elim (a.mU x c) λh=>a.hok.fresh (QO h),λq M=>absurd (show q∈([]:List (A1×AE)) from M) (by simp),a.hok.kept hk,?_⟩
 ·refine(tM _ _ _ x c e).elim (λh=>?_) λh=>QO h;have hx:(x,NameKind.cell)∈scope.names:=by
   have hx:GS scope.names x=true:=hx;unfold GS at hx;split at hx
   ·rename_i q;exact mem_of_lookup q
   ·cases hx
  rw[O.cell _ hx rfl]at h;cases h
 ·rcases E x c e with h|h
  ·exact(A b f).2.2.2.2.1 x c h
  ·exact kB (gg (D b f) h)
 ·obtain⟨_,_,_,z,_⟩:=A b f;rcases z with z|z
  ·exact a.ok.V9 b o e z
  ·exact absurd (Zl (zw e) (zv a.ok.Z6 z)) (JU _)
 ·obtain⟨_,L,Q,_⟩:=A b f;rcases List.mem_cons.mp (a.Br b K)with z|z
  ·exact L z
  ·exact Q z
 ·have B:j<is.length:=by
   by_cases B:j<is.length
   ·exact B
   ·rw[QU (by simp[nH];omega)]at e2;rw[jI]at e2;split at e2<;>cases e2
  have U:xs[j]?=Z x:=by
   have e1:(xs++ts)[j]?=Z x:=e1;rw[qi ()]at e1;exact e1
  obtain⟨i,H,g⟩:=I j x U;have e3:σ[i]?=Z (Z v):=by
   rw[qi (by simp[nH];omega)]at e2;unfold nH at e2;rw[z5,H]at e2;cases q:σ[i]? with
   |none=>rw[Kb,q]at e2;cases e2
   |some o=>
    rw[Kb,q]at e2;have:o=Z v:=by simpa using e2
    rw[this]
  have G:Ov X.env.scope x:=by
   rcases g.k with k|k
   ·exact .inr (.inl k)
   ·exact .inr (.inr k)
  obtain⟨m',a3,F⟩:=a.loc;obtain⟨u,r,l⟩:=F i x v g.n e3 G;refine⟨u,r,?_⟩;rcases l with⟨k,_⟩|⟨k,c,J,P⟩
  ·rcases g.k with w|w<;>(rw[k]at w;cases w)
  ·obtain⟨c',s⟩:=g.c;have:=m.get s;rw[J]at this;cases this;refine .inr ⟨g.k',c,(Jb _ _ _ x λz=>by rw[O.cell _ z rfl]at s;cases s).trans s,?_⟩;obtain⟨o,N,hd⟩:=P;exact⟨o,hk c o N,hd⟩
 ·show(nH is σ++ab ts.length Y3).length=(xs++ts).length;simp[nH,hl]
theorem aY.caps{ρ:Ev}(E:aY K H0 H σ ρ)(is:O Nat)(n:Nat):aY K H H (nH is σ++ab n Y3) (iu is ρ++ab n Y3):=by
 have f:∀(j:Nat) c,(iu is ρ++ab n Y3)[j]?=Z (Z c)->qZ c=false:=λj c e=>by
  by_cases g:j<is.length
  ·rw[qi (by simp[iu];omega)]at e;unfold iu at e;rw[z5]at e;cases q:is[j]? with
   |none=>rw[q]at e;cases e
   |some i=>
    rw[q]at e;have:yD ρ i=Z c:=by simpa using e
    exact vZ this
  ·rw[QU (by simp[iu];omega),jI]at e;split at e<;>cases e
 refine⟨by simp[nH,iu],λj b e=>?_,λj k c a b e d=>absurd d (by rw[f j c e];exact zC),AX.refl H,λj c a e d=>absurd d (by rw[f j c e];exact zC)⟩;by_cases g:j<is.length
 ·rw[qi (by simp[iu];omega)]at e;rw[qi (by simp[nH];omega)];unfold iu at e;unfold nH;rw[z5]at e ⊢;cases q:is[j]? with
  |none=>rw[q]at e;cases e
  |some i=>
   rw[q]at e;have:yD ρ i=Z b:=by simpa using e
   obtain⟨v,e1,r⟩:=K5 E this;exact⟨v,by simp[e1],r⟩
 ·rw[QU (by simp[iu];omega),jI]at e;split at e<;>cases e
theorem aY.forget{ρ ρ':Ev}(E:aY K H0 H σ ρ')(f:ρ'.length=ρ.length)(h:∀(j:Nat) b,ρ[j]?=Z (Z b)->ρ'[j]?=Z (Z b)):aY K H0 H σ ρ:=
 ⟨E.len.trans f,λj b e=>E.val j b (h j b e),λi j c a b e1 d e2 e3 l g=>E.own i j c a b (h _ _ e1) d e2 (h _ _ e3) l g,E.base,λi c a e1 d e2=>E.new i c a (h _ _ e1) d e2⟩
structure D6 (Hb:Hp) (σ:L2.St) (ρ:Ev) (n:Nat):Prop where
 own:∀(j:Nat) c,ρ[j]?=some (some c)->qZ c=false
 lt:∀(j:Nat) b,ρ[j]?=some (some b)->j<n
 old:∀(j:Nat) c a,ρ[j]?=some (some c)->loose c=true->σ[j]?=some (some (.ref a))->Hb a≠none
def Fx(σ σ':L2.St)(ρ:Ev):Prop:=∀(j:Nat) c,loose c=true->ρ[j]?=Z (Z c)->σ'[j]?=σ[j]?
theorem D6.fx{σ':L2.St}{ρ:Ev}(P:D6 Hb σ ρ n)(f:Fx σ σ' ρ):D6 Hb σ' ρ n:=⟨P.own,P.lt,λj c a e b ea=>P.old j c a e b (by rw[<-f j c b e];exact ea)⟩
theorem Cb{ρ:Ev}(E:aY K H0 H σ ρ)(j:Nat)(c:Bx)(a:A1)(e:ρ[j]?=Z (Z c))(h:loose c=true)(ea:σ[j]?=Z (Z (.ref a))):H a≠Y3:=λz=>by
 obtain⟨v,e1,b⟩:=E.val j _ e;rw[ea]at e1;cases e1;cases c with
 |z d=>cases h
 |l g=>
  obtain⟨f,vs,e2,q,_⟩:=b;cases e2;rcases q with q|⟨o,q⟩<;>(rw[z]at q;cases q)
 |n g=>
  obtain⟨f,vs,e2,q,_⟩:=b;cases e2;rcases q with q|⟨o,q⟩<;>(rw[z]at q;cases q)
 |o g=>
  obtain⟨f,vs,e2,q,_⟩:=b;cases e2;rw[z]at q;cases q
 |m g _=>
  obtain⟨f,vs,e2,q,_⟩:=b;cases e2;rw[z]at q;cases q
theorem aY.grown{ρ:Ev}(E:aY K Hb H σ ρ)(P:D6 Hb σ ρ n)(h:Hb D=Y3)(kp:Kp H (B1 H D o)):aY K Hb (B1 H D o) σ ρ:=by
 refine⟨E.len,λj b e=>?_,λj k c a b e g=>absurd g (by rw[P.own j c e];exact zC),λc o e=>?_,λj c a e g=>absurd g (by rw[P.own j c e];exact zC)⟩
 ·obtain⟨v,ev,p⟩:=E.val j b e;refine⟨v,ev,?_⟩;cases b with
  |z d=>exact AY.kp kp p
  |o i=>have:=P.own j _ e;cases this
  |m i _=>have:=P.own j _ e;cases this
  |n i=>
   obtain⟨a,vs,rfl,q,s⟩:=p;refine⟨a,vs,rfl,?_,s.kp kp⟩;have f:a≠D:=λz=>P.old j _ _ e S ev (by rw[z];exact h);exact q.imp (λq=>by rw[aF f];exact q) λ⟨o,q⟩=>⟨o,by rw[aF f];exact q⟩
  |l i=>
   obtain⟨a,vs,rfl,q,s⟩:=p;refine⟨a,vs,rfl,?_,s.kp kp⟩;have f:a≠D:=λz=>P.old j _ _ e S ev (by rw[z];exact h);exact q.imp (λq=>by rw[aF f];exact q) λ⟨o,q⟩=>⟨o,by rw[aF f];exact q⟩
 ·rw[aF (bQ e h)];exact E.base c o e
def Lf(X:Cx)(el:A1->Env->Sem Unit)(fs:Ev->Y (O Dt))(Ac:A1->Hp->O Dt->HO->Prop)(N n:Nat):Prop:=∀(AN:O (A1×AE)) (s:A2) (σ:L2.St) (H Hb:Hp) (ρ:Ev) (D:A1) (o:HO) (a ys:O Dt),L2.AW X AN σ H s->aY X.K Hb H σ ρ->D6 Hb σ ρ n->Hb D=Y3->fs ρ=Z ys->H D=Z o->Ac D H a o->a.length+ys.length<=N →
 A7 (bn X) X.A (el D X.env) (λ_ s'=>∃ σ' H' o',L2.AW X AN σ' H' s'/\aY X.K Hb H' σ' ρ/\Fx σ σ' ρ/\H' D=Z o'/\Ac D H' (a++ys) o') X.xe s
theorem W6{fs:Ev->Y (O Dt)}{Ac:A1->Hp->O Dt->HO->Prop}{N:Nat}(h:∀(AN:O (A1×AE)) (s:A2) (σ:L2.St) (H Hb:Hp) (ρ:Ev) (D:A1) (o:HO) (b ys:O Dt),L2.AW X AN σ H s->aY X.K Hb H σ ρ->fs ρ=Z ys->H D=Z o->Ac D H b o->b.length+ys.length<=N →
  A7 (bn X) X.A (el D X.env) (λ_ s'=>∃a o',L2.AW X AN σ (B1 a D o') s'/\AX H a/\Kp a (B1 a D o')/\Ac D (B1 a D o') (b++ys) o') X.xe s):Lf X el fs Ac N n:=λAN s σ H Hb ρ D o b ys I E P c e1 e2 a1 l=>by
 refine ZU (h AN s σ H Hb ρ D o b ys I E e1 e2 a1 l) (λ_ s' ⟨a,o',I',s9,kp,a'⟩=>?_) λ_ _ z=>z;exact⟨σ,_,o',I',(E.grow s9).grown P c kp,λ_ _ _ _=>S,aJ,a'⟩
structure RG (B:Around->Bool->Prop) (P:Program) (w:World) (K:B5) (tg:Expr) (J:It) (fp:List Addr) (it:Addr) (tn:Nat->Heap->Prop):Prop where
 obj:∀i h,tn i h->∀b∈fp,∃o,h.get? b=some o/\∀v,o.data≠.cell v
 keep:∀i h h',tn i h->(∀b∈fp,∀o,h.get? b=some o->h'.get? b=some o)->tn i h'
 item:∀(X:Cx),X.prog=P->X.w=w->X.K=K->B X.A X.calm->∀(i:Nat) (AN:List (Addr×Obj)) (s:Shared) (σ:L2.St) (H:Hp) (E:BC),L2.AW X AN σ H s->(∀b∈fp,lO X AN H b)->tn i s.heap->J.go i H →
  wpAny (model P w) X.A (pyNext (.ref it)) (λr s1=>∃u,r=some u ∧
   wpAny (model P w) X.A (letOwnedTupleGo tg (.ref it) u) (λ_ s2=>∃x H',L2.AW X AN σ H' s2/\At x u/\J.yld i H x H'/\tn (i+1) s2.heap/\∀b∈fp,H' b=none) E s1) E s
 done:∀(X:Cx),X.prog=P->X.w=w->X.K=K->B X.A X.calm->∀(i:Nat) (AN:List (Addr×Obj)) (s:Shared) (σ:L2.St) (H:Hp) (E:BC),L2.AW X AN σ H s->(∀b∈fp,lO X AN H b)->tn i s.heap->J.stop i H →
  wpAny (model P w) X.A (pyNext (.ref it)) (λr s1=>r=none/\L2.AW X AN σ H s1) E s
 self:∀(A:Around) (i:Nat) (s:Shared) (Q:BC) (E:BC),tn i s.heap->Q (.ref it) s->wpAny (model P w) A (pyIter (.ref it)) Q E s
abbrev zx:A5->Bool->Prop:=λ_ c=>c=true
theorem Cg(T:C2 P w K tg J fp it tn):RG zx P w K tg J fp it tn:=⟨T.obj,T.keep,T.item,T.done,T.self⟩
theorem Gz{d:Nat}{e8:Pos}{Ac:A1->Hp->O Dt->HO->Prop}{fs:Ev->Option (O Dt)}{N:Nat}{ds o0 out:O Dt}{ρ:Ev}{R:Result->A2->Prop}(c3:B X.A X.calm)(hx:X.xe=λ_ _=>False)(Fe:EU X tgt gt)(e0:C5 X ifs p)(d0:Lf X el fs Ac N m)(c8:V4 n m gt)(d1:n<=m)(I:L2.AW X AN σ H s)(E:aY X.K Hb H σ ρ)(P:D6 Hb σ ρ n)(hD:Hb D=Y3)(d4:H D=Z o)(hA:Ac D H o0 o)(T:RG B X.prog X.w X.K tgt J fp it tn)(st:tn 0 s.heap)(hf:∀b∈fp,lO X AN H b)(Y:B4 X.K J ds Hb)(d6:uz gt p fs ρ ds=Z out)(hN:o0.length+out.length<=N)(b3:∀{D:A1} {H H':Hp} {q:O Dt} {o:HO},Kp H H'->Ac D H q o->Ac D H' q o)(f1:∀(it:A0) (D:A1) (env:Env),compTurn comp d it (.ref D) env=(standAt e8 >>= λ_=>pyNext it >>= λr=>match r with
   |none=>pure (.done .next)
   |some v=>letOwnedTupleGo tgt it v >>= λ_=>assign tgt env v >>= λ_=>(forIn ifs true λc r=>if r=true then isTrue c env (eval c env) >>= λok=>pure (ForInStep.yield ok)else pure (ForInStep.yield r)) >>= λok=>if ok=true then el D env >>= λ_=>again (.compLoop comp d it (.ref D) env)else again (.compLoop comp d it (.ref D) env)))(e3:∀{it b0:A0} {env:Env} {Q:Fin->A2->Prop} {E:BC} {s:A2},A7 (bn X) X.A ((compTurn comp d it b0 env).onRaise (λx=>noteFrame x env >>= λ_=>theTreesLotGoes x)) Q E s->A7 (bn X) (X.A.under (.compLoop comp d it b0 env)) ((bn X).den (.compLoop comp d it b0 env)) Q E s)(hR:∀s' σ' H' o',L2.AW X AN σ' H' s'->aY X.K Hb H' σ' ρ->Fx σ σ' ρ->H' D=Z o'->Ac D H' (o0++out) o'->R (.ok .next) s'):
  AF (bn X) X.A (.compLoop comp d (.ref it) (.ref D) X.env) R s:=by
 have W7:∀{H':Hp},(∀b∈fp,H' b=Y3)->∀b∈fp,lO X AN H' b:=λ{H'} hn b C=>⟨hn b C,(hf b C).2⟩;refine codeAny_loop S (λk s'=>∃(i:Nat) (σ':L2.St) (H':Hp) (q o2:O Dt) (o:HO),k=ds.length-i/\i<=ds.length/\L2.AW X AN σ' H' s'/\tn i s'.heap/\(∀b∈fp,H' b=Y3)/\aY X.K Hb H' σ' ρ/\Fx σ σ' ρ/\H' D=Z o/\Ac D H' q o/\uz gt p fs ρ (ds.drop i)=Z o2/\q++o2=o0++out) ?_ ds.length
  ⟨0,σ,H,o0,out,o,by simp,qc _,I,st,λb C=>(hf b C).1,E,λ_ _ _ _=>S,d4,hA,by simpa using d6,rfl⟩
 rintro k s4 ⟨i,a6,H4,q,o2,o,rfl,hi,I4,c4,b6,E4,F4,W,r4,g,ho⟩;have P4:=P.fx F4;refine e3 (wpAny_noted ?_);rw[f1];obtain⟨y1,y2⟩:=Y i H4 E4.base;by_cases a7:i<ds.length
 ·have hd:ds[i]?=Z ds[i]:=by simp[a7]
  obtain⟨go,yl⟩:=y1 _ hd;rw[yb a7]at g;simp only[uz]at g;obtain⟨y,e1,g⟩:=AV g;obtain⟨k,ek,g⟩:=AV g;obtain⟨f3,b4⟩:=c8 _ _ _ e1;have b5:∀{a4:L2.St} {H5:Hp},aY X.K Hb H5 a4 y->aY X.K Hb H5 a4 ρ:=λE5=>E5.forget f3 λj b e=>by rw[b4 j (.inl (P.lt j b e))];exact e
  refine zb (QY (zb ?_));refine fB (T.item X S S S c3 i AN s4 a6 H4 _ I4 (W7 b6) c4 go) λr s5 ⟨u,hr,h5⟩=>?_;subst hr;refine zb (fB h5 λ_ s6 ⟨x,H6,I6,r6,y6,D0,fr6⟩=>?_);obtain⟨sm,rx⟩:=yl x H6 y6;have E4:=E4.grow sm;have W:=sm _ _ W;have r4:=b3 (.of sm) r4;have e9:=I6.pinned (W7 fr6) (T.obj _ _ D0);have ha:=Fe _ s6 a6 H6 x u (λσ' H'=>H'=H6/\aY X.K Hb H6 σ' y/\Lo a6 ρ σ' y) e9 r6 ⟨Hb,ρ,ds[i],y,E4,rx,e1,λσ' E' L'=>⟨rfl,E',L'⟩⟩;rw[hx]at ha;refine zb (ZU ha (λ_ s7 h7=>?_) λ_ _ z=>z.elim);obtain⟨M,H7,I7,rfl,E7,L7⟩:=h7;have P7:D6 Hb M y m:=by
   refine⟨λj c e=>?_,λj c e=>?_,λj c a e F ea=>?_⟩
   ·cases c with
    |o ds=>exact P.own j _ (L7 j _ S e).1
    |m ds _=>exact P.own j _ (L7 j _ S e).1
    |_=>rfl
   ·refine Nat.lt_of_not_le λh=>?_;rw[b4 j (.inr h)]at e;exact absurd (Zl (P.lt j c e) d1) (fW.mpr h)
   ·obtain⟨e',ee⟩:=L7 j c F e;exact P4.old j c a e' F (by rw[<-ee];exact ea)
  have c5:∀{a4:L2.St},Fx M a4 y->Fx σ a4 ρ:=λf j c F e=>by
   have e':y[j]?=Z (Z c):=by rw[b4 j (.inl (P.lt j c e))];exact e
   exact(f j c F e').trans ((L7 j c F e').2.trans (F4 j c F e))
  have ht:A7 (bn X) X.A (forIn ifs true λc r=>if r=true then do let ok <-isTrue c X.env (eval c X.env);pure (ForInStep.yield ok)else pure (ForInStep.yield r))
    (λok U=>ok=k/\∃l,L2.AW X (AN++rC fp s6.heap) M l U/\AX H7 l) (notedBy (bn X) X.A X.env λe s'=>R (.error e) s') s7:=by
   rcases e0 with⟨rfl,rfl⟩|⟨c,rfl,hc⟩
   ·cases ek;exact wpAny_tests_nil ⟨rfl,H7,I7,AX.refl H7⟩
   ·refine wpAny_tests_one ?_;have:=hc _ s7 M H7 (λb l=>b=k/\AX H7 l) I7 ⟨Hb,y,k,E7,ek,λl U=>⟨rfl,U⟩⟩;rw[hx]at this;exact ZU this (λb U ⟨l,I8,eb,s8'⟩=>⟨eb,l,I8,s8'⟩) λ_ _ z=>z.elim
  refine zb (ZU ht (λok U h8=>?_) λ_ _ z=>z);obtain⟨rfl,l,I8,G⟩:=h8;have Ci:∀{a3:L2.St} {L:Hp} {s9:A2},L2.AW X (AN++rC fp s6.heap) a3 L s9->L2.AW X AN a3 L s9/\tn (i+1) s9.heap/\∀b∈fp,L b=Y3:=λ{a3 L s9} I9=>by
   refine⟨I9.mX,T.keep _ _ _ D0 λb C o e=>(I9.pin (b,o) (zz _ (zz _ (jY C e)))).1,λb C=>?_⟩;obtain⟨o,e,d⟩:=T.obj _ _ D0 b C;exact(I9.pin (b,o) (zz _ (zz _ (jY C e)))).2.1
  cases ok with
  |false=>
   rw[zS zC]at g;obtain⟨I9,f0,d3⟩:=Ci I8;exact ze ⟨rfl,ds.length-(i+1),by omega,i+1,M,l,q,o2,o,rfl,a7,I9,f0,d3,b5 (E7.grow G),c5 (λ_ _ _ _=>S),G _ _ W,b3 (.of G) r4,g,ho⟩
  |true=>
   rw[zo rfl]at g;obtain⟨ys,eb,g⟩:=AV g;obtain⟨zs,e5,g⟩:=AV g;cases g;have F:=congrArg dv ho;simp only[ZA]at F;have he:=d0 _ U M l Hb y D o q ys I8 (E7.grow G) P7 hD eb (G _ _ W) (b3 (.of G) r4) ();rw[hx]at he;refine zb (ZU he (λ_ f4 e7=>?_) λ_ _ z=>z.elim);obtain⟨a3,L,o',d5,E9,F9,e6,a5⟩:=e7;obtain⟨f2,e2,d2⟩:=Ci d5;exact ze ⟨rfl,ds.length-(i+1),by omega,i+1,a3,L,q++ys,zs,o',rfl,a7,f2,e2,d2,b5 E9,c5 F9,e6,a5,e5,by rw[Jn];exact ho⟩
 ·have c0:ds.length<=i:=by omega
  rw[dP c0]at g;cases g;refine zb (QY (zb ?_));refine fB (T.done X S S S c3 i AN s4 a6 H4 _ I4 (W7 b6) c4 (y2 c0)) λr s5 ⟨hr,I5⟩=>?_;subst hr;rw[kD]at ho;exact ze (hR s5 a6 H4 o I5 E4 F4 W (by rw[<-ho];exact r4))
theorem GC{R:Result->A2->Prop}{d:Nat}{f:Expr}{it a:A0}(g:(clausesOf e)[d]?=Z ⟨f,iter,ifs,0⟩)(hd:∀{Q:Fin->A2->Prop} {E:BC},A7 (A8 prog w) A ((compStart e d it a env).onRaise (λx=>do noteFrame x env;standAt theWindowsPlace)) Q E s->A7 (A8 prog w) (A.under (.compStart e d it a env)) ((A8 prog w).den (.compStart e d it a env)) Q E s)(c:Code.quiet (.compLoop e d it a env)=true:=by rfl)(h0:AF (A8 prog w) A (.compLoop e d it a env) R s)(h:A7 (A8 prog w) A (pyIter it) (λb s'=>AF (A8 prog w) A (.compLoop e d b a env) R s') (notedBy (A8 prog w) A env λx s'=>R (.error x) s') s):
  AF (A8 prog w) A (.compStart e d it a env) R s:=by
 refine codeAny_of_tree (hd ?_);refine wpAny_notedAt ?_;unfold compStart;rw[g];show A7 _ _ (ask >>= _) _ _ s;refine zb (yn (wpAny_ite ?_));split
 ·exact ze (And.intro c h0)
 ·refine zb (ke ?_);show A7 _ _ (standAt iter.pos >>= _) _ _ s;exact zb (QY (zb (ZU h (λb s' h'=>ze (And.intro c h')) λ_ _ x=>x)))
def pG(H:Hp)(D:A1):Hp:=λb=>if b=D then Y3 else H b
theorem jE{b:A1}(h:b≠D):pG H D b=H b:=zS h
theorem pZ:AX (pG H D) H:=λb o e=>by
 by_cases h:b=D
 ·rw[pG,zo h]at e;cases e
 ·rw[jE h]at e;exact e
theorem aY.onto{b:Hp}{ρ:Ev}(E:aY K Hb H σ ρ)(P:∀(j:Nat) c,ρ[j]?=Z (Z c)->qZ c=false)(s:AX b H):aY K b H σ ρ:=
 ⟨E.len,E.val,E.own,s,λj c a e d=>absurd d (by rw[P j c e];exact zC)⟩
def Ct(fi:Ev->Y (O Dt))(gt:Dt->Ev->Y Ev)(p:Ev->Y Bool)(fs:Ev->Y (O Dt)):Ev->Y (O Dt):=λρ=>(fi ρ).bind λds=>uz gt p fs ρ ds
theorem Lg{d:Nat}{Ac:A1->Hp->O Dt->HO->Prop}{fs:Ev->Option (O Dt)}{N:Nat}(b0:X.calm=true)(hx:X.xe=λ_ _=>False)(hi:Lm X tgt iter fi)(Fe:EU X tgt gt)(b5:C5 X ifs p)(a5:Lf X el fs Ac N m)(a4:V4 n m gt)(a7:n<=m)(F:∀{D:A1} {H H':Hp} {g:O Dt} {o:HO},Kp H H'->Ac D H g o->Ac D H' g o)(U:∀{D:A1} {H:Hp} {g:O Dt} {o:HO},Ac D H g o->(∀M u,o≠.jo M u)/\∀vs,o≠.tup vs)(hs:∀x,foldedSetIterable iter X.env x=pure x)(b4:∀(it:A0) (D:A1) (env:Env),compTurn comp d it (.ref D) env=(standAt iter.pos >>= λ_=>pyNext it >>= λr=>match r with
   |none=>pure (.done .next)
   |some v=>letOwnedTupleGo tgt it v >>= λ_=>assign tgt env v >>= λ_=>(forIn ifs true λc r=>if r=true then isTrue c env (eval c env) >>= λok=>pure (ForInStep.yield ok)else pure (ForInStep.yield r)) >>= λok=>if ok=true then el D env >>= λ_=>again (.compLoop comp d it (.ref D) env)else again (.compLoop comp d it (.ref D) env)))(c0:∀{it f:A0} {env:Env} {R:Result->A2->Prop} {s:A2},AF (bn X) X.A (.compLoop comp d it f env) R s->A7 (bn X) X.A (pyIter it) (λb3 s'=>AF (bn X) X.A (.compLoop comp d b3 f env) R s') (notedBy (bn X) X.A env λx s'=>R (.error x) s') s->AF (bn X) X.A (.compStart comp d it f env) R s)(a6:∀{it f:A0} {env:Env} {Q:Fin->A2->Prop} {E:BC} {s:A2},A7 (bn X) X.A ((compTurn comp d it f env).onRaise (λx=>noteFrame x env >>= λ_=>theTreesLotGoes x)) Q E s->A7 (bn X) (X.A.under (.compLoop comp d it f env)) ((bn X).den (.compLoop comp d it f env)) Q E s):
  Lf X (λD env=>do let x <-eval iter env;standAt iter.pos;let x <-foldedSetIterable iter env x;let _ <-runOwn (.compStart comp d (<-holding [x] (pyIter x)) (.ref D) env) env) (Ct fi gt p fs) Ac N n:=by
 intro AN s σ H Hb ρ D o g ys I E P hD e G q C;obtain⟨ds,ed,e⟩:=AV e;refine zb (ZU (hi AN s σ H (λJ H'=>AX H H'/\∀Hs,AX Hs H'->(∀a,H a=Y3->Hs a=H' a)->(∀a o u,H' a=Z (.jo o u)->Hs a=H' a)->(∀a vs,H' a=Z (.tup vs)->Hs a=H' a)->B4 X.K J ds Hs) I ⟨Hb,ρ,ds,E,ed,λJ H' s' y=>⟨s',y⟩⟩) (λv s1 h1=>?_) λ_ _ z=>z);refine zb (QY (zb (wpAny_of_eq (hs v) (zb (qr (ZU h1 (λc3 s2 h2=>?_) λ_ _ z=>z))))));obtain⟨it,fp,tn,J,H2,rfl,I2,T,st,hf,i,Y⟩:=h2;have l:=i _ _ G;have b6:=F (.of i) q;have Yb:B4 X.K J ds (pG H2 D):=Y _ pZ (λa b=>jE λz=>by rw[z,G]at b;cases b) (λa M u b=>jE λz=>by rw[z,l]at b;cases b;exact(U q).1 _ _ S) λa vs b=>jE λz=>by rw[z,l]at b;cases b;exact(U q).2 _ rfl
 have L:AX Hb (pG H2 D):=λa u ea=>by rw[jE (bQ ea hD)];exact i _ _ (E.base _ _ ea)
 have E2:aY X.K (pG H2 D) H2 σ ρ:=(E.grow i).onto P.own pZ;have P2:D6 (pG H2 D) σ ρ n:=⟨P.own,P.lt,λj c a ec C ea z=>P.old j c a ec C ea (L.free z)⟩;have lp:∀{R:Result->A2->Prop},(∀s' σ' H' o',L2.AW X AN σ' H' s'->aY X.K (pG H2 D) H' σ' ρ->Fx σ σ' ρ->H' D=Z o'->Ac D H' (g++ys) o'->R (.ok .next) s')->AF (bn X) X.A (.compStart comp d (.ref it) (.ref D) X.env) R s2:=λhR=>
  have h:=Gz (B:=zx) b0 hx Fe b5 a5 a4 a7 I2 E2 P2 (zo S) l b6 (Cg T) st hf Yb e C F b4 a6 hR
  c0 h (T.self _ 0 _ _ _ st h)
 exact zb (wpAny_runOwn (lp λs' σ' H' o' I' W F' a3 a'=>ze ⟨σ',H',o',I',W.onto P.own (L.trans W.base),F',a3,a'⟩))
theorem yJ{mk:Sem A0}{o0:AE}{O0:HO}{Ac:A1->Hp->List Dt->HO->Prop}{fs:Ev->Option (List Dt)}{N:Nat}{H2:Hp}{a:A2}{ds out:List Dt}{ρ:Ev}(O:oX X scope cl xs is)(b4:B X.A X.calm)(Fe:∀C n u fp,EU (tL X (xs++ts) scope cl C n u fp) tgt gt)(d3:∀C n u fp,C5 (tL X (xs++ts) scope cl C n u fp) ifs p)(d1:∀C n u fp,Lf (tL X (xs++ts) scope cl C n u fp) el fs Ac N m)(a4:V4 is.length m gt)(b3:is.length<=m)(I2:L2.AW X AN σ H2 a)(W:aY X.K H2 H2 (nH is σ++ab ts.length Y3) (iu is ρ++ab ts.length Y3))(T:RG B X.prog X.w X.K tgt J fp it tn)(st:tn 0 a.heap)(hf:∀b∈fp,lO X AN H2 b)(Y:B4 X.K J ds H2)(c8:uz gt p fs (iu is ρ++ab ts.length Y3) ds=Z out)(hlen:out.length<=N)(d6:∀(D C:A1) (s':A2) (H':Hp) (o:HO),H2 D=Y3->L2.AW X AN σ H' s'->lO X AN H' C->(∃m,s'.heap.Ns C m)->AX H2 H'->H' D=Z o->Ac D H' out o->RR (.ref D) C (.ok .next) s')(a6:∀{Q:BC},Q (.ref a.heap.objs.size) { a with heap:=a.heap.push o0 }->A7 (bn X) X.A mk Q E a)(d4:∀H,dw X.prog X.w H (a.heap.push o0) a.heap.objs.size O0)(b6:∀H,Ac a.heap.objs.size H [] O0)(b5:∀{D:A1} {H H':Hp} {o1:List Dt} {o:HO},Kp H H'->Ac D H o1 o->Ac D H' o1 o)(d2:∀(it:A0) (D:A1) (env:Env),compTurn comp 0 it (.ref D) env=(standAt iter.pos >>= λ_=>pyNext it >>= λr=>match r with
   |none=>pure (.done .next)
   |some v=>letOwnedTupleGo tgt it v >>= λ_=>assign tgt env v >>= λ_=>(forIn ifs true λc r=>if r=true then isTrue c env (eval c env) >>= λok=>pure (ForInStep.yield ok)else pure (ForInStep.yield r)) >>= λok=>if ok=true then el D env >>= λ_=>again (.compLoop comp 0 it (.ref D) env)else again (.compLoop comp 0 it (.ref D) env)))(d5:∀{it f:A0} {env:Env} {R:Result->A2->Prop} {s:A2},AF (bn X) X.A (.compLoop comp 0 it f env) R s->A7 (bn X) X.A (pyIter it) (λc5 s'=>AF (bn X) X.A (.compLoop comp 0 c5 f env) R s') (notedBy (bn X) X.A env λx s'=>R (.error x) s') s->AF (bn X) X.A (.compStart comp 0 it f env) R s)(b0:∀{it f:A0} {env:Env} {Q:Fin->A2->Prop} {E:BC} {s:A2},A7 (bn X) X.A ((compTurn comp 0 it f env).onRaise (λx=>noteFrame x env >>= λ_=>theTreesLotGoes x)) Q E s->A7 (bn X) (X.A.under (.compLoop comp 0 it f env)) ((bn X).den (.compLoop comp 0 it f env)) Q E s):
  A7 (bn X) X.A mk (λf c4=>A7 (bn X) X.A (newFunctionEnv scope X.env.globals cl [] X.env.qual Y3 .none (Z X.env)) (λa3 a7=>
   AF (bn X) X.A (.compStart comp 0 (.ref it) f { a3 with scope:=relabel scope X.env }) (RR f a3.locals) a7) E c4) E a:=by
 refine a6 (Gy ?_);have I:H2 a.heap.objs.size=Y3:=I2.hok.fresh (zi _);have y:L2.AW X AN σ (B1 H2 a.heap.objs.size O0) { a with heap:=a.heap.push o0 }:=
  I2.laid (t':=a.toks) (λb o e=>zd _ e) (zi _) (d4 _)
 have W8:∀b∈fp,b<a.heap.objs.size:=λb d=>let ⟨o,e,_⟩:=T.obj 0 _ st b d;zw e;have G:∀b∈fp,lO X AN (B1 H2 a.heap.objs.size O0) b:=λb d=>⟨by rw[aF (zI (W8 b d))];exact(hf b d).1,(hf b d).2⟩;have U:tn 0 (a.heap.push o0):=T.keep 0 _ _ st λb d o e=>zd _ e;have F:∀b∈fp,b<(a.heap.push o0).objs.size:=λb d=>by rw[qk];exact qh (W8 b d)
 generalize c0:({ a with heap:=a.heap.push o0 }:A2)=s3 at *
 have d0:s3.heap=a.heap.push o0:=by rw[<-c0]
 rw[<-d0]at U F;have IC:=Ld (ts:=ts) y O G F;have M:tn 0 (pushCells (s3.heap.push { cls:=.type "dict",data:=.dict #[] }) scope.names):=T.keep 0 _ _ U λb d o e=>pushCells_keeps _ _ b o (zd _ e);have W7:∀b∈fp,lO (tL X (xs++ts) scope cl s3.heap.objs.size s3 (B1 H2 a.heap.objs.size O0) fp) [] (B1 H2 a.heap.objs.size O0) b:=λb d=>by
  obtain⟨f0,f1,f2,f3,L,f5⟩:=G b d;refine⟨f0,zI (F b d),λz=>?_,.inl d,λx c e z=>?_,λq hq=>absurd (show q∈([]:List (A1×AE)) from hq) (by simp)⟩
  ·rcases List.mem_cons.mp (y.Br b z)with q|q
   ·exact f1 q
   ·exact f2 q
  ·rcases tM _ _ _ x c e with h|h
   ·exact L x c (O.sub.get h) z
   ·rw[z]at h;exact absurd (Zl (F b d) (fF h)) (JU _)
 have P0:D6 H2 (nH is σ++ab ts.length Y3) (iu is ρ++ab ts.length Y3) is.length:=by
  have g:∀(j:Nat) c,(iu is ρ++ab ts.length Y3)[j]?=Z (Z c)->j<is.length/\qZ c=false:=λj c e=>by
   by_cases hj:j<is.length
   ·refine⟨hj,?_⟩;rw[qi (by simp[iu];omega)]at e;unfold iu at e;rw[z5]at e;cases q:is[j]? with
    |none=>rw[q]at e;cases e
    |some i=>rw[q]at e;exact vZ (by simpa using e)
   ·rw[QU (by simp[iu];omega),jI]at e;split at e<;>cases e
  exact⟨λj c e=>(g j c e).2,λj c e=>(g j c e).1,Cb W⟩
 have h:=Gz (B:=B) (X:=tL X (xs++ts) scope cl s3.heap.objs.size s3 (B1 H2 a.heap.objs.size O0) fp) (R:=RR (.ref a.heap.objs.size) s3.heap.objs.size) (o0:=[]) b4 S (Fe _ _ _ _) (d3 _ _ _ _) (d1 _ _ _ _) a4 b3 IC (W.grow (bf I)) P0 I aJ (b6 _) T M W7 Y c8 (by simpa using hlen) b5 d2 b0 λs5 e0 P o5 l E5 _ c3 a5=>by
  have IB:L2.AW X AN σ P s5:=y.call' (ch:=fp) l.os l.base l.hok l.bare λb d=>by
   obtain⟨f0,f1,f2,f3,L,f5⟩:=G b d;exact⟨f3,f1,L,f5⟩
  obtain⟨m,hn,_⟩:=l.loc;exact d6 _ _ s5 P o5 I IB (y.Bv (zi _) l.free) ⟨m,hn⟩ E5.base c3 a5
 exact d5 h (T.self _ 0 _ _ _ M h)
def V5(K:B5)(_:A1)(H:Hp)(a:O Dt)(o:HO):Prop:=∃us,o=.lst us/\aG K H a us
theorem V5.kp{K:B5}{D:A1}{H H':Hp}{a:O Dt}{o:HO}(k:Kp H H'):V5 K D H a o->V5 K D H' a o:=λ⟨us,e,r⟩=>⟨us,e,r.kp k⟩
def Lh(fe:Ev->Y Bx):Ev->Y (O Dt):=λρ=>(fe ρ).bind Hc
theorem RJ(h:PV X elt fe):Lf X (λD env=>do let _ <-call (.builtin "list.append") [.ref D,<-eval elt env]) (Lh fe) (V5 X.K) 100000 n:=by
 refine W6 λAN s σ H Hb ρ D o o1 ys I En g hD ⟨us,e,r4⟩ hl=>?_;subst e;obtain⟨b,eb,g⟩:=AV g;obtain⟨y,rfl,rfl⟩:=yH g;refine zb (ZU (h AN s σ H (λv a=>AX H a/\AY X.K a y v) I ⟨Hb,ρ,_,En,eb,λv a d _ i=>⟨d,i⟩⟩) (λv d m=>?_) λ_ _ z=>z);obtain⟨c,a,x,q,f,i⟩:=m;have j:=f _ _ hD;refine zb (ZU ((tD (X:=X)) _ d σ a (.ref D) [c] (.ref D) [v] (λw l=>l=B1 a D (.lst (us++[c]))) x S (.cons q .nil) ⟨_,us,c,rfl,rfl,j,by rw[r4.length];have h0:(100000:Nat)<AA:=();simp at hl;omega,rfl⟩) (λw A u=>?_) λ_ _ z=>z);obtain⟨B,l,p,_,rfl⟩:=u;have kp:Kp a (B1 a D (.lst (us++[c]))):=.lst j;exact ze ⟨a,_,p,f,kp,us++[c],rfl,((r4.kp (.of f)).append (aG.cons i aG.nil)).kp kp⟩
theorem wz{H2:Hp}{l:A2}{ds out:List Dt}{ρ:Ev}(O:oX X scope cl xs is)(v:B X.A X.calm)(u:∀C j i fp,EU (tL X (xs++ts) scope cl C j i fp) tgt gt)(z:∀C j i fp,C5 (tL X (xs++ts) scope cl C j i fp) ifs p)(x:∀C j i fp,PV (tL X (xs++ts) scope cl C j i fp) elt fe)(F:V4 is.length (is.length+ts.length) gt)(L:L2.AW X AN σ H2 l)(y:aY X.K H2 H2 (nH is σ++ab ts.length Y3) (iu is ρ++ab ts.length Y3))(T:RG B X.prog X.w X.K tgt J fp it tn)(st:tn 0 l.heap)(M:∀b∈fp,lO X AN H2 b)(Y:B4 X.K J ds H2)(hlen:ds.length<=100000)(s:Ce gt p fe (iu is ρ++ab ts.length Y3) ds=Z out)(G:∀(D C:A1) (s':A2) (H':Hp) (us:List V),H2 D=Y3->L2.AW X AN σ H' s'->lO X AN H' C->(∃m,s'.heap.Ns C m)->AX H2 H'->H' D=Z (.lst us)->aG X.K H' out us->RR (.ref D) C (.ok .next) s'):
  A7 (bn X) X.A (newList []) (λq I=>A7 (bn X) X.A (newFunctionEnv scope X.env.globals cl [] X.env.qual Y3 .none (Z X.env)) (λn H=>
   AF (bn X) X.A (.compStart (.ListComp elt [⟨tgt,iter,ifs,0⟩] scope pos) 0 (.ref it) q { n with scope:=relabel scope X.env }) (RR q n.locals) H) E I) E l:=
 yJ (B:=B) (Ac:=V5 X.K) (O0:=.lst []) (N:=100000) O v u z (λC j i fp=>RJ (x C j i fp)) F (Nat.le_add_right ..) L y T st M Y s (zv (yI s) hlen) (λD C s' H' o a b c d e f g=>by obtain⟨us,rfl,r⟩:=g;exact G D C s' H' us a b c d e f r)
  qa (λ_=>⟨qc _,[],0,.nil,zl _ rfl⟩) (λ_=>⟨[],rfl,aG.nil⟩) V5.kp (λ_ _ _=>S) codeAny_compStart_list λh=>h
end
def iC(K:B5)(f:Ev->Y (O Dt)):TI:=λσ H R=>∃H0 ρ ds,aY K H0 H σ ρ/\f ρ=Z ds/\∀J H',AX H H'->B4 K J ds H'->R J H'
def LN(X:Cx)(tg iter:Expr)(f:Ev->Y (O Dt)):Prop:=PI X tg iter (iC X.K f)
structure EF (X:Cx) (tg iter:Expr) (f:Ev->Option (List Dt)):Prop where
 run:LN X tg iter f
def Fh:Bx->Y (O Dt)
 |.z (.lst ds)=>Z ds
 |.z (.tup ds)=>Z ds
 |.z (.str x)=>Z (C0 x)
 |.o ds=>Z ds
 |.l ds=>Z ds
 |_=>Y3
section
variable{f:Ev->Y Bx}{fs:Ev->Y (O Bx)}{xs:Ap}{gt:Dt->Ev->Y Ev}{p:Ev->Y Bool}{fe:Ev->Y Bx}{fi:Ev->Y (O Dt)}
theorem Cj(h:ED X tgt iter fi):EF X tgt iter fi:=⟨have h:=h.run;λAN s σ H R I q=>by
 obtain⟨H0,ρ,ds,E,e,q⟩:=q;exact h AN s σ H R I ⟨H0,ρ,ds,E,e,λJ H' s' y=>q J H' s' (y H' (AX.refl H') (λ_ _=>S) (λ_ _ _ _=>S) λ_ _ _=>S)⟩⟩
theorem dX(h:QV X e f):EF X tgt e (λρ=>(f ρ).bind Fh):=⟨have h:=h.run;λAN s σ H R I q=>by
 refine O9 h AN s σ H R I ?_;obtain⟨H0,ρ,ds,E,e,q⟩:=q;obtain⟨b,eb,e⟩:=AV e;refine⟨H0,ρ,b,E,eb,λv H1 j u g=>?_⟩;cases b with
 |z d=>
  cases d with
  |tup p=>
   cases e;simp only[aX,AY]at g;obtain⟨a,vs,rfl,c,i⟩:=g;exact .inr (.inl ⟨a,rfl,⟨vs,c⟩,q _ _ j (.tup c i)⟩)
  |lst p=>
   cases e;obtain⟨a,vs,rfl,c,i⟩:=g.Ax rfl;exact .inl ⟨a,rfl,⟨vs,c⟩,q _ _ j (.list c i)⟩
  |str x=>
   cases e;simp only[aX,AY]at g;obtain⟨rfl,_⟩:=g;exact .inr (.inr ⟨x,rfl,q _ _ j (.str x)⟩)
  |_=>cases e
 |l p=>
  cases e;obtain⟨a,vs,rfl,c,i⟩:=g.Ax rfl;exact .inl ⟨a,rfl,⟨vs,c⟩,q _ _ j (.list c i)⟩
 |o p=>
  cases e;obtain⟨a,vs,rfl,c,i⟩:=g.Ax rfl;exact .inl ⟨a,rfl,⟨vs,c⟩,q _ _ j (.list c i)⟩
 |n _=>cases e
 |m _ _=>cases e⟩
def dN(fi:Ev->Y (O Dt))(gt:Dt->Ev->Y Ev)(p:Ev->Y Bool)(fe:Ev->Y Bx)(is:O Nat)(n:Nat):Ev->Y Bx:=λρ=>(fi ρ).bind λds=>
 if ds.length<=100000 then(Ce gt p fe (iu is ρ++ab n Y3) ds).bind λout=>Z (.o out)else Y3
theorem f9(ts:Ap)(O:oX X scope cl xs is)(u:X.calm=true)(hi:EF X tgt iter fi)(j:∀C c d fp,ZV (tL X (xs++ts) scope cl C c d fp) tgt gt)(i:∀C c d fp,uZ (tL X (xs++ts) scope cl C c d fp) ifs p)(g:∀C c d fp,QV (tL X (xs++ts) scope cl C c d fp) elt fe)(l:V4 is.length (is.length+ts.length) gt)(hs:∀x,foldedSetIterable iter X.env x=pure x:=by intro _;rfl):QV X (.ListComp elt [⟨tgt,iter,ifs,0⟩] scope pos) (dN fi gt p fe is ts.length):=⟨have hi:=hi.run;have j:=λC c d fp=>(j C c d fp).run;have i:=λC c d fp=>(i C c d fp).run;have g:=λC c d fp=>(g C c d fp).run;λAN s σ H Q I h=>by
 obtain⟨H0,ρ,b,E,e,q⟩:=h;obtain⟨ds,G,e⟩:=AV e;split at e
 ·rename_i a3;obtain⟨out,P,e⟩:=AV e;cases e;rw[eval_ListComp];refine JI (use:=Y3) S hs O.clos O.kind O.names ?_;refine fB (hi AN s σ H (λJ H'=>AX H H'/\B4 X.K J ds H') I ⟨H0,ρ,ds,E,G,λJ H' s' y=>⟨s',y⟩⟩) λv s1 h1=>fB h1 λa4 s2 h2=>?_;obtain⟨it,fp,tn,J,H2,rfl,M,T,st,N,f,Y⟩:=h2;refine wz (B:=zx) (RR:=λn C=>compPost (bn X) X.A X.xe Y3 (EP X AN σ Q) n C) (ts:=ts) (xs:=xs) O u j i g l M ((E.grow f).caps is ts.length) (Cg T) st N Y a3 P ?_;intro D C s' H' us W U F ⟨m,hn⟩ s2' hD' r';refine⟨m,hn,λh' z=>⟨.ref D,H',?_,rfl,q _ _ (f.trans s2') (λa ea=>by cases ea;exact f.free W) ⟨D,us,rfl,hD',r'⟩⟩⟩;obtain⟨f0,f1,f2,f3,f4,L⟩:=F;exact U.turned (t':=s'.toks) (λb o hb e=>(z.2 b hb).trans e) f0 f1 f3 f4 L
 ·cases e⟩
theorem tO(i:Nat){py spos:Pos}(ts:Ap)(O:oX X scope cl xs is)(a5:X.calm=true)(hN:X.N.Nodup)(hi:EF X tgt iter fi)(F:∀C c d fp,ZV (tL X (xs++ts) scope cl C c d fp) tgt gt)(n:∀C c d fp,uZ (tL X (xs++ts) scope cl C c d fp) ifs p)(l:∀C c d fp,QV (tL X (xs++ts) scope cl C c d fp) elt fe)(U:V4 is.length (is.length+ts.length) gt)(a6:swapsWith (.ListComp elt [⟨tgt,iter,ifs,0⟩] scope pos) (Z (.Name y py)) spos.line X.env=pure true:=by with_unfolding_all rfl)(hy:X.N[i]?=Z y:=by rfl)(hx:Cs X.env.scope y:=by first|exact JJ rfl|exact QN S)(hf:X.fn y=true\/X.env.scope.names.lookup y=Z .local:=by first|exact .inl rfl|exact .inr S)(hs:∀x,foldedSetIterable iter X.env x=pure x:=by intro _;rfl):RD X (.Assign [.Name y py] (.ListComp elt [⟨tgt,iter,ifs,0⟩] scope pos) spos) (λρ=>(dN fi gt p fe is ts.length ρ).bind λb=>(WX ρ i b).bind λρ'=>Z (.nx ρ')):=⟨have hi:=hi.run;have F:=λC c d fp=>(F C c d fp).run;have n:=λC c d fp=>(n C c d fp).run;have l:=λC c d fp=>(l C c d fp).run;λAN s σ H D I h=>by
 obtain⟨H0,ρ,r,E,e,q⟩:=h;obtain⟨b,eb,e⟩:=AV e;obtain⟨ds,ed,eb⟩:=AV eb;split at eb
 ·rename_i b3;obtain⟨out,eo,eb⟩:=AV eb;cases eb;cases e;rw[exec_Assign_Name_used _ _ _ _ a6];refine zb (QY (zb ?_));show A7 _ X.A (do let _ <-comprehension (.ListComp elt [⟨tgt,iter,ifs,0⟩] scope pos) scope X.env _ (newList []) false (eval iter X.env) (Z (assign (.Name y py) X.env))) _ _ s;refine zb (ZU (JI (use:=Z (assign (.Name y py) X.env)) (Q:=λ_ s'=>SP X AN D .next s') S hs O.clos O.kind O.names ?_) (λ_ s' hq=>ze (ze hq)) λ_ _ e=>e);refine fB (hi AN s σ H (λJ H'=>AX H H'/\B4 X.K J ds H') I ⟨H0,ρ,ds,E,ed,λJ H' s' y=>⟨s',y⟩⟩) λv s1 h1=>fB h1 λb5 s2 h2=>?_;obtain⟨it,fp,tn,J,H2,rfl,I2,T,st,b4,j,Y⟩:=h2;refine wz (B:=zx) (RR:=λW C=>compPost (bn X) X.A X.xe (Z (assign (.Name y py) X.env)) (λ_ s'=>SP X AN D .next s') W C) (ts:=ts) (xs:=xs) O a5 F n l U I2 ((E.grow j).caps is ts.length) (Cg T) st b4 Y b3 eo ?_;intro f C s' H' us hD M fC ⟨m,hn⟩ s2' hD' r';show A7 _ X.A (assign (.Name y py) X.env (.ref f)) _ _ s';obtain⟨f0,f1,f2,f3,f4,f5⟩:=fC;obtain⟨g,b0,ep,P,L,a4⟩:=id hn;have a3:L2.AW X (AN++[(C,g)]) σ H' s':=M.tu λG hp=>by
   rcases cf.mp hp with z|z
   ·exact M.pin G (zz _ z)
   ·have:G=(C,g):=by simpa using z
    subst this;exact⟨P,f0,f1,f2,λv z=>by rw[L]at z;cases z⟩
  refine fB (L2.jB hN hy hx hf (AN++[(C,g)]) s' σ H' (.ref f) (.ref f) (λσ' u=>σ'=σ.set i (Z (.ref f))/\u=H') a3 S ⟨rfl,rfl⟩) λ_ s'' ⟨σ',u,J',e1,e2⟩=>?_;subst e1 e2;have a7:=(J'.pin (C,g) (by simp)).1;refine⟨m,⟨g,b0,ep,a7,L,a4⟩,λh' sb=>?_⟩;refine⟨σ.set i (Z (.ref f)),u,J'.mX.turned (t':=s''.toks) (λb o hb e=>(sb.2 b hb).trans e) f0 f1 f3 f4 f5,q _ _ ?_⟩;exact E.set (j.trans s2') (b:=.o out) ⟨f,us,rfl,hD',r'⟩ (.inl S) λa ea=>by cases ea;exact j.free hD
 ·cases eb⟩
def lend:Bx->Bx
 |.o ds=>.l ds
 |.m ds _=>.n ds
 |b=>b
def cq:Bx->Bool
 |.o _=>true
 |.m _ _=>true
 |_=>false
def Pb(K:B5)(n:Nat)(F:O Bx->Y Bx):Sp:=λvs H Q _=>vs.length=n/\∃bs r,vX K H bs vs/\bs.all (λb=>!cq b)=true/\F bs=Z r/\∀v H',AX H H'->Nw H r v->aX K H' r v->Q v H'
def fL(n:Nat)(g:Ev->Y As):O Bx->Y Bx:=λbs=>(g (bs.map Z++ab (n-bs.length) Y3)).bind λr=>match r with
 |.rt b=>Z b
 |.nx _=>Z (.z .non)
 |_=>Y3
theorem aY.start{K:B5}{H:Hp}{N:Ap}{bs:O Bx}{vs:O V}(r:vX K H bs vs)(l:bs.all (λb=>!cq b)=true):aY K H H (L2.start N vs) (bs.map Z++ab (N.length-bs.length) Y3):=by
 have h:bs.length=vs.length:=Paired.length r;have get:∀(i:Nat) b,(bs.map Z++ab (N.length-bs.length) Y3)[i]?=Z (Z b)->bs[i]?=Z b:=λi b e=>by
  by_cases hi:i<bs.length
  ·rw[qi (by simpa using hi),z5]at e;cases q:bs[i]? with
   |none=>rw[q]at e;cases e
   |some n=>rw[q]at e;simpa using e
  ·rw[QU (by simp;omega),jI]at e;split at e<;>cases e
 have f:∀(i:Nat) c,(bs.map Z++ab (N.length-bs.length) Y3)[i]?=Z (Z c)->qZ c=true->False:=λi c e d=>by
  have:=List.all_eq_true.mp l _ (k5 (get i _ e));cases c with
  |o ds=>cases this
  |m ds _=>cases this
  |_=>cases d
 refine⟨?_,λi b e=>?_,λi j c a b e d=>(f i c e d).elim,AX.refl H,λi c a e d=>(f i c e d).elim⟩
 ·unfold L2.start;simp[h]
 ·have e':=get i b e;have hi:i<bs.length:=(cc.mp e').1;have:∀{bs:O Bx} {vs:O V} {i:Nat} {b:Bx},AI (aX K H) bs vs->bs[i]?=Z b->∃v,vs[i]?=Z v/\aX K H b v:=by
   intro bs vs i b r
   induction r generalizing i with
   |nil=>intro e;simp at e
   |cons p t g=>
    intro e;cases i with
    |zero=>simp at e;subst e;exact⟨_,rfl,p⟩
    |succ i=>obtain⟨v,e1,e2⟩:=g (i:=i) (by simpa using e);exact⟨v,by simpa using e1,e2⟩
  obtain⟨v,e1,e2⟩:=this r e';refine⟨v,?_,e2⟩;unfold L2.start;rw[qi (by simp;omega),z5,e1];rfl
end
theorem RU{f:A1}{k:Nat}{g:Ev->Y As}(F:Aw K x qual st f fd)(S:bH N ps (aO st))(l:∀(a:A0) (A:A5) (outer:O Env) (s:A2) (H:Hp) (E:XK),jW k (A.deeper (AK qual (aO st) s.heap.objs.size f a))->Ro (BJ uH P w K mg base N qual (aO st) f a A outer s H E).ZS (iG st) g):
  jx P w K mg base uH (k+1) f fd ps (Pb K ps.length (fL N.length g)):=by
 refine F.ok S (λvs H Q E h=>h.1) λa A outer s H vs Q E d h=>?_;obtain⟨o,bs,r,j,n,e,q⟩:=h;refine⟨_,l a A outer s H E d,?_⟩;obtain⟨c,er,e⟩:=AV e;refine⟨H,_,c,aY.start j n,er,?_⟩;cases c with
 |rt b=>cases e;exact λv H' s' i c=>q v H' s' i c
 |nx ρ=>cases e;exact λσ H' m=>q _ H' m.base trivial (by unfold aX AY;rfl)
 |bk ρ=>cases e
 |ct ρ=>cases e
section
variable{k:Nat}{f:A1}{F:O Bx->Y Bx}{p:Pos}{fs:Ev->Y (O Bx)}
theorem Li{K:B5}{H:Hp}:∀{bs:O Bx} {vs:O V},vX K H bs vs->vX K H (bs.map lend) vs
 |_,_,.nil=>.nil
 |b::bs,_,.cons h t=>by
  refine .cons ?_ (Li t);cases b with
  |z d=>exact h
  |l ds=>exact h
  |o ds=>obtain⟨a,vs,e,q,r⟩:=h;exact⟨a,vs,e,.inl q,r⟩
  |n ds=>exact h
  |m ds _=>obtain⟨a,vs,e,q,r⟩:=h;exact⟨a,vs,e,.inl q,r.1⟩
theorem RK:∀bs:O Bx,(bs.map lend).all (λb=>!cq b)=true
 |[]=>rfl
 |b::bs=>by
  rw[zr,kK,RK bs];cases b<;>rfl
def cX(n:Nat)(F:O Bx->Y Bx)(fs:Ev->Y (O Bx)):Ev->Y Bx:=λρ=>(fs ρ).bind λbs=>if bs.length=n then F (bs.map lend)else Y3
theorem p7(G:jx X.prog X.w X.K X.mg X.base uH k f fd ps (Pb X.K n F))(g:jW k X.A)(j:Gl X x)(m:X.mg x=Z (.ref f))(hk:keepIn X.K (.ref f)=true)(l:BE X.K fd ps [])(a:Uh X (e::es) fs)(s:ad x:=by decide)(he:A9 (e::es) X.env=(false,eval e X.env)::A9 es X.env:=by rfl)(o:(AD pos (A9 es X.env)).any (·.1)=false:=by rfl):QV X (.Call (.Name x p) (e::es) [] pos) (cX n F fs):=⟨have a:=a.run;Ay (pW G g j m hk l .nil (BL) a s he o) λσ H Q h=>by
 obtain⟨H0,ρ,r,E,e,q⟩:=h;obtain⟨bs,eb,e⟩:=AV e;refine⟨H0,ρ,bs,E,eb,λvs H1 c b=>?_⟩;split at e
 ·rename_i i;rw[kD];exact⟨by rw[<-Paired.length b];exact i,_,r,Li b,RK bs,e,λv H2 y u d=>q v H2 (c.trans y) (u.old c) d⟩
 ·cases e⟩
end
end P1
variable{b:P1.Bx}{d:P1.Dt}{q:P1.Ev->Y Bool}{F:O P1.Bx->Y P1.Bx}{f:P1.Ev->Y P1.Bx}{g:P1.Ev->Y P1.As}{p:P1.Ev->Y Bool}{ds:O P1.Dt}{fa:P1.Ev->Y P1.Bx}{ρ:P1.Ev}{fb fc:P1.Ev->Y P1.Bx}{g1 g2:P1.Ev->Y P1.As}{gs:O (Int×A1×O P1.Dt)}{gt:P1.Dt->P1.Ev->Y P1.Ev}{gb:P1.Ev->Y P1.As}{fi:P1.Ev->Y (O P1.Dt)}{fe:P1.Ev->Y P1.Bx}{Ac:A1->L2.Hp->O P1.Dt->L2.HO->Prop}{fk fo fv:P1.Ev->Y P1.Bx}{fr:P1.Ev->Y (O (AJ×P1.Dt))}{f1:P1.Ev->Y P1.Bx}{gx:P1.Ev->Y P1.Dt}{bt:P1.Dt->P1.Dt->Bool}{FQ:P1.Dt->Bool}{kf:O P1.Dt->Y (O (O L2.An))}{jX b_1:P1.Bx}
namespace P1
open L2 SeqAt
open AutoSeq1 (wpAny_loadPart')
def Fq(h:A6)(a:A1):Prop:=∃o ep,h.get? a=Z o/\o.ExactDict/\o.data=.dict #[] ep
section
variable{b:A1}
theorem wA{AO:O (An×V)}{h:A6}{vs:O (An×A0)}(q:AO=[])(r:KV AO vs)(d:h.DictOf (cH P w) a vs):Fq h a:=by
 subst q;cases r;obtain⟨o,es,ep,h1,h2,b,_,c,_⟩:=d;have:es=#[]:=by
  have:=c.length;apply Array.eq_empty_of_size_eq_zero;simpa using this
 subst this;exact⟨o,ep,h1,h2,b⟩
theorem Fq.dict(P:A3)(w:A4){h:A6}(x:Fq h a):h.DictOf (strKind P w) a []:=by
 obtain⟨o,ep,h1,h2,c⟩:=x;exact⟨o,#[],ep,h1,h2,c,λe b=>by simp at b,.nil,QQ⟩
theorem LA(e:(a==sysModules)=false)(f:(b==sysModules)=false)(c:Fq s.heap a)(g:Fq s.heap b)(d:A.units<cLine):RcAt A s (.ref a) (.ref b) true:=λprog w E Q h=>
 PySem.W.keq_eq (knd:=strKind prog w) e f (c.dict prog w) (g.dict prog w) d (λ_=>.nil) h
theorem ND(e:(a==sysModules)=false)(f:(b==sysModules)=false)(c:Fq s.heap a)(g:Fq s.heap b)(d:A.units<cLine):RcNeAt A s (.ref a) (.ref b) false:=λprog w E Q h=>
 PySem.W.keq_ne (r:=true) (knd:=strKind prog w) e f (c.dict prog w) (g.dict prog w) d (λ_=>.nil) h
theorem Lj(o:AE)(b:AJ)(u:Tok):Meets (Builtin.«dict.__eq__» ⟨[.ref a,.str b u],[]⟩) (λ_ R s=>(s.heap.get? a=Z o/\o.cls=.type "dict")/\R (.ok (.ret .notImplemented)) s):=
 .of_wp λprog w A R s h=>by
  have c:s.TypeIs (.ref a) "dict":=⟨o,h.1.1,h.1.2⟩;show A7 _ _ (Builtin.Dict.dictSlotArgs "__eq__" ⟨[.ref a,.str b u],[]⟩ >>= _) _ _ s;refine zb ?_;unfold Builtin.Dict.dictSlotArgs;refine zb (wpAny_notOrdered_dict c ?_);show A7 _ _ (pure (Value.ref a,Value.str b u)) _ _ s;refine ze ?_;refine zb (KL (T :="str") (typeIs_str s b u) PySem.F.sub_str_dict ?_);simp only[eQ,jS];refine zb (ke ?_);exact ze ⟨_,rfl,h.2⟩
theorem Ln(b:AJ)(u:Tok)(es:Array DictEntry)(ep:Nat)(e:Y A1)(sl:Array (Y A0)):Meets (Builtin.«str.__eq__» ⟨[.str b u,.ref a],[]⟩) (λ_ R s=>s.heap.get? a=Z { cls:=.type "dict",dict:=e,data:=.dict es ep,slots:=sl }/\R (.ok (.ret .notImplemented)) s):=
 .of_wp λprog w A R s h=>by obtain⟨hp,g,d,tk,os⟩:=s;obtain⟨c,h⟩:=h;wp_walk using wpAny_loadPart' c,Kk c;exact⟨_,rfl,h⟩
theorem GD(x:AJ)(t:Tok)(d:Fq s.heap a)(g:A.units<cLine):RcAt A s (.str x t) (.ref a) false:=λprog w E Q h=>by
 obtain⟨⟨l,i,j,sl⟩,ep,c,⟨e,hd,m⟩,f⟩:=d;simp only at e f;subst e f;exact rc_eq_decline_or (k:=false) (typeIs_str s x t) ⟨_,c,rfl⟩ () PySem.F.sub_dict_str PySem.F.slot_str_eq PySem.F.slot_dict_eq_refl
  (λ_ b=>call_meets PySem.F.slot_str_eq (typeIs_str s x t) PySem.F.entry_str_eq (PySem.F.args_str_eq_2 _ _) (Ln x t #[] ep i sl) ⟨c,b⟩)
  (λ_ b=>call_meets PySem.F.slot_dict_eq_refl ⟨_,c,rfl⟩ PySem.F.entry_dict_eq (PySem.F.args_dict_eq_2 _ _) (Lj _ x t) ⟨⟨c,rfl⟩,b⟩)
  (λ_ b=>wpAny_of_eq (rfl:isSame (.str x t) (.ref a)=pure false) b) (.inr g) h
theorem Ls(o:AE)(b:AJ)(u:Tok):Meets (Builtin.«dict.__ne__» ⟨[.ref a,.str b u],[]⟩) (λ_ R s=>(s.heap.get? a=Z o/\o.cls=.type "dict")/\R (.ok (.ret .notImplemented)) s):=
 .of_wp λprog w A R s h=>by
  have c:s.TypeIs (.ref a) "dict":=⟨o,h.1.1,h.1.2⟩;show A7 _ _ (Builtin.Dict.dictSlotArgs "__ne__" ⟨[.ref a,.str b u],[]⟩ >>= _) _ _ s;refine zb ?_;unfold Builtin.Dict.dictSlotArgs;refine zb (wpAny_notOrdered_dict c ?_);show A7 _ _ (pure (Value.ref a,Value.str b u)) _ _ s;refine ze ?_;refine zb (KL (T :="str") (typeIs_str s b u) PySem.F.sub_str_dict ?_);simp only[eQ,jS];refine zb (ke ?_);exact ze ⟨_,rfl,h.2⟩
theorem Lw(b:AJ)(u:Tok)(es:Array DictEntry)(ep:Nat)(e:Y A1)(sl:Array (Y A0)):Meets (Builtin.«str.__ne__» ⟨[.str b u,.ref a],[]⟩) (λ_ R s=>s.heap.get? a=Z { cls:=.type "dict",dict:=e,data:=.dict es ep,slots:=sl }/\R (.ok (.ret .notImplemented)) s):=
 .of_wp λprog w A R s h=>by obtain⟨hp,g,d,tk,os⟩:=s;obtain⟨c,h⟩:=h;wp_walk using wpAny_loadPart' c,Kk c;exact⟨_,rfl,h⟩
theorem Uj(x:AJ)(t:Tok)(d:Fq s.heap a)(g:A.units<cLine):RcNeAt A s (.str x t) (.ref a) true:=λprog w E Q h=>by
 obtain⟨⟨l,i,j,sl⟩,ep,c,⟨e,hd,m⟩,f⟩:=d;simp only at e f;subst e f;exact rc_ne_decline_or (k:=false) (typeIs_str s x t) ⟨_,c,rfl⟩ () PySem.F.sub_dict_str PySem.F.slot_str_ne PySem.F.slot_dict_ne_refl
  (λ_ b=>call_meets PySem.F.slot_str_ne (typeIs_str s x t) PySem.F.entry_str_ne (PySem.F.args_str_ne_2 _ _) (Lw x t #[] ep i sl) ⟨c,b⟩)
  (λ_ b=>call_meets PySem.F.slot_dict_ne_refl ⟨_,c,rfl⟩ PySem.F.entry_dict_ne (PySem.F.args_dict_ne_2 _ _) (Ls _ x t) ⟨⟨c,rfl⟩,b⟩)
  (λ_ b=>wpAny_of_eq (rfl:isSame (.str x t) (.ref a)=pure false) b) (.inr g) h
theorem Uk(x:AJ)(t:Tok)(d:Fq s.heap a)(b:A.units<cLine):EqAt A s (.str x t) (.ref a) false:=λprog w E Q h=>by
 unfold eqBool;refine qr ?_;refine wpAny_ite_split (λc=>absurd (eq_of_beq c) nofun) (λ_=>?_);exact zb (GD x t d b prog w E _ (QP h))
end
mutual
def u0:Dt->Nat
 |.tup xs=>wB xs+1
 |.lst xs=>wB xs+1
 |_=>1
def wB:O Dt->Nat
 |[]=>0
 |d::ds=>max (u0 d) (wB ds)
end
mutual
def uI:Dt->Dt->Y Bool
 |.non,.non=>Z true
 |.non,.bl _=>Z false|.non,.int _=>Z false|.non,.str _=>Z false|.non,.tup _=>Z false|.non,.lst _=>Z false
 |.bl a,.bl b=>Z (a==b)
 |.bl a,.int b=>Z ((if a then 1 else 0)==b)
 |.bl _,.non=>Z false|.bl _,.str _=>Z false|.bl _,.tup _=>Z false|.bl _,.lst _=>Z false
 |.int a,.int b=>Z (a==b)
 |.int a,.bl b=>Z (a==(if b then 1 else 0))
 |.int _,.non=>Z false|.int _,.str _=>Z false|.int _,.tup _=>Z false|.int _,.lst _=>Z false
 |.str a,.str b=>Z (a==b)
 |.str _,.non=>Z false|.str _,.bl _=>Z false|.str _,.int _=>Z false|.str _,.tup _=>Z false|.str _,.lst _=>Z false|.str _,.emp=>Z false
 |.tup xs,.tup ys=>j4 xs ys
 |.tup _,.non=>Z false|.tup _,.bl _=>Z false|.tup _,.int _=>Z false|.tup _,.str _=>Z false|.tup _,.lst _=>Z false
 |.lst xs,.lst ys=>j4 xs ys
 |.emp,.emp=>Z true
 |.lst _,.non=>Z false|.lst _,.bl _=>Z false|.lst _,.int _=>Z false|.lst _,.str _=>Z false|.lst _,.tup _=>Z false
 |_,_=>Y3
def j4:O Dt->O Dt->Y Bool
 |[],[]=>Z true
 |[],_::_=>Z false
 |_::_,[]=>Z false
 |x::xs,y::ys=>match uI x y with
  |some b=>match j4 xs ys with
   |some c=>Z (b&&c)
   |none=>Y3
  |none=>Y3
end
mutual
theorem Lx:∀{d:Dt} {k:Bool},uI d d=Z k->k=true
 |.non,_,e=>by cases e;rfl
 |.bl b,_,e=>by cases e;simp
 |.int b,_,e=>by cases e;simp
 |.str b,_,e=>by cases e;simp
 |.tup xs,_,e=>yK (ds:=xs) e
 |.lst xs,_,e=>yK (ds:=xs) e
 |.emp,_,e=>by cases e;rfl
theorem yK:∀{ds:O Dt} {k:Bool},j4 ds ds=Z k->k=true
 |[],_,e=>by simp only[j4]at e;cases e;rfl
 |d::ds,_,e=>by
  simp only[j4]at e;cases h:uI d d with
  |none=>rw[h]at e;cases e
  |some b=>
   rw[h]at e;simp only at e;cases h2:j4 ds ds with
   |none=>rw[h2]at e;cases e
   |some c=>
    rw[h2]at e;cases e;rw[Lx h,yK h2];rfl
end
theorem Bb(xs ys:O Dt):uI (.tup xs) (.tup ys)=j4 xs ys:=rfl
theorem rP:∀{xs ys:O Dt} {k:Bool},j4 xs ys=Z k->∃e:Nat->Bool,(∀(j:Nat) x y,xs[j]?=Z x->ys[j]?=Z y->uI x y=Z (e j))/\k=((cw (min xs.length ys.length)).all e&&xs.length==ys.length)
 |[],[],k,h=>by simp only[j4]at h;cases h;exact⟨λ_=>true,λj x y e=>by simp at e,by simp⟩
 |[],y::ys,k,h=>by simp only[j4]at h;cases h;exact⟨λ_=>true,λj x y e=>by simp at e,by simp⟩
 |x::xs,[],k,h=>by simp only[j4]at h;cases h;exact⟨λ_=>true,λj x y _ e=>by simp at e,by simp⟩
 |x::xs,y::ys,k,h=>by
  simp only[j4]at h;cases h1:uI x y with
  |none=>rw[h1]at h;cases h
  |some b=>
   rw[h1]at h;simp only at h;cases h2:j4 xs ys with
   |none=>rw[h2]at h;cases h
   |some c=>
    rw[h2]at h;cases h;obtain⟨e,g,d⟩:=rP h2;refine⟨λj=>match j with|0=>b|j+1=>e j,λj u v a ev=>?_,?_⟩
    ·cases j with
     |zero=>simp at a ev;subst a ev;exact h1
     |succ j=>exact g j u v (by simpa using a) (by simpa using ev)
    ·have:min (x::xs).length (y::ys).length=min xs.length ys.length+1:=by simp only[ZN];omega
     rw[this,gX,kK,gi,d];have f:((x::xs).length==(y::ys).length)=(xs.length==ys.length):=by
      rw[kF];simp
     rw[f,Bool.and_assoc];rfl
theorem rQ:∀{ds:O Dt} {j:Nat} {d:Dt},ds[j]?=Z d->u0 d<=wB ds
 |[],_,_,e=>by simp at e
 |d::ds,0,_,e=>by simp at e;subst e;simp only[wB];exact Nat.le_max_left _ _
 |d::ds,j+1,_,e=>by
  simp only[wB];exact zv (rQ (ds:=ds) (j:=j) (by simpa using e)) (Nat.le_max_right _ _)
theorem Bc(I:L2.AW X AN σ H s)(h:vU X.K H a vs):∃b,s.heap.get? a=Z b/\b.cls=.type "tuple":=by
 obtain⟨AT,_,⟨b,e,c,_⟩,_⟩:=I.tuple h;exact⟨b,e,c⟩
theorem Bd(I:L2.AW X AN σ H s)(h:nG X.K H a vs):∃b,s.heap.get? a=Z b/\b.cls=.type "list":=by
 obtain⟨AT,_,⟨b,n,e,c,_⟩,_⟩:=I.list h;exact⟨b,e,c⟩
theorem qb(I:L2.AW X AN σ H s){o:AE}(h:H a=Z (.jo o (.dK []))):∃b,s.heap.get? a=Z b/\b.cls=.type "dict":=by
 obtain⟨e,_,_,vs,_,b,es,ep,e2,ex,_⟩:=I.hok a _ h;exact⟨b,e2,ex.1⟩
theorem yL{n m:String}(h:∃b,s.heap.get? a=Z b/\b.cls=.type n)(q:∃b,s.heap.get? a=Z b/\b.cls=.type m)(hn:n≠m):False:=by
 obtain⟨o,e,c⟩:=h;obtain⟨o',e',c'⟩:=q;rw[e]at e';cases e';rw[c]at c';exact hn (by injection c')
mutual
theorem AY.inj(I:L2.AW X AN σ H s):∀{d e:Dt} {v:V},AY X.K H d v->AY X.K H e v->d=e
 |.non,e,v,h,q=>by
  simp only[AY]at h;subst h;cases e<;>simp only[AY]at q<;>first|rfl|(cases q;done)|(obtain⟨a,b,z,_⟩:=q;cases z;done)|(obtain⟨z,_⟩:=q;cases z;done)
 |.bl _,e,v,h,q=>by
  simp only[AY]at h;subst h;cases e<;>simp only[AY]at q<;>first|(cases q;rfl)|(cases q;done)|(obtain⟨a,b,z,_⟩:=q;cases z;done)|(obtain⟨z,_⟩:=q;cases z;done)
 |.int _,e,v,h,q=>by
  simp only[AY]at h;subst h;cases e<;>simp only[AY]at q<;>first|(cases q;rfl)|(cases q;done)|(obtain⟨a,b,z,_⟩:=q;cases z;done)|(obtain⟨z,_⟩:=q;cases z;done)
 |.str x,e,v,h,q=>by
  simp only[AY]at h;have g:v=.str x:=h.1;subst g;cases e with
  |str y=>
   simp only[AY]at q;have z:V.str x=V.str y:=q.1;injection z with z;rw[z]
  |tup es=>simp only[AY]at q;obtain⟨a,b,z,_⟩:=q;cases z
  |lst es=>simp only[AY]at q;obtain⟨a,b,z,_⟩:=q;cases z
  |emp=>simp only[AY]at q;obtain⟨a,b,z,_⟩:=q;cases z
  |_=>simp only[AY]at q;cases q
 |.tup ds,e,v,h,q=>by
  simp only[AY]at h;obtain⟨a,vs,rfl,sq,r⟩:=h;cases e with
  |tup es=>
   simp only[AY]at q;obtain⟨b,us,z,c,f⟩:=q;cases z;have:=I.Gm sq c;subst this;rw[aG.inj I r f]
  |lst es=>
   simp only[AY]at q;obtain⟨b,us,z,c,f⟩:=q;cases z;exact(yL (Bc I sq) (Bd I c.sq) ()).elim
  |emp=>
   simp only[AY]at q;obtain⟨b,o,z,c⟩:=q;cases z;exact(yL (Bc I sq) (qb I c) ()).elim
  |str x=>simp only[AY]at q;have z:=q.1;cases z
  |_=>simp only[AY]at q;cases q
 |.lst ds,e,v,h,q=>by
  simp only[AY]at h;obtain⟨a,vs,rfl,sq,r⟩:=h;cases e with
  |lst es=>
   simp only[AY]at q;obtain⟨b,us,z,c,f⟩:=q;cases z;have:=I.Bu sq.sq c.sq;subst this;rw[aG.inj I r f]
  |tup es=>
   simp only[AY]at q;obtain⟨b,us,z,c,f⟩:=q;cases z;exact(yL (Bd I sq.sq) (Bc I c) ()).elim
  |emp=>
   simp only[AY]at q;obtain⟨b,o,z,c⟩:=q;cases z;exact(yL (Bd I sq.sq) (qb I c) ()).elim
  |str x=>simp only[AY]at q;have z:=q.1;cases z
  |_=>simp only[AY]at q;cases q
 |.emp,e,v,h,q=>by
  simp only[AY]at h;obtain⟨a,o,rfl,sq⟩:=h;cases e with
  |emp=>rfl
  |tup es=>
   simp only[AY]at q;obtain⟨b,us,z,c,f⟩:=q;cases z;exact(yL (qb I sq) (Bc I c) ()).elim
  |lst es=>
   simp only[AY]at q;obtain⟨b,us,z,c,f⟩:=q;cases z;exact(yL (qb I sq) (Bd I c.sq) ()).elim
  |str x=>simp only[AY]at q;have z:=q.1;cases z
  |_=>simp only[AY]at q;cases q
theorem aG.inj(I:L2.AW X AN σ H s):∀{ds es:O Dt} {vs:O V},aG X.K H ds vs->aG X.K H es vs->ds=es
 |[],es,vs,h,q=>by
  simp only[aG]at h;subst h;cases es with
  |nil=>rfl
  |cons e es=>simp only[aG]at q;obtain⟨_,_,z,_⟩:=q;cases z
 |d::ds,es,vs,h,q=>by
  simp only[aG]at h;obtain⟨v,r,rfl,h1,h2⟩:=h;cases es with
  |nil=>simp only[aG]at q;cases q
  |cons e es=>
   simp only[aG]at q;obtain⟨a,b,z,q1,q2⟩:=q;cases z;rw[AY.inj I h1 q1,aG.inj I h2 q2]
end
theorem LI(I:L2.AW X AN σ H s):∀(n:Nat) {A:A5} {d e:Dt} {x y:V} {u v:A0} {k:Bool},min (u0 d) (u0 e)<=n->A.units+n<cLine->AY X.K H d x->AY X.K H e y->At x u->At y v->uI d e=Z k->EqAt A s u v k:=by
 intro n
 induction n with
 |zero=>
  intro A d e x y u v k P;have h1:1<=u0 d:=by cases d<;>simp only[u0]<;>omega
  have h2:1<=u0 e:=by cases e<;>simp only[u0]<;>omega
  omega
 |succ n ih=>
  intro A d e x y u v k P hA m c w g ek;have h:A.units<cLine:=by omega
  by_cases L:u=v/\∃a,u=.ref a
  ·obtain⟨rfl,a,rfl⟩:=L;have hx:x=.ref a:=by have:=w.abs;simpa[IA]using this.symm
   have hy:y=.ref a:=by have:=g.abs;simpa[IA]using this.symm
   subst hx hy;have:=AY.inj I m c;subst this;rw[Lx ek];exact EqAt.same _
  ·have items:∀{ds es:O Dt} {vs us:O V} {AT l:O A0} {f:Nat->Bool},min (wB ds) (wB es)<=n->aG X.K H ds vs->aG X.K H es us->AZ vs AT->AZ us l->(∀(j:Nat) x y,ds[j]?=Z x->es[j]?=Z y->uI x y=Z (f j)) →
     ∀j (h1:j<AT.toArray.size) (h2:j<l.toArray.size),EqAt A.in1 s AT.toArray[j] l.toArray[j] (f j):=by
    intro ds es vs us AT l f hm W U w1 w2 F j h1 h2;have l1:=w1.length;have l2:=w2.length;have l3:=W.length;have l4:=U.length;have j1:j<AT.length:=by simpa using h1
    have j2:j<l.length:=by simpa using h2
    have M:ds[j]?=Z ds[j]:=by simp
    have d2:es[j]?=Z es[j]:=by simp
    obtain⟨a,ea,C⟩:=W.get M;obtain⟨b,eb,B⟩:=U.get d2;obtain⟨p,ep,rp⟩:=w1.get ea;obtain⟨q,eq,rq⟩:=w2.get eb;have e1:AT.toArray[j]=p:=by simpa[j1]using ep
    have e2:l.toArray[j]=q:=by simpa[j2]using eq
    rw[e1,e2];have m1:=rQ M;have m2:=rQ d2;exact ih () (by rw[units_in1];omega) C B rp rq (F j _ _ M d2)
   cases d with
   |non=>
    cases m;cases w;cases e with
    |non=>cases c;cases g;cases ek;exact EqAt.same _
    |bl b=>cases c;cases g;cases ek;exact EqAt.none_bool b
    |int b=>cases c;obtain⟨t,rfl⟩:=g;cases ek;exact EqAt.none_int b t
    |str b=>obtain⟨rfl,_⟩:=c;obtain⟨t,rfl⟩:=g;cases ek;exact EqAt.none_str b t
    |tup es=>obtain⟨b,us,rfl,sq,_⟩:=c;cases g;cases ek;obtain⟨_,_,p,_⟩:=I.tuple sq;exact EqAt.none_tuple p h
    |lst es=>obtain⟨b,us,rfl,sq,_⟩:=c;cases g;cases ek;obtain⟨_,_,p,_⟩:=I.list sq.sq;exact EqAt.none_list p.isList h
    |emp=>cases ek
   |bl a=>
    cases m;cases w;cases e with
    |non=>cases c;cases g;cases ek;exact EqAt.bool_none a
    |bl b=>cases c;cases g;cases ek;exact EqAt.bool_bool a b
    |int b=>cases c;obtain⟨t,rfl⟩:=g;cases ek;exact EqAt.bool_int a b t
    |str b=>obtain⟨rfl,_⟩:=c;obtain⟨t,rfl⟩:=g;cases ek;exact EqAt.bool_str a b t
    |tup es=>obtain⟨b,us,rfl,sq,_⟩:=c;cases g;cases ek;obtain⟨_,_,p,_⟩:=I.tuple sq;exact EqAt.bool_tuple a p h
    |lst es=>obtain⟨b,us,rfl,sq,_⟩:=c;cases g;cases ek;obtain⟨_,_,p,_⟩:=I.list sq.sq;exact EqAt.bool_list a p.isList h
    |emp=>cases ek
   |int a=>
    cases m;obtain⟨i,rfl⟩:=w;cases e with
    |non=>cases c;cases g;cases ek;exact EqAt.int_none a i
    |bl b=>cases c;cases g;cases ek;exact EqAt.int_bool a i b
    |int b=>cases c;obtain⟨t,rfl⟩:=g;cases ek;exact EqAt.int_int a i b t
    |str b=>obtain⟨rfl,_⟩:=c;obtain⟨t,rfl⟩:=g;cases ek;exact EqAt.int_str a i b t
    |tup es=>obtain⟨b,us,rfl,sq,_⟩:=c;cases g;cases ek;obtain⟨_,_,p,_⟩:=I.tuple sq;exact EqAt.int_tuple a i p h
    |lst es=>obtain⟨b,us,rfl,sq,_⟩:=c;cases g;cases ek;obtain⟨_,_,p,_⟩:=I.list sq.sq;exact EqAt.int_list a i p.isList h
    |emp=>cases ek
   |str a=>
    obtain⟨rfl,_⟩:=m;obtain⟨i,rfl⟩:=w;cases e with
    |non=>cases c;cases g;cases ek;exact EqAt.str_none a i
    |bl b=>cases c;cases g;cases ek;exact EqAt.str_bool a i b
    |int b=>cases c;obtain⟨t,rfl⟩:=g;cases ek;exact EqAt.str_int a i b t
    |str b=>obtain⟨rfl,_⟩:=c;obtain⟨t,rfl⟩:=g;cases ek;exact EqAt.str_str a i b t
    |tup es=>obtain⟨b,us,rfl,sq,_⟩:=c;cases g;cases ek;obtain⟨_,_,p,_⟩:=I.tuple sq;exact EqAt.str_tuple a i p h
    |lst es=>obtain⟨b,us,rfl,sq,_⟩:=c;cases g;cases ek;obtain⟨_,_,p,_⟩:=I.list sq.sq;exact EqAt.str_list a i p.isList h
    |emp=>
     simp only[AY]at c;obtain⟨p,o,rfl,e⟩:=c;cases g;cases ek;obtain⟨_,_,vs,r,q⟩:=qN I.hok (.inr ⟨o,e⟩);exact Uk a i (wA S r q) h
   |tup ds=>
    obtain⟨a,vs,rfl,Q,C⟩:=m;cases w;obtain⟨AT,E,p,_⟩:=I.tuple Q;cases e with
    |non=>cases c;cases g;cases ek;exact EqAt.tuple_none p h
    |bl b=>cases c;cases g;cases ek;exact EqAt.tuple_bool b p h
    |int b=>cases c;obtain⟨t,rfl⟩:=g;cases ek;exact EqAt.tuple_int b t p h
    |str b=>obtain⟨rfl,_⟩:=c;obtain⟨t,rfl⟩:=g;cases ek;exact EqAt.tuple_str b t p h
    |lst es=>obtain⟨b,us,rfl,sq,_⟩:=c;cases g;cases ek;obtain⟨_,_,p2,_⟩:=I.list sq.sq;exact EqAt.tuple_list p p2.isList h
    |tup es=>
     obtain⟨b,us,rfl,N,B⟩:=c;cases g;obtain⟨l,D,p2,_⟩:=I.tuple N;change j4 _ _=Z _ at ek;obtain⟨f,F,rfl⟩:=rP ek;have G:a≠b:=λz=>L ⟨by rw[z],a,rfl⟩;have z:=EqAt.of_refs G (RcAt.tuples (A:=A) (e:=f) p p2 h (items (by simp only[u0]at P;omega) C B E D F));have q1:AT.toArray.size=ds.length:=by rw[zt,<-E.length,C.length]
     have q2:l.toArray.size=es.length:=by rw[zt,<-D.length,B.length]
     rw[q1,q2]at z;exact z
    |emp=>cases ek
   |lst ds=>
    obtain⟨a,vs,rfl,Q,C⟩:=m;cases w;obtain⟨AT,E,p,_⟩:=I.list Q.sq;cases e with
    |non=>cases c;cases g;cases ek;exact EqAt.list_none p.isList h
    |bl b=>cases c;cases g;cases ek;exact EqAt.list_bool b p.isList h
    |int b=>cases c;obtain⟨t,rfl⟩:=g;cases ek;exact EqAt.list_int b t p.isList h
    |str b=>obtain⟨rfl,_⟩:=c;obtain⟨t,rfl⟩:=g;cases ek;exact EqAt.list_str b t p.isList h
    |tup es=>obtain⟨b,us,rfl,sq,_⟩:=c;cases g;cases ek;obtain⟨_,_,p2,_⟩:=I.tuple sq;exact EqAt.list_tuple p.isList p2 h
    |lst es=>
     obtain⟨b,us,rfl,N,B⟩:=c;cases g;obtain⟨l,D,p2,_⟩:=I.list N.sq;change j4 _ _=Z _ at ek;obtain⟨f,F,rfl⟩:=rP ek;have G:a≠b:=λz=>L ⟨by rw[z],a,rfl⟩;have q1:AT.toArray.size=ds.length:=by rw[zt,<-E.length,C.length]
     have q2:l.toArray.size=es.length:=by rw[zt,<-D.length,B.length]
     by_cases a3:AT.toArray.size=l.toArray.size
     ·have z:=EqAt.of_refs G (RcAt.lists (A:=A) (e:=f) p.isList p2.isList a3 h (items (by simp only[u0]at P;omega) C B E D F));have J:ds.length=es.length:=by omega
      rw[q1]at z;rw[J,il,beq_self_eq_true,kM,<-J];exact z
     ·have J:(ds.length==es.length)=false:=by rw[beq_eq_false_iff_ne];omega
      rw[J,KA];exact EqAt.of_refs G (RcAt.lists_lengths p.isList p2.isList (by simpa using a3) h)
    |emp=>cases ek
   |emp=>
    cases e<;>first|(cases ek;done)|skip;simp only[AY]at m c;obtain⟨a,o,rfl,e1⟩:=m;obtain⟨b,o',rfl,e2⟩:=c;cases w;cases g;cases ek;obtain⟨_,m1,vs,r,q⟩:=qN I.hok (.inr ⟨o,e1⟩);obtain⟨_,m2,a4,r',q'⟩:=qN I.hok (.inr ⟨o',e2⟩);exact EqAt.of_refs (λz=>L ⟨by rw[z],a,rfl⟩) (LA m1 m2 (wA S r q) (wA S r' q') h)
theorem Ly(I:L2.AW X AN σ H s){es:O Dt}{us:O V}{c:O A0}{f:Nat->Bool}(D:min (wB ds) (wB es)<=n)(J:A.units+n+1<cLine)(g:aG X.K H ds vs)(e:aG X.K H es us)(h:AZ vs AT)(i:AZ us c)(z:∀(j:Nat) x y,ds[j]?=Z x->es[j]?=Z y->uI x y=Z (f j)):∀j (h1:j<AT.toArray.size) (h2:j<c.toArray.size),EqAt A.in1 s AT.toArray[j] c.toArray[j] (f j):=by
 intro j h1 h2;have F:=h.length;have E:=i.length;have G:=g.length;have C:=e.length;have l:j<AT.length:=by simpa using h1
 have w:j<c.length:=by simpa using h2
 have d:ds[j]?=Z (ds[j]'()):=by simp
 have d2:es[j]?=Z (es[j]'()):=by simp
 obtain⟨a,ea,o⟩:=g.get d;obtain⟨b,eb,m⟩:=e.get d2;obtain⟨p,ep,B⟩:=h.get ea;obtain⟨q,v,u⟩:=i.get eb;have e1:AT.toArray[j]=p:=by simpa[l]using ep
 have e2:c.toArray[j]=q:=by simpa[w]using v
 rw[e1,e2];have L:=rQ d;have m2:=rQ d2;exact LI I n () (by rw[units_in1];omega) o m B u (z j _ _ d d2)
def jF(K:B5)(H:Hp):Dt->V->Prop
 |.lst ds,v=>∃a vs,v=.ref a/\nG K H a vs/\aG K H ds vs
 |d,v=>AY K H d v
def j5:Bx->Bool
 |.n _=>true
 |.m _ _=>true
 |_=>false
def toD:Bx->Dt
 |.z d=>d
 |.l ds=>.lst ds
 |.o ds=>.lst ds
 |.n _=>.non
 |.m _ _=>.non
theorem aX.toD(h:aX K H b v)(a:j5 b=false):jF K H (toD b) v:=by
 cases b with
 |z d=>
  cases d with
  |lst ds=>exact h.Ax rfl
  |_=>exact h
 |l ds=>exact h.Ax rfl
 |o ds=>exact h.Ax rfl
 |n _=>cases a
 |m _ _=>cases a
theorem RM(I:L2.AW X AN σ H s){e:Dt}{x y:V}{v:A0}{k:Bool}(N:min (u0 d) (u0 e)<=100)(hA:X.A.units+100<cLine)(B:jF X.K H d x)(h:jF X.K H e y)(C:At x u)(i:At y v)(ek:uI d e=Z k):RcAt X.A s u v k/\RcNeAt X.A s u v (!k):=by
 have g:X.A.units<cLine:=by omega
 cases d with
 |non=>
  cases B;cases C;cases e with
  |non=>
   cases h;cases i;cases ek;exact⟨.none_none,.none_none⟩
  |bl c=>
   cases h;cases i;cases ek;exact⟨.none_bool c,.none_bool c⟩
  |int c=>
   cases h;obtain⟨t2,rfl⟩:=i;cases ek;exact⟨.none_int c t2,.none_int c t2⟩
  |str c=>
   obtain⟨rfl,_⟩:=h;obtain⟨t2,rfl⟩:=i;cases ek;exact⟨.none_str c t2,.none_str c t2⟩
  |tup c=>
   obtain⟨a2,z,rfl,j,l⟩:=h;cases i;obtain⟨w,m,p2,_⟩:=I.tuple j;cases ek;exact⟨.none_tuple p2 g,.none_tuple p2 g⟩
  |lst c=>
   obtain⟨a2,z,rfl,j,l⟩:=h;cases i;obtain⟨w,m,p2,_⟩:=I.list j;cases ek;exact⟨.none_list p2.isList g,.none_list p2.isList g⟩
  |emp=>cases ek
 |bl x1=>
  cases B;cases C;cases e with
  |non=>
   cases h;cases i;cases ek;exact⟨.bool_none x1,.bool_none x1⟩
  |bl c=>
   cases h;cases i;cases ek;exact⟨.bool_bool x1 c,.bool_bool x1 c⟩
  |int c=>
   cases h;obtain⟨t2,rfl⟩:=i;cases ek;exact⟨.bool_int x1 c t2,.bool_int x1 c t2⟩
  |str c=>
   obtain⟨rfl,_⟩:=h;obtain⟨t2,rfl⟩:=i;cases ek;exact⟨.bool_str x1 c t2,.bool_str x1 c t2⟩
  |tup c=>
   obtain⟨a2,z,rfl,j,l⟩:=h;cases i;obtain⟨w,m,p2,_⟩:=I.tuple j;cases ek;exact⟨.bool_tuple x1 p2 g,.bool_tuple x1 p2 g⟩
  |lst c=>
   obtain⟨a2,z,rfl,j,l⟩:=h;cases i;obtain⟨w,m,p2,_⟩:=I.list j;cases ek;exact⟨.bool_list x1 p2.isList g,.bool_list x1 p2.isList g⟩
  |emp=>cases ek
 |int x1=>
  cases B;obtain⟨t1,rfl⟩:=C;cases e with
  |non=>
   cases h;cases i;cases ek;exact⟨.int_none x1 t1,.int_none x1 t1⟩
  |bl c=>
   cases h;cases i;cases ek;exact⟨.int_bool x1 t1 c,.int_bool x1 t1 c⟩
  |int c=>
   cases h;obtain⟨t2,rfl⟩:=i;cases ek;exact⟨.int_int x1 t1 c t2,.int_int x1 t1 c t2⟩
  |str c=>
   obtain⟨rfl,_⟩:=h;obtain⟨t2,rfl⟩:=i;cases ek;exact⟨.int_str x1 t1 c t2,.int_str x1 t1 c t2⟩
  |tup c=>
   obtain⟨a2,z,rfl,j,l⟩:=h;cases i;obtain⟨w,m,p2,_⟩:=I.tuple j;cases ek;exact⟨.int_tuple x1 t1 p2 g,.int_tuple x1 t1 p2 g⟩
  |lst c=>
   obtain⟨a2,z,rfl,j,l⟩:=h;cases i;obtain⟨w,m,p2,_⟩:=I.list j;cases ek;exact⟨.int_list x1 t1 p2.isList g,.int_list x1 t1 p2.isList g⟩
  |emp=>cases ek
 |str x1=>
  obtain⟨rfl,_⟩:=B;obtain⟨t1,rfl⟩:=C;cases e with
  |non=>
   cases h;cases i;cases ek;exact⟨.str_none x1 t1,.str_none x1 t1⟩
  |bl c=>
   cases h;cases i;cases ek;exact⟨.str_bool x1 t1 c,.str_bool x1 t1 c⟩
  |int c=>
   cases h;obtain⟨t2,rfl⟩:=i;cases ek;exact⟨.str_int x1 t1 c t2,.str_int x1 t1 c t2⟩
  |str c=>
   obtain⟨rfl,_⟩:=h;obtain⟨t2,rfl⟩:=i;cases ek;exact⟨.str_str x1 t1 c t2,.str_str x1 t1 c t2⟩
  |tup c=>
   obtain⟨a2,z,rfl,j,l⟩:=h;cases i;obtain⟨w,m,p2,_⟩:=I.tuple j;cases ek;exact⟨.str_tuple x1 t1 p2 g,.str_tuple x1 t1 p2 g⟩
  |lst c=>
   obtain⟨a2,z,rfl,j,l⟩:=h;cases i;obtain⟨w,m,p2,_⟩:=I.list j;cases ek;exact⟨.str_list x1 t1 p2.isList g,.str_list x1 t1 p2.isList g⟩
  |emp=>
   simp only[jF,AY]at h;obtain⟨p,o,rfl,e⟩:=h;cases i;cases ek;obtain⟨_,_,vs,r,q⟩:=qN I.hok (.inr ⟨o,e⟩);exact⟨GD x1 t1 (wA S r q) g,Uj x1 t1 (wA S r q) g⟩
 |tup x1=>
  obtain⟨a1,W,rfl,L,D⟩:=B;cases C;obtain⟨F,E,p1,_⟩:=I.tuple L;cases e with
  |non=>
   cases h;cases i;cases ek;exact⟨.tuple_none p1 g,.tuple_none p1 g⟩
  |bl c=>
   cases h;cases i;cases ek;exact⟨.tuple_bool c p1 g,.tuple_bool c p1 g⟩
  |int c=>
   cases h;obtain⟨t2,rfl⟩:=i;cases ek;exact⟨.tuple_int c t2 p1 g,.tuple_int c t2 p1 g⟩
  |str c=>
   obtain⟨rfl,_⟩:=h;obtain⟨t2,rfl⟩:=i;cases ek;exact⟨.tuple_str c t2 p1 g,.tuple_str c t2 p1 g⟩
  |tup c=>
   obtain⟨a2,z,rfl,j,l⟩:=h;cases i;obtain⟨w,m,p2,_⟩:=I.tuple j;change j4 _ _=Z _ at ek;obtain⟨f,M,rfl⟩:=rP ek;have q1:F.toArray.size=x1.length:=by rw[zt,<-E.length,D.length]
   have q2:w.toArray.size=c.length:=by rw[zt,<-m.length,l.length]
   have it:=Ly I (n:=99) (A:=X.A) (by simp only[u0]at N;omega) () D l E m M;rw[<-q1,<-q2];exact⟨.tuples p1 p2 g it,.tuples p1 p2 g it⟩
  |lst c=>
   obtain⟨a2,z,rfl,j,l⟩:=h;cases i;obtain⟨w,m,p2,_⟩:=I.list j;cases ek;exact⟨.tuple_list p1 p2.isList g,.tuple_list p1 p2.isList g⟩
  |emp=>cases ek
 |lst x1=>
  obtain⟨a1,W,rfl,L,D⟩:=B;cases C;obtain⟨F,E,p1,_⟩:=I.list L;cases e with
  |non=>
   cases h;cases i;cases ek;exact⟨.list_none p1.isList g,.list_none p1.isList g⟩
  |bl c=>
   cases h;cases i;cases ek;exact⟨.list_bool c p1.isList g,.list_bool c p1.isList g⟩
  |int c=>
   cases h;obtain⟨t2,rfl⟩:=i;cases ek;exact⟨.list_int c t2 p1.isList g,.list_int c t2 p1.isList g⟩
  |str c=>
   obtain⟨rfl,_⟩:=h;obtain⟨t2,rfl⟩:=i;cases ek;exact⟨.list_str c t2 p1.isList g,.list_str c t2 p1.isList g⟩
  |tup c=>
   obtain⟨a2,z,rfl,j,l⟩:=h;cases i;obtain⟨w,m,p2,_⟩:=I.tuple j;cases ek;exact⟨.list_tuple p1.isList p2 g,.list_tuple p1.isList p2 g⟩
  |lst c=>
   obtain⟨a2,z,rfl,j,l⟩:=h;cases i;obtain⟨w,m,p2,_⟩:=I.list j;change j4 _ _=Z _ at ek;obtain⟨f,M,rfl⟩:=rP ek;have q1:F.toArray.size=x1.length:=by rw[zt,<-E.length,D.length]
   have q2:w.toArray.size=c.length:=by rw[zt,<-m.length,l.length]
   have it:=Ly I (n:=99) (A:=X.A) (by simp only[u0]at N;omega) () D l E m M;by_cases G:F.toArray.size=w.toArray.size
   ·have J:x1.length=c.length:=by omega
    rw[J,il,beq_self_eq_true,kM,<-J,<-q1];exact⟨.lists p1.isList p2.isList G g it,.lists p1.isList p2.isList G g it⟩
   ·have J:(x1.length==c.length)=false:=by rw[beq_eq_false_iff_ne];omega
    rw[J,KA];exact⟨.lists_lengths p1.isList p2.isList (by simpa using G) g,.lists_lengths p1.isList p2.isList (by simpa using G) g⟩
  |emp=>cases ek
 |emp=>
  cases e<;>first|(cases ek;done)|skip;simp only[jF,AY]at B h;obtain⟨a,o,rfl,e1⟩:=B;obtain⟨b,o',rfl,e2⟩:=h;cases C;cases i;cases ek;obtain⟨_,Q,vs,r,q⟩:=qN I.hok (.inr ⟨o,e1⟩);obtain⟨_,m2,a3,P,U⟩:=qN I.hok (.inr ⟨o',e2⟩);exact⟨LA Q m2 (wA S r q) (wA S P U) g,ND Q m2 (wA S r q) (wA S P U) g⟩
def Be(a b:Bx):Y Bx:=if j5 a=true\/j5 b=true then Y3 else if min (u0 (toD a)) (u0 (toD b))<=100 then(uI (toD a) (toD b)).bind λk=>Z (.z (.bl k))else Y3
def Lz(a b:Bx):Y Bx:=if j5 a=true\/j5 b=true then Y3 else if min (u0 (toD a)) (u0 (toD b))<=100 then(uI (toD a) (toD b)).bind λk=>Z (.z (.bl (!k)))else Y3
theorem of_eq(f:X.A.units+100<cLine):z9 X (AG .Eq) Be:=by
 intro AN s σ H x y v u Q I i o h;obtain⟨a,b,c,n,j,e,q⟩:=h;unfold Be at e;split at e
 ·cases e
 rename_i d;have g:j5 a=false:=by cases h:j5 a with|false=>rfl|true=>exact absurd (.inl h) d
 have l:j5 b=false:=by cases h:j5 b with|false=>rfl|true=>exact absurd (.inr h) d
 split at e
 ·rename_i m;obtain⟨k,ek,e⟩:=AV e;cases e;exact(RM I m f (n.toD g) (j.toD l) i o ek).1 X.prog X.w X.xe _ ⟨.bl k,H,I,rfl,q _ H (AX.refl H) trivial (by unfold aX AY;rfl)⟩
 ·cases e
theorem wC(f:X.A.units+100<cLine):z9 X (AG .NotEq) Lz:=by
 intro AN s σ H x y v u Q I i o h;obtain⟨a,b,c,n,j,e,q⟩:=h;unfold Lz at e;split at e
 ·cases e
 rename_i d;have g:j5 a=false:=by cases h:j5 a with|false=>rfl|true=>exact absurd (.inl h) d
 have l:j5 b=false:=by cases h:j5 b with|false=>rfl|true=>exact absurd (.inr h) d
 split at e
 ·rename_i m;obtain⟨k,ek,e⟩:=AV e;cases e;exact(RM I m f (n.toD g) (j.toD l) i o ek).2 X.prog X.w X.xe _ ⟨.bl (!k),H,I,rfl,q _ H (AX.refl H) trivial (by unfold aX AY;rfl)⟩
 ·cases e
theorem Ad{i:Int}:aX K H (.z (.int i)) (.int i):=by unfold aX AY;rfl
theorem Ft{b:Bool}:aX K H (.z (.bl b)) (.bl b):=by unfold aX AY;rfl
theorem Ff(h:x.length<=AA):aX K H (.z (.str x)) (.str x):=by unfold aX AY;exact⟨rfl,h⟩
theorem Jd{i:Int}(h:aX K H (.z (.int i)) v):v=.int i:=by simpa only[aX,AY]using h
theorem W9(h:aX K H (.z (.str x)) v):v=.str x/\x.length<=AA:=by simpa only[aX,AY]using h
theorem GL(h:aX K H (.z (.tup ds)) v):∃a vs,v=.ref a/\vU K H a vs/\aG K H ds vs:=by simpa only[aX,AY]using h
def i2(g:Int->Int->Y Dt):Bx->Bx->Y Bx
 |.z (.int i),.z (.int j)=>(g i j).bind λd=>Z (.z d)
 |_,_=>Y3
theorem wD{f:A0->A0->Sem A0}{r:R2}{g:Int->Int->Y Dt}(o:rz X f r)(h:∀i j d H Q,g i j=Z d->(∀v,AY X.K H d v->Q v H)->r (.int i) (.int j) H Q):z9 X f (i2 g):=rz.imp o λx y H Q q=>by
 obtain⟨a,b,c,p,l,e,q⟩:=q;unfold i2 at e;split at e
 ·rename_i i j;obtain⟨d,m,e⟩:=AV e;cases e;rw[Jd p,Jd l];exact h i j d H Q m λv n=>q v H (AX.refl H) trivial n
 ·cases e
theorem Dx{i:Int}:AY K H (.int i) (.int i):=by unfold AY;rfl
theorem Fn{b:Bool}:AY K H (.bl b) (.bl b):=by unfold AY;rfl
abbrev CD:=i2 λi j=>Z (.int (i-j))
abbrev EM:=i2 λi j=>Z (.bl (decide (j<i)))
abbrev IF:=i2 λi j=>Z (.bl (decide (j<=i)))
abbrev rR:=i2 λi j=>if 0<j/\j<1073741824 then Z (.int (i / j))else Y3
abbrev jy:=i2 λi j=>if 0<j then Z (.int (i%j))else Y3
abbrev II:=i2 λi j=>if 0<=j/\j<=1000/\i.natAbs<2 ^ 64 then Z (.int (i ^ j.toNat))else Y3
theorem Je:z9 X (binaryOp .Sub) CD:=wD TH λi j d H Q e q=>by cases e;exact⟨i,j,rfl,rfl,q _ Dx⟩
theorem RN:z9 X (AG .Gt) EM:=wD Tu λi j d H Q e q=>by cases e;exact⟨i,j,rfl,rfl,q _ Fn⟩
theorem cb:z9 X (AG .GtE) IF:=wD XI λi j d H Q e q=>by cases e;exact⟨i,j,rfl,rfl,q _ Fn⟩
theorem nT:z9 X (binaryOp .FloorDiv) rR:=wD Ps λi j d H Q e q=>by
 split at e
 ·rename_i h;cases e;exact⟨i,j,rfl,rfl,h,q _ Dx⟩
 ·cases e
theorem cY:z9 X (binaryOp .Mod) jy:=wD P6 λi j d H Q e q=>by
 split at e
 ·rename_i h;cases e;exact⟨i,j,rfl,rfl,h,q _ Dx⟩
 ·cases e
theorem XX:z9 X (binaryOp .Pow) II:=wD SR λi j d H Q e q=>by
 split at e
 ·rename_i h;cases e;exact⟨i,j,rfl,rfl,⟨h.1,by omega,h.2.2⟩,q _ Dx⟩
 ·cases e
def Xa:Bx->Y Bx
 |.z (.int i)=>Z (.z (.int (-i)))
 |_=>Y3
theorem VS:Mk X (unaryOp .USub) Xa:=DF.imp NO λx H Q q=>by
 obtain⟨a,c,b,e,q⟩:=q;unfold Xa at e;split at e
 ·rename_i i;cases e;exact⟨i,Jd b,q _ H (AX.refl H) trivial Ad⟩
 ·cases e
def Ul:Nat:=1000000
theorem WO:Ul<=AA:=by decide
theorem S2{b:A1}{us:O V}{Q:VK}(I:L2.AW X AN σ H s)(v:nG X.K H l vs)(u:nG X.K H b us)(m:vs.length+us.length<=AA)(q:∀p,H p=Y3->Q (.ref p) (B1 H p (.lst (vs++us)))):
  A7 (bn X) X.A (binaryOp .Add (.ref l) (.ref b)) (EP X AN σ Q) X.xe s:=by
 obtain⟨AT,d,⟨⟨G,x,E,sl⟩,i,e1,c1,f,g⟩,z1⟩:=I.list v;obtain⟨a,c,⟨⟨cls2,D,C,j⟩,n,e2,c2,d2,h⟩,z2⟩:=I.list u;simp only at c1 f g c2 d2 h;subst c1 f g c2 d2 h;have z:=d.length;have y:=c.length;have e:AT.toArray++a.toArray=(AT++a).toArray:=by simp
 refine concat_meets ⟨_,e1,rfl⟩ ⟨_,e2,rfl⟩ noFill_list_add seq_list_add PySem.F.slot_list_add PySem.F.entry_list_add (PySem.F.args_list_add_2 _ _) (list_addW l b AT.toArray a.toArray i n Y3 Y3 sl j (by rw[zt,zt];omega)) ⟨e1,e2,?_⟩;rw[e];exact⟨.ref s.heap.objs.size,_,I.laid (t':=s.toks) (o:=.lst (vs++us)) (λb B q=>zd _ q) (zi _) ⟨by rw[ZA];exact m,_,0,d.append c,zl _ rfl⟩,rfl,q _ (I.hok.fresh (zi _))⟩
theorem c6{b:A1}{us:O V}{Q:VK}(I:L2.AW X AN σ H s)(f:vU X.K H l vs)(d:vU X.K H b us)(m:vs.length+us.length<=AA)(q0:vs=[]->Q (.ref b) H)(q1:us=[]->Q (.ref l) H)(q2:∀p,H p=Y3->Q (.ref p) (B1 H p (.tup (vs++us)))):
  A7 (bn X) X.A (binaryOp .Add (.ref l) (.ref b)) (EP X AN σ Q) X.xe s:=by
 by_cases a:vs=[]
 ·obtain⟨AT,h,⟨⟨x,j,v,sl⟩,e1,c1,o,c⟩,z1⟩:=I.tuple f;obtain⟨q,u,⟨⟨cls2,g,y,i⟩,e2,c2,n,e⟩,z2⟩:=I.tuple d;simp only at c1 c c2 e;subst c1 c c2 e;have:AT=[]:=h.Av.mpr a;exact concat_meets ⟨_,e1,rfl⟩ ⟨_,e2,rfl⟩ noFill_tuple_add seq_tuple_add PySem.F.slot_tuple_add yB (yi _ _)
   (tuple_addW0 l b AT.toArray q.toArray o n j g sl i (by simp[this])) ⟨e1,e2,⟨.ref b,H,I,rfl,q0 a⟩⟩
 ·exact S' AN s σ H (.ref l) (.ref b) (.ref l) (.ref b) Q I S S ⟨l,b,vs,us,rfl,rfl,f,d,a,m,q1,λ_=>q2⟩
def iV:Bx->Bx->Y Bx
 |.z (.int i),.z (.int j)=>Z (.z (.int (i+j)))
 |.z (.str i),.z (.str j)=>if i.length+j.length<=Ul then Z (.z (.str (i++j)))else Y3
 |.z (.tup xs),.z (.tup ys)=>if xs.length+ys.length<=Ul then Z (.z (.tup (xs++ys)))else Y3
 |a,b=>(lY a).bind λxs=>(lY b).bind λys=>if xs.length+ys.length<=Ul then Z (.o (xs++ys))else Y3
theorem D9(i j:AJ):(i++j).length=i.length+j.length:=by
 show(i.cps++j.cps).size=_;rw[kX];rfl
theorem dF:z9 X (binaryOp .Add) iV:=by
 intro AN s σ H x y v u Q I o A h;obtain⟨a,b,c,w,g,e,q⟩:=h;have C:=WO;unfold iV at e;split at e
 ·rename_i i j;cases e;exact RS AN s σ H x y v u Q I o A ⟨i,j,Jd w,Jd g,q _ H (AX.refl H) trivial Ad⟩
 ·rename_i i j;split at e
  ·rename_i B;cases e;exact O2 AN s σ H x y v u Q I o A ⟨i,j,(W9 w).1,(W9 g).1,by omega,q _ H (AX.refl H) trivial (Ff (by rw[D9];omega))⟩
  ·cases e
 ·rename_i xs ys;split at e
  ·rename_i B;cases e;obtain⟨l,vs,rfl,sl,f⟩:=GL w;obtain⟨m,us,rfl,n,d⟩:=GL g;cases o;cases A;have h1:=f.length;have h2:=d.length;refine c6 I sl n () (λz=>q _ H (AX.refl H) trivial ?_) (λz=>q _ H (AX.refl H) trivial ?_) λp hp=>q _ _ (bf hp) trivial ?_
   ·unfold aX AY;refine⟨m,us,rfl,n,?_⟩;have:xs=[]:=by subst z;exact eA (by simpa using h1.symm)
    rw[this,Ki];exact d
   ·unfold aX AY;refine⟨l,vs,rfl,sl,?_⟩;have:ys=[]:=by subst z;exact eA (by simpa using h2.symm)
    rw[this,kD];exact f
   ·unfold aX AY;exact⟨p,_,rfl,.inl (.inl aJ),(f.append d).kp (.of (bf hp))⟩
  ·cases e
 ·obtain⟨xs,ea,e⟩:=AV e;obtain⟨ys,eb,e⟩:=AV e;split at e
  ·rename_i B;cases e;obtain⟨l,vs,rfl,sl,f⟩:=w.Ax ea;obtain⟨m,us,rfl,n,d⟩:=g.Ax eb;cases o;cases A;have h1:=f.length;have h2:=d.length;refine S2 I sl n () λp hp=>q _ _ (bf hp) (λa ea=>by cases ea;exact hp) ⟨p,_,rfl,aJ,(f.append d).kp (.of (bf hp))⟩
  ·cases e
def wF:Bx->Bx->Y Bx
 |.z (.int i),.z (.int j)=>if(-(2 ^ 64)<i/\i<2 ^ 64)\/(-(2 ^ 64)<j/\j<2 ^ 64)then Z (.z (.int (i*j)))else Y3
 |.z (.str x),.z (.int n)=>if n<=1000 ∧ -1000<=n/\x.length<=1000 then Z (.z (.str (Txt.mul x n)))else Y3
 |_,_=>Y3
theorem uJ(x:Array Nat):∀(n:Nat) (a:Array Nat),((ab n x).foldl (·++·) a).size=a.size+n*x.size
 |0,a=>by simp
 |n+1,a=>by
  rw[qo,ja,uJ x n,kX,ej];omega
theorem Jf(x:AJ)(n:Int):(Txt.mul x n).length<=n.toNat*x.length+x.length:=by
 unfold Txt.mul;split
 ·exact qc _
 ·split
  ·exact Nat.le_add_left _ _
  ·show((ab n.toNat x.cps).foldl (·++·) #[]).size<=_;rw[uJ];show(#[]:Array Nat).size+n.toNat*x.cps.size<=n.toNat*x.cps.size+x.cps.size;simp
theorem rT:z9 X (binaryOp .Mult) wF:=by
 intro AN s σ H x y v u Q I g o h;obtain⟨a,b,c,m,l,e,q⟩:=h;unfold wF at e;split at e
 ·rename_i i j;split at e
  ·rename_i f;cases e;exact OO AN s σ H x y v u Q I g o ⟨i,j,Jd m,Jd l,f,q _ H (AX.refl H) trivial Ad⟩
  ·cases e
 ·rename_i d n;split at e
  ·rename_i f;cases e;obtain⟨rfl,hx⟩:=W9 m;have w:=Jd l;subst w;obtain⟨t,rfl⟩:=g;obtain⟨z,rfl⟩:=o;have B:AA=16777216:=sizeLine_eq;have A:n.toNat*d.length<=1000*1000:=Nat.mul_le_mul () f.2.2;refine SB.mul ⟨?_,λh1 h2=>?_,λh1 h2=>?_⟩ λz k=>⟨.str _,H,I.tok _,⟨_,rfl⟩,q _ H (AX.refl H) trivial (Ff (zv (Jf d n) ()))⟩
   ·have e1:decide (n < -(2 ^ 63:Int))=false:=Zp ();have e2:decide (n>=2 ^ 63)=false:=Zp ();rw[e1,e2];rfl
   ·have p:0<n:=by omega
    have:(1000:Int)<=(2 ^ 63-1) / n:=(Int.le_ediv_iff_mul_le p).mpr ();omega
   ·show decide (d.length*n.toNat>AA)=false;rw[ik];exact Zp ()
  ·cases e
 ·cases e
def Ll(i j:AJ):Bool:=!(Builtin.Str.occurrences j i 0 j.length 1).isEmpty
def wG:Dt->Bool
 |.non=>true
 |.bl _=>true
 |.int _=>true
 |.str _=>true
 |_=>false
def CB(x:Dt)(ys:O Dt):Y Bool:=if wG x=true/\ys.all wG=true then Z (ys.any λy=>match uI y x with|some true=>true|_=>false)else Y3
def wH:Bx->Y (O Dt)
 |.z (.lst ds)=>Z ds
 |.z (.tup ds)=>Z ds
 |.l ds=>Z ds
 |.o ds=>Z ds
 |_=>Y3
def EQ:Bx->Bx->Y Bool
 |.z (.str i),.z (.str j)=>Z (Ll i j)
 |.z d,b=>(wH b).bind λys=>CB d ys
 |_,_=>Y3
def inF(a b:Bx):Y Bx:=(EQ a b).bind λk=>Z (.z (.bl k))
def FH(a b:Bx):Y Bx:=(EQ a b).bind λk=>Z (.z (.bl (!k)))
theorem LC(r:AY K H d v)(f:wG d=true):qM v=true:=by
 cases d<;>first|(cases f;done)|skip
 all_goals simp only[AY]at r
 ·subst r;rfl
 ·subst r;rfl
 ·subst r;rfl
 ·obtain⟨rfl,_⟩:=r;rfl
theorem GF{K:B5}{H:Hp}:∀{ds:O Dt} {vs:O V},aG K H ds vs->ds.all wG=true->vs.all qM=true
 |[],_,h,_=>by simp only[aG]at h;subst h;rfl
 |d::ds,_,h,f=>by
  simp only[aG]at h;obtain⟨v,r,rfl,h1,h2⟩:=h;rw[kK,ZO]at f;rw[kK,LC h1 f.1,GF h2 f.2];rfl
theorem Jg(b:Bool):(match Z b with|some true=>true|_=>false)=b:=by cases b<;>rfl
theorem bX{e:Dt}{x y:V}(b:AY K H d x)(a:AY K H e y)(fd:wG d=true)(fe:wG e=true):D5 x y=(match uI d e with|some true=>true|_=>false):=by
 cases d<;>first|(cases fd;done)|skip
 all_goals (cases e<;>first|(cases fe;done)|skip)
 all_goals simp only[AY]at b a
 all_goals first
  |(subst b;subst a;exact(Jg _).symm)
  |(obtain⟨rfl,_⟩:=b;subst a;exact(Jg _).symm)
  |(subst b;obtain⟨rfl,_⟩:=a;exact(Jg _).symm)
  |(obtain⟨rfl,_⟩:=b;obtain⟨rfl,_⟩:=a;exact(Jg _).symm)
theorem RQ{K:B5}{H:Hp}{d:Dt}{x:V}(a:AY K H d x)(fd:wG d=true):∀{ds:O Dt} {vs:O V},aG K H ds vs->ds.all wG=true->FA x vs=ds.any λy=>match uI y d with|some true=>true|_=>false
 |[],_,h,_=>by simp only[aG]at h;subst h;rfl
 |e::ds,_,h,f=>by
  simp only[aG]at h;obtain⟨v,r,rfl,h1,h2⟩:=h;rw[kK,ZO]at f;have:=RQ a fd h2 f.2;unfold FA at this ⊢;rw[JY,JY,bX h1 a f.1 fd,this]
theorem wI(h:aX K H b v)(e:wH b=Z ds):∃a vs,v=.ref a/\(nG K H a vs\/vU K H a vs)/\aG K H ds vs:=by
 cases b with
 |z d=>
  cases d<;>first|(cases e;done)|skip
  ·cases e;obtain⟨a,vs,e,q,r⟩:=GL h;exact⟨a,vs,e,.inr q,r⟩
  ·cases e;obtain⟨a,vs,e,q,r⟩:=h.Ax rfl;exact⟨a,vs,e,.inl q,r⟩
 |l c=>
  cases e;obtain⟨a,vs,e,q,r⟩:=h.Ax rfl;exact⟨a,vs,e,.inl q,r⟩
 |o c=>
  cases e;obtain⟨a,vs,e,q,r⟩:=h.Ax rfl;exact⟨a,vs,e,.inl q,r⟩
 |n _=>cases e
 |m _ _=>cases e
theorem GJ{a:Bx}{x y:V}{k:Bool}(h:aX X.K H a x)(f:aX X.K H b y)(e:EQ a b=Z k):
  (∃i j,x=.str i/\y=.str j/\k=Ll i j)\/(∃p xs,y=.ref p/\(nG X.K H p xs\/vU X.K H p xs)/\qM x=true/\xs.all qM=true/\k=FA x xs):=by
 unfold EQ at e;split at e
 ·rename_i i j;cases e;exact .inl ⟨i,j,(W9 h).1,(W9 f).1,rfl⟩
 ·rename_i d _;obtain⟨ys,m,e⟩:=AV e;unfold CB at e;split at e
  ·rename_i c;cases e;obtain⟨p,vs,rfl,sq,g⟩:=wI f m;have l:AY X.K H d x:=h;exact .inr ⟨p,vs,rfl,sq,LC l c.1,GF g c.2,(RQ l c.1 g c.2).symm⟩
  ·cases e
 ·cases e
theorem Xc:z9 X (AG .In) inF:=by
 intro AN s σ H x y v u Q I d f h;obtain⟨a,b,c,l,g,e,q⟩:=h;obtain⟨k,ek,e⟩:=AV e;cases e;rcases GJ l g ek with⟨i,j,rfl,rfl,rfl⟩|⟨p,xs,rfl,sq,f1,f2,rfl⟩
 ·exact T5 AN s σ H _ _ v u Q I d f ⟨i,j,rfl,rfl,q _ H (AX.refl H) trivial Ft⟩
 ·exact T8 AN s σ H _ _ v u Q I d f ⟨p,xs,rfl,sq,f1,f2,q _ H (AX.refl H) trivial Ft⟩
theorem Xd:z9 X (AG .NotIn) FH:=by
 intro AN s σ H x y v u Q I d f h;obtain⟨a,b,c,l,g,e,q⟩:=h;obtain⟨k,ek,e⟩:=AV e;cases e;rcases GJ l g ek with⟨i,j,rfl,rfl,rfl⟩|⟨p,xs,rfl,sq,f1,f2,rfl⟩
 ·exact Ip AN s σ H _ _ v u Q I d f ⟨i,j,rfl,rfl,q _ H (AX.refl H) trivial Ft⟩
 ·exact Io AN s σ H _ _ v u Q I d f ⟨p,xs,rfl,sq,f1,f2,q _ H (AX.refl H) trivial Ft⟩
def Pj:Bx->Bool
 |.z .non=>true
 |_=>false
theorem Um(h:aX K H b v):decide (v=.non)=Pj b:=by
 cases b with
 |z d=>
  cases d<;>simp only[aX,AY]at h
  ·subst h;rfl
  ·subst h;rfl
  ·subst h;rfl
  ·obtain⟨rfl,_⟩:=h;rfl
  ·obtain⟨_,_,rfl,_⟩:=h;rfl
  ·obtain⟨_,_,rfl,_⟩:=h;rfl
  ·obtain⟨_,_,rfl,_⟩:=h;rfl
 |l ds=>obtain⟨_,_,rfl,_⟩:=h;rfl
 |o ds=>obtain⟨_,_,rfl,_⟩:=h;rfl
 |n ds=>obtain⟨_,_,rfl,_⟩:=h;rfl
 |m ds _=>obtain⟨_,_,rfl,_⟩:=h;rfl
def EE(a:Bx):Bx->Y Bx
 |.z .non=>Z (.z (.bl (Pj a)))
 |_=>Y3
theorem DT:z9 X (AG .Is) EE:=rz.imp Se λx y H Q q=>by
 obtain⟨a,b,c,f,d,e,q⟩:=q;unfold EE at e;split at e
 ·cases e;simp only[aX,AY]at d;exact⟨d,by rw[Um f];exact q _ H (AX.refl H) trivial Ft⟩
 ·cases e
def iw:Bx->Bx->Y Bx
 |.z (.str x),.z (.int i)=>(Fj x.cps.toList i).bind λc=>Z (.z (.str ⟨#[c]⟩))
 |b,.z (.int i)=>(wH b).bind λds=>(Fj ds i).bind λd=>Z (.z d)
 |_,_=>Y3
theorem Op{i:Int}(r:aG K H ds vs)(e:Fj ds i=Z d):∃v,Fj vs i=Z v/\AY K H d v:=by
 unfold Fj at e ⊢;rw[r.length];obtain⟨j,a,e⟩:=AV e;rw[a];exact r.get e
theorem bG{a b:Expr}(j:QV X a fa)(m:QV X b fb)(hs:Ru b:=by intro _ _;with_unfolding_all rfl):QV X (.Subscript a b pos) (b2 iw fa fb):=⟨have j:=j.run;have m:=m.run;Ay (SG NU j m hs) λσ H Q h=>by
 obtain⟨H0,ρ,c,E,e,q⟩:=h;obtain⟨a,ea,e⟩:=AV e;obtain⟨b,eb,e⟩:=AV e;refine⟨H0,ρ,a,E,ea,λv H1 f D y=>⟨H0,ρ,b,E.grow f,eb,λu H2 g F n=>?_⟩⟩;have l:=y.same g;unfold iw at e;split at e
 ·rename_i x i;obtain⟨c',z,e⟩:=AV e;cases e;exact .inr (.inr ⟨_,_,c',(W9 l).1,Jd n,(W9 l).2,z,q _ _ (f.trans g) trivial (Ff (by show(1:Nat)<=AA;decide))⟩)
 ·obtain⟨ds,A,e⟩:=AV e;obtain⟨d,C,e⟩:=AV e;cases e;obtain⟨p,vs,rfl,sq,B⟩:=wI l A;obtain⟨w,s,o⟩:=Op B C;have hi:=Jd n;rcases sq with sq|sq
  ·exact .inl ⟨p,vs,_,w,rfl,hi,sq,s,q _ _ (f.trans g) trivial o⟩
  ·exact .inr (.inl ⟨p,vs,_,w,rfl,hi,sq,s,q _ _ (f.trans g) trivial o⟩)
 ·cases e⟩
theorem R':AH "bool"=Z (.type "bool"):=by decide +kernel
theorem Xe:AH "int"=Z (.type "int"):=by decide +kernel
theorem jG:AH "tuple"=Z (.type "tuple"):=by decide +kernel
theorem Xs:AH "list"=Z (.type "list"):=by decide +kernel
theorem oY:AH "isinstance"=Z (.builtin "isinstance"):=by decide +kernel
theorem fD:AH "len"=Z (.builtin "len"):=by decide +kernel
theorem YR:AH "abs"=Z (.builtin "abs"):=by decide +kernel
theorem Pk:AH "all"=Z (.builtin "all"):=by decide +kernel
theorem Xf:AH "any"=Z (.builtin "any"):=by decide +kernel
theorem Xg:AH "min"=Z (.builtin "min"):=by decide +kernel
theorem Jh:AH "max"=Z (.builtin "max"):=by decide +kernel
theorem j6:AH "sorted"=Z (.builtin "sorted"):=by decide +kernel
theorem On:AH "sum"=Z (.builtin "sum"):=by decide +kernel
def BM:Dt->Bool
 |.bl _=>true
 |_=>false
theorem Xh(I:L2.AW X AN σ H s){x:V}{v:A0}{Q:VK}(f:jF X.K H d x)(g:At x v)(q:Q (.bl (BM d)) H):A7 (bn X) X.A (call (.builtin "isinstance") [v,.type "bool"]) (EP X AN σ Q) X.xe s:=by
 cases d with
 |non=>simp only[jF,AY]at f;subst f;cases g;exact IsiPair.NoneType_bool ⟨.bl _,H,I.tok _,rfl,q⟩
 |bl b=>simp only[jF,AY]at f;subst f;cases g;exact IsiPair.bool_bool ⟨.bl _,H,I,rfl,q⟩
 |int b=>simp only[jF,AY]at f;subst f;obtain⟨t,rfl⟩:=g;exact IsiPair.int_bool ⟨.bl _,H,I.tok _,rfl,q⟩
 |str b=>simp only[jF,AY]at f;obtain⟨rfl,_⟩:=f;obtain⟨t,rfl⟩:=g;exact IsiPair.str_bool ⟨.bl _,H,I.tok _,rfl,q⟩
 |tup ds=>simp only[jF,AY]at f;obtain⟨a,vs,rfl,sq,_⟩:=f;cases g;obtain⟨_,_,p,_⟩:=I.tuple sq;exact IsiPair.isTuple_bool p (λ_ _ e=>e) ⟨.bl _,H,I.tok _,rfl,q⟩
 |lst ds=>simp only[jF]at f;obtain⟨a,vs,rfl,sq,_⟩:=f;cases g;obtain⟨_,_,p,_⟩:=I.list sq;exact IsiPair.isList_bool p.isList (λ_ _ e=>e) ⟨.bl _,H,I.tok _,rfl,q⟩
 |emp=>simp only[jF,AY]at f;obtain⟨a,o,rfl,sq⟩:=f;cases g;obtain⟨h,e,c⟩:=qb I sq;exact IsiPair.dict_bool e c ⟨.bl _,H,I.tok _,rfl,q⟩
theorem LK{p:Pos}(he:QV X e f)(m:Gl X "isinstance")(w:X.mg "isinstance"=Y3)(n:Gl X "bool")(A:X.mg "bool"=Y3)(hs:A9 [e,.Name "bool" p2] X.env=[(false,eval e X.env),(false,eval (.Name "bool" p2) X.env)]:=by rfl):QV X (.Call (.Name "isinstance" p) [e,.Name "bool" p2] [] pos) (b1 (λb=>if j5 b=true then Y3 else Z (.z (.bl (BM (toD b))))) f):=⟨by
 have he:=he.run;have g:fK X (.builtin "isinstance") (λxs H Q=>∃b x,xs=[x,.ty "bool"]/\aX X.K H b x/\j5 b=false/\Q (.bl (BM (toD b))) H):=by
  intro AN s σ H xs us Q I r h;obtain⟨b,x,rfl,l,o,q⟩:=h;obtain⟨u,B,rfl,a,d⟩:=C6 r;cases d;exact Xh I (l.toD o) a q
 have i:PA X [e,.Name "bool" p2] (uF (tF X.K f) (uF (tC (.ty "bool")) O4)):=bD he (bD (Ih n A (v:=.ty "bool") (u:=.type "bool") R' S) fQ) (by rw[hs]<;>rfl);refine Ay (rE g m w oY i () () (by rw[hs]<;>rfl) S) λσ H Q h=>?_;obtain⟨H0,ρ,c,E,e,q⟩:=h;obtain⟨b,eb,e⟩:=AV e;split at e
 ·cases e
 rename_i y;cases e;exact⟨H0,ρ,b,E,eb,λv H1 j C a=>⟨b,v,rfl,a,by simpa using y,q _ _ j trivial Ft⟩⟩⟩
def yM:Dt->Bool
 |.bl _=>true
 |.int _=>true
 |_=>false
theorem TZ(I:L2.AW X AN σ H s){x:V}{v:A0}{Q:VK}(f:jF X.K H d x)(g:At x v)(q:Q (.bl (yM d)) H):A7 (bn X) X.A (call (.builtin "isinstance") [v,.type "int"]) (EP X AN σ Q) X.xe s:=by
 cases d with
 |non=>simp only[jF,AY]at f;subst f;cases g;exact IsiPair.NoneType_int ⟨.bl _,H,I.tok _,rfl,q⟩
 |bl b=>simp only[jF,AY]at f;subst f;cases g;exact IsiPair.bool_int ⟨.bl _,H,I,rfl,q⟩
 |int b=>simp only[jF,AY]at f;subst f;obtain⟨t,rfl⟩:=g;exact IsiPair.int_int ⟨.bl _,H,I,rfl,q⟩
 |str b=>simp only[jF,AY]at f;obtain⟨rfl,_⟩:=f;obtain⟨t,rfl⟩:=g;exact IsiPair.str_int ⟨.bl _,H,I.tok _,rfl,q⟩
 |tup ds=>simp only[jF,AY]at f;obtain⟨a,vs,rfl,sq,_⟩:=f;cases g;obtain⟨_,_,p,_⟩:=I.tuple sq;exact IsiPair.isTuple_int p (λ_ _ e=>e) ⟨.bl _,H,I.tok _,rfl,q⟩
 |lst ds=>simp only[jF]at f;obtain⟨a,vs,rfl,sq,_⟩:=f;cases g;obtain⟨_,_,p,_⟩:=I.list sq;exact IsiPair.isList_int p.isList (λ_ _ e=>e) ⟨.bl _,H,I.tok _,rfl,q⟩
 |emp=>simp only[jF,AY]at f;obtain⟨a,o,rfl,sq⟩:=f;cases g;obtain⟨h,e,c⟩:=qb I sq;exact IsiPair.dict_int e c ⟨.bl _,H,I.tok _,rfl,q⟩
theorem Pn{p:Pos}(he:QV X e f)(m:Gl X "isinstance")(w:X.mg "isinstance"=Y3)(n:Gl X "int")(A:X.mg "int"=Y3)(hs:A9 [e,.Name "int" p2] X.env=[(false,eval e X.env),(false,eval (.Name "int" p2) X.env)]:=by rfl):QV X (.Call (.Name "isinstance" p) [e,.Name "int" p2] [] pos) (b1 (λb=>if j5 b=true then Y3 else Z (.z (.bl (yM (toD b))))) f):=⟨by
 have he:=he.run;have g:fK X (.builtin "isinstance") (λxs H Q=>∃b x,xs=[x,.ty "int"]/\aX X.K H b x/\j5 b=false/\Q (.bl (yM (toD b))) H):=by
  intro AN s σ H xs us Q I r h;obtain⟨b,x,rfl,l,o,q⟩:=h;obtain⟨u,B,rfl,a,d⟩:=C6 r;cases d;exact TZ I (l.toD o) a q
 have i:PA X [e,.Name "int" p2] (uF (tF X.K f) (uF (tC (.ty "int")) O4)):=bD he (bD (Ih n A (v:=.ty "int") (u:=.type "int") Xe S) fQ) (by rw[hs]<;>rfl);refine Ay (rE g m w oY i () () (by rw[hs]<;>rfl) S) λσ H Q h=>?_;obtain⟨H0,ρ,c,E,e,q⟩:=h;obtain⟨b,eb,e⟩:=AV e;split at e
 ·cases e
 rename_i y;cases e;exact⟨H0,ρ,b,E,eb,λv H1 j C a=>⟨b,v,rfl,a,by simpa using y,q _ _ j trivial Ft⟩⟩⟩
def eG:Dt->Bool
 |.tup _=>true
 |_=>false
theorem Uo(I:L2.AW X AN σ H s){x:V}{v:A0}{Q:VK}(f:jF X.K H d x)(g:At x v)(q:Q (.bl (eG d)) H):A7 (bn X) X.A (call (.builtin "isinstance") [v,.type "tuple"]) (EP X AN σ Q) X.xe s:=by
 cases d with
 |non=>simp only[jF,AY]at f;subst f;cases g;exact IsiPair.NoneType_tuple ⟨.bl _,H,I.tok _,rfl,q⟩
 |bl b=>simp only[jF,AY]at f;subst f;cases g;exact IsiPair.bool_tuple ⟨.bl _,H,I.tok _,rfl,q⟩
 |int b=>simp only[jF,AY]at f;subst f;obtain⟨t,rfl⟩:=g;exact IsiPair.int_tuple ⟨.bl _,H,I.tok _,rfl,q⟩
 |str b=>simp only[jF,AY]at f;obtain⟨rfl,_⟩:=f;obtain⟨t,rfl⟩:=g;exact IsiPair.str_tuple ⟨.bl _,H,I.tok _,rfl,q⟩
 |tup ds=>simp only[jF,AY]at f;obtain⟨a,vs,rfl,sq,_⟩:=f;cases g;obtain⟨_,_,p,_⟩:=I.tuple sq;exact IsiPair.isTuple_tuple p (λ_ _ e=>e) ⟨.bl _,H,I,rfl,q⟩
 |lst ds=>simp only[jF]at f;obtain⟨a,vs,rfl,sq,_⟩:=f;cases g;obtain⟨_,_,p,_⟩:=I.list sq;exact IsiPair.isList_tuple p.isList (λ_ _ e=>e) ⟨.bl _,H,I.tok _,rfl,q⟩
 |emp=>simp only[jF,AY]at f;obtain⟨a,o,rfl,sq⟩:=f;cases g;obtain⟨h,e,c⟩:=qb I sq;exact IsiPair.dict_tuple e c ⟨.bl _,H,I.tok _,rfl,q⟩
theorem wJ{p:Pos}(he:QV X e f)(m:Gl X "isinstance")(w:X.mg "isinstance"=Y3)(n:Gl X "tuple")(A:X.mg "tuple"=Y3)(hs:A9 [e,.Name "tuple" p2] X.env=[(false,eval e X.env),(false,eval (.Name "tuple" p2) X.env)]:=by rfl):QV X (.Call (.Name "isinstance" p) [e,.Name "tuple" p2] [] pos) (b1 (λb=>if j5 b=true then Y3 else Z (.z (.bl (eG (toD b))))) f):=⟨by
 have he:=he.run;have g:fK X (.builtin "isinstance") (λxs H Q=>∃b x,xs=[x,.ty "tuple"]/\aX X.K H b x/\j5 b=false/\Q (.bl (eG (toD b))) H):=by
  intro AN s σ H xs us Q I r h;obtain⟨b,x,rfl,l,o,q⟩:=h;obtain⟨u,B,rfl,a,d⟩:=C6 r;cases d;exact Uo I (l.toD o) a q
 have i:PA X [e,.Name "tuple" p2] (uF (tF X.K f) (uF (tC (.ty "tuple")) O4)):=bD he (bD (Ih n A (v:=.ty "tuple") (u:=.type "tuple") jG S) fQ) (by rw[hs]<;>rfl);refine Ay (rE g m w oY i () () (by rw[hs]<;>rfl) S) λσ H Q h=>?_;obtain⟨H0,ρ,c,E,e,q⟩:=h;obtain⟨b,eb,e⟩:=AV e;split at e
 ·cases e
 rename_i y;cases e;exact⟨H0,ρ,b,E,eb,λv H1 j C a=>⟨b,v,rfl,a,by simpa using y,q _ _ j trivial Ft⟩⟩⟩
def RY(K:B5)(f:Ev->Y (Y Int)):TO:=λσ H Q=>∃H0 ρ o,aY K H0 H σ ρ/\f ρ=Z o/\∀H',AX H H'->Q o H'
def Th(X:Cx)(e:Y Expr)(f:Ev->Y (Y Int)):Prop:=PO X e (RY X.K f)
structure GG (X:Cx) (e:Option Expr) (f:Ev->Option (Option Int)):Prop where
 run:Th X e f
theorem Mb{e:Y Expr}{t t':TO}(h:PO X e t)(m:∀ σ H Q,t' σ H Q->t σ H Q):PO X e t':=λAN s σ H Q I q=>h AN s σ H Q I (m σ H Q q)
def iW:Ev->Y (Y Int):=λ_=>Z Y3
theorem eN  :GG X Y3 iW:=⟨Mb V' λσ H Q h=>by
 obtain⟨H0,ρ,o,E,e,q⟩:=h;cases e;exact q H (AX.refl H)⟩
def HA:Bx->Y (Y Int)
 |.z (.int i)=>Z (Z i)
 |_=>Y3
def lu(f:Ev->Y Bx):Ev->Y (Y Int):=λρ=>(f ρ).bind HA
theorem eU(h:QV X e f):GG X (Z e) (lu f):=⟨have h:=h.run;Mb (X1 h) λσ H Q q=>by
 obtain⟨H0,ρ,o,E,e,q⟩:=q;obtain⟨b,eb,e⟩:=AV e;refine⟨H0,ρ,b,E,eb,λv H1 c d a=>?_⟩;unfold HA at e;split at e
 ·rename_i i;cases e;exact⟨i,Jd a,q H1 c⟩
 ·cases e⟩
def C4(xs:O Dt)(lo hi:Y Int):O Dt:=(xs.drop (HT.gZ xs.length 0 lo)).take (HT.gZ xs.length xs.length hi-HT.gZ xs.length 0 lo)
theorem LQ(r:aG K H ds vs)(lo hi:Y Int):aG K H (C4 ds lo hi) (KR vs lo hi):=by
 unfold C4 KR;rw[r.length];exact(r.drop _).take _
theorem Xi(ds:O Dt)(h1:HT.gZ ds.length 0 lo=0)(h2:HT.gZ ds.length ds.length hi=ds.length):C4 ds lo hi=ds:=by
 unfold C4;rw[h1,h2];simp
theorem wK{t sl:A1}{c b:A0}{Q:BC}(a:IsTup s.heap t items)(hs:s.heap.IsSliceOf sl c b .none)(pl:IsPart c lo)(g:IsPart b hi)(h1:HT.gZ items.size 0 lo=0)(h2:HT.gZ items.size items.size hi=items.size)(h:Q (.ref t) s):A7 (A8 prog w) A (getItem (.ref t) (.ref sl)) Q E s:=by
 obtain⟨os,d,f,j⟩:=id hs;have i:s.TypeIs (.ref sl) "slice":=⟨os,d,f⟩;unfold getItem
 try with_reducible refine qr ?_
 first|refine zb (ze ?_)|skip
 refine zb (wpAny_sequenceKey a.typeIs () ?_);refine zb (yz (name:=Str.ofString "__getitem__") a.typeIs PyProof.Rows.slot_tuple_getitem
  (jb PyProof.Rows.slot_tuple_getitem a.typeIs entry_tuple_getitem ?_ (args_tuple_getitem _ _)))
 show A7 _ _ (Builtin.Tuple.tupleItemsOf (.ref t) >>= _) _ _ s;refine zb (tupleItemsOf_ a ?_);refine zb (Q3 i ?_);rw[zo ()];refine zb (HT.pq hs pl g ?_);have e:(((HT.gZ items.size 0 lo:Nat):Int)==0&&(1:Int)==1&&(HT.gZ items.size items.size hi-HT.gZ items.size 0 lo)==items.size)=true:=by
  rw[h1,h2];simp
 show A7 _ _ (if(((HT.gZ items.size 0 lo:Nat):Int)==0&&(1:Int)==1&&(HT.gZ items.size items.size hi-HT.gZ items.size 0 lo)==items.size)=true then _ else _) _ _ s;rw[zo e]
 first
  |refine zb (zb (Q3 a.typeIs (ze ?_)))
  |refine zb (Q3 a.typeIs (zb (ze ?_)))
  |refine zb (Q3 a.typeIs ?_)
 rw[zo ()]
 first
  |exact zb (ke (ze ⟨_,rfl,ze h⟩))
  |exact zb (ke (zb (ze (ze ⟨_,rfl,ze h⟩))))
def EN(b:Bx)(lo hi:Y Int):Y Bx:=match b with
 |.z (.str x)=>Z (.z (.str (Txt.slice x lo hi)))
 |.z (.tup ds)=>Z (.z (.tup (C4 ds lo hi)))
 |b=>(lY b).bind λds=>Z (.o (C4 ds lo hi))
def WP(K:B5):V->Y Int->Y Int->Hp->VK->Prop:=λx lo hi H Q=>∃b c,aX K H b x/\EN b lo hi=Z c/\∀w H',AX H H'->Nw H c w->aX K H' c w->Q w H'
theorem UE:FB X (WP X.K):=by
 intro AN s σ H x v L C lo hi sl Q I w z pl f h;obtain⟨b,c,n,e,q⟩:=h;unfold EN at e;split at e
 ·rename_i y;cases e;obtain⟨rfl,m⟩:=W9 n;obtain⟨t,rfl⟩:=w;refine⟨"str", _,F.slot_str_getitem.lookup,typeIs_str _ _ _,?_⟩;obtain⟨o,e1,e2,e3⟩:=z;have A:∀J k,EP X AN σ Q (.str (Txt.slice y lo hi) J) { s with toks:=k }:=λJ k=>⟨.str _,H,I.tok _,⟨_,rfl⟩,q _ H (AX.refl H) trivial (Ff (zv (Txt.slice_le y _ _) m))⟩;cases pl with
  |none=>
   cases f with
   |none=>exact Kt (l:=Y3) (u:=Y3) (st:=Y3) ⟨o,e1,e2,e3⟩ S (post_val_or_str ⟨zv (Txt.slice_le y _ _) m,A⟩)
   |int j B=>exact Kt (l:=Y3) (u:=Z (j,B)) (st:=Y3) ⟨o,e1,e2,e3⟩ S (post_val_or_str ⟨zv (Txt.slice_le y _ _) m,A⟩)
  |int i D=>
   cases f with
   |none=>exact Kt (l:=Z (i,D)) (u:=Y3) (st:=Y3) ⟨o,e1,e2,e3⟩ S (post_val_or_str ⟨zv (Txt.slice_le y _ _) m,A⟩)
   |int j B=>exact Kt (l:=Z (i,D)) (u:=Z (j,B)) (st:=Y3) ⟨o,e1,e2,e3⟩ S (post_val_or_str ⟨zv (Txt.slice_le y _ _) m,A⟩)
 ·rename_i ds;cases e;obtain⟨a,vs,rfl,sq,g⟩:=GL n;by_cases d:HT.gZ vs.length 0 lo=0/\HT.gZ vs.length vs.length hi=vs.length
  ·cases w;obtain⟨AT,r,G,N⟩:=I.tuple sq;have E:AT.toArray.size=vs.length:=by rw[zt];exact r.length.symm
   refine⟨"tuple", _,PyProof.Rows.slot_tuple_getitem.lookup,G.typeIs,wK G z pl f (by rw[E];exact d.1) (by rw[E];exact d.2) ⟨.ref a,H,I,rfl,q _ H (AX.refl H) trivial ?_⟩⟩;rw[Xi ds (by rw[<-g.length];exact d.1) (by rw[<-g.length];exact d.2)];exact n
  ·refine YU AN s σ H _ v L C lo hi sl Q I w z pl f ⟨a,vs,rfl,sq,d,λp hp=>q _ _ (bf hp) trivial ?_⟩;unfold aX AY;exact⟨p,_,rfl,.inl (.inl aJ),(LQ g lo hi).kp (.of (bf hp))⟩
 ·obtain⟨ds,M,e⟩:=AV e;cases e;obtain⟨a,vs,rfl,sq,g⟩:=n.Ax M;exact WV AN s σ H _ v L C lo hi sl Q I w z pl f ⟨a,vs,rfl,sq,λp hp=>q _ _ (bf hp) (λa ea=>by cases ea;exact hp) ⟨p,_,rfl,aJ,(LQ g lo hi).kp (.of (bf hp))⟩⟩
def Fv(f:Ev->Y Bx)(fl fh:Ev->Y (Y Int)):Ev->Y Bx:=λρ=>(f ρ).bind λb=>(fl ρ).bind λlo=>(fh ρ).bind λhi=>EN b lo hi
theorem nU{lo hi:Y Expr}{fl fh:Ev->Y (Y Int)}(he:QV X e f)(i:GG X lo fl)(d:GG X hi fh):QV X (.Subscript e (.Slice lo hi Y3 p2) pos) (Fv f fl fh):=⟨have he:=he.run;have i:=i.run;have d:=d.run;Ay (Wo UE he i d) λσ H Q h=>by
 obtain⟨H0,ρ,c,E,e,q⟩:=h;obtain⟨b,eb,e⟩:=AV e;obtain⟨lo,el,e⟩:=AV e;obtain⟨hi,s,e⟩:=AV e;refine⟨H0,ρ,b,E,eb,λv H1 g y o=>⟨H0,ρ,lo,E.grow g,el,λH2 a=>⟨H0,ρ,hi,E.grow (g.trans a),s,λx l=>?_⟩⟩⟩;have j:=(g.trans a).trans l;exact⟨b,c,(o.same a).same l,e,λw n p u m=>q w n (j.trans p) (u.old j) m⟩⟩
def iZ:O Bx->Y Bx
 |[.z (.str x)]=>Z (.z (.int x.length))
 |[b]=>(wH b).bind λds=>Z (.z (.int ds.length))
 |_=>Y3
theorem BQ(r:vX K H [b] vs):∃v,vs=[v]/\aX K H b v:=by
 cases r with
 |cons p t=>cases t;exact⟨_,rfl,p⟩
theorem fG:nR X (.builtin "len") iZ:=fK.imp (Ir.or Iu) λxs H Q q=>by
 obtain⟨bs,c,b,e,q⟩:=q;unfold iZ at e;split at e
 ·rename_i x;cases e;obtain⟨v,rfl,a⟩:=BQ b;obtain⟨rfl,hx⟩:=W9 a;exact .inr ⟨x,rfl,hx,q _ H (AX.refl H) trivial Ad⟩
 ·obtain⟨ds,d,e⟩:=AV e;cases e;obtain⟨v,rfl,a⟩:=BQ b;obtain⟨p,vs,rfl,sq,f⟩:=wI a d;exact .inl ⟨p,vs,rfl,sq,by rw[f.length];exact q _ H (AX.refl H) trivial Ad⟩
 ·cases e
def Xj:O Bx->Y Bx
 |[.z (.int i)]=>Z (.z (.int (if i<0 then -i else i)))
 |_=>Y3
theorem Pi:nR X (.builtin "abs") Xj:=fK.imp Wi λxs H Q q=>by
 obtain⟨bs,c,b,e,q⟩:=q;unfold Xj at e;split at e
 ·rename_i i;cases e;obtain⟨v,rfl,a⟩:=BQ b;have:=Jd a;subst this;exact⟨i,rfl,q _ H (AX.refl H) trivial Ad⟩
 ·cases e
def Xk:O Bx->Y Bx
 |[.z (.int i)]=>Z (.z (.int i))
 |[.z (.bl k)]=>Z (.z (.int (if k then 1 else 0)))
 |_=>Y3
theorem OU:nR X (.type "int") Xk:=fK.imp T6 λxs H Q q=>by
 obtain⟨bs,c,b,e,q⟩:=q;unfold Xk at e;split at e
 ·rename_i i;cases e;obtain⟨v,rfl,a⟩:=BQ b;have:=Jd a;subst this;exact .inl ⟨i,rfl,q _ H (AX.refl H) trivial Ad⟩
 ·rename_i k;cases e;obtain⟨v,rfl,a⟩:=BQ b;simp only[aX,AY]at a;subst a;exact .inr ⟨k,rfl,q _ H (AX.refl H) trivial Ad⟩
 ·cases e
def oZ:O Bx->Y Bx
 |[b]=>(wH b).bind λds=>Z (.z (.tup ds))
 |_=>Y3
theorem pH:nR X (.type "tuple") oZ:=fK.imp uG λxs H Q q=>by
 obtain⟨bs,c,f,e,q⟩:=q;unfold oZ at e;split at e
 ·obtain⟨ds,g,e⟩:=AV e;cases e;obtain⟨v,rfl,d⟩:=BQ f;obtain⟨p,vs,rfl,sq,a⟩:=wI d g;refine⟨p,vs,rfl,?_⟩;rcases sq with sq|sq
  ·refine .inl ⟨sq,λl b=>q _ _ (bf b) trivial ?_⟩;unfold aX AY;exact⟨l,vs,rfl,.inl (.inl aJ),a.kp (.of (bf b))⟩
  ·refine .inr ⟨sq,q _ H (AX.refl H) trivial ?_⟩;unfold aX AY;exact⟨p,vs,rfl,sq,a⟩
 ·cases e
def Ck:O Dt->Y (O Bool)
 |[]=>Z []
 |.bl b::ds=>(Ck ds).bind λbs=>Z (b::bs)
 |_=>Y3
theorem u5{K:B5}{H:Hp}:∀{ds:O Dt} {bs:O Bool} {vs:O V} {us:O A0},Ck ds=Z bs->aG K H ds vs->AZ vs us->us=bs.map Value.bool
 |[],_,_,_,e,r,w=>by
  cases e;simp only[aG]at r;subst r;cases w;rfl
 |d::ds,_,_,_,e,r,w=>by
  simp only[aG]at r;obtain⟨v,a,rfl,h1,h2⟩:=r;cases d<;>first|(cases e;done)|skip;simp only[Ck]at e;obtain⟨bs,e1,e⟩:=AV e;cases e;simp only[AY]at h1;subst h1;cases w with
  |cons p t=>
   cases p;rw[u5 e1 h2 t];rfl
theorem CI(bs:O Bool):((cw bs.length).all λi=>bs.getD i false)=bs.all id:=by
 rw[kF,Qb,Qb];constructor
 ·intro h b a;obtain⟨i,hi,rfl⟩:=dq.mp a;have:=h i (by simpa using hi);simpa[List.getD,hi]using this
 ·intro h i hi;have hi:i<bs.length:=by simpa using hi
  have:=h bs[i] (kc hi);simpa[List.getD,hi]using this
theorem CC(bs:O Bool):((cw bs.length).any λi=>bs.getD i false)=bs.any id:=by
 rw[kF,Q1,Q1];constructor
 ·rintro⟨i,hi,h⟩;have hi:i<bs.length:=by simpa using hi
  exact⟨bs[i],kc hi,by simpa[List.getD,hi]using h⟩
 ·rintro⟨b,a,h⟩;obtain⟨i,hi,rfl⟩:=dq.mp a;exact⟨i,by simpa using hi,by simpa[List.getD,hi]using h⟩
def C9:O Bx->Y Bx
 |[b]=>(lY b).bind λds=>(Ck ds).bind λbs=>Z (.z (.bl (bs.all id)))
 |_=>Y3
def CF:O Bx->Y Bx
 |[b]=>(lY b).bind λds=>(Ck ds).bind λbs=>Z (.z (.bl (bs.any id)))
 |_=>Y3
theorem zy(bs:O Bool):TruthOf prog w A (λi v=>(bs.map Value.bool).toArray[i]?=Z v) λi=>bs.getD i false:=λi v s Q E h q=>by
 have h':(bs.map Value.bool)[i]?=Z v:=by simpa using h
 rw[z5]at h';cases e:bs[i]? with
 |none=>rw[e]at h';cases h'
 |some b=>
  rw[e]at h';cases h';have:bs.getD i false=b:=by simp[List.getD,e]
  have a:Q b s:=by rw[<-this];exact q
  exact QP a
theorem Pq(g:X.calm=true):nR X (.builtin "all") C9:=by
 intro AN s σ H xs us Q I r h;obtain⟨bs,c,p,e,q⟩:=h;unfold C9 at e;split at e
 ·obtain⟨ds,x,e⟩:=AV e;obtain⟨ks,ek,e⟩:=AV e;cases e;obtain⟨v,rfl,j⟩:=BQ p;obtain⟨a,vs,rfl,sq,z⟩:=j.Ax x;obtain⟨u,rfl,C⟩:=BG r;cases C;obtain⟨AT,w,pl,E⟩:=I.list sq;have d:=u5 ek z w;have f:a<s.heap.objs.size:=by obtain⟨o,n,e,_⟩:=pl;exact zw e
  refine call_all_walk (kR pl.isList ?_);refine⟨s.heap.objs.size,_,_,_,_,_,λi=>ks.getD i false,rfl,Walks.list (by show X.A.handled=Y3;exact I.ok.hd g) s.heap.objs.size a (zI f) AT.toArray,⟨⟨_,zl _ rfl,rfl,rfl⟩,pl.isList.push _⟩,?_,λh' tk k=>?_⟩
  ·rw[d];exact zy ks
  ·have m:AT.toArray.size=ks.length:=by rw[d];simp
   rw[m,CI];have l:L2.AW X AN σ H { s with heap:=s.heap.push { cls:=.type "list_iterator",data:=.fields #[.ref a,.int 0 0] } }:=I.kept (t':=s.toks) λb o e=>zd _ e;refine⟨.bl _,H,?_,rfl,q _ H (AX.refl H) trivial Ft⟩;obtain⟨f0,f1,f2,f3,D,B⟩:=I.Bv (b:=s.heap.objs.size) (H':=H) (zi _) (I.hok.fresh (zi _));exact l.turned (it:=s.heap.objs.size) (λb o y e=>k b o (by simpa using y) e) f0 f1 f3 D B
 ·cases e
theorem Xl(g:X.calm=true):nR X (.builtin "any") CF:=by
 intro AN s σ H xs us Q I r h;obtain⟨bs,c,p,e,q⟩:=h;unfold CF at e;split at e
 ·obtain⟨ds,x,e⟩:=AV e;obtain⟨ks,ek,e⟩:=AV e;cases e;obtain⟨v,rfl,j⟩:=BQ p;obtain⟨a,vs,rfl,sq,z⟩:=j.Ax x;obtain⟨u,rfl,C⟩:=BG r;cases C;obtain⟨AT,w,pl,E⟩:=I.list sq;have d:=u5 ek z w;have f:a<s.heap.objs.size:=by obtain⟨o,n,e,_⟩:=pl;exact zw e
  refine call_any_walk (kR pl.isList ?_);refine⟨s.heap.objs.size,_,_,_,_,_,λi=>ks.getD i false,rfl,Walks.list (by show X.A.handled=Y3;exact I.ok.hd g) s.heap.objs.size a (zI f) AT.toArray,⟨⟨_,zl _ rfl,rfl,rfl⟩,pl.isList.push _⟩,?_,λh' tk k=>?_⟩
  ·rw[d];exact zy ks
  ·have m:AT.toArray.size=ks.length:=by rw[d];simp
   rw[m,CC];have l:L2.AW X AN σ H { s with heap:=s.heap.push { cls:=.type "list_iterator",data:=.fields #[.ref a,.int 0 0] } }:=I.kept (t':=s.toks) λb o e=>zd _ e;refine⟨.bl _,H,?_,rfl,q _ H (AX.refl H) trivial Ft⟩;obtain⟨f0,f1,f2,f3,D,B⟩:=I.Bv (b:=s.heap.objs.size) (H':=H) (zi _) (I.hok.fresh (zi _));exact l.turned (it:=s.heap.objs.size) (λb o y e=>k b o (by simpa using y) e) f0 f1 f3 D B
 ·cases e
end P1
namespace P1
open L2
def gv(i:Nat):Ev->Y Bx:=λρ=>yD ρ i
def rW(g:Bx->Bx->Y Bx)(fa fb:Ev->Y Bx):Ev->Y Bool:=λρ=>(b2 g fa fb ρ).bind BP
def tV(f:Ev->Y Bx):Ev->Y Bool:=λρ=>(f ρ).bind GH
def aK:Ev->Y (O Bx):=λ_=>Z []
def GK(p:Dt->Bool)(f:Ev->Y Bx):Ev->Y Bx:=b1 (λb=>if j5 b=true then Y3 else Z (.z (.bl (p (toD b))))) f
def gJ:Ev->Y As:=λρ=>Z (.nx ρ)
def ji(f:Ev->Y Bx):Ev->Y As:=λρ=>(f ρ).bind WW
def B8(i:Nat)(f:Ev->Y Bx):Ev->Y As:=λρ=>(f ρ).bind λb=>(WX ρ i b).bind λa=>Z (.nx a)
def GE(i j:Nat)(fs:Ev->Y (O Bx)):Ev->Y As:=λρ=>(fs ρ).bind (Fs i j ρ)
def LR(i:Nat)(f:Ev->Y Bx):Ev->Y As:=λρ=>(f ρ).bind (FX ρ i)
def yN(fi:Ev->Y (O Dt))(gt:Dt->Ev->Y Ev)(gb:Ev->Y As):Ev->Y As:=λρ=>(fi ρ).bind λds=>pB gt gb ds ρ
def DJ(f:Ev->Y Bx):Ev->Y (O Dt):=λρ=>(f ρ).bind W2
def Fw(f:Ev->Y Bx):Ev->Y (O Dt):=λρ=>(f ρ).bind Fh
def Ku(fs:Ev->Y (O Bx)):Ev->Y (O Dt):=λρ=>(fs ρ).bind HG
def GV(fs:Ev->Y (O Bx)):Ev->Y (O Dt):=λρ=>(fs ρ).bind Hd
def o7(i:Nat):Dt->Ev->Y Ev:=λd ρ=>Z (ρ.set i (Z (.z d)))
def lR:Ev->Y Bool:=λ_=>Z true
theorem bK:uZ X [] lR:=⟨.inl ⟨rfl,rfl⟩⟩
theorem gj(h:QB X c p):uZ X [c] p:=⟨have h:=h.run;.inr ⟨c,rfl,h⟩⟩
theorem WS:Fp X scope cl [] []:=trivial
theorem NM{xs:Ap}(n:X.N[i]?=Z x)(k:X.env.kindOf x=Z .cell\/X.env.kindOf x=Z .free)(a:(relabel scope X.env).names.lookup x=Z .cell\/(relabel scope X.env).names.lookup x=Z .free)(c:∃c,cl.lookup x=Z c)(r:Fp X scope cl xs is):Fp X scope cl (x::xs) (i::is):=⟨⟨n,k,a,c⟩,r⟩
theorem mem_of_lookup{a:O (AJ×NameKind)}{x:AJ}{k:NameKind}:a.lookup x=Z k->(x,k)∈a:=JA
theorem VC{xs:Ap}(clos:closureFor scope X.env=pure cl)(kind:scope.kind=.function)(cell:scope.names.all (λy=>decide (y.2≠.cell)||(cl.lookup y.1).isNone)=true)(names:scope.names.all (λy=>decide (y.2=.local->scope.names.lookup y.1=Z .local))=true)(sub:C3 X.env.cells cl)(has:(relabel scope X.env).names.all (λy=>!(y.2==.cell||y.2==.free)||(cl.lookup y.1).isSome||scope.names.contains (y.1,.cell))=true)(cap:Fp X scope cl xs is):oX X scope cl xs is where
 clos:=clos
 kind:=kind
 cell:=λy a b=>by
  have:=List.all_eq_true.mp cell y a;simp only[b,ne_eq,not_true_eq_false,k7,ft,gc]at this;exact this
 names:=λy a=>ko (List.all_eq_true.mp names y a)
 sub:=sub
 has:=λx hx=>by
  have h:∃k,(relabel scope X.env).names.lookup x=Z k/\(k==NameKind.cell||k==NameKind.free)=true:=by
   rcases hx with hx|hx
   ·exact⟨_,hx,rfl⟩
   ·exact⟨_,hx,rfl⟩
  obtain⟨k,e,hk⟩:=h;have:=List.all_eq_true.mp has _ (mem_of_lookup e);simp only[hk,fu,ft,gH]at this;rcases this with h|h
  ·exact .inr (dj.mp h)
  ·exact .inl (dV.mp h)
 cap:=cap
theorem tU{k:Nat}(r:jW k A):A.units+100<cLine:=by have:=r.un;omega
theorem Z'(h:∀ns:O Int,ns.length<=63->F [.z (.lst (ns.map .int))]=Z (.z (.bl true)))(g:∀ns:O Int,ns.length<=63->F [.l (ns.map .int)]=Z (.z (.bl true)))(K:B5)(H:Hp)(a:A1)(ns:O Int)(hn:ns.length<=63)(_:CO H)(c:nG K H a (ns.map V.int)):
  Pb K 1 F [.ref a] H (λv _=>v=.bl true) λ_ _ _=>False:=by
 have d:∀b:O Int,aG K H (b.map Dt.int) (b.map V.int):=λb=>by
  induction b with
  |nil=>exact aG.nil
  |cons m b f=>exact aG.cons (by unfold AY;rfl) f
 have e:∀v (H':Hp),AX H H'->Nw H (.z (.bl true)) v->aX K H' (.z (.bl true)) v->v=.bl true:=λv H' _ _ r=>by simpa only[aX,AY]using r
 rcases c with c|c
 ·exact⟨rfl,[.l (ns.map .int)],_,.cons ⟨a,_,rfl,c,d ns⟩ .nil,rfl,g ns hn,e⟩
 ·refine⟨rfl,[.z (.lst (ns.map .int))],_,.cons ?_ .nil,rfl,h ns hn,e⟩;unfold aX AY;exact⟨a,_,rfl,.inr c,d ns⟩
theorem MI{f:A1}{k:Nat}(F:Aw K x qual st f fd)(S:bH N ps (aO st))(hn:N.length=n)(b:ps.length=m)(c:∀(a:A0) (A:A5) (outer:O Env) (s:A2) (H:Hp) (E:XK),jW k (A.deeper (AK qual (aO st) s.heap.objs.size f a))->Ro (BJ uH P w K mg base N qual (aO st) f a A outer s H E).ZS (iG st) g):
  jx P w K mg base uH (k+1) f fd ps (Pb K m (fL n g)):=by
 subst hn b;exact RU F S c
section
variable{st:Expr}{fs:Ev->Y Bx}
theorem Xm{st:O AB}:Ro X st (λ_=>Y3):=λD AN s σ H I q=>by
 obtain⟨H0,ρ,r,E,e,q⟩:=q;cases e
end
def DL:Bx->Bx->Y Bx
 |.z (.int i),.z (.int j)=>Z (.z (.bl (decide (i<j))))
 |.z (.str x),.z (.str y)=>Z (.z (.bl (decide (x.cps.toList<y.cps.toList))))
 |_,_=>Y3
theorem Ji:z9 X (AG .Lt) DL:=by
 intro AN s σ H x y v u Q I f l h;obtain⟨a,b,c,g,d,e,q⟩:=h;unfold DL at e;split at e
 ·rename_i i j;cases e;exact XG AN s σ H x y v u Q I f l ⟨i,j,Jd g,Jd d,q _ H (AX.refl H) trivial (by unfold aX;exact Fn)⟩
 ·rename_i i j;cases e;obtain⟨rfl,_⟩:=W9 g;obtain⟨rfl,_⟩:=W9 d;obtain⟨t,rfl⟩:=f;obtain⟨m,rfl⟩:=l;exact PySem.P.lt_str ⟨.bl _,H,I,rfl,q _ H (AX.refl H) trivial (by unfold aX;exact Fn)⟩
 ·cases e
def qO:O Dt->Y Ap
 |[]=>Z []
 |.str x::r=>(qO r).bind λys=>Z (x::ys)
 |_=>Y3
theorem yO{K:B5}{H:Hp}:∀{ds:O Dt} {vs:O V} {ys:Ap},aG K H ds vs->qO ds=Z ys->vs=ys.map V.str/\∀y∈ys,y.length<=AA
 |[],_,_,h,e=>by cases e;simp only[aG]at h;subst h;exact⟨rfl,λy a=>by cases a⟩
 |.str x::ds,_,_,h,e=>by
  simp only[qO]at e;obtain⟨ys,e1,e2⟩:=AV e;cases e2;simp only[aG]at h;obtain⟨v,r,rfl,hd,b⟩:=h;obtain⟨rfl,hx⟩:v=.str x/\x.length<=AA:=by simpa only[AY]using hd
  obtain⟨rfl,h2⟩:=yO b e1;refine⟨rfl,λy a=>?_⟩;rcases List.mem_cons.mp a with rfl|a
  ·exact hx
  ·exact h2 y a
 |.non::_,_,_,_,e=>by cases e
 |.bl _::_,_,_,_,e=>by cases e
 |.int _::_,_,_,_,e=>by cases e
 |.tup _::_,_,_,_,e=>by cases e
 |.lst _::_,_,_,_,e=>by cases e
 |.emp::_,_,_,_,e=>by cases e
theorem wL{K:B5}{H:Hp}:∀{ys:Ap},(∀y∈ys,y.length<=AA)->aG K H (ys.map Dt.str) (ys.map V.str)
 |[],_=>aG.nil
 |y::ys,h=>aG.cons (by unfold AY;exact⟨rfl,h y (zg ..)⟩) (wL λz a=>h z (zh _ a))
theorem u6:∀{ys:Ap} {AT:O A0},AZ (ys.map V.str) AT->StrsAre AT ys
 |[],_,h=>by cases h;exact .nil
 |y::ys,_,h=>by
  cases h with
  |cons r t=>
   obtain⟨tk,rfl⟩:=r;exact .cons y tk (u6 t)
theorem tW:∀{AT:O A0} {ys:Ap},StrsAre AT ys->AZ (ys.map V.str) AT
 |_,_,.nil=>.nil
 |_,_,.cons y t h=>.cons ⟨t,rfl⟩ (tW h)
theorem Jj:fK X (.builtin "sorted") (λxs H Q=>∃p ys,xs=[.ref p]/\nG X.K H p (ys.map V.str)/\ys.length<64/\∀l zs,H l=Y3->zs.Perm ys->sortedS zs=true->Q (.ref l) (B1 H l (.lst (zs.map V.str)))):=by
 intro AN s σ H xs us Q I r h;obtain⟨p,ys,rfl,m,v,q⟩:=h;obtain⟨u,rfl,g⟩:=BG r;cases g;obtain⟨AT,c,pl,d⟩:=I.list m;have i:=c.length;rw[zk]at i d;refine sorted_strs pl.isList (u6 c) () λout zs j hp f=>?_;obtain⟨n,en⟩:=sortedAll_at s.heap AT out;refine⟨.ref (s.heap.objs.size+1),_,I.laid (t':=s.toks) (a:=s.heap.objs.size+1) (o:=.lst (zs.map V.str)) (λb o e=>sortedAll_old e) (kA _) ?_,rfl,q _ zs (I.hok.fresh (kA _)) hp f⟩;refine⟨by rw[zk,hp.length_eq];exact d,out.toList,n,tW j,?_⟩;rw[en]
def Pr(a b:AJ):Prop:=ltCps b.cps.toList a.cps.toList=false
theorem wM:∀(p:AJ) (l:Ap),risingS p l=true->(p::l).Pairwise Pr
 |p,[],_=>by simp
 |p,x::r,h=>by
  have h':(!ltCps x.cps.toList p.cps.toList&&risingS x r)=true:=h;rw[ZO]at h';have c:=wM x r h'.2;have hx:Pr p x:=by simpa[Pr]using h'.1
  refine du.mpr ⟨λy b=>?_,c⟩;rcases List.mem_cons.mp b with rfl|b
  ·exact hx
  ·have a:Pr x y:=ki c b;unfold Pr at hx a ⊢;rw[ltCps_eq]at hx a ⊢;simp only[jv]at hx a ⊢;exact List.le_trans (α:=Nat) hx a
theorem Jk{l:Ap}(h:sortedS l=true):l.Pairwise Pr:=by
 cases l with
 |nil=>exact .nil
 |cons p l=>exact wM p l h
theorem Xn{a b:AJ}(h:Pr a b)(h':Pr b a):a=b:=by
 unfold Pr at h h';rw[ltCps_eq]at h h';simp only[jv]at h h';have:=i8 (as:=a.cps.toList) (bs:=b.cps.toList) h h';cases a;cases b;simp only[Str.mk.injEq];exact i9.mp this
theorem wN:∀{l c:Ap},l.Perm c->l.Pairwise Pr->c.Pairwise Pr->l=c
 |[],c,h,_,_=>by rw[List.nil_perm.mp h]
 |a::l,[],h,_,_=>by cases List.perm_nil.mp h
 |a::l,b::c,h,p,p'=>by
  have e:a=b:=by
   have f:a∈b::c:=h.mem_iff.mp (zg ..);have d:b∈a::l:=h.mem_iff.mpr (zg ..);rcases List.mem_cons.mp f with h1|h1
   ·exact h1
   ·rcases List.mem_cons.mp d with h2|h2
    ·exact h2.symm
    ·exact Xn (ki p h2) (ki p' h1)
  subst e;rw[wN ((List.perm_cons a).mp h) (du.mp p).2 (du.mp p').2]
def Uq(a b:AJ):Bool:=!ltCps b.cps.toList a.cps.toList
def bN(ys:Ap):Ap:=ys.mergeSort Uq
theorem bL(ys:Ap):(bN ys).Perm ys:=eH ys Uq
theorem jj(ys:Ap):(bN ys).Pairwise Pr:=by
 have h:=yT (le:=Uq) (λa b c h1 h2=>by
  unfold Uq at *
  rw[ltCps_eq]at *
  simp only[Q2,jv]at *
  exact List.le_trans (α:=Nat) h1 h2) (λa b=>by
  unfold Uq;rw[ltCps_eq,ltCps_eq];simp only[gH,Q2,jv];exact List.le_total a.cps.toList b.cps.toList) ys
 exact h.imp λ{a b} hh=>by simpa[Uq,Pr]using hh
theorem Cm{zs:Ap}(hp:zs.Perm ys)(hs:sortedS zs=true):zs=bN ys:=wN (hp.trans (bL ys).symm) (Jk hs) (jj ys)
def wO:O Bx->Y Bx
 |[b]=>(lY b).bind λds=>(qO ds).bind λys=>if ys.length<64 then Z (.o ((bN ys).map Dt.str))else Y3
 |_=>Y3
theorem pJ:nR X (.builtin "sorted") wO:=fK.imp Jj λxs H Q q=>by
 obtain⟨bs,c,i,e,q⟩:=q;unfold wO at e;split at e
 ·rename_i b;obtain⟨ds,j,e⟩:=AV e;obtain⟨ys,f,e⟩:=AV e;split at e
  ·rename_i s;cases e;obtain⟨v,rfl,g⟩:=BQ i;obtain⟨p,vs,rfl,sq,m⟩:=g.Ax j;obtain⟨rfl,o⟩:=yO m f;refine⟨p,ys,rfl,sq,s,λl zs d hp n=>?_⟩;rw[Cm hp n];refine q _ _ (bf d) (λa ea=>by cases ea;exact d) ⟨l,_,rfl,aJ,wL λy h=>o y ((bL ys).mem_iff.mp h)⟩
  ·cases e
 ·cases e
def Ma(x:AJ)(b:Bx):Y Bx:=(lY b).bind λds=>(qO ds).bind λys=>if(ys.map (·.length)).sum+ys.length*x.length<=100000 then Z (.z (.str (Txt.join x ys)))else Y3
theorem ca:MR X "str.join" (λx xs H Q=>∃y p ys,x=.str y/\xs=[.ref p]/\nG X.K H p (ys.map V.str)/\(ys.map (·.length)).sum+ys.length*y.length<=100000/\Q (.str (Txt.join y ys)) H):=by
 intro AN s σ H x xs v us Q I b c h;obtain⟨y,p,ys,rfl,rfl,sq,e,q⟩:=h;obtain⟨t,rfl⟩:=b;obtain⟨u,rfl,d⟩:=BG c;cases d;obtain⟨AT,a,pl,f⟩:=I.list sq;exact join_list pl.isList (u6 a) () λg k=>⟨.str _,H,I.tok _,⟨_,rfl⟩,q⟩
theorem RO{p1:Pos}(h:QV X e f)(hx:x.length<=AA:=by decide)(s:attributeBase (.Constant (.str x) j p1) "join" X.env (eval (.Constant (.str x) j p1) X.env)=eval (.Constant (.str x) j p1) X.env:=by rfl)(m:((AD cpos (A9 [e] X.env)).all (λx=>!x.1)&&(backToKw cpos (keywordEach [] X.env)).all (λx=>x.1.isSome)&&decide ([e].length+([]:O AC).length+(if([]:O AC).isEmpty then 0 else 1)<30))=true:=by rfl)(z:(apos.endLine==cpos.line)=true:=by rfl)(hs:A9 [e] X.env=(false,eval e X.env)::A9 [] X.env:=by rfl):QV X (.Call (.Attribute (.Constant (.str x) j p1) "join" apos) [e] [] cpos) (b1 (Ma x) f):=⟨have h:=h.run;Ay (KY (T :="str") F.plainAttrs_str F.slot_str_join F.type_str_join ca (WR (hx:=hx)) (K7 h RB hs) s m z hs S) λσ H Q q=>by
  obtain⟨H0,ρ,c,E,e,q⟩:=q;obtain⟨a,ea,e⟩:=AV e;refine⟨H0,ρ,_,E,rfl,λv H1 b A i=>?_⟩;obtain⟨rfl,B⟩:v=.str x/\x.length<=AA:=by simpa only[aX,AY]using i
  refine⟨rfl,H0,ρ,[a],E.grow b,by simp only[aA,ea,gm],λvs H2 y d=>?_⟩;obtain⟨w,rfl,l⟩:=BQ d;unfold Ma at e;obtain⟨ds,n,e⟩:=AV e;obtain⟨ys,g,e⟩:=AV e;split at e
  ·rename_i o;cases e;obtain⟨p,ws,rfl,sq,u⟩:=l.Ax n;obtain⟨rfl,C⟩:=yO u g;refine⟨x,p,ys,rfl,rfl,sq,o,q _ _ (b.trans y) trivial ?_⟩;unfold aX AY;exact⟨rfl,joinOk_length (joinOk_of ())⟩
  ·cases e⟩
def Pu:O Bx->Y Bx
 |[.z (.int a),.z (.int b)]=>Z (.z (.int (if b>a then b else a)))
 |_=>Y3
def Xo:O Bx->Y Bx
 |[.z (.int a),.z (.int b)]=>Z (.z (.int (if b<a then b else a)))
 |_=>Y3
theorem MV{a:Bx}(h:vX K H [a,b] vs):∃v w,vs=[v,w]/\aX K H a v/\aX K H b w:=by
 cases h with
 |cons p t=>
  cases t with
  |cons p' c=>cases c;exact⟨_,_,rfl,p,p'⟩
theorem Jl(j:X.calm=true):nR X (.builtin "max") Pu:=by
 intro AN s σ H xs us Q I r h;obtain⟨bs,c,m,e,q⟩:=h;unfold Pu at e;split at e
 ·rename_i a b;cases e;obtain⟨v,w,rfl,i,f⟩:=MV m;have n:=Jd i;have g:=Jd f;subst n g;obtain⟨u,p,rfl,o,l⟩:=AZ.two r;obtain⟨t,rfl⟩:=o;obtain⟨x,rfl⟩:=l;refine max_two_ints (I.ok.hd j) λh' tk kp=>?_;by_cases d:b>a
  ·rw[zo d]at q ⊢;exact⟨.int b,H,I.kept kp,⟨_,rfl⟩,q _ H (AX.refl H) trivial Ad⟩
  ·rw[zS d]at q ⊢;exact⟨.int a,H,I.kept kp,⟨_,rfl⟩,q _ H (AX.refl H) trivial Ad⟩
 ·cases e
theorem WE(j:X.calm=true):nR X (.builtin "min") Xo:=by
 intro AN s σ H xs us Q I r h;obtain⟨bs,c,m,e,q⟩:=h;unfold Xo at e;split at e
 ·rename_i a b;cases e;obtain⟨v,w,rfl,i,f⟩:=MV m;have n:=Jd i;have g:=Jd f;subst n g;obtain⟨u,p,rfl,o,l⟩:=AZ.two r;obtain⟨t,rfl⟩:=o;obtain⟨x,rfl⟩:=l;refine min_two_ints (I.ok.hd j) λh' tk kp=>?_;by_cases d:b<a
  ·rw[zo d]at q ⊢;exact⟨.int b,H,I.kept kp,⟨_,rfl⟩,q _ H (AX.refl H) trivial Ad⟩
  ·rw[zS d]at q ⊢;exact⟨.int a,H,I.kept kp,⟨_,rfl⟩,q _ H (AX.refl H) trivial Ad⟩
 ·cases e
def Cp(AO:O (An×Dt))(x:An):Y Dt:=(AO.find? λa=>decide (a.1=x)).map (·.2)
def Px(AO:O (An×Dt))(x:An)(d:Dt):O (An×Dt):=
 if(AO.any λa=>decide (a.1=x))=true then AO.map (λa=>if a.1=x then(a.1,d)else a)else AO++[(x,d)]
theorem gD.nil:gD K H [] []:=⟨rfl,aG.nil,λp hp=>by cases hp⟩
theorem gD.inv{p:An×Dt}{AO:O (An×Dt)}(h:gD K H (p::AO) ks):∃v r,ks=(p.1,v)::r/\AY K H p.2 v/\DU p.1/\gD K H AO r:=by
 obtain⟨h1,h2,a⟩:=h;cases ks with
 |nil=>simp at h1
 |cons q r=>
  simp only[zr,Kj]at h1;obtain⟨e,h1⟩:=h1;simp only[zr,aG]at h2;obtain⟨v,d,e2,c,b⟩:=h2;simp only[Kj]at e2;obtain⟨rfl,rfl⟩:=e2;exact⟨q.2,r,by rw[<-e],c,a p (zg ..),h1,b,λx hx=>a x (zh _ hx)⟩
theorem gD.cons{p:An×Dt}{AO:O (An×Dt)}{v:V}{r:O (An×V)}(a:AY K H p.2 v)(hp:DU p.1)(h:gD K H AO r):gD K H (p::AO) ((p.1,v)::r):=
 ⟨by simp[h.1],aG.cons a h.2.1,λx hx=>by
  rcases List.mem_cons.mp hx with rfl|hx
  ·exact hp
  ·exact h.2.2 x hx⟩
theorem gD.append{AO:O (An×Dt)}{ks:O (An×V)}{x:An}{d:Dt}{v:V}(h:gD K H AO ks)(a:AY K H d v)(hx:DU x):gD K H (AO++[(x,d)]) (ks++[(x,v)]):=
 ⟨by simp[h.1],by rw[ZE,ZE];exact aG.append h.2.1 (aG.cons a aG.nil),λp hp=>by
  rcases cf.mp hp with hp|hp
  ·exact h.2.2 p hp
  ·cases bo.mp hp;exact hx⟩
theorem gD.len{AO:O (An×Dt)}(h:gD K H AO ks):ks.length=AO.length:=by
 have:=congrArg dv h.1;simpa using this
theorem gD.look:∀{AO:O (An×Dt)} {ks:O (An×V)} {x:An} {d:Dt},gD K H AO ks->Cp AO x=Z d->∃v,lq ks x=Z v/\AY K H d v
 |[],_,_,_,_,e=>by cases e
 |p::AO,_,x,d,h,e=>by
  obtain⟨v,r,rfl,b,c,a⟩:=h.inv;unfold Cp at e;by_cases hp:p.1=x
  ·rw[List.find?_cons_of_pos (by simpa using hp)]at e;cases e;exact⟨v,rH (by rw[hp]),b⟩
  ·rw[List.find?_cons_of_neg (by simpa using hp)]at e;obtain⟨w,e1,e2⟩:=gD.look a e;exact⟨w,(rJ (by simpa using hp)).trans e1,e2⟩
theorem gD.any:∀{AO:O (An×Dt)} {ks:O (An×V)} {x:An},gD K H AO ks->(ks.any λa=>decide (a.1=x))=AO.any λa=>decide (a.1=x)
 |[],ks,_,h=>by
  have:=h.len;cases ks with
  |nil=>rfl
  |cons _ _=>simp at this
 |p::AO,_,x,h=>by
  obtain⟨v,r,rfl,d,c,b⟩:=h.inv;rw[JY,JY,gD.any b]
theorem gD.Xp:∀{AO:O (An×Dt)} {ks:O (An×V)} {x:An} {d:Dt} {v:V},gD K H AO ks->AY K H d v->gD K H (AO.map λa=>if a.1=x then(a.1,d)else a) (ks.map λa=>if a.1=x then(a.1,v)else a)
 |[],ks,_,_,_,h,_=>by
  have:=h.len;cases ks with
  |nil=>exact gD.nil
  |cons _ _=>simp at this
 |p::AO,_,x,d,v,h,hd=>by
  obtain⟨w,r,rfl,e,b,f⟩:=h.inv;rw[zr,zr];have c:=gD.Xp (x:=x) f hd;by_cases hp:p.1=x
  ·rw[zo hp,zo (by simp[hp])];exact gD.cons (p:=(p.1,d)) hd b c
  ·rw[zS hp,zS (by simpa using hp)];exact gD.cons e b c
theorem gD.put{AO:O (An×Dt)}{x:An}(h:gD K H AO ks)(a:AY K H d v)(hx:DU x):gD K H (Px AO x d) (BH ks x v):=by
 unfold Px BH;rw[h.any];split
 ·exact h.Xp a
 ·exact h.append a hx
section
variable{ek o:Expr}{pos':Pos}
theorem RT  :QV X (.Dict [] [] pos) (λ_=>Z (.m [] Y3)):=⟨Ay Ww λσ H Q h=>by
 obtain⟨H0,ρ,b,E,e,q⟩:=h;cases e;intro p hp;exact q _ _ (bf hp) (λa ea=>by cases ea;exact hp) ⟨p,[],rfl,aJ,gD.nil,λb h=>by cases h⟩⟩
def DM:Bx->Y An
 |.z (.str x)=>Z (.inr x)
 |.z (.int i)=>Z (.inl i)
 |_=>Y3
theorem RV{k:An}(e:DM b=Z k)(r:aX K H b v):v=kV k/\DU k:=by
 unfold DM at e;split at e
 ·cases e;simp only[aX,AY]at r;exact r
 ·cases e;simp only[aX,AY]at r;exact⟨r,trivial⟩
 ·cases e
def GP:Bx->Bx->Y Bx
 |.n AO,b=>(DM b).bind λk=>(Cp AO k).bind λd=>Z (.z d)
 |_,_=>Y3
theorem Py{a c:Bx}(h:GP a b=Z c):∃AO k d,a=.n AO/\DM b=Z k/\Cp AO k=Z d/\c=.z d:=by
 unfold GP at h;split at h
 ·obtain⟨k,ek,h⟩:=AV h;obtain⟨d,e,h⟩:=AV h;cases h;exact⟨_,k,d,rfl,ek,e,rfl⟩
 ·cases h
theorem So(C:X.A.units+100<cLine)(f:QV X o fo)(hk:QV X ek fk)(hs:HP ek:=by intro _ _;rfl):QV X (.Subscript o ek pos) (b2 GP fo fk):=⟨have f:=f.run;have hk:=hk.run;Ay (Rx () f hk hs) λσ H Q h=>by
 obtain⟨H0,ρ,c,E,e,q⟩:=h;obtain⟨a,ea,e⟩:=AV e;obtain⟨b,eb,e⟩:=AV e;refine⟨H0,ρ,a,E,ea,λv H1 g B m=>⟨H0,ρ,b,E.grow g,eb,λw H2 i D j=>?_⟩⟩;obtain⟨AO,x,d,rfl,z,u,rfl⟩:=Py e;obtain⟨p,ks,rfl,n,s⟩:=m.same i;obtain⟨l,ev,y⟩:=s.look u;obtain⟨rfl,_⟩:=RV z j;exact⟨p,l,rfl,.inl ⟨ks,x,n,rfl,ev.symm⟩,q _ _ (g.trans i) trivial y⟩⟩
def Mf(ρ:Ev)(i:Nat):Bx->Bx->Y As
 |.z d,b=>(DM b).bind λx=>match ρ[i]? with
  |some (Z (.m AO w))=>if AO.length<1000 then Z (.nx (ρ.set i (Z (.m (Px AO x d) w))))else Y3
  |_=>Y3
 |_,_=>Y3
def Xq(i:Nat)(f fk:Ev->Y Bx):Ev->Y As:=λρ=>(f ρ).bind λb=>(fk ρ).bind λk=>Mf ρ i b k
theorem Pz{k:Bx}{r:As}(h:Mf ρ i b k=Z r):∃d y AO w,b=.z d/\DM k=Z y/\ρ[i]?=Z (Z (.m AO w))/\AO.length<1000/\r=.nx (ρ.set i (Z (.m (Px AO y d) w))):=by
 unfold Mf at h;split at h
 ·obtain⟨y,a,h⟩:=AV h;split at h
  ·rename_i c;split at h
   ·rename_i e;cases h;exact⟨_,y,_,_,rfl,a,c,e,rfl⟩
   ·cases h
  ·cases h
 ·cases h
theorem Sn(i:Nat){p:Pos}(M:X.A.units+100<cLine)(he:QV X e f)(hk:QV X ek fk)(F:X.N[i]?=Z x:=by rfl)(J:Ov X.env.scope x:=by first|exact JJ rfl|exact QN (JJ S)|exact QN (QN S))(hd:ad x:=by decide)(C:(x==("__classdict__":AJ))=false:=by decide)(hs:swapsWith e (Z (.Subscript (.Name x p) ek pos')) pos.line X.env=pure false:=by rfl):RD X (.Assign [.Subscript (.Name x p) ek pos'] e pos) (λρ=>(f ρ).bind λb=>(fk ρ).bind λk=>Mf ρ i b k):=⟨have he:=he.run;have hk:=hk.run;V3 (Ry () (oV (i:=i) F J hd C) hk he hs) λD σ H h=>by
  obtain⟨H0,ρ,r,E,e,q⟩:=h;obtain⟨b,eb,e⟩:=AV e;obtain⟨k,ek,e⟩:=AV e;refine⟨H0,ρ,b,E,eb,λv H1 B P o=>?_⟩;obtain⟨d,y,AO,U,rfl,z,l,G,rfl⟩:=Pz e;have g:=E.grow B;obtain⟨w,e1,a,ks,rfl,s,j,I⟩:=g.val i _ l;refine⟨_,e1,H0,ρ,_,g,ek,λu H2 c Q n=>?_⟩;obtain⟨rfl,L⟩:=RV z n;have K:=g.grow c;have m:=c _ _ s;have kp:Kp H2 (B1 H2 a (.dK (BH ks y v))):=.dk m;refine⟨a,_,rfl,K1.k (k:=y) m (by rw[j.len];exact gg G ()),q _ _ ?_⟩;exact K.aeA l S e1 kp ⟨a,_,rfl,aJ,((j.kp (.of c)).put (x:=y) (aX.same c o) L).kp kp,I⟩⟩
end
section
variable{a b:Expr}{fs:Ev->Y (O Bx)}
theorem o8{j}(hx:x.length<=AA:=by decide):QV X (.Constant (.str x) j pos) (cB (.str x)):=⟨P1.WR (hx:=hx)⟩
end
section
variable{a b:Expr}{fs:Ev->Y (O Bx)}
variable{AU:O Expr}
theorem ao(h1:QV X e f)(h2:Uh X es fs)(hs:A9 (e::es) X.env=(false,eval e X.env)::A9 es X.env:=by rfl):Uh X (e::es) (aA f fs):=⟨P1.K7 (h1:=h1.run) (h2:=h2.run) (hs:=hs)⟩
theorem aC  :Uh X [] (λ_=>Z []):=⟨P1.RB ⟩
end
theorem MA{f:A1}{k:Nat}(F:Aw K x qual st f fd)(S:bH N ps (aO st))(hn:N.length=n)(b:ps.length=m)(d:∀(a:A0) (A:A5) (outer:O Env) (s:A2) (H:Hp) (E:XK),jW k (A.deeper (AK qual (aO st) s.heap.objs.size f a))->Ui (BJ uH P w K mg base N qual (aO st) f a A outer s H E).ZS (iG st) g):
  jx P w K mg base uH (k+1) f fd ps (Pb K m (fL n g)):=MI F S hn b λa A outer s H E c=>(d a A outer s H E c).run
theorem Jm{d:A1}{AO:O (An×A0)}{Q:O A0->A2->Prop}(W:A.handled=Y3)(hd:(d==sysModules)=false)(m:s.heap.DictAt (cH prog w) d AO ep)(hn:AO.length<=AA)(K:∀s' y,s.heap.objs.size<=s'.heap.objs.size->(∀b o,s.heap.get? b=Z o->s'.heap.get? b=Z o)->s'.gens=s.gens->s'.drawn=s.drawn->s'.os=s.os->ItemsOf (λi v=>∃k x,AO[i]?=Z (k,x)/\(cH prog w).is k v=true) y AO.length->Q y.toList s'):
  A7 (A8 prog w) A (collect (.ref d)) Q E s:=by
 have hT:s.TypeIs (.ref d) "dict":=m.dictOf.typeIs;have n:d<s.heap.objs.size:=by obtain⟨o,_,P,_⟩:=m;exact zw P
 unfold collect;refine zb (wpAny_runValue (Q4 F.entry_proto_collect ?_));rw[Around.under_plainId F.plain_proto_collect _];show A7 _ A.in1 (newList [] >>= λl=>again (.builtin "list.__iadd__" ⟨[l,.ref d],[]⟩)) _ _ s;refine zb (qa (ze ⟨plainId_quiet kU _,Q4 F.entry_list_iadd ?_⟩));rw[Around.under_plainId kU _];show A7 _ A.in1 (Builtin.List.listExtendWith (.ref s.heap.objs.size) (.ref d) (.ref s.heap.objs.size)) _ _ _;unfold Builtin.List.listExtendWith;have g:=m.at' (h':=s.heap.push { cls:=.type "list",data:=.seq ([]:O A0).toArray }) λo e=>zd _ e;refine zb (Q3 (T :="dict") g.dictOf.typeIs ?_);have h1:Builtin.List.listSameRef (.ref s.heap.objs.size) (.ref d)=false:=by simp[Builtin.List.listSameRef];exact kB n
 simp only[h1,show(Value.type "dict"==Value.type "list")=false by decide,show(Value.type "dict"==Value.type "tuple")=false by decide,hY,zD,qB];refine zb (wpAny_pyIter_dict hd g ?_);refine zb (qr ?_);have c:=g.at' (h':=(s.heap.push { cls:=.type "list",data:=.seq ([]:O A0).toArray }).push { cls:=.type "dict_keyiterator",data:=.fields #[.ref d,.int 0 0,.int AO.length 0,.int ep 0] }) λo e=>zd _ e;unfold Builtin.List.listLengthHint;refine zb (wpAny_specialOf (T :="dict") c.dictOf.typeIs F.slot_dict_len.lookup ?_)
 wp_delta
 refine zb (KL (T :="dict") (b:=true) c.dictOf.typeIs (by rw[isSubtype_type];kernel_rfl) ?_);show A7 _ A.in1 (typeOf (Value.ref d) >>= _) _ _ _;refine zb (Q3 (T :="dict") c.dictOf.typeIs (ze ?_));rw[zo ()];show A7 _ A.in1 (Builtin.List.listTouch (Value.ref s.heap.objs.size) >>= λ_=>again (Code.builtin "list.extend.loop" ⟨[Value.ref s.heap.objs.size,Value.ref (s.heap.push { cls:=.type "list",data:=.seq ([]:O A0).toArray }).objs.size,Value.ref s.heap.objs.size],[]⟩)) _ _ _;generalize q:(s.heap.push { cls:=.type "list",data:=.seq ([]:O A0).toArray })=H at g c ⊢;have D:H.objs.size=s.heap.objs.size+1:=by rw[<-q,qk]
 generalize p:H.push { cls:=.type "dict_keyiterator",data:=.fields #[.ref d,.int 0 0,.int AO.length 0,.int ep 0] }=G at c ⊢;have j:G.get? s.heap.objs.size=Z (seqObj "list" #[] 0):=by
  rw[<-p];refine zd _ ?_;rw[<-q];exact zl _ rfl
 have J:G.get? H.objs.size=Z { cls:=.type "dict_keyiterator",data:=.fields #[.ref d,.int 0 0,.int AO.length 0,.int ep 0] }:=by
  rw[<-p];exact zl _ rfl
 unfold Builtin.List.listTouch;refine zb (zb (listUpdate_at j S (listUpdate_at (get?_update_seq j _) S ?_ (by show _<=_;decide) (by show _<=_;decide)) (by show _<=_;decide) (by show _<=_;decide)));have z:H.objs.size≠s.heap.objs.size:=by omega
 have u:d≠s.heap.objs.size:=zI n;have C:=get?_update_seq (get?_update_seq j (λx=>x.push Value.none)) (λx=>x.pop);generalize M:(G.update s.heap.objs.size (Obj.mapSeq λx=>x.push Value.none)).update s.heap.objs.size (Obj.mapSeq λx=>x.pop)=U at C;have keep:∀b,b≠s.heap.objs.size->U.get? b=G.get? b:=λb a=>by rw[<-M,JP _ _ _ _ a,JP _ _ _ _ a]
 have X:U.IsKeyIter H.objs.size d 0 AO.length ep/\U.DictAt (cH prog w) d AO ep:=⟨⟨_,(keep _ z).trans J,rfl,rfl⟩,c.at' λo e=>(keep d u).trans e⟩;show A7 _ A.in1 (again _) _ _ { s with heap:=U };have L:s.heap.objs.size∉[H.objs.size,d]:=λh=>by
  simp only[Qr,qv,or_false]at h;rcases h with h|h
  ·exact z h.symm
  ·exact u h.symm
 refine ze ⟨plainId_quiet F.plain_extend_loop _,codeAny_extend_loopS (Walks.dictKeys (A:=A.in1) W H.objs.size d (zI (D▸qh n)) AO ep).toS hn s.heap.objs.size L _ AO.length 0 { s with heap:=U } #[] _ S (qc _) X C (ItemsOf.nil _) λs' I c' f B a3=>?_⟩;show A7 _ A (load s.heap.objs.size >>= _) _ _ s';refine zb (Kk B (ze (K s' I (QO (zw B)) (λb N e=>?_) f.gens f.drawn f.os a3)));have a:=zw e;refine f.heap b N (λh=>?_) ((keep b (zI a)).trans ?_)
 ·simp only[Qr,qv,or_false]at h;rcases h with h|h
  ·exact zI a h
  ·rw[h,D]at a;exact absurd a (fW.mpr (kA _))
 ·rw[<-p];refine zd _ ?_;rw[<-q];exact zd _ e
theorem zA:∀(vs:O A0) (ys:Ap),vs.length=ys.length->(∀(j:Nat) v,vs[j]?=Z v->∃y t,ys[j]?=Z y/\v=.str y t)->StrsAre vs ys
 |[],[],_,_=>.nil
 |v::vs,y::ys,hl,h=>by
  obtain⟨b,t,e,rfl⟩:=h 0 v rfl;cases e;exact .cons y t (zA vs ys (by simpa using hl) λj v a=>h (j+1) v (by simpa using a))
theorem PJ{AO:O (An×A0)}(hk:AO.map (·.1)=ys.map Sum.inr){a:Array A0}(h:ItemsOf (λi v=>∃k x,AO[i]?=Z (k,x)/\(cH prog w).is k v=true) a AO.length):StrsAre a.toList ys:=by
 have f:AO.length=ys.length:=by have:=congrArg dv hk;simpa using this
 refine zA _ _ (by rw[qV,h.1,f]) λj v c=>?_;obtain⟨k,x,e,hi⟩:=h.2 j v (by simpa using c);have e1:(AO.map (·.1))[j]?=Z k:=by rw[z5,e];rfl
 rw[hk,z5]at e1;cases b:ys[j]? with
 |none=>rw[b]at e1;cases e1
 |some y=>
  rw[b]at e1;cases e1;have d:jz (Sum.inr y) v=true:=hi;rcases bF d with⟨i,t,e2,e3⟩|⟨z,t,e2,e3⟩
  ·cases e2
  ·cases e2;exact⟨_,t,rfl,e3⟩
theorem Mg{d:A1}{AO:O (An×A0)}{Q:BC}(v:A.handled=Y3)(hd:(d==sysModules)=false)(C:s.heap.DictAt (cH prog w) d AO ep)(hk:AO.map (·.1)=ys.map Sum.inr)(p:ys.length<64)(h:∀(l:A1) (h':A6) (tk:Nat) (out:Array A0) (zs:Ap) (n:Nat),s.heap.objs.size<=l->(∀b o,s.heap.get? b=Z o->h'.get? b=Z o)->h'.get? l=Z (seqObj "list" out n)->StrsAre out.toList zs->zs.Perm ys->sortedS zs=true->Q (.ref l) { s with heap:=h',toks:=tk }):
  A7 (A8 prog w) A (call (.builtin "sorted") [.ref d]) Q E s:=by
 have q:AO.length=ys.length:=by have:=congrArg dv hk;simpa using this
 refine ye kind_sorted plain_sorted entry_sorted (args_sorted1 _) ?_;unfold Builtin.«sorted»;refine zb (m:=checkCount "sorted" 1 1 _) (ze (zb (Jm (by exact v) hd C (zv (QO (q▸p)) ()) λs' c D ext z x u j=>?_)));have a:=PJ hk j;have B:c.toList.length<64:=by rw[qV,j.1,q];exact p
 refine zb (KM ?_);have f:(s'.heap.push (seqObj "list" c.toList.toArray 0)).get? s'.heap.objs.size=Z (seqObj "list" c.toList.toArray 0):=zl _ rfl;refine zb (qr (jb slot_list_sort ⟨_,f,rfl⟩ entry_list_sort (list_sort_treeK strKind_oneLt f a.keysOf (λF G AU e=>keyKind_strs (by rw[<-e];exact a)) B λy a1 a2=>⟨_,rfl,ze ⟨_,rfl,?_⟩⟩) (args_list_sort _)));obtain⟨zs,z1,z2,z3⟩:=sorted_out_str a a1 a2;obtain⟨n,en⟩:=sortedHeap_at (out:=(AM y).map (·.2)) f;have g:=h s'.heap.objs.size _ s'.toks _ zs n D (λb o e=>by
  have e1:=ext b o e;have i:=zw e1;rw[sortedHeap_old (zI i) (by rw[qk];exact qh i)];exact zd _ e1) en z1 z2 z3
 rw[<-z,<-x,<-u]at g;exact g
def Ur:O (An×Dt)->Y Ap
 |[]=>Z []
 |(.inr x,_)::r=>(Ur r).bind λys=>Z (x::ys)
 |(.inl _,_)::_=>Y3
theorem tX:∀{AO:O (An×Dt)} {ys:Ap},Ur AO=Z ys->AO.map (·.1)=ys.map Sum.inr
 |[],_,e=>by cases e;rfl
 |(.inr x,_)::r,_,e=>by
  obtain⟨ys,e1,e⟩:=AV e;cases e;rw[zr,zr,tX e1]
 |(.inl _,_)::_,_,e=>by cases e
theorem bE{AO:O (An×Dt)}(e:Ur AO=Z ys)(h:∀p∈AO,DU p.1)(y:AJ)(a:y∈ys):y.length<=AA:=by
 have:(Sum.inr y:An)∈AO.map (·.1):=by rw[tX e];exact bc.mpr ⟨y,a,rfl⟩
 obtain⟨p,hp,ep⟩:=bc.mp this;have:=h p hp;rw[ep]at this;exact this
def Cq:O Bx->Y Bx
 |[.n AO]=>(Ur AO).bind λys=>if AO.length<64 then Z (.o ((bN ys).map Dt.str))else Y3
 |_=>Y3
theorem RW:∀{ks:O (An×V)} {vs:O (An×A0)},KV ks vs->vs.map (·.1)=ks.map (·.1)
 |_,_,.nil=>rfl
 |_,_,.cons h t=>by rw[zr,zr,RW t,h.1]
theorem PK(j:X.calm=true):nR X (.builtin "sorted") Cq:=by
 intro AN s σ H xs us Q I r h;obtain⟨bs,c,x,e,q⟩:=h;unfold Cq at e;split at e
 ·rename_i AO;obtain⟨ys,b,e⟩:=AV e;have z:AO.length=ys.length:=by have:=congrArg dv (tX b);simpa using this
  split at e
  ·rename_i D;cases e;obtain⟨v,rfl,m⟩:=BQ x;obtain⟨a,ks,rfl,w,f⟩:=m;obtain⟨u,rfl,C⟩:=BG r;cases C;obtain⟨_,A,vs,p,o,es,ep,B⟩:=qN I.hok w;have hk:vs.map (·.1)=ys.map Sum.inr:=by rw[RW p,f.1];exact tX b
   refine Mg (I.ok.hd j) A ⟨o,es,B⟩ hk () λl h' tk out zs n g ext en z1 z2 z3=>?_;have E:=Cm z2 z3;subst E;have d:∀y∈bN ys,y.length<=AA:=λy d=>bE b f.2.2 y ((bL _).mem_iff.mp d);have i:=I.hok.fresh g;refine⟨.ref l,_,I.laid (t':=tk) (a:=l) (o:=.lst ((bN ys).map V.str)) ext g ?_,rfl,q _ _ (bf i) (λa ea=>by cases ea;exact i) ⟨l,_,rfl,aJ,wL d⟩⟩;refine⟨by rw[zk,(bL _).length_eq,<-z];exact zv (QO D) (),out.toList,n,tW z1,?_⟩;rw[en]
  ·cases e
 ·cases e
theorem aY.ahj(E:aY K H0 H σ ρ)(i:Nat):aY K H0 H σ (ρ.set i Y3):=by
 have d:∀(j:Nat) (b:Bx),(ρ.set i Y3)[j]?=Z (Z b)->ρ[j]?=Z (Z b):=λj b e=>by
  rw[yf]at e;split at e
  ·split at e<;>cases e
  ·exact e
 refine⟨by rw[QE];exact E.len,λj b e=>E.val j b (d j b e),λj k c a b e1 f e2 e3 h g=>E.own j k c a b (d _ _ e1) f e2 (d _ _ e3) h g,E.base,λj c a e1 f e2=>E.new j c a (d _ _ e1) f e2⟩
def kill(is:O Nat)(ρ:Ev):Ev:=is.foldl (λρ i=>ρ.set i Y3) ρ
theorem aY.kill{K:B5}{H0 H:Hp}{σ:L2.St}:∀(is:O Nat) {ρ:Ev},aY K H0 H σ ρ->aY K H0 H σ (P1.kill is ρ)
 |[],_,E=>E
 |i::is,_,E=>aY.kill is (E.ahj i)
def dY(is:O Nat):Ev->Y As:=λρ=>Z (.nx (kill is ρ))
theorem Xr{c:O AB}(is:O Nat)(h:Ro X c g):Ro X c (aH g (dY is)):=GY h λD σ H q=>by
 obtain⟨H0,ρ,r,E,e,q⟩:=q;obtain⟨a,e1,e⟩:=AV e;refine⟨H0,ρ,a,E,e1,?_⟩;cases a with
 |nx f=>cases e;exact λσ' H' d=>q σ' H' (d.kill is)
 |rt b=>cases e;exact q
 |bk b=>cases e;exact q
 |ct b=>cases e;exact q
theorem bI{a:O AB}(is:O Nat)(h:Ui X a g):Ui X a (aH g (dY is)):=⟨Xr is h.run⟩
end P1
namespace S1
section
variable(rk:A0->Nat)
def at_(xs:Array Keyed)(i:Nat):Nat:=match xs[i]? with
 |some p=>rk p.1
 |none=>0
def Up(xs:Array Keyed)(k:Nat):Prop:=∀i j,i<=j->j<k->at_ rk xs i<=at_ rk xs j
def CH(xs:Array Keyed)(k:Nat):Prop:=∀i j,i<=j->j<k->at_ rk xs j<=at_ rk xs i
structure Bs (kd:SortKind) (b:Array Keyed) (st:SortSt):Prop where
 pm:(arrOf st).Perm b
 kd:kindOf st=kd
 fl:failedOf st=none
 pd:pendingOf st=#[]
variable{rk}{b:Array Keyed}
theorem Bs.sz{st:SortSt}(h:Bs kd b st):(AM st).size=b.size:=h.pm.size_eq
theorem Bs.arr{st:SortSt}{xs:Array Keyed}(h:Bs kd b st)(hp:xs.Perm (AM st)):Bs kd b (PyProof.Rows.setArr st xs):=⟨hp.trans h.pm,h.kd,h.fl,h.pd⟩
theorem rY{xs ys:Array Keyed}(h:xs[i]?=ys[j]?):at_ rk xs i=at_ rk ys j:=by unfold at_;rw[h]
theorem Xu{xs:Array Keyed}{p d:Nat}(hs:p<xs.size)(hd:d<=p)(k:Nat):at_ rk (bubble xs p d) k=if k=p-d then at_ rk xs p else if p-d<k/\k<=p then at_ rk xs (k-1)else at_ rk xs k:=by
 have e:=getElem?_bubble hs d hd k;by_cases q:k=p-d
 ·simp only[zo q]at e ⊢;exact rY e
 ·simp only[zS q]at e ⊢;by_cases q2:p-d<k/\k<=p
  ·simp only[zo q2]at e ⊢;exact rY e
  ·simp only[zS q2]at e ⊢;exact rY e
theorem PL{xs:Array Keyed}(a:j<=xs.size)(k:Nat):at_ rk (mirror xs i j ((j-i) / 2)) k=if i<=k/\k<j then at_ rk xs (i+j-1-k)else at_ rk xs k:=by
 have e:=getElem?_mirror_all (i:=i) a k;by_cases q:i<=k/\k<j
 ·simp only[zo q]at e ⊢;exact rY e
 ·simp only[zS q]at e ⊢;exact rY e
theorem wQ{xs:Array Keyed}(a:j<=xs.size)(he:∀k,i<=k->k<j->at_ rk xs k=at_ rk xs (j-1))(k:Nat):at_ rk (mirror xs i j ((j-i) / 2)) k=at_ rk xs k:=by
 rw[PL a];by_cases q:i<=k/\k<j
 ·rw[zo q,he (i+j-1-k) () (),he k q.1 q.2]
 ·rw[zS q]
end
section
variable{b:Array Keyed}
def Us(prog:A3)(w:A4)(A:A5)(s:A2)(kd:SortKind)(rk:A0->Nat)(b:Array Keyed):Prop:=
 ∀(E:BC) (p q:Keyed) (Q:Bool->A2->Prop),p∈b.toList->q∈b.toList->Q (decide (rk p.1<rk q.1)) s->A7 (A8 prog w) A (keyLt' kd p.1 q.1) Q E s
theorem Mh{st:SortSt}{Q:Y Bool->SortSt->Prop}(d:Us prog w A s kd rk b)(B:Bs kd b st)(hi:i<b.size)(c:j<b.size)(h:Q (Z (decide (at_ rk (AM st) i<at_ rk (AM st) j))) st):wpS (A8 prog w) A E s (ltAt' i j) Q st:=by
 have get:∀k,k<b.size->∃p,(AM st)[k]?=Z p/\p∈b.toList:=λk hk=>by
  have e:k<(AM st).size:=by rw[B.sz];exact hk
  exact⟨(AM st)[k],getElem?_pos _ k e,(dz.mp B.pm).mem_iff.mp (by simp)⟩
 obtain⟨p,e1,a⟩:=get i hi;obtain⟨q,e2,m2⟩:=get j c;have h:Q (Z (decide (rk p.1<rk q.1))) st:=by unfold at_ at h;rw[e1,e2]at h;exact h
 rw[ltAt'_eq];refine AL (wpS_get ?_);show wpS _ _ _ _ (elem' (AM st) i >>= λx=>elem' (AM st) j >>= λy=>lt' x y) Q st;rw[elem'_eq,elem'_eq,e1,e2];refine AL (wpS_pure ?_);refine AL (wpS_pure ?_);rw[lt'_eq];refine AL (wpS_get ?_);rw[B.kd];exact AL (wpS_lift (wpAny_attempt (d _ p q _ a m2 ⟨rfl,wpS_pure h⟩)))
theorem LL{st:SortSt}{a:Nat}{Q:AscSt->SortSt->Prop}(f:Us prog w A s kd rk b)(hn:n<=b.size)(u:1<=a)(l:a<=n)(B:Bs kd b st)(hs:Up rk (AM st) a)(h:∀m,a<=m->m<=n->Up rk (AM st) m->(m=n\/at_ rk (AM st) m<at_ rk (AM st) (m-1))->Q (Y3,m) st):wpS (A8 prog w) A E s (ascLoop a n) Q st:=by
 unfold ascLoop;refine wpS_forRange (I:=λx c t=>t=st/\c=(Y3,x)/\Up rk (AM st) x) ?_ ?_ ⟨rfl,rfl,hs⟩
 ·rintro x c t g p ⟨rfl,rfl,d⟩;refine AL (Mh f B () () ?_);by_cases q:at_ rk (AM t) x<at_ rk (AM t) (x-1)
  ·simp only[q,KO,jS];exact wpS_pure (h x g () d (.inr q))
  ·simp only[q,k7,zD,qB];refine wpS_pure ⟨rfl,rfl,λi j o v=>?_⟩;by_cases hx:j<x
   ·exact d i j o hx
   ·have e:j=x:=by omega
    subst e;by_cases hi:i=j
    ·rw[hi];exact zi _
    ·have:=d i (j-1) () ();omega
 ·rintro c t ⟨rfl,rfl,d⟩;rw[show max a n=n by omega]at d ⊢;exact h n l (zi _) d (.inl S)
theorem Mi{st:SortSt}{Q:Y Nat->SortSt->Prop}(d:Us prog w A s kd rk b)(hn:n<=b.size)(h1:1<=m)(e:m<=n)(B:Bs kd b st)(hs:CH rk (AM st) m)(h:∀k t,Bs kd b t->1<=k->k<=n->Up rk (AM t) k->Q (Z k) t):wpS (A8 prog w) A E s (tail3 m n) Q st:=by
 unfold tail3;have c:m<=(AM st).size:=by rw[B.sz];omega
 refine AL (wpS_reverse ?_);have a:Bs kd b (PyProof.Rows.setArr st (mirror (AM st) 0 m ((m-0) / 2))):=B.arr (mirror_perm _ _ _ _);refine AL (LL d hn h1 e a (λi j o l=>?_) λk p f g _=>wpS_pure (h k _ a () f g));show at_ rk (mirror (AM st) 0 m ((m-0) / 2)) i<=at_ rk (mirror (AM st) 0 m ((m-0) / 2)) j;rw[PL c,PL c,zo ⟨by omega,by omega⟩,zo ⟨by omega,by omega⟩];exact hs _ _ () ()
theorem O3{st:SortSt}{Q:DescSt->SortSt->Prop}(g:Us prog w A s kd rk b)(hn:n<=b.size)(h1:1<=m)(o:m<=n)(B:Bs kd b st)(hs:CH rk (AM st) m)(h:∀k e t,Bs kd b t->m<=k->k<=n->CH rk (AM t) k->e+1<=k->(∀i,k-(e+1)<=i->i<k->at_ rk (AM t) i=at_ rk (AM t) (k-1))->Q (Y3,k,e) t):wpS (A8 prog w) A E s (descLoop m n) Q st:=by
 unfold descLoop;refine wpS_forRange (I:=λx c t=>∃e,c=(Y3,x,e)/\Bs kd b t/\CH rk (AM t) x/\e+1<=x/\∀i,x-(e+1)<=i->i<x->at_ rk (AM t) i=at_ rk (AM t) (x-1)) ?_ ?_ ⟨0,rfl,B,hs,by omega,λi q1 q2=>by rw[show i=m-1 by omega]⟩
 ·rintro x c t l y ⟨e,rfl,a,dn,f,d⟩;have u:x<=(AM t).size:=by rw[a.sz];omega
  have grow:∀xs:Array Keyed,(∀k,at_ rk xs k=at_ rk (AM t) k)->at_ rk (AM t) x<=at_ rk (AM t) (x-1)->CH rk xs (x+1):=λxs hk D i j p C=>by
   rw[hk,hk];by_cases hx:j<x
   ·exact dn i j p hx
   ·have v:j=x:=by omega
    subst v;by_cases hi:i=j
    ·rw[hi];exact zi _
    ·have:=dn i (j-1) () ();omega
  dsimp only;refine AL (Mh g a () () ?_);by_cases q:at_ rk (AM t) x<at_ rk (AM t) (x-1)
  ·simp only[q,KO,jS];by_cases h0:e>0
   ·rw[zo h0];exact AL (wpS_reverse (wpS_pure ⟨0,rfl,a.arr (mirror_perm _ _ _ _),grow _ (wQ u d) (),by omega,λi q1 q2=>by rw[show i=x by omega];rfl⟩))
   ·rw[zS h0];exact wpS_pure ⟨0,rfl,a,grow _ (λ_=>S) (),by omega,λi q1 q2=>by rw[show i=x by omega];rfl⟩
  ·simp only[q,k7,zD,qB];refine AL (Mh g a () () ?_);by_cases q2:at_ rk (AM t) (x-1)<at_ rk (AM t) x
   ·simp only[q2,KO,jS];exact wpS_pure (h x e t a l () dn f d)
   ·simp only[q2,k7,zD,qB];refine wpS_pure ⟨e+1,rfl,a,grow _ (λ_=>S) (),by omega,λi q3 z=>?_⟩;rw[show x+1-1=x by omega];by_cases hi:i=x
    ·rw[hi]
    ·rw[d i () ()];omega
 ·rintro c t ⟨e,rfl,a,dn,f,d⟩;rw[show max m n=n by omega]at dn f d ⊢;exact h n e t a o (zi _) dn f d
theorem NA{st:SortSt}{Q:Y Nat->SortSt->Prop}(a:Us prog w A s kd rk b)(hn:n<=b.size)(l:m+1<=n)(B:Bs kd b st)(hs:CH rk (AM st) (m+1))(h:∀k t,Bs kd b t->1<=k->k<=n->Up rk (AM t) k->Q (Z k) t):wpS (A8 prog w) A E s (descPart m n) Q st:=by
 unfold descPart;refine AL (wpS_lift (ke ⟨rfl,?_⟩));refine AL (O3 a hn () l B hs λk e t c q f dn u d=>?_);have g:k<=(AM t).size:=by rw[c.sz];omega
 by_cases h0:e>0
 ·simp only[zo h0];refine AL (wpS_reverse (Mi a hn () f (c.arr (mirror_perm _ _ _ _)) (λi j p o=>?_) h));show at_ rk (mirror (AM t) _ _ _) j<=at_ rk (mirror (AM t) _ _ _) i;rw[wQ g d,wQ g d];exact dn i j p o
 ·simp only[zS h0];exact Mi a hn () f c dn h
theorem Wp{st:SortSt}{Q:Y Nat->SortSt->Prop}(a:Us prog w A s kd rk b)(hn:n<=b.size)(h1:1<=n)(B:Bs kd b st)(h:∀k t,Bs kd b t->1<=k->k<=n->Up rk (AM t) k->Q (Z k) t):wpS (A8 prog w) A E s (countRun' 0 n) Q st:=by
 rw[countRun0_eq];refine AL (LL a hn (zi 1) h1 B (λi j g f=>by rw[show i=j by omega];exact zi _) λm e m2 c or=>?_);by_cases d:m=n
 ·simp only[zo (show(m==n)=true by simpa using d)];exact wpS_pure (h m st B e m2 c)
 ·simp only[zS (show ¬ (m==n)=true by simpa using d)];have lt:=or.resolve_left d;have l:m<=(AM st).size:=by rw[B.sz];omega
  by_cases g1:m>1
  ·rw[zo g1];refine AL (Mh a B () () ?_);by_cases q:at_ rk (AM st) 0<at_ rk (AM st) (m-1)
   ·simp only[q,KO,jS];exact wpS_pure (h m st B e m2 c)
   ·simp only[q,k7,zD,qB];have all:∀k,0<=k->k<m->at_ rk (AM st) k=at_ rk (AM st) (m-1):=λk _ hk=>by
     have a1:=c 0 k () hk;have a2:=c k (m-1) () ();omega
    refine AL (wpS_reverse (NA a hn () (B.arr (mirror_perm _ _ _ _)) (λi j g f=>?_) h));show at_ rk (mirror (AM st) _ _ _) j<=at_ rk (mirror (AM st) _ _ _) i;rw[wQ l all,wQ l all];by_cases o:j<m
    ·rw[all i () (),all j () o];exact zi _
    ·have p:j=m:=by omega
     subst p;by_cases hi:i=j
     ·rw[hi];exact zi _
     ·rw[all i () ()];omega
  ·rw[zS g1];have e1:m=1:=by omega
   subst e1;refine NA a hn () B (λi j g f=>?_) h;by_cases hi:i=j
   ·rw[hi];exact zi _
   ·rw[show i=0 by omega,show j=1 by omega];exact QO lt
theorem HL{st:SortSt}{g:Nat}{Q:Bool->SortSt->Prop}(v:Us prog w A s kd rk b)(hn:n<=b.size)(H:g<=n)(B:Bs kd b st)(hs:Up rk (AM st) g)(h:∀t,Bs kd b t->Up rk (AM t) n->Q true t):wpS (A8 prog w) A E s (binarySort' 0 n g) Q st:=by
 rw[binarySort'_eq];simp only[ew];refine AL (wpS_mono (wpS_forRange (I:=λk c t=>c=(Y3,cr)/\Bs kd b t/\Up rk (AM t) (min k n)) (Q:=λc t=>c=(Y3,cr)/\Bs kd b t/\Up rk (AM t) n) ?_ ?_ ?_) ?_)
 ·rintro k c t J K ⟨rfl,f,d⟩;rw[show min k n=k by omega]at d;have hk:k<b.size:=by omega
  refine AL (wpS_mono (wpS_forRange (I:=λx c a=>a=t/\∃l r,c=(Y3,l,r)/\l<=r/\r<=k/\r-l<=k-x/\(∀i,i<l->at_ rk (AM t) i<=at_ rk (AM t) k)/\(∀i,r<=i->i<k->at_ rk (AM t) k<at_ rk (AM t) i))
   (Q:=λc a=>a=t/\∃l r,c=(Y3,l,r)/\l<=k/\(∀i,i<l->at_ rk (AM t) i<=at_ rk (AM t) k)/\(∀i,l<=i->i<k->at_ rk (AM t) k<at_ rk (AM t) i)) ?_ ?_ ?_) ?_)
  ·rintro x c a _ hx ⟨rfl,l,r,rfl,F,m,C,lo,hi⟩;dsimp only;by_cases p:l>=r
   ·rw[zo p];have e:l=r:=by omega
    subst e;exact wpS_pure ⟨rfl,l,l,rfl,m,lo,hi⟩
   ·rw[zS p];refine AL (Mh v f hk () ?_);by_cases q:at_ rk (AM a) k<at_ rk (AM a) ((l+r) / 2)
    ·simp only[q,KO,jS];refine wpS_pure ⟨rfl,l,(l+r) / 2,rfl,by omega,by omega,by omega,lo,λi q1 q2=>?_⟩;have:=d ((l+r) / 2) i q1 q2;omega
    ·simp only[q,k7,zD,qB];refine wpS_pure ⟨rfl,(l+r) / 2+1,r,rfl,by omega,by omega,by omega,λi q1=>?_,hi⟩;have:=d i ((l+r) / 2) () ();omega
  ·rintro c a ⟨rfl,l,r,rfl,F,m,C,lo,hi⟩;have e:l=r:=by omega
   subst e;exact⟨rfl,l,l,rfl,m,lo,hi⟩
  ·exact⟨rfl,0,k,rfl,by omega,by omega,by omega,λi hi=>by omega,λi q1 q2=>by omega⟩
  ·rintro c a ⟨rfl,l,r,rfl,G,lo,hi⟩;show wpS _ _ _ _ (moveDown' k l >>= λ_=>pure (ForInStep.yield (Y3,cr))) _ _;rw[moveDown'_eq];refine AL (wpS_modify (wpS_pure ⟨rfl,f.arr (bubble_perm _ _ _),?_⟩));rw[show min (k+1) n=k+1 by omega];have u:k<(AM a).size:=by rw[f.sz];exact hk
   intro i j o D;show at_ rk (bubble (AM a) k (k-l)) i<=at_ rk (bubble (AM a) k (k-l)) j;rw[Xu u (),Xu u (),show k-(k-l)=l by omega]
   repeat' split
   all_goals first
    |(exfalso;omega)
    |exact zi _
    |exact lo _ ()
    |exact QO (hi _ () ())
    |exact d _ _ () ()
 ·rintro c t ⟨y,f,d⟩;refine⟨y,f,?_⟩;rwa [show min (max (max g 1) n) n=n by omega]at d
 ·refine⟨rfl,B,λi j o D=>?_⟩;by_cases z:g=0
  ·rw[show i=j by omega];exact zi _
  ·exact hs i j o ()
 ·rintro c t ⟨rfl,f,d⟩;exact wpS_pure (h t f d)
def Dn(kd:SortKind)(rk:A0->Nat)(b:Array Keyed)(st:SortSt):Prop:=(AM st).Perm b/\failedOf st=Y3/\pendingOf st=#[(0,b.size,0)]/\Up rk (AM st) b.size
theorem Bs.dn{st:SortSt}(B:Bs kd b st)(a:Up rk (AM st) b.size):Dn kd rk b (setPending st ((pendingOf st).push (0,b.size,0))):=⟨B.pm,B.fl,(by show(pendingOf st).push _=_;rw[B.pd];rfl),a⟩
theorem GO{st:SortSt}{Q:Unit->SortSt->Prop}(d:Us prog w A s kd rk b)(B:Bs kd b st)(h2:2<=b.size)(v:b.size<64)
  (h:∀t,(AM t).Perm b->failedOf t=Y3->Up rk (AM t) b.size->Q cr t):wpS (A8 prog w) A E s sortRuns' Q st:=by
 rw[sortRuns'_eq];refine AL (wpS_get ?_);have p:minRun' b.size b.size 0=b.size:=by
  obtain⟨f,y⟩:∃f,b.size=f+1:=⟨b.size-1,by omega⟩;have q:minRun' (f+1) b.size 0=b.size:=(minRun'_succ f b.size 0).trans (zo v);rwa [<-y]at q
 simp only[B.sz,p];have i:∀{t:SortSt},Bs kd b t->(pendingOf t).back?=Y3:=λB=>by rw[B.pd];rfl
 refine AL (wpS_mono (wpS_forRange (I:=λx c t=>(x=0/\c=(Y3,0)/\Bs kd b t)\/(1<=x/\c=(Y3,b.size)/\Dn kd rk b t)) (Q:=λc t=>c=(Y3,b.size)/\Dn kd rk b t) ?_ ?_ (.inl ⟨rfl,rfl,B⟩)) ?_)
 ·rintro x c t _ hx (⟨rfl,rfl,o⟩|⟨C,rfl,D⟩)
  ·dsimp only;rw[zS ()];simp only[Nat.sub_zero,il,ew];refine AL (Wp d (zi _) () o λm t2 a z m2 g=>?_);dsimp only;by_cases lt:m<b.size
   ·rw[zo lt];refine AL (wpS_lift (ke ⟨rfl,AL (HL d (zi _) m2 a g λtq j n=>?_)⟩));simp only[fu,zD,qB];refine AL (wpS_get ?_);rw[i j];exact AL (wpS_modify (wpS_pure (.inr ⟨by omega,rfl,j.dn n⟩)))
   ·rw[zS lt];have e:m=b.size:=by omega
    subst e;refine AL (wpS_get ?_);rw[i a];exact AL (wpS_modify (wpS_pure (.inr ⟨by omega,rfl,a.dn g⟩)))
  ·dsimp only;rw[zo (zi _)];exact wpS_pure ⟨rfl,D⟩
 ·rintro c t (⟨hx,_,_⟩|⟨_,l,D⟩)
  ·omega
  ·exact⟨l,D⟩
 ·rintro c t ⟨rfl,D⟩;dsimp only;refine AL (wpS_mono (wpS_forRange (I:=λ_ c u=>u=t/\c=(Y3,cr)) (Q:=λc u=>u=t/\c=(Y3,cr)) ?_ (λ_ _ q=>q) ⟨rfl,rfl⟩) ?_)
  ·rintro x c u _ _ ⟨rfl,rfl⟩;refine AL (wpS_get ?_);rw[zo (by rw[D.2.2.1];exact zi 1)];exact wpS_pure ⟨rfl,rfl⟩
  ·rintro c u ⟨rfl,rfl⟩;exact wpS_pure (h _ D.1 D.2.1 D.2.2.2)
def Rn(prog:A3)(w:A4)(A:A5)(kd:SortKind)(rk:A0->Nat)(b:Array Keyed):Prop:=∀(E:BC) (s:A2) (st:SortSt) (Q:Unit->SortSt->Prop),Us prog w A s kd rk b->Bs kd b st->2<=b.size →
 (∀t,(AM t).Perm b->failedOf t=Y3->Up rk (AM t) b.size->Q cr t)->wpS (A8 prog w) A E s sortRuns' Q st
theorem YN(h:b.size<64):Rn prog w A kd rk b:=λ_ _ _ _ a B h2 q=>GO a B h2 h q
def FM(a:A1)(s s':A2):Prop:=∀c o,c≠a->s.heap.get? c=Z o->s'.heap.get? c=Z o
theorem UV{vs:O A0}{P:Fin->A2->Prop}(f:s.heap.get? a=Z (seqObj "list" vs.toArray n))(p:2<=vs.length->∀s',FM a s s'->∀Q:SortKind->A2->Prop,Q kd s'->A7 (A8 prog w) A (keyKind' vs.toArray) Q E s')(m:∀s',FM a s s'->Us prog w A s' kd rk (pairsOf vs))(y:vs.length<=AA)(l:Rn prog w A kd rk (pairsOf vs))(h:∀st:SortSt,(AM st).Perm (pairsOf vs)->Up rk (AM st) (pairsOf vs).size->P (.done (.ret .none)) { s with heap:=sortedHeap s.heap a vs ((AM st).map (·.2)) }):
  A7 (A8 prog w) A (Builtin.«list.sort» ⟨[.ref a],[]⟩) P E s:=by
 rw[list_sort_plain];have u:=zw f;refine zb (listItems_at f S (zb (listUpdate_at f S ?_)));obtain⟨e1,g1⟩:∃e1,(s.heap.update a (Obj.mapSeq λ_=>#[])).get? a=Z (seqObj "list" #[] e1):=⟨_,get?_update_seq f λ_=>#[]⟩;refine zb (seqEpoch_at g1 S (zb (wpAny_newTuple (zb (KM (qr ?_))))));have z1:(s.heap.update a (Obj.mapSeq λ_=>#[])).objs.size=s.heap.objs.size:=jT ..;have keep:∀c,c<s.heap.objs.size->(((s.heap.update a (Obj.mapSeq λ_=>#[])).push (seqObj "tuple" vs.toArray 0)).push (seqObj "list" #[] 0)).get? c=(s.heap.update a (Obj.mapSeq λ_=>#[])).get? c:=λc b=>by
  rw[iO _ _ _ (by rw[size_push',z1];exact zI (qh b)),iO _ _ _ (by rw[z1];exact zI b)]
 have d:=(keep a u).trans g1;have old:FM a s { s with heap:=((s.heap.update a (Obj.mapSeq λ_=>#[])).push (seqObj "tuple" vs.toArray 0)).push (seqObj "list" #[] 0) }:=λc o b e=>by
  show(((s.heap.update a (Obj.mapSeq λ_=>#[])).push (seqObj "tuple" vs.toArray 0)).push (seqObj "list" #[] 0)).get? c=Z o;rw[keep c (zw e),JP _ _ _ _ b];exact e
 show A7 _ _ _ _ _ { s with heap:=((s.heap.update a (Obj.mapSeq λ_=>#[])).push (seqObj "tuple" vs.toArray 0)).push (seqObj "list" #[] 0) };have C:vs.toArray.size=vs.length:=by simp
 have g:∀st:SortSt,(AM st).Perm (pairsOf vs)->((AM st).map (·.2)).size<=AA+1:=λst hp=>by
  have q:((AM st).map (·.2)).size=vs.length:=(Array.size_map ..).trans (hp.size_eq.trans (pairsOf_size _));rw[q];exact fN y
 by_cases h2:vs.toArray.size<2
 ·simp only[zo h2];refine zb (ze ?_);rw[StateT.run_pure];refine zb (ze (zb (seqEpoch_at d S (zb (listUpdate_at d S ?_ (hsz2:=g (SortSt.mk' general' (pairsOf vs) #[] 7 Y3) (Array.Perm.refl _)))))));simp only[bne_self_eq_false,zD,qB];refine ze (h (SortSt.mk' general' (pairsOf vs) #[] 7 Y3) (Array.Perm.refl _) λi j B x=>?_);rw[pairsOf_size]at x;rw[show i=j by omega];exact zi _
 ·simp only[zS h2];refine zb (p () _ old _ ?_);refine zb (ZU (l _ _ (SortSt.mk' kd (pairsOf vs) #[] 7 Y3) (λ_ t=>(AM t).Perm (pairsOf vs)/\failedOf t=Y3/\Up rk (AM t) (pairsOf vs).size) (m _ old) ⟨Array.Perm.refl _,rfl,rfl,rfl⟩ (by rw[pairsOf_size];omega) λt q1 q2 q3=>⟨q1,q2,q3⟩) ?_ λ_ _ q=>q);rintro⟨⟨⟩,t⟩ s' ⟨rfl,hp,z,v⟩;dsimp only;refine zb (seqEpoch_at d S (zb (listUpdate_at d S ?_ (hsz2:=g t hp))));rw[z];simp only[bne_self_eq_false,zD,qB];exact ze (h t hp v)
theorem PN{x:A0}{vs:O A0}{Q:BC}(p:∀(d:BC) (Q':O A0->A2->Prop),(∀h' tk,s.heap.objs.size<=h'.objs.size->(∀c o,s.heap.get? c=Z o->h'.get? c=Z o)->Q' vs { s with heap:=h',toks:=tk })->A7 (A8 prog w) A.in1 (collect x) Q' d s)
  (j:2<=vs.length->∀(d:BC) (a:A5) (s':A2),(∀c o,s.heap.get? c=Z o->s'.heap.get? c=Z o)->∀Q:SortKind->A2->Prop,Q kd s'->A7 (A8 prog w) a (keyKind' vs.toArray) Q d s') (i:∀(a:A5) (s':A2),(∀c o,s.heap.get? c=Z o->s'.heap.get? c=Z o)->Us prog w a s' kd rk (pairsOf vs)) (u:vs.length<=AA) (g:∀a:A5,Rn prog w a kd rk (pairsOf vs))
  (h:∀(l:A1) (h':A6) (tk n:Nat) (st:SortSt),(AM st).Perm (pairsOf vs)->Up rk (AM st) (pairsOf vs).size->s.heap.objs.size<=l->(∀c o,s.heap.get? c=Z o->h'.get? c=Z o)->h'.get? l=Z (seqObj "list" ((AM st).map (·.2)) n)->Q (.ref l) { s with heap:=h',toks:=tk }):
  A7 (A8 prog w) A (call (.builtin "sorted") [x]) Q E s:=by
 refine ye kind_sorted plain_sorted entry_sorted (args_sorted1 _) ?_;unfold Builtin.«sorted»;refine zb (m:=checkCount "sorted" 1 1 _) (ze (zb (p _ _ λh1 tk v ext=>zb (KM ?_))));have b:(h1.push (seqObj "list" vs.toArray 0)).get? h1.objs.size=Z (seqObj "list" vs.toArray 0):=zl _ rfl;have old:∀s':A2,FM h1.objs.size { s with heap:=h1.push (seqObj "list" vs.toArray 0),toks:=tk } s'->∀c o,s.heap.get? c=Z o->s'.heap.get? c=Z o:=λs' q c o e=>
  q c o (zI (zw (ext c o e))) (zd _ (ext c o e))
 refine zb (qr (jb slot_list_sort ⟨_,b,rfl⟩ entry_list_sort (UV b (λq s' o=>j q _ _ s' (old s' o)) (λs' o=>i _ s' (old s' o)) u (g _) λst q1 q2=>⟨_,rfl,ze ⟨_,rfl,?_⟩⟩) (args_list_sort _)));obtain⟨n,en⟩:=sortedHeap_at (out:=(AM st).map (·.2)) b;refine h h1.objs.size _ tk n st q1 q2 v (λc o e=>?_) en;have f:=zw (ext c o e);rw[sortedHeap_old (zI f) (by rw[qk];exact qh f)];exact zd _ (ext c o e)
theorem Ut{x:A0}{vs:O A0}{Q:BC}(g:∀(a:BC) (Q':O A0->A2->Prop),(∀h' tk,s.heap.objs.size<=h'.objs.size->(∀c o,s.heap.get? c=Z o->h'.get? c=Z o)->Q' vs { s with heap:=h',toks:=tk })->A7 (A8 prog w) A.in1 (collect x) Q' a s)
  (f:2<=vs.length->∀(a:BC) (b:A5) (s':A2),(∀c o,s.heap.get? c=Z o->s'.heap.get? c=Z o)->∀Q:SortKind->A2->Prop,Q kd s'->A7 (A8 prog w) b (keyKind' vs.toArray) Q a s') (e:∀(b:A5) (s':A2),(∀c o,s.heap.get? c=Z o->s'.heap.get? c=Z o)->Us prog w b s' kd rk (pairsOf vs)) (d:vs.length<64)
  (h:∀(l:A1) (h':A6) (tk n:Nat) (st:SortSt),(AM st).Perm (pairsOf vs)->Up rk (AM st) (pairsOf vs).size->s.heap.objs.size<=l->(∀c o,s.heap.get? c=Z o->h'.get? c=Z o)->h'.get? l=Z (seqObj "list" ((AM st).map (·.2)) n)->Q (.ref l) { s with heap:=h',toks:=tk }):
  A7 (A8 prog w) A (call (.builtin "sorted") [x]) Q E s:=
 PN g f e (zv (QO d) (by rw[sizeLine_eq];omega)) (λ_=>YN (by rw[pairsOf_size];exact d)) h
end
end S1
namespace S1
open L2
theorem Uu(fb:Bool)(x y:A0):keyLt' (tuples' fb) x y=(do
  let xs <-Builtin.List.listItems x
  let ys <-Builtin.List.listItems y
  for ((p,q),i) in (xs.toList.zip ys.toList).zipIdx do
   if !(<-eqBool p q)then return <-oneLt' (fb&&i==0) p q
  return decide (xs.size<ys.size)):=rfl
def Uv:An->An->Bool
 |.inl a,.inl b=>decide (a<b)
 |.inr x,.inr y=>decide (x.cps.toList<y.cps.toList)
 |.inl _,.inr _=>true
 |.inr _,.inl _=>false
def RX:An->An->Bool
 |.inl _,.inl _=>true
 |.inr _,.inr _=>true
 |_,_=>false
def lU:O An->O An->Bool
 |[],[]=>false
 |[],_::_=>true
 |_::_,[]=>false
 |x::xs,y::ys=>if x=y then lU xs ys else Uv x y
def DA:O An->O An->Prop
 |x::xs,y::ys=>RX x y=true/\DA xs ys
 |_,_=>True
theorem Do{x y:An}{p q:A0}{Q:Bool->A2->Prop}(hp:jz x p=true)(c:jz y q=true)(h:Q (decide (x=y)) s):A7 (A8 prog w) A (eqBool p q) Q E s:=
 (cH prog w).eqBool (a:=x) (b:=y) hp c h
theorem ap{fb:Bool}{x y:An}{p q:A0}{Q:Bool->A2->Prop}(hs:RX x y=true)(hp:jz x p=true)(a:jz y q=true)(h:Q (Uv x y) s):A7 (A8 prog w) A (oneLt' fb p q) Q E s:=by
 rcases bF hp with⟨i,t,rfl,rfl⟩|⟨z,t,rfl,rfl⟩
 ·rcases bF a with⟨j,u,rfl,rfl⟩|⟨z,u,rfl,rfl⟩
  ·cases fb with
   |true=>exact oneLt_int h
   |false=>
    rw[oneLt'_eq];simp only[zD,qB];refine zb (show A7 _ _ (AG .Lt (.int i t) (.int j u)) _ _ _ from lt_int ?_);exact QP h
  ·cases hs
 ·rcases bF a with⟨j,u,rfl,rfl⟩|⟨b,u,rfl,rfl⟩
  ·cases hs
  ·cases fb with
   |true=>exact oneLt_str h
   |false=>
    rw[oneLt'_eq];simp only[zD,qB];refine zb (show A7 _ _ (AG .Lt (.str z t) (.str b u)) _ _ _ from PySem.P.lt_str ?_);exact QP h
def Ks(ks:O An)(AT:O A0):Prop:=AI (λk v=>jz k v=true) ks AT
def DI:O An->O An->Y Bool
 |x::xs,y::ys=>if x=y then DI xs ys else Z (Uv x y)
 |_,_=>Y3
theorem Xv:∀ks a:O An,lU ks a=match DI ks a with|some r=>r|none=>decide (ks.length<a.length)
 |[],[]=>rfl
 |[],_::_=>by simp[lU,DI]
 |_::_,[]=>rfl
 |x::xs,y::ys=>by
  simp only[lU,DI];by_cases e:x=y
  ·rw[zo e,zo e,Xv xs ys];simp only[ZN,Nat.add_lt_add_iff_right]
  ·rw[zS e,zS e]
def turn(fb:Bool):(A0×A0)×Nat->Y Bool×Unit->Sem (ForInStep (Y Bool×Unit)):=λx _=>match x with
 |((p,q),i)=>do
  let e <-eqBool p q
  if(!e)=true then do
    let r <-oneLt' (fb&&i==0) p q
    pure (ForInStep.done (Z r,cr))
   else pure (ForInStep.yield (Y3,cr))
theorem HQ(fb:Bool):∀(ks b:O An) (AT a:O A0) (i:Nat) (R:Y Bool×Unit->A2->Prop),Ks ks AT->Ks b a->DA ks b->R (DI ks b,cr) s->A7 (A8 prog w) A (forIn ((AT.zip a).zipIdx i) ((Y3,cr):Y Bool×Unit) (turn fb)) R E s:=by
 intro ks
 induction ks with
 |nil=>intro b AT a i R h _ _ h1;cases h;exact ze h1
 |cons x xs f=>
  intro b AT a i R h h' c h1;cases h with
  |@cons _ p _ AT hp hk=>
   cases h' with
   |nil=>exact ze h1
   |@cons y q ys a d g=>
    rw[fg,List.zipIdx_cons,List.forIn_cons];refine zb ?_;show A7 _ _ (eqBool p q >>= _) _ _ _;refine zb (Do hp d ?_);by_cases e:x=y
    ·simp only[e,KO,fu,zD,qB];refine ze (f ys AT a (i+1) R hk g c.2 ?_);simp only[DI,zo e]at h1;exact h1
    ·simp only[e,k7,eQ,jS];refine zb (ap c.1 hp d (ze (ze ?_)));simp only[DI,zS e]at h1;exact h1
theorem UU{fb:Bool}{c:A1}{f i:AE}{d:O A0}{ks b:O An}{Q:Bool->A2->Prop}(p:s.heap.get? a=Z f)(o:f.data=.seq AT.toArray n)(l:s.heap.get? c=Z i)(q:i.data=.seq d.toArray m)(hk:Ks ks AT)(g:Ks b d)(hs:DA ks b)(h:Q (lU ks b) s):A7 (A8 prog w) A (keyLt' (tuples' fb) (.ref a) (.ref c)) Q E s:=by
 rw[Uu];refine zb (listItems_at p o (zb (listItems_at l q ?_)));have u:AT.length=ks.length:=(Paired.length hk).symm;have j:d.length=b.length:=(Paired.length g).symm;refine zb (HQ fb ks b AT d 0 _ hk g hs ?_);rw[Xv]at h;cases e:DI ks b with
 |some r=>rw[e]at h;exact ze h
 |none=>
  rw[e]at h;refine ze ?_;simpa[u,j]using h
theorem Su(x:An):Uv x x=false:=by
 cases x with
 |inl a=>simp[Uv]
 |inr a=>simp[Uv]
theorem Uw{x y z:An}(h:Uv x y=true)(h':Uv y z=true):Uv x z=true:=by
 cases x<;>cases y<;>cases z<;>simp only[Uv,qS,zD,reduceCtorEq]at h h' ⊢
 ·omega
 ·exact List.lt_trans h h'
theorem ah{x y:An}(h:Uv x y=false)(h':Uv y x=false):x=y:=by
 cases x<;>cases y<;>simp only[Uv,jv,Bool.true_eq_false,reduceCtorEq]at h h'
 ·congr 1;omega
 ·rename_i a b;have:=i8 (as:=a.cps.toList) (bs:=b.cps.toList) h' h;cases a;cases b;simp only at this;rw[i9.mp this]
theorem Cr:∀xs:O An,lU xs xs=false
 |[]=>rfl
 |x::xs=>by simp only[lU,jS];exact Cr xs
theorem mZ:∀{xs ys zs:O An},lU xs ys=true->lU ys zs=true->lU xs zs=true
 |[],[],_,h,_=>by cases h
 |[],_::_,[],_,h'=>by cases h'
 |[],_::_,_::_,_,_=>rfl
 |_::_,[],_,h,_=>by cases h
 |_::_,_::_,[],_,h'=>by cases h'
 |x::xs,y::ys,z::zs,h,h'=>by
  simp only[lU]at h h' ⊢;by_cases e1:x=y
  ·subst e1;rw[zo rfl]at h;by_cases e2:x=z
   ·subst e2;rw[zo rfl]at h' ⊢;exact mZ h h'
   ·rw[zS e2]at h' ⊢;exact h'
  ·rw[zS e1]at h;by_cases e2:y=z
   ·subst e2;rw[zS e1];exact h
   ·rw[zS e2]at h';have:=Uw h h';rw[zS (λe=>by subst e;rw[Su]at this;cases this)];exact this
theorem wR:∀{xs ys:O An},lU xs ys=false->lU ys xs=false->xs=ys
 |[],[],_,_=>rfl
 |[],_::_,h,_=>by cases h
 |_::_,[],_,h'=>by cases h'
 |x::xs,y::ys,h,h'=>by
  simp only[lU]at h h';by_cases e:x=y
  ·subst e;rw[zo rfl]at h h';rw[wR h h']
  ·rw[zS e]at h;rw[zS (j0 e)]at h';exact absurd (ah h h') e
def u9(xs ys:O An):Bool:=!lU ys xs
theorem Cu(a b c:O An)(h:u9 a b=true)(h':u9 b c=true):u9 a c=true:=by
 unfold u9 at *
 simp only[Q2]at *
 cases d:lU c a with
 |false=>rfl
 |true=>
  cases f:lU a b with
  |true=>rw[mZ d f]at h';cases h'
  |false=>
   have e:=wR f h;subst e;rw[d]at h';cases h'
theorem Cv(a b:O An):(u9 a b||u9 b a)=true:=by
 unfold u9;cases h:lU b a with
 |false=>rfl
 |true=>
  cases h':lU a b with
  |false=>rfl
  |true=>have:=mZ h h';rw[Cr]at this;cases this
theorem GQ{a b:O An}(h:u9 a b=true)(h':u9 b a=true):a=b:=by
 unfold u9 at *
 simp only[Q2]at *
 exact wR h' h
theorem rZ{α:Type}{le:α->α->Prop}(d:∀a b,le a b->le b a->a=b):∀{l c:O α},l.Perm c->l.Pairwise le->c.Pairwise le->l=c
 |[],c,h,_,_=>by rw[List.nil_perm.mp h]
 |a::l,[],h,_,_=>by cases List.perm_nil.mp h
 |a::l,b::c,h,p,p'=>by
  have e:a=b:=by
   have g:a∈b::c:=h.mem_iff.mp (zg ..);have f:b∈a::l:=h.mem_iff.mpr (zg ..);rcases List.mem_cons.mp g with h1|h1
   ·exact h1
   ·rcases List.mem_cons.mp f with h2|h2
    ·exact h2.symm
    ·exact d a b (ki p h2) (ki p' h1)
  subst e;rw[rZ d ((List.perm_cons a).mp h) (du.mp p).2 (du.mp p').2]
def vA(dH:O (O An)):O (O An):=dH.mergeSort u9
theorem zB(dH:O (O An)):(vA dH).Perm dH:=eH ..
theorem Mj(dH:O (O An)):(vA dH).Pairwise (λa b=>u9 a b=true):=yT Cu Cv dH
theorem GR{out:O (O An)}(hp:out.Perm dH)(hs:out.Pairwise (λa b=>u9 a b=true)):out=vA dH:=rZ (λ_ _=>GQ) (hp.trans (zB dH).symm) hs (Mj dH)
def CU(dH:O (O An))(k:O An):Nat:=dH.countP λu=>lU u k
theorem GX{α:Type}{p q:α->Bool}:∀{l:O α},(∀x∈l,p x=true->q x=true)->(∃x∈l,p x=false/\q x=true)->l.countP p<l.countP q
 |[],_,⟨x,hx,_⟩=>by cases hx
 |a::l,h,⟨x,hx,h1,h2⟩=>by
  have le:l.countP p<=l.countP q:=hH λy b=>h y (zh _ b);rw[jV,jV];rcases List.mem_cons.mp hx with rfl|hx
  ·rw[h1,h2];simp;omega
  ·have:=GX (λy b=>h y (zh _ b)) ⟨x,hx,h1,h2⟩;have c:=h a (zg ..);cases hp:p a with
   |true=>rw[c hp];simp;omega
   |false=>simp;omega
theorem RZ{a b:O An}(e:a∈dH):decide (CU dH a<CU dH b)=lU a b:=by
 cases h:lU a b with
 |true=>
  refine ZI (GX (λu _ c=>mZ c h) ⟨a,e,Cr a,h⟩)
 |false=>
  refine Zp (fW.mpr (hH λu _ c=>?_));cases d:lU b a with
  |true=>exact mZ c d
  |false=>rw[wR h d];exact c
def nJ(h:A6)(ks:O An)(v:A0):Prop:=∃(a:A1) (o:AE) (AT:O A0) (n:Nat),v=.ref a/\h.get? a=Z o/\o.cls=.type "tuple" ∧ o.data=.seq AT.toArray n/\Ks ks AT
theorem nJ.keep{h h':A6}{ks:O An}{v:A0}(q:nJ h ks v)(k:∀c o,h.get? c=Z o->h'.get? c=Z o):nJ h' ks v:=by
 obtain⟨a,o,AT,n,e,g,c,d,p⟩:=q;exact⟨a,o,AT,n,e,k _ _ g,c,d,p⟩
theorem NW{k l:An}{v:A0}(h:jz k v=true)(h':jz l v=true):k=l:=by
 rcases bF h with⟨i,t,rfl,rfl⟩|⟨x,t,rfl,rfl⟩
 ·rcases bF h' with⟨j,u,rfl,e⟩|⟨y,u,rfl,e⟩
  ·cases e;rfl
  ·cases e
 ·rcases bF h' with⟨j,u,rfl,e⟩|⟨y,u,rfl,e⟩
  ·cases e
  ·cases e;rfl
theorem Ks.inj:∀{ks a:O An} {AT:O A0},Ks ks AT->Ks a AT->ks=a
 |_,_,[],h,h'=>by cases h;cases h';rfl
 |_,_,v::AT,h,h'=>by
  cases h with
  |cons p t=>cases h' with
   |cons p' t'=>rw[NW p p',Ks.inj t t']
theorem nJ.inj{h:A6}{ks i:O An}{v:A0}(q:nJ h ks v)(l:nJ h i v):ks=i:=by
 obtain⟨a,o,AT,n,rfl,g,c,d,p⟩:=q;obtain⟨s,o',j,m,e,b,c',f,p'⟩:=l;cases e;rw[g]at b;cases b;rw[d]at f;injection f with e1 e2;have e3:AT=j:=by simpa using congrArg ij e1
 subst e3;exact p.inj p'
theorem R0{f:α->Sem β}:∀(xs:O α) (ys:O β) (Q:O β->A2->Prop),AI (λx y=>∀(a:BC) (Q':β->A2->Prop),Q' y s->A7 (A8 prog w) A (f x) Q' a s) xs ys->Q ys s->A7 (A8 prog w) A (xs.mapM f) Q E s:=by
 intro xs
 induction xs with
 |nil=>intro ys Q p h;cases p;rw[List.mapM_nil];exact ze h
 |cons x xs b=>
  intro ys Q p q;cases p with
  |cons h t=>
   rw[List.mapM_cons];exact zb (h _ _ (zb (b _ _ t (ze q))))
theorem Xw(v:A0):firstOfTuple' v=(do
  if(<-typeOf v) != .type "tuple" then return Y3
  return (<-Builtin.List.listItems v)[0]?):=rfl
theorem Ux{k:An}{ks:O An}{v:A0}(q:nJ s.heap (k::ks) v):∃u,jz k u=true/\∀(b:BC) (Q':Y A0->A2->Prop),Q' (Z u) s->A7 (A8 prog w) A (firstOfTuple' v) Q' b s:=by
 obtain⟨a,o,AT,n,rfl,g,c,d,p⟩:=q;cases p with
 |@cons _ u _ AT hp t=>
  refine⟨u,hp,λb Q' h=>?_⟩;rw[Xw];refine zb (Q3 (T :="tuple") ⟨o,g,c⟩ ?_);rw[zS ()];exact zb (listItems_at g d (ze h))
theorem Xx{k:An}(h:jz k u=true)(a:BC)(Q':BC)(q:Q' (.type (if k.isLeft then "int" else "str")) s):A7 (A8 prog w) A (typeOf u) Q' a s:=by
 rcases bF h with⟨i,t,rfl,rfl⟩|⟨x,t,rfl,rfl⟩
 ·exact Q3 (typeIs_int s i t) q
 ·exact Q3 (typeIs_str s x t) q
theorem Uy{vs:O A0}{Q:SortKind->A2->Prop}(i:AI (nJ s.heap) dH vs)(f:∀k∈dH,k≠[])(o:∀k∈dH,∀l∈dH,DA k l)(h2:1<=vs.length)(h:Q (tuples' true) s):A7 (A8 prog w) A (keyKind' vs.toArray) Q E s:=by
 have step:∀(dH:O (O An)) (vs:O A0),AI (nJ s.heap) dH vs->(∀k∈dH,k≠[])->∃us:O A0,AI (λv u=>∀(b:BC) (Q':Y A0->A2->Prop),Q' (Z u) s->A7 (A8 prog w) A (firstOfTuple' v) Q' b s) vs us/\AI (λ(k:O An) u=>∃x r,k=x::r/\jz x u=true) dH us:=by
  intro dH vs i
  induction i with
  |nil=>intro _;exact⟨[],.nil,.nil⟩
  |@cons k v dH vs q t c=>
   intro f;obtain⟨us,p1,p2⟩:=c λk hk=>f k (zh _ hk);cases k with
   |nil=>exact absurd S (f _ (zg ..))
   |cons x r=>
    obtain⟨u,d,m⟩:=Ux (prog:=prog) (w:=w) (A:=A) q;exact⟨u::us,.cons m p1,.cons ⟨x,r,rfl,d⟩ p2⟩
 obtain⟨us,p1,p2⟩:=step dH vs i f;have B:us.length=vs.length:=(Paired.length p1).symm;have y:∀{l:O A0} {ws:O A0},AI (λv u=>∀(b:BC) (Q':Y A0->A2->Prop),Q' (Z u) s->A7 (A8 prog w) A (firstOfTuple' v) Q' b s) l ws->AI (λv u=>∀(b:BC) (Q':Y A0->A2->Prop),Q' u s->A7 (A8 prog w) A (firstOfTuple' v) Q' b s) l (ws.map Z):=λh=>by
  induction h with
  |nil=>exact .nil
  |cons q t c=>exact .cons q c
 rw[keyKind'_eq,iP,map_eq_pure_bind];refine zb (zb (R0 vs (us.map Z) _ (y p1) (ze ?_)));have C:(us.map Z).toArray.all (·.isSome)=true:=by simp
 rw[zo C];refine zb (ke ?_);have z:(us.map Z).toArray.filterMap id=us.toArray:=by simp
 rw[z,oneTypeOnly'_eq,iP,map_eq_pure_bind];have ty:∀(dH:O (O An)) (us:O A0),AI (λ(k:O An) u=>∃x r,k=x::r/\jz x u=true) dH us->∃ts:O A0,AI (λu t=>∀(b:BC) (Q':BC),Q' t s->A7 (A8 prog w) A (typeOf u) Q' b s) us ts/\AI (λ(k:O An) t=>∃x r,k=x::r/\t=.type (if x.isLeft then "int" else "str")) dH ts:=by
  intro dH us hp
  induction hp with
  |nil=>exact⟨[],.nil,.nil⟩
  |@cons k u dH us q t c=>
   obtain⟨ts,q1,q2⟩:=c;obtain⟨x,r,rfl,hx⟩:=q;exact⟨_::ts,.cons (λb Q' h=>Xx hx b Q' h) q1,.cons ⟨x,r,rfl,rfl⟩ q2⟩
 obtain⟨ts,q1,q2⟩:=ty dH us p2;refine zb (zb (zb (R0 us ts _ q1 (ze ?_))));have lt:ts.length=vs.length:=by rw[<-Paired.length q1,B]
 cases q2 with
 |nil=>simp at lt;omega
 |@cons G D H g h0 p=>
  obtain⟨a,r,rfl,rfl⟩:=h0;have same:∀t∈g,t=Value.type (if a.isLeft then "int" else "str"):=by
   have n:∀(dH:O (O An)) (ts:O A0),AI (λ(k:O An) t=>∃x r,k=x::r/\t=Value.type (if x.isLeft then "int" else "str")) dH ts->(∀k∈dH,DA (a::r) k)->∀t∈ts,t=Value.type (if a.isLeft then "int" else "str"):=by
    intro dH ts hp
    induction hp with
    |nil=>intro _ t e;cases e
    |@cons k t dH ts q _ c=>
     intro j u d;rcases List.mem_cons.mp d with rfl|d
     ·obtain⟨x,F,rfl,rfl⟩:=q;have:=(j _ (zg ..)).1;cases a<;>cases x<;>first|rfl|cases this
     ·exact c (λk hk=>j k (zh _ hk)) u d
   exact n _ _ p λk hk=>o _ (zg ..) k (zh _ hk)
  have e0:(Value.type (if a.isLeft then "int" else "str")::g).toArray[0]?=Z (Value.type (if a.isLeft then "int" else "str")):=by simp
  have e1:((Value.type (if a.isLeft then "int" else "str")::g).toArray.all λx=>x==Value.type (if a.isLeft then "int" else "str"))=true:=by
   simp only[List.all_toArray,Qb];intro t e;rcases List.mem_cons.mp e with rfl|e
   ·simp
   ·rw[same t e];simp
  rw[e0];simp only[e1,jS];refine ze (ze ?_);have e2:((Z (Value.type (if a.isLeft then "int" else "str"))).any λx=>x !=Value.type "tuple")=true:=by
   cases a with
   |inl _=>exact(by decide:((Z (Value.type "int")).any λx=>x !=Value.type "tuple")=true)
   |inr _=>exact(by decide:((Z (Value.type "str")).any λx=>x !=Value.type "tuple")=true)
  rw[e2];exact h
def BS(dH:O (O An))(vs:O A0)(v:A0):O An:=match (vs.zip dH).find? (λp=>p.1==v)with
 |some p=>p.2
 |none=>[]
theorem mQ{h:A6}:∀{dH:O (O An)} {vs:O A0},AI (nJ h) dH vs->∀v∈vs,BS dH vs v∈dH/\nJ h (BS dH vs v) v
 |_,_,.nil,v,hv=>by cases hv
 |k::dH,u::vs,.cons q t,v,hv=>by
  unfold BS;rw[fg,kC];by_cases e:u=v
  ·subst e;simp only[beq_self_eq_true];exact⟨zg ..,q⟩
  ·have e':(u==v)=false:=by simpa using e
   simp only[e'];have b:v∈vs:=by
    rcases List.mem_cons.mp hv with h|h
    ·exact absurd h.symm e
    ·exact h
   have a:=mQ t v b;exact⟨zh _ a.1,a.2⟩
theorem zF{h:A6}:∀{dH:O (O An)} {vs:O A0},AI (nJ h) dH vs->∀(K:A0->O An),(∀v∈vs,nJ h (K v) v)->vs.map K=dH
 |_,_,.nil,_,_=>rfl
 |k::dH,v::vs,.cons q t,K,hK=>by
  rw[zr,(hK v (zg ..)).inj q,zF t K λu a=>hK u (zh _ a)]
theorem Cw{h:A6}:∀{vs:O A0} {K:A0->O An},(∀v∈vs,nJ h (K v) v)->AI (nJ h) (vs.map K) vs
 |[],_,_=>.nil
 |v::vs,K,hK=>.cons (hK v (zg ..)) (Cw λu a=>hK u (zh _ a))
theorem Xy{vs:O A0}(f:AI (nJ s.heap) dH vs)(u:∀k∈dH,∀l∈dH,DA k l):Us prog w A s (tuples' true) (λv=>CU dH (BS dH vs v)) (pairsOf vs):=by
 intro E p q Q hp i h;rw[pairsOf_toList]at hp i;obtain⟨b,t1⟩:=mQ f p.1 (mem_zip_self hp).2;obtain⟨m2,t2⟩:=mQ f q.1 (mem_zip_self i).2;rw[RZ b]at h;have y:=u _ b _ m2;obtain⟨a,o,AT,n,e,g,c,d,k⟩:=t1;obtain⟨C,o',B,z,e',j,c',m,x⟩:=t2;rw[e,e'];exact UU g d j m k x y h
theorem Xz{h:A6}{vs:O A0}(a:AI (nJ h) dH vs){xs:Array Keyed}(hp:xs.Perm (pairsOf vs))(g:Up (λv=>CU dH (BS dH vs v)) xs (pairsOf vs).size):AI (nJ h) (vA dH) (xs.map (·.2)).toList:=by
 have d:xs.toList.Perm (vs.zip vs):=by rw[<-pairsOf_toList];exact dz.mp hp
 have c:∀p∈xs.toList,p.1=p.2/\p.1∈vs:=λp q=>mem_zip_self (d.mem_iff.mp q);have e:(xs.map (·.2)).toList=xs.toList.map (·.1):=by
  rw[km];exact ZT λp q=>(c p q).1.symm
 have pv:(xs.toList.map (·.1)).Perm vs:=by
  have:=d.map Prod.fst;rwa [List.map_fst_zip (zi _)]at this
 have f:vA dH=(xs.toList.map (·.1)).map (BS dH vs):=by
  refine(GR ?_ ?_).symm
  ·have:=pv.map (BS dH vs);rwa [zF a _ λv q=>(mQ a v q).2]at this
  ·rw[List.pairwise_iff_getElem];intro i j hi l m;have n:i<xs.size:=by simpa using hi
   have b:j<xs.size:=by simpa using l
   have u:=g i j (QO m) (by rw[<-hp.size_eq];exact b);unfold at_ at u;rw[getElem?_pos xs i n,getElem?_pos xs j b]at u;have m2:=(mQ a xs[j].1 (c xs[j] (by simp)).2).1;simp only[ky,Array.getElem_toList];unfold u9;rw[<-RZ m2,Zp (fW.mpr u)];rfl
 rw[f,e];refine Cw λv q=>(mQ a v ?_).2;exact pv.mem_iff.mp q
end S1
namespace P1
open L2 S1
theorem PX{o:AE}{T:String}{vs:O A0}{Q:O A0->A2->Prop}(d:s.heap.get? l=Z o)(a:o.cls=.type T)(f:T ="list" ∨ T ="tuple")(hd:o.data=.seq vs.toArray n)(g:vs.length<=AA)(h:∀h' tk,s.heap.objs.size<=h'.objs.size->(∀c o,s.heap.get? c=Z o->h'.get? c=Z o)->Q vs { s with heap:=h',toks:=tk }):A7 (A8 prog w) A (collect (.ref l)) Q E s:=by
 unfold collect;refine zb (wpAny_runValue (Q4 entry_proto_collect' ?_));show A7 _ _ (newList [] >>= λq=>again (.builtin "list.__iadd__" ⟨[q,.ref l],[]⟩)) _ _ s;refine zb (KM (ze ⟨Code.quiet_builtin _ (by decide +kernel),Q4 entry_list_iadd' ?_⟩));show A7 _ _ (Builtin.List.listExtendWith (.ref s.heap.objs.size) (.ref l) (.ref s.heap.objs.size)) _ _ _;unfold Builtin.List.listExtendWith;have g1:(s.heap.push (seqObj "list" #[] 0)).get? l=Z o:=zd _ d;refine zb (Q3 (T:=T) ⟨o,g1,a⟩ ?_);have b:(Value.type T==Value.type "list" || Value.type T==Value.type "tuple")=true:=by rcases f with rfl|rfl<;>decide
 rw[zo (by rw[Bool.or_assoc,b];simp)];refine zb (listItems_at g1 hd (zb (listItems_at (xs:=#[]) (n:=0) (zl _ S) S ?_)));rw[zS (by simp)];have g2:(s.heap.push (seqObj "list" #[] 0)).get? s.heap.objs.size=Z (seqObj "list" #[] 0):=zl _ rfl;refine zb (listUpdate_at (xs:=#[]) (n:=0) g2 S (ze ?_) (qc _) (by show(#[]++vs.toArray).size<=AA+1;simp only[kX,zt,List.length_nil];omega));show A7 (A8 prog w) A (load s.heap.objs.size >>= _) Q E _;refine zb (Kk (get?_update_seq g2 _) ?_);show A7 _ _ (pure ((#[]:Array A0)++vs.toArray).toList) Q E _;rw[show((#[]:Array A0)++vs.toArray).toList=vs by simp];refine ze (h _ s.toks ?_ λc i e=>?_)
 ·rw[jT,size_push'];exact kA _
 ·rw[JP _ _ _ _ (zI (zw e))];exact zd _ e
def FV:Dt->Y An
 |.int i=>Z (.inl i)
 |.str x=>Z (.inr x)
 |_=>Y3
def zG:O Dt->Y (O An)
 |[]=>Z []
 |d::ds=>(FV d).bind λk=>(zG ds).bind λks=>Z (k::ks)
def Cy:Dt->Y (O An)
 |.tup ds=>zG ds
 |_=>Y3
def su:O Dt->Y (O (O An))
 |[]=>Z []
 |d::ds=>(Cy d).bind λk=>(su ds).bind λks=>Z (k::ks)
def dK:An->Dt
 |.inl i=>.int i
 |.inr x=>.str x
def By(ks:O An):Dt:=.tup (ks.map dK)
theorem VO{k:An}(h:FV d=Z k):d=dK k:=by
 cases d<;>cases h<;>rfl
theorem Ml:∀{ds:O Dt} {ks:O An},zG ds=Z ks->ds=ks.map dK
 |[],_,h=>by cases h;rfl
 |d::ds,_,h=>by
  obtain⟨k,e1,h⟩:=AV h;obtain⟨ks,e2,h⟩:=AV h;cases h;rw[zr,VO e1,Ml e2]
theorem XC{ks:O An}(h:Cy d=Z ks):d=By ks:=by
 cases d with
 |tup ds=>exact congrArg Dt.tup (Ml h)
 |_=>cases h
theorem GZ:∀{ds:O Dt} {dH:O (O An)},su ds=Z dH->ds=dH.map By
 |[],_,h=>by cases h;rfl
 |d::ds,_,h=>by
  obtain⟨k,e1,h⟩:=AV h;obtain⟨ks,e2,h⟩:=AV h;cases h;rw[zr,XC e1,GZ e2]
theorem WF{k:An}(h:AY K H (dK k) v):v=kV k:=by
 cases k with
 |inl i=>exact(show v=.int i by simpa only[dK,AY]using h)
 |inr x=>exact(show v=.str x/\x.length<=AA by simpa only[dK,AY]using h).1
theorem G5{K:B5}{H:Hp}:∀{ks:O An} {vs:O V},aG K H (ks.map dK) vs->vs=ks.map kV
 |[],_,h=>by simp only[kl,aG]at h;exact h
 |k::ks,_,h=>by
  simp only[zr,aG]at h;obtain⟨v,r,rfl,h1,h2⟩:=h;rw[WF h1,G5 h2,zr]
theorem YA(X:Cx){ks:O An}:∀{us:O A0},AZ (ks.map kV) us->Ks ks us:=by
 induction ks with
 |nil=>intro us h;cases h;exact .nil
 |cons k ks a=>
  intro us h;cases h with
  |cons r t=>exact .cons (Gw (P:=X.prog) (w:=X.w) r) (a t)
theorem Jo{AN:O (A1×AE)}{σ:L2.St}{H:Hp}{s:A2}(I:AW X AN σ H s):∀{dH:O (O An)} {vs:O V} {AT:O A0},aG X.K H (dH.map By) vs->AZ vs AT->AI (nJ s.heap) dH AT
 |[],_,_,h,r=>by
  simp only[kl,aG]at h;subst h;cases r;exact .nil
 |k::dH,_,_,h,r=>by
  simp only[zr,aG]at h;obtain⟨v,vs,rfl,h1,h2⟩:=h;cases r with
  |cons f e=>
   refine .cons ?_ (Jo I h2 e);simp only[By,AY]at h1;obtain⟨a,ws,rfl,sq,i⟩:=h1;obtain⟨AT,b,⟨o,g,c,n,d⟩,_⟩:=I.tuple sq;cases f;rw[G5 i]at b;exact⟨a,o,AT,n,rfl,g,c,d,YA X b⟩
theorem G7{AN:O (A1×AE)}{σ:L2.St}{H:Hp}{s:A2}(I:AW X AN σ H s){dH:O (O An)}{vs:O V}{AT:O A0}(h:aG X.K H (dH.map By) vs)(r:AZ vs AT):∀{c:O (O An)} {out:O A0},AI (nJ s.heap) c out->(∀u∈out,u∈AT)->∃zs,AZ zs out/\aG X.K H (c.map By) zs
 |_,_,.nil,_=>⟨[],.nil,aG.nil⟩
 |l::c,u::out,.cons q t,hm=>by
  obtain⟨zs,z1,z2⟩:=G7 I h r t λx hx=>hm x (zh _ hx);have f:∀(dH:O (O An)) (vs:O V) (AT:O A0),aG X.K H (dH.map By) vs->AZ vs AT->u∈AT->∃v,At v u/\AY X.K H (By l) v:=by
   intro dH
   induction dH with
   |nil=>
    intro vs AT h r a;simp only[kl,aG]at h;subst h;cases r;cases a
   |cons k dH i=>
    intro vs AT h r a;simp only[zr,aG]at h;obtain⟨v,vs,rfl,h1,h2⟩:=h;cases r with
    |@cons _ j _ _ b d=>
     rcases List.mem_cons.mp a with rfl|a
     ·have e:k=l:=by
       have:=Jo I (dH:=[k]) (vs:=[v]) (AT:=[u]) (by simp only[zr,kl];exact aG.cons h1 aG.nil) (.cons b .nil);cases this with
       |cons g _=>exact g.inj q
      subst e;exact⟨v,b,h1⟩
     ·exact i vs _ h2 d a
  obtain⟨v,b,h1⟩:=f dH vs AT h r (hm u (zg ..));exact⟨v::zs,.cons b z1,by rw[zr];exact aG.cons h1 z2⟩
def Fy(k l:O An):Bool:=((k.zip l).all λp=>RX p.1 p.2)
theorem Qa:∀{k l:O An},Fy k l=true->DA k l
 |[],_,_=>by simp[DA]
 |_::_,[],_=>by simp[DA]
 |x::k,y::l,h=>by
  unfold Fy at h;rw[fg,kK,ZO]at h;exact⟨h.1,Qa h.2⟩
def FK(dH:O (O An)):Bool:=decide (dH.length<64)&&(dH.all (λk=>!k.isEmpty)&&dH.all λk=>dH.all λl=>Fy k l)
def Cz:O Bx->Y Bx
 |[b]=>(wH b).bind λds=>(su ds).bind λdH=>if FK dH=true then Z (.o ((vA dH).map By))else Y3
 |_=>Y3
theorem R3(h:aX K H b v)(e:wH b=Z ds):∃a vs,v=.ref a/\(nG K H a vs\/vU K H a vs)/\aG K H ds vs:=by
 cases b with
 |z d=>
  cases d<;>first|(cases e;done)|skip
  ·cases e;simp only[aX,AY]at h;obtain⟨a,vs,e,q,r⟩:=h;exact⟨a,vs,e,.inr q,r⟩
  ·cases e;simp only[aX,AY]at h;obtain⟨a,vs,e,q,r⟩:=h;exact⟨a,vs,e,.inl q.sq,r⟩
 |l c=>cases e;obtain⟨a,vs,e,q,r⟩:=h;exact⟨a,vs,e,.inl (.inl q),r⟩
 |o c=>cases e;obtain⟨a,vs,e,q,r⟩:=h;exact⟨a,vs,e,.inl (.inl (.inl q)),r⟩
 |n _=>cases e
 |m _ _=>cases e
theorem XD:nR X (.builtin "sorted") Cz:=by
 intro AN s σ H xs us Q I rx h;obtain⟨bs,c,F,e,q⟩:=h;unfold Cz at e;split at e
 ·rename_i b;obtain⟨ds,P,e⟩:=AV e;obtain⟨dH,ek,e⟩:=AV e;split at e
  ·rename_i C;cases e;simp only[FK,ZO,qS,Qb,Q2]at C;obtain⟨a4,E,A⟩:=C;obtain⟨v,rfl,D⟩:=BQ F;obtain⟨p,vs,rfl,sq,y⟩:=R3 D P;obtain⟨u,rfl,M⟩:=BG rx;cases M;have L:=GZ ek;subst L;have U:∃(AT:O A0) (o:AE) (T:String) (n:Nat),AZ vs AT/\s.heap.get? p=Z o/\o.cls=.type T/\(T ="list" ∨ T ="tuple")/\o.data=.seq AT.toArray n/\vs.length<=AA:=by
    rcases sq with sq|sq
    ·obtain⟨AT,f,pl,j⟩:=I.list sq;obtain⟨o,g,c,n,d⟩:=pl.isList;exact⟨AT,o,_,n,f,g,c,.inl rfl,d,j⟩
    ·obtain⟨AT,f,⟨o,g,c,n,d⟩,j⟩:=I.tuple sq;exact⟨AT,o,_,n,f,g,c,.inr rfl,d,j⟩
   obtain⟨AT,o,T,n,f,g,J,hT,hd,j⟩:=U;have a5:AT.length=dH.length:=by rw[<-f.length,y.length,zk]
   have tv:=Jo I y f;refine Ut (kd:=tuples' true) (rk:=λv=>CU dH (BS dH AT v)) (vs:=AT) (λW Q' w=>PX g J hT hd (by rw[<-f.length];exact j) w)
    (λh2 W A' s' k Q' w=>Uy (Paired.imp' (λ_ _ z=>nJ.keep z k) tv) (λk hk=>by have:=E k hk;cases k with|nil=>cases this|cons _ _=>exact yv _ _) (λk hk l i=>Qa (A k hk l i)) () w)
    (λA' s' k=>Xy (Paired.imp' (λ_ _ z=>nJ.keep z k) tv) λk hk l i=>Qa (A k hk l i)) () λl h' tk m st hp up i ext hL=>?_
   have out:=Xz tv hp up;have G:∀u∈((AM st).map (·.2)).toList,u∈AT:=λu B=>by
    rw[km]at B;obtain⟨pr,K,rfl⟩:=bc.mp B;have N:pr∈AT.zip AT:=by rw[<-pairsOf_toList];exact(dz.mp hp).mem_iff.mp K
    have:=mem_zip_self N;rw[<-this.1];exact this.2
   obtain⟨zs,z1,z2⟩:=G7 I y f out G;have a3:zs.length=dH.length:=by rw[z2.length,zk,(zB dH).length_eq]
   have x:H l=Y3:=I.hok.fresh i;refine⟨.ref l,_,I.laid (t':=tk) (a:=l) (o:=.lst zs) ext i ⟨by rw[a3];exact QO (Zl a4 ()),_,m,z1,?_⟩,rfl,q _ _ (bf x) (λa ea=>by cases ea;exact x) ⟨l,zs,rfl,aJ,z2.kp (.of (bf x))⟩⟩;rw[hL]
  ·cases e
 ·cases e
end P1
namespace S6
def Mp(xs:Array Nat):Prop:=∀i j,i<j->j<xs.size->xs.getD i 0<xs.getD j 0
theorem D4{xs:Array Nat}{k a b:Nat}(h:k<xs.size):xs.getD k a=xs.getD k b:=by simp[Array.getD,h]
theorem CG(xs:Array Nat)(j:Nat)(a:Mp xs):∀(fuel lo hi:Nat),lo<=hi->hi<=xs.size->hi-lo<=fuel->(∀k,k<lo->xs.getD k 0<j)->(∀k,hi<=k->k<xs.size->j<=xs.getD k 0) →
  dc.go xs j fuel lo hi<=xs.size/\(∀k,k<dc.go xs j fuel lo hi->xs.getD k 0<j)/\∀k,dc.go xs j fuel lo hi<=k->k<xs.size->j<=xs.getD k 0
 |0,lo,hi,h1,h2,h3,h4,h5=>by
  have e:lo=hi:=by omega
  subst e;unfold dc.go;exact⟨h2,h4,h5⟩
 |fuel+1,lo,hi,h1,h2,h3,h4,h5=>by
  unfold dc.go;by_cases c:lo<hi
  ·rw[zo c];dsimp only;have d:(lo+hi) / 2<xs.size:=by omega
   rw[D4 (b:=0) d];by_cases q:xs.getD ((lo+hi) / 2) 0<j
   ·rw[zo q];refine CG xs j a fuel _ hi () h2 () (λk hk=>?_) h5;by_cases e:k=(lo+hi) / 2
    ·rw[e];exact q
    ·exact gg (a k _ () d) q
   ·rw[zS q];refine CG xs j a fuel lo _ () () () h4 λk hk f=>?_;by_cases e:k=(lo+hi) / 2
    ·rw[e];omega
    ·have:=a _ k (by omega:(lo+hi) / 2<k) f;omega
  ·rw[zS c];have e:lo=hi:=by omega
   subst e;exact⟨h2,h4,h5⟩
theorem Cc{xs:Array Nat}(a:Mp xs)(j:Nat):dc xs j<=xs.size/\(∀k,k<dc xs j->xs.getD k 0<j)/\∀k,dc xs j<=k->k<xs.size->j<=xs.getD k 0:=
 CG xs j a xs.size 0 xs.size (qc _) (zi _) () (λk h=>absurd h (gL _)) λk h h'=>absurd h' ()
theorem Uz{a:Source}{Q:Nat->A2->Prop}(hn:n≠0)(h:∀i d,i<n->Q i { s with drawn:=d }):A7 M A (choose a n) Q E s:=
 λc p b=>⟨hn,h _ _ (Nat.mod_lt _ (Kn hn))⟩
theorem Jp{α:Type}:∀{xs:O α} {i:Nat} (hi:i<xs.length),(xs[i]::xs.eraseIdx i).Perm xs
 |x::xs,0,_=>List.Perm.refl _
 |x::xs,i+1,h=>by
  rw[List.eraseIdx_cons_succ,List.getElem_cons_succ];exact(List.Perm.swap _ _ _).trans ((Jp (xs:=xs) (i:=i) (by simpa using h)).cons x)
theorem VQ:∀(n:Nat) (xs:O α) (s:A2) (Q:O α->A2->Prop),xs.length=n->(∀ys d,ys.Perm xs->Q ys { s with drawn:=d })->A7 M A (drawOrder n xs) Q E s:=by
 intro n
 induction n with
 |zero=>
  intro xs s Q a h;cases xs with
  |nil=>
   unfold drawOrder;exact ze (h [] s.drawn (List.Perm.refl _))
  |cons x xs=>simp at a
 |succ n c=>
  intro xs s Q a h;cases xs with
  |nil=>simp at a
  |cons x xs=>
   unfold drawOrder;refine zb (Uz (by simp) λi d hi=>?_);have e:(x::xs)[i]?=Z (x::xs)[i]:=by simp[hi]
   rw[e];dsimp only;refine zb (c ((x::xs).eraseIdx i) _ _ (by rw[hV,zo hi];simp at a ⊢;omega) λys b hp=>ze ?_);exact h _ b ((List.Perm.cons _ hp).trans (Jp hi))
theorem R4{α:Type}(next:Nat->Nat):∀(n k:Nat) (xs:O α) (out:Array α),xs.length=n->(pickOrder.go next n k xs out).toList.Perm (out.toList++xs)
 |0,k,[],out,_=>by unfold pickOrder.go;simp
 |n+1,k,x::xs,out,hl=>by
  unfold pickOrder.go;have hi:next k%(x::xs).length<(x::xs).length:=Nat.mod_lt _ (by simp);have e:(x::xs)[next k%(x::xs).length]?=Z (x::xs)[next k%(x::xs).length]:=by rw[ZH hi]
  rw[e];dsimp only;refine(R4 next n (k+1) _ _ (by rw[hV,zo hi];simp at hl ⊢;omega)).trans ?_;rw[iS,Jn];exact(List.Perm.refl _).append (Jp hi)
theorem UG(next:Nat->Nat)(xs:Array α):(pickOrder next xs).toList.Perm xs.toList:=by
 have:=R4 next xs.size 0 xs.toList #[] (by simp);simpa[pickOrder]using this
structure Wk (w:World) (h:Heap) (a:Addr) (es:Array (Int×Value)) (ep:Nat) (t:SetTable):Prop where
 at_:∃o,h.get? a=some o/\o.cls=.type "set" ∧ o.data=.set es ep t
 fit:t.fits es.size=true
 led:w.params.followText "set-order"=false->t.led=true
 non:(1<es.size->t.plain=false)\/Mp t.place
theorem Wk.keep{h h':A6}{es:Array (Int×A0)}{t:SetTable}(x:Wk w h a es ep t)(k:∀o,h.get? a=Z o->h'.get? a=Z o):Wk w h' a es ep t:=
 ⟨let ⟨o,e,r⟩:=x.at_;⟨o,k o e,r⟩,x.fit,x.led,x.non⟩
def It(h:A6)(it a:A1)(first:A0)(i n ep:Nat):Prop:=∃o,h.get? it=Z o/\o.cls=.type "set_iterator" ∧ o.data=.fields #[first,.int (i:Int) 0,.ref a,.int (n:Int) 0,.int (ep:Int) 0]
theorem It.keep{h h':A6}{f:A0}(x:It h it a f i n ep)(k:∀o,h.get? it=Z o->h'.get? it=Z o):It h' it a f i n ep:=
 let ⟨o,e,r⟩:=x;⟨o,k o e,r⟩
theorem It.ty{f:A0}(x:It s.heap it a f i n ep):s.TypeIs (.ref it) "set_iterator":=let ⟨o,e,c,_⟩:=x;⟨o,e,c⟩
theorem iH:Slot "set_iterator" "__next__" "set_iterator.__next__":=
 .of (owner :="set_iterator") (n :="__next__") (by rw[typeLookup_type,builtinLookup_eq_fast];kernel_rfl) (by decide +kernel) (by decide +kernel) (by decide +kernel)
  (by first|exact .inl (by decide +kernel)|exact .inr (by decide +kernel)) (by rw[isSubtype_type];kernel_rfl)
theorem wU:Slot "set_iterator" "__iter__" "set_iterator.__iter__":=
 .of (owner :="set_iterator") (n :="__iter__") (by rw[typeLookup_type,builtinLookup_eq_fast];kernel_rfl) (by decide +kernel) (by decide +kernel) (by decide +kernel)
  (by first|exact .inl (by decide +kernel)|exact .inr (by decide +kernel)) (by rw[isSubtype_type];kernel_rfl)
theorem Fz:entryFor table "set_iterator.__next__"=Z Builtin.«set_iterator.__next__»:=entryFor_of_tree (by kernel_rfl)
theorem Ae:entryFor table "set.__iter__"=Z Builtin.«frozenset.__iter__»:=entryFor_alias (id' :="frozenset.__iter__") (by kernel_rfl) S (by decide +kernel) (by kernel_rfl)
theorem FJ:entryFor table "set_iterator.__iter__"=Z Builtin.«dict_keyiterator.__iter__»:=entryFor_alias (id' :="dict_keyiterator.__iter__") (by kernel_rfl) S (by decide +kernel) (by kernel_rfl)
theorem XF:Manifest.owners.lookup (String.ofList "rotareti_tes".toList.reverse)=Z Manifest.sig_set_iterator:=by kernel_rfl
theorem Jq(a:A0):argsOk "set_iterator.__next__" ⟨[a],[]⟩:=by
 unfold argsOk;rw[signature?_of (id :="set_iterator.__next__") (n :="__txen__".toList) (o :="rotareti_tes".toList) (by kernel_rfl) XF];kernel_rfl
theorem Jr(a:A0):argsOk "set_iterator.__iter__" ⟨[a],[]⟩:=by
 unfold argsOk;rw[signature?_of (id :="set_iterator.__iter__") (n :="__reti__".toList) (o :="rotareti_tes".toList) (by kernel_rfl) XF];kernel_rfl
section
variable{es:Array (Int×A0)}{t:SetTable}
theorem Bf{first:A0}(d:It s.heap it a first i es.size ep)(f:Wk w s.heap a es ep t)(h:A7 (A8 prog w) A.in1 (if let .int slot _:=first then(do
    match <-setNext a slot.toNat (i:Int).toNat (ep:Int).toNat with
    |some (x,next)=>
     setField (.ref it) 0 (rawInt next)
     setField (.ref it) 1 (rawInt ((i:Int)+1))
     ret x
    |none=>setField (.ref it) 2 .none;raiseNew (<-newExc (.type "StopIteration") []))
   else(do
    let Z places <-seqItems? first|unsupported "internal:set_iterator"
    match places[(i:Int).toNat]? with
    |some (.int place _)=>
     let x <-setNextDrawn a place.toNat (ep:Int).toNat
     setField (.ref it) 1 (rawInt ((i:Int)+1))
     ret x
    |some _=>unsupported "internal:set_iterator"
    |none=>setField (.ref it) 0 (rawInt 0);setField (.ref it) 2 .none;raiseNew (<-newExc (.type "StopIteration") []))) (λg s'=>∃v,g=.done (.ret v)/\Q (Z v) s') (λe s'=>s'.TypeIs e "StopIteration" ∧ Q Y3 s') s):A7 (A8 prog w) A (pyNext (.ref it)) Q E s:=by
 obtain⟨o,n,q,hd⟩:=id d;obtain⟨u,j,p,l⟩:=f.at_;unfold pyNext;refine zb (wpAny_attempt (yz (name:=Str.ofString "__next__") d.ty iH (jb iH d.ty Fz ?_ (Jq _))));unfold Builtin.«set_iterator.__next__»;refine zb (ze ?_);refine zb (wpAny_fieldsOf n hd ?_);show A7 _ _ (setEntries a >>= _) _ _ s;refine zb (wpAny_setEntries_of j l f.fit ?_);rw[zS (by simp)];refine ZU h (λg s' c=>?_) λe s' c=>?_
 ·obtain⟨v,rfl,m⟩:=c;exact⟨v,rfl,ze m⟩
 ·refine zb (KL (T :="StopIteration") (b:=true) c.1 isSubtype_stop ?_);exact ze c.2
theorem R5{hp:A6}(c:A.handled=Y3)(h:∀h',(∀b o,hp.get? b=Z o->h'.get? b=Z o)->Q Y3 { s with heap:=h' }):
  A7 (A8 prog w) A.in1 (do raiseNew (<-newExc (.type "StopIteration") [])) (λ(d:Fin) s'=>∃v,d=.done (.ret v)/\Q (Z v) s') (λe s'=>s'.TypeIs e "StopIteration" ∧ Q Y3 s') { s with heap:=hp }:=by
 refine zb ?_;simp only[newExc,newTuple];refine zb (qa ?_ (by size_fits));refine zb (m:=firstArgMember _ _) (wpAny_of_eq (a:=Value.none) (by first|rfl|(simp only[firstArgMember];rfl)) ?_);refine qa ?_ (by size_fits);simp only[raiseNew];refine zb (wpAny_handled ?_);rw[show A.in1.handled=Y3 from c];refine zb (ze (wpAny_throw ⟨⟨_,zl _ rfl,rfl⟩,?_⟩));exact h _ λb o e=>zd _ (zd _ e)
theorem It.put{h:A6}{f:A0}(c:It h it a f i n ep)(x:A0):It (h.update it (Obj.mapFields (·.setIfInBounds 0 x))) it a x i n ep:=by
 obtain⟨o,d,b,hd⟩:=c;exact⟨_,KI _ d (Obj.isFreed_of_fields (K0 hd _)),(Obj.cls_mapFields ..).trans b,by rw[K0 hd];simp⟩
theorem It.step{h:A6}{f:A0}(c:It h it a f i n ep):It (h.update it (Obj.mapFields (·.setIfInBounds 1 (rawInt ((i:Int)+1))))) it a f (i+1) n ep:=by
 obtain⟨o,d,b,hd⟩:=c;exact⟨_,KI _ d (Obj.isFreed_of_fields (K0 hd _)),(Obj.cls_mapFields ..).trans b,by rw[K0 hd];simp[rawInt]⟩
theorem It.field{f:A0}{k:Nat}{x:A0}{Q:Unit->A2->Prop}(b:It s.heap it a f i n ep)(hk:k<5)(h:Q cr { s with heap:=s.heap.update it (Obj.mapFields (·.setIfInBounds k x)) }):A7 (A8 prog w) A (setField (.ref it) k x) Q E s:=by
 obtain⟨o,c,d,hd⟩:=b;exact wpAny_setField c hd (by simpa using hk) h
theorem pK{h:A6}{f:AE->AE}{b:A1}{o:AE}(a:b≠it)(e:h.get? b=Z o):(h.update it f).get? b=Z o:=by rw[JP _ _ _ _ a];exact e
theorem XH{slot next:Nat}{x:A0}(c:It s.heap it a (.int (slot:Int) 0) i es.size ep)(f:Wk w s.heap a es ep t)(g:∀{l:A5} {j:BC} {Q':Y (A0×Nat)->A2->Prop},Q' (Z (x,next)) s->A7 (A8 prog w) l (setNext a slot i ep) Q' j s)(h:∀h',It h' it a (.int (next:Int) 0) (i+1) es.size ep->(∀b o,b≠it->s.heap.get? b=Z o->h'.get? b=Z o)->Q (Z x) { s with heap:=h' }):A7 (A8 prog w) A (pyNext (.ref it)) Q E s:=by
 refine Bf c f ?_;show A7 _ _ (setNext a slot i ep >>= _) _ _ s;refine zb (g ?_);refine zb (c.field () ?_);refine zb ((c.put _).field (s:={ s with heap:=_ }) () ?_);exact ze ⟨x,rfl,h _ ((c.put _).step) λb o d e=>pK d (pK d e)⟩
theorem CJ{slot:Nat}(f:A.handled=Y3)(c:It s.heap it a (.int (slot:Int) 0) i es.size ep)(d:Wk w s.heap a es ep t)(g:∀{m:A5} {l:BC} {Q':Y (A0×Nat)->A2->Prop},Q' Y3 s->A7 (A8 prog w) m (setNext a slot i ep) Q' l s)(h:∀h',(∀b o,b≠it->s.heap.get? b=Z o->h'.get? b=Z o)->Q Y3 { s with heap:=h' }):A7 (A8 prog w) A (pyNext (.ref it)) Q E s:=by
 refine Bf c d ?_;show A7 _ _ (setNext a slot i ep >>= _) _ _ s;refine zb (g ?_);refine zb (c.field () (R5 f λh' k=>h h' λb o j e=>k b o (pK j e)))
theorem TU{tp:A1}{g:AE}{c:Nat}{x:Int×A0}(f:It s.heap it a (.ref tp) i es.size ep)(d:Wk w s.heap a es ep t)(u:s.heap.get? tp=Z g)(hd:g.data=.seq (pl.map λ(k:Nat)=>rawInt (k:Int)).toArray c)(p:pl[i]?=Z j)(hx:es[j]?=Z x)(h:∀h',It h' it a (.ref tp) (i+1) es.size ep->(∀b o,b≠it->s.heap.get? b=Z o->h'.get? b=Z o)->Q (Z x.2) { s with heap:=h' }):A7 (A8 prog w) A (pyNext (.ref it)) Q E s:=by
 refine Bf f d ?_;show A7 _ _ (seqItems? (.ref tp) >>= _) _ _ s;refine zb (m:=seqItems? (.ref tp)) ?_;unfold seqItems?;refine zb (Kk u ?_);rw[hd];refine ze ?_;dsimp only;rw[Z3,show((pl.map λ(k:Nat)=>rawInt (k:Int)).toArray)[i]?=Z (rawInt (j:Int)) by simp[p]];show A7 _ _ (setNextDrawn a j ep >>= _) _ _ s;obtain⟨y,l,v,n⟩:=d.at_;refine zb (m:=setNextDrawn a j ep) ?_;unfold setNextDrawn;refine zb (kQ l n d.fit ?_);dsimp only;rw[zS (by simp),hx];refine ze ?_;refine zb (f.field () ?_);exact ze ⟨x.2,rfl,h _ f.step λb o q e=>pK q e⟩
theorem Mq{tp:A1}{g:AE}{c:Nat}(l:A.handled=Y3)(d:It s.heap it a (.ref tp) i es.size ep)(j:Wk w s.heap a es ep t)(p:s.heap.get? tp=Z g)(hd:g.data=.seq (pl.map λ(k:Nat)=>rawInt (k:Int)).toArray c)(n:pl[i]?=Y3)(h:∀h',(∀b o,b≠it->s.heap.get? b=Z o->h'.get? b=Z o)->Q Y3 { s with heap:=h' }):A7 (A8 prog w) A (pyNext (.ref it)) Q E s:=by
 refine Bf d j ?_;show A7 _ _ (seqItems? (.ref tp) >>= _) _ _ s;refine zb (m:=seqItems? (.ref tp)) ?_;unfold seqItems?;refine zb (Kk p ?_);rw[hd];refine ze ?_;dsimp only;rw[Z3,show((pl.map λ(k:Nat)=>rawInt (k:Int)).toArray)[i]?=Y3 by simpa using n];refine zb (d.field () ?_);refine zb ((d.put _).field (s:={ s with heap:=_ }) () (R5 l λh' k=>h h' λb o f e=>k b o (pK f (pK f e))))
theorem pL{Q:Bool->A2->Prop}(h:Q (w.params.followText "set-order") s):A7 (A8 prog w) A setsByText Q E s:=by
 unfold setsByText;exact zb (yn (ze h))
theorem Js{f:A0}{Q:BC}(b:It s.heap it a f i n ep)(h:Q (.ref it) s):A7 (A8 prog w) A (pyIter (.ref it)) Q E s:=by
 refine wpAny_pyIter_slot b.ty wU (jb wU b.ty FJ ?_ (Jr _));show A7 _ _ (ret (.ref it)) _ _ s;exact ze ⟨_,rfl,"set_iterator", _,b.ty,iH.lookup,h⟩
def Jt(w:A4)(a:A1)(ep:Nat)(es:Array (Int×A0)):O A0:=(pickOrder (w.params.setOrder a ep) es).toList.map (·.2)
theorem yP:(Jt w a ep es).Perm (es.toList.map (·.2)):=(UG _ _).map _
theorem G8{slot:Nat}{Q:Y (A0×Nat)->A2->Prop}(f:w.params.followText "set-order"=true)(b:Wk w s.heap a es ep t)(h:Q (((Jt w a ep es)[i]?).map λv=>(v,slot)) s):A7 (A8 prog w) A (setNext a slot i ep) Q E s:=by
 obtain⟨j,c,g,d⟩:=b.at_;unfold setNext;refine zb (kQ c d b.fit (zb (pL ?_)));rw[f];simp only[↓reduceIte,bne_self_eq_false,zD];refine zb (m:=setWalk a) ?_;unfold setWalk;refine zb (kQ c d b.fit (zb (pL ?_)));rw[f];simp only[↓reduceIte];refine zb (yn (ze (ze ?_)));have e:(pickOrder (w.params.setOrder a ep) es)[i]?.map (λe=>(e.2,slot))=((Jt w a ep es)[i]?).map λv=>(v,slot):=by
  unfold Jt;rw[z5,k3,ef];rfl
 rw[<-e]at h;exact h
theorem Qc(l:A.handled=Y3)(j:w.params.followText "set-order"=true)(m:a≠it)(c:es.size<=AA):Walks prog w A it [it,a] [it] es.size (λi v=>(Jt w a ep es)[i]?=Z v) (λi h=>It h it a (.int 0 0) i es.size ep/\Wk w h a es ep t) where
 sub:=λb d=>by simp at d;simp[d]
 frame:=λ_ _ _ st hk=>⟨st.1.keep λo e=>hk it (by simp) o e,st.2.keep λo e=>hk a (by simp) o e⟩
 item:=λi s Q E hi st f=>by
  have p:(Jt w a ep es).length=es.size:=by rw[yP.length_eq];simp
  obtain⟨v,g⟩:∃v,(Jt w a ep es)[i]?=Z v:=⟨(Jt w a ep es)[i]'(),by rw[ZH]⟩;refine XH (slot:=0) (next:=0) (x:=v) st.1 st.2 (λ{A' E' Q'} hq=>G8 j st.2 (by rw[g];exact hq)) λh' n k=>?_;exact f v h' s.toks g ⟨n,st.2.keep λo e=>k a o m e⟩ λb o d e=>k b o (λx=>d (by simp[x])) e
 done:=λs Q E st f=>by
  have p:(Jt w a ep es).length=es.size:=by rw[yP.length_eq];simp
  refine CJ (slot:=0) l st.1 st.2 (λ{A' E' Q'} hq=>G8 j st.2 (by rw[qA ()];exact hq)) λh' k=>?_;exact f h' s.toks λb o d e=>k b o (λx=>d (by simp[x])) e
 self:=λ_ _ _ _ st f=>Js st.1 f
def UJ(pl:O Nat)(es:Array (Int×A0)):O A0:=pl.filterMap λj=>es[j]?.map (·.2)
theorem UL(h:pl.Perm (cw es.size)):(UJ pl es).Perm (es.toList.map (·.2)):=by
 refine(h.filterMap _).trans ?_;rw[show(cw es.size).filterMap (λj=>es[j]?.map (·.2))=((cw es.size).filterMap λj=>es[j]?).map (·.2) by rw[List.map_filterMap],filterMap_getElem?_range]
theorem Mr:∀{pl:O Nat},(∀j∈pl,j<es.size)->∀(i:Nat) (j:Nat),pl[i]?=Z j->(UJ pl es)[i]?=es[j]?.map (·.2)
 |[],_,_,_,h=>by simp at h
 |k::pl,hb,i,j,h=>by
  have hk:=hb k (zg ..);have e:UJ (k::pl) es=es[k].2::UJ pl es:=by simp[UJ,hk]
  rw[e];cases i with
  |zero=>cases(show k=j by simpa using h);simp[hk]
  |succ i=>rw[yY];exact Mr (λj a=>hb j (zh _ a)) i j (by simpa using h)
theorem Qd{tp:A1}(m:A.handled=Y3)(p:a≠it)(n:tp≠it)(hp:pl.Perm (cw es.size)):Walks prog w A it [it,a,tp] [it] es.size (λi v=>(UJ pl es)[i]?=Z v)
  (λi h=>It h it a (.ref tp) i es.size ep/\Wk w h a es ep t/\∃f c,h.get? tp=Z f/\f.data=.seq (pl.map λ(k:Nat)=>rawInt (k:Int)).toArray c) where
 sub:=λb d=>by simp at d;simp[d]
 frame:=λ_ _ _ st hk=>⟨st.1.keep λo e=>hk it (by simp) o e,st.2.1.keep λo e=>hk a (by simp) o e,let ⟨f,c,e,r⟩:=st.2.2;⟨f,c,hk tp (by simp) f e,r⟩⟩
 item:=λi s Q E hi st g=>by
  obtain⟨f,c,e1,e2⟩:=st.2.2;have u:pl.length=es.size:=by rw[hp.length_eq];simp
  have d:∀j∈pl,j<es.size:=λj l=>di.mp (hp.mem_iff.mp l);have l:pl[i]?=Z (pl[i]'()):=by rw[ZH]
  have hx:es[pl[i]'()]?=Z (es[pl[i]'()]'(d _ (kc _))):=by rw[k8]
  refine TU st.1 st.2.1 e1 e2 l hx λh' q k=>?_;exact g _ h' s.toks (by rw[Mr d i _ l,hx];rfl) ⟨q,st.2.1.keep λo e=>k a o p e,f,c,k tp f n e1,e2⟩ λb o d e=>k b o (λx=>d (by simp[x])) e
 done:=λs Q E st g=>by
  obtain⟨f,c,e1,e2⟩:=st.2.2;have u:pl.length=es.size:=by rw[hp.length_eq];simp
  refine Mq m st.1 st.2.1 e1 e2 (by rw[qA ()]) λh' k=>?_;exact g h' s.toks λb o d e=>k b o (λx=>d (by simp[x])) e
 self:=λ_ _ _ _ st g=>Js st.1 g
def qP(t:SetTable)(i:Nat):Nat:=if i=0 then 0 else t.place.getD (i-1) 0+1
theorem UW{P:Y (A0×Nat)->Prop}{r:Y (A0×Nat)}(hp:t.place.size=es.size)(hn:Mp t.place)(hi:i<=es.size)
  (e:r=match es[dc t.place (qP t i)]?,t.place[dc t.place (qP t i)]? with
   |some (_,x),Z j=>Z (x,j+1)
   |_,_=>Y3) (h:P (((es.toList.map (·.2))[i]?).map λv=>(v,qP t (i+1)))):P r:=by
 subst e;have d:dc t.place (qP t i)=i:=by
  obtain⟨b1,b2,a⟩:=Cc hn (qP t i);generalize dc t.place (qP t i)=b at *
  unfold qP at b2 a;by_cases h0:i=0
  ·subst h0;rcases Nat.eq_zero_or_pos b with q|q
   ·exact q
   ·exact absurd (b2 0 q) (gL _)
  ·rw[zS h0]at b2 a;rcases iX b i with q|q|q
   ·have:=a (i-1) () ();omega
   ·exact q
   ·have:=b2 i q;have:=hn (i-1) i () ();omega
 rw[d];have e2:qP t (i+1)=t.place.getD i 0+1:=by unfold qP;rw[zS (Nat.succ_ne_zero i)];rfl
 rw[e2]at h;by_cases q:i<es.size
 ·have c:i<t.place.size:=by omega
  rw[k8 q,k8 c];have e3:t.place.getD i 0=t.place[i]:=by simp[Array.getD,c]
  rw[e3,z5,ef,k8 q]at h;exact h
 ·rw[hE ()];rw[z5,ef,hE ()]at h;exact h
theorem CK{Q:Y (A0×Nat)->A2->Prop}(d:w.params.followText "set-order"=false)(b:Wk w s.heap a es ep t)(hd:(!t.plain&&decide (es.size>1))=false)(hn:Mp t.place)(hi:i<=es.size)(h:Q (((es.toList.map (·.2))[i]?).map λv=>(v,qP t (i+1))) s):A7 (A8 prog w) A (setNext a (qP t i) i ep) Q E s:=by
 obtain⟨m,f,l,g⟩:=b.at_;have hp:t.place.size=es.size:=by
  have:=b.fit;simp only[hZ,ZO,beq_iff_eq]at this;exact this.1
 unfold setNext;refine zb (kQ f g b.fit (zb (pL ?_)));rw[d];simp only[zD,↓reduceIte];split
 ·rename_i c;have c:(!t.plain&&decide (es.size>1))=true:=c;rw[hd]at c;cases c
 ·have j:A7 (A8 prog w) A (if(!t.led&&!es.isEmpty)=true then unsupported "set:maker-not-led" else pure PUnit.unit) (λ_ s'=>s'=s) E s:=by
   rw[b.led d];exact ze rfl
  refine zb (ZU j (λ_ s' e=>?_) λ_ _ x=>x);subst e;refine ze ?_;exact UW (P:=λr=>Q r s') hp hn hi S h
theorem Ms(j:A.handled=Y3)(g:w.params.followText "set-order"=false)(hd:(!t.plain&&decide (es.size>1))=false)(hn:Mp t.place)(l:a≠it):Walks prog w A it [it,a] [it] es.size (λi v=>(es.toList.map (·.2))[i]?=Z v) (λi h=>It h it a (.int (qP t i:Nat) 0) i es.size ep/\Wk w h a es ep t) where
 sub:=λb c=>by simp at c;simp[c]
 frame:=λ_ _ _ st hk=>⟨st.1.keep λo e=>hk it (by simp) o e,st.2.keep λo e=>hk a (by simp) o e⟩
 item:=λi s Q E hi st d=>by
  obtain⟨v,f⟩:∃v,(es.toList.map (·.2))[i]?=Z v:=⟨(es.toList.map (·.2))[i]'(by simpa using hi),by rw[ZH]⟩;refine XH (x:=v) st.1 st.2 (λ{A' E' Q'} hq=>CK g st.2 hd hn (QO hi) (by rw[f];exact hq)) λh' m k=>?_;exact d v h' s.toks f ⟨m,st.2.keep λo e=>k a o l e⟩ λb o c e=>k b o (λx=>c (by simp[x])) e
 done:=λs Q E st d=>by
  refine CJ j st.1 st.2 (λ{A' E' Q'} hq=>CK g st.2 hd hn (zi _) (by rw[qA (by simp)];exact hq)) λh' k=>?_;exact d h' s.toks λb o c e=>k b o (λx=>c (by simp[x])) e
 self:=λ_ _ _ _ st d=>Js st.1 d
theorem XJ(f:Wk w s.heap a es ep t)(H:es.size<=AA){Q:BC}
  (h:∀(it:A1) (h':A6) (d:Drawn) (fp:O A1) (St:Nat->A6->Prop) (D:O A0),D.Perm (es.toList.map (·.2))->(∀B:A5,B.handled=Y3->Walks prog w B it fp [it] es.size (λi v=>D[i]?=Z v) St)->St 0 h'->s.heap.objs.size<=it->it<h'.objs.size →
   (∀b∈fp,b=a\/s.heap.objs.size<=b)->(∀b∈fp,b<h'.objs.size)->(∀b o,s.heap.get? b=Z o->h'.get? b=Z o)->Q (.ref it) { s with heap:=h',drawn:=d }):A7 (A8 prog w) A (pyIter (.ref a)) Q E s:=by
 obtain⟨M,g,P,y⟩:=id f.at_;have I:s.TypeIs (.ref a) "set":=⟨M,g,P⟩;have p:a<s.heap.objs.size:=zw g;refine wpAny_pyIter_slot I F.slot_set_iter (jb F.slot_set_iter I Ae ?_ (F.args_set_iter_1 _));show A7 _ _ (Builtin.Frozenset.sizeOf a >>= _) _ _ s;refine zb (m:=Builtin.Frozenset.sizeOf a) (zb (wpAny_setEntries_of g y f.fit (ze ?_)));have hd:A7 (A8 prog w) A.in1 (setDrawn a) (λb s'=>s'=s/\b=(!(w.params.followText "set-order")&&(!t.plain&&decide (es.size>1)))) E s:=by
  unfold setDrawn;exact zb (kQ g y f.fit (zb (pL (ze ⟨rfl,rfl⟩))))
 refine zb (ZU hd (λb s' e=>?_) λ_ _ x=>x);obtain⟨rfl,rfl⟩:=e;dsimp only;by_cases l:w.params.followText "set-order"=true
 ·rw[l];simp only[fu,kg,zD,qB];refine zb (ze ?_);refine zb (m:=setEpoch a) (wpAny_setEpoch_of g y f.fit ?_);refine zb (qa (ze ⟨_,rfl,"set_iterator", _,⟨_,zl _ rfl,rfl⟩,iH.lookup,?_⟩));have:=h s'.heap.objs.size (s'.heap.push { cls:=.type "set_iterator",data:=.fields #[.int 0 0,.int 0 0,.ref a,.int es.size 0,.int ep 0] }) s'.drawn [s'.heap.objs.size,a] _ _ yP (λB u=>Qc u l (t:=t) (ep:=ep) (zI p) H)
   ⟨⟨_,zl _ rfl,rfl,rfl⟩,f.keep λo e=>zd _ e⟩ (zi _) (by rw[qk];exact QI _) (λb c=>by simp at c;rcases c with rfl|rfl;exact .inr (zi _);exact .inl S)
   (λb c=>by simp at c;rw[qk];rcases c with rfl|rfl;exact QI _;exact qh p) λb o e=>zd _ e
  exact this
 ·have l:w.params.followText "set-order"=false:=by simpa using l
  rw[l];simp only[eQ,kL];cases hd:(!t.plain&&decide (es.size>1))with
  |false=>
   have N:Mp t.place:=by
    rcases f.non with q|q
    ·have U:es.size<=1:=by
      rcases Nat.lt_or_ge 1 es.size with z|z
      ·rw[q z]at hd;simp at hd;omega
      ·exact z
     have hp:t.place.size=es.size:=by
      have:=f.fit;simp only[hZ,ZO,beq_iff_eq]at this;exact this.1
     intro i j h1 h2;omega
    ·exact q
   rw[zS ()];refine zb (ze ?_);refine zb (m:=setEpoch a) (wpAny_setEpoch_of g y f.fit ?_);refine zb (qa (ze ⟨_,rfl,"set_iterator", _,⟨_,zl _ rfl,rfl⟩,iH.lookup,?_⟩));have:=h s'.heap.objs.size (s'.heap.push { cls:=.type "set_iterator",data:=.fields #[.int 0 0,.int 0 0,.ref a,.int es.size 0,.int ep 0] }) s'.drawn [s'.heap.objs.size,a] _ _ (List.Perm.refl _) (λB u=>Ms u l hd N (t:=t) (ep:=ep) (zI p))
    ⟨⟨_,zl _ rfl,rfl,rfl⟩,f.keep λo e=>zd _ e⟩ (zi _) (by rw[qk];exact QI _) (λb c=>by simp at c;rcases c with rfl|rfl;exact .inr (zi _);exact .inl S)
    (λb c=>by simp at c;rw[qk];rcases c with rfl|rfl;exact QI _;exact qh p) λb o e=>zd _ e
   exact this
  |true=>
   rw[zo rfl];refine zb (VQ _ _ _ _ (by simp) λpl d hp=>?_);refine zb (wpAny_newTuple ?_ (by rw[zk,hp.length_eq,fR];exact H));refine zb (m:=setEpoch a) (wpAny_setEpoch_of (zd _ g) y f.fit ?_);refine zb (qa (ze ⟨_,rfl,"set_iterator", _,⟨_,zl _ rfl,rfl⟩,iH.lookup,?_⟩));generalize C:s'.heap.push { cls:=.type "tuple",data:=.seq (pl.map λ(k:Nat)=>rawInt (k:Int)).toArray }=G;have n:G.objs.size=s'.heap.objs.size+1:=by rw[<-C,qk]
   have L:G.get? s'.heap.objs.size=Z { cls:=.type "tuple",data:=.seq (pl.map λ(k:Nat)=>rawInt (k:Int)).toArray }:=by rw[<-C];exact zl _ rfl
   have J:∀b o,s'.heap.get? b=Z o->G.get? b=Z o:=λb o e=>by rw[<-C];exact zd _ e
   have K:a<G.objs.size:=by rw[n];exact qh p
   have:=h G.objs.size (G.push { cls:=.type "set_iterator",data:=.fields #[.ref s'.heap.objs.size,.int 0 0,.ref a,.int es.size 0,.int ep 0] }) d [G.objs.size,a,s'.heap.objs.size] _ _ (UL hp) (λB u=>Qd u (t:=t) (ep:=ep) (tp:=s'.heap.objs.size) (zI K) (by rw[n];exact zI (QI _)) hp)
    ⟨⟨_,zl _ rfl,rfl,rfl⟩,f.keep λo e=>zd _ (J _ _ e),_,0,zd _ L,rfl⟩ (by rw[n];exact kA _) (by rw[qk];exact QI _)
    (λb c=>by simp at c;rcases c with rfl|rfl|rfl;exact .inr (by rw[n];exact kA _);exact .inl rfl;exact .inr (zi _))
    (λb c=>by
     simp at c;rw[qk];rcases c with rfl|rfl|rfl
     ·exact QI _
     ·exact qh K
     ·exact qh (by rw[n];exact QI _)) λb o e=>zd _ (J _ _ e)
   exact this
end
end S6
namespace S6
open P1
section
variable{es:Array (Int×A0)}{t:SetTable}
theorem U0{b:O A0}{a:Array A0}(hn:b.length=n)(h:ItemsOf (λi v=>b[i]?=Z v) a n):a.toList=b:=by
 apply fT;intro j;by_cases d:j<n
 ·have c:j<a.size:=by rw[h.1];exact d
  have e:a.toList[j]?=Z a[j]:=by simp[c]
  rw[e,h.2 j a[j] (by simp[c])]
 ·rw[qA (by rw[qV,h.1];omega),qA ()]
theorem Mt{Q:O A0->A2->Prop}(I:A.handled=Y3)(y:Wk w s.heap a es ep t)(C:es.size<=AA)
  (hQ:∀g h' d tk,g.Perm (es.toList.map (·.2))->s.heap.objs.size<=h'.objs.size->(∀b o,s.heap.get? b=Z o->h'.get? b=Z o)->Q g { s with heap:=h',drawn:=d,toks:=tk }):
  A7 (A8 prog w) A (collect (.ref a)) Q E s:=by
 obtain⟨n,h,u,b0⟩:=id y.at_;have hT:s.TypeIs (.ref a) "set":=⟨n,h,u⟩;have B:a<s.heap.objs.size:=zw h;unfold collect;refine zb (wpAny_runValue (Q4 F.entry_proto_collect ?_));rw[Around.under_plainId F.plain_proto_collect _];show A7 _ A.in1 (newList [] >>= λq=>again (.builtin "list.__iadd__" ⟨[q,.ref a],[]⟩)) _ _ s;refine zb (qa (ze ⟨plainId_quiet kU _,Q4 F.entry_list_iadd ?_⟩));rw[Around.under_plainId kU _];show A7 _ A.in1 (Builtin.List.listExtendWith (.ref s.heap.objs.size) (.ref a) (.ref s.heap.objs.size)) _ _ _;unfold Builtin.List.listExtendWith;generalize p:(s.heap.push { cls:=.type "list",data:=.seq ([]:O A0).toArray })=H;have i:∀b o,s.heap.get? b=Z o->H.get? b=Z o:=λb o e=>by rw[<-p];exact zd _ e
 have L:H.objs.size=s.heap.objs.size+1:=by rw[<-p,qk]
 have M:H.get? s.heap.objs.size=Z (seqObj "list" #[] 0):=by rw[<-p];exact zl _ rfl
 have a3:Wk w H a es ep t:=y.keep λo e=>i a o e;refine zb (Q3 (T :="set") ⟨n,i _ _ h,u⟩ ?_);have h1:Builtin.List.listSameRef (.ref s.heap.objs.size) (.ref a)=false:=by simp[Builtin.List.listSameRef];exact kB B
 simp only[h1,show(Value.type "set"==Value.type "list")=false by decide,show(Value.type "set"==Value.type "tuple")=false by decide,hY,zD,qB];refine zb (XJ (s:={ s with heap:=H }) a3 C λit G d fp St g hp W a4 a5 a7 X b3 v=>?_);refine zb (qr ?_);unfold Builtin.List.listLengthHint;have m:Shared.TypeIs { s with heap:=G,drawn:=d } (.ref a) "set":=⟨n,v _ _ (i _ _ h),u⟩;refine zb (wpAny_specialOf (T :="set") m F.slot_set_len.lookup ?_)
 wp_delta
 refine zb (KL (T :="set") (b:=true) m (by rw[isSubtype_type];kernel_rfl) ?_);show A7 _ A.in1 (typeOf (Value.ref a) >>= _) _ _ _;refine zb (Q3 (T :="set") m (ze ?_));rw[zo ()];show A7 _ A.in1 (Builtin.List.listTouch (Value.ref s.heap.objs.size) >>= λ_=>again (Code.builtin "list.extend.loop" ⟨[Value.ref s.heap.objs.size,Value.ref it,Value.ref s.heap.objs.size],[]⟩)) _ _ _;have j:G.get? s.heap.objs.size=Z (seqObj "list" #[] 0):=v _ _ M;unfold Builtin.List.listTouch;refine zb (zb (listUpdate_at j S (listUpdate_at (get?_update_seq j _) S ?_ (by show _<=_;decide) (by show _<=_;decide)) (by show _<=_;decide) (by show _<=_;decide)));have D:s.heap.objs.size∉fp:=λc=>by
  rcases X _ c with e|e
  ·exact kB B e
  ·have e:H.objs.size<=s.heap.objs.size:=e;rw[L]at e;exact absurd e (Nat.not_succ_le_self _)
 have K:=get?_update_seq (get?_update_seq j (λx=>x.push Value.none)) (λx=>x.pop);generalize hU:(G.update s.heap.objs.size (Obj.mapSeq λx=>x.push Value.none)).update s.heap.objs.size (Obj.mapSeq λx=>x.pop)=U at K;have keep:∀b,b≠s.heap.objs.size->U.get? b=G.get? b:=λb f=>by rw[<-hU,JP _ _ _ _ f,JP _ _ _ _ f]
 have P:St 0 U:=(W A I).frame 0 G U a4 λb f o e=>by rw[keep b λx=>D (x▸f)];exact e
 show A7 _ A.in1 (again _) _ _ { s with heap:=U,drawn:=d };have ho:g.length=es.size:=by rw[hp.length_eq];simp
 refine ze ⟨plainId_quiet F.plain_extend_loop _,codeAny_extend_loopS (W A.in1 I).toS C s.heap.objs.size D _ es.size 0 { s with heap:=U,drawn:=d } #[] _ S (qc _) P K (ItemsOf.nil _) λs' N c' l J a6=>?_⟩;show A7 _ A (load s.heap.objs.size >>= _) _ _ s';refine zb (Kk J (ze ?_));show Q N.toList s';rw[U0 ho a6];have z:=hQ g s'.heap s'.drawn s'.toks hp (QO (zw J)) λb ob e=>by
  have f:=zw e;refine l.heap b ob (λc=>?_) ((keep b (zI f)).trans (v _ _ (i _ _ e)));simp only[Qr,qv,or_false]at c;rcases c with c|c
  ·exact zI f c
  ·have:H.objs.size<=it:=a5;rw[L,<-c]at this;exact absurd f (fW.mpr (fF this))
 have e1:s'.gens=s.gens:=l.gens;have e2:s'.os=s.os:=l.os;rw[<-e1,<-e2]at z;exact z
end
theorem Ju{α:Type}[DecidableEq α]:∀{xs ys:O α},xs.Nodup->ys.Nodup->(∀z,z∈xs↔z∈ys)->xs.Perm ys
 |[],ys,_,_,h=>by
  have:ys=[]:=List.eq_nil_iff_forall_not_mem.mpr λz a=>by simpa using(h z).mpr a
  subst this;exact .refl _
 |x::xs,ys,hx,hy,h=>by
  have c:x∈ys:=(h x).mp (zg ..);have b:=cz.mp hx;refine((Ju b.2 (hy.erase x) λz=>?_).cons x).trans (List.perm_cons_erase c).symm;rw[hy.mem_erase_iff];constructor
  ·intro a;exact⟨λe=>b.1 (e▸a),(h z).mp (zh _ a)⟩
  ·intro⟨hn,a⟩;rcases List.mem_cons.mp ((h z).mpr a)with e|e
   ·exact absurd e hn
   ·exact e
theorem zH{R:α->β->Prop}:∀{l a:O β},a.Perm l->∀{ys:O α},AI R ys l->∃b,b.Perm ys/\AI R b a:=by
 intro l a hp
 replace hp:=hp.symm
 induction hp with
 |nil=>intro ys h;exact⟨ys,.refl _,h⟩
 |cons x _ e=>intro ys h;cases h with|cons r t=>obtain⟨zs,z1,z2⟩:=e t;exact⟨_::zs,z1.cons _,.cons r z2⟩
 |swap x y l=>intro ys h;cases h with|cons r t=>cases t with|cons c f=>exact⟨_,List.Perm.swap _ _ _,.cons c (.cons r f)⟩
 |trans _ _ d g=>intro ys h;obtain⟨zs,z1,z2⟩:=d h;obtain⟨us,i,j⟩:=g z2;exact⟨us,i.trans z1,j⟩
theorem Qe{R:α->β->Prop}{xs:O α}{us:O β}{ys:O α}{vs:O β}(h:AI R xs us)(k:AI R ys vs):AI R (xs++ys) (us++vs):=by
 induction h with
 |nil=>exact k
 |cons r _ a=>exact .cons r a
theorem XE(t:SetTable)(es:Array (Int×A0))(h:Int)(x:A0):(layNew t es h x).2.1.led=t.led:=by
 unfold layNew;split
 ·dsimp only[SetTable.put,SetTable.orStandIn];generalize hZ _ _=b;cases b<;>rfl
 ·rfl
theorem U3(t:SetTable)(es:Array (Int×A0))(n:Nat):(relayAll t es n).2.1.led=t.led/\(t.plain=false->(relayAll t es n).2.1.plain=false):=by
 unfold relayAll;split
 ·rename_i c f e;have a:c.led=t.led/\c.plain=t.plain:=by
   unfold SetTable.relaid SetTable.laid at e;cases d:SetTable.layClean (SetTable.sizeAbove n-1) (es.map (·.1))with
   |none=>rw[d]at e;cases e
   |some g=>rw[d]at e;cases e;exact⟨rfl,rfl⟩
  dsimp only;generalize (coversAll f es.size&&_)=b;cases b
  ·exact⟨rfl,λ_=>S⟩
  ·exact⟨a.1,λhp=>a.2.trans hp⟩
 ·exact⟨rfl,λ_=>S⟩
def U4(prog:A3)(w:A4)(y:AJ)(e:Int×A0):Prop:=∃tk,e=((strKind prog w).hash y,.str y tk)
structure XM (prog:Program) (w:World) (ys:Ap) (es:Array (Int×Value)) (t:SetTable):Prop where
 rel:Paired (U4 prog w) ys es.toList
 nd:ys.Nodup
 fit:t.fits es.size=true
 led:w.params.followText "set-order"=false->t.led=true
 non:0<es.size->t.plain=false
def Tx(prog:A3)(w:A4)(h:A6)(a:A1)(ys:Ap):Prop:=∃o es ep t,h.get? a=Z o/\o.ExactSet/\o.data=.set es ep t/\XM prog w ys es t
theorem Tx.keep{h h':A6}(x:Tx prog w h a ys)(k:∀o,h.get? a=Z o->h'.get? a=Z o):Tx prog w h' a ys:=
 let ⟨o,es,ep,t,e,r⟩:=x;⟨o,es,ep,t,k o e,r⟩
theorem XM.elems{es:Array (Int×A0)}{t:SetTable}(x:XM prog w ys es t):ElemsOf (strKind prog w) es.toList:=by
 have:∀{ys:Ap} {l:O (Int×A0)},AI (U4 prog w) ys l->ElemsOf (strKind prog w) l:=by
  intro ys l h
  induction h with
  |nil=>intro e a;cases a
  |cons r _ b=>
   intro e a;rcases List.mem_cons.mp a with rfl|a
   ·obtain⟨tk,rfl⟩:=r;exact⟨⟨_,strKind_is _ _ _ _,rfl⟩,rfl⟩
   ·exact b e a
 exact this x.rel
theorem XM.size{es:Array (Int×A0)}{t:SetTable}(x:XM prog w ys es t):es.size=ys.length:=by rw[x.rel.length];simp
theorem R6{z:AJ}{e:Int×A0}(h:U4 prog w y e):(strKind prog w).is z e.2=true↔z=y:=by
 obtain⟨tk,rfl⟩:=h;constructor
 ·intro q;exact(strKind prog w).inj _ _ _ q (strKind_is _ _ _ _)
 ·rintro rfl;exact strKind_is _ _ _ _
theorem CN{y:AJ}:∀{ys:Ap} {l:O (Int×A0)},AI (U4 prog w) ys l->((l.findIdx? λe=>(strKind prog w).is y e.2)=Y3↔y∉ys)
 |_,_,.nil=>by simp
 |z::ys,e::l,.cons r t=>by
  rw[List.findIdx?_cons];by_cases q:(strKind prog w).is y e.2=true
  ·rw[zo q,(R6 r).mp q];simp
  ·rw[zS q];have:y≠z:=λe'=>q ((R6 r).mpr e');rw[Option.map_eq_none_iff,CN t];simp[this]
theorem XQ{tk:Nat}{Q:Bool->A2->Prop}(M:Tx prog w s.heap a ys)(b3:ys.length+1<scanBound)(h:∀b h' I,Heap.SameBut a s.heap h'->Tx prog w h' a I->(∀z,z∈I↔z∈ys\/z=y)->I.length<=ys.length+1->Q b { s with heap:=h' }):A7 (A8 prog w) A (setAddHashed a (.str y tk) ((strKind prog w).hash y)) Q E s:=by
 obtain⟨o,es,ep,t,p,a3,hd,x⟩:=id M;have c0:=x.size;have c4:es.size+1<scanBound:=by rw[c0];exact b3
 have P:=x.elems;have b5:=strKind_is prog w y tk;unfold setAddHashed setAddHashedIn;refine qr (zb (kQ p hd x.fit ?_));dsimp only;rw[byScan_of (knd:=strKind prog w) (x:=.str y tk) S () P];simp only[↓reduceIte];unfold setAddByScan;refine zb (zb (ke (zb (wpAny_setScan_of b5 p hd x.fit P ?_))));cases F:es.toList.findIdx? (λe=>(strKind prog w).is y e.2)with
 |some j=>
  dsimp only;have f:y∈ys:=by
   by_cases q:y∈ys
   ·exact q
   ·rw[(CN x.rel).mpr q]at F;cases F
  refine ze (ze (h _ s.heap ys (Heap.SameBut.refl a s.heap) M (λz=>⟨.inl,λq=>q.elim id λe=>e▸f⟩) (kA _)))
 |none=>
  dsimp only;have f:y∉ys:=(CN x.rel).mp F;have gw:∀(b:Bool) {a5:A2} {Q':Unit->A2->Prop},Q' cr a5->A7 (A8 prog w) A (match b with|true=>rule "set.scan.the-table-gave-way" | false=>pure cr) Q' E a5:=
   λb _ _ hq=>by cases b;exact ze hq;exact ke hq
  have i:=layNew_perm t es ((strKind prog w).hash y) (.str y tk);have C:=layNew_fits t es ((strKind prog w).hash y) (.str y tk);have B:=XE t es ((strKind prog w).hash y) (.str y tk);generalize layNew t es ((strKind prog w).hash y) (.str y tk)=L at i C B ⊢;obtain⟨c,t1,b6,c3⟩:=L;dsimp only at i C B ⊢;rw[iS]at i;refine zb (gw _ ?_);have a7:AI (U4 prog w) (ys++[y]) (es.toList++[((strKind prog w).hash y,.str y tk)]):=Qe x.rel (.cons ⟨tk,rfl⟩ .nil);obtain⟨l,p1,K⟩:=zH i a7;have U:l.Nodup:=p1.nodup_iff.mpr (List.nodup_append.mpr ⟨x.nd,by simp,λu hu v hv=>by simp at hv;subst hv;exact λe=>f (e▸hu)⟩);have m1:∀z,z∈l↔z∈ys\/z=y:=λz=>by rw[p1.mem_iff];simp
  have l1:l.length=ys.length+1:=by rw[p1.length_eq];simp
  have z1:c.size=es.size+1:=by rw[<-qV,i.length_eq];simp
  have W:∀t2:SetTable,t2.fits c.size=true->t2.led=t1.led->t2.plain=false->A7 (A8 prog w) A (do
    storeSet a c t2
    if(!b6&&t2.tooFull)=true then do
      (match (relayAll t2 c (dr c.size)).2.2 with|true=>rule "set.scan.the-table-gave-way" | false=>pure cr)
      storeSet a (relayAll t2 c (dr c.size)).1 (relayAll t2 c (dr c.size)).2.1
      pure (Z true)
     else pure (Z true)) (λr s'=>∃b,r=Z b/\Q b s') E s:=by
   intro t2 f2 X p2;have up:∀(hp:A6) (n:AE) (e1 e2:Array (Int×A0)) (H:Nat) (u1 d:SetTable),hp.get? a=Z n->n.data=.set e1 H u1->(hp.update a (Obj.putSet e2 d)).get? a=Z { n with data:=.set e2 (H+1) d }:=λhp n e1 e2 H u1 d g q=>by
    have:=KI (Obj.putSet e2 d) g (by rw[putSet_of e2 d q];rfl);rw[putSet_of e2 d q]at this;exact this
   have g1:=up s.heap o es c ep t t2 p hd;refine zb (wpAny_storeSet_of p hd ?_ (fits_of_scanBound ()));split
   ·have hp:=relayAll_perm t2 c (dr c.size);have J:=relayAll_fits t2 c (dr c.size);have D:=U3 t2 c (dr c.size);generalize relayAll t2 c (dr c.size)=Rl at hp J D ⊢;obtain⟨a4,N,c5⟩:=Rl;dsimp only at hp J D ⊢;obtain⟨a6,G,r2⟩:=zH hp K;refine zb (gw _ ?_);refine zb (wpAny_storeSet_of g1 S ?_ (fits_of_scanBound (by rw[<-qV,hp.length_eq,qV];omega)));have g2:=up _ _ c a4 _ t2 N g1 rfl;exact ze ⟨true,rfl,h _ _ a6 ((ku ..).trans (ku ..)) ⟨_,a4,_,N,g2,a3,rfl,r2,G.nodup_iff.mpr U,J,λq=>(D.1.trans X).trans (B.trans (x.led q)),λ_=>D.2 p2⟩ (λz=>by rw[G.mem_iff];exact m1 z) (by rw[G.length_eq];exact gh l1)⟩
   ·exact ze ⟨true,rfl,h _ _ l (ku ..) ⟨_,c,_,t2,g1,a3,rfl,K,U,f2,λq=>X.trans (B.trans (x.led q)),λ_=>p2⟩ m1 (gh l1)⟩
  have b4:∀{m:Sem (Y Bool)},A7 (A8 prog w) A m (λr s'=>∃b,r=Z b/\Q b s') E s->A7 (A8 prog w) A m (λr s'=>A7 (A8 prog w) A (match r with|some b0=>pure b0|none=>setAddHashedIn a (.str y tk) ((strKind prog w).hash y) 99999) Q E s') E s:=λf=>ZU f (λr s' q=>by obtain⟨b,rfl,q⟩:=q;exact ze q) λ_ _ q=>q;refine b4 ?_;split
  ·refine zb ?_;rw[hashByValue_scannable 8 (x:=.str y tk) rfl];refine ze ?_;exact W { t1 with plain:=false } (SetTable.fits_plain_off C) S rfl
  ·rename_i hp;refine zb (ze ?_);simp only[↓reduceIte];exact W t1 C S (by simpa using hp)
def DD(w:A4):AE:={ cls:=.type "set",dict:=Y3,data:=.set #[] 0 (.fresh 0 0 (!w.params.followText "set-order")) }
section
variable{R:Result->A2->Prop}{I:A1}{wr:O A1}{P:Nat->A0->Prop}{St:Nat->A2->Prop}{C:A6->O κ->Prop}{val:Nat->κ}
end
end S6
namespace S6
open PySem
structure Tb (t:SetTable):Prop where
 mask:t.mask=7\/t.mask=31\/t.mask=127
 dum:t.dummies=#[]
 rise:Mp t.place
 bd:∀j:Nat,j∈t.place->j<=t.mask
 full:t.place.size<=t.mask
def VY(a:Nat)(p:SetTable.Probe):SetTable.Probe:=
 if p.more>0 then { p with j:=p.j+1,more:=p.more-1 }else
 { p with j:=(dA a p.i p.perturb).1,more:=k0 a (dA a p.i p.perturb).1-(dA a p.i p.perturb).1,i:=(dA a p.i p.perturb).1,perturb:=(dA a p.i p.perturb).2 }
def RE(a i perturb:Nat):SetTable.Probe:={ j:=i,more:=k0 a i-i,i,perturb,dummy:=Y3 }
def HH(a:Nat)(h:Int):Nat->SetTable.Probe
 |0=>RE a (fw h%(a+1)) (fw h)
 |n+1=>VY a (HH a h n)
def nx(M i:Nat):Nat:=(i*5+1)%M
def lp(a:Nat)(h:Int):Nat->Nat×Nat
 |0=>(fw h%(a+1),fw h)
 |l+1=>dA a (lp a h l).1 (lp a h l).2
structure Tok (t:SetTable) (es:Array (Int×Value)):Prop extends Tb t where
 size:t.place.size=es.size
 reach:∀(i j:Nat) e,t.place[i]?=some j->es[i]?=some e->∃n,n<10*SetTable.turns t.mask/\(HH t.mask e.1 n).j=j/\∀m,m<n->(HH t.mask e.1 m).j∈t.place
end S6
namespace S6
open P1 L2
abbrev Sk(prog:A3)(w:A4)(ks:O An):Int:=tupleKeyHash (cH prog w) ks
def TE(prog:A3)(w:A4)(h:A6)(z:O An×A1)(e:Int×A0):Prop:=e=(Sk prog w z.1,.ref z.2)/\IsTupleKey (cH prog w) h z.1 z.2
end S6
namespace S1
open L2
end S1
namespace S6
end S6
namespace S1
def B8:Nat->StateT SortSt Sem Unit:=sortPriv% PySem.Builtin.setMinGallop
section
variable{b:Array Keyed}
end
section
variable(le:Keyed->Keyed->Prop)
variable{le}{out xs ys:O Keyed}
end
section
variable{b:Array Keyed}
abbrev Le(rk:A0->Nat):Keyed->Keyed->Prop:=λp q=>rk p.1<=rk q.1
section
variable{x y:Array Keyed}
abbrev ON:=Y (Array Keyed)×Array Keyed×Nat×Nat×Nat×Nat×Nat
section
variable{P:ForInStep ON->SortSt->Prop}
end
abbrev brk(o:Y α)(f:α->StateT SortSt Sem β)(g:Unit->StateT SortSt Sem β):StateT SortSt Sem β:=Break.runK.match_1 (motive:=λ_=>StateT SortSt Sem β) o f g
section
variable{a b c:Type}
end
end
end
section
variable{b:Array Keyed}
variable{x y:Array Keyed}
abbrev UR:=Y (Array Keyed)×Nat×Nat×Array Keyed×Nat×Nat×Nat
section
variable{P:ForInStep UR->SortSt->Prop}
end
end
section
variable{b:Array Keyed}
end
section
variable(rk:A0->Nat)(lo:Nat)
abbrev al(xs:Array Keyed)(i:Nat):Nat:=at_ rk xs (lo+i)
def MG(xs:Array Keyed)(k:Nat):Prop:=∀i j,i<=j->j<k->al rk lo xs j<=al rk lo xs i
end
section
variable{b:Array Keyed}{lo:Nat}{u:SortSt}
theorem grow{xs ys:Array Keyed}{x:Nat}(dn:MG rk lo xs x)(hk:∀k,al rk lo ys k=al rk lo xs k)(a:1<=x->al rk lo xs x<=al rk lo xs (x-1)):MG rk lo ys (x+1):=λi j c d=>by
 rw[hk,hk];by_cases hx:j<x
 ·exact dn i j c hx
 ·have b:j=x:=by omega
  subst b;by_cases hi:i=j
  ·rw[hi];exact zi _
  ·have:=dn i (j-1) () ();have:=a ();omega
end
section
variable(rk:A0->Nat)
def Ds:Nat->O (O Keyed)->O (Nat×Nat×Nat)->Prop
 |_,[],[]=>True
 |lo,g::gs,(a,n,_)::ps=>a=lo/\n=g.length/\g≠[]/\g.Pairwise (Le rk)/\Ds (lo+g.length) gs ps
 |_,_,_=>False
variable{rk}
end
section
variable{b:Array Keyed}
structure St (rk:Value->Nat) (kd:SortKind) (b:Array Keyed) (R:List Keyed) (gs:List (List Keyed)) (t:SortSt):Prop where
 kd:kindOf t=kd
 fl:failedOf t=none
 pm:(arrOf t).Perm b
 ar:(arrOf t).toList=gs.flatten++R
 ds:Ds rk 0 gs (pendingOf t).toList
end
end S1
namespace S6
open PySem
end S6
namespace P1
open L2 S6
def qd:Ap->Ap
 |[]=>[]
 |y::ys=>if y∈ys then qd ys else y::qd ys
theorem lA:∀{ys:Ap} {z:AJ},z∈qd ys↔z∈ys
 |[],z=>by simp[qd]
 |y::ys,z=>by
  unfold qd;split
  ·rename_i h;rw[lA,Qr];exact⟨.inr,λq=>q.elim (λe=>e▸h) id⟩
  ·rw[Qr,lA,Qr]
theorem qe:∀(ys:Ap),(qd ys).Nodup
 |[]=>by simp[qd]
 |y::ys=>by
  unfold qd;split
  ·exact qe ys
  ·rename_i h;exact cz.mpr ⟨λq=>h (lA.mp q),qe ys⟩
theorem zJ{prog:A3}{w:A4}:∀{ys:Ap} {l:O (Int×A0)},AI (U4 prog w) ys l->StrsAre (l.map (·.2)) ys
 |_,_,.nil=>.nil
 |_,_,.cons r t=>by obtain⟨tk,rfl⟩:=r;exact .cons _ _ (zJ t)
theorem Jv:∀{l c:O A0},c.Perm l->∀{ys:Ap},StrsAre l ys->∃d,d.Perm ys/\StrsAre c d:=by
 intro l c hp
 replace hp:=hp.symm
 induction hp with
 |nil=>intro ys h;exact⟨ys,.refl _,h⟩
 |cons x _ g=>intro ys h;cases h with|cons y k t=>obtain⟨zs,z1,z2⟩:=g t;exact⟨y::zs,z1.cons _,.cons y k z2⟩
 |swap x y l=>intro ys h;cases h with|cons a k t=>cases t with|cons b e i=>exact⟨_,List.Perm.swap _ _ _,.cons b e (.cons a k i)⟩
 |trans _ _ f j=>intro ys h;obtain⟨zs,z1,z2⟩:=f h;obtain⟨us,m,n⟩:=j z2;exact⟨us,m.trans z1,n⟩
section
def C'(X:Cx)(a:A1)(zs:Ap):HO:=.ext λh=>Tx X.prog X.w h a zs
theorem XR(I:AW X AN σ H s){zs:Ap}(h:H a=Z (C' X a zs)):Tx X.prog X.w s.heap a zs:=(I.hok _ _ h).1
theorem U5{d:Drawn}(I:AW X AN σ H s):AW X AN σ H { s with drawn:=d }:=⟨I.ok,I.os,I.bare,I.base,I.loc,I.cell,I.free,I.mU,I.pin,I.hok,I.len⟩
def TK(X:Cx):O V->Hp->VK->Prop:=λxs H Q=>∃a zs,xs=[.ref a]/\H a=Z (C' X a zs)/\zs.length<64/\(∀z∈zs,z.length<=AA)/\∀l H',AX H H'->H l=Y3->H' l=Z (.lst ((bN zs).map V.str))->Q (.ref l) H'
theorem UD(z:X.calm=true):fK X (.builtin "sorted") (TK X):=by
 intro AN s σ H xs us Q I r h;obtain⟨a,zs,rfl,v,W,U,q⟩:=h;obtain⟨u,rfl,B⟩:=BG r;cases B;obtain⟨o,es,ep,t,C,D,hd,x⟩:=XR I v;have E:=x.size;have K:Wk X.w s.heap a es ep t:=⟨⟨o,C,D.1,hd⟩,x.fit,x.led,.inl λq=>x.non ()⟩;refine ye kind_sorted plain_sorted entry_sorted (args_sorted1 _) ?_;unfold Builtin.«sorted»;refine zb (m:=checkCount "sorted" 1 1 _) (ze (zb (Mt (by exact I.ok.hd z) K (by rw[E,sizeLine_eq];omega) λc h1 d tk hp j ext=>?_)));obtain⟨ys,A,g⟩:=Jv hp (zJ x.rel);have J:c.length<64:=by rw[hp.length_eq];simp;omega
 refine zb (KM ?_);have i:(h1.push (seqObj "list" c.toArray 0)).get? h1.objs.size=Z (seqObj "list" c.toArray 0):=zl _ rfl;refine zb (qr (jb slot_list_sort ⟨_,i,rfl⟩ entry_list_sort (list_sort_treeK strKind_oneLt i g.keysOf (λN P AU e=>keyKind_strs (by rw[<-e];exact g)) J λf a1 a2=>⟨_,rfl,ze ⟨_,rfl,?_⟩⟩) (args_list_sort _)));obtain⟨us,L,G,M⟩:=sorted_out_str g a1 a2;obtain⟨n,en⟩:=sortedHeap_at (out:=(AM f).map (·.2)) i;have y:=Cm (G.trans A) M;subst y;have l:=I.hok.fresh (a:=h1.objs.size) j;have F:=U5 (d:=d) (I.laid (t':=tk) (a:=h1.objs.size) (o:=.lst ((bN zs).map V.str)) (h':=sortedHeap (h1.push (seqObj "list" c.toArray 0)) h1.objs.size c ((AM f).map (·.2))) (λb o e=>by
  have e1:=ext b o e;have p:=zw e1;rw[sortedHeap_old (zI p) (by rw[qk];exact qh p)];exact zd _ e1) j ⟨by rw[zk,(bL _).length_eq,sizeLine_eq];omega,((AM f).map (·.2)).toList,n,tW L,by rw[en]⟩)
 exact⟨.ref h1.objs.size,_,F,rfl,q _ _ (bf l) l aJ⟩
def tS(X:Cx)(f:Ev->Y Ap):TE:=λσ H Q=>∃H0 ρ ys,aY X.K H0 H σ ρ/\f ρ=Z ys/\ys.length<4000/\∀a zs H',AX H H'->H' a=Z (C' X a zs)->(∀z,z∈zs↔z∈ys)->zs.Nodup->(∀z∈zs,z.length<=AA)->Q (.ref a) H'
def LV(X:Cx)(e:Expr)(f:Ev->Y Ap):Prop:=PE X e (tS X f)
variable{fs:Ev->Y Ap}{p:Pos}
theorem ai(j:X.calm=true)(u:Gl X "sorted")(v:X.mg "sorted"=Y3)(s:LV X e fs)(he:A9 (e::[]) X.env=(false,eval e X.env)::A9 [] X.env:=by rfl):PV X (.Call (.Name "sorted" p) [e] [] pos) (λρ=>(fs ρ).bind λys=>if ys.length<4000/\(qd ys).length<64 then Z (.o ((bN (qd ys)).map Dt.str))else Y3):=by
 refine Ay (rE (id :="sorted") (UD j) u v S (bD s fQ he) (he:=he)) λσ H Q h=>?_;obtain⟨H0,ρ,b,E,c,q⟩:=h;obtain⟨ys,i,c⟩:=AV c;split at c
 ·rename_i x;cases c;refine⟨H0,ρ,ys,E,i,by omega,λa zs H1 f e1 m d g=>⟨a,zs,rfl,e1,?_,g,λl H2 w n e2=>?_⟩⟩
  ·have:=(Ju d (qe ys) λz=>by rw[m z,lA]).length_eq;omega
  ·have pm:=Ju d (qe ys) λz=>by rw[m z,lA]
   have es:bN zs=bN (qd ys):=wN ((bL zs).trans (pm.trans (bL _).symm)) (jj zs) (jj _);rw[es]at e2;exact q _ H2 (f.trans w) (λa ea=>by cases ea;exact f.free n) ⟨l,_,rfl,e2,wL λy h=>g y (pm.mem_iff.mpr ((bL _).mem_iff.mp h))⟩
 ·cases c
end
theorem U6{Q:BC}(h:Q (.ref s.heap.objs.size) { s with heap:=s.heap.push (DD w) }):A7 (A8 prog w) A (newSet (.type "set")) Q E s:=by
 unfold newSet;refine zb (pL ?_);simp only[newObj];exact zb (wpAny_alloc (ze h))
theorem U7{R:Result->A2->Prop}{a:Expr}{AU:O Comprehension}{it b:A0}(h0:AF (A8 prog w) A (.compLoop (.SetComp elt (⟨a,iter,ifs,0⟩::AU) scope pos) 0 it b env) R s)(h:A7 (A8 prog w) A (pyIter it) (λc s'=>AF (A8 prog w) A (.compLoop (.SetComp elt (⟨a,iter,ifs,0⟩::AU) scope pos) 0 c b env) R s') (notedBy (A8 prog w) A env λx s'=>R (.error x) s') s):
  AF (A8 prog w) A (.compStart (.SetComp elt (⟨a,iter,ifs,0⟩::AU) scope pos) 0 it b env) R s:=by
 refine codeAny_of_tree ?_;show A7 _ _ ((compStart (.SetComp elt (⟨a,iter,ifs,0⟩::AU) scope pos) 0 it b env).onRaise (λx=>do noteFrame x env;standAt theWindowsPlace)) _ _ s;refine wpAny_notedAt ?_;unfold compStart;show A7 _ _ (ask >>= _) _ _ s;refine zb (yn (wpAny_ite ?_));split
 ·first
   |exact zb (ze (ze (And.intro rfl h0)))
   |exact ze (And.intro rfl h0)
 ·first
   |exact zb (ke (zb (QY (zb (ZU h (λc s' h'=>ze (And.intro rfl h')) λ_ _ x=>x)))))
   |(refine zb (ke ?_);show A7 _ _ (standAt iter.pos >>= _) _ _ s;exact zb (QY (zb (ZU h (λq s' h'=>ze (And.intro rfl h')) λ_ _ x=>x))))
theorem Sf{c:A6->Prop}(h:H a=Z (.ext c)):Kp H (B1 H a o):=by
 refine⟨λb ys e=>?_,λb d u e=>?_⟩
 ·rw[aF (d9 e h (by intro z;cases z))];exact e
 ·rw[aF (d9 e h (by intro z;cases z))];exact e
theorem XS{h:A6}(e:h.get? a=Z (DD X.w)):dw X.prog X.w H h a (C' X a []):=
 ⟨⟨_,#[],0,_,e,⟨rfl,rfl,rfl⟩,rfl,.nil,QQ,rfl,λq=>by simp[SetTable.fresh,q],λq=>absurd q (JU _)⟩,⟨_,e⟩,λh1 h2 t1 b=>Tx.keep t1 b⟩
def Pp(X:Cx):V->O V->Hp->VK->Prop:=λx vs H Q=>∃l zs t,x=.ref l/\vs=[.str t]/\H l=Z (C' X l zs)/\zs.length+1<4096/\∀a,(∀z,z∈a↔z∈zs\/z=t)->a.Nodup->a.length<=zs.length+1->Q .non (B1 H l (C' X l a))
theorem U8:F8 X "set.add" (Pp X):=by
 intro AN s σ H x vs v us Q I i z h;obtain⟨l,zs,t,rfl,rfl,c,A,q⟩:=h;cases i;obtain⟨u,rfl,y⟩:=z.one;obtain⟨tk,rfl⟩:=y;have tx:=XR I c;obtain⟨o,es,ep,tb,C,g,hd,J⟩:=id tx;refine jb F.slot_set_add ⟨o,C,g.1⟩ F.entry_set_add ?_ (F.args_set_add_2 _ _);show A7 _ _ (setAdd l (.str t tk) >>= _) _ _ s;refine zb ?_;unfold setAdd;refine qr (zb ((strKind X.prog X.w).pyHash (strKind_is X.prog X.w t tk) ?_));refine XQ (s:={ s with toks:=s.toks+1 }) tx A λb h' a f t' m p=>?_;obtain⟨o',E,D,G,d,_,_,B⟩:=id t';refine ze ⟨.none,rfl,.non,_,I.write (t':=s.toks+1) (x:=l) (e:=l) (o:=C' X l a) (by rw[c];trivial) (.inl S) (λb u j e=>by rw[f.2 b j];exact e) ⟨o',d⟩ ⟨t',⟨o',d⟩,λh1 h2 t1 n=>Tx.keep t1 n⟩,rfl,q a m B.nd p⟩
section
variable{xs:Ap}
def EO(X:Cx)(D:A1)(_:Hp)(a:O Dt)(o:HO):Prop:=∃us,o=C' X D us/\(∀z,z∈us↔Dt.str z∈a)/\us.Nodup/\(∀z∈us,z.length<=AA)/\us.length<=a.length
def FL:Bx->Y (O Dt)
 |.z (.str x)=>Z [.str x]
 |_=>Y3
theorem be(h:PV X elt fe):Lf X (λD env=>do let v <-eval elt env;standAt elt.pos;let _ <-call (.builtin "set.add") [.ref D,v]) (λρ=>(fe ρ).bind FL) (EO X) 4000 n:=by
 refine W6 λAN s σ H Hb ρ D o o1 ys I En f hD ⟨us,e,r4⟩ j=>?_;subst e;obtain⟨b,eb,f⟩:=AV f;obtain⟨a,rfl,rfl⟩:∃a,b=.z (.str a)/\ys=[.str a]:=by
  unfold FL at f;split at f
  ·cases f;exact⟨_,rfl,rfl⟩
  ·cases f
 refine zb (ZU (h AN s σ H (λv d=>AX H d/\AY X.K d (.str a) v) I ⟨Hb,ρ,_,En,eb,λv d g _ i=>⟨g,i⟩⟩) (λv g A=>?_) λ_ _ z=>z);obtain⟨C,d,L,J,x,i⟩:=A;obtain⟨rfl,M⟩:C=.str a/\a.length<=AA:=by simpa only[AY]using i
 have l:=x _ _ hD;simp only[KG]at j;refine zb (QY (zb (ZU ((U8 (X:=X)) _ g σ d (.ref D) [.str a] (.ref D) [v] (λw u=>∃c,u=B1 d D (C' X D c)/\(∀z,z∈c↔z∈us\/z=a)/\c.Nodup/\c.length<=us.length+1) L S (.cons J .nil)
  ⟨_,us,a,rfl,rfl,l,by omega,λc m E j=>⟨c,rfl,m,E,j⟩⟩) (λw Q y=>?_) λ_ _ z=>z)))
 obtain⟨P,u,B,_,c,rfl,p,F,N⟩:=y;refine ze ⟨d,_,B,x,Sf l,c,rfl,λz=>?_,F,λz G=>?_,by simp;omega⟩
 ·rw[p z,r4.1 z];simp
 ·rcases(p z).mp G with q|rfl
  ·exact r4.2.2.1 z q
  ·exact M
end
theorem CP:∀{ds:O Dt} {ys:Ap},qO ds=Z ys->ds=ys.map Dt.str
 |[],_,e=>by cases e;rfl
 |.str x::ds,_,e=>by
  simp only[qO]at e;obtain⟨ys,e1,e2⟩:=AV e;cases e2;rw[zr,<-CP e1]
 |.non::_,_,e=>by cases e
 |.bl _::_,_,e=>by cases e
 |.int _::_,_,e=>by cases e
 |.tup _::_,_,e=>by cases e
 |.lst _::_,_,e=>by cases e
 |.emp::_,_,e=>by cases e
section
variable{xs:Ap}
def MZ(fe:Ev->Y Bx):Ev->Y (O Dt):=λρ=>(fe ρ).bind FL
def R7(fs fs':Ev->Y (O Dt)):Prop:=∀ ρ ys,fs ρ=Z ys->(∀d∈ys,∃x,d=Dt.str x)->fs' ρ=Z ys
theorem E8:R7 (Lh fe) (MZ fe):=λρ ys e h=>by
 obtain⟨b,eb,e⟩:=AV e;obtain⟨y,rfl,rfl⟩:=yH e;obtain⟨x,rfl⟩:=h y (bo.mpr S);show(fe ρ).bind FL=_;rw[eb];rfl
theorem Jw{fs fs':Ev->Y (O Dt)}(u:R7 fs fs'){ρ:Ev}:∀{ds out:O Dt},uz gt p fs ρ ds=Z out->(∀d∈out,∃x,d=Dt.str x)->uz gt p fs' ρ ds=Z out
 |[],_,e,_=>e
 |d::ds,out,e,h=>by
  simp only[uz]at e ⊢;obtain⟨b,e1,e⟩:=AV e;obtain⟨k,ek,e⟩:=AV e;simp only[e1,ek,gm];cases k with
  |false=>rw[zS zC]at e ⊢;exact Jw u e h
  |true=>
   rw[zo rfl]at e ⊢;obtain⟨ys,a,e⟩:=AV e;obtain⟨zs,c,e⟩:=AV e;cases e;rw[u b ys a λd hd=>h d (QR _ hd),Jw u c λd hd=>h d (zz _ hd)];rfl
theorem Pv{fs fs':Ev->Y (O Dt)}(u:R7 fs fs'):R7 (Ct fi gt p fs) (Ct fi gt p fs'):=λρ ys e h=>by
 obtain⟨ds,a,e⟩:=AV e;show(fi ρ).bind _=_;rw[a];exact Jw u e h
structure MY (X:Cx) (e:Expr) (f:Ev->Option Ap):Prop where
 run:LV X e f
def R8(fs:Ev->Y Ap):Ev->Y Bx:=λρ=>(fs ρ).bind λys=>if ys.length<4000/\(qd ys).length<64 then Z (.o ((bN (qd ys)).map Dt.str))else Y3
variable{fs:Ev->Y Ap}{p':Pos}
theorem SK(a:X.calm=true)(b:Gl X "sorted")(d:X.mg "sorted"=Y3)(c:MY X e fs)(he:A9 (e::[]) X.env=(false,eval e X.env)::A9 [] X.env:=by rfl):QV X (.Call (.Name "sorted" p') [e] [] pos) (R8 fs):=⟨ai a b d c.run he⟩
end
end P1
namespace P1
open L2 S1 S6
section
variable [DecidableEq α]
end
section
def FC(ks:O An):Bool:=ks.any λk=>k.isRight
variable{fs:Ev->Y (O (O An))}{p:Pos}
end
end P1
namespace P1
open L2
def Si(AO:O (An×Dt)):Dt->O (An×Dt)
 |.tup [.str k,d]=>Px AO (.inr k) d
 |_=>AO
def dictOf(out:O Dt):O (An×Dt):=out.foldl Si []
section
variable{kx vx:Expr}{xs:Ap}
end
section
variable{o:AE}
theorem Mu(j:∀f u,X.H₀ a≠Z (.jo f u))(I:L2.AW X AN σ H s)(e:H a=Z (.jo o (.dK ks))):L2.AW X AN σ (B1 H a (.dK ks)) s:=by
 have g:∀{b:A1} {u:HO},H b=Z u->u≠.jo o (.dK ks)->b≠a:=λq n z=>by subst z;rw[e]at q;cases q;exact n rfl
 have h:∀{b:A1},H b=Y3->b≠a:=λq z=>by subst z;rw[e]at q;cases q
 refine⟨I.ok,I.os,I.bare,⟨I.base.keep,I.base.slot,λb f q n hx=>?_,I.base.there,λb xs q=>?_,λb f u q=>?_,λb ps q=>?_⟩,I.loc,I.cell,?_,λx c q=>?_,λp hp=>?_,λb f q=>?_,I.len⟩
 ·have:=I.base.free b f q n hx;rw[aF (h this)];exact this
 ·have:=I.base.tups b xs q;rw[aF (g this λz=>by cases z)];exact this
 ·have:=I.base.z7 b f u q;rw[aF (λz=>by subst z;exact j _ _ q)];exact this
 ·obtain⟨m,this⟩:=I.base.uT b ps q;exact⟨m,by rw[aF (g this λz=>by cases z)];exact this⟩
 ·have:=I.free;rw[aF (h this)];exact this
 ·have:=I.mU x c q;rw[aF (h this)];exact this
 ·obtain⟨p1,p2,p3⟩:=I.pin p hp;exact⟨p1,by rw[aF (h p2)];exact p2,p3⟩
 ·have st:∀{c:A1} {w:HO},dw X.prog X.w H s.heap c w->dw X.prog X.w (B1 H a (.dK ks)) s.heap c w:=λx=>
   x.stay (λ_ _ _ r=>r) (λd r=>by rw[aF (g r λz=>by cases z)];exact r) (λd xs r=>by rw[aF (g r λz=>by cases z)];exact r) λd o' l r=>by rw[aF (g r λz=>by cases z)];exact r
  by_cases i:b=a
  ·subst i;rw[aJ]at q;cases q;exact st (I.hok _ _ e).2
  ·rw[aF i]at q;exact st (I.hok _ _ q)
theorem PD(I:L2.AW X AN σ H s)(e:H a=Z (.dK ks))(b:s.heap.get? a=Z o):L2.AW X AN σ (B1 H a (.jo o (.dK ks))) s:=by
 have:=I.write (t':=s.toks) (h':=s.heap) (x:=a) (e:=a) (o:=.jo o (.dK ks)) (by rw[e];exact True.intro) (.inl S) (λ_ _ _ z=>z) ⟨o,b⟩ ⟨b,(I.hok _ _ e).stay (λ_ _ _ r=>r) (λd r=>by rw[aF (d9 r e (by intro z;cases z))];exact r) (λd xs r=>by rw[aF (d9 r e (by intro z;cases z))];exact r) λd o' c r=>by rw[aF (d9 r e (by intro z;cases z))];exact r⟩;exact this
theorem YY(I:L2.AW X AN σ H s)(e:H a=Z (.dK ks)):∀b u,X.H₀ a≠Z (.jo b u):=λb u q=>by
 have:=I.base.z7 a b u q;rw[e]at this;cases this
mutual
theorem AY.Mu{K:B5}(e:H a=Z (.jo o (.dK ks)))(hk:ks≠[]):∀{d:Dt} {v:V},AY K H d v->AY K (B1 H a (.dK ks)) d v
 |.non,_,h=>by simpa only[AY]using h
 |.bl _,_,h=>by simpa only[AY]using h
 |.int _,_,h=>by simpa only[AY]using h
 |.str _,_,h=>by simpa only[AY]using h
 |.tup ds,_,h=>by
  simp only[AY]at h ⊢;obtain⟨b,vs,e1,q,r⟩:=h;refine⟨b,vs,e1,?_,aG.Mu e hk r⟩;rcases q with (q|⟨c,q⟩)|q
  ·exact .inl (.inl (by rw[aF (λz=>by subst z;rw[e]at q;cases q)];exact q))
  ·exact .inl (.inr ⟨c,by rw[aF (λz=>by subst z;rw[e]at q;cases q)];exact q⟩)
  ·exact .inr q
 |.lst ds,_,h=>by
  simp only[AY]at h ⊢;obtain⟨b,vs,e1,q,r⟩:=h;refine⟨b,vs,e1,?_,aG.Mu e hk r⟩;rcases q with⟨c,q⟩|q
  ·exact .inl ⟨c,by rw[aF (λz=>by subst z;rw[e]at q;cases q)];exact q⟩
  ·exact .inr q
 |.emp,_,h=>by
  simp only[AY]at h ⊢;obtain⟨b,c,e1,q⟩:=h;exact⟨b,c,e1,by rw[aF (λz=>by subst z;rw[e]at q;cases q;exact hk S)];exact q⟩
theorem aG.Mu{K:B5}(e:H a=Z (.jo o (.dK ks)))(hk:ks≠[]):∀{ds:O Dt} {vs:O V},aG K H ds vs->aG K (B1 H a (.dK ks)) ds vs
 |[],_,h=>by simpa only[aG]using h
 |d::ds,_,h=>by
  simp only[aG]at h ⊢;obtain⟨v,r,e1,q,t⟩:=h;exact⟨v,r,e1,AY.Mu e hk q,aG.Mu e hk t⟩
end
def Iy(a:A1)(o:AE)(ks:O (An×V)):It:=
 ⟨λi H=>H a=Z (.jo o (.dK ks))/\i<ks.length,λi H x H'=>H'=H/\(ks.map λk=>kV k.1)[i]?=Z x,λi H=>H a=Z (.jo o (.dK ks))/\ks.length<=i⟩
theorem R9{h:A6}(x:dw P w H h a (.jo o (.dK ks))){es:Array DictEntry}(hd:o.data=.dict es ep):∃vs,KV ks vs/\h.DictAt (cH P w) a vs ep:=by
 obtain⟨e,_,_,vs,b,i,g,f,e2,c,d,r⟩:=x;rw[e]at e2;cases e2;rw[hd]at d;cases d;exact⟨vs,b,o,es,e,c,hd,r⟩
theorem X3:∀{ks:O (An×V)} {vs:O (An×A0)},KV ks vs->∀{i:Nat} {p},ks[i]?=Z p->∃x,vs[i]?=Z (p.1,x)
 |_,_,.nil,i,p,q=>by simp at q
 |_,_,.cons h _,0,p,q=>by simp at q;subst q;exact⟨_,by rw[List.getElem?_cons_zero,h.1]⟩
 |_,_,.cons _ t,i+1,p,q=>by
  rw[yY]at q;obtain⟨x,hx⟩:=X3 t q;exact⟨x,by rw[yY];exact hx⟩
theorem G9(it:A1){es:Array DictEntry}(hd:o.data=.dict es ep)(U:a≠it):C2 P w K tg (Iy a o ks) [it] it (λi h=>h.IsKeyIter it a i ks.length ep) where
 mem:=by simp
 obj:=λi h st b g=>by
  have e:b=it:=by simpa using g
  subst e;obtain⟨f,e,c,d⟩:=st;exact⟨f,e,λv z=>by rw[d]at z;cases z⟩
 keep:=λi h h' st k=>st.at λf e=>k it (by simp) f e
 item:=by
  intro X y p C J i AN s σ H E I l st B;subst y p C;obtain⟨q,hi⟩:=B;obtain⟨vs,m,A⟩:=R9 (I.hok _ _ q) hd;have n:ks.length=vs.length:=m.length;obtain⟨x,hx⟩:=X3 m (show ks[i]?=Z ks[i] by simp[hi]);obtain⟨f0,f1,f2,f3,F,D⟩:=l it (by simp);rw[n]at st;refine wpAny_pyNext_dict_item st A hx λG h' N u M=>?_;rw[<-n]at u;have L:L2.AW X AN σ H { s with heap:=h' }:=I.turned (t':=s.toks) (λb f g e=>(M.2 b g).trans e) f0 f1 f3 F D;obtain⟨f,e,c,d⟩:=id u;refine⟨G,rfl,Gn (s:={ s with heap:=h' }) e c d () ⟨kV (ks[i]).1,H,L,?_,⟨rfl,by rw[z5,ZH hi];rfl⟩,u,λb g=>(l b g).1⟩⟩;have Q:jz (ks[i]).1 G=true:=N;rcases bF Q with⟨j,t,e2,e3⟩|⟨z,t,e2,e3⟩
  ·rw[e2,e3];exact⟨t,rfl⟩
  ·rw[e2,e3];exact⟨t,rfl⟩
 done:=by
  intro X y p C J i AN s σ H E I l st B;subst y p C;obtain⟨q,hi⟩:=B;obtain⟨vs,m,A⟩:=R9 (I.hok _ _ q) hd;have n:ks.length=vs.length:=m.length;obtain⟨f0,f1,f2,f3,F,D⟩:=l it (by simp);rw[n]at st;exact wpAny_pyNext_dict_end (I.ok.hd J) st A (qA ()) λh' eb=>⟨rfl,I.turned (t':=s.toks) (λb f g e=>eb b f g e) f0 f1 f3 F D⟩
 self:=λ_ _ _ _ _ st h=>wpAny_pyIter_keyiter st h
def Qf:An->Dt
 |.inl i=>.int i
 |.inr x=>.str x
theorem X4{k:An}(h:DU k):AY K H (Qf k) (kV k):=by
 cases k with
 |inl i=>unfold Qf AY;rfl
 |inr x=>unfold Qf AY;exact⟨rfl,h⟩
def D3:Bx->Y (O Dt)
 |.n AO=>Z (AO.map λp=>Qf p.1)
 |_=>Y3
theorem U9(h:D3 b=Z ds):∃AO,b=.n AO/\ds=AO.map λp=>Qf p.1:=by
 unfold D3 at h;split at h
 ·cases h;exact⟨_,rfl,rfl⟩
 ·cases h
theorem zK{AO:O (An×Dt)}(c:Hs a=Z (.jo o (.dK ks)))(b:gD K Hs AO ks):B4 K (Iy a o ks) (AO.map λp=>Qf p.1) Hs:=.of λi H s=>by
 have f:=b.len;refine⟨λd e=>?_,λe=>⟨s _ _ c,by rw[zk]at e;omega⟩⟩;rw[z5]at e;cases hp:AO[i]? with
 |none=>rw[hp]at e;cases e
 |some p=>
  rw[hp]at e;cases e;have hi:i<AO.length:=(cc.mp hp).1;refine⟨⟨s _ _ c,by omega⟩,λx H' y=>?_⟩;obtain⟨y1,y2⟩:=y;refine⟨y1,?_⟩;have h1:(ks.map (·.1))[i]?=Z p.1:=by rw[b.1,z5,hp];rfl
  rw[z5]at h1 y2;cases hk:ks[i]? with
  |none=>rw[hk]at h1;cases h1
  |some q=>
   rw[hk]at h1 y2;cases y2;have:q.1=p.1:=by simpa using h1
   show AY K H (Qf p.1) (kV q.1);rw[this];exact X4 (b.2.2 p (k5 hp))
theorem Qg{H1:Hp}(e:H1 a=Z (.dK ks))(E:aY K H1 H1 (nH is σ++ab n Y3) (iu is ρ++ab n Y3)):aY K (B1 H1 a (.jo o (.dK ks))) (B1 H1 a (.jo o (.dK ks))) (nH is σ++ab n Y3) (iu is ρ++ab n Y3):=by
 have kp:Kp H1 (B1 H1 a (.jo o (.dK ks))):=.dk e;have g:∀(j:Nat) c,(iu is ρ++ab n Y3)[j]?=Z (Z c)->qZ c=false:=λj c e=>by
  by_cases s:j<is.length
  ·rw[qi (by simp[iu];omega)]at e;unfold iu at e;rw[z5]at e;cases q:is[j]? with
   |none=>rw[q]at e;cases e
   |some i=>
    rw[q]at e;have:yD ρ i=Z c:=by simpa using e
    exact vZ this
  ·rw[QU (by simp[iu];omega),jI]at e;split at e<;>cases e
 refine⟨E.len,λj b eb=>?_,λj k c a b e h=>absurd h (by rw[g j c e];exact zC),AX.refl _,λj c a e h=>absurd h (by rw[g j c e];exact zC)⟩;obtain⟨v,ev,r⟩:=E.val j b eb;refine⟨v,ev,?_⟩;cases b with
 |z d=>exact AY.kp kp r
 |o ds=>have:=g j _ eb;cases this
 |m ds _=>have:=g j _ eb;cases this
 |l ds=>
  obtain⟨b,vs,e1,q,r⟩:=r;refine⟨b,vs,e1,?_,r.kp kp⟩;rcases q with q|⟨f,q⟩
  ·exact .inl (by rw[aF (d9 q e (by intro z;cases z))];exact q)
  ·exact .inr ⟨f,by rw[aF (d9 q e (by intro z;cases z))];exact q⟩
 |n ds=>
  obtain⟨b,vs,e1,q,r⟩:=r;refine⟨b,vs,e1,?_,r.kp kp⟩;by_cases p:b=a
  ·subst p;rcases q with q|⟨f,q⟩
   ·rw[e]at q;cases q;exact .inr ⟨o,aJ⟩
   ·rw[e]at q;cases q
  ·rcases q with q|⟨f,q⟩
   ·exact .inl (by rw[aF p];exact q)
   ·exact .inr ⟨f,by rw[aF p];exact q⟩
end
section
variable{fd:Ev->Y Bx}{xs:Ap}
def Sd(fd:Ev->Y Bx):Ev->Y (O Dt):=λρ=>(fd ρ).bind D3
theorem Va(ρ:Ev):Ce gt p fe ρ []=Z []:=rfl
theorem X5(ts:Ap)(O:oX X scope cl xs is)(a5:X.calm=true)(hi:QV X iter fd)
  (Fe:∀C d f fp,ZV (tL X (xs++ts) scope cl C d f fp) tgt gt) (b4:∀C d f fp,uZ (tL X (xs++ts) scope cl C d f fp) ifs p) (b3:∀C d f fp,QV (tL X (xs++ts) scope cl C d f fp) elt fe) (a4:V4 is.length (is.length+ts.length) gt)
  (hs:∀x,foldedSetIterable iter X.env x=pure x:=by intro _;rfl):QV X (.ListComp elt [⟨tgt,iter,ifs,0⟩] scope pos) (dN (Sd fd) gt p fe is ts.length):=⟨λAN s σ H Q I h=>by
 obtain⟨H0,ρ,b,E,e,q⟩:=h;obtain⟨ds,ed,e⟩:=AV e;split at e
 ·rename_i c0;obtain⟨out,F,e⟩:=AV e;cases e;obtain⟨bd,d1,ed⟩:=AV ed;obtain⟨AO,rfl,rfl⟩:=U9 ed;rw[eval_ListComp];refine JI (use:=Y3) S hs O.clos O.kind O.names ?_;refine fB (hi.run AN s σ H (λv H1=>AX H H1/\aX X.K H1 (.n AO) v) I ⟨H0,ρ,_,E,d1,λv H1 c _ G=>⟨c,G⟩⟩) λv c ⟨v',H1,I1,rv,s01,G⟩=>?_;obtain⟨a,ks,rfl,g,L⟩:=G;cases rv;obtain⟨_,d0,vs,kv,y,es,ep,N⟩:=qN I1.hok g;have W:=N.1;have a7:=N.2.2.1;refine wpAny_pyIter_dict d0 (⟨y,es,N⟩:c.heap.DictAt (cH X.prog X.w) a vs ep) ?_;have a6:a<c.heap.objs.size:=zw W;have hl:ks.length=vs.length:=kv.length;have b6:∀{H':Hp},L2.AW X AN σ H' c->∀b∈[c.heap.objs.size],lO X AN H' b:=λj b i=>by
   have e:b=c.heap.objs.size:=by simpa using i
   subst e;exact j.Bv (zi _) (j.hok.fresh (zi _))
  have b0:Heap.IsKeyIter (c.heap.push { cls:=.type "dict_keyiterator",data:=.fields #[.ref a,.int 0 0,.int vs.length 0,.int ep 0] }) c.heap.objs.size a 0 ks.length ep:=⟨_,zl _ rfl,rfl,by rw[hl];rfl⟩;rcases g with g|⟨o',g⟩
  ·
   have I2:=PD I1 g W;have J:L2.AW X AN σ (B1 H1 a (.jo y (.dK ks))) { c with heap:=c.heap.push { cls:=.type "dict_keyiterator",data:=.fields #[.ref a,.int 0 0,.int vs.length 0,.int ep 0] } }:=I2.kept (t':=c.toks) λb o e=>zd _ e;have c8:gD X.K (B1 H1 a (.jo y (.dK ks))) AO ks:=L.kp (.dk g);refine wz (B:=zx) (RR:=λM C=>compPost (bn X) X.A X.xe Y3 (EP X AN σ Q) M C) (ts:=ts) (xs:=xs) O a5 (λC d f fp=>(Fe C d f fp).run) (λC d f fp=>(b4 C d f fp).run) (λC d f fp=>(b3 C d f fp).run) a4 J (Qg g ((E.grow s01).caps is ts.length)) (Cg (G9 c.heap.objs.size a7 (zI a6))) b0 (b6 I2) (zK aJ c8) c0 F ?_;intro D C s' H' us l j U ⟨m,hn⟩ s2' hD' r';have a3:H' a=Z (.jo y (.dK ks)):=s2' _ _ aJ;have b5:D≠a:=λz=>by subst z;rw[aJ]at l;cases l
   have c3:H1 D=Y3:=by rw[aF b5]at l;exact l
   have sm:AX H1 (B1 H' a (.dK ks)):=λb u e=>by
    by_cases i:b=a
    ·subst i;rw[g]at e;cases e;exact aJ
    ·rw[aF i];exact s2' b u (by rw[aF i];exact e)
   have rr:aG X.K (B1 H' a (.dK ks)) out us:=by
    by_cases hk:ks=[]
    ·have:AO=[]:=by have:=L.len;rw[hk]at this;exact dt.mp (by simpa using this.symm)
     subst this;simp only[kl]at F;rw[Va]at F;cases F;simpa only[aG]using r'
    ·exact aG.Mu a3 hk r'
   refine⟨m,hn,λh' P=>⟨.ref D,B1 H' a (.dK ks),?_,rfl,q _ _ (s01.trans sm) (λa ea=>by cases ea;exact s01.free c3) ⟨D,us,rfl,by rw[aF b5];exact hD',rr⟩⟩⟩;obtain⟨f0,f1,f2,f3,f4,f5⟩:=U;have c5:C≠a:=λz=>by subst z;rw[a3]at f0;cases f0
   exact(Mu (YY I1 g) j a3).turned (t':=s'.toks) (λb o i e=>(P.2 b i).trans e) (by rw[aF c5];exact f0) f1 f3 f4 f5
  ·have c4:o'=y:=by
    have:=(I1.hok _ _ g).1;rw[W]at this;cases this;rfl
   subst c4;have J:L2.AW X AN σ H1 { c with heap:=c.heap.push { cls:=.type "dict_keyiterator",data:=.fields #[.ref a,.int 0 0,.int vs.length 0,.int ep 0] } }:=I1.kept (t':=c.toks) λb o e=>zd _ e;refine wz (B:=zx) (RR:=λM C=>compPost (bn X) X.A X.xe Y3 (EP X AN σ Q) M C) (ts:=ts) (xs:=xs) O a5 (λC d f fp=>(Fe C d f fp).run) (λC d f fp=>(b4 C d f fp).run) (λC d f fp=>(b3 C d f fp).run) a4 J ((E.grow s01).caps is ts.length) (Cg (G9 c.heap.objs.size a7 (zI a6))) b0 (b6 I1) (zK g L) c0 F ?_;intro D C s' H' us l j U ⟨m,hn⟩ s2' hD' r';refine⟨m,hn,λh' P=>⟨.ref D,H',?_,rfl,q _ _ (s01.trans s2') (λa ea=>by cases ea;exact s01.free l) ⟨D,us,rfl,hD',r'⟩⟩⟩;obtain⟨f0,f1,f2,f3,f4,f5⟩:=U;exact j.turned (t':=s'.toks) (λb o i e=>(P.2 b i).trans e) f0 f1 f3 f4 f5
 ·cases e⟩
end
def two(a b:AJ)(i:Nat):AJ:=if i=0 then a else b
section
variable{fs:Ev->Y (O Bx)}{p px spos:Pos}{k:Nat}{f:A1}{G:A1->O (An×Dt)->O Bx->Y (O (An×Dt))}
end
def DV:Y Bool->Bool
 |some true=>true
 |_=>false
def X6(x:Dt)(ys:O Dt):Y Bool:=if(ys.all λy=>(uI y x).isSome&&decide (min (u0 y) (u0 x)<=60))=true then Z (ys.any λy=>DV (uI y x))else Y3
def Vb(a b:Bx):Y Bx:=match a with
 |.z d=>(wH b).bind λys=>(X6 d ys).bind λk=>Z (.z (.bl (!k)))
 |_=>Y3
theorem X7(I:L2.AW X AN σ H s)(J:X.A.units+100<cLine){x:V}(F:AY X.K H d x)(D:At x u){ys:O Dt}(n:aG X.K H ys vs)(m:AZ vs AT){k:Bool}(hk:X6 d ys=Z k):
  ∃e:A0->Bool,(∀y,y∈AT->SeqAt.EqAt X.A.in1 s y u (e y))/\AT.any e=k:=by
 unfold X6 at hk;split at hk
 ·rename_i w;injection hk with hk;rw[Qb]at w;have at_:∀(i:Nat) y,AT[i]?=Z y->∃c,ys[i]?=Z c/\SeqAt.EqAt X.A.in1 s y u (DV (uI c d)):=λi y j=>by
   have G:=m.length;have z:=n.length;have hi:i<AT.length:=(cc.mp j).1;have a:i<ys.length:=by omega
   obtain⟨v,ev,C⟩:=n.get (show ys[i]?=Z ys[i] by simp[a]);obtain⟨L,o,B⟩:=m.get ev;rw[j]at o;cases o;refine⟨ys[i],by simp[a],?_⟩;have g:=w ys[i] (kc a);rw[ZO]at g;obtain⟨b,p⟩:=dj.mp g.1;have:=LI I 60 (A:=X.A.in1) (ko g.2) (by rw[units_in1];omega) C F B D p;rw[p];cases b<;>exact this
  classical
  refine⟨λy=>decide (∃(i:Nat) (c:Dt),AT[i]?=Z y/\ys[i]?=Z c/\DV (uI c d)=true),λy j=>?_,?_⟩
  ·dsimp only;by_cases q:∃(i:Nat) (c:Dt),AT[i]?=Z y/\ys[i]?=Z c/\DV (uI c d)=true
   ·rw[ZI q];obtain⟨i,c,h1,h2,f⟩:=q;obtain⟨c',e1,e2⟩:=at_ i y h1;rw[h2]at e1;cases e1;rw[f]at e2;exact e2
   ·rw[Zp q];obtain⟨i,hi,l⟩:=ia j;have h1:AT[i]?=Z y:=by rw[ZH hi,l]
    obtain⟨c,e1,e2⟩:=at_ i y h1;have:DV (uI c d)=false:=by
     cases E:DV (uI c d)with
     |false=>rfl
     |true=>exact absurd ⟨i,c,h1,e1,E⟩ q
    rw[this]at e2;exact e2
  ·rw[<-hk,kF,Q1,Q1];constructor
   ·rintro⟨y,j,h⟩;obtain⟨i,c,h1,h2,f⟩:=ko h;exact⟨c,k5 h2,f⟩
   ·rintro⟨c,g,f⟩;obtain⟨i,hi,l⟩:=ia g;have G:=m.length;have z:=n.length;have a:i<AT.length:=by omega
    exact⟨AT[i],kc a,ZI ⟨i,c,by simp[a],by rw[ZH hi,l],f⟩⟩
 ·cases hk
theorem Sg(j:X.A.units+100<cLine):z9 X (AG .NotIn) Vb:=by
 intro AN s σ H x y v u Q I l C h;obtain⟨a,b,c,n,z,e,q⟩:=h;unfold Vb at e;split at e
 ·rename_i d;obtain⟨ys,o,e⟩:=AV e;obtain⟨k,ek,e⟩:=AV e;cases e;obtain⟨p,vs,rfl,sq,m⟩:=R3 z o;cases C;rcases sq with sq|sq
  ·obtain⟨AT,i,pl,B⟩:=I.list sq;obtain⟨f,f1,f2⟩:=X7 I j n l m i ek;refine SeqAt.notIn_listAt f pl.isList (λw g=>f1 w (by simpa using g)) ⟨.bl (!k),H,I,by rw[show AT.toArray.any f=AT.any f by simp,f2];rfl,q _ H (AX.refl H) trivial (by simp only[aX,AY])⟩
  ·obtain⟨AT,i,pl,B⟩:=I.tuple sq;obtain⟨f,f1,f2⟩:=X7 I j n l m i ek;refine SeqAt.notIn_tupleAt f pl (λw g=>f1 w (by simpa using g)) ⟨.bl (!k),H,I,by rw[show AT.toArray.any f=AT.any f by simp,f2];rfl,q _ H (AX.refl H) trivial (by simp only[aX,AY])⟩
 ·cases e
section
variable{st:O AB}
def HM(i:Nat)(ρ:Ev):Y Ev:=match ρ[i]? with
 |some (Z (.o ds))=>Z (ρ.set i (Z (.z (.lst ds))))
 |_=>Y3
def ET(i:Nat)(g:Ev->Y As):Ev->Y As:=λρ=>(HM i ρ).bind g
theorem NG(h:Ro X st g):Ro X st (ET i g):=by
 intro AN s σ H D I q;obtain⟨H0,ρ,r,E,e,f⟩:=q;obtain⟨m,e1,e2⟩:=AV e;unfold HM at e1;split at e1
 ·rename_i ds b;cases e1;obtain⟨v,d,a,vs,rfl,c,j⟩:=E.val i _ b;obtain⟨o,l⟩:=uX I c;have kp:Kp H (B1 H a (.jo o (.lst vs))):=.lst c;refine h AN s σ _ D l ⟨H0,_,r,E.aeA b S d kp ?_,e2,f⟩;simp only[aX,AY];exact⟨a,vs,rfl,.inl ⟨o,aJ⟩,j.kp kp⟩
 ·cases e1
theorem P8(h:Ui X st g):Ui X st (ET i g):=⟨NG h.run⟩
end
open AutoSeq1 (wpAny_loadPart')
open SeqAt
section
variable{o:Expr}{fx:Ev->Y Bx}
end
section
variable{t:Ev->Y Bool}
end
section
variable{h':A6}
theorem XA{t':Nat}{e:A1}(I:L2.AW X AN σ H s)(k:∀b o,b≠e->b≠it->s.heap.get? b=Z o->h'.get? b=Z o)(fe:lO X AN H e)(fi:lO X AN H it)(he:∃o,h'.get? e=Z o)(hi:∃o,h'.get? it=Z o)(new:dw X.prog X.w (B1 H s.heap.objs.size (.tup xs)) h' s.heap.objs.size (.tup xs)):L2.AW X AN σ (B1 H s.heap.objs.size (.tup xs)) { s with heap:=h',toks:=t' }:=by
 have l:H s.heap.objs.size=Y3:=I.hok.fresh (zi _);have f:∀b u,H b=Z u->b≠s.heap.objs.size:=λb u q z=>by rw[z,l]at q;cases q
 have h:∀b u,H b=Z u->b≠e/\b≠it:=λb u q=>⟨λz=>(by rw[z,fe.1]at q;cases q),λz=>(by rw[z,fi.1]at q;cases q)⟩;have g:∀b,b∉[e,it]->b≠e/\b≠it:=λb d=>⟨λz=>d (by simp[z]),λz=>d (by simp[z])⟩;refine I.step (g':=s.gens) (d':=s.drawn) (ch:=[e,it]) (λb d=>?_) (λb o _ _ a q _=>k b o (g b a).1 (g b a).2 q) (λb o _ _ a q _=>⟨o.slots,k b o (g b a).1 (g b a).2 q⟩) (λb o _ q n=>?_)
  (λb o a q=>⟨o,k b o (g b a).1 (g b a).2 q⟩) (λb ys q=>?_) (λb o u q=>?_) (λb ps q=>⟨#[],?_⟩) (λm i=>?_) (λb u q=>?_) I.bare
 ·rcases List.mem_cons.mp d with rfl|d
  ·exact⟨fe.2.2.2.1,fe.2.1,fe.2.2.2.2.1,fe.2.2.2.2.2⟩
  ·cases bo.mp d;exact⟨fi.2.2.2.1,fi.2.1,fi.2.2.2.2.1,fi.2.2.2.2.2⟩
 ·rw[aF (zI (zw q))];exact n
 ·rw[aF (f b _ q)];exact q
 ·rw[aF (f b _ q)];exact q
 ·rw[aF (f b _ q),q];simp
 ·obtain⟨o,es,ep,j,r⟩:=i;exact⟨o,es,ep,k _ o (j0 fe.2.1) (j0 fi.2.1) j,r⟩
 ·by_cases d:b=s.heap.objs.size
  ·subst d;rw[aJ]at q;cases q;exact new
  ·rw[aF d]at q;refine(I.hok b u q).stay (λc v a w=>k c v ?_ ?_ w) (λc w=>?_) (λc ys w=>?_) λc o' p w=>?_
   ·rcases a with rfl|z
    ·exact(h _ _ q).1
    ·exact(h _ _ z).1
   ·rcases a with rfl|z
    ·exact(h _ _ q).2
    ·exact(h _ _ z).2
   ·rw[aF (f c _ w)];exact w
   ·rw[aF (f c _ w)];exact w
   ·rw[aF (f c _ w)];exact w
end
def Ha(K:B5)(l:A1):It:=
 ⟨λi H=>∃xs x,nG K H l xs/\xs[i]?=Z x,λi H v H'=>∃p x,H p=Y3/\(∀xs,nG K H l xs->xs[i]?=Z x)/\v=.ref p/\H'=B1 H p (.tup [.int i,x]),λi H=>∃xs,nG K H l xs/\xs.length<=i⟩
theorem Vc(l e it:A1)(A:e≠it):
  C2 P w K (.Tuple elts x1 tpos) (Ha K l) [e,it] e (λi h=>(∃old,IsEnum h e it i old)/\h.IsListIter it l i) where
 mem:=by simp
 obj:=λi h st b a=>by
  obtain⟨⟨old,h1⟩,o,h2,_,L⟩:=st;rcases List.mem_cons.mp a with rfl|a
  ·exact⟨_,h1,λv z=>by cases z⟩
  ·cases bo.mp a;exact⟨o,h2,λv z=>by rw[L]at z;cases z⟩
 keep:=λi h h' st k=>by
  obtain⟨⟨old,h1⟩,h2⟩:=st;exact⟨⟨old,k e (by simp) _ h1⟩,h2.at λo q=>k it (by simp) o q⟩
 item:=by
  intro X g f n B i AN s σ H E I d st j;subst g f n;obtain⟨⟨old,h1⟩,h2⟩:=st;obtain⟨xs,x,c,hx⟩:=j;obtain⟨AT,y,p,hz⟩:=I.list c;obtain⟨u,M,W⟩:=y.get hx;have fe:=d e (by simp);have fi:=d it (by simp);refine wpAny_pyNext_enum_item h1 h2 p.isList (x:=u) (by simpa using M) A λa3 ho Q hT a4 hk=>⟨_,rfl,?_⟩;refine wpAny_letOwnedTupleGo_enum ho λD C m=>?_;have elt:e<s.heap.objs.size:=zw h1;have J:it<s.heap.objs.size:=by obtain⟨_,q,_⟩:=h2;exact zw q
  have U:D.get? s.heap.objs.size=Z { cls:=.type "tuple",data:=.seq #[.int i s.toks,u] }:=(m.2 _ (kB elt)).trans hT;have G:D.IsListIter it l (i+1):=Q.at λo q=>(m.2 it (j0 A)).trans q;refine⟨.ref s.heap.objs.size,B1 H s.heap.objs.size (.tup [.int i,x]),XA (t':=s.toks+1) I (λb o F n2 q=>(m.2 b F).trans (hk b o F n2 q)) fe fi ⟨_,C⟩ (by obtain⟨o,q,_⟩:=G;exact⟨o,q⟩) ?_,rfl,⟨_,x,I.hok.fresh (zi _),λys hy=>by rw[I.Bu hy c];exact hx,rfl,rfl⟩,⟨⟨_,by simpa using C⟩,G⟩,λb a=>?_⟩
  ·exact⟨by show 2<=AA;decide,[.int i s.toks,u],.cons ⟨_,rfl⟩ (.cons W .nil),_,U,rfl,⟨_,rfl⟩,rfl⟩
  ·rcases List.mem_cons.mp a with rfl|a
   ·rw[aF (zI elt)];exact fe.1
   ·cases bo.mp a;rw[aF (zI J)];exact fi.1
 done:=by
  intro X g f n B i AN s σ H E I d st j;subst g f n;obtain⟨⟨old,h1⟩,h2⟩:=st;obtain⟨xs,c,hx⟩:=j;obtain⟨AT,y,p,hz⟩:=I.list c;obtain⟨f0,f1,f2,f3,N,f5⟩:=d it (by simp);have hl:=y.length;exact wpAny_pyNext_enum_end (I.ok.hd B) h1 h2 p.isList (by simp;omega) λh' eb=>⟨rfl,I.turned (t':=s.toks) (λb o a e=>eb b o a e) f0 f1 f3 N f5⟩
 self:=λ_ _ _ _ _ st h=>by
  obtain⟨⟨old,h1⟩,_⟩:=st;exact wpAny_pyIter_enum h1 h
def zL(ds:O Dt):O Dt:=(cw ds.length).zipWith (λk d=>.tup [.int (k:Nat),d]) ds
theorem Hf(ds:O Dt):(zL ds).length=ds.length:=by simp[zL]
theorem Vd(h:(zL ds)[i]?=Z d):∃c,ds[i]?=Z c/\d=.tup [.int (i:Nat),c]:=by
 have hi:i<ds.length:=by
  have:=(cc.mp h).1;rwa [Hf]at this
 refine⟨ds[i],by simp[hi],?_⟩;unfold zL at h;rw[hI]at h;simp[hi]at h;exact h.symm
theorem B4.enum(h:nG K Hs l vs)(r:aG K Hs ds vs):B4 K (Ha K l) (zL ds) Hs:=λi H s=>by
 have h':=s.seq h;have g:=r.kp (.of s);refine⟨λd e=>?_,λe=>⟨vs,h',by rw[Hf]at e;rw[r.length];exact e⟩⟩;obtain⟨c,f,rfl⟩:=Vd e;obtain⟨v,ev,j⟩:=g.get f;refine⟨⟨vs,v,h',ev⟩,λx H' y=>?_⟩;obtain⟨p,n,hp,m,rfl,rfl⟩:=y;have:=m vs h';rw[ev]at this;cases this;have a:AX H (B1 H p (.tup [.int (i:Nat),v])):=λb o q=>by rw[aF (bQ q hp)];exact q
 refine⟨a,?_⟩;simp only[AY];exact⟨p,_,rfl,.inl (.inl aJ),aG.cons (by simp only[AY]) (aG.cons (AY.kp (.of a) j) aG.nil)⟩
section
variable{p:Pos}{fs:Ev->Y (O Bx)}
def Pf(K:B5)(ta:TA):TI:=λσ H R=>ta σ H λvs H1=>∃l,vs=[.ref l]/\(∃xs,nG K H1 l xs)/\R (Ha K l) H1
theorem NE{ta:TA}(f:Gl X "enumerate")(g:X.mg "enumerate"=Y3)(d:PA X [e] ta)(hs:A9 [e] X.env=[(false,eval e X.env)]:=by rfl):PI X (.Tuple elts x1 tpos) (.Call (.Name "enumerate" p) [e] [] pos) (Pf X.K ta):=by
 intro AN s σ H R I h;refine Call_ (rA I f g boot_enumerate (PyProof.Rows.callWith_type1 (fB (d pos AN s σ H _ I h) λus s1 ⟨vs,H1,I1,r1,q1⟩=>?_) hs S));obtain⟨l,rfl,⟨xs,m⟩,q⟩:=q1;obtain⟨u,rfl,j⟩:=BG r1;cases j;obtain⟨AT,o,p,n⟩:=I1.list m;refine call_enumerate_list p.isList λh' c i v hk=>?_;refine wpAny_pyIter_enum c ?_;refine⟨s1.heap.objs.size+1,[s1.heap.objs.size+1,s1.heap.objs.size],_,_,H1,rfl,I1.kept (t':=s1.toks) hk,Vc l _ _ (kB (QI _)),⟨⟨_,c⟩,i⟩,λb a=>?_,q⟩;rcases List.mem_cons.mp a with rfl|a
 ·exact I1.Bv (kA _) (I1.hok.fresh (kA _))
 ·cases bo.mp a;exact I1.Bv (zi _) (I1.hok.fresh (zi _))
def Mv:O Bx->Y (O Dt)
 |[b]=>(lY b).bind λds=>Z (zL ds)
 |_=>Y3
theorem X8(i:Gl X "enumerate")(j:X.mg "enumerate"=Y3)(f:F2 X [e] fs)(hs:A9 [e] X.env=[(false,eval e X.env)]:=by rfl):LN X (.Tuple elts x1 tpos) (.Call (.Name "enumerate" p) [e] [] pos) (λρ=>(fs ρ).bind Mv):=λAN s σ H R I q=>by
 refine NE i j f hs AN s σ H R I ?_;obtain⟨H0,ρ,ds,E,e,q⟩:=q;obtain⟨bs,eb,e⟩:=AV e;refine⟨H0,ρ,bs,E,eb,λvs H1 d c=>?_⟩;unfold Mv at e;split at e
 ·rename_i b;obtain⟨m,h,e⟩:=AV e;cases e;obtain⟨v,rfl,g⟩:=BQ c;obtain⟨a,ws,rfl,sq,l⟩:=g.Ax h;exact⟨a,rfl,⟨ws,sq⟩,q _ _ d (.enum sq l)⟩
 ·cases e
theorem Yc(b:Gl X "enumerate")(a:X.mg "enumerate"=Y3)(c:Uh X [e] fs)(hs:A9 [e] X.env=[(false,eval e X.env)]:=by rfl):EF X (.Tuple elts x1 tpos) (.Call (.Name "enumerate" p) [e] [] pos) (λρ=>(fs ρ).bind Mv):=⟨X8 b a c.run hs⟩
end
def Hg:O Dt->Y B7
 |[]=>Z []
 |.int k::r=>(Hg r).bind λks=>Z (k::ks)
 |_=>Y3
def EJ(ks:O Int):Bool:=decide (ks.length<=1000)&&ks.all λk=>decide (-1000000000000<=k/\k<=1000000000000)
def Yd:O Bx->Y Bx
 |[b]=>(lY b).bind λds=>(Hg ds).bind λks=>if EJ ks=true then Z (.z (.int ks.sum))else Y3
 |_=>Y3
theorem CQ{K:B5}{H:Hp}:∀{ds:O Dt} {ks:O Int} {vs:O V} {AT:O A0},Hg ds=Z ks->aG K H ds vs->AZ vs AT->AT.length=ks.length/\∀i v,AT[i]?=Z v->∃t,v=Value.int (ks.getD i 0) t
 |[],ks,vs,AT,e,r,w=>by
  cases e;simp only[aG]at r;subst r;cases w;exact⟨rfl,λi v h=>by simp at h⟩
 |d::ds,ks,vs,AT,e,r,w=>by
  cases d with
  |int k=>
   simp only[Hg]at e;obtain⟨n,e1,e2⟩:=AV e;cases e2;obtain⟨a,b,rfl,q,t⟩:∃a b,vs=a::b/\AY K H (.int k) a/\aG K H ds b:=by
    simpa only[aG]using r
   have g:a=.int k:=by simpa only[AY]using q
   subst g;cases w with
   |cons j m=>
    obtain⟨c,rfl⟩:=j;obtain⟨l,f⟩:=CQ e1 t m;refine⟨by simp[l],λi v h=>?_⟩;cases i with
    |zero=>simp at h;exact⟨c,h.symm⟩
    |succ i=>simpa using f i v (by simpa using h)
  |_=>cases e
theorem BY(ks:O Int):∀n,n<=ks.length->preSum (λi=>ks.getD i 0) n=(ks.take n).sum
 |0,_=>by simp[preSum]
 |n+1,h=>by
  have hn:n<ks.length:=by omega
  rw[preSum,BY ks n (),dQ hn,List.sum_append];simp[hn]
theorem Ye:∀(ks:O Int),(∀k∈ks,-1000000000000<=k/\k<=1000000000000) → -(1000000000000*(ks.length:Int))<=ks.sum/\ks.sum<=1000000000000*(ks.length:Int)
 |[],_=>by simp
 |k::ks,h=>by
  have h1:=h k (zg ..);have h2:=Ye ks λx hx=>h x (zh _ hx);rw[fA,ZN]
  push_cast
  omega
theorem a0(B:X.calm=true):nR X (.builtin "sum") Yd:=by
 intro AN s σ H xs us Q I r h;obtain⟨bs,c,z,e,q⟩:=h;unfold Yd at e;split at e
 ·obtain⟨ds,G,e⟩:=AV e;obtain⟨ks,ek,e⟩:=AV e;split at e
  ·rename_i f;cases e;obtain⟨v,rfl,p⟩:=BQ z;obtain⟨a,vs,rfl,sq,L⟩:=p.Ax G;obtain⟨u,rfl,E⟩:=BG r;cases E;obtain⟨AT,w,pl,U⟩:=I.list sq;obtain⟨m,K⟩:=CQ ek L w;unfold EJ at f;rw[ZO,qS,Qb]at f;have g:∀k∈ks,-1000000000000<=k/\k<=1000000000000:=λk hk=>ko (f.2 k hk);have l:a<s.heap.objs.size:=by obtain⟨o,n,e,_⟩:=pl;exact zw e
   refine call_sum_walk (kR pl.isList ?_);refine⟨s.heap.objs.size,_,_,_,_,_,λi=>ks.getD i 0,rfl,Walks.list (by show X.A.handled=Y3;exact I.ok.hd B) s.heap.objs.size a (zI l) AT.toArray,⟨⟨_,zl _ rfl,rfl,rfl⟩,pl.isList.push _⟩,?_,λi v hp=>?_,λj P=>?_,λh' tk t' k=>?_⟩
   ·intro b d;have M:(s.heap.push { cls:=.type "list_iterator",data:=.fields #[.ref a,.int 0 0] }).objs.size=s.heap.objs.size+1:=qk ..;simp only[Qr,qv,or_false]at d;show b<(s.heap.push { cls:=.type "list_iterator",data:=.fields #[.ref a,.int 0 0] }).objs.size;rw[M];rcases d with rfl|rfl
    ·exact QI _
    ·exact qh l
   ·exact K i v (by simpa using hp)
   ·have y:j<ks.length:=by
     have:AT.toArray.size=ks.length:=by simpa using m
     omega
    have b1:=g (ks.getD j 0) (by simp[y]);have b2:=Ye (ks.take (j+1)) λx hx=>g x (List.mem_of_mem_take hx);have N:(ks.take (j+1)).length<=1000:=by rw[jn];omega
    rw[BY ks (j+1) ()];unfold InLong;dsimp only;refine⟨⟨by omega,by omega⟩,by omega,by omega⟩
   ·have F:AT.toArray.size=ks.length:=by simpa using m
    rw[F,BY ks ks.length (zi _),kG];have C:L2.AW X AN σ H { s with heap:=s.heap.push { cls:=.type "list_iterator",data:=.fields #[.ref a,.int 0 0] } }:=I.kept (t':=s.toks) λb o e=>zd _ e;refine⟨.int _,H,?_,⟨_,rfl⟩,q _ H (AX.refl H) trivial (by simp only[aX,AY])⟩;obtain⟨f0,f1,f2,f3,D,J⟩:=I.Bv (b:=s.heap.objs.size) (H':=H) (zi _) (I.hok.fresh (zi _));exact C.turned (it:=s.heap.objs.size) (λb o d e=>k b o (by simpa using d) e) f0 f1 f3 D J
  ·cases e
 ·cases e
def FF(ρ:Ev)(i:Nat):Bx->Y As
 |.o zs=>match ρ[i]? with
  |some (Z (.o ds))=>if ds.length+zs.length<=AA then Z (.nx (ρ.set i (Z (.o (ds++zs)))))else Y3
  |_=>Y3
 |_=>Y3
def Yg(i:Nat)(f:Ev->Y Bx):Ev->Y As:=λρ=>(f ρ).bind (FF ρ i)
theorem a9(i:Nat){p:Pos}(he:PV X e f)(I:X.N[i]?=Z x:=by rfl)(z:Ov X.env.scope x:=by first|exact JJ rfl|exact QN (JJ S)|exact QN (QN S))(hd:ad x:=by decide)(y:(x==("__classdict__":AJ))=false:=by decide)(j:A9 [e] X.env=[(false,eval e X.env)]:=by rfl)(A:attributeBase (.Name x p) "extend" X.env (eval (.Name x p) X.env)=eval (.Name x p) X.env:=by rfl)(s:((AD cpos (A9 [e] X.env)).all (λx=>!x.1)&&(backToKw cpos (keywordEach [] X.env)).all (λx=>x.1.isSome)
   && decide ([e].length+([]:O AC).length+(if([]:O AC).isEmpty then 0 else 1)<30))=true:=by rfl)(G:(apos.endLine==cpos.line)=true:=by rfl)(hs:swapsWith (.Call (.Attribute (.Name x p) "extend" apos) [e] [] cpos) Y3 pos.line X.env=pure false:=by rfl):
  N2 X (.Expr (.Call (.Attribute (.Name x p) "extend" apos) [e] [] cpos) pos) (Yg i f):=
 V3 (Ii (KY yA PySem.F.slot_list_extend PySem.F.type_list_extend Ua (oV (i:=i) I z hd y) (bD he fQ (by rw[j]<;>rfl)) A s G (by rw[j]<;>rfl) S) hs) λD σ H h=>by
  obtain⟨H0,ρ,r,E,e,q⟩:=h;obtain⟨b,eb,e⟩:=AV e;cases b with
  |o zs=>
   simp only[FF]at e;split at e
   ·rename_i ds l;split at e
    ·rename_i w;cases e;obtain⟨v,e1,a,vs,rfl,d,m⟩:=E.val i _ l;refine⟨_,e1,.inl ⟨rfl,vs,.inl (.inl d)⟩,H0,ρ,_,E,eb,λu H1 c J n=>?_⟩;have C:=E.grow c;obtain⟨b,ws,rfl,B,g⟩:=n;refine⟨a,b,vs,ws,rfl,rfl,c _ _ d,B,by rw[m.length,g.length];exact w,q _ _ ?_⟩;exact C.T9 l e1 (c _ _ d) ((m.kp (.of c)).append g)
    ·cases e
   ·cases e
  |_=>cases e
theorem Nl(i:Nat){p:Pos}(he:QV X e f)(h:X.N[i]?=Z x:=by rfl)(c:Ov X.env.scope x:=by first|exact JJ rfl|exact QN (JJ S)|exact QN (QN S))(hd:ad x:=by decide)(b:(x==("__classdict__":AJ))=false:=by decide)(d:A9 [e] X.env=[(false,eval e X.env)]:=by rfl)(g:attributeBase (.Name x p) "extend" X.env (eval (.Name x p) X.env)=eval (.Name x p) X.env:=by rfl)(a:((AD cpos (A9 [e] X.env)).all (λx=>!x.1)&&(backToKw cpos (keywordEach [] X.env)).all (λx=>x.1.isSome)
   && decide ([e].length+([]:O AC).length+(if([]:O AC).isEmpty then 0 else 1)<30))=true:=by rfl)(j:(apos.endLine==cpos.line)=true:=by rfl)(hs:swapsWith (.Call (.Attribute (.Name x p) "extend" apos) [e] [] cpos) Y3 pos.line X.env=pure false:=by rfl):
  RD X (.Expr (.Call (.Attribute (.Name x p) "extend" apos) [e] [] cpos) pos) (Yg i f):=⟨a9 i he.run h c hd b d g a j hs⟩
section
variable{ek ev:Expr}
end
section
variable{st:Expr}{fs:Ev->Y Bx}
end
section
variable{K:Type} [DecidableEq K] {knd:KeyKind prog w K}
end
section
variable{ea eb:Expr}{p1 pos1 pos2:Pos}
end
theorem lB(xs:Ap)(is:O Nat)(e:closureFor scope X.env=pure cl:=by with_unfolding_all rfl)(b:scope.kind=.function:=by rfl)(c:scope.names.all (λy=>decide (y.2≠.cell)||(cl.lookup y.1).isNone)=true:=by rfl)(d:scope.names.all (λy=>decide (y.2=.local->scope.names.lookup y.1=Z .local))=true:=by decide +kernel)(sub:C3 X.env.cells cl:=by repeat (first|exact trivial|refine⟨rfl,?_⟩))(has:(relabel scope X.env).names.all (λy=>!(y.2==.cell||y.2==.free)||(cl.lookup y.1).isSome||scope.names.contains (y.1,.cell))=true:=by rfl)(a:Fp X scope cl xs is:=by repeat (first|exact WS|refine NM S (by first|exact .inl rfl|exact .inr S) (by first|exact .inl rfl|exact .inr S) ⟨_,rfl⟩ ?_)):oX X scope cl xs is:=VC e b c d sub has a
theorem mC{a:Scope}(h1:a.kind=.function:=by rfl)(h2:a.isCoroutine=false:=by rfl)(c:a.isGenerator=false:=by rfl)(f:N.Nodup:=by decide +kernel)(e:N.take ps.length=ps:=by rfl)(b:∀x∈ps,a.names.lookup x=Z .local\/a.names.lookup x=Z .cell:=by decide +kernel)(d:∀y∈a.names,y.2≠.free:=by decide +kernel):bH N ps a:=⟨h1,h2,c,f,e,b,d⟩
instance:Inhabited Dt:=⟨.non⟩
theorem Au(a:α)(f:α->Y β):(Z a).bind f=f a:=(gm a f).trans (Eq.refl _)
def B6:Y Prop->Prop
 |none=>True
 |some p=>p
def aW:Y Prop->Y Prop->Y Prop
 |none,q=>q
 |some p,Y3=>Z p
 |some p,Z q=>Z (p/\q)
def yQ(c:Prop):Y Prop->Y Prop
 |none=>Y3
 |some p=>Z (c->p)
theorem aq{p q:Y Prop}(h:B6 (aW p q)):B6 p/\B6 q:=by
 cases p with
 |none=>exact⟨trivial,h⟩
 |some p=>cases q with
  |none=>exact⟨h,trivial⟩
  |some q=>exact h
theorem jc{c:Prop}{p:Y Prop}(h:B6 (yQ c p))(a:c):B6 p:=by
 cases p with
 |none=>trivial
 |some p=>exact h a
structure R {α β:Type} (f:Ev->Option β) (ρ:Ev) (c:α->β) where
 v:α
 D:Option Prop
 ok:B6 D->f ρ=some (c v)
abbrev zE(e:α->Dt):α->Bx:=λa=>.z (e a)
abbrev oE(e:α->Dt):O α->Bx:=λxs=>.o (xs.map e)
abbrev lE(e:α->Dt):O α->Bx:=λxs=>.l (xs.map e)
abbrev tE:Bool->Bool:=λb=>b
abbrev iE(e:α->Dt):O α->O Dt:=λxs=>xs.map e
abbrev eI:Int->Dt:=Dt.int
abbrev eB:Bool->Dt:=Dt.bl
abbrev eS:AJ->Dt:=Dt.str
abbrev eD:Dt->Dt:=λd=>d
abbrev eL(e:α->Dt):O α->Dt:=λxs=>.lst (xs.map e)
abbrev eT(e:α->Dt):O α->Dt:=λxs=>.tup (xs.map e)
abbrev eO(e:α->Dt):Y α->Dt:=λo=>match o with|none=>.non|some a=>e a
abbrev L4(a:α->Dt):α->Dt:=λx=>.tup [a x]
abbrev ZX(a:α->Dt)(b:β->Dt):α×β->Dt:=λx=>.tup [a x.1,b x.2]
abbrev F0(a:α->Dt)(b:β->Dt)(c:γ->Dt):α×β×γ->Dt:=λx=>.tup [a x.1,b x.2.1,c x.2.2]
abbrev FG(a:α->Dt)(b:β->Dt)(c:γ->Dt)(d:δ->Dt):α×β×γ×δ->Dt:=λx=>.tup [a x.1,b x.2.1,c x.2.2.1,d x.2.2.2]
structure RL {α:Type} (f:Ev->Option Bx) (ρ:Ev) (e:α->Dt) where
 v:List α
 D:Option Prop
 b:Bx
 lk:lY b=some (v.map e)
 ok:B6 D->f ρ=some b
section
variable{fs:Ev->Y (O Bx)}{e:α->Dt}{e':β->Dt}
def jH(a:R f ρ (oE e)):RL f ρ e:=⟨a.v,a.D,_,rfl,a.ok⟩
def fH(a:R f ρ (lE e)):RL f ρ e:=⟨a.v,a.D,_,rfl,a.ok⟩
def Mw(a:R f ρ (zE (eL e))):RL f ρ e:=⟨a.v,a.D,_,rfl,a.ok⟩
def Lp(b:Bx)(ds:O Dt):Prop:=b=.z (.lst ds)\/b=.l ds
theorem Lp.Ax(h:Lp b ds):lY b=Z ds:=by rcases h with rfl|rfl<;>rfl
theorem Lp.get{b:Bx}{ds:O Dt}{i:Nat}(h:Lp b ds)(hi:ρ[i]?=Z (Z b)):yD ρ i=Z b:=by
 rcases h with rfl|rfl<;>(unfold yD;rw[hi])
theorem lX(h:lY b=Z ds):Lp (P1.lend b) ds:=by
 cases b with
 |z d=>cases d<;>cases h;exact .inl rfl
 |l d=>cases h;exact .inr rfl
 |o d=>cases h;exact .inr rfl
 |n d=>cases h
 |m d _=>cases h
def au(i:Nat)(c:α->Bx)(a:α)(h:yD ρ i=Z (c a)):R (gv i) ρ c:=⟨a,Y3,λ_=>h⟩
def dI(i:Nat)(e:α->Dt)(a:O α)(h:Lp b (a.map e))(hi:ρ[i]?=Z (Z b)):RL (gv i) ρ e:=⟨a,Y3,b,h.Ax,λ_=>h.get hi⟩
def sy(d:Dt)(e:α->Dt)(a:α)(h:d=e a):R (cB d) ρ (zE e):=⟨a,Y3,λ_=>by rw[h];rfl⟩
def Hh(a:R f ρ (zE e)):R f ρ (zE eD):=⟨e a.v,a.D,a.ok⟩
def Qh(a:R f ρ (zE e)):R f ρ (zE (eO e)):=⟨Z a.v,a.D,a.ok⟩
def CT:R (cB .non) ρ (zE (eO e)):=⟨Y3,Y3,λ_=>S⟩
def NC[Inhabited α](a:R f ρ (zE (eO e))):R f ρ (zE e):=⟨a.v.getD default,aW a.D (Z (a.v.isSome=true)),λh=>by
 obtain⟨h1,h2⟩:=aq h;rw[a.ok h1];have h2:a.v.isSome=true:=h2;cases b:a.v with
 |none=>rw[b]at h2;cases h2
 |some x=>rfl⟩
def Ve(a:R f ρ (oE e)):R (b1 zu f) ρ (zE (eL e)):=⟨a.v,a.D,λh=>by simp only[b1,a.ok h,Au,zu]⟩
def m5(a:R f ρ (zE e)):R (b1 zu f) ρ (zE e):=⟨a.v,a.D,λh=>by simp only[b1,a.ok h,Au,zu]⟩
def OG(a:R f ρ (zE eI)):R (b1 Xa f) ρ (zE eI):=⟨-a.v,a.D,λh=>by simp only[b1,a.ok h,Au,Xa]⟩
def jr(a:R fa ρ (zE eI))(b:R fb ρ (zE eI)):R (b2 iV fa fb) ρ (zE eI):=⟨a.v+b.v,aW a.D b.D,λh=>by
 obtain⟨h1,h2⟩:=aq h;simp only[b2,a.ok h1,b.ok h2,Au,iV]⟩
def Sq(a:R fa ρ (zE eI))(b:R fb ρ (zE eI)):R (b2 CD fa fb) ρ (zE eI):=⟨a.v-b.v,aW a.D b.D,λh=>by
 obtain⟨h1,h2⟩:=aq h;simp only[b2,a.ok h1,b.ok h2,Au,i2]⟩
def G0(a b:Int):Prop:=(-18446744073709551616<a/\a<18446744073709551616)\/(-18446744073709551616<b/\b<18446744073709551616)
def N9(a:R fa ρ (zE eI))(b:R fb ρ (zE eI)):R (b2 wF fa fb) ρ (zE eI):=⟨a.v*b.v,aW (aW a.D b.D) (Z (G0 a.v b.v)),λh=>by
 obtain⟨h,c⟩:=aq h;obtain⟨h1,h2⟩:=aq h;simp only[b2,a.ok h1,b.ok h2,Au];exact zo c⟩
def Qi(n:Int)(hn : -18446744073709551616<n/\n<18446744073709551616)(b:R fb ρ (zE eI)):R (b2 wF (cB (.int n)) fb) ρ (zE eI):=⟨n*b.v,b.D,λh=>by
 simp only[b2,b.ok h,Au,cB];exact zo (.inl hn)⟩
def Ss(a:R fa ρ (zE eI))(n:Int)(hn : -18446744073709551616<n/\n<18446744073709551616):R (b2 wF fa (cB (.int n))) ρ (zE eI):=⟨a.v*n,a.D,λh=>by
 simp only[b2,a.ok h,Au,cB];exact zo (.inr hn)⟩
def Yh(a:R fa ρ (zE eI))(b:R fb ρ (zE eI)):R (b2 rR fa fb) ρ (zE eI):=⟨a.v / b.v,aW (aW a.D b.D) (Z (0<b.v/\b.v<1073741824)),λh=>by
 obtain⟨h,c⟩:=aq h;obtain⟨h1,h2⟩:=aq h;have c:0<b.v/\b.v<1073741824:=c;simp only[b2,a.ok h1,b.ok h2,Au,i2,zo c]⟩
def uc(a:R fa ρ (zE eI))(n:Int)(hn:0<n/\n<1073741824):R (b2 rR fa (cB (.int n))) ρ (zE eI):=⟨a.v / n,a.D,λh=>by
 simp only[b2,a.ok h,Au,i2,cB,zo hn]⟩
def Sv(a:R fa ρ (zE eI))(b:R fb ρ (zE eI)):R (b2 jy fa fb) ρ (zE eI):=⟨a.v%b.v,aW (aW a.D b.D) (Z (0<b.v)),λh=>by
 obtain⟨h,c⟩:=aq h;obtain⟨h1,h2⟩:=aq h;have c:0<b.v:=c;simp only[b2,a.ok h1,b.ok h2,Au,i2,zo c]⟩
def dZ(a:R fa ρ (zE eI))(n:Int)(hn:0<n):R (b2 jy fa (cB (.int n))) ρ (zE eI):=⟨a.v%n,a.D,λh=>by
 simp only[b2,a.ok h,Au,i2,cB,zo hn]⟩
def bj(a b:Int)(n:Nat)(h:0<=b/\b<=1000/\a.natAbs<18446744073709551616)(c:b.toNat=n):R (b2 II (cB (.int a)) (cB (.int b))) ρ (zE eI):=⟨a ^ n,Y3,λ_=>by
 simp only[b2,Au,cB];show((if 0<=b/\b<=1000/\a.natAbs<2 ^ 64 then Z (Dt.int (a ^ b.toNat))else Y3).bind λd=>Z (Bx.z d))=_;rw[zo h,c];rfl⟩
def Fk(a:R fa ρ (zE eI))(b:R fb ρ (zE eI)):R (b2 EM fa fb) ρ (zE eB):=⟨decide (b.v<a.v),aW a.D b.D,λh=>by
 obtain⟨h1,h2⟩:=aq h;simp only[b2,a.ok h1,b.ok h2,Au,i2]⟩
def ID(a:R fa ρ (zE eI))(b:R fb ρ (zE eI)):R (b2 IF fa fb) ρ (zE eB):=⟨decide (b.v<=a.v),aW a.D b.D,λh=>by
 obtain⟨h1,h2⟩:=aq h;simp only[b2,a.ok h1,b.ok h2,Au,i2]⟩
def Sw(a:R fa ρ (zE eI))(b:R fb ρ (zE eI)):R (b2 DL fa fb) ρ (zE eB):=⟨decide (a.v<b.v),aW a.D b.D,λh=>by
 obtain⟨h1,h2⟩:=aq h;simp only[b2,a.ok h1,b.ok h2,Au,DL]⟩
end
class BB {α:Type} [DecidableEq α] (e:α->Dt) (n:outParam Nat):Prop where
 eq:∀a b,uI (e a) (e b)=some (decide (a=b))
 dp:∀a,u0 (e a)<=n
class CL {α:Type} (e:α->Dt):Prop where
 l:∀a,uI .non (e a)=some false
 r:∀a,uI (e a) .non=some false
instance:BB eI 1:=⟨λa b=>rfl,λa=>by simp[u0]⟩
instance:BB eB 1:=⟨λa b=>rfl,λa=>by simp[u0]⟩
instance:BB eS 1:=⟨λa b=>rfl,λa=>by simp[u0]⟩
instance:CL eI:=⟨λa=>rfl,λa=>rfl⟩
instance:CL eB:=⟨λa=>rfl,λa=>rfl⟩
instance:CL eS:=⟨λa=>rfl,λa=>rfl⟩
section
variable [DecidableEq α] [DecidableEq β] [DecidableEq γ] [DecidableEq δ] {e:α->Dt}{e':β->Dt}{e'':γ->Dt}{e3:δ->Dt}{k l:Nat}
theorem CV[BB e n]:∀xs ys:O α,j4 (xs.map e) (ys.map e)=Z (decide (xs=ys))
 |[],[]=>by simp[j4]
 |[],y::ys=>by simp[j4]
 |x::xs,[]=>by simp[j4]
 |x::xs,y::ys=>by
  simp only[zr,j4,BB.eq,CV xs ys];congr 1;by_cases h:x=y<;>by_cases h':xs=ys<;>simp[h,h']
theorem CW[BB e n]:∀xs:O α,wB (xs.map e)<=n
 |[]=>by simp[wB]
 |x::xs=>by
  have:=BB.dp (e:=e) x;have:=CW xs;simp only[zr,wB];omega
instance [BB e n]:BB (eL e) (n+1):=⟨λa b=>CV a b,λa=>by simp only[u0];have:=CW (e:=e) a;omega⟩
instance [BB e n]:BB (eT e) (n+1):=⟨λa b=>CV a b,λa=>by simp only[u0];have:=CW (e:=e) a;omega⟩
instance:CL (eL e):=⟨λa=>rfl,λa=>rfl⟩
instance:CL (eT e):=⟨λa=>rfl,λa=>rfl⟩
instance:CL (L4 e):=⟨λa=>rfl,λa=>rfl⟩
instance:CL (ZX e e'):=⟨λa=>rfl,λa=>rfl⟩
instance:CL (F0 e e' e''):=⟨λa=>rfl,λa=>rfl⟩
instance:CL (FG e e' e'' e3):=⟨λa=>rfl,λa=>rfl⟩
instance [BB e n]:BB (L4 e) (n+1):=⟨λa b=>by
 simp only[Bb,j4,BB.eq,kM],λa=>by
 have:=BB.dp (e:=e) a;simp only[u0,wB];omega⟩
theorem EL{a b:Nat}(h:a<=n)(h':b<=m):max a b<=max n m:=Nat.max_le.mpr ⟨zv h (Nat.le_max_left ..),zv h' (Nat.le_max_right ..)⟩
theorem GM{a:Nat}(h:a<=n):max a 0<=n:=Nat.max_le.mpr ⟨h,qc _⟩
instance [BB e n] [BB e' m]:BB (ZX e e') (max n m+1):=⟨λa b=>by
 obtain⟨a,a'⟩:=a;obtain⟨b,b'⟩:=b;simp only[Bb,j4,BB.eq,la.injEq,gN,kM],λa=>gn (EL (BB.dp (e:=e) a.1) (GM (BB.dp (e:=e') a.2)))⟩
instance [BB e n] [BB e' m] [BB e'' k]:BB (F0 e e' e'') (max n (max m k)+1):=⟨λa b=>by
 obtain⟨a,a',a2⟩:=a;obtain⟨b,b',b2⟩:=b;simp only[Bb,j4,BB.eq,la.injEq,gN,kM],λa=>gn (EL (BB.dp (e:=e) a.1) (EL (BB.dp (e:=e') a.2.1) (GM (BB.dp (e:=e'') a.2.2))))⟩
instance [BB e n] [BB e' m] [BB e'' k] [BB e3 l]:BB (FG e e' e'' e3) (max n (max m (max k l))+1):=⟨λa b=>by
 obtain⟨a,a',a2,a3⟩:=a;obtain⟨b,b',b2,b3⟩:=b;simp only[Bb,j4,BB.eq,la.injEq,gN,kM],λa=>gn (EL (BB.dp (e:=e) a.1) (EL (BB.dp (e:=e') a.2.1) (EL (BB.dp (e:=e'') a.2.2.1) (GM (BB.dp (e:=e3) a.2.2.2)))))⟩
instance [BB e n] [CL e]:BB (eO e) (n+1):=⟨λa b=>by
 cases a with
 |none=>cases b with
  |none=>exact rfl
  |some b=>exact(CL.l (e:=e) b).trans (by simp)
 |some a=>cases b with
  |none=>exact(CL.r (e:=e) a).trans (by simp)
  |some b=>exact(BB.eq (e:=e) a b).trans (by simp),λa=>by
 cases a with
 |none=>show u0 .non<=n+1;simp[u0]
 |some a=>exact fN (BB.dp (e:=e) a)⟩
end
section
variable{fs:Ev->Y (O Bx)}{e:α->Dt}{e':β->Dt}
def Bn[DecidableEq α][BB e n](hn:n<=100)(a:R fa ρ (zE e))(b:R fb ρ (zE e)):R (b2 Be fa fb) ρ (zE eB):=⟨decide (a.v=b.v),aW a.D b.D,λh=>by
 obtain⟨h1,h2⟩:=aq h;have:=BB.dp (e:=e) a.v;simp only[b2,a.ok h1,b.ok h2,Au,Be,j5,toD,zD,or_self,qB,BB.eq];rw[zo ()]⟩
def Vf[DecidableEq α][BB e n](hn:n<=100)(a:R fa ρ (zE e))(b:R fb ρ (zE e)):R (b2 Lz fa fb) ρ (zE eB):=⟨!decide (a.v=b.v),aW a.D b.D,λh=>by
 obtain⟨h1,h2⟩:=aq h;have:=BB.dp (e:=e) a.v;simp only[b2,a.ok h1,b.ok h2,Au,Lz,j5,toD,zD,or_self,qB,BB.eq];rw[zo ()]⟩
theorem nW(h:lY b=Z ds):toD b=.lst ds/\j5 b=false:=by
 cases b with
 |z d=>cases d<;>cases h;exact⟨rfl,rfl⟩
 |l d=>cases h;exact⟨rfl,rfl⟩
 |o d=>cases h;exact⟨rfl,rfl⟩
 |n d=>cases h
 |m d _=>cases h
def Lc[DecidableEq α][BB e n](hn:n+1<=100)(a:RL fa ρ e)(b:RL fb ρ e):R (b2 Be fa fb) ρ (zE eB):=⟨decide (a.v=b.v),aW a.D b.D,λh=>by
 obtain⟨h1,h2⟩:=aq h;have:=BB.dp (e:=eL e) a.v;simp only[b2,a.ok h1,b.ok h2,Au,Be,(nW a.lk).1,(nW a.lk).2,(nW b.lk).1,(nW b.lk).2,zD,or_self,qB];have e1:=BB.eq (e:=eL e) a.v b.v;rw[zo (zv (Nat.min_le_left _ _) (zv (BB.dp (e:=eL e) a.v) hn)),e1,Au]⟩
def U1[DecidableEq α][BB e n](hn:n+1<=100)(a:RL fa ρ e)(b:RL fb ρ e):R (b2 Lz fa fb) ρ (zE eB):=⟨!decide (a.v=b.v),aW a.D b.D,λh=>by
 obtain⟨h1,h2⟩:=aq h;simp only[b2,a.ok h1,b.ok h2,Au,Lz,(nW a.lk).1,(nW a.lk).2,(nW b.lk).1,(nW b.lk).2,zD,or_self,qB];have e1:=BB.eq (e:=eL e) a.v b.v;rw[zo (zv (Nat.min_le_left _ _) (zv (BB.dp (e:=eL e) a.v) hn)),e1,Au]⟩
def Fg(a b:Dt):Bool:=(uI a b).getD false
def Vg(a b:Dt):Prop:=(uI a b).isSome=true/\min (u0 a) (u0 b)<=100
def Sx(a:R fa ρ (zE eD))(b:R fb ρ (zE eD)):R (b2 Be fa fb) ρ (zE eB):=⟨Fg a.v b.v,aW (aW a.D b.D) (Z (Vg a.v b.v)),λh=>by
 obtain⟨h,c⟩:=aq h;obtain⟨h1,h2⟩:=aq h;obtain⟨c,d⟩:Vg a.v b.v:=c;simp only[b2,a.ok h1,b.ok h2,Au,Be,j5,toD,zD,or_self,qB,zo d];cases hd:uI a.v b.v with
 |none=>rw[hd]at c;cases c
 |some k=>simp only[Fg,hd,Au,gp];exact zo d⟩
def Iq(a:R fa ρ (zE eD))(b:R fb ρ (zE eD)):R (b2 Lz fa fb) ρ (zE eB):=⟨!Fg a.v b.v,aW (aW a.D b.D) (Z (Vg a.v b.v)),λh=>by
 obtain⟨h,c⟩:=aq h;obtain⟨h1,h2⟩:=aq h;obtain⟨c,d⟩:Vg a.v b.v:=c;simp only[b2,a.ok h1,b.ok h2,Au,Lz,j5,toD,zD,or_self,qB,zo d];cases hd:uI a.v b.v with
 |none=>rw[hd]at c;cases c
 |some k=>simp only[Fg,hd,Au,gp];exact zo d⟩
def LM(a:R fa ρ (zE (eO e)))(hn:∀x,Pj (.z (e x))=false):R (b2 EE fa (cB .non)) ρ (zE eB):=⟨a.v.isNone,a.D,λh=>by
 simp only[b2,a.ok h,Au,cB,EE];cases b:a.v with
 |none=>rfl
 |some x=>simp only[Option.isNone_some,hn]⟩
def UP(a:R fa ρ (zE eB))(b:R fb ρ (zE eB)):R (FR fa fb) ρ (zE eB):=⟨a.v&&b.v,aW a.D (yQ (a.v=true) b.D),λh=>by
 obtain⟨h1,h2⟩:=aq h;simp only[FR,a.ok h1,Au,BP];cases c:a.v with
 |true=>simp only[jS,kL];exact b.ok (jc h2 c)
 |false=>simp only[zD,qB,kg]⟩
def Rs(a:R fa ρ (zE eB)):R (FO fa) ρ (zE eB):=⟨!a.v,a.D,λh=>by simp only[FO,a.ok h,Au,BP]⟩
def CZ(a:R fa ρ (zE eB)):R (tV fa) ρ tE:=⟨a.v,a.D,λh=>by simp only[tV,a.ok h,Au,GH]⟩
def cZ{g:Bx->Bx->Y Bx}(a:R (b2 g fa fb) ρ (zE eB)):R (rW g fa fb) ρ tE:=⟨a.v,a.D,λh=>by simp only[rW,a.ok h,Au,BP]⟩
def Mx(a:R p ρ tE)(b:R q ρ tE):R (IW p q) ρ tE:=⟨a.v&&b.v,aW a.D (yQ (a.v=true) b.D),λh=>by
 obtain⟨h1,h2⟩:=aq h;simp only[IW,a.ok h1,Au];cases c:a.v with
 |true=>simp only[jS,kL];exact b.ok (jc h2 c)
 |false=>simp only[zD,qB,kg]⟩
def FN(a:R p ρ tE)(b:R q ρ tE):R (Rz p q) ρ tE:=⟨a.v||b.v,aW a.D (yQ (a.v=false) b.D),λh=>by
 obtain⟨h1,h2⟩:=aq h;simp only[Rz,a.ok h1,Au];cases c:a.v with
 |true=>simp only[jS,Bool.true_or]
 |false=>simp only[zD,qB,ft];exact b.ok (jc h2 c)⟩
def Mz(a:R p ρ tE):R (K6 p) ρ tE:=⟨!a.v,a.D,λh=>by simp only[K6,a.ok h,Au]⟩
def WH{g g':Bx->Bx->Y Bx}(a:R (b2 g fa fb) ρ (zE eB))(b:R (b2 g' fb fc) ρ (zE eB)):R (EX g g' fa fb fc) ρ (zE eB):=⟨a.v&&b.v,aW a.D (yQ (a.v=true) b.D),λh=>by
 obtain⟨h1,d⟩:=aq h;have e1:=a.ok h1;simp only[b2]at e1;obtain⟨x,ex,e1⟩:=AV e1;obtain⟨y,c,e1⟩:=AV e1;simp only[EX,ex,c,Au,e1,BP];cases e:a.v with
 |true=>
  have e2:=b.ok (jc d e);simp only[b2,c,Au]at e2;simp only[jS,kL];exact e2
 |false=>simp only[zD,qB,kg]⟩
end
section
variable{ε:Type}{fd:Ev->Y Bx}{fs:Ev->Y (O Bx)}{e:α->Dt}{e':β->Dt}{e'':γ->Dt}{e3:δ->Dt}
def Yi(a:R fa ρ (zE e))(b:R fb ρ (zE e')):R (cT rN (aA fa (aA fb aK))) ρ (zE (ZX e e')):=⟨(a.v,b.v),aW a.D b.D,λh=>by
 obtain⟨h1,h2⟩:=aq h;simp only[cT,aA,aK,a.ok h1,b.ok h2,Au];rfl⟩
def d7(e:α->Dt):R aK ρ (λxs:O α=>xs.map (zE e)):=⟨[],Y3,λ_=>S⟩
def bU(a:R fa ρ (zE e))(t:R fs ρ (λxs:O α=>xs.map (zE e))):R (aA fa fs) ρ (λxs:O α=>xs.map (zE e)):=⟨a.v::t.v,aW a.D t.D,λh=>by
 obtain⟨h1,h2⟩:=aq h;simp only[aA,a.ok h1,t.ok h2,Au,zr]⟩
theorem wV:∀xs:O α,Ja (xs.map (zE e))=Z (xs.map e)
 |[]=>rfl
 |x::xs=>by simp only[zr,Ja,wV xs,Au]
def qQ(t:R fs ρ (λxs:O α=>xs.map (zE e)))(a:t.v.length<=1000):R (cT rO fs) ρ (oE e):=⟨t.v,t.D,λh=>by
 simp only[cT,t.ok h,Au,rO,zk,zo a,wV]⟩
def yR(t:R fs ρ (λxs:O α=>xs.map (zE e)))(a:t.v.length<=1000):R (cT rN fs) ρ (zE (eT e)):=⟨t.v,t.D,λh=>by
 simp only[cT,t.ok h,Au,rN,zk,zo a,wV]⟩
def Jx(t:R fs ρ (λxs:O Dt=>xs.map (zE eD)))(a:t.v.length<=1000):R (cT rN fs) ρ (zE eD):=⟨.tup t.v,t.D,λh=>by
 simp only[cT,t.ok h,Au,rN,zk,zo a,wV,List.map_id_fun',id]⟩
def at'[Inhabited α](xs:O α)(i:Int):α:=(Fj xs i).getD default
def In(n:Nat)(i:Int):Prop:=-(n:Int)<=i/\i<n
theorem ud{xs:O α}{i:Int}(h:In xs.length i):∃x,Fj xs i=Z x:=by
 obtain⟨h1,h2⟩:=h;unfold Fj DE;by_cases h0:0<=i
 ·rw[zo h0,zo h2];exact⟨xs[i.toNat]'(),ZH ()⟩
 ·rw[zS h0,zo h1];exact⟨xs[(i+xs.length).toNat]'(),ZH ()⟩
theorem T0{xs:O α}{i:Int}{x:α}(h:Fj xs i=Z x):Fj (xs.map e) i=Z (e x):=by
 unfold Fj at h ⊢;rw[zk];obtain⟨j,a,h⟩:=AV h;rw[a,Au,z5,h];rfl
theorem Yj[Inhabited α]{xs:O α}{i:Int}(h:In xs.length i):Fj (xs.map e) i=Z (e (at' xs i)):=by
 obtain⟨x,hx⟩:=ud h;rw[T0 hx];unfold at';rw[hx];rfl
theorem UT{i:Int}(h:lY b=Z ds):iw b (.z (.int i))=(Fj ds i).bind λd=>Z (.z d):=by
 cases b with
 |z d=>cases d<;>cases h;rfl
 |l d=>cases h;rfl
 |o d=>cases h;rfl
 |n d=>cases h
 |m d _=>cases h
def gF[Inhabited α](a:RL fa ρ e)(b:R fb ρ (zE eI)):R (b2 iw fa fb) ρ (zE e):=⟨at' a.v b.v,aW (aW a.D b.D) (Z (In a.v.length b.v)),λh=>by
 obtain⟨h,c⟩:=aq h;obtain⟨h1,h2⟩:=aq h;simp only[b2,a.ok h1,b.ok h2,Au,UT a.lk,Yj (show In a.v.length b.v from c)]⟩
def Yk[Inhabited α](a:R fa ρ (zE (eT e)))(b:R fb ρ (zE eI)):R (b2 iw fa fb) ρ (zE e):=⟨at' a.v b.v,aW (aW a.D b.D) (Z (In a.v.length b.v)),λh=>by
 obtain⟨h,c⟩:=aq h;obtain⟨h1,h2⟩:=aq h;simp only[b2,a.ok h1,b.ok h2,Au,iw,wH,Yj (show In a.v.length b.v from c)]⟩
def ch(x:AJ)(i:Int):AJ:=⟨#[(Fj x.cps.toList i).getD 0]⟩
def Yl(a:R fa ρ (zE eS))(b:R fb ρ (zE eI)):R (b2 iw fa fb) ρ (zE eS):=⟨ch a.v b.v,aW (aW a.D b.D) (Z (In a.v.length b.v)),λh=>by
 obtain⟨h,c⟩:=aq h;obtain⟨h1,h2⟩:=aq h;obtain⟨x,hx⟩:=ud (xs:=a.v.cps.toList) (i:=b.v) (show In a.v.length b.v from c);simp only[b2,a.ok h1,b.ok h2,Au,iw,hx,ch,gp]⟩
def nM(d:Dt)(i:Int):Dt:=match iw (.z d) (.z (.int i))with|some (.z y)=>y|_=>.non
def Qj(d:Dt)(i:Int):Prop:=match d with
 |.tup ds=>In ds.length i
 |.lst ds=>In ds.length i
 |.str x=>In x.length i
 |_=>False
def sI(a:R fa ρ (zE eD))(b:R fb ρ (zE eI)):R (b2 iw fa fb) ρ (zE eD):=⟨nM a.v b.v,aW (aW a.D b.D) (Z (Qj a.v b.v)),λh=>by
 obtain⟨h,d⟩:=aq h;obtain⟨h1,h2⟩:=aq h;have d:Qj a.v b.v:=d;simp only[b2,a.ok h1,b.ok h2,Au];show iw (.z a.v) (.z (.int b.v))=Z (.z (nM a.v b.v));unfold nM;cases e:a.v with
 |tup ds=>
  rw[e]at d;obtain⟨x,hx⟩:=ud (show In ds.length b.v from d);simp only[iw,wH,Au,hx]
 |lst ds=>
  rw[e]at d;obtain⟨x,hx⟩:=ud (show In ds.length b.v from d);simp only[iw,wH,Au,hx]
 |str x=>
  rw[e]at d;obtain⟨c,hx⟩:=ud (xs:=x.cps.toList) (show In x.length b.v from d);simp only[iw,Au,hx]
 |non=>rw[e]at d;exact absurd d id
 |bl _=>rw[e]at d;exact absurd d id
 |int _=>rw[e]at d;exact absurd d id
 |emp=>rw[e]at d;exact absurd d id⟩
def X9(a:R fa ρ (zE e))(g:α->β)(e':β->Dt)(i:Int)(h:∀x,iw (.z (e x)) (.z (.int i))=Z (.z (e' (g x)))):R (b2 iw fa (cB (.int i))) ρ (zE e'):=⟨g a.v,a.D,λhd=>by
 simp only[b2,a.ok hd,Au,cB,h]⟩
def BF(xs:O α)(lo hi:Y Int):O α:=(xs.drop (HT.gZ xs.length 0 lo)).take (HT.gZ xs.length xs.length hi-HT.gZ xs.length 0 lo)
theorem Sy(xs:O α)(lo hi:Y Int):C4 (xs.map e) lo hi=(BF xs lo hi).map e:=by
 unfold C4 BF;rw[zk,List.map_take,List.map_drop]
abbrev pE:Y Int->Y Int:=λo=>o
def wW:R iW ρ pE:=⟨Y3,Y3,λ_=>S⟩
def wX(a:R fa ρ (zE eI)):R (lu fa) ρ pE:=⟨Z a.v,a.D,λh=>by simp only[lu,a.ok h,Au,HA]⟩
variable{fl fh:Ev->Y (Y Int)}
theorem bv(h:lY b=Z ds):EN b lo hi=Z (.o (C4 ds lo hi)):=by
 cases b with
 |z d=>cases d<;>cases h;rfl
 |l d=>cases h;rfl
 |o d=>cases h;rfl
 |n d=>cases h
 |m d _=>cases h
def Qk(a:RL fa ρ e)(l:R fl ρ pE)(u:R fh ρ pE):R (Fv fa fl fh) ρ (oE e):=⟨BF a.v l.v u.v,aW a.D (aW l.D u.D),λh=>by
 obtain⟨h1,h⟩:=aq h;obtain⟨h2,b⟩:=aq h;simp only[Fv,a.ok h1,l.ok h2,u.ok b,Au,bv a.lk,Sy]⟩
def MF(a:R fa ρ (zE (eT e)))(l:R fl ρ pE)(u:R fh ρ pE):R (Fv fa fl fh) ρ (zE (eT e)):=⟨BF a.v l.v u.v,aW a.D (aW l.D u.D),λh=>by
 obtain⟨h1,h⟩:=aq h;obtain⟨h2,b⟩:=aq h;simp only[Fv,a.ok h1,l.ok h2,u.ok b,Au,EN,Sy]⟩
def Md(a:R fa ρ (zE eS))(l:R fl ρ pE)(u:R fh ρ pE):R (Fv fa fl fh) ρ (zE eS):=⟨Txt.slice a.v l.v u.v,aW a.D (aW l.D u.D),λh=>by
 obtain⟨h1,h⟩:=aq h;obtain⟨h2,b⟩:=aq h;simp only[Fv,a.ok h1,l.ok h2,u.ok b,Au,EN]⟩
def SL:Dt->O Dt
 |.tup ds=>ds
 |.lst ds=>ds
 |_=>[]
def Ou(n:Nat):Prop:=n<=1000000
def Ym(a:R fa ρ (zE eS))(b:R fb ρ (zE eS)):R (b2 iV fa fb) ρ (zE eS):=⟨a.v++b.v,aW (aW a.D b.D) (Z (Ou (a.v.length+b.v.length))),λh=>by
 obtain⟨h,c⟩:=aq h;obtain⟨h1,h2⟩:=aq h;simp only[b2,a.ok h1,b.ok h2,Au,iV,zo (show a.v.length+b.v.length<=Ul from c)]⟩
theorem Yn{e:Bx}{f:O Dt}(h:lY b=Z ds)(h':lY e=Z f)(c:ds.length+f.length<=Ul):iV b e=Z (.o (ds++f)):=by
 cases b with
 |z d=>
  cases d<;>cases h;cases e with
  |z a=>cases a<;>cases h';exact zo c
  |l a=>cases h';exact zo c
  |o a=>cases h';exact zo c
  |n a=>cases h'
  |m a=>cases h'
 |l d=>
  cases h;cases e with
  |z a=>cases a<;>cases h';exact zo c
  |l a=>cases h';exact zo c
  |o a=>cases h';exact zo c
  |n a=>cases h'
  |m a=>cases h'
 |o d=>
  cases h;cases e with
  |z a=>cases a<;>cases h';exact zo c
  |l a=>cases h';exact zo c
  |o a=>cases h';exact zo c
  |n a=>cases h'
  |m a=>cases h'
 |n d=>cases h
 |m d _=>cases h
def Yo(a:RL fa ρ e)(b:RL fb ρ e):R (b2 iV fa fb) ρ (oE e):=⟨a.v++b.v,aW (aW a.D b.D) (Z (Ou (a.v.length+b.v.length))),λh=>by
 obtain⟨h,c⟩:=aq h;obtain⟨h1,h2⟩:=aq h;simp only[b2,a.ok h1,b.ok h2,Au];rw[Yn a.lk b.lk (by rw[zk,zk];exact c)];simp only[oE,ZE]⟩
def TB(a:R fa ρ (zE eS))(b:R fb ρ (zE eI)):R (b2 wF fa fb) ρ (zE eS):=⟨Txt.mul a.v b.v,aW (aW a.D b.D) (Z (b.v<=1000 ∧ -1000<=b.v/\a.v.length<=1000)),λh=>by
 obtain⟨h,c⟩:=aq h;obtain⟨h1,h2⟩:=aq h;simp only[b2,a.ok h1,b.ok h2,Au];exact zo c⟩
theorem Yp(h:lY b=Z ds):iZ [b]=Z (.z (.int ds.length)):=by
 cases b with
 |z d=>cases d<;>cases h;rfl
 |l d=>cases h;rfl
 |o d=>cases h;rfl
 |n d=>cases h
 |m d _=>cases h
theorem Yq(h:lY b=Z ds):wH b=Z ds:=by
 cases b with
 |z d=>cases d<;>cases h;rfl
 |l d=>cases h;rfl
 |o d=>cases h;rfl
 |n d=>cases h
 |m d _=>cases h
def BO(a:RL fa ρ e):R (cT iZ (aA fa aK)) ρ (zE eI):=⟨(a.v.length:Int),a.D,λh=>by
 simp only[cT,aA,aK,a.ok h,Au,Yp a.lk,zk]⟩
def sJ(a:R fa ρ (zE (eT e))):R (cT iZ (aA fa aK)) ρ (zE eI):=⟨(a.v.length:Int),a.D,λh=>by
 simp only[cT,aA,aK,a.ok h,Au,iZ,wH,zk]⟩
def Sr(a:R fa ρ (zE eS)):R (cT iZ (aA fa aK)) ρ (zE eI):=⟨(a.v.length:Int),a.D,λh=>by
 simp only[cT,aA,aK,a.ok h,Au,iZ]⟩
def Dc:Dt->Int
 |.tup ds=>ds.length
 |.lst ds=>ds.length
 |.str x=>x.length
 |_=>0
def Yr:Dt->Bool
 |.tup _=>true
 |.lst _=>true
 |.str _=>true
 |_=>false
def Ql(a:R fa ρ (zE eD)):R (cT iZ (aA fa aK)) ρ (zE eI):=⟨Dc a.v,aW a.D (Z (Yr a.v=true)),λh=>by
 obtain⟨h,b⟩:=aq h;have b:Yr a.v=true:=b;simp only[cT,aA,aK,a.ok h,Au];cases c:a.v<;>rw[c]at b<;>first|(cases b;done)|rfl⟩
def uf(a:RL fa ρ e):R (cT oZ (aA fa aK)) ρ (zE (eT e)):=⟨a.v,a.D,λh=>by
 simp only[cT,aA,aK,a.ok h,Au,oZ,Yq a.lk]⟩
def P3(a:R fa ρ (zE eI)):R (cT Xj (aA fa aK)) ρ (zE eI):=⟨if a.v<0 then -a.v else a.v,a.D,λh=>by
 simp only[cT,aA,aK,a.ok h,Au,Xj]⟩
def UY(a:R fa ρ (zE eB)):R (cT Xk (aA fa aK)) ρ (zE eI):=⟨if a.v=true then 1 else 0,a.D,λh=>by
 simp only[cT,aA,aK,a.ok h,Au,Xk]⟩
theorem yS:∀l:O Bool,Ck (l.map eB)=Z l
 |[]=>rfl
 |a::l=>by simp only[zr,Ck,yS l,Au]
def Ys(a:RL fa ρ eB):R (cT C9 (aA fa aK)) ρ (zE eB):=⟨a.v.all id,a.D,λh=>by
 simp only[cT,aA,aK,a.ok h,Au,C9,a.lk,yS]⟩
def LX(a:RL fa ρ eB):R (cT CF (aA fa aK)) ρ (zE eB):=⟨a.v.any id,a.D,λh=>by
 simp only[cT,aA,aK,a.ok h,Au,CF,a.lk,yS]⟩
def Yt(a:R fa ρ (zE eI))(b:R fb ρ (zE eI)):R (cT Pu (aA fa (aA fb aK))) ρ (zE eI):=⟨if b.v>a.v then b.v else a.v,aW a.D b.D,λh=>by
 obtain⟨h1,h2⟩:=aq h;simp only[cT,aA,aK,a.ok h1,b.ok h2,Au,Pu]⟩
def ax(a:R fa ρ (zE eI))(b:R fb ρ (zE eI)):R (cT Xo (aA fa (aA fb aK))) ρ (zE eI):=⟨if b.v<a.v then b.v else a.v,aW a.D b.D,λh=>by
 obtain⟨h1,h2⟩:=aq h;simp only[cT,aA,aK,a.ok h1,b.ok h2,Au,Xo]⟩
def SJ(P:Dt->Bool)(a:R fa ρ (zE e)):R (GK P fa) ρ (zE eB):=⟨P (e a.v),a.D,λh=>by
 simp only[GK,b1,a.ok h,Au,j5,toD,zD,qB]⟩
theorem BI:∀l:Ap,qO (l.map eS)=Z l
 |[]=>rfl
 |a::l=>by simp only[zr,qO,BI l,Au]
def bp(s:AJ)(a:RL fa ρ eS):R (b1 (Ma s) fa) ρ (zE eS):=⟨Txt.join s a.v,aW a.D (Z ((a.v.map (·.length)).sum+a.v.length*s.length<=100000)),λh=>by
 obtain⟨h,b⟩:=aq h;simp only[b1,a.ok h,Au,Ma,a.lk,BI];exact zo b⟩
def wY(a:RL fa ρ eS):R (cT wO (aA fa aK)) ρ (oE eS):=⟨bN a.v,aW a.D (Z (a.v.length<64)),λh=>by
 obtain⟨h,b⟩:=aq h;simp only[cT,aA,aK,a.ok h,Au,wO,a.lk,BI];exact zo b⟩
def IQ:Dt->AJ
 |.str x=>x
 |_=>⟨#[]⟩
def SM(a:R f ρ (zE eD))(g:Dt->α)(e:α->Dt):R f ρ (zE e):=⟨g a.v,aW a.D (Z (a.v=e (g a.v))),λhd=>by
 obtain⟨h1,h2⟩:=aq hd;have h2:a.v=e (g a.v):=h2;rw[a.ok h1];show Z (Bx.z a.v)=Z (Bx.z (e (g a.v)));rw[<-h2]⟩
class C7 {α:Type} (e:α->Dt):Prop where
 f:∀a,wG (e a)=true
instance:C7 eI:=⟨λ_=>rfl⟩
instance:C7 eB:=⟨λ_=>rfl⟩
instance:C7 eS:=⟨λ_=>rfl⟩
theorem MJ[DecidableEq α][BB e n][C7 e](x:α)(ys:O α):CB (e x) (ys.map e)=Z (decide (x∈ys)):=by
 unfold CB;rw[zo ⟨C7.f x,by rw[gi];exact List.all_eq_true.mpr λy _=>C7.f y⟩,KU];congr 1;rw[kF,Q1,decide_eq_true_iff];constructor
 ·rintro⟨y,a,h⟩;simp only[Function.comp,BB.eq]at h;by_cases e1:y=x
  ·rw[<-e1];exact a
  ·simp only[e1,k7]at h;cases h
 ·intro h;exact⟨x,h,by simp only[Function.comp,BB.eq,KO]⟩
theorem P9(h:lY b=Z ds):EQ (.z d) b=CB d ds:=by
 cases b with
 |z a=>cases a<;>cases h;cases d<;>rfl
 |l a=>cases h;cases d<;>rfl
 |o a=>cases h;cases d<;>rfl
 |n a=>cases h
 |m a=>cases h
theorem US:EQ (.z d) (.z (.tup ds))=CB d ds:=by cases d<;>rfl
def Y'[DecidableEq α][BB e n][C7 e](a:R fa ρ (zE e))(b:RL fb ρ e):R (b2 FH fa fb) ρ (zE eB):=⟨!decide (a.v∈b.v),aW a.D b.D,λh=>by
 obtain⟨h1,h2⟩:=aq h;simp only[b2,a.ok h1,b.ok h2,Au,FH,P9 b.lk,MJ]⟩
def Yu[DecidableEq α][BB e n][C7 e](a:R fa ρ (zE e))(b:R fb ρ (zE (eT e))):R (b2 inF fa fb) ρ (zE eB):=⟨decide (a.v∈b.v),aW a.D b.D,λh=>by
 obtain⟨h1,h2⟩:=aq h;simp only[b2,a.ok h1,b.ok h2,Au,inF,US,MJ]⟩
end
structure AR {γ:Type} (cA:γ->List Bx->Prop) (fs:Ev->Option (List Bx)) (ρ:Ev) where
 v:γ
 D:Option Prop
 bs:List Bx
 h:cA v bs
 ok:B6 D->fs ρ=some bs
section
variable{ε σ:Type}{fd:Ev->Y Bx}{fs:Ev->Y (O Bx)}{e:α->Dt}{e':β->Dt}{e'':γ->Dt}{e3:δ->Dt}
def aN:Unit->O Bx->Prop:=λ_ bs=>bs=[]
def aZ(e:α->Dt)(t:γ->O Bx->Prop):α×γ->O Bx->Prop:=λx bs=>∃r,bs=.z (e x.1)::r/\t x.2 r
def aL(e:α->Dt)(t:γ->O Bx->Prop):O α×γ->O Bx->Prop:=λx bs=>∃b r,bs=b::r/\lY b=Z (x.1.map e)/\t x.2 r
def cD:AR aN aK ρ:=⟨cr,Y3,[],rfl,λ_=>S⟩
def eV{t:γ->O Bx->Prop}(a:R fa ρ (zE e))(r:AR t fs ρ):AR (aZ e t) (aA fa fs) ρ:=⟨(a.v,r.v),aW a.D r.D,_,⟨_,rfl,r.h⟩,λh=>by
 obtain⟨h1,h2⟩:=aq h;simp only[aA,a.ok h1,r.ok h2,Au]⟩
def q9{t:γ->O Bx->Prop}(a:RL fa ρ e)(r:AR t fs ρ):AR (aL e t) (aA fa fs) ρ:=⟨(a.v,r.v),aW a.D r.D,_,⟨_,_,rfl,a.lk,r.h⟩,λh=>by
 obtain⟨h1,h2⟩:=aq h;simp only[aA,a.ok h1,r.ok h2,Au]⟩
def B0{d:γ->O Bx->Prop}{c:α->Bx}{T:γ->α}{b:γ->Y Prop}(S:∀v bs,d v bs->bs.length=n/\(B6 (b v)->F (bs.map lend)=Z (c (T v))))(a:AR d fs ρ):R (cX n F fs) ρ c:=⟨T a.v,aW a.D (b a.v),λh=>by
 obtain⟨h1,h2⟩:=aq h;obtain⟨e,f⟩:=S a.v a.bs a.h;simp only[cX,a.ok h1,Au,zo e,f h2]⟩
theorem Yv{bs:O Bx}{c:α->Bx}(x:R g (bs.map Z++ab (n-bs.length) Y3) (λr=>As.rt (c r)))(h:B6 x.D):fL n g bs=Z (c x.v):=by
 unfold fL;rw[x.ok h];rfl
def Yw(xs:O α)(P:α->Y Prop):Y Prop:=Z (∀x∈xs,B6 (P x))
theorem Dd{fs:Ev->Y (O Dt)}{b:Ev}{g:α->O Dt}{π:α->Bool}:∀xs:O α,(∀x∈xs,∃a,gt (e x) b=Z a/\p a=Z (π x)/\(π x=true->fs a=Z (g x)))->uz gt p fs b (xs.map e)=Z ((xs.filter π).flatMap g)
 |[],_=>rfl
 |x::xs,h=>by
  obtain⟨a,h1,h2,d⟩:=h x (zg ..);have c:=Dd (g:=g) (π:=π) xs λy f=>h y (zh _ f);cases hp:π x with
  |true=>simp only[zr,uz,h1,Au,h2,hp,jS,d hp,c,kz,kq]
  |false=>simp only[zr,uz,h1,Au,h2,hp,c,kz,zD,qB]
theorem MK{g:α->β}:∀xs:O α,xs.flatMap (λx=>[e' (g x)])=(xs.map g).map e'
 |[]=>rfl
 |x::xs=>by rw[kq,MK xs];rfl
theorem Dg{b:Ev}{g:α->β}{π:α->Bool}(xs:O α)(h:∀x∈xs,∃a,gt (e x) b=Z a/\p a=Z (π x)/\(π x=true->fe a=Z (.z (e' (g x))))):Ce gt p fe b (xs.map e)=Z (((xs.filter π).map g).map e'):=by
 rw[<-MK];exact Dd xs λx hx=>let ⟨a,h1,h2,h3⟩:=h x hx;⟨a,h1,h2,λhp=>by rw[h3 hp];rfl⟩
theorem Bi{b:Ev}{g:α->β}(xs:O α)(h:∀x∈xs,∃a,gt (e x) b=Z a/\fe a=Z (.z (e' (g x)))):Ce gt lR fe b (xs.map e)=Z ((xs.map g).map e'):=
 (Dg (π:=λ_=>true) xs λx hx=>let ⟨a,h1,h2⟩:=h x hx;⟨a,h1,rfl,λ_=>h2⟩).trans (by rw[ib.mpr λ_ _=>S])
def vB(it:R fi ρ (iE e))(c:α->Ev)(d:∀x,gt (e x) (iu is ρ++ab n Y3)=Z (c x))(b:∀x,R fe (c x) (zE e')):R (dN fi gt lR fe is n) ρ (oE e'):=⟨it.v.map λx=>(b x).v,aW (aW it.D (Z (it.v.length<=100000))) (Yw it.v λx=>(b x).D),λh=>by
 obtain⟨h,a⟩:=aq h;obtain⟨h1,h2⟩:=aq h;have a:∀x∈it.v,B6 (b x).D:=a;simp only[dN,it.ok h1,Au,zk,zo (show it.v.length<=100000 from h2),Bi it.v λx hx=>⟨c x,d x,(b x).ok (a x hx)⟩]⟩
def ug(it:R fi ρ (iE e))(a:α->Ev)(c:∀x,gt (e x) (iu is ρ++ab n Y3)=Z (a x))(b:∀x,R fe (a x) (zE e'))(d:∀x,(b x).D=Y3):R (dN fi gt lR fe is n) ρ (oE e'):=⟨it.v.map λx=>(b x).v,aW it.D (Z (it.v.length<=100000)),λh=>by
 obtain⟨h1,h2⟩:=aq h;simp only[dN,it.ok h1,Au,zk,zo (show it.v.length<=100000 from h2),Bi it.v λx hx=>⟨a x,c x,(b x).ok (by rw[d x];trivial)⟩]⟩
def nY(it:R fi ρ (iE e))(c:α->Ev)(f:∀x,gt (e x) (iu is ρ++ab n Y3)=Z (c x))(t:∀x,R p (c x) tE)(b:∀x,R fe (c x) (zE e')):R (dN fi gt p fe is n) ρ (oE e'):=⟨(it.v.filter λx=>(t x).v).map λx=>(b x).v,aW (aW it.D (Z (it.v.length<=100000))) (Yw it.v λx=>aW (t x).D (yQ ((t x).v=true) (b x).D)),λh=>by
 obtain⟨h,a⟩:=aq h;obtain⟨h1,h2⟩:=aq h;have a:∀x∈it.v,B6 (aW (t x).D (yQ ((t x).v=true) (b x).D)):=a;simp only[dN,it.ok h1,Au,zk,zo (show it.v.length<=100000 from h2),Dg it.v λx hx=>⟨c x,f x,(t x).ok (aq (a x hx)).1,λd=>(b x).ok (jc (aq (a x hx)).2 d)⟩]⟩
def Yx(it:R fi ρ (iE e))(a:α->Ev)(d:∀x,gt (e x) (iu is ρ++ab n Y3)=Z (a x))(t:∀x,R p (a x) tE)(b:∀x,R fe (a x) (zE e'))(c:∀x,(t x).D=Y3)(f:∀x,(b x).D=Y3):R (dN fi gt p fe is n) ρ (oE e'):=⟨(it.v.filter λx=>(t x).v).map λx=>(b x).v,aW it.D (Z (it.v.length<=100000)),λh=>by
 obtain⟨h1,h2⟩:=aq h;simp only[dN,it.ok h1,Au,zk,zo (show it.v.length<=100000 from h2),Dg it.v λx hx=>⟨a x,d x,(t x).ok (by rw[c x];trivial),λ_=>(b x).ok (by rw[f x];trivial)⟩]⟩
def MN(a:RL fa ρ e):R (Fw fa) ρ (iE e):=⟨a.v,a.D,λh=>by
 have:Fh a.b=Z (a.v.map e):=by
  have:=a.lk
  revert this
  generalize a.b=b;generalize a.v.map e=ds;intro this;cases b with
  |z d=>cases d<;>cases this;rfl
  |l d=>cases this;rfl
  |o d=>cases this;rfl
  |n d=>cases this
  |m d _=>cases this
 simp only[Fw,a.ok h,Au,this]⟩
def FP(a:R fa ρ (zE (eT e))):R (Fw fa) ρ (iE e):=⟨a.v,a.D,λh=>by simp only[Fw,a.ok h,Au,Fh]⟩
def HR(a:R fa ρ (oE e)):R (DJ fa) ρ (iE e):=⟨a.v,a.D,λh=>by simp only[DJ,a.ok h,Au,W2]⟩
def UC(a:R fa ρ (zE (eT e))):R (DJ fa) ρ (iE e):=⟨a.v,a.D,λh=>by simp only[DJ,a.ok h,Au,W2]⟩
def rng(i:Int)(n:Nat):O Int:=(cw n).map λk:Nat=>i+(k:Int)
theorem Bg(i:Int)(n:Nat):wj i n=(rng i n).map eI:=by
 unfold wj rng;rw[ZY];rfl
def Rg(j:Int):Prop:=-4611686018427387904<=j/\j<4611686018427387904
def zM(a:R fa ρ (zE eI)):R (Ku (aA fa aK)) ρ (iE eI):=⟨rng 0 a.v.toNat,aW a.D (Z (Rg a.v)),λh=>by
 obtain⟨h,b⟩:=aq h;simp only[Ku,aA,aK,a.ok h,Au];show(if -(2 ^ 62)<=a.v/\a.v<2 ^ 62 then Z (wj 0 a.v.toNat)else Y3)=_;exact(zo b).trans (by rw[Bg])⟩
def SE(n:Int)(m:Nat)(a:n.toNat=m)(hn:Rg n):R (Ku (aA (cB (.int n)) aK)) ρ (iE eI):=⟨rng 0 m,Y3,λ_=>by
 simp only[Ku,aA,aK,Au,cB];show(if -(2 ^ 62)<=n/\n<2 ^ 62 then Z (wj 0 n.toNat)else Y3)=_;exact(zo hn).trans (by rw[Bg,a])⟩
def NR(a:R fa ρ (zE eI))(b:R fb ρ (zE eI)):R (GV (aA fa (aA fb aK))) ρ (iE eI):=⟨rng a.v (b.v-a.v).toNat,aW (aW a.D b.D) (Z (Rg a.v/\Rg b.v)),λh=>by
 obtain⟨h,c⟩:=aq h;obtain⟨h1,h2⟩:=aq h;simp only[GV,aA,aK,a.ok h1,b.ok h2,Au];show(if(-(2 ^ 62)<=a.v/\a.v<2 ^ 62) ∧ -(2 ^ 62)<=b.v/\b.v<2 ^ 62 then Z (wj a.v (b.v-a.v).toNat)else Y3)=_;exact(zo c).trans (by rw[Bg])⟩
end
section
variable{ε σ τ:Type}{fd:Ev->Y Bx}{fs:Ev->Y (O Bx)}{e:α->Dt}{e':β->Dt}{k:Ev->Y As}{cO:γ->As}
theorem lV{ρ':Ev}(h:g1 ρ=Z (.nx ρ')):aH g1 k ρ=k ρ':=by
 unfold aH;rw[h];rfl
def bY(x:R (aH g (aH g1 k)) ρ cO):R (aH (aH g g1) k) ρ cO:=⟨x.v,x.D,λh=>by
 rw[<-x.ok h];unfold aH;cases g ρ with
 |none=>rfl
 |some o=>cases o<;>rfl⟩
def cM(x:R k ρ cO):R (aH gJ k) ρ cO:=⟨x.v,x.D,λh=>x.ok h⟩
def bZ(x:γ)(h:cO x=.nx (kill is ρ)):R (dY is) ρ cO:=⟨x,Y3,λ_=>by rw[h];rfl⟩
def fM{c:α->Bx}(inj:α->γ)(a:R f ρ c)(h:∀x,cO (inj x)=.rt (c x))(b:∀x,WW (c x)=Z (.rt (c x))):R (aH (ji f) k) ρ cO:=⟨inj a.v,a.D,λhd=>by
 have:ji f ρ=Z (.rt (c a.v)):=by unfold ji;rw[a.ok hd,Au,b]
 unfold aH;rw[this,h];rfl⟩
def Jy{c:α->Bx}(i:Nat)(inj:α->γ)(a:α)(hi:ρ[i]?=Z (Z (c a)))(h:∀x,cO (inj x)=.rt (c x))(b:∀x,WW (c x)=Z (.rt (c x))):R (aH (Cd i) k) ρ cO:=⟨inj a,Y3,λhd=>by
 have:Cd i ρ=Z (.rt (c a)):=by unfold Cd;rw[hi];exact b a
 unfold aH;rw[this,h];rfl⟩
def cj{c:α->Bx}(i:Nat)(a:R f ρ c)(b:∀x,WX ρ i (c x)=Z (ρ.set i (Z (c x))))(K:∀x,R k (ρ.set i (Z (c x))) cO):R (aH (B8 i f) k) ρ cO:=⟨(K a.v).v,aW a.D (K a.v).D,λhd=>by
 obtain⟨h1,h2⟩:=aq hd;rw[lV (ρ':=ρ.set i (Z (c a.v))) (by unfold B8;rw[a.ok h1,Au,b,Au])];exact(K a.v).ok h2⟩
def LH(i j:Nat)(a:R fa ρ (zE e))(b:R fb ρ (zE e'))(K:∀x y,R k ((ρ.set i (Z (.z (e x)))).set j (Z (.z (e' y)))) cO):R (aH (GE i j (aA fa (aA fb aK))) k) ρ cO:=⟨(K a.v b.v).v,aW (aW a.D b.D) (K a.v b.v).D,λhd=>by
 obtain⟨h1,c⟩:=aq hd;obtain⟨h1,h2⟩:=aq h1;rw[lV (ρ':=(ρ.set i (Z (.z (e a.v)))).set j (Z (.z (e' b.v)))) (by unfold GE;simp only[aA,aK,a.ok h1,b.ok h2,Au,Fs])];exact(K a.v b.v).ok c⟩
def Hi(i:Nat)(xs:O α)(hi:ρ[i]?=Z (Z (.o (xs.map e))))(a:R f ρ (zE e))(K:∀ys:O α,R k (ρ.set i (Z (.o (ys.map e)))) cO):R (aH (LR i f) k) ρ cO:=⟨(K (xs++[a.v])).v,aW (aW a.D (Z (Ou xs.length))) (K (xs++[a.v])).D,λhd=>by
 obtain⟨h1,b⟩:=aq hd;obtain⟨h1,h2⟩:=aq h1;have h2:xs.length<=1000000:=h2;rw[lV (ρ':=ρ.set i (Z (.o ((xs++[a.v]).map e)))) (by
  unfold LR;rw[a.ok h1,Au];simp only[FX,hi,zk,ZE,zr,kl];rw[zo (QA h2 ())])]
 exact(K _).ok b⟩
def qR(t:R p ρ tE)(a:R (aH g1 k) ρ cO)(b:R (aH g2 k) ρ cO):R (aH (Aa p g1 g2) k) ρ cO:=⟨if t.v=true then a.v else b.v,aW t.D (aW (yQ (t.v=true) a.D) (yQ (t.v=false) b.D)),λhd=>by
 obtain⟨h1,h2⟩:=aq hd;obtain⟨h2,f⟩:=aq h2;have e1:∀c,t.v=c->aH (Aa p g1 g2) k ρ=aH (if c=true then g1 else g2) k ρ:=λc e=>by
  unfold aH Aa;rw[t.ok h1,Au,e];cases c<;>rfl
 cases d:t.v with
 |true=>rw[e1 true d];simp only[jS];exact a.ok (jc h2 d)
 |false=>rw[e1 false d];simp only[zD,qB];exact b.ok (jc f d)⟩
def Dh(E:σ->Ev)(t:R p ρ tE)(a:R g1 ρ (λs=>As.nx (E s)))(b:R g2 ρ (λs=>As.nx (E s)))(K:∀s,R k (E s) cO):R (aH (Aa p g1 g2) k) ρ cO:=⟨(K (if t.v=true then a.v else b.v)).v,aW (aW t.D (aW (yQ (t.v=true) a.D) (yQ (t.v=false) b.D))) (K (if t.v=true then a.v else b.v)).D,λhd=>by
 obtain⟨h,d⟩:=aq hd;obtain⟨h1,h2⟩:=aq h;obtain⟨h2,e⟩:=aq h2;rw[lV (ρ':=E (if t.v=true then a.v else b.v)) (by
  unfold Aa;rw[t.ok h1,Au];cases c:t.v with
  |true=>simp only[jS];exact a.ok (jc h2 c)
  |false=>simp only[zD,qB];exact b.ok (jc e c))]
 exact(K _).ok d⟩
def mD(step:σ->α->σ)(P:σ->α->Y Prop):O α->σ->Prop
 |[],_=>True
 |x::xs,s=>B6 (P s x)/\mD step P xs (step s x)
theorem wZ{gb:Ev->Y As}(E:σ->Ev)(a:σ->α->Ev)(b:∀s x,gt (e x) (E s)=Z (a s x))(body:∀s x,R gb (a s x) (λs=>As.nx (E s))):∀(xs:O α) (s:σ),mD (λs x=>(body s x).v) (λs x=>(body s x).D) xs s->pB gt gb (xs.map e) (E s)=Z (.nx (E (xs.foldl (λs x=>(body s x).v) s)))
 |[],s,_=>rfl
 |x::xs,s,h=>by
  simp only[zr,pB,b,Au,(body s x).ok h.1,ja];exact wZ E a b body xs _ h.2
def Hj(E:σ->Ev)(a:σ)(f:ρ=E a)(it:R fi ρ (iE e))(b:σ->α->Ev)(c:∀s x,gt (e x) (E s)=Z (b s x))(body:∀s x,R gb (b s x) (λs=>As.nx (E s)))(K:∀s,R k (E s) cO):R (aH (yN fi gt gb) k) ρ cO:=⟨(K (it.v.foldl (λs x=>(body s x).v) a)).v,aW (aW it.D (Z (mD (λs x=>(body s x).v) (λs x=>(body s x).D) it.v a))) (K (it.v.foldl (λs x=>(body s x).v) a)).D,λhd=>by
 obtain⟨h,d⟩:=aq hd;obtain⟨h1,h2⟩:=aq h;rw[lV (ρ':=E (it.v.foldl (λs x=>(body s x).v) a)) (by
  unfold yN;rw[it.ok h1,Au];subst f;exact wZ E b c body it.v a h2)]
 exact(K _).ok d⟩
def b7(E:σ->Ev)(a:σ)(g:ρ=E a)(it:R fi ρ (iE e))(b:σ->α->Ev)(c:∀s x,gt (e x) (E s)=Z (b s x))(body:∀s x,R gb (b s x) (λs=>As.nx (E s)))(d:∀s x,(body s x).D=Y3)(K:∀s,R k (E s) cO):R (aH (yN fi gt gb) k) ρ cO:=⟨(K (it.v.foldl (λs x=>(body s x).v) a)).v,aW it.D (K (it.v.foldl (λs x=>(body s x).v) a)).D,λhd=>by
 obtain⟨h1,f⟩:=aq hd;have h2:∀(xs:O α) (s:σ),mD (λs x=>(body s x).v) (λs x=>(body s x).D) xs s:=λxs=>by
  induction xs with
  |nil=>intro s;trivial
  |cons x xs h=>intro s;exact⟨by show B6 (body s x).D;rw[d s x];trivial,h _⟩
 rw[lV (ρ':=E (it.v.foldl (λs x=>(body s x).v) a)) (by
  unfold yN;rw[it.ok h1,Au];subst g;exact wZ E b c body it.v a (h2 _ _))]
 exact(K _).ok f⟩
inductive Kv (σ τ:Type) where
 |nx (s:σ)|rt (r:τ)|bk (s:σ)|ct (s:σ)
def cC(E:σ->Ev)(c:τ->Bx):Kv σ τ->As
 |.nx s=>.nx (E s)
 |.rt r=>.rt (c r)
 |.bk s=>.bk (E s)
 |.ct s=>.ct (E s)
def yU(step:σ->α->Kv σ τ):O α->σ->Kv σ τ
 |[],s=>.nx s
 |x::xs,s=>match step s x with
  |.nx s'=>yU step xs s'
  |.ct s'=>yU step xs s'
  |.bk s'=>.nx s'
  |.rt r=>.rt r
def Di(step:σ->α->Kv σ τ)(P:σ->α->Y Prop):O α->σ->Prop
 |[],_=>True
 |x::xs,s=>B6 (P s x)/\match step s x with
  |.nx s'=>Di step P xs s'
  |.ct s'=>Di step P xs s'
  |.bk _=>True
  |.rt _=>True
theorem Jz{c:τ->Bx}(E:σ->Ev)(a:σ->α->Ev)(b:∀s x,gt (e x) (E s)=Z (a s x))(body:∀s x,R gb (a s x) (cC E c)):∀(xs:O α) (s:σ),Di (λs x=>(body s x).v) (λs x=>(body s x).D) xs s->pB gt gb (xs.map e) (E s)=Z (cC E c (yU (λs x=>(body s x).v) xs s))
 |[],s,_=>rfl
 |x::xs,s,h=>by
  obtain⟨h1,h2⟩:=h;dsimp only at h2;simp only[zr,pB,b,Au,(body s x).ok h1,yU]
  revert h2
  cases(body s x).v with
  |nx s'=>intro h2;exact Jz E a b body xs s' h2
  |ct s'=>intro h2;exact Jz E a b body xs s' h2
  |bk s'=>intro _;rfl
  |rt r=>intro _;rfl
theorem Dj(step:σ->α->Kv σ τ):∀(xs:O α) (s:σ),(∃s',yU step xs s=.nx s')\/∃r,yU step xs s=.rt r
 |[],s=>.inl ⟨s,rfl⟩
 |x::xs,s=>by
  unfold yU;cases step s x with
  |nx s'=>exact Dj step xs s'
  |ct s'=>exact Dj step xs s'
  |bk s'=>exact .inl ⟨s',rfl⟩
  |rt r=>exact .inr ⟨r,rfl⟩
def CY(r:Kv σ τ)(inj:τ->γ)(K:σ->γ):γ:=match r with
 |.rt r=>inj r
 |.nx s=>K s
 |.bk s=>K s
 |.ct s=>K s
def JB(r:Kv σ τ)(K:σ->Prop):Prop:=match r with
 |.rt _=>True
 |.nx s=>K s
 |.bk s=>K s
 |.ct s=>K s
def UF(r:Kv σ τ)(K:σ->Y Prop):Y Prop:=Z (JB r λs=>B6 (K s))
theorem XZ(h:ρ[i]?=Z (Z (.o ds))):pF i gt gb ρ=pB gt gb ds (ρ.set i (Z (.l ds))):=by unfold pF;rw[h]
theorem JC(h:ρ[i]?=Z (Z (.z (.tup ds)))):pF i gt gb ρ=pB gt gb ds ρ:=by unfold pF;rw[h];rfl
theorem OA(h:ρ[i]?=Z (Z (.z (.lst ds)))):pF i gt gb ρ=pB gt gb ds ρ:=by unfold pF;rw[h];rfl
def Dl(i:Nat){ρ':Ev}(xs:O α)(d:pF i gt gb ρ=pB gt gb (xs.map e) ρ')(E:σ->Ev)(a:σ)(g:ρ'=E a)(b:σ->α->Ev)(c:∀s x,gt (e x) (E s)=Z (b s x))(body:∀s x,R gb (b s x) (λs=>As.nx (E s)))(K:∀s,R k (E s) cO):R (aH (pF i gt gb) k) ρ cO:=⟨(K (xs.foldl (λs x=>(body s x).v) a)).v,aW (Z (mD (λs x=>(body s x).v) (λs x=>(body s x).D) xs a)) (K (xs.foldl (λs x=>(body s x).v) a)).D,λhd=>by
 obtain⟨h2,f⟩:=aq hd;rw[lV (ρ':=E (xs.foldl (λs x=>(body s x).v) a)) (by
  rw[d,g];exact wZ E b c body xs a h2)]
 exact(K _).ok f⟩
def RI{c:τ->Bx}(i:Nat){ρ':Ev}(xs:O α)(h:pF i gt gb ρ=pB gt gb (xs.map e) ρ')(E:σ->Ev)(a:σ)(j:ρ'=E a)(b:σ->α->Ev)(g:∀s x,gt (e x) (E s)=Z (b s x))(body:∀s x,R gb (b s x) (cC E c))(inj:τ->γ)(f:∀r,cO (inj r)=.rt (c r))(K:∀s,R k (E s) cO):R (aH (pF i gt gb) k) ρ cO:=⟨CY (yU (λs x=>(body s x).v) xs a) inj λs=>(K s).v,aW (Z (Di (λs x=>(body s x).v) (λs x=>(body s x).D) xs a)) (UF (yU (λs x=>(body s x).v) xs a) λs=>(K s).D),λhd=>by
 obtain⟨h2,d⟩:=aq hd;have e1:pF i gt gb ρ=Z (cC E c (yU (λs x=>(body s x).v) xs a)):=by
  rw[h,j];exact Jz E b g body xs a h2
 rcases Dj (λs x=>(body s x).v) xs a with⟨s',es⟩|⟨r,es⟩
 ·rw[es]at e1 d ⊢;rw[lV e1];exact(K s').ok d
 ·rw[es]at e1 ⊢;show aH (pF i gt gb) k ρ=Z (cO (inj r));unfold aH;rw[e1,f];rfl⟩
class Ky {κ:Type} (c:κ->An):Prop where
 inj:∀a b,c a=c b->a=b
abbrev kS:AJ->An:=Sum.inr
abbrev kI:Int->An:=Sum.inl
instance:Ky kS:=⟨λ_ _ h=>by cases h;rfl⟩
instance:Ky kI:=⟨λ_ _ h=>by cases h;rfl⟩
abbrev mE(e:α->Dt):O (AJ×α)->Bx:=λm=>.m (m.map λq=>(kS q.1,e q.2)) Y3
abbrev nE(e:α->Dt):O (AJ×α)->Bx:=λm=>.n (m.map λq=>(kS q.1,e q.2))
section
variable [DecidableEq κ] {c:κ->An}
def look[Inhabited α](m:O (κ×α))(x:κ):α:=((m.find? λq=>decide (q.1=x)).map (·.2)).getD default
def has(m:O (κ×α))(x:κ):Bool:=m.any λq=>decide (q.1=x)
def put(m:O (κ×α))(x:κ)(a:α):O (κ×α):=if has m x=true then m.map (λq=>if q.1=x then(q.1,a)else q)else m++[(x,a)]
theorem ME[Ky c](a b:κ):decide (c a=c b)=decide (a=b):=by
 by_cases h:a=b
 ·rw[h];simp
 ·rw[Zp h,Zp λz=>h (Ky.inj (c:=c) _ _ z)]
theorem Yy[Ky c](m:O (κ×α))(x:κ):Cp (m.map λq=>(c q.1,e q.2)) (c x)=((m.find? λq=>decide (q.1=x)).map (·.2)).map e:=by
 unfold Cp;rw[List.find?_map];simp only[k3,Function.comp_def,ME]
theorem Yz[Ky c][Inhabited α]{m:O (κ×α)}{x:κ}(h:has m x=true):Cp (m.map λq=>(c q.1,e q.2)) (c x)=Z (e (look m x)):=by
 rw[Yy];unfold look;unfold has at h;rw[Q1]at h;obtain⟨q,a,hx⟩:=h;cases b:m.find? λq=>decide (q.1=x)with
 |none=>exact absurd hx (by simpa using ip.mp b q a)
 |some q=>rfl
theorem Sz[Ky c](m:O (κ×α))(x:κ)(a:α):Px (m.map λq=>(c q.1,e q.2)) (c x) (e a)=(put m x a).map λq=>(c q.1,e q.2):=by
 unfold Px put has;rw[KU];simp only[Function.comp_def,ME];by_cases h:(m.any λq=>decide (q.1=x))=true
 ·rw[zo h,zo h];rw[ZY,ZY];refine ZT λq _=>?_;simp only[Function.comp];by_cases b:q.1=x
  ·simp[b]
  ·have h':¬ c q.1=c x:=λz=>b (Ky.inj (c:=c) _ _ z);simp[b,h']
 ·rw[zS h,zS h];simp
end
theorem MP:∀m:O (AJ×α),Ur (m.map λq=>(kS q.1,e q.2))=Z (m.map (·.1))
 |[]=>rfl
 |q::m=>by rw[zr,Ur,MP m,Au];rfl
def OW(e:α->Dt):R (λ_=>Z (.m [] Y3)) ρ (mE e):=⟨[],Y3,λ_=>S⟩
def X0(a:R fa ρ (nE e)):R (cT Cq (aA fa aK)) ρ (oE eS):=⟨bN (a.v.map (·.1)),aW a.D (Z (a.v.length<64)),λh=>by
 obtain⟨h,b⟩:=aq h;simp only[cT,aA,aK,a.ok h,Au,Cq,nE,MP,zk,zo (show a.v.length<64 from b),ZY]⟩
end
section
variable{fs:Ev->Y Ap}{e:α->Dt}
abbrev sE:Ap->Ap:=λys=>ys
theorem SN(h:lY b=Z ds):wH b=Z ds:=by
 cases b with
 |z d=>cases d<;>first|exact h|(cases h;done)
 |l _=>exact h
 |o _=>exact h
 |n _=>cases h
 |m _ _=>cases h
def NL(a:R fs ρ sE):R (R8 fs) ρ (oE eS):=⟨bN (qd a.v),aW a.D (Z (a.v.length<4000/\(qd a.v).length<64)),λh=>by
 obtain⟨h,b⟩:=aq h;simp only[R8,a.ok h,Au];exact zo b⟩
theorem MO(n:Nat):∃m,m=n:=⟨n,rfl⟩
noncomputable def kN(n:Nat):Nat:=Classical.choose (MO n)
theorem uK(n:Nat):kN n=n:=Classical.choose_spec (MO n)
noncomputable def Qm(n:Int)(m:Nat)(a:n.toNat=m)(hn:Rg n):R (Ku (aA (cB (.int n)) aK)) ρ (iE eI):=⟨rng 0 (kN m),Y3,λh=>by rw[uK];exact(SE n m a hn).ok h⟩
end
end P1
namespace P1
open L2 S1 S6
class nZ {α:Type} (e:α->Dt) where
 k:α->An
 ok:∀a,FV (e a)=some (k a)
 inj:∀a b,k a=k b->a=b
 same:∀a b,RX (k a) (k b)=true
instance:nZ eI:=⟨λi=>.inl i,λ_=>rfl,λa b h=>by cases h;rfl,λ_ _=>rfl⟩
instance:nZ eS:=⟨λi=>.inr i,λ_=>rfl,λa b h=>by cases h;rfl,λ_ _=>rfl⟩
class M4 {α:Type} (e:α->Dt) where
 k:α->List An
 ok:∀a,Cy (e a)=some (k a)
 inj:∀a b,k a=k b->a=b
 shp:∀a b,Fy (k a) (k b)=true
 ne:∀a,(k a).isEmpty=false
class HK {α:Type} (e:α->Dt) [M4 e]:Prop where
 tx:∀a,FC (M4.k e a)=true
section
variable{e:α->Dt}{e':β->Dt}{e'':γ->Dt}{e3:δ->Dt}
instance [nZ e] [nZ e']:M4 (ZX e e'):=⟨λq=>[nZ.k e q.1,nZ.k e' q.2],λq=>by simp only[Cy,zG,nZ.ok,Au],λa b h=>by
 simp only[Kj,and_true]at h;exact eP (nZ.inj _ _ h.1) (nZ.inj _ _ h.2),λa b=>by simp[Fy,nZ.same],λ_=>rfl⟩
instance [nZ e] [nZ e'] [nZ e'']:M4 (F0 e e' e''):=⟨λq=>[nZ.k e q.1,nZ.k e' q.2.1,nZ.k e'' q.2.2],λq=>by simp only[Cy,zG,nZ.ok,Au],λa b h=>by
 simp only[Kj,and_true]at h;exact eP (nZ.inj _ _ h.1) (eP (nZ.inj _ _ h.2.1) (nZ.inj _ _ h.2.2)),λa b=>by simp[Fy,nZ.same],λ_=>rfl⟩
instance [nZ e] [nZ e'] [nZ e''] [nZ e3]:M4 (FG e e' e'' e3):=⟨λq=>[nZ.k e q.1,nZ.k e' q.2.1,nZ.k e'' q.2.2.1,nZ.k e3 q.2.2.2],λq=>by simp only[Cy,zG,nZ.ok,Au],λa b h=>by
 simp only[Kj,and_true]at h;exact eP (nZ.inj _ _ h.1) (eP (nZ.inj _ _ h.2.1) (eP (nZ.inj _ _ h.2.2.1) (nZ.inj _ _ h.2.2.2))),λa b=>by simp[Fy,nZ.same],λ_=>rfl⟩
instance [nZ e]:HK (ZX e eS):=⟨λa=>by simp[M4.k,FC,nZ.k]⟩
instance [nZ e] [nZ e']:HK (F0 e eS e'):=⟨λa=>by simp[M4.k,FC,nZ.k]⟩
instance [nZ e] [nZ e'] [nZ e'']:HK (FG e eS e' e''):=⟨λa=>by simp[M4.k,FC,nZ.k]⟩
variable{fs:Ev->Y (O (O An))}
theorem Dm[M4 e]:∀xs:O α,su (xs.map e)=Z (xs.map (M4.k e))
 |[]=>rfl
 |x::xs=>by simp only[zr,su,M4.ok,Au,Dm xs]
end
end P1
namespace P1
open L2
section
variable{fd:Ev->Y Bx}{fs:Ev->Y (O Bx)}{e:α->Dt}{e':β->Dt}{k:Ev->Y As}{cO:γ->As}
abbrev mW(w:Y A1)(e:α->Dt):O (AJ×α)->Bx:=λm=>.m (m.map λq=>(kS q.1,e q.2)) w
def Sl(w:Y A1)(i:Nat)(m:O (AJ×α))(hi:ρ[i]?=Z (Z (mW w e m)))(a:R fa ρ (zE e))(b:R fb ρ (zE eS))(K:∀d:O (AJ×α),R k (ρ.set i (Z (mW w e d))) cO):R (aH (Xq i fa fb) k) ρ cO:=⟨(K (put m b.v a.v)).v,aW (aW (aW a.D b.D) (Z (m.length<1000))) (K (put m b.v a.v)).D,λhd=>by
 obtain⟨h,c⟩:=aq hd;obtain⟨h,f⟩:=aq h;obtain⟨h1,h2⟩:=aq h;rw[lV (ρ':=ρ.set i (Z (mW w e (put m b.v a.v)))) (by
  unfold Xq;rw[a.ok h1,Au,b.ok h2,Au];simp only[Mf,DM,Au,hi,mW,zk,zo (show m.length<1000 from f),Sz])]
 exact(K _).ok c⟩
end
section
variable{e:α->Dt}
def yV[DecidableEq α](x:α)(ys:O α):Bool:=decide (x∈ys)
theorem M5[DecidableEq α]{x:α}{ys:O α}:yV x ys=true↔x∈ys:=by unfold yV;rw[qS]
theorem YB[DecidableEq α][BB e n](hn:n<=60)(x:α)(ys:O α):X6 (e x) (ys.map e)=Z (decide (x∈ys)):=by
 unfold X6;rw[zo]
 ·congr 1;rw[KU,kF,Q1,qS];constructor
  ·rintro⟨y,a,h⟩;simp only[Function.comp,BB.eq]at h;by_cases q:y=x
   ·exact q▸a
   ·simp[q,DV]at h
  ·intro h;exact⟨x,h,by simp[Function.comp,BB.eq,DV]⟩
 ·rw[gi,Qb];intro y _;have:=BB.dp (e:=e) y;simp only[Function.comp,BB.eq,eW,kL,qS];omega
def YC[DecidableEq α][BB e n](hn:n<=60)(a:R fa ρ (zE e))(b:RL fb ρ e):R (b2 Vb fa fb) ρ (zE eB):=⟨!yV a.v b.v,aW a.D b.D,λh=>by
 obtain⟨h1,h2⟩:=aq h;simp only[b2,a.ok h1,b.ok h2,Au,Vb,SN b.lk,YB hn,yV]⟩
end
end P1
namespace P1
open L2 S1 S6
def kT(xs:Ap):O An:=xs.map Sum.inr
theorem YE{a b:Ap}(h:kT a=kT b):a=b:=by
 unfold kT at h
 induction a generalizing b with
 |nil=>cases b with|nil=>rfl|cons _ _=>simp at h
 |cons x a c=>cases b with
  |nil=>simp at h
  |cons y b=>
   simp only[zr,Kj]at h;rw[Sum.inr.inj h.1,c h.2]
theorem M6:∀(xs:Ap),zG (xs.map eS)=Z (kT xs)
 |[]=>rfl
 |x::xs=>by simp only[zr,zG,FV,Au,M6 xs];rfl
theorem Hl:∀(a:O Ap),su (a.map (eT eS))=Z (a.map kT)
 |[]=>rfl
 |x::a=>by simp only[zr,su,Cy,eT,M6,Au,Hl a]
def Qn(a b:Ap):Bool:=u9 (kT a) (kT b)
def qg(a:O Ap):O Ap:=a.mergeSort Qn
theorem zN(xs:O Ap):(qg xs).Perm xs:=eH ..
theorem zO(xs:O Ap):(qg xs).Pairwise (λa b=>Qn a b=true):=yT (le:=Qn) (λa b c=>Cu (kT a) (kT b) (kT c)) (λa b=>Cv (kT a) (kT b)) xs
theorem Vh{a b:Ap}(h:Qn a b=true)(h':Qn b a=true):a=b:=YE (GQ h h')
theorem Qo(xs:O Ap):vA (xs.map kT)=(qg xs).map kT:=(GR ((zN xs).map _) (dm.mpr (zO xs))).symm
theorem PQ(xs:O Ap):(xs.map kT).map By=xs.map (eT eS):=by
 rw[ZY];refine ZT λa _=>?_;show Dt.tup ((kT a).map dK)=Dt.tup (a.map eS);unfold kT;rw[ZY];rfl
theorem NN(a b:Ap):Fy (kT a) (kT b)=true:=by
 unfold Fy kT;rw[Qb];rintro⟨x,y⟩ h;obtain⟨h1,h2⟩:=ei h;obtain⟨p,_,rfl⟩:=bc.mp h1;obtain⟨q,_,rfl⟩:=bc.mp h2;rfl
theorem VW(xs:O Ap)(h:xs.length<64)(hn:∀x∈xs,x.isEmpty=false):FK (xs.map kT)=true:=by
 simp only[FK,ZO,qS,Qb,Q2,zk,bc,forall_exists_index,and_imp,forall_apply_eq_imp_iff₂];refine⟨h,λa c=>?_,λa _ b _=>NN a b⟩;have:=hn a c;cases a with
 |nil=>cases this
 |cons _ _=>rfl
def YV(a:RL fa ρ (eT eS)):R (cT Cz (aA fa aK)) ρ (oE (eT eS)):=⟨qg a.v,aW a.D (Z (a.v.length<64/\∀x∈a.v,x.isEmpty=false)),λh=>by
 obtain⟨h,b⟩:=aq h;obtain⟨b,c⟩:a.v.length<64/\∀x∈a.v,x.isEmpty=false:=b;simp only[cT,aA,aK,a.ok h,Au,Cz,SN a.lk,Hl,VW a.v b c,jS,Qo,PQ]⟩
section
variable{e:α->Dt}
theorem map_some(e:α->Dt)(xs:O α):(xs.map Z).map (eO e)=xs.map e:=by rw[ZY];rfl
end
end P1
namespace P1
open L2
section
variable{k:Ev->Y As}{cO:α->As}
def Yf(i:Nat)(E:Ev)(a:HM i ρ=Z E)(K:R k E cO):R (ET i k) ρ cO:=⟨K.v,K.D,λh=>by
 unfold ET;rw[a];exact K.ok h⟩
end
section
variable{e:α->Dt}
end
section
variable{σ τ:Type}{k:Ev->Y As}{cO:γ->As}
end
section
variable{e:α->Dt}
def HZ(fs:Ev->Y (O Bx)):Ev->Y (O Dt):=λρ=>(fs ρ).bind Mv
def uL(xs:O α):O (Int×α):=(cw xs.length).zipWith (λ(k:Nat) x=>((k:Int),x)) xs
theorem Vi(xs:O α):zL (xs.map e)=(uL xs).map (ZX eI e):=by
 unfold zL uL;rw[zk,List.zipWith_map_right,List.map_zipWith]
def NS(a:RL fa ρ e):R (HZ (aA fa aK)) ρ (iE (ZX eI e)):=⟨uL a.v,a.D,λh=>by
 simp only[HZ,aA,aK,a.ok h,Au,Mv,a.lk,Vi]⟩
end
section
variable{σ τ:Type}
theorem SQ{step:σ->α->σ}{P:σ->α->Y Prop}(I:Nat->σ->Prop):∀(xs:O α) (m:Nat) (a:σ),I m a->(∀k x s,xs[k]?=Z x->I (m+k) s->B6 (P s x)/\I (m+k+1) (step s x))->mD step P xs a/\I (m+xs.length) (xs.foldl step a)
 |[],m,a,h0,_=>⟨trivial,h0⟩
 |x::xs,m,a,h0,hs=>by
  obtain⟨h1,h2⟩:=hs 0 x a S h0;have:=SQ I xs (m+1) (step a x) h2 λk y s e h=>by
   have:=hs (k+1) y s (by simpa using e) (by rw[show m+(k+1)=m+1+k by omega];exact h);rw[show m+(k+1)+1=m+1+k+1 by omega]at this;exact this
  refine⟨⟨h1,this.1⟩,?_⟩;rw[ZN,show m+(xs.length+1)=m+1+xs.length by omega];exact this.2
theorem OC{i:Int}{k:Nat}{x:Int}(h:(rng i n)[k]?=Z x):x=i+k/\k<n:=by
 unfold rng at h;rw[z5]at h;cases hk:(cw n)[k]? with
 |none=>rw[hk]at h;cases h
 |some j=>
  rw[hk]at h;have a:k<n:=by simpa using(cc.mp hk).1
  have:j=k:=by
   rw[k9 a]at hk;cases hk;rfl
  subst this;cases h;exact⟨rfl,a⟩
theorem iI(i:Int)(n:Nat):(rng i n).length=n:=by unfold rng;simp
theorem sO{step:σ->Int->σ}{P:σ->Int->Y Prop}(I:Nat->σ->Prop)(n:Nat)(a:σ)(h0:I 0 a)(hs:∀(k:Nat) s,k<n->I k s->B6 (P s k)/\I (k+1) (step s k)):mD step P (rng 0 n) a/\I n ((rng 0 n).foldl step a):=by
 have:=SQ (P:=P) I (rng 0 n) 0 a h0 λk x s e h=>by
  obtain⟨rfl,hk⟩:=OC e;rw[ew]at h ⊢;rw[gu];exact hs k s hk h
 rw[iI,ew]at this;exact this
theorem Qp[Inhabited α]{xs:O α}{i:Int}(h:In xs.length i):at' xs i∈xs:=by
 obtain⟨x,hx⟩:=ud h;unfold at';rw[hx];unfold Fj at hx;obtain⟨j,_,hx⟩:=AV hx;exact k5 hx
theorem Qq[Inhabited α]{xs:O α}{k:Nat}{x:α}(h:xs[k]?=Z x):at' xs (k:Int)=x:=by
 have a:k<xs.length:=(cc.mp h).1;unfold at' Fj DE;rw[zo (),zo (),Au,Z3,h];rfl
theorem Qs[Inhabited α](xs:O α)(k:Nat)(h:k<xs.length):at' xs (k:Int)=xs[k]:=Qq (ZH h)
theorem BD{i:Int}(h0:0<=i)(h1:i<n):In n i:=⟨by omega,h1⟩
theorem Dq{k:Nat}(h:k<n):In n (k:Int):=⟨by omega,by omega⟩
theorem JD{x m:Int}(a:0<m)(h:m<=n):In n (x%m):=BD (Int.emod_nonneg _ ()) (Int.lt_of_lt_of_le (iq _ a) h)
theorem lC(x:Int){m:Int}(a:0<m):0<=x%m/\x%m<m:=⟨Int.emod_nonneg _ (),iq _ a⟩
theorem Dr{j:Int}(h0:0<=j)(h1:j<=1000000):Rg j:=⟨by omega,by omega⟩
theorem MT{a b:Int}(h0:0<=a)(h1:a<18446744073709551616):G0 a b:=.inl ⟨by omega,h1⟩
theorem Bh(xs:O α)(lo hi:Y Int):(BF xs lo hi).length<=xs.length:=by
 unfold BF;rw[jn,js];omega
theorem pN{xs:O α}{k:Nat}(h:k<=xs.length):BF xs (Z (k:Int)) Y3=xs.drop k:=by
 unfold BF;rw[HT.Rp,HT.KQ,gS h,List.take_of_length_le (by simp)]
theorem JF{xs:O α}{k:Nat}(h:k<=xs.length):BF xs Y3 (Z (k:Int))=xs.take k:=by
 unfold BF;rw[HT.Rp,HT.KQ,gS h,Nat.sub_zero,List.drop_zero]
theorem sS(x y:AJ):(x++y).length=x.length+y.length:=by
 show(x.cps++y.cps).size=_;rw[kX];rfl
theorem JG(x:AJ)(i:Int):(ch x i).length=1:=rfl
theorem slice_le(x:AJ)(l u:Y Int):(Txt.slice x l u).length<=x.length:=PyProof.Txt.length_slice_le x l u
end
section
variable [Inhabited α] {e:α->Dt}{k:Ev->Y As}{cO:γ->As}
end
theorem Ho:∀xs:O Int,Hg (xs.map eI)=Z xs
 |[]=>rfl
 |x::xs=>by simp only[zr,eI,Hg,Ho xs,Au]
def Pt(a:RL fa ρ eI):R (cT Yd (aA fa aK)) ρ (zE eI):=⟨a.v.sum,aW a.D (Z (EJ a.v=true)),λh=>by
 obtain⟨h1,h2⟩:=aq h;have h2:EJ a.v=true:=h2;simp only[cT,aA,aK,a.ok h1,Au,Yd,a.lk,Ho,h2,jS]⟩
section
variable{e:α->Dt}{k:Ev->Y As}{cO:γ->As}
def SI(i:Nat)(xs:O α)(hi:ρ[i]?=Z (Z (.o (xs.map e))))(a:R f ρ (oE e))(K:∀ys:O α,R k (ρ.set i (Z (.o (ys.map e)))) cO):R (aH (Yg i f) k) ρ cO:=⟨(K (xs++a.v)).v,aW (aW a.D (Z (Ou (xs.length+a.v.length)))) (K (xs++a.v)).D,λhd=>by
 obtain⟨h1,b⟩:=aq hd;obtain⟨h1,h2⟩:=aq h1;have h2:xs.length+a.v.length<=1000000:=h2;rw[lV (ρ':=ρ.set i (Z (.o ((xs++a.v).map e)))) (by
  unfold Yg;rw[a.ok h1,Au];show FF ρ i (.o (a.v.map e))=_;simp only[FF,hi,zk,ZE];rw[zo (zv h2 ())])]
 exact(K _).ok b⟩
end
section
variable{e:α->Dt}{k:Ev->Y As}{cO:γ->As}
end
section
variable{e:α->Dt}
end
section
variable{e:α->Dt}{e':β->Dt}
end
def RP(f:Ev->Y β)(ρ:Ev)(c:α->β)(v:α)(D:Y Prop):Prop:=B6 D->f ρ=Z (c v)
theorem R.tp{f:Ev->Y β}{c:α->β}{a:α}{b:Y Prop}(x:R f ρ c)(e:x.v=a:=by kernel_rfl)(d:x.D=b:=by kernel_rfl):RP f ρ c a b:=λh=>by
 subst e d;exact x.ok h
def RP.r{f:Ev->Y β}{c:α->β}{v:α}{D:Y Prop}(h:RP f ρ c v D):R f ρ c:=⟨v,D,h⟩
theorem HV{p:O α->Prop}(h:∀a,p [a]):∀us:O α,us.length=1->p us
 |[a],_=>h a
theorem GN{p:O α->Prop}(h:∀a b,p [a,b]):∀us:O α,us.length=2->p us
 |[a,b],_=>h a b
theorem YO{p:O α->Prop}(h:∀a b c,p [a,b,c]):∀us:O α,us.length=3->p us
 |[a,b,c],_=>h a b c
theorem Sj{p:O α->Prop}(h:∀a b c d,p [a,b,c,d]):∀us:O α,us.length=4->p us
 |[a,b,c,d],_=>h a b c d
theorem NJ{p:O α->Prop}(h:∀a b c d e,p [a,b,c,d,e]):∀us:O α,us.length=5->p us
 |[a,b,c,d,e],_=>h a b c d e
end P1
namespace P1
open L2 S1
end P1
namespace P1
open L2
section
variable{fs:Ev->Y (O Bx)}
end
section
variable{AU:O AB}
end
section
variable{ks:O V}{o:AE}
end
section
variable{M0 M1 M2 er:Expr}{f0 f2:Ev->Y Bx}{d0 d2:Dt}{z0 z1 z2 z3:Pos}
end
section
variable{st:O AB}{fr:Ev->Y Bx}{i':Nat}{W:O Nat}{z:Pos}
end
section
variable{a b c:Ev->Y As}{k:Nat}
end
end P1
namespace P1
open L2 S6
section
variable{kx vx t1 i1 t2 i2:Expr}{f1 f2:O Expr}{xs:Ap}{g1 g2:Dt->Ev->Y Ev}{p1 p2:Ev->Y Bool}{fi1 fi2:Ev->Y (O Dt)}{fs:Ev->Y (O Dt)}{N:Nat}
def cls2(fi:Ev->Y (O Dt))(gt:Dt->Ev->Y Ev)(p:Ev->Y Bool)(fs:Ev->Y (O Dt))(is:O Nat)(n:Nat):Ev->Y (O Dt):=λρ=>(fi ρ).bind λds=>uz gt p fs (iu is ρ++ab n Y3) ds
def Du(fi:Ev->Y (O Dt))(gt:Dt->Ev->Y Ev)(p:Ev->Y Bool)(fs:Ev->Y (O Dt))(is:O Nat)(n:Nat):Ev->Y Bx:=λρ=>(cls2 fi gt p fs is n ρ).bind λout=>if out.length<=100000 then Z (.o out)else Y3
structure EW (X:Cx) (ts:Ap) (m:Nat) (scope:Scope) (cl:List (Str×Addr)) (xs:Ap) (is:List Nat) (t1 i1:Expr) (f1:List Expr) (t2 i2:Expr) (f2:List Expr) (fi1 fi2:Ev->Option (List Dt)) (g1 g2:Dt->Ev->Option Ev) (p1 p2:Ev->Option Bool):Prop where
 ok:oX X scope cl xs is
 calm:X.calm=true
 it1:EF X t1 i1 fi1
 tg1:∀C s₀ H₀ fp,ZV (tL X (xs++ts) scope cl C s₀ H₀ fp) t1 g1
 c1:∀C s₀ H₀ fp,uZ (tL X (xs++ts) scope cl C s₀ H₀ fp) f1 p1
 k1:V4 is.length m g1
 it2:∀C s₀ H₀ fp,ED (tL X (xs++ts) scope cl C s₀ H₀ fp) t2 i2 fi2
 tg2:∀C s₀ H₀ fp,ZV (tL X (xs++ts) scope cl C s₀ H₀ fp) t2 g2
 c2:∀C s₀ H₀ fp,uZ (tL X (xs++ts) scope cl C s₀ H₀ fp) f2 p2
 k2:V4 m (is.length+ts.length) g2
 hm:is.length<=m:=by decide
 hm2:m<=is.length+ts.length:=by decide
 hs:∀x,foldedSetIterable i1 X.env x=pure x:=by intro _;rfl
 hs2:∀C x,foldedSetIterable i2 (compEnvC scope (cellsFrom (C+1) scope.names cl) C X.env) x=pure x:=by intro _ _;rfl
theorem V5.no{b:O Dt}:V5 K D H b o->(∀a u,o≠.jo a u)/\∀vs,o≠.tup vs:=λ⟨_,e,_⟩=>by subst e;exact⟨λ_ _ z=>(by cases z),λ_ z=>(by cases z)⟩
theorem EO.no{b:O Dt}:EO X D H b o->(∀a u,o≠.jo a u)/\∀vs,o≠.tup vs:=λ⟨_,e,_⟩=>by subst e;exact⟨λ_ _ z=>(by cases z),λ_ z=>(by cases z)⟩
theorem M7(ts:Ap)(W:EW X ts m scope cl xs is t1 i1 f1 t2 i2 f2 fi1 fi2 g1 g2 p1 p2)(he:∀C c f fp,QV (tL X (xs++ts) scope cl C c f fp) elt fe):
  QV X (.ListComp elt [⟨t1,i1,f1,0⟩,⟨t2,i2,f2,0⟩] scope pos) (Du fi1 g1 p1 (Ct fi2 g2 p2 (Lh fe)) is ts.length):=⟨λAN s σ H Q I h=>by
 obtain⟨H0,ρ,b,E,e,q⟩:=h;obtain⟨out,i,e⟩:=AV e;obtain⟨ds,F,i⟩:=AV i;split at e
 ·rename_i a3;cases e;rw[eval_ListComp];refine JI (use:=Y3) S W.hs W.ok.clos W.ok.kind W.ok.names ?_;refine fB (W.it1.run AN s σ H (λJ H'=>AX H H'/\B4 X.K J ds H') I ⟨H0,ρ,ds,E,F,λJ H' s' y=>⟨s',y⟩⟩) λv s1 h1=>fB h1 λa4 s2 h2=>?_;obtain⟨it,fp,tn,J,H2,rfl,L,T,st,M,g,Y⟩:=h2;refine yJ (B:=zx) (Ac:=V5 X.K) (O0:=.lst []) (N:=100000) (RR:=λn C=>compPost (bn X) X.A X.xe Y3 (EP X AN σ Q) n C) (ts:=ts) (xs:=xs) W.ok W.calm (λC c f fp=>(W.tg1 C c f fp).run) (λC c f fp=>(W.c1 C c f fp).run)
   (λC c f fp=>Lg (X:=tL X (xs++ts) scope cl C c f fp) (comp:=.ListComp elt [⟨t1,i1,f1,0⟩,⟨t2,i2,f2,0⟩] scope pos) (d:=1) W.calm S (W.it2 C c f fp).run (W.tg2 C c f fp).run (W.c2 C c f fp).run (RJ (he C c f fp).run) W.k2 W.hm2 V5.kp V5.no (W.hs2 C) (λ_ _ _=>S) (GC S λh=>h) λh=>h)
   W.k1 W.hm L ((E.grow g).caps is ts.length) (Cg T) st M Y i a3 ?_
   qa (λ_=>⟨qc _,[],0,.nil,zl _ rfl⟩) (λ_=>⟨[],rfl,aG.nil⟩) V5.kp (λ_ _ _=>by simp only[bind_assoc,pure_bind];rfl) codeAny_compStart_list λh=>h
  rintro D C s' H' o U P u ⟨m,z⟩ l j ⟨us,rfl,x⟩;refine⟨m,z,λh' p=>⟨.ref D,H',?_,rfl,q _ _ (g.trans l) (λa ea=>by cases ea;exact g.free U) ⟨D,us,rfl,j,x⟩⟩⟩;obtain⟨f0,f1,f2,f3,f4,G⟩:=u;exact P.turned (t':=s'.toks) (λb o hb e=>(p.2 b hb).trans e) f0 f1 f3 f4 G
 ·cases e⟩
def SX(f:Ev->Y (O Dt)):Ev->Y Ap:=λρ=>(f ρ).bind λout=>if out.length<=4000 then qO out else Y3
theorem Vj(ts:Ap)(W:EW X ts m scope cl xs is t1 i1 f1 t2 i2 f2 fi1 fi2 g1 g2 p1 p2)(he:∀C a c fp,QV (tL X (xs++ts) scope cl C a c fp) elt fe):
  MY X (.SetComp elt [⟨t1,i1,f1,0⟩,⟨t2,i2,f2,0⟩] scope pos) (SX (cls2 fi1 g1 p1 (Ct fi2 g2 p2 (Lh fe)) is ts.length)):=⟨λAN s σ H Q I h=>by
 obtain⟨H0,ρ,ys,E,e,hl,q⟩:=h;obtain⟨out,f,e⟩:=AV e;obtain⟨ds,U,f⟩:=AV f;split at e
 ·rename_i a3;have i:=CP e;have G:∀d∈out,∃z,d=Dt.str z:=λd hd=>by rw[i]at hd;obtain⟨z,_,rfl⟩:=bc.mp hd;exact⟨z,rfl⟩
  rw[arm_eval_SetComp];refine JI (use:=Y3) S W.hs W.ok.clos W.ok.kind W.ok.names ?_;refine fB (W.it1.run AN s σ H (λJ H'=>AX H H'/\B4 X.K J ds H') I ⟨H0,ρ,ds,E,U,λJ H' s' y=>⟨s',y⟩⟩) λv s1 h1=>fB h1 λa4 s2 h2=>?_;obtain⟨it,fp,tn,J,H2,rfl,I2,T,st,hf,j,Y⟩:=h2;have x:∀C a c fp,Lf (tL X (xs++ts) scope cl C a c fp) (λD env=>do let v <-eval elt env;standAt elt.pos;let _ <-call (.builtin "set.add") [.ref D,v]) (MZ fe) (EO X) 4000 (is.length+ts.length):=λC a c fp=>be (he C a c fp).run;refine yJ (B:=zx) (Ac:=EO X) (O0:=C' X s2.heap.objs.size []) (N:=4000) (RR:=λu C=>compPost (bn X) X.A X.xe Y3 (EP X AN σ Q) u C) (ts:=ts) (xs:=xs) W.ok W.calm (λC a c fp=>(W.tg1 C a c fp).run) (λC a c fp=>(W.c1 C a c fp).run)
   (λC a c fp=>Lg (X:=tL X (xs++ts) scope cl C a c fp) (comp:=.SetComp elt [⟨t1,i1,f1,0⟩,⟨t2,i2,f2,0⟩] scope pos) (d:=1) W.calm S (W.it2 C a c fp).run (W.tg2 C a c fp).run (W.c2 C a c fp).run (x C a c fp) W.k2 W.hm2 (λ_ h=>h) EO.no (W.hs2 C) (λ_ _ _=>S) (GC S λh=>h) λh=>h)
   W.k1 W.hm I2 ((E.grow j).caps is ts.length) (Cg T) st hf Y (Jw (Pv E8) f G) a3 ?_
   U6 (λ_=>XS (zl _ S)) (λ_=>⟨[],rfl,by simp,QQ,by simp,zi _⟩) (λ_ h=>h) (λ_ _ _=>by simp only[bind_assoc,pure_bind];rfl) U7 λh=>h
  rintro D C s' H' o hD I' L ⟨m,P⟩ n l ⟨zs,rfl,p,M,hz,_⟩;refine⟨m,P,λh' F=>⟨.ref D,H',?_,rfl,q D zs H' (j.trans n) l (λz=>?_) M hz⟩⟩
  ·obtain⟨f0,f1,f2,f3,f4,f5⟩:=L;exact I'.turned (t':=s'.toks) (λb o hb e=>(F.2 b hb).trans e) f0 f1 f3 f4 f5
  ·rw[p z,i];constructor
   ·intro g;obtain⟨y,hy,e⟩:=bc.mp g;cases e;exact hy
   ·exact λg=>bc.mpr ⟨z,g,rfl⟩
 ·cases e⟩
end
end P1
namespace P1
open L2
section
variable{e:α->Dt}{e':β->Dt}{fs:Ev->Y (O Dt)}
theorem M8{g:α->O β}:∀xs:O α,(xs.flatMap g).map e'=xs.flatMap λx=>(g x).map e'
 |[]=>rfl
 |x::xs=>by rw[kq,ZE,M8 xs];rfl
def YD(it:R fi ρ (iE e))(a:α->Ev)(c:∀x,gt (e x) (iu is ρ++ab n Y3)=Z (a x))(b:∀x,R fs (a x) (iE e')):R (cls2 fi gt lR fs is n) ρ (iE e'):=⟨it.v.flatMap λx=>(b x).v,aW it.D (Yw it.v λx=>(b x).D),λh=>by
 obtain⟨h1,h2⟩:=aq h;have h2:∀x∈it.v,B6 (b x).D:=h2;simp only[cls2,it.ok h1,Au];rw[Dd (π:=λ_=>true) (g:=λx=>(b x).v.map e') it.v λx hx=>⟨a x,c x,rfl,λ_=>(b x).ok (h2 x hx)⟩,ib.mpr λ_ _=>S];rw[iE,M8]⟩
def YF(it:R fi ρ (iE e))(a:α->Ev)(c:∀x,gt (e x) ρ=Z (a x))(b:∀x,R fe (a x) (zE e')):R (Ct fi gt lR (Lh fe)) ρ (iE e'):=⟨it.v.map λx=>(b x).v,aW it.D (Yw it.v λx=>(b x).D),λh=>by
 obtain⟨h1,h2⟩:=aq h;have h2:∀x∈it.v,B6 (b x).D:=h2;simp only[Ct,it.ok h1,Au];exact Bi it.v λx hx=>⟨a x,c x,(b x).ok (h2 x hx)⟩⟩
def S5(a:R (cls2 fi gt p fs is n) ρ (iE e)):R (Du fi gt p fs is n) ρ (oE e):=⟨a.v,aW a.D (Z (a.v.length<=100000)),λh=>by
 obtain⟨h1,h2⟩:=aq h;simp only[Du,a.ok h1,Au,zk,zo (show a.v.length<=100000 from h2)]⟩
def ay(a:R fs ρ (iE eS)):R (SX fs) ρ sE:=⟨a.v,aW a.D (Z (a.v.length<=4000)),λh=>by
 obtain⟨h1,h2⟩:=aq h;simp only[SX,a.ok h1,Au,zk,zo (show a.v.length<=4000 from h2),BI]⟩
end
abbrev FI:=i2 λi j=>if 0<=j then Z (.int (i / 2 ^ j.toNat))else Y3
abbrev Dv:=i2 λi j=>Z (.int (Builtin.bitAnd i j))
theorem YG:z9 X (binaryOp .RShift) FI:=wD VA λi j d H Q e q=>by
 split at e
 ·rename_i h;cases e;exact⟨i,j,rfl,rfl,h,q _ Dx⟩
 ·cases e
theorem w6:z9 X (binaryOp .BitAnd) Dv:=wD OM λi j d H Q e q=>by cases e;exact⟨i,j,rfl,rfl,q _ Dx⟩
def K':V->O V->Hp->VK->Prop:=λx vs H Q=>∃l ks k v,x=.ref l/\vs=[kV k,v]/\H l=Z (.dK ks)/\ks.length<AA/\(∀w,lq ks k=Z w->Q w H)/\(lq ks k=Y3->Q v (B1 H l (.dK (BH ks k v))))
theorem PY:F8 X "dict.setdefault" K':=by
 intro AN s σ H x vs v us Q I D B h;obtain⟨l,ks,k,y,rfl,rfl,i,G,q1,q2⟩:=h;cases D;obtain⟨n,g,rfl,rk,j⟩:=B.two;obtain⟨z,hd,vs,c,d⟩:=IT I.hok i;have E:vs.length<=AA:=by rw[<-c.length];exact z
 refine jb PySem.F.slot_dict_setdefault d.typeIs PySem.F.entry_dict_setdefault ?_ (PySem.F.args_dict_setdefault_3 _ _ _);unfold Builtin.«dict.setdefault»;refine zb ?_;unfold Builtin.Dict.keyAndDefault;refine zb (wpAny_notOrdered_dict d.typeIs ?_);show A7 _ _ (pure (l,n,Z g)) _ _ s;refine ze ?_;show A7 _ _ (if(l==sysModules)=true then _ else(dictSetDefault l n g >>= _)) _ _ s;rw[zS (by rw[hd];exact zC)];refine zb (kt_dictSetDefault_pairs (hsz:=E) (Gw rk) d (λw o=>?_) λu h' m A=>?_)
 ·have a:=c.val k;rw[o]at a;cases b:lq ks k with
  |none=>rw[b]at a;exact a.elim
  |some f=>
   rw[b]at a;exact ze ⟨w,rfl,f,H,I.kept (t':=s.toks+1) λ_ _ e=>e,a,q1 f b⟩
 ·have b:lq ks k=Y3:=by
   have a:=c.val k;rw[u]at a;cases b:lq ks k with
   |none=>rfl
   |some f=>rw[b]at a;exact a.elim
  have C:(BH ks k y).length<=AA:=by have:=rM ks k y;omega
  have p:∃q,h'.get? l=Z q:=let ⟨q,_,_,hq,_⟩:=m;⟨q,hq⟩;exact ze ⟨g,rfl,y,_,IK (t':=s.toks+1) I (by rw[i];exact True.intro) A p (Wt C hd (c.put k j) m),j,q2 b⟩
def LS(a:R fa ρ (zE eI))(b:R fb ρ (zE eI)):R (b2 FI fa fb) ρ (zE eI):=⟨a.v / 2 ^ b.v.toNat,aW (aW a.D b.D) (Z (0<=b.v)),λh=>by
 obtain⟨h,c⟩:=aq h;obtain⟨h1,h2⟩:=aq h;have c:0<=b.v:=c;simp only[b2,a.ok h1,b.ok h2,Au,i2,zo c]⟩
def Dw(a:R fa ρ (zE eI))(b:R fb ρ (zE eI)):R (b2 Dv fa fb) ρ (zE eI):=⟨Builtin.bitAnd a.v b.v,aW a.D b.D,λh=>by
 obtain⟨h1,h2⟩:=aq h;simp only[b2,a.ok h1,b.ok h2,Au,i2]⟩
def hx(h:A6)(a:A1):HO:=.ext λh'=>h'.get? a=h.get? a
def LD(o:Y HO):Prop:=(∃xs,o=Z (.lst xs))\/∃ks,o=Z (.dK ks)
def DZ(as:O A1)(σ:L2.St)(ρ:Ev):Prop:=∀(j:Nat) c a,ρ[j]?=Z (Z c)->loose c=true->σ[j]?=Z (Z (.ref a))->a∉as
section
variable{H2:Hp}{as:O A1}
theorem aY.move{s H':Hp}(E:aY K Hb H σ ρ)(S:DZ as σ ρ)(kp:Kp H H')(i:∀b,b∉as->H' b=H b)(u:AX s H')(hn:∀(j:Nat) c a,ρ[j]?=Z (Z c)->qZ c=true->σ[j]?=Z (Z (.ref a))->s a=Y3):aY K s H' σ ρ:=by
 refine⟨E.len,λj b e=>?_,E.own,u,hn⟩;obtain⟨v,ev,h⟩:=E.val j b e;refine⟨v,ev,?_⟩;cases b with
 |z d=>exact AY.kp kp h
 |l p=>
  obtain⟨a,vs,rfl,q,f⟩:=h;have g:=i a (S j _ a e rfl ev);exact⟨a,vs,rfl,q.imp (λq=>g.trans q) λ⟨o,q⟩=>⟨o,g.trans q⟩,f.kp kp⟩
 |o p=>
  obtain⟨a,vs,rfl,q,f⟩:=h;exact⟨a,vs,rfl,(i a (S j _ a e rfl ev)).trans q,f.kp kp⟩
 |n p=>
  obtain⟨a,vs,rfl,q,f⟩:=h;have g:=i a (S j _ a e rfl ev);exact⟨a,vs,rfl,q.imp (λq=>g.trans q) λ⟨o,q⟩=>⟨o,g.trans q⟩,f.kp kp⟩
 |m p _=>
  obtain⟨a,vs,rfl,q,f⟩:=h;exact⟨a,vs,rfl,(i a (S j _ a e rfl ev)).trans q,f.1.kp kp,f.2⟩
end
theorem zP:∀{as:O A1} {H:Hp},L2.AW X AN σ H s->(∀a∈as,∃vs,H a=Z (.lst vs))->as.Nodup->∃H',L2.AW X AN σ H' s/\Kp H H'/\(∀b,b∉as->H' b=H b)/\∀a∈as,∃o vs,H a=Z (.lst vs)/\H' a=Z (.jo o (.lst vs))
 |[],H,I,_,_=>⟨H,I,⟨λ_ _ e=>e,λ_ _ _ e=>e⟩,λ_ _=>S,λ_ h=>by cases h⟩
 |a::as,H,I,h,d=>by
  obtain⟨i,d⟩:=cz.mp d;obtain⟨vs,g⟩:=h a (zg ..);obtain⟨o,p⟩:=uX I g;have j:Kp H (B1 H a (.jo o (.lst vs))):=.lst g;obtain⟨H',n,l,h1,h2⟩:=zP (as:=as) p (λb c=>by
   obtain⟨ws,e⟩:=h b (zh _ c);exact⟨ws,by rw[aF (show b≠a from λz=>i (by rw[<-z];exact c))];exact e⟩) d
  refine⟨H',n,⟨λb xs e=>l.t _ _ (j.t _ _ e),λb m u e=>l.f _ _ _ (j.f _ _ _ e)⟩,λb c=>?_,λb c=>?_⟩
  ·rw[h1 b λz=>c (zh _ z),aF (show b≠a from λz=>c (by rw[z];exact zg ..))]
  ·rcases List.mem_cons.mp c with rfl|c
   ·exact⟨o,vs,g,by rw[h1 _ i];exact aJ⟩
   ·obtain⟨m,ws,e1,e2⟩:=h2 b c;rw[aF (show b≠a from λz=>i (by rw[<-z];exact c))]at e1;exact⟨m,ws,e1,e2⟩
def bq(P:L2.St->Hp->Prop):L2.St->Hp->Prop:=λσ H=>∃as:O A1,as.Nodup/\(∀a∈as,∃vs,H a=Z (.lst vs))/\∀H',Kp H H'->(∀b,b∉as->H' b=H b)->(∀a∈as,∃o vs,H a=Z (.lst vs)/\H' a=Z (.jo o (.lst vs)))->P σ H'
theorem We{t:TS}(h:PS X st t):PS X st (λD σ H=>t { D with nx:=bq D.nx } σ H):=λAN s σ H D I q=>by
 refine fB (h AN s σ H _ I q) λf d q=>?_;cases f with
 |next=>
  obtain⟨σ',H',c,as,a,k,q⟩:=q;obtain⟨H2,b,kp,h1,h2⟩:=zP c k a;exact⟨σ',H2,b,q H2 kp h1 h2⟩
 |ret v=>exact q
 |brk=>exact q
 |cont=>exact q
def sU(m:O (Int×O α))(k:Int)(d:α):O (Int×O α):=if(m.any λq=>decide (q.1=k))=true then m.map λq=>if q.1=k then(q.1,q.2++[d])else q else m++[(k,[d])]
def JH(k j:Nat)(f1:Ev->Y Bx)(p:Ev->Y Bool)(f2 fv:Ev->Y Bx)(ρ:Ev):O Dt->O (Int×O Dt)->Y (O (Int×O Dt))
 |[],m=>Z m
 |d::ds,m=>(f1 (ρ.set k (Z (.z d)))).bind λb1=>match b1 with
  |.z d1=>(p ((ρ.set k (Z (.z d))).set j (Z (.z d1)))).bind λt=>(if t=true then f2 ((ρ.set k (Z (.z d))).set j (Z (.z d1)))else Z (.z d1)).bind λb2=>match b2 with
   |.z (.int y)=>(fv (((ρ.set k (Z (.z d))).set j (Z (.z d1))).set j (Z (.z (.int y))))).bind λv=>match v with
    |.z x=>if m.length<1000/\(∀q∈m,q.2.length<1000)then JH k j f1 p f2 fv ρ ds (sU m y x)else Y3
    |_=>Y3
   |_=>Y3
  |_=>Y3
def Dy(i j k:Nat)(fi:Ev->Y (O Dt))(f1:Ev->Y Bx)(p:Ev->Y Bool)(f2 fv:Ev->Y Bx):Ev->Y As:=λρ=>match ρ[i]? with
 |some (Z (.m [] Y3))=>if j<ρ.length then(fi (((ρ.set i Y3).set j Y3).set k Y3)).bind λds=>(JH k j f1 p f2 fv (((ρ.set i Y3).set j Y3).set k Y3) ds []).bind λm=>
  Z (.nx ((((ρ.set i Y3).set j Y3).set k Y3).set i (Z (.m (m.map λq=>(Sum.inl q.1,Dt.lst q.2)) Y3))))else Y3
 |_=>Y3
structure Gp (K:B5) (H:Hp) (D:Addr) (gs:List (Int×Addr×List Dt)):Prop where
 d:H D=some (.dK (gs.map λg=>(Sum.inl g.1,V.ref g.2.1)))
 l:∀g∈gs,∃vs,H g.2.1=some (.lst vs)/\aG K H g.2.2 vs
 k:(gs.map (·.1)).Nodup
 a:(gs.map (·.2.1)).Nodup
def Dz(D:A1)(gs:O (Int×A1×O Dt)):O A1:=D::gs.map (·.2.1)
def Hq(gs:O (Int×A1×O Dt)):O (Int×O Dt):=gs.map λg=>(g.1,g.2.2)
theorem Gp.ld(G:Gp K H D gs):∀a∈Dz D gs,LD (H a):=λa b=>by
 rcases List.mem_cons.mp b with rfl|b
 ·exact .inr ⟨_,G.d⟩
 ·obtain⟨g,c,rfl⟩:=bc.mp b;obtain⟨vs,e,_⟩:=G.l g c;exact .inl ⟨vs,e⟩
theorem Gp.kept{H':Hp}(G:Gp K H D gs)(h:∀a∈Dz D gs,H' a=H a)(r:∀ds vs,aG K H ds vs->aG K H' ds vs):Gp K H' D gs:=
 ⟨(h D (zg ..)).trans G.d,λg b=>let ⟨vs,e,q⟩:=G.l g b;⟨vs,(h _ (zh _ (bc.mpr ⟨g,b,rfl⟩))).trans e,r _ _ q⟩,G.k,G.a⟩
theorem Gp.same{H':Hp}(G:Gp K H D gs)(s:AX H H'):Gp K H' D gs:=
 ⟨s _ _ G.d,λg b=>let ⟨vs,e,q⟩:=G.l g b;⟨vs,s _ _ e,q.kp (.of s)⟩,G.k,G.a⟩
theorem Gp.val{k:Int}:∀{w:V},lq (gs.map λg=>((Sum.inl g.1:An),V.ref g.2.1)) (Sum.inl k)=Z w->∃g∈gs,g.1=k/\w=.ref g.2.1:=by
 induction gs with
 |nil=>intro w e;cases e
 |cons g gs c=>
  intro w e;rw[zr]at e;by_cases hk:g.1=k
  ·rw[rH (by rw[hk])]at e;cases e;exact⟨g,zg ..,hk,rfl⟩
  ·rw[rJ (by simpa using hk)]at e;obtain⟨a,h1,h2,b⟩:=c e;exact⟨a,zh _ h1,h2,b⟩
theorem WB{k:Int}:((Hq gs).any λq=>decide (q.1=k))=(lq (gs.map λg=>((Sum.inl g.1:An),V.ref g.2.1)) (Sum.inl k)).isSome:=by
 rw[<-rK,Hq,KU,KU];congr 1;funext g;simp
section
variable{k:Int}{x:Dt}{u:V}
theorem xg{α β:Type}{f:α->β}:∀{xs:O α},(xs.map f).Nodup->∀{a b:α},a∈xs->b∈xs->f a=f b->a=b
 |y::ys,h,a,b,ha,hb,e=>by
  obtain⟨h1,h2⟩:=cz.mp (show(f y::ys.map f).Nodup from h);rcases List.mem_cons.mp ha with q|q<;>rcases List.mem_cons.mp hb with t|t
  ·rw[q,t]
  ·exact absurd (bc.mpr ⟨b,t,by rw[<-e,q]⟩) h1
  ·exact absurd (bc.mpr ⟨a,q,by rw[e,t]⟩) h1
  ·exact xg h2 q t e
def qT(gs:O (Int×A1×O Dt))(k:Int)(x:Dt):O (Int×A1×O Dt):=gs.map λg=>if g.1=k then(g.1,g.2.1,g.2.2++[x])else g
theorem Gp.app(G:Gp K H D gs){g:Int×A1×O Dt}(e:g∈gs)(hk:g.1=k)(h:H g.2.1=Z (.lst vs))(r:aG K H g.2.2 vs)(n:AY K H x u):
  Gp K (B1 H g.2.1 (.lst (vs++[u]))) D (qT gs k x)/\Dz D (qT gs k x)=Dz D gs/\Hq (qT gs k x)=sU (Hq gs) k x:=by
 have kp:Kp H (B1 H g.2.1 (.lst (vs++[u]))):=.lst h;have e1:(qT gs k x).map (·.1)=gs.map (·.1):=by unfold qT;rw[ZY];exact ZT λg _=>by simp only[Function.comp];split<;>rfl
 have e2:(qT gs k x).map (·.2.1)=gs.map (·.2.1):=by unfold qT;rw[ZY];exact ZT λg _=>by simp only[Function.comp];split<;>rfl
 have e3:((qT gs k x).map λg=>((Sum.inl g.1:An),V.ref g.2.1))=gs.map λg=>(Sum.inl g.1,V.ref g.2.1):=by unfold qT;rw[ZY];exact ZT λg _=>by simp only[Function.comp];split<;>rfl
 refine⟨⟨?_,λo i=>?_,by rw[e1];exact G.k,by rw[e2];exact G.a⟩,by unfold Dz;rw[e2],?_⟩
 ·rw[e3,aF (d9 G.d h (by intro z;cases z))];exact G.d
 ·obtain⟨c,h0,rfl⟩:=bc.mp i;by_cases b:c.1=k
  ·have:c=g:=xg G.k h0 e (by rw[b,hk]);subst this;rw[zo b];exact⟨_,aJ,(r.append (aG.cons n aG.nil)).kp kp⟩
  ·rw[zS b];obtain⟨ws,j,m⟩:=G.l c h0;refine⟨ws,?_,m.kp kp⟩;rw[aF λz=>b (by rw[xg (f:=λg:Int×A1×O Dt=>g.2.1) G.a h0 e z];exact hk)];exact j
 ·unfold sU;have:((Hq gs).any λq=>decide (q.1=k))=true:=List.any_eq_true.mpr ⟨(g.1,g.2.2),bc.mpr ⟨g,e,rfl⟩,by simpa using hk⟩;rw[zo this];unfold Hq qT;rw[ZY,ZY];exact ZT λg _=>by simp only[Function.comp];split<;>rfl
theorem Gp.new(G:Gp K H D gs)(hn:lq (gs.map λg=>((Sum.inl g.1:An),V.ref g.2.1)) (Sum.inl k)=Y3)(o:H l=Z (.lst []))(i:l∉Dz D gs):
  Gp K (B1 H D (.dK (BH (gs.map λg=>(Sum.inl g.1,V.ref g.2.1)) (Sum.inl k) (.ref l)))) D (gs++[(k,l,[])]):=by
 have kp:Kp H (B1 H D (.dK (BH (gs.map λg=>(Sum.inl g.1,V.ref g.2.1)) (Sum.inl k) (.ref l)))):=.dk G.d;have j:((gs.map λg=>((Sum.inl g.1:An),V.ref g.2.1)).any λm=>decide (m.1=Sum.inl k))=false:=by rw[rK,hn];rfl
 have n:l≠D:=λz=>i (by rw[z];exact zg ..);have p:k∉gs.map (·.1):=λz=>by
  obtain⟨g,c,e⟩:=bc.mp z;have:=i0.mp j _ (bc.mpr ⟨g,c,rfl⟩);simp only[qS]at this;exact this (by rw[e])
 refine⟨?_,λg c=>?_,?_,?_⟩
 ·rw[aJ,BH,zS (by rw[j];exact zC),ZE];rfl
 ·rcases cf.mp c with c|c
  ·obtain⟨vs,e,r⟩:=G.l g c;exact⟨vs,by rw[aF λz=>by rw[z,G.d]at e;cases e];exact e,r.kp kp⟩
  ·cases bo.mp c;exact⟨[],by rw[aF n];exact o,aG.nil⟩
 ·rw[ZE,j3];exact⟨G.k,by simp,λa f b h=>by cases bo.mp h;exact λz=>p (by rw[z]at f;exact f)⟩
 ·rw[ZE,j3];exact⟨G.a,by simp,λa f b h=>by cases bo.mp h;exact λz=>i (zh _ (by rw[z]at f;exact f))⟩
theorem YH(hn:lq (gs.map λg=>((Sum.inl g.1:An),V.ref g.2.1)) (Sum.inl k)=Y3):sU (Hq gs) k x=Hq (qT (gs++[(k,l,[])]) k x):=by
 have a:((Hq gs).any λq=>decide (q.1=k))=false:=by rw[WB,hn];rfl
 unfold sU;rw[zS (by rw[a];exact zC)];unfold Hq qT;rw[ZE,ZE];congr 1
 ·rw[ZY];refine ZT λg b=>?_;have:=i0.mp a (g.1,g.2.2) (bc.mpr ⟨g,b,rfl⟩);simp only[qS]at this;simp only[Function.comp,zS this]
 ·simp
end
section
variable{e1 ev:Expr}{f2:Ev->Y Bx}{w:AJ}{pw py py2 py3 px p1 p3 p4 pl a1 a2 c1 c2:Pos}
def YJ(X:Cx)(i j:Nat)(fv:Ev->Y Bx):TE:=HC X.K "list" Rv (HC X.K "dict" K' (TX i) (uF (TX j) (uF (MQ O4) O4))) (uF (tF X.K fv) O4)
theorem SF{A:Hp}{m:L2.St}{f:Ev}{k:Int}{Q:L2.St->Hp->Prop}(I:aY X.K Hs A m f)(hj:f[j]?=Z (Z (.z (.int k))))(hi:m[i]?=Z (Z (.ref D)))(ev:fv f=Z (.z d))(G:Gp X.K A D gs)(H:∀a∈Dz D gs,Hs a=Y3)(S:DZ (Dz D gs) m f)(hl:gs.length<1000)(b0:∀g∈gs,g.2.2.length<1000)(q:∀H' J,aY X.K Hs H' m f->Gp X.K H' D J->(∀a∈Dz D J,Hs a=Y3)->DZ (Dz D J) m f->Hq J=sU (Hq gs) k d->Q m H'):YJ X i j fv m A (λ_ H'=>Q m H'):=by
 obtain⟨vk,a7,rk⟩:=I.val j _ hj;have rk:vk=.int k:=by simpa only[aX,AY]using rk
 subst rk;have sz:(1000:Nat)<AA:=by decide
 refine⟨_,hi,.inr (.inr (.inl ⟨rfl,.inl ⟨_,G.d⟩⟩)),_,a7,qc _,λl F=>?_⟩;have sl:AX A (B1 A l (.lst [])):=bf F;have y:=G.same sl;have p:=I.grow sl;refine⟨D,_,Sum.inl k,.ref l,rfl,rfl,y.d,by rw[zk];omega,λw hw=>?_,λhn=>?_⟩
 ·obtain⟨g,v,hk,rfl⟩:=Gp.val hw;obtain⟨vs,U,a3⟩:=y.l g v;refine⟨.inl ⟨rfl,vs,.inl (.inl U)⟩,Hs,f,_,p,ev,λu C e n7 L=>?_⟩;have M:=y.same e;have n:=e _ _ U;have P:AY X.K C d u:=L;obtain⟨N,x,eM⟩:=M.app v hk n (a3.kp (.of e)) P;refine⟨_,vs,u,rfl,rfl,n,by rw[a3.length];have:=b0 g v;omega,q _ _ ?_ N (by rw[x];exact H) (by rw[x];exact S) eM⟩;have s:g.2.1∈Dz D gs:=zh _ (bc.mpr ⟨g,v,rfl⟩);exact(p.grow e).move (as:=[g.2.1]) (λj c a e1 e2 e3 z=>S j c a e1 e2 e3 (by rw[bo.mp z];exact s)) (.lst n) (λb B=>aF λz=>B (by rw[z];simp)) (λb o eb=>by
   rw[aF λz=>by rw[z,H _ s]at eb;cases eb];exact(p.grow e).base b o eb) p.new
 ·have a4:l∉Dz D gs:=λz=>by
   have:=G.ld l z;rcases this with⟨_,q⟩|⟨_,q⟩<;>(rw[F]at q;cases q)
  have M:=y.new hn aJ a4;have E:=p.move (as:=[D]) (λj c a e1 e2 e3 z=>S j c a e1 e2 e3 (by rw[bo.mp z];exact zg ..)) (.dk y.d) (λb B=>aF (o:=.dK (BH (gs.map λg=>(Sum.inl g.1,V.ref g.2.1)) (Sum.inl k) (.ref l))) λz=>B (by rw[z];simp)) (λb o eb=>by
   rw[aF λz=>by rw[z,H _ (zg ..)]at eb;cases eb];exact p.base b o eb) p.new
  have W:l≠D:=λz=>a4 (by rw[z];exact zg ..);refine⟨.inl ⟨rfl,[],.inl (.inl (by rw[aF W];exact aJ))⟩,Hs,f,_,E,ev,λu C e n7 L=>?_⟩;have N:=M.same e;have P:AY X.K C d u:=L;have v:(k,l,([]:O Dt))∈gs++[(k,l,[])]:=zz _ (bo.mpr rfl);have n:C l=Z (.lst []):=e _ _ (by rw[aF W];exact aJ);obtain⟨G4,x,eM⟩:=N.app v rfl n aG.nil P;have a6:Hs l=Y3:=I.base.free F;have YK:∀(j:Nat) c a,f[j]?=Z (Z c)->loose c=true->m[j]?=Z (Z (.ref a))->a≠l:=λj c a e1 e2 e3 z=>Cb I j c a e1 e2 e3 (by rw[z];exact F);have a5:∀{a:A1},a∈Dz D (gs++[(k,l,[])])->a∈Dz D gs\/a=l:=λ{a} h=>by
   unfold Dz at h ⊢;rw[ZE]at h;rcases List.mem_cons.mp h with z|z
   ·exact .inl (by rw[z];exact zg ..)
   ·rcases cf.mp z with z|z
    ·exact .inl (zh _ z)
    ·exact .inr (by simpa using z)
  refine⟨l,[],u,rfl,rfl,n,Zl (Nat.zero_lt_succ _) (QO sz),q _ _ ?_ G4 (by rw[x];exact λa s=>(a5 s).elim (H a) λz=>by rw[z];exact a6) (by rw[x];exact λj c a e1 e2 e3 s=>(a5 s).elim (S j c a e1 e2 e3) (YK j c a e1 e2 e3)) (YH (l:=l) hn).symm⟩;exact(E.grow e).move (as:=[l]) (λj c a e1 e2 e3 z=>YK j c a e1 e2 e3 (bo.mp z)) (.lst n) (λb B=>aF λz=>B (by rw[z];simp)) (λb o eb=>by
   rw[aF λz=>by rw[z,a6]at eb;cases eb];exact(E.grow e).base b o eb) E.new
theorem JK{q:Nat}(h:(ρ.set i Y3)[q]?=Z (Z b)):q≠i/\ρ[q]?=Z (Z b):=by
 rcases BA h with⟨_,z,_⟩|⟨h1,h2⟩
 ·cases z
 ·exact⟨h1,h2⟩
theorem YL(i j k:Nat)(hp:PassesOwn (bn X) X.A X.env X.xe)(hc:X.calm=true)(hN:X.N.Nodup)(hi:ED X (.Name w pw) iter fi)(h1:QV X e1 f1)(g7:QB X c p)(h2:QV X e2 f2)(hv:QV X ev fv)
  (e4:i≠j:=by decide) (c8:i≠k:=by decide) (h3:j≠k:=by decide) (xi:X.N[i]?=Z x:=by rfl) (xj:X.N[j]?=Z y:=by rfl) (xk:X.N[k]?=Z w:=by rfl)
  (vi:Ov X.env.scope x:=by first|exact JJ rfl|exact QN (JJ rfl)|exact QN (QN rfl)) (vj:Ov X.env.scope y:=by first|exact JJ rfl|exact QN (JJ rfl)|exact QN (QN rfl))
  (lj:Cs X.env.scope y:=by first|exact JJ rfl|exact QN rfl) (lk:Cs X.env.scope w:=by first|exact JJ rfl|exact QN rfl)
  (fj:X.fn y=true\/X.env.scope.names.lookup y=Z .local:=by first|exact .inl rfl|exact .inr rfl) (fk:X.fn w=true\/X.env.scope.names.lookup w=Z .local:=by first|exact .inl rfl|exact .inr rfl)
  (dx:ad x:=by decide) (cx:(x==("__classdict__":AJ))=false:=by decide) (dy:ad y:=by decide) (cy:(y==("__classdict__":AJ))=false:=by decide)
  (hs:∀z,foldedSetIterable iter X.env z=pure z:=by intro _;rfl) (s1:swapsWith e1 (Z (.Name y py)) p1.line X.env=pure false:=by rfl) (s2:swapsWith e2 (Z (.Name y py2)) p2.line X.env=pure false:=by rfl)
  (d0:A9 [.Name y py3,.List [] pl] X.env=[(false,eval (.Name y py3) X.env),(false,eval (.List [] pl) X.env)]:=by rfl) (e5:A9 [ev] X.env=[(false,eval ev X.env)]:=by rfl)
  (e6:attributeBase (.Name x px) "setdefault" X.env (eval (.Name x px) X.env)=eval (.Name x px) X.env:=by rfl)
  (f3:attributeBase (.Call (.Attribute (.Name x px) "setdefault" a1) [.Name y py3,.List [] pl] [] c1) "append" X.env (eval (.Call (.Attribute (.Name x px) "setdefault" a1) [.Name y py3,.List [] pl] [] c1) X.env)=eval (.Call (.Attribute (.Name x px) "setdefault" a1) [.Name y py3,.List [] pl] [] c1) X.env:=by rfl)
  (f6:((AD c1 (A9 [.Name y py3,.List [] pl] X.env)).all (λx=>!x.1)&&(backToKw c1 (keywordEach [] X.env)).all (λx=>x.1.isSome)&&decide ([Expr.Name y py3,.List [] pl].length+([]:O AC).length+(if([]:O AC).isEmpty then 0 else 1)<30))=true:=by rfl)
  (g8:((AD c2 (A9 [ev] X.env)).all (λx=>!x.1)&&(backToKw c2 (keywordEach [] X.env)).all (λx=>x.1.isSome)&&decide ([ev].length+([]:O AC).length+(if([]:O AC).isEmpty then 0 else 1)<30))=true:=by rfl)
  (g9:(a1.endLine==c1.line)=true:=by rfl) (g0:(a2.endLine==c2.line)=true:=by rfl)
  (s4:swapsWith (.Call (.Attribute (.Call (.Attribute (.Name x px) "setdefault" a1) [.Name y py3,.List [] pl] [] c1) "append" a2) [ev] [] c2) Y3 p4.line X.env=pure false:=by rfl):
  RD X (.For (.Name w pw) iter [.Assign [.Name y py] e1 p1,.If c [.Assign [.Name y py2] e2 p2] [] p3,.Expr (.Call (.Attribute (.Call (.Attribute (.Name x px) "setdefault" a1) [.Name y py3,.List [] pl] [] c1) "append" a2) [ev] [] c2) p4] [] pos) (Dy i j k fi f1 p f2 fv):=by
 have e8:PE X (.Call (.Attribute (.Call (.Attribute (.Name x px) "setdefault" a1) [.Name y py3,.List [] pl] [] c1) "append" a2) [ev] [] c2) (YJ X i j fv):=
  KY yA PySem.F.slot_list_append PySem.F.type_list_append tD
   (KY PySem.F.plainAttrs_dict PySem.F.slot_dict_setdefault PySem.F.type_dict_setdefault PY (oV (i:=i) xi vi dx cx) (bD (oV (i:=j) xj vj dy cy) (bD (Wm fQ) fQ rfl) (by rw[d0]<;>rfl)) e6 f6 g9 (by rw[d0]<;>rfl) rfl)
   (bD hv.run fQ (by rw[e5]<;>rfl)) f3 g8 g0 (by rw[e5]<;>rfl) rfl
 refine⟨V3 (We (OD hp hc hi.run (L2.jB hN xk lk fk) (jA (Ow (pos:=p1) (pos':=py) hN xj lj h1.run s1 fj) (jA (Rm (pos:=p3) g7.run (nQ (Ow (pos:=p2) (pos':=py2) hN xj lj h2.run s2 fj)) Aq) (nQ (Ii e8 s4)))) hs)) λDe σ H h=>?_⟩;obtain⟨H0,ρ,r,E,e,q⟩:=h;unfold Dy at e;split at e
 ·rename_i a6;split at e;rotate_left
  ·cases e
  rename_i h5;obtain⟨ds,ed,e⟩:=AV e;obtain⟨m,em,e⟩:=AV e;cases e;obtain⟨v,P,D,ks,rfl,hD,rm,_⟩:=E.val i _ a6;have f7:ks=[]:=dt.mp (by rw[rm.len];rfl);subst f7;have h4:i<ρ.length:=(cc.mp a6).1;have fr:∀(q:Nat) b,(((ρ.set i Y3).set j Y3).set k Y3)[q]?=Z (Z b)->q≠i/\q≠j/\q≠k/\ρ[q]?=Z (Z b):=λq b e=>by
   obtain⟨s,e⟩:=JK e;obtain⟨B,e⟩:=JK e;obtain⟨n3,e⟩:=JK e;exact⟨n3,B,s,e⟩
  have e7:(((ρ.set i Y3).set j Y3).set k Y3).length=ρ.length:=by simp
  generalize ((ρ.set i Y3).set j Y3).set k Y3=ρ0 at *
  have E0:aY X.K H0 H σ ρ0:=E.forget e7.symm λq b e=>(fr q b e).2.2.2;refine⟨H0,ρ0,ds,E0,ed,λJ H1 d6 y=>?_⟩;have E1:=E0.grow d6;have c0:=d6 _ _ hD;have c4:∀(q:Nat) c a,ρ0[q]?=Z (Z c)->loose c=true->σ[q]?=Z (Z (.ref a))->a≠D:=λq c a e1 e2 e3 z=>by
   subst z;obtain⟨s,_,_,e⟩:=fr q c e1;exact s (E.own i q _ a c a6 rfl P e e2 e3).symm
  have Y:B4 X.K J ds (pG (cV H1 σ ρ0) D):=by
   refine y _ (pZ.trans lZ) (λa C=>?_) (λa o u C=>?_) λa vs C=>?_
   ·rw[jE λz=>by rw[z,hD]at C;cases C];unfold cV;rw[zS];rintro⟨q,c,e1,ec,e2⟩;obtain⟨v,e3,rc⟩:=E0.val q _ e1;exact Cb E0 q c a e1 (by cases c<;>first|rfl|cases ec) e2 C
   ·rw[jE λz=>by rw[z,c0]at C;cases C];exact eF E1 (λvs z=>by rw[C]at z;cases z) λvs z=>by rw[C]at z;cases z
   ·rw[jE λz=>by rw[z,c0]at C;cases C];exact eF E1 (λvs z=>by rw[C]at z;cases z) λvs z=>by rw[C]at z;cases z
  have sub:AX H0 (pG (cV H1 σ ρ0) D):=λb o eb=>by
   rw[jE λz=>by rw[z,E.new i _ D a6 rfl P]at eb;cases eb];exact E1.sub b o eb
  have ES:aY X.K (pG (cV H1 σ ρ0) D) H1 σ ρ0:=by
   have:=E1.sans;exact⟨this.len,this.val,this.own,pZ.trans lZ,λq c a e1 ec e2=>by
    unfold pG;split
    ·rfl
    ·exact this.new q c a e1 ec e2⟩
  generalize d5:pG (cV H1 σ ρ0) D=Hs at Y sub ES;have e9:Hs D=Y3:=by rw[<-d5];exact zo rfl
  clear d5;refine⟨λn m' σ' H'=>m'=ds.length-n/\n<=ds.length/\(∀q,q≠j->q≠k->σ'[q]?=σ[q]?)/\∃gs,aY X.K Hs H' σ' ρ0/\Gp X.K H' D gs/\(∀a∈Dz D gs,Hs a=Y3)/\DZ (Dz D gs) σ ρ0/\JH k j f1 p f2 fv ρ0 (ds.drop n) (Hq gs)=Z m,⟨ds.length,by simp,qc _,λ_ _ _=>rfl,[],ES,⟨c0,λg L=>(by cases L),QQ,QQ⟩,λa C=>by rw[bo.mp C];exact e9,λq c a e1 e2 e3 z=>c4 q c a e1 e2 e3 (bo.mp z),em⟩,?_⟩;rintro n m' σ' H' ⟨rfl,hn,b4,gs,U,G,d2,S,f⟩;obtain⟨y1,y2⟩:=Y n H' U.base;by_cases b6:n<ds.length
  ·right;have hd:ds[n]?=Z ds[n]:=by simp[b6]
   obtain⟨go,yl⟩:=y1 _ hd;rw[yb b6]at f;simp only[JH]at f;obtain⟨b1,f8,f⟩:=AV f;refine⟨go,λc3 H2=>(∀q,q≠j->q≠k->c3[q]?=σ[q]?)/\∃gs,aY X.K Hs H2 c3 ρ0/\Gp X.K H2 D gs/\(∀a∈Dz D gs,Hs a=Y3)/\DZ (Dz D gs) σ ρ0/\JH k j f1 p f2 fv ρ0 (ds.drop (n+1)) (Hq gs)=Z m,λc3 H2 ⟨z1,z2⟩=>⟨ds.length-(n+1),by omega,rfl,b6,z1,z2⟩,λxv H2 yy=>?_⟩;obtain⟨Kw,rx⟩:=yl xv H2 yy;have Ek:aY X.K Hs H2 (σ'.set k (Z xv)) (ρ0.set k (Z (.z ds[n]))):=(U.grow Kw).set (b:=.z ds[n]) (AX.refl H2) rx (.inr rfl) trivial;cases b1 with
   |z d1=>
    obtain⟨t,et,f⟩:=AV f;obtain⟨b2,b0,f⟩:=AV f;refine⟨Hs,_,_,Ek,f8,λv1 H3 s3 n3 r3=>?_⟩;have E3:aY X.K Hs H3 ((σ'.set k (Z xv)).set j (Z v1)) ((ρ0.set k (Z (.z ds[n]))).set j (Z (.z d1))):=Ek.set (b:=.z d1) s3 r3 (.inr rfl) trivial;have G3:=(G.same Kw).same s3;split at f
    ·rename_i yk;obtain⟨v,f4,f⟩:=AV f;split at f
     ·rename_i xd;split at f
      ·rename_i d4;have c5:∀I H5,aY X.K Hs H5 I (((ρ0.set k (Z (.z ds[n]))).set j (Z (.z d1))).set j (Z (.z (.int yk))))->AX H3 H5->(∀q,q≠j->q≠k->I[q]?=σ'[q]?)->YJ X i j fv I H5 (λ_ H'=>(∀q,q≠j->q≠k->I[q]?=σ[q]?)/\∃gs,aY X.K Hs H' I ρ0/\Gp X.K H' D gs/\(∀a∈Dz D gs,Hs a=Y3)/\DZ (Dz D gs) σ ρ0/\JH k j f1 p f2 fv ρ0 (ds.drop (n+1)) (Hq gs)=Z m):=λI H5 E5 s5 a5=>by
        have ag:∀q,q≠j->q≠k->I[q]?=σ[q]?:=λq s B=>(a5 q s B).trans (b4 q s B);have up:∀(q:Nat) b,ρ0[q]?=Z (Z b)->(((ρ0.set k (Z (.z ds[n]))).set j (Z (.z d1))).set j (Z (.z (.int yk))))[q]?=Z (Z b):=λq b e=>by
         obtain⟨_,s,B,_⟩:=fr q b e;rw[pA _ s,pA _ s,pA _ B];exact e
        have dn:∀(q:Nat) b,loose b=true->(((ρ0.set k (Z (.z ds[n]))).set j (Z (.z d1))).set j (Z (.z (.int yk))))[q]?=Z (Z b)->ρ0[q]?=Z (Z b):=λq b hl e=>by
         rcases BA e with⟨_,z,_⟩|⟨_,e⟩
         ·cases z;cases hl
         ·rcases BA e with⟨_,z,_⟩|⟨_,e⟩
          ·cases z;cases hl
          ·rcases BA e with⟨_,z,_⟩|⟨_,e⟩
           ·cases z;cases hl
           ·exact e
        refine SF (Q:=λI H'=>(∀q,q≠j->q≠k->I[q]?=σ[q]?)/\∃gs,aY X.K Hs H' I ρ0/\Gp X.K H' D gs/\(∀a∈Dz D gs,Hs a=Y3)/\DZ (Dz D gs) σ ρ0/\JH k j f1 p f2 fv ρ0 (ds.drop (n+1)) (Hq gs)=Z m) E5 (yE _ (by simp;omega)) ((ag i e4 c8).trans P) f4 (G3.same s5) d2 (λq c a e1 e2 e3=>?_) (by have:=d4.1;simpa[Hq]using this) (λg L=>d4.2 _ (bc.mpr ⟨g,L,rfl⟩)) λH6 M E6 G6 h6 S6 eM=>⟨ag,M,E6.forget (by simp) up,G6,h6,λq c a e1 e2 e3=>?_,by rw[eM];exact f⟩
        ·have e0:=dn q c e2 e1;obtain⟨_,s,B,_⟩:=fr q c e0;exact S q c a e0 e2 (by rw[<-ag q s B];exact e3)
        ·obtain⟨_,s,B,_⟩:=fr q c e1;exact S6 q c a (up q c e1) e2 (by rw[ag q s B];exact e3)
       have a3:∀q,q≠j->q≠k->((σ'.set k (Z xv)).set j (Z v1))[q]?=σ'[q]?:=λq s B=>by rw[pA _ s,pA _ B]
       refine⟨Hs,_,t,E3,et,λH4 a4=>?_⟩;cases t with
       |true=>
        rw[zo rfl]at b0 ⊢;refine⟨Hs,_,_,E3.grow a4,b0,λv2 H5 s5 n5 r5=>?_⟩;exact c5 _ _ ((E3.grow a4).set (b:=.z (.int yk)) s5 r5 (.inr rfl) trivial) (a4.trans s5) λq s B=>by rw[pA _ s];exact a3 q s B
       |false=>
        rw[zS zC]at b0 ⊢;cases b0;exact c5 _ _ (by rw[List.set_set];exact E3.grow a4) a4 a3
      ·cases f
     ·cases f
    ·cases f
   |l _=>cases f
   |o _=>cases f
   |n _=>cases f
   |m _ _=>cases f
  ·left;have d3:ds.length<=n:=by omega
   rw[dP d3]at f;cases f;refine⟨y2 d3,gs.map (·.2.1),G.a,λa C=>?_,λH2 kp o1 o2=>?_⟩
   ·obtain⟨g,L,rfl⟩:=bc.mp C;obtain⟨vs,e,_⟩:=G.l g L;exact⟨vs,e⟩
   ·have b5:∀(q:Nat) c,ρ0[q]?=Z (Z c)->σ'[q]?=σ[q]?:=λq c e=>let ⟨_,s,B,_⟩:=fr q c e;b4 q s B;have f0:D∉gs.map (·.2.1):=λz=>by
     obtain⟨g,L,e⟩:=bc.mp z;obtain⟨vs,e2,_⟩:=G.l g L;rw[e,G.d]at e2;cases e2
    have W:aY X.K H0 H2 σ' ρ0:=U.move (as:=gs.map (·.2.1)) (λq c a e1 e2 e3 z=>S q c a e1 e2 (by rw[<-b5 q c e1];exact e3) (zh _ z)) kp o1 (λb o eb=>by
     have b3:=sub b o eb;rw[o1 b λz=>by rw[d2 b (zh _ z)]at b3;cases b3];exact U.base b o b3) λq c a e1 ec e2=>sub.free (U.new q c a e1 ec e2)
    have a7:σ'[i]?=Z (Z (.ref D)):=(b4 i e4 c8).trans P;have rD:aX X.K H2 (.m ((Hq gs).map λq=>(Sum.inl q.1,Dt.lst q.2)) Y3) (.ref D):=by
     refine⟨D,_,rfl,(o1 D f0).trans G.d,⟨?_,?_,?_⟩,λb h=>by cases h⟩
     ·unfold Hq;rw[ZY,ZY,ZY];rfl
     ·have:∀M:O (Int×A1×O Dt),(∀g∈M,g∈gs)->aG X.K H2 (((Hq M).map λq=>((Sum.inl q.1:An),Dt.lst q.2)).map (·.2)) ((M.map λg=>((Sum.inl g.1:An),V.ref g.2.1)).map (·.2)):=by
       intro M
       induction M with
       |nil=>intro _;exact aG.nil
       |cons g M ih=>
        intro h;refine aG.cons ?_ (ih λg L=>h g (zh _ L));obtain⟨vs,e1,r1⟩:=G.l g (h g (zg ..));obtain⟨o,h0,e2,e3⟩:=o2 g.2.1 (bc.mpr ⟨g,h g (zg ..),rfl⟩);rw[e1]at e2;cases e2;simp only[AY];exact⟨g.2.1,vs,rfl,.inl ⟨o,e3⟩,r1.kp kp⟩
      exact this gs λ_ h=>h
     ·intro pr f5;obtain⟨g,_,rfl⟩:=bc.mp f5;trivial
    refine q σ' H2 ⟨by rw[QE];exact W.len,λq b e=>?_,λq1 q2 c a b g1 g2 g3 g4 g5 g6=>?_,W.base,λq c a g1 g2 g3=>?_⟩
    ·rcases BA e with⟨rfl,z,_⟩|⟨s,e⟩
     ·cases z;exact⟨_,a7,rD⟩
     ·exact W.val q b e
    ·rcases BA g1 with⟨rfl,z,_⟩|⟨s,k1⟩
     ·cases z;rw[a7]at g3;cases g3;rcases BA g4 with⟨rfl,_,_⟩|⟨B,k4⟩
      ·rfl
      ·exact absurd rfl (c4 q2 b _ k4 g5 (by rw[<-b5 q2 b k4];exact g6))
     ·rcases BA g4 with⟨rfl,z,_⟩|⟨B,k4⟩
      ·cases z;rw[a7]at g6;cases g6;exact absurd rfl (c4 q1 c _ k1 (by cases c<;>first|rfl|cases g2) (by rw[<-b5 q1 c k1];exact g3))
      ·exact W.own q1 q2 c a b k1 g2 g3 k4 g5 g6
    ·rcases BA g1 with⟨rfl,z,_⟩|⟨s,g1⟩
     ·rw[a7]at g3;cases g3;exact E.new _ _ _ a6 rfl P
     ·exact W.new q c a g1 g2 g3
 ·cases e
end
end P1
namespace P1
open L2 S6
section
variable{kx vx t1 i1 t2 i2:Expr}{f1 f2:O Expr}{xs:Ap}{g1 g2:Dt->Ev->Y Ev}{p1 p2:Ev->Y Bool}{fi1 fi2:Ev->Y (O Dt)}
end
end P1
namespace P1
open L2
section
variable{e:α->Dt}{e0:β->Dt}{fd f2:Ev->Y Bx}{kk:Ev->Y As}{cO:γ->As}
abbrev mI(e:α->Dt):O (Int×α)->Bx:=λm=>.m (m.map λq=>(kI q.1,e q.2)) Y3
abbrev nI(e:α->Dt):O (Int×α)->Bx:=λm=>.n (m.map λq=>(kI q.1,e q.2))
def UZ(e:α->Dt):R (λ_=>Z (.m [] Y3)) ρ (mI e):=⟨[],Y3,λ_=>S⟩
def a8[Inhabited α](a:R fa ρ (nI e))(b:R fb ρ (zE eI)):R (b2 GP fa fb) ρ (zE e):=⟨look a.v b.v,aW (aW a.D b.D) (Z (has a.v b.v=true)),λh=>by
 obtain⟨h,d⟩:=aq h;obtain⟨h1,h2⟩:=aq h;simp only[b2,a.ok h1,b.ok h2,Au,GP,DM,Yz (c:=kI) (show has a.v b.v=true from d)]⟩
def ba(a:R fd ρ (nI e)):R (Sd fd) ρ (iE eI):=⟨a.v.map (·.1),a.D,λh=>by
 simp only[Sd,a.ok h,Au,D3,ZY];rfl⟩
def M9(k:β->Int)(v:β->α)(xs:O β):O (Int×O α):=xs.foldl (λm x=>sU m (k x) (v x)) []
theorem YM(m:O (Int×O α))(k:Int)(x:α):sU (m.map λq=>(q.1,q.2.map e)) k (e x)=(sU m k x).map λq=>(q.1,q.2.map e):=by
 unfold sU;rw[KU];simp only[Function.comp_def];by_cases h:(m.any λq=>decide (q.1=k))=true
 ·rw[zo h,zo h,ZY,ZY];refine ZT λq _=>?_;simp only[Function.comp];split<;>simp
 ·rw[zS h,zS h];simp
theorem YQ(m:O (Int×O α))(k:Int)(x:α)(n:Nat)(h:m.length<=n/\∀q∈m,q.2.length<=n):(sU m k x).length<=n+1/\∀q∈sU m k x,q.2.length<=n+1:=by
 unfold sU;split
 ·refine⟨by rw[zk];omega,λq a=>?_⟩;obtain⟨b,h',rfl⟩:=bc.mp a;have:=h.2 b h';split
  ·simp;omega
  ·omega
 ·refine⟨by simp;omega,λq a=>?_⟩;rcases cf.mp a with a|a
  ·have:=h.2 q a;omega
  ·cases bo.mp a;simp
theorem YS{k j:Nat}{K:β->Int}{V:β->α}:∀(xs:O β) (m:O (Int×O α)) (n:Nat),(∀x∈xs,∃y1 t,f1 (ρ.set k (Z (.z (e0 x))))=Z (.z (.int y1))/\p ((ρ.set k (Z (.z (e0 x)))).set j (Z (.z (.int y1))))=Z t/\(if t=true then f2 ((ρ.set k (Z (.z (e0 x)))).set j (Z (.z (.int y1))))else Z (.z (.int y1)))=Z (.z (.int (K x)))/\fv (((ρ.set k (Z (.z (e0 x)))).set j (Z (.z (.int y1)))).set j (Z (.z (.int (K x)))))=Z (.z (e (V x)))) →
  (m.length<=n/\∀q∈m,q.2.length<=n)->n+xs.length<1000->JH k j f1 p f2 fv ρ (xs.map e0) (m.map λq=>(q.1,q.2.map e))=Z ((xs.foldl (λm x=>sU m (K x) (V x)) m).map λq=>(q.1,q.2.map e))
 |[],m,n,_,_,_=>rfl
 |x::xs,m,n,h,hm,hl=>by
  obtain⟨y1,t,h1,h2,a,b⟩:=h x (zg ..);rw[zr,ja];simp only[JH,h1,Au,h2,a,b];simp only[ZN]at hl;rw[zo ⟨by rw[zk];have:=hm.1;omega,λq f=>by
   obtain⟨c,h',rfl⟩:=bc.mp f;have:=hm.2 c h';simp only[zk];omega⟩,YM]
  exact YS xs _ (n+1) (λy d=>h y (zh _ d)) (YQ m _ _ n hm) ()
def NI(i j k:Nat)(o:O (Int×O α))(hi:ρ[i]?=Z (Z (mI (eL e) o)))(s:j<ρ.length){ρ0:Ev}(h0:((ρ.set i Y3).set j Y3).set k Y3=ρ0)(it:R fi ρ0 (iE e0))(a:∀x,R f1 (ρ0.set k (Z (.z (e0 x)))) (zE eI))(c:∀x (y:Int),R p ((ρ0.set k (Z (.z (e0 x)))).set j (Z (.z (.int y)))) tE)(b:∀x (y:Int),R f2 ((ρ0.set k (Z (.z (e0 x)))).set j (Z (.z (.int y)))) (zE eI))
  (v:∀x (y1 y:Int),R fv (((ρ0.set k (Z (.z (e0 x)))).set j (Z (.z (.int y1)))).set j (Z (.z (.int y)))) (zE e)) (K:∀m:O (Int×O α),R kk (ρ0.set i (Z (mI (eL e) m))) cO):R (aH (Dy i j k fi f1 p f2 fv) kk) ρ cO:=
 let d:=λx=>if(c x (a x).v).v=true then(b x (a x).v).v else(a x).v
 ⟨(K (M9 d (λx=>(v x (a x).v (d x)).v) it.v)).v,aW (aW (aW (aW (Z (o=[])) it.D) (Z (it.v.length<1000))) (Yw it.v λx=>aW (a x).D (aW (c x (a x).v).D (aW (yQ ((c x (a x).v).v=true) (b x (a x).v).D) (v x (a x).v (d x)).D)))) (K (M9 d (λx=>(v x (a x).v (d x)).v) it.v)).D,λhd=>by
 obtain⟨h,w⟩:=aq hd;obtain⟨h,g⟩:=aq h;obtain⟨h',h2⟩:=aq h;obtain⟨n,h1⟩:=aq h';have n:o=[]:=n;rw[n]at hi;have h2:it.v.length<1000:=h2;have g:∀x∈it.v,B6 (aW (a x).D (aW (c x (a x).v).D (aW (yQ ((c x (a x).v).v=true) (b x (a x).v).D) (v x (a x).v (d x)).D))):=g;rw[lV (ρ':=ρ0.set i (Z (mI (eL e) (M9 d (λx=>(v x (a x).v (d x)).v) it.v)))) (by
  unfold Dy;rw[show ρ[i]?=Z (Z (Bx.m [] Y3)) from hi];simp only[zo s,h0,it.ok h1,Au];have:=YS (ρ:=ρ0) (k:=k) (j:=j) (f1:=f1) (p:=p) (f2:=f2) (fv:=fv) (e:=e) (e0:=e0) (K:=d) (V:=λx=>(v x (a x).v (d x)).v) it.v [] 0 (λx hx=>by
   obtain⟨A,d2⟩:=aq (g x hx);obtain⟨d2,l⟩:=aq d2;obtain⟨l,u⟩:=aq l;refine⟨(a x).v,(c x (a x).v).v,(a x).ok A,(c x (a x).v).ok d2,?_,(v x (a x).v (d x)).ok u⟩;by_cases f:(c x (a x).v).v=true
   ·rw[zo f,(b x (a x).v).ok (jc l f)];simp only[d,zo f]
   ·rw[zS f];simp only[d,zS f]) ⟨zi _,λq B=>by cases B⟩ (by simpa using h2)
  rw[kl]at this;rw[show(iE e0) it.v=it.v.map e0 from rfl,this,Au];congr 5;rw[ZY];rfl)]
 exact(K _).ok w⟩
end
section
variable{e:α->Dt}{fs:Ev->Y (O Dt)}
end
section
variable{a:Expr}
end
theorem dJ{bs:O Bx}{c:α->Bx}{v:α}{D:Y Prop}(x:RP g (bs.map Z++ab (n-bs.length) Y3) (λr=>As.rt (c r)) v D)(h:B6 D):fL n g bs=Z (c v):=Yv x.r h
section
variable{e:α->Dt}
end
open PySem.Builtin PySem.Builtin.Str
section
variable{o:Expr}{fx:Ev->Y Bx}
end
section
variable{g:Ev->Y AJ}
end
section
variable{e1 e3:Expr}{gr:Ev->Y As}{fx:Ev->Y Dt}{tR tQ:TS}{xr xj y1 y2:AJ}{AU no:O AB}{kk:Nat}{p0 p00 p01 p02 q1 q2 pt pj pa px pb pif pf2 px3 a1 c1 pe1 pr a2 pj2 c2 pe2:Pos}
end
section
variable{e:α->Dt}{ea:β->Dt}{eb:δ->Dt}{kk:Ev->Y As}{cO:γ->As}
end
end P1
namespace P1
open L2 S1
section
variable{k:Nat}{f:A1}{p:Pos}
end
end P1
namespace P1
open L2 S1 S6
theorem IL{p:O α->Prop}(h:p []):∀us:O α,us.length=0->p us
 |[],_=>h
section
variable{e:α->Dt}{g:Ev->Y Bx}{c:α->Bx}
end
def ER(d:Dt):R (cB d) ρ (zE eD):=sy d eD d rfl
def B9(i:Int):R (cB (.int i)) ρ (zE eI):=sy (.int i) eI i rfl
def F5(s:AJ):R (cB (.str s)) ρ (zE eS):=sy (.str s) eS s rfl
abbrev Nn(K:B5)(n:AJ)(f:A1):Prop:=nsIn K mainGlobals n=Z (Z (.ref f))
abbrev Lk(K:B5)(f:A1)(n:AJ)(st:AB)(e:A0)(a:Y A1)(sl:Array (Y A0))(kV c pm:A0)(d:Y A1)(b ct:A0):Prop:=K.lookup f=Z ⟨e,a,.func (fnOf n n (pX st) (iG st) (aO st) .none kV c pm d b ct),sl⟩
end P1
namespace P1
open L2
section
variable{e:α->Dt}
end
section
variable{Ex:BC}{outer:O Env}{L e T:A1}{C fl:A0}{dx:Y A1}{Q:Unit->A2->Prop}
end
section
variable{H':Hp}{h':A6}{ch:O A1}
end
section
variable{h:A6}{g:Array GenState}{d:Drawn}{t:Nat}{fI e:A1}{AU:O A0}{B:String}
end
section
variable{h:A6}{g:Array GenState}{d:Drawn}{t:Nat}{e:A1}
end
section
variable{h:A6}{g:Array GenState}{d:Drawn}{t:Nat}{e dx:A1}{v:A0}{vs:Array A0}{sl:Array (Y A0)}{m:AJ->Y A0}
end
section
variable{o value:Expr}{tv:TE}{f:AJ}{pos' p:Pos}{B:String}{t:TA}
end
section
variable{f:AJ}{p:Pos}{B:String}
end
section
variable{E:XK}
end
section
variable{Cn f:A1}{iv iy k:Nat}{n cn:AJ}{np hp p py pa:Pos}{b0:AB}{ts:A1->TS}{tf:TE}{t:TA}
end
section
variable{d:A1}{fs:O (AJ×V)}{f:AJ}{o:Expr}
end
section
variable{f:AJ}{E:XK}{gy:Ev->Y Dt}{p:Pos}{AU a b:O AB}{B:String}{pc:Ev->Y Bool}
end
section
variable{k:Nat}{f h:A1}{fs:Ev->Y (O Bx)}{p q:Pos}
end
end P1
namespace P1
open L2 S6
section
variable{xs:Ap}
end
section
variable{se:Expr}{fS:Ev->Y Ap}{fx:Ev->Y Dt}{no AU:O AB}{tR tQ:TS}{p0 p02 px pb pif pk:Pos}{f:AJ}{E:XK}
end
end P1
namespace P1
open L2
section
variable{e1 e3:Expr}{gr:Ev->Y As}{xr xj y1 y2:AJ}{AU no:O AB}{kk:Nat}{p0 p00 p01 p02 q1 q2 pt pj pa px pb pif pf2 px3 a1 c1 pe1 pr a2 pj2 c2 pe2:Pos}{fx:Ev->Y Dt}{f:AJ}{E:XK}
end
section
variable{Cn f:A1}{iv k:Nat}{n cn:AJ}{np hp p pa:Pos}{b0:AB}{ts:A1->TS}{tf:TE}{t:TA}
end
section
variable{fx:Ev->Y Bx}
def hoI(f:Ev->Y Bx):Ev->Y Bx:=λρ=>(f ρ).bind λb=>match b with
 |.z (.int i)=>if 0<=i/\i<1000000 then Z (.z (.str (toString i)))else Y3
 |_=>Y3
end
section
variable{xs:Array A0}
end
theorem tH:∀{AT:O A0} {ns:O Int},IntsAre AT ns->AZ (ns.map V.int) AT
 |_,_,.nil=>.nil
 |_,_,.cons y t h=>.cons ⟨t,rfl⟩ (tH h)
section
variable{e:α->Dt}
end
section
variable{e:α->Dt}{ea:β->Dt}{eb:δ->Dt}{fx:Ev->Y Dt}
end
def YT:Bx->Bx->Y Bx
 |.o ds,.z (.int k)=>if 0<=k/\k<=1000/\ds.length<=1000 then Z (.o (ab k.toNat ds).flatten)else Y3
 |_,_=>Y3
theorem Nb{K:B5}{H:Hp}{ds:O Dt}{vs:O V}(r:aG K H ds vs):∀n:Nat,aG K H (ab n ds).flatten (ab n vs).flatten
 |0=>aG.nil
 |n+1=>by
  rw[qo,qo,Zs,Zs];exact r.append (Nb r n)
theorem XN:z9 X (binaryOp .Mult) YT:=rz.imp SD λx y H Q q=>by
 obtain⟨a,b,c,h,f,e,q⟩:=q;unfold YT at e;split at e
 ·rename_i ds k;split at e
  ·rename_i hk;cases e;obtain⟨l,vs,rfl,g,d⟩:=h;obtain rfl:y=.int k:=by simpa only[aX,AY]using f
   have i:=d.length;have h1:vs.length*k.toNat<=1000*1000:=Nat.mul_le_mul () ();refine⟨l,k,vs,rfl,rfl,g,by omega,by omega,zv h1 (),λp hp=>q _ _ (bf hp) (λa ea=>by cases ea;exact hp) ⟨p,_,rfl,aJ,?_⟩⟩;exact(Nb d k.toNat).kp (.of (bf hp))
  ·cases e
 ·cases e
def XU{e:α->Dt}(a:R fa ρ (oE e))(b:R fb ρ (zE eI)):R (b2 YT fa fb) ρ (oE e):=⟨(ab b.v.toNat a.v).flatten,aW (aW a.D b.D) (Z (0<=b.v/\b.v<=1000/\a.v.length<=1000)),λh=>by
 obtain⟨h,c⟩:=aq h;obtain⟨h1,h2⟩:=aq h;have c:0<=b.v/\b.v<=1000/\a.v.length<=1000:=c;simp only[b2,a.ok h1,b.ok h2,Au,YT,oE,zE,eI,zk];rw[zo c];have:∀n:Nat,(ab n (a.v.map e)).flatten=(ab n a.v).flatten.map e:=by
  intro n
  induction n with
  |zero=>rfl
  |succ n d=>rw[qo,qo,Zs,Zs,ZE,d]
 rw[this]⟩
section
variable{e:α->Dt}{g:Ev->Y β}{c:γ->β}
end
section
variable{E:XK}
end
section
variable{f:AJ}{E:XK}{fs:Ev->Y (O Bx)}{gy:Ev->Y Dt}{p p1 epos:Pos}{AU:O AB}
end
section
variable{o:Expr}
def YW:Dt->Bool
 |.non=>true
 |.tup _=>true
 |_=>false
def LF:Dt->Bool
 |.non=>true
 |_=>false
end
section
variable{o l:Expr}{fs:Ev->Y (O Bx)}{z:AJ}
end
instance {σ τ:Type} [Inhabited σ]:Inhabited (Kv σ τ):=⟨.nx default⟩
section
variable{e:α->Dt}
theorem YX(a:∀x,∃ds,e x=.tup ds)(ys:O (Y α)):(ys.map (eO e)).all YW=true/\(LF ∘ eO e)=Option.isNone:=by
 refine⟨?_,?_⟩
 ·rw[Qb];intro d hd;obtain⟨o,_,rfl⟩:=bc.mp hd;cases o with
  |none=>rfl
  |some x=>obtain⟨ds,q⟩:=a x;show YW (e x)=true;rw[q];rfl
 ·funext o;cases o with
  |none=>rfl
  |some x=>obtain⟨ds,q⟩:=a x;show LF (e x)=false;rw[q];rfl
end
section
variable{o:Expr}{fx fy:Ev->Y Bx}
end
section
variable{f:AJ}{E:XK}{gy:Ev->Y Dt}{sts AU:O AB}{p0 p00 p01 p02:Pos}
end
structure DQ (K:B5) (mg:Str->Option Value) (x:Str) (st:Stmt) (ps:Ap) where
 f:Addr
 fd:FuncData
 F:Aw K x x st f fd
 b:BE K fd ps []
 m:mg x=some (.ref f)
 k:keepIn K (.ref f)=true
def m7{f:A1}{g b:Y A1}{sl:Array (Y A0)}{n kV m d ct:A0}{h:A6}(X:K.In h)(G:h.Ns mainGlobals mg)(a:Nn K x f)(l:Lk K f x st n g sl kV m pm b d ct)(c:codeIn K d x=true)(k:keepIn K (.ref f)=true)(j:∀(kV e pm:A0) (b:Y A1) (i ct:A0) (us:O A0),us.length=ps.length->bindArgs (fnOf x x (pX st) (iG st) (aO st) .none kV e pm b i ct) ⟨us,[]⟩=pure (ps.zip us):=by intro _ _ _ _ _ _;first|exact P1.HV λ_=>S|exact P1.GN λ_ _=>S|exact P1.YO λ_ _ _=>S|exact P1.Sj λ_ _ _ _=>S|exact P1.NJ λ_ _ _ _ _=>S|exact P1.IL S):DQ K mg x st ps:=
 ⟨f,_,WK l c k,(WK l c k).binds j,mg_of X G a,k⟩
abbrev Ok(P:A3)(w:A4)(base:A6)(d:DQ K mg x st ps)(k n:Nat)(F:O Bx->Y Bx):Prop:=jx P w K mg base uH k d.f d.fd ps (Pb K n F)
theorem JL{k:Nat}(d:DQ K mg x st ps)(S:bH N ps (aO st))(e:∀(a:A0) (A:A5) (outer:O Env) (s:A2) (H:Hp) (E:XK),jW k (A.deeper (AK x (aO st) s.heap.objs.size d.f a))->(A.deeper (AK x (aO st) s.heap.objs.size d.f a)).units+100<cLine->N.Nodup->Ui (BJ uH P w K mg base N x (aO st) d.f a A outer s H E).ZS (iG st) g)(hn:N.length=n:=by rfl)(c:ps.length=m:=by rfl):Ok P w base d (k+1) m (fL n g):=MA d.F S hn c λa A outer s H E b=>e a A outer s H E b (tU b) S.nd
section
variable{k:Nat}{fs:Ev->Y (O Bx)}{p:Pos}
theorem fX(d:DQ X.K X.mg x st ps)(G:Ok X.prog X.w X.base d k n F)(a:jW m X.A)(c:Uh X (e::es) fs)(f:Gl X x:=by rfl)(i:k<=m:=by decide)(h:ad x:=by decide)(he:A9 (e::es) X.env=(false,eval e X.env)::A9 es X.env:=by rfl)(g:(AD pos (A9 es X.env)).any (·.1)=false:=by rfl):QV X (.Call (.Name x p) (e::es) [] pos) (cX n F fs):=
 p7 G (a.mono i) f d.m d.k d.b c h he g
end
theorem Ee{l:PySem.W.OpenLaw}{q:A3}{loose:Ap}{d:DefRec}{K:Params->B5}{T:B5->(AJ->Y A0)->Type}{k:Nat}{F_law:O Bx->Y Bx}(b:∀{K mg},T K mg->DQ K mg "law" st [x])(hk:jW k callerA)(hd:d.name ="law")(G:∀(w:A4) (mg:AJ->Y A0) (base:A6) (t:T (K w.params) mg),Ok l.prog w base (b t) k 1 F_law)(hn:l.most=Z 63)(I:d.params.defaults=[])(h1:∀ns:O Int,ns.length<=63->F_law [.z (.lst (ns.map .int))]=Z (.z (.bl true)))(h2:∀ns:O Int,ns.length<=63->F_law [.l (ns.map .int)]=Z (.z (.bl true)))(D:∀(kV c pm:A0) (i:Y A1) (g ct u:A0),bindArgs (fnOf "law" "law" (pX st) (iG st) (aO st) .none kV c pm i g ct) ⟨[u],[]⟩=pure [(x,u)])(o:∀(w:A4) (h:A6),YP w h->(K w.params).In h)(A:∀(w:A4) (h:A6) (mg p:AJ->Y A0) (v:ExcName->Y A0) (B:Ap),(K w.params).In h->Top q B v mg p h->∃y,L2.Wy (K w.params) h y)(F:∀(w:A4) (mg:AJ->Y A0) (h:A6),(K w.params).In h->h.Ns mainGlobals mg->T (K w.params) mg):
  PySem.W.WalkO q loose XP YP l.row.toRowW d [] (λf vs=>PySem.call f vs):=
 L2.WD (n:=63) (k:=k) (x:=x) (CX:=uH) (sp:=λK=>Pb K 1 F_law) hn () I hk o (λw mg fa h X N e=>by
  have t:=F w mg h X N;have E:=(b t).m;rw[hd,E]at e;cases e;refine⟨(b t).fd,λs u=>?_,λbase _ _=>G w mg base t⟩;obtain⟨Q,P,kV,c,pm,i,g,ct,osl,e,L,M⟩:=(b t).F.ex;rw[e];exact .of_eq (D kV c pm i g ct u)) (λK H a ns J C j=>Z' h1 h2 K H a ns J C j) (λ_ _ _ _ z=>z) A
section
variable{k:Nat}{f:A1}{sp:A1->O V->Hp->VK->Prop}{p:Pos}{t:TA}
end
section
variable{p0 p1:Pos}{xs:Ap}{e:A1}{a:Expr}{ta:TA}
end
section
variable{f:AJ}{E:XK}{fs:Ev->Y (O Bx)}{p:Pos}
end
section
variable{h:A6}{g:Array GenState}{d:Drawn}{t:Nat}{AU:O A0}{B:String}
end
section
variable{E:XK}{p:Pos}{B:String}{k:Nat}{t:TA}
end
section
variable{p kp cp:Pos}{fs:Ev->Y (O Bx)}{j:Int}{kk:Nat}
end
section
variable{e:α->Dt}
end
section
variable{g:Ev->Y AJ}
variable{e:α->Dt}
end
section
variable{e:α->Dt}{σ' τ:Type}
def qE(e:α->Dt):Y (O α)->Bx
 |none=>.z .non
 |some l=>.o (l.map e)
def PH(e:α->Dt):Y (O α)->Bx
 |none=>.z .non
 |some l=>.l (l.map e)
class Hk (c:Option (List α)->Bx) (e:outParam (α->Dt)):Prop where
 d:∀v,toD (c v)=eO (eL e) v/\j5 (c v)=false
instance:Hk (qE e) e:=⟨λv=>by cases v<;>exact⟨rfl,rfl⟩⟩
instance:Hk (PH e) e:=⟨λv=>by cases v<;>exact⟨rfl,rfl⟩⟩
instance:Hk (zE (eO (eL e))) e:=⟨λv=>⟨rfl,rfl⟩⟩
end
section
variable{p:Pos}{fs:Ev->Y (O Bx)}
end
section
variable{e:α->Dt}
end
section
variable{e:α->Dt}
end
section
variable{AU:O AB}{ga:Ev->Y As}
end
section
variable{k:Nat}{f:A1}{Fa Fb:O Bx->Y Bx}{p spos:Pos}{fs:Ev->Y (O Bx)}
end
section
variable{e:α->Dt}
end
end P1
namespace P1
open L2 S1 S6
section
variable{e:α->Dt}
end
end P1
namespace P1
open L2
section
variable{e:α->Dt}
end
section
variable{R:Result->A2->Prop}{I:A1}{wr:O A1}{P:Nat->A0->Prop}{St:Nat->A6->Prop}
end
section
variable{e:α->Dt}
end
def D0{α:Type}:O α->O α
 |[]=>[]
 |x::xs=>x::D0 (xs.drop 5)
termination_by l=>l.length
decreasing_by simp;omega
section
variable{st:Expr}{fs:Ev->Y Bx}
end
section
variable{e:α->Dt}
end
section
variable{AU:O AB}{W:O Nat}
end
section
variable{e:α->Dt}
end
section
variable{st:O AB}{fr:Ev->Y Bx}{W:O Nat}{z:Pos}{Φ:Hp->Hp->L2.St->Ev->Prop}
end
section
variable{AU:O AB}
end
end P1
namespace P1
open L2 S6
section
variable{p p' pos':Pos}
end
end P1
namespace P1
open L2 S1
section
variable{T:O An->A0->Prop}(inj:∀ k l v,T k v->T l v->k=l)
include inj
end
end P1
namespace P1
open L2 S1 S6
section
variable{e:α->Dt}{e':β->Dt}
end
end P1
namespace P1
open L2
theorem Qt{pos':Pos}{c e:A0}(l:O A0)(h:TriplesOk l)(hn:codeAmong pos' (l++[rawInt pos.line,rawInt pos.col,c])=Z e):codeAmong pos' l=Z e\/e=c:=by
 fun_induction TriplesOk l with
 |case1=>
  simp only[Ki,codeAmong,rawInt]at hn;split at hn
  ·cases hn;exact .inr rfl
  ·cases hn
 |case2 a t b u x AU f=>
  simp only[List.cons_append,codeAmong]at hn ⊢;split at hn
  ·rename_i d;rw[zo d];exact .inl hn
  ·rename_i d;rw[zS d];exact f h hn
 |case3 l h1 h2=>exact h.elim
def Qu(K:B5)(c P:A1)(q:AJ):Prop:=∃o vs d tf a tg inF b tt x t,K.lookup c=Z o/\o.cls=.type "code" ∧ o.data=.fields vs/\vs[11]?=Z (.ref P)/\vs.getD 11 .none=.ref P/\vs.getD 18 .none=.str d tf ∧
 vs.getD 7 .none=.int a tg/\vs.getD 9 .none=.bool inF/\vs.getD 10 .none=.int b tt/\c≠P/\vs[1]?=Z (.str x t)/\x∈V7/\q=x++(".<locals>.<lambda>":AJ)
theorem Qu.tab{c P:A1}{q:AJ}(h:Qu K c P q):GU K P q:=by
 obtain⟨o,vs,_,_,_,_,_,_,_,x,t,a,_,d,e,_,_,_,_,_,_,f,g,i⟩:=h;exact⟨c,o,vs,x,t,a,d,f,g,e,i⟩
theorem Qu.hd{c P:A1}{q:AJ}(h:Qu K c P q){hp:A6}(k:K.In hp):PySem.W.CodeHd hp c P:=by
 obtain⟨o,vs,a1,a2,m,n,i,j,g,x,t,a,b,d,e,e1,e2,e3,l,f,p,_⟩:=h;exact⟨o,vs,a1,a2,m,n,i,j,g,k _ _ a,b,d,e,e1,e2,e3,l,f,p⟩
abbrev Af:HO:=.ext λ_=>True
structure Hr (H:Hp) (f:Addr) (q:Str) (params:Arguments) (body:Expr) (scope:Scope) (clos:List (Str×Addr)) (pm:Value):Prop where
 at_:∃c' ctv oc vs t,H f=some (.jo (kla_obj "<lambda>" q params body scope clos pm c' ctv) Af)/\H c'=some (.jo oc Af)/\oc.data=.fields vs/\vs[1]?=some (.str q t)
theorem Hr.same{H':Hp}{f:A1}{q:AJ}{body:Expr}{d:O (AJ×A1)}(h:Hr H f q params body scope d pm)(s:AX H H'):Hr H' f q params body scope d pm:=by
 obtain⟨c',e,g,vs,t,a,b,c⟩:=h.at_;exact⟨c',e,g,vs,t,s _ _ a,s _ _ b,c⟩
theorem JM{h:A6}{o:AE}(e:h.get? a=Z o):dw P w H h a (.jo o Af):=⟨e,trivial,⟨o,e⟩,λ_ _ _ _=>trivial⟩
theorem YZ{c P:A1}{q:AJ}{body:Expr}{J:O (AJ×A1)}{R:BC}(I:L2.AW X AN σ H s)(hK:Qu X.K c P q)(a5:X.env.code=.ref c)(hq:X.env.qual++("<lambda>":AJ)=q)(c0:defaultsOf params X.env=([],[]))(a7:closureFor scope X.env=pure J)(h:∀f H' s',L2.AW X AN σ H' s'->AX H H'->H f=Y3->Hr H' f q params body scope J ((X.mg "__name__").getD .none)->R (.ref f) s'):A7 M A (eval (.Lambda params body scope pos) X.env) R E s:=by
 refine PySem.W.kla_eval c0 ?_;rw[show X.env.qual++("<lambda>":AJ)=q from hq];obtain⟨ps,D,a4,d5⟩:=(I.ok.tabs.go I.base.uT) P q hK.tab;obtain⟨a6,B,G,a3⟩:=I.hok P _ D;have F:s.heap.Ns mainGlobals X.mg:=I.mod.glob.keeps I.bk;have C:=hK.hd I.kIn;obtain⟨L,N,b1,b2,b3,b4,b5,b6⟩:=I.mod.bmain;have d3:mainGlobals≠P:=λz=>by
  obtain⟨o,es,ep,e,hd,_⟩:=F;rw[z,B]at e;cases e;cases hd
 have x:=I.bk _ _ b3;have y:L≠P:=λz=>by rw[z,B]at x;cases x;cases b4
 have c3:L≠mainGlobals:=λz=>by
  obtain⟨o,es,ep,e,hd,_⟩:=F;rw[z,e]at x;cases x;rw[hd]at b6;cases b6
 have hB:s.heap.BuiltinsAt X.mg P:=⟨L,N,b1,b2,c3,y,x,b4,b5,b6⟩;cases U:codeAmong pos (tr ps++a6).toList with
 |some cv=>
  obtain⟨c',a,vs,t,rfl,g1,g2,g3⟩:=a3 pos cv U;refine PySem.W.kla_makeFunctionHit (mg:=X.mg) a7 I.ok.glob F a5 C B G U hB λp h' tk hk e0=>?_;have j:L2.AW X AN σ H { s with heap:=h',toks:=tk }:=I.kept hk;have i:H h'.objs.size=Y3:=j.hok.fresh (zi _);have l:AX H (B1 H h'.objs.size (.jo (kla_obj "<lambda>" q params body scope J ((X.mg "__name__").getD .none) c' p) Af)):=bf i;refine h h'.objs.size _ _ (j.laid (t':=tk) (λb u e=>zd _ e) (zi _) (JM (zl _ S))) l i ⟨c',p,a,vs,t,aJ,l _ _ g1,g2,?_⟩;rw[a4]at g3;exact g3
 |none=>
  refine PySem.W.kla_makeFunction (mg:=X.mg) a7 I.ok.glob F a5 C B G U d3 hB λc' p h' tk hx b0 c4 c5 Q=>?_;obtain⟨d6,a,vs,t,e2,d0,hd,hv⟩:=c5;cases e2;have d2:H c'=Y3:=I.hok.fresh b0;have nP:∀b,H b=Y3->b≠P:=λb n z=>by rw[z,D]at n;cases n
  have d4:=Q;have g:AX H (B1 H c' (.jo a Af)):=bf d2;have u:Un X.fs [] H (B1 H c' (.jo a Af)) s.heap h':=by
   refine⟨λb o e n _ _=>hx b o (nP b n) e,λb o e n _ _=>⟨o.slots,hx b o (nP b n) e⟩,λb o e n _=>?_,λb o e _=>?_,λb xs e=>g _ _ e,λb o u e=>g _ _ e,λb ps e=>⟨#[],by rw[g _ _ e];simp⟩⟩
   ·rw[aF (zI (Zl (zw e) b0))];exact n
   ·by_cases m:b=P
    ·subst m;exact⟨_,Q⟩
    ·exact⟨o,hx b o m e⟩
  have c8:vP X.prog X.w (B1 H c' (.jo a Af)) h':=λb N e=>by
   by_cases m:b=c'
   ·subst m;rw[aJ]at e;cases e;exact JM d0
   ·rw[aF m]at e;by_cases y:b=P
    ·subst y;rw[D]at e;cases e;refine⟨a6++#[rawInt pos.line,rawInt pos.col,.ref c'],?_,?_,λpos' cv z=>?_⟩
     ·rw[<-K2];exact Q
     ·rw[<-K2,KS];exact TriplesOk_snoc _ _ _ _ G
     ·rw[<-K2,KS]at z;rcases Qt _ G z with z|z
      ·obtain⟨d,od,ws,t',e1,e2,e3,e4⟩:=a3 pos' cv z;exact⟨d,od,ws,t',e1,g _ _ e2,e3,e4⟩
      ·exact⟨c',a,vs,t,z,aJ,hd,by rw[a4];exact hv⟩
    ·refine(I.hok b N e).stay (λd v hd q'=>hx d v (λz=>?_) q') (λd z=>g _ _ z) (λd xs z=>g _ _ z) λd o φ z=>g _ _ z;subst z;rcases hd with z|z
     ·exact y z.symm
     ·rw[D]at z;cases z
  have j:L2.AW X AN σ (B1 H c' (.jo a Af)) { s with heap:=h',toks:=tk }:=I.un u c8;have i:(B1 H c' (.jo a Af)) h'.objs.size=Y3:=j.hok.fresh (zi _);have d1:H h'.objs.size=Y3:=by rw[aF (kB c4)]at i;exact i
  have l:AX (B1 H c' (.jo a Af)) (B1 (B1 H c' (.jo a Af)) h'.objs.size (.jo (kla_obj "<lambda>" q params body scope J ((X.mg "__name__").getD .none) c' p) Af)):=bf i;exact h h'.objs.size _ _ (j.laid (t':=tk) (λb u e=>zd _ e) (zi _) (JM (zl _ S))) (g.trans l) d1 ⟨c',p,a,vs,t,aJ,l _ _ aJ,hd,hv⟩
def Ht(X:Cx)(scope:Scope)(cl:O (AJ×A1)):Ap->O Nat->Prop
 |[],[]=>True
 |x::xs,i::is=>(X.N[i]?=Z x/\(X.env.kindOf x=Z .cell\/X.env.kindOf x=Z .free)/\scope.names.lookup x=Z .free/\∃c,cl.lookup x=Z c)/\Ht X scope cl xs is
 |_,_=>False
theorem Ht.get{X:Cx}{scope:Scope}{cl:O (AJ×A1)}:∀{xs:Ap} {is:O Nat},Ht X scope cl xs is->xs.length=is.length/\∀(j:Nat) (x:AJ),xs[j]?=Z x->∃i,is[j]?=Z i/\X.N[i]?=Z x/\(X.env.kindOf x=Z .cell\/X.env.kindOf x=Z .free)/\scope.names.lookup x=Z .free/\∃c,cl.lookup x=Z c
 |[],[],_=>⟨rfl,λj x e=>by simp at e⟩
 |x::xs,i::is,h=>by
  obtain⟨h1,h2⟩:=h;obtain⟨l,g⟩:=Ht.get h2;refine⟨by simp[l],λj y e=>?_⟩;cases j with
  |zero=>simp at e;subst e;exact⟨i,rfl,h1⟩
  |succ j=>obtain⟨k,e1,e2⟩:=g j y (by simpa using e);exact⟨k,by simpa using e1,e2⟩
 |[],_::_,h=>h.elim
 |_::_,[],h=>h.elim
structure Nf (X:Cx) (scope:Scope) (cl:List (Str×Addr)) (x:Str) (xs:Ap) (is:List Nat):Prop where
 clos:closureFor scope X.env=pure cl
 kind:scope.kind=.function
 co:scope.isCoroutine=false
 gen:scope.isGenerator=false
 adf:∀y∈scope.names,y.2≠.cell
 par:scope.names.lookup x=some .local
 sub:C3 X.env.cells cl
 has:∀y∈scope.names,y.2=.free->∃c,cl.lookup y.1=some c
 cap:Ht X scope cl xs is
def F6(X:Cx)(A:A5)(a:Ap)(env:Env)(s₀:A2)(H₀:Hp):Cx:=
 { X with A:=A.deeper env,N:=a,s₀:=s₀,H₀:=H₀,env:=env,outer:=X.stack,stack:=env::X.stack,ex:=[],calm:=true,fn:=λ_=>false,pn:=[],xe:=λ_ _=>False }
section
variable{q:AJ}{body:Expr}{xs:Ap}{f c':A1}
theorem SA{h1:A6}{t1:Nat}(I:L2.AW X AN σ H s)(O:Nf X scope cl x xs is)(U:A.frames=Z X.stack)(M:A.handled=Y3)(r:At v u)(hn:h1.Ns s.heap.objs.size (λy=>[(x,u)].reverse.lookup y))(hk:∀b o,s.heap.get? b=Z o->h1.get? b=Z o):
  L2.AW (F6 X A (x::xs) (envX q scope s.heap.objs.size f (.ref c') cl) s H) [] (Z v::nH is σ) H { s with heap:=h1,toks:=t1 }:=by
 obtain⟨W,G⟩:=O.cap.get;have g:∀b:A1,b∉(F6 X A (x::xs) (envX q scope s.heap.objs.size f (.ref c') cl) s H).ex:=λb z=>absurd (show b∈([]:List A1) from z) (by simp);have d:∀y c,cl.lookup y=Z c->X.env.cells.lookup y=Z c:=λy c e=>O.sub.get e;refine⟨⟨I.ok.mod,O.kind,rfl,rfl,zi _,λy z c e1 e2=>I.ok.inj y z c (d _ _ e1) (d _ _ e2),λy a=>?_,λy c h _=>absurd h (by show ¬ (false=true);simp),λ_=>M,Around.frames_deeper U,.inr ⟨rfl,rfl⟩,λb z=>absurd z (g b),I.bs,zv I.ok.Z6 I.sz,λb _ _=>g b,λb z=>absurd z (g b),I.stack,I.Ig,I.ok.tabs.go I.base.uT⟩,
  rfl,I.bare,Un.kept hk,⟨_,hn,λj y w e1 e2 _=>?_⟩,λy c e=>?_,I.hok.fresh (zi _),λy c e=>I.mU y c (d _ _ e),λp hp=>absurd (show p∈([]:List (A1×AE)) from hp) (by simp),I.hok.kept hk,?_⟩
 ·have a:scope.names.lookup y=Z .cell\/scope.names.lookup y=Z .free:=a;rcases a with a|a
  ·exact absurd S (O.adf _ (JA a))
  ·exact O.has _ (JA a) rfl
 ·cases j with
  |zero=>
   have e1:Z x=Z y:=e1;have e2:Z (Z v)=Z (Z w):=e2;cases e1;cases e2;exact⟨u,r,.inl ⟨O.par,by simp⟩⟩
  |succ j=>
   have e1:xs[j]?=Z y:=e1;have e2:(nH is σ)[j]?=Z (Z w):=e2;obtain⟨i,F,n,k,K,c,B⟩:=G j y e1;have e3:σ[i]?=Z (Z w):=by
    unfold nH at e2;rw[z5,F]at e2;cases q:σ[i]? with
    |none=>rw[Kb,q]at e2;cases e2
    |some o=>
     rw[Kb,q]at e2;have:o=Z w:=by simpa using e2
     rw[this]
   have E:Ov X.env.scope y:=by
    rcases k with k|k
    ·exact .inr (.inl k)
    ·exact .inr (.inr k)
   obtain⟨m',a3,D⟩:=I.loc;obtain⟨J,N,l⟩:=D i y w n e3 E;refine⟨J,N,?_⟩;rcases l with⟨C,_⟩|⟨_,c2,P,Q⟩
   ·rcases k with k|k<;>(rw[C]at k;cases k)
   ·have:=d _ _ B;rw[P]at this;cases this;obtain⟨o,m,hd⟩:=Q;exact .inr ⟨.inr K,_,B,o,hk _ o m,hd⟩
 ·obtain⟨L,o,m,hd⟩:=I.cell y c (d _ _ e);exact⟨L,o,hk _ _ m,hd⟩
 ·show(Z v::nH is σ).length=(x::xs).length;simp[nH,W]
theorem UA{y:Bx}(I:L2.AW X AN σ H s)(O:Nf X scope cl x xs is)(hA:A.frames=Z X.stack)(hh:A.handled=Y3)(a6:A.depth<recursionLimit)(L:Hr H f q params body scope cl pm)(N:∀a5 ct u,bindArgs (kla_fn "<lambda>" q params body scope cl pm a5 ct) ⟨[u],[]⟩=pure [(x,u)])(hb:∀f c' s H,PV (F6 X A (x::xs) (envX q scope s.heap.objs.size f (.ref c') cl) s H) body fb)(E:aY X.K H0 H σ ρ)(r:At v u)(rd:AY X.K H d v)(e:fb (Z (.z d)::iu is ρ)=Z y):
  A7 (bn X) A (call (.ref f) [u]) (λD s'=>∃g H',L2.AW X AN σ H' s'/\At g D/\AX H H'/\Nw H y g/\aX X.K H' y g) (λ_ _=>False) s:=by
 obtain⟨c',b4,oc,vs,t,a1,a2,P,a4⟩:=L.at_;have hf:=(I.hok _ _ a1).1;have hc:=(I.hok _ _ a2).1;refine wpAny_call (PySem.W.kla_callFunE a6 hf S O.co O.gen S ⟨c',oc,vs,t,rfl,hc,P,a4⟩ ?_);rw[N];refine ze (wpAny_newFunctionEnv O.adf (λz hz=>by rw[bo.mp hz];exact O.par) (λb0 b3 G=>⟨(I.nolimit).fresh _ G,?_⟩) O.kind);show AF _ _ (.expr body (envX q scope s.heap.objs.size f (.ref c') cl)) _ _;have a7:∀b o,s.heap.get? b=Z o->b0.get? b=Z o:=λb o e=>G.extBut b o (zI (zw e)) (zd _ e);have J:=SA (t1:=s.toks+1) (c':=c') (f:=f) (q:=q) I O hA hh r b3 a7;have E0:=E.caps is 0;have E1:aY X.K H H (Z v::nH is σ) (Z (.z d)::iu is ρ):=by
  have F:=E0.len;simp only[List.replicate_zero,kD]at E0 F;refine⟨by simpa using F,λi b e=>?_,λi j c a b e h=>?_,AX.refl H,λi c a e h=>?_⟩
  ·cases i with
   |zero=>cases e;exact⟨v,rfl,rd⟩
   |succ i=>exact E0.val i b (by simpa using e)
  ·cases i with
   |zero=>cases e;cases h
   |succ i=>
    intro h1 h2 C h4;cases j with
    |zero=>cases h2;cases C
    |succ j=>rw[E0.own i j c a b (by simpa using e) h (by simpa using h1) (by simpa using h2) C (by simpa using h4)]
  ·cases i with
   |zero=>cases e;cases h
   |succ i=>intro h1;exact E0.new i c a (by simpa using e) h (by simpa using h1)
 refine PySem.W.kla_codeExpr (ZU (hb f c' s H [] _ _ _ (λg H'=>AX H H'/\Nw H y g/\aX X.K H' y g) J ⟨H,_,y,E1,e,λg H' n p m=>⟨n,p,m⟩⟩) (λD s' B=>?_) λe s' B=>B.elim);obtain⟨g,H',l,rv,n,p,m⟩:=B;obtain⟨v2,H2,I2,U,s2,n2,M⟩:=I.after (Q:=λg H'=>AX H H'/\Nw H y g/\aX X.K H' y g) ⟨g,H',l.os,l.bare,l.base,l.hok,rv,n,p,m⟩;exact⟨v2,H2,I2,U,s2,n2,M⟩
end
end P1
namespace P1
open PySem PySem.Spec PySem.Calls PyProof.Rows L2 S1
def xq(bt:Dt->Dt->Bool):Dt->Dt->O (Dt×Dt)->Dt
 |b,_,[]=>b
 |b,kb,(d,k)::r=>if bt k kb=true then xq bt d k r else xq bt b kb r
def BN(FQ:Dt->Bool)(fk:Dt->Y Bx):O Dt->Y (O (Dt×Dt))
 |[]=>Z []
 |d::ds=>match fk d with
  |some (.z k)=>if FQ k=true then(BN FQ fk ds).bind λr=>Z ((d,k)::r)else Y3
  |_=>Y3
def JN(X:Cx)(σ:L2.St)(H1:Hp)(f:A1)(fk:Dt->Y Bx):Prop:=∀(AN:O (A1×AE)) (s:A2) (H:Hp) (d k:Dt) (v:V) (u:A0),L2.AW X AN σ H s->AX H1 H->At v u->AY X.K H d v->fk d=Z (.z k) →
 A7 (bn X) X.A.in1 (call (.ref f) [u]) (λb s'=>∃a H',L2.AW X AN σ H' s'/\At a b/\AX H H'/\AY X.K H' k a) (λ_ _=>False) s
def JQ(X:Cx)(op:CmpOp)(bt:Dt->Dt->Bool)(FQ:Dt->Bool):Prop:=∀(AN:O (A1×AE)) (σ:L2.St) (H:Hp) (s:A2) (b a:Dt) (c d:V) (e f:A0) (Q:BC) (E:BC),L2.AW X AN σ H s->At c e->At d f →
 AY X.K H b c->AY X.K H a d->FQ b=true->FQ a=true->Q (.bool (bt b a)) s->A7 (bn X) X.A.in1 (richCompare op e f) Q E s
theorem yW{H1:Hp}{S:A1}(s:AX H1 H)(h:H1 S=Y3):AX H1 (B1 H S o):=λa u e=>by
 rw[aF (bQ e h)];exact s a u e
theorem vC{fk:Dt->Y Bx}{r:O (Dt×Dt)}(h:BN FQ fk (d::ds)=Z r):∃k a,fk d=Z (.z k)/\FQ k=true/\BN FQ fk ds=Z a/\r=(d,k)::a:=by
 simp only[BN]at h;split at h
 ·rename_i k hk;split at h
  ·rename_i ok;obtain⟨a,e,h⟩:=AV h;cases h;exact⟨k,a,hk,ok,e,rfl⟩
  ·cases h
 ·cases h
theorem xu{H':Hp}(h:nG K H a xs)(s:AX H H'):nG K H' a xs:=by
 rcases h with (h|⟨o,h⟩)|h
 ·exact .inl (.inl (s _ _ h))
 ·exact .inl (.inr ⟨o,s _ _ h⟩)
 ·exact .inr h
theorem Qv{p:A1×AE}(I:L2.AW X AN σ H s)(h1:s.heap.get? p.1=Z p.2)(h2:H p.1=Y3)(c:p.1≠X.env.locals)(b:p.1∉X.fs)(d:∀v,p.2.data≠.cell v):L2.AW X (p::AN) σ H s:=
 I.tu λq a=>by
  rcases List.mem_cons.mp a with rfl|a
  ·exact⟨h1,h2,c,b,d⟩
  ·exact I.pin q (zz _ a)
theorem JR{p:A1×AE}(I:L2.AW X (p::AN) σ H s):L2.AW X AN σ H s:=
 I.tu λq a=>I.pin q (zz _ (zh _ a))
def L8:{ f:String->Builtin // f "min"=Builtin.«min»/\f "max"=Builtin.«max» }:=by
 refine⟨?f,?a,?b⟩
 case a=>delta Builtin.«min»;rfl
 case b=>delta Builtin.«max»;rfl
def MU:{ f:String->CmpOp->Builtin // f "min" .Lt=Builtin.«min.loop»/\f "max" .Gt=Builtin.«max.loop» }:=by
 refine⟨?f,?a,?b⟩
 case a=>delta Builtin.«min.loop»;rfl
 case b=>delta Builtin.«max.loop»;rfl
structure MM (nm lp:String) (op:CmpOp):Prop where
 hk:builtinKind nm=none
 hp:plainId nm=true
 he:entryFor table nm=some (L8.1 nm)
 pl:plainId lp=true
 le:entryFor table lp=some (MU.1 nm op)
 hn:(toString nm++toString ".loop":String)=lp
 a1:∀a,argsOk nm ⟨[a],[]⟩
 a2:∀a b,argsOk nm ⟨[a,b],[]⟩
 ak:∀a v,argsOk nm ⟨[a],[(Str.ofString "key",v)]⟩
theorem OX:MM "min" "min.loop" .Lt:=⟨PySem.F.kind_min,PySem.F.plain_min,PySem.F.entry_min.trans (congrArg Z L8.2.1.symm),PySem.F.plain_min_loop,PySem.F.entry_min_loop.trans (congrArg Z MU.2.1.symm),by decide,PySem.F.args_min1,PySem.F.args_min2,λ_ _=>by unfold argsOk;kernel_rfl⟩
section
variable{nm lp:String}(hM:MM nm lp op){R:Result->A2->Prop}
include hM in
theorem No{fk:Dt->Y Bx}{f S a:A1}{H1:Hp}{a7:Dt}(c5:X.calm=true)(hT:JN X σ H1 f fk)(hC:JQ X op bt FQ)(hl:nG X.K H1 l vs)(a4:aG X.K H1 ds vs)(c8:H1 S=Y3)(e1:l≠a)(f4:S≠a)(b0:a≠X.env.locals)(b4:X.s₀.heap.objs.size<=a)(e6:a∉X.fs)(d5:∀x c,X.env.cells.lookup x=Z c->c≠a)(e5:∀p∈X.pn++AN,p.1≠a)(hR:∀v u H' s',L2.AW X AN σ H' s'->AX H1 H'->At v u->AY X.K H' a7 v->R (.ok (.ret u)) s'):
  ∀(r:O (Dt×Dt)) (j:Nat) (s:A2) (H:Hp) (i:AE) (d k:Dt) (D C:V),BN FQ fk (ds.drop j)=Z r->j<=ds.length->L2.AW X ((a,i)::AN) σ H s->AX H1 H->i.cls=.type "list_iterator" → i.data=.fields #[.ref l,.int j 0] →
   H S=Z (.lst [D,C])->AY X.K H d D->AY X.K H k C->FQ k=true->xq bt d k r=a7 →
   AF (bn X) X.A (.builtin lp ⟨[.ref a,.ref f,.ref S],[]⟩) R s:=by
 intro r
 induction r with
 |nil=>
  intro j s H i d k D C hk hj I m a3 a6 B rd rk ok g;have hh:X.A.in1.handled=Y3:=I.ok.hd c5;have f2:ds.drop j=[]:=by
   cases e:ds.drop j with
   |nil=>rfl
   |cons x y=>
    rw[e]at hk;obtain⟨_,_,_,_,_,h⟩:=vC hk;cases h
  have Q:j=ds.length:=by
   have:=congrArg dv f2;rw[js]at this;simp at this;omega
  obtain⟨AT,rv,pl,hz⟩:=I.list (xu hl m);have c0:AT.length=ds.length:=by rw[<-rv.length,a4.length]
  obtain⟨_,f1,n2,rs,_,eS⟩:=I.Iv B;obtain⟨u1,u2,rfl,d0,d6⟩:=C6 rs;have gI:=(I.pin (a,i) (zz _ zg)).1;have W:=Walks.list (prog:=X.prog) (w:=X.w) (A:=X.A.in1) hh a l e1 AT.toArray;refine Q4 hM.le ?_;rw[Around.under_plainId hM.pl _];show A7 _ X.A.in1 (seqItems? (.ref S) >>= _) _ _ _;refine zb (wpAny_seqItems eS rfl ?_);show A7 _ X.A.in1 (tryCatch (pyNext (.ref a)) _ >>= _) _ _ _;refine zb (Kx (W.done _ _ _ ⟨⟨i,gI,a3,by rw[a6,zt,c0,<-Q]⟩,pl.isList⟩ λh' J M=>?_));have I1:L2.AW X AN σ H { s with heap:=h',toks:=J }:=(JR I).turned (it:=a) (λb o g e=>M b o (by simpa using g) e) (I.pin (a,i) (zz _ zg)).2.1 b0 (.inr b4) d5 e5;have b5:=M S _ (by simpa using f4) eS;show A7 _ X.A.in1 (updateSeq S (λ_=>#[]) >>= _) _ _ _;refine zb ?_;refine wpAny_updateSeq b5 rfl (zb (wpAny_letGo (ze ?_)));have s1:=ku h' S (Obj.mapSeq λ_=>(#[]:Array A0));obtain⟨c2,E⟩:∃c2,(h'.update S (Obj.mapSeq λ_=>(#[]:Array A0))).get? S=Z { cls:=.type "list",data:=.seq #[] c2 }:=⟨_,get?_update_seq b5 λ_=>#[]⟩;have n:L2.AW X AN σ (B1 H S (.lst [])) { s with heap:=h'.update S (Obj.mapSeq λ_=>(#[]:Array A0)),toks:=J }:=I1.write (by rw[B];trivial) (.inl rfl) (λb u g e=>(s1.2 b g).trans e) ⟨_,E⟩ ⟨qc _,[],c2,.nil,E⟩;have e0:d=a7:=g;subst e0;exact hR D u1 _ _ n (yW m c8) d0 (rd.kp (Kp.lst B))
 |cons dk r ih=>
  intro j s H i d k D C hk hj I m a3 a6 B rd rk ok g;have hh:X.A.in1.handled=Y3:=I.ok.hd c5;obtain⟨d2,AU,N⟩:∃d2 AU,ds.drop j=d2::AU:=by
   cases e:ds.drop j with
   |nil=>rw[e]at hk;cases hk
   |cons x y=>exact⟨x,y,rfl⟩
  have Q:j<ds.length:=by
   have:=congrArg dv N;rw[js]at this;simp at this;omega
  have f5:ds[j]?=Z d2:=by
   have:=congrArg (·[0]?) N;simpa using this
  have c4:ds.drop (j+1)=AU:=by
   have:=congrArg List.tail N;rw[List.tail_drop]at this;simpa using this
  rw[N]at hk;obtain⟨F,r',f0,d1,c3,hk⟩:=vC hk;cases hk;obtain⟨v2,f3,d3⟩:=a4.get f5;obtain⟨AT,rv,pl,hz⟩:=I.list (xu hl m);have c0:AT.length=ds.length:=by rw[<-rv.length,a4.length]
  obtain⟨w2,f7,e3⟩:=rv.get f3;obtain⟨_,f1,n2,rs,_,eS⟩:=I.Iv B;obtain⟨u1,u2,rfl,d0,d6⟩:=C6 rs;have pI:=I.pin (a,i) (zz _ zg);have W:=Walks.list (prog:=X.prog) (w:=X.w) (A:=X.A.in1) hh a l e1 AT.toArray;refine Q4 hM.le ?_;rw[Around.under_plainId hM.pl _];show A7 _ X.A.in1 (seqItems? (.ref S) >>= _) _ _ _;refine zb (wpAny_seqItems eS rfl ?_);show A7 _ X.A.in1 (tryCatch (pyNext (.ref a)) _ >>= _) _ _ _;refine zb (Kx (W.item j _ _ _ (by rw[zt];omega) ⟨⟨i,pI.1,a3,a6⟩,pl.isList⟩ λv h' J hP e7 M=>?_));have hv:v=w2:=by
   rw[hJ,f7]at hP;cases hP;rfl
  subst hv;obtain⟨P,e9,e4,a5⟩:=id e7.1;have I1:L2.AW X ((a,P)::AN) σ H { s with heap:=h',toks:=J }:=Qv ((JR I).turned (it:=a) (t':=J) (λb o g e=>M b o (by simpa using g) e) pI.2.1 b0 (.inr b4) d5 e5) e9 pI.2.1 b0 e6 (λv z=>by rw[a5]at z;cases z);show A7 _ X.A.in1 (tryCatch (holding [v] (call (.ref f) [v])) _ >>= _) _ _ _;refine zb (Kx (qr (ZU (hT _ _ H d2 F v2 v I1 m e3 (d3.kp (.of m)) f0) (λx G he=>?_) λ_ _ hF=>hF.elim)));obtain⟨kv,H2,n,b3,q,b6⟩:=he;have L:=q _ _ B;obtain⟨_,f8,n3,g0,_,d4⟩:=n.Iv L;have e8:=rd.kp (.of q);have e2:=rk.kp (.of q);show A7 _ X.A.in1 (tryCatch (holding [v,x] (richCompare op x u2 >>= _)) _ >>= _) _ _ _;refine zb (Kx (qr (zb (hC _ _ _ _ F k kv C x u2 _ _ n b3 d6 b6 e2 d1 ok ?_))));refine zb (qr (QP ?_));refine zb (wpAny_letGo (ze ?_));simp only[xq]at g;by_cases U:bt F k=true
  ·rw[zo U]at g;simp only[U,jS];have s1:=ku G.heap S (Obj.mapSeq λ_=>#[v,x]);obtain⟨c2,E⟩:∃c2,(G.heap.update S (Obj.mapSeq λ_=>#[v,x])).get? S=Z { cls:=.type "list",data:=.seq #[v,x] c2 }:=⟨_,get?_update_seq d4 λ_=>#[v,x]⟩;have I3:L2.AW X ((a,P)::AN) σ (B1 H2 S (.lst [v2,kv])) { G with heap:=G.heap.update S (Obj.mapSeq λ_=>#[v,x]) }:=n.write (t':=G.toks) (by rw[L];trivial) (.inl rfl) (λb u g e=>(s1.2 b g).trans e) ⟨_,E⟩ ⟨(show 2<=AA by decide),[v,x],c2,.cons e3 (.cons b3 .nil),E⟩;refine zb ?_;refine wpAny_updateSeq d4 rfl (zb (wpAny_letGo ?_));rw[hM.hn];exact ze ⟨plainId_quiet hM.pl _,ih (j+1) _ _ P d2 F v2 kv (by rw[c4];exact c3) Q I3 (yW (m.trans q) c8) e4 (by rw[a5]) aJ (((d3.kp (.of m)).kp (.of q)).kp (Kp.lst L)) (b6.kp (Kp.lst L)) d1 g⟩
  ·rw[zS U]at g;have f6:bt F k=false:=by simpa using U
   simp only[f6,zD,qB];refine zb (wpAny_letGo ?_);rw[hM.hn];exact ze ⟨plainId_quiet hM.pl _,ih (j+1) _ _ P d k D C (by rw[c4];exact c3) Q n (m.trans q) e4 (by rw[a5]) L e8 e2 ok g⟩
include hM in
theorem TR{fk:Dt->Y Bx}{f:A1}{b0 d0 q:Dt}{C:O (Dt×Dt)}{Q:BC}(I:L2.AW X AN σ H s)(a5:X.calm=true)(hT:JN X σ H f fk)(hC:JQ X op bt FQ)(M:nG X.K H l vs)(a4:aG X.K H ds vs)(hk:BN FQ fk ds=Z ((d0,q)::C))(h:xq bt d0 q C=b0)(hQ:∀v u H' s',L2.AW X AN σ H' s'->AX H H'->At v u->AY X.K H' b0 v->Q u s'):
  A7 (bn X) X.A (call (.builtin nm) [.ref l] [(Str.ofString "key", .ref f)]) Q E s:=by
 have hh:X.A.in1.handled=Y3:=I.ok.hd a5;obtain⟨AT,rv,pl,hz⟩:=I.list M;have e4:l<s.heap.objs.size:=by obtain⟨o,n,e,_⟩:=pl;exact zw e
 refine kmk_tree hM.hk hM.hp hM.he (hM.ak _ _) ?_;show A7 _ X.A.in1 (Builtin.Builtins.bindParams nm ["key","default"] 0 ⟨[],[(Str.ofString "key", .ref f)]⟩ >>= _) _ _ s;refine zb (wpAny_of_eq (show Builtin.Builtins.bindParams nm ["key","default"] 0 ⟨[],[(Str.ofString "key", .ref f)]⟩=pure [Z (.ref f),Y3] from S) ?_);refine zb (ze ?_);refine zb (kR pl.isList ?_);refine zb (KM ?_ (qc _));rw[hM.hn];generalize hoI:({ cls:=.type "list_iterator",data:=.fields #[.ref l,.int 0 0] }:AE)=oI;have hS:(s.heap.push oI).objs.size=s.heap.objs.size+1:=size_push' ..;have d5:(s.heap.push oI).get? s.heap.objs.size=Z oI:=zl _ (by rw[<-hoI];rfl);have m:s.heap.objs.size≠X.env.locals:=kB I.lt;have a6:X.s₀.heap.objs.size<=s.heap.objs.size:=I.sz;have G:s.heap.objs.size∉X.fs:=I.agm (zi _);have a3:∀x c,X.env.cells.lookup x=Z c->c≠s.heap.objs.size:=λx c e=>by obtain⟨v,o,ho,_⟩:=I.cell x c e;exact zI (zw ho)
 have c3:∀p∈X.pn++AN,p.1≠s.heap.objs.size:=λp hp=>zI (zw (I.pin p hp).1);have a7:l≠s.heap.objs.size:=zI e4;have d3:(s.heap.push oI).objs.size≠s.heap.objs.size:=by rw[hS];exact Nat.succ_ne_self _
 have fI:H s.heap.objs.size=Y3:=I.hok.fresh (zi _);have fS:H (s.heap.push oI).objs.size=Y3:=I.hok.fresh (by rw[hS];exact kA _);have I1:L2.AW X ((s.heap.objs.size,oI)::AN) σ H { s with heap:=s.heap.push oI }:=Qv (I.kept (t':=s.toks) λb o e=>zd _ e) d5 fI m G (λv z=>by rw[<-hoI]at z;cases z);have B:L2.AW X ((s.heap.objs.size,oI)::AN) σ (B1 H (s.heap.push oI).objs.size (.lst [])) { s with heap:=(s.heap.push oI).push { cls:=.type "list",data:=.seq #[] } }:=I1.laid (t':=s.toks) (λb o e=>zd _ e) (zi _) ⟨qc _,[],0,.nil,zl _ rfl⟩;have a:AX H (B1 H (s.heap.push oI).objs.size (.lst [])):=bf fS;refine ze ⟨plainId_quiet hM.pl _,?_⟩;obtain⟨d2,AU,e6⟩:∃d2 AU,ds=d2::AU:=by
  cases e:ds with
  |nil=>rw[e]at hk;cases hk
  |cons x y=>exact⟨x,y,rfl⟩
 subst e6;obtain⟨k2,r',e3,e9,c8,hk⟩:=vC hk;cases hk;obtain⟨F,d6,b4⟩:=a4.get (i:=0) (d:=d0) rfl;obtain⟨b5,e8,f0,_⟩:=B.list (xu M a);obtain⟨w2,c0,b6⟩:=e8.get d6;have D:=B.pin (s.heap.objs.size,oI) (zz _ zg);obtain⟨_,f3,n2,rs,_,eS⟩:=B.Iv (l:=(s.heap.push oI).objs.size) (xs:=[]) aJ;cases rs;have W:=Walks.list (prog:=X.prog) (w:=X.w) (A:=X.A.in1) hh s.heap.objs.size l a7 b5.toArray;refine Q4 hM.le ?_;rw[Around.under_plainId hM.pl _];show A7 _ X.A.in1 (seqItems? (.ref _) >>= _) _ _ _;refine zb (wpAny_seqItems eS S ?_);show A7 _ X.A.in1 (tryCatch (pyNext (.ref s.heap.objs.size)) _ >>= _) _ _ _;have e5:0<b5.length:=(cc.mp c0).1;refine zb (Kx (W.item 0 _ _ _ (by rw[zt];exact e5) ⟨⟨oI,D.1,by rw[<-hoI],by rw[<-hoI];rfl⟩,f0.isList⟩ λv h' b3 hP d1 e1=>?_));have hv:v=w2:=by
  rw[hJ,c0]at hP;cases hP;rfl
 subst hv;obtain⟨J,e0,e7,c4⟩:=id d1.1;have e2:=(JR B).turned (h':=h') (it:=s.heap.objs.size) (t':=b3) (λb o h e=>e1 b o (by simpa using h) e) D.2.1 m (.inr a6) a3 c3;have I3:L2.AW X ((s.heap.objs.size,J)::AN) σ (B1 H (s.heap.push oI).objs.size (.lst [])) { s with heap:=h',toks:=b3 }:=Qv e2 e0 D.2.1 m G (λv z=>by rw[c4]at z;cases z);show A7 _ X.A.in1 (tryCatch (holding [v] (call (.ref f) [v])) _ >>= _) _ _ _;refine zb (Kx (qr (ZU (hT _ _ _ d0 q F v I3 a b6 (b4.kp (.of a)) e3) (λx g he=>?_) λ_ _ hF=>hF.elim)));obtain⟨kv,H2,U,c5,L,d4⟩:=he;have j:=L _ _ (show(B1 H (s.heap.push oI).objs.size (.lst [])) (s.heap.push oI).objs.size=Z (.lst []) from aJ);obtain⟨_,f1,n3,f2,_,N⟩:=U.Iv j;have s1:=ku g.heap (s.heap.push oI).objs.size (Obj.mapSeq λ_=>#[v,x]);obtain⟨c2,P⟩:∃c2,(g.heap.update (s.heap.push oI).objs.size (Obj.mapSeq λ_=>#[v,x])).get? (s.heap.push oI).objs.size=Z { cls:=.type "list",data:=.seq #[v,x] c2 }:=⟨_,get?_update_seq N λ_=>#[v,x]⟩;have I5:L2.AW X ((s.heap.objs.size,J)::AN) σ (B1 H2 (s.heap.push oI).objs.size (.lst [F,kv])) { g with heap:=g.heap.update (s.heap.push oI).objs.size (Obj.mapSeq λ_=>#[v,x]) }:=U.write (t':=g.toks) (by rw[j];trivial) (.inl S) (λb u h e=>(s1.2 b h).trans e) ⟨_,P⟩ ⟨(show 2<=AA by decide),[v,x],c2,.cons b6 (.cons c5 .nil),P⟩;show A7 _ X.A.in1 (updateSeq (s.heap.push oI).objs.size (λ_=>#[v,x]) >>= _) _ _ _;refine zb ?_;refine wpAny_updateSeq N S ?_;rw[hM.hn];exact ze ⟨plainId_quiet hM.pl _,No hM a5 hT hC M a4 fS a7 d3 m a6 G a3 c3 hQ C 1 _ _ J d0 q F kv c8 (by simp) I5 (yW (a.trans L) fS) e7 (by rw[c4]) aJ (((b4.kp (.of a)).kp (.of L)).kp (Kp.lst j)) (d4.kp (Kp.lst j)) e9 h⟩
end
section
variable{nm lp:String}(hM:MM nm lp op){R:Result->A2->Prop}{I:A1}{wr:O A1}{P:Nat->A0->Prop}{St:Nat->A6->Prop}
include hM in
include hM in
end
end P1
namespace P1
open L2 S1
def HI(bt:Dt->Dt->Bool)(FQ:Dt->Bool)(fe fb:Ev->Y Bx)(is:O Nat):Ev->Y Bx:=λρ=>(fe ρ).bind λb=>(lY b).bind λds=>(BN FQ (λd=>fb (Z (.z d)::iu is ρ)) ds).bind fun
 |(d,k)::r=>Z (.z (xq bt d k r))
 |[]=>Y3
section
variable{body:Expr}{afE p kpos:Pos}{xs:Ap}{c P:A1}{q:AJ}
theorem Y0{f:A1}(l:X.calm=true)(hd:X.A.depth<recursionLimit)(O:Nf X scope cl x xs is)(i:∀pm c ct u,bindArgs (kla_fn "<lambda>" q params body scope cl pm c ct) ⟨[u],[]⟩=pure [(x,u)])(g:∀f c' s H,QV (F6 X X.A.in1 (x::xs) (envX q scope s.heap.objs.size f (.ref c') cl) s H) body fb)(E:aY X.K H0 H σ ρ)(L:Hr H f q params body scope cl pm):
  JN X σ H f λd=>fb (Z (.z d)::iu is ρ):=λAN s H' d k v u I a j b e=>
 ZU (UA I O (show X.A.in1.frames=Z X.stack from I.ok.frames) (show X.A.in1.handled=Y3 from I.ok.hd l) (show X.A.in1.depth<recursionLimit from hd) (L.same a) (i pm) (λf c' s H=>(g f c' s H).run) (E.grow a) j b e)
  (λu' s' ⟨v',H'',I',r',s'',_,r''⟩=>⟨v',H'',I',r',s'',r''⟩) λ_ _ h=>h
theorem Y4{nm lp:String}{ns:AJ}(hM:MM nm lp op)(l:X.calm=true)(hd:X.A.depth<recursionLimit)(n:JQ X op bt FQ)(M:Gl X ns)(z:X.mg ns=Y3)(hv:AH ns=Z (.builtin nm))(O:Nf X scope cl x xs is)(hK:Qu X.K c P q)(C:X.env.code=.ref c)(W:X.env.qual++("<lambda>":AJ)=q)(y:defaultsOf params X.env=([],[]))(B:∀pm G ct u,bindArgs (kla_fn "<lambda>" q params body scope cl pm G ct) ⟨[u],[]⟩=pure [(x,u)])(he:QV X e fe)(hb:∀f c' s H,QV (F6 X X.A.in1 (x::xs) (envX q scope s.heap.objs.size f (.ref c') cl) s H) body fb)(hs:A9 [e] X.env=(false,eval e X.env)::A9 [] X.env:=by rfl)(h1:AD pos (A9 [e] X.env)=(false,eval e X.env)::AD pos (A9 [] X.env):=by rfl)(h2:(AD pos (A9 [e] X.env)).any (·.1)=false:=by rfl)(hn:ns ≠ "__name__":=by decide)(a4:ad ns:=by decide):
  QV X (.Call (.Name ns p) [e] [⟨Z "key", .Lambda params body scope afE,kpos⟩] pos) (HI bt FQ fe fb is):=⟨λAN s σ H Q I h=>by
 obtain⟨H0,ρ,b,E,g,w⟩:=h;unfold HI at g;obtain⟨b1,e1,g⟩:=AV g;obtain⟨ds,ed,g⟩:=AV g;obtain⟨kr,ek,g⟩:=AV g;cases kr with
 |nil=>cases g
 |cons dk r=>
  obtain⟨d,k⟩:=dk;cases g;refine KW (rA I M z hv ?_ hn a4);refine callWith_kw (fB (bD he.run fQ hs pos AN s σ H (λvs H1=>∃v,vs=[v]/\AX H H1/\aX X.K H1 b1 v) I ⟨H0,ρ,b1,E,e1,λv H' N _ j=>⟨v,rfl,N,j⟩⟩) λus F D=>?_) h1 h2 S rfl;obtain⟨vs,H1,J,o,v,rfl,m,j⟩:=D;obtain⟨u,rfl,U⟩:=BG o;obtain⟨a,ws,rfl,sq,rs⟩:=j.Ax ed;cases U;show A7 _ _ (evalAll [do let v <-eval (.Lambda params body scope afE) X.env;standAt pos;pure v]) _ _ F;refine wpAny_evalAll_cons (zb (YZ J hK C W y O.clos λf H2 s2 I2 i hf L=>zb (QY (ze (wpAny_evalAll_nil ?_)))));show A7 _ _ (call (.builtin nm) [.ref a] [(Str.ofString "key", .ref f)]) _ _ _;exact TR hM I2 l (Y0 l hd O B hb ((E.grow m).grow i) L) n (xu sq i) (rs.kp (.of i)) ek S λv u H' s' I' a3 rv rp=>⟨v,H',I',rv,w v H' ((m.trans i).trans a3) trivial rp⟩⟩
def DC:Dt->Bool
 |.int _=>true
 |_=>false
end
end P1
namespace P1
open L2
section
variable{o:Expr}
end
end P1
namespace P1
open L2 S1
end P1
namespace P1
open L2 S1 S6
section
variable{e:α->Dt}{e':β->Dt}
def hk(q:AJ×β):O An:=[.inr q.1]
end
end P1
namespace P1
open L2
section
variable [Inhabited α] {e:α->Dt}{k:Ev->Y As}{cO:γ->As}
end
section
variable{k:Nat}{f:A1}{p:Pos}{fs:Ev->Y (O Bx)}
end
end P1
namespace P1
open PySem PySem.Spec PySem.Calls PyProof.Rows L2
def cm(f:A1)(v:A0):Bool:=match v with
 |.ref g=>g==f
 |_=>false
section
variable{D:O (AJ×A1)}{k:AJ}{tk:Tok}
end
section
variable{D:O (AJ×A1)}{tab:O (AJ×(O Bx->Y Bx))}{dn:AJ}{ek:Expr}{p0 p1 p3 q0 q1 q2 q3:Pos}{AU:O AB}{fh:Ev->Y Bx}
end
end P1
namespace P1
open L2
def sV(o:AE):Y (AJ×A1):=match o.data with
 |.fields vs=>match vs[1]?,vs[11]? with
  |some (Value.str x _),Z (Value.ref P)=>if V7.contains x=true then Z (x,P)else Y3
  |_,_=>Y3
 |_=>Y3
def TN(K:B5):O (A1×AJ):=K.filterMap λp=>(sV p.2).map λq=>(q.2,q.1)
def MW(x:AJ):Array A0:=#[.str (x++(".<locals>.<lambda>":AJ)) 0]
def He(K:B5):O (A1×Array A0):=(TN K).map λp=>(p.1,MW p.2)
def Ch(K:B5)(x:AJ):Y A1:=match nsIn K mainGlobals x with
 |some (Z (.ref f))=>match K.lookup f with
  |some a=>match a.data with
   |.func fd=>match fd.code with
    |.ref c=>Z c
    |_=>Y3
   |_=>Y3
  |none=>Y3
 |_=>Y3
def Bj(p:A3)(K:B5)(c:A1)(x:AJ)(P:A1):Bool:=(recsOf p).any (λd=>d.name==x)&&Ch K x==Z c&&(K.lookup c).bind sV==Z (x,P)&&(K.lookup P).isNone&&(TN K).lookup P==Z x
def WG(p:A3)(K:B5):Bool:=K.all λr=>match sV r.2 with
 |none=>true
 |some (x,P)=>Bj p K r.1 x P
theorem vD{α β γ:Type}[BEq α]{a:α}(f:β->γ):∀l:O (α×β),(l.map λp=>(p.1,f p.2)).lookup a=(l.lookup a).map f
 |[]=>rfl
 |(b,c)::l=>by
  simp only[zr,yo];split
  ·rfl
  ·exact vD f l
theorem yX{α β:Type}[BEq α][LawfulBEq α]{a:α}{b:β}:∀{l:O (α×β)},l.lookup a=Z b->(a,b)∈l
 |[],h=>by cases h
 |(c,d)::l,h=>by
  rw[yo]at h;split at h
  ·rename_i e;cases h;rw[eq_of_beq e];exact zg ..
  ·exact zh _ (yX h)
theorem Vk{o:AE}{P:A1}(h:sV o=Z (x,P)):∃vs t,o.data=.fields vs/\vs[1]?=Z (.str x t)/\vs[11]?=Z (.ref P):=by
 unfold sV at h;cases hd:o.data with
 |fields vs=>
  rw[hd]at h;dsimp only at h;split at h
  ·rename_i y t Q e1 e2;split at h
   ·cases h;exact⟨vs,t,rfl,e1,e2⟩
   ·cases h
  ·cases h
 |_=>rw[hd]at h;cases h
theorem D2{p:A3}{h:A6}{E:AJ->Y A0}{G:ExcName->Y A0}{L:Ap}(g:WG p K=true)(X:K.In h)(T:Top p L G mg E h):L2.Wy K h (He K):=by
 have n:∀c o x P,(c,o)∈K->sV o=Z (x,P)->Bj p K c x P=true:=λc o x P m e=>by
  have:=List.all_eq_true.mp g _ m;simp only[e]at this;exact this
 refine⟨λP q k=>?_,λP ps e=>?_⟩
 ·obtain⟨c,o,vs,x,t,e,d,v,m,f,l⟩:=k;subst l;have er:sV o=Z (x,P):=by
   unfold sV;simp only[d,v,f];rw[zo (dV.mpr m)]
  have z:=n c o x P (yX e) er;simp only[Bj,ZO,beq_iff_eq]at z;refine⟨MW x,?_,rfl,Nat.zero_lt_one⟩;unfold He;rw[vD,z.2];rfl
 ·unfold He at e;rw[vD]at e;obtain⟨x,ex,rfl⟩:=dE.mp e;have m:=yX ex;obtain⟨⟨c,o⟩,y,i⟩:=eR.mp m;obtain⟨⟨D,F⟩,i,l⟩:=dE.mp i;obtain⟨q1,q2⟩:=la.inj l;have q1:F=P:=q1;have q2:D=x:=q2;rw[q1,q2]at i;have z:=n c o x P y i;simp only[Bj,ZO,beq_iff_eq,Q1,gc]at z;obtain⟨⟨⟨⟨⟨d,hd,hx⟩,b⟩,W⟩,I⟩,_⟩:=z;obtain⟨a,o1,fd,c1,N,t1,t2,w,Q,_,j⟩:=T.tab d hd;rw[hx]at t1;obtain⟨o',J,u⟩:=Option.bind_eq_some_iff.mp W;obtain⟨vs,t,A,_,C⟩:=Vk u;have U:c1=c:=by
   unfold Ch at b;split at b
   ·rename_i f M;have:=mg_of X T.g M;rw[t1]at this;cases this;split at b
    ·rename_i ob H;have:=X _ _ H;rw[t2]at this;cases this;split at b
     ·rename_i a3 s;rw[w]at s;cases s;rw[Q]at b;cases b;rfl
     ·cases b
    ·cases b
   ·cases b
  subst U;have B:N=P:=by
   obtain⟨⟨o2,ws,e1,_,e2,e3⟩,_⟩:=j;rw[X _ _ J]at e1;cases e1;rw[A]at e2;cases e2;rw[C]at e3;cases e3;rfl
  subst B;exact⟨I,j.2,j.isCodeTable,rfl⟩
def Vl(K:B5)(fd:FuncData)(q:AJ):Bool:=match fd.code with
 |.ref c=>match K.lookup c with
  |some o=>match o.data with
   |.fields vs=>o.cls==.type "code" && (match vs[11]?,vs[1]?,vs.getD 18 .none,vs.getD 7 .none,vs.getD 9 .none,vs.getD 10 .none with
    |some (Value.ref P),Z (Value.str x _),Value.str _ _,Value.int _ _,Value.bool _,Value.int _ _=>!(c==P)&&V7.contains x&&q==x++(".<locals>.<lambda>":AJ)
    |_,_,_,_,_,_=>false)
   |_=>false
  |none=>false
 |_=>false
theorem Y1{q:AJ}(h:Vl K fd q=true):∃c P,fd.code=.ref c/\Qu K c P q:=by
 unfold Vl at h;split at h;rotate_left
 ·cases h
 rename_i c g;split at h;rotate_left
 ·cases h
 rename_i o u;split at h;rotate_left
 ·cases h
 rename_i vs hd;rw[ZO]at h;obtain⟨h1,h⟩:=h;split at h;rotate_left
 ·cases h
 rename_i P x t f tf i p b j s a e1 e v m d;simp only[ZO,Q2,beq_eq_false_iff_ne,ne_eq,beq_iff_eq]at h;obtain⟨⟨h2,l⟩,n⟩:=h;exact⟨c,P,g,o,vs,f,tf,i,p,b,j,s,x,t,u,eq_of_beq h1,hd,a,by rw[Array.getD_eq_getD_getElem?,a];rfl,e,v,m,d,h2,e1,dV.mp l,n⟩
theorem WC{xs:Ap}(i:closureFor scope X.env=pure cl)(c:scope.kind=.function)(f:scope.isCoroutine=false)(g:scope.isGenerator=false)(h:(scope.names.all λy=>!(y.2==.cell))=true)(d:scope.names.lookup x=Z .local)(sub:C3 X.env.cells cl)(has:(scope.names.all λy=>!(y.2==.free)||(cl.lookup y.1).isSome)=true)(b:Ht X scope cl xs is):Nf X scope cl x xs is:=by
 refine⟨i,c,f,g,λy a e=>?_,d,sub,λy a e=>?_,b⟩
 ·have:=List.all_eq_true.mp h y a;rw[e]at this;simp at this
 ·have:=List.all_eq_true.mp has y a;rw[e]at this;exact dj.mp (by simpa using this)
section
variable{e:α->Dt}{c:β->Bx}{fh:Ev->Y Bx}{k:Ev->Y As}{cO:γ->As}{tab:O (AJ×(O Bx->Y Bx))}{tt:O (AJ×(O α->β)×(O α->Y Prop))}
end
end P1
namespace P1
open PySem PySem.Spec PySem.Calls PyProof.Rows L2 S1
end P1
namespace P1
open L2
section
variable{K:Type} [DecidableEq K] {knd:KeyKind prog w K}
end
end P1
namespace L2
end L2
namespace P1
open L2
section
variable{a b:Expr}{fs:Ev->Y (O Bx)}
end
end P1
namespace P1
open L2 S1 S6
section
variable{e:α->Dt}{e':β->Dt}{e3:γ->Dt}{k:Ev->Y As}{cO:δ->As}
end
end P1
namespace P1
open L2
section
variable{o f k v:Expr}{ff:Ev->Y Bx}{keys:O (Y Expr)}{values:O Expr}
end
section
variable{e:α->Dt}
end
end P1
namespace P1
open L2 S1
section
variable{kS:A1}{vs:O A0}{keys:Array A0}{e e1:Nat}{P:PySem.Fin->A2->Prop}
end
end P1
namespace P1
open L2 S6
section
variable{t1 i1 tY i2 tZ i3:Expr}{f1 f2 f3:O Expr}{xs:Ap}{g1 g2 g3:Dt->Ev->Y Ev}{p1 p2 p3:Ev->Y Bool}{fi1 fi2 fi3:Ev->Y (O Dt)}{m2:Nat}
section
variable{e:α->Dt}{e':β->Dt}{fs:Ev->Y (O Dt)}
end
end
end P1
namespace P1
open L2 S1
def L9(ks:O Dt):Y (O (O An)):=(su ks).bind λdH=>if(dH.all (λk=>!k.isEmpty)&&dH.all λk=>dH.all λl=>Fy k l)=true then Z dH else Y3
def FD:O Dt->Y (O (O An))
 |[]=>Z []
 |.str x::ds=>(FD ds).bind λr=>Z ([.inr x]::r)
 |_=>Y3
section
variable{k:Nat}{f:A1}
end
section
variable{p kp kpos:Pos}{k:Nat}{f:A1}
end
section
variable{body:Expr}{afE p kpos:Pos}{xs:Ap}{c P:A1}{q:AJ}
end
end P1
namespace P1
open L2
section
variable{K:Type} [DecidableEq K] {knd:KeyKind prog w K}
end
end P1
namespace P1
open L2 S1 S6
section
variable{e:α->Dt}{e':β->Dt}
class GW {β:Type} (e':β->Dt) (kf:outParam (List Dt->Option (List (List An)))) where
 kk:β->List An
 ok:∀xs:List β,kf (xs.map e')=some (xs.map kk)
 inj:∀a b,kk a=kk b->a=b
instance [M4 e']:GW e' L9:=⟨M4.k e',λxs=>by
 unfold L9;rw[Dm,Au,zo];simp only[ZO,Qb,Q2,bc,forall_exists_index,and_imp,forall_apply_eq_imp_iff₂];exact⟨λa _=>M4.ne a,λa _ b _=>M4.shp a b⟩,M4.inj⟩
theorem S7:∀xs:Ap,FD (xs.map eS)=Z (xs.map λx=>[.inr x])
 |[]=>rfl
 |x::xs=>by
  rw[zr,eS,FD,S7 xs,Au];rfl
instance:GW eS FD:=⟨λx=>[.inr x],S7,λa b h=>by cases h;rfl⟩
section
variable [GW e' kf] {κ:α->β}
end
end
section
variable{e:α->Dt}{e':β->Dt}{fs:Ev->Y (O Dt)}
end
section
variable{e:α->Dt}
end
end P1
namespace L2
end L2
namespace P1
open L2
section
variable{e1:Expr}{fs:Ev->Y (O Bx)}
variable{e:α->Dt}{k:Ev->Y As}{cO:γ->As}
end
section
variable{en:α->Dt}{k:Ev->Y As}{cO:γ->As}
end
section
variable{a b:Expr}
variable{e1:α->Dt}{e2:β->Dt}{k:Ev->Y As}{cO:γ->As}
end
end P1
namespace P1
open PySem PySem.Spec PySem.Calls PyProof.Rows L2 S1
end P1
namespace P1
open PySem PySem.Spec PySem.Calls PyProof.Rows L2
section
variable{o:Expr}{to:TE}
variable{p:Pos}
end
end P1
namespace P1
open L2 S1 S6
section
variable{e:α->Dt}
end
end P1
namespace P1
open L2 S6
section
variable{b:A1}
end
section
variable{b:A1}{zs:Ap}
end
section
variable{b:A1}{xs zs:Ap}
end
section
variable{e1:Expr}{f1 f2:Ev->Y Ap}
end
section
variable{f1 f2:Ev->Y Ap}
end
end P1
namespace P1
open L2
section
variable{e:α->Dt}
end
section
variable{xs:Ap}
def Y5(X:Cx)(ifs:O Expr)(tc:TT):Prop:=(ifs=[]/\tc=λ_ H Q=>Q true H)\/∃c,ifs=[c]/\PT X c tc
theorem Qw{d:Nat}{b6:Pos}{R:Result->A2->Prop}{g:TG}{tc:TT}(n:Nat)(W V:Nat->L2.St->Hp->Prop)(a3:X.calm=true)(hx:X.xe=λ_ _=>False)(Fe:PG X tgt g)(d1:Y5 X ifs tc)(a6:∀i AN s σ H,i<n->L2.AW X AN σ H s->V i σ H->A7 (bn X) X.A (el D X.env) (λ_ s'=>∃ σ' H',L2.AW X AN σ' H' s'/\W (i+1) σ' H') X.xe s)(I:L2.AW X AN σ H s)(w0:W 0 σ H)(T:C2 X.prog X.w X.K tgt J fp it tn)(st:tn 0 s.heap)(hf:∀b∈fp,lO X AN H b)(c3:∀i σ H,i<n->W i σ H->J.go i H/\∀x H1,J.yld i H x H1->g x σ H1 λM H2=>tc M H2 λb H3=>if b=true then V i M H3 else W (i+1) M H3)(a7:∀ σ H,W n σ H->J.stop n H)(d0:∀(it:A0) (D:A1) (env:Env),compTurn comp d it (.ref D) env=(standAt b6 >>= λ_=>pyNext it >>= λr=>match r with
   |none=>pure (.done .next)
   |some v=>letOwnedTupleGo tgt it v >>= λ_=>assign tgt env v >>= λ_=>(forIn ifs true λc r=>if r=true then isTrue c env (eval c env) >>= λok=>pure (ForInStep.yield ok)else pure (ForInStep.yield r)) >>= λok=>if ok=true then el D env >>= λ_=>again (.compLoop comp d it (.ref D) env)else again (.compLoop comp d it (.ref D) env)))(b0:∀{it L:A0} {env:Env} {Q:Fin->A2->Prop} {E:BC} {s:A2},A7 (bn X) X.A ((compTurn comp d it L env).onRaise (λx=>noteFrame x env >>= λ_=>theTreesLotGoes x)) Q E s->A7 (bn X) (X.A.under (.compLoop comp d it L env)) ((bn X).den (.compLoop comp d it L env)) Q E s)(hR:∀s' σ' H',L2.AW X AN σ' H' s'->W n σ' H'->R (.ok .next) s'):
  AF (bn X) X.A (.compLoop comp d (.ref it) (.ref D) X.env) R s:=by
 have P:∀{H':Hp},(∀b∈fp,H' b=Y3)->∀b∈fp,lO X AN H' b:=λ{H'} hn b a=>⟨hn b a,(hf b a).2⟩;refine codeAny_loop S (λk s'=>∃(i:Nat) (σ':L2.St) (H':Hp),k=n-i/\i<=n/\L2.AW X AN σ' H' s'/\tn i s'.heap/\(∀b∈fp,H' b=Y3)/\W i σ' H') ?_ n
  ⟨0,σ,H,by simp,qc _,I,st,λb a=>(hf b a).1,w0⟩
 rintro k s4 ⟨i,p,y,rfl,hi,I4,a5,a4,N⟩;refine b0 (wpAny_noted ?_);rw[d0];by_cases F:i<n
 ·obtain⟨go,yl⟩:=c3 i p y F N;refine zb (QY (zb ?_));refine fB (T.item X S S S a3 i AN s4 p y _ I4 (P a4) a5 go) λr s5 ⟨u,hr,h5⟩=>?_;subst hr;refine zb (fB h5 λ_ s6 ⟨x,H6,I6,r6,y6,D0,fr6⟩=>?_);have c5:=I6.pinned (P fr6) (T.obj _ _ D0);have ha:=Fe _ s6 p H6 x u _ c5 r6 (yl x H6 y6);rw[hx]at ha;refine zb (ZU ha (λ_ s7 h7=>?_) λ_ _ z=>z.elim);obtain⟨h,U,I7,q7⟩:=h7;have ht:A7 (bn X) X.A (forIn ifs true λc r=>if r=true then do let ok <-isTrue c X.env (eval c X.env);pure (ForInStep.yield ok)else pure (ForInStep.yield r))
    (λok G=>∃f,L2.AW X (AN++rC fp s6.heap) h f G/\if ok=true then V i h f else W (i+1) h f) (notedBy (bn X) X.A X.env λe s'=>R (.error e) s') s7:=by
   rcases d1 with⟨rfl,rfl⟩|⟨c,rfl,hc⟩
   ·exact wpAny_tests_nil ⟨U,I7,q7⟩
   ·refine wpAny_tests_one ?_;have:=hc _ s7 h U _ I7 q7;rw[hx]at this;exact ZU this (λb G ⟨f,B,l⟩=>⟨f,B,l⟩) λ_ _ z=>z.elim
  refine zb (ZU ht (λok G h8=>?_) λ_ _ z=>z);obtain⟨f,B,l⟩:=h8;have Ci:∀{m:L2.St} {j:Hp} {C:A2},L2.AW X (AN++rC fp s6.heap) m j C->L2.AW X AN m j C/\tn (i+1) C.heap/\∀b∈fp,j b=Y3:=λ{m j C} q=>by
   refine⟨q.mX,T.keep _ _ _ D0 λb a o e=>(q.pin (b,o) (zz _ (zz _ (jY a e)))).1,λb a=>?_⟩;obtain⟨o,e,d⟩:=T.obj _ _ D0 b a;exact(q.pin (b,o) (zz _ (zz _ (jY a e)))).2.1
  cases ok with
  |false=>
   rw[zS zC]at l;obtain⟨q,c8,c0⟩:=Ci B;exact ze ⟨rfl,n-(i+1),by omega,i+1,h,f,rfl,F,q,c8,c0,l⟩
  |true=>
   rw[zo rfl]at l;have he:=a6 i _ G h f F B l;rw[hx]at he;refine zb (ZU he (λ_ d4 b3=>?_) λ_ _ z=>z.elim);obtain⟨m,j,c4,b5⟩:=b3;obtain⟨d3,d2,b4⟩:=Ci c4;exact ze ⟨rfl,n-(i+1),by omega,i+1,m,j,rfl,F,d3,d2,b4,b5⟩
 ·have:i=n:=by omega
  subst this;refine zb (QY (zb ?_));refine fB (T.done X S S S a3 i AN s4 p y _ I4 (P a4) a5 (a7 _ _ N)) λr s5 ⟨hr,I5⟩=>?_;subst hr;exact ze (hR s5 p y I5 N)
def My(te:TE)(D:A1)(W:L2.St->Hp->Prop):L2.St->Hp->Prop:=λσ H=>te σ H λv a=>∃us,a D=Z (.lst us)/\us.length<AA/\W σ (B1 a D (.lst (us++[v])))
def aw(ns:Nat)(is:O Nat)(i:Nat)(d:TI)(g:TG)(tc:TT)(te:TE):TS:=λDn σ H=>d σ H λJ H2=>∃(n:Nat) (W:A1->Nat->L2.St->Hp->Prop),
 (∀D,H2 D=Y3->W D 0 (nH is σ++ab ns Y3) (B1 H2 D (.lst []))) ∧
 (∀D i σ H,H2 D=Y3->i<n->W D i σ H->J.go i H/\∀x H1,J.yld i H x H1->g x σ H1 λa H2=>tc a H2 λb c=>if b=true then My te D (W D (i+1)) a c else W D (i+1) a c) ∧
 (∀D σ H,W D n σ H->J.stop n H) ∧
 ∀D σ' H',H2 D=Y3->W D n σ' H'->Dn.nx (σ.set i (Z (.ref D))) H'
theorem Y6(i:Nat){py spos:Pos}{wi:TI}{g:TG}{tc:TT}(ts:Ap)(O:oX X scope cl xs is)(b6:X.calm=true)(hN:X.N.Nodup)(hi:PI X tgt iter wi)(Fe:∀C l u fp,PG (tL X (xs++ts) scope cl C l u fp) tgt g)(d0:∀C l u fp,Y5 (tL X (xs++ts) scope cl C l u fp) ifs tc)(c8:∀C l u fp,PE (tL X (xs++ts) scope cl C l u fp) elt te)(d2:swapsWith (.ListComp elt [⟨tgt,iter,ifs,0⟩] scope pos) (Z (.Name y py)) spos.line X.env=pure true:=by with_unfolding_all rfl)(hy:X.N[i]?=Z y:=by rfl)(hx:Cs X.env.scope y:=by first|exact JJ rfl|exact QN S)(hf:X.fn y=true\/X.env.scope.names.lookup y=Z .local:=by first|exact .inl rfl|exact .inr S)(hs:∀x,foldedSetIterable iter X.env x=pure x:=by intro _;rfl):PS X (.Assign [.Name y py] (.ListComp elt [⟨tgt,iter,ifs,0⟩] scope pos) spos) (aw ts.length is i wi g tc te):=λAN s σ H Dn I h=>by
 rw[exec_Assign_Name_used _ _ _ _ d2];refine zb (QY (zb ?_));show A7 _ X.A (do let _ <-comprehension (.ListComp elt [⟨tgt,iter,ifs,0⟩] scope pos) scope X.env _ (newList []) false (eval iter X.env) (Z (assign (.Name y py) X.env))) _ _ s;refine zb (ZU (JI (use:=Z (assign (.Name y py) X.env)) (Q:=λ_ s'=>SP X AN Dn .next s') S hs O.clos O.kind O.names ?_) (λ_ s' M=>ze (ze M)) λ_ _ e=>e);refine fB (hi AN s σ H _ I h) λv s1 h1=>fB h1 λd5 a h2=>?_;obtain⟨it,fp,tn,J,H2,rfl,I2,T,st,a7,n,W,w0,ws,we,wd⟩:=h2;refine qa (Gy ?_);have hD:H2 a.heap.objs.size=Y3:=I2.hok.fresh (zi _);have E:L2.AW X AN σ (B1 H2 a.heap.objs.size (.lst [])) { a with heap:=a.heap.push (seqObj "list" #[] 0) }:=
  I2.laid (t':=a.toks) (λb o e=>zd _ e) (zi _) ⟨qc _,[],0,.nil,zl _ rfl⟩
 have W8:∀b∈fp,b<a.heap.objs.size:=λb f=>let ⟨o,e,_⟩:=T.obj 0 _ st b f;zw e;have U:∀b∈fp,lO X AN (B1 H2 a.heap.objs.size (.lst [])) b:=λb f=>⟨by rw[aF (zI (W8 b f))];exact(a7 b f).1,(a7 b f).2⟩;have a5:tn 0 (a.heap.push (seqObj "list" #[] 0)):=T.keep 0 _ _ st λb f o e=>zd _ e;have G:∀b∈fp,b<(a.heap.push (seqObj "list" #[] 0)).objs.size:=λb f=>by rw[qk];exact qh (W8 b f)
 have d1:=w0 _ hD;generalize c3:({ a with heap:=a.heap.push (seqObj "list" #[] 0) }:A2)=s3 at *
 have c5:s3.heap=a.heap.push (seqObj "list" #[] 0):=by rw[<-c3]
 rw[<-c5]at a5 G;have IC:=Ld (ts:=ts) E O U G;have a4:tn 0 (pushCells (s3.heap.push { cls:=.type "dict",data:=.dict #[] }) scope.names):=T.keep 0 _ _ a5 λb f o e=>pushCells_keeps _ _ b o (zd _ e);have W7:∀b∈fp,lO (tL X (xs++ts) scope cl s3.heap.objs.size s3 (B1 H2 a.heap.objs.size (.lst [])) fp) [] (B1 H2 a.heap.objs.size (.lst [])) b:=λb f=>by
  obtain⟨f0,f1,f2,f3,B,K⟩:=U b f;refine⟨f0,zI (G b f),λz=>?_,.inl f,λx c e z=>?_,λq M=>absurd (show q∈([]:List (A1×AE)) from M) (by simp)⟩
  ·rcases List.mem_cons.mp (E.Br b z)with q|q
   ·exact f1 q
   ·exact f2 q
  ·rcases tM _ _ _ x c e with h|h
   ·exact B x c (O.sub.get h) z
   ·rw[z]at h;exact absurd (Zl (G b f) (fF h)) (JU _)
 have lp:=Qw (X:=tL X (xs++ts) scope cl s3.heap.objs.size s3 (B1 H2 a.heap.objs.size (.lst [])) fp) (D:=a.heap.objs.size) (R:=compPost (bn X) X.A X.xe (Z (assign (.Name y py) X.env)) (λ_ s'=>SP X AN Dn .next s') (.ref a.heap.objs.size) s3.heap.objs.size) (comp:=.ListComp elt [⟨tgt,iter,ifs,0⟩] scope pos) (d:=0)
  n (W a.heap.objs.size) (λi=>My te a.heap.objs.size (W a.heap.objs.size (i+1))) b6 S (Fe _ _ _ _) (d0 _ _ _ _) (el:=λD env=>do let _ <-call (.builtin "list.append") [.ref D,<-eval elt env]) (λi AN s σ H _ I v=>by
   refine zb (ZU (c8 _ _ _ _ AN s σ H _ I v) (λv s9 h9=>?_) λ_ _ z=>z);obtain⟨x,H9,I9,rx,us,e9,l9,w9⟩:=h9;refine zb (ZU ((tD (X:=tL X (xs++ts) scope cl s3.heap.objs.size s3 (B1 H2 a.heap.objs.size (.lst [])) fp)) _ s9 σ H9 (.ref a.heap.objs.size) [x] (.ref a.heap.objs.size) [v] (λ_ P=>W a.heap.objs.size (i+1) σ P) I9 S (.cons rx .nil) ⟨_,us,x,rfl,rfl,e9,l9,w9⟩) (λw e0 b5=>?_) λ_ _ z=>z);obtain⟨_,P,c4,_,c0⟩:=b5;exact ze ⟨σ,P,c4,c0⟩) IC d1 T a4 W7 (ws _ · · · hD) (we _) (λ_ _ _=>S) (λh=>h) λL d6 F j w5=>?_
 ·exact codeAny_compStart_list lp (T.self _ 0 _ _ _ a4 lp)
 ·have I':L2.AW X AN σ F L:=E.call' (ch:=fp) j.os j.base j.hok j.bare λb f=>by
   obtain⟨f0,f1,f2,f3,B,K⟩:=U b f;exact⟨f3,f1,B,K⟩
  obtain⟨m,hn,_⟩:=j.loc;have fC:=E.Bv (zi _) j.free;show A7 _ X.A (assign (.Name y py) X.env (.ref a.heap.objs.size)) _ _ L;obtain⟨f0,f1,f2,f3,B,K⟩:=fC;obtain⟨p,d4,ep,b0,a6,b4⟩:=id hn;have b3:L2.AW X (AN++[(s3.heap.objs.size,p)]) σ F L:=I'.tu λpp hp=>by
   rcases cf.mp hp with z|z
   ·exact I'.pin pp (zz _ z)
   ·have:pp=(s3.heap.objs.size,p):=by simpa using z
    subst this;exact⟨b0,f0,f1,f2,λv z=>by rw[a6]at z;cases z⟩
  refine fB (L2.jB hN hy hx hf (AN++[(s3.heap.objs.size,p)]) L σ F (.ref a.heap.objs.size) (.ref a.heap.objs.size) (λσ' a3=>σ'=σ.set i (Z (.ref a.heap.objs.size))/\a3=F) b3 S ⟨rfl,rfl⟩) λ_ s'' ⟨σ',a3,J',e1,e2⟩=>?_;subst e1 e2;have d3:=(J'.pin (s3.heap.objs.size,p) (by simp)).1;refine⟨m,⟨p,d4,ep,d3,a6,b4⟩,λh' sb=>?_⟩;exact⟨σ.set i (Z (.ref a.heap.objs.size)),a3,J'.mX.turned (t':=s''.toks) (λb o f e=>(sb.2 b f).trans e) f0 f1 f3 B K,wd _ _ _ hD w5⟩
end
section
variable{Q Q':Hp->Prop}{o:AE}{ks:O V}
end
section
variable{H':Hp}{fz:Bool}{ps:O A1}
end
section
variable{b0 b1:Bx}{x:Int}{u v:Y Bx}
end
section
variable{b0 b1:Bx}{x:Int}{v:Y Bx}{ps:O A1}{D:BV}
end
section
variable{b0 b1:Bx}{x:Int}{u v:Y Bx}{ps:O A1}{D:BV}
end
def L5(one:O Ap)(xs:O Int):Prop:=(∀x∈one,x≠[])/\one.flatten.length<64/\In xs.length 7
instance (one:List Ap) (xs:List Int):Decidable (L5 one xs):=by unfold L5 In;infer_instance
section
variable{b0 b1:Bx}{one:O Ap}{xs:O Int}{u v:Y Bx}{ps:O A1}{D:BV}
end
section
variable{e:α->Dt}
end
section
variable{e:α->Dt}
end
def S8(ρ:Ev)(i:Nat):Bx->Bx->Y As
 |.z d,.z (.int n)=>match ρ[i]? with
  |some (Z (.o ds))=>if 0<=n/\n<ds.length then Z (.nx (ρ.set i (Z (.o (ds.set n.toNat d)))))else Y3
  |_=>Y3
 |_,_=>Y3
def S9(i:Nat)(f fk:Ev->Y Bx):Ev->Y As:=λρ=>(f ρ).bind λb=>(fk ρ).bind λk=>S8 ρ i b k
theorem Ng{K:B5}{H:Hp}:∀(m:Nat) {ds:O Dt} {vs:O V} {d:Dt} {v:V},aG K H ds vs->AY K H d v->aG K H (ds.set m d) (vs.set m v)
 |m,[],vs,d,v,h,_=>by
  cases vs with
  |nil=>exact h
  |cons v vs=>have:=h.length;simp at this
 |m,d0::ds,vs,d,v,h,hd=>by
  cases vs with
  |nil=>have:=h.length;simp at this
  |cons b vs=>
   obtain⟨a,r,e,q,t⟩:∃a r,b::vs=a::r/\AY K H d0 a/\aG K H ds r:=by
    simpa only[aG]using h
   cases e;cases m with
   |zero=>exact aG.cons hd t
   |succ m=>exact aG.cons q (Ng m t hd)
section
variable{ek:Expr}{pos':Pos}
theorem am(i:Nat){p:Pos}(he:QV X e f)(hk:QV X ek fk)(F:X.N[i]?=Z x:=by rfl)(L:Ov X.env.scope x:=by first|exact JJ rfl|exact QN (JJ S)|exact QN (QN S))(hd:ad x:=by decide)(C:(x==("__classdict__":AJ))=false:=by decide)(hs:swapsWithSole [.Subscript (.Name x p) ek pos'] e pos.line X.env=pure false:=by rfl)(s:swappedStores [.Subscript (.Name x p) ek pos'] e X.env=pure Y3:=by rfl)(hx:∀v,assign (.Subscript (.Name x p) ek pos') X.env v=(do let ov <-holding [v] (eval (.Name x p) X.env);let iv <-holding [v,ov] (eval ek X.env);standAt pos';holding [v,ov,iv] (setItem ov iv v);release [v,ov,iv] []):=by intro _;rfl):RD X (.Assign [.Subscript (.Name x p) ek pos'] e pos) (S9 i f fk):=
 ⟨V3 (Ik he.run (OH (oV (i:=i) F L hd C) hk.run Cf hx) hs s) λD σ H h=>by
  obtain⟨H0,ρ,r,E,e,q⟩:=h;obtain⟨b,eb,e⟩:=AV e;obtain⟨k,ek,e⟩:=AV e;refine⟨H0,ρ,b,E,eb,λv H1 A M y=>?_⟩;unfold S8 at e;split at e
  ·rename_i d n _;split at e
   ·rename_i ds j;split at e
    ·rename_i G;cases e;have g:=E.grow A;obtain⟨w,e1,a,vs,rfl,z,m⟩:=g.val i _ j;refine⟨_,e1,H0,ρ,_,g,ek,λu H2 c P o=>?_⟩;have B:u=.int n:=by simpa only[aX,AY]using o
     have l:=c _ _ z;have J:=m.kp (.of c);have I:AY X.K H2 d v:=AY.kp (.of c) y;have Q:=m.length;refine⟨a,vs,n,n.toNat,rfl,B,l,?_,q _ _ ((g.grow c).T9 j e1 l (Ng _ J I))⟩;unfold DE;rw[zo G.1,zo ()]
    ·cases e
   ·cases e
  ·cases e⟩
end
section
variable{e:α->Dt}{k:Ev->Y As}{cO:γ->As}
theorem map_set{α β:Type}(f:α->β)(l:O α)(n:Nat)(x:α):(l.map f).set n (f x)=(l.set n x).map f:=by rw[List.map_set]
def WN(i:Nat)(xs:O α)(hi:ρ[i]?=Z (Z (.o (xs.map e))))(a:R fa ρ (zE e))(b:R fb ρ (zE eI))(K:∀ys:O α,R k (ρ.set i (Z (.o (ys.map e)))) cO):R (aH (S9 i fa fb) k) ρ cO:=⟨(K (xs.set b.v.toNat a.v)).v,aW (aW (aW a.D b.D) (Z (0<=b.v/\b.v<xs.length))) (K (xs.set b.v.toNat a.v)).D,λhd=>by
 obtain⟨h,d⟩:=aq hd;obtain⟨h,c⟩:=aq h;obtain⟨h1,h2⟩:=aq h;have c:0<=b.v/\b.v<xs.length:=c;rw[lV (ρ':=ρ.set i (Z (.o ((xs.set b.v.toNat a.v).map e)))) (by
  unfold S9;rw[a.ok h1,Au,b.ok h2,Au];show S8 ρ i (.z (e a.v)) (.z (.int b.v))=_;unfold S8;rw[hi];dsimp only;rw[zo (by rw[zk];exact c),map_set])]
 exact(K _).ok d⟩
end
end P1
namespace P1
open L2 S6
section
variable{b:A1}{xs zs:Ap}
end
section
variable{e1:Expr}{f1 f2:Ev->Y Ap}
end
section
variable{f1 f2:Ev->Y Ap}
end
end P1
namespace P1
open L2
section
variable{f:AJ}{E:XK}{fs:Ev->Y (O Bx)}{p:Pos}
end
section
variable{Cn f:A1}{iv k:Nat}{n cn:AJ}{np hp p pa:Pos}{b0:AB}{ts:A1->TS}{tf:TE}{t:TA}{tc:TT}{t1 t2:TS}{h0:ExceptHandler}{a b:O AB}
end
section
variable{e:α->Dt}{e':β->Dt}{e'':δ->Dt}
def eE(e:α->Dt):Y α->Dt
 |none=>.tup []
 |some a=>e a
class FU {α:Type} (e:α->Dt):Prop where
 l:∀a,uI (.tup []) (e a)=some false
 r:∀a,uI (e a) (.tup [])=some false
instance:FU (F0 e e' e''):=⟨λ_=>rfl,λ_=>rfl⟩
instance {n:Nat} [DecidableEq α] [BB e n] [FU e]:BB (eE e) (n+1):=⟨λa b=>by
 cases a with
 |none=>cases b with
  |none=>rfl
  |some b=>exact(FU.l (e:=e) b).trans (by simp)
 |some a=>cases b with
  |none=>exact(FU.r (e:=e) a).trans (by simp)
  |some b=>exact(BB.eq (e:=e) a b).trans (by simp),λa=>by
 cases a with
 |none=>show 1<=n+1;omega
 |some a=>exact fN (BB.dp (e:=e) a)⟩
end
end P1
namespace P1
open L2 S1
theorem Nh{Q:O A0->A2->Prop}{r:A1}{a b c:Int}{t u v:Tok}(f:A.handled=Y3)(g:IsRange s.heap r a b c t u v)(hsmall:Builtin.Range.small a b c=true)(hn:Builtin.Range.rangeSize a b c=n)(hlen:n<=2 ^ 24)(h:∀h' tk (d:Array A0),(∀b o,s.heap.get? b=Z o->h'.get? b=Z o)->ItemsOf (λi v=>∃t,v=Value.int (a+i*c) t) d n->Q d.toList { s with heap:=h',toks:=tk }):A7 (A8 prog w) A (collect (.ref r)) Q E s:=by
 unfold collect;refine zb (wpAny_runValue (Q4 F.entry_proto_collect ?_));rw[Around.under_plainId F.plain_proto_collect _];show A7 _ A.in1 (newList [] >>= λl=>again (.builtin "list.__iadd__" ⟨[l,.ref r],[]⟩)) _ _ s;refine zb (qa ?_);refine ze ⟨plainId_quiet kU _,Q4 F.entry_list_iadd ?_⟩;rw[Around.under_plainId kU _];have m:(s.heap.push { cls:=.type "list",data:=.seq ([]:O A0).toArray }).get? s.heap.objs.size=Z { cls:=.type "list",data:=.seq ([]:O A0).toArray }:=zl _ rfl;show A7 _ A.in1 (Builtin.List.listExtendWith (.ref s.heap.objs.size) (.ref r) (.ref s.heap.objs.size)) _ _ _;refine wpAny_extend_range (A:=A) (R:=λr s'=>match r with|.ok (.ret v)=>A7 (A8 prog w) A (match v with|.ref a=>(do let o <-load a;match o.data with|.seq xs y=>pure xs.toList|x=>unsupported "internal:collect")|x=>unsupported "internal:collect") Q E s'|.ok a=>False|.error e=>E e s') (s:={ s with heap:=s.heap.push { cls:=.type "list",data:=.seq ([]:O A0).toArray } }) f (zd _ g) hsmall hn hlen _ _ _ m λh' tk j c' hk p q=>?_;show A7 _ A (load s.heap.objs.size >>= _) _ _ _;refine zb (Kk p ?_);exact ze (h h' tk j (λb o e=>hk b o (zI (zw e)) (zd _ e)) q)
theorem uD(r:A1)(a b c:Int)(t u v:Tok)(n:Nat)(hsmall:Builtin.Range.small a b c=true)(hn:Builtin.Range.rangeSize a b c=n)(hlen:n<=2 ^ 24):
  Meets (Builtin.«tuple.__new__» ⟨[.type "tuple", .ref r],[]⟩)
   (λA R s=>(A.handled=Y3/\IsRange s.heap r a b c t u v)/\∀(h':A6) (tk:Nat) (d:Array A0),(∀b o,s.heap.get? b=Z o->h'.get? b=Z o)->ItemsOf (λi v=>∃t,v=Value.int (a+i*c) t) d n →
    R (.ok (.ret (.ref h'.objs.size))) { s with heap:=h'.push { cls:=.type "tuple",data:=.seq d },toks:=tk }):=
 .of_wp λprog w A R s h=>by
  obtain⟨⟨j,f⟩,h⟩:=h;have q:=sub_tuple_self;have x:=init_tuple_lookup;have y:=madeHere_tuple;have p:s.TypeIs (.ref r) "range":=⟨_,f,rfl⟩;have l:A.in1.handled=Y3:=j
  wp_walk using Q3 p,Nh (hn:=hn) (hlen:=hlen) (hsmall:=hsmall) l f
  intro h' tk d hk g;show A7 _ _ (Builtin.Tuple.tupleExact d.toList.toArray >>= λv=>ret v) _ _ _;unfold Builtin.Tuple.tupleExact;have m:d.size<=AA:=by rw[g.1];exact zv hlen (by rw[sizeLine_eq];decide)
  refine zb (qa ?_ (show d.toList.toArray.size<=AA by simp only[ey];exact m));refine ze ⟨_,rfl,?_⟩;have e:d.toList.toArray=d:=by simp
  rw[e];exact h h' tk d hk g
theorem DG{Q:BC}{r:A1}{a b c:Int}{t u v:Tok}(e:A.handled=Y3)(g:IsRange s.heap r a b c t u v)(hsmall:Builtin.Range.small a b c=true)(hn:Builtin.Range.rangeSize a b c=n)(hlen:n<=2 ^ 24)(h:∀(h':A6) (tk:Nat) (d:Array A0),(∀b o,s.heap.get? b=Z o->h'.get? b=Z o)->ItemsOf (λi v=>∃t,v=Value.int (a+i*c) t) d n->Q (.ref h'.objs.size) { s with heap:=h'.push { cls:=.type "tuple",data:=.seq d },toks:=tk }):
  A7 (A8 prog w) A (call (.type "tuple") [.ref r]) Q E s:=
 callType_new F.called_tuple () (F.typeCall_tuple_1 _) (F.newCall_tuple_1 _) (λf=>F.args_object_init_2 f _) F.entry_tuple_new
  (uD r a b c t u v n hsmall hn hlen) ⟨⟨e,g⟩,λh' tk d hk j=>⟨⟨_,zl _ rfl,rfl⟩,h h' tk d hk j⟩⟩
section
variable{ta:TA}{p pos2:Pos}
theorem Pl(c:Gl X "range")(a:X.mg "range"=Y3)(d:PA X [e] ta)(hs:A9 [e] X.env=[(false,eval e X.env)]:=by rfl):PE X (.Call (.Name "range" p) [e] [] pos) (λσ H Q=>ta σ H λvs H1=>∃j,vs=[.int j]/\∀r,H1 r=Y3->Q (.ref r) (B1 H1 r (.rng 0 j))):=by
 intro AN s σ H Q I h;refine Call_ (rA I c a boot_range (PyProof.Rows.callWith_type1 (fB (d pos AN s σ H _ I h) λus s1 ⟨vs,H1,I1,r1,q1⟩=>?_) hs S));obtain⟨j,rfl,q⟩:=q1;cases r1 with
 |cons r f=>
  cases f;obtain⟨t,rfl⟩:=r;refine call_range_1 ⟨.ref s1.heap.objs.size,_,I1.laid (t':=s1.toks+1+1) (λb o e=>zd _ e) (zi _) (show dw X.prog X.w _ _ _ (.rng 0 j) from⟨_,_,_,zl _ rfl⟩),rfl,q _ (I1.hok.fresh (zi _))⟩
theorem Ni:∀{n:Nat} {vs:O A0},vs.length=n->(∀(j:Nat) (v:A0),vs[j]?=Z v->∃t,v=Value.int (0+(j:Int)*1) t)->AZ ((cw n).map λk:Nat=>V.int (k:Int)) vs:=by
 intro n vs a h;have b:∀(vs:O A0) (i:Nat),(∀(j:Nat) (v:A0),vs[j]?=Z v->∃t,v=Value.int (((i+j:Nat):Int)) t)->AZ ((List.range' i vs.length).map λk:Nat=>V.int (k:Int)) vs:=by
  intro vs
  induction vs with
  |nil=>intro i _;exact .nil
  |cons v r c=>
   intro i h;rw[ZN,List.range'_succ,zr];obtain⟨t,e⟩:=h 0 v rfl;refine .cons ⟨t,e⟩ (c (i+1) λj v e=>?_);obtain⟨t,e⟩:=h (j+1) v (by simpa using e);exact⟨t,by rw[e];congr 1;omega⟩
 have:=b vs 0 λj v e=>by
  obtain⟨t,e⟩:=h j v e;exact⟨t,by rw[e];congr 1;omega⟩
 rw[a,<-List.range_eq_range']at this;exact this
theorem Nj{j:Int}(h:j<=1048576):Builtin.Range.rangeSize 0 j 1=(j.toNat:Int)/\j.toNat<=2 ^ 24:=by
 refine⟨?_,by omega⟩;rw[rangeSize_one];split<;>omega
def bS:O V->Hp->VK->Prop:=λxs H Q=>∃r j,xs=[.ref r]/\H r=Z (.rng 0 j)/\(-(2 ^ 62)<=j/\j<=1048576)/\∀p,H p=Y3->Q (.ref p) (B1 H p (.lst ((cw j.toNat).map λk:Nat=>V.int (k:Int))))
def af:O V->Hp->VK->Prop:=λxs H Q=>∃r j,xs=[.ref r]/\H r=Z (.rng 0 j)/\(-(2 ^ 62)<=j/\j<=1048576)/\∀p,H p=Y3->Q (.ref p) (B1 H p (.tup ((cw j.toNat).map λk:Nat=>V.int (k:Int))))
theorem M'(h:n<=1048576):n<=AA:=by rw[sizeLine_eq];omega
theorem Qx(b:X.calm=true):fK X (.type "list") bS:=by
 intro AN s σ H xs us Q I r h;obtain⟨a,j,rfl,f,⟨c,m⟩,q⟩:=h;obtain⟨u,rfl,g⟩:=BG r;cases g;obtain⟨t,u,v,d⟩:=(show dw X.prog X.w H s.heap a (.rng 0 j) from I.hok _ _ f);obtain⟨e1,e2⟩:=Nj m;refine call_list_range (I.ok.hd b) d (small_one () () c ()) e1 e2 λh' tk l c' kp e it=>?_;exact⟨.ref s.heap.objs.size,_,I.laid (t':=tk) kp (zi _) (show dw X.prog X.w _ h' _ (.lst _) from⟨by rw[zk,fR];exact M' (),l.toList,c',Ni (by rw[qV];exact it.1) (λj v i=>it.2 j v (by simpa using i)),by rw[ey];exact e⟩),rfl,q _ (I.hok.fresh (zi _))⟩
theorem Vm(d:X.calm=true):fK X (.type "tuple") af:=by
 intro AN s σ H xs us Q I r h;obtain⟨a,j,rfl,i,⟨f,p⟩,q⟩:=h;obtain⟨u,rfl,l⟩:=BG r;cases l;obtain⟨t,u,v,g⟩:=(show dw X.prog X.w H s.heap a (.rng 0 j) from I.hok _ _ i);obtain⟨e1,e2⟩:=Nj p;refine DG (I.ok.hd d) g (small_one () () f ()) e1 e2 λh' tk n kp it=>?_;have c:L2.AW X AN σ H { s with heap:=h',toks:=tk }:=I.kept (t':=tk) kp;exact⟨.ref h'.objs.size,_,c.laid (t':=tk) (λb o e=>zd _ e) (zi _) (show dw X.prog X.w _ _ _ (.tup _) from⟨by rw[zk,fR];exact M' (),n.toList,Ni (by rw[qV];exact it.1) (λj v m=>it.2 j v (by simpa using m)),by rw[ey];exact pU.new _ _⟩),rfl,q _ (c.hok.fresh (zi _))⟩
def EG(j:Int):Prop:=-(2 ^ 62)<=j/\j<=1048576
instance (j:Int):Decidable (EG j):=by unfold EG;infer_instance
def Y7:Bx->Y Bx
 |.z (.int j)=>if EG j then Z (.o (wj 0 j.toNat))else Y3
 |_=>Y3
theorem Y8(n:Nat):aG K H (wj 0 n) ((cw n).map λk:Nat=>V.int (k:Int)):=by
 unfold wj;generalize cw n=l
 induction l with
 |nil=>exact aG.nil
 |cons k r a=>exact aG.cons (by rw[AY];exact congrArg V.int (by show(k:Int)=0+(k:Int);omega)) a
end
section
variable{p pos2:Pos}
theorem Y9{T:String}{r:O V->Hp->VK->Prop}(f:fK X (.type T) r)(m:Gl X x)(o:X.mg x=Y3)(n:AH x=Z (.type T))(g:Gl X "range")(w:X.mg "range"=Y3)(he:QV X e fe)(hn:x ≠ "__name__":=by decide)(u:ad x:=by decide)
  (b:A9 [e] X.env=(false,eval e X.env)::A9 [] X.env:=by rfl) (hs:A9 [.Call (.Name "range" p2) [e] [] pos2] X.env=(false,eval (.Call (.Name "range" p2) [e] [] pos2) X.env)::A9 [] X.env:=by rfl) (s:(AD pos (A9 [] X.env)).any (·.1)=false:=by rfl):
  PE X (.Call (.Name x p) [.Call (.Name "range" p2) [e] [] pos2] [] pos) (λσ H Q=>∃H0 ρ j,aY X.K H0 H σ ρ/\fe ρ=Z (.z (.int j))/\∀H1 a,AX H H1->H1 a=Z (.rng 0 j)->r [.ref a] H1 Q):=by
 refine Ay (yw f m o n (bD (Pl g w (bD he.run fQ b) b) fQ hs) hn u hs s) λσ H Q h=>?_;obtain⟨H0,ρ,j,E,l,q⟩:=h;refine⟨H0,ρ,_,E,l,λv H1 i y d=>⟨j,?_,λa c=>q _ a (i.trans (bf c)) aJ⟩⟩;have:v=.int j:=by simpa only[aX,AY]using d
 rw[this]
theorem Za(i:X.calm=true)(n:Gl X "list")(o:X.mg "list"=Y3)(l:Gl X "range")(u:X.mg "range"=Y3)(he:QV X e fe)
  (g:A9 [e] X.env=(false,eval e X.env)::A9 [] X.env:=by rfl) (hs:A9 [.Call (.Name "range" p2) [e] [] pos2] X.env=(false,eval (.Call (.Name "range" p2) [e] [] pos2) X.env)::A9 [] X.env:=by rfl) (s:(AD pos (A9 [] X.env)).any (·.1)=false:=by rfl):
  QV X (.Call (.Name "list" p) [.Call (.Name "range" p2) [e] [] pos2] [] pos) (b1 Y7 fe):=⟨Ay (Y9 (Qx i) n o Xs l u he () () g hs s) λσ H Q h=>by
 obtain⟨H0,ρ,c,E,e,q⟩:=h;obtain⟨b,eb,e⟩:=AV e;unfold Y7 at e;split at e
 ·rename_i j;split at e
  ·rename_i ok;cases e;refine⟨H0,ρ,j,E,eb,λH1 m d f=>⟨m,j,rfl,f,ok,λp hp=>q _ _ (d.trans (bf hp)) (λa e=>by cases e;exact d.free hp) ⟨p,_,rfl,aJ,Y8 _⟩⟩⟩
  ·cases e
 ·cases e⟩
end
def Re(a:R fa ρ (zE eI)):R (b1 Y7 fa) ρ (oE eI):=⟨rng 0 a.v.toNat,aW a.D (Z (EG a.v)),λh=>by
 obtain⟨h1,h2⟩:=aq h;have h2:EG a.v:=h2;simp only[b1,a.ok h1,Au,Y7,zo h2,Bg]⟩
end P1
namespace P1
open L2
abbrev Vn:=i2 λi j=>if(0<=j/\j<=1000) ∧ -1000<=i/\i<=1000 then Z (.int (i*2 ^ j.toNat))else Y3
theorem JT:z9 X (binaryOp .LShift) Vn:=wD bP λi j d H Q e q=>by
 split at e
 ·rename_i h;cases e;exact⟨i,j,rfl,rfl,⟨h.1.1,by omega,QA (show i.natAbs<=1000 by omega) ()⟩,q _ Dx⟩
 ·cases e
def Sh(a b:Int):Prop:=(0<=b/\b<=1000) ∧ -1000<=a/\a<=1000
def Tc(a:R fa ρ (zE eI))(b:R fb ρ (zE eI)):R (b2 Vn fa fb) ρ (zE eI):=⟨a.v*2 ^ b.v.toNat,aW (aW a.D b.D) (Z (Sh a.v b.v)),λh=>by
 obtain⟨h,c⟩:=aq h;obtain⟨h1,h2⟩:=aq h;have c:(0<=b.v/\b.v<=1000) ∧ -1000<=a.v/\a.v<=1000:=c;simp only[b2,a.ok h1,b.ok h2,Au,i2,zo c]⟩
abbrev AQ:=Ap×O Bool
abbrev V6:AQ->Dt:=ZX (eT eS) (eL eB)
def bC(ns:O Int)(bs:O Bool)(b:Bool):O Int:=ns.filter λn=>decide (at' bs n=b)
def dG(ns:O Int)(bs:O Bool):Bool:=decide (0<(bC ns bs true).length)&&decide ((bC ns bs true).length<ns.length)
def zQ:Int×Dt->O (Int×Dt)->Int×Dt
 |p,[]=>p
 |p,x::r=>zQ (if x.1<p.1 then x else p) r
def Qy:O (Int×Dt)->Int×Dt
 |[]=>(0,.non)
 |p::r=>zQ p r
def Qz(y n:Int×Dt)(a:Ap):Int×Dt:=(1+(if n.1>y.1 then n.1 else y.1),.tup [.str "ask",eT eS a,y.2,n.2])
def D7:Nat->O AQ->O Int->Int×Dt
 |0,_,ns=>(0,.tup [.str "told", .int (at' ns 0)])
 |m+1,as,ns=>if ns.length=1 then(0,.tup [.str "told", .int (at' ns 0)])else Qy ((as.filter λq=>dG ns q.2).map λq=>Qz (D7 m as (bC ns q.2 true)) (D7 m as (bC ns q.2 false)) q.1)
def Nk:Nat->O AQ->O Int->Prop
 |0,_,_=>False
 |m+1,as,ns=>(∀q∈as,∀n∈ns,In q.2.length n)/\(ns.length=1\/ns.length≠1/\(∃q∈as,dG ns q.2=true)/\∀q∈as,dG ns q.2=true->Nk m as (bC ns q.2 true)/\Nk m as (bC ns q.2 false))
theorem JV:∀(m k:Nat) (as:O AQ) (ns:O Int),Nk m as ns->m<=k->D7 k as ns=D7 m as ns
 |0,_,_,_,h,_=>h.elim
 |m+1,0,_,_,_,h=>absurd h (hW _)
 |m+1,k+1,as,ns,h,hk=>by
  unfold D7;by_cases e:ns.length=1
  ·rw[zo e,zo e]
  ·rw[zS e,zS e];obtain⟨_,h|⟨_,_,h⟩⟩:=h
   ·exact absurd h e
   refine congrArg Qy (ZT λq a=>?_);obtain⟨q1,q2⟩:=df.mp a;obtain⟨h1,h2⟩:=h q q1 q2;rw[JV m k as _ h1 (hG hk),JV m k as _ h2 (hG hk)]
def Lq(as:O AQ)(ns:O Int):Int×Dt:=D7 9 as ns
theorem Zb{as:O AQ}(h:Nk m as ns)(a:m<=9):Lq as ns=D7 m as ns:=JV m 9 as ns h a
theorem DK{as:O AQ}(h:ns.length=1):Lq as ns=(0,.tup [.str "told", .int (at' ns 0)]):=by unfold Lq D7;rw[zo h]
theorem JW{as:O AQ}(h:Nk (m+1) as ns)(a:m+1<=9)(hn:ns.length≠1):Lq as ns=Qy ((as.filter λq=>dG ns q.2).map λq=>Qz (Lq as (bC ns q.2 true)) (Lq as (bC ns q.2 false)) q.1):=by
 rw[Zb h a];unfold D7;rw[zS hn];obtain⟨_,h|⟨_,_,h⟩⟩:=h
 ·exact absurd h hn
 refine congrArg Qy (ZT λq b=>?_);obtain⟨q1,q2⟩:=df.mp b;obtain⟨h1,h2⟩:=h q q1 q2;rw[Zb h1 (),Zb h2 ()]
def pD(p:Int×Dt):Dt:=.tup [.int p.1,p.2]
abbrev qj(ns:O Int):O An:=ns.map Sum.inl
theorem Nm:∀{a b:O Int},qj a=qj b->a=b
 |[],[],_=>rfl
 |[],_::_,e=>by cases e
 |_::_,[],e=>by cases e
 |x::a,y::b,e=>by
  rw[qj,qj,zr,zr]at e;injection e with e1 e2;injection e1 with e1;rw[e1,Nm e2]
theorem OQ(ns:O Int):(qj ns).map kV=ns.map V.int:=by rw[qj,ZY];rfl
def Hu:O Int->O B7
 |[]=>[[]]
 |x::xs=>Hu xs++(Hu xs).map (x::·)
theorem Vo{a b:O Int}(h:a.Sublist b):a∈Hu b:=by
 induction h with
 |slnil=>exact bo.mpr rfl
 |cons x _ c=>exact QR _ c
 |cons_cons x _ c=>exact zz _ (bc.mpr ⟨_,c,rfl⟩)
theorem Hv:∀b:O Int,(Hu b).length=2 ^ b.length
 |[]=>rfl
 |x::b=>by
  unfold Hu;rw[ZA,zk,Hv b,ZN,ir];omega
structure JX (K:B5) (as:List AQ) (H:Hp) (AO:List (List An×V)):Prop where
 nd:(AO.map (·.1)).Nodup
 ok:∀p∈AO,∃ns:List Int,ns.Sublist (rng 0 8)/\p.1=qj ns/\AY K H (pD (Lq as ns)) p.2
section
variable{as:O AQ}{H':Hp}{ka:A1}
theorem JX.nil:JX K as H []:=⟨.nil,λ_ h=>by cases h⟩
theorem JX.kp(k:Kp H H')(t:JX K as H AO):JX K as H' AO:=⟨t.nd,λp hp=>let ⟨ns,a,b,c⟩:=t.ok p hp;⟨ns,a,b,c.kp k⟩⟩
theorem JX.len(t:JX K as H AO):AO.length<=256:=by
 have:=zR t.nd (ys:=(Hu (rng 0 8)).map qj) λk hk=>by
  obtain⟨p,hp,rfl⟩:=bc.mp hk;obtain⟨ns,a,b,_⟩:=t.ok p hp;rw[b];exact bc.mpr ⟨ns,Vo a,rfl⟩
 rw[zk,zk,Hv]at this;exact this
where zR {α:Type} [DecidableEq α]:∀{xs ys:O α},xs.Nodup->(∀x∈xs,x∈ys)->xs.length<=ys.length
 |[],_,_,_=>qc _
 |x::xs,ys,nd,h=>by
  obtain⟨h1,h2⟩:=cz.mp nd;have hx:=h x zg;have:=zR (ys:=ys.erase x) h2 λy c=>(hX λe=>h1 (by rw[<-e];exact c)).mpr (h y (zh _ c));rw[gz hx]at this;have:=JS hx;simp only[ZN];omega
theorem JX.get(t:JX K as H AO)(h:lq AO (qj ns)=Z v):AY K H (pD (Lq as ns)) v:=by
 unfold lq at h;cases a:AO.find? λd=>decide (d.1=qj ns)with
 |none=>rw[a]at h;cases h
 |some p=>
  rw[a]at h;cases h;obtain⟨f,_,b,c⟩:=t.ok p (gd a);have e:p.1=qj ns:=by simpa using List.find?_some a
  rw[b]at e;rw[<-Nm e];exact c
theorem Zc(k:O An)(v:V)(AO:O (O An×V)):(lq (BH AO k v) k).isSome=true:=by
 rw[<-rK];unfold BH;split
 ·rename_i h;obtain⟨p,hp,e⟩:=List.any_eq_true.mp h;have e:=ko e;exact List.any_eq_true.mpr ⟨_,bc.mpr ⟨p,hp,rfl⟩,by rw[zo e];exact ZI e⟩
 ·exact List.any_eq_true.mpr ⟨(k,v),zz _ zg,ZI rfl⟩
theorem JX.put(t:JX K as H AO)(hs:ns.Sublist (rng 0 8))(r:AY K H (pD (Lq as ns)) v):JX K as H (BH AO (qj ns) v):=by
 unfold BH;split
 ·refine⟨?_,λp hp=>?_⟩
  ·have:(AO.map λc=>if c.1=qj ns then(c.1,v)else c).map (·.1)=AO.map (·.1):=by
    rw[ZY];refine ZT λp _=>?_;show(if p.1=qj ns then(p.1,v)else p).1=p.1;split<;>rfl
   rw[this];exact t.nd
  ·obtain⟨p',f,rfl⟩:=bc.mp hp;split
   ·rename_i e;exact⟨ns,hs,e,r⟩
   ·exact t.ok p' f
 ·rename_i h;refine⟨?_,λp hp=>?_⟩
  ·rw[ZE];refine List.nodup_append.mpr ⟨t.nd,List.pairwise_singleton ..,λa g b d e=>h ?_⟩;obtain⟨p,hp,rfl⟩:=bc.mp g;have d:b=qj ns:=bo.mp d;exact List.any_eq_true.mpr ⟨p,hp,ZI (e.trans d)⟩
  ·rcases cf.mp hp with q|q
   ·exact t.ok p q
   ·rw[bo.mp q];exact⟨ns,hs,rfl,r⟩
def Hw(ka:A1)(H H':Hp):Prop:=∀b o,b≠ka->H b=Z o->H' b=Z o
theorem Hw.same(s:AX H H'):Hw ka H H':=λb o _ h=>s b o h
theorem Hw.trans{H1:Hp}(a:Hw ka H H1)(b:Hw ka H1 H'):Hw ka H H':=λc o n h=>b c o n (a c o n h)
theorem Hw.kp(c:Hw ka H H')(h:H ka=Z (.dT AO)):Kp H H':=⟨λb xs e=>c b _ (d9 e h (by intro z;cases z)) e,λb o u e=>c b _ (d9 e h (by intro z;cases z)) e⟩
def Lr(K:B5)(H:Hp)(ds:O Dt)(b:V):Prop:=∃a us,b=.ref a/\Rd H a (.lst us)/\aG K H ds us
theorem Lr.ch{b:V}(r:Lr K H ds b)(c:Hw ka H H')(h:H ka=Z (.dT AO)):Lr K H' ds b:=by
 obtain⟨a,us,e,q,w⟩:=r;refine⟨a,us,e,?_,w.kp (c.kp h)⟩;rcases q with q|⟨o,q⟩
 ·exact .inl (c _ _ (d9 q h (by intro z;cases z)) q)
 ·exact .inr ⟨o,c _ _ (d9 q h (by intro z;cases z)) q⟩
theorem Np(K:B5)(H:Hp):∀ns:O Int,aG K H (ns.map eI) (ns.map V.int)
 |[]=>aG.nil
 |n::ns=>aG.cons (by show AY K H (.int n) (.int n);rw[AY]) (Np K H ns)
theorem Zd:∀{ns:O Int},aG K H (ns.map eI) vs->vs=ns.map V.int:=by
 induction vs with
 |nil=>intro ns h;have:=h.length;cases ns with|nil=>rfl|cons=>simp at this
 |cons v vs a=>
  intro ns h;cases ns with
  |nil=>have:=h.length;simp at this
  |cons n ns=>
   rw[zr,aG]at h;obtain⟨b,r,e,h1,h2⟩:=h;injection e with e1 e2;subst e1 e2;rw[a h2,zr];have h1:AY K H (.int n) v:=h1;rw[AY]at h1;rw[h1]
theorem JZ{b:A1}(h:H b=Z (.tup (ns.map V.int))):AY K H (eT eI ns) (.ref b):=by
 show AY K H (.tup _) _;rw[AY];exact⟨b,_,rfl,.inl (.inl h),Np K H ns⟩
theorem Hx(g:σ.length=ρ.length)(f:∀(i:Nat) b,ρ[i]?=Z (Z b)->qZ b=false/\∃v,σ[i]?=Z (Z v)/\aX K H b v):aY K H H σ ρ:=
 ⟨g,λi b e=>(f i b e).2,λi j c a b e d=>(by rw[(f i c e).1]at d;cases d),AX.refl _,λi c a e d=>(by rw[(f i c e).1]at d;cases d)⟩
end
def Fc(K:B5)(as:O AQ)(m:Nat):Sp:=λvs H Q _=>∃(ns:O Int) (b ka:A1) (c:V) (AO:O (O An×V)),vs=[.ref b,c,.ref ka]/\H b=Z (.tup (ns.map V.int))/\Lr K H (as.map V6) c/\H ka=Z (.dT AO)/\JX K as H AO/\ns.Sublist (rng 0 8)/\Nk m as ns ∧
 ∀v H' a,Hw ka H H'->H' ka=Z (.dT a)->JX K as H' a->AY K H' (pD (Lq as ns)) v->Q v H'
def Ic(K:B5)(as:O AQ)(m:Nat):Sp:=λvs H Q _=>∃(ns:O Int) (q:AQ) (b ka:A1) (pv c:V) (AO:O (O An×V)),vs=[.ref b,pv,c,.ref ka]/\H b=Z (.tup (ns.map V.int))/\AY K H (V6 q) pv/\Lr K H (as.map V6) c/\H ka=Z (.dT AO)/\JX K as H AO/\ns.Sublist (rng 0 8)/\(∀n∈ns,In q.2.length n)/\Nk m as (bC ns q.2 true)/\Nk m as (bC ns q.2 false) ∧
 ∀v H' a,Hw ka H H'->H' ka=Z (.dT a)->JX K as H' a->AY K H' (pD (Qz (Lq as (bC ns q.2 true)) (Lq as (bC ns q.2 false)) q.1)) v->Q v H'
def Hm(K:B5):Sp:=λvs H Q _=>∃(ns:O Int) (bs:O Bool) (c:Bool) (b:A1) (a:V),vs=[.ref b,a,.bl c]/\H b=Z (.tup (ns.map V.int))/\AY K H (eL eB bs) a/\ns.length<=1000/\(∀n∈ns,In bs.length n)/\∀p H',AX H H'->H' p=Z (.tup ((bC ns bs c).map V.int))->Q (.ref p) H'
theorem Aw.Nk{f c:A1}{k:Nat}(F:Aw K x qual st f fd)(a:fd.code=.ref c)(S:bH N ps (aO st))(len:∀vs H Q E,sp vs H Q E->vs.length=ps.length)(j:∀(A:A5) (outer:O Env) (s:A2) (H:Hp) (vs:O V) (Q:VK) (E:XK),jW k (A.deeper (AK qual (aO st) s.heap.objs.size f (.ref c)))->sp vs H Q E →
   ∃t,KH (BJ uH P w K mg base N qual (aO st) f (.ref c) A outer s H E).ZS (iG st) t/\t { nx:=λ_ H'=>Q .non H',rt:=Q } (L2.start N vs) H):jx P w K mg base uH (k+1) f fd ps sp:=by
 obtain⟨o,m,kV,l,pm,n,e,ct,osl,rfl,g,i⟩:=F.ex;have a:e=.ref c:=a;subst a;refine LB g i S len λA outer s H vs Q E d b=>?_;obtain⟨t,h,q⟩:=j A outer s H vs Q E d b;exact⟨t,KH.ZS h,q⟩
def EZ:Dt->Dt->Bool
 |.int a,.int b=>decide (a<b)
 |_,_=>false
theorem W1:JQ X .Lt EZ DC:=λAN σ H s d c i j l m Q E I b a p1 p2 f e h=>by
 cases d<;>first|(cases f;done)|skip;cases c<;>first|(cases e;done)|skip;simp only[AY]at p1 p2;subst p1 p2;obtain⟨t,rfl⟩:=b;obtain⟨g,rfl⟩:=a;have:=PyProof.Rows.lt_int (prog:=X.prog) (w:=X.w) (A:=X.A.in1) (E:=E) (Q:=Q) (t:=t) (u:=g) h;exact this
abbrev Fu:Ev->Y Bx:=b2 iw (gv 0) (cB (.int 0))
theorem Nq:∀ps:O (Int×Dt),BN DC (λd=>Fu (Z (.z d)::[])) (ps.map pD)=Z (ps.map λp=>(pD p,.int p.1))
 |[]=>rfl
 |p::ps=>by
  have e:Fu [Z (.z (pD p))]=Z (.z (.int p.1)):=rfl;rw[zr];simp only[BN];rw[e,Nq ps];rfl
theorem J0:∀(p:Int×Dt) (r:O (Int×Dt)),xq EZ (pD p) (.int p.1) (r.map λp=>(pD p,.int p.1))=pD (zQ p r)
 |p,[]=>rfl
 |p,x::r=>by
  show(if decide (x.1<p.1)=true then xq EZ (pD x) (.int x.1) _ else xq EZ (pD p) (.int p.1) _)=_;unfold zQ;by_cases h:x.1<p.1
  ·rw[zo (ZI h),zo h];exact J0 x r
  ·rw[zS (by simp[h]),zS h];exact J0 p r
def Hy:O Dt->Y (O Bool)
 |[]=>Z []
 |.bl b::r=>(Hy r).bind λy=>Z (b::y)
 |_=>Y3
def GB:Dt->Y AQ
 |.tup [.tup xs,.lst ys]=>(qO xs).bind λx=>(Hy ys).bind λy=>Z (x,y)
 |_=>Y3
def Vp:O Dt->Y (O AQ)
 |[]=>Z []
 |d::r=>(GB d).bind λx=>(Vp r).bind λy=>Z (x::y)
theorem Hz:∀l:O Bool,Hy (l.map eB)=Z l
 |[]=>rfl
 |b::l=>by
  show(Hy (l.map eB)).bind _=_;rw[Hz l];rfl
theorem Nr:∀{ds:O Dt} {l:O Bool},Hy ds=Z l->ds=l.map eB
 |[],l,h=>by cases h;rfl
 |d::r,l,h=>by
  cases d with
  |bl b=>
   obtain⟨y,e,h⟩:=AV h;cases h;rw[Nr e];rfl
  |_=>cases h
theorem Td:∀l:O AQ,Vp (l.map V6)=Z l
 |[]=>rfl
 |q::l=>by
  have e:GB (V6 q)=Z q:=by
   show(qO (q.1.map eS)).bind (λx=>(Hy (q.2.map eB)).bind λy=>Z (x,y))=_;rw[BI,Hz];rfl
  show(GB (V6 q)).bind (λx=>(Vp (l.map V6)).bind λy=>Z (x::y))=_;rw[e,Td l];rfl
theorem Ze:∀{ds:O Dt} {l:O AQ},Vp ds=Z l->ds=l.map V6
 |[],l,h=>by cases h;rfl
 |d::r,l,h=>by
  obtain⟨x,e1,h⟩:=AV h;obtain⟨y,e2,h⟩:=AV h;cases h;have:d=V6 x:=by
   unfold GB at e1;split at e1
   ·obtain⟨z,z1,e1⟩:=AV e1;obtain⟨u,a,e1⟩:=AV e1;cases e1;rw[CP z1,Nr a]
   ·cases e1
  rw[this,Ze e2];rfl
open Classical in
noncomputable def Gc:Bx->Bx->Y Bx
 |.z (.int n),.o ds=>(Vp ds).bind λas=>if 0<=n/\n<=8/\as.length<=1000/\Nk 9 as (rng 0 n.toNat)then Z (.z (pD (Lq as (rng 0 n.toNat))))else Y3
 |_,_=>Y3
theorem aI(h:QB X e p):PT X e (WL X.K p):=h.run
end P1
variable{as:O P1.AQ}
namespace P1
open L2
theorem jg{i:Int}(h:i∈rng 0 n):∃k:Nat,k<n/\i=(k:Int):=by
 unfold rng at h;obtain⟨k,hk,rfl⟩:=bc.mp h;exact⟨k,di.mp hk,by omega⟩
end P1
namespace P1
open L2 S1 S6
theorem iz{α:Type}[DecidableEq α]:∀{xs ys:O α},xs.Nodup->(∀x∈xs,x∈ys)->xs.length<=ys.length
 |[],_,_,_=>qc _
 |x::xs,ys,nd,h=>by
  obtain⟨h1,h2⟩:=cz.mp nd;have hx:=h x (zg ..);have:=iz (ys:=ys.erase x) h2 λy a=>(hX λe=>h1 (by rw[<-e];exact a)).mpr (h y (zh _ a));rw[gz hx]at this;have:=JS hx;simp only[ZN];omega
theorem vG[DecidableEq α]{xs ys:O α}(h1:xs.Nodup)(h2:ys.Nodup)(h:∀x,x∈xs↔x∈ys):xs.Perm ys:=by
 rw[List.perm_iff_count];intro a;by_cases b:a∈xs
 ·rw[h1.count,h2.count,zo b,zo ((h a).mp b)]
 ·rw[h1.count,h2.count,zS b,zS λz=>b ((h a).mpr z)]
theorem Vq{xs:Ap}(h1:xs.Nodup)(h2:ys.Nodup)(h:∀x,x∈xs↔x∈ys):bN xs=bN ys:=
 wN ((bL xs).trans ((vG h1 h2 h).trans (bL ys).symm)) (jj xs) (jj ys)
structure Wd (U:Ap) (w:List Ap):Prop where
 ne:∀s∈w,s≠[]
 so:∀s∈w,s.Pairwise Pr
 nd:w.flatten.Nodup
 sub:∀x∈w.flatten,x∈U
 st:w.Pairwise (λa b=>Qn a b=true)
def same(w:O Ap)(x y:AJ):Prop:=∃s∈w,x∈s/\y∈s
theorem Te{α:Type}:∀{w:O (O α)},w.flatten.Nodup->∀{s t:O α} {x:α},s∈w->t∈w->x∈s->x∈t->s=t
 |a::w,h,s,t,x,hs,ht,xs,xt=>by
  rw[Zs,j3]at h;rcases List.mem_cons.mp hs with e1|e1<;>rcases List.mem_cons.mp ht with e2|e2
  ·rw[e1,e2]
  ·exact absurd S (h.2.2 x (by rw[<-e1];exact xs) x (de.mpr ⟨t,e2,xt⟩))
  ·exact absurd S (h.2.2 x (by rw[<-e2];exact xt) x (de.mpr ⟨s,e1,xs⟩))
  ·exact Te h.2.1 e1 e2 xs xt
theorem DN{α:Type}:∀{w:O (O α)},w.flatten.Nodup->∀{s:O α},s∈w->s.Nodup
 |a::w,h,s,hs=>by
  rw[Zs,j3]at h;rcases List.mem_cons.mp hs with e|e
  ·rw[e];exact h.1
  ·exact DN h.2.1 e
theorem xG{α:Type}:∀{w:O (O α)},w.flatten.Nodup->(∀s∈w,s≠[])->w.Nodup
 |[],_,_=>QQ
 |a::w,h,hn=>by
  have h':=h;rw[Zs,j3]at h;refine cz.mpr ⟨λz=>?_,xG h.2.1 λs b=>hn s (zh _ b)⟩;obtain⟨x,hx⟩:=gf a (hn a (zg ..));exact absurd S (h.2.2 x hx x (de.mpr ⟨a,z,hx⟩))
theorem Wd.oh{w:O Ap}(W:Wd U w){s:Ap}(hs:s∈w)(hx:x∈s):same w x y↔y∈s:=
 ⟨λ⟨t,ht,xt,yt⟩=>by rw[Te W.nd hs ht hx xt];exact yt,λa=>⟨s,hs,hx,a⟩⟩
theorem Tf{w w':O Ap}(W:Wd U w)(b:Wd U w')(h1:∀x,x∈w.flatten↔x∈w'.flatten)(h2:∀x y,same w x y↔same w' x y){s:Ap}(hs:s∈w):s∈w':=by
 obtain⟨x,hx⟩:=gf s (W.ne s hs);obtain⟨t,a,c⟩:=de.mp ((h1 x).mp (de.mpr ⟨s,hs,hx⟩));have:s=t:=wN (vG (DN W.nd hs) (DN b.nd a) λy=>by rw[<-W.oh hs hx,h2,b.oh a c]) (W.so s hs) (b.so t a);rw[this];exact a
theorem VZ{w w':O Ap}(W:Wd U w)(a:Wd U w')(h1:∀x,x∈w.flatten↔x∈w'.flatten)(h2:∀x y,same w x y↔same w' x y):w=w':=
 rZ (λ_ _=>Vh) (vG (xG W.nd W.ne) (xG a.nd a.ne) λs=>⟨Tf W a h1 h2,Tf a W (λx=>(h1 x).symm) λx y=>(h2 x y).symm⟩) W.st a.st
structure EA (m:List (Int×List α)) (xs:List α):Prop where
 k:(m.map (·.1)).Nodup
 ne:∀q∈m,q.2≠[]
 p:(m.map (·.2)).flatten.Perm xs
theorem EA.put{m:O (Int×O α)}{xs:O α}(h:EA m xs)(k:Int)(x:α):EA (sU m k x) (xs++[x]):=by
 unfold sU;split
 ·rename_i hk;obtain⟨q0,c,e⟩:=List.any_eq_true.mp hk;have e:q0.1=k:=ko e;obtain⟨d,AU,rfl⟩:=ix c;have g:=h.k;rw[ZE,zr,j3]at g;have i:∀l:O (Int×O α),k∉l.map (·.1)->l.map (λq=>if q.1=k then(q.1,q.2++[x])else q)=l:=λl n=>by
   conv=>rhs;rw[<-List.map_id l]
   exact ZT λq c=>by rw[zS λz=>n (bc.mpr ⟨q,c,z⟩)];rfl
  have f1:=i d λz=>g.2.2 _ z _ (zg ..) e.symm;have f2:=i AU λz=>(cz.mp g.2.1).1 (by rw[e];exact z);have f3:(d++q0::AU).map (λq=>if q.1=k then(q.1,q.2++[x])else q)=d++(q0.1,q0.2++[x])::AU:=by rw[ZE,zr,f1,f2,zo e]
  rw[f3];refine⟨by have:=h.k;simpa using this,λq c=>?_,?_⟩
  ·rcases cf.mp c with c|c
   ·exact h.ne q (QR _ c)
   ·rcases List.mem_cons.mp c with z|c
    ·rw[z];simp
    ·exact h.ne q (zz _ (zh _ c))
  ·refine List.Perm.trans ?_ (h.p.append_right [x]);simp only[ZE,zr,eJ,Zs,Jn];refine List.Perm.append_left _ (List.Perm.append_left _ ?_);exact eg
 ·rename_i hk;refine⟨?_,λq c=>?_,?_⟩
  ·rw[ZE,j3];refine⟨h.k,by simp,λa j b f=>?_⟩;have f:b=k:=by simpa using f
   subst f;intro z;subst z;obtain⟨q,c,e⟩:=bc.mp j;exact hk (List.any_eq_true.mpr ⟨q,c,ZI e⟩)
  ·rcases cf.mp c with c|c
   ·exact h.ne q c
   ·cases bo.mp c;simp
  ·rw[ZE,eJ];simpa using h.p.append_right [x]
theorem PF(k:β->Int)(v:β->α)(xs:O β):EA (M9 k v xs) (xs.map v):=by
 unfold M9;have:∀(ys:O β) (m:O (Int×O α)) (zs:O α),EA m zs->EA (ys.foldl (λm x=>sU m (k x) (v x)) m) (zs++ys.map v):=by
  intro ys
  induction ys with
  |nil=>intro m zs h;simpa using h
  |cons y ys a=>
   intro m zs h;have:=a _ _ (h.put (k y) (v y));simpa[Jn]using this
 simpa using this xs [] [] ⟨QQ,λ_ h=>(by cases h),.nil⟩
theorem DP[Inhabited α]{m:O (Int×α)}(b:(m.map (·.1)).Nodup){q:Int×α}(h:q∈m):look m q.1=q.2:=by
 unfold look;cases a:m.find? λp=>decide (p.1=q.1)with
 |none=>exact absurd (ip.mp a q h) (by simp)
 |some p=>
  have h1:=gd a;have h2:p.1=q.1:=by simpa using List.find?_some a
  have:p=q:=xg (f:=λp:Int×α=>p.1) b h1 h h2;rw[this];rfl
theorem DR:∀{m:O Ap},(m.map bN).flatten.Perm m.flatten
 |[]=>.nil
 |s::m=>by rw[zr,Zs,Zs];exact(bL s).append DR
theorem Vr{w w':O Ap}(h:w.Perm w'):w.flatten.Perm w'.flatten:=by
 induction h with
 |nil=>exact .nil
 |cons x _ a=>rw[Zs,Zs];exact a.append_left x
 |swap x y l=>
  simp only[Zs,<-Jn];exact eg.append_right _
 |trans _ _ h1 h2=>exact h1.trans h2
theorem OE{m:O (Int×Ap)}{xs:Ap}(h:EA m xs)(f:xs.Nodup)(i:∀x∈xs,x∈U):Wd U (qg ((m.map (·.1)).map λk:Int=>bN (look m k)))/\(qg ((m.map (·.1)).map λk:Int=>bN (look m k))).flatten.Perm xs:=by
 have e:((m.map (·.1)).map λk:Int=>bN (look m k))=(m.map (·.2)).map bN:=by
  rw[ZY,ZY];exact ZT λq a=>by simp only[Function.comp,DP h.k a]
 rw[e];have pm:=zN ((m.map (·.2)).map bN);have c:(qg ((m.map (·.2)).map bN)).flatten.Perm xs:=(Vr pm).trans (DR.trans h.p);have d:∀s∈qg ((m.map (·.2)).map bN),∃q∈m,s=bN q.2:=λs b=>by
  obtain⟨t,g,rfl⟩:=bc.mp (pm.mem_iff.mp b);obtain⟨q,a,rfl⟩:=bc.mp g;exact⟨q,a,rfl⟩
 refine⟨⟨λs b z=>?_,λs b=>?_,c.nodup_iff.mpr f,λx hx=>i x (c.mem_iff.mp hx),zO _⟩,c⟩
 ·obtain⟨q,a,rfl⟩:=d s b;exact h.ne q a (by have:=(bL q.2).length_eq;rw[z]at this;exact dt.mp this.symm)
 ·obtain⟨q,a,rfl⟩:=d s b;exact jj _
end P1
section
set_option maxHeartbeats 1000000
namespace P1
open L2
open PySem.Builtin PySem.Builtin.Str
abbrev cs(s:AJ):O Nat:=s.cps.toList
end P1
end
section
set_option maxHeartbeats 1000000
namespace P1
open L2 S1 S6
section
variable [Inhabited α]
end
section
variable{e:α->Dt} [M4 e]
end
end P1
end
namespace P1
open L2
open PySem.Builtin PySem.Builtin.Str
end P1
section
set_option maxHeartbeats 1000000
namespace P1
open L2
open PySem.Builtin PySem.Builtin.Str
end P1
end
section
set_option synthInstance.maxSize 100000
namespace G40
open L2 P1
noncomputable section
abbrev ck:=O P1.Dt
abbrev Zf:Type:=Int×AJ
abbrev LO:Type:=Ap×(O Bool)
abbrev Vs:LO->Dt:=ZX (eT eS) (eL eB)
abbrev N4:Type:=Int×Dt
abbrev xH:N4->Dt:=ZX eI eD
def FT(d:Dt):Ap:=(SL d).map IQ
def top(i:Nat):AB:=PySem.Challenge.pw_onefolk_k40_least_plans.main.body.getD i (.Pass ⟨0,0,0,0⟩)
abbrev DW:AB:=top 14
abbrev uM:AB:=top 15
abbrev zT:AB:=top 16
abbrev ou:AB:=top 18
abbrev uN:AB:=top 17
abbrev xJ:AB:=top 19
abbrev sW:AB:=top 20
abbrev DX:AB:=top 21
abbrev xK:AB:=top 22
abbrev DY:AB:=top 1
abbrev Ea:AB:=top 3
abbrev HB:AB:=top 4
abbrev Nt:AB:=top 5
abbrev Eb:AB:=top 8
abbrev pO:AB:=top 11
abbrev xM:AB:=top 12
abbrev qm:AB:=top 7
abbrev zU:AB:=top 23
abbrev pP:AB:=top 24
abbrev zV:AB:=top 25
abbrev s_law:AB:=top 26
def fuel:Nat:=10
def uO:Ev->Y As:=(aH (aH (B8 2 (b2 jy (b2 iV (b2 wF (gv 2) (cB (.int 69621))) (gv 3)) (cB (.int 2147483647)))) gJ) (dY [3]))
def qp:Ev->Y As:=(aH (Aa (rW DL (gv 1) (cT iZ (aA (gv 0) aK))) (aH (ji (b2 iw (gv 0) (gv 1))) gJ) gJ) (aH (B8 2 (b2 jy (b2 wF (cB (.int 48271)) (b2 iV (b2 iV (b2 wF (gv 1) (gv 1)) (b2 wF (cB (.int 7)) (gv 1))) (cB (.int 11)))) (cB (.int 2147483647)))) (aH (yN (DJ (Fv (gv 0) iW (lu (cB (.int 3))))) (o7 3) uO) (aH (ji (gv 2)) gJ))))
def m9:O Bx->Y Bx:=fL 4 qp
def j7:Ev->Y As:=(aH (aH (B8 3 (b2 jy (b2 iV (b2 iV (b2 wF (gv 3) (b2 iV (b2 jy (gv 3) (cB (.int 65521))) (cB (.int 40487)))) (b2 wF (cB (.int 7)) (gv 5))) (cB (.int 5))) (cB (.int 1999999973)))) (aH (LR 2 (b2 iw (cT rO (aA (gv 3) (aA (b2 jy (gv 4) (cB (.int 1000000))) aK))) (cT Xk (aA (b2 EM (gv 4) (cB (.int 0))) aK)))) (aH (B8 4 (b2 rR (gv 4) (cB (.int 1000000)))) gJ))) (dY [5]))
def kJ:Ev->Y As:=(aH (B8 2 (cT rO aK)) (aH (B8 3 (b2 jy (b2 wF (b2 iV (b2 jy (gv 0) (cB (.int 1999999973))) (cB (.int 31))) (cB (.int 765432101))) (cB (.int 1999999973)))) (aH (B8 4 (cB (.int 0))) (aH (Aa (Rz (rW DL (gv 0) (cB (.int 0))) (rW IF (gv 0) (b2 II (cB (.int 10)) (cB (.int 18))))) (aH (aH (B8 4 (cT Xj (aA (gv 0) aK))) gJ) (dY [])) (aH gJ (dY []))) (aH (yN (Ku (aA (gv 1) aK)) (o7 5) j7) (aH (Cd 2) gJ))))))
def jd:O Bx->Y Bx:=fL 6 kJ
def ni:Ev->Y As:=(aH (aH (B8 7 (b2 iw (gv 2) (b2 jy (b2 iV (gv 6) (b2 iw (gv 0) (cB (.int 2)))) (cB (.int 15))))) (aH (B8 8 (b2 iV (b2 iV (Fv (gv 3) iW (lu (gv 4))) (gv 7)) (Fv (gv 3) (lu (gv 4)) iW))) (aH (Aa (rW Be (b2 jy (b2 iw (gv 0) (cB (.int 3))) (cB (.int 3))) (cB (.int 1))) (aH (aH (B8 8 (b2 wF (b2 iw (gv 2) (b2 rR (gv 6) (cB (.int 8)))) (b2 iV (cB (.int 1)) (b2 jy (gv 6) (cB (.int 8)))))) gJ) (dY [])) (aH gJ (dY []))) (aH (LR 5 (gv 8)) gJ)))) (dY [6,7,8]))
def oA:Ev->Y As:=(aH (B8 2 (cB (.str "abcdefghijklmnopqrstuvwxyz"))) (aH (B8 3 (b1 (Ma "") (dN (Ku (aA (b2 jy (b2 iw (gv 0) (cB (.int 0))) (cB (.int 6))) aK)) (o7 2) lR (b2 iw (gv 0) (b2 jy (b2 rR (b2 iw (gv 1) (gv 2)) (cB (.int 40))) (cB (.int 26)))) [2,0] 1))) (aH (B8 4 (b2 jy (b2 iw (gv 0) (cB (.int 1))) (b2 iV (cT iZ (aA (gv 3) aK)) (cB (.int 1))))) (aH (B8 5 (cT rO aK)) (aH (yN (Ku (aA (gv 1) aK)) (o7 6) ni) (aH (Cd 5) gJ))))))
def lD:O Bx->Y Bx:=fL 9 oA
def lF:Ev->Y As:=(aH (aH (B8 6 (dN (Ku (aA (cB (.int 3)) aK)) (o7 2) (rW Be (b2 Dv (b2 FI (gv 1) (gv 2)) (cB (.int 1))) (cB (.int 1))) (b2 iw (gv 0) (gv 2)) [3,5] 1)) (aH (Aa (rW EM (cT iZ (aA (gv 6) aK)) (cB (.int 1))) (aH (aH (LR 6 (b2 iw (gv 1) (gv 2))) gJ) (dY [])) (aH gJ (dY []))) (aH (LR 4 (cT oZ (aA (dN (Fw (cT wO (aA (gv 6) aK))) (o7 0) lR (cT rN (aA (gv 0) aK)) [] 1) aK))) gJ))) (dY [5,6]))
def gK:Ev->Y As:=(aH (B8 2 (b2 jy (b2 iw (gv 0) (cB (.int 0))) (cB (.int 4)))) (aH (B8 3 (dN (Ku (aA (cB (.int 4)) aK)) (o7 2) (rW Lz (gv 2) (gv 1)) (b2 iw (gv 0) (gv 2)) [1,2] 1)) (aH (B8 4 (cT rO aK)) (aH (yN (Ku (aA (cB (.int 8)) aK)) (o7 5) lF) (aH (B8 7 (b2 jy (b2 iw (gv 0) (cB (.int 1))) (cB (.int 8)))) (aH (ji (cT oZ (aA (Fv (b2 iV (Fv (gv 4) (lu (gv 7)) iW) (Fv (gv 4) iW (lu (gv 7)))) (lu (b2 jy (b2 iw (gv 0) (cB (.int 2))) (cB (.int 3)))) iW) aK))) gJ))))))
def gM:O Bx->Y Bx:=fL 8 gK
def kO:Ev->Y As:=(aH (B8 2 (λ_=>Z (.m [] Y3))) (aH (Dy 2 4 3 (Ku (aA (cT iZ (aA (gv 0) aK)) aK)) (b2 jy (b2 rR (b2 iw (gv 1) (b2 jy (gv 3) (cT iZ (aA (gv 1) aK)))) (b2 iV (cB (.int 1)) (b2 rR (gv 3) (cT iZ (aA (gv 1) aK))))) (cT Pu (aA (cB (.int 1)) (aA (cT iZ (aA (gv 0) aK)) aK)))) (rW EM (b2 jy (b2 iw (gv 1) (cB (.int 0))) (cB (.int 3))) (cB (.int 0))) (b2 jy (gv 4) (cB (.int 3))) (b2 iw (gv 0) (gv 3))) (aH (ji (cT Cz (aA (dN (Sd (gv 2)) (o7 1) lR (cT oZ (aA (cT wO (aA (b2 GP (gv 0) (gv 1)) aK)) aK)) [2] 1) aK))) gJ)))
def kW:O Bx->Y Bx:=fL 5 kO
def qU:Ev->Y As:=(aH (aH (B8 6 (cX 2 jd (aA (b1 zu (cX 2 m9 (aA (gv 0) (aA (b1 zu (b2 iV (b2 iV (gv 1) (cB (.int 1))) (gv 5))) aK)))) (aA (cB (.int 10)) aK)))) (aH (B8 7 (dN (Ku (aA (cT iZ (aA (gv 3) aK)) aK)) (o7 3) (Rz (rW Be (b2 Dv (b2 FI (b2 rR (b2 iw (gv 2) (cB (.int 9))) (cB (.int 7))) (gv 3)) (cB (.int 1))) (cB (.int 0))) (rW EM (b2 jy (b2 iw (gv 1) (cB (.int 9))) (cB (.int 3))) (cB (.int 0)))) (b2 iw (gv 0) (gv 3)) [3,2,6] 1)) (aH (Aa (IW (rW Lz (gv 4) (cT rO aK)) (rW Be (b2 jy (b2 iw (gv 6) (cB (.int 8))) (cB (.int 3))) (cB (.int 1)))) (aH (aH (B8 7 (dN (Fw (gv 3)) (o7 1) (tV (cT CF (aA (dN (Fw (b2 iw (gv 0) (b1 Xa (cB (.int 1))))) (o7 1) lR (b2 inF (gv 0) (gv 1)) [1] 1) aK))) (gv 1) [4] 1)) gJ) (dY [])) (aH gJ (dY []))) (aH (B8 8 (cT oZ (aA (cX 2 kW (aA (gv 7) (aA (b1 zu (Fv (gv 6) iW (lu (cB (.int 8))))) aK))) aK))) (aH (Aa (rW Vb (gv 8) (gv 4)) (aH (aH (LR 4 (gv 8)) gJ) (dY [])) (aH gJ (dY []))) gJ))))) (dY [5,6,7,8]))
def mF:Ev->Y As:=(aH (B8 2 (cX 2 jd (aA (b1 zu (cX 2 m9 (aA (gv 0) (aA (gv 1) aK)))) (aA (cB (.int 10)) aK)))) (aH (Aa (rW Be (b2 jy (b2 rR (b2 iw (gv 2) (cB (.int 7))) (cB (.int 4))) (cB (.int 4))) (cB (.int 1))) (aH (ji (cX 2 gM (aA (b1 zu (cT rO (aA (b2 iw (gv 2) (cB (.int 6))) (aA (b2 iw (gv 2) (cB (.int 8))) (aA (b2 iw (gv 2) (cB (.int 9))) aK))))) (aA (b1 zu (cT wO (aA (cX 2 lD (aA (gv 2) (aA (cB (.int 4)) aK))) aK))) aK)))) gJ) gJ) (aH (B8 3 (cT wO (aA (cX 2 lD (aA (gv 2) (aA (b1 zu (b2 iV (cB (.int 1)) (b2 jy (b2 iw (gv 2) (cB (.int 6))) (b2 iw (cT rO (aA (cB (.int 8)) (aA (cB (.int 4)) (aA (cB (.int 6)) (aA (cB (.int 3)) aK))))) (b2 jy (b2 iw (gv 2) (cB (.int 7))) (cB (.int 4))))))) aK))) aK))) (aH (B8 4 (cT rO aK)) (aH (yN (Ku (aA (b2 iV (cB (.int 1)) (b2 jy (b2 iw (gv 2) (cB (.int 8))) (cB (.int 8)))) aK)) (o7 5) qU) (aH (ji (cT oZ (aA (gv 4) aK))) gJ))))))
def mG:O Bx->Y Bx:=fL 9 mF
def oF:Ev->Y As:=(aH (aH (Xq 1 (cB (.bl true)) (gv 4)) gJ) (dY [4]))
def oG:Ev->Y As:=(aH (aH (pF 3 (o7 4) oF) gJ) (dY [3,4]))
def oH:Ev->Y As:=(aH (aH (pF 2 (o7 3) oG) gJ) (dY [2,3,4]))
def oJ:Ev->Y As:=(aH (aH (Yg 6 (dN (Fw (Fv (gv 5) (lu (b2 iV (gv 7) (cB (.int 1)))) iW)) (o7 2) lR (cT rN (aA (cB (.str "one")) (aA (b2 iw (gv 0) (gv 1)) (aA (gv 2) aK)))) [5,7] 1)) gJ) (dY [7]))
def jJ:Ev->Y As:=(aH (B8 1 (λ_=>Z (.m [] Y3))) (aH (pF 0 (o7 2) oH) (aH (B8 5 (cT Cq (aA (gv 1) aK))) (aH (B8 6 (dN (Fw (gv 5)) (o7 0) lR (cT rN (aA (cB (.str "stands")) (aA (gv 0) aK))) [] 1)) (aH (yN (Ku (aA (cT iZ (aA (gv 5) aK)) aK)) (o7 7) oJ) (aH (Cd 6) gJ))))))
def fU:O Bx->Y Bx:=fL 8 jJ
def uP:Ev->Y As:=(aH (aH (Aa (tV (cT C9 (aA (dN (Fw (Fv (gv 1) (lu (cB (.int 1))) iW)) (o7 1) lR (b2 inF (gv 1) (gv 0)) [2] 1) aK))) (aH (ji (cB (.bl true))) gJ) gJ) gJ) (dY [2]))
def qt:Ev->Y As:=(aH (pF 0 (o7 2) uP) (aH (ji (cB (.bl false))) gJ))
def jk:O Bx->Y Bx:=fL 3 qt
def qW:Ev->Y As:=(aH (aH (LR 3 (b1 zu (cT Yd (aA (dN (Ku (aA (gv 2) aK)) (o7 2) (tV (cX 2 jk (aA (b2 iw (gv 1) (gv 2)) (aA (gv 0) aK)))) (b2 Vn (cB (.int 1)) (gv 2)) [4,0] 1) aK)))) gJ) (dY [4]))
def qX:Ev->Y As:=(aH (aH (GE 9 10 (aA (b2 Dv (gv 6) (gv 8)) (aA (b2 CD (gv 6) (b2 Dv (gv 6) (gv 8))) aK))) (aH (Aa (IW (rW Lz (gv 9) (cB (.int 0))) (rW Lz (gv 10) (cB (.int 0)))) (aH (aH (B8 7 (cT Xo (aA (gv 7) (aA (b2 iV (cB (.int 1)) (cT Pu (aA (b2 iw (gv 5) (gv 9)) (aA (b2 iw (gv 5) (gv 10)) aK)))) aK)))) gJ) (dY [])) (aH gJ (dY []))) gJ)) (dY [8,9,10]))
def qY:Ev->Y As:=(aH (aH (Aa (rW Lz (b2 Dv (gv 6) (b2 CD (gv 6) (cB (.int 1)))) (cB (.int 0))) (aH (aH (B8 7 (gv 2)) (aH (pF 3 (o7 8) qX) (aH (S9 5 (gv 7) (gv 6)) gJ))) (dY [7,8,9,10])) (aH gJ (dY [7,8,9,10]))) gJ) (dY [6,7,8,9,10]))
def mH:Ev->Y As:=(aH (B8 1 (cX 1 fU (aA (gv 0) aK))) (aH (B8 2 (cT iZ (aA (gv 0) aK))) (aH (B8 3 (cT rO aK)) (aH (pF 1 (o7 4) qW) (aH (B8 5 (b2 YT (cT rO (aA (cB (.int 0)) aK)) (b2 Vn (cB (.int 1)) (gv 2)))) (ET 3 (aH (yN (GV (aA (cB (.int 1)) (aA (b2 Vn (cB (.int 1)) (gv 2)) aK))) (o7 6) qY) (aH (Cd 5) gJ))))))))
def jK:O Bx->Y Bx:=fL 11 mH
def qu:Ev->Y As:=(aH (ji (cT wO (aA (Du (Fw (gv 0)) (o7 0) lR (Ct (DJ (gv 0)) (o7 1) lR (Lh (gv 1))) [] 2) aK))) gJ)
def qw:O Bx->Y Bx:=fL 1 qu
def qx:Ev->Y As:=(aH (ji (R8 (SX (cls2 (Fw (gv 0)) (o7 0) lR (Ct (DJ (cX 1 qw (aA (gv 0) aK))) (o7 1) lR (Lh (gv 1))) [] 2)))) gJ)
def qy:O Bx->Y Bx:=fL 1 qx
def uh:Ev->Y As:=(aH (B8 1 (cX 1 qy (aA (gv 0) aK))) (aH (B8 2 (dN (Fw (gv 1)) (o7 0) lR (cT rN (aA (cB (.str "stands")) (aA (gv 0) aK))) [] 1)) (aH (ji (b2 iV (gv 2) (Du (HZ (aA (gv 1) aK)) (K9 2 (yF (o7 1) (yF (o7 2) WY))) lR (Ct (DJ (Fv (gv 0) (lu (b2 iV (gv 1) (cB (.int 1)))) iW)) (o7 3) lR (Lh (cT rN (aA (cB (.str "one")) (aA (gv 2) (aA (gv 3) aK)))))) [1] 3))) gJ)))
def um:O Bx->Y Bx:=fL 3 uh
def xO:Ev->Y As:=(aH (ji (cT CF (aA (dN (Fw (gv 0)) (o7 1) lR (b1 zu (cT C9 (aA (dN (Fw (Fv (gv 0) (lu (cB (.int 1))) iW)) (o7 1) lR (b2 inF (gv 1) (gv 0)) [1] 1) aK))) [1] 1) aK))) gJ)
def xP:O Bx->Y Bx:=fL 2 xO
def qz:Ev->Y As:=(aH (ji (dN (Fw (cX 1 um (aA (gv 0) aK))) (o7 1) lR (cT rN (aA (gv 1) (aA (b1 zu (dN (Fw (gv 0)) (o7 1) lR (b1 zu (cX 2 xP (aA (gv 1) (aA (gv 0) aK)))) [1] 1)) aK))) [0] 1)) gJ)
def jm:O Bx->Y Bx:=fL 1 qz
def uo:Ev->Y As:=(aH (ji (cT oZ (aA (dN (Fw (gv 0)) (o7 2) (rW Be (b2 iw (gv 1) (gv 2)) (gv 0)) (gv 2) [2,1] 1) aK))) gJ)
def uq:O Bx->Y Bx:=fL 3 uo
def mJ:Ev->Y As:=(aH (ji (EX DL DL (cB (.int 0)) (cT iZ (aA (cX 3 uq (aA (gv 0) (aA (gv 1) (aA (cB (.bl true)) aK)))) aK)) (cT iZ (aA (gv 0) aK)))) gJ)
def gk:O Bx->Y Bx:=fL 2 mJ
noncomputable def eX:O Bx->Y Bx
 |[.z d]=>(iZ [.z d]).bind λl=>(jm [.z d]).bind λr=>Gc l r
 |_=>Y3
def oK:Ev->Y As:=(aH (ji (FR (GK yM (gv 0)) (FO (GK BM (gv 0))))) gJ)
def iB:O Bx->Y Bx:=fL 1 oK
def iJ(dR:O Bx->Y Bx):Ev->Y As:=(aH (Aa (Rz (K6 (tV (GK eG (gv 2)))) (rW Be (gv 2) (cT rN aK))) (aH (ji (cB .non)) gJ) gJ) (aH (Aa (rW Be (cT iZ (aA (gv 3) aK)) (cB (.int 1))) (aH (Aa (IW (rW Be (cT iZ (aA (gv 2) aK)) (cB (.int 2))) (IW (rW Be (b2 iw (gv 2) (cB (.int 0))) (cB (.str "told"))) (IW (tV (cX 1 iB (aA (b2 iw (gv 2) (cB (.int 1))) aK))) (rW Be (b2 iw (gv 2) (cB (.int 1))) (b2 iw (gv 3) (cB (.int 0))))))) (aH (ji (cB (.int 0))) gJ) gJ) (aH (ji (cB .non)) gJ)) gJ) (aH (Aa (Rz (rW Lz (cT iZ (aA (gv 2) aK)) (cB (.int 4))) (Rz (rW Lz (b2 iw (gv 2) (cB (.int 0))) (cB (.str "ask"))) (rW Vb (b2 iw (gv 2) (cB (.int 1))) (gv 1)))) (aH (ji (cB .non)) gJ) gJ) (aH (B8 4 (dN (Fw (gv 3)) (o7 2) (tV (cX 2 jk (aA (b2 iw (gv 0) (gv 2)) (aA (b2 iw (gv 1) (cB (.int 1))) aK)))) (gv 2) [0,2] 1)) (aH (B8 5 (dN (Fw (gv 3)) (o7 1) (rW FH (gv 1) (gv 0)) (gv 1) [4] 1)) (aH (Aa (Rz (rW Be (gv 4) (cT rO aK)) (rW Be (gv 5) (cT rO aK))) (aH (ji (cB .non)) gJ) gJ) (aH (GE 6 7 (aA (b1 zu (cX 4 dR (aA (gv 0) (aA (gv 1) (aA (b2 iw (gv 2) (cB (.int 2))) (aA (gv 4) aK)))))) (aA (b1 zu (cX 4 dR (aA (gv 0) (aA (gv 1) (aA (b2 iw (gv 2) (cB (.int 3))) (aA (gv 5) aK)))))) aK))) (aH (Aa (Rz (rW EE (gv 6) (cB .non)) (rW EE (gv 7) (cB .non))) (aH (ji (cB .non)) gJ) gJ) (aH (ji (b1 zu (b2 iV (cB (.int 1)) (cT Pu (aA (gv 6) (aA (gv 7) aK)))))) gJ)))))))))
def bO:Nat->O Bx->Y Bx
 |0=>fL 8 λ_=>Y3
 |n+1=>fL 8 (iJ (bO n))
def dR:O Bx->Y Bx:=bO fuel
def oM:Ev->Y As:=(aH (Aa (Rz (K6 (tV (GK eG (gv 1)))) (Rz (rW Lz (cT iZ (aA (gv 1) aK)) (cB (.int 2))) (Rz (K6 (tV (cX 1 iB (aA (b2 iw (gv 1) (cB (.int 0))) aK)))) (rW Lz (b2 iw (gv 1) (cB (.int 0))) (gv 2))))) (aH (ji (cB (.bl false))) gJ) gJ) (aH (ji (b2 Be (cX 4 dR (aA (gv 0) (aA (b1 zu (cX 1 fU (aA (gv 0) aK))) (aA (b2 iw (gv 1) (cB (.int 1))) (aA (b1 zu (b1 Y7 (cT iZ (aA (gv 0) aK)))) aK))))) (gv 2))) gJ))
def lG:O Bx->Y Bx:=fL 3 oM
def Tg:Ev->Y As:=(aH (B8 1 (cX 2 mG (aA (gv 0) (aA (cB (.int 0)) aK)))) (aH (B8 2 (cX 1 jK (aA (gv 1) aK))) (aH (Aa (K6 (tV (cX 3 lG (aA (gv 1) (aA (b1 zu (cX 1 eX (aA (gv 1) aK))) (aA (b2 iw (gv 2) (b2 CD (cT iZ (aA (gv 2) aK)) (cB (.int 1)))) aK)))))) (aH (ji (cB (.bl false))) gJ) gJ) (aH (B8 3 (b2 iV (b2 rR (cT iZ (aA (gv 1) aK)) (cB (.int 2))) (cB (.int 1)))) (aH (Aa (K6 (tV (cX 3 lG (aA (b1 zu (Fv (gv 1) iW (lu (gv 3)))) (aA (b1 zu (cX 1 eX (aA (b1 zu (Fv (gv 1) iW (lu (gv 3)))) aK))) (aA (b2 iw (cX 1 jK (aA (b1 zu (Fv (gv 1) iW (lu (gv 3)))) aK)) (b2 CD (b2 Vn (cB (.int 1)) (gv 3)) (cB (.int 1)))) aK)))))) (aH (ji (cB (.bl false))) gJ) gJ) (aH (ji (cT C9 (aA (dN (Fw (gv 1)) (o7 0) lR (b2 Be (cX 1 eX (aA (cT rN (aA (gv 0) aK)) aK)) (cT rN (aA (cB (.int 0)) (aA (cT rN (aA (cB (.str "told")) (aA (cB (.int 0)) aK))) aK)))) [] 1) aK))) gJ))))))
def F_law:O Bx->Y Bx:=fL 4 Tg
def uQ(a:Int)(b:Int):Int:=(let a:=(((a*69621)+b)%2147483647);a)
theorem FW(d:B7)(e:Lp jX (d.map eI))(c:Int)(a:Int)(b:Int):RP uO [Z jX,Z (zE eI c),Z (zE eI a),Z (zE eI b)] (λs=>As.nx ((λa:Int=>[Z jX,Z (zE eI c),Z (zE eI a),Y3]) s)) (uQ  a b) (Y3):=R.tp (bY (cj 2 (dZ (jr (Ss (au 2 (zE eI) a S) 69621 ()) (au 3 (zE eI) b S)) 2147483647 ()) (λ_=>S) λa=>(cM (bZ a S))))
def cU(c:B7)(b:Int):Int:=(if(decide (b<(c.length:Int)))=true then(at' c b)else(let a:=((48271*(((b*b)+(7*b))+11))%2147483647);(let a:Int:=((BF c Y3 (Z 3)).foldl (λ(a:Int) (d:Int)=>(uQ  a d)) a);a)))
def j8(b:B7)(a:Int):Prop:=(((decide (a<(b.length:Int)))=true->In b.length a)/\((decide (a<(b.length:Int)))=false->G0 a a))
theorem QC(c:B7)(d:Lp jX (c.map eI))(a:Int):RP qp [Z jX,Z (zE eI a),Y3,Y3] (λr=>As.rt (zE eI r)) (cU c a) (Z (j8 c a)):=R.tp (qR (cZ (Sw (au 1 (zE eI) a S) (BO (dI 0 eI c d S)))) (bY (fM (λr=>r) (gF (dI 0 eI c d S) (au 1 (zE eI) a S)) (λ_=>S) λ_=>S)) (cM (cj 2 (dZ (Qi 48271 () (jr (jr (N9 (au 1 (zE eI) a S) (au 1 (zE eI) a S)) (Qi 7 () (au 1 (zE eI) a S))) (B9 11))) 2147483647 ()) (λ_=>S) λb=>(b7 (λb:Int=>[Z jX,Z (zE eI a),Z (zE eI b),Y3]) b S (HR (Qk (dI 0 eI c d S) wW (wX (B9 3)))) _ (λ_ _=>S) (λ(b:Int) (e:Int)=>(FW c d a b e).r) (λ_ _=>S) λb=>(fM (λr=>r) (au 2 (zE eI) b S) (λ_=>S) λ_=>S)))))
theorem Ed:∀v bs,(aL eI (aZ eI aN)) v bs->bs.length=2/\(B6 (Z (j8 v.1 v.2.1))->m9 (bs.map lend)=Z ((zE eI) (cU v.1 v.2.1))):=by
 rintro⟨c,a,_⟩ _ ⟨jX,_,rfl,b,⟨_,rfl,rfl⟩⟩;exact⟨rfl,λh=>dJ (g:=qp) (n:=4) (bs:=[lend jX,.z (eI a)]) (QC c (lX b) a) h⟩
def cg(a:Int×B7×Int)(d:Int):Int×B7×Int:=(let b:=((((a.1*((a.1%65521)+40487))+(7*d))+5)%1999999973);(let e:=a.2.1++[(at' [b,(a.2.2%1000000)] (if(decide ((0:Int)<a.2.2))=true then(1:Int)else 0))];(let c:=(a.2.2 / (1000000:Int));(b,e,c))))
def iK(a:Int×B7×Int)(c:Int):Prop:=(G0 a.1 ((a.1%65521)+40487)/\(let b:=((((a.1*((a.1%65521)+40487))+(7*c))+5)%1999999973);(In [b,(a.2.2%1000000)].length (if(decide ((0:Int)<a.2.2))=true then(1:Int)else 0)/\Ou a.2.1.length)))
theorem yZ(d:Int)(e:Int)(a:Int×B7×Int)(b:Int):RP j7 [Z (zE eI d),Z (zE eI e),Z ((oE eI) a.2.1),Z ((zE eI) a.1),Z ((zE eI) a.2.2),Z (zE eI b)] (λs=>As.nx ((λa:Int×B7×Int=>[Z (zE eI d),Z (zE eI e),Z ((oE eI) a.2.1),Z ((zE eI) a.1),Z ((zE eI) a.2.2),Y3]) s)) (cg  a b) (Z (iK  a b)):=R.tp (bY (cj 3 (dZ (jr (jr (N9 (au 3 (zE eI) a.1 S) (jr (dZ (au 3 (zE eI) a.1 S) 65521 ()) (B9 40487))) (Qi 7 () (au 5 (zE eI) b S))) (B9 5)) 1999999973 ()) (λ_=>S) λc=>(bY (Hi 2 a.2.1 S (gF (jH (qQ (bU (au 3 (zE eI) c S) (bU (dZ (au 4 (zE eI) a.2.2 S) 1000000 ()) (d7 eI))) (z4 S))) (UY (Fk (au 4 (zE eI) a.2.2 S) (B9 0)))) λg=>(bY (cj 4 (uc (au 4 (zE eI) a.2.2 S) 1000000 ()) (λ_=>S) λf=>(cM (bZ (c,g,f) S))))))))
def iM(g:Int)(f:Int)(e:B7)(b:Int)(c:Int):B7:=(let a:Int×B7×Int:=((rng 0 f.toNat).foldl (λ(a:Int×B7×Int) (d:Int)=>(cg  a d)) (b,e,c));a.2.1)
def j9(g:Int)(c:Int)(f:B7)(d:Int)(e:Int):Prop:=(Rg c/\mD (λ(a:Int×B7×Int) (b:Int)=>(cg  a b)) (λ(a:Int×B7×Int) (b:Int)=>Z (iK  a b)) (rng 0 c.toNat) (d,f,e))
def za:Ev->Y As:=(aH (yN (Ku (aA (gv 1) aK)) (o7 5) j7) (aH (Cd 2) gJ))
theorem zc(c:Int)(b:Int)(f:B7)(d:Int)(e:Int):RP za [Z (zE eI c),Z (zE eI b),Z (oE eI f),Z (zE eI d),Z (zE eI e),Y3] (λr=>As.rt (oE eI r)) (iM c b f d e) (Z (j9 c b f d e)):=R.tp (Hj (λa:Int×B7×Int=>[Z (zE eI c),Z (zE eI b),Z ((oE eI) a.2.1),Z ((zE eI) a.1),Z ((zE eI) a.2.2),Y3]) (d,f,e) S (zM (au 1 (zE eI) b S)) _ (λ_ _=>S) (λ(a:Int×B7×Int) (g:Int)=>(yZ c b a g).r) λa=>(Jy 2 (λr=>r) a.2.1 S (λ_=>S) λ_=>S))
def cF(a:Int)(e:Int):B7:=(let d:=([]:O Int);(let c:=((((a%1999999973)+31)*765432101)%1999999973);(let b:=(0:Int);(let b:Int:=(if((decide (a<0))||(decide (((10:Int) ^ 18)<=a)))=true then(let b:=(if a<0 then -a else a);b)else b);(iM a e d c b)))))
def je(a:Int)(e:Int):Prop:=(let d:=([]:O Int);(let c:=((((a%1999999973)+31)*765432101)%1999999973);(let b:=(0:Int);(let b:Int:=(if((decide (a<0))||(decide (((10:Int) ^ 18)<=a)))=true then(let b:=(if a<0 then -a else a);b)else b);(j9 a e d c b)))))
theorem FZ(a:Int)(c:Int):RP kJ [Z (zE eI a),Z (zE eI c),Y3,Y3,Y3,Y3] (λr=>As.rt (oE eI r)) (cF a c) (Z (je a c)):=R.tp (cj 2 (qQ (d7 eI) (z4 S)) (λ_=>S) λe=>(cj 3 (dZ (Ss (jr (dZ (au 0 (zE eI) a S) 1999999973 ()) (B9 31)) 765432101 ()) 1999999973 ()) (λ_=>S) λd=>(cj 4 (B9 0) (λ_=>S) λb=>(Dh (λb:Int=>[Z (zE eI a),Z (zE eI c),Z (oE eI e),Z (zE eI d),Z (zE eI b),Y3]) (FN (cZ (Sw (au 0 (zE eI) a S) (B9 0))) (cZ (ID (au 0 (zE eI) a S) (bj 10 18 18 () S)))) (bY (cj 4 (P3 (au 0 (zE eI) a S)) (λ_=>S) λb=>(cM (bZ b S)))) (cM (bZ b S)) λb=>(zc a c e d b).r))))
theorem uR:∀v bs,(aZ eI (aZ eI aN)) v bs->bs.length=2/\(B6 (Z (je v.1 v.2.1))->jd (bs.map lend)=Z ((oE eI) (cF v.1 v.2.1))):=by
 rintro⟨b,a,_⟩ _ ⟨_,rfl,⟨_,rfl,rfl⟩⟩;exact⟨rfl,λh=>dJ (g:=kJ) (n:=6) (bs:=[.z (eI b),.z (eI a)]) (FZ b a) h⟩
def dW(d:B7)(f:AJ)(e:AJ)(g:Int)(c:Ap)(b:Int):Ap:=(let h:=(ch f ((b+(at' d 2))%15));(let a:=(((Txt.slice e Y3 (Z g))++h)++(Txt.slice e (Z g) Y3));(let a:AJ:=(if(decide (((at' d 3)%3)=1))=true then(let a:=(Txt.mul (ch f (b / (8:Int))) (1+(b%8)));a)else a);(let c:=c++[a];c))))
def jL(b:B7)(d:AJ)(c:AJ)(e:Int)(h:Ap)(a:Int):Prop:=((In b.length 2/\In d.length ((a+(at' b 2))%15))/\(let g:=(ch d ((a+(at' b 2))%15));((Ou ((Txt.slice c Y3 (Z e)).length+g.length)/\Ou (((Txt.slice c Y3 (Z e))++g).length+(Txt.slice c (Z e) Y3).length))/\(let f:=(((Txt.slice c Y3 (Z e))++g)++(Txt.slice c (Z e) Y3));((In b.length 3/\((decide (((at' b 3)%3)=1))=true->(In d.length (a / (8:Int))/\((1+(a%8))<=1000 ∧ -1000<=(1+(a%8))/\(ch d (a / (8:Int))).length<=1000))))/\(let f:AJ:=(if(decide (((at' b 3)%3)=1))=true then(let f:=(Txt.mul (ch d (a / (8:Int))) (1+(a%8)));f)else f);Ou h.length))))))
theorem Ef(g:B7)(j:Lp jX (g.map eI))(h:Int)(d:AJ)(c:AJ)(e:Int)(a:Ap)(b:Int):RP ni [Z jX,Z (zE eI h),Z (zE eS d),Z (zE eS c),Z (zE eI e),Z (oE eS a),Z (zE eI b),Y3,Y3] (λs=>As.nx ((λa:Ap=>[Z jX,Z (zE eI h),Z (zE eS d),Z (zE eS c),Z (zE eI e),Z (oE eS a),Y3,Y3,Y3]) s)) (dW g d c e a b) (Z (jL g d c e a b)):=R.tp (bY (cj 7 (Yl (au 2 (zE eS) d S) (dZ (jr (au 6 (zE eI) b S) (gF (dI 0 eI g j S) (B9 2))) 15 ())) (λ_=>S) λi=>(bY (cj 8 (Ym (Ym (Md (au 3 (zE eS) c S) wW (wX (au 4 (zE eI) e S))) (au 7 (zE eS) i S)) (Md (au 3 (zE eS) c S) (wX (au 4 (zE eI) e S)) wW)) (λ_=>S) λf=>(bY (Dh (λf:AJ=>[Z jX,Z (zE eI h),Z (zE eS d),Z (zE eS c),Z (zE eI e),Z (oE eS a),Z (zE eI b),Z (zE eS i),Z (zE eS f)]) (cZ (Bn () (dZ (gF (dI 0 eI g j S) (B9 3)) 3 ()) (B9 1))) (bY (cj 8 (TB (Yl (au 2 (zE eS) d S) (uc (au 6 (zE eI) b S) 8 ())) (jr (B9 1) (dZ (au 6 (zE eI) b S) 8 ()))) (λ_=>S) λf=>(cM (bZ f S)))) (cM (bZ f S)) λf=>(bY (Hi 5 a S (au 8 (zE eS) f S) λa=>(cM (bZ a S))))))))))
def jM(b:B7)(e:Int)(f:AJ)(c:AJ):Ap:=(let g:=((at' b 1)%((c.length:Int)+1));(let a:=([]:Ap);(let a:Ap:=((rng 0 e.toNat).foldl (λ(a:Ap) (d:Int)=>(dW b f c g a d)) a);a)))
def nq(b:B7)(e:Int)(f:AJ)(c:AJ):Prop:=((In b.length 1/\0<((c.length:Int)+1))/\(let g:=((at' b 1)%((c.length:Int)+1));(let a:=([]:Ap);(Rg e/\mD (λ(a:Ap) (d:Int)=>(dW b f c g a d)) (λ(a:Ap) (d:Int)=>Z (jL b f c g a d)) (rng 0 e.toNat) a))))
def Eh:Ev->Y As:=(aH (B8 4 (b2 jy (b2 iw (gv 0) (cB (.int 1))) (b2 iV (cT iZ (aA (gv 3) aK)) (cB (.int 1))))) (aH (B8 5 (cT rO aK)) (aH (yN (Ku (aA (gv 1) aK)) (o7 6) ni) (aH (Cd 5) gJ))))
theorem Ei(d:B7)(g:Lp jX (d.map eI))(c:Int)(e:AJ)(b:AJ):RP Eh [Z jX,Z (zE eI c),Z (zE eS e),Z (zE eS b),Y3,Y3,Y3,Y3,Y3] (λr=>As.rt (oE eS r)) (jM d c e b) (Z (nq d c e b)):=R.tp (cj 4 (Sv (gF (dI 0 eI d g S) (B9 1)) (jr (Sr (au 3 (zE eS) b S)) (B9 1))) (λ_=>S) λf=>(cj 5 (qQ (d7 eS) (z4 S)) (λ_=>S) λa=>(Hj (λa:Ap=>[Z jX,Z (zE eI c),Z (zE eS e),Z (zE eS b),Z (zE eI f),Z (oE eS a),Y3,Y3,Y3]) a S (zM (au 1 (zE eI) c S)) _ (λ_ _=>S) (λ(a:Ap) (h:Int)=>(Ef d g c e b f a h).r) λa=>(Jy 5 (λr=>r) a S (λ_=>S) λ_=>S))))
def bh(a:B7)(e:Int):Ap:=(let b:=("abcdefghijklmnopqrstuvwxyz":AJ);(let d:=(Txt.join "" ((rng 0 ((at' a 0)%6).toNat).map λc:Int=>(ch b (((at' a c) / (40:Int))%26))));(jM a e b d)))
def jt(a:B7)(e:Int):Prop:=(let c:=("abcdefghijklmnopqrstuvwxyz":AJ);(((((In a.length 0/\Rg ((at' a 0)%6))/\(rng 0 ((at' a 0)%6).toNat).length<=100000)/\(∀b∈(rng 0 ((at' a 0)%6).toNat),(In a.length b/\In c.length (((at' a b) / (40:Int))%26))))/\(((rng 0 ((at' a 0)%6).toNat).map λb:Int=>(ch c (((at' a b) / (40:Int))%26))).map (·.length)).sum+((rng 0 ((at' a 0)%6).toNat).map λb:Int=>(ch c (((at' a b) / (40:Int))%26))).length*("":AJ).length<=100000)/\(let d:=(Txt.join "" ((rng 0 ((at' a 0)%6).toNat).map λb:Int=>(ch c (((at' a b) / (40:Int))%26))));(nq a e c d))))
theorem Nu(a:B7)(c:Lp jX (a.map eI))(b:Int):RP oA [Z jX,Z (zE eI b),Y3,Y3,Y3,Y3,Y3,Y3,Y3] (λr=>As.rt (oE eS r)) (bh a b) (Z (jt a b)):=R.tp (cj 2 (F5 "abcdefghijklmnopqrstuvwxyz") (λ_=>S) λd=>(cj 3 (bp "" (jH (vB (zM (dZ (gF (dI 0 eI a c S) (B9 0)) 6 ())) _ (λ_=>S) (λe:Int=>(Yl (au 0 (zE eS) d S) (dZ (uc (gF (dI 1 eI a c (congrArg Z (c.get S))) (au 2 (zE eI) e S)) 40 ()) 26 ())))))) (λ_=>S) λf=>(Ei a c b d f).r))
theorem zW:∀v bs,(aL eI (aZ eI aN)) v bs->bs.length=2/\(B6 (Z (jt v.1 v.2.1))->lD (bs.map lend)=Z ((oE eS) (bh v.1 v.2.1))):=by
 rintro⟨b,a,_⟩ _ ⟨jX,_,rfl,c,⟨_,rfl,rfl⟩⟩;exact⟨rfl,λh=>dJ (g:=oA) (n:=9) (bs:=[lend jX,.z (eI a)]) (Nu b (lX c) a) h⟩
def bx(vf:Ap)(e:Int)(g:Ap)(b:(O (O Ap)))(d:Int):(O (O Ap)):=(let a:=(((rng 0 (kN 3)).filter λc:Int=>(decide ((Builtin.bitAnd (d / 2 ^ c.toNat) 1)=1))).map λc:Int=>(at' g c));(let a:Ap:=(if(decide ((1:Int)<(a.length:Int)))=true then(let a:=a++[(at' vf e)];a)else a);(let b:=b++[((bN a).map λf:AJ=>[f])];b)))
def c7(vf:Ap)(d:Int)(e:Ap)(f:(O (O Ap)))(c:Int):Prop:=(((rng 0 (kN 3)).length<=100000/\(∀b∈(rng 0 (kN 3)),(0<=b/\((decide ((Builtin.bitAnd (c / 2 ^ b.toNat) 1)=1))=true->In e.length b))))/\(let a:=(((rng 0 (kN 3)).filter λb:Int=>(decide ((Builtin.bitAnd (c / 2 ^ b.toNat) 1)=1))).map λb:Int=>(at' e b));(((decide ((1:Int)<(a.length:Int)))=true->(In vf.length d/\Ou a.length))/\(let a:Ap:=(if(decide ((1:Int)<(a.length:Int)))=true then(let a:=a++[(at' vf d)];a)else a);((a.length<64/\(bN a).length<=100000)/\Ou f.length)))))
theorem sX(g:B7)(j:Lp jX (g.map eI))(vf:Ap)(h:Lp b_1 (vf.map eS))(c:Int)(d:Ap)(a:(O (O Ap)))(e:Int):RP lF [Z jX,Z b_1,Z (zE eI c),Z (oE eS d),Z ((oE (eT (eT eS))) a),Z (zE eI e),Y3,Y3] (λs=>As.nx ((λa:(O (O Ap))=>[Z jX,Z b_1,Z (zE eI c),Z (oE eS d),Z ((oE (eT (eT eS))) a),Y3,Y3,Y3]) s)) (bx vf c d a e) (Z (c7 vf c d a e)):=R.tp (bY (cj 6 (nY (Qm 3 3 S (by unfold Rg;decide)) _ (λ_=>S) (λf:Int=>(cZ (Bn () (Dw (LS (au 1 (zE eI) e S) (au 2 (zE eI) f S)) (B9 1)) (B9 1)))) (λf:Int=>(gF (fH (au 0 (lE eS) d S)) (au 2 (zE eI) f S)))) (λ_=>S) λb=>(bY (Dh (λb:Ap=>[Z jX,Z b_1,Z (zE eI c),Z (oE eS d),Z ((oE (eT (eT eS))) a),Z (zE eI e),Z (oE eS b),Y3]) (cZ (Fk (BO (fH (au 6 (lE eS) b S))) (B9 1))) (bY (Hi 6 b S (gF (dI 1 eS vf h S) (au 2 (zE eI) c S)) λb=>(cM (bZ b S)))) (cM (bZ b S)) λb=>(bY (Hi 4 a S (uf (jH (ug (MN (jH (wY (fH (au 6 (lE eS) b S))))) _ (λ_=>S) (λi:AJ=>(yR (bU (au 0 (zE eS) i S) (d7 eS)) (z4 S))) λ_=>S))) λa=>(cM (bZ a S))))))))
def dB(b:B7)(vf:Ap):(O (O Ap)):=(let d:=((at' b 0)%4);(let g:=(((rng 0 (kN 4)).filter λc:Int=>(!decide (c=d))).map λc:Int=>(at' vf c));(let a:=([]:O (O Ap));(let a:(O (O Ap)):=((rng 0 (kN 8)).foldl (λ(a:(O (O Ap))) (f:Int)=>(bx vf d g a f)) a);(let e:=((at' b 1)%8);(BF ((BF a (Z e) Y3)++(BF a Y3 (Z e))) (Z ((at' b 2)%3)) Y3))))))
def eY(c:B7)(vf:Ap):Prop:=(In c.length 0/\(let e:=((at' c 0)%4);(((rng 0 (kN 4)).length<=100000/\(∀b∈(rng 0 (kN 4)),((!decide (b=e))=true->In vf.length b)))/\(let f:=(((rng 0 (kN 4)).filter λb:Int=>(!decide (b=e))).map λb:Int=>(at' vf b));(let a:=([]:O (O Ap));(mD (λ(a:(O (O Ap))) (d:Int)=>(bx vf e f a d)) (λ(a:(O (O Ap))) (d:Int)=>Z (c7 vf e f a d)) (rng 0 (kN 8)) a/\(let a:(O (O Ap)):=((rng 0 (kN 8)).foldl (λ(a:(O (O Ap))) (d:Int)=>(bx vf e f a d)) a);(In c.length 1/\(let g:=((at' c 1)%8);(Ou ((BF a (Z g) Y3).length+(BF a Y3 (Z g)).length)/\In c.length 2))))))))))
theorem xQ(b:B7)(c:Lp jX (b.map eI))(vf:Ap)(d:Lp b_1 (vf.map eS)):RP gK [Z jX,Z b_1,Y3,Y3,Y3,Y3,Y3,Y3] (λr=>As.rt ((zE (eT (eT (eT eS)))) r)) (dB b vf) (Z (eY b vf)):=R.tp (cj 2 (dZ (gF (dI 0 eI b c S) (B9 0)) 4 ()) (λ_=>S) λe=>(cj 3 (nY (Qm 4 4 S (by unfold Rg;decide)) _ (λ_=>S) (λf:Int=>(cZ (Vf () (au 2 (zE eI) f S) (au 1 (zE eI) e S)))) (λf:Int=>(gF (dI 0 eS vf d (congrArg Z (d.get S))) (au 2 (zE eI) f S)))) (λ_=>S) λh=>(cj 4 (qQ (d7 (eT (eT eS))) (z4 S)) (λ_=>S) λa=>(Hj (λa:(O (O Ap))=>[Z jX,Z b_1,Z (zE eI e),Z (oE eS h),Z ((oE (eT (eT eS))) a),Y3,Y3,Y3]) a S (Qm 8 8 S (by unfold Rg;decide)) _ (λ_ _=>S) (λ(a:(O (O Ap))) (i:Int)=>(sX b c vf d e h a i).r) λa=>(cj 7 (dZ (gF (dI 0 eI b c S) (B9 1)) 8 ()) (λ_=>S) λg=>(fM (λr=>r) (uf (jH (Qk (jH (Yo (jH (Qk (fH (au 4 (lE (eT (eT eS))) a S)) (wX (au 7 (zE eI) g S)) wW)) (jH (Qk (fH (au 4 (lE (eT (eT eS))) a S)) wW (wX (au 7 (zE eI) g S)))))) (wX (dZ (gF (dI 0 eI b c S) (B9 2)) 3 ())) wW))) (λ_=>S) λ_=>S))))))
theorem xR:∀v bs,(aL eI (aL eS aN)) v bs->bs.length=2/\(B6 (Z (eY v.1 v.2.1))->gM (bs.map lend)=Z ((zE (eT (eT (eT eS)))) (dB v.1 v.2.1))):=by
 rintro⟨a,b,_⟩ _ ⟨jX,_,rfl,d,⟨b_1,_,rfl,c,rfl⟩⟩;exact⟨rfl,λh=>dJ (g:=gK) (n:=8) (bs:=[lend jX,lend b_1]) (xQ a (lX d) b (lX c)) h⟩
def cG(vf:Ap)(a:B7):(O Ap):=(let c:=([]:(O (Int×Ap)));(let c:=(M9 (λb:Int=>(let y1:=(((at' a (b%(a.length:Int))) / (1+(b / (a.length:Int))))%(if(vf.length:Int)>1 then(vf.length:Int)else 1));if(decide ((0:Int)<((at' a 0)%3)))=true then(y1%3)else y1)) (λb:Int=>(let y1:=(((at' a (b%(a.length:Int))) / (1+(b / (a.length:Int))))%(if(vf.length:Int)>1 then(vf.length:Int)else 1));let y2:=(if(decide ((0:Int)<((at' a 0)%3)))=true then(y1%3)else y1);(at' vf b))) (rng 0 (vf.length:Int).toNat));(qg ((c.map (·.1)).map λd:Int=>(bN (look c d))))))
def gC(vf:Ap)(a:B7):Prop:=(let c:=([]:(O (Int×Ap)));((((c=[]/\Rg (vf.length:Int))/\(rng 0 (vf.length:Int).toNat).length<1000)/\(∀b∈(rng 0 (vf.length:Int).toNat),(((((0<(a.length:Int)/\In a.length (b%(a.length:Int)))/\(0<(a.length:Int)/\(a.length:Int)<1073741824))/\(0<(1+(b / (a.length:Int)))/\(1+(b / (a.length:Int)))<1073741824))/\0<(if(vf.length:Int)>1 then(vf.length:Int)else 1))/\((let y1:=(((at' a (b%(a.length:Int))) / (1+(b / (a.length:Int))))%(if(vf.length:Int)>1 then(vf.length:Int)else 1));In a.length 0)/\(let y1:=(((at' a (b%(a.length:Int))) / (1+(b / (a.length:Int))))%(if(vf.length:Int)>1 then(vf.length:Int)else 1));let y2:=(if(decide ((0:Int)<((at' a 0)%3)))=true then(y1%3)else y1);In vf.length b)))))/\(let c:=(M9 (λb:Int=>(let y1:=(((at' a (b%(a.length:Int))) / (1+(b / (a.length:Int))))%(if(vf.length:Int)>1 then(vf.length:Int)else 1));if(decide ((0:Int)<((at' a 0)%3)))=true then(y1%3)else y1)) (λb:Int=>(let y1:=(((at' a (b%(a.length:Int))) / (1+(b / (a.length:Int))))%(if(vf.length:Int)>1 then(vf.length:Int)else 1));let y2:=(if(decide ((0:Int)<((at' a 0)%3)))=true then(y1%3)else y1);(at' vf b))) (rng 0 (vf.length:Int).toNat));(((c.map (·.1)).length<=100000/\(∀d∈(c.map (·.1)),(has c d=true/\(look c d).length<64)))/\(((c.map (·.1)).map λd:Int=>(bN (look c d))).length<64/\∀x∈((c.map (·.1)).map λd:Int=>(bN (look c d))),x.isEmpty=false)))))
theorem Ga(vf:Ap)(e:Lp jX (vf.map eS))(a:B7)(c:Lp b_1 (a.map eI)):RP kO [Z jX,Z b_1,Y3,Y3,Y3] (λr=>As.rt ((oE (eT eS)) r)) (cG vf a) (Z (gC vf a)):=R.tp (cj 2 (UZ (eL eS)) (λ_=>S) λd=>(NI 2 4 3 d S (z4 S) (ρ0:=[Z jX,Z b_1,Y3,Y3,Y3]) S (zM (BO (dI 0 eS vf e S))) (λb:Int=>(Sv (Yh (gF (dI 1 eI a c S) (Sv (au 3 (zE eI) b S) (BO (dI 1 eI a c S)))) (jr (B9 1) (Yh (au 3 (zE eI) b S) (BO (dI 1 eI a c S))))) (Yt (B9 1) (BO (dI 0 eS vf e S))))) (λ(b:Int) y1=>(cZ (Fk (dZ (gF (dI 1 eI a c S) (B9 0)) 3 ()) (B9 0)))) (λ(b:Int) y1=>(dZ (au 4 (zE eI) y1 S) 3 ())) (λ(b:Int) y1 y2=>(gF (dI 0 eS vf e S) (au 3 (zE eI) b S))) λd=>(fM (λr=>r) (YV (jH (vB (ba (au 2 (nI (eL eS)) d S)) _ (λ_=>S) (λf:Int=>(uf (jH (wY (Mw (a8 (au 0 (nI (eL eS)) d S) (au 1 (zE eI) f S)))))))))) (λ_=>S) λ_=>S)))
theorem Gb:∀v bs,(aL eS (aL eI aN)) v bs->bs.length=2/\(B6 (Z (gC v.1 v.2.1))->kW (bs.map lend)=Z ((oE (eT eS)) (cG v.1 v.2.1))):=by
 rintro⟨b,a,_⟩ _ ⟨jX,_,rfl,d,⟨b_1,_,rfl,c,rfl⟩⟩;exact⟨rfl,λh=>dJ (g:=kO) (n:=5) (bs:=[lend jX,lend b_1]) (Ga b (lX d) a (lX c)) h⟩
def cI(j:B7)(h:Int)(l:B7)(vf:Ap)(a:(O (O Ap)))(g:Int):(O (O Ap)):=(let c:=(cF (cU j ((h+1)+g)) 10);(let b:=(((rng 0 (vf.length:Int).toNat).filter λe:Int=>((decide ((Builtin.bitAnd (((at' c 9) / (7:Int)) / 2 ^ e.toNat) 1)=0))||(decide ((0:Int)<((at' l 9)%3))))).map λe:Int=>(at' vf e));(let b:Ap:=(if((!decide (a=([]:O (O Ap))))&&(decide (((at' c 8)%3)=1)))=true then(let b:=((vf.filter λd:AJ=>(((at' a (-(1:Int))).map λi:Ap=>(decide (d∈i))).any id)).map λd:AJ=>d);b)else b);(let f:=(cG b (BF c Y3 (Z 8)));(let a:(O (O Ap)):=(if(!yV f a)=true then(let a:=a++[f];a)else a);a)))))
def gq(h:B7)(g:Int)(i:B7)(vf:Ap)(b:(O (O Ap)))(f:Int):Prop:=(((j8 h ((g+1)+f))/\(je (cU h ((g+1)+f)) 10))/\(let a:=(cF (cU h ((g+1)+f)) 10);(((Rg (vf.length:Int)/\(rng 0 (vf.length:Int).toNat).length<=100000)/\(∀c∈(rng 0 (vf.length:Int).toNat),(((In a.length 9/\0<=c)/\((decide ((Builtin.bitAnd (((at' a 9) / (7:Int)) / 2 ^ c.toNat) 1)=0))=false->In i.length 9))/\(((decide ((Builtin.bitAnd (((at' a 9) / (7:Int)) / 2 ^ c.toNat) 1)=0))||(decide ((0:Int)<((at' i 9)%3))))=true->In vf.length c))))/\(let d:=(((rng 0 (vf.length:Int).toNat).filter λc:Int=>((decide ((Builtin.bitAnd (((at' a 9) / (7:Int)) / 2 ^ c.toNat) 1)=0))||(decide ((0:Int)<((at' i 9)%3))))).map λc:Int=>(at' vf c));((((!decide (b=([]:O (O Ap))))=true->In a.length 8)/\(((!decide (b=([]:O (O Ap))))&&(decide (((at' a 8)%3)=1)))=true->(vf.length<=100000/\(∀e∈vf,(In b.length (-(1:Int))/\(at' b (-(1:Int))).length<=100000)))))/\(let d:Ap:=(if((!decide (b=([]:O (O Ap))))&&(decide (((at' a 8)%3)=1)))=true then(let d:=((vf.filter λe:AJ=>(((at' b (-(1:Int))).map λj:Ap=>(decide (e∈j))).any id)).map λe:AJ=>e);d)else d);((gC d (BF a Y3 (Z 8)))/\(let l:=(cG d (BF a Y3 (Z 8)));((!yV l b)=true->Ou b.length)))))))))
theorem Ag(g:B7)(l:Lp jX (g.map eI))(d:Int)(c:B7)(vf:Ap)(a:(O (O Ap)))(e:Int):RP qU [Z jX,Z (zE eI d),Z (oE eI c),Z (oE eS vf),Z ((oE (eT (eT eS))) a),Z (zE eI e),Y3,Y3,Y3] (λs=>As.nx ((λa:(O (O Ap))=>[Z jX,Z (zE eI d),Z (oE eI c),Z (oE eS vf),Z ((oE (eT (eT eS))) a),Y3,Y3,Y3,Y3]) s)) (cI g d c vf a e) (Z (gq g d c vf a e)):=R.tp (bY (cj 6 (B0 uR (eV (m5 (B0 Ed (q9 (dI 0 eI g l S) (eV (m5 (jr (jr (au 1 (zE eI) d S) (B9 1)) (au 5 (zE eI) e S))) cD)))) (eV (B9 10) cD))) (λ_=>S) λf=>(bY (cj 7 (nY (zM (BO (fH (au 3 (lE eS) vf S)))) _ (λ_=>S) (λj:Int=>(FN (cZ (Bn () (Dw (LS (uc (gF (fH (au 2 (lE eI) f S)) (B9 9)) 7 ()) (au 3 (zE eI) j S)) (B9 1)) (B9 0))) (cZ (Fk (dZ (gF (fH (au 1 (lE eI) c S)) (B9 9)) 3 ()) (B9 0))))) (λj:Int=>(gF (fH (au 0 (lE eS) vf S)) (au 3 (zE eI) j S)))) (λ_=>S) λb=>(bY (Dh (λb:Ap=>[Z jX,Z (zE eI d),Z (oE eI c),Z (oE eS vf),Z ((oE (eT (eT eS))) a),Z (zE eI e),Z (oE eI f),Z (oE eS b),Y3]) (Mx (cZ (U1 () (fH (au 4 (lE (eT (eT eS))) a S)) (jH (qQ (d7 (eT (eT eS))) (z4 S))))) (cZ (Bn () (dZ (gF (fH (au 6 (lE eI) f S)) (B9 8)) 3 ()) (B9 1)))) (bY (cj 7 (nY (MN (fH (au 3 (lE eS) vf S))) _ (λ_=>S) (λh:AJ=>(CZ (LX (jH (ug (FP (gF (fH (au 0 (lE (eT (eT eS))) a S)) (OG (B9 1)))) _ (λ_=>S) (λm:Ap=>(Yu (au 0 (zE eS) h S) (au 1 (zE (eT eS)) m S))) λ_=>S))))) (λh:AJ=>(au 1 (zE eS) h S))) (λ_=>S) λb=>(cM (bZ b S)))) (cM (bZ b S)) λb=>(bY (cj 8 (uf (jH (B0 Gb (q9 (fH (au 7 (lE eS) b S)) (q9 (Mw (Ve (Qk (fH (au 6 (lE eI) f S)) wW (wX (B9 8))))) cD))))) (λ_=>S) λi=>(bY (Dh (λa:(O (O Ap))=>[Z jX,Z (zE eI d),Z (oE eI c),Z (oE eS vf),Z ((oE (eT (eT eS))) a),Z (zE eI e),Z (oE eI f),Z (oE eS b),Z ((zE (eT (eT eS))) i)]) (cZ (YC () (au 8 (zE (eT (eT eS))) i S) (fH (au 4 (lE (eT (eT eS))) a S)))) (bY (Hi 4 a S (au 8 (zE (eT (eT eS))) i S) λa=>(cM (bZ a S)))) (cM (bZ a S)) λa=>(cM (bZ a S))))))))))))
def dM(c:B7)(d:Int):(O (O Ap)):=(let a:=(cF (cU c d) 10);(if(decide ((((at' a 7) / (4:Int))%4)=1))=true then(dB [(at' a 6),(at' a 8),(at' a 9)] (bN (bh a 4)))else(let e:=(bN (bh a (1+((at' a 6)%(at' [(8:Int),(4:Int),(6:Int),(3:Int)] ((at' a 7)%4))))));(let b:=([]:O (O Ap));(let b:(O (O Ap)):=((rng 0 (1+((at' a 8)%8)).toNat).foldl (λ(b:(O (O Ap))) (f:Int)=>(cI c d a e b f)) b);b)))))
def jN(b:B7)(d:Int):Prop:=(((j8 b d)/\(je (cU b d) 10))/\(let a:=(cF (cU b d) 10);(In a.length 7/\(((decide ((((at' a 7) / (4:Int))%4)=1))=true->(((In a.length 6/\(In a.length 8/\In a.length 9))/\((jt a 4)/\(bh a 4).length<64))/\(eY [(at' a 6),(at' a 8),(at' a 9)] (bN (bh a 4)))))/\((decide ((((at' a 7) / (4:Int))%4)=1))=false->(((((In a.length 6/\(In a.length 7/\In [(8:Int),(4:Int),(6:Int),(3:Int)].length ((at' a 7)%4)))/\0<(at' [(8:Int),(4:Int),(6:Int),(3:Int)] ((at' a 7)%4)))/\(jt a (1+((at' a 6)%(at' [(8:Int),(4:Int),(6:Int),(3:Int)] ((at' a 7)%4))))))/\(bh a (1+((at' a 6)%(at' [(8:Int),(4:Int),(6:Int),(3:Int)] ((at' a 7)%4))))).length<64)/\(let f:=(bN (bh a (1+((at' a 6)%(at' [(8:Int),(4:Int),(6:Int),(3:Int)] ((at' a 7)%4))))));(let c:=([]:O (O Ap));((In a.length 8/\Rg (1+((at' a 8)%8)))/\mD (λ(c:(O (O Ap))) (e:Int)=>(cI b d a f c e)) (λ(c:(O (O Ap))) (e:Int)=>Z (gq b d a f c e)) (rng 0 (1+((at' a 8)%8)).toNat) c)))))))))
theorem J1(d:B7)(f:Lp jX (d.map eI))(c:Int):RP mF [Z jX,Z (zE eI c),Y3,Y3,Y3,Y3,Y3,Y3,Y3] (λr=>As.rt ((zE (eT (eT (eT eS)))) r)) (dM d c) (Z (jN d c)):=R.tp (cj 2 (B0 uR (eV (m5 (B0 Ed (q9 (dI 0 eI d f S) (eV (au 1 (zE eI) c S) cD)))) (eV (B9 10) cD))) (λ_=>S) λa=>(qR (cZ (Bn () (dZ (uc (gF (fH (au 2 (lE eI) a S)) (B9 7)) 4 ()) 4 ()) (B9 1))) (bY (fM (λr=>r) (B0 xR (q9 (Mw (Ve (qQ (bU (gF (fH (au 2 (lE eI) a S)) (B9 6)) (bU (gF (fH (au 2 (lE eI) a S)) (B9 8)) (bU (gF (fH (au 2 (lE eI) a S)) (B9 9)) (d7 eI)))) (z4 S)))) (q9 (Mw (Ve (wY (jH (B0 zW (q9 (fH (au 2 (lE eI) a S)) (eV (B9 4) cD))))))) cD))) (λ_=>S) λ_=>S)) (cM (cj 3 (wY (jH (B0 zW (q9 (fH (au 2 (lE eI) a S)) (eV (m5 (jr (B9 1) (Sv (gF (fH (au 2 (lE eI) a S)) (B9 6)) (gF (jH (qQ (bU (B9 8) (bU (B9 4) (bU (B9 6) (bU (B9 3) (d7 eI))))) (z4 S))) (dZ (gF (fH (au 2 (lE eI) a S)) (B9 7)) 4 ()))))) cD))))) (λ_=>S) λe=>(cj 4 (qQ (d7 (eT (eT eS))) (z4 S)) (λ_=>S) λb=>(Hj (λb:(O (O Ap))=>[Z jX,Z (zE eI c),Z (oE eI a),Z (oE eS e),Z ((oE (eT (eT eS))) b),Y3,Y3,Y3,Y3]) b S (zM (jr (B9 1) (dZ (gF (fH (au 2 (lE eI) a S)) (B9 8)) 8 ()))) _ (λ_ _=>S) (λ(b:(O (O Ap))) (g:Int)=>(Ag d f c a e b g).r) λb=>(fM (λr=>r) (uf (fH (au 4 (lE (eT (eT eS))) b S))) (λ_=>S) λ_=>S)))))))
theorem J2:∀v bs,(aL eI (aZ eI aN)) v bs->bs.length=2/\(B6 (Z (jN v.1 v.2.1))->mG (bs.map lend)=Z ((zE (eT (eT (eT eS)))) (dM v.1 v.2.1))):=by
 rintro⟨c,a,_⟩ _ ⟨jX,_,rfl,b,⟨_,rfl,rfl⟩⟩;exact⟨rfl,λh=>dJ (g:=mF) (n:=9) (bs:=[lend jX,.z (eI a)]) (J1 c (lX b) a) h⟩
def gO(vf:(O (AJ×Bool)))(a:AJ):(O (AJ×Bool)):=(let vf:=put vf a true;vf)
def jO(vf:(O (AJ×Bool)))(a:AJ):Prop:=vf.length<1000
theorem xT(c:(O (O Ap)))(b:O Ap)(vj:Ap)(vf:(O (AJ×Bool)))(a:AJ):RP oF [Z ((zE (eT (eT (eT eS)))) c),Z (mE eB vf),Z ((zE (eT (eT eS))) b),Z ((zE (eT eS)) vj),Z (zE eS a),Y3,Y3,Y3] (λs=>As.nx ((λvf:(O (AJ×Bool))=>[Z ((zE (eT (eT (eT eS)))) c),Z (mE eB vf),Z ((zE (eT (eT eS))) b),Z ((zE (eT eS)) vj),Y3,Y3,Y3,Y3]) s)) (gO  vf a) (Z (jO  vf a)):=R.tp (bY (Sl Y3 1 vf S (sy (.bl true) eB true S) (au 4 (zE eS) a S) λvf=>(cM (bZ vf S))))
def gP(vf:(O (AJ×Bool)))(vj:Ap):(O (AJ×Bool)):=(let vf:(O (AJ×Bool)):=(vj.foldl (λ(vf:(O (AJ×Bool))) (a:AJ)=>(gO  vf a)) vf);vf)
def jP(vf:(O (AJ×Bool)))(vj:Ap):Prop:=mD (λ(vf:(O (AJ×Bool))) (a:AJ)=>(gO  vf a)) (λ(vf:(O (AJ×Bool))) (a:AJ)=>Z (jO  vf a)) vj vf
theorem xU(b:(O (O Ap)))(a:O Ap)(vf:(O (AJ×Bool)))(vj:Ap):RP oG [Z ((zE (eT (eT (eT eS)))) b),Z (mE eB vf),Z ((zE (eT (eT eS))) a),Z ((zE (eT eS)) vj),Y3,Y3,Y3,Y3] (λs=>As.nx ((λvf:(O (AJ×Bool))=>[Z ((zE (eT (eT (eT eS)))) b),Z (mE eB vf),Z ((zE (eT (eT eS))) a),Y3,Y3,Y3,Y3,Y3]) s)) (gP  vf vj) (Z (jP  vf vj)):=R.tp (bY (Dl 3 vj (JC S) (λvf:(O (AJ×Bool))=>[Z ((zE (eT (eT (eT eS)))) b),Z (mE eB vf),Z ((zE (eT (eT eS))) a),Z ((zE (eT eS)) vj),Y3,Y3,Y3,Y3]) vf S _ (λ_ _=>S) (λ(vf:(O (AJ×Bool))) (c:AJ)=>(xT b a vj vf c).r) λvf=>(cM (bZ vf S))))
def cu(vf:(O (AJ×Bool)))(b:O Ap):(O (AJ×Bool)):=(let vf:(O (AJ×Bool)):=(b.foldl (λ(vf:(O (AJ×Bool))) (a:Ap)=>(gP  vf a)) vf);vf)
def gQ(vf:(O (AJ×Bool)))(b:O Ap):Prop:=mD (λ(vf:(O (AJ×Bool))) (a:Ap)=>(gP  vf a)) (λ(vf:(O (AJ×Bool))) (a:Ap)=>Z (jP  vf a)) b vf
theorem xV(b:(O (O Ap)))(vf:(O (AJ×Bool)))(a:O Ap):RP oH [Z ((zE (eT (eT (eT eS)))) b),Z (mE eB vf),Z ((zE (eT (eT eS))) a),Y3,Y3,Y3,Y3,Y3] (λs=>As.nx ((λvf:(O (AJ×Bool))=>[Z ((zE (eT (eT (eT eS)))) b),Z (mE eB vf),Y3,Y3,Y3,Y3,Y3,Y3]) s)) (cu  vf a) (Z (gQ  vf a)):=R.tp (bY (Dl 2 a (JC S) (λvf:(O (AJ×Bool))=>[Z ((zE (eT (eT (eT eS)))) b),Z (mE eB vf),Z ((zE (eT (eT eS))) a),Y3,Y3,Y3,Y3,Y3]) vf S _ (λ_ _=>S) (λ(vf:(O (AJ×Bool))) (c:Ap)=>(xU b a vf c).r) λvf=>(cM (bZ vf S))))
def gR(c:Ap)(a:O Ap)(b:Int):(O Ap):=(let a:=a++((BF c (Z (b+1)) Y3).map λd:AJ=>[("one":AJ),(at' c b),d]);a)
def oN(b:Ap)(d:O Ap)(a:Int):Prop:=(((BF b (Z (a+1)) Y3).length<=100000/\(∀c∈(BF b (Z (a+1)) Y3),In b.length a))/\Ou (d.length+((BF b (Z (a+1)) Y3).map λc:AJ=>[("one":AJ),(at' b a),c]).length))
theorem xW(d:(O (O Ap)))(vf:(O (AJ×Bool)))(b:Ap)(a:O Ap)(c:Int):RP oJ [Z ((zE (eT (eT (eT eS)))) d),Z (mE eB vf),Y3,Y3,Y3,Z (oE eS b),Z ((oE (eT eS)) a),Z (zE eI c)] (λs=>As.nx ((λa:(O Ap)=>[Z ((zE (eT (eT (eT eS)))) d),Z (mE eB vf),Y3,Y3,Y3,Z (oE eS b),Z ((oE (eT eS)) a),Y3]) s)) (gR b a c) (Z (oN b a c)):=R.tp (bY (SI 6 a S (vB (MN (jH (Qk (fH (au 5 (lE eS) b S)) (wX (jr (au 7 (zE eI) c S) (B9 1))) wW))) _ (λ_=>S) (λe:AJ=>(yR (bU (F5 "one") (bU (gF (fH (au 0 (lE eS) b S)) (au 1 (zE eI) c S)) (bU (au 2 (zE eS) e S) (d7 eS)))) (z4 S)))) λa=>(cM (bZ a S))))
def dh(e:(O (O Ap))):(O Ap):=(let a:=([]:(O (AJ×Bool)));(let a:(O (AJ×Bool)):=(e.foldl (λ(a:(O (AJ×Bool))) (g:O Ap)=>(cu  a g)) a);(let c:=(bN (a.map (·.1)));(let b:=(c.map λf:AJ=>[("stands":AJ),f]);(let b:(O Ap):=((rng 0 (c.length:Int).toNat).foldl (λ(b:O Ap) (d:Int)=>(gR c b d)) b);b)))))
def iD(f:(O (O Ap))):Prop:=(let a:=([]:(O (AJ×Bool)));(mD (λ(a:(O (AJ×Bool))) (d:O Ap)=>(cu  a d)) (λ(a:(O (AJ×Bool))) (d:O Ap)=>Z (gQ  a d)) f a/\(let a:(O (AJ×Bool)):=(f.foldl (λ(a:(O (AJ×Bool))) (d:O Ap)=>(cu  a d)) a);(a.length<64/\(let b:=(bN (a.map (·.1)));(b.length<=100000/\(let c:=(b.map λg:AJ=>[("stands":AJ),g]);(Rg (b.length:Int)/\mD (λ(c:O Ap) (e:Int)=>(gR b c e)) (λ(c:O Ap) (e:Int)=>Z (oN b c e)) (rng 0 (b.length:Int).toNat) c))))))))
theorem Ej(b:(O (O Ap))):RP jJ [Z ((zE (eT (eT (eT eS)))) b),Y3,Y3,Y3,Y3,Y3,Y3,Y3] (λr=>As.rt ((oE (eT eS)) r)) (dh b) (Z (iD b)):=R.tp (cj 1 (OW eB) (λ_=>S) λa=>(Dl 0 b (JC S) (λa:(O (AJ×Bool))=>[Z ((zE (eT (eT (eT eS)))) b),Z (mE eB a),Y3,Y3,Y3,Y3,Y3,Y3]) a S _ (λ_ _=>S) (λ(a:(O (AJ×Bool))) (g:O Ap)=>(xV b a g).r) λa=>(cj 5 (X0 (au 1 (nE eB) a S)) (λ_=>S) λd=>(cj 6 (ug (MN (fH (au 5 (lE eS) d S))) _ (λ_=>S) (λf:AJ=>(yR (bU (F5 "stands") (bU (au 0 (zE eS) f S) (d7 eS))) (z4 S))) λ_=>S) (λ_=>S) λc=>(Hj (λc:(O Ap)=>[Z ((zE (eT (eT (eT eS)))) b),Z (mE eB a),Y3,Y3,Y3,Z (oE eS d),Z ((oE (eT eS)) c),Y3]) c S (zM (BO (fH (au 5 (lE eS) d S)))) _ (λ_ _=>S) (λ(c:O Ap) (e:Int)=>(xW b a d c e).r) λc=>(Jy 6 (λr=>r) c S (λ_=>S) λ_=>S))))))
theorem sY:∀v bs,(aZ (eT (eT (eT eS))) aN) v bs->bs.length=1/\(B6 (Z (iD v.1))->fU (bs.map lend)=Z ((oE (eT eS)) (dh v.1))):=by
 rintro⟨a,_⟩ _ ⟨_,rfl,rfl⟩;exact⟨rfl,λh=>dJ (g:=jJ) (n:=8) (bs:=[.z ((eT (eT (eT eS))) a)]) (Ej a) h⟩
def cW(vs:Ap)(b:Unit)(vj:Ap):Kv (Unit) Bool:=(if(((BF vs (Z 1) Y3).map λa:AJ=>(decide (a∈vj))).all id)=true then(Kv.rt true)else(Kv.nx cr))
def kY(vs:Ap)(a:Unit)(vj:Ap):Prop:=(BF vs (Z 1) Y3).length<=100000
theorem Gd(b:O Ap)(vs:Ap)(a:Unit)(vj:Ap):RP uP [Z ((zE (eT (eT eS))) b),Z ((zE (eT eS)) vs),Z ((zE (eT eS)) vj)] (cC (λa:Unit=>[Z ((zE (eT (eT eS))) b),Z ((zE (eT eS)) vs),Y3]) (zE eB)) (cW vs a vj) (Z (kY vs a vj)):=R.tp (bY (qR (CZ (Ys (jH (ug (FP (MF (au 1 (zE (eT eS)) vs S) (wX (B9 1)) wW)) _ (λ_=>S) (λc:AJ=>(Yu (au 1 (zE eS) c S) (au 0 (zE (eT eS)) vj S))) λ_=>S)))) (bY (fM .rt (sy (.bl true) eB true S) (λ_=>S) λ_=>S)) (cM (cM (bZ (.nx cr) S)))))
def cN(c:O Ap)(vs:Ap):Bool:=(CY (yU (λ(a:Unit) (b:Ap)=>((cW vs a b):Kv (Unit) Bool)) c cr) (λr=>r) λa:Unit=>false)
def nA(c:O Ap)(vs:Ap):Prop:=(Di (λ(a:Unit) (b:Ap)=>((cW vs a b):Kv (Unit) Bool)) (λ(a:Unit) (b:Ap)=>Z (kY vs a b)) c cr/\(JB (yU (λ(a:Unit) (b:Ap)=>((cW vs a b):Kv (Unit) Bool)) c cr) λa:Unit=>True))
theorem QD(a:O Ap)(vs:Ap):RP qt [Z ((zE (eT (eT eS))) a),Z ((zE (eT eS)) vs),Y3] (λr=>As.rt (zE eB r)) (cN a vs) (Z (nA a vs)):=R.tp (RI 0 a (JC S) (λb:Unit=>[Z ((zE (eT (eT eS))) a),Z ((zE (eT eS)) vs),Y3]) cr S _ (λ_ _=>S) (λ(b:Unit) (c:Ap)=>((Gd a vs b c).r:R _ _ (cC (λb:Unit=>[Z ((zE (eT (eT eS))) a),Z ((zE (eT eS)) vs),Y3]) (zE eB)))) (λr=>r) (λ_=>S) λb=>(fM (λr=>r) (sy (.bl false) eB false S) (λ_=>S) λ_=>S))
theorem El:∀v bs,(aZ (eT (eT eS)) (aZ (eT eS) aN)) v bs->bs.length=2/\(B6 (Z (nA v.1 v.2.1))->jk (bs.map lend)=Z ((zE eB) (cN v.1 v.2.1))):=by
 rintro⟨a,vs,_⟩ _ ⟨_,rfl,⟨_,rfl,rfl⟩⟩;exact⟨rfl,λh=>dJ (g:=qt) (n:=3) (bs:=[.z ((eT (eT eS)) a),.z (eT eS vs)]) (QD a vs) h⟩
def cJ(d:(O (O Ap)))(c:Int)(a:B7)(vs:Ap):B7:=(let a:=a++[(((rng 0 c.toNat).filter λb:Int=>(cN (at' d b) vs)).map λb:Int=>((1:Int)*2 ^ b.toNat)).sum];a)
def lW(c:(O (O Ap)))(b:Int)(d:B7)(vs:Ap):Prop:=((((Rg b/\(rng 0 b.toNat).length<=100000)/\(∀a∈(rng 0 b.toNat),((In c.length a/\(nA (at' c a) vs))/\((cN (at' c a) vs)=true->Sh 1 a))))/\EJ (((rng 0 b.toNat).filter λa:Int=>(cN (at' c a) vs)).map λa:Int=>((1:Int)*2 ^ a.toNat))=true)/\Ou d.length)
theorem Ah(b:(O (O Ap)))(e:O Ap)(c:Int)(a:B7)(vs:Ap):RP qW [Z ((zE (eT (eT (eT eS)))) b),Z ((lE (eT eS)) e),Z (zE eI c),Z (oE eI a),Z ((zE (eT eS)) vs),Y3,Y3,Y3,Y3,Y3,Y3] (λs=>As.nx ((λa:B7=>[Z ((zE (eT (eT (eT eS)))) b),Z ((lE (eT eS)) e),Z (zE eI c),Z (oE eI a),Y3,Y3,Y3,Y3,Y3,Y3,Y3]) s)) (cJ b c a vs) (Z (lW b c a vs)):=R.tp (bY (Hi 3 a S (m5 (Pt (jH (nY (zM (au 2 (zE eI) c S)) _ (λ_=>S) (λd:Int=>(CZ (B0 El (eV (Yk (au 1 (zE (eT (eT (eT eS)))) b S) (au 2 (zE eI) d S)) (eV (au 0 (zE (eT eS)) vs S) cD))))) (λd:Int=>(Tc (B9 1) (au 2 (zE eI) d S))))))) λa=>(cM (bZ a S))))
def cL(vn:B7)(vj:Int)(a:Int)(d:Int):Int:=(let y1:=(Builtin.bitAnd vj d);let y2:=(vj-(Builtin.bitAnd vj d));let c:=y1;let b:=y2;(let a:Int:=(if((!decide (c=0))&&(!decide (b=0)))=true then(let a:=(if(1+(if(at' vn b)>(at' vn c)then(at' vn b)else(at' vn c)))<a then(1+(if(at' vn b)>(at' vn c)then(at' vn b)else(at' vn c)))else a);a)else a);a))
def gA(vn:B7)(vj:Int)(d:Int)(c:Int):Prop:=(let y1:=(Builtin.bitAnd vj c);let y2:=(vj-(Builtin.bitAnd vj c));let b:=y1;let a:=y2;(((!decide (b=0))&&(!decide (a=0)))=true->(In vn.length b/\In vn.length a)))
theorem Ai(f:(O (O Ap)))(c:O Ap)(g:Int)(h:B7)(vn:B7)(vj:Int)(a:Int)(b:Int):RP qX [Z ((zE (eT (eT (eT eS)))) f),Z ((lE (eT eS)) c),Z (zE eI g),Z ((zE (eL eI)) h),Y3,Z (oE eI vn),Z (zE eI vj),Z (zE eI a),Z (zE eI b),Y3,Y3] (λs=>As.nx ((λa:Int=>[Z ((zE (eT (eT (eT eS)))) f),Z ((lE (eT eS)) c),Z (zE eI g),Z ((zE (eL eI)) h),Y3,Z (oE eI vn),Z (zE eI vj),Z (zE eI a),Y3,Y3,Y3]) s)) (cL vn vj a b) (Z (gA vn vj a b)):=R.tp (bY (LH 9 10 (Dw (au 6 (zE eI) vj S) (au 8 (zE eI) b S)) (Sq (au 6 (zE eI) vj S) (Dw (au 6 (zE eI) vj S) (au 8 (zE eI) b S))) λe d=>(bY (Dh (λa:Int=>[Z ((zE (eT (eT (eT eS)))) f),Z ((lE (eT eS)) c),Z (zE eI g),Z ((zE (eL eI)) h),Y3,Z (oE eI vn),Z (zE eI vj),Z (zE eI a),Z (zE eI b),Z (zE eI e),Z (zE eI d)]) (Mx (cZ (Vf () (au 9 (zE eI) e S) (B9 0))) (cZ (Vf () (au 10 (zE eI) d S) (B9 0)))) (bY (cj 7 (ax (au 7 (zE eI) a S) (jr (B9 1) (Yt (gF (fH (au 5 (lE eI) vn S)) (au 9 (zE eI) e S)) (gF (fH (au 5 (lE eI) vn S)) (au 10 (zE eI) d S))))) (λ_=>S) λa=>(cM (bZ a S)))) (cM (bZ a S)) λa=>(cM (bZ a S))))))
def d8(b:Int)(c:B7)(vn:B7)(vj:Int):B7:=(let vn:B7:=(if(!decide ((Builtin.bitAnd vj (vj-1))=0))=true then(let a:=b;(let a:Int:=(c.foldl (λ(a:Int) (d:Int)=>(cL vn vj a d)) a);(let vn:=(vn.set (vj).toNat a);vn)))else vn);vn)
def gB(d:Int)(c:B7)(vn:B7)(vj:Int):Prop:=((!decide ((Builtin.bitAnd vj (vj-1))=0))=true->(let a:=d;(mD (λ(a:Int) (b:Int)=>(cL vn vj a b)) (λ(a:Int) (b:Int)=>Z (gA vn vj a b)) c a/\(let a:Int:=(c.foldl (λ(a:Int) (b:Int)=>(cL vn vj a b)) a);(0<=vj/\vj<vn.length)))))
theorem Aj(e:(O (O Ap)))(d:O Ap)(a:Int)(b:B7)(vn:B7)(vj:Int):RP qY [Z ((zE (eT (eT (eT eS)))) e),Z ((lE (eT eS)) d),Z (zE eI a),Z ((zE (eL eI)) b),Y3,Z (oE eI vn),Z (zE eI vj),Y3,Y3,Y3,Y3] (λs=>As.nx ((λvn:B7=>[Z ((zE (eT (eT (eT eS)))) e),Z ((lE (eT eS)) d),Z (zE eI a),Z ((zE (eL eI)) b),Y3,Z (oE eI vn),Y3,Y3,Y3,Y3,Y3]) s)) (d8 a b vn vj) (Z (gB a b vn vj)):=R.tp (bY (Dh (λvn:B7=>[Z ((zE (eT (eT (eT eS)))) e),Z ((lE (eT eS)) d),Z (zE eI a),Z ((zE (eL eI)) b),Y3,Z (oE eI vn),Z (zE eI vj),Y3,Y3,Y3,Y3]) (cZ (Vf () (Dw (au 6 (zE eI) vj S) (Sq (au 6 (zE eI) vj S) (B9 1))) (B9 0))) (bY (cj 7 (au 2 (zE eI) a S) (λ_=>S) λc=>(bY (Dl 3 b (OA S) (λc:Int=>[Z ((zE (eT (eT (eT eS)))) e),Z ((lE (eT eS)) d),Z (zE eI a),Z ((zE (eL eI)) b),Y3,Z (oE eI vn),Z (zE eI vj),Z (zE eI c),Y3,Y3,Y3]) c S _ (λ_ _=>S) (λ(c:Int) (f:Int)=>(Ai e d a b vn vj c f).r) λc=>(bY (WN 5 vn S (au 7 (zE eI) c S) (au 6 (zE eI) vj S) λvn=>(cM (bZ vn S)))))))) (cM (bZ vn S)) λvn=>(cM (bZ vn S))))
def cP(c:(O (O Ap))):B7:=(let d:=(dh c);(let b:=(c.length:Int);(let a:=([]:O Int);(let a:B7:=(d.foldl (λ(a:B7) (vs:Ap)=>(cJ c b a vs)) a);(let vn:=(ab ((1:Int)*2 ^ b.toNat).toNat [(0:Int)]).flatten;(let vn:B7:=((rng 1 (((1:Int)*2 ^ b.toNat)-1).toNat).foldl (λ(vn:B7) (e:Int)=>(d8 b a vn e)) vn);vn))))))
def iQ(c:(O (O Ap))):Prop:=((iD c)/\(let e:=(dh c);(let a:=(c.length:Int);(let b:=([]:O Int);(mD (λ(b:B7) (vs:Ap)=>(cJ c a b vs)) (λ(b:B7) (vs:Ap)=>Z (lW c a b vs)) e b/\(let b:B7:=(e.foldl (λ(b:B7) (vs:Ap)=>(cJ c a b vs)) b);((Sh 1 a/\(0<=((1:Int)*2 ^ a.toNat)/\((1:Int)*2 ^ a.toNat)<=1000/\[(0:Int)].length<=1000))/\(let vn:=(ab ((1:Int)*2 ^ a.toNat).toNat [(0:Int)]).flatten;((Sh 1 a/\(Rg (1:Int)/\Rg ((1:Int)*2 ^ a.toNat)))/\mD (λ(vn:B7) (d:Int)=>(d8 a b vn d)) (λ(vn:B7) (d:Int)=>Z (gB a b vn d)) (rng 1 (((1:Int)*2 ^ a.toNat)-1).toNat) vn)))))))))
theorem J3(a:(O (O Ap))):RP mH [Z ((zE (eT (eT (eT eS)))) a),Y3,Y3,Y3,Y3,Y3,Y3,Y3,Y3,Y3,Y3] (λr=>As.rt (oE eI r)) (cP a) (Z (iQ a)):=R.tp (cj 1 (B0 sY (eV (au 0 (zE (eT (eT (eT eS)))) a S) cD)) (λ_=>S) λd=>(cj 2 (sJ (au 0 (zE (eT (eT (eT eS)))) a S)) (λ_=>S) λc=>(cj 3 (qQ (d7 eI) (z4 S)) (λ_=>S) λb=>(Dl 1 d (XZ S) (λb:B7=>[Z ((zE (eT (eT (eT eS)))) a),Z ((lE (eT eS)) d),Z (zE eI c),Z (oE eI b),Y3,Y3,Y3,Y3,Y3,Y3,Y3]) b S _ (λ_ _=>S) (λ(b:B7) (vs:Ap)=>(Ah a d c b vs).r) λb=>(cj 5 (XU (qQ (bU (B9 0) (d7 eI)) (z4 S)) (Tc (B9 1) (au 2 (zE eI) c S))) (λ_=>S) λvn=>(Yf 3 [Z ((zE (eT (eT (eT eS)))) a),Z ((lE (eT eS)) d),Z (zE eI c),Z ((zE (eL eI)) b),Y3,Z (oE eI vn),Y3,Y3,Y3,Y3,Y3] S (Hj (λvn:B7=>[Z ((zE (eT (eT (eT eS)))) a),Z ((lE (eT eS)) d),Z (zE eI c),Z ((zE (eL eI)) b),Y3,Z (oE eI vn),Y3,Y3,Y3,Y3,Y3]) vn S (NR (B9 1) (Tc (B9 1) (au 2 (zE eI) c S))) _ (λ_ _=>S) (λ(vn:B7) (e:Int)=>(Aj a d c b vn e).r) λvn=>(Jy 5 (λr=>r) vn S (λ_=>S) λ_=>S))))))))
theorem xX:∀v bs,(aZ (eT (eT (eT eS))) aN) v bs->bs.length=1/\(B6 (Z (iQ v.1))->jK (bs.map lend)=Z ((oE eI) (cP v.1))):=by
 rintro⟨a,_⟩ _ ⟨_,rfl,rfl⟩;exact⟨rfl,λh=>dJ (g:=mH) (n:=11) (bs:=[.z ((eT (eT (eT eS))) a)]) (J3 a) h⟩
def cQ(b:O Ap):Ap:=(bN (b.flatMap λa:Ap=>(a.map λc:AJ=>c)))
def vH(c:O Ap):Prop:=(((∀a∈c,(∀b∈a,True))/\(c.flatMap λa:Ap=>(a.map λb:AJ=>b)).length<=100000)/\(c.flatMap λa:Ap=>(a.map λb:AJ=>b)).length<64)
theorem QF(a:O Ap):RP qu [Z ((zE (eT (eT eS))) a)] (λr=>As.rt (oE eS r)) (cQ a) (Z (vH a)):=R.tp (fM (λr=>r) (wY (jH (S5 (YD (FP (au 0 (zE (eT (eT eS))) a S)) _ (λ_=>S) (λc:Ap=>(YF (UC (au 0 (zE (eT eS)) c S)) _ (λ_=>S) (λb:AJ=>(au 1 (zE eS) b S)))))))) (λ_=>S) λ_=>S)
theorem QG:∀v bs,(aZ (eT (eT eS)) aN) v bs->bs.length=1/\(B6 (Z (vH v.1))->qw (bs.map lend)=Z ((oE eS) (cQ v.1))):=by
 rintro⟨a,_⟩ _ ⟨_,rfl,rfl⟩;exact⟨rfl,λh=>dJ (g:=qu) (n:=1) (bs:=[.z ((eT (eT eS)) a)]) (QF a) h⟩
def aP(c:(O (O Ap))):Ap:=(bN (qd (c.flatMap λa:(O Ap)=>((cQ a).map λb:AJ=>b))))
def qC(c:(O (O Ap))):Prop:=(((∀a∈c,((vH a)/\(∀b∈(cQ a),True)))/\(c.flatMap λa:(O Ap)=>((cQ a).map λb:AJ=>b)).length<=4000)/\((c.flatMap λa:(O Ap)=>((cQ a).map λb:AJ=>b)).length<4000/\(qd (c.flatMap λa:(O Ap)=>((cQ a).map λb:AJ=>b))).length<64))
theorem QH(a:(O (O Ap))):RP qx [Z ((zE (eT (eT (eT eS)))) a)] (λr=>As.rt (oE eS r)) (aP a) (Z (qC a)):=R.tp (fM (λr=>r) (NL (ay (YD (FP (au 0 (zE (eT (eT (eT eS)))) a S)) _ (λ_=>S) (λb:(O Ap)=>(YF (HR (B0 QG (eV (au 0 (zE (eT (eT eS))) b S) cD))) _ (λ_=>S) (λc:AJ=>(au 1 (zE eS) c S))))))) (λ_=>S) λ_=>S)
theorem QJ:∀v bs,(aZ (eT (eT (eT eS))) aN) v bs->bs.length=1/\(B6 (Z (qC v.1))->qy (bs.map lend)=Z ((oE eS) (aP v.1))):=by
 rintro⟨a,_⟩ _ ⟨_,rfl,rfl⟩;exact⟨rfl,λh=>dJ (g:=qx) (n:=1) (bs:=[.z ((eT (eT (eT eS))) a)]) (QH a) h⟩
def kh(e:(O (O Ap))):(O Ap):=(let a:=(aP e);(let d:=(a.map λb:AJ=>[("stands":AJ),b]);(d++((uL a).flatMap λq1:Zf=>((BF a (Z (q1.1+1)) Y3).map λc:AJ=>[("one":AJ),q1.2,c])))))
def ur(c:(O (O Ap))):Prop:=((qC c)/\(let a:=(aP c);(a.length<=100000/\(let e:=(a.map λd:AJ=>[("stands":AJ),d]);(((∀q1∈(uL a),(∀b∈(BF a (Z (q1.1+1)) Y3),True))/\((uL a).flatMap λq1:Zf=>((BF a (Z (q1.1+1)) Y3).map λb:AJ=>[("one":AJ),q1.2,b])).length<=100000)/\Ou (e.length+((uL a).flatMap λq1:Zf=>((BF a (Z (q1.1+1)) Y3).map λb:AJ=>[("one":AJ),q1.2,b])).length))))))
theorem Vu(a:(O (O Ap))):RP uh [Z ((zE (eT (eT (eT eS)))) a),Y3,Y3] (λr=>As.rt ((oE (eT eS)) r)) (kh a) (Z (ur a)):=R.tp (cj 1 (B0 QJ (eV (au 0 (zE (eT (eT (eT eS)))) a S) cD)) (λ_=>S) λb=>(cj 2 (ug (MN (fH (au 1 (lE eS) b S))) _ (λ_=>S) (λc:AJ=>(yR (bU (F5 "stands") (bU (au 0 (zE eS) c S) (d7 eS))) (z4 S))) λ_=>S) (λ_=>S) λe=>(fM (λr=>r) (Yo (fH (au 2 (lE (eT eS)) e S)) (jH (S5 (YD (NS (fH (au 1 (lE eS) b S))) _ (λ_=>S) (λq1:Zf=>(YF (HR (Qk (fH (au 0 (lE eS) b S)) (wX (jr (au 1 (zE eI) q1.1 S) (B9 1))) wW)) _ (λ_=>S) (λd:AJ=>(yR (bU (F5 "one") (bU (au 2 (zE eS) q1.2 S) (bU (au 3 (zE eS) d S) (d7 eS)))) (z4 S))))))))) (λ_=>S) λ_=>S)))
theorem Vv:∀v bs,(aZ (eT (eT (eT eS))) aN) v bs->bs.length=1/\(B6 (Z (ur v.1))->um (bs.map lend)=Z ((oE (eT eS)) (kh v.1))):=by
 rintro⟨a,_⟩ _ ⟨_,rfl,rfl⟩;exact⟨rfl,λh=>dJ (g:=uh) (n:=3) (bs:=[.z ((eT (eT (eT eS))) a)]) (Vu a) h⟩
def aM(a:O Ap)(c:Ap):Bool:=((a.map λb:Ap=>(((BF c (Z 1) Y3).map λd:AJ=>(decide (d∈b))).all id)).any id)
def xZ(a:O Ap)(b:Ap):Prop:=(a.length<=100000/\(∀c∈a,(BF b (Z 1) Y3).length<=100000))
theorem Zg(a:O Ap)(b:Ap):RP xO [Z ((zE (eT (eT eS))) a),Z ((zE (eT eS)) b)] (λr=>As.rt (zE eB r)) (aM a b) (Z (xZ a b)):=R.tp (fM (λr=>r) (LX (jH (vB (FP (au 0 (zE (eT (eT eS))) a S)) _ (λ_=>S) (λd:Ap=>(m5 (Ys (jH (ug (FP (MF (au 0 (zE (eT eS)) b S) (wX (B9 1)) wW)) _ (λ_=>S) (λc:AJ=>(Yu (au 1 (zE eS) c S) (au 0 (zE (eT eS)) d S))) λ_=>S)))))))) (λ_=>S) λ_=>S)
theorem Zh:∀v bs,(aZ (eT (eT eS)) (aZ (eT eS) aN)) v bs->bs.length=2/\(B6 (Z (xZ v.1 v.2.1))->xP (bs.map lend)=Z ((zE eB) (aM v.1 v.2.1))):=by
 rintro⟨a,b,_⟩ _ ⟨_,rfl,⟨_,rfl,rfl⟩⟩;exact⟨rfl,λh=>dJ (g:=xO) (n:=2) (bs:=[.z ((eT (eT eS)) a),.z (eT eS b)]) (Zg a b) h⟩
def aQ(b:(O (O Ap))):(O LO):=((kh b).map λa:Ap=>(a,(b.map λc:(O Ap)=>(aM c a))))
def vI(a:(O (O Ap))):Prop:=(((ur a)/\(kh a).length<=100000)/\(∀c∈(kh a),(a.length<=100000/\(∀b∈a,(xZ b c)))))
theorem QK(a:(O (O Ap))):RP qz [Z ((zE (eT (eT (eT eS)))) a)] (λr=>As.rt (oE Vs r)) (aQ a) (Z (vI a)):=R.tp (fM (λr=>r) (vB (MN (jH (B0 Vv (eV (au 0 (zE (eT (eT (eT eS)))) a S) cD)))) _ (λ_=>S) (λb:Ap=>(Yi (au 1 (zE (eT eS)) b S) (Ve (vB (FP (au 0 (zE (eT (eT (eT eS)))) a S)) _ (λ_=>S) (λc:(O Ap)=>(m5 (B0 Zh (eV (au 1 (zE (eT (eT eS))) c S) (eV (au 0 (zE (eT eS)) b S) cD)))))))))) (λ_=>S) λ_=>S)
theorem QL:∀v bs,(aZ (eT (eT (eT eS))) aN) v bs->bs.length=1/\(B6 (Z (vI v.1))->jm (bs.map lend)=Z ((oE Vs) (aQ v.1))):=by
 rintro⟨a,_⟩ _ ⟨_,rfl,rfl⟩;exact⟨rfl,λh=>dJ (g:=qz) (n:=1) (bs:=[.z ((eT (eT (eT eS))) a)]) (QK a) h⟩
def mR(d:B7)(b:O Bool)(c:Bool):B7:=((d.filter λa:Int=>(decide ((at' b a)=c))).map λa:Int=>a)
def uw(a:B7)(b:O Bool)(d:Bool):Prop:=(a.length<=100000/\(∀c∈a,In b.length c))
theorem Vx(b:B7)(a:O Bool)(e:Lp b_1 (a.map eB))(c:Bool):RP uo [Z ((zE (eT eI)) b),Z b_1,Z (zE eB c)] (λr=>As.rt ((zE (eT eI)) r)) (mR b a c) (Z (uw b a c)):=R.tp (fM (λr=>r) (uf (jH (nY (FP (au 0 (zE (eT eI)) b S)) _ (λ_=>S) (λd:Int=>(cZ (Bn () (gF (dI 1 eB a e (congrArg Z (e.get S))) (au 2 (zE eI) d S)) (au 0 (zE eB) c S)))) (λd:Int=>(au 2 (zE eI) d S))))) (λ_=>S) λ_=>S)
theorem HD:∀v bs,(aZ (eT eI) (aL eB (aZ eB aN))) v bs->bs.length=3/\(B6 (Z (uw v.1 v.2.1 v.2.2.1))->uq (bs.map lend)=Z ((zE (eT eI)) (mR v.1 v.2.1 v.2.2.1))):=by
 rintro⟨b,c,a,_⟩ _ ⟨_,rfl,⟨b_1,_,rfl,d,⟨_,rfl,rfl⟩⟩⟩;exact⟨rfl,λh=>dJ (g:=uo) (n:=3) (bs:=[.z (eT eI b),lend b_1,.z (eB a)]) (Vx b c (lX d) a) h⟩
def jQ(a:B7)(b:O Bool):Bool:=((decide ((0:Int)<((mR a b true).length:Int)))&&(decide (((mR a b true).length:Int)<(a.length:Int))))
def qD(b:B7)(a:O Bool):Prop:=((uw b a true)/\((decide ((0:Int)<((mR b a true).length:Int)))=true->(uw b a true)))
theorem J5(a:B7)(b:O Bool)(c:Lp b_1 (b.map eB)):RP mJ [Z ((zE (eT eI)) a),Z b_1] (λr=>As.rt (zE eB r)) (jQ a b) (Z (qD a b)):=R.tp (fM (λr=>r) (WH (Sw (B9 0) (sJ (B0 HD (eV (au 0 (zE (eT eI)) a S) (q9 (dI 1 eB b c S) (eV (sy (.bl true) eB true S) cD)))))) (Sw (sJ (B0 HD (eV (au 0 (zE (eT eI)) a S) (q9 (dI 1 eB b c S) (eV (sy (.bl true) eB true S) cD))))) (sJ (au 0 (zE (eT eI)) a S)))) (λ_=>S) λ_=>S)
theorem J6:∀v bs,(aZ (eT eI) (aL eB aN)) v bs->bs.length=2/\(B6 (Z (qD v.1 v.2.1))->gk (bs.map lend)=Z ((zE eB) (jQ v.1 v.2.1))):=by
 rintro⟨a,b,_⟩ _ ⟨_,rfl,⟨b_1,_,rfl,c,rfl⟩⟩;exact⟨rfl,λh=>dJ (g:=mJ) (n:=2) (bs:=[.z (eT eI a),lend b_1]) (J5 a b (lX c)) h⟩
def bT(a:(O (O Ap))):N4:=Lq (aQ a) (rng 0 a.length)
def eZ(a:(O (O Ap))):Prop:=vI a/\a.length<=8/\(aQ a).length<=1000/\Nk 9 (aQ a) (rng 0 a.length)
theorem qF:∀v bs,(aZ (eT (eT (eT eS))) aN) v bs->bs.length=1/\(B6 (Z (eZ v.1))->eX (bs.map lend)=Z ((zE xH) (bT v.1))):=by
 rintro⟨a,_⟩ _ ⟨_,rfl,rfl⟩;refine⟨rfl,λh=>?_⟩;obtain⟨h1,h2,c,b⟩:eZ a:=h;have ea:jm [.z ((eT (eT (eT eS))) a)]=Z ((oE Vs) (aQ a)):=(QL (a,cr) [.z ((eT (eT (eT eS))) a)] ⟨_,rfl,rfl⟩).2 h1;have el:iZ [.z ((eT (eT (eT eS))) a)]=Z (.z (.int (a.length:Int))):=(sJ (au (ρ:=[Z (.z ((eT (eT (eT eS))) a))]) 0 (zE (eT (eT (eT eS)))) a S)).ok trivial;show(iZ [.z ((eT (eT (eT eS))) a)]).bind (λl=>(jm [.z ((eT (eT (eT eS))) a)]).bind λr=>Gc l r)=_;rw[ea,el];show(Vp ((aQ a).map V6)).bind _=_;rw[Td];exact(zo ⟨by omega,by omega,c,b⟩).trans rfl
def fY(a:Dt):Bool:=((yM a)&&(!(BM a)))
theorem Nv(a:Dt):RP oK [Z (zE eD a)] (λr=>As.rt (zE eB r)) (fY a) Y3:=R.tp (fM (λr=>r) (UP (SJ yM (au 0 (zE eD) a S)) (Rs (SJ BM (au 0 (zE eD) a S)))) (λ_=>S) λ_=>S)
theorem zX:∀v bs,(aZ eD aN) v bs->bs.length=1/\(B6 (Y3)->iB (bs.map lend)=Z ((zE eB) (fY v.1))):=by
 rintro⟨a,_⟩ _ ⟨_,rfl,rfl⟩;exact⟨rfl,λh=>dJ (g:=oK) (n:=1) (bs:=[.z (eD a)]) (Nv a) h⟩
def bA:Nat->(O (O Ap))->(O Ap)->Dt->B7->(Y Int)
 |0,_,_,_,_=>default
 |n+1,v1,vo,gU,uE=>(if((!(eG gU))||(Fg gU (Dt.tup [])))=true then Y3 else(if(decide ((uE.length:Int)=1))=true then(if((decide ((Dc gU)=2))&&((Fg (nM gU 0) (Dt.str "told"))&&((fY (nM gU 1))&&(Fg (nM gU 1) (eI (at' uE 0))))))=true then(Z 0)else Y3)else(if((!decide ((Dc gU)=4))||((!Fg (nM gU 0) (Dt.str "ask"))||(!yV (FT (nM gU 1)) vo)))=true then Y3 else(let d:=((uE.filter λa:Int=>(cN (at' v1 a) (FT (nM gU 1)))).map λa:Int=>a);(let e:=((uE.filter λa:Int=>(!decide (a∈d))).map λa:Int=>a);(if((decide (d=([]:O Int)))||(decide (e=([]:O Int))))=true then Y3 else(let y1:=(bA n v1 vo (nM gU 2) d);let y2:=(bA n v1 vo (nM gU 3) e);let c:=y1;let b:=y2;(if(c.isNone||b.isNone)=true then Y3 else(Z (1+(if(b.getD default)>(c.getD default)then(b.getD default)else(c.getD default))))))))))))
def bJ:Nat->(O (O Ap))->(O Ap)->Dt->B7->Prop
 |0,_,_,_,_=>False
 |n+1,v1,vo,gU,uE=>(((!(eG gU))=false->Vg gU (Dt.tup []))/\(((!(eG gU))||(Fg gU (Dt.tup [])))=false->(((decide ((uE.length:Int)=1))=true->(Yr gU=true/\((decide ((Dc gU)=2))=true->((Qj gU (0:Int)/\Vg (nM gU 0) (Dt.str "told"))/\((Fg (nM gU 0) (Dt.str "told"))=true->(Qj gU (1:Int)/\((fY (nM gU 1))=true->((Qj gU (1:Int)/\In uE.length 0)/\Vg (nM gU 1) (eI (at' uE 0))))))))))/\((decide ((uE.length:Int)=1))=false->((Yr gU=true/\((!decide ((Dc gU)=4))=false->((Qj gU (0:Int)/\Vg (nM gU 0) (Dt.str "ask"))/\((!Fg (nM gU 0) (Dt.str "ask"))=false->(Qj gU (1:Int)/\(nM gU 1)=(eT eS) (FT (nM gU 1)))))))/\(((!decide ((Dc gU)=4))||((!Fg (nM gU 0) (Dt.str "ask"))||(!yV (FT (nM gU 1)) vo)))=false->((uE.length<=100000/\(∀a∈uE,((In v1.length a/\(Qj gU (1:Int)/\(nM gU 1)=(eT eS) (FT (nM gU 1))))/\(nA (at' v1 a) (FT (nM gU 1))))))/\(let b:=((uE.filter λa:Int=>(cN (at' v1 a) (FT (nM gU 1)))).map λa:Int=>a);(uE.length<=100000/\(let c:=((uE.filter λa:Int=>(!decide (a∈b))).map λa:Int=>a);(((decide (b=([]:O Int)))||(decide (c=([]:O Int))))=false->(((Qj gU (2:Int)/\(bJ n v1 vo (nM gU 2) b))/\(Qj gU (3:Int)/\(bJ n v1 vo (nM gU 3) c)))/\(let y1:=(bA n v1 vo (nM gU 2) b);let y2:=(bA n v1 vo (nM gU 3) c);let e:=y1;let d:=y2;((e.isNone||d.isNone)=false->(e.isSome=true/\d.isSome=true)))))))))))))))
def kj(n:Nat)(m:∀v bs,(aZ (eT (eT (eT eS))) (aL (eT eS) (aZ eD (aL eI aN)))) v bs->bs.length=4/\(B6 (Z (bJ n v.1 v.2.1 v.2.2.1 v.2.2.2.1))->bO n (bs.map lend)=Z ((zE (eO eI)) (bA n v.1 v.2.1 v.2.2.1 v.2.2.2.1))))(e:(O (O Ap)))(d:O Ap)(g:Lp b_1 (d.map (eT eS)))(a:Dt)(c:B7){o:Bx}(f:Lp o (c.map eI)):R (iJ (bO n)) [Z ((zE (eT (eT (eT eS)))) e),Z b_1,Z (zE eD a),Z o,Y3,Y3,Y3,Y3] (λr=>As.rt ((zE (eO eI)) r)):=(qR (FN (Mz (CZ (SJ eG (au 2 (zE eD) a S)))) (cZ (Sx (au 2 (zE eD) a S) (Jx (d7 eD) (z4 S))))) (bY (fM (λr=>r) CT (λ_=>S) λ_=>S)) (cM (qR (cZ (Bn () (BO (dI 3 eI c f S)) (B9 1))) (bY (qR (Mx (cZ (Bn () (Ql (au 2 (zE eD) a S)) (B9 2))) (Mx (cZ (Sx (sI (au 2 (zE eD) a S) (B9 0)) (ER (.str "told")))) (Mx (CZ (B0 zX (eV (sI (au 2 (zE eD) a S) (B9 1)) cD))) (cZ (Sx (sI (au 2 (zE eD) a S) (B9 1)) (Hh (gF (dI 3 eI c f S) (B9 0)))))))) (bY (fM (λr=>r) (Qh (B9 0)) (λ_=>S) λ_=>S)) (cM (bY (fM (λr=>r) CT (λ_=>S) λ_=>S))))) (cM (qR (FN (cZ (Vf () (Ql (au 2 (zE eD) a S)) (B9 4))) (FN (cZ (Iq (sI (au 2 (zE eD) a S) (B9 0)) (ER (.str "ask")))) (cZ (YC () (SM (sI (au 2 (zE eD) a S) (B9 1)) FT (eT eS)) (dI 1 (eT eS) d g S))))) (bY (fM (λr=>r) CT (λ_=>S) λ_=>S)) (cM (cj 4 (nY (MN (dI 3 eI c f S)) _ (λ_=>S) (λb:Int=>(CZ (B0 El (eV (Yk (au 0 (zE (eT (eT (eT eS)))) e S) (au 2 (zE eI) b S)) (eV (SM (sI (au 1 (zE eD) a S) (B9 1)) FT (eT eS)) cD))))) (λb:Int=>(au 2 (zE eI) b S))) (λ_=>S) λh=>(cj 5 (Yx (MN (dI 3 eI c f S)) _ (λ_=>S) (λb:Int=>(cZ (Y' (au 1 (zE eI) b S) (fH (au 0 (lE eI) h S))))) (λb:Int=>(au 1 (zE eI) b S)) (λ_=>S) λ_=>S) (λ_=>S) λl=>(qR (FN (cZ (Lc () (fH (au 4 (lE eI) h S)) (jH (qQ (d7 eI) (z4 S))))) (cZ (Lc () (fH (au 5 (lE eI) l S)) (jH (qQ (d7 eI) (z4 S)))))) (bY (fM (λr=>r) CT (λ_=>S) λ_=>S)) (cM (LH 6 7 (m5 (B0 m (eV (au 0 (zE (eT (eT (eT eS)))) e S) (q9 (dI 1 (eT eS) d g S) (eV (sI (au 2 (zE eD) a S) (B9 2)) (q9 (fH (au 4 (lE eI) h S)) cD)))))) (m5 (B0 m (eV (au 0 (zE (eT (eT (eT eS)))) e S) (q9 (dI 1 (eT eS) d g S) (eV (sI (au 2 (zE eD) a S) (B9 3)) (q9 (fH (au 5 (lE eI) l S)) cD)))))) λj i=>(qR (FN (cZ (LM (au 6 (zE (eO eI)) j S) λ_=>S)) (cZ (LM (au 7 (zE (eO eI)) i S) λ_=>S))) (bY (fM (λr=>r) CT (λ_=>S) λ_=>S)) (cM (fM (λr=>r) (Qh (m5 (jr (B9 1) (Yt (NC (au 6 (zE (eO eI)) j S)) (NC (au 7 (zE (eO eI)) i S)))))) (λ_=>S) λ_=>S))))))))))))))
theorem yc(n:Nat)(f:∀v bs,(aZ (eT (eT (eT eS))) (aL (eT eS) (aZ eD (aL eI aN)))) v bs->bs.length=4/\(B6 (Z (bJ n v.1 v.2.1 v.2.2.1 v.2.2.2.1))->bO n (bs.map lend)=Z ((zE (eO eI)) (bA n v.1 v.2.1 v.2.2.1 v.2.2.2.1))))(c:(O (O Ap)))(a:O Ap)(e:Lp b_1 (a.map (eT eS)))(d:Dt)(b:B7){g:Bx}(h:Lp g (b.map eI)):(kj n f c a e d b h).v=bA (n+1) c a d b:=by kernel_rfl
theorem yd(n:Nat)(f:∀v bs,(aZ (eT (eT (eT eS))) (aL (eT eS) (aZ eD (aL eI aN)))) v bs->bs.length=4/\(B6 (Z (bJ n v.1 v.2.1 v.2.2.1 v.2.2.2.1))->bO n (bs.map lend)=Z ((zE (eO eI)) (bA n v.1 v.2.1 v.2.2.1 v.2.2.2.1))))(c:(O (O Ap)))(a:O Ap)(e:Lp b_1 (a.map (eT eS)))(d:Dt)(b:B7){g:Bx}(h:Lp g (b.map eI)):(kj n f c a e d b h).D=Z (bJ (n+1) c a d b):=by kernel_rfl
theorem iR:∀(n:Nat),∀v bs,(aZ (eT (eT (eT eS))) (aL (eT eS) (aZ eD (aL eI aN)))) v bs->bs.length=4/\(B6 (Z (bJ n v.1 v.2.1 v.2.2.1 v.2.2.2.1))->bO n (bs.map lend)=Z ((zE (eO eI)) (bA n v.1 v.2.1 v.2.2.1 v.2.2.2.1)))
 |0=>by
  rintro⟨a,c,b,d,_⟩ _ ⟨_,rfl,⟨b_1,_,rfl,e,⟨_,rfl,⟨i,_,rfl,f,rfl⟩⟩⟩⟩;exact⟨rfl,λh=>absurd h id⟩
 |n+1=>by
  rintro⟨a,c,b,d,_⟩ _ ⟨_,rfl,⟨b_1,_,rfl,e,⟨_,rfl,⟨i,_,rfl,f,rfl⟩⟩⟩⟩;exact⟨rfl,λh=>(Yv (g:=iJ (bO n)) (n:=8) (bs:=[.z ((eT (eT (eT eS))) a),lend b_1,.z (eD b),lend i]) (kj n (iR n) a c (lX e) b d (lX f)) ((congrArg B6 (yd n (iR n) a c (lX e) b d (lX f))).mpr h)).trans (congrArg (λr=>Z ((zE (eO eI)) r)) (yc n (iR n) a c (lX e) b d (lX f)))⟩
def fZ(b:(O (O Ap)))(a:Dt)(c:Int):Bool:=(if((!(eG a))||((!decide ((Dc a)=2))||((!(fY (nM a 0)))||(!Fg (nM a 0) (eI c)))))=true then false else(decide ((bA fuel b (dh b) (nM a 1) (rng 0 (b.length:Int).toNat))=(Z c))))
def ju(b:(O (O Ap)))(a:Dt)(c:Int):Prop:=(((!(eG a))=false->(Yr a=true/\((!decide ((Dc a)=2))=false->(Qj a (0:Int)/\((!(fY (nM a 0)))=false->(Qj a (0:Int)/\Vg (nM a 0) (eI c)))))))/\(((!(eG a))||((!decide ((Dc a)=2))||((!(fY (nM a 0)))||(!Fg (nM a 0) (eI c)))))=false->(((iD b)/\(Qj a (1:Int)/\EG (b.length:Int)))/\(bJ fuel b (dh b) (nM a 1) (rng 0 (b.length:Int).toNat)))))
theorem Nx(b:(O (O Ap)))(a:Dt)(c:Int):RP oM [Z ((zE (eT (eT (eT eS)))) b),Z (zE eD a),Z (zE eI c)] (λr=>As.rt (zE eB r)) (fZ b a c) (Z (ju b a c)):=R.tp (qR (FN (Mz (CZ (SJ eG (au 1 (zE eD) a S)))) (FN (cZ (Vf () (Ql (au 1 (zE eD) a S)) (B9 2))) (FN (Mz (CZ (B0 zX (eV (sI (au 1 (zE eD) a S) (B9 0)) cD)))) (cZ (Iq (sI (au 1 (zE eD) a S) (B9 0)) (Hh (au 2 (zE eI) c S))))))) (bY (fM (λr=>r) (sy (.bl false) eB false S) (λ_=>S) λ_=>S)) (cM (fM (λr=>r) (Bn () (B0 (iR fuel) (eV (au 0 (zE (eT (eT (eT eS)))) b S) (q9 (Mw (Ve (B0 sY (eV (au 0 (zE (eT (eT (eT eS)))) b S) cD)))) (eV (sI (au 1 (zE eD) a S) (B9 1)) (q9 (Mw (Ve (Re (sJ (au 0 (zE (eT (eT (eT eS)))) b S))))) cD))))) (Qh (au 2 (zE eI) c S))) (λ_=>S) λ_=>S)))
theorem zY:∀v bs,(aZ (eT (eT (eT eS))) (aZ eD (aZ eI aN))) v bs->bs.length=3/\(B6 (Z (ju v.1 v.2.1 v.2.2.1))->lG (bs.map lend)=Z ((zE eB) (fZ v.1 v.2.1 v.2.2.1))):=by
 rintro⟨b,a,c,_⟩ _ ⟨_,rfl,⟨_,rfl,⟨_,rfl,rfl⟩⟩⟩;exact⟨rfl,λh=>dJ (g:=oM) (n:=3) (bs:=[.z ((eT (eT (eT eS))) b),.z (eD a),.z (eI c)]) (Nx b a c) h⟩
def Ny(d:B7):Bool:=(let a:=(dM d 0);(let vn:=(cP a);(if(!(fZ a (xH (bT a)) (at' vn ((vn.length:Int)-1))))=true then false else(let b:=(((a.length:Int) / (2:Int))+1);(if(!(fZ (BF a Y3 (Z b)) (xH (bT (BF a Y3 (Z b)))) (at' (cP (BF a Y3 (Z b))) (((1:Int)*2 ^ b.toNat)-1))))=true then false else((a.map λc:(O Ap)=>(Fg (xH (bT [c])) (Dt.tup [(Dt.int 0),(Dt.tup [(Dt.str "told"),(Dt.int 0)])]))).all id))))))
def Nz(d:B7):Prop:=((jN d 0)/\(let a:=(dM d 0);((iQ a)/\(let vn:=(cP a);((((eZ a)/\In vn.length ((vn.length:Int)-1))/\(ju a (xH (bT a)) (at' vn ((vn.length:Int)-1))))/\((!(fZ a (xH (bT a)) (at' vn ((vn.length:Int)-1))))=false->(let b:=(((a.length:Int) / (2:Int))+1);((((eZ (BF a Y3 (Z b)))/\(((iQ (BF a Y3 (Z b)))/\Sh 1 b)/\In (cP (BF a Y3 (Z b))).length (((1:Int)*2 ^ b.toNat)-1)))/\(ju (BF a Y3 (Z b)) (xH (bT (BF a Y3 (Z b)))) (at' (cP (BF a Y3 (Z b))) (((1:Int)*2 ^ b.toNat)-1))))/\((!(fZ (BF a Y3 (Z b)) (xH (bT (BF a Y3 (Z b)))) (at' (cP (BF a Y3 (Z b))) (((1:Int)*2 ^ b.toNat)-1))))=false->(a.length<=100000/\(∀c∈a,((eZ [c])/\Vg (xH (bT [c])) (Dt.tup [(Dt.int 0),(Dt.tup [(Dt.str "told"),(Dt.int 0)])])))))))))))))
theorem OP(b:B7)(e:Lp jX (b.map eI)):RP Tg [Z jX,Y3,Y3,Y3] (λr=>As.rt (zE eB r)) (Ny b) (Z (Nz b)):=R.tp (cj 1 (B0 J2 (q9 (dI 0 eI b e S) (eV (B9 0) cD))) (λ_=>S) λa=>(cj 2 (B0 xX (eV (au 1 (zE (eT (eT (eT eS)))) a S) cD)) (λ_=>S) λvn=>(qR (Mz (CZ (B0 zY (eV (au 1 (zE (eT (eT (eT eS)))) a S) (eV (Hh (m5 (B0 qF (eV (au 1 (zE (eT (eT (eT eS)))) a S) cD)))) (eV (gF (fH (au 2 (lE eI) vn S)) (Sq (BO (fH (au 2 (lE eI) vn S))) (B9 1))) cD)))))) (bY (fM (λr=>r) (sy (.bl false) eB false S) (λ_=>S) λ_=>S)) (cM (cj 3 (jr (uc (sJ (au 1 (zE (eT (eT (eT eS)))) a S)) 2 ()) (B9 1)) (λ_=>S) λc=>(qR (Mz (CZ (B0 zY (eV (m5 (MF (au 1 (zE (eT (eT (eT eS)))) a S) wW (wX (au 3 (zE eI) c S)))) (eV (Hh (m5 (B0 qF (eV (m5 (MF (au 1 (zE (eT (eT (eT eS)))) a S) wW (wX (au 3 (zE eI) c S)))) cD)))) (eV (gF (jH (B0 xX (eV (m5 (MF (au 1 (zE (eT (eT (eT eS)))) a S) wW (wX (au 3 (zE eI) c S)))) cD))) (Sq (Tc (B9 1) (au 3 (zE eI) c S)) (B9 1))) cD)))))) (bY (fM (λr=>r) (sy (.bl false) eB false S) (λ_=>S) λ_=>S)) (cM (fM (λr=>r) (Ys (jH (vB (FP (au 1 (zE (eT (eT (eT eS)))) a S)) _ (λ_=>S) (λd:(O Ap)=>(Sx (Hh (B0 qF (eV (yR (bU (au 0 (zE (eT (eT eS))) d S) (d7 (eT (eT eS)))) (z4 S)) cD))) (Jx (bU (ER (.int 0)) (bU (Jx (bU (ER (.str "told")) (bU (ER (.int 0)) (d7 eD))) (z4 S)) (d7 eD))) (z4 S))))))) (λ_=>S) λ_=>S))))))))
theorem ML:∀v bs,(aL eI aN) v bs->bs.length=1/\(B6 (Z (Nz v.1))->F_law (bs.map lend)=Z ((zE eB) (Ny v.1))):=by
 rintro⟨b,_⟩ _ ⟨jX,_,rfl,a,rfl⟩;exact⟨rfl,λh=>dJ (g:=Tg) (n:=4) (bs:=[lend jX]) (OP b (lX a)) h⟩
theorem MX(h:∀ns:O Int,ns.length<=63->Nz ns/\Ny ns=true):(∀ns:O Int,ns.length<=63->F_law [.z (.lst (ns.map .int))]=Z (.z (.bl true)))/\∀ns:O Int,ns.length<=63->F_law [.l (ns.map .int)]=Z (.z (.bl true)):=
 ⟨λns a=>((ML (ns,cr) [.z (.lst (ns.map .int))] ⟨_,_,rfl,rfl,rfl⟩).2 (h ns a).1).trans (by rw[(h ns a).2]),λns a=>((ML (ns,cr) [.l (ns.map .int)] ⟨_,_,rfl,rfl,rfl⟩).2 (h ns a).1).trans (by rw[(h ns a).2])⟩
end
end G40
end
section
set_option synthInstance.maxSize 100000
namespace G40
open L2 P1 S1
abbrev lH:AB:=top 9
abbrev lJ:AB:=top 10
section
variable{Em zf Eo J7 afO ah3:A1}{zZ pQ z6 HF adl adn:FuncData}
theorem M3:bH ["numbers","answers","side"] ["numbers","answers","side"] (aO pO):=mC
theorem SC(F:Aw K "side_of" "side_of" pO Em zZ)(g:mg "tuple"=Y3):jx P w K mg base uH 1 Em zZ ["numbers","answers","side"] (Hm K):=by
 refine Aw.ok (k:=0) F M3 (λvs H Q E h=>by obtain⟨_,_,_,_,_,rfl,_⟩:=h;rfl) λI A outer s H vs Q E m h=>?_;have G:=M3.nd;have p:=tU m;obtain⟨ns,bs,c,b,u,rfl,y,C,L,D,q⟩:=h;refine⟨_,(by exact(nQ (uU (yw uG S g jG (bD (QV.run (f9 ["number"] (lB ["side","answers"] [2,1]) S (dX (aj 0)) (λ_ _ _ _=>(ce 2)) (λ_ _ _ _=>(gj (bW (of_eq p) (bG (aj 1) (aj 2)) (aj 0) (bV _)))) (λ_ _ _ _=>(aj 2)) (bR))) fQ))))),?_⟩;have E:aY K H H (L2.start ["numbers","answers","side"] [.ref b,u,.bl c]) [Z (.z (eT eI ns)),Z (.z (eL eB bs)),Z (.z (.bl c))]:=Hx S λi x e=>by
  match i,e with
  |0,e=>cases e;exact⟨rfl,_,rfl,JZ y⟩
  |1,e=>cases e;exact⟨rfl,_,rfl,C⟩
  |2,e=>cases e;exact⟨rfl,_,rfl,by simp only[aX,AY]⟩
 refine⟨H,_,_,E,(nY (FP (au 0 (zE (eT eI)) ns S)) _ (λ_=>S) (λf:Int=>(cZ (Bn () (gF (Mw (au 1 (zE (eL eB)) bs S)) (au 2 (zE eI) f S)) (au 0 (zE eB) c S)))) (λf:Int=>(au 2 (zE eI) f S))).ok ⟨show ns.length<=100000 by omega,D⟩,λv H1 o J j=>?_⟩;obtain⟨a,us,rfl,n,d⟩:=j;refine⟨a,us,rfl,.inl ⟨.inl (.inl n),λl B=>q l _ (o.trans (bf B)) ?_⟩⟩;have d:aG K H1 (((bC ns bs c).map λv:Int=>v).map eI) us:=d;rw[kn]at d;rw[aJ,Zd d]
theorem MH:bH ["numbers","pair","asked","known","ask","answers","yes_depth","yes","no_depth","no"] ["numbers","pair","asked","known"] (aO lJ):=mC
theorem J8{d1 d2:Dt}(h:AY K H (.tup [d1,d2]) v):∃a d c,v=.ref a/\vU K H a [d,c]/\AY K H d1 d/\AY K H d2 c:=by
 rw[AY]at h;obtain⟨a,vs,rfl,sq,b⟩:=h;rw[aG]at b;obtain⟨d,r,rfl,h1,b⟩:=b;rw[aG]at b;obtain⟨c,e,rfl,h2,b⟩:=b;rw[aG]at b;subst b;exact⟨a,d,c,rfl,sq,h1,h2⟩
theorem Tn{n:Int}(h:AY K H (.int n) v):v=.int n:=by rwa [AY]at h
theorem Y2{k:Nat}(F:Aw K "plan_with" "plan_with" lJ Eo z6)(hm:m<=9)(hk:1<=k)(I:jx P w K mg base uH 1 Em zZ ["numbers","answers","side"] (Hm K))(C:mg "side_of"=Z (.ref Em))(QS:keepIn K (.ref Em)=true)(U:BE K zZ ["numbers","answers","side"] [])(a3:jx P w K mg base uH k zf pQ ["numbers","asked","known"] (Fc K as m))(D:mg "least_for"=Z (.ref zf))(W:keepIn K (.ref zf)=true)(J:BE K pQ ["numbers","asked","known"] [])(sZ:mg "max"=Y3):
  jx P w K mg base uH (k+1) Eo z6 ["numbers","pair","asked","known"] (Ic K as m):=by
 refine Aw.ok (k:=k) F MH (λvs H Q E h=>by obtain⟨_,_,_,_,_,_,_,rfl,_⟩:=h;rfl) λd6 A outer s H vs Q E f h=>?_;have a:=MH.nd;have hu:=tU f;obtain⟨ns,q,b,ka,e0,g,AO,rfl,v,rp,G,c,tb,p,L,o1,o2,b3⟩:=h;have B:ns.length<=1000:=zv p.length_le (by rw[show(rng 0 8).length=8 from by simp[rng]];decide);refine⟨_,(by exact(jA (Ik (pv 1) (Ij S (mV (L2.jB (i:=4) a S (.inl S)) (mV (L2.jB (i:=5) a S (.inl S)) Ar))))
  (jA (Ik (pW a3 (f.mono ()) S D W J .nil BL (bD (pW I (f.mono hk) S C QS U .nil BL (bD (pv 0) (bD (pv 5) (bD Wa fQ)))) (bD (pv 2) (bD (pv 3) fQ)))) (Ij S (mV (L2.jB (i:=6) a S (.inl S)) (mV (L2.jB (i:=7) a S (.inl S)) Ar))))
  (jA (Ik (pW a3 (f.mono ()) S D W J .nil BL (bD (pW I (f.mono hk) S C QS U .nil BL (bD (pv 0) (bD (pv 5) (bD Wa fQ)))) (bD (pv 2) (bD (pv 3) fQ)))) (Ij S (mV (L2.jB (i:=8) a S (.inl S)) (mV (L2.jB (i:=9) a S (.inl S)) Ar))))
  (nQ (uU (QV.run (jC (ao (aU dF aD (aV (Jl S) S sZ Jh (ao (aj 6) (ao (aj 8) aC)))) (ao (jC (ao o8 (ao (aj 4) (ao (aj 7) (ao (aj 9) aC))))) aC)))))))))),?_⟩
 obtain⟨p0,wa,j,rfl,sq,ra,y⟩:=J8 (d1:=eT eS q.1) (d2:=eL eB q.2) rp;refine⟨_,rfl,p0,_,rfl,sq,rfl,_,_,rfl,_,_,rfl,rfl,?_⟩;refine⟨.ref b,rfl,j,rfl,ns,q.2,true,b,j,rfl,v,y,B,L,λp1 H1 o b4=>?_⟩;have k1:Kp H H1:=.of o;have c1:Hw ka H H1:=.same o;refine⟨g,rfl,.ref ka,rfl,bC ns q.2 true,p1,ka,g,AO,rfl,b4,G.ch c1 c,o _ _ c,tb.kp k1,da.trans p,o1,λv2 H2 c0 c2 N d5 r2=>?_⟩;have n:=c1.trans c2;have k2:Kp H H2:=n.kp c;obtain⟨p2,y1,y2,rfl,Ab,b6,d0⟩:=J8 r2;refine⟨p2,_,rfl,Ab,rfl,_,_,rfl,_,_,rfl,rfl,?_⟩;have a4:H2 b=Z (.tup (ns.map V.int)):=n _ _ (d9 v c (by intro z;cases z)) v;refine⟨.ref b,rfl,j,rfl,ns,q.2,false,b,j,rfl,a4,y.kp k2,B,L,λp3 H3 l a6=>?_⟩;have c3:Hw ka H H3:=n.trans (.same l);have c5:=l _ _ N;refine⟨g,rfl,.ref ka,rfl,bC ns q.2 false,p3,ka,g,c0,rfl,a6,G.ch c3 c,c5,d5.kp (.of l),da.trans p,o2,λv4 d a5 c4 d3 b0 r4=>?_⟩;have M:Hw ka H2 d:=(Hw.same l).trans c4;have a7:Kp H2 d:=M.kp N;have X:=n.trans M;obtain⟨p4,n1,n2,rfl,d4,b5,c8⟩:=J8 r4;refine⟨p4,_,rfl,d4,rfl,_,_,rfl,_,_,rfl,rfl,?_⟩;obtain rfl:=Tn b6;obtain rfl:=Tn b5;have E:aY K d d _ [Y3,Y3,Y3,Y3,Z (.z (eT eS q.1)),Y3,Z (.z (.int (Lq as (bC ns q.2 true)).1)),Z (.z (Lq as (bC ns q.2 true)).2),Z (.z (.int (Lq as (bC ns q.2 false)).1)),Z (.z (Lq as (bC ns q.2 false)).2)]:=Hx (σ:=[Z (.ref b),Z (.ref p0),Z g,Z (.ref ka),Z wa,Z j,Z (.int (Lq as (bC ns q.2 true)).1),Z y2,Z (.int (Lq as (bC ns q.2 false)).1),Z n2]) S λi x e=>by
  match i,e with
  |4,e=>cases e;exact⟨rfl,_,rfl,ra.kp (X.kp c)⟩
  |6,e=>cases e;exact⟨rfl,_,rfl,by simp only[aX,AY]⟩
  |7,e=>cases e;exact⟨rfl,_,rfl,d0.kp a7⟩
  |8,e=>cases e;exact⟨rfl,_,rfl,by simp only[aX,AY]⟩
  |9,e=>cases e;exact⟨rfl,_,rfl,c8⟩
 refine⟨d,_,.z (pD (Qz (Lq as (bC ns q.2 true)) (Lq as (bC ns q.2 false)) q.1)),E,rfl,λv5 H5 u n5 r5=>b3 v5 H5 a5 (X.trans (.same u)) (u _ _ d3) (b0.kp (.of u)) r5⟩
theorem PM(ns:O Int)(bs:O Bool):jQ ns bs=dG ns bs:=by
 have e:mR ns bs true=bC ns bs true:=kn _;unfold jQ dG;rw[e];exact congr (congrArg _ (decide_eq_decide.mpr ())) (decide_eq_decide.mpr ())
def aS:Ev->Y Bool:=tV (cX 2 gk (aA (gv 0) (aA (b2 iw (gv 3) (cB (.int 1))) aK)))
theorem N0:bH ["numbers","asked","known","plans"] ["numbers","asked","known"] (aO lH):=mC
theorem QW{b:A1}(h:H b=Z (.tup (ns.map V.int))):H b=Z (.tup ((qj ns).map kV)):=by rw[OQ];exact h
theorem WA{ps:O (Int×Dt)}(h:ps≠[]){H0:Hp}:HI EZ DC (gv 3) Fu [] [Y3,Y3,Y3,Z (.l (ps.map pD))]=Z (.z (pD (Qy ps))):=by
 show(BN DC (λd=>Fu (Z (.z d)::[])) (ps.map pD)).bind _=_;rw[Nq];cases ps with
 |nil=>exact absurd S h
 |cons p r=>exact congrArg (λd=>Z (Bx.z d)) (J0 p r)
theorem Pe{k:Nat}(F:Aw K "least_for" "least_for" lH zf pQ)(hq:Vl K pQ "least_for.<locals>.<lambda>"=true)(f7:as.length<=1000)(hm:m+1<=9)(hk:2<=k)(Vy:jx P w K mg base uH 2 J7 HF ["numbers","answers"] (Pb K 2 gk))(Vz:mg "parts_them"=Z (.ref J7))(VB:keepIn K (.ref J7)=true)(VD:BE K HF ["numbers","answers"] [])(d3:jx P w K mg base uH k Eo z6 ["numbers","pair","asked","known"] (Ic K as m))(VF:mg "plan_with"=Z (.ref Eo))(VG:keepIn K (.ref Eo)=true)(VH:BE K z6 ["numbers","pair","asked","known"] [])(fO:mg "len"=Y3)(yg:mg "min"=Y3):
  jx P w K mg base uH (k+1) zf pQ ["numbers","asked","known"] (Fc K as (m+1)):=by
 obtain⟨c_,f6,hc,hK⟩:=Y1 hq;refine Aw.Nk (k:=k) F hc N0 (λvs H Q E h=>by obtain⟨_,_,_,_,_,rfl,_⟩:=h;rfl) λA outer s H vs Q E I h=>?_;have nd:=N0.nd;have hu:=tU I;have a6:=bb I;obtain⟨ns,b,ka,av,AO,rfl,hb,lr,c0,tb,hs,ok,b6⟩:=h;refine⟨_,(by exact(jA (Rm (QB.run (bW (of_eq hu) (aV fG S fO fD (ao (aj 0) aC)) aD (bV _))) (nQ (uU (QV.run (jC (ao aD (ao (jC (ao o8 (ao (bG (aj 0) aD) aC))) aC)))))) Aq)
  (jA (Rm (cS (Ud a6 (pv 0) (pv 2))) (jA (Y6 (tc:=WL K aS) 3 ["pair"] (lB ["numbers","asked","known"] [0,1,2]) S nd (OV (pv 1)) (λ_ _ _ _=>(L2.jB (i:=3) (by show List.Nodup (_++_);decide +kernel) S (.inl S))) (λ_ _ _ _=>.inr ⟨_,rfl,(aI (mY (p7 Vy (I.mono hk) S Vz VB VD (ao (aj 0) (ao (bG (aj 3) aD) aC)))))⟩)
   (λ_ _ _ _=>pW d3 I S VF VG VH .nil BL (bD (pv 0) (bD (pv 3) (bD (pv 1) (bD (pv 2) fQ))))))
   (nQ (Ry a6 (pv 2) (pv 0) (QV.run (Y4 OX (x :="plan") (xs:=[]) (is:=[]) (cl:=[]) S I.depth W1 S yg Xg (WC S S S S S S trivial S trivial) hK S S S (λ_ _ _ _=>S) (aj 3) λf' c' s' H'=>(bG (aj 0) aD))) S))) Aq)
  (nQ (uU (Rx a6 (pv 2) (pv 0) (by intro _ _;with_unfolding_all rfl))))))),?_⟩
 have nl:ns.length<=8:=hs.length_le;have E0:aY K H H (L2.start ["numbers","asked","known","plans"] [.ref b,av,.ref ka]) [Z (.z (eT eI ns)),Y3,Y3,Y3]:=Hx S λi x e=>by
  match i,e with
  |0,e=>cases e;exact⟨rfl,_,rfl,JZ hb⟩
  |1,e=>cases e
  |2,e=>cases e
  |3,e=>cases e
 refine⟨H,_,decide ((ns.length:Int)=1),E0,(cZ (Bn () (sJ (au 0 (zE (eT eI)) ns S)) (B9 1))).ok trivial,λH1 G=>?_⟩;have k1:Kp H H1:=.of G;have C:=G _ _ hb;have g:=G _ _ c0;have a5:=tb.kp k1;have e8:=lr.ch (.same G) c0;have d2:∀(H2:Hp) (J:O (O An×V)) (σ:L2.St),σ[0]?=Z (Z (.ref b))->σ[2]?=Z (Z (.ref ka))->Hw ka H1 H2->H2 ka=Z (.dT J)->JX K as H2 J->(lq J (qj ns)).isSome=true->LJ (MD (TX 2) (TX 0)) { nx:=λ_ H'=>Q .non H',rt:=Q } σ H2:=λH2 J σ e0 e2 c2 Zj d0 sm=>by
  obtain⟨v,U⟩:=dj.mp sm;have e3:H2 b=Z (.tup (ns.map V.int)):=c2 _ _ (d9 C g (by intro z;cases z)) C;refine⟨.ref ka,e2,.ref b,e0,ka,v,rfl,?_,b6 v H2 J ((Hw.same G).trans c2) Zj d0 (d0.get U)⟩;rw[<-U];exact Iz.t Zj (QW e3)
 by_cases X:ns.length=1
 ·dsimp only;rw[zo (ZI (show(ns.length:Int)=1 by omega))];refine⟨H,_,_,E0.grow G,(Yi (B9 0) (Jx (bU (ER (.str "told")) (bU (Hh (Yk (au (ρ:=[Z (.z (eT eI ns)),Y3,Y3,Y3]) 0 (zE (eT eI)) ns S) (B9 0))) (d7 eD))) (z4 S))).ok (show In ns.length 0 from⟨by omega,by omega⟩),λv H2 s2 n2 r2=>?_⟩;refine b6 v H2 AO (.same (G.trans s2)) (s2 _ _ g) (a5.kp (.of s2)) ?_;rw[DK X];exact r2
 ·dsimp only;rw[zS (by simpa using λz:(ns.length:Int)=1=>X ())];obtain⟨b3,f4|⟨_,⟨q0,q1,q2⟩,d6⟩⟩:=id ok
  ·exact absurd f4 X
  refine⟨.ref b,rfl,.ref ka,rfl,ka,_,rfl,Iz.t g (QW C),_,rfl,?_⟩;cases U:lq AO (qj ns)with
  |some v0=>
   rw[zS (by simp)];exact d2 H1 AO _ S S (.same (AX.refl _)) g a5 (by rw[U];rfl)
  |none=>
   rw[zo (by rfl)];obtain⟨a,us,rfl,f,a4⟩:=e8;have e7:=a4.length;rw[zk]at e7;have a3:a≠ka:=λz=>by
    subst z;rcases f with f|⟨o,f⟩<;>(rw[g]at f;cases f)
   have N:∀{H2:Hp},Hw ka H1 H2->nG K H2 a us:=λ{H2} c=>.inl (by
    rcases f with f|⟨o,f⟩
    ·exact .inl (c _ _ a3 f)
    ·exact .inr ⟨o,c _ _ a3 f⟩)
   let rs:AQ->Int×Dt:=λq=>Qz (Lq as (bC ns q.2 true)) (Lq as (bC ns q.2 false)) q.1
   refine⟨.ref a,rfl,a,rfl,⟨us,N (.same (AX.refl _))⟩,as.length,λD i σ' H'=>σ'.length=4/\σ'[0]?=Z (Z (.ref b))/\σ'[1]?=Z (Z (.ref a))/\σ'[2]?=Z (Z (.ref ka))/\∃B xs,Hw ka H1 H'/\H' ka=Z (.dT B)/\JX K as H' B/\H' D=Z (.lst xs)/\aG K H' ((((as.take i).filter λq=>dG ns q.2).map rs).map pD) xs,
    λD y=>⟨rfl,rfl,rfl,rfl,AO,[],.same (bf y),by rw[aF (bQ g y)];exact g,a5.kp (.of (bf y)),aJ,aG.nil⟩,λD i σ' H' y hi ⟨l4,e0,e1,e2,B,xs,c1,hk',tb',hD',rx⟩=>?_,λD σ' H' ⟨_,_,_,_,B,xs,c1,_⟩=>⟨us,N c1,by omega⟩,λD σ' H' y ⟨_,_,_,_,B,xs,c1,hk',tb',hD',rx⟩=>?_⟩
   ·have eq:as[i]?=Z as[i]:=ZH hi;have eu:us[i]?=Z us[i]:=ZH ();refine⟨⟨us,us[i],N c1,eu⟩,λx H2 hy=>?_⟩;obtain⟨rfl,hy⟩:=hy;have hx:=hy us (N c1);rw[eu]at hx;cases hx;have e4:AY K H1 (V6 as[i]) us[i]:=by
     obtain⟨u,z1,z2⟩:=a4.get (i:=i) (d:=V6 as[i]) (by rw[z5,eq];rfl);rw[eu]at z1;cases z1;exact z2
    have c5:=e4.kp (c1.kp g);have mq:as[i]∈as:=kc hi;have M:H2 b=Z (.tup (ns.map V.int)):=c1 _ _ (d9 C g (by intro z;cases z)) C;have f0:(σ'.set 3 (Z us[i]))[0]?=Z (Z (.ref b)):=by rw[k6 ()];exact e0
    have f1:(σ'.set 3 (Z us[i]))[1]?=Z (Z (.ref a)):=by rw[k6 ()];exact e1
    have f2:(σ'.set 3 (Z us[i]))[2]?=Z (Z (.ref ka)):=by rw[k6 ()];exact e2
    have f3:(σ'.set 3 (Z us[i]))[3]?=Z (Z us[i]):=dC ();have fl:(σ'.set 3 (Z us[i])).length=4:=by rw[QE];exact l4
    have E:aY K H2 H2 (σ'.set 3 (Z us[i])) [Z (.z (eT eI ns)),Y3,Y3,Z (.z (Vs as[i]))]:=Hx fl λj x e=>by
     match j,e with
     |0,e=>cases e;exact⟨rfl,_,f0,JZ M⟩
     |1,e=>cases e
     |2,e=>cases e
     |3,e=>cases e;exact⟨rfl,_,f3,c5⟩
    have dd:qD ns as[i].2:=⟨⟨by omega,b3 _ mq⟩,λ_=>⟨by omega,b3 _ mq⟩⟩;have ep:=(CZ (B0 J6 (eV (au (ρ:=[Z (.z (eT eI ns)),Y3,Y3,Z (.z (Vs as[i]))]) 0 (zE (eT eI)) ns S) (q9 (Mw (X9 (au 3 (zE Vs) as[i] S) (λq=>q.2) (eL eB) 1 λ_=>S)) cD)))).ok dd;have et:(as.take (i+1)).filter (λq=>dG ns q.2)=(as.take i).filter (λq=>dG ns q.2)++(if dG ns as[i].2=true then[as[i]]else[]):=by
     rw[dQ hi,iA,kz];split<;>rfl
    refine⟨H2,_,_,E,ep,λH3 p=>?_⟩;show(if jQ ns as[i].2=true then _ else _);rw[PM];have L:Hw ka H1 H3:=c1.trans (.same p);have b4:=p _ _ hk';have c8:=tb'.kp (.of p);cases hp:dG ns as[i].2 with
    |false=>
     rw[zS zC];refine⟨fl,f0,f1,f2,B,xs,L,b4,c8,p _ _ hD',?_⟩;rw[et,hp,zS zC,kD];exact rx.kp (.of p)
    |true=>
     rw[zo rfl];obtain⟨o1,o2⟩:=d6 _ mq hp;refine⟨.ref b,f0,us[i],f3,.ref a,f1,.ref ka,f2,ns,as[i],b,ka,us[i],.ref a,B,rfl,p _ _ M,c5.kp (.of p),⟨a,us,rfl,?_,a4.kp (L.kp g)⟩,b4,c8,hs,b3 _ mq,o1,o2,λv W f5 c4 d4 e5 r4=>?_⟩
     ·rcases f with f|⟨o,f⟩
      ·exact .inl (L _ _ a3 f)
      ·exact .inr ⟨o,L _ _ a3 f⟩
     ·have Dk:D≠ka:=λz=>by rw[z,g]at y;cases y
      have b5:W D=Z (.lst xs):=c4 _ _ Dk (p _ _ hD');have e6:Kp H3 W:=c4.kp b4;have a7:Kp W (B1 W D (.lst (xs++[v]))):=.lst b5;have xl:xs.length<=as.length:=by
       have:=rx.length;rw[zk,zk]at this;have:=eh (λq:AQ=>dG ns q.2) (as.take i);rw[jn]at this;omega
      refine⟨xs,b5,QA (show xs.length<=1000 by omega) (),fl,f0,f1,f2,f5,xs++[v],(λc o n e=>?_),by rw[aF Dk.symm];exact d4,e5.kp a7,aJ,?_⟩
      ·rw[aF (λz=>by rw[z,y]at e;cases e)];exact c4 _ _ n (L _ _ n e)
      ·rw[et,hp,zo rfl,ZE,ZE];exact((rx.kp (.of p)).kp e6).kp a7 |>.append (aG.cons (r4.kp a7) aG.nil)
   ·rw[kG]at rx;have e9:(as.filter λq=>dG ns q.2).map rs≠[]:=λz=>by
     have:=ic.mp z;exact absurd (df.mpr ⟨q1,q2⟩) (by rw[this];exact qv)
    have M:H' b=Z (.tup (ns.map V.int)):=c1 _ _ (d9 C g (by intro z;cases z)) C;have E:aY K H' H' [Z (.ref b),Z (.ref a),Z (.ref ka),Z (.ref D)] [Y3,Y3,Y3,Z (.l (((as.filter λq=>dG ns q.2).map rs).map pD))]:=Hx S λj x e=>by
     match j,e with
     |0,e=>cases e
     |1,e=>cases e
     |2,e=>cases e
     |3,e=>cases e;exact⟨rfl,_,rfl,D,xs,rfl,.inl hD',rx⟩
    refine⟨H',_,_,E,WA e9 (H0:=H'),λv H5 s5 n5 r5=>?_⟩;have b0:=s5 _ _ hk';have d1:=tb'.kp (.of s5);have l5:=d1.len;have r5:AY K H5 (pD (Lq as ns)) v:=by rw[JW ok hm X];exact r5
    have d5:Kp H5 (B1 H5 ka (.dT (BH B (qj ns) v))):=⟨λc xs e=>by rw[aF (d9 e b0 (by intro z;cases z))];exact e,λc o u e=>by rw[aF (d9 e b0 (by intro z;cases z))];exact e⟩;refine⟨.ref ka,rfl,.ref b,rfl,ka,_,rfl,K1.t b0 (QW (s5 _ _ M)) (QA l5 ()),?_⟩;exact d2 _ _ _ S S (λc o n e=>by rw[aF n];exact s5 _ _ (c1 c o n e)) aJ ((d1.put hs r5).kp d5) (Zc _ _ _)
theorem UX{k:Nat}:jx P w K mg base uH k zf pQ ["numbers","asked","known"] (Fc K as 0):=
 ⟨λvs H Q E h=>by obtain⟨_,_,_,_,_,rfl,_⟩:=h;rfl,λA outer s H a us vs Q E _ _ _ _ h=>by obtain⟨_,_,_,_,_,_,_,_,_,_,_,h,_⟩:=h;exact h.elim⟩
theorem Zk{as:O AQ}(f:Aw K "least_for" "least_for" lH zf pQ)(j:Vl K pQ "least_for.<locals>.<lambda>"=true)(e:Aw K "plan_with" "plan_with" lJ Eo z6)(a:as.length<=1000)
  (h:jx P w K mg base uH 1 Em zZ ["numbers","answers","side"] (Hm K)) (d:mg "side_of"=Z (.ref Em)) (s:keepIn K (.ref Em)=true) (l:BE K zZ ["numbers","answers","side"] [])
  (b:jx P w K mg base uH 2 J7 HF ["numbers","answers"] (Pb K 2 gk)) (c:mg "parts_them"=Z (.ref J7)) (z:keepIn K (.ref J7)=true) (u:BE K HF ["numbers","answers"] [])
  (g:mg "least_for"=Z (.ref zf)) (o:keepIn K (.ref zf)=true) (i:BE K pQ ["numbers","asked","known"] []) (x:mg "plan_with"=Z (.ref Eo)) (p:keepIn K (.ref Eo)=true) (y:BE K z6 ["numbers","pair","asked","known"] []) (q:mg "len"=Y3) (v:mg "min"=Y3) (n:mg "max"=Y3):
  ∀m,m<=9->jx P w K mg base uH (3+2*m) zf pQ ["numbers","asked","known"] (Fc K as m)
 |0,_=>UX
 |m+1,hm=>by
  have A:=Zk f j e a h d s l b c z u g o i x p y q v n m ();have pw:=Y2 (k:=3+2*m) e () () h d s l A g o i n;exact Pe (k:=3+2*m+1) f j a hm () b c z u pw x p y q v
theorem WU{n:Int}(h:n<=8):(rng 0 n.toNat).Sublist (rng 0 8):=by
 unfold rng;refine List.Sublist.map _ ?_;have:=fE n.toNat (cw 8);rwa [List.take_range,gS ()]at this
theorem Zm(n:Nat):(rng 0 n).map V.int=(cw n).map λk:Nat=>V.int (k:Int):=by
 unfold rng;rw[ZY];exact ZT λk _=>congrArg V.int (by show(0:Int)+(k:Int)=(k:Int);omega)
theorem IU:bH ["worlds"] ["worlds"] (aO qm):=mC
theorem X2(F:Aw K "least_plan" "least_plan" qm ah3 adn)(a4:Aw K "least_for" "least_for" lH zf pQ)(hq:Vl K pQ "least_for.<locals>.<lambda>"=true)(a3:Aw K "plan_with" "plan_with" lJ Eo z6)
  (a5:Aw K "side_of" "side_of" pO Em zZ) (X:mg "side_of"=Z (.ref Em)) (QS:keepIn K (.ref Em)=true) (QT:BE K zZ ["numbers","answers","side"] [])
  (N:jx P w K mg base uH 2 J7 HF ["numbers","answers"] (Pb K 2 gk)) (U:mg "parts_them"=Z (.ref J7)) (VB:keepIn K (.ref J7)=true) (VD:BE K HF ["numbers","answers"] [])
  (C:mg "least_for"=Z (.ref zf)) (G:keepIn K (.ref zf)=true) (D:BE K pQ ["numbers","asked","known"] []) (VF:mg "plan_with"=Z (.ref Eo)) (VG:keepIn K (.ref Eo)=true) (VH:BE K z6 ["numbers","pair","asked","known"] [])
  (b5:jx P w K mg base uH 4 afO adl ["worlds"] (Pb K 1 jm)) (b3:mg "answered"=Z (.ref afO)) (a6:keepIn K (.ref afO)=true) (b4:BE K adl ["worlds"] []) (I:mg "len"=Y3) (yg:mg "min"=Y3) (sZ:mg "max"=Y3) (B:mg "tuple"=Y3) (fP:mg "range"=Y3):
  jx P w K mg base uH 22 ah3 adn ["worlds"] (Pb K 1 eX):=by
 refine Aw.ok (k:=21) F IU (λvs H Q E h=>h.1) λc8 A outer s H vs Q E f h=>?_;have nd:=IU.nd;have hu:=tU f;obtain⟨hl,bs,r,M,no,e,q⟩:=h;unfold eX at e;split at e;rotate_left
 ·cases e
 rename_i d;obtain⟨l,el,e⟩:=AV e;obtain⟨r1,er,e⟩:=AV e;unfold Gc at e;split at e;rotate_left
 ·cases e
 rename_i n ds c3;obtain⟨as,ea,e⟩:=AV e;split at e;rotate_left
 ·cases e
 rename_i b0;obtain⟨n0,n8,L,ok⟩:=b0;cases e;have a7:=Ze ea;subst a7;cases M with
 |cons rv rr=>
  cases rr;rename_i v;have b6:=Zk (as:=as) a4 hq a3 L (SC a5 B) X QS QT N U VB VD C G D VF VG VH I yg sZ 9 (zi _);refine⟨_,(by exact(nQ (uU (pW b6 f S C G D .nil BL (bD (Y9 (Vm S) S B jG S fP (aV fG S I fD (ao (aj 0) aC))) (bD (QV.run (p7 b5 (f.mono ()) S b3 a6 b4 (ao (aj 0) aC))) (bD Wx fQ))))))),?_⟩;have E:aY K H H (L2.start ["worlds"] [v]) [Z (.z d)]:=Hx S λi x e=>by
   match i,e with
   |0,e=>cases e;exact⟨rfl,_,rfl,rv⟩
  refine⟨H,_,n,E,el,λH1 r' s1 J=>⟨r',n,rfl,J,⟨by omega,by omega⟩,λp hp=>?_⟩⟩;have y:=s1.trans (bf (o:=.tup ((cw n.toNat).map λk:Nat=>V.int (k:Int))) hp);refine⟨H,_,_,E.grow y,er,λv3 H3 u n3 r3=>?_⟩;obtain⟨a,us,rfl,g,W⟩:=r3;intro ka j;have d0:a≠ka:=λz=>by rw[z,j]at g;cases g
  have b:=bf (o:=.dT []) j;refine⟨rng 0 n.toNat,p,ka,.ref a,[],rfl,b _ _ (u _ _ (by rw[Zm];exact aJ)),⟨a,us,rfl,.inl (b _ _ g),W.kp (.of b)⟩,aJ,JX.nil,WU n8,ok,λv5 H5 c4 c5 d1 c0 r5=>?_⟩;refine q v5 H5 (λc o m=>c5 c o (λz=>?_) (b _ _ (u _ _ (y _ _ m)))) trivial r5;rw[z]at m;have:=u _ _ (y _ _ m);rw[j]at this;cases this
end
end G40
end
section
set_option synthInstance.maxSize 100000
namespace G40
open L2 P1
set_option genInjectivity false
set_option genSizeOf false
structure T (K:B5) (mg:Str->Option Value) where
 Zn:DQ K mg "least_for" lH ["numbers","asked","known"]
 ach:DQ K mg "plan_with" lJ ["numbers","pair","asked","known"]
 afP:Vl K Zn.fd "least_for.<locals>.<lambda>"=true
 nC:DQ K mg "_law_cell" DW ["_law_script","_law_k"]
 jf:DQ K mg "_law_numbers" uM ["_law_cell_here","_law_many"]
 lK:DQ K mg "_law_names" zT ["_law_xs","_law_many"]
 gY:DQ K mg "_law_hard_worlds" ou ["_law_xs","_law_names_here"]
 kZ:DQ K mg "_law_joining" uN ["_law_names_here","_law_xs"]
 mK:DQ K mg "_law_worlds" xJ ["_law_script","_law_at"]
 fV:DQ K mg "_law_all_asks" sW ["_law_worlds_here"]
 fJ:DQ K mg "_law_says" DX ["_law_world","_law_ask"]
 jR:DQ K mg "_law_depths" xK ["_law_worlds_here"]
 qG:DQ K mg "names_in" DY ["sets"]
 qH:DQ K mg "names_of" Ea ["worlds"]
 ux:DQ K mg "asks_of" HB ["worlds"]
 yh:DQ K mg "answer" Nt ["world","ask"]
 kE:DQ K mg "answered" Eb ["worlds"]
 jw:DQ K mg "side_of" pO ["numbers","answers","side"]
 iT:DQ K mg "parts_them" xM ["numbers","answers"]
 iU:DQ K mg "least_plan" qm ["worlds"]
 dO:DQ K mg "_law_whole" zU ["_law_thing"]
 bB:DQ K mg "_law_plan_depth" pP ["_law_worlds_here","_law_asks","_law_plan","_law_left"]
 lM:DQ K mg "_law_right" zV ["_law_worlds_here","_law_told","_law_depth"]
 x_law:DQ K mg "law" s_law ["_law_script"]
 aic:mg "abs"=none
 Zo:mg "all"=none
 adu:mg "any"=none
 afQ:mg "bool"=none
 NT:mg "enumerate"=none
 adv:mg "int"=none
 mL:mg "isinstance"=none
 fO:mg "len"=none
 afR:mg "list"=none
 sZ:mg "max"=none
 yg:mg "min"=none
 fP:mg "range"=none
 lN:mg "sorted"=none
 aie:mg "sum"=none
 gW:mg "tuple"=none
section
variable(t:T K mg)
theorem NZ:bH ["_law_script","_law_k","_law_state","_law_cell_here"] ["_law_script","_law_k"] (aO DW):=mC
theorem N5:Ok P w base t.nC 1 2 m9:=JL (g:=qp) t.nC NZ λ_ _ _ _ _ _ b c a=>(aB (jD (bW Ji (aj 1) (aV fG S t.fO fD (ao (aj 0) aC)) (bV _)) (aB (cR (bG (aj 0) (aj 1))) aR) aR) (aB (bM 2 a (aU cY (aU rT aD (aU dF (aU dF (aU rT (aj 1) (aj 1)) (aU rT aD (aj 1))) aD)) aD)) (aB (uY PassesOwn.never S (Ba (nU (aj 0) eN (eU aD))) (bw 3 a) (bI [3] (aB (bM 2 a (aU cY (aU dF (aU rT (aj 2) aD) (aj 3)) aD)) aR))) (aB (cR (aj 2)) aR))))
theorem Ep:bH ["_law_cell_here","_law_many","_law_found","_law_state","_law_digits","_law_k"] ["_law_cell_here","_law_many"] (aO uM):=mC
theorem Er:Ok P w base t.jf 1 2 jd:=JL (g:=kJ) t.jf Ep λ_ _ _ _ _ _ b c a=>(aB (bM 2 a (lQ aC)) (aB (bM 3 a (aU cY (aU rT (aU dF (aU cY (aj 0) aD) aD) aD) aD)) (aB (bM 4 a aD) (aB (jD (Fo (oW (bW Ji (aj 0) aD (bV _)) (pY (bW cb (aj 0) (aU XX aD aD) (bV _))))) (bI [] (aB (bM 4 a (aV Pi S t.aic YR (ao (aj 0) aC))) aR)) (bI [] aR)) (aB (uY PassesOwn.never S (ig S t.fP (ao (aj 1) aC)) (bw 5 a) (bI [5] (aB (bM 3 a (aU cY (aU dF (aU dF (aU rT (aj 3) (aU dF (aU cY (aj 3) aD) aD)) (aU rT aD (aj 5))) aD) aD)) (aB (yG 2 (bG (lQ (ao (aj 3) (ao (aU cY (aj 4) aD) aC))) (jZ OU S t.adv Xe (ao (yC RN (aj 4) aD (bV _)) aC)))) (aB (bM 4 a (aU nT (aj 4) aD)) aR))))) (aB (Az 2) aR))))))
theorem J9:bH ["_law_xs","_law_many","_law_letters","_law_stem","_law_at","_law_found","_law_k","_law_mark","_law_name"] ["_law_xs","_law_many"] (aO zT):=mC
theorem Ka:Ok P w base t.lK 1 2 lD:=JL (g:=oA) t.lK J9 λ_ _ _ _ _ _ c b a=>(aB (bM 2 a o8) (aB (bM 3 a (RO (f9 ["_law_k"] (lB ["_law_letters","_law_xs"] [2,0]) S (Cj (ig S t.fP (ao (aU cY (bG (aj 0) aD) aD) aC))) (λ_ _ _ _=>(ce 2)) (λ_ _ _ _=>bK) (λ_ _ _ _=>(bG (aj 0) (aU cY (aU nT (bG (aj 1) (aj 2)) aD) aD))) (bR)))) (aB (bM 4 a (aU cY (bG (aj 0) aD) (aU dF (aV fG S t.fO fD (ao (aj 3) aC)) aD))) (aB (bM 5 a (lQ aC)) (aB (uY PassesOwn.never S (ig S t.fP (ao (aj 1) aC)) (bw 6 a) (bI [6,7,8] (aB (bM 7 a (bG (aj 2) (aU cY (aU dF (aj 6) (bG (aj 0) aD)) aD))) (aB (bM 8 a (aU dF (aU dF (nU (aj 3) eN (eU (aj 4))) (aj 7)) (nU (aj 3) (eU (aj 4)) eN))) (aB (jD (bW (of_eq b) (aU cY (bG (aj 0) aD) aD) aD (bV _)) (bI [] (aB (bM 8 a (aU rT (bG (aj 2) (aU nT (aj 6) aD)) (aU dF aD (aU cY (aj 6) aD)))) aR)) (bI [] aR)) (aB (yG 5 (aj 8)) aR)))))) (aB (Az 5) aR))))))
theorem vK:bH ["_law_xs","_law_names_here","_law_main","_law_others","_law_found","_law_k","_law_some","_law_at"] ["_law_xs","_law_names_here"] (aO ou):=mC
theorem vL:Ok P w base t.gY 1 2 gM:=JL (g:=gK) t.gY vK λ_ _ _ _ _ _ c b a=>(aB (bM 2 a (aU cY (bG (aj 0) aD) aD)) (aB (bM 3 a (f9 ["_law_j"] (lB ["_law_names_here","_law_main"] [1,2]) S (Cj (ig S t.fP (ao aD aC))) (λ_ _ _ _=>(ce 2)) (λ_ _ _ _=>(gj (bW (wC b) (aj 2) (aj 1) (bV _)))) (λ_ _ _ _=>(bG (aj 0) (aj 2))) (bR))) (aB (bM 4 a (lQ aC)) (aB (uY PassesOwn.never S (ig S t.fP (ao aD aC)) (bw 5 a) (bI [5,6] (aB (tO 6 ["_law_j"] (lB ["_law_others","_law_k"] [3,5]) S a (Cj (ig S t.fP (ao aD aC))) (λ_ _ _ _=>(ce 2)) (λ_ _ _ _=>(gj (bW (of_eq b) (aU w6 (aU YG (aj 1) (aj 2)) aD) aD (bV _)))) (λ_ _ _ _=>(bG (aj 0) (aj 2))) (bR)) (aB (jD (bW RN (aV fG S t.fO fD (ao (aj 6) aC)) aD (bV _)) (bI [] (aB (yG 6 (bG (aj 1) (aj 2))) aR)) (bI [] aR)) (aB (yG 4 (jZ pH S t.gW jG (ao (f9 ["_law_name"] (lB [] []) S (dX (aV pJ S t.lN j6 (ao (aj 6) aC))) (λ_ _ _ _=>(ce 0)) (λ_ _ _ _=>bK) (λ_ _ _ _=>(jC (ao (aj 0) aC))) (bR)) aC))) aR))))) (aB (bM 7 a (aU cY (bG (aj 0) aD) aD)) (aB (cR (jZ pH S t.gW jG (ao (nU (aU dF (nU (aj 4) (eU (aj 7)) eN) (nU (aj 4) eN (eU (aj 7)))) (eU (aU cY (bG (aj 0) aD) aD)) eN) aC))) aR))))))
theorem Es:bH ["_law_names_here","_law_xs","_law_found","_law_k","_law_spot"] ["_law_names_here","_law_xs"] (aO uN):=mC
theorem Et:Ok P w base t.kZ 1 2 kW:=JL (g:=kO) t.kZ Es λ_ _ _ _ _ _ c b a=>(aB (bM 2 a RT) (aB (YL 2 4 3 PassesOwn.never S a (ig S t.fP (ao (aV fG S t.fO fD (ao (aj 0) aC)) aC)) (aU cY (aU nT (bG (aj 1) (aU cY (aj 3) (aV fG S t.fO fD (ao (aj 1) aC)))) (aU dF aD (aU nT (aj 3) (aV fG S t.fO fD (ao (aj 1) aC))))) (aV (Jl S) S t.sZ Jh (ao aD (ao (aV fG S t.fO fD (ao (aj 0) aC)) aC)))) (bW RN (aU cY (bG (aj 1) aD) aD) aD (bV _)) (aU cY (aj 4) aD) (bG (aj 0) (aj 3))) (aB (cR (aV XD S t.lN j6 (ao (X5 ["_law_spot"] (lB ["_law_found"] [2]) S (aj 2) (λ_ _ _ _=>(ce 1)) (λ_ _ _ _=>bK) (λ_ _ _ _=>(jZ pH S t.gW jG (ao (aV pJ S t.lN j6 (ao (So b (aj 0) (aj 1)) aC)) aC))) (bR)) aC))) aR)))
theorem Ge:bH ["_law_script","_law_at","_law_head","_law_names_here","_law_found","_law_k","_law_xs","_law_some","_law_world"] ["_law_script","_law_at"] (aO xJ):=mC
theorem Gf(e:Ok P w base t.nC 1 2 m9)(i:Ok P w base t.gY 1 2 gM)(h:Ok P w base t.kZ 1 2 kW)(d:Ok P w base t.lK 1 2 lD)(f:Ok P w base t.jf 1 2 jd):Ok P w base t.mK 2 2 mG:=JL (g:=mF) t.mK Ge λ_ _ _ _ _ _ b c a=>(aB (bM 2 a (fX t.jf f b (ao (iY (fX t.nC e b (ao (aj 0) (ao (aj 1) aC)))) (ao aD aC)))) (aB (jD (bW (of_eq c) (aU cY (aU nT (bG (aj 2) aD) aD) aD) aD (bV _)) (aB (cR (fX t.gY i b (ao (iY (lQ (ao (bG (aj 2) aD) (ao (bG (aj 2) aD) (ao (bG (aj 2) aD) aC))))) (ao (iY (aV pJ S t.lN j6 (ao (fX t.lK d b (ao (aj 2) (ao aD aC))) aC))) aC)))) aR) aR) (aB (bM 3 a (aV pJ S t.lN j6 (ao (fX t.lK d b (ao (aj 2) (ao (iY (aU dF aD (aU cY (bG (aj 2) aD) (bG (lQ (ao aD (ao aD (ao aD (ao aD aC))))) (aU cY (bG (aj 2) aD) aD))))) aC))) aC))) (aB (bM 4 a (lQ aC)) (aB (uY PassesOwn.never S (ig S t.fP (ao (aU dF aD (aU cY (bG (aj 2) aD) aD)) aC)) (bw 5 a) (bI [5,6,7,8] (aB (bM 6 a (fX t.jf f b (ao (iY (fX t.nC e b (ao (aj 0) (ao (iY (aU dF (aU dF (aj 1) aD) (aj 5))) aC)))) (ao aD aC)))) (aB (tO 7 ["_law_j"] (lB ["_law_names_here","_law_head","_law_xs"] [3,2,6]) S a (Cj (ig S t.fP (ao (aV fG S t.fO fD (ao (aj 3) aC)) aC))) (λ_ _ _ _=>(ce 3)) (λ_ _ _ _=>(gj (Fo (oW (bW (of_eq c) (aU w6 (aU YG (aU nT (bG (aj 2) aD) aD) (aj 3)) aD) aD (bV _)) (pY (bW RN (aU cY (bG (aj 1) aD) aD) aD (bV _))))))) (λ_ _ _ _=>(bG (aj 0) (aj 3))) (bR)) (aB (jD (Fo (wg (bW (wC c) (aj 4) (lQ aC) (bV _)) (BW (bW (of_eq c) (aU cY (bG (aj 6) aD) aD) aD (bV _))))) (bI [] (aB (tO 7 ["_law_name"] (lB ["_law_found"] [4]) S a (dX (aj 3)) (λ_ _ _ _=>(ce 1)) (λ_ _ _ _=>(gj (mY (aV (Xl S) S t.adu Xf (ao (f9 ["_law_part"] (lB ["_law_name"] [1]) S (dX (bG (aj 0) (VT VS aD))) (λ_ _ _ _=>(ce 1)) (λ_ _ _ _=>bK) (λ_ _ _ _=>(yC Xc (aj 0) (aj 1) (by with_unfolding_all rfl))) (bR)) aC))))) (λ_ _ _ _=>(aj 1)) (bR)) aR)) (bI [] aR)) (aB (bM 8 a (jZ pH S t.gW jG (ao (fX t.kZ h b (ao (aj 7) (ao (iY (nU (aj 6) eN (eU aD))) aC))) aC))) (aB (jD (bW (Sg c) (aj 8) (aj 4) (by with_unfolding_all rfl)) (bI [] (aB (yG 4 (aj 8)) aR)) (bI [] aR)) aR))))))) (aB (cR (jZ pH S t.gW jG (ao (aj 4) aC))) aR))))))
theorem Am:bH ["_law_worlds_here","_law_names_here","_law_world","_law_some","_law_name","_law_rising","_law_found","_law_k"] ["_law_worlds_here"] (aO sW):=mC
theorem Ao:Ok P w base t.fV 1 1 fU:=JL (g:=jJ) t.fV Am λ_ _ _ _ _ _ c b a=>(aB (bM 1 a RT) (aB (tK 0 PassesOwn.never S (bw 2 a) (bI [2,3,4] (aB (tK 2 PassesOwn.never S (bw 3 a) (bI [3,4] (aB (tK 3 PassesOwn.never S (bw 4 a) (bI [4] (aB (Sn 1 b BR (aj 4)) aR))) aR))) aR))) (aB (bM 5 a (aV (PK S) S t.lN j6 (ao (aj 1) aC))) (aB (tO 6 ["_law_name"] (lB [] []) S a (dX (aj 5)) (λ_ _ _ _=>(ce 0)) (λ_ _ _ _=>bK) (λ_ _ _ _=>(jC (ao o8 (ao (aj 0) aC)))) (bR)) (aB (uY PassesOwn.never S (ig S t.fP (ao (aV fG S t.fO fD (ao (aj 5) aC)) aC)) (bw 7 a) (bI [7] (aB (Nl 6 (f9 ["_law_other"] (lB ["_law_rising","_law_k"] [5,7]) S (dX (nU (aj 5) (eU (aU dF (aj 7) aD)) eN)) (λ_ _ _ _=>(ce 2)) (λ_ _ _ _=>bK) (λ_ _ _ _=>(jC (ao o8 (ao (bG (aj 0) (aj 1)) (ao (aj 2) aC))))) (bR))) aR))) (aB (Az 6) aR))))))
theorem N6:bH ["_law_world","_law_ask","_law_some"] ["_law_world","_law_ask"] (aO DX):=mC
theorem N7:Ok P w base t.fJ 1 2 jk:=JL (g:=qt) t.fJ N6 λ_ _ _ _ _ _ b c a=>(aB (tK 0 PassesOwn.never S (bw 2 a) (bI [2] (aB (jD (mY (aV (Pq S) S t.Zo Pk (ao (f9 ["_law_name"] (lB ["_law_some"] [2]) S (dX (nU (aj 1) (eU aD) eN)) (λ_ _ _ _=>(ce 1)) (λ_ _ _ _=>bK) (λ_ _ _ _=>(yC Xc (aj 1) (aj 0) (by with_unfolding_all rfl))) (bR)) aC))) (aB (cR BR) aR) aR) aR))) (aB (cR BR) aR))
theorem Gg:bH ["_law_worlds_here","_law_asks","_law_many","_law_yes","_law_ask","_law_depths_here","_law_some","_law_best","_law_mask","_law_one","_law_other"] ["_law_worlds_here"] (aO xK):=mC
theorem Gh(d:Ok P w base t.fV 1 1 fU)(e:Ok P w base t.fJ 1 2 jk):Ok P w base t.jR 2 1 jK:=JL (g:=mH) t.jR Gg λ_ _ _ _ _ _ c b a=>(aB (bM 1 a (fX t.fV d c (ao (aj 0) aC))) (aB (bM 2 a (aV fG S t.fO fD (ao (aj 0) aC))) (aB (bM 3 a (lQ aC)) (aB (tK 1 PassesOwn.never S (bw 4 a) (bI [4] (aB (yG 3 (iY (aV (a0 S) S t.aie On (ao (f9 ["_law_k"] (lB ["_law_ask","_law_worlds_here"] [4,0]) S (Cj (ig S t.fP (ao (aj 2) aC))) (λ_ _ _ _=>(ce 2)) (λ_ _ _ _=>(gj (mY (fX t.fJ e c (ao (bG (aj 1) (aj 2)) (ao (aj 0) aC)))))) (λ_ _ _ _=>(aU JT aD (aj 2))) (bR)) aC)))) aR))) (aB (bM 5 a (aU XN (lQ (ao aD aC)) (aU JT aD (aj 2)))) (P8 (i:=3) (aB (uY PassesOwn.never S (W3 S t.fP (ao aD (ao (aU JT aD (aj 2)) aC))) (bw 6 a) (bI [6,7,8,9,10] (aB (jD (bW (wC b) (aU w6 (aj 6) (aU Je (aj 6) aD)) aD (bV _)) (bI [7,8,9,10] (aB (bM 7 a (aj 2)) (aB (tK 3 PassesOwn.never S (bw 8 a) (bI [8,9,10] (aB (W0 9 10 S a (ao (aU w6 (aj 6) (aj 8)) (ao (aU Je (aj 6) (aU w6 (aj 6) (aj 8))) aC))) (aB (jD (Fo (wg (bW (wC b) (aj 9) aD (bV _)) (BW (bW (wC b) (aj 10) aD (bV _))))) (bI [] (aB (bM 7 a (aV (WE S) S t.yg Xg (ao (aj 7) (ao (aU dF aD (aV (Jl S) S t.sZ Jh (ao (bG (aj 5) (aj 9)) (ao (bG (aj 5) (aj 10)) aC)))) aC)))) aR)) (bI [] aR)) aR)))) (aB (am 5 (aj 7) (aj 6)) aR)))) (bI [7,8,9,10] aR)) aR))) (aB (Az 5) aR))))))))
theorem N8:bH ["sets"] ["sets"] (aO DY):=mC
theorem Oa:Ok P w base t.qG 1 1 qw:=JL (g:=qu) t.qG N8 λ_ _ _ _ _ _ b c a=>(aB (cR (aV pJ S t.lN j6 (ao (M7 ["own","name"] (EW.mk (m:=1) (lB [] []) S (dX (aj 0)) (λ_ _ _ _=>(ce 0)) (λ_ _ _ _=>bK) (bR) (λ_ _ _ _=>(Ba (aj 0))) (λ_ _ _ _=>(ce 1)) (λ_ _ _ _=>bK) (bR)) (λ_ _ _ _=>(aj 1))) aC))) aR)
theorem Ob:bH ["worlds"] ["worlds"] (aO Ea):=mC
theorem Oc(b:Ok P w base t.qG 1 1 qw):Ok P w base t.qH 2 1 qy:=JL (g:=qx) t.qH Ob λ_ _ _ _ _ _ a d c=>(aB (cR (SK S S t.lN (Vj ["world","name"] (EW.mk (m:=1) (lB [] []) S (dX (aj 0)) (λ_ _ _ _=>(ce 0)) (λ_ _ _ _=>bK) (bR) (λ_ _ _ _=>(Ba (fX t.qG b a (ao (aj 0) aC)))) (λ_ _ _ _=>(ce 1)) (λ_ _ _ _=>bK) (bR)) (λ_ _ _ _=>(aj 1))))) aR)
theorem QX:bH ["worlds","names","stands"] ["worlds"] (aO HB):=mC
theorem QZ(b:Ok P w base t.qH 2 1 qy):Ok P w base t.ux 3 1 um:=JL (g:=uh) t.ux QX λ_ _ _ _ _ _ c d a=>(aB (bM 1 a (fX t.qH b c (ao (aj 0) aC))) (aB (tO 2 ["name"] (lB [] []) S a (dX (aj 1)) (λ_ _ _ _=>(ce 0)) (λ_ _ _ _=>bK) (λ_ _ _ _=>(jC (ao o8 (ao (aj 0) aC)))) (bR)) (aB (cR (aU dF (aj 2) (M7 ["at","name","other"] (EW.mk (m:=3) (lB ["names"] [1]) S (Yc S t.NT (ao (aj 1) aC)) (λ_ _ _ _=>(OL S (K8 (ce 1) (K8 (ce 2) OI)))) (λ_ _ _ _=>bK) (SV (Lb (bR) (Lb (bR) ac))) (λ_ _ _ _=>(Ba (nU (aj 0) (eU (aU dF (aj 1) aD)) eN))) (λ_ _ _ _=>(ce 3)) (λ_ _ _ _=>bK) (bR)) (λ_ _ _ _=>(jC (ao o8 (ao (aj 2) (ao (aj 3) aC)))))))) aR)))
theorem VJ:bH ["world","ask"] ["world","ask"] (aO Nt):=mC
theorem VL:Ok P w base t.yh 1 2 xP:=JL (g:=xO) t.yh VJ λ_ _ _ _ _ _ b c a=>(aB (cR (aV (Xl S) S t.adu Xf (ao (f9 ["own"] (lB ["ask"] [1]) S (dX (aj 0)) (λ_ _ _ _=>(ce 1)) (λ_ _ _ _=>bK) (λ_ _ _ _=>(iY (aV (Pq S) S t.Zo Pk (ao (f9 ["name"] (lB ["own"] [1]) S (dX (nU (aj 0) (eU aD) eN)) (λ_ _ _ _=>(ce 1)) (λ_ _ _ _=>bK) (λ_ _ _ _=>(yC Xc (aj 1) (aj 0) (by with_unfolding_all rfl))) (bR)) aC)))) (bR)) aC))) aR)
theorem Od:bH ["worlds"] ["worlds"] (aO Eb):=mC
theorem Oe(c:Ok P w base t.yh 1 2 xP)(b:Ok P w base t.ux 3 1 um):Ok P w base t.kE 4 1 jm:=JL (g:=qz) t.kE Od λ_ _ _ _ _ _ a e d=>(aB (cR (f9 ["ask"] (lB ["worlds"] [0]) S (dX (fX t.ux b a (ao (aj 0) aC))) (λ_ _ _ _=>(ce 1)) (λ_ _ _ _=>bK) (λ_ _ _ _=>(jC (ao (aj 1) (ao (iY (f9 ["world"] (lB ["ask"] [1]) S (dX (aj 0)) (λ_ _ _ _=>(ce 1)) (λ_ _ _ _=>bK) (λ_ _ _ _=>(iY (fX t.yh c a (ao (aj 1) (ao (aj 0) aC))))) (bR))) aC)))) (bR))) aR)
theorem Q0:bH ["numbers","answers","side"] ["numbers","answers","side"] (aO pO):=mC
theorem Q5:Ok P w base t.jw 1 3 uq:=JL (g:=uo) t.jw Q0 λ_ _ _ _ _ _ c a b=>(aB (cR (jZ pH S t.gW jG (ao (f9 ["number"] (lB ["side","answers"] [2,1]) S (dX (aj 0)) (λ_ _ _ _=>(ce 2)) (λ_ _ _ _=>(gj (bW (of_eq a) (bG (aj 1) (aj 2)) (aj 0) (bV _)))) (λ_ _ _ _=>(aj 2)) (bR)) aC))) aR)
theorem Gi:bH ["numbers","answers"] ["numbers","answers"] (aO xM):=mC
theorem Gj(b:Ok P w base t.jw 1 3 uq):Ok P w base t.iT 2 2 gk:=JL (g:=mJ) t.iT Gi λ_ _ _ _ _ _ a d c=>(aB (cR (WQ Ji Ji aD (aV fG S t.fO fD (ao (fX t.jw b a (ao (aj 0) (ao (aj 1) (ao BR aC)))) aC)) (aV fG S t.fO fD (ao (aj 0) aC)))) aR)
theorem Gk(c:Ok P w base t.kE 4 1 jm)(a:Ok P w base t.iT 2 2 gk):Ok P w base t.iU 22 1 eX:=
 X2 t.iU.F t.Zn.F t.afP t.ach.F t.jw.F t.jw.m t.jw.k t.jw.b a t.iT.m t.iT.k t.iT.b t.Zn.m t.Zn.k t.Zn.b t.ach.m t.ach.k t.ach.b c t.kE.m t.kE.k t.kE.b t.fO t.yg t.sZ t.gW t.fP
theorem Kc:bH ["_law_thing"] ["_law_thing"] (aO zU):=mC
theorem Kd:Ok P w base t.dO 1 1 iB:=JL (g:=oK) t.dO Kc λ_ _ _ _ _ _ b c a=>(aB (cR (Ta (Pn (aj 0) S t.mL S t.adv) (VV (VX (LK (aj 0) S t.mL S t.afQ))))) aR)
theorem jU:bH ["_law_worlds_here","_law_asks","_law_plan","_law_left","_law_yes","_law_no","_law_one","_law_other"] ["_law_worlds_here","_law_asks","_law_plan","_law_left"] (aO pP):=mC
theorem nD(h:jx P w K mg base uH 1 t.fJ.f t.fJ.fd ["_law_world","_law_ask"] (Pb K 2 jk))(i:jx P w K mg base uH 1 t.dO.f t.dO.fd ["_law_thing"] (Pb K 1 iB)):∀n:Nat,jx P w K mg base uH (n+2) t.bB.f t.bB.fd ["_law_worlds_here","_law_asks","_law_plan","_law_left"] (Pb K 4 (bO n))
 |0=>MI (k:=0+1) (g:=λ_=>Y3) t.bB.F jU S S λj A outer s H E c=>Xm
 |n+1=>by
  have e:=nD h i n;rw[show n+1+2=(n+2)+1 by omega];refine MA (k:=n+2) (g:=iJ (bO n)) t.bB.F jU S S λj A outer s H E c=>?_;have a:=tU c;have d:=jU.nd;exact(aB (jD (Fo (oW (BX (mY (wJ (aj 2) S t.mL S t.gW))) (pY (bW (of_eq a) (aj 2) (jC aC) (bV _))))) (aB (cR uW) aR) aR) (aB (jD (bW (of_eq a) (aV fG S t.fO fD (ao (aj 3) aC)) aD (bV _)) (aB (jD (Fo (wg (bW (of_eq a) (aV fG S t.fO fD (ao (aj 2) aC)) aD (bV _)) (wg (bW (of_eq a) (bG (aj 2) aD) o8 (bV _)) (wg (mY (p7 i (c.mono ()) S t.dO.m t.dO.k t.dO.b (ao (bG (aj 2) aD) aC))) (BW (bW (of_eq a) (bG (aj 2) aD) (bG (aj 3) aD) (bV _))))))) (aB (cR aD) aR) aR) (aB (cR uW) aR)) aR) (aB (jD (Fo (oW (bW (wC a) (aV fG S t.fO fD (ao (aj 2) aC)) aD (bV _)) (oW (bW (wC a) (bG (aj 2) aD) o8 (bV _)) (pY (bW (Sg a) (bG (aj 2) aD) (aj 1) (by with_unfolding_all rfl)))))) (aB (cR uW) aR) aR) (aB (bM 4 d (f9 ["_law_k"] (lB ["_law_worlds_here","_law_plan"] [0,2]) S (dX (aj 3)) (λ_ _ _ _=>(ce 2)) (λ_ _ _ _=>(gj (mY (p7 h (c.mono ()) S t.fJ.m t.fJ.k t.fJ.b (ao (bG (aj 0) (aj 2)) (ao (bG (aj 1) aD) aC)))))) (λ_ _ _ _=>(aj 2)) (bR))) (aB (tO 5 ["_law_k"] (lB ["_law_yes"] [4]) S d (dX (aj 3)) (λ_ _ _ _=>(ce 1)) (λ_ _ _ _=>(gj (bW Xd (aj 1) (aj 0) (by with_unfolding_all rfl)))) (λ_ _ _ _=>(aj 1)) (bR)) (aB (jD (Fo (oW (bW (of_eq a) (aj 4) (lQ aC) (bV _)) (pY (bW (of_eq a) (aj 5) (lQ aC) (bV _))))) (aB (cR uW) aR) aR) (aB (W0 6 7 S d (ao (iY (p7 e (c.mono ()) S t.bB.m t.bB.k t.bB.b (ao (aj 0) (ao (aj 1) (ao (bG (aj 2) aD) (ao (aj 4) aC)))))) (ao (iY (p7 e (c.mono ()) S t.bB.m t.bB.k t.bB.b (ao (aj 0) (ao (aj 1) (ao (bG (aj 2) aD) (ao (aj 5) aC)))))) aC))) (aB (jD (Fo (oW (bW DT (aj 6) uW (bV _)) (pY (bW DT (aj 7) uW (bV _))))) (aB (cR uW) aR) aR) (aB (cR (iY (aU dF aD (aV (Jl S) S t.sZ Jh (ao (aj 6) (ao (aj 7) aC)))))) aR)))))))))
theorem yj(b:Ok P w base t.fJ 1 2 jk)(a:Ok P w base t.dO 1 1 iB):Ok P w base t.bB 12 4 dR:=nD t b a fuel
theorem Ke:bH ["_law_worlds_here","_law_told","_law_depth"] ["_law_worlds_here","_law_told","_law_depth"] (aO zV):=mC
theorem Kf(d:Ok P w base t.fV 1 1 fU)(c:Ok P w base t.bB 12 4 dR)(e:Ok P w base t.dO 1 1 iB):Ok P w base t.lM 13 3 lG:=JL (g:=oM) t.lM Ke λ_ _ _ _ _ _ a b f=>(aB (jD (Fo (oW (BX (mY (wJ (aj 1) S t.mL S t.gW))) (oW (bW (wC b) (aV fG S t.fO fD (ao (aj 1) aC)) aD (bV _)) (oW (BX (mY (fX t.dO e a (ao (bG (aj 1) aD) aC)))) (pY (bW (wC b) (bG (aj 1) aD) (aj 2) (bV _))))))) (aB (cR BR) aR) aR) (aB (cR (yC (of_eq b) (fX t.bB c a (ao (aj 0) (ao (iY (fX t.fV d a (ao (aj 0) aC))) (ao (bG (aj 1) aD) (ao (iY (Za S S t.afR S t.fP (aV fG S t.fO fD (ao (aj 0) aC)))) aC))))) (aj 2) (bV _))) aR))
theorem U':bH ["_law_script","_law_worlds_here","_law_depths_here","_law_many"] ["_law_script"] (aO s_law):=mC
theorem c9(d:Ok P w base t.jR 2 1 jK)(e:Ok P w base t.lM 13 3 lG)(h:Ok P w base t.mK 2 2 mG)(c:Ok P w base t.iU 22 1 eX):Ok P w base t.x_law 23 1 F_law:=JL (g:=Tg) t.x_law U' λ_ _ _ _ _ _ a f b=>(aB (bM 1 b (fX t.mK h a (ao (aj 0) (ao aD aC)))) (aB (bM 2 b (fX t.jR d a (ao (aj 1) aC))) (aB (jD (BX (mY (fX t.lM e a (ao (aj 1) (ao (iY (fX t.iU c a (ao (aj 1) aC))) (ao (bG (aj 2) (aU Je (aV fG S t.fO fD (ao (aj 2) aC)) aD)) aC)))))) (aB (cR BR) aR) aR) (aB (bM 3 b (aU dF (aU nT (aV fG S t.fO fD (ao (aj 1) aC)) aD) aD)) (aB (jD (BX (mY (fX t.lM e a (ao (iY (nU (aj 1) eN (eU (aj 3)))) (ao (iY (fX t.iU c a (ao (iY (nU (aj 1) eN (eU (aj 3)))) aC))) (ao (bG (fX t.jR d a (ao (iY (nU (aj 1) eN (eU (aj 3)))) aC)) (aU Je (aU JT aD (aj 3)) aD)) aC)))))) (aB (cR BR) aR) aR) (aB (cR (aV (Pq S) S t.Zo Pk (ao (f9 ["_law_world"] (lB [] []) S (dX (aj 1)) (λ_ _ _ _=>(ce 0)) (λ_ _ _ _=>bK) (λ_ _ _ _=>(yC (of_eq f) (fX t.iU c a (ao (jC (ao (aj 0) aC)) aC)) (jC (ao aD (ao (jC (ao o8 (ao aD aC))) aC))) (bV _))) (bR)) aC))) aR))))))
theorem EC:Ok P w base t.x_law 23 1 F_law:=by
 have m:=N5 (P:=P) (w:=w) (base:=base) t;have n:=Er (P:=P) (w:=w) (base:=base) t;have u:=Ka (P:=P) (w:=w) (base:=base) t;have y:=vL (P:=P) (w:=w) (base:=base) t;have i:=Et (P:=P) (w:=w) (base:=base) t;have j:=Gf (P:=P) (w:=w) (base:=base) t m y i u n;have b:=Ao (P:=P) (w:=w) (base:=base) t;have c:=N7 (P:=P) (w:=w) (base:=base) t;have v:=Gh (P:=P) (w:=w) (base:=base) t b c;have l:=Oa (P:=P) (w:=w) (base:=base) t;have x:=Oc (P:=P) (w:=w) (base:=base) t l;have s:=QZ (P:=P) (w:=w) (base:=base) t x;have h:=VL (P:=P) (w:=w) (base:=base) t;have d:=Oe (P:=P) (w:=w) (base:=base) t h s;have f:=Q5 (P:=P) (w:=w) (base:=base) t;have e:=Gj (P:=P) (w:=w) (base:=base) t f;have g:=Gk (P:=P) (w:=w) (base:=base) t d e;have a:=Kd (P:=P) (w:=w) (base:=base) t;have q:=yj (P:=P) (w:=w) (base:=base) t c a;have p:=Kf (P:=P) (w:=w) (base:=base) t b q a;have o:=c9 (P:=P) (w:=w) (base:=base) t v p j g;exact o
end
theorem Zq(a:O Int)(k:Int)(h0:0<=k)(h1:k<=1000):j8 a k:=by
 unfold j8;exact⟨λh=>BD h0 (by simpa using h),λ_=>MT h0 ()⟩
theorem Zr(k:Nat)(s:Int×O Int×Int)(hk:k<1000)(h:(0<=s.1/\s.1<1999999973)/\s.2.1.length=k/\(∀x∈s.2.1,0<=x)/\0<=s.2.2):iK s k/\(0<=(cg s k).1/\(cg s k).1<1999999973)/\(cg s k).2.1.length=k+1/\(∀x∈(cg s k).2.1,0<=x)/\0<=(cg s k).2.2:=by
 obtain⟨h1,h2,c,b⟩:=h;have a:In 2 (if(decide ((0:Int)<s.2.2))=true then(1:Int)else 0):=by split<;>exact BD () ()
 refine⟨⟨MT h1.1 (),a,?_⟩,lC _ (),?_,?_,Int.ediv_nonneg b ()⟩
 ·show s.2.1.length<=1000000;omega
 ·show(s.2.1++[_]).length=k+1;rw[ZA,h2];rfl
 ·intro x hx;rcases cf.mp hx with hx|hx
  ·exact c x hx
  ·cases bo.mp hx;have:=Qp (xs:=[((((s.1*((s.1%65521)+40487))+(7*k))+5)%1999999973),(s.2.2%1000000)]) a;simp only[Qr,qv,or_false]at this;rcases this with e|e<;>rw[e]
   ·exact(lC _ ()).1
   ·exact(lC _ ()).1
theorem Zt(c m:Int)(h0:0<=m)(h1:m<=1000):je c m/\(cF c m).length=m.toNat/\∀x∈cF c m,0<=x:=by
 have d:∀st a:Int,(0<=st/\st<1999999973)->0<=a->j9 c m [] st a/\(iM c m [] st a).length=m.toNat/\∀x∈iM c m [] st a,0<=x:=λst a b hd=>by
  have:=sO (P:=λs k=>Z (iK s k)) (λk s=>(0<=s.1/\s.1<1999999973)/\s.2.1.length=k/\(∀x∈s.2.1,0<=x)/\0<=s.2.2) (step:=λs k=>cg s k) m.toNat (st,[],a) ⟨b,rfl,λx h=>(by cases h),hd⟩ λk s hk h=>Zr k s () h;exact⟨⟨Dr h0 (),this.1⟩,this.2.2.1,this.2.2.2.1⟩
 refine d _ _ (lC _ ()) ?_;dsimp only;split<;>(try split)<;>omega
theorem BU{α:Type}(c:Array α):∀(n:Nat) (a:Array α),((ab n c).foldl (·++·) a).size=a.size+n*c.size
 |0,a=>by simp
 |n+1,a=>by
  rw[qo,ja,BU c n,kX,ej];omega
theorem Jf(x:AJ)(k:Int):(Txt.mul x k).length<=x.length*k.toNat:=by
 unfold Txt.mul;split
 ·exact qc _
 split
 ·rename_i h0 h;simp only[gH,beq_iff_eq]at h;rcases h with h|h
  ·subst h;simp
  ·rw[h];simp
 ·show(Array.size _)<=_;rw[BU];have:x.cps.size=x.length:=rfl;rw[this,ik];simp
def LT:AJ:=("abcdefghijklmnopqrstuvwxyz":AJ)
theorem Q6:LT.length=26:=by decide +kernel
theorem qL(h:n<=1000):Ou n:=zv h ()
theorem Q7(xs:O Int)(j:6<=xs.length)(b:AJ)(hs:b.length<=5)(at_:Int)(k:Nat)(a:Ap)(hk:k<200)(h:a.length=k/\∀n∈a,n.length<=12):jL xs LT b at_ a k/\(dW xs LT b at_ a k).length=k+1/\∀n∈dW xs LT b at_ a k,n.length<=12:=by
 have f:=zv (slice_le b Y3 (Z at_)) hs;have i:=zv (slice_le b (Z at_) Y3) hs;have c1:=JG LT ((↑k+at' xs 2)%15);have g:=lC (k:Int) (m:=8) ();have hd:(0:Int)<=(k:Int) / 8/\(k:Int) / 8<26:=by omega
 refine⟨⟨⟨BD () (),JD () (by rw[Q6];decide)⟩,⟨qL (),qL (by rw[sS];omega)⟩,⟨BD () (),λ_=>⟨BD hd.1 (by rw[Q6];exact hd.2),by omega,by omega,by rw[JG];decide⟩⟩,qL ()⟩,?_⟩;have d:∀n:AJ,n.length<=12->(a++[n]).length=k+1/\∀m∈a++[n],m.length<=12:=λn e=>⟨by simp[h.1],λm c=>by
  rcases cf.mp c with c|c
  ·exact h.2 m c
  ·cases bo.mp c;exact e⟩
 unfold dW;dsimp only;split
 ·exact d _ (by have:=Jf (ch LT ((k:Int) / 8)) (1+(k:Int)%8);rw[JG]at this;exact zv this ())
 ·exact d _ (by rw[sS,sS,c1];omega)
theorem TW(xs:Ap)(n:Nat)(h:∀x∈xs,x.length<=n):(Txt.join "" xs).length<=xs.length*n:=by
 have h1:=StrLaws.join_length_le ("":AJ) xs;rw[<-StrLaws.glued_eq_join]at h1;have h2:(xs.map (·.length)).sum<=xs.length*n:=by
  clear h1
  induction xs with
  |nil=>simp
  |cons a l c=>
   have:=c λx hx=>h x (zh _ hx);have:=h a (zg ..);simp only[zr,fA,ZN,ej];omega
 have b:("":AJ).length=0:=rfl;rw[b,Nat.mul_zero]at h1;exact zv h1 ()
theorem OY(xs:Ap)(h:∀x∈xs,x.length=1):(xs.map (·.length)).sum=xs.length:=by
 induction xs with
 |nil=>rfl
 |cons a l b=>
  have:=b λx hx=>h x (zh _ hx);have:=h a (zg ..);simp only[zr,fA,ZN];omega
theorem Zu(xs:O Int)(i:6<=xs.length)(a:Int)(h0:0<=a)(h1:a<=200):jt xs a/\(bh xs a).length=a.toNat/\∀n∈bh xs a,n.length<=12:=by
 have e:=lC (at' xs 0) (m:=6) ();have st:∀b:AJ,b.length<=5->nq xs a LT b/\(jM xs a LT b).length=a.toNat/\∀n∈jM xs a LT b,n.length<=12:=λb g=>by
  have:=sO (P:=λf k=>Z (jL xs LT b (at' xs 1%((b.length:Int)+1)) f k)) (step:=λf k=>dW xs LT b (at' xs 1%((b.length:Int)+1)) f k) (λk s=>s.length=k/\∀n∈s,n.length<=12) a.toNat [] ⟨rfl,λn h=>(by cases h)⟩ λk s hk h=>Q7 xs i b g _ k s () h;exact⟨⟨⟨BD () (),by omega⟩,Dr h0 (),this.1⟩,this.2⟩
 have c1:∀x∈((rng 0 (at' xs 0%6).toNat).map λc:Int=>ch LT (at' xs c / 40%26)),x.length=1:=λx hx=>by
  obtain⟨k,_,rfl⟩:=bc.mp hx;exact JG _ _
 have:=st (Txt.join "" ((rng 0 (at' xs 0%6).toNat).map λc:Int=>ch LT (at' xs c / 40%26))) (by
  have:=TW _ 1 λx hx=>gh (c1 x hx);rw[zk,iI]at this;omega)
 refine⟨⟨⟨⟨⟨⟨BD () (),Dr e.1 ()⟩,by rw[iI];omega⟩,λk hk=>?_⟩,?_⟩,this.1⟩,this.2⟩
 ·obtain⟨j,l,rfl⟩:=jg hk;exact⟨BD () (),JD () (by rw[show("abcdefghijklmnopqrstuvwxyz":AJ)=LT from rfl,Q6];decide)⟩
 ·rw[show("abcdefghijklmnopqrstuvwxyz":AJ)=LT from rfl,OY _ c1,zk,iI];have d:("":AJ).length=0:=rfl;rw[d];omega
def EI(xs:O Int)(a:AJ)(at_:Int)(k:Int):AJ:=if(decide (((at' xs 3)%3)=1))=true then(Txt.mul (ch LT (k / (8:Int))) (1+(k%8)))else(((Txt.slice a Y3 (Z at_))++(ch LT ((k+(at' xs 2))%15)))++(Txt.slice a (Z at_) Y3))
theorem Ew{α β:Type}(g:β->α):∀(l:O β) (f:O α),l.foldl (λf k=>f++[g k]) f=f++l.map g
 |[],f=>by simp
 |k::l,f=>by rw[ja,Ew g l];simp
theorem Og(xs:O Int)(a:Int):∃b at_,bh xs a=(rng 0 a.toNat).map (EI xs b at_):=by
 refine⟨_,_,(Ew (EI xs _ _) _ []).trans (Ki _)⟩
theorem Q8{a b m c:AJ}(h:(a++m)++b=(a++c)++b):m=c:=by
 have h:=congrArg (λs:AJ=>s.cps.toList) h;have h:((a.cps++m.cps)++b.cps).toList=((a.cps++c.cps)++b.cps).toList:=h;simp only[KS]at h;have:=List.append_cancel_left (List.append_cancel_right h);cases m;cases c;congr 1;exact Array.ext' this
theorem b9:∀i:Fin 30,∀j:Fin 30,Txt.mul (ch LT ((i.val:Int) / 8)) (1+(i.val:Int)%8)=Txt.mul (ch LT ((j.val:Int) / 8)) (1+(j.val:Int)%8)->i=j:=by decide +kernel
theorem UI:∀i:Fin 15,∀j:Fin 15,ch LT (i.val:Int)=ch LT (j.val:Int)->i=j:=by decide +kernel
theorem U2{x y:Int}(hx:0<=x/\x<15)(a:0<=y/\y<15)(h:ch LT x=ch LT y):x=y:=by
 have:=UI ⟨x.toNat,by omega⟩ ⟨y.toNat,by omega⟩ (by
  show ch LT ((x.toNat:Nat):Int)=ch LT ((y.toNat:Nat):Int);rw[eK hx.1,eK a.1];exact h)
 have:=congrArg Fin.val this;have:x.toNat=y.toNat:=this;omega
theorem UK{xs:O Int}{a:AJ}{at_:Int}(hi:i<15)(b:j<15)(h:EI xs a at_ i=EI xs a at_ j):i=j:=by
 unfold EI at h;by_cases e:(decide (((at' xs 3)%3)=1))=true
 ·rw[zo e,zo e]at h;exact congrArg Fin.val (b9 ⟨i,by omega⟩ ⟨j,by omega⟩ h)
 ·rw[zS e,zS e]at h;have:=U2 (lC _ ()) (lC _ ()) (Q8 h);omega
theorem YX{g:Int->AJ}(h:∀i j:Nat,i<n->j<n->g i=g j->i=j):((rng 0 n).map g).Nodup:=by
 unfold rng;rw[ZY];unfold List.Nodup;rw[dm];refine ym ?_ (gE (n:=n));intro a b f d c e;refine c (h a b (di.mp f) (di.mp d) ?_);have e:g (0+(a:Int))=g (0+(b:Int)):=e;rwa [gu,gu]at e
theorem Zv(xs:O Int)(a:Int)(h:a<=15):(bh xs a).Nodup:=by
 obtain⟨c,at_,e⟩:=Og xs a;rw[e];exact YX λi j hi b=>UK () ()
theorem aij(p:α->Bool)(l:O α):(l.filter p).length<=l.length:=eh p l
theorem Zw[Inhabited α](xs:O α):(rng 0 (xs.length:Int).toNat).map (λk:Int=>at' xs k)=xs:=by
 refine fT λk=>?_;rw[z5];by_cases h:k<xs.length
 ·have h1:(rng 0 (xs.length:Int).toNat)[k]?=Z (k:Int):=by
   unfold rng;rw[z5,k9 ()];simp
  rw[h1,Kb,Qs xs k h,ZH h]
 ·rw[qA (by rw[iI];omega),qA ()];rfl
theorem Q9(a:Ap)(xs:O Int)(g:a.Nodup)(y:a.length<60)(h0:0<xs.length)(h1:xs.length<=1000):gC a xs/\Wd a (cG a xs)/\(cG a xs).flatten.Perm a:=by
 have hx:(0:Int)<(xs.length:Int):=by omega
 have pos:(0:Int)<(if(a.length:Int)>1 then(a.length:Int)else 1):=by split<;>omega
 unfold cG gC;dsimp only;have G:=PF (λc:Int=>if(decide ((0:Int)<((at' xs 0)%3)))=true then((((at' xs (c%(xs.length:Int))) / (1+(c / (xs.length:Int))))%(if(a.length:Int)>1 then(a.length:Int)else 1))%3)else(((at' xs (c%(xs.length:Int))) / (1+(c / (xs.length:Int))))%(if(a.length:Int)>1 then(a.length:Int)else 1))) (λc:Int=>at' a c) (rng 0 (a.length:Int).toNat);rw[Zw]at G;generalize M9 _ _ _=m at G;have W:=OE G g λx h=>h;have aij:∀(w:O Ap),(∀s∈w,s≠[])->w.length<=w.flatten.length:=λw=>by
  induction w with
  |nil=>intro _;exact qc _
  |cons s w l=>
   intro h;have:=l λs d=>h s (zh _ d);have:=dg.mpr (h s (zg ..));rw[Zs,ZA,ZN];omega
 have o:m.length<=a.length:=by
  have:=aij (m.map (·.2)) λs d=>by obtain⟨q,b,rfl⟩:=bc.mp d;exact G.ne q b
  rw[zk,G.p.length_eq]at this;exact this
 have f:∀q∈m,q.2.length<=a.length:=λq b=>by
  rw[<-G.p.length_eq];obtain⟨n,AU,e⟩:=ix (bc.mpr ⟨q,b,rfl⟩:q.2∈m.map (·.2));rw[e,eJ,Zs];simp only[ZA];omega
 refine⟨⟨⟨⟨⟨rfl,Dr () ()⟩,by rw[iI];omega⟩,λv i=>?_⟩,⟨by rw[zk];omega,λk hk=>?_⟩,by rw[zk,zk];omega,λs d=>?_⟩,W.1,W.2⟩
 ·obtain⟨k,hk,rfl⟩:=jg i;have d0:(0:Int)<=(k:Int) / (xs.length:Int):=Int.ediv_nonneg () ();have u:(k:Int) / (xs.length:Int)<=k:=Int.ediv_le_self _ ();exact⟨⟨⟨⟨⟨hx,JD hx ()⟩,hx,by omega⟩,by omega,by omega⟩,pos⟩,BD () hx,Dq ()⟩
 ·obtain⟨q,b,rfl⟩:=bc.mp hk;refine⟨List.any_eq_true.mpr ⟨q,b,by simp⟩,?_⟩;rw[DP G.k b];have:=f q b;omega
 ·obtain⟨k,hk,rfl⟩:=bc.mp d;obtain⟨q,b,rfl⟩:=bc.mp hk;rw[DP G.k b];have:=G.ne q b;have hp:=(bL q.2).length_eq;cases j:bN q.2 with
  |nil=>rw[j]at hp;exact absurd (dt.mp hp.symm) this
  |cons _ _=>rfl
def ZZ:AJ:=("zzzzzzzz":AJ)
theorem UN:∀i:Fin 15,∀x∈(ch LT (i.val:Int)).cps.toList,x∉ZZ.cps.toList:=by decide +kernel
theorem br:∀i:Fin 8,Txt.mul (ch LT ((i.val:Int) / 8)) (1+(i.val:Int)%8)≠ZZ:=by decide +kernel
theorem Zx(xs:O Int)(a:Int)(h:a<=8):ZZ∉bh xs a:=by
 obtain⟨b,at_,e⟩:=Og xs a;rw[e];intro z;obtain⟨v,f,z⟩:=bc.mp z;obtain⟨k,hk,rfl⟩:=jg f;unfold EI at z;split at z
 ·exact br ⟨k,by omega⟩ z
 ·have d:=lC ((k:Int)+at' xs 2) (m:=15) ();have c:=UN ⟨(((k:Int)+at' xs 2)%15).toNat,by omega⟩;simp only[eK d.1]at c;have h2:=congrArg (λs:AJ=>s.cps.toList) z;have h2:((((Txt.slice b Y3 (Z at_)).cps++(ch LT (((k:Int)+at' xs 2)%15)).cps)++(Txt.slice b (Z at_) Y3).cps)).toList=ZZ.cps.toList:=h2;simp only[KS]at h2;refine c _ (bo.mpr S) ?_;rw[<-h2];exact QR _ (zz _ (bo.mpr S))
structure Ws (U:Ap) (ws:List (List Ap)):Prop where
 u:U.length<=8
 z:ZZ∉U
 n:ws.length<=8
 w:∀w∈ws,Wd U w
 nd:ws.Nodup
theorem Ws.fl(h:Ws U ws){w:O Ap}(a:w∈ws):w.flatten.length<=8:=zv (iz (h.w w a).nd (h.w w a).sub) h.u
theorem SU{vf:Ap}(c:vf.Nodup){p:Int->Bool}:(((rng 0 (vf.length:Int).toNat).filter p).map λa:Int=>at' vf a).Nodup/\∀x∈(((rng 0 (vf.length:Int).toNat).filter p).map λa:Int=>at' vf a),x∈vf:=by
 have b:(((rng 0 (vf.length:Int).toNat).filter p).map λa:Int=>at' vf a).Sublist ((rng 0 (vf.length:Int).toNat).map λa:Int=>at' vf a):=(da ..).map _;rw[Zw]at b;exact⟨c.sublist b,λx hx=>b.subset hx⟩
theorem Oh(n:O Int)(l:O Int)(hh:l.length=10)(vf:Ap)(C:vf.Nodup)(hl:vf.length<=8)(hz:ZZ∉vf)(k:Nat)(hk:k<8)(e:O (O Ap))(I:e.length<=k/\(∀w∈e,Wd vf w)/\e.Nodup):
  gq n 0 l vf e k/\(cI n 0 l vf e k).length<=k+1/\(∀w∈cI n 0 l vf e k,Wd vf w)/\(cI n 0 l vf e k).Nodup:=by
 have N:=Zt (cU n ((0+1)+(k:Int))) 10 () ();unfold cI gq;dsimp only;generalize cF (cU n ((0+1)+(k:Int))) 10=xs at N;have xl:xs.length=10:=N.2.1;have c8:(BF xs Y3 (Z 8)).length=8:=by rw[show(8:Int)=((8:Nat):Int) from rfl,JF (),jn];omega
 have E:∀g:Ap,g.Nodup->(∀x∈g,x∈vf)->gC g (BF xs Y3 (Z 8))/\Wd vf (cG g (BF xs Y3 (Z 8))):=λg y D=>by
  have jl:=iz y D;obtain⟨d,W,_⟩:=Q9 g (BF xs Y3 (Z 8)) y () () ();exact⟨d,W.ne,W.so,W.nd,λx hx=>D x (W.sub x hx),W.st⟩
 have K:=SU (vf:=vf) C (p:=λi:Int=>((decide ((Builtin.bitAnd (((at' xs 9) / (7:Int)) / 2 ^ i.toNat) 1)=0))||(decide ((0:Int)<((at' l 9)%3)))));have s2:∀p:AJ->Bool,((vf.filter p).map λf:AJ=>f).Nodup/\∀x∈(vf.filter p).map λf:AJ=>f,x∈vf:=λp=>by
  rw[kn];exact⟨C.sublist (da ..),λx hx=>(df.mp hx).1⟩
 have L:∀c:Bool,(if c=true then((vf.filter λf:AJ=>(((at' e (-(1:Int))).map λu:Ap=>(decide (f∈u))).any id)).map λf:AJ=>f)else(((rng 0 (vf.length:Int).toNat).filter λi:Int=>((decide ((Builtin.bitAnd (((at' xs 9) / (7:Int)) / 2 ^ i.toNat) 1)=0))||(decide ((0:Int)<((at' l 9)%3))))).map λi:Int=>(at' vf i))).Nodup/\∀x∈(if c=true then((vf.filter λf:AJ=>(((at' e (-(1:Int))).map λu:Ap=>(decide (f∈u))).any id)).map λf:AJ=>f)else(((rng 0 (vf.length:Int).toNat).filter λi:Int=>((decide ((Builtin.bitAnd (((at' xs 9) / (7:Int)) / 2 ^ i.toNat) 1)=0))||(decide ((0:Int)<((at' l 9)%3))))).map λi:Int=>(at' vf i))),x∈vf:=λc=>by
  cases c
  ·exact K
  ·exact s2 _
 have q:=L ((!decide (e=([]:O (O Ap))))&&(decide (((at' xs 8)%3)=1)));generalize a3:(if((!decide (e=([]:O (O Ap))))&&(decide (((at' xs 8)%3)=1)))=true then _ else _)=g at q ⊢;obtain⟨J,G⟩:=E g q.1 q.2;have P:∀w∈e,w.length<=100000:=λw m=>by
  have W:=I.2.1 w m;have h1:=iz (xG W.nd W.ne) (ys:=w) λx h=>h;have:w.length<=w.flatten.length:=by
   have:∀(w:O Ap),(∀s∈w,s≠[])->w.length<=w.flatten.length:=λw=>by
    induction w with
    |nil=>intro _;exact qc _
    |cons s w X=>
     intro h;have:=X λs M=>h s (zh _ M);have:=dg.mpr (h s (zg ..));rw[Zs,ZA,ZN];omega
   exact this w W.ne
  have:=iz W.nd W.sub;omega
 refine⟨⟨⟨Zq _ _ () (),N.1⟩,⟨⟨Dr () (),by rw[iI];omega⟩,λv Q=>?_⟩,⟨λ_=>BD () (),λA=>⟨by omega,λx _=>?_⟩⟩,J,λ_=>qL ()⟩,?_⟩
 ·obtain⟨j,hj,rfl⟩:=jg Q;exact⟨⟨⟨BD () (),by omega⟩,λ_=>BD () ()⟩,λ_=>Dq ()⟩
 ·have H:e≠[]:=λz=>by rw[z]at A;simp at A
  have B:In e.length (-(1:Int)):=⟨by have:=dg.mpr H;omega,by omega⟩;exact⟨B,P _ (Qp B)⟩
 ·by_cases o:(!yV (cG g (BF xs Y3 (Z 8))) e)=true
  ·rw[zo o];refine⟨by simp;omega,λw m=>?_,?_⟩
   ·rcases cf.mp m with m|m
    ·exact I.2.1 w m
    ·rw[bo.mp m];exact G
   ·rw[j3];refine⟨I.2.2,by simp,λa F b U z=>?_⟩;rw[bo.mp U]at z;have:yV (cG g (BF xs Y3 (Z 8))) e=true:=M5.mpr (z▸F);rw[this]at o;cases o
  ·rw[zS o];exact⟨by omega,I.2.1,I.2.2⟩
def Zy(vj:Ap):O Ap:=(bN vj).map λx:AJ=>[x]
theorem Ey:∀l:Ap,(l.map λx:AJ=>[x]).flatten=l
 |[]=>rfl
 |x::l=>by rw[zr,Zs,Ey l];rfl
theorem Kg{vj:Ap}:x∈(Zy vj).flatten↔x∈vj:=by
 unfold Zy;rw[Ey];exact(bL vj).mem_iff
theorem Zz(h:Pr x y):Qn [x] [y]=true:=by
 have h:ltCps y.cps.toList x.cps.toList=false:=h;rw[ltCps_eq]at h;show(!S1.lU [Sum.inr y] [Sum.inr x])=true;unfold S1.lU;split
 ·rfl
 ·show(!decide (y.cps.toList<x.cps.toList))=true;rw[h];rfl
theorem Po{vj:Ap}(b:vj.Nodup)(h:∀x∈vj,x∈U):Wd U (Zy vj):=by
 refine⟨λs a=>?_,λs a=>?_,?_,λx hx=>h x (Kg.mp hx),?_⟩
 ·obtain⟨x,_,rfl⟩:=bc.mp a;simp
 ·obtain⟨x,_,rfl⟩:=bc.mp a;simp
 ·unfold Zy;rw[Ey];exact(bL vj).nodup_iff.mpr b
 ·exact dm.mpr ((jj vj).imp Zz)
def Bt(k:Nat):O Int:=[[],[0],[1],[0,1],[2],[0,2],[1,2],[0,1,2]].getD k []
theorem bits:∀k:Fin 8,((rng 0 (kN 3)).filter λa:Int=>(decide ((Builtin.bitAnd ((k.val:Int) / 2 ^ a.toNat) 1)=1)))=Bt k.val:=by rw[uK];decide +kernel
theorem X':∀i j:Fin 8,(∀t∈([0,1,2]:O Int),t∈Bt i.val↔t∈Bt j.val)->i=j:=by decide +kernel
theorem zp:∀i:Fin 8,(Bt i.val).Nodup/\∀t∈Bt i.val,t∈([0,1,2]:O Int):=by decide +kernel
def Lv(m:AJ)(b:Ap)(k:Nat):Ap:=if(decide ((1:Int)<(((Bt k).map λa:Int=>at' b a).length:Int)))=true then((Bt k).map λa:Int=>at' b a)++[m]else(Bt k).map λa:Int=>at' b a
theorem YI{vf:Ap}(q:vf.length=4)(p:vf.Nodup){e:Int}(h0:0<=e/\e<4):∃o0 m n,(((rng 0 (kN 4)).filter λo:Int=>(!decide (o=e))).map λo:Int=>(at' vf o))=[o0,m,n]/\[at' vf e,o0,m,n].Nodup/\∀x∈[at' vf e,o0,m,n],x∈vf:=by
 match vf,q with
 |[a,b,c,d],_=>
  have:e=0\/e=1\/e=2\/e=3:=by omega
  simp only[cz,Qr,qv,or_false,not_or,QQ,and_true,not_false_eq_true]at p;obtain⟨⟨l,j,i⟩,⟨h,f⟩,g⟩:=p;have e0:at' [a,b,c,d] (0:Int)=a:=rfl;have e1:at' [a,b,c,d] (1:Int)=b:=rfl;have e2:at' [a,b,c,d] (2:Int)=c:=rfl;have e3:at' [a,b,c,d] (3:Int)=d:=rfl;rw[uK];rcases this with rfl|rfl|rfl|rfl
  ·exact⟨b,c,d,rfl,by rw[e0];simp[l,j,i,h,f,g],by rw[e0];simp⟩
  ·exact⟨a,c,d,rfl,by rw[e1];simp[l,j,i,h,f,g,j0 l,j0 h,j0 f],by rw[e1];simp⟩
  ·exact⟨a,b,d,rfl,by rw[e2];simp[l,j,i,h,f,g,j0 j,j0 h,j0 g],by rw[e2];simp⟩
  ·exact⟨a,b,c,rfl,by rw[e3];simp[l,j,i,h,f,g,j0 i,j0 f,j0 g],by rw[e3];simp⟩
theorem Ra{m o0 a b:AJ}(f:[m,o0,a,b].Nodup)(i:Fin 8){t:Int}(d:t∈([0,1,2]:O Int)):at' [o0,a,b] t∈Lv m [o0,a,b] i.val↔t∈Bt i.val:=by
 simp only[cz,Qr,qv,or_false,not_or,QQ,and_true,not_false_eq_true]at f;obtain⟨⟨q,p,o⟩,⟨n,g⟩,j⟩:=f;have e0:at' [o0,a,b] (0:Int)=o0:=rfl;have e1:at' [o0,a,b] (1:Int)=a:=rfl;have e2:at' [o0,a,b] (2:Int)=b:=rfl;have inj:∀s∈([0,1,2]:O Int),at' [o0,a,b] s=at' [o0,a,b] t->s=t:=λs c e=>by
  simp only[Qr,qv,or_false]at c d;rcases c with rfl|rfl|rfl<;>rcases d with rfl|rfl|rfl<;>first|rfl|(rw[e0,e1]at e;exact absurd e n)|(rw[e0,e2]at e;exact absurd e g)|(rw[e1,e0]at e;exact absurd e.symm n)|(rw[e1,e2]at e;exact absurd e j)|(rw[e2,e0]at e;exact absurd e.symm g)|(rw[e2,e1]at e;exact absurd e.symm j)
 have nm:at' [o0,a,b] t≠m:=by
  simp only[Qr,qv,or_false]at d;rcases d with rfl|rfl|rfl
  ·rw[e0];exact j0 q
  ·rw[e1];exact j0 p
  ·rw[e2];exact j0 o
 have l:at' [o0,a,b] t∈((Bt i.val).map λu:Int=>at' [o0,a,b] u)↔t∈Bt i.val:=by
  rw[bc];exact⟨λ⟨s,c,e⟩=>by rw[<-inj s ((zp i).2 s c) e];exact c,λh=>⟨t,h,rfl⟩⟩
 unfold Lv;split
 ·rw[cf,l,bo];exact⟨λh=>h.resolve_right nm,.inl⟩
 ·exact l
theorem Me{m o0 c d:AJ}(l:[m,o0,c,d].Nodup)(i:Fin 8):(Lv m [o0,c,d] i.val).Nodup/\(∀x∈Lv m [o0,c,d] i.val,x∈[m,o0,c,d])/\(Lv m [o0,c,d] i.val).length<=4:=by
 have w:∀t∈([0,1,2]:O Int),at' [o0,c,d] t∈[o0,c,d]:=by
  intro t q;simp only[Qr,qv,or_false]at q;rcases q with rfl|rfl|rfl
  ·exact zg ..
  ·exact zh _ (zg ..)
  ·exact zh _ (zh _ (zg ..))
 have sub:∀x∈((Bt i.val).map λj:Int=>at' [o0,c,d] j),x∈[o0,c,d]:=λx hx=>by
  obtain⟨s,A,rfl⟩:=bc.mp hx;exact w s ((zp i).2 s A)
 obtain⟨B,u⟩:=cz.mp l;have p:((Bt i.val).map λj:Int=>at' [o0,c,d] j).Nodup:=by
  unfold List.Nodup;rw[dm];refine ym ?_ (zp i).1;intro a b f g y e;have h1:=(Ra l i ((zp i).2 a f));refine y ?_;simp only[cz,Qr,qv,or_false,not_or,QQ,and_true,not_false_eq_true]at u;obtain⟨⟨v,n⟩,o⟩:=u;have e0:at' [o0,c,d] (0:Int)=o0:=rfl;have e1:at' [o0,c,d] (1:Int)=c:=rfl;have e2:at' [o0,c,d] (2:Int)=d:=rfl;have f:=(zp i).2 a f;have g:=(zp i).2 b g;simp only[Qr,qv,or_false]at f g;rcases f with rfl|rfl|rfl<;>rcases g with rfl|rfl|rfl<;>first|rfl|(rw[e0,e1]at e;exact absurd e v)|(rw[e0,e2]at e;exact absurd e n)|(rw[e1,e0]at e;exact absurd e.symm v)|(rw[e1,e2]at e;exact absurd e o)|(rw[e2,e0]at e;exact absurd e.symm n)|(rw[e2,e1]at e;exact absurd e.symm o)
 have h:(Lv m [o0,c,d] i.val).Nodup/\∀x∈Lv m [o0,c,d] i.val,x∈[m,o0,c,d]:=by
  unfold Lv;split
  ·refine⟨List.nodup_append.mpr ⟨p,by simp,λa f b g z=>?_⟩,λx hx=>?_⟩
   ·rw[bo.mp g]at z;exact B (by rw[<-z];exact sub a f)
   ·rcases cf.mp hx with hx|hx
    ·exact zh _ (sub x hx)
    ·rw[bo.mp hx];exact zg ..
  ·exact⟨p,λx hx=>zh _ (sub x hx)⟩
 exact⟨h.1,h.2,iz h.1 h.2⟩
theorem Tk(d:O Int)(a3:d.length=3)(vf:Ap)(W:vf.length=4)(L:vf.Nodup)(M:ZZ∉vf):eY d vf/\Ws vf (dB d vf):=by
 have E:=lC (at' d 0) (m:=4) ();have g8:=lC (at' d 1) (m:=8) ();have g3:=lC (at' d 2) (m:=3) ();obtain⟨g,l,o,J,u,N⟩:=YI W L E;have U:∀(k:Nat),k<8->∀f:O (O Ap),bx vf (at' d 0%4) [g,l,o] f (k:Int)=f++[Zy (Lv (at' vf (at' d 0%4)) [g,l,o] k)]:=λk hk f=>by
  unfold bx;have:=bits ⟨k,hk⟩;dsimp only at this ⊢;rw[this];rfl
 have F:=sO (P:=λf A=>Z (c7 vf (at' d 0%4) [g,l,o] f A)) (step:=λf A=>bx vf (at' d 0%4) [g,l,o] f A) (λk f=>f=(cw k).map λi=>Zy (Lv (at' vf (at' d 0%4)) [g,l,o] i)) 8 [] S λk f hk h=>by
  refine⟨?_,by rw[U k hk,h,List.range_succ,ZE];rfl⟩;show c7 vf (at' d 0%4) [g,l,o] f (k:Int);unfold c7;have p:=bits ⟨k,hk⟩;dsimp only at p ⊢;rw[p];have y:=(Me u ⟨k,hk⟩).2.2;unfold Lv at y;dsimp only at y;refine⟨⟨by rw[uK,iI];decide,λv s=>?_⟩,λ_=>⟨BD E.1 (),qL ?_⟩,⟨QA y (),by rw[(bL _).length_eq];exact zv y ()⟩,qL (by rw[h];simp;omega)⟩
  ·rw[uK]at s;obtain⟨j,D,rfl⟩:=jg s;exact⟨by omega,λ_=>Dq D⟩
  ·rw[zk];have:∀i:Fin 8,(Bt i.val).length<=3:=by decide
   exact zv (this ⟨k,hk⟩) ()
 have B:((cw 8).map λi=>Zy (Lv (at' vf (at' d 0%4)) [g,l,o] i)).Nodup:=by
  unfold List.Nodup;rw[dm];refine ym ?_ (gE (n:=8));intro a b q p H e;have q:=di.mp q;have p:=di.mp p;refine H (congrArg Fin.val (X' ⟨a,q⟩ ⟨b,p⟩ λt G=>?_));rw[<-Ra u ⟨a,q⟩ G,<-Ra u ⟨b,p⟩ G,<-Kg,<-Kg (vj:=Lv _ _ (Fin.val ⟨b,p⟩))];rw[show Zy (Lv (at' vf (at' d 0%4)) [g,l,o] (Fin.val ⟨a,q⟩))=Zy (Lv (at' vf (at' d 0%4)) [g,l,o] (Fin.val ⟨b,p⟩)) from e]
 have C:∀w∈((cw 8).map λi=>Zy (Lv (at' vf (at' d 0%4)) [g,l,o] i)),Wd vf w:=λw z=>by
  obtain⟨i,hi,rfl⟩:=bc.mp z;have:=Me u ⟨i,di.mp hi⟩;exact Po this.1 λx hx=>N x (this.2.1 x hx)
 unfold eY dB;dsimp only;rw[J,show kN 8=8 from uK 8,F.2];generalize Q:(cw 8).map (λi=>Zy (Lv (at' vf (at' d 0%4)) [g,l,o] i))=f at B C;have I:f.length=8:=by rw[<-Q];simp
 obtain⟨c,X,K⟩:∃c:Nat,c<8/\at' d 1%8=(c:Int):=⟨(at' d 1%8).toNat,by omega,by omega⟩;obtain⟨b,p,eb⟩:∃c:Nat,c<3/\at' d 2%3=(c:Int):=⟨(at' d 2%3).toNat,by omega,by omega⟩;rw[K,eb,pN (),JF ()];have pm:(f.drop c++f.take c).Perm f:=eg.trans (by rw[List.take_append_drop]);rw[pN (by rw[pm.length_eq];omega)];have sl:=i4 b (f.drop c++f.take c);refine⟨⟨BD () (),⟨by rw[uK,iI];decide,λv s=>?_⟩,F.1,BD () (),qL ?_,BD () ()⟩,by omega,M,?_,λw z=>C w (pm.mem_iff.mp (sl.subset z)),(pm.nodup_iff.mpr B).sublist sl⟩
 ·rw[uK]at s;obtain⟨j,D,rfl⟩:=jg s;exact λ_=>Dq ()
 ·rw[<-ZA,pm.length_eq,I];decide
 ·rw[js,pm.length_eq];omega
theorem VN(d:O Int):jN d 0/\∃U,Ws U (dM d 0):=by
 have N:=Zt (cU d 0) 10 () ();unfold jN dM;dsimp only;generalize cF (cU d 0) 10=xs at N;have p:xs.length=10:=N.2.1;have o:In xs.length 6:=BD () ();have n:In xs.length 7:=BD () ();have j:In xs.length 8:=BD () ();have v:In xs.length 9:=BD () ();have st:∀m:Int,0<=m->m<=8->jt xs m/\(bh xs m).length=m.toNat/\(bN (bh xs m)).length=m.toNat/\(bN (bh xs m)).Nodup/\ZZ∉bN (bh xs m):=λm h0 h1=>by
  obtain⟨a,b,_⟩:=Zu xs () m h0 ();have pm:=bL (bh xs m);exact⟨a,b,by rw[pm.length_eq,b],pm.nodup_iff.mpr (Zv xs m ()),λz=>Zx xs m h1 (pm.mem_iff.mp z)⟩
 have l:In [(8:Int),(4:Int),(6:Int),(3:Int)].length (at' xs 7%4):=JD () ();have g:0<at' [(8:Int),(4:Int),(6:Int),(3:Int)] (at' xs 7%4)/\at' [(8:Int),(4:Int),(6:Int),(3:Int)] (at' xs 7%4)<=8:=by
  have:=Qp l;simp only[Qr,qv,or_false]at this;rcases this with e|e|e|e<;>rw[e]<;>decide
 generalize at' [(8:Int),(4:Int),(6:Int),(3:Int)] (at' xs 7%4)=mm at g ⊢;have A:=lC (at' xs 6) g.1;have C:=lC (at' xs 8) (m:=8) ();obtain⟨u,B,q,s,y⟩:=st 4 () ();obtain⟨q1,q2,q3,x,i⟩:=st (1+at' xs 6%mm) () ();have H:=Tk [at' xs 6,at' xs 8,at' xs 9] rfl _ q s y;have L:=sO (P:=λc f=>Z (gq d 0 xs (bN (bh xs (1+at' xs 6%mm))) c f)) (step:=λc f=>cI d 0 xs (bN (bh xs (1+at' xs 6%mm))) c f) (λk c=>c.length<=k/\(∀w∈c,Wd (bN (bh xs (1+at' xs 6%mm))) w)/\c.Nodup) (1+at' xs 8%8).toNat [] ⟨qc _,λ_ h=>(by cases h),QQ⟩ λk c hk h=>Oh d xs p _ x () i k () c h;refine⟨⟨⟨Zq _ _ () (),N.1⟩,n,λ_=>⟨⟨⟨o,j,v⟩,u,by omega⟩,H.1⟩,λ_=>⟨⟨⟨⟨⟨o,n,l⟩,g.1⟩,q1⟩,by omega⟩,⟨j,Dr () ()⟩,L.1⟩⟩,?_⟩;split
 ·exact⟨_,H.2⟩
 ·exact⟨_,by omega,i,zv L.2.1 (),L.2.2.1,L.2.2.2⟩
theorem Ws.sub{a:O (O Ap)}(h:Ws U ws)(s:a.Sublist ws):Ws U a:=
 ⟨h.u,h.z,zv s.length_le h.n,λw b=>h.w w (s.subset b),h.nd.sublist s⟩
theorem Na(xs:O α)(lo hi:Y Int):(BF xs lo hi).Sublist xs:=(fE ..).trans (i4 ..)
theorem Kh(w:O Ap):(w.flatMap λvs:Ap=>(vs.map λb:AJ=>b))=w.flatten:=by
 induction w with
 |nil=>rfl
 |cons s w a=>rw[kq,Zs,a,kn]
theorem Ez(w:O Ap):(cQ w).Perm w.flatten:=by
 unfold cQ;rw[Kh];exact bL _
theorem Kl:x∈(ws.flatMap λb:(O Ap)=>((cQ b).map λc:AJ=>c))↔∃w∈ws,x∈w.flatten:=by
 rw[dS];constructor
 ·rintro⟨w,a,h⟩;rw[kn]at h;exact⟨w,a,(Ez w).mem_iff.mp h⟩
 ·rintro⟨w,a,h⟩;exact⟨w,a,by rw[kn];exact(Ez w).mem_iff.mpr h⟩
theorem Rb{α β:Type}(f:α->O β)(m:Nat):∀l:O α,(∀x∈l,(f x).length<=m)->(l.flatMap f).length<=l.length*m
 |[],_=>by simp
 |a::l,h=>by
  have:=Rb f m l λx hx=>h x (zh _ hx);have:=h a (zg ..);rw[kq,ZA,ZN,ej];omega
section
variable(h:Ws U ws)
include h
theorem Tp:(qd (ws.flatMap λa:(O Ap)=>((cQ a).map λb:AJ=>b))).length<=8:=
 zv (iz (qe _) λx hx=>by
  obtain⟨w,c,hx⟩:=Kl.mp (lA.mp hx);exact(h.w w c).sub x hx) h.u
theorem Rc:qC ws:=by
 have a:=Rb (λc:(O Ap)=>((cQ c).map λd:AJ=>d)) 8 ws λw b=>by
  rw[kn,(Ez w).length_eq];exact h.fl b
 have:=h.n;have a:(ws.flatMap λc:(O Ap)=>((cQ c).map λd:AJ=>d)).length<=64:=zv a ();refine⟨⟨λw b=>⟨⟨⟨λ_ _ _ _=>trivial,?_⟩,?_⟩,λ_ _=>trivial⟩,zv a ()⟩,QA a (),QA (Tp h) ()⟩
 ·rw[Kh];exact zv (h.fl b) ()
 ·rw[Kh];exact QA (h.fl b) ()
theorem nF:(aP ws).Nodup/\(aP ws).length<=8/\∀x,x∈aP ws↔∃w∈ws,x∈w.flatten:=by
 have pm:=bL (qd (ws.flatMap λa:(O Ap)=>((cQ a).map λb:AJ=>b)));exact⟨pm.nodup_iff.mpr (qe _),by unfold aP;rw[pm.length_eq];exact Tp h,λx=>by unfold aP;rw[pm.mem_iff,lA];exact Kl⟩
end
structure Ks (m:List (Str×Bool)) (S:Ap):Prop where
 nd:(m.map (·.1)).Nodup
 io:∀x,x∈m.map (·.1)↔x∈S
theorem Ks.len{m:O (AJ×Bool)}{S:Ap}(h:Ks m S)(a:∀x∈S,x∈U):m.length<=U.length:=by
 have:=iz h.nd λx hx=>a x ((h.io x).mp hx);rwa [zk]at this
theorem ZC{m:O (AJ×Bool)}:has m x=true↔x∈m.map (·.1):=by
 unfold has;rw[Q1,bc];constructor
 ·rintro⟨q,a,h⟩;exact⟨q,a,ko h⟩
 ·rintro⟨q,a,h⟩;exact⟨q,a,ZI h⟩
theorem Ks.put{m:O (AJ×Bool)}{S:Ap}(h:Ks m S)(x:AJ):Ks (put m x true) (S++[x]):=by
 unfold P1.put;by_cases c:has m x=true
 ·rw[zo c];have e:(m.map λq=>if q.1=x then(q.1,true)else q).map (·.1)=m.map (·.1):=by
   rw[ZY];exact ZT λq _=>by simp only[Function.comp];split<;>rfl
  refine⟨by rw[e];exact h.nd,λy=>?_⟩;rw[e,h.io,cf,bo];exact⟨.inl,λz=>z.elim id λz=>by rw[z];exact(h.io x).mp (ZC.mp c)⟩
 ·rw[zS c];refine⟨?_,λy=>?_⟩
  ·rw[ZE,j3];refine⟨h.nd,by simp,λa f b d z=>c (ZC.mpr ?_)⟩;have d:b=x:=by simpa using d
   rw[<-d,<-z];exact f
  ·rw[ZE,cf,cf,h.io];exact Iff.rfl
theorem Bk{α:Type}{step:O (AJ×Bool)->α->O (AJ×Bool)}{P:O (AJ×Bool)->α->Y Prop}(f:α->Ap)(U:Ap)(hs:∀m S x,Ks m S->(∀y∈S++f x,y∈U)->B6 (P m x)/\Ks (step m x) (S++f x)):∀(xs:O α) (m:O (AJ×Bool)) (S:Ap),Ks m S->(∀y∈S++xs.flatMap f,y∈U)->mD step P xs m/\Ks (xs.foldl step m) (S++xs.flatMap f)
 |[],m,S,h,_=>⟨trivial,by simpa using h⟩
 |x::xs,m,S,h,hU=>by
  rw[kq,<-Jn]at hU ⊢;obtain⟨a,b⟩:=hs m S x h λy e=>hU y (QR _ e);obtain⟨c,d⟩:=Bk f U hs xs _ _ b hU;exact⟨⟨a,c⟩,d⟩
theorem XL(h:Ws U ws):mD (λ(vf:(O (AJ×Bool))) (b:O Ap)=>(cu  vf b)) (λ(vf:(O (AJ×Bool))) (b:O Ap)=>Z (gQ  vf b)) ws []/\(ws.foldl (λ(vf:(O (AJ×Bool))) (b:O Ap)=>(cu  vf b)) []).length<=8/\bN ((ws.foldl (λ(vf:(O (AJ×Bool))) (b:O Ap)=>(cu  vf b)) []).map (·.1))=aP ws:=by
 have i:=h.u;have l:∀(m:O (AJ×Bool)) (S:Ap) (x:AJ),Ks m S->(∀y∈S++[x],y∈U)->B6 (Z (jO m x))/\Ks (gO m x) (S++[x]):=λm S x k a=>by
  refine⟨?_,k.put x⟩;show m.length<1000;have:=k.len λy g=>a y (QR _ g);omega
 have j:=Bk (λx:AJ=>[x]) U l;have b1:=Bk (λs:Ap=>s.flatMap λx:AJ=>[x]) U (P:=λm s=>Z (jP m s)) (step:=λm s=>gP m s) λm S s k a=>j s m S k a;have b0:=Bk (λw:O Ap=>w.flatMap λs:Ap=>s.flatMap λx:AJ=>[x]) U (P:=λm w=>Z (gQ m w)) (step:=λm w=>cu m w) λm S s k a=>b1 s m S k a;have fl:∀x,x∈[]++(ws.flatMap λw:O Ap=>w.flatMap λs:Ap=>s.flatMap λx:AJ=>[x])↔∃w∈ws,x∈w.flatten:=λx=>by
  simp only[Ki,dS,de,bo];constructor
  ·rintro⟨w,c,s,e,y,a,rfl⟩;exact⟨w,c,s,e,a⟩
  ·rintro⟨w,c,s,e,a⟩;exact⟨w,c,s,e,x,a,rfl⟩
 have f:∀y∈[]++(ws.flatMap λw:O Ap=>w.flatMap λs:Ap=>s.flatMap λx:AJ=>[x]),y∈U:=λy a=>by
  obtain⟨w,c,a⟩:=(fl y).mp a;exact(h.w w c).sub y a
 obtain⟨d,k⟩:=b0 ws [] [] ⟨QQ,λx=>by simp⟩ f;refine⟨d,zv (k.len f) i,?_⟩;unfold aP;exact Vq k.nd (qe _) λx=>by rw[k.io,fl,lA,Kl]
def PR(vx:Ap):O Ap:=(rng 0 (vx.length:Int).toNat).flatMap λk:Int=>(BF vx (Z (k+1)) Y3).map λa:AJ=>[("one":AJ),(at' vx k),a]
def AS(vx:Ap):O Ap:=(vx.map λa:AJ=>[("stands":AJ),a])++PR vx
theorem Nd(xs:Ap):uL xs=(rng 0 (xs.length:Int).toNat).map λk:Int=>(k,at' xs k):=by
 refine fT λk=>?_;unfold uL rng;rw[z5,z5,hI];by_cases h:k<xs.length
 ·rw[k9 h,k9 (),ZH h];simp only[Kb,gu];rw[Qs xs k h]
 ·rw[qA (l:=cw xs.length) (by simp;omega),qA (l:=cw _) (by simp;omega)];rfl
theorem Km(vx:Ap):((uL vx).flatMap λq1:Zf=>((BF vx (Z (q1.1+1)) Y3).map λa:AJ=>[("one":AJ),q1.2,a]))=PR vx:=by
 rw[Nd,List.flatMap_map];rfl
theorem HJ{α β:Type}(g:β->O α):∀(l:O β) (f:O α),l.foldl (λf k=>f++g k) f=f++l.flatMap g
 |[],f=>by simp
 |k::l,f=>by rw[ja,HJ g l,kq,Jn]
theorem ZD(h:vx.length<=8):(PR vx).length<=64:=by
 have:=Rb (λk:Int=>(BF vx (Z (k+1)) Y3).map λa:AJ=>[("one":AJ),(at' vx k),a]) 8 (rng 0 (vx.length:Int).toNat) λk _=>by
  rw[zk];exact zv (Bh ..) h
 rw[iI]at this;exact zv this ()
theorem Rf(h:vx.length<=8):(AS vx).length<=72:=by
 have:=ZD h;unfold AS;rw[ZA,zk];omega
theorem Bl(h:Ws U ws):ur ws/\iD ws/\kh ws=AS (aP ws)/\dh ws=AS (aP ws):=by
 obtain⟨f,a,_⟩:=nF h;obtain⟨e,d,c⟩:=XL h;have pl:=ZD a;refine⟨⟨Rc h,zv a (),⟨λ_ _ _ _=>trivial,?_⟩,qL ?_⟩,⟨e,QA d (),?_⟩,?_,?_⟩
 ·rw[Km];omega
 ·rw[Km,zk];omega
 ·dsimp only;rw[c];refine⟨zv a (),Dr () (),?_⟩;refine(sO (λk (b:O Ap)=>b.length<=8+8*k) _ _ (by rw[zk];omega) λk b hk g=>?_).1;have cl:=Bh (aP ws) (Z ((k:Int)+1)) Y3;refine⟨⟨⟨by omega,λ_ _=>Dq ()⟩,qL (by rw[zk];omega)⟩,?_⟩;unfold gR;dsimp only;rw[ZA,zk];omega
 ·unfold kh AS;dsimp only;rw[Km]
 ·unfold dh AS;dsimp only;rw[c];exact HJ _ _ _
theorem IY(a:AJ)(r:Ap):BF (a::r) (Z 1) Y3=r:=by
 rw[show(1:Int)=((1:Nat):Int) from rfl,pN (by simp)];rfl
theorem EY(w:O Ap)(a x:AJ):aM w [a,x]=true↔x∈w.flatten:=by
 unfold aM;rw[IY,Q1,de];constructor
 ·rintro⟨b,d,e⟩;obtain⟨s,c,rfl⟩:=bc.mp d;exact⟨s,c,by simpa using e⟩
 ·rintro⟨s,c,hx⟩;exact⟨_,bc.mpr ⟨s,c,rfl⟩,by simpa using hx⟩
theorem Bm(w:O Ap)(a x y:AJ):aM w [a,x,y]=true↔same w x y:=by
 unfold aM P1.same;rw[IY,Q1];constructor
 ·rintro⟨b,d,e⟩;obtain⟨s,c,rfl⟩:=bc.mp d;exact⟨s,c,by simpa using e⟩
 ·rintro⟨s,c,hx⟩;exact⟨_,bc.mpr ⟨s,c,rfl⟩,by simpa using hx⟩
theorem ZF(h:Ws U ws){w:O Ap}(a:w∈ws){z:Ap}(d:z.length<=3):xZ w z:=by
 have W:=h.w w a;have:∀(w:O Ap),(∀s∈w,s≠[])->w.length<=w.flatten.length:=λw=>by
  induction w with
  |nil=>intro _;exact qc _
  |cons s w c=>
   intro h;have:=c λs b=>h s (zh _ b);have:=dg.mpr (h s (zg ..));rw[Zs,ZA,ZN];omega
 have:=this w W.ne;have:=h.fl a;exact⟨by omega,λ_ _=>zv (Bh ..) ()⟩
theorem Bo(z:Ap)(g:z.length<=3):∀w:O Ap,nA w z/\cN w z=aM w z:=λw=>by
 have cl:=Bh z (Z 1) Y3;have d:∀w:O Ap,Di (λ(a:Unit) (c:Ap)=>((cW z a c):Kv (Unit) Bool)) (λ(a:Unit) (c:Ap)=>Z (kY z a c)) w cr/\cN w z=aM w z:=λw=>by
  induction w with
  |nil=>exact⟨trivial,rfl⟩
  |cons s w b=>
   have hd:kY z cr s:=zv cl ();unfold cN aM at b ⊢;unfold Di yU;rw[zr,JY];by_cases e:(((BF z (Z 1) Y3).map λf:AJ=>(decide (f∈s))).all id)=true
   ·have:cW z cr s=Kv.rt true:=by unfold cW;rw[zo e]
    rw[this,e];exact⟨⟨hd,trivial⟩,rfl⟩
   ·have:cW z cr s=Kv.nx cr:=by unfold cW;rw[zS e]
    rw[this,Bool.eq_false_iff.mpr e];exact⟨⟨hd,b.1⟩,b.2⟩
 refine⟨⟨(d w).1,?_⟩,(d w).2⟩;unfold JB;split<;>trivial
theorem G'{z:Ap}(h:z∈AS vx):z.length<=3:=by
 rcases cf.mp h with h|h
 ·obtain⟨x,_,rfl⟩:=bc.mp h;simp
 ·obtain⟨k,_,h⟩:=dS.mp h;obtain⟨x,_,rfl⟩:=bc.mp h;simp
theorem VP(h:x∈vx):[("stands":AJ),x]∈AS vx:=QR _ (bc.mpr ⟨x,h,rfl⟩)
theorem LU(hi:i<j)(a:j<vx.length):[("one":AJ),vx[i],vx[j]]∈AS vx:=by
 refine zz _ (dS.mpr ⟨(i:Int),?_,bc.mpr ⟨vx[j],?_,by rw[Qs vx i ()]⟩⟩)
 ·unfold rng;exact bc.mpr ⟨i,di.mpr (),by simp⟩
 ·rw[show(i:Int)+1=((i+1:Nat):Int) from rfl,pN ()];rw[dq];exact⟨j-(i+1),by rw[js];omega,by rw[List.getElem_drop];congr 1;omega⟩
theorem bu(hx:x∈vx)(c:y∈vx)(b:x≠y):[("one":AJ),x,y]∈AS vx\/[("one":AJ),y,x]∈AS vx:=by
 obtain⟨i,hi,rfl⟩:=dq.mp hx;obtain⟨j,a,rfl⟩:=dq.mp c;rcases iX i j with h|h|h
 ·exact .inl (LU h a)
 ·subst h;exact absurd S b
 ·exact .inr (LU h hi)
theorem oh{w:O Ap}(h:same w x y):x∈w.flatten/\y∈w.flatten:=by
 obtain⟨s,a,hx,b⟩:=h;exact⟨de.mpr ⟨s,a,hx⟩,de.mpr ⟨s,a,b⟩⟩
theorem HN{w:O Ap}:same w x y↔same w y x:=⟨λ⟨s,hs,a,b⟩=>⟨s,hs,b,a⟩,λ⟨s,hs,a,b⟩=>⟨s,hs,b,a⟩⟩
theorem C1{w:O Ap}:same w x x↔x∈w.flatten:=⟨λh=>(oh h).1,λh=>by
 obtain⟨s,b,a⟩:=de.mp h;exact⟨s,b,a,a⟩⟩
theorem SW(h:Ws U ws){w w':O Ap}(g:w∈ws)(j:w'∈ws)(e:(AS (aP ws)).map (aM w)=(AS (aP ws)).map (aM w')):w=w':=by
 have N:=(nF h).2.2;have c:∀z∈AS (aP ws),aM w z=aM w' z:=λz l=>List.map_inj_left.mp e z l;have f1:∀x,x∈aP ws->(x∈w.flatten↔x∈w'.flatten):=λx hx=>by
  rw[<-EY w "stands" x,<-EY w' "stands" x,c _ (VP hx)]
 have f:∀x,x∈w.flatten->x∈aP ws:=λx hx=>(N x).mpr ⟨w,g,hx⟩;have d:∀x,x∈w'.flatten->x∈aP ws:=λx hx=>(N x).mpr ⟨w',j,hx⟩;have f2:∀x y,x∈aP ws->y∈aP ws->(same w x y↔same w' x y):=λx y hx m=>by
  by_cases i:x=y
  ·subst i;rw[C1,C1];exact f1 x hx
  ·rcases bu hx m i with a|a
   ·rw[<-Bm w "one" x y,<-Bm w' "one" x y,c _ a]
   ·rw[HN,HN (w:=w'),<-Bm w "one" y x,<-Bm w' "one" y x,c _ a]
 refine VZ (h.w w g) (h.w w' j) (λx=>⟨λhx=>(f1 x (f x hx)).mp hx,λhx=>(f1 x (d x hx)).mpr hx⟩) λx y=>⟨λb=>(f2 x y (f x (oh b).1) (f y (oh b).2)).mp b,λb=>(f2 x y (d x (oh b).1) (d y (oh b).2)).mpr b⟩
theorem yq(bs:O Bool):∀ns:O Int,(bC ns bs true).length+(bC ns bs false).length=ns.length
 |[]=>rfl
 |n::ns=>by
  have:=yq bs ns;unfold bC at *
  rw[kz,kz];cases at' bs n with
  |true=>
   rw[zo (by rfl),zS (),ZN,ZN];omega
  |false=>
   rw[zS (),zo (by rfl),ZN,ZN];omega
theorem pR(ns:O Int)(bs:O Bool):dG ns bs=true↔0<(bC ns bs true).length/\0<(bC ns bs false).length:=by
 have:=yq bs ns;unfold dG;rw[ZO,qS,qS];constructor<;>intro h<;>omega
theorem Oi:∀(p:Int×Dt) (r:O (Int×Dt)),zQ p r∈p::r
 |p,[]=>zg
 |p,x::r=>by
  unfold zQ;have:=Oi (if x.1<p.1 then x else p) r;rcases List.mem_cons.mp this with h|h
  ·rw[h];split
   ·exact zh _ zg
   ·exact zg
  ·exact zh _ (zh _ h)
theorem Tq:∀(p:Int×Dt) (r:O (Int×Dt)),∀x∈p::r,(zQ p r).1<=x.1
 |p,[],x,h=>by rw[bo.mp h];exact i5 _
 |p,y::r,x,h=>by
  unfold zQ;have a:=Tq (if y.1<p.1 then y else p) r;have h0:=a _ zg;have hp:(if y.1<p.1 then y else p).1<=p.1/\(if y.1<p.1 then y else p).1<=y.1:=by
   split
   ·omega
   ·omega
  rcases List.mem_cons.mp h with e|h
  ·rw[e];omega
  ·rcases List.mem_cons.mp h with e|h
   ·rw[e];omega
   ·exact a x (zh _ h)
theorem CA{l:O (Int×Dt)}(h:l≠[]):Qy l∈l:=by
 cases l with
 |nil=>exact absurd S h
 |cons p r=>exact Oi p r
theorem EB{l:O (Int×Dt)}{x:Int×Dt}(h:x∈l):(Qy l).1<=x.1:=by
 cases l with
 |nil=>cases h
 |cons p r=>exact Tq p r x h
theorem Tr(h:∃q∈as,dG ns q.2=true){f:AQ->Int×Dt}:(as.filter λq=>dG ns q.2).map f≠[]:=λz=>by
 obtain⟨q,a,e⟩:=h;have:=ic.mp z;exact absurd (df.mpr ⟨a,e⟩) (by rw[this];exact qv)
theorem ZG(h:Nk (m+1) as ns)(a:m+1<=9)(hn:ns.length≠1):∃q∈as,dG ns q.2=true/\Lq as ns=Qz (Lq as (bC ns q.2 true)) (Lq as (bC ns q.2 false)) q.1:=by
 obtain⟨_,h1|⟨_,h1,_⟩⟩:=id h
 ·exact absurd h1 hn
 have:=CA (Tr h1 (f:=λq=>Qz (Lq as (bC ns q.2 true)) (Lq as (bC ns q.2 false)) q.1));rw[<-JW h a hn]at this;obtain⟨q,b,e⟩:=bc.mp this;obtain⟨q1,q2⟩:=df.mp b;exact⟨q,q1,q2,e.symm⟩
theorem Rh:∀(m:Nat) {as:O AQ} {ns:O Int},Nk m as ns->m<=9->0<=(Lq as ns).1/\(Lq as ns).1+1<=ns.length
 |0,_,_,h,_=>h.elim
 |m+1,as,ns,h,hm=>by
  by_cases hn:ns.length=1
  ·rw[DK hn];exact⟨i5 _,by show(0:Int)+1<=_;omega⟩
  ·obtain⟨q,q1,q2,e⟩:=ZG h hm hn;obtain⟨_,h1|⟨_,_,h1⟩⟩:=h
   ·exact absurd h1 hn
   obtain⟨a,b⟩:=h1 q q1 q2;have i1:=Rh m a ();have i2:=Rh m b ();have sl:=yq q.2 ns;obtain⟨p1,p2⟩:=(pR ns q.2).mp q2;rw[e];unfold Qz;dsimp only;split<;>omega
theorem oU(h:Ws U ws):aQ ws=(AS (aP ws)).map λz=>(z,ws.map λw=>aM w z):=by
 unfold aQ;rw[(Bl h).2.2.1]
theorem jh[Inhabited α]{xs:O α}{k:Nat}(h:k<xs.length):at' xs (k:Int)=xs[k]:=Qq (ZH h)
theorem Ko{z:Ap}{k:Nat}(hk:k<ws.length):at' (ws.map λw=>aM w z) (k:Int)=aM (at' ws (k:Int)) z:=by
 rw[jh (by rw[zk];exact hk),jh hk,ky]
theorem RC(n:Nat):(rng 0 n).Nodup:=by
 unfold rng;refine dm.mpr ((gE (n:=n)).imp ?_);intro a b h e;exact h (by have:0+(a:Int)=0+(b:Int):=e;omega)
theorem yr(hs:ns.Sublist (rng 0 n)){i:Int}(hi:i∈ns):∃k:Nat,k<n/\i=(k:Int):=jg (hs.subset hi)
theorem yu{bs:O Bool}{c:Bool}{i:Int}:i∈bC ns bs c↔i∈ns/\at' bs i=c:=by
 unfold bC;rw[df,qS]
theorem Bp(h:Ws U ws):∀(m:Nat) (ns:O Int),ns.Sublist (rng 0 ws.length)->1<=ns.length->ns.length<=m->Nk m (aQ ws) ns
 |0,ns,_,h1,h2=>by omega
 |m+1,ns,hs,h1,h2=>by
  have ea:=oU h;have D:∀q∈aQ ws,∀n∈ns,In q.2.length n:=λq s n d=>by
   rw[ea]at s;obtain⟨z,_,rfl⟩:=bc.mp s;obtain⟨k,hk,rfl⟩:=yr hs d;show In (ws.map λw=>aM w z).length (k:Int);rw[zk];exact⟨by omega,by omega⟩
  refine⟨D,?_⟩;by_cases d:ns.length=1
  ·exact .inl d
  refine .inr ⟨d,?_,λq s hp=>?_⟩
  ·obtain⟨a,b,r,e⟩:∃a b r,ns=a::b::r:=by
    match ns,h1,d with
    |a::b::r,_,_=>exact⟨a,b,r,rfl⟩
    |[a],_,d=>exact absurd S d
   have v:ns.Nodup:=(RC _).sublist hs;have x:a∈ns:=by rw[e];exact zg
   have y:b∈ns:=by rw[e];exact zh _ zg
   have C:a≠b:=by
    rw[e]at v;exact λz=>(cz.mp v).1 (z▸zg)
   obtain⟨i,hi,rfl⟩:=yr hs x;obtain⟨j,o,rfl⟩:=yr hs y;by_cases B:∀z∈AS (aP ws),aM (at' ws (i:Int)) z=aM (at' ws (j:Int)) z
   ·have:=SW h (w:=at' ws (i:Int)) (w':=at' ws (j:Int)) (by rw[jh hi];exact kc hi) (by rw[jh o];exact kc o) (ZT B);rw[jh hi,jh o]at this;exact absurd (congrArg _ ((i6 h.nd).mp this)) C
   ·obtain⟨z,p⟩:=Classical.not_forall.mp B;obtain⟨p,f⟩:=Classical.not_imp.mp p;refine⟨(z,ws.map λw=>aM w z),by rw[ea];exact bc.mpr ⟨z,p,rfl⟩,(pR _ _).mpr ?_⟩;have A:∀c,at' (ws.map λw=>aM w z) (i:Int)=c->(i:Int)∈bC ns (ws.map λw=>aM w z) c:=λc e=>yu.mpr ⟨x,e⟩;have u:∀c,at' (ws.map λw=>aM w z) (j:Int)=c->(j:Int)∈bC ns (ws.map λw=>aM w z) c:=λc e=>yu.mpr ⟨y,e⟩;rw[<-Ko hi,<-Ko o]at f;cases l:at' (ws.map λw=>aM w z) (i:Int)with
    |true=>
     cases g:at' (ws.map λw=>aM w z) (j:Int)with
     |true=>rw[l,g]at f;exact absurd S f
     |false=>exact⟨JS (A _ l),JS (u _ g)⟩
    |false=>
     cases g:at' (ws.map λw=>aM w z) (j:Int)with
     |false=>rw[l,g]at f;exact absurd S f
     |true=>exact⟨JS (u _ g),JS (A _ l)⟩
  ·have sl:=yq q.2 ns;obtain⟨p1,p2⟩:=(pR ns q.2).mp hp;exact⟨Bp h m _ (da.trans hs) () (),Bp h m _ (da.trans hs) () ()⟩
theorem Kq(h:Ws U ws):(aQ ws).length<=100:=by
 rw[oU h,zk];have:=Rf (vx:=aP ws) (nF h).2.1;omega
theorem VR(n:Nat):(rng 0 n).length=n:=by rw[iI]
theorem Oj(h:Ws U ws)(c:ws≠[]):eZ ws/\bT ws=Lq (aQ ws) (rng 0 ws.length)/\Nk 9 (aQ ws) (rng 0 ws.length):=by
 have hp:=dg.mpr c;have e:=h.n;have ok:=Bp h 9 (rng 0 ws.length) (List.Sublist.refl _) (by rw[VR];omega) (by rw[VR];omega);obtain⟨a1,_,a,_⟩:=Bl h;have al:=Rf (vx:=aP ws) (nF h).2.1;refine⟨⟨⟨⟨a1,by rw[a];omega⟩,λz d=>⟨by omega,λw b=>ZF h b (G' (by rw[<-a];exact d))⟩⟩,e,by have:=Kq h;omega,ok⟩,rfl,ok⟩
theorem Ix(a:Ap):FT (eT eS a)=a:=by
 show(a.map eS).map IQ=a;rw[ZY];exact kn _
theorem HS(i:Int):fY (.int i)=true:=rfl
theorem CM(i:Int):Fg (.int i) (.int i)=true/\Vg (.int i) (.int i):=by
 have e:uI (.int i) (.int i)=Z (decide (i=i)):=BB.eq (e:=eI) (n:=1) i i;unfold Fg Vg;rw[e,ZI rfl];exact⟨rfl,rfl,by show min 1 1<=100;decide⟩
theorem Kr(h:Ws U ws):∀(m k:Nat) (ns:O Int),Nk m (aQ ws) ns->m<=9->m<=k->ns.Sublist (rng 0 ws.length) →
  bJ k ws (AS (aP ws)) (Lq (aQ ws) ns).2 ns/\bA k ws (AS (aP ws)) (Lq (aQ ws) ns).2 ns=Z (Lq (aQ ws) ns).1
 |0,_,_,ok,_,_,_=>ok.elim
 |m+1,0,_,_,_,hk,_=>absurd hk (hW _)
 |m+1,k+1,ns,ok,hm,hk,hs=>by
  have L:=h.n;have K:ns.length<=8:=zv hs.length_le (by rw[VR];omega);by_cases l:ns.length=1
  ·obtain⟨i,rfl⟩:∃i,ns=[i]:=List.length_eq_one_iff.mp l;have e1:at' [i] (0:Int)=i:=Qq (k:=0) rfl;have f:In [i].length (0:Int):=⟨by show -1<=0;omega,by show(0:Int)<1;omega⟩;obtain⟨x1,G⟩:=CM i;rw[DK l,e1];have c1:nM (.tup [.str "told", .int i]) (1:Int)=.int i:=rfl;have p:nM (.tup [.str "told", .int i]) (0:Int)=.str "told":=rfl;have o:Fg (.str "told") (.str "told")=true:=by decide +kernel
   have z0:Fg (.tup [.str "told", .int i]) (.tup [])=false:=rfl;unfold bJ bA;dsimp only;rw[c1,p,o,z0,HS,e1,x1];refine⟨⟨λ_=>⟨rfl,by show min _ 1<=100;omega⟩,λ_=>⟨λ_=>⟨rfl,λ_=>⟨⟨⟨by show -2<=0;omega,by show(0:Int)<2;omega⟩,⟨by decide +kernel,by show min 1 1<=100;decide⟩⟩,λ_=>⟨⟨by show -2<=1;omega,by show(1:Int)<2;omega⟩,λ_=>⟨⟨⟨by show -2<=1;omega,by show(1:Int)<2;omega⟩,f⟩,G⟩⟩⟩⟩,λz=>(by simp at z)⟩⟩,?_⟩;rfl
  ·obtain⟨q,q1,q2,e⟩:=ZG ok hm l;obtain⟨_,h1|⟨_,_,h1⟩⟩:=id ok
   ·exact absurd h1 l
   obtain⟨H,J⟩:=h1 q q1 q2;have ea:=oU h;obtain⟨z,s,D⟩:∃z∈AS (aP ws),(z,ws.map λw=>aM w z)=q:=by
    rw[ea]at q1;obtain⟨z,s,e⟩:=bc.mp q1;exact⟨z,s,e⟩
   have I:q.1=z:=by rw[<-D]
   have eb:q.2=ws.map λw=>aM w z:=by rw[<-D]
   have z3:=G' s;have ev:∀v∈ns,cN (at' ws v) z=at' q.2 v:=λv g=>by
    obtain⟨i,hi,rfl⟩:=yr hs g;rw[eb,Ko hi];exact(Bo z z3 _).2
   have er:((ns.filter λd:Int=>(cN (at' ws d) z)).map λd:Int=>d)=bC ns q.2 true:=by
    rw[kn];refine KB λv g=>?_;rw[ev v g];cases at' q.2 v<;>rfl
   have A:((ns.filter λd:Int=>(!decide (d∈bC ns q.2 true))).map λd:Int=>d)=bC ns q.2 false:=by
    rw[kn];refine KB λv g=>?_;cases c:at' q.2 v with
    |true=>rw[ZI (yu.mpr ⟨g,c⟩)];rfl
    |false=>rw[Zp (λm=>by have:=(yu.mp m).2;rw[c]at this;cases this)];rfl
   obtain⟨p1,p2⟩:=(pR ns q.2).mp q2;obtain⟨E,ty⟩:=Kr h m k _ H () () (da.trans hs);obtain⟨dn,tn⟩:=Kr h m k _ J () () (da.trans hs);have B:bC ns q.2 true≠[]:=λe=>by rw[e]at p1;exact absurd p1 ()
   have y:bC ns q.2 false≠[]:=λe=>by rw[e]at p2;exact absurd p2 ()
   have x:yV z (AS (aP ws))=true:=M5.mpr s;rw[e,I];generalize Lq (aQ ws) (bC ns q.2 true)=Y at E ty;generalize Lq (aQ ws) (bC ns q.2 false)=N at dn tn;unfold Qz;dsimp only;have p:nM (.tup [.str "ask",eT eS z,Y.2,N.2]) (0:Int)=.str "ask":=rfl;have c1:nM (.tup [.str "ask",eT eS z,Y.2,N.2]) (1:Int)=eT eS z:=rfl;have c2:nM (.tup [.str "ask",eT eS z,Y.2,N.2]) (2:Int)=Y.2:=rfl;have F:nM (.tup [.str "ask",eT eS z,Y.2,N.2]) (3:Int)=N.2:=rfl;have o:Fg (.str "ask") (.str "ask")=true:=by decide +kernel
   have z0:Fg (.tup [.str "ask",eT eS z,Y.2,N.2]) (.tup [])=false:=rfl;have C:decide ((ns.length:Int)=1)=false:=Zp λz=>l ();have u:decide (Dc (.tup [.str "ask",eT eS z,Y.2,N.2])=4)=true:=ZI rfl;have f:∀j:Int,0<=j->j<4->Qj (.tup [.str "ask",eT eS z,Y.2,N.2]) j:=λj a b=>⟨by show -4<=j;omega,by show j<4;omega⟩;constructor
   ·unfold bJ;dsimp only;rw[p,c1,c2,F,o,z0,C,u,Ix,x,er,A,ty,tn,Zp B,Zp y];refine⟨λ_=>⟨rfl,by show min _ 1<=100;omega⟩,λ_=>⟨λz=>kH z,λ_=>⟨⟨rfl,λ_=>⟨⟨f 0 () (),by decide +kernel,by show min 1 1<=100;decide⟩,λ_=>⟨f 1 () (),rfl⟩⟩⟩,λ_=>⟨⟨by omega,λv g=>⟨⟨?_,f 1 () (),rfl⟩,(Bo z z3 _).1⟩⟩,by omega,λ_=>⟨⟨⟨f 2 () (),E⟩,f 3 () (),dn⟩,λ_=>⟨rfl,rfl⟩⟩⟩⟩⟩⟩;obtain⟨i,hi,rfl⟩:=yr hs g;exact⟨by omega,by omega⟩
   ·unfold bA;dsimp only;rw[p,c1,c2,F,o,z0,C,u,Ix,x,er,A,ty,tn,Zp B,Zp y];rfl
def dD(s:Nat):O Int:=(rng 0 8).filter λk:Int=>s.testBit k.toNat
theorem ZJ:∀s:Fin 256,1<=s.val->((s.val &&& (s.val-1))=0↔(dD s.val).length=1):=by decide +kernel
theorem Fd:∀s:Fin 256,(dD s.val).length=0↔s.val=0:=by decide +kernel
theorem V0:∀n:Fin 9,dD (2 ^ n.val-1)=rng 0 n.val:=by decide +kernel
theorem cK:∀n:Fin 9,(rng 0 8).filter (λk:Int=>decide (k<n.val))=rng 0 n.val:=by decide +kernel
def mN:Nat->(Nat->Bool)->Nat
 |0,_=>0
 |n+1,p=>(if p n=true then 2 ^ n else 0)+mN n p
theorem FE(n:Nat)(p:Nat->Bool):mN (n+1) p=(if p n=true then 2 ^ n else 0)+mN n p:=rfl
theorem L0:∀(n:Nat) (p:Nat->Bool),mN n p<2 ^ n
 |0,_=>Nat.zero_lt_one
 |n+1,p=>by
  have:=L0 n p;unfold mN;rw[ir];split<;>omega
theorem Ri:∀(n:Nat) (p:Nat->Bool) (j:Nat),(mN n p).testBit j=(decide (j<n)&&p j)
 |0,p,j=>by
  show(0:Nat).testBit j=_;rw[Nat.zero_testBit,Zp (gL j),kg]
 |n+1,p,j=>by
  have a:=Ri n p j;have lt:=L0 n p;unfold mN;by_cases hp:p n=true
  ·rw[zo hp];by_cases e:j=n
   ·subst e;rw[Nat.testBit_two_pow_add_eq,KF lt,ZI (QI j),hp];rfl
   ·by_cases l:j<n
    ·rw[Nat.testBit_two_pow_add_gt l,a,ZI l,ZI (qh l)]
    ·rw[KF (Zl (show 2 ^ n+mN n p<2 ^ (n+1) by rw[ir];omega) (JO () ())),Zp (),kg]
  ·rw[zS hp,ew,a];by_cases e:j=n
   ·subst e;rw[Zp (JU _),kg];cases q:p j with
    |true=>exact absurd q hp
    |false=>rw[KA]
   ·rw[show decide (j<n)=decide (j<n+1) from decide_eq_decide.mpr ()]
theorem Ol:∀(n:Nat) {p q:Nat->Bool},(∀k,k<n->p k=q k)->mN n p=mN n q
 |0,_,_,_=>rfl
 |n+1,p,q,h=>by
  unfold mN;rw[h n (QI n),Ol n λk hk=>h k (qh hk)]
theorem ZK(p q:Nat->Bool):∀n:Nat,mN n p=mN n (λk=>p k&&q k)+mN n (λk=>p k&&!q k)
 |0=>rfl
 |n+1=>by
  have:=ZK p q n;rw[FE,FE,FE];have e:(if p n=true then 2 ^ n else 0)=(if(p n&&q n)=true then 2 ^ n else 0)+if(p n&&!q n)=true then 2 ^ n else 0:=by cases p n<;>cases q n<;>simp
  rw[e];omega
theorem Tt:∀s:Fin 256,mN 8 (λk=>s.val.testBit k)=s.val:=by decide +kernel
theorem P5{s t:Nat}(hs:s<256){k:Nat}(hk:k<8):(s-(s &&& t)).testBit k=(s.testBit k&&!t.testBit k):=by
 have e1:=Tt ⟨s,hs⟩;have hx:s &&& t<256:=QA Nat.and_le_left hs;have e2:=Tt ⟨s &&& t,hx⟩;have e3:mN 8 (λk=>(s &&& t).testBit k)=mN 8 (λk=>s.testBit k&&t.testBit k):=Ol 8 λk _=>Nat.testBit_and ..;have b:=ZK (λk=>s.testBit k) (λk=>t.testBit k) 8;have a:s-(s &&& t)=mN 8 (λk=>s.testBit k&&!t.testBit k):=by
  dsimp only at e1 e2;rw[e3]at e2;omega
 rw[a,Ri,ZI hk,kL]
theorem CS{s:Nat}(hn:n<=8)(hs:s<2 ^ n):(dD s).Sublist (rng 0 n):=by
 have e:=cK ⟨n,by omega⟩;rw[<-e];unfold dD;have:(rng 0 8).filter (λk:Int=>s.testBit k.toNat)=((rng 0 8).filter λk:Int=>decide (k<n)).filter (λk:Int=>s.testBit k.toNat):=by
  rw[fm];refine KB λk hk=>?_;obtain⟨i,hi,rfl⟩:=jg hk;by_cases l:i<n
  ·rw[ZI (show(i:Int)<n by omega),kM]
  ·rw[Zp (show ¬ (i:Int)<n by omega),KA];exact KF (Zl hs (JO () ()))
 rw[this];exact da
def mq(ws:O (O Ap))(z:Ap):Nat:=mN ws.length λk=>aM (at' ws (k:Int)) z
theorem Tv(z:Ap)(b:z.length<=3):∀n:Nat,(((rng 0 n).filter λa:Int=>(cN (at' ws a) z)).map λa:Int=>((1:Int)*2 ^ a.toNat)).sum=((mN n λk=>aM (at' ws (k:Int)) z:Nat):Int)
 |0=>rfl
 |n+1=>by
  have e:rng 0 (n+1)=rng 0 n++[(n:Int)]:=by
   unfold rng;rw[List.range_succ,ZE];exact congrArg _ (congrArg (λx=>[x]) (by show(0:Int)+(n:Int)=(n:Int);omega))
  rw[e,iA,ZE,List.sum_append,Tv z b n,kz,(Bo z b _).2,FE];generalize mN n (λk=>aM (at' ws (k:Int)) z)=M;cases aM (at' ws (n:Int)) z with
  |true=>
   rw[zo rfl,zo rfl,Int.natCast_add,ez];simp only[List.filter_nil,zr,kl,fA,List.sum_nil,Z3];show _=(((2:Nat):Int)) ^ n+_;have:(((2:Nat):Int)) ^ n=2 ^ n:=rfl;rw[this];omega
  |false=>
   rw[zS zC,zS zC];simp
theorem ZL(h:Ws U ws){s:Nat}(hs:s<2 ^ ws.length)(z:Ap):dD (s &&& mq ws z)=bC (dD s) (ws.map λw=>aM w z) true/\dD (s-(s &&& mq ws z))=bC (dD s) (ws.map λw=>aM w z) false:=by
 have b:=h.n;have d:s<256:=Zl hs (JO () b);have e:∀i:Nat,i<8->s.testBit i=true->i<ws.length:=λi _ a=>by
  refine Nat.lt_of_not_le λl=>?_;rw[KF (Zl hs (JO () l))]at a;cases a
 have one:∀c:Bool,∀i:Nat,i<8->(s.testBit i&&(decide (c=true)==(mq ws z).testBit i))=(decide (at' (ws.map λw=>aM w z) (i:Int)=c)&&s.testBit i):=λc i hi=>by
  cases a:s.testBit i with
  |false=>rw[kg,KA]
  |true=>
   have l:=e i hi a;rw[kL,kM,Ko l];unfold mq;rw[Ri,ZI l,kL];cases c<;>cases aM (at' ws (i:Int)) z<;>rfl
 constructor
 ·unfold dD bC;rw[fm];refine KB λk hk=>?_;obtain⟨i,hi,rfl⟩:=jg hk;have:=one true i hi;rw[Z3,Nat.testBit_and,<-this];cases s.testBit i<;>cases(mq ws z).testBit i<;>rfl
 ·unfold dD bC;rw[fm];refine KB λk hk=>?_;obtain⟨i,hi,rfl⟩:=jg hk;have:=one false i hi;rw[Z3,P5 d hi,<-this];cases s.testBit i<;>cases(mq ws z).testBit i<;>rfl
theorem ZM(i:Int)(n:Nat):rng i (n+1)=i::rng (i+1) n:=by
 unfold rng;rw[gX,zr,ZY];refine congr (congrArg _ (by show i+((0:Nat):Int)=i;omega)) (ZT λk _=>?_);show i+((k+1:Nat):Int)=i+1+(k:Int);omega
theorem HW{σ:Type}{step:σ->Int->σ}{P:σ->Int->Y Prop}(I:Nat->σ->Prop):∀(m a:Nat) (s:σ),I a s->(∀(k:Nat) s,a<=k->k<a+m->I k s->B6 (P s (k:Int))/\I (k+1) (step s (k:Int)))->mD step P (rng (a:Int) m) s/\I (a+m) ((rng (a:Int) m).foldl step s)
 |0,a,s,h,_=>⟨trivial,h⟩
 |m+1,a,s,h,hs=>by
  obtain⟨d,i⟩:=hs a s (zi _) () h;have b:=HW I m (a+1) (step s (a:Int)) i λk s h1 h2=>hs k s () ();rw[ZM,show(a:Int)+1=((a+1:Nat):Int) by omega];refine⟨⟨d,b.1⟩,?_⟩;rw[ja,show a+(m+1)=a+1+m by omega];exact b.2
theorem Tw(a b:Nat):Builtin.bitAnd (a:Int) (b:Int)=((a &&& b:Nat):Int):=by
 unfold Builtin.bitAnd;rw[ZI (show(0:Int)<=(a:Int) by omega),ZI (show(0:Int)<=(b:Int) by omega)];rfl
def EH(ws:O (O Ap))(s:Nat):Int:=(Lq (aQ ws) (dD s)).1
structure Dp (ws:List (List Ap)) (j:Nat) (vn:List Int):Prop where
 ln:vn.length=2 ^ ws.length
 dn:∀s,1<=s->s<j->s<2 ^ ws.length->at' vn (s:Int)=EH ws s
 nu:∀s,j<=s->s<2 ^ ws.length->at' vn (s:Int)=0
theorem Rj(h:Ws U ws):2 ^ ws.length<=256:=JO () h.n
theorem ZP(h:Ws U ws)(i:j<2 ^ ws.length)(I:Dp ws j vn)(z:Ap)(a:Int):
  gA vn (j:Int) a ((mq ws z:Nat):Int)/\cL vn (j:Int) a ((mq ws z:Nat):Int)=if dG (dD j) (ws.map λw=>aM w z)=true then(if(Qz (Lq (aQ ws) (bC (dD j) (ws.map λw=>aM w z) true)) (Lq (aQ ws) (bC (dD j) (ws.map λw=>aM w z) false)) z).1<a then(Qz (Lq (aQ ws) (bC (dD j) (ws.map λw=>aM w z) true)) (Lq (aQ ws) (bC (dD j) (ws.map λw=>aM w z) false)) z).1 else a)else a:=by
 have hp:=Rj h;obtain⟨b1,b2⟩:=ZL h i z;have n:j &&& mq ws z<=j:=Nat.and_le_left;have d:=Fd ⟨j &&& mq ws z,by omega⟩;have b:=Fd ⟨j-(j &&& mq ws z),by omega⟩;dsimp only at d b;rw[b1]at d;rw[b2]at b;have l:(j:Int)-((j &&& mq ws z:Nat):Int)=((j-(j &&& mq ws z):Nat):Int):=by omega
 have f:=pR (dD j) (ws.map λw=>aM w z);unfold gA cL;dsimp only;rw[Tw,l];have g:((!decide (((j &&& mq ws z:Nat):Int)=0))&&(!decide (((j-(j &&& mq ws z):Nat):Int)=0)))=dG (dD j) (ws.map λw=>aM w z):=by
  rw[kF,f,ZO,Q2,Q2,jv,jv];constructor
  ·rintro⟨c1,c2⟩;exact⟨Kn λe=>c1 (by rw[d.mp e];rfl),Kn λe=>c2 (by rw[b.mp e];rfl)⟩
  ·rintro⟨c1,c2⟩;exact⟨λe=>by have:=d.mpr ();omega,λe=>by have:=b.mpr ();omega⟩
 rw[g];by_cases c:dG (dD j) (ws.map λw=>aM w z)=true
 ·obtain⟨c1,c2⟩:=f.mp c;have g1:1<=j &&& mq ws z:=Kn λe=>by have:=d.mpr e;omega
  have g2:1<=j-(j &&& mq ws z):=Kn λe=>by have:=b.mpr e;omega
  have e1:=I.dn _ g1 () ();have e2:=I.dn _ g2 () ();unfold EH at e1 e2;rw[b1]at e1;rw[b2]at e2;rw[zo c,zo c,e1,e2];have m:=I.ln;exact⟨λ_=>⟨⟨by omega,by omega⟩,⟨by omega,by omega⟩⟩,rfl⟩
 ·rw[zS c,zS c];exact⟨λz=>absurd z c,rfl⟩
theorem HX(h:Ws U ws){j:Nat}(i:j<2 ^ ws.length){vn:O Int}(I:Dp ws j vn):∀(zs:O Ap) (a:Int),
  mD (λ(a:Int) (d:Int)=>(cL vn (j:Int) a d)) (λ(a:Int) (d:Int)=>Z (gA vn (j:Int) a d)) (zs.map λz=>((mq ws z:Nat):Int)) a ∧
  ∃r,(zs.map λz=>((mq ws z:Nat):Int)).foldl (λ(a:Int) (d:Int)=>(cL vn (j:Int) a d)) a=r/\r<=a/\(∀x∈(((zs.map λz=>(z,ws.map λw=>aM w z)).filter λq:AQ=>dG (dD j) q.2).map λq=>Qz (Lq (aQ ws) (bC (dD j) q.2 true)) (Lq (aQ ws) (bC (dD j) q.2 false)) q.1),r<=x.1) ∧
   (r=a\/∃x∈(((zs.map λz=>(z,ws.map λw=>aM w z)).filter λq:AQ=>dG (dD j) q.2).map λq=>Qz (Lq (aQ ws) (bC (dD j) q.2 true)) (Lq (aQ ws) (bC (dD j) q.2 false)) q.1),r=x.1)
 |[],a=>⟨trivial,a,rfl,i5 _,(λ_ h=>by cases h),.inl rfl⟩
 |z::zs,a=>by
  obtain⟨d1,e1⟩:=ZP h i I z a;obtain⟨d2,r,e2,b,g,f⟩:=HX h i I zs (cL vn (j:Int) a ((mq ws z:Nat):Int));rw[zr,zr,ja];refine⟨⟨d1,d2⟩,r,e2,?_⟩;rw[e1]at b f;rw[kz];by_cases c:dG (dD j) (ws.map λw=>aM w z)=true
  ·rw[zo c]at b f;rw[zo c,zr];refine⟨by split at b<;>omega,λx hx=>?_,?_⟩
   ·rcases List.mem_cons.mp hx with e|hx
    ·rw[e];show r<=(Qz (Lq (aQ ws) (bC (dD j) (ws.map λw=>aM w z) true)) (Lq (aQ ws) (bC (dD j) (ws.map λw=>aM w z) false)) z).1;split at b<;>omega
    ·exact g x hx
   ·rcases f with e|⟨x,hx,e⟩
    ·split at e
     ·exact .inr ⟨_,zg,e⟩
     ·exact .inl e
    ·exact .inr ⟨x,zh _ hx,e⟩
  ·rw[zS c]at b f;rw[zS c];exact⟨b,g,f⟩
theorem Wl(h:Ws U ws)(h1:1<=j)(l:j<2 ^ ws.length)(I:Dp ws j vn):
  gB (ws.length:Int) ((AS (aP ws)).map λz=>((mq ws z:Nat):Int)) vn (j:Int)/\Dp ws (j+1) (d8 (ws.length:Int) ((AS (aP ws)).map λz=>((mq ws z:Nat):Int)) vn (j:Int)):=by
 have hp:=Rj h;have u:=I.ln;have bs:=CS h.n l;have i:=ZJ ⟨j,by omega⟩ h1;have w:=Fd ⟨j,by omega⟩;dsimp only at i w;have bl:(dD j).length<=ws.length:=zv bs.length_le (by rw[VR];exact zi _);have B:(j:Int)-1=((j-1:Nat):Int):=by omega
 unfold gB d8;dsimp only;rw[B,Tw];by_cases c:(dD j).length=1
 ·have A:=i.mpr c;have g:(!decide (((j &&& (j-1):Nat):Int)=0))=false:=by rw[A];rfl
  rw[g,zS zC];refine⟨λz=>kH z,u,λs a b o=>?_,λs a b=>I.nu s () b⟩;by_cases e:s=j
  ·subst e;rw[I.nu _ (zi _) l];unfold EH;rw[DK c]
  ·exact I.dn s a () o
 ·have g:(!decide (((j &&& (j-1):Nat):Int)=0))=true:=by
   rw[Zp (λz=>c (i.mp ()))];rfl
  rw[g,zo rfl];obtain⟨d,r,er,C,p,v⟩:=HX h l I (AS (aP ws)) (ws.length:Int);rw[<-oU h]at p v;rw[er];have ok:=Bp h 9 (dD j) bs (by have:=mt w.mp (show j≠0 by omega);omega) (by have:=h.n;omega);have ev:r=EH ws j:=by
   unfold EH;obtain⟨_,m|⟨_,m,_⟩⟩:=id ok
   ·exact absurd m c
   have y:=CA (Tr m (f:=λq=>Qz (Lq (aQ ws) (bC (dD j) q.2 true)) (Lq (aQ ws) (bC (dD j) q.2 false)) q.1));have lt:=Rh 9 ok (zi _);rw[JW ok (zi _) c]at lt ⊢;have le:=p _ y;rcases v with e|⟨x,hx,e⟩
   ·omega
   ·have:=EB hx;omega
  refine⟨λ_=>⟨d,by omega,by omega⟩,by rw[QE];exact u,λs a b o=>?_,λs a b=>?_⟩
  ·rw[Z3];by_cases e:s=j
   ·subst e;rw[jh (by rw[QE];omega),List.getElem_set_self];exact ev
   ·rw[jh (by rw[QE];omega),ie (λz=>e z.symm),<-jh ()];exact I.dn s a () o
  ·rw[Z3,jh (by rw[QE];omega),ie (),<-jh ()];exact I.nu s () b
theorem ZQ(n:Nat):(ab n [(0:Int)]).flatten=ab n 0:=by
 induction n with
 |zero=>rfl
 |succ n a=>rw[qo,Zs,a,qo];rfl
theorem Om(h:Ws U ws):∀(zs:O Ap) (a:O Int),(∀z∈zs,z.length<=3)->a.length+zs.length<=1000 →
  mD (λ(b:B7) (vs:Ap)=>(cJ ws (ws.length:Int) b vs)) (λ(b:B7) (vs:Ap)=>Z (lW ws (ws.length:Int) b vs)) zs a/\zs.foldl (λ(b:B7) (vs:Ap)=>(cJ ws (ws.length:Int) b vs)) a=a++zs.map λz=>((mq ws z:Nat):Int)
 |[],a,_,_=>⟨trivial,(kD _).symm⟩
 |z::zs,a,h3,hl=>by
  rw[ZN]at hl;have g:=h3 z zg;have p:=h.n;have es:cJ ws (ws.length:Int) a z=a++[((mq ws z:Nat):Int)]:=by
   unfold cJ;dsimp only;rw[Z3,Tv z g];rfl
  obtain⟨d,e⟩:=Om h zs (a++[((mq ws z:Nat):Int)]) (λy l=>h3 y (zh _ l)) (by rw[ZA,KG];omega);rw[ja,es,zr];refine⟨⟨⟨⟨⟨⟨⟨by omega,by omega⟩,by rw[Z3,VR];omega⟩,λv c=>?_⟩,?_⟩,show a.length<=1000000 by omega⟩,by show mD _ _ zs (cJ ws (ws.length:Int) a z);rw[es];exact d⟩,by rw[e,Jn];rfl⟩
  ·rw[Z3]at c;obtain⟨i,hi,rfl⟩:=jg c;exact⟨⟨⟨by omega,by omega⟩,(Bo z g _).1⟩,λ_=>⟨⟨by omega,by omega⟩,by omega,by omega⟩⟩
  ·unfold EJ;rw[ZO,qS,Qb,Z3];constructor
   ·rw[zk];have:=eh (λj:Int=>cN (at' ws j) z) (rng 0 ws.length);rw[VR]at this;omega
   ·intro x hx;obtain⟨v,c,rfl⟩:=bc.mp hx;obtain⟨i,hi,rfl⟩:=jg (df.mp c).1;refine ZI ?_;rw[Z3];have:(2:Int) ^ i=((2 ^ i:Nat):Int):=by rw[ez];rfl
    have f:2 ^ i<=2 ^ 8:=JO () ();rw[this];generalize 2 ^ i=m at f ⊢;have o:m<=256:=f;omega
theorem HY(h:Ws U ws)(d:ws≠[]):iQ ws/\(cP ws).length=2 ^ ws.length/\at' (cP ws) (((2 ^ ws.length:Nat):Int)-1)=(Lq (aQ ws) (rng 0 ws.length)).1:=by
 have hp:=Rj h;have j:=h.n;have h0:=dg.mpr d;have p1:2<=2 ^ ws.length:=zv (show 2<=2 ^ 1 by decide) (JO () h0);obtain⟨_,a2,_,f⟩:=Bl h;have al:=Rf (vx:=aP ws) (nF h).2.1;obtain⟨c,m2⟩:=Om h (AS (aP ws)) [] (λz e=>G' e) (by simp;omega);have pw:(1:Int)*2 ^ ((ws.length:Int)).toNat=((2 ^ ws.length:Nat):Int):=by
  rw[Z3,ez,Int.one_mul];rfl
 have g:Dp ws 1 (ab (2 ^ ws.length) 0):=⟨dU ..,λs i b=>by omega,λs _ b=>by rw[jh (by rw[dU];exact b),List.getElem_replicate]⟩;obtain⟨f1,f2⟩:=HW (step:=λ(vn:B7) (a:Int)=>(d8 (ws.length:Int) ((AS (aP ws)).map λz=>((mq ws z:Nat):Int)) vn a)) (P:=λ(vn:B7) (a:Int)=>Z (gB (ws.length:Int) ((AS (aP ws)).map λz=>((mq ws z:Nat):Int)) vn a)) (Dp ws) (2 ^ ws.length-1) 1 _ g λk s h1 h2 I=>Wl h h1 () I;have c1:(((2 ^ ws.length:Nat):Int)-1).toNat=2 ^ ws.length-1:=by omega
 unfold iQ cP;dsimp only;rw[f,m2,Ki,pw,Z3,ZQ,c1];refine⟨⟨a2,c,⟨⟨⟨by omega,by omega⟩,by omega,by omega⟩,by omega,by omega,by show 1<=1000;omega⟩,⟨⟨⟨⟨by omega,by omega⟩,by omega,by omega⟩,⟨by omega,by omega⟩,by omega,by omega⟩,f1⟩⟩,f2.ln,?_⟩;have:=f2.dn (2 ^ ws.length-1) () () ();rw[show(((2 ^ ws.length-1:Nat)):Int)=((2 ^ ws.length:Nat):Int)-1 by omega]at this;refine Eq.trans this ?_;unfold EH;rw[V0 ⟨ws.length,by omega⟩]
theorem Tz{α β:Type}{step:O α->β->O α}(hs:∀s x,step s x≠[]):∀(l:O β) (s:O α),l≠[]->l.foldl step s≠[]
 |[],_,h=>absurd S h
 |[x],s,_=>hs s x
 |x::y::l,s,_=>Tz hs (y::l) (step s x) (yv _ _)
theorem Oo{α β:Type}{step:O α->β->O α}(hs:∀s x,(step s x).length=s.length+1):∀(l:O β) (s:O α),(l.foldl step s).length=s.length+l.length
 |[],_=>rfl
 |x::l,s=>by
  rw[ja,Oo hs l,hs,ZN];omega
theorem V1(f:O Int):dM f 0≠[]:=by
 unfold dM;dsimp only;generalize cF (cU f 0) 10=xs;split
 ·unfold dB;dsimp only;have L:=Oo (step:=λ(b:(O (O Ap))) (a:Int)=>bx (bN (bh xs 4)) (at' [at' xs 6,at' xs 8,at' xs 9] 0%4) (((rng 0 (kN 4)).filter λd:Int=>(!decide (d=at' [at' xs 6,at' xs 8,at' xs 9] 0%4))).map λd:Int=>(at' (bN (bh xs 4)) d)) b a) (λs x=>by
   unfold bx;dsimp only;rw[ZA,KG]) (rng 0 (kN 8)) []
  rw[uK 8,iI]at L;rw[uK 8];generalize hO (λ(b:(O (O Ap))) (a:Int)=>bx _ _ _ b a) [] (rng 0 8)=ys at L ⊢;have g:ys.length=8:=L;obtain⟨b0,b1⟩:=lC (at' [at' xs 6,at' xs 8,at' xs 9] 1) (m:=8) ();obtain⟨e,c1⟩:=lC (at' [at' xs 6,at' xs 8,at' xs 9] 2) (m:=3) ();generalize at' [at' xs 6,at' xs 8,at' xs 9] 1%8=p at b0 b1 ⊢;generalize at' [at' xs 6,at' xs 8,at' xs 9] 2%3=q at e c1 ⊢;obtain⟨p,rfl⟩:=gG b0;obtain⟨q,rfl⟩:=gG e;rw[pN (k:=p) (),JF (k:=p) (),pN (k:=q) (by rw[ZA,js,jn];omega)];refine ya ?_;rw[js,ZA,js,jn];omega
 ·refine Tz (λs x=>?_) _ _ ?_
  ·unfold cI;dsimp only;generalize cG _ _=vl;by_cases c:(!yV vl s)=true
   ·rw[zo c];exact List.append_ne_nil_of_right_ne_nil _ (yv _ _)
   ·rw[zS c];intro z;rw[z]at c;exact c (by simp[yV])
  ·have h:=lC (at' xs 8) (m:=8) ();refine ya ?_;rw[iI];omega
theorem Oq(h:Ws U ws)(f:ws≠[]):eZ ws/\ju ws (xH (bT ws)) (Lq (aQ ws) (rng 0 ws.length)).1/\fZ ws (xH (bT ws)) (Lq (aQ ws) (rng 0 ws.length)).1=true:=by
 obtain⟨l,c,e⟩:=Oj h f;obtain⟨_,a2,_,m⟩:=Bl h;have p:=h.n;obtain⟨p1,p2⟩:=Kr h 9 fuel (rng 0 ws.length) e (zi _) () (List.Sublist.refl _);refine⟨l,?_⟩;rw[c];generalize Lq (aQ ws) (rng 0 ws.length)=q at p1 p2 ⊢;obtain⟨x1,i⟩:=CM q.1;have e2:xH q=.tup [.int q.1,q.2]:=rfl;have g:nM (.tup [.int q.1,q.2]) (0:Int)=.int q.1:=rfl;have c1:nM (.tup [.int q.1,q.2]) (1:Int)=q.2:=rfl;have c:decide (Dc (.tup [.int q.1,q.2])=2)=true:=ZI rfl;have d:∀j:Int,0<=j->j<2->Qj (.tup [.int q.1,q.2]) j:=λj a b=>⟨by show -2<=j;omega,by show j<2;omega⟩;have tp:eG (.tup [.int q.1,q.2])=true:=rfl;have o:eI q.1=.int q.1:=rfl;unfold ju fZ;rw[e2,g,c1,c,tp,o,HS,x1,m,Z3,p2];exact⟨⟨λ_=>⟨rfl,λ_=>⟨d 0 () (),λ_=>⟨d 0 () (),i⟩⟩⟩,λ_=>⟨⟨a2,d 1 () (),by omega,by omega⟩,p1⟩⟩,by rw[ZI rfl];rfl⟩
theorem Rk(h:Ws U ws){w:O Ap}(a:w∈ws):eZ [w]/\Fg (xH (bT [w])) (Dt.tup [(Dt.int 0),(Dt.tup [(Dt.str "told"),(Dt.int 0)])])=true/\Vg (xH (bT [w])) (Dt.tup [(Dt.int 0),(Dt.tup [(Dt.str "told"),(Dt.int 0)])]):=by
 obtain⟨c,b,_⟩:=Oj (h.sub (List.singleton_sublist.mpr a)) (yv _ _);refine⟨c,?_⟩;rw[b,show rng 0 [w].length=[(0:Int)] from rfl,DK rfl];have e0:at' [(0:Int)] 0=0:=rfl;rw[e0];exact⟨by decide +kernel,by decide +kernel,by decide +kernel⟩
theorem ZR(ns:O Int)(s:ns.length<=63):Nz ns/\Ny ns=true:=by
 obtain⟨l,U,h⟩:=VN ns;have b:=V1 ns;unfold Nz Ny;dsimp only;generalize dM ns 0=ws at h b ⊢;have q:=h.n;have h0:=dg.mpr b;obtain⟨f,e,i⟩:=Oq h b;obtain⟨g,m,j⟩:=HY h b;have o:(ws.length:Int) / 2+1=((ws.length / 2+1:Nat):Int):=by omega
 have h':=h.sub (Na ws Y3 (Z ((ws.length / 2+1:Nat):Int)));have cl:(BF ws Y3 (Z ((ws.length / 2+1:Nat):Int))).length=ws.length / 2+1:=by
  rw[JF (),jn];omega
 have c:BF ws Y3 (Z ((ws.length / 2+1:Nat):Int))≠[]:=ya ();obtain⟨q1,q2,q3⟩:=Oq h' c;obtain⟨t1,t2,d⟩:=HY h' c;rw[o];generalize p:BF ws Y3 (Z ((ws.length / 2+1:Nat):Int))=vs at h' cl c q1 q2 q3 t1 t2 d ⊢;have pw:(1:Int)*2 ^ (((ws.length / 2+1:Nat):Int)).toNat=((2 ^ vs.length:Nat):Int):=by
  rw[Z3,ez,Int.one_mul,cl];rfl
 have pl:2 ^ ws.length>=1:=iL;have u:2 ^ vs.length>=1:=iL;rw[pw,d,q3,m,j,i];refine⟨⟨l,g,⟨⟨f,⟨by omega,by omega⟩⟩,e⟩,λ_=>⟨⟨⟨q1,⟨t1,⟨by omega,by omega⟩,by omega,by omega⟩,by rw[t2];exact⟨by omega,by omega⟩⟩,q2⟩,λ_=>⟨by omega,λw a=>⟨(Rk h a).1,(Rk h a).2.2⟩⟩⟩⟩,?_⟩;rw[zS (),zS (),gi,Qb];exact λw a=>(Rk h a).2.1
theorem H1:∀ns:O Int,ns.length<=63->F_law [.z (.lst (ns.map .int))]=Z (.z (.bl true)):=(MX ZR).1
theorem H2:∀ns:O Int,ns.length<=63->F_law [.l (ns.map .int)]=Z (.z (.bl true)):=(MX ZR).2
end G40
end
open PySem PySem.W PyProof.Rows
namespace PySem.W.Fast
def tw3119726528013775109:=0
def tw8904821794785717302:=0
def tw12677236279676219703:=0
def tw7912139971078049997:=0
def tw11104996011870898445:=0
def tw6014575143667404520:=0
def tw6767781608373312822:=0
def tw11060021846441887054:=0
def tw7719052402445564672:=0
def tw17339308651684094187:=0
def tw4563376011374519401:=0
def tw4127595406739969747:=0
def tw4518211036546053738:=0
def tw10303566460228016818:=0
def tw271976336007453196:=0
def tw9184917408219458146:=0
def tw10026897167662845081:=0
def tw16157768038860344407:=0
def tw1531898313811729721:=0
def tw13097969550042972547:=0
def tw17074683386981785931:=0
def tw5481849585646434896:=0
def tw9730725882847112329:=0
def tw7369951023893495339:=0
def tw7489765503205581074:=0
def tw17117570614007872152:=0
def tw4015301348153652701:=0
def tw9565267389650745187:=0
def tw12723610123053799399:=0
def tw120551244755769038:=0
def tw8624720954047338558:=0
def tw13760640606074479255:=0
def tw16361409785607885792:=0
def tw10797234932152135761:=0
def tw2907228458030777754:=0
def tw13118637382606126613:=0
def tw16878589617947895116:=0
def tw11946471622256399736:=0
def tw7349223270305785623:=0
def tw11405791135879782292:=0
def tw1568768197052923424:=0
def tw4760923159972031708:=0
def tw8361885896725301407:=0
def tw18125978497329300600:=0
def tw3901885906806172951:=0
def tw15104619786144057289:=0
def tw6649823021415594462:=0
def tw14716953310615674461:=0
def tw3444457520302379667:=0
def tw11637935041280103270:=0
def tw9670430462738093018:=0
def tw16495428236185982154:=0
def tw3905992440485724205:=0
def tw7607356893483668503:=0
def tw4802020333576863233:=0
def tw11135272178669368921:=0
def tw10266751620480762753:=0
def tw6411181987689744028:=0
def tw513442727432268721:=0
def tw9932598430070890821:=0
def tw15872024254640813160:=0
def tw12200747487251669201:=0
def tw3371750185053439976:=0
def tw15556945954103305636:=0
def tw16352244225360389480:=0
def tw12568963833170256609:=0
def tw16247776396675212980:=0
def tw17109110898308101167:=0
def tw16252356979244904754:=0
def tw253486547589609209:=0
def tw2178343400961356980:=0
def tw15558686548732053135:=0
def tw4262237142230665969:=0
def tw7762979266972396327:=0
def tw1549809660112178577:=0
def tw8391118781790125998:=0
def tw8343571538089640677:=0
def tw13216794727948407117:=0
def tw18180516338237380385:=0
def tw6685990458450301895:=0
def tw15814803640088075976:=0
def tw8846197477364801027:=0
def tw14956718594548031348:=0
def tw5657831461776963721:=0
def tw7610307540339010446:=0
def tw17771064999873742999:=0
def tw15356528450952142449:=0
def tw4643811320795172012:=0
def tw16464334849719363705:=0
def tw16521352580170533532:=0
def tw16477196736604371385:=0
def tw10033564766638720917:=0
def tw2017997949513566318:=0
def tw16235128854055906668:=0
def tw7482206668956675276:=0
def tw5200577328839174696:=0
def tw9269835186772829817:=0
def tw8968859292411096904:=0
def tw10718722862121587581:=0
def tw4598053937207169940:=0
def tw603684176571180057:=0
def tw2626357738931958537:=0
def tw15991370570848987904:=0
def tw1863123686404465837:=0
def tw10388280628392404311:=0
def tw8607624285279641312:=0
def tw6280926927238216547:=0
def tw6430824910143788546:=0
def tw4309493398370636197:=0
def tw15186732300193735742:=0
def tw12606499574866235610:=0
def tw774157984998286398:=0
def tw14344680309554990153:=0
def tw17266915237011565271:=0
def tw15794079712532468656:=0
def tw7183226778670328261:=0
def tw16792265958977287507:=0
def tw6261312164912800173:=0
def tw11383513877803265559:=0
def tw6506358485680591692:=0
def tw14981143462235099040:=0
def tw13780324434738366477:=0
def tw16469946802158356775:=0
end PySem.W.Fast
set_option maxRecDepth 100000 in
set_option maxHeartbeats 0 in
theorem PySem.Challenge.cw_onefolk_k40_least_plans_holds : PySem.Challenge.rw_onefolk_k40_least_plans.Holds := by
 w_on;refine PySem.W.holds_law (by decide +kernel) λsaid=>?_
 k_head;(case hw=>w_witness2)
 k_fill
 refine P1.Ee (l:=PySem.Challenge.rw_onefolk_k40_least_plans) (T:=G40.T) (k:=23) (x := "_law_script") (st:=G40.s_law) (F_law:=G40.F_law) (λt=>t.x_law) ⟨rfl,by decide,by decide⟩ rfl (λw mg base t=>G40.EC t) rfl rfl G40.H1 G40.H2 (λ_ _ _ _ _ _ _=>rfl) (λw h Y=>PySem.W.km_in_of Y) (λw h _ _ _ _ X T=>⟨_,P1.D2 (by kernel_rfl) X T⟩) ?F
 case F=>
  intro w mg h KX G
  refine' ⟨P1.m7 KX G _ _ _ _,P1.m7 KX G _ _ _ _,_,P1.m7 KX G _ _ _ _,P1.m7 KX G _ _ _ _,P1.m7 KX G _ _ _ _,P1.m7 KX G _ _ _ _,P1.m7 KX G _ _ _ _,P1.m7 KX G _ _ _ _,P1.m7 KX G _ _ _ _,P1.m7 KX G _ _ _ _,P1.m7 KX G _ _ _ _,P1.m7 KX G _ _ _ _,P1.m7 KX G _ _ _ _,P1.m7 KX G _ _ _ _,P1.m7 KX G _ _ _ _,P1.m7 KX G _ _ _ _,P1.m7 KX G _ _ _ _,P1.m7 KX G _ _ _ _,P1.m7 KX G _ _ _ _,P1.m7 KX G _ _ _ _,P1.m7 KX G _ _ _ _,P1.m7 KX G _ _ _ _,P1.m7 KX G _ _ _ _,qf KX G _,qf KX G _,qf KX G _,qf KX G _,qf KX G _,qf KX G _,qf KX G _,qf KX G _,qf KX G _,qf KX G _,qf KX G _,qf KX G _,qf KX G _,qf KX G _,qf KX G _⟩
  all_goals try (show _=_;k_is)
  all_goals try kernel_rfl
