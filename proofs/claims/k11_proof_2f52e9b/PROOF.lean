import PyProof.Rows.All
import Wide.All
import OpenK.AllK
import Wide.FinOn
import Lean
import PySem.Challenge.RW_onefolk_k11_whole_grounds_put_together
open List renaming length_map->zd,size_toArray->zi,mem_cons_of_mem->zk,mem_cons_self->zr,length_append->zt,map_cons->zw,append_assoc->Zp,map_map->ZE,flatMap_cons->ZI,mem_append_right->ZN,take_append_drop->ZU,getElem?_eq_getElem->ZY,length_cons->ZZ,getElem?_append_left->qa,length_drop->qc,all_eq_true->qf,take_of_length_le->qi,length_take->qk,getElem?_map->qv,map_append->qB,append_nil->qS,getElem_of_mem->Qr,getElem?_append_right->QO,mem_append_left->QR,mergeSort_perm->Q2,rel_of_pairwise_cons->Q3,length_filter_le->Q4,eq_nil_of_length_eq_zero->js,pairwise_mergeSort->jS,getElem?_replicate->j3,filter_map->JA,mem_map_of_mem->JE,not_mem_nil->JJ,getElem_map->JO,zip_cons_cons->JP,extract_eq_take_drop->JS,getElem_take->JY,getElem_drop->ka,mem_of_mem_drop->kc,all_cons->ke,reverse_append->kg,map_congr_left->ki,filter_sublist->kl,drop_eq_nil_of_le->kn,lookup_cons_self->kq,length_singleton->ku,map_nil->kH,drop_eq_getElem_cons->kK,nil_append->kP,length_set->kQ,foldl_cons->kR,drop_drop->Ki,filter_congr->Kk,any_eq_true->KB,map_id->KI,reverse_reverse->KL,mem_of_mem_take->KM,mem_of_getElem?->KO,forall_mem_cons->KP,of_mem_zip->KU,replicate_succ->K2,flatMap_append->ya,filter_filter->ym,filter_append->yn,take_sublist->yz,getElem?_set->yA,lookup_cons->y9,getElem_mem->Ya,getElem_inj->Yf,mem_singleton->ag,mem_map->aQ,mem_cons->ba,replicate->bb,mem_append->bc,getElem?_eq_some_iff->bj,pairwise_map->bA,pairwise_cons->bB,mem_filter->ca,mem_iff_getElem->cb,pairwise_append->cf,mem_flatMap->da,range->dc,nodup_cons->dd,pairwise_iff_getElem->dg,nodup_append->dq,perm_append_comm->dr,length_pos_iff->dz,filter_eq_self->dA,mem_range->dB,length->dC,range_succ_eq_map->dP,take_succ_eq_append_getElem->dV,map->ef,length_replicate->eg,getElem?_eq_none->eh,contains_iff_mem->ei,pairwise_reverse->ej,pairwise_flatMap->eu,all_map->ez,map_id'->eX,take_append_of_le_length->fP,filterMap_cons->fW,toList_toArray->gd,nodup_nil->gF,take_zero->hC,drop_left->hE,lt_irrefl->hG,mem_filterMap->hL,cons->hY,zip_nil_right->h9,any_cons->iB,reverse_perm->jr,flatten_cons->jN,length_range->j0,exists_mem_of_ne_nil->kj,getElem?_take_of_lt->kz,mem_reverse->k7,filter_cons->lb,map_zipWith->lg,cons_append->lr,sublist_append_left->lz,pairwise_singleton->lA,getElem?_cons_succ->l0,length_nil->mm,getElem?_set_self->mK,zipWith_map_right->mX,zipWith_cons_cons->m4,flatMap_singleton->m6,perm_cons->m8,countP_mono_left->nc,getElem?_zipWith->nf,getElem?_set_ne->nk,getElem_zipWith->nu,sum_cons->nw,getElem?_range->n3,length_zipWith->n5,zipWith->pF,getElem_range->qb,mapM_toArray->ra,take_add_one->rr,zip_nil_left->ry,le_antisymm->rB,zipIdx_cons->r7,countP_cons->r9,map_fst_zip->sa,map_id_fun'->sh,cons_ne_nil->sG,getElem_zip->sH,nodup_range->sI,ext_getElem->s8,map_flatMap->ti
open PySem.Heap renaming get?_push_of_some->zg,get?_push_size->zD,lt_size->zI,size_push->Kj,get?_update_ne->n4,get?_push_ne->qx,size_update->r0
open Nat renaming le_trans->zl,le_refl->zo,le_of_ble_eq_true->Zs,lt_of_lt_of_le->ZH,ne_of_lt->ZO,zero_le->ZT,le_of_lt->qh,lt_of_succ_lt->ky,ne_of_gt->kG,lt_irrefl->kL,zero_add->Kb,succ_le_succ->KA,le_succ->KG,min_self->yb,le_of_eq->ye,mul_le_mul->yf,succ_mul->eU,toDigits->fJ,lt_of_le_of_lt->hP,lt_succ_of_lt->jq,le_of_not_lt->k0,lt_succ_self->k6,add_sub_cancel_left->lF,min_eq_left->mq,not_lt->nq,lt_of_le_of_ne->n8,add_zero->oC,le_of_succ_le->qs,le_succ_of_le->q7
open Bool renaming false_ne_true->zC,and_eq_true->zS,false_eq_true->z5,not_eq_true'->qV,or_eq_true->QQ,and_true->KF,eq_iff_iff->KW,not_false->yi,false_and->gz,not_eq_false'->ic,not_true->i4,true_and->jd,decide_and->mu,and_false->m7,false_or->nv
open Array renaming toList_append->ZA,length_toList->Z3,size_append->kb,toList_reverse->kB,toList_extract->kC,getElem_toList->kD,toList_push->Kn,getElem?_toList->Kx,append_assoc->yo,perm_iff_toList_perm->cW,toList_inj->k4,toList_map->k5,mem_toList_iff->nt,toList->n7,forIn_toList->pD,getElem_mem->rm
open Or renaming inr->ja,inl->km
open Int renaming toNat_natCast->jv,zero_add->eW,toNat_of_nonneg->gi,le_refl->hH,lt_of_lt_of_le->h6,eq_ofNat_of_zero_le->ma,emod_lt_of_pos->oW
open Prod renaming ext->kA
open Unit renaming unit->lm
local macro_rules|`(())=>`(by first|omega|decide)
open Option renaming bind_some->y8,isSome_iff_exists->cZ,map_some->ew,isSome_some->hO,isNone_iff_eq_none->kh,getD_some->la,map_eq_some_iff->m3,getD_none->rA
open PySem.SetTable renaming leap->dt,bits->i7,runEnd->tj
open Option renaming some->Z,none->Y3
abbrev O:=List
abbrev Y:=Option
theorem Y2{α:Sort u}{a:α}:a=a:=rfl
open PySem renaming Value->A0,Addr->A2,Shared->A3,Program->A4,World->A5,Around->A6,Heap->A7,wpAny->A8,model->A9,starEach->AA,sizeLine->AB,Stmt->AC,Keyword->AD,backTo->AE,Obj->AF,codeAny->AG,compareOp->AH,bootBuiltins->AI,Paired->AJ,Str->AK
abbrev db(x:AK):=(x==("__debug__":AK))=false
open PyProof.Rows renaming envOfC->AL,wpS_bind->AM,arrOf->AN
open PySem.W (methodObj keepIn cellsFrom_some fnOf codeIn nsIn mg_of kla_obj envX kla_fn)
set_option maxRecDepth 100000
set_option maxHeartbeats 4000000
set_option linter.all false
set_option Elab.async false
open PySem PySem.Spec PyProof.Rows
variable{w:A5}{i:Nat}{t:SortSt}{x:AK}{a:A2}{prog:A4}{us:O A0}{κ:Type}{h:A7}{items:Array A0}{u:A0}{P:A4}{α β:Type}{k:Nat}{e:Expr}{n:Nat}{mg:AK->Y A0}{base:A7}{l:A2}{env:Env}{m:Nat}{AO:O (A2×AF)}{s:A3}{it:A2}{j:Nat}{M:Model}{A:A6}{hi:Y Int}{D:A2}{es:O Expr}{st:AC}{pos:Pos}{c:Expr}{y:AK}{tg:Expr}{fp:O A2}{tn:Nat->A7->Prop}{iter:Expr}{lo:Y Int}{body:O AC}{C:A2}{op:CmpOp}{AS:O A0}{name:AK}{tpos:Pos}{fd:FuncData}{apos:Pos}{qual:AK}{scope:Scope}{params:Arguments}{osl:Array (Y A0)}{p2 cpos:Pos}{XP:(AK->Y A0)->A7->Prop}{YP:A5->A7->Prop}{cl:O (AK×A2)}{is:O Nat}{ifs:O Expr}{elt tgt:Expr}{el:A2->Env->Sem Unit}{B:A6->Bool->Prop}{out:Array Keyed}{RR:A0->A2->Result->A3->Prop}{rk:A0->Nat}{kd:SortKind}{W U:O Keyed}{elts:O Expr}{x1:Nat}{γ δ:Type}{os:OsState}{bmB:O A0}{newId initId:String}
abbrev B5:=O PySem.Str
abbrev BO:=PySem.Value->PySem.Shared->Prop
abbrev BA:=PySem.W.Frag
abbrev BM:=O Int
abbrev zb:=@wpAny_bind
abbrev ze:=@wpAny_pure
abbrev zh:=@if_pos
abbrev zv:=@if_neg
abbrev zz:=@decide_eq_true
abbrev z4:=@decide_eq_false
abbrev Zl:=@decide_eq_true_eq
abbrev qo:=@List.Pairwise.imp
abbrev qr:=@PySem.W.mg_none_of
abbrev qA:=@wpAny_mono
abbrev Qb:=@if_false
abbrev QA:=@List.Pairwise.sublist
abbrev QE:=@wpAny_truthy_bool
abbrev QI:=@decide_eq_false_iff_not
abbrev QN:=@wpAny_rule
abbrev QP:=@if_true
abbrev QU:=@wpAny_standAt
abbrev QY:=@wpAny_newObj_type
abbrev Q1:=@PySem.mem_of_lookup
abbrev jb:=@wpAny_call_entry
abbrev jn:=@wpAny_field
abbrev jI:=@wpAny_callSpecial?_slot
abbrev Jn:=@Option.some.inj
abbrev JI:=@Heap.SameBut.update
abbrev JU:=@wpAny_typeOf
abbrev ko:=@wpAny_holding
abbrev kv:=@of_decide_eq_true
abbrev kF:=@F.slot_tuple_iterator_next
abbrev kM:=@wpAny_comprehension_free
abbrev kU:=@wpAny_setField_rec
abbrev kX:=@wpAny_Call_Name_kw
abbrev k8:=@wpAny_getItem_str_slice
abbrev k9:=@Ne.symm
abbrev Kt:=@F.slot_enumerate_next
abbrev KS:=@wpAny_passesOwn
abbrev K0:=@Array.Perm.refl
abbrev yk:=@wpAny_pyIter_tuple
abbrev yv:=@wpAny_pyIter_enum
abbrev yB:=@wpAny_newList
abbrev yT:=@Prod.mk.injEq
abbrev yY:=@PySem.F.args_tuple_add_2
abbrev y0:=@List.Pairwise.imp_of_mem
abbrev y3:=@wpAny_isInstance
abbrev YA:=@F.slot_str_split
abbrev YE:=@PySem.F.entry_tuple_add
variable{ps:B5}{K:BA}{N:B5}{E Q:BO}{ts:B5}
namespace L2
abbrev AZ:=Sum Int AK
def nA:AZ->A0->Bool
 |.inl k,v=>Value.isInt k v
 |.inr x,v=>Value.isStrOf x v
def d6(w:A5):AZ->Int
 |.inl k=>hashInt k
 |.inr x=>hashStr w x
theorem bU:∀{k:AZ} {v:A0},nA k v=true->(∃i t,k=Sum.inl i/\v=Value.int i t)\/(∃x t,k=Sum.inr x/\v=Value.str x t)
 |.inl i,v,h=>by
  obtain⟨t,e⟩:=Value.isInt_shape (k:=i) (v:=v) h;exact .inl ⟨i,t,rfl,e⟩
 |.inr x,v,h=>by
  obtain⟨t,e⟩:=Value.isStrOf_shape (x:=x) (v:=v) h;exact .inr ⟨x,t,rfl,e⟩
theorem Z9(i:Int)(t:Tok):nA (.inl i) (.int i t)=true:=by simp[nA,Value.isInt]
theorem cw(x:AK)(t:Tok):nA (.inr x) (.str x t)=true:=by simp[nA,Value.isStrOf]
theorem pf(a b:Int):decide ((Sum.inl a:AZ)=Sum.inl b)=(a==b):=by
 by_cases e:a=b
 ·subst e;simp
 ·have h:¬ (Sum.inl a:AZ)=Sum.inl b:=λq=>e (Sum.inl.inj q);rw[z4 h];exact(beq_eq_false_iff_ne.mpr e).symm
theorem UP(a b:AK):decide ((Sum.inr a:AZ)=Sum.inr b)=decide (a=b):=by
 by_cases e:a=b
 ·subst e;simp
 ·have h:¬ (Sum.inr a:AZ)=Sum.inr b:=λq=>e (Sum.inr.inj q);rw[z4 h,z4 e]
theorem x8(a:Int)(b:AK):decide ((Sum.inl a:AZ)=Sum.inr b)=false:=z4 (λq=>nomatch q)
theorem sP(a:AK)(b:Int):decide ((Sum.inr a:AZ)=Sum.inl b)=false:=z4 (λq=>nomatch q)
def nC(prog:A4)(w:A5):PySem.KeyKind prog w AZ where
 is:=nA
 hash:=d6 w
 inj:=λv a b g f=>by
  rcases bU g with⟨i,t,rfl,rfl⟩|⟨x,t,rfl,rfl⟩
  ·rcases bU f with⟨j,u,rfl,e⟩|⟨y,u,rfl,e⟩
   ·injection e with e1 _;rw[e1]
   ·exact nomatch e
  ·rcases bU f with⟨j,u,rfl,e⟩|⟨y,u,rfl,e⟩
   ·exact nomatch e
   ·injection e with e1 _;rw[e1]
 byValue:=λk v h=>by
  rcases bU h with⟨i,t,rfl,rfl⟩|⟨x,t,rfl,rfl⟩<;>rfl
 pyHash:=λc h=>by
  rcases bU c with⟨i,t,rfl,rfl⟩|⟨x,t,rfl,rfl⟩
  ·exact wpAny_pyHash_int h
  ·exact wpAny_pyHash_str h
 eqBool:=λl c h=>by
  rcases bU l with⟨i,t,rfl,rfl⟩|⟨x,t,rfl,rfl⟩
  ·rcases bU c with⟨j,u,rfl,rfl⟩|⟨y,u,rfl,rfl⟩
   ·rw[pf]at h;exact wpAny_eqBool_int h
   ·rw[x8]at h;exact SeqAt.EqAt.int_str i t y u _ _ _ _ h
  ·rcases bU c with⟨j,u,rfl,rfl⟩|⟨y,u,rfl,rfl⟩
   ·rw[sP]at h;exact SeqAt.EqAt.str_int x t j u _ _ _ _ h
   ·rw[UP]at h;exact wpAny_eqBool_str h
 «strs»:=λk x t v h=>by
  rcases bU h with⟨i,u,rfl,e⟩|⟨y,u,rfl,e⟩
  ·exact nomatch e
  ·injection e with e1 _;subst e1;cases v<;>rfl
theorem Te(prog:A4)(w:A5)(i:Int)(t:Tok):(nC prog w).is (.inl i) (.int i t)=true:=Z9 i t
theorem Tf(prog:A4)(w:A5)(x:AK)(t:Tok):(nC prog w).is (.inr x) (.str x t)=true:=cw x t
end L2
namespace L2
inductive V where
 |non|bl (b:Bool)|int (i:Int)|str (x:Str)|byt (b:Array UInt8)|flt (b:UInt64)|ref (a:Addr)|ty (n:String)
 deriving DecidableEq
def B6:V->A0->Prop
 |.non,u=>u=Value.none
 |.bl b,u=>u=Value.bool b
 |.int i,u=>∃t,u=Value.int i t
 |.str x,u=>∃t,u=Value.str x t
 |.byt b,u=>∃t,u=Value.bytes b t
 |.flt b,u=>∃t,u=Value.float b t
 |.ref a,u=>u=Value.ref a
 |.ty n,u=>u=Value.type n
abbrev AY:O V->O A0->Prop:=AJ B6
theorem AY.length{xs:O V}{us:O A0}(r:AY xs us):xs.length=us.length:=Paired.length r
theorem AY.get:∀{xs:O V} {us:O A0} {i:Nat} {x:V},AY xs us->xs[i]?=Z x->∃u,us[i]?=Z u/\B6 x u
 |_,_,_,_,.nil,e=>by simp at e
 |_,_,0,_,.cons r _,e=>by simp at e;subst e;exact⟨_,rfl,r⟩
 |_,_,i+1,x,.cons _ t,e=>by
  obtain⟨u,h1,h2⟩:=AY.get (i:=i) (x:=x) t (by simpa using e);exact⟨u,by simpa using h1,h2⟩
theorem AY.append:∀{xs ys:O V} {us a:O A0},AY xs us->AY ys a->AY (xs++ys) (us++a)
 |_,_,_,_,.nil,s=>s
 |_,_,_,_,.cons r t,s=>.cons r (AY.append t s)
theorem AY.take:∀{xs:O V} {us:O A0} (n:Nat),AY xs us->AY (xs.take n) (us.take n)
 |_,_,0,_=>.nil
 |_,_,_+1,.nil=>.nil
 |_,_,n+1,.cons r t=>.cons r (AY.take n t)
theorem AY.drop:∀{xs:O V} {us:O A0} (n:Nat),AY xs us->AY (xs.drop n) (us.drop n)
 |_,_,0,r=>r
 |_,_,_+1,.nil=>.nil
 |_,_,n+1,.cons _ t=>AY.drop n t
def Pe:Y V->Y A0->Prop
 |some v,Z u=>B6 v u
 |none,Y3=>True
 |_,_=>False
def KV:O (κ×V)->O (κ×A0)->Prop:=AJ λ(p:κ×V) (q:κ×A0)=>p.1=q.1/\B6 p.2 q.2
def kV:AZ->V
 |.inl i=>.int i
 |.inr x=>.str x
inductive HO where
 |lst (xs:List V)
 |tup (xs:List V)
 |dK (AQ:List (AZ×V))|dT (AQ:List (List AZ×V))
 |set (S:Int->Bool) (n:Nat)
 |ins (C dx:Addr) (fs:List (Str×V))
 |own (x:Addr)
 |xd (fs:List (Str×V))
 |met (f x:Addr)
 |rng (lo hi:Int)
 |qG (o:Obj) (u:HO)
 |PN (ps:Array Value)
 |ext (φ:Heap->Prop)
abbrev Hp:=A2->Y HO
def BD(H:Hp)(a:A2)(o:HO):Hp:=λb=>if b=a then Z o else H b
theorem bK{H:Hp}{o:HO}:BD H a o a=Z o:=by unfold BD;rw[zh rfl]
theorem aR{H:Hp}{b:A2}{o:HO}(h:b≠a):BD H a o b=H b:=by unfold BD;rw[zv h]
def rK(h:A7)(a:A2)(items:Array A0):Prop:=∃o,h.get? a=Z o/\o.cls=.type "tuple" ∧ (∃n,o.data=.seq items n)/\o.dict=Y3
theorem rK.weak(x:rK h a items):IsTup h a items:=let ⟨o,e,c,d,_⟩:=x;⟨o,e,c,d⟩
theorem rK.new(h:A7)(items:Array A0):rK (h.push { cls:=.type "tuple",data:=.seq items }) h.objs.size items:=⟨_,zD _ rfl,rfl,⟨_,rfl⟩,rfl⟩
theorem Br{H:Hp}{b:A2}{o u:HO}(h:H a=Z o)(h':H b=Z u)(d:o≠u):a≠b:=by
 intro e;subst e;rw[h]at h';exact d (Jn h')
theorem cJ{H:Hp}{b:A2}{o:HO}(h:H a=Z o)(h':H b=Y3):a≠b:=by
 intro e;subst e;rw[h]at h';cases h'
def tq(ps:Array A0):AK:=match ps[0]? with
 |some (Value.str q _)=>q
 |_ => ""
def tr(ps:Array A0):Array A0:=ps.extract 1 ps.size
def IF:B5:=["most_word","longest_word","ground_of","least_for","nearest_pair"]
def Lm(K:BA)(P:A2)(q:AK):Prop:=∃c o vs x t,K.lookup c=Z o/\o.data=.fields vs/\vs[1]?=Z (.str x t)/\x∈IF/\vs[11]?=Z (.ref P)/\q=x++(".<locals>.<lambda>":AK)
def xc(o:AF):Bool:=match o.data with
 |.fields vs=>match vs[1]? with
  |some (Value.str x _)=>!IF.contains x
  |_=>true
 |_=>true
def C6(K:BA)(H:Hp):Prop:=∀P q,Lm K P q->∃ps,H P=Z (.PN ps)/\tq ps=q/\0<ps.size
theorem C6.go{H H':Hp}(x:C6 K H)(u:∀b ps,H b=Z (.PN ps)->∃a,H' b=Z (.PN (ps++a))):C6 K H':=λP q k=>by
 obtain⟨ps,e,h,z⟩:=x P q k;obtain⟨a,e'⟩:=u P ps e;refine⟨_,e',?_,by rw[kb];omega⟩;rw[<-h];unfold tq;rw[Array.getElem?_append_left z]
section
variable(P:A4)(w:A5)
def jx(H:Hp)(h:A7)(a:A2):HO->Prop
 |.lst xs=>xs.length<=AB/\∃(AS:O A0) (n:Nat),AY xs AS/\h.get? a=Z { cls:=.type "list",data:=.seq AS.toArray n }
 |.tup xs=>xs.length<=AB/\∃AS:O A0,AY xs AS/\rK h a AS.toArray
 |.dK AQ=>AQ.length<=AB/\(a==sysModules)=false/\∃vs,KV AQ vs/\h.DictOf (nC P w) a vs
 |.dT AQ=>AQ.length<=AB/\(a==sysModules)=false/\∃xs:O (O AZ×A2×A0),
   AJ (λ(p:O AZ×V) (q:O AZ×A2×A0)=>p.1=q.1/\H q.2.1=Z (.tup (p.1.map kV))/\B6 p.2 q.2.2) AQ xs ∧
   ∃o es ep,h.get? a=Z o/\o.ExactDict/\o.data=.dict es ep/\es.toList=xs.map (entryOfKey (tupleKind (nC P w)))/\(xs.map (·.1)).Nodup
 |.set S n=>h.SetOf (intKind P w) a S n
 |.ins C dx fs=>H dx=Z (.own a)/\fs.length<=1000/\dx≠a/\h.get? a=Z (PySem.W.instObj C dx) ∧
   ∃mA,h.Ns1 dx mA/\(∀f,Pe (fs.lookup f) (mA f))/\PySem.Within mA (fs.map (·.1))
 |.own _=>∃o,h.get? a=Z o
 |.xd fs=>∃mA,h.Ns1 a mA/\∀f,Pe (fs.lookup f) (mA f)
 |.rng lo hi=>∃t u v,h.get? a=Z { cls:=.type "range",data:=.fields #[.int lo t,.int hi u,.int 1 v] }
 |.qG o u=>h.get? a=Z o/\jx H h a u
 |.PN ps=>∃b,h.get? a=Z { cls:=.none,data:=.fields (tr ps++b) }/\TriplesOk (tr ps++b).toList ∧
   ∀pos i,codeAmong pos (tr ps++b).toList=Z i->∃c g vs t,i=.ref c/\H c=Z (.qG g (.ext λ_=>True))/\g.data=.fields vs/\vs[1]?=Z (.str (tq ps) t)
 |.met f x=>h.get? a=Z (methodObj (.ref f) (.ref x))
 |.ext e=>e h/\(∃o,h.get? a=Z o)/\∀h1 h2:A7,e h1->(∀o,h1.get? a=Z o->h2.get? a=Z o)->e h2
def G5(H:Hp)(h:A7):Prop:=∀a o,H a=Z o->jx P w H h a o
end
section
variable{H H':Hp}{h':A7}{o:HO}
theorem jx.lt(x:jx P w H h a o):a<h.objs.size:=by
 cases o with
 |lst xs=>obtain⟨_,_,_,_,e⟩:=x;exact zI e
 |tup xs=>obtain⟨_,_,_,p⟩:=x;exact p.weak.lt
 |dK AQ=>obtain⟨_,_,_,_,o,_,_,e,_⟩:=x;exact zI e
 |dT AQ=>obtain⟨_,_,_,_,o,_,_,e,_⟩:=x;exact zI e
 |set S n=>obtain⟨o,_,_,_,e,_⟩:=x;exact zI e
 |ins C dx fs=>obtain⟨_,_,_,e,_⟩:=x;exact zI e
 |own y=>obtain⟨_,e⟩:=x;exact zI e
 |xd fs=>obtain⟨_,⟨_,_,_,e,_⟩,_⟩:=x;exact zI e
 |rng lo hi=>obtain⟨_,_,_,e⟩:=x;exact zI e
 |qG b u=>obtain⟨e,_⟩:=x;exact zI e
 |PN ps=>obtain⟨_,e,_⟩:=x;exact zI e
 |met f y=>exact zI (show h.get? a=Z _ from x)
 |ext c=>obtain⟨_,⟨_,e⟩,_⟩:=x;exact zI e
theorem Paired.ah7{α β:Type}{F G:α->β->Prop}:∀{l₁:O α} {l₂:O β},AJ F l₁ l₂->(∀a b,F a b->G a b)->AJ G l₁ l₂
 |_,_,.nil,_=>.nil
 |_,_,.cons r t,f=>.cons (f _ _ r) (Paired.ah7 t f)
theorem Paired.imp'{F G:α->β->Prop}(f:∀a b,F a b->G a b){l₁:O α}{l₂:O β}(r:AJ F l₁ l₂):AJ G l₁ l₂:=Paired.ah7 r f
theorem jx.stay(x:jx P w H h a o)(k:∀b u,(b=a\/H b=Z (.own a))->h.get? b=Z u->h'.get? b=Z u)
  (I:∀b,H b=Z (.own a)->H' b=Z (.own a)) (F:∀b xs,H b=Z (.tup xs)->H' b=Z (.tup xs)) (J:∀b o l,H b=Z (.qG o (.ext l))->H' b=Z (.qG o (.ext l))):jx P w H' h' a o:=by
 induction o with
 |lst xs=>obtain⟨z,AS,n,r,e⟩:=x;exact⟨z,AS,n,r,k _ _ (.inl Y2) e⟩
 |tup xs=>obtain⟨z,AS,r,i,e,c⟩:=x;exact⟨z,AS,r,i,k _ _ (.inl Y2) e,c⟩
 |dK AQ=>obtain⟨z,y,vs,r,i,es,ep,e,c⟩:=x;exact⟨z,y,vs,r,i,es,ep,k _ _ (.inl Y2) e,c⟩
 |dT AQ=>
  obtain⟨z,y,xs,r,i,es,ep,e,c⟩:=x;exact⟨z,y,xs,Paired.ah7 r λp q z=>⟨z.1,F _ _ z.2.1,z.2.2⟩,i,es,ep,k _ _ (.inl Y2) e,c⟩
 |set S n=>obtain⟨i,es,ep,t,e,c⟩:=x;exact⟨i,es,ep,t,k _ _ (.inl Y2) e,c⟩
 |ins C dx fs=>
  obtain⟨d,z,s,e,mA,⟨j,es,ep,e2,c⟩,r⟩:=x;exact⟨I _ d,z,s,k _ _ (.inl Y2) e,mA,⟨j,es,ep,k _ _ (.inr d) e2,c⟩,r⟩
 |own y=>obtain⟨i,e⟩:=x;exact⟨i,k _ _ (.inl Y2) e⟩
 |xd fs=>obtain⟨mA,⟨j,es,ep,e,c⟩,r⟩:=x;exact⟨mA,⟨j,es,ep,k _ _ (.inl Y2) e,c⟩,r⟩
 |rng lo hi=>obtain⟨t,u,v,e⟩:=x;exact⟨t,u,v,k _ _ (.inl Y2) e⟩
 |qG i u A=>obtain⟨e,q⟩:=x;exact⟨k _ _ (.inl Y2) e,A q⟩
 |PN ps=>
  obtain⟨G,e,D,B⟩:=x;refine⟨G,k a _ (.inl Y2) e,D,λpos E z=>?_⟩;obtain⟨c,m,vs,t,rfl,g,d,v⟩:=B pos E z;exact⟨c,m,vs,t,rfl,J c m _ g,d,v⟩
 |met f y=>
  have e:h.get? a=Z (methodObj (.ref f) (.ref y)):=x;show h'.get? a=Z (methodObj (.ref f) (.ref y));exact k a _ (.inl Y2) e
 |ext l=>obtain⟨p,⟨o,e⟩,st⟩:=x;exact⟨st _ _ p λo q=>k _ _ (.inl Y2) q,⟨o,k _ _ (.inl Y2) e⟩,st⟩
theorem G5.lt(x:G5 P w H h)(e:H a=Z o):a<h.objs.size:=(x a o e).lt
theorem G5.fresh(x:G5 P w H h)(e:h.objs.size<=a):H a=Y3:=by
 cases q:H a with
 |none=>rfl
 |some u=>exact absurd (ZH (x.lt q) e) (kL _)
theorem G5.kept(x:G5 P w H h)(k:∀b u,h.get? b=Z u->h'.get? b=Z u):G5 P w H h':=λa o e=>
 (x a o e).stay (λb u _ q=>k b u q) (λ_ q=>q) (λ_ _ q=>q) λ_ _ _ q=>q
theorem G5.laid(x:G5 P w H h)(k:∀b u,h.get? b=Z u->h'.get? b=Z u)(hp:h.objs.size<=a)(new:jx P w (BD H a o) h' a o):G5 P w (BD H a o) h':=λb u e=>by
 have f:=x.fresh hp;by_cases g:b=a
 ·subst g;rw[bK]at e;cases e;exact new
 ·rw[aR g]at e;exact(x b u e).stay (λc v _ q=>k c v q) (λc q=>by rw[aR (cJ q f)];exact q) (λc xs q=>by rw[aR (cJ q f)];exact q) λc o' i q=>by rw[aR (cJ q f)];exact q
end
def Rd(H:Hp)(a:A2)(u:HO):Prop:=H a=Z u\/∃o,H a=Z (.qG o u)
theorem Rd.ok{H:Hp}{u:HO}(r:Rd H a u)(x:G5 P w H h):jx P w H h a u:=by
 rcases r with r|⟨o,r⟩
 ·exact x a u r
 ·obtain⟨_,q⟩:=x a _ r;exact q
def HV:Y HO->Prop
 |some (.lst _)=>True
 |some (.dK _)=>True
 |some (.dT _)=>True
 |some (.set _ _)=>True
 |some (.ins _ _ _)=>True
 |some (.ext _)=>True
 |_=>False
section
variable{H:Hp}{h':A7}{x e:A2}{o':HO}
theorem G5.write(ok:G5 P w H h)(a:HV (H x))(n:e=x\/H e=Z (.own x))(k:∀b u,b≠e->h.get? b=Z u->h'.get? b=Z u)(t:∃u,h'.get? e=Z u)
  (new:jx P w (BD H x o') h' x o'):G5 P w (BD H x o') h':=λb u q=>by
 have m:∀c y,H c=Z (.own y)->c≠x:=λc y r z=>by subst z;rw[r]at a;exact a
 have s:∀c xs,H c=Z (.tup xs)->c≠x:=λc xs r z=>by subst z;rw[r]at a;exact a
 have o:∀c o' j,H c=Z (.qG o' j)->c≠x:=λc o' j r z=>by subst z;rw[r]at a;exact a
 by_cases f:b=x
 ·subst f;rw[bK]at q;cases q;exact new
 ·rw[aR f]at q;by_cases i:b=e
  ·have l:H b=Z (.own x):=by
    rcases n with z|z
    ·exact absurd (i.trans z) f
    ·rw[i];exact z
   rw[q]at l;cases l;obtain⟨v,p⟩:=t;exact⟨v,by rw[i];exact p⟩
  ·refine(ok b u q).stay (λc v g r=>k c v ?_ r) (λc r=>by rw[aR (m c b r)];exact r) (λc xs r=>by rw[aR (s c xs r)];exact r) λc o' j r=>by rw[aR (o c o' _ r)];exact r
   rcases g with rfl|g
   ·exact i
   ·rintro rfl;rcases n with z|z
    ·exact m c b g z
    ·rw[g]at z;cases z;exact f rfl
end
structure Un (fs ex:List Addr) (H H':Hp) (h h':Heap):Prop where
 keep:∀b o,h.get? b=some o->H b=none->b∉fs->b∉ex->h'.get? b=some o
 slot:∀b o,h.get? b=some o->H b=none->b∈fs->b∉ex->∃sl,h'.get? b=some { o with slots:=sl }
 free:∀b o,h.get? b=some o->H b=none->b∉ex->H' b=none
 there:∀b o,h.get? b=some o->b∉ex->∃o',h'.get? b=some o'
 tups:∀b xs,H b=some (.tup xs)->H' b=some (.tup xs)
 HY:∀b o u,H b=some (.qG o u)->H' b=some (.qG o u)
 Ce:∀b ps,H b=some (.PN ps)->∃more,H' b=some (.PN (ps++more))
section
variable{fs fs' ex ex':O A2}{H H1 H2:Hp}{h1 h2 h':A7}{x e:A2}{o:HO}
theorem Un.any(u:Un fs ex H H1 h h1){b:A2}{a:AF}(q:h.get? b=Z a)(n:H b=Y3)(hx:b∉ex):∃sl,h1.get? b=Z { a with slots:=sl }:=by
 by_cases c:b∈fs
 ·exact u.slot b a q n c hx
 ·exact⟨a.slots,u.keep b a q n c hx⟩
theorem Un.kept(k:∀b u,h.get? b=Z u->h'.get? b=Z u):Un fs ex H H h h':=
 ⟨λb a q _ _ _=>k b a q,λb a q _ _ _=>⟨a.slots,k b a q⟩,λ_ _ _ n _=>n,λb a q _=>⟨a,k b a q⟩,λ_ _ q=>q,λ_ _ _ q=>q,λ_ ps q=>⟨#[],by rw[q];simp⟩⟩
theorem Un.refl:Un fs ex H H h h:=Un.kept λ_ _ q=>q
theorem Un.laid(k:∀b u,h.get? b=Z u->h'.get? b=Z u)(hp:h.objs.size<=a)(c:H a=Y3):Un fs ex H (BD H a o) h h' where
 keep:=λb u q _ _ _=>k b u q
 slot:=λb u q _ _ _=>⟨u.slots,k b u q⟩
 free:=λb u q n _=>by rw[aR (ZO (ZH (zI q) hp))];exact n
 there:=λb u q _=>⟨u,k b u q⟩
 tups:=λb xs q=>by rw[aR (cJ q c)];exact q
 HY:=λb u xs q=>by rw[aR (cJ q c)];exact q
 Ce:=λb ps q=>⟨#[],by rw[aR (cJ q c),q];simp⟩
theorem Un.write(a:HV (H x))(i:e=x\/H e=Z (.own x))(k:∀b u,b≠e->h.get? b=Z u->h'.get? b=Z u)(j:∃u,h'.get? e=Z u):Un fs ex H (BD H x o) h h':=by
 have hx:∀b,H b=Y3->b≠x:=λb n z=>by subst z;rw[n]at a;exact a
 have f:∀b,H b=Y3->b≠e:=λb n z=>by
  subst z;rcases i with r|r
  ·exact hx b n r
  ·rw[n]at r;cases r
 have c:∀b u,H b=Z u->¬ HV (Z u)->b≠x:=λb u q nm z=>by subst z;rw[q]at a;exact nm a
 refine⟨λb u q n _ _=>k b u (f b n) q,λb u q n _ _=>⟨u.slots,k b u (f b n) q⟩,λb u q n _=>by rw[aR (hx b n)];exact n,λb u q _=>?_,
  λb xs q=>by rw[aR (c b _ q λz=>z)];exact q,λb u xs q=>by rw[aR (c b _ q λz=>z)];exact q,λb ps q=>⟨#[],by rw[aR (c b _ q λz=>z),q];simp⟩⟩
 by_cases g:b=e
 ·subst g;exact j
 ·exact⟨u,k b u g q⟩
end
def IN(h:A7)(H:Hp):O A2:=(dc h.objs.size).filter λa=>(H a).isSome
def PX(h:A7)(H:Hp):A7:=PySem.W.hideAll h (IN h H)
theorem VC(h:A7)(H:Hp):(PX h H).objs.size=h.objs.size:=PySem.W.hideAll_size _ _
theorem XI{H:Hp}{b:A2}{o:AF}(e:h.get? b=Z o)(n:H b=Y3):(PX h H).get? b=Z o:=
 PySem.W.hideAll_get _ e λa=>by
  have q:(H b).isSome=true:=(ca.mp a).2;rw[n]at q;simp at q
theorem d4{H:Hp}{b:A2}{o:AF}(e:(PX h H).get? b=Z o):h.get? b=Z o/\H b=Y3:=by
 have e':h.get? b=Z o:=PySem.W.of_hideAll (IN h H) e;refine⟨e',?_⟩;cases q:H b with
 |none=>rfl
 |some x=>
  have a:b∈IN h H:=ca.mpr ⟨dB.mpr (zI e'),by simp[q]⟩;have z:(PX h H).get? b=Y3:=PySem.W.hideAll_none (IN h H) a;rw[z]at e;cases e
def UR(g h:A7)(L:A2):O (A2×AF):=(dc h.objs.size).filterMap λa=>if a=L\/(g.get? a).isSome=true then Y3 else(h.get? a).map λo=>(a,o)
def AT(g h:A7)(L d:A2):O (A2×AF):=(UR g h L).filter λp=>decide (p.1≠d)
end L2
namespace L2
structure Mod (K:BA) (mg:Str->Option Value) (base:Heap):Prop where
 kin:K.In base
 glob:base.Ns mainGlobals mg
 blt:∃mb,base.Ns builtinsNs mb/\∀x:Str,x ≠ "__name__" → mb x=bootBuiltins x
 nolimit:base.NoLimit
 bmain:∃bm ob,mg "__builtins__"=some (.ref bm)/\bm≠builtinsNs/\base.get? bm=some ob/\ob.cls=.type "module" ∧ ob.dict=some builtinsNs/\ob.data=.plain
structure Cx where
 prog:Program
 w:World
 K:BA
 mg:Str->Option Value
 base:Heap
 A:Around
 N:B5
 s₀:Shared
 H₀:Hp
 env:Env
 outer:List Env
 stack:List Env
 ex:List Addr
 fn:Str->Bool
 calm:Bool
 pn:List (Addr×Obj)
 xe:BO
abbrev dl(X:Cx):=A9 X.prog X.w
def DA(l:O Env):O A2:=l.filterMap (·.frame)
abbrev Cx.fs(X:Cx):O A2:=DA X.outer
def D9(a:Scope)(x:AK):Prop:=a.names.lookup x=Z .local\/a.names.lookup x=Z .cell\/a.names.lookup x=Z .free
def D6(a:Scope)(x:AK):Prop:=a.names.lookup x=Z .local\/a.names.lookup x=Z .cell
def MV(env:Env)(h:A7)(m:AK->Y A0)(x:AK)(u:A0):Prop:=
 (env.kindOf x=Z .local/\m x=Z u)\/((env.kindOf x=Z .cell\/env.kindOf x=Z .free)/\∃c,env.cells.lookup x=Z c/\h.IsCell c (Z u))
structure Cx.Ok (X:Cx):Prop where
 mod:Mod X.K X.mg X.base
 kind:X.env.scope.kind=.function
 glob:X.env.globals=mainGlobals
 blt:X.env.builtins=builtinsNs
 above:X.s₀.heap.objs.size<=X.env.locals
 inj:∀x y c,X.env.cells.lookup x=some c->X.env.cells.lookup y=some c->x=y
 has:∀x,(X.env.kindOf x=some .cell\/X.env.kindOf x=some .free)->∃c,X.env.cells.lookup x=some c
 cab:∀x c,X.fn x=true->X.env.cells.lookup x=some c->X.s₀.heap.objs.size<=c
 hd:X.calm=true->X.A.handled=none
 frames:X.A.frames=some X.stack
 stk:X.stack=X.outer\/(X.stack=X.env::X.outer/\X.env.frame=some X.env.locals)
 exf:∀b∈X.ex,b≠X.env.locals/\∀x c,X.env.cells.lookup x=some c->c≠b
 bs:∀b o,X.base.get? b=some o->X.s₀.heap.get? b=some o/\X.H₀ b=none
 bsz:X.base.objs.size<=X.s₀.heap.objs.size
 abJ:∀b o,X.base.get? b=some o->b∉X.ex
 ae5:∀b∈X.ex,b∉X.fs
 Ia:X.s₀.heap.FunFrames X.base X.outer
 frf:∀b∈X.fs,X.H₀ b=none
 tabs:C6 X.K X.H₀
structure AV (X:Cx) (AO:List (Addr×Obj)) (σ:List (Option V)) (H:Hp) (s:Shared):Prop where
 ok:X.Ok
 os:s.os=X.s₀.os
 bare:AllBare s.gens
 base:Un X.fs X.ex X.H₀ H X.s₀.heap s.heap
 loc:∃m,s.heap.Ns X.env.locals m/\∀(i:Nat) (x:Str) (v:V),X.N[i]?=some x->σ[i]?=some (some v)->D9 X.env.scope x->∃u,B6 v u/\MV X.env s.heap m x u
 cell:∀x c,X.env.cells.lookup x=some c->∃v,s.heap.IsCell c v
 free:H X.env.locals=none
 tD:∀x c,X.env.cells.lookup x=some c->H c=none
 pin:∀p∈X.pn++AO,s.heap.get? p.1=some p.2/\H p.1=none/\p.1≠X.env.locals/\p.1∉X.fs/\∀v,p.2.data≠.cell v
 hok:G5 X.prog X.w H s.heap
 len:σ.length=X.N.length
section
variable{X:Cx}{σ:O (Y V)}{H H':Hp}{h':A7}
theorem Cx.Ok.anu(ok:X.Ok){b:A2}{o:AF}(e:X.base.get? b=Z o):b∉X.fs:=λa=>by
 have:=(ok.Ia.mem a).1;rw[e]at this;cases this
theorem AV.bs(I:AV X AO σ H s):∀b o,X.base.get? b=Z o->s.heap.get? b=Z o/\H b=Y3:=λb o e=>
 ⟨I.base.keep b o (I.ok.bs b o e).1 (I.ok.bs b o e).2 (I.ok.anu e) (I.ok.abJ b o e),I.base.free b o (I.ok.bs b o e).1 (I.ok.bs b o e).2 (I.ok.abJ b o e)⟩
theorem AV.bk(I:AV X AO σ H s):∀b o,X.base.get? b=Z o->s.heap.get? b=Z o:=λb o e=>(I.bs b o e).1
theorem AV.mod(I:AV X AO σ H s):Mod X.K X.mg X.base:=I.ok.mod
theorem AV.kIn(I:AV X AO σ H s):X.K.In s.heap:=I.ok.mod.kin.keeps I.bk
theorem AV.nolimit(I:AV X AO σ H s):s.heap.NoLimit:=I.ok.mod.nolimit.keeps I.bk
theorem AV.lt(I:AV X AO σ H s):X.env.locals<s.heap.objs.size:=let ⟨_,hn,_⟩:=I.loc;hn.lt
theorem AV.sz(I:AV X AO σ H s):X.s₀.heap.objs.size<=s.heap.objs.size:=zl I.ok.above (qh I.lt)
theorem AV.anv(I:AV X AO σ H s)(h:s.heap.objs.size<=a):a∉X.fs:=λc=>by
 obtain⟨_,o,b,_⟩:=I.ok.Ia.mem c;exact absurd (ZH (zI b) (zl I.sz h)) (kL _)
theorem AV.cne(I:AV X AO σ H s):∀x c,X.env.cells.lookup x=Z c->c≠X.env.locals:=λx c e z=>by
 obtain⟨v,o,a,hd⟩:=I.cell x c e;obtain⟨m,⟨o',es,ep,f,b,_⟩,_⟩:=I.loc;rw[z,f]at a;cases a;rw[b]at hd;cases hd
theorem AV.Ia(I:AV X AO σ H s):s.heap.FunFrames X.base X.outer:=by
 have all:∀(l:O Env),(∀b∈DA l,b∈X.fs)->X.s₀.heap.FunFrames X.base l->s.heap.FunFrames X.base l:=by
  intro l
  induction l with
  |nil=>intro _ _;trivial
  |cons env r h=>
   intro g m;obtain⟨hk,⟨L,o,c,j,k,hd⟩,i⟩:=m;have a:L∈X.fs:=g L (by unfold DA;rw[fW,c];exact zr);obtain⟨sl,e⟩:=I.base.slot L o k (I.ok.frf L a) a λz=>I.ok.ae5 L z a;exact⟨hk,⟨L,_,c,j,e,hd⟩,h (λb f=>g b (by unfold DA;rw[fW,c];exact zk _ f)) i⟩
 exact all X.outer (λ_ f=>f) I.ok.Ia
theorem AV.stack(I:AV X AO σ H s):s.heap.FunFrames X.base X.stack:=by
 rcases I.ok.stk with e|⟨e,b⟩
 ·rw[e];exact I.Ia
 ·rw[e];obtain⟨m,a,_⟩:=I.loc;refine .cons (by rw[I.ok.kind];decide) b a ?_ I.Ia;exact Heap.get?_none_of_le (zl I.ok.bsz I.ok.above)
theorem AV.Qa(I:AV X AO σ H s):∀b∈DA X.stack,b∈X.env.locals::X.fs:=λb a=>by
 rcases I.ok.stk with e|⟨e,c⟩
 ·rw[e]at a;exact zk _ a
 ·rw[e]at a;unfold DA at a;rw[fW,c]at a;exact a
theorem AV.Qc(I:AV X AO σ H s):∀b∈DA X.stack,H b=Y3:=λb a=>by
 rcases ba.mp (I.Qa b a)with e|a
 ·rw[e];exact I.free
 ·obtain⟨_,o,c,_⟩:=I.ok.Ia.mem a;exact I.base.free b o c (I.ok.frf b a) λz=>I.ok.ae5 b z a
theorem AV.step{g':Array GenState}{t':Nat}{d':Drawn}{ch:O A2}(I:AV X AO σ H s)
  (h:∀b∈ch,(b∈X.ex\/X.s₀.heap.objs.size<=b)/\b≠X.env.locals/\(∀x c,X.env.cells.lookup x=Z c->c≠b)/\∀p∈X.pn++AO,p.1≠b)
  (keep:∀b o,b≠X.env.locals->b∉X.fs->b∉ch->s.heap.get? b=Z o->H b=Y3->h'.get? b=Z o)
  (y:∀b o,b≠X.env.locals->b∈X.fs->b∉ch->s.heap.get? b=Z o->H b=Y3->∃sl,h'.get? b=Z { o with slots:=sl }) (free:∀b o,b∉ch->s.heap.get? b=Z o->H b=Y3->H' b=Y3)
  (U:∀b o,b∉ch->s.heap.get? b=Z o->∃o',h'.get? b=Z o')
  (K:∀b xs,H b=Z (.tup xs)->H' b=Z (.tup xs)) (M:∀b o u,H b=Z (.qG o u)->H' b=Z (.qG o u)) (N:∀b ps,H b=Z (.PN ps)->∃G,H' b=Z (.PN (ps++G)))
  (E:∀m,s.heap.Ns X.env.locals m->h'.Ns X.env.locals m) (P:G5 X.prog X.w H' h') (L:AllBare g'):
  AV X AO σ H' { s with heap:=h',gens:=g',drawn:=d',toks:=t' }:=by
 have t:∀b o,X.s₀.heap.get? b=Z o->b≠X.env.locals:=λb o e=>ZO (ZH (zI e) I.ok.above);have j:∀b o,X.s₀.heap.get? b=Z o->b∉X.ex->b∉ch:=λb o e hx a=>by
  rcases(h b a).1 with z|z
  ·exact hx z
  ·exact absurd (ZH (zI e) z) (kL _)
 have B:∀x c,X.env.cells.lookup x=Z c->∀v,s.heap.IsCell c v->h'.IsCell c v:=λx c e v ⟨o,f,hd⟩=>by
  have g:c∉ch:=λz=>(h c z).2.2.1 x c e rfl;by_cases A:c∈X.fs
  ·obtain⟨sl,q⟩:=y c o (I.cne x c e) A g f (I.tD x c e);exact⟨_,q,hd⟩
  ·exact⟨o,keep c o (I.cne x c e) A g f (I.tD x c e),hd⟩
 refine⟨I.ok,I.os,L,⟨λb o e n a hx=>?_,λb o e n a hx=>?_,λb o e n hx=>?_,λb o e hx=>?_,λb xs e=>K b xs (I.base.tups b xs e),λb o xs e=>M b o xs (I.base.HY b o xs e),λb ps e=>?_⟩,?_,λx c e=>?_,?_,λx c e=>?_,λp hp=>?_,P,I.len⟩
 ·exact keep b o (t b o e) a (j b o e hx) (I.base.keep b o e n a hx) (I.base.free b o e n hx)
 ·obtain⟨sl,e1⟩:=I.base.slot b o e n a hx;obtain⟨S,e2⟩:=y b _ (t b o e) a (j b o e hx) e1 (I.base.free b o e n hx);exact⟨S,e2⟩
 ·obtain⟨o',e1⟩:=I.base.there b o e hx;exact free b o' (j b o e hx) e1 (I.base.free b o e n hx)
 ·obtain⟨o',e1⟩:=I.base.there b o e hx;exact U b o' (j b o e hx) e1
 ·obtain⟨F,e1⟩:=I.base.Ce b ps e;obtain⟨m2,e2⟩:=N b _ e1;exact⟨F++m2,by rw[e2,yo]⟩
 ·obtain⟨m,J,Q⟩:=I.loc;refine⟨m,E m J,λi x v e1 e2 e3=>?_⟩;obtain⟨u,r,l⟩:=Q i x v e1 e2 e3;refine⟨u,r,?_⟩;rcases l with l|⟨k,c,e,z⟩
  ·exact .inl l
  ·exact .inr ⟨k,c,e,B x c e _ z⟩
 ·obtain⟨v,z⟩:=I.cell x c e;exact⟨v,B x c e v z⟩
 ·obtain⟨m,⟨o,_,_,f,_⟩,_⟩:=I.loc;exact free _ o (λz=>(h _ z).2.1 Y2) f I.free
 ·obtain⟨v,o,f,hd⟩:=I.cell x c e;exact free c o (λz=>(h c z).2.2.1 x c e Y2) f (I.tD x c e)
 ·obtain⟨e,n,C,D,d⟩:=I.pin p hp;have g:p.1∉ch:=λz=>(h p.1 z).2.2.2 p hp rfl;exact⟨keep p.1 p.2 C D g e n,free p.1 p.2 g e n,C,D,d⟩
theorem AV.un{t':Nat}(I:AV X AO σ H s)(u:Un X.fs [] H H' s.heap h')(l:G5 X.prog X.w H' h'):AV X AO σ H' { s with heap:=h',toks:=t' }:=by
 obtain⟨m,⟨o,es,ep,f,r⟩,_⟩:=id I.loc;obtain⟨sl,g⟩:=u.any f I.free (by simp);exact I.step (g':=s.gens) (d':=s.drawn) (ch:=[]) (λ_ z=>nomatch z) (λb o _ a _ e n=>u.keep b o e n a (by simp)) (λb o _ a _ e n=>u.slot b o e n a (by simp)) (λb o _ e n=>u.free b o e n (by simp)) (λb o _ e=>u.there b o e (by simp)) u.tups u.HY u.Ce (λp i=>by
  obtain⟨o',j,k,c,h⟩:=i;rw[f]at c;cases c;exact⟨_,j,k,g,h⟩) l I.bare
theorem AV.call{g':Array GenState}{t':Nat}{d':Drawn}{ch:O A2}(I:AV X AO σ H s)(u:Un (DA X.stack) ch H H' s.heap h')(y:G5 X.prog X.w H' h')(k:AllBare g')
  (g:∀b∈ch,(b∈X.ex\/X.s₀.heap.objs.size<=b)/\b≠X.env.locals/\(∀x c,X.env.cells.lookup x=Z c->c≠b)/\∀p∈X.pn++AO,p.1≠b):
  AV X AO σ H' { s with heap:=h',gens:=g',drawn:=d',toks:=t' }:=by
 obtain⟨m,⟨o,es,ep,i,r⟩,_⟩:=id I.loc;obtain⟨sl,f⟩:=u.any i I.free λz=>(g _ z).2.1 rfl;exact I.step (ch:=ch) g (λb o f v a e n=>u.keep b o e n (λz=>(ba.mp (I.Qa b z)).elim f v) a) (λb o _ _ a e n=>u.any e n a) (λb o a e n=>u.free b o e n a) (λb o a e=>u.there b o e a) u.tups u.HY u.Ce (λA l=>by
  obtain⟨o',q,t,h,j⟩:=l;rw[i]at h;cases h;exact⟨_,q,t,f,j⟩) y k
theorem AV.turned{t':Nat}(I:AV X AO σ H s)(k:∀b o,b≠it->s.heap.get? b=Z o->h'.get? b=Z o)(j:H it=Y3)(f:it≠X.env.locals)(h1:it∈X.ex\/X.s₀.heap.objs.size<=it)(h2:∀x c,X.env.cells.lookup x=Z c->c≠it)(h:∀p∈X.pn++AO,p.1≠it):AV X AO σ H { s with heap:=h',toks:=t' }:=by
 have g:∀b u,H b=Z u->b≠it:=λb u e z=>by rw[z,j]at e;cases e
 refine I.step (g':=s.gens) (d':=s.drawn) (ch:=[it]) (λb t=>?_) (λb o _ _ a e _=>k b o (λz=>a (by simp[z])) e) (λb o _ _ a e _=>⟨o.slots,k b o (λz=>a (by simp[z])) e⟩) (λ_ _ _ _ n=>n)
  (λb o a e=>⟨o,k b o (λz=>a (by simp[z])) e⟩) (λ_ _ e=>e) (λ_ _ _ e=>e) (λb ps e=>⟨#[],by rw[e];simp⟩) (λm i=>?_) (λb u e=>?_) I.bare
 ·have e:b=it:=by simpa using t
  subst e;exact⟨h1,f,h2,h⟩
 ·obtain⟨o,es,ep,l,r⟩:=i;exact⟨o,es,ep,k _ o (k9 f) l,r⟩
 ·refine(I.hok b u e).stay (λc v a q=>k c v ?_ q) (λ_ q=>q) (λ_ _ q=>q) λ_ _ _ q=>q;rcases a with z|z
  ·rw[z];exact g b u e
  ·exact g c _ z
theorem AV.tok(I:AV X AO σ H s)(t:Nat):AV X AO σ H { s with toks:=t }:=I.un (h':=s.heap) (t':=t) Un.refl I.hok
theorem AV.kept{t':Nat}(I:AV X AO σ H s)(k:∀b u,s.heap.get? b=Z u->h'.get? b=Z u):AV X AO σ H { s with heap:=h',toks:=t' }:=I.un (Un.kept k) (I.hok.kept k)
theorem AV.laid{a:A2}{o:HO}{t':Nat}(I:AV X AO σ H s)(k:∀b u,s.heap.get? b=Z u->h'.get? b=Z u)(hp:s.heap.objs.size<=a)(new:jx X.prog X.w (BD H a o) h' a o):
  AV X AO σ (BD H a o) { s with heap:=h',toks:=t' }:=I.un (Un.laid k hp (I.hok.fresh hp)) (I.hok.laid k hp new)
theorem AV.write{x e:A2}{o:HO}{t':Nat}(I:AV X AO σ H s)(f:HV (H x))(a:e=x\/H e=Z (.own x))(k:∀b u,b≠e->s.heap.get? b=Z u->h'.get? b=Z u)(c:∃u,h'.get? e=Z u)
  (new:jx X.prog X.w (BD H x o) h' x o):AV X AO σ (BD H x o) { s with heap:=h',toks:=t' }:=I.un (Un.write f a k c) (I.hok.write f a k c new)
theorem AV.IK{a:O (A2×AF)}(I:AV X AO σ H s)(h:∀p∈a,s.heap.get? p.1=Z p.2/\H p.1=Y3/\p.1≠X.env.locals/\p.1∉X.fs/\∀v,p.2.data≠.cell v):AV X a σ H s:=
 ⟨I.ok,I.os,I.bare,I.base,I.loc,I.cell,I.free,I.tD,λp hp=>(bc.mp hp).elim (λz=>I.pin p (QR _ z)) (h p),I.hok,I.len⟩
theorem Tg(c:N.Nodup)(a:N[i]?=Z x)(b:N[j]?=Z x):i=j:=by
 obtain⟨h1,e1⟩:=bj.mp a;obtain⟨h2,e2⟩:=bj.mp b;exact(Yf c).mp (e1.trans e2.symm)
theorem nI{v:V}{Q:Unit->A3->Prop}(I:AV X AO σ H s)(U:X.N.Nodup)(hi:X.N[i]?=Z x)(hx:D6 X.env.scope x)(r:B6 v u)(h:∀s',AV X AO (σ.set i (Z v)) H s'->(∃a,Heap.SameBut a s.heap s'.heap/\(a=X.env.locals\/X.env.cells.lookup x=Z a))->Q lm s')(hf:X.fn x=true\/X.env.scope.names.lookup x=Z .local:=by first|exact .inl rfl|exact .inr rfl|assumption):A8 M A (storeName X.env x u) Q E s:=by
 obtain⟨m,D,hl⟩:=id I.loc;have a6:(X.env.scope.kind==.class||(X.env.scope.kind==.module&&X.env.locals !=X.env.globals))=false:=by rw[I.ok.kind];rfl
 have S:i<σ.length:=by rw[I.len];exact(bj.mp hi).1
 have cne:=I.cne;have W:∀{a:A2} {h':A7},(∃o,s.heap.get? a=Z o/\H a=Y3)->Heap.SameBut a s.heap h'->G5 X.prog X.w H h':=λ{a h'} ha f b ob e=>by
  obtain⟨_,_,P⟩:=ha;refine(I.hok b ob e).stay (λc C g q=>(f.2 c ?_).trans q) (λ_ q=>q) (λ_ _ q=>q) λ_ _ _ q=>q;rintro rfl;rcases g with rfl|g
  ·rw[P]at e;cases e
  ·rw[P]at g;cases g
 rcases hx with hk|hk
 ·refine wpAny_storeName_local hk D (λh' a7 f=>?_) a6;obtain⟨oL,_,_,a5,_⟩:=id D;refine h _ ⟨I.ok,I.os,I.bare,⟨λb o e n t hx=>?_,λb o e n t hx=>?_,I.base.free,λb o e hx=>?_,I.base.tups,I.base.HY,I.base.Ce⟩,⟨_,a7,λj y G e1 e2 e3=>?_⟩,λy c e=>?_,I.free,I.tD,λp hp=>?_,W ⟨oL,a5,I.free⟩ f,by simpa using I.len⟩ ⟨_,f,.inl rfl⟩
  ·exact(f.2 b (ZO (ZH (zI e) I.ok.above))).trans (I.base.keep b o e n t hx)
  ·obtain⟨sl,e1⟩:=I.base.slot b o e n t hx;exact⟨sl,(f.2 b (ZO (ZH (zI e) I.ok.above))).trans e1⟩
  ·obtain⟨o',e1⟩:=I.base.there b o e hx;exact⟨o',(f.2 b (ZO (ZH (zI e) I.ok.above))).trans e1⟩
  ·by_cases l:j=i
   ·subst l;rw[hi]at e1;cases e1;rw[mK S]at e2;cases e2;exact⟨u,r,.inl ⟨hk,by simp⟩⟩
   ·rw[nk (k9 l)]at e2;obtain⟨L,F,q⟩:=hl j y G e1 e2 e3;refine⟨L,F,?_⟩;rcases q with⟨k,e⟩|⟨k,c,e,z⟩
    ·refine .inl ⟨k,?_⟩;have:y≠x:=λe=>l (Tg U e1 (e▸hi));simp[this,e]
    ·exact .inr ⟨k,c,e,z.sameBut f (cne y c e)⟩
  ·obtain⟨C,z⟩:=I.cell y c e;exact⟨C,z.sameBut f (cne y c e)⟩
  ·obtain⟨e,n,B,K,d⟩:=I.pin p hp;exact⟨(f.2 p.1 B).trans e,n,B,K,d⟩
 ·have J:X.fn x=true:=by
   rcases hf with z|z
   ·exact z
   ·rw[z]at hk;cases hk
  obtain⟨c,g⟩:=I.ok.has x (.inl hk);obtain⟨C,z⟩:=I.cell x c g;refine wpAny_storeName_cell I.ok.kind hk g z (λh' a2 f=>?_);obtain⟨oc,a1,a4⟩:=id z;refine h { s with heap:=h' } ⟨I.ok,I.os,I.bare,⟨λb o e n t hx=>?_,λb o e n t hx=>?_,I.base.free,λb o e hx=>?_,I.base.tups,I.base.HY,I.base.Ce⟩,⟨m,D.sameBut f (k9 (cne x c g)),λj y G e1 e2 e3=>?_⟩,λy c' e=>?_,I.free,I.tD,λp hp=>?_,W ⟨oc,a1,I.tD x c g⟩ f,by simpa using I.len⟩ ⟨c,f,.inr g⟩
  ·exact(f.2 b (ZO (ZH (zI e) (I.ok.cab x c J g)))).trans (I.base.keep b o e n t hx)
  ·obtain⟨sl,e1⟩:=I.base.slot b o e n t hx;exact⟨sl,(f.2 b (ZO (ZH (zI e) (I.ok.cab x c J g)))).trans e1⟩
  ·obtain⟨o',e1⟩:=I.base.there b o e hx;exact⟨o',(f.2 b (ZO (ZH (zI e) (I.ok.cab x c J g)))).trans e1⟩
  ·by_cases l:j=i
   ·subst l;rw[hi]at e1;cases e1;rw[mK S]at e2;cases e2;exact⟨u,r,.inr ⟨.inl hk,c,g,a2⟩⟩
   ·rw[nk (k9 l)]at e2;obtain⟨L,F,q⟩:=hl j y G e1 e2 e3;refine⟨L,F,?_⟩;rcases q with q|⟨k,c',e,z'⟩
    ·exact .inl q
    ·refine .inr ⟨k,c',e,z'.sameBut f ?_⟩;rintro rfl;exact l (Tg U e1 (I.ok.inj _ _ _ e g▸hi))
  ·by_cases a3:c'=c
   ·subst a3;exact⟨_,a2⟩
   ·obtain⟨w2,z2⟩:=I.cell y c' e;exact⟨w2,z2.sameBut f a3⟩
  ·obtain⟨e,n,B,K,d⟩:=I.pin p hp;refine⟨(f.2 p.1 ?_).trans e,n,B,K,d⟩;intro q;rw[q,a1]at e;have q':oc=p.2:=Jn e;exact d C (by rw[<-q'];exact a4)
theorem Dl{v:V}{Q:Unit->A3->Prop}(I:AV X AO σ H s)(a:X.N.Nodup)(hi:X.N[i]?=Z x)(hx:D6 X.env.scope x)(r:B6 v u)(h:∀s',AV X AO (σ.set i (Z v)) H s'->Q lm s')(c:X.fn x=true\/X.env.scope.names.lookup x=Z .local:=by first|exact .inl rfl|exact .inr rfl|assumption):A8 M A (storeName X.env x u) Q E s:=
 nI I a hi hx r (λs' b _=>h s' b) c
theorem AV.call'{s':A3}{ch:O A2}(I:AV X AO σ H s)(g:s'.os=s.os)(u:Un (DA X.stack) ch H H' s.heap s'.heap)(h:G5 X.prog X.w H' s'.heap)(f:AllBare s'.gens)
  (a:∀b∈ch,(b∈X.ex\/X.s₀.heap.objs.size<=b)/\b≠X.env.locals/\(∀x c,X.env.cells.lookup x=Z c->c≠b)/\∀p∈X.pn++AO,p.1≠b):AV X AO σ H' s':=by
 obtain⟨h',g',d',t',o'⟩:=s';have e:o'=s.os:=g;subst e;exact I.call (g':=g') (t':=t') (d':=d') u h f a
end
abbrev XK:=A0->Y A2->Hp->Prop
abbrev St:=O (Y V)
abbrev VK:=V->Hp->Prop
abbrev TE:=St->Hp->VK->Prop
abbrev TT:=St->Hp->(Bool->Hp->Prop)->Prop
abbrev TA:=St->Hp->(O V->Hp->Prop)->Prop
structure CO where
 nx:St->Hp->Prop
 rt:VK
 bk:St->Hp->Prop:=λ_ _=>False
 ct:St->Hp->Prop:=λ_ _=>False
abbrev TS:=CO->St->Hp->Prop
def EP(X:Cx)(AO:O (A2×AF))(σ:St)(Q:VK)(u:A0)(s':A3):Prop:=∃v H',AV X AO σ H' s'/\B6 v u/\Q v H'
def TP(X:Cx)(AO:O (A2×AF))(σ:St)(Q:Bool->Hp->Prop)(b:Bool)(s':A3):Prop:=∃H',AV X AO σ H' s'/\Q b H'
def AP(X:Cx)(AO:O (A2×AF))(σ:St)(Q:O V->Hp->Prop)(us:O A0)(s':A3):Prop:=∃vs H',AV X AO σ H' s'/\AY vs us/\Q vs H'
def SP(X:Cx)(AO:O (A2×AF))(D:CO)(f:Flow)(s':A3):Prop:=
 match f with
 |.next=>∃ σ' H',AV X AO σ' H' s'/\D.nx σ' H'
 |.brk=>∃ σ' H',AV X AO σ' H' s'/\D.bk σ' H'
 |.cont=>∃ σ' H',AV X AO σ' H' s'/\D.ct σ' H'
 |.ret u=>∃v σ' H',AV X AO σ' H' s'/\B6 v u/\D.rt v H'
def PE(X:Cx)(e:Expr)(t:TE):Prop:=
 ∀(AO:O (A2×AF)) (s:A3) (σ:St) (H:Hp) (Q:VK),AV X AO σ H s->t σ H Q->A8 (dl X) X.A (eval e X.env) (EP X AO σ Q) X.xe s
def PT(X:Cx)(e:Expr)(t:TT):Prop:=
 ∀(AO:O (A2×AF)) (s:A3) (σ:St) (H:Hp) (Q:Bool->Hp->Prop),AV X AO σ H s->t σ H Q->A8 (dl X) X.A (isTrue e X.env (eval e X.env)) (TP X AO σ Q) X.xe s
def PW(X:Cx)(e:Expr)(t:TT):Prop:=
 ∀(a:Sem A0) (AO:O (A2×AF)) (s:A3) (σ:St) (H:Hp) (Q:Bool->Hp->Prop),AV X AO σ H s->t σ H Q->A8 (dl X) X.A (isTrue e X.env a) (TP X AO σ Q) X.xe s
theorem PW.pt{X:Cx}{t:TT}(h:PW X e t):PT X e t:=h _
def PA(X:Cx)(es:O Expr)(t:TA):Prop:=
 ∀(pos:Pos) (AO:O (A2×AF)) (s:A3) (σ:St) (H:Hp) (Q:O V->Hp->Prop),AV X AO σ H s->t σ H Q->A8 (dl X) X.A (spliced (AE pos (AA es X.env))) (AP X AO σ Q) X.xe s
def PS(X:Cx)(st:AC)(t:TS):Prop:=
 ∀(AO:O (A2×AF)) (s:A3) (σ:St) (H:Hp) (D:CO),AV X AO σ H s->t D σ H->A8 (dl X) X.A (exec st X.env) (SP X AO D) X.xe s
def NQ(X:Cx)(st:O AC)(t:TS):Prop:=
 ∀(AO:O (A2×AF)) (s:A3) (σ:St) (H:Hp) (D:CO),AV X AO σ H s->t D σ H->A8 (dl X) X.A (execs st X.env) (SP X AO D) X.xe s
theorem jQ{t:Sem α}{Q b:α->A3->Prop}(h:A8 M A t Q E s)(c:∀a s,Q a s->b a s):A8 M A t b E s:=qA h c λ_ _ x=>x
end L2
namespace L2
section
variable{X:Cx}
def P8(i:Nat):TE:=λσ H Q=>∃v,σ[i]?=Z (Z v)/\Q v H
def tC(v:V):TE:=λ_ H Q=>Q v H
theorem Ga(n:X.N[i]?=Z x)(k:D9 X.env.scope x)(hd:db x:=by decide)(g:(x==("__classdict__":AK))=false:=by decide):PE X (.Name x pos) (P8 i):=by
 intro AO s σ H Q I h;obtain⟨v,e,h⟩:=h;obtain⟨m,o,p⟩:=I.loc;obtain⟨u,r,l⟩:=p i x v n e k;have a:EP X AO σ Q u s:=⟨v,H,I,r,h⟩;rcases l with⟨hk,j⟩|⟨hk,c,f,b⟩
 ·exact wpAny_Name (wpAny_loadName_local I.ok.kind hk o j a) hd
 ·rcases hk with hk|hk
  ·exact wpAny_Name (wpAny_loadName_cell I.ok.kind hk f b a) hd
  ·exact wpAny_Name (wpAny_loadName_free I.ok.kind hk f b a g) hd
theorem uC{i j pos}:PE X (.Constant (.int i) j pos) (tC (.int i)):=λ_ _ _ H _ I h=>wpAny_Constant_int ⟨.int i,H,I.tok _,⟨_,rfl⟩,h⟩
theorem Ts{b j pos}:PE X (.Constant (.bool b) j pos) (tC (.bl b)):=λ_ _ _ H _ I h=>Constant_bool ⟨.bl b,H,I,rfl,h⟩
theorem UO{j pos}:PE X (.Constant .none j pos) (tC .non):=λ_ _ _ H _ I h=>Constant_none ⟨.non,H,I,rfl,h⟩
theorem T2{x j pos}:PE X (.Constant (.str x) j pos) (tC (.str x)):=λ_ _ _ H _ I h=>Calls.Constant_str ⟨.str x,H,I.tok _,⟨_,rfl⟩,h⟩
def Gl(X:Cx)(x:AK):Prop:=X.env.kindOf x=Z .globalImplicit
theorem Qd{σ:St}{H:Hp}(I:AV X AO σ H s)(a:Gl X x)(b:X.mg x=Z u)(h:Q u s)(hd:db x:=by decide):A8 (dl X) X.A (eval (.Name x pos) X.env) Q E s:=
 Calls.Name_function_global I.ok.kind a (Calls.loadGlobal_global (by rw[I.ok.glob];exact I.mod.glob.keeps I.bk) b h) hd
theorem yI{σ:St}{H:Hp}(I:AV X AO σ H s)(a:Gl X x)(b:X.mg x=Y3)(c:AI x=Z u)(h:Q u s)(e:x ≠ "__name__":=by decide)(hd:db x:=by decide):A8 (dl X) X.A (eval (.Name x pos) X.env) Q E s:=by
 obtain⟨f,h1,h2⟩:=I.mod.blt;exact Calls.Name_function_global I.ok.kind a (Calls.loadGlobal_builtin (by rw[I.ok.glob];exact I.mod.glob.keeps I.bk) b (by rw[I.ok.blt];exact h1.keeps I.bk) ((h2 x e).trans c) h) hd
theorem YC{v:V}(a:Gl X x)(b:X.mg x=Z u)(r:B6 v u)(hd:db x:=by decide):PE X (.Name x pos) (tC v):=
 λ_ _ _ H _ I h=>Qd I a b ⟨v,H,I,r,h⟩ hd
theorem IV{v:V}(a:Gl X x)(e:X.mg x=Y3)(c:AI x=Z u)(r:B6 v u)(b:x ≠ "__name__":=by decide)(hd:db x:=by decide):PE X (.Name x pos) (tC v):=
 λ_ _ _ H _ I h=>yI I a e c ⟨v,H,I,r,h⟩ b hd
variable{a b:Expr}{ta tb:TE}
def tB(t:TE):TT:=λσ H Q=>t σ H λx H1=>∃c,x=.bl c/\Q c H1
variable{tA tB':TT}{AT:O Expr}
def ON(t u:TT):TT:=λσ H Q=>t σ H λc H1=>if c=true then u σ H1 Q else Q false H1
def Oy(t u:TT):TT:=λσ H Q=>t σ H λc H1=>if c=true then Q true H1 else u σ H1 Q
def ll(t:TT):TT:=λσ H Q=>t σ H λc H1=>Q (!c) H1
theorem xD(b:PT X a tA):PW X (.BoolOp .And [a] pos) tA:=by
 intro g AO s σ H Q I h;refine isTrue_and (jQ (b AO s σ H Q I h) λc f e=>?_);cases c with
 |true=>exact isTrue_and_nil e
 |false=>exact e
theorem li(b:PT X a tA):PW X (.BoolOp .Or [a] pos) tA:=by
 intro g AO s σ H Q I h;refine isTrue_or (jQ (b AO s σ H Q I h) λc f e=>?_);cases c with
 |false=>exact isTrue_or_nil e
 |true=>exact e
theorem n0(e:PT X a tA)(g:PW X (.BoolOp .And (b::AT) pos) tB'):PW X (.BoolOp .And (a::b::AT) pos) (ON tA tB'):=by
 intro f AO s σ H Q I h;refine isTrue_and (jQ (e AO s σ H _ I h) λc s1 ⟨H1,I1,q1⟩=>?_);cases c with
 |true=>exact g f AO s1 σ H1 Q I1 q1
 |false=>exact⟨H1,I1,q1⟩
theorem hV(e:PT X a tA)(g:PW X (.BoolOp .Or (b::AT) pos) tB'):PW X (.BoolOp .Or (a::b::AT) pos) (Oy tA tB'):=by
 intro f AO s σ H Q I h;refine isTrue_or (jQ (e AO s σ H _ I h) λc s1 ⟨H1,I1,q1⟩=>?_);cases c with
 |true=>exact⟨H1,I1,q1⟩
 |false=>exact g f AO s1 σ H1 Q I1 q1
theorem nX(b:PT X a tA):PT X (.UnaryOp .Not a pos) (ll tA):=by
 intro AO s σ H Q I h;exact isTrue_not (b AO s σ H (λc H1=>Q (!c) H1) I h)
def vT(ta tb:TE):TE:=λσ H Q=>ta σ H λx H1=>∃c,x=.bl c/\if c=true then tb σ H1 Q else Q (.bl false) H1
def b9(ta:TE):TE:=λσ H Q=>ta σ H λx H1=>∃c,x=.bl c/\Q (.bl (!c)) H1
theorem W'{op}{t:TE}(h:PE X a t):PE X (.BoolOp op [a] pos) t:=λAO s σ H Q I b=>BoolOp_one (h AO s σ H Q I b)
theorem YO(e:PE X a ta)(f:PE X (.BoolOp .And (b::AT) pos) tb):PE X (.BoolOp .And (a::b::AT) pos) (vT ta tb):=by
 intro AO s σ H Q I h;refine BoolOp_and (jQ (e AO s σ H _ I h) λv s1 ⟨x,H1,I1,r1,q1⟩=>?_);obtain⟨c,rfl,q1⟩:=q1;cases r1;refine QE ?_;cases c with
 |true=>exact f AO s1 σ H1 Q I1 q1
 |false=>exact⟨.bl false,H1,I1,rfl,q1⟩
theorem wp(b:PE X a ta):PE X (.UnaryOp .Not a pos) (b9 ta):=by
 intro AO s σ H Q I h;refine UnaryOp_ (jQ (b AO s σ H _ I h) λv s1 ⟨x,H1,I1,r1,q1⟩=>?_);obtain⟨c,rfl,q1⟩:=q1;cases r1;exact not_of (QE ⟨.bl (!c),H1,I1,rfl,q1⟩)
def p9(t:TT)(ta tb:TE):TE:=λσ H Q=>t σ H λc H1=>if c=true then ta σ H1 Q else tb σ H1 Q
theorem VW(g:PT X c tA)(e:PE X a ta)(f:PE X b tb):PE X (.IfExp c a b pos) (p9 tA ta tb):=by
 intro AO s σ H Q I h;refine wpAny_IfExp (jQ (g AO s σ H _ I h) λd s1 ⟨H1,I1,q1⟩=>?_);cases d with
 |true=>exact e AO s1 σ H1 Q I1 q1
 |false=>exact f AO s1 σ H1 Q I1 q1
end
end L2
namespace L2
def tH(K:BA)(H:Hp)(a:A2)(xs:O V):Prop:=
 Rd H a (.lst xs) ∨
  ∃(o:AF) (AS:Array A0) (n:Nat),K.lookup a=Z o/\o.cls=.type "list" ∧ o.dict=Y3/\o.data=.seq AS n/\AS.size<=AB/\AY xs AS.toList
def wM(K:BA)(H:Hp)(a:A2)(xs:O V):Prop:=
 Rd H a (.tup xs) ∨
  ∃(o:AF) (AS:Array A0) (n:Nat),K.lookup a=Z o/\(o.cls=.type "tuple" ∧ o.dict=Y3)/\o.data=.seq AS n/\AS.size<=AB/\AY xs AS.toList
def MY:A0->Y V
 |.none=>Z .non
 |.bool b=>Z (.bl b)
 |.int i _=>Z (.int i)
 |.str x _=>Z (.str x)
 |.bytes b _=>Z (.byt b)
 |.float b _=>Z (.flt b)
 |.ref a=>Z (.ref a)
 |.type n=>Z (.ty n)
 |_=>Y3
theorem B6.abs{x:V}(r:B6 x u):MY u=Z x:=by
 cases x with
 |non=>cases r;rfl
 |bl _=>cases r;rfl
 |int _=>obtain⟨t,rfl⟩:=r;rfl
 |str _=>obtain⟨t,rfl⟩:=r;rfl
 |byt _=>obtain⟨t,rfl⟩:=r;rfl
 |flt _=>obtain⟨t,rfl⟩:=r;rfl
 |ref _=>cases r;rfl
 |ty _=>cases r;rfl
theorem B6.inj{x y:V}{u:A0}(r:B6 x u)(q:B6 y u):x=y:=Jn (r.abs.symm.trans q.abs)
theorem AY.inj:∀{xs ys:O V} {us:O A0},AY xs us->AY ys us->xs=ys
 |_,_,_,.nil,.nil=>rfl
 |_,_,_,.cons r t,.cons r' t'=>by rw[r.inj r',AY.inj t t']
section
variable{X:Cx}{σ:St}{H:Hp}{xs ys:O V}
theorem AV.list(I:AV X AO σ H s)(h:tH X.K H a xs):∃AS:O A0,AY xs AS/\PlainL s.heap a AS.toArray/\xs.length<=AB:=by
 rcases h with h|⟨o,AS,n,hk,c,hd,b,f,r⟩
 ·obtain⟨z,AS,n,r,e⟩:=h.ok I.hok;exact⟨AS,r,⟨_,n,e,rfl,rfl,rfl⟩,z⟩
 ·refine⟨AS.toList,r,⟨o,n,I.kIn a o hk,c,hd,by simpa using b⟩,?_⟩;have e:=r.length;simp only[Z3]at e;omega
theorem AV.tuple(I:AV X AO σ H s)(h:wM X.K H a xs):∃AS:O A0,AY xs AS/\IsTup s.heap a AS.toArray/\xs.length<=AB:=by
 rcases h with h|⟨o,AS,n,hk,c,b,f,r⟩
 ·obtain⟨z,AS,r,p⟩:=h.ok I.hok;exact⟨AS,r,p.weak,z⟩
 ·refine⟨AS.toList,r,⟨o,I.kIn a o hk,c.1,n,by simpa using b⟩,?_⟩;have e:=r.length;simp only[Z3]at e;omega
theorem AV.Jv(I:AV X AO σ H s)(h:tH X.K H a xs)(h':tH X.K H a ys):xs=ys:=by
 obtain⟨AS,r,⟨o,n,e,_,_,d⟩,_⟩:=I.list h;obtain⟨g,c,⟨o',i,e',_,_,b⟩,_⟩:=I.list h';rw[e]at e';cases e';rw[d]at b;injection b with f _;have:AS=g:=by simpa using congrArg n7 f
 subst this;exact r.inj c
theorem AV.Gb(I:AV X AO σ H s)(h:wM X.K H a xs)(h':wM X.K H a ys):xs=ys:=by
 obtain⟨AS,r,⟨o,e,_,n,d⟩,_⟩:=I.tuple h;obtain⟨g,c,⟨o',e',_,i,b⟩,_⟩:=I.tuple h';rw[e]at e';cases e';rw[d]at b;injection b with f _;have:AS=g:=by simpa using congrArg n7 f
 subst this;exact r.inj c
end
abbrev Cx.wish(X:Cx)(E:BO):Cx:={ X with xe:=E }
abbrev Cx.nox(X:Cx):Cx:=X.wish λ_ _=>False
theorem Cx.Ok.wish{X:Cx}(ok:X.Ok)(E:BO):(X.wish E).Ok:=
 ⟨ok.mod,ok.kind,ok.glob,ok.blt,ok.above,ok.inj,ok.has,ok.cab,ok.hd,ok.frames,ok.stk,ok.exf,ok.bs,ok.bsz,ok.abJ,ok.ae5,ok.Ia,ok.frf,ok.tabs⟩
theorem Cx.Ok.yJ{X:Cx}(ok:(X.wish E).Ok):X.Ok:=
 ⟨ok.mod,ok.kind,ok.glob,ok.blt,ok.above,ok.inj,ok.has,ok.cab,ok.hd,ok.frames,ok.stk,ok.exf,ok.bs,ok.bsz,ok.abJ,ok.ae5,ok.Ia,ok.frf,ok.tabs⟩
section
variable{X:Cx}{σ:St}{H:Hp}
theorem AV.wish(I:AV X AO σ H s)(E:BO):AV (X.wish E) AO σ H s:=⟨I.ok.wish E,I.os,I.bare,I.base,I.loc,I.cell,I.free,I.tD,I.pin,I.hok,I.len⟩
theorem AV.yJ(I:AV (X.wish E) AO σ H s):AV X AO σ H s:=⟨I.ok.yJ,I.os,I.bare,I.base,I.loc,I.cell,I.free,I.tD,I.pin,I.hok,I.len⟩
theorem SP.yJ{D:CO}{f:Flow}{s':A3}(h:SP (X.wish E) AO D f s'):SP X AO D f s':=by
 cases f with
 |next=>obtain⟨σ',H',I,q⟩:=h;exact⟨σ',H',I.yJ,q⟩
 |brk=>obtain⟨σ',H',I,q⟩:=h;exact⟨σ',H',I.yJ,q⟩
 |cont=>obtain⟨σ',H',I,q⟩:=h;exact⟨σ',H',I.yJ,q⟩
 |ret u=>obtain⟨v,σ',H',I,r,q⟩:=h;exact⟨v,σ',H',I.yJ,r,q⟩
theorem NQ.nox{st:O AC}{t:TS}(h:NQ X.nox st t):NQ X st t:=λAO s σ H D I a=>
 qA (h AO s σ H D (I.wish _) a) (λ_ _ q=>q.yJ) λ_ _ z=>False.elim z
end
section
variable{X:Cx}{AT:O AC}{t u:TS}{te:TE}
def oD:TS:=λD σ H=>D.nx σ H
def Su(t u:TS):TS:=λD σ H=>t { D with nx:=u D } σ H
theorem YD:NQ X [] oD:=λ_ _ σ H _ I h=>wpAny_execs_nil ⟨σ,H,I,h⟩
theorem Jw(h1:PS X st t)(h2:NQ X AT u):NQ X (st::AT) (Su t u):=by
 intro AO s σ H D I h;refine wpAny_execs_cons (jQ (h1 AO s σ H { D with nx:=u D } I h) λf a q=>?_);cases f with
 |next=>
  obtain⟨σ',H',b,q⟩:=q;exact h2 AO a σ' H' D b q
 |ret v=>exact q
 |brk=>exact q
 |cont=>exact q
theorem wb(h1:PS X st t):NQ X [st] t:=by
 intro AO s σ H D I h;refine wpAny_execs_cons (jQ (h1 AO s σ H D I h) λf a q=>?_);cases f with
 |next=>exact wpAny_execs_nil q
 |ret v=>exact q
 |brk=>exact q
 |cont=>exact q
theorem AV.quiet{σ:St}{H:Hp}(I:AV X AO σ H s):interactive X.env=false:=by simp[interactive,I.ok.kind]
def gh(te:TE):TS:=λD σ H=>te σ H λ_ H1=>D.nx σ H1
theorem YF(a:PE X e te)(hs:swapsWith e Y3 pos.line X.env=pure false:=by rfl):PS X (.Expr e pos) (gh te):=by
 intro AO s σ H D I h;exact wpAny_Expr_any (jQ (a AO s σ H _ I h) λv s1 ⟨x,H1,I1,r1,q1⟩=>⟨σ,H1,I1,q1⟩) I.quiet hs
def df(te:TE):TS:=λD σ H=>te σ H D.rt
theorem OK(a:PE X e te):PS X (.Return (Z e) pos) (df te):=by
 intro AO s σ H D I h;exact wpAny_Return_some (jQ (a AO s σ H _ I h) λv s1 ⟨x,H1,I1,r1,q1⟩=>⟨x,σ,H1,I1,r1,q1⟩)
def xI(c:TT)(t u:TS):TS:=λD σ H=>c σ H λb H1=>if b=true then t D σ H1 else u D σ H1
theorem RE{a b:O AC}{tc:TT}(g:PT X c tc)(e:NQ X a t)(f:NQ X b u):PS X (.If c a b pos) (xI tc t u):=by
 intro AO s σ H D I h;refine wpAny_If (jQ (g AO s σ H _ I h) λd s1 ⟨H1,I1,q1⟩=>?_);cases d with
 |true=>exact e AO s1 σ H1 D I1 q1
 |false=>exact f AO s1 σ H1 D I1 q1
def wn:TS:=λ_ _ _=>False
theorem WJ{sts:O AC}:NQ X sts wn:=λ_ _ _ _ _ _ h=>h.elim
end
abbrev TG:=V->St->Hp->(St->Hp->Prop)->Prop
abbrev EQ:=O V->St->Hp->(St->Hp->Prop)->Prop
def PG(X:Cx)(a:Expr)(t:TG):Prop:=
 ∀(AO:O (A2×AF)) (s:A3) (σ:St) (H:Hp) (v:V) (u:A0) (Q:St->Hp->Prop),AV X AO σ H s->B6 v u->t v σ H Q →
  A8 (dl X) X.A (assign a X.env u) (λ_ s'=>∃ σ' H',AV X AO σ' H' s'/\Q σ' H') X.xe s
def DF(X:Cx)(ts:O Expr)(t:EQ):Prop:=
 ∀(AO:O (A2×AF)) (s:A3) (σ:St) (H:Hp) (vs:O V) (us:O A0) (Q:St->Hp->Prop),AV X AO σ H s->AY vs us->t vs σ H Q →
  A8 (dl X) X.A (assignInOrder ((assignEach ts X.env).map (·.2)) us) (λ_ s'=>∃ σ' H',AV X AO σ' H' s'/\Q σ' H') X.xe s
section
variable{X:Cx}
def OC(i:Nat):TG:=λv σ H Q=>Q (σ.set i (Z v)) H
theorem IW(a:X.N.Nodup)(hi:X.N[i]?=Z x)(hx:D6 X.env.scope x)(c:X.fn x=true\/X.env.scope.names.lookup x=Z .local:=by first|exact .inl rfl|exact .inr rfl|assumption):PG X (.Name x pos) (OC i):=by
 intro AO s σ H v u Q I r h;exact wpAny_assign_Name (Dl I a hi hx r (λs' b=>⟨_,H,b,h⟩) c)
def eQ:EQ:=λvs σ H Q=>vs=[]/\Q σ H
def ww(t:TG)(u:EQ):EQ:=λvs σ H Q=>∃v r,vs=v::r/\t v σ H λσ' H'=>u r σ' H' Q
theorem xL:DF X [] eQ:=by
 intro AO s σ H vs us Q I r h;obtain⟨e,h⟩:=h;subst e;cases r;exact assignInOrder_nil ⟨σ,H,I,h⟩
theorem UF{t:TG}{u:EQ}(h1:PG X e t)(h2:DF X es u)(hs:(assignEach (e::es) X.env).map (·.2)=assign e X.env::(assignEach es X.env).map (·.2):=by rfl):DF X (e::es) (ww t u):=by
 intro AO s σ H vs us Q I r h;obtain⟨v,b,e1,h⟩:=h;subst e1;cases r with
 |cons r a=>
  rw[hs];refine assignInOrder_cons (jQ (h1 AO s σ H _ _ _ I r h) λ_ s1 ⟨σ1,H1,I1,q1⟩=>?_);exact h2 AO s1 σ1 H1 _ _ Q I1 a q1
def n9(K:BA)(n:Nat)(t:EQ):TG:=λv σ H Q=>∃a xs,v=.ref a/\wM K H a xs/\xs.length=n/\t xs σ H Q
theorem hU{t:EQ}(i:X.calm=true)(h:DF X es t)(p:(assignEach es X.env).length=n:=by rfl)(q:(assignEach es X.env).findIdx? (·.1)=Y3:=by rfl):PG X (.Tuple es k pos) (n9 X.K n t):=by
 intro AO s σ H v u Q I r c;obtain⟨a,xs,e1,l,j,c⟩:=c;subst e1;cases r;obtain⟨AS,f,m,w⟩:=I.tuple l;refine assign_Tuple_tuple (I.ok.hd i) m (by simp[p,<-j,f.length]) q λh' hx=>?_;have g:AV X AO σ H { s with heap:=h' }:=I.kept (t':=s.toks) λb o e=>hx b o (ZO (zI e)) e;exact h AO _ σ H xs _ Q g (by simpa using f) c
def OB(te:TE)(g:TG):TS:=λD σ H=>te σ H λx H1=>g x σ H1 D.nx
theorem gT{te:TE}{g:TG}(b:PE X e te)(a:PG X tg g)(hs:swapsWithSole [tg] e pos.line X.env=pure false:=by rfl)(c:swappedStores [tg] e X.env=pure Y3:=by rfl)(h1:(assignEach [tg] X.env).map (·.2)=[assign tg X.env]:=by rfl):PS X (.Assign [tg] e pos) (OB te g):=by
 intro AO s σ H D I h;refine wpAny_Assign_stores (jQ (b AO s σ H _ I h) λv s1 ⟨x,H1,I1,r1,q1⟩=>?_) hs c;rw[h1];exact jQ (a AO s1 σ H1 x v _ I1 r1 q1) λ_ f q=>q
theorem X2{te:TE}{pos':Pos}(b:X.N.Nodup)(hi:X.N[i]?=Z x)(hx:D6 X.env.scope x)(c:PE X e te)(hs:swapsWith e (Z (.Name x pos')) pos.line X.env=pure false:=by rfl)(f:X.fn x=true\/X.env.scope.names.lookup x=Z .local:=by first|exact .inl rfl|exact .inr rfl|assumption):
  PS X (.Assign [.Name x pos'] e pos) (OB te (OC i)):=by
 intro AO s σ H D I h;refine wpAny_Assign_Name (jQ (c AO s σ H _ I h) λv s1 ⟨y,H1,I1,r1,q1⟩=>?_) hs;exact Dl I1 b hi hx r1 (λg a=>⟨_,H1,a,q1⟩) f
def f7(i j:Nat)(ta:TA):TS:=λD σ H=>ta σ H λvs H1=>∃v w,vs=[v,w]/\D.nx ((σ.set i (Z v)).set j (Z w)) H1
theorem NL{a b:Expr}{ta:TA}{px py pt:Pos}{kt k2 pt2}(u:X.calm=true)(g:X.N.Nodup)(hi:X.N[i]?=Z x)(n:X.N[j]?=Z y)(t:i≠j)(hx:X.env.scope.names.lookup x=Z .local)(k:X.env.scope.names.lookup y=Z .local)(m:PA X [a,b] ta)(K:swappedStores [.Tuple [.Name x px,.Name y py] kt pt] (.Tuple [a,b] k2 pt2) X.env=pure (Z [x,y]))(hs:swapsWithSole [.Tuple [.Name x px,.Name y py] kt pt] (.Tuple [a,b] k2 pt2) pos.line X.env=pure false:=by rfl):
  PS X (.Assign [.Tuple [.Name x px,.Name y py] kt pt] (.Tuple [a,b] k2 pt2) pos) (f7 i j ta):=by
 intro AO s σ H D I h;rw[exec_Assign_arm];refine zb (QU ?_);rw[hs];refine zb (ze ?_);rw[zv ()];refine zb (Tuple_ (jQ (m _ AO s σ H _ I h) λus s1 ⟨vs,H1,I1,r1,q1⟩=>?_));obtain⟨v,w,e1,q1⟩:=q1;subst e1;obtain⟨f,c,rfl,F,C⟩:∃f c,us=[f,c]/\B6 v f/\B6 w c:=by
  cases r1 with
  |cons p q=>
   cases q with
   |cons p' J=>
    cases J;exact⟨_,_,rfl,p,p'⟩
 refine QY ?_ (by show 2<=AB;decide);have z:AV X AO σ H1 { s1 with heap:=s1.heap.push { cls:=.type "tuple",data:=.seq [f,c].toArray } }:=I1.kept (t':=s1.toks) λb o e=>zg _ e;rw[K];refine zb (ze ?_);show A8 (dl X) X.A (do rule "assign.swapped-stores"; let items <-unpackItems (.ref s1.heap.objs.size) 2 Y3;assignInOrder [λv=>bindName X.env y v,λv=>bindName X.env x v] items.reverse;pure Flow.next) _ _ _;refine zb (QN (zb (unpackItems_tuple (items:=#[f,c]) (I.ok.hd u) (IsTup.new s1.heap _) λh' E=>?_)));have B:=z.kept (h':=h') (t':=s1.toks) λb o e=>E b o (ZO (zI e)) e;show A8 _ _ (assignInOrder [λv=>bindName X.env y v,λv=>bindName X.env x v] [c,f] >>= λ_=>pure Flow.next) _ _ _;refine zb (assignInOrder_cons (wpAny_bindName (Dl B g n (.inl k) C (λL G=>?_) (.inr k))));refine assignInOrder_cons (wpAny_bindName (Dl G g hi (.inl hx) F (λM l=>assignInOrder_nil (ze ?_)) (.inr hx)));rw[List.set_comm _ _ (k9 t)]at l;exact⟨_,H1,l,q1⟩
end
structure It where
 go:Nat->Hp->Prop
 yld:Nat->Hp->V->Hp->Prop
 stop:Nat->Hp->Prop
def vQ(X:Cx)(AO:O (A2×AF))(H:Hp)(b:A2):Prop:=
 H b=Y3/\b≠X.env.locals/\b∉X.fs/\(b∈X.ex\/X.s₀.heap.objs.size<=b)/\(∀x c,X.env.cells.lookup x=Z c->c≠b)/\∀p∈X.pn++AO,p.1≠b
theorem AV.Ti{X:Cx}{σ:St}{H H':Hp}{b:A2}(I:AV X AO σ H s)(a:s.heap.objs.size<=b)(f:H' b=Y3):vQ X AO H' b:=by
 refine⟨f,kG (ZH I.lt a),I.anv a,.inr (zl I.sz a),λx c e z=>?_,λp hp z=>?_⟩
 ·obtain⟨v,q⟩:=I.cell x c e;exact absurd (ZH q.lt (by rw[z];exact a)) (kL _)
 ·exact absurd (ZH (zI (I.pin p hp).1) (by rw[z];exact a)) (kL _)
structure CS (P:Program) (w:World) (K:BA) (tg:Expr) (J:It) (fp:List Addr) (it:Addr) (tn:Nat->Heap->Prop):Prop where
 mem:it∈fp
 obj:∀i h,tn i h->∀b∈fp,∃o,h.get? b=some o/\∀v,o.data≠.cell v
 keep:∀i h h',tn i h->(∀b∈fp,∀o,h.get? b=some o->h'.get? b=some o)->tn i h'
 item:∀(X:Cx),X.prog=P->X.w=w->X.K=K->X.calm=true->∀(i:Nat) (AO:List (Addr×Obj)) (s:Shared) (σ:St) (H:Hp) (E:BO),AV X AO σ H s->(∀b∈fp,vQ X AO H b)->tn i s.heap->J.go i H →
  wpAny (model P w) X.A (pyNext (.ref it)) (λr s1=>∃u,r=some u ∧
   wpAny (model P w) X.A (letOwnedTupleGo tg (.ref it) u) (λ_ s2=>∃x H',AV X AO σ H' s2/\B6 x u/\J.yld i H x H'/\tn (i+1) s2.heap/\∀b∈fp,H' b=none) E s1) E s
 done:∀(X:Cx),X.prog=P->X.w=w->X.K=K->X.calm=true->∀(i:Nat) (AO:List (Addr×Obj)) (s:Shared) (σ:St) (H:Hp) (E:BO),AV X AO σ H s->(∀b∈fp,vQ X AO H b)->tn i s.heap->J.stop i H →
  wpAny (model P w) X.A (pyNext (.ref it)) (λr s1=>r=none/\AV X AO σ H s1) E s
 self:∀(A:Around) (i:Nat) (s:Shared) (Q:BO) (E:BO),tn i s.heap->Q (.ref it) s->wpAny (model P w) A (pyIter (.ref it)) Q E s
abbrev TI:=St->Hp->(It->Hp->Prop)->Prop
def OI(X:Cx)(AO:O (A2×AF))(σ:St)(tg:Expr)(R:It->Hp->Prop)(c:A0)(a:A3):Prop:=
 ∃(it:A2) (fp:O A2) (tn:Nat->A7->Prop) (J:It) (H':Hp),c=.ref it/\AV X AO σ H' a/\CS X.prog X.w X.K tg J fp it tn/\tn 0 a.heap/\(∀b∈fp,vQ X AO H' b)/\R J H'
def PI(X:Cx)(tg iter:Expr)(b:TI):Prop:=
 ∀(AO:O (A2×AF)) (s:A3) (σ:St) (H:Hp) (R:It->Hp->Prop),AV X AO σ H s->b σ H R →
  A8 (dl X) X.A (eval iter X.env) (λv a=>A8 (dl X) X.A (pyIter v) (OI X AO σ tg R) X.xe a) X.xe s
theorem Tj{o:AF}{n:String}{vs:Array A0}{Q:Unit->A3->Prop}(c:s.heap.get? it=Z o)(e:o.cls=.type n)(hd:o.data=.fields vs)(b:["enumerate","zip","dict_itemiterator","dict_reverseitemiterator","odict_iterator","itertools.zip_longest","itertools.pairwise"].contains n=false)(a:Q lm s):A8 M A (letOwnedTupleGo tg (.ref it) u) Q E s:=by
 unfold letOwnedTupleGo;cases tg<;>first
  |exact ze a
  |(cases u<;>first
    |exact ze a
    |(refine zb (wpAny_load c ?_)
      rw[e,hd];show A8 M A (if(["enumerate","zip","dict_itemiterator","dict_reverseitemiterator","odict_iterator","itertools.zip_longest","itertools.pairwise"].contains n&&vs[0]?==Z (rawInt _))=true then _ else _) Q E s;rw[zv (by intro h;rw[b,gz]at h;cases h)];exact ze a))
def MI(K:BA)(a:A2):It:=
 ⟨λi H=>∃xs x,tH K H a xs/\xs[i]?=Z x,λi H x H'=>H'=H/\∀xs,tH K H a xs->xs[i]?=Z x,λi H=>∃xs,tH K H a xs/\xs.length<=i⟩
def MS(K:BA)(a:A2):It:=
 ⟨λi H=>∃xs x,wM K H a xs/\xs[i]?=Z x,λi H x H'=>H'=H/\∀xs,wM K H a xs->xs[i]?=Z x,λi H=>∃xs,wM K H a xs/\xs.length<=i⟩
def IG(lo:Int)(n:Nat):It:=⟨λi _=>i<n,λi H x H'=>H'=H/\x=.int (lo+i),λi _=>n<=i⟩
theorem uu(a it:A2):CS P w K tg (MI K a) [it] it (λi h=>h.IsListIter it a i) where
 mem:=by simp
 obj:=λi h st b f=>by
  have e:b=it:=by simpa using f
  subst e;obtain⟨o,e,c,d⟩:=st;exact⟨o,e,λv z=>by rw[d]at z;cases z⟩
 keep:=λi h h' st k=>st.at λo e=>k it (by simp) o e
 item:=by
  intro X q A m C i AO s σ H E I j st t;subst q A m;obtain⟨xs,x,g,hx⟩:=t;obtain⟨AS,y,p,D⟩:=I.list g;obtain⟨u,M,F⟩:=y.get hx;obtain⟨f0,f1,f2,f3,l,n⟩:=j it (by simp);refine wpAny_pyNext_list_item st p.isList (x:=u) (by simpa using M) λh' B L=>?_;have J:AV X AO σ H { s with heap:=h' }:=I.turned (t':=s.toks) (λb o f e=>(L.2 b f).trans e) f0 f1 f3 l n;obtain⟨o,e,c,d⟩:=id B;exact⟨u,rfl,Tj (s:={ s with heap:=h' }) e c d () ⟨x,H,J,F,⟨rfl,λys G=>by rw[I.Jv G g];exact hx⟩,B,λb f=>(j b f).1⟩⟩
 done:=by
  intro X q A m C i AO s σ H E I j st t;subst q A m;obtain⟨xs,g,hx⟩:=t;obtain⟨AS,y,p,D⟩:=I.list g;obtain⟨f0,f1,f2,f3,l,n⟩:=j it (by simp);have N:=y.length;exact wpAny_pyNext_list_end (I.ok.hd C) st p.isList (by simp;omega) λh' eb=>⟨rfl,I.turned (t':=s.toks) (λb o f e=>eb b o f e) f0 f1 f3 l n⟩
 self:=λ_ _ _ _ _ st h=>wpAny_pyIter_listiter st h
theorem WK(a it:A2):CS P w K tg (MS K a) [it] it (λi h=>h.IsTupleIter it a i) where
 mem:=by simp
 obj:=λi h st b f=>by
  have e:b=it:=by simpa using f
  subst e;obtain⟨o,e,c,d⟩:=st;exact⟨o,e,λv z=>by rw[d]at z;cases z⟩
 keep:=λi h h' st k=>st.at λo e=>k it (by simp) o e
 item:=by
  intro X q A m C i AO s σ H E I j st t;subst q A m;obtain⟨xs,x,g,hx⟩:=t;obtain⟨AS,y,p,D⟩:=I.tuple g;obtain⟨u,M,F⟩:=y.get hx;obtain⟨f0,f1,f2,f3,l,n⟩:=j it (by simp);refine wpAny_pyNext_tuple_item st (show s.heap.IsTuple a AS.toArray from p) (x:=u) (by simpa using M) λh' B L=>?_;have J:AV X AO σ H { s with heap:=h' }:=I.turned (t':=s.toks) (λb o f e=>(L.2 b f).trans e) f0 f1 f3 l n;obtain⟨o,e,c,d⟩:=id B;exact⟨u,rfl,Tj (s:={ s with heap:=h' }) e c d () ⟨x,H,J,F,⟨rfl,λys G=>by rw[I.Gb G g];exact hx⟩,B,λb f=>(j b f).1⟩⟩
 done:=by
  intro X q A m C i AO s σ H E I j st t;subst q A m;obtain⟨xs,g,hx⟩:=t;obtain⟨AS,y,p,D⟩:=I.tuple g;obtain⟨f0,f1,f2,f3,l,n⟩:=j it (by simp);have N:=y.length;exact wpAny_pyNext_tuple_end (I.ok.hd C) st (show s.heap.IsTuple a AS.toArray from p) (by simp;omega) λh' eb=>⟨rfl,I.turned (t':=s.toks) (λb o f e=>eb b o f e) f0 f1 f3 l n⟩
 self:=λ_ _ _ _ _ st h=>wpAny_pyIter_tupleiter st h
theorem WL(it:A2)(lo:Int)(n:Nat):CS P w K tg (IG lo n) [it] it (λi h=>IsRangeIter h it (lo+(i:Nat)*1) ((n:Int)-(i:Nat)) 1) where
 mem:=by simp
 obj:=λi h st b a=>by
  have e:b=it:=by simpa using a
  subst e;exact⟨_,st,λv z=>by
   have x:Data.fields _=Data.cell v:=z;cases x⟩
 keep:=λi h h' st k=>k it (by simp) _ st
 item:=by
  intro X f q j m i AO s σ H E I c st l;subst f q j;obtain⟨f0,f1,f2,f3,g,p⟩:=c it (by simp);have W:=Walks.range (prog:=X.prog) (w:=X.w) (I.ok.hd m) it lo 1 n;refine W.item i s _ _ l st λv h' tk A u kk=>?_;obtain⟨t,rfl⟩:=A;have y:AV X AO σ H { s with heap:=h',toks:=tk }:=I.turned (λb o a e=>kk b o (by simpa using a) e) f0 f1 f3 g p;refine⟨_,rfl,Tj (s:={ s with heap:=h',toks:=tk }) (n :="range_iterator") u Y2 Y2 () ⟨.int (lo+i),H,y,⟨t,?_⟩,⟨rfl,rfl⟩,u,λb a=>(c b a).1⟩⟩;rw[Int.mul_one]
 done:=by
  intro X f q j m i AO s σ H E I c st l;subst f q j;obtain⟨f0,f1,f2,f3,g,p⟩:=c it (by simp);exact wpAny_pyNext_range_end (I.ok.hd m) st (by have:n<=i:=l;omega) λh' eb=>⟨rfl,I.turned (t':=s.toks) (λb o a e=>eb b o a e) f0 f1 f3 g p⟩
 self:=λ_ _ _ _ _ st h=>wpAny_pyIter_rangeiter st h
end L2
namespace L2
section
variable{X:Cx}
theorem UT{σ:St}{H:Hp}{R:It->Hp->Prop}{lo hi:Int}{t u v:Tok}{tk:Nat}(I:AV X AO σ H s)(h1 : -(2 ^ 62)<=lo)(h2:lo<2 ^ 62)(g : -(2 ^ 62)<=hi)(f:hi<2 ^ 62)(q:R (IG lo (hi-lo).toNat) H):A8 (dl X) X.A (pyIter (.ref s.heap.objs.size)) (OI X AO σ tg R) E { s with heap:=s.heap.push { cls:=.type "range",data:=.fields #[.int lo t,.int hi u,.int 1 v] },toks:=tk }:=by
 refine wpAny_pyIter_range (IsRange.new ..) (small_one h1 h2 g f) ?_;have a:AV X AO σ H { s with heap:=s.heap.push { cls:=.type "range",data:=.fields #[.int lo t,.int hi u,.int 1 v] },toks:=tk }:=I.kept λb o e=>zg _ e;refine⟨(s.heap.push { cls:=.type "range",data:=.fields #[.int lo t,.int hi u,.int 1 v] }).objs.size,[(s.heap.push { cls:=.type "range",data:=.fields #[.int lo t,.int hi u,.int 1 v] }).objs.size],_,_,H,rfl,
  a.kept (t':=tk) λb o e=>zg _ e,WL _ lo (hi-lo).toNat,?_,λb c=>?_,q⟩
 ·have e1:lo+((0:Nat):Int)*1=lo:=by simp
  have e2:(((hi-lo).toNat:Nat):Int)-((0:Nat):Int)=Builtin.Range.rangeSize lo hi 1:=by rw[rangeSize_one];split<;>omega
  show IsRangeIter _ _ (lo+((0:Nat):Int)*1) ((((hi-lo).toNat:Nat):Int)-((0:Nat):Int)) 1;rw[e1,e2];exact zD _ rfl
 ·have e:b=(s.heap.push { cls:=.type "range",data:=.fields #[.int lo t,.int hi u,.int 1 v] }).objs.size:=by simpa using c
  subst e;exact a.Ti (zo _) (a.hok.fresh (zo _))
def am(ta:TA):TI:=λσ H R=>ta σ H λvs H1=>∃j:Int,vs=[.int j] ∧ -(2 ^ 62)<=j/\j<2 ^ 62/\R (IG 0 j.toNat) H1
theorem ua{a:Expr}{ta:TA}{p:Pos}(c:Gl X "range")(g:X.mg "range"=Y3)(b:PA X [a] ta)(hs:AA [a] X.env=[(false,eval a X.env)]:=by rfl):PI X tg (.Call (.Name "range" p) [a] [] pos) (am ta):=by
 intro AO s σ H R I h;refine Call_ (yI I c g boot_range (PyProof.Rows.callWith_type1 (jQ (b pos AO s σ H _ I h) λus s1 ⟨vs,H1,I1,r1,q1⟩=>?_) hs Y2));obtain⟨j,e,q1,q2,q⟩:=q1;subst e;cases r1 with
 |cons r f=>
  cases f;obtain⟨t,rfl⟩:=r;exact call_range_1 (UT I1 () () q1 q2 (by simpa using q))
def Sn(b:TI)(g:TG)(tb:TS):TS:=λD σ H=>b σ H λJ H1=>∃W:Nat->Nat->St->Hp->Prop,(∃m,W 0 m σ H1)/\∀i m σ H,W i m σ H →
 (J.stop i H/\D.nx σ H)\/(J.go i H/\∃N:St->Hp->Prop,(∀ σ' H',N σ' H'->∃a,a<m/\W (i+1) a σ' H')/\∀x H',J.yld i H x H'->g x σ H' λc H2=>tb { D with nx:=N,ct:=N,bk:=D.nx } c H2)
def Gf(fp:O A2)(h:A7):O (A2×AF):=fp.filterMap λb=>(h.get? b).map λo=>(b,o)
theorem wO{b:A2}{o:AF}(a:b∈fp)(e:h.get? b=Z o):(b,o)∈Gf fp h:=hL.mpr ⟨b,a,by rw[e];rfl⟩
theorem sK{p:A2×AF}(hp:p∈Gf fp h):p.1∈fp/\h.get? p.1=Z p.2:=by
 obtain⟨b,a,e⟩:=hL.mp hp;cases q:h.get? b with
 |none=>rw[q]at e;cases e
 |some o=>
  rw[q]at e;have e':(b,o)=p:=Jn e;subst e';exact⟨a,q⟩
theorem AV.pinned{σ:St}{H:Hp}(I:AV X AO σ H s)(f:∀b∈fp,vQ X AO H b)(c:∀b∈fp,∃o,s.heap.get? b=Z o/\∀v,o.data≠.cell v):AV X (AO++Gf fp s.heap) σ H s:=
 I.IK λp hp=>(bc.mp hp).elim (λz=>I.pin p (ZN _ z)) λz=>by
  obtain⟨a,e⟩:=sK z;obtain⟨f0,f1,f2,_⟩:=f p.1 a;obtain⟨o,e',d⟩:=c p.1 a;rw[e]at e';cases e';exact⟨e,f0,f1,f2,d⟩
theorem AV.vR{pl:O (A2×AF)}{σ:St}{H:Hp}(I:AV X (AO++pl) σ H s):AV X AO σ H s:=I.IK λp hp=>I.pin p (ZN _ (QR _ hp))
theorem RI{E:TI}{g:TG}{tb:TS}(hp:PassesOwn (dl X) X.A X.env X.xe)(C:X.calm=true)(hi:PI X tg iter E)(hg:PG X tg g)(j:NQ X body tb)(hs:∀x,foldedSetIterable iter X.env x=pure x:=by intro _;rfl):PS X (.For tg iter body [] pos) (Sn E g tb):=by
 intro AO s σ H D I h;refine wpAny_For (jQ (hi AO s σ H _ I h) λv s1 h1=>jQ h1 λa4 s2 h2=>?_) hs;obtain⟨it,fp,tn,J,H2,e,I2,T,a2,f2,W,⟨P,w0⟩,turn⟩:=h2;subst e;have y:∀{H':Hp},(∀b∈fp,H' b=Y3)->∀b∈fp,vQ X AO H' b:=λU b j=>⟨U b j,(f2 b j).2⟩;refine codeAny_forLoop_any (λn s'=>∃i σ' H',AV X AO σ' H' s'/\tn i s'.heap/\(∀b∈fp,H' b=Y3)/\W i n σ' H') ?_ P ⟨0,σ,H2,I2,a2,λb j=>(f2 b j).1,w0⟩;rintro n G ⟨i,p,t,F,K,B,w3⟩;rcases turn i n p t w3 with⟨a3,qn⟩|⟨go,N,S,step⟩
 ·refine KS hp (jQ (T.done X Y2 Y2 Y2 C i AO G p t X.xe F (y B) K a3) λr s4 ⟨hr,I4⟩=>?_);subst hr;exact wpAny_execs_nil ⟨p,t,I4,qn⟩
 ·refine KS hp (jQ (T.item X Y2 Y2 Y2 C i AO G p t X.xe F (y B) K go) λr s4 ⟨u,hr,h4⟩=>?_);subst hr;refine KS hp (jQ h4 λ_ s5 ⟨x,H5,I5,r5,y5,st5,fr5⟩=>?_);have a1:=I5.pinned (y fr5) (T.obj _ _ st5);refine KS hp (jQ (hg _ s5 p H5 x u _ a1 r5 (step x H5 y5)) λ_ s6 ⟨σ6,H6,I6,q6⟩=>?_);refine KS hp (jQ (j _ s6 σ6 H6 _ I6 q6) λf z l=>?_);have L:∀{a:St} {c:Hp},AV X (AO++Gf fp s5.heap) a c z->N a c->∃m,m<n/\∃i σ' H',AV X AO σ' H' z/\tn i z.heap/\(∀b∈fp,H' b=Y3)/\W i m σ' H':=λ{a c} k q=>by
   obtain⟨m',Q,w7⟩:=S a c q;refine⟨m',Q,i+1,a,c,k.vR,T.keep _ _ _ st5 λb j o e=>(k.pin (b,o) (ZN _ (ZN _ (wO j e)))).1,λb j=>?_,w7⟩;obtain⟨o,e,d⟩:=T.obj _ _ st5 b j;exact(k.pin (b,o) (ZN _ (ZN _ (wO j e)))).2.1
  cases f with
  |next=>obtain⟨a,c,k,q⟩:=l;exact L k q
  |cont=>obtain⟨a,c,k,q⟩:=l;exact L k q
  |brk=>obtain⟨a,c,k,l⟩:=l;exact⟨a,c,k.vR,l⟩
  |ret v=>obtain⟨x7,a,c,k,M,l⟩:=l;exact⟨x7,a,c,k.vR,M,l⟩
end
end L2
namespace L2
abbrev R2:=V->V->Hp->VK->Prop
def yE(X:Cx)(f:A0->A0->Sem A0)(r:R2):Prop:=
 ∀(AO:O (A2×AF)) (s:A3) (σ:St) (H:Hp) (x y:V) (v u:A0) (Q:VK),AV X AO σ H s->B6 x v->B6 y u->r x y H Q →
  A8 (dl X) X.A (f v u) (EP X AO σ Q) X.xe s
def ET(X:Cx)(f:A0->Sem A0)(r:V->Hp->VK->Prop):Prop:=
 ∀(AO:O (A2×AF)) (s:A3) (σ:St) (H:Hp) (x:V) (v:A0) (Q:VK),AV X AO σ H s->B6 x v->r x H Q →
  A8 (dl X) X.A (f v) (EP X AO σ Q) X.xe s
def iG(X:Cx)(f:A0)(r:O V->Hp->VK->Prop):Prop:=
 ∀(AO:O (A2×AF)) (s:A3) (σ:St) (H:Hp) (xs:O V) (us:O A0) (Q:VK),AV X AO σ H s->AY xs us->r xs H Q →
  A8 (dl X) X.A (call f us) (EP X AO σ Q) X.xe s
def pM(X:Cx)(r:V->Hp->(Bool->Hp->Prop)->Prop):Prop:=
 ∀(AO:O (A2×AF)) (s:A3) (σ:St) (H:Hp) (x:V) (v:A0) (Q:Bool->Hp->Prop),AV X AO σ H s->B6 x v->r x H Q →
  A8 (dl X) X.A (truthy v) (TP X AO σ Q) X.xe s
def Gc(r:R2)(ta tb:TE):TE:=λσ H Q=>ta σ H λx H1=>tb σ H1 λy H2=>r x y H2 Q
def PF(r:V->Hp->VK->Prop)(ta:TE):TE:=λσ H Q=>ta σ H λx H1=>r x H1 Q
def rI(C:Int->Int->Prop)(g:Int->Int->V):R2:=λx y H Q=>∃i j,x=.int i/\y=.int j/\C i j/\Q (g i j) H
def ER(g:Int->Int->V):R2:=λx y H Q=>∃i j,x=.int i/\y=.int j/\Q (g i j) H
def rU(g:Int->V):V->Hp->VK->Prop:=λx H Q=>∃i,x=.int i/\Q (g i) H
section
variable{X:Cx}{a b:Expr}{ta tb tc:TE}
theorem Iy(i:PE X a ta)(j:PE X b tb){σ:St}{H:Hp}{R:V->V->Hp->Prop}(I:AV X AO σ H s)(h:ta σ H λx H1=>tb σ H1 λy H2=>R x y H2){f:A0->A0->Sem A0}(k:∀v u c x y H2,AV X AO σ H2 c->B6 x v->B6 y u->R x y H2->A8 (dl X) X.A (f v u) Q X.xe c):
  A8 (dl X) X.A (eval a X.env) (λv g=>A8 (dl X) X.A (eval b X.env) (λu e=>A8 (dl X) X.A (f v u) Q X.xe e) X.xe g) X.xe s:=by
 refine jQ (i AO s σ H _ I h) λv s1 ⟨x,H1,I1,r1,q1⟩=>?_;refine jQ (j AO s1 σ H1 _ I1 q1) λu c ⟨y,H2,I2,r2,q2⟩=>?_;exact k v u c x y H2 I2 r1 r2 q2
theorem a0{op:Operator}{r:R2}(j:yE X (binaryOp op) r)(f:PE X a ta)(k:PE X b tb):PE X (.BinOp a op b pos) (Gc r ta tb):=by
 intro AO s σ H Q I h;exact wpAny_BinOp (Iy f k I h λv u c x y H2 g e i q=>j AO c σ H2 x y v u Q g e i q)
theorem wc{op:UnaryOp}{r:V->Hp->VK->Prop}(c:ET X (unaryOp op) r)(b:PE X a ta):PE X (.UnaryOp op a pos) (PF r ta):=by
 intro AO s σ H Q I h;exact UnaryOp_ (jQ (b AO s σ H _ I h) λv s1 ⟨x,H1,I1,r1,q1⟩=>c AO s1 σ H1 x v Q I1 r1 q1)
theorem HM{f:A0->A0->Sem A0}{C:Int->Int->Prop}{g:Int->Int->Int}
  (b:∀(i j:Int) (t u:Tok) (s:A3) (Q:BO) (E:BO),C i j->Q (.int (g i j) s.toks) { s with toks:=s.toks+1 }->A8 (dl X) X.A (f (.int i t) (.int j u)) Q E s):
  yE X f (rI C λi j=>.int (g i j)):=by
 intro AO s σ H x y v u Q I a k h;obtain⟨i,j,rfl,rfl,e,q⟩:=h;obtain⟨t,rfl⟩:=a;obtain⟨c,rfl⟩:=k;exact b i j t c s _ _ e ⟨.int (g i j),H,I.tok _,⟨_,rfl⟩,q⟩
theorem Mm{f:A0->A0->Sem A0}{g:Int->Int->Int}
  (b:∀(i j:Int) (t u:Tok) (s:A3) (Q:BO) (E:BO),Q (.int (g i j) s.toks) { s with toks:=s.toks+1 }->A8 (dl X) X.A (f (.int i t) (.int j u)) Q E s):
  yE X f (ER λi j=>.int (g i j)):=by
 intro AO s σ H x y v u Q I c a h;obtain⟨i,j,rfl,rfl,q⟩:=h;obtain⟨t,rfl⟩:=c;obtain⟨e,rfl⟩:=a;exact b i j t e s _ _ ⟨.int (g i j),H,I.tok _,⟨_,rfl⟩,q⟩
theorem IZ{f:A0->A0->Sem A0}{g:Int->Int->Bool}
  (b:∀(i j:Int) (t u:Tok) (s:A3) (Q:BO) (E:BO),Q (.bool (g i j)) s->A8 (dl X) X.A (f (.int i t) (.int j u)) Q E s):
  yE X f (ER λi j=>.bl (g i j)):=by
 intro AO s σ H x y v u Q I c e h;obtain⟨i,j,rfl,rfl,q⟩:=h;obtain⟨t,rfl⟩:=c;obtain⟨a,rfl⟩:=e;exact b i j t a s _ _ ⟨.bl (g i j),H,I,rfl,q⟩
def gN(i j:Int):Prop:=0<j/\j<1073741824
def TW(i j:Int):Prop:=0<=j/\j<=1000000/\i.natAbs<2 ^ 64
def MH(i j:Int):Prop:=(-(2 ^ 64)<i/\i<2 ^ 64)\/(-(2 ^ 64)<j/\j<2 ^ 64)
theorem MH.ok{i j:Int}(h:MH i j):IntMulOk i j:=by
 rcases h with⟨h1,h2⟩|⟨h1,h2⟩
 ·exact .of_left (intBits_le_64 h1 h2)
 ·exact .of_right (intBits_le_64 h1 h2)
theorem UX:yE X (binaryOp .Add) (ER λi j=>.int (i+j)):=Mm λ_ _ _ _ _ _ _ q=>add_int q
theorem t8:yE X (binaryOp .Sub) (ER λi j=>.int (i-j)):=Mm λ_ _ _ _ _ _ _ q=>sub_int q
theorem oT:yE X (binaryOp .Mult) (rI MH λi j=>.int (i*j)):=HM λ_ _ _ _ _ _ _ a q=>mul_int q a.ok
theorem fm:yE X (binaryOp .FloorDiv) (rI gN λi j=>.int (i / j)):=HM λi j _ _ _ _ _ a q=>by
 have h1:(0:Int)<j:=a.1;have h2:j<1073741824:=a.2;exact floordiv_int () (by rw[Int.fdiv_eq_ediv_of_nonneg i ()];exact q) (.inl (PyProof.noPylong_small ()))
theorem TD:yE X (binaryOp .Mod) (rI (λ_ j=>0<j) λi j=>.int (i%j)):=HM λi j _ _ _ _ _ a q=>by
 have h1:(0:Int)<j:=a;exact mod_int' () (by rw[Int.fmod_eq_emod_of_nonneg i ()];exact q)
theorem XE:yE X (binaryOp .Pow) (rI TW λi j=>.int (i ^ j.toNat)):=HM λ_ _ _ _ _ _ _ a q=>pow_int_small a.1 a.2.1 a.2.2 q
theorem WH{f:A0->Sem A0}{g:Int->Int}
  (b:∀(i:Int) (t:Tok) (s:A3) (Q:BO) (E:BO),Q (.int (g i) s.toks) { s with toks:=s.toks+1 }->A8 (dl X) X.A (f (.int i t)) Q E s):
  ET X f (rU λi=>.int (g i)):=by
 intro AO s σ H x v Q I a h;obtain⟨i,rfl,q⟩:=h;obtain⟨t,rfl⟩:=a;exact b i t s _ _ ⟨.int (g i),H,I.tok _,⟨_,rfl⟩,q⟩
theorem sN:ET X (unaryOp .USub) (rU λi=>.int (-i)):=WH λ_ _ _ _ _ q=>neg_int q
theorem WM{σ:St}{H:Hp}{Q:VK}{k a:Bool}(I:AV X AO σ H s)(q:Q (.bl k) H)(e:k=a):EP X AO σ Q (.bool a) s:=by
 subst e;exact⟨.bl k,H,I,rfl,q⟩
theorem XU:yE X (AH .Lt) (ER λi j=>.bl (decide (i<j))):=IZ λ_ _ _ _ _ _ _ q=>lt_int q
theorem og:yE X (AH .LtE) (ER λi j=>.bl (decide (i<=j))):=IZ λ_ _ _ _ _ _ _ q=>le_int q
theorem VZ:yE X (AH .Gt) (ER λi j=>.bl (decide (j<i))):=IZ λ_ _ _ _ _ _ _ q=>gt_int q
theorem tz:yE X (AH .GtE) (ER λi j=>.bl (decide (j<=i))):=IZ λ_ _ _ _ _ _ _ q=>ge_int q
theorem We:yE X (AH .In) (λx y H Q=>∃i j,x=.str i/\y=.str j/\Q (.bl (!(Builtin.Str.occurrences j i 0 j.length 1).isEmpty)) H):=by
 intro AO s σ H x y v u Q I b a h;obtain⟨i,j,rfl,rfl,q⟩:=h;obtain⟨t,rfl⟩:=b;obtain⟨c,rfl⟩:=a;exact in_str (WM I q Y2)
theorem Sc:yE X (AH .Is) (λx y H Q=>y=.non/\Q (.bl (decide (x=.non))) H):=by
 intro AO s σ H x y v u Q I a b h;obtain⟨rfl,q⟩:=h;cases b;refine is_none_gen (WM I q ?_);cases x<;>first
  |(cases a;rfl)
  |(obtain⟨t,rfl⟩:=a;rfl)
theorem d5:yE X (AH .IsNot) (λx y H Q=>y=.non/\Q (.bl (!decide (x=.non))) H):=by
 intro AO s σ H x y v u Q I a b h;obtain⟨rfl,q⟩:=h;cases b;refine isnot_none_gen (WM I q ?_);cases x<;>first
  |(cases a;rfl)
  |(obtain⟨t,rfl⟩:=a;rfl)
theorem bV(b:Expr)(h:op≠.In:=by decide)(h2:op≠.NotIn:=by decide):behindInMarks op b=false:=by
 have e1:(op==CmpOp.In)=false:=by cases op<;>first|rfl|exact absurd Y2 h
 have e2:(op==CmpOp.NotIn)=false:=by cases op<;>first|rfl|exact absurd Y2 h2
 cases b<;>simp[behindInMarks,e1,e2]
theorem VQ{r:R2}(k:yE X (AH op) r)(g:PE X a ta)(l:PE X b tb)(f:behindInMarks op b=false):PE X (.Compare a [op] [b] pos) (Gc r ta tb):=by
 intro AO s σ H Q I h;exact wpAny_Compare1 (Iy g l I h λv u c x y H2 i e j q=>k AO c σ H2 x y v u Q i e j q) f
def OM(t:TE):TT:=λσ H Q=>t σ H λx H'=>∃k,x=.bl k/\Q k H'
theorem YG{r:R2}(g:yE X (AH op) r)(f:PE X a ta)(i:PE X b tb)(j:behindInMarks op b=false):PT X (.Compare a [op] [b] pos) (OM (Gc r ta tb)):=by
 intro AO s σ H Q I h;refine wpAny_isTrue_Compare1 (jQ (f AO s σ H _ I h) λv s1 ⟨x,H1,I1,r1,q1⟩=>jQ (i AO s1 σ H1 _ I1 q1) λu s2 ⟨y,H2,I2,r2,q2⟩=>
  jQ (g AO s2 σ H2 x y v u _ I2 r1 r2 q2) λc s3 ⟨z,H3,I3,r3,k,e,q3⟩=>?_) j
 subst e;cases r3;exact QE ⟨H3,I3,q3⟩
def WQ(r c:R2)(ta tb tc:TE):TE:=λσ H Q=>ta σ H λx H1=>tb σ H1 λy H2=>r x y H2 λz a=>∃k,z=.bl k ∧
 (if k=true then tc σ a λb e=>c y b e Q else Q (.bl false) a)
theorem aI{f:CmpOp}{r g:R2}(n:yE X (AH op) r)(m:yE X (AH f) g)(l:PE X a ta)(o:PE X b tb)(i:PE X c tc)(j:lastMarks [op,f] [b,c]=false:=by with_unfolding_all rfl):PE X (.Compare a [op,f] [b,c] pos) (WQ r g ta tb tc):=by
 intro AO s σ H Q I h;refine Compare_chain (jQ (l AO s σ H _ I h) λv s1 ⟨x,H1,I1,r1,q1⟩=>chain_link (jQ (o AO s1 σ H1 _ I1 q1) λu s2 ⟨y,H2,I2,r2,q2⟩=>
  jQ (n AO s2 σ H2 x y v u _ I2 r1 r2 q2) λd s3 ⟨z,H3,I3,r3,k,e,q3⟩=>?_)) j
 subst e;cases r3;refine QE ?_;cases k with
 |false=>exact ite_ff ⟨.bl false,H3,I3,rfl,q3⟩
 |true=>exact ite_tt (chain_last (jQ (i AO s3 σ H3 _ I3 q3) λw' s4 ⟨z',H4,I4,r4,q4⟩=>m AO s4 σ H4 y z' u w' Q I4 r2 r4 q4))
theorem hZ{f:CmpOp}{r g:R2}(o:yE X (AH op) r)(n:yE X (AH f) g)(m:PE X a ta)(p:PE X b tb)(j:PE X c tc)(l:lastMarks [op,f] [b,c]=false:=by with_unfolding_all rfl):PT X (.Compare a [op,f] [b,c] pos) (OM (WQ r g ta tb tc)):=by
 intro AO s σ H Q I h;refine isTrue_chain (jQ (m AO s σ H _ I h) λv s1 ⟨x,H1,I1,r1,q1⟩=>test_link (jQ (p AO s1 σ H1 _ I1 q1) λu s2 ⟨y,H2,I2,r2,q2⟩=>
  jQ (o AO s2 σ H2 x y v u _ I2 r1 r2 q2) λd s3 ⟨z,H3,I3,r3,k,e,q3⟩=>?_)) l
 subst e;cases r3;refine QE ?_;cases k with
 |false=>
  obtain⟨q,e',i⟩:=q3;cases e';exact ite_ff ⟨H3,I3,i⟩
 |true=>
  refine ite_tt (test_last (jQ (j AO s3 σ H3 _ I3 q3) λw' s4 ⟨z',H4,I4,r4,q4⟩=>jQ (n AO s4 σ H4 y z' u w' _ I4 r2 r4 q4) λd' s5 ⟨z2,H5,I5,r5,k2,e2,q5⟩=>?_));subst e2;cases r5;exact QE ⟨H5,I5,q5⟩
def LJ(K:BA)(x:V)(H:Hp)(k:Bool):Prop:=
 match x with
 |.non=>k=false
 |.bl b=>k=b
 |.int i=>k=(i != 0)
 |.str y=>y.length<=AB/\k=((y.length:Int) != 0)
 |.byt y=>y.size<=AB/\k=((y.size:Int) != 0)
 |.ref p=>(∃xs,tH K H p xs/\k=!xs.isEmpty)\/(∃xs,wM K H p xs/\k=!xs.isEmpty)\/∃AQ,H p=Z (.dK AQ)/\k=!AQ.isEmpty
 |_=>False
theorem WR{AQ:O (κ×V)}{vs:O (κ×A0)}(r:KV AQ vs):(!vs.isEmpty)=!AQ.isEmpty:=by
 cases r<;>rfl
theorem Jx{xs:O V}(r:AY xs AS):(!AS.toArray.isEmpty)=!xs.isEmpty:=by
 cases r<;>simp
theorem Gg:(AB:Nat)<2 ^ 63:=by rw[sizeLine_eq];decide
theorem mI:pM X (λx H Q=>∃k,LJ X.K x H k/\Q k H):=by
 intro AO s σ H x v Q I a h;obtain⟨k,e,q⟩:=h;have n:=Gg;have l:AB=16777216:=sizeLine_eq;cases x with
 |non=>
  cases a;have e':k=false:=e;subst e';exact truthy_none ⟨H,I,q⟩
 |bl b=>
  cases a;have e':k=b:=e;subst e';exact QE ⟨H,I,q⟩
 |int i=>
  obtain⟨t,rfl⟩:=a;have e':k=(i != 0):=e;subst e';exact PySem.P.truthy_int ⟨H,I,q⟩
 |str y=>
  obtain⟨t,rfl⟩:=a;obtain⟨j,e'⟩:y.length<=AB/\k=((y.length:Int) != 0):=e;subst e';exact PySem.P.truthy_str () ⟨H,I.tok _,q⟩
 |byt y=>
  obtain⟨t,rfl⟩:=a;obtain⟨j,e'⟩:y.size<=AB/\k=((y.size:Int) != 0):=e;subst e';exact PySem.W.truthy_bytes () ⟨H,I.tok _,q⟩
 |ref p=>
  cases a;have e':(∃xs,tH X.K H p xs/\k=!xs.isEmpty)\/(∃xs,wM X.K H p xs/\k=!xs.isEmpty)\/∃AQ,H p=Z (.dK AQ)/\k=!AQ.isEmpty:=e;rcases e' with⟨xs,hx,e'⟩|⟨xs,hx,e'⟩|⟨AQ,hx,e'⟩
  ·subst e';obtain⟨AS,r,pl,c⟩:=I.list hx;have f:=r.length;exact wpAny_truthy_list pl.isList (by simp only[zi];omega) ⟨H,I.tok _,by rw[Jx r];exact q⟩
  ·subst e';obtain⟨AS,r,pl,c⟩:=I.tuple hx;have f:=r.length;exact truthy_tuple pl (by simp only[zi];omega) ⟨H,I.tok _,by rw[Jx r];exact q⟩
  ·subst e';obtain⟨c,g,vs,r,m⟩:AQ.length<=AB/\(p==sysModules)=false/\∃vs,KV AQ vs/\s.heap.DictOf (nC X.prog X.w) p vs:=I.hok p _ hx;have f:AQ.length=vs.length:=Paired.length r;exact wpAny_truthy_dict g m () ⟨H,I.tok _,by rw[WR r];exact q⟩
 |_=>exact(show False from e).elim
theorem sF(c:PE X a ta)(e:∀b,isTrue a X.env b=(do let v <-b;standAt a.pos;holding [v] (truthy v))):
  PT X a (λσ H Q=>ta σ H λx H'=>∃k,LJ X.K x H' k/\Q k H'):=by
 intro AO s σ H Q I h;exact isTrue_plain (jQ (c AO s σ H _ I h) λv s1 ⟨x,H1,I1,r1,q1⟩=>mI AO s1 σ H1 x v Q I1 r1 q1) (e _)
theorem WT:yE X (binaryOp .Add) (λx y H Q=>∃i j,x=.str i/\y=.str j/\i.length+j.length<=AB/\Q (.str (i++j)) H):=by
 intro AO s σ H x y v u Q I b a h;obtain⟨i,j,rfl,rfl,c,q⟩:=h;obtain⟨t,rfl⟩:=b;obtain⟨e,rfl⟩:=a;exact add_str (λe tk=>⟨.str (i++j),H,I.tok _,⟨_,rfl⟩,q⟩) c
theorem BG{x:V}(r:AY [x] us):∃u,us=[u]/\B6 x u:=by
 cases r with
 |cons b a=>cases a;exact⟨_,rfl,b⟩
theorem Cc{x y:V}(r:AY [x,y] us):∃u a,us=[u,a]/\B6 x u/\B6 y a:=by
 cases r with
 |cons e c=>
  cases c with
  |cons b f=>cases f;exact⟨_,_,rfl,e,b⟩
theorem hJ:iG X (.builtin "abs") (λxs H Q=>∃i,xs=[.int i]/\Q (.int (if i<0 then -i else i)) H):=by
 intro AO s σ H xs us Q I r h;obtain⟨i,rfl,q⟩:=h;obtain⟨u,rfl,t,rfl⟩:=BG r;exact call_abs_int λu tk=>⟨.int (if i<0 then -i else i),H,I.tok _,⟨_,rfl⟩,q⟩
theorem mN:iG X (.type "int") (λxs H Q=>(∃i,xs=[.int i]/\Q (.int i) H)\/∃k,xs=[.bl k]/\Q (.int (if k then 1 else 0)) H):=by
 intro AO s σ H xs us Q I r h;rcases h with⟨i,rfl,q⟩|⟨k,rfl,q⟩
 ·obtain⟨u,rfl,t,rfl⟩:=BG r;exact call_int_int ⟨.int i,H,I,⟨_,rfl⟩,q⟩
 ·obtain⟨u,rfl,a⟩:=BG r;cases a;exact call_int_bool ⟨.int (if k then 1 else 0),H,I.tok _,⟨_,rfl⟩,q⟩
end
end L2
namespace L2
section
variable{x dx f:A2}{mA:AK->Y A0}{v:A0}
end
section
variable{H H':Hp}{h':A7}{dx:A2}{fs fs':O (AK×V)}
end
section
variable{X:Cx}{σ:St}{H:Hp}{dx:A2}{fs:O (AK×V)}{f:AK}{v:V}
end
section
variable{X:Cx}{o value:Expr}{f:AK}{pos':Pos}{ta tv:TE}
end
section
variable{X:Cx}{σ:St}{H:Hp}{c:A0}{b:Bool}
end
end L2
namespace L2
structure lK (k:Nat) (A:Around):Prop where
 hd:A.handled=none
 dp:A.depth+3*k+5<recursionLimit
 un:A.units+16*k+200<cLine
theorem lK.mono(r:lK k A)(h:j<=k):lK j A:=⟨r.hd,by have:=r.dp;omega,by have:=r.un;omega⟩
theorem lK.deeper(r:lK (k+1) A)(env:Env):lK k (A.deeper env):=
 ⟨r.hd,by have:=r.dp;show A.depth+1+3*k+5<_;omega,by have:=r.un;show A.units+3+16*k+200<_;omega⟩
theorem lK.in1(r:lK (k+1) A):lK k A.in1:=
 ⟨r.hd,by have:=r.dp;show A.depth+3*k+5<_;omega,by have:=r.un;show A.units+1+16*k+200<_;omega⟩
theorem lK.depth(r:lK k A):A.depth<recursionLimit:=by have:=r.dp;omega
def GS:TA:=λ_ H Q=>Q [] H
def Dm(ta:TE)(tr:TA):TA:=λσ H Q=>ta σ H λx H1=>tr σ H1 λxs H2=>Q (x::xs) H2
section
variable{X:Cx}{te:TE}{t:TA}
theorem vA:PA X [] GS:=λ_ _ _ _ H Q I h=>Calls.spliced_nil ⟨[],H,I,.nil,h⟩
theorem jf(a:PE X e te)(b:PA X es t)(hs:AA (e::es) X.env=(false,eval e X.env)::AA es X.env:=by rfl):PA X (e::es) (Dm te t):=by
 intro pos AO s σ H Q I h;rw[hs];show A8 _ _ (spliced ((false,eval e X.env)::AE pos (AA es X.env))) _ _ s;refine Calls.spliced_cons (jQ (a AO s σ H _ I h) λu s1 ⟨x,H1,I1,r1,q1⟩=>?_);exact jQ (b pos AO s1 σ H1 _ I1 q1) λus s2 ⟨xs,H2,I2,r2,q2⟩=>⟨x::xs,H2,I2,.cons r1 r2,q2⟩
def l6(t:TA):TE:=λσ H Q=>t σ H λxs H1=>xs.length<=AB/\∀p,H1 p=Y3->Q (.ref p) (BD H1 p (.tup xs))
def l5(t:TA):TE:=λσ H Q=>t σ H λxs H1=>xs.length<=AB/\∀p,H1 p=Y3->Q (.ref p) (BD H1 p (.lst xs))
theorem Y1{x1}(h:PA X es t):PE X (.Tuple es x1 pos) (l6 t):=by
 intro AO s σ H Q I a;refine wpAny_Tuple_spliced (jQ (h pos AO s σ H _ I a) λus s1 ⟨xs,H1,I1,r,z,q⟩=>⟨by rw[<-r.length];exact z,?_⟩);have c:H1 s1.heap.objs.size=Y3:=I1.hok.fresh (zo _);refine⟨.ref s1.heap.objs.size,BD H1 s1.heap.objs.size (.tup xs),I1.laid (t':=s1.toks) (λb u e=>zg _ e) (zo _) ?_,rfl,q _ c⟩;exact⟨z,us,r,⟨_,zD _ rfl,rfl,⟨_,rfl⟩,rfl⟩⟩
theorem Uf(h:PA X es t):PE X (.List es pos) (l5 t):=by
 intro AO s σ H Q I a;refine wpAny_List_spliced (jQ (h pos AO s σ H _ I a) λus s1 ⟨xs,H1,I1,r,z,q⟩=>⟨by rw[<-r.length];exact z,?_⟩);have c:H1 s1.heap.objs.size=Y3:=I1.hok.fresh (zo _);refine⟨.ref s1.heap.objs.size,BD H1 s1.heap.objs.size (.lst xs),I1.laid (t':=s1.toks) (λb u e=>zg _ e) (zo _) ?_,rfl,q _ c⟩;exact⟨z,us,0,r,zD _ rfl⟩
end
abbrev Sp:=O V->Hp->VK->XK->Prop
abbrev D7:=O Env->Hp->A3->XK->A0->A3->Prop
structure IS (P:Program) (w:World) (K:BA) (mg:Str->Option Value) (base:Heap) (A:Around) (outer:List Env) (s:Shared) (H:Hp):Prop where
 frames:A.frames=some outer
 mod:Mod K mg base
 bs:∀b o,base.get? b=some o->s.heap.get? b=some o/\H b=none
 bsz:base.objs.size<=s.heap.objs.size
 Ia:s.heap.FunFrames base outer
 frf:∀b∈DA outer,H b=none
 hok:G5 P w H s.heap
 bare:AllBare s.gens
 tabs:C6 K H
def CE(outer:O Env)(P:A4)(w:A5)(H:Hp)(s:A3)(Q:VK)(u:A0)(s':A3):Prop:=
 ∃v H',s'.os=s.os/\AllBare s'.gens/\Un (DA outer) [] H H' s.heap s'.heap/\G5 P w H' s'.heap/\B6 v u/\Q v H'
def CR(CX:D7)(outer:O Env)(P:A4)(w:A5)(H:Hp)(s:A3)(Q:VK)(E:XK)(r:Result)(s':A3):Prop:=
 match r with
 |.ok (.ret u)=>CE outer P w H s Q u s'
 |.ok _=>False
 |.error e=>CX outer H s E e s'
structure Cg (P:Program) (w:World) (K:BA) (mg:Str->Option Value) (base:Heap) (CX:D7) (k:Nat) (f:Addr) (fd:FuncData) (ps:B5) (sp:Sp):Prop where
 len:∀vs H Q E,sp vs H Q E->vs.length=ps.length
 run:∀(A:Around) (outer:List Env) (s:Shared) (H:Hp) (args:Args) (us:List Value) (vs:List V) (Q:VK) (E:XK),lK k A->IS P w K mg base A outer s H->BindsTo s fd args (ps.zip us)->AY vs us->sp vs H Q E →
  codeAny (model P w) A (.call (.ref f) args) (CR CX outer P w H s Q E) s
section
variable{X:Cx}{σ:St}{H:Hp}{s':A3}
theorem AV.env0(I:AV X AO σ H s):IS X.prog X.w X.K X.mg X.base X.A X.stack s H:=
 ⟨I.ok.frames,I.ok.mod,I.bs,zl I.ok.bsz I.sz,I.stack,I.Qc,I.hok,I.bare,I.ok.tabs.go I.base.Ce⟩
theorem AV.after{Q:VK}(I:AV X AO σ H s)(h:CE X.stack X.prog X.w H s Q u s'):EP X AO σ Q u s':=by
 obtain⟨v,H',os,a,un,f,r,q⟩:=h;obtain⟨c,g,d,t,e⟩:=s';obtain rfl:e=s.os:=os;exact⟨v,H',I.call (h':=c) (g':=g) (d':=d) (t':=t) (ch:=[]) un f a (λb z=>absurd z (by simp)),r,q⟩
end
def mf(sp:Sp)(dvs:O V)(E:XK)(t:TA):TE:=λσ H Q=>t σ H λvs H1=>sp (vs++dvs) H1 Q E
def Bn(K:BA)(fd:FuncData)(ps:B5)(ds:O A0):Prop:=
 ∀(s:A3) (us:O A0),K.In s.heap->(us++ds).length=ps.length->BindsTo s fd ⟨us,[]⟩ (ps.zip (us++ds))
theorem Bn.all(h:∀us:O A0,us.length=ps.length->bindArgs fd ⟨us,[]⟩=pure (ps.zip us)):Bn K fd ps []:=λs us _ a=>by
 rw[qS]at a ⊢;exact .of_eq (h us a)
def CY(CX:D7)(X:Cx)(E:XK):Prop:=∀(AO:O (A2×AF)) (σ:St) (H:Hp) (s:A3) (e:A0) (s':A3),AV X AO σ H s->CX X.stack H s E e s'->X.xe e s'
section
variable{X:Cx}{CX:D7}{f:A2}{sp:Sp}{dvs:O V}{ds:O A0}{E:XK}{m:AK}{p:Pos}{o:Expr}{ta:TE}{t:TA}
theorem VS{σ:St}{H:Hp}{Q:VK}{vs:O V}(F:Cg X.prog X.w X.K X.mg X.base CX k f fd ps sp)(c:lK k X.A)(g:Bn X.K fd ps ds)(hd:AY dvs ds)(hx:CY CX X E)(I:AV X AO σ H s)(r:AY vs us)(h:sp (vs++dvs) H Q E):A8 (dl X) X.A (call (.ref f) us) (EP X AO σ Q) X.xe s:=by
 have b:AY (vs++dvs) (us++ds):=r.append hd;have i:(us++ds).length=ps.length:=by rw[<-b.length];exact F.len _ _ _ _ h
 refine wpAny_call (codeAny_mono (F.run X.A X.stack s H ⟨us,[]⟩ (us++ds) (vs++dvs) Q E c I.env0 (g s us I.kIn i) b h) λr s' a=>?_);cases r with
 |error e=>exact hx AO σ H s e s' I a
 |ok fl=>
  cases fl with
  |ret u=>exact I.after a
  |next=>exact False.elim a
  |brk=>exact False.elim a
  |cont=>exact False.elim a
theorem Tx(F:Cg X.prog X.w X.K X.mg X.base CX k f fd ps sp)(g:lK k X.A)(a:Gl X x)(b:X.mg x=Z (.ref f))(hk:keepIn X.K (.ref f)=true)(l:Bn X.K fd ps ds)(hd:AY dvs ds)(hx:CY CX X E)
  (c:PA X (e::es) t) (m:db x:=by decide) (j:AA (e::es) X.env=(false,eval e X.env)::AA es X.env:=by rfl) (i:(AE pos (AA es X.env)).any (·.1)=false:=by rfl):
  PE X (.Call (.Name x p) (e::es) [] pos) (mf sp dvs E t):=by
 intro AO s σ H Q I h;refine kX (Qd I a b ?_ m);refine PySem.W.callWith_K (h₀:=X.base) I.ok.mod.kin hk (jQ (c pos AO s σ H _ I h) λus s1 ⟨vs,H1,I1,r,q⟩=>⟨I1.kIn,?_⟩) j i;exact VS F g l hd hx I1 r q
end
section
variable{X:Cx}{CX:D7}{f:A2}{ks:B5}{sp:Sp}{E:XK}{m:AK}{p kpos:Pos}{o:Expr}{kws:O AD}{te ta:TE}{t tk:TA}{nm:Y AK}
variable{g:O A0->O A0->O A0}{gV:O V->O V->O V}
end
structure aW (N P:B5) (sc:Scope):Prop where
 kind:sc.kind=.function
 co:sc.isCoroutine=false
 gen:sc.isGenerator=false
 nd:N.Nodup
 pre:N.take P.length=P
 par:∀x∈P,sc.names.lookup x=some .local\/sc.names.lookup x=some .cell
 aiG:∀y∈sc.names,y.2≠.free
theorem NT{a:AK->Y NameKind}{x:AK}:∀{binds:O (AK×A0)} {m:AK->Y A0},(∀v,(x,v)∉binds)->bindL a binds m x=m x
 |[],_,_=>rfl
 |(n,v)::r,m,h=>by
  unfold bindL;rw[NT λw b=>h w (zk _ b)];split
  ·have:x≠n:=by rintro rfl;exact h v zr
   simp[this]
  ·rfl
theorem NZ{a:AK->Y NameKind}{x:AK}:∀{binds:O (AK×A0)} {m:AK->Y A0},(∀v,(x,v)∉binds)->bindC a binds m x=m x
 |[],_,_=>rfl
 |(n,v)::r,m,h=>by
  unfold bindC;rw[NZ λw b=>h w (zk _ b)];split
  ·rfl
  ·have:x≠n:=by rintro rfl;exact h v zr
   simp[this]
theorem N5{a:AK->Y NameKind}{x:AK}{v:A0}:∀{P:B5} {vs:O A0} {i:Nat} {m:AK->Y A0},P.Nodup->P[i]?=Z x->vs[i]?=Z v->a x=Z .local →
  bindL a (P.zip vs) m x=Z v
 |[],_,_,_,_,h,_,_=>by simp at h
 |_::_,[],_,_,_,_,h,_=>by simp at h
 |p::P,w::vs,0,m,nd,h1,h2,hk=>by
  simp at h1 h2;subst h1;subst h2;show bindL a ((p,w)::P.zip vs) m p=_;unfold bindL;rw[NT λv b=>(dd.mp nd).1 (KU b).1,zh hk];simp
 |p::P,w::vs,i+1,m,nd,h1,h2,hk=>by
  show bindL a ((p,w)::P.zip vs) m x=_;unfold bindL;exact N5 (i:=i) (dd.mp nd).2 (by simpa using h1) (by simpa using h2) hk
theorem N6{a:AK->Y NameKind}{x:AK}{v:A0}:∀{P:B5} {vs:O A0} {i:Nat} {m:AK->Y A0},P.Nodup->P[i]?=Z x->vs[i]?=Z v->a x≠Z .local →
  bindC a (P.zip vs) m x=Z v
 |[],_,_,_,_,h,_,_=>by simp at h
 |_::_,[],_,_,_,_,h,_=>by simp at h
 |p::P,w::vs,0,m,nd,h1,h2,hk=>by
  simp at h1 h2;subst h1;subst h2;show bindC a ((p,w)::P.zip vs) m p=_;unfold bindC;rw[NZ λv b=>(dd.mp nd).1 (KU b).1,zv hk];simp
 |p::P,w::vs,i+1,m,nd,h1,h2,hk=>by
  show bindC a ((p,w)::P.zip vs) m x=_;unfold bindC;exact N6 (i:=i) (dd.mp nd).2 (by simpa using h1) (by simpa using h2) hk
def start(N:B5)(vs:O V):St:=vs.map Z++bb (N.length-vs.length) Y3
def Jy(CX:D7)(P:A4)(w:A5)(K:BA)(mg:AK->Y A0)(base:A7)(N:B5)(qual:AK)(scope:Scope)(f:A2)(a:A0)(A:A6)(outer:O Env)(s:A3)(H:Hp)(E:XK):Cx where
 prog:=P
 w:=w
 K:=K
 mg:=mg
 base:=base
 A:=A.deeper (AL qual scope s.heap.objs.size f a)
 N:=N
 s₀:=s
 H₀:=H
 env:=AL qual scope s.heap.objs.size f a
 outer:=outer
 stack:=AL qual scope s.heap.objs.size f a::outer
 ex:=[]
 calm:=true
 fn:=λ_=>true
 pn:=[]
 xe:=λe s'=>A8 (A9 P w) (A.deeper (AL qual scope s.heap.objs.size f a)) (leaving (AL qual scope s.heap.objs.size f a) e) (λ_ b=>CX outer H s E e b) (λe' b=>CX outer H s E e' b) s'
theorem Tn{a:Scope}(h:a.names.lookup x=Z .cell):∃c,(cellsFrom n a.names []).lookup x=Z c:=by
 have q:=cellsFrom_some a.names n [] (.inl h);exact cZ.mp q
theorem wx{CX:D7}{f:A2}{j:A0}{outer:O Env}{m:A3}{H:Hp}{E:XK}{vs:O V}(S:aW N ps scope)(hd:A.handled=Y3)(e0:IS P w K mg base A outer s H)(G:vs.length=ps.length)(r:AY vs us)(x:InCallC s s.heap.objs.size (bindL (AL qual scope s.heap.objs.size f j).kindOf (ps.zip us) λ_=>Y3) (cellsFrom (s.heap.objs.size+1) scope.names []) (bindC (AL qual scope s.heap.objs.size f j).kindOf (ps.zip us) λ_=>Y3) m):
  AV (Jy CX P w K mg base N qual scope f j A outer s H E) [] (start N vs) H m:=by
 have F:ps.length<=N.length:=by have:=congrArg dC S.pre;rw[qk]at this;omega
 obtain⟨h1,tk,rfl,hk⟩:=x.done;have l:∀b:A2,b∉(Jy CX P w K mg base N qual scope f j A outer s H E).ex:=λb z=>absurd (show b∈([]:O A2) from z) (by simp);refine⟨⟨e0.mod,S.kind,rfl,rfl,zo _,λy z c h1 h2=>?_,λy g=>?_,λy c _ h=>?_,λ_=>hd,Around.frames_deeper e0.frames,.inr ⟨rfl,rfl⟩,λb z=>absurd z (l b),e0.bs,e0.bsz,λb _ _=>l b,λb z=>absurd z (l b),e0.Ia,e0.frf,e0.tabs⟩,
  rfl,e0.bare,Un.kept hk,⟨_,x.toInCall.ns,λi y v h1 h2 D=>?_⟩,λy c h=>⟨_,x.cell y c h⟩,e0.hok.fresh (zo _),λy c h=>?_,λp hp=>absurd (show p∈([]:O (A2×AF)) from hp) (by simp),e0.hok.kept hk,?_⟩
 ·exact name_of_addr x.apart (Q1 h1) (Q1 h2)
 ·have g:scope.names.lookup y=Z .cell\/scope.names.lookup y=Z .free:=g;rcases g with g|g
  ·exact Tn g
  ·exact absurd Y2 (S.aiG _ (Q1 g))
 ·exact qh (x.above y c (Q1 h))
 ·have hi:i<vs.length:=by
   unfold start at h2;by_cases hi:i<vs.length
   ·exact hi
   ·rw[QO (by simpa using hi)]at h2;rw[j3]at h2;split at h2<;>cases h2
  have B:vs[i]?=Z v:=by
   unfold start at h2;rw[qa (by simpa using hi),qv]at h2;cases e:vs[i]? with
   |none=>rw[e]at h2;cases h2
   |some a=>rw[e]at h2;cases h2;rfl
  obtain⟨u,t,C⟩:=r.get B;have hp:ps[i]?=Z y:=by
   rw[<-S.pre,kz ()];exact h1
  have o:ps.Nodup:=by rw[<-S.pre];exact S.nd.sublist (yz _ _)
  refine⟨u,C,?_⟩;rcases S.par y (KO hp)with k|k
  ·exact .inl ⟨k,N5 o hp t k⟩
  ·obtain⟨c,e⟩:=Tn (n:=s.heap.objs.size+1) k;refine .inr ⟨.inl k,c,e,?_⟩;have q:=x.cell y c e;rw[N6 o hp t (by show scope.names.lookup y≠_;rw[k];decide)]at q;exact q
 ·exact e0.hok.fresh (qh (x.above y c (Q1 h)))
 ·unfold start;show _=N.length;rw[zt,zd,eg];omega
theorem OG{CX:D7}{f:A2}{i kV B pm a ct L:A0}{j od:Y A2}{sp:Sp}(F:K.lookup f=Z ⟨L,od,.func (fnOf name qual params body scope i kV B pm j a ct),osl⟩)(a2:codeIn K a qual=true)(S:aW N ps scope)(len:∀vs H Q E,sp vs H Q E->vs.length=ps.length)(M:∀(A:A6) (outer:O Env) (s:A3) (H:Hp) (vs:O V) (Q:VK) (E:XK),lK k (A.deeper (AL qual scope s.heap.objs.size f a))->sp vs H Q E →
   ∃t,NQ (Jy CX P w K mg base N qual scope f a A outer s H E) body t/\t { nx:=λ_ H'=>Q .non H',rt:=Q } (start N vs) H):
  Cg P w K mg base CX (k+1) f (fnOf name qual params body scope i kV B pm j a ct) ps sp:=by
 refine⟨len,λA outer s H a3 us vs Q E h e0 hb r l=>?_⟩;have X:=len _ _ _ _ l;have m:K.In s.heap:=e0.mod.kin.keeps λb o e=>(e0.bs b o e).1;have D:s.heap.NoLimit:=e0.mod.nolimit.keeps λb o e=>(e0.bs b o e).1;have a1:∀y∈ps.zip us,scope.names.lookup y.1=Z .local\/(scope.names.lookup y.1=Z .cell/\((cellsFrom (s.heap.objs.size+1) scope.names []).lookup y.1).isSome=true):=λ⟨n,v⟩ hy=>by
  rcases S.par n (KU hy).1 with q|q
  ·exact .inl q
  ·exact .inr ⟨q,cellsFrom_some _ _ _ (.inl q)⟩
 refine codeAny_call_function h.depth (m _ _ F) Y2 S.co S.gen Y2 (PySem.W.codeRec_of m a2) (hb _ _ _ _ ?_);refine wpAny_newFunctionEnv_cells S.kind a1 λenv U p x=>?_;subst U;refine⟨D.keeps x.toInCall.keep,codeAny_func ?_⟩;obtain⟨t,G,C⟩:=M A outer s H vs Q E (h.deeper _) l;have I:AV (Jy CX P w K mg base N qual scope f a A outer s H E) [] (start N vs) H p:=wx S h.hd e0 X r x;refine qA (G [] p (start N vs) H _ I C) (λfl s' c=>?_) λe s' c=>c;have z:∀{σ':St} {H':Hp} {v:V} {u:A0},AV (Jy CX P w K mg base N qual scope f a A outer s H E) [] σ' H' s'->B6 v u->Q v H'->CE outer P w H s Q u s':=
  λ{σ' H' v u} J g q=>⟨v,H',J.os,J.bare,J.base,J.hok,g,q⟩
 cases fl with
 |ret u=>
  obtain⟨v,σ',H',J,g,q⟩:=c;exact z J g q
 |next=>
  obtain⟨σ',H',J,q⟩:=c;exact z (v:=V.non) (u:=Value.none) J Y2 q
 |brk=>
  obtain⟨_,_,_,q⟩:=c;exact False.elim q
 |cont=>
  obtain⟨_,_,_,q⟩:=c;exact False.elim q
end L2
namespace L2
section
variable{X:Cx}{p:Pos}{t:TA}{id T:String}{r:O V->Hp->VK->Prop}
def LD(r:O V->Hp->VK->Prop)(t:TA):TE:=λσ H Q=>t σ H λvs H1=>r vs H1 Q
theorem yK(b:iG X (.builtin id) r)(a:Gl X x)(c:X.mg x=Y3)(i:AI x=Z (.builtin id))(f:PA X (e::es) t)(k:x ≠ "__name__":=by decide)(l:db x:=by decide)
  (j:AA (e::es) X.env=(false,eval e X.env)::AA es X.env:=by rfl) (g:(AE pos (AA es X.env)).any (·.1)=false:=by rfl):PE X (.Call (.Name x p) (e::es) [] pos) (LD r t):=by
 intro AO s σ H Q I h;refine kX (yI I a c i ?_ k l);exact PyProof.Rows.callWith_builtin1 (jQ (f pos AO s σ H _ I h) λus s1 ⟨vs,H1,I1,r1,q1⟩=>b AO s1 σ H1 vs us Q I1 r1 q1) j g
theorem Sz(b:iG X (.type T) r)(a:Gl X x)(c:X.mg x=Y3)(i:AI x=Z (.type T))(f:PA X (e::es) t)(k:x ≠ "__name__":=by decide)(l:db x:=by decide)
  (j:AA (e::es) X.env=(false,eval e X.env)::AA es X.env:=by rfl) (g:(AE pos (AA es X.env)).any (·.1)=false:=by rfl):PE X (.Call (.Name x p) (e::es) [] pos) (LD r t):=by
 intro AO s σ H Q I h;refine kX (yI I a c i ?_ k l);exact PyProof.Rows.callWith_type1 (jQ (f pos AO s σ H _ I h) λus s1 ⟨vs,H1,I1,r1,q1⟩=>b AO s1 σ H1 vs us Q I1 r1 q1) j g
end
end L2
namespace HT
open PySem PyProof.Rows
section
open PySem.SeqAt
open PySem.AutoSeq1 (wpAny_loadPart')
open PySem.MeetsSeq PySem.MeetsSeq2 PySem.MeetsSeq3
end
theorem afi{t b:A2}{vs a:O A0}(u:IsTup s.heap t vs.toArray)(v:IsTup s.heap b a.toArray)(m:vs≠[])(h1:a=[]->Q (.ref t) s)(h2:a≠[]->Q (.ref s.heap.objs.size) { s with heap:=s.heap.push { cls:=.type "tuple",data:=.seq (vs++a).toArray } })(q:vs.length+a.length<=AB):A8 (A9 prog w) A (binaryOp .Add (.ref t) (.ref b)) Q E s:=by
 obtain⟨⟨cls,i,data,sl⟩,g,l,n,hd⟩:=id u;obtain⟨⟨cls2,p,x,j⟩,c,o,k,h⟩:=id v;simp only at l hd o h;subst l hd o h;have e:vs.toArray++a.toArray=(vs++a).toArray:=by simp
 by_cases f:a=[]
 ·exact concat_meets ⟨_,g,rfl⟩ ⟨_,c,rfl⟩ noFill_tuple_add seq_tuple_add PySem.F.slot_tuple_add YE (yY _ _)
   (tuple_addW1 t b vs.toArray a.toArray n k i p sl j (by simpa using m) (by simp[f])) ⟨g,c,h1 f⟩
 ·refine concat_meets ⟨_,g,rfl⟩ ⟨_,c,rfl⟩ noFill_tuple_add seq_tuple_add PySem.F.slot_tuple_add YE (yY _ _)
   (tuple_addW2 t b vs.toArray a.toArray n k i p sl j (by simpa using m) (by simpa using f) (by rw[zi,zi];exact q)) ⟨g,c,?_⟩
  rw[e];exact h2 f
def jU(n d:Nat):Y Int->Nat
 |none=>d
 |some v=>if v<0 then(v+(n:Int)).toNat else min v.toNat n
theorem Tp(n d:Nat):jU n d Y3=d:=rfl
theorem YH(n d k:Nat):jU n d (Z (k:Int))=min k n:=by
 show(if(k:Int)<0 then((k:Int)+(n:Int)).toNat else min (k:Int).toNat n)=min k n;rw[zv (),jv]
theorem eC(n d:Nat)(hd:d<=n)(o:Y Int):jU n d o<=n:=by
 cases o with
 |none=>exact hd
 |some v=>
  show(if v<0 then(v+(n:Int)).toNat else min v.toNat n)<=n;by_cases a:v<0
  ·rw[zh a];omega
  ·rw[zv a];exact Nat.min_le_right _ _
theorem YJ(v:Int)(n d:Nat):(if v<0 then max (v+(n:Int)) 0 else min v (n:Int))=((jU n d (Z v):Nat):Int):=by
 show(if v<0 then max (v+(n:Int)) 0 else min v (n:Int))=(((if v<0 then(v+(n:Int)).toNat else min v.toNat n):Nat):Int);by_cases a:v<0
 ·simp only[zh a];omega
 ·simp only[zv a];omega
theorem WW(lo hi:Y Int)(n:Nat):Builtin.Slice.sliceAdjust lo hi 1 (n:Int)=(((jU n 0 lo:Nat):Int),((jU n n hi:Nat):Int)):=by
 have h1:¬ ((1:Int)<0):=by omega
 unfold Builtin.Slice.sliceAdjust;simp only[h1,Qb];refine kA ?_ ?_
 ·cases lo with
  |none=>rfl
  |some v=>exact YJ v n 0
 ·cases hi with
  |none=>rfl
  |some v=>exact YJ v n n
theorem WX(i j:Nat):Builtin.Slice.slicePlaces (i:Int) (j:Int) 1=j-i:=by
 unfold Builtin.Slice.slicePlaces;have h1:(1:Int)>0:=by omega
 simp only[h1,QP,Int.ediv_one];split<;>omega
theorem Jz{v:A0}{o:Y Int}{Q:Y Int->A3->Prop}(p:IsPart v o)(h:Q o s):A8 (A9 prog w) A (Builtin.Slice.slicePartIndex v) Q E s:=by
 cases p with
 |none=>exact slicePart_none h
 |int i t=>exact slicePart_int h
theorem vU{sl:A2}{c a:A0}{Q:Int×Int×Nat->A3->Prop}(hs:s.heap.IsSliceOf sl c a .none)(pl:IsPart c lo)(f:IsPart a hi)(h:Q (((jU n 0 lo:Nat):Int),1,jU n n hi-jU n 0 lo) s):A8 (A9 prog w) A (Builtin.Slice.sliceApplied (.ref sl) (pure (n:Int))) Q E s:=by
 obtain⟨os,e,g,b⟩:=id hs;unfold Builtin.Slice.sliceApplied Builtin.Slice.sliceFields;refine zb (zb (jn e b (x:=c) Y2 (zb (jn e b (x:=a) Y2 (zb (jn e b (x:=.none) Y2 (ze ?_)))))));refine zb (slicePart_none ?_);show A8 _ _ (if((1:Int)==0)=true then _ else _) _ _ s;rw[zv ()];refine zb (Jz pl (zb (Jz f (zb (ze ?_)))));show A8 _ _ (match Builtin.Slice.sliceAdjust lo hi 1 (n:Int)with|(lo,hi)=>pure (lo,(1:Int),Builtin.Slice.slicePlaces lo hi 1)) _ _ s;rw[WW lo hi n];show A8 _ _ (pure (((jU n 0 lo:Nat):Int),(1:Int),Builtin.Slice.slicePlaces ((jU n 0 lo:Nat):Int) ((jU n n hi:Nat):Int) 1)) _ _ s;rw[WX];exact ze h
theorem uA(xs:Array A0)(i k:Nat):((dc k).filterMap λ(m:Nat)=>xs[((i:Int)+(m:Int)*1).toNat]?).toArray=((xs.toList.drop i).take k).toArray:=by
 have e:(λ(m:Nat)=>xs[((i:Int)+(m:Int)*1).toNat]?)=λm=>xs[i+m]?:=by
  funext m;have:((i:Int)+(m:Int)*1).toNat=i+m:=by omega
  rw[this]
 rw[e];have:=pick_run xs i k;rw[List.filterMap_map]at this;have e2:((λx=>xs[x]?) ∘ λx=>i+x)=λm=>xs[i+m]?:=rfl;rw[e2]at this;rw[this]
theorem Dn{t sl:A2}{e c:A0}(a:IsTup s.heap t items)(hs:s.heap.IsSliceOf sl e c .none)(pl:IsPart e lo)(l:IsPart c hi)(j:¬ (jU items.size 0 lo=0/\jU items.size items.size hi=items.size))(h:Q (.ref s.heap.objs.size) { s with heap:=s.heap.push { cls:=.type "tuple",data:=.seq ((items.toList.drop (jU items.size 0 lo)).take (jU items.size items.size hi-jU items.size 0 lo)).toArray } })(n:items.size<=AB):A8 (A9 prog w) A (getItem (.ref t) (.ref sl)) Q E s:=by
 have b:sizeOk (.seq ((items.toList.drop (jU items.size 0 lo)).take (jU items.size items.size hi-jU items.size 0 lo)).toArray):=by
  show((items.toList.drop (jU items.size 0 lo)).take (jU items.size items.size hi-jU items.size 0 lo)).toArray.size<=AB;rw[zi,qk,qc,Z3];omega
 have p:jU items.size items.size hi<=items.size:=eC _ _ (zo _) hi;obtain⟨os,k,g,o⟩:=id hs;have f:s.TypeIs (.ref sl) "slice":=⟨os,k,g⟩;unfold getItem
 try with_reducible refine ko ?_
 first|refine zb (ze ?_)|skip
 refine zb (wpAny_sequenceKey a.typeIs () ?_);refine zb (jI (name:=Str.ofString "__getitem__") a.typeIs PyProof.Rows.slot_tuple_getitem
  (jb PyProof.Rows.slot_tuple_getitem a.typeIs entry_tuple_getitem ?_ (args_tuple_getitem _ _)))
 show A8 _ _ (Builtin.Tuple.tupleItemsOf (.ref t) >>= _) _ _ s;refine zb (tupleItemsOf_ a ?_);refine zb (JU f ?_);rw[zh ()];refine zb (vU hs pl l ?_);have i:¬ ((((jU items.size 0 lo:Nat):Int)==0&&(1:Int)==1&&(jU items.size items.size hi-jU items.size 0 lo)==items.size)=true):=by
  intro q;rw[zS,zS]at q;have q1:((jU items.size 0 lo:Nat):Int)=0:=eq_of_beq q.1.1;have q2:jU items.size items.size hi-jU items.size 0 lo=items.size:=eq_of_beq q.2;exact j ⟨by omega,by omega⟩
 show A8 _ _ (if(((jU items.size 0 lo:Nat):Int)==0&&(1:Int)==1&&(jU items.size items.size hi-jU items.size 0 lo)==items.size)=true then _ else _) _ _ s;rw[zv i,uA]
 first
  |exact zb (m:=Builtin.Tuple.tupleExact _) (QY (ze ⟨_,rfl,ze h⟩) b)
  |exact zb (m:=Builtin.Tuple.tupleExact _) (QY (zb (ze (ze ⟨_,rfl,ze h⟩))) b)
  |exact zb (zb (m:=Builtin.Tuple.tupleExact _) (QY (ze (ze ⟨_,rfl,ze h⟩)) b))
  |exact zb (zb (m:=Builtin.Tuple.tupleExact _) (QY (ze ⟨_,rfl,ze h⟩) b))
end HT
namespace L2
abbrev TO:=St->Hp->(Y Int->Hp->Prop)->Prop
def PO(X:Cx)(e:Y Expr)(t:TO):Prop:=
 ∀(AO:O (A2×AF)) (s:A3) (σ:St) (H:Hp) (Q:Y Int->Hp->Prop),AV X AO σ H s->t σ H Q →
  A8 (dl X) X.A (evalPart e X.env) (λu s'=>∃o H',AV X AO σ H' s'/\IsPart u o/\Q o H') X.xe s
def Tl:TO:=λ_ H Q=>Q Y3 H
def cm(t:TE):TO:=λσ H Q=>t σ H λx H1=>∃i,x=.int i/\Q (Z i) H1
section
variable{X:Cx}{te:TE}{lo hi:Y Expr}{tl th:TO}
theorem nL:PO X Y3 Tl:=by
 intro AO s σ H Q I h;rw[evalPart_none];exact ze ⟨Y3,H,I,.none,h⟩
theorem XZ(h:PE X e te):PO X (Z e) (cm te):=by
 intro AO s σ H Q I a;rw[evalPart_some];refine jQ (h AO s σ H _ I a) λu s1 ⟨x,H1,I1,r1,q1⟩=>?_;obtain⟨i,rfl,q⟩:=q1;obtain⟨t,rfl⟩:=r1;exact⟨Z i,H1,I1,.int i t,q⟩
def IU(X:Cx)(r:V->Y Int->Y Int->Hp->VK->Prop):Prop:=
 ∀(AO:O (A2×AF)) (s:A3) (σ:St) (H:Hp) (x:V) (v b a:A0) (lo hi:Y Int) (sl:A2) (Q:VK),AV X AO σ H s->B6 x v->s.heap.IsSliceOf sl b a .none->IsPart b lo->IsPart a hi->r x lo hi H Q →
  ∃T id,typeLookup (.type T) "__getitem__"=pure (Z (.builtin id))/\s.TypeIs v T/\A8 (dl X) X.A (getItem v (.ref sl)) (EP X AO σ Q) X.xe s
def i6(r:V->Y Int->Y Int->Hp->VK->Prop)(te:TE)(tl th:TO):TE:=λσ H Q=>te σ H λx H1=>tl σ H1 λl H2=>th σ H2 λu a=>r x l u a Q
theorem WF{r:V->Y Int->Y Int->Hp->VK->Prop}(f:IU X r)(i:PE X e te)(m:PO X lo tl)(k:PO X hi th):PE X (.Subscript e (.Slice lo hi Y3 p2) pos) (i6 r te tl th):=by
 intro AO s σ H Q I h;refine Subscript_ (jQ (i AO s σ H _ I h) λv s1 ⟨x,H1,I1,r1,q1⟩=>?_);refine wpAny_Slice (jQ (m AO s1 σ H1 _ I1 q1) λvl s2 ⟨l,H2,I2,pl,q2⟩=>jQ (k AO s2 σ H2 _ I2 q2) λvu s3 ⟨u,H3,I3,pu,q3⟩=>?_);rw[evalPart_none];refine ze ?_;have c:AV X AO σ H3 { s3 with heap:=s3.heap.push { cls:=.type "slice",data:=.fields #[vl,vu,.none] } }:=I3.kept (t':=s3.toks) λb n q=>zg _ q;obtain⟨T,id,j,g,a⟩:=f AO { s3 with heap:=s3.heap.push { cls:=.type "slice",data:=.fields #[vl,vu,.none] } } σ H3 x v vl vu l u s3.heap.objs.size Q c r1 (Heap.IsSliceOf.new ..) pl pu q3;show A8 (dl X) X.A (subscriptTail e (.Slice lo hi Y3 p2) v (.ref s3.heap.objs.size)) (EP X AO σ Q) X.xe { s3 with heap:=s3.heap.push { cls:=.type "slice",data:=.fields #[vl,vu,.none] } };exact tail_any (ops:=[.ref s3.heap.objs.size,v]) g j a (by with_unfolding_all rfl)
def Tq(xs:O V)(lo hi:Y Int):O V:=(xs.drop (HT.jU xs.length 0 lo)).take (HT.jU xs.length xs.length hi-HT.jU xs.length 0 lo)
theorem G6(xs:O V)(lo hi:Y Int):(Tq xs lo hi).length<=xs.length:=by
 unfold Tq;rw[qk,qc];omega
def hX(K:BA):V->Y Int->Y Int->Hp->VK->Prop:=λx lo hi H Q=>∃a xs,x=.ref a/\wM K H a xs ∧
 ¬ (HT.jU xs.length 0 lo=0/\HT.jU xs.length xs.length hi=xs.length)/\∀p,H p=Y3->Q (.ref p) (BD H p (.tup (Tq xs lo hi)))
theorem cx:IU X (hX X.K):=by
 intro AO s σ H x v n l lo hi sl Q I i g pl k h;obtain⟨a,xs,rfl,hx,j,q⟩:=h;cases i;obtain⟨AS,r,f,e⟩:=I.tuple hx;have c:AS.toArray.size=xs.length:=by rw[zi];exact r.length.symm
 refine⟨"tuple", _,PyProof.Rows.slot_tuple_getitem.lookup,f.typeIs,?_⟩;refine HT.Dn f g pl k (by rw[c];exact j) ?_ (by rw[c];exact e);rw[c];refine⟨.ref s.heap.objs.size,_,I.laid (t':=s.toks) (o:=.tup (Tq xs lo hi)) (λb m q=>zg _ q) (zo _) ?_,rfl,q _ (I.hok.fresh (zo _))⟩;exact⟨zl (G6 xs lo hi) e,_,(r.drop (HT.jU xs.length 0 lo)).take (HT.jU xs.length xs.length hi-HT.jU xs.length 0 lo),rK.new _ _⟩
def du(K:BA):R2:=λx y H Q=>∃a b xs ys,x=.ref a/\y=.ref b/\wM K H a xs/\wM K H b ys/\xs≠[]/\xs.length+ys.length<=AB ∧
 (ys=[]->Q (.ref a) H)/\(ys≠[]->∀p,H p=Y3->Q (.ref p) (BD H p (.tup (xs++ys))))
theorem AY.Ja{xs:O V}(r:AY xs us):us=[]↔xs=[]:=by
 cases r with
 |nil=>simp
 |cons _ _=>simp
theorem om:yE X (binaryOp .Add) (du X.K):=by
 intro AO s σ H x y v u Q I g j h;obtain⟨a,b,xs,ys,rfl,rfl,i,k,hx,f,q1,q2⟩:=h;cases g;cases j;obtain⟨AS,e,p1,_⟩:=I.tuple i;obtain⟨l,c,p2,_⟩:=I.tuple k;refine HT.afi p1 p2 (λz=>hx (e.Ja.mp z)) (λz=>⟨.ref a,H,I,rfl,q1 (c.Ja.mp z)⟩) (λz=>?_) (by rw[<-e.length,<-c.length];exact f);refine⟨.ref s.heap.objs.size,_,I.laid (t':=s.toks) (o:=.tup (xs++ys)) (λb m q=>zg _ q) (zo _) ?_,rfl,q2 (λw=>z (c.Ja.mpr w)) _ (I.hok.fresh (zo _))⟩;exact⟨by rw[zt];exact f,_,e.append c,rK.new _ _⟩
end
end L2
namespace L2
def EL(n:Nat)(i:Int):Y Nat:=if 0<=i then(if i<n then Z i.toNat else Y3)else if -(n:Int)<=i then Z (i+n).toNat else Y3
def Ib(xs:O α)(i:Int):Y α:=(EL xs.length i).bind λj=>xs[j]?
theorem bo{i:Int}(h:EL n i=Z j):seqIndex? i n=Z j/\j<n ∧ -(n:Int)<=i/\i<n:=by
 unfold EL at h;by_cases a:0<=i
 ·rw[zh a]at h;by_cases h1:i<n
  ·rw[zh h1]at h;have e:i.toNat=j:=Jn h;exact⟨by rw[seqIndex_of a h1,e],by omega,by omega,h1⟩
  ·rw[zv h1]at h;cases h
 ·rw[zv a]at h;by_cases h1 : -(n:Int)<=i
  ·rw[zh h1]at h;have e:(i+n).toNat=j:=Jn h;exact⟨by rw[seqIndex_neg () h1,e],by omega,h1,by omega⟩
  ·rw[zv h1]at h;cases h
theorem Qe{xs:O α}{i:Int}{v:α}(h:Ib xs i=Z v):∃j,seqIndex? i xs.length=Z j/\xs[j]?=Z v/\j<xs.length ∧ -(xs.length:Int)<=i/\i<xs.length:=by
 unfold Ib at h;cases e:EL xs.length i with
 |none=>rw[e]at h;cases h
 |some j=>
  rw[e]at h;obtain⟨h1,h2,b,a⟩:=bo e;exact⟨j,h1,h,h2,b,a⟩
def YL(b:Expr):Prop:=∀o i,subscripted b false o i=operate [o,i] (getItem o i)
def EI(X:Cx)(r:R2):Prop:=
 ∀(value a:Expr) (AO:O (A2×AF)) (s:A3) (σ:St) (H:Hp) (x y:V) (v u:A0) (Q:VK),AV X AO σ H s->B6 x v->B6 y u->r x y H Q →
  subscripted a false v u=operate [v,u] (getItem v u)->A8 (dl X) X.A (subscriptTail value a v u) (EP X AO σ Q) X.xe s
def MW(X:Cx)(id:String)(r:V->O V->Hp->VK->Prop):Prop:=
 ∀(AO:O (A2×AF)) (s:A3) (σ:St) (H:Hp) (x:V) (xs:O V) (v:A0) (us:O A0) (Q:VK),AV X AO σ H s->B6 x v->AY xs us->r x xs H Q →
  A8 (dl X) X.A (call (.builtin id) (v::us)) (EP X AO σ Q) X.xe s
section
variable{X:Cx}{a b:Expr}{ta tb:TE}
theorem EI.or{r b:R2}(h:EI X r)(h':EI X b):EI X (λx y H Q=>r x y H Q\/b x y H Q):=by
 intro value e AO s σ H x y v u Q I c f q a;rcases q with q|q
 ·exact h value e AO s σ H x y v u Q I c f q a
 ·exact h' value e AO s σ H x y v u Q I c f q a
theorem UV{r:R2}(g:EI X r)(f:PE X a ta)(k:PE X b tb)(hs:YL b):PE X (.Subscript a b pos) (Gc r ta tb):=by
 intro AO s σ H Q I h;exact Subscript_ (Iy f k I h λv u c x y H2 i e j q=>g a b AO c σ H2 x y v u Q i e j q (hs _ _))
def NJ(K:BA):R2:=λx y H Q=>∃p xs i v,x=.ref p/\y=.int i/\tH K H p xs/\Ib xs i=Z v/\Q v H
def Op(K:BA):R2:=λx y H Q=>∃p xs i v,x=.ref p/\y=.int i/\wM K H p xs/\Ib xs i=Z v/\Q v H
def Os:R2:=λx y H Q=>∃z i c,x=.str z/\y=.int i/\z.length<=AB/\Ib z.cps.toList i=Z c/\Q (.str ⟨#[c]⟩) H
theorem ml:EI X (NJ X.K):=by
 intro value D AO s σ H x y v u Q I k o h c;obtain⟨p,xs,i,z,rfl,rfl,n,A,q⟩:=h;cases k;obtain⟨t,rfl⟩:=o;obtain⟨AS,r,pl,E⟩:=I.list n;obtain⟨j,h1,h2,C,m,g⟩:=Qe A;obtain⟨w,b,l⟩:=r.get h2;have B:=r.length;have F:=Gg;have e:EP X AO σ Q w s:=⟨z,H,I,l,q⟩;by_cases f:0<=i
 ·have a:i.toNat=j:=by
   rw[seqIndex_of f g]at h1;exact Jn h1
  exact item_listR pl.isList f () (by rw[a];simpa using b) e c
 ·have a:(i+(AS.toArray.size:Int)).toNat=j:=by
   rw[seqIndex_neg () m]at h1;rw[zi,<-B];exact Jn h1
  exact subscriptTail_builtinR (x:=w) pl.isList.typeIs slot_list_getitem.lookup
   (wpAny_getItem_list_neg (Q:=λr s'=>r=w/\EP X AO σ Q r s') pl.isList () (by rw[zi]<;>omega) () (by rw[a];simpa using b) ⟨rfl,e⟩) c
theorem cr:EI X (Op X.K):=by
 intro value A AO s σ H x y v u Q I c k h b;obtain⟨p,xs,i,z,rfl,rfl,g,l,q⟩:=h;cases c;obtain⟨t,rfl⟩:=k;obtain⟨AS,r,pl,B⟩:=I.tuple g;obtain⟨j,h1,h2,o,C,n⟩:=Qe l;obtain⟨w,a,f⟩:=r.get h2;have m:=r.length;have D:=Gg;have e:EP X AO σ Q w s:=⟨z,H,I,f,q⟩;exact subscriptTail_builtinR (x:=w) pl.typeIs slot_tuple_getitem.lookup
  (getItem_tuple (j:=j) (Q:=λr s'=>r=w/\EP X AO σ Q r s') pl () () (by rw[zi,<-m];exact h1) (by simpa using a) ⟨rfl,e⟩) b
theorem ce:EI X Os:=by
 intro value o AO s σ H x y v u Q I e g h a;obtain⟨z,i,c,rfl,rfl,p,k,q⟩:=h;obtain⟨t,rfl⟩:=e;obtain⟨n,rfl⟩:=g;obtain⟨j,h1,h2,m,f,b⟩:=Qe k;have l:z.cps.toList.length=z.length:=by simp[Str.length]
 rw[l]at h1 f b;have w:=Gg;exact tail_any (typeIs_str s z t) slot_str_getitem.lookup (getItem_str (c:=c) (by
  have e1:decide (i < -(2 ^ 63:Int))=false:=z4 ();have e2:decide (i>=2 ^ 63)=false:=z4 ();rw[e1,e2,Bool.or_false]) (by rw[h1];simpa using h2) ⟨.str ⟨#[c]⟩,H,I.tok _,⟨_,rfl⟩,q⟩) a
def xB(K:BA):R2:=λx y H Q=>NJ K x y H Q\/Op K x y H Q\/Os x y H Q
theorem To:EI X (xB X.K):=ml.or (cr.or ce)
theorem AV.lst{σ:St}{H:Hp}{p:A2}{xs:O V}(I:AV X AO σ H s)(h:H p=Z (.lst xs)):
  ∃(AS:O A0) (n:Nat),AY xs AS/\s.heap.get? p=Z { cls:=.type "list",data:=.seq AS.toArray n }/\xs.length<=AB:=by
 obtain⟨z,AS,n,r,e⟩:=I.hok p _ h;exact⟨AS,n,r,e,z⟩
theorem Qf(lo hi:Y Int)(n:Nat):(sliceBounds lo hi Y3 n).1=((HT.jU n 0 lo:Nat):Int)/\(sliceBounds lo hi Y3 n).2.1=((HT.jU n n hi:Nat):Int)/\(sliceBounds lo hi Y3 n).2.2=1:=by
 refine⟨?_,?_,rfl⟩
 ·cases lo with
  |none=>simp[sliceBounds,HT.jU]
  |some i=>
   simp only[sliceBounds,HT.jU,rA,show(1:Int)>0 by decide,QP];by_cases h:i<0
   ·simp only[h,QP]<;>omega
   ·simp only[h,Qb]<;>omega
 ·cases hi with
  |none=>simp[sliceBounds,HT.jU]
  |some i=>
   simp only[sliceBounds,HT.jU,rA,show(1:Int)>0 by decide,QP];by_cases h:i<0
   ·simp only[h,QP]<;>omega
   ·simp only[h,Qb]<;>omega
theorem Mu(AS:O A0)(lo hi:Y Int):slicePick AS.toArray lo hi Y3=((AS.drop (HT.jU AS.length 0 lo)).take (HT.jU AS.length AS.length hi-HT.jU AS.length 0 lo)).toArray:=by
 obtain⟨h1,h2,a⟩:=Qf lo hi AS.toArray.size;unfold slicePick;rw[h1,h2,a];simp only[sliceRange_one,pick_run,zi]<;>rfl
def oe(K:BA):V->Y Int->Y Int->Hp->VK->Prop:=λx lo hi H Q=>∃a xs,x=.ref a/\tH K H a xs/\∀p,H p=Y3->Q (.ref p) (BD H p (.lst (Tq xs lo hi)))
theorem fF:IU X (oe X.K):=by
 intro AO s σ H x v m k lo hi sl Q I f e pl j h;obtain⟨a,xs,rfl,hx,q⟩:=h;cases f;obtain⟨AS,r,c,g⟩:=I.list hx;have i:=r.length;refine⟨"list", _,slot_list_getitem.lookup,c.isList.typeIs,?_⟩;refine wpAny_getItem_list_slice c.isList e pl j .none (by simp) ?_ (by rw[zi]<;>omega);rw[Mu,<-i];refine⟨.ref s.heap.objs.size,_,I.laid (t':=s.toks) (o:=.lst (Tq xs lo hi)) (λb l q=>zg _ q) (zo _) ?_,rfl,q _ (I.hok.fresh (zo _))⟩;exact⟨zl (G6 xs lo hi) g,_,0,(r.drop (HT.jU xs.length 0 lo)).take (HT.jU xs.length xs.length hi-HT.jU xs.length 0 lo),zD _ rfl⟩
def yq:V->Bool
 |.non=>true
 |.bl _=>true
 |.int _=>true
 |.str _=>true
 |_=>false
def EF:V->V->Bool
 |.non,.non=>true
 |.bl a,.bl b=>a==b
 |.bl a,.int b=>(if a then 1 else 0)==b
 |.int a,.bl b=>a==(if b then 1 else 0)
 |.int a,.int b=>a==b
 |.str a,.str b=>a==b
 |_,_=>false
theorem WE{y x:V}{v:A0}(f:B6 y u)(c:B6 x v)(fy:yq y=true)(fx:yq x=true):SeqAt.EqAt A s u v (EF y x):=by
 cases y with
 |non=>
  cases f;cases x with
  |non=>cases c;exact SeqAt.EqAt.same _
  |bl b=>cases c;exact SeqAt.EqAt.none_bool b
  |int b=>obtain⟨t,rfl⟩:=c;exact SeqAt.EqAt.none_int b t
  |str b=>obtain⟨t,rfl⟩:=c;exact SeqAt.EqAt.none_str b t
  |_=>exact absurd (show false=true from fx) zC
 |bl a=>
  cases f;cases x with
  |non=>cases c;exact SeqAt.EqAt.bool_none a
  |bl b=>cases c;exact SeqAt.EqAt.bool_bool a b
  |int b=>obtain⟨t,rfl⟩:=c;exact SeqAt.EqAt.bool_int a b t
  |str b=>obtain⟨t,rfl⟩:=c;exact SeqAt.EqAt.bool_str a b t
  |_=>exact absurd (show false=true from fx) zC
 |int a=>
  obtain⟨e,rfl⟩:=f;cases x with
  |non=>cases c;exact SeqAt.EqAt.int_none a e
  |bl b=>cases c;exact SeqAt.EqAt.int_bool a e b
  |int b=>obtain⟨t,rfl⟩:=c;exact SeqAt.EqAt.int_int a e b t
  |str b=>obtain⟨t,rfl⟩:=c;exact SeqAt.EqAt.int_str a e b t
  |_=>exact absurd (show false=true from fx) zC
 |str a=>
  obtain⟨e,rfl⟩:=f;cases x with
  |non=>cases c;exact SeqAt.EqAt.str_none a e
  |bl b=>cases c;exact SeqAt.EqAt.str_bool a e b
  |int b=>obtain⟨t,rfl⟩:=c;exact SeqAt.EqAt.str_int a e b t
  |str b=>obtain⟨t,rfl⟩:=c;exact SeqAt.EqAt.str_str a e b t
  |_=>exact absurd (show false=true from fx) zC
 |_=>exact absurd (show false=true from fy) zC
def WY(x:V)(u:A0):Bool:=match u with
 |.none=>EF .non x
 |.bool b=>EF (.bl b) x
 |.int i _=>EF (.int i) x
 |.str z _=>EF (.str z) x
 |_=>false
theorem NX{x y:V}(r:B6 y u)(f:yq y=true):WY x u=EF y x:=by
 cases y with
 |non=>cases r;rfl
 |bl b=>cases r;rfl
 |int i=>obtain⟨t,rfl⟩:=r;rfl
 |str z=>obtain⟨t,rfl⟩:=r;rfl
 |_=>exact absurd (show false=true from f) zC
theorem Dp{x:V}:∀{xs:O V} {us:O A0},AY xs us->xs.all yq=true->us.any (WY x)=xs.any λy=>EF y x
 |_,_,.nil,_=>rfl
 |y::xs,u::us,.cons r t,f=>by
  rw[ke,zS]at f;rw[iB,iB,NX r f.1,Dp t f.2]
theorem yL{A:A6}{s:A3}{x:V}{v:A0}(b:B6 x v)(fx:yq x=true):∀{xs:O V} {us:O A0},AY xs us->xs.all yq=true->∀u∈us,SeqAt.EqAt A s u v (WY x u)
 |_,_,.nil,_=>λu a=>by cases a
 |y::xs,u::us,.cons r t,f=>λc a=>by
  rw[ke,zS]at f;rcases ba.mp a with rfl|a
  ·rw[NX r f.1];exact WE r b f.1 fx
  ·exact yL b fx t f.2 c a
def Hm(x:V)(xs:O V):Bool:=xs.any λy=>EF y x
def Nd(K:BA)(a:Bool):R2:=λx y H Q=>∃p xs,y=.ref p/\(tH K H p xs\/wM K H p xs)/\yq x=true/\xs.all yq=true/\Q (.bl (if a then !Hm x xs else Hm x xs)) H
theorem U2:yE X (AH .In) (Nd X.K false):=by
 intro AO s σ H x y v u Q I c f h;obtain⟨p,xs,rfl,a,fx,fs,q⟩:=h;cases f;rcases a with a|a
 ·obtain⟨AS,r,pl,e⟩:=I.list a;refine SeqAt.in_listAt (WY x) pl.isList (λw b=>yL c fx r fs w (by simpa using b)) ⟨.bl _,H,I,rfl,?_⟩;rw[show AS.toArray.any (WY x)=AS.any (WY x) by simp,Dp r fs];exact q
 ·obtain⟨AS,r,pl,e⟩:=I.tuple a;refine SeqAt.in_tupleAt (WY x) pl (λw b=>yL c fx r fs w (by simpa using b)) ⟨.bl _,H,I,rfl,?_⟩;rw[show AS.toArray.any (WY x)=AS.any (WY x) by simp,Dp r fs];exact q
theorem Qg:yE X (AH .NotIn) (Nd X.K true):=by
 intro AO s σ H x y v u Q I c f h;obtain⟨p,xs,rfl,a,fx,fs,q⟩:=h;cases f;rcases a with a|a
 ·obtain⟨AS,r,pl,e⟩:=I.list a;refine SeqAt.notIn_listAt (WY x) pl.isList (λw b=>yL c fx r fs w (by simpa using b)) ⟨.bl _,H,I,rfl,?_⟩;rw[show AS.toArray.any (WY x)=AS.any (WY x) by simp,Dp r fs];exact q
 ·obtain⟨AS,r,pl,e⟩:=I.tuple a;refine SeqAt.notIn_tupleAt (WY x) pl (λw b=>yL c fx r fs w (by simpa using b)) ⟨.bl _,H,I,rfl,?_⟩;rw[show AS.toArray.any (WY x)=AS.any (WY x) by simp,Dp r fs];exact q
theorem Qh:yE X (AH .NotIn) (λx y H Q=>∃i j,x=.str i/\y=.str j/\Q (.bl (!(!(Builtin.Str.occurrences j i 0 j.length 1).isEmpty))) H):=by
 intro AO s σ H x y v u Q I b a h;obtain⟨i,j,rfl,rfl,q⟩:=h;obtain⟨t,rfl⟩:=b;obtain⟨c,rfl⟩:=a;exact notIn_str ⟨.bl _,H,I,rfl,q⟩
theorem Qi:iG X (.builtin "len") (λxs H Q=>∃p ys,xs=[.ref p]/\(tH X.K H p ys\/wM X.K H p ys)/\Q (.int ys.length) H):=by
 intro AO s σ H xs us Q I r h;obtain⟨p,ys,rfl,a,q⟩:=h;obtain⟨u,rfl,e⟩:=BG r;cases e;have g:=Gg;rcases a with a|a
 ·obtain⟨AS,b,pl,f⟩:=I.list a;have c:=b.length;exact Calls.call_len_list pl.isList (by simp only[zi]<;>omega) ⟨.int ys.length,H,I.tok _,⟨s.toks+1,by rw[zi,c]⟩,q⟩
 ·obtain⟨AS,b,pl,f⟩:=I.tuple a;have c:=b.length;exact len_tuple pl (by simp only[zi]<;>omega) ⟨.int ys.length,H,I.tok _,⟨s.toks+1,by rw[zi,c]⟩,q⟩
theorem Qj:iG X (.builtin "len") (λxs H Q=>∃z,xs=[.str z]/\z.length<=AB/\Q (.int z.length) H):=by
 intro AO s σ H xs us Q I r h;obtain⟨z,rfl,b,q⟩:=h;obtain⟨u,rfl,t,rfl⟩:=BG r;have a:=Gg;exact len_str () ⟨.int z.length,H,I.tok _,⟨_,rfl⟩,q⟩
theorem iG.or{f:A0}{r a:O V->Hp->VK->Prop}(h:iG X f r)(h':iG X f a):iG X f (λxs H Q=>r xs H Q\/a xs H Q):=by
 intro AO s σ H xs us Q I rs q;rcases q with q|q
 ·exact h AO s σ H xs us Q I rs q
 ·exact h' AO s σ H xs us Q I rs q
theorem Qk:iG X (.type "list") (λxs H Q=>∃p ys,xs=[.ref p]/\(tH X.K H p ys\/wM X.K H p ys)/\∀l,H l=Y3->Q (.ref l) (BD H l (.lst ys))):=by
 intro AO s σ H xs us Q I r h;obtain⟨p,ys,rfl,f,q⟩:=h;obtain⟨u,rfl,k⟩:=BG r;cases k;have j:∀(AS:O A0),AY ys AS->ys.length<=AB->∀(h':A7) (c':Nat),(∀b o',s.heap.get? b=Z o'->h'.get? b=Z o') →
   h'.get? s.heap.objs.size=Z { cls:=.type "list",dict:=Y3,data:=.seq AS.toArray c',slots:=#[] }->EP X AO σ Q (.ref s.heap.objs.size) { s with heap:=h' }:=λAS a c h' c' kp e=>
  ⟨.ref s.heap.objs.size,_,I.laid (t':=s.toks) kp (zo _) (show jx X.prog X.w _ h' _ (.lst ys) from⟨c,AS,c',a,e⟩),rfl,q _ (I.hok.fresh (zo _))⟩
 rcases f with f|f
 ·obtain⟨AS,a,pl,c⟩:=I.list f;have m:=a.length;obtain⟨o,i,g,n,hd⟩:=pl.isList;exact call_list_seq p (.inl Y2) i g hd (λh' c' kp e=>j AS a c h' c' kp e) (by simp only[zi]<;>omega)
 ·obtain⟨AS,a,pl,c⟩:=I.tuple f;have m:=a.length;obtain⟨o,i,g,n,hd⟩:=pl;exact call_list_seq p (.inr Y2) i g hd (λh' c' kp e=>j AS a c h' c' kp e) (by simp only[zi]<;>omega)
theorem Mv:iG X (.type "tuple") (λxs H Q=>∃p ys,xs=[.ref p]/\((tH X.K H p ys/\∀l,H l=Y3->Q (.ref l) (BD H l (.tup ys)))\/(wM X.K H p ys/\Q (.ref p) H))):=by
 intro AO s σ H xs us Q I r h;obtain⟨p,ys,rfl,h⟩:=h;obtain⟨u,rfl,i⟩:=BG r;cases i;rcases h with⟨c,q⟩|⟨c,q⟩
 ·obtain⟨AS,a,pl,g⟩:=I.list c;have k:=a.length;refine call_tuple_list pl.isList (λh' kp=>?_) (by simp only[zi]<;>omega);have f:AV X AO σ H { s with heap:=h' }:=I.kept (t':=s.toks) kp;have j:AV X AO σ (BD H h'.objs.size (.tup ys)) { s with heap:=h'.push { cls:=.type "tuple",data:=.seq AS.toArray } }:=
   f.laid (t':=s.toks) (λb o e=>zg _ e) (zo _) (show jx X.prog X.w _ _ _ (.tup ys) from⟨g,AS,a,rK.new _ _⟩)
  exact⟨.ref h'.objs.size,_,j,rfl,q _ (f.hok.fresh (zo _))⟩
 ·obtain⟨AS,a,pl,g⟩:=I.tuple c;exact call_tuple_same pl ⟨.ref p,H,I,rfl,q⟩
def NO(K:BA)(T:String)(x:V)(H:Hp):Prop:=match x with
 |.str _=>T ="str"
 |.int _=>T ="int"
 |.ref p=>(T ="list" ∧ ∃xs,tH K H p xs)\/(T ="tuple" ∧ ∃o,K.lookup p=Z o/\o.cls=.type "tuple" ∧ o.dict=Y3) ∨
   (T ="dict" ∧ ((∃AQ,H p=Z (.dK AQ))\/∃AQ,H p=Z (.dT AQ)))\/(T ="set" ∧ ∃S n,H p=Z (.set S n))
 |_=>False
theorem UK{σ:St}{H:Hp}{T:String}{x:V}{v:A0}(I:AV X AO σ H s)(r:B6 x v)(ty:NO X.K T x H):
  s.TypeIs v T/\∀a,v=.ref a->∃b,s.heap.get? a=Z b/\b.dict=Y3:=by
 cases x with
 |str z=>
  obtain⟨t,rfl⟩:=r;cases(show T ="str" from ty);exact⟨typeIs_str s z t,λ_ e=>nomatch e⟩
 |int i=>
  obtain⟨t,rfl⟩:=r;cases(show T ="int" from ty);exact⟨typeIs_int s i t,λ_ e=>nomatch e⟩
 |ref p=>
  cases r;rcases ty with⟨rfl,xs,f⟩|⟨rfl,o,hk,g,hd⟩|⟨rfl,hk⟩|⟨rfl,S,n,hk⟩
  ·obtain⟨AS,_,pl,_⟩:=I.list f;refine⟨pl.isList.typeIs,λa e=>?_⟩;cases e;obtain⟨o,n,e,c,hd,_⟩:=pl;exact⟨o,e,hd⟩
  ·refine⟨⟨o,I.kIn p o hk,g⟩,λa e=>?_⟩;cases e;exact⟨o,I.kIn _ o hk,hd⟩
  ·have z:∃o,s.heap.get? p=Z o/\o.ExactDict:=by
    rcases hk with⟨AQ,hk⟩|⟨AQ,hk⟩
    ·obtain⟨_,_,_,_,o,_,_,e,ex,_⟩:=I.hok p _ hk;exact⟨o,e,ex⟩
    ·obtain⟨_,_,_,_,o,_,_,e,ex,_⟩:=I.hok p _ hk;exact⟨o,e,ex⟩
   obtain⟨o,e,ex⟩:=z;refine⟨⟨o,e,ex.1⟩,λa e2=>?_⟩;cases e2;exact⟨o,e,ex.2.1⟩
  ·obtain⟨o,_,_,_,e,ex,_⟩:=I.hok p _ hk;refine⟨⟨o,e,ex.1⟩,λa e2=>?_⟩;cases e2;exact⟨o,e,ex.2.1⟩
 |_=>exact False.elim ty
def iS(K:BA)(T:String)(r:V->O V->Hp->VK->Prop)(to:TE)(t:TA):TE:=λσ H Q=>to σ H λx H1=>NO K T x H1/\t σ H1 λxs H2=>r x xs H2 Q
variable{o:Expr}{to:TE}{t:TA}{T id:String}{r:V->O V->Hp->VK->Prop}
theorem YM(pa:PlainAttrs T)(c:Slot T name id)(l:typeOf (.builtin id)=pure (.type "method_descriptor"))(f:MW X id r)(m:PE X o to)(g:PA X (e::es) t)
  (j:attributeBase o name X.env (eval o X.env)=eval o X.env:=by rfl)
  (i:((AE cpos (AA (e::es) X.env)).all (λx=>!x.1)&&(backToKw cpos (keywordEach [] X.env)).all (λx=>x.1.isSome)
   && decide ((e::es).length+([]:O AD).length+(if([]:O AD).isEmpty then 0 else 1)<30))=true:=by rfl)
  (k:(apos.endLine==cpos.line)=true:=by rfl) (hs:AA (e::es) X.env=(false,eval e X.env)::AA es X.env:=by rfl) (b:(AE cpos (AA es X.env)).any (·.1)=false:=by rfl):
  PE X (.Call (.Attribute o name apos) (e::es) [] cpos) (iS X.K T r to t):=by
 intro AO s σ H Q I h;refine wpAny_Call_method_late j i k Y2 (jQ (m AO s σ H _ I h) λv s1 ⟨x,H1,I1,r1,ty,q1⟩=>?_);obtain⟨h1,h2⟩:=UK I1 r1 ty;refine⟨T,id,pa,c,l,h1,h2,?_⟩;have a:=g cpos AO s1 σ H1 _ I1 q1;rw[hs]at a ⊢;refine Calls.callWith_builtin (by show(false||(AE cpos (AA es X.env)).any (·.1))=false;rw[b]<;>rfl) (Calls.evalArgs_plain ?_);exact jQ a λus s2 ⟨vs,H2,I2,r2,q2⟩=>f AO s2 σ H2 x vs v us Q I2 r1 r2 q2
end
end L2
namespace L2
def NU(X:Cx)(id:String)(r:V->O V->Hp->VK->Prop):Prop:=
 ∀(AO:O (A2×AF)) (s:A3) (σ:St) (H:Hp) (x:V) (xs:O V) (v:A0) (us:O A0) (Q:VK),AV X AO σ H s->B6 x v->AY xs us->r x xs H Q →
  A8 (dl X) X.A (call (.builtin id) (v::us)) (EP X AO σ Q) X.xe s
theorem AY.one:∀{x:V} {us:O A0},AY [x] us->∃u,us=[u]/\B6 x u:=λh=>by
 cases h with
 |cons r t=>cases t;exact⟨_,rfl,r⟩
theorem AY.two:∀{x y:V} {us:O A0},AY [x,y] us->∃u v,us=[u,v]/\B6 x u/\B6 y v:=λh=>by
 cases h with
 |cons r t=>
  cases t with
  |cons q t=>cases t;exact⟨_,_,rfl,r,q⟩
section
variable{X:Cx}{σ:St}{H:Hp}{b:A2}{xs ys zs:O V}
theorem AV.ab0{its':O A0}{f:Array A0->Array A0}{t':Nat}(I:AV X AO σ H s)(g:H l=Z (.lst xs))(e:s.heap.get? l=Z { cls:=.type "list",data:=.seq AS.toArray n })(i:f AS.toArray=its'.toArray)(c:AY ys its')(b:ys.length<=AB):
  AV X AO σ (BD H l (.lst ys)) { s with heap:=s.heap.update l (Obj.mapSeq f),toks:=t' }:=by
 have q:=PySem.IsL.update e f;rw[i]at q;refine I.write (x:=l) (e:=l) (by rw[g];exact trivial) (.inl Y2) (λj u a h=>(Heap.get?_update_other s.heap (Obj.mapSeq f) (k9 a)).trans h) ⟨_,q⟩ ?_;exact⟨b,its',_,c,q⟩
theorem AV.afs(I:AV X AO σ H s)(a:H l=Z (.lst xs)):xs.length<=AB/\∃(AS:O A0) (n:Nat),AY xs AS/\xs.length=AS.length/\s.heap.get? l=Z { cls:=.type "list",data:=.seq AS.toArray n }:=by
 obtain⟨z,AS,n,r,e⟩:=I.hok l _ a;exact⟨z,AS,n,r,r.length,e⟩
theorem pi(h:n<=AB):Builtin.List.listTooLong n=false:=by
 unfold Builtin.List.listTooLong;exact z4 ()
end
section
variable{X:Cx}
def YY:V->O V->Hp->VK->Prop:=λx vs H Q=>∃l xs y,x=.ref l/\vs=[y]/\H l=Z (.lst xs)/\xs.length<AB/\Q .non (BD H l (.lst (xs++[y])))
theorem N7:NU X "list.append" YY:=by
 intro AO s σ H x vs v us Q I b c h;obtain⟨l,xs,y,rfl,rfl,a,g,q⟩:=h;cases b;obtain⟨u,rfl,f⟩:=c.one;obtain⟨z,AS,n,r,i,e⟩:=I.afs a;refine call_meets F.slot_list_append ⟨_,e,rfl⟩ F.entry_list_append (F.args_list_append_2 _ _) (PySem.list_append l AS.toArray n u (by rw[zi];omega)) ⟨e,?_⟩;refine⟨.non,_,I.ab0 (its':=AS++[u]) a e (by simp) (r.append (.cons f .nil)) ?_,rfl,q⟩;rw[zt,ku];omega
end
section
variable{X:Cx}
end
end L2
namespace L2
section
variable [DecidableEq κ]
end
theorem oy{k:AZ}(r:B6 (kV k) u):(nC P w).is k u=true:=by
 cases k with
 |inl i=>obtain⟨t,e⟩:=(show ∃t,u=Value.int i t from r);subst e;exact Te P w i t
 |inr x=>obtain⟨t,e⟩:=(show ∃t,u=Value.str x t from r);subst e;exact Tf P w x t
section
variable{H:Hp}
theorem pS{u:HO}(ok:G5 P w H h)(e:Rd H a u):jx P w H h a u:=e.ok ok
theorem N8{AQ:O (AZ×V)}(ok:G5 P w H h)(e:Rd H a (.dK AQ)):AQ.length<=AB/\(a==sysModules)=false/\∃vs,KV AQ vs/\h.DictOf (nC P w) a vs:=
 show jx P w H h a (.dK AQ) from pS ok e
end
section
variable{X:Cx}{σ:St}{H:Hp}{y v:V}{r:A0}{o:Y V}
end
section
variable{X:Cx}{σ:St}{H:Hp}{AQ:O (AZ×V)}{k:AZ}
end
section
variable{X:Cx}{o i value:Expr}{pos':Pos}{td ty tv:TE}
end
section
variable{X:Cx}
end
structure M1 (X:Cx) (o:Expr) (m:Str) (apos:Pos) (e:Expr) (cpos:Pos):Prop where
 base:attributeBase o m X.env (eval o X.env)=eval o X.env
 few:((backTo cpos (starEach [e] X.env)).all (λx=>!x.1)&&(backToKw cpos (keywordEach [] X.env)).all (λx=>x.1.isSome)
  && decide (([e]:List Expr).length+([]:List Keyword).length+(if([]:List Keyword).isEmpty then 0 else 1)<30))=true
 line:(apos.endLine==cpos.line)=true
 trees:backTo cpos (starEach [e] X.env)=[(false,eval e X.env)]
structure M2 (X:Cx) (o:Expr) (m:Str) (apos:Pos) (e f:Expr) (cpos:Pos):Prop where
 base:attributeBase o m X.env (eval o X.env)=eval o X.env
 few:((backTo cpos (starEach [e,f] X.env)).all (λx=>!x.1)&&(backToKw cpos (keywordEach [] X.env)).all (λx=>x.1.isSome)
  && decide (([e,f]:List Expr).length+([]:List Keyword).length+(if([]:List Keyword).isEmpty then 0 else 1)<30))=true
 line:(apos.endLine==cpos.line)=true
 trees:backTo cpos (starEach [e,f] X.env)=[(false,eval e X.env),(false,eval f X.env)]
section
variable{X:Cx}{σ:St}{H:Hp}{y d:V}{r:A0}{o:Y V}
end
section
variable{X:Cx}{o f:Expr}{td ty tx:TE}
end
section
variable{X:Cx}{σ:St}{H:Hp}{AQ:O (AZ×V)}
end
section
variable{X:Cx}{σ:St}{H:Hp}{y:V}
end
end L2
namespace Att
open PySem PySem.W PySem.Calls PyProof.Rows
theorem Ie{P:Params}:∀(c:O Int) (vs:O A0),WellAll P h vs (c.map WData.int)->IntsAre vs c:=by
 intro c
 induction c with
 |nil=>
  intro vs w;rw[kH]at w;cases w;exact .nil
 |cons n c e=>
  intro vs w;rw[zw]at w;cases w with
  |cons a b=>
   cases a;exact .cons _ _ (e _ b)
theorem tS{l:OpenLaw}(v:l.most=Z n){P:Params}{args:O WData}{f:O A0}(i:l.row.toRowW.claim.pre args=true)(p:WellAll P h f args):
  ∃a vs b,f=[Value.ref a]/\args=[WData.list (b.map WData.int)]/\h.get? a=Z { cls:=.type "list",data:=.seq vs.toArray }/\IntsAre vs b/\b.length<=n:=by
 have m:WShape.hasAll [] args [.list .int]=true:=(pre_splitW i).1;have g:l.pre.holds [] { args:=args }=true:=(pre_splitW i).2;obtain⟨d,r,rfl,h1,h2⟩:=hasAllW_cons m;obtain rfl:=hasAllW_nil h2;obtain⟨xs,rfl,j⟩:=hasW_list h1;obtain⟨b,rfl⟩:=items_int j;have w:b.length<=n:=by
  unfold OpenLaw.pre at g;have e:(WTm.not (.lt (.lit (.int (n:Int))) (.len (.arg 0)))).holds [] { args:=[.list (b.map .int)] }=true:=by
   have e:=(holds_andW g).1;rw[v]at e;exact e
  have c:=condW_of e (w_not (w_lt w_lit (w_len_list (w_arg Y2))));rw[zd]at c;refine k0 λq=>?_;have k:(n:Int)<((b.length:Nat):Int):=by omega
  first
   |(rw[zz k]at c;exact absurd c ())
   |(simp at c;omega)
 cases p with
 |cons s u=>
  cases u;cases s with
  |list o t=>exact⟨_,_,b,rfl,rfl,o,Ie b _ t,w⟩
theorem af(l:OpenLaw)(args:O WData):l.row.toRowW.claim.post args (.bool true) args=true:=
 postW_of (r:=l.row.toRowW) (X:=(true==true))
  (show WShape.has [] (.bool true) .bool=true by first|rfl|decide|simp[WShape.has,WShape.arms,WShape.armsAll])
  (show(WTm.eq .res (.lit (.bool true))).value [] { args:=args,res:=Z (.bool true),after:=args }=Z (.bool (true==true)) from w_eq_bool (w_res Y2) w_lit) rfl
theorem Tr{l:OpenLaw}{q:A4}{loose:B5}{d:DefRec}(s:l.most=Z n)(A:d.params.defaults=[])(call:∀(w:A5) (g b:A3) (mg h:AK->Option A0) (fa:A2) (o:AF) (pm e i:A0) (a:A2) (vs:O A0) (c:O Int),
   Ground q loose [] XP w g mg h b.heap->YP w b.heap →
   b.heap.get? fa=Z o->o.data=.func (docDef d.name d.params d.body d.scope pm e i)->b.heap.CodeRec e d.name->mg d.name=Z (.ref fa) →
   b.heap.get? a=Z { cls:=.type "list",data:=.seq vs.toArray }->IntsAre vs c->c.length<=n->b.gens=#[] →
   AG (A9 l.prog w) callerA (.call (.ref fa) ⟨[.ref a],[]⟩) (λr s'=>r=.ok (.ret (.bool true))/\OldK b.heap s'.heap/\s'.os=b.os/\AllBare s'.gens) b):
  WalkO q loose XP YP l.row.toRowW d [] (λf vs=>PySem.call f vs):=by
 intro w g b mg h G Y fa o pm e i t kV x hd D j z u L H as p J K F I;obtain rfl:t=.none:=Dflts.none j A;obtain rfl:kV=.none:=Dflts.noKw j;obtain⟨a,vs,c,rfl,rfl,E,C,y⟩:=tS s p F;refine enter_call (codeAny_mono (call w g b mg h fa o pm e i a vs c G Y x (fd_plain hd) D z E C y u) λr s' m=>?_);obtain⟨rfl,h2,B,v⟩:=m;exact⟨.inl ⟨.bool true,.bool true,[],rfl,λ_=>Y2,.bool true,af l _,λ_=>⟨List.Pairwise.nil,λ_ k=>(nomatch k)⟩⟩,h2,B,v⟩
section
variable{K:Frag}
end
end Att
namespace L2
theorem zZ:∀{vs:O A0} {a:O Int},IntsAre vs a->AY (a.map V.int) vs
 |_,_,.nil=>.nil
 |_,_,.cons n t h=>.cons ⟨t,rfl⟩ (zZ h)
def DC(H:Hp):Prop:=∀b,H b=Y3\/(∃o xs,H b=Z (.qG o (.lst xs)))\/∃ps,H b=Z (.PN ps)
structure Fn (K:BA) (h:Heap) (TL:List (Addr×Array Value)):Prop where
 all:∀P q,Lm K P q->∃ps,TL.lookup P=some ps/\tq ps=q/\0<ps.size
 ok:∀P ps,TL.lookup P=some ps->K.lookup P=none/\h.get? P=some { cls:=.none,data:=.fields #[] }/\isCodeTable h P/\tr ps=#[]
theorem eR{E:AK->Y A0}{CX:D7}{fa:A2}{sp:Sp}{c:A3}{vs:O A0}{A:O Int}{f:O (A2×Array A0)}(U:K.In c.heap)(a1:c.heap.Ns mainGlobals mg)(i:c.heap.Ns builtinsNs E)(a4:∀x:AK,x ≠ "__name__" → E x=AI x)(a7:c.heap.NoLimit)(a3:∃p j,mg "__builtins__"=Z (.ref p)/\p≠builtinsNs/\c.heap.get? p=Z j/\j.cls=.type "module" ∧ j.dict=Z builtinsNs/\j.data=.plain)(hg:c.gens=#[])(t:c.heap.get? a=Z { cls:=.type "list",data:=.seq vs.toArray })(hi:IntsAre vs A)(X:A.length<=AB)(hr:lK k callerA)(F:∀base:A7,K.In base->base.Ns mainGlobals mg->Cg P w K mg base CX k fa fd [x] sp)(a6:∀(s:A3) (u:A0),BindsTo s fd ⟨[u],[]⟩ [(x,u)])(a5:∀H:Hp,DC H->tH K H a (A.map V.int)->sp [.ref a] H (λv _=>v=.bl true) λ_ _ _=>False)(d0:∀H e s',CX [] H c (λ_ _ _=>False) e s'->False)(T:Fn K c.heap f):
  AG (A9 P w) callerA (.call (.ref fa) ⟨[.ref a],[]⟩) (λr s'=>r=.ok (.ret (.bool true))/\OldK c.heap s'.heap/\s'.os=c.os/\AllBare s'.gens) c:=by
 have W:=zZ hi;have c0:=hi.length;have Q:f.lookup a=Y3:=by
  cases e:f.lookup a with
  |none=>rfl
  |some ps=>
   have q:=(T.ok a ps e).2.1;rw[t]at q;cases q
 have tok:∀(H:Hp) (b:A2) (ps:Array A0),f.lookup b=Z ps->jx P w H c.heap b (.PN ps):=λH b ps e=>by
  obtain⟨_,g,_,z⟩:=T.ok b ps e;refine⟨#[],by rw[z];exact g,?_,λpos cv q=>?_⟩
  ·rw[z];simp[TriplesOk]
  ·rw[z]at q;cases q
 have M:∀H:Hp,DC H->tH K H a (A.map V.int)->G5 P w H c.heap->(∀b,H b≠Y3->b=a\/∃ps,f.lookup b=Z ps)->(∀b ps,f.lookup b=Z ps->H b=Z (.PN ps))->(H a≠Y3->K.lookup a=Y3) →
   AG (A9 P w) callerA (.call (.ref fa) ⟨[.ref a],[]⟩) (λr s'=>r=.ok (.ret (.bool true))/\OldK c.heap s'.heap/\s'.os=c.os/\AllBare s'.gens) c:=by
  intro H L hS D C c4 hK;have G:∀{b:A2} {o:AF},c.heap.get? b=Z o->H b=Y3->(PX c.heap H).get? b=Z o:=λe n=>XI e n;have b0:∀{b:A2} {o:AF} {es:Array DictEntry} {ep:Nat},c.heap.get? b=Z o->o.data=.dict es ep->H b=Y3:=λ{b o es ep} e d=>by
   cases q:H b with
   |none=>rfl
   |some u=>
    rcases C b (by rw[q];simp)with e'|⟨ps,e'⟩
    ·subst e';rw[t]at e;cases e;have d':Data.seq vs.toArray _=Data.dict es ep:=d;cases d'
    ·rw[(T.ok b ps e').2.1]at e;cases e;cases d
  have B:∀{b:A2} {m:AK->Y A0},c.heap.Ns b m->(PX c.heap H).Ns b m:=λ{b m} ⟨o,es,ep,e,d,r⟩=>⟨o,es,ep,G e (b0 e d),d,r⟩;have J:K.In (PX c.heap H):=λb o e=>G (U b o e) (by
   cases q:H b with
   |none=>rfl
   |some u=>
    rcases C b (by rw[q];simp)with e'|⟨ps,e'⟩
    ·subst e';rw[hK (by rw[q];simp)]at e;cases e
    ·rw[(T.ok b ps e').1]at e;cases e)
  have hM:Mod K mg (PX c.heap H):=⟨J,B a1,⟨E,B i,a4⟩,let ⟨mc,h1,h2⟩:=a7;⟨mc,B h1,h2⟩,let ⟨p,j,b1,b2,b3,b4,b5,b6⟩:=a3;⟨p,j,b1,b2,G b3 (by
   cases q:H p with
   |none=>rfl
   |some u=>
    rcases C p (by rw[q];simp)with e'|⟨ps,e'⟩
    ·subst e';rw[t]at b3;cases b3;injection b4 with z;exact absurd z ()
    ·rw[(T.ok p ps e').2.1]at b3;cases b3;cases b4),b4,b5,b6⟩⟩
  have e0:IS P w K mg (PX c.heap H) callerA [] c H:=⟨rfl,hM,λb o e=>d4 e,ye (VC _ _),trivial,λb i=>absurd (show b∈([]:O A2) from i) (by simp),D,.of_eq hg,λP q k=>by
   obtain⟨ps,l,r⟩:=T.all P q k;exact⟨ps,c4 P ps l,r⟩⟩
  refine codeAny_mono ((F _ J (B a1)).run callerA [] c H ⟨[.ref a],[]⟩ [.ref a] [.ref a] _ _ hr e0 (a6 c (.ref a)) (.cons Y2 .nil) (a5 H L hS)) λr s' h=>?_;cases r with
  |error e=>exact(d0 H e s' h).elim
  |ok fl=>
   cases fl with
   |next=>exact False.elim h
   |brk=>exact False.elim h
   |cont=>exact False.elim h
   |ret u=>
    obtain⟨v,H',os,c5,un,I,r',q⟩:=h;have q':v=.bl true:=q;subst q';obtain rfl:u=Value.bool true:=r';have S:∀b o,c.heap.get? b=Z o->s'.heap.get? b=Z o\/(isCodeTable c.heap b/\o.cls=.none/\∃vs N,o.data=.fields vs/\s'.heap.get? b=Z { o with data:=.fields (vs++N) }):=λb o e=>by
     cases q:H b with
     |none=>exact .inl (un.keep b o e q (by intro z;exact absurd (show b∈([]:O A2) from z) (by simp)) (by simp))
     |some u=>
      rcases L b with z|⟨j,xs,z⟩|⟨ps,z⟩
      ·rw[q]at z;cases z
      ·have z2:=un.HY b j _ z;obtain⟨e1,_⟩:=D b _ z;obtain⟨e2,_⟩:=I b _ z2;rw[e]at e1;cases e1;exact .inl e2
      ·rcases C b (by rw[q];simp)with e'|⟨a2,e'⟩
       ·subst e';obtain⟨N,g,_⟩:=D b _ z;rw[t]at g;cases g
       ·obtain⟨_,g,ct,_⟩:=T.ok b a2 e';rw[e]at g;cases g;obtain⟨m1,z2⟩:=un.Ce b ps z;obtain⟨m2,g2,_⟩:=I b _ z2;exact .inr ⟨ct,rfl,#[],_,rfl,by rw[g2,Array.empty_append]⟩
    refine⟨rfl,⟨λb o e=>(S b o e).imp id .inl,λb o e=>?_⟩,os,c5⟩;rcases S b o e with z|⟨_,_,_,_,_,z⟩<;>exact⟨_,z⟩
 cases hk:K.lookup a with
 |some o=>
  have e:=U a o hk;rw[t]at e;cases e;refine M (λb=>(f.lookup b).map .PN) (λb=>?_) (.inr ⟨_,vs.toArray,_,hk,rfl,rfl,rfl,by rw[zi,c0];exact X,by simpa using W⟩) (λb u z=>?_) (λb z=>?_) (λb ps e=>by show(f.lookup b).map _=_;rw[e];rfl) λz=>absurd (by show(f.lookup a).map _=Y3;rw[Q];rfl) z
  ·cases e:f.lookup b with
   |none=>exact .inl (by show(f.lookup b).map HO.PN=Y3;rw[e];rfl)
   |some ps=>exact .inr (.inr ⟨ps,by show(f.lookup b).map HO.PN=_;rw[e];rfl⟩)
  ·have z:(f.lookup b).map HO.PN=Z u:=z;cases e:f.lookup b with
   |none=>rw[e]at z;cases z
   |some ps=>rw[e]at z;cases z;exact tok _ b ps e
  ·cases e:f.lookup b with
   |none=>exact absurd (by show(f.lookup b).map HO.PN=Y3;rw[e];rfl) z
   |some ps=>exact .inr ⟨ps,rfl⟩
 |none=>
  refine M (λb=>if b=a then Z (.qG { cls:=.type "list",data:=.seq vs.toArray } (.lst (A.map V.int)))else(f.lookup b).map .PN) (λb=>?_) (.inl (.inr ⟨{ cls:=.type "list",data:=.seq vs.toArray },zh rfl⟩)) (λb u z=>?_) (λb z=>?_) (λb ps e=>?_) λ_=>hk
  ·by_cases i:b=a
   ·exact .inr (.inl ⟨_,_,zh i⟩)
   ·cases e:f.lookup b with
    |none=>exact .inl ((zv i).trans (by rw[e];rfl))
    |some ps=>exact .inr (.inr ⟨ps,(zv i).trans (by rw[e];rfl)⟩)
  ·by_cases i:b=a
   ·have y:=(zh i).symm.trans z;cases y;subst i;exact⟨t,by rw[zd];exact X,vs,_,W,t⟩
   ·have y:=(zv i).symm.trans z;cases e:f.lookup b with
    |none=>rw[e]at y;cases y
    |some ps=>rw[e]at y;cases y;exact tok _ b ps e
  ·by_cases i:b=a
   ·exact .inl i
   ·cases e:f.lookup b with
    |none=>exact absurd ((zv i).trans (by rw[e];rfl)) z
    |some ps=>exact .inr ⟨ps,rfl⟩
  ·have i:b≠a:=λz=>by rw[z,Q]at e;cases e
   exact(zv i).trans (by rw[e];rfl)
end L2
namespace L2
theorem rj{l:PySem.W.OpenLaw}{q:A4}{loose:B5}{d:DefRec}{K:Params->BA}{CX:A5->D7}{sp:A5->Sp}(z:l.most=Z n)(I:n<=AB)(M:d.params.defaults=[])(N:lK k callerA)(E:∀(w:A5) (h:A7),YP w h->(K w.params).In h)(F:∀(w:A5) (mg:AK->Option A0) (fa:A2) (h:A7),(K w.params).In h->h.Ns mainGlobals mg->mg d.name=Z (.ref fa) →
   ∃fd:FuncData,(∀(s:A3) (u:A0),BindsTo s fd ⟨[u],[]⟩ [(x,u)]) ∧
    ∀base:A7,(K w.params).In base->base.Ns mainGlobals mg->Cg l.prog w (K w.params) mg base (CX w) k fa fd [x] (sp w))(D:∀(w:A5) (H:Hp) (a:A2) (c:O Int),c.length<=n->DC H->tH (K w.params) H a (c.map V.int)->sp w [.ref a] H (λv _=>v=.bl true) λ_ _ _=>False)(U:∀(w:A5) (H:Hp) (s:A3) (e:A0) (s':A3),CX w [] H s (λ_ _ _=>False) e s'->False)(X:∀(w:A5) (h:A7) (mg m:AK->Option A0) (B:ExcName->Option A0) (y:B5),(K w.params).In h->Top q y B mg m h->∃p,Fn (K w.params) h p):
  PySem.W.WalkO q loose XP YP l.row.toRowW d [] (λf vs=>PySem.call f vs):=by
 refine Att.Tr z M λw a1 L mg m fa o pm cd a2 a vs c G Y ho hd a3 J S Q j A=>?_;have i:=E w _ Y;obtain⟨fd,hb,C⟩:=F w mg fa _ i G.T.g J;obtain⟨p,tl⟩:=X w _ _ _ _ _ i G.T;exact eR i G.T.g G.T.b G.T.builtins G.T.nolimit G.T.bmain A S Q (zl j I) N C hb (λH t P=>D w H a c j t P) (λH e s'=>U w H L e s') tl
theorem W1{l:PySem.W.OpenLaw}{q:A4}{loose:B5}{d:DefRec}{K:Params->BA}{CX:D7}{sp:BA->Sp}(A:l.most=Z n)(z:n<=AB)(i:d.params.defaults=[])(m:lK k callerA)(t:∀(w:A5) (h:A7),YP w h->(K w.params).In h)(F:∀(w:A5) (mg:AK->Y A0) (fa:A2) (h:A7),(K w.params).In h->h.Ns mainGlobals mg->mg d.name=Z (.ref fa) →
   ∃fd:FuncData,(∀(s:A3) (u:A0),BindsTo s fd ⟨[u],[]⟩ [(x,u)]) ∧
    ∀base:A7,(K w.params).In base->base.Ns mainGlobals mg->Cg l.prog w (K w.params) mg base CX k fa fd [x] (sp (K w.params)))(o:∀(K:BA) (H:Hp) (a:A2) (b:O Int),b.length<=n->DC H->tH K H a (b.map V.int)->sp K [.ref a] H (λv _=>v=.bl true) λ_ _ _=>False)(B:∀(H:Hp) (s:A3) (e:A0) (s':A3),CX [] H s (λ_ _ _=>False) e s'->False)(C:∀(w:A5) (h:A7) (mg j:AK->Y A0) (g:ExcName->Y A0) (y:B5),(K w.params).In h->Top q y g mg j h->∃p,Fn (K w.params) h p):
  PySem.W.WalkO q loose XP YP l.row.toRowW d [] (λf vs=>PySem.call f vs):=
 rj (K:=K) (CX:=λ_=>CX) (sp:=λw=>sp (K w.params)) A z i m t F (λw H a b h1 h2 c=>o (K w.params) H a b h1 h2 c) (λ_ H s e s'=>B H s e s') C
end L2
namespace L2
def wQ(s:AC):Arguments:=match s with
 |.FunctionDef _ a _ _ _ _ _ _ _ _=>a
 |_=>{ posonlyargs:=[],args:=[],vararg:=Y3,kwonlyargs:=[],kw_defaults:=[],kwarg:=Y3,defaults:=[] }
def kE(s:AC):O AC:=match s with
 |.FunctionDef _ _ b _ _ _ _ _ _ _=>b
 |_=>[]
def aJ(s:AC):Scope:=match s with
 |.FunctionDef _ _ _ _ _ _ a _ _ _=>a
 |_=>{ kind:=.function,names:=[],isGenerator:=false,isCoroutine:=false }
abbrev Tt:D7:=λ_ _ _ _ _ _=>False
abbrev E0:XK:=λ_ _ _=>False
theorem UY{X:Cx}:CY Tt X E0:=λ_ _ _ _ _ _ _ h=>h.elim
structure DS (K:BA) (x qual:Str) (st:Stmt) (f:Addr) (fd:FuncData):Prop where
 ex:∃(oc:Value) (od:Option Addr) (kV doc pm:Value) (an:Option Addr) (cdv ct:Value) (osl:Array (Option Value)),
  fd=fnOf x qual (wQ st) (kE st) (aJ st) .none kV doc pm an cdv ct/\K.lookup f=some ⟨oc,od,.func fd,osl⟩/\codeIn K cdv qual=true
 kp:keepIn K (.ref f)=true
theorem DS.ok{f:A2}{sp:Sp}(F:DS K x qual st f fd)(S:aW N ps (aJ st))(len:∀vs H Q E,sp vs H Q E->vs.length=ps.length)(i:∀(a:A0) (A:A6) (outer:O Env) (s:A3) (H:Hp) (vs:O V) (Q:VK) (E:XK),lK k (A.deeper (AL qual (aJ st) s.heap.objs.size f a))->sp vs H Q E →
   ∃t,NQ (Jy Tt P w K mg base N qual (aJ st) f a A outer s H E).nox (kE st) t/\t { nx:=λ_ H'=>Q .non H',rt:=Q } (start N vs) H):Cg P w K mg base Tt (k+1) f fd ps sp:=by
 obtain⟨m,j,kV,n,pm,l,a,ct,osl,rfl,g,b⟩:=F.ex;refine OG g b S len λA outer s H vs Q E c e=>?_;obtain⟨t,h,q⟩:=i a A outer s H vs Q E c e;exact⟨t,h.nox,q⟩
theorem DS.binds{f:A2}(F:DS K x qual st f fd)(h:∀(kV c pm:A0) (b:Y A2) (a ct:A0) (us:O A0),us.length=ps.length->bindArgs (fnOf x qual (wQ st) (kE st) (aJ st) .none kV c pm b a ct) ⟨us,[]⟩=pure (ps.zip us)):Bn K fd ps []:=by
 obtain⟨i,e,kV,c,pm,b,a,ct,osl,rfl,j,g⟩:=F.ex;exact .all (h kV c pm b a ct)
theorem PD{f:A2}{h:A0}{g b:Y A2}{kV e pm a ct:A0}(l:K.lookup f=Z ⟨h,g,.func (fnOf x qual (wQ st) (kE st) (aJ st) .none kV e pm b a ct),osl⟩)(c:codeIn K a qual=true)(k:keepIn K (.ref f)=true):DS K x qual st f (fnOf x qual (wQ st) (kE st) (aJ st) .none kV e pm b a ct):=⟨⟨h,g,kV,e,pm,b,a,ct,osl,rfl,l,c⟩,k⟩
section
variable{X:Cx}
theorem pv(i:Nat)(a:X.N[i]?=Z x:=by rfl)(c:D9 X.env.scope x:=by first|exact km rfl|exact ja (km Y2)|exact ja (ja Y2))(hd:db x:=by decide)(b:(x==("__classdict__":AK))=false:=by decide):PE X (.Name x pos) (P8 i):=Ga a c hd b
end
def AW(H H':Hp):Prop:=∀b o,H b=Z o->H' b=Z o
theorem AW.refl(H:Hp):AW H H:=λ_ _ h=>h
theorem AW.trans{H H1 H2:Hp}(a:AW H H1)(b:AW H1 H2):AW H H2:=λc o h=>b c o (a c o h)
theorem AW.free{H H':Hp}(e:AW H H')(h:H' l=Option.none):H l=Option.none:=by
 cases q:H l with
 |none=>rfl
 |some o=>
  rw[e l o q]at h;cases h
theorem AW.seq{H H':Hp}{xs:O V}(e:AW H H')(h:tH K H a xs):tH K H' a xs:=by
 rcases h with (h|⟨o,h⟩)|h
 ·exact .inl (.inl (e _ _ h))
 ·exact .inl (.inr ⟨o,e _ _ h⟩)
 ·exact .inr h
end L2
variable{xs:O L2.V}{H:L2.Hp}{o:L2.HO}{X:L2.Cx}{σ:L2.St}{ta te:L2.TE}{J:L2.It}{vs:O L2.V}{AQ:O (L2.AZ×L2.V)}{sp:L2.Sp}{ks:O L2.AZ}{H0 Hs:L2.Hp}{cP:O (O L2.AZ)}
namespace P1
open L2
inductive Dt where
 |non|bl (b:Bool)|int (i:Int)|str (x:Str)|tup (xs:List Dt)|lst (xs:List Dt)|emp
inductive Bx where
 |z (d:Dt)|l (ds:List Dt)|o (ds:List Dt)|n (AQ:List (AZ×Dt))|m (AQ:List (AZ×Dt)) (w:Option Addr)
abbrev Ev:=O (Y Bx)
def GV(K:BA)(H:Hp)(a:A2)(xs:O V):Prop:=
 (∃o,H a=Z (.qG o (.lst xs))) ∨
  ∃(o:AF) (AS:Array A0) (n:Nat),K.lookup a=Z o/\o.cls=.type "list" ∧ o.dict=Y3/\o.data=.seq AS n/\AS.size<=AB/\AY xs AS.toList
theorem GV.sq(h:GV K H a xs):tH K H a xs:=by
 rcases h with h|h
 ·exact .inl (.inr h)
 ·exact .inr h
mutual
def AX(K:BA)(H:Hp):Dt->V->Prop
 |.non,v=>v=.non
 |.bl b,v=>v=.bl b
 |.int i,v=>v=.int i
 |.str x,v=>v=.str x/\x.length<=AB
 |.tup ds,v=>∃a vs,v=.ref a/\wM K H a vs/\aP K H ds vs
 |.lst ds,v=>∃a vs,v=.ref a/\GV K H a vs/\aP K H ds vs
 |.emp,v=>∃a o,v=.ref a/\H a=Z (.qG o (.dK []))
def aP(K:BA)(H:Hp):O Dt->O V->Prop
 |[],vs=>vs=[]
 |d::ds,vs=>∃v r,vs=v::r/\AX K H d v/\aP K H ds r
end
structure Kp (H H':Hp):Prop where
 t:∀a xs,H a=some (.tup xs)->H' a=some (.tup xs)
 f:∀a o u,H a=some (.qG o u)->H' a=some (.qG o u)
theorem Kp.of{H':Hp}(s:AW H H'):Kp H H':=⟨λa _ h=>s a _ h,λa _ _ h=>s a _ h⟩
theorem Kp.sqT{H':Hp}(k:Kp H H')(h:wM K H a xs):wM K H' a xs:=by
 rcases h with (h|⟨o,h⟩)|h
 ·exact .inl (.inl (k.t _ _ h))
 ·exact .inl (.inr ⟨o,k.f _ _ _ h⟩)
 ·exact .inr h
theorem Kp.fzL{H':Hp}(k:Kp H H')(h:GV K H a xs):GV K H' a xs:=by
 rcases h with⟨o,h⟩|h
 ·exact .inl ⟨o,k.f _ _ _ h⟩
 ·exact .inr h
theorem Kp.lst(h:H a=Z (.lst xs)):Kp H (BD H a o):=by
 refine⟨λb ys e=>?_,λb c u e=>?_⟩
 ·rw[aR (Br e h (by intro z;cases z))];exact e
 ·rw[aR (Br e h (by intro z;cases z))];exact e
mutual
theorem AX.kp{K:BA}{H H':Hp}(k:Kp H H'):∀{d:Dt} {v:V},AX K H d v->AX K H' d v
 |.non,_,h=>by simpa only[AX]using h
 |.bl _,_,h=>by simpa only[AX]using h
 |.int _,_,h=>by simpa only[AX]using h
 |.str _,_,h=>by simpa only[AX]using h
 |.tup ds,_,h=>by
  simp only[AX]at h ⊢;obtain⟨a,vs,e,q,r⟩:=h;exact⟨a,vs,e,k.sqT q,aP.kp k r⟩
 |.lst ds,_,h=>by
  simp only[AX]at h ⊢;obtain⟨a,vs,e,q,r⟩:=h;exact⟨a,vs,e,k.fzL q,aP.kp k r⟩
 |.emp,_,h=>by
  simp only[AX]at h ⊢;obtain⟨a,o,e,q⟩:=h;exact⟨a,o,e,k.f _ _ _ q⟩
theorem aP.kp{K:BA}{H H':Hp}(k:Kp H H'):∀{ds:O Dt} {vs:O V},aP K H ds vs->aP K H' ds vs
 |[],_,h=>by simpa only[aP]using h
 |d::ds,_,h=>by
  simp only[aP]at h ⊢;obtain⟨v,r,e,q,t⟩:=h;exact⟨v,r,e,AX.kp k q,aP.kp k t⟩
end
theorem aP.length{K:BA}{H:Hp}:∀{ds:O Dt} {vs:O V},aP K H ds vs->vs.length=ds.length
 |[],_,h=>by simp only[aP]at h;subst h;rfl
 |d::ds,_,h=>by
  simp only[aP]at h;obtain⟨v,r,rfl,_,t⟩:=h;simp[aP.length t]
theorem aP.nil:aP K H [] []:=by simp only[aP]
theorem aP.cons{K:BA}{H:Hp}{d:Dt}{v:V}{ds:O Dt}{vs:O V}(h:AX K H d v)(t:aP K H ds vs):aP K H (d::ds) (v::vs):=by
 simp only[aP];exact⟨v,vs,rfl,h,t⟩
theorem aP.append{K:BA}{H:Hp}:∀{ds es:O Dt} {vs us:O V},aP K H ds vs->aP K H es us->aP K H (ds++es) (vs++us)
 |[],_,_,_,h,t=>by simp only[aP]at h;subst h;exact t
 |d::ds,_,_,_,h,t=>by
  simp only[aP]at h;obtain⟨v,r,rfl,q,h⟩:=h;exact aP.cons q (aP.append h t)
theorem aP.drop{K:BA}{H:Hp}:∀(n:Nat) {ds:O Dt} {vs:O V},aP K H ds vs->aP K H (ds.drop n) (vs.drop n)
 |0,_,_,h=>h
 |n+1,[],_,h=>by simp only[aP]at h;subst h;exact aP.nil
 |n+1,d::ds,_,h=>by
  simp only[aP]at h;obtain⟨v,r,rfl,q,h⟩:=h;exact aP.drop n h
theorem aP.take{K:BA}{H:Hp}:∀(n:Nat) {ds:O Dt} {vs:O V},aP K H ds vs->aP K H (ds.take n) (vs.take n)
 |0,_,_,_=>aP.nil
 |n+1,[],_,h=>by simp only[aP]at h;subst h;exact aP.nil
 |n+1,d::ds,_,h=>by
  simp only[aP]at h;obtain⟨v,r,rfl,q,h⟩:=h;exact aP.cons q (aP.take n h)
theorem aP.get{K:BA}{H:Hp}:∀{ds:O Dt} {vs:O V} {i:Nat} {d:Dt},aP K H ds vs->ds[i]?=Z d->∃v,vs[i]?=Z v/\AX K H d v
 |[],_,_,_,_,e=>by simp at e
 |d::ds,_,0,_,h,e=>by
  simp only[aP]at h;obtain⟨v,r,rfl,q,h⟩:=h;simp at e;subst e;exact⟨v,rfl,q⟩
 |d::ds,_,i+1,_,h,e=>by
  simp only[aP]at h;obtain⟨v,r,rfl,q,h⟩:=h;obtain⟨u,e1,e2⟩:=aP.get h (i:=i) (by simpa using e);exact⟨u,by simpa using e1,e2⟩
def SW:AZ->Prop
 |.inl _=>True
 |.inr x=>x.length<=AB
def G0(K:BA)(H:Hp)(AQ:O (AZ×Dt))(ks:O (AZ×V)):Prop:=ks.map (·.1)=AQ.map (·.1)/\aP K H (AQ.map (·.2)) (ks.map (·.2))/\∀p∈AQ,SW p.1
theorem G0.kp{K:BA}{H H':Hp}{AQ:O (AZ×Dt)}{ks:O (AZ×V)}(h:G0 K H AQ ks)(k:Kp H H'):G0 K H' AQ ks:=⟨h.1,h.2.1.kp k,h.2.2⟩
def bH(K:BA)(H:Hp):Bx->V->Prop
 |.z d,v=>AX K H d v
 |.l ds,v=>∃a vs,v=.ref a/\Rd H a (.lst vs)/\aP K H ds vs
 |.o ds,v=>∃a vs,v=.ref a/\H a=Z (.lst vs)/\aP K H ds vs
 |.n AQ,v=>∃a ks,v=.ref a/\Rd H a (.dK ks)/\G0 K H AQ ks
 |.m AQ w,v=>∃a ks,v=.ref a/\H a=Z (.dK ks)/\G0 K H AQ ks/\∀b,w=Z b->b=a
theorem bH.same{H':Hp}(s:AW H H'){b:Bx}{v:V}(h:bH K H b v):bH K H' b v:=by
 cases b with
 |z d=>exact AX.kp (.of s) h
 |l ds=>
  obtain⟨a,vs,e,q,r⟩:=h;refine⟨a,vs,e,?_,r.kp (.of s)⟩;rcases q with q|⟨o,q⟩
  ·exact .inl (s _ _ q)
  ·exact .inr ⟨o,s _ _ q⟩
 |o ds=>
  obtain⟨a,vs,e,q,r⟩:=h;exact⟨a,vs,e,s _ _ q,r.kp (.of s)⟩
 |n AQ=>
  obtain⟨a,vs,e,q,r⟩:=h;refine⟨a,vs,e,?_,r.kp (.of s)⟩;rcases q with q|⟨o,q⟩
  ·exact .inl (s _ _ q)
  ·exact .inr ⟨o,s _ _ q⟩
 |m AQ _=>
  obtain⟨a,vs,e,q,r⟩:=h;exact⟨a,vs,e,s _ _ q,r.1.kp (.of s),r.2⟩
def vV:Bx->Y (O Dt)
 |.z (.lst ds)=>Z ds
 |.l ds=>Z ds
 |.o ds=>Z ds
 |_=>Y3
theorem bH.Mw{b:Bx}{v:V}{ds:O Dt}(h:bH K H b v)(e:vV b=Z ds):∃a vs,v=.ref a/\tH K H a vs/\aP K H ds vs:=by
 cases b with
 |z d=>
  cases d<;>first|(cases e;done)|skip;cases e;simp only[bH,AX]at h;obtain⟨a,vs,e,q,r⟩:=h;exact⟨a,vs,e,q.sq,r⟩
 |l c=>
  cases e;obtain⟨a,vs,e,q,r⟩:=h;exact⟨a,vs,e,.inl q,r⟩
 |o c=>
  cases e;obtain⟨a,vs,e,q,r⟩:=h;exact⟨a,vs,e,.inl (.inl q),r⟩
 |n _=>cases e
 |m _ _=>cases e
abbrev Dq(K:BA)(H:Hp):O Bx->O V->Prop:=AJ (bH K H)
def Nw(H:Hp):Bx->V->Prop
 |.o _,v=>∀a,v=.ref a->H a=Y3
 |.m _ _,v=>∀a,v=.ref a->H a=Y3
 |_,_=>True
theorem Nw.old{H1:Hp}(s:AW H H1){b:Bx}{v:V}(h:Nw H1 b v):Nw H b v:=by
 cases b with
 |o ds=>exact λa e=>s.free (h a e)
 |m ds _=>exact λa e=>s.free (h a e)
 |_=>trivial
def loose:Bx->Bool
 |.z _=>false
 |_=>true
def Ci:Bx->Bool
 |.o _=>true
 |.m _ _=>true
 |_=>false
structure bW (K:BA) (H0 H:Hp) (σ:L2.St) (ρ:Ev):Prop where
 len:σ.length=ρ.length
 val:∀(i:Nat) b,ρ[i]?=some (some b)->∃v,σ[i]?=some (some v)/\bH K H b v
 own:∀(i j:Nat) c a b,ρ[i]?=some (some c)->Ci c=true->σ[i]?=some (some (.ref a))->ρ[j]?=some (some b)->loose b=true->σ[j]?=some (some (.ref a))->i=j
 base:AW H0 H
 new:∀(i:Nat) c a,ρ[i]?=some (some c)->Ci c=true->σ[i]?=some (some (.ref a))->H0 a=none
theorem bW.grow{H':Hp}{ρ:Ev}(r:bW K H0 H σ ρ)(s:AW H H'):bW K H0 H' σ ρ:=
 ⟨r.len,λi b e=>let ⟨v,e1,h⟩:=r.val i b e;⟨v,e1,h.same s⟩,r.own,r.base.trans s,r.new⟩
def tF(K:BA)(f:Ev->Y Bx):TE:=λσ H Q=>∃H0 ρ b,bW K H0 H σ ρ/\f ρ=Z b/\∀v H',AW H H'->Nw H b v->bH K H' b v->Q v H'
def Ps(K:BA)(f:Ev->Y (O Bx)):TA:=λσ H Q=>∃H0 ρ bs,bW K H0 H σ ρ/\f ρ=Z bs/\∀vs H',AW H H'->Dq K H' bs vs->Q vs H'
def EA(K:BA)(f:Ev->Y Bool):TT:=λσ H Q=>∃H0 ρ b,bW K H0 H σ ρ/\f ρ=Z b/\∀H',AW H H'->Q b H'
def PV(X:Cx)(e:Expr)(f:Ev->Y Bx):Prop:=PE X e (tF X.K f)
structure QV (X:Cx) (e:Expr) (f:Ev->Option Bx):Prop where
 run:PV X e f
def FI(X:Cx)(es:O Expr)(f:Ev->Y (O Bx)):Prop:=PA X es (Ps X.K f)
structure YQ (X:Cx) (es:List Expr) (f:Ev->Option (List Bx)):Prop where
 run:FI X es f
def PB(X:Cx)(e:Expr)(f:Ev->Y Bool):Prop:=PT X e (EA X.K f)
structure QB (X:Cx) (e:Expr) (f:Ev->Option Bool):Prop where
 run:PB X e f
theorem Mr{t t':TE}(h:PE X e t)(m:∀ σ H Q,t' σ H Q->t σ H Q):PE X e t':=λAO s σ H Q I q=>h AO s σ H Q I (m σ H Q q)
theorem Mn{e:O Expr}{t t':TA}(h:PA X e t)(m:∀ σ H Q,t' σ H Q->t σ H Q):PA X e t':=λpos AO s σ H Q I q=>h pos AO s σ H Q I (m σ H Q q)
theorem HK{t t':TT}(h:PT X e t)(m:∀ σ H Q,t' σ H Q->t σ H Q):PT X e t':=λAO s σ H Q I q=>h AO s σ H Q I (m σ H Q q)
theorem RO{t t':TT}(h:PW X e t)(m:∀ σ H Q,t' σ H Q->t σ H Q):PW X e t':=λa AO s σ H Q I q=>h a AO s σ H Q I (m σ H Q q)
theorem DU{e:AC}{t t':TS}(h:PS X e t)(m:∀D σ H,t' D σ H->t D σ H):PS X e t':=λAO s σ H D I q=>h AO s σ H D I (m D σ H q)
theorem GN{e:O AC}{t t':TS}(h:NQ X e t)(m:∀D σ H,t' D σ H->t D σ H):NQ X e t':=λAO s σ H D I q=>h AO s σ H D I (m D σ H q)
def rF(K:BA)(g:Bx->Bx->Y Bx):R2:=λx y H Q=>∃a b c,bH K H a x/\bH K H b y/\g a b=Z c/\∀w H',AW H H'->Nw H c w->bH K H' c w->Q w H'
def OF(K:BA)(g:Bx->Y Bx):V->Hp->VK->Prop:=λx H Q=>∃a c,bH K H a x/\g a=Z c/\∀w H',AW H H'->Nw H c w->bH K H' c w->Q w H'
def P5(K:BA)(g:O Bx->Y Bx):O V->Hp->VK->Prop:=λxs H Q=>∃bs c,Dq K H bs xs/\g bs=Z c/\∀w H',AW H H'->Nw H c w->bH K H' c w->Q w H'
abbrev Dj(X:Cx)(f:A0->A0->Sem A0)(g:Bx->Bx->Y Bx):Prop:=yE X f (rF X.K g)
abbrev OY(X:Cx)(f:A0->Sem A0)(g:Bx->Y Bx):Prop:=ET X f (OF X.K g)
abbrev vW(X:Cx)(f:A0)(g:O Bx->Y Bx):Prop:=iG X f (P5 X.K g)
theorem yE.imp{X:Cx}{f:A0->A0->Sem A0}{r a:R2}(h:yE X f r)(m:∀x y H Q,a x y H Q->r x y H Q):yE X f a:=λAO s σ H x y v u Q I b c q=>h AO s σ H x y v u Q I b c (m x y H Q q)
theorem ET.imp{X:Cx}{f:A0->Sem A0}{r a:V->Hp->VK->Prop}(h:ET X f r)(m:∀x H Q,a x H Q->r x H Q):ET X f a:=λAO s σ H x v Q I b q=>h AO s σ H x v Q I b (m x H Q q)
theorem iG.imp{X:Cx}{f:A0}{r a:O V->Hp->VK->Prop}(h:iG X f r)(m:∀x H Q,a x H Q->r x H Q):iG X f a:=λAO s σ H xs us Q I b q=>h AO s σ H xs us Q I b (m xs H Q q)
def b2(g:Bx->Bx->Y Bx)(fa fb:Ev->Y Bx):Ev->Y Bx:=λρ=>(fa ρ).bind λx=>(fb ρ).bind λy=>g x y
def b1(g:Bx->Y Bx)(fa:Ev->Y Bx):Ev->Y Bx:=λρ=>(fa ρ).bind g
def dh(g:O Bx->Y Bx)(fs:Ev->Y (O Bx)):Ev->Y Bx:=λρ=>(fs ρ).bind g
theorem AU{α β:Type}{o:Y α}{f:α->Y β}{b:β}(h:o.bind f=Z b):∃a,o=Z a/\f a=Z b:=by
 cases o with
 |none=>cases h
 |some a=>exact⟨a,rfl,h⟩
theorem LY{g:Bx->Bx->Y Bx}{fa fb:Ev->Y Bx}(σ:L2.St)(H:Hp)(Q:VK)(h:tF K (b2 g fa fb) σ H Q):Gc (rF K g) (tF K fa) (tF K fb) σ H Q:=by
 obtain⟨H0,ρ,c,E,e,q⟩:=h;obtain⟨a,ea,e⟩:=AU e;obtain⟨b,eb,e⟩:=AU e;refine⟨H0,ρ,a,E,ea,λv H1 i p n=>⟨H0,ρ,b,E.grow i,eb,λu H2 f s m=>?_⟩⟩;exact⟨a,b,c,n.same f,m,e,λw o k l j=>q w o ((i.trans f).trans k) (l.old (i.trans f)) j⟩
theorem sk{g:Bx->Y Bx}{fa:Ev->Y Bx}(σ:L2.St)(H:Hp)(Q:VK)(h:tF K (b1 g fa) σ H Q):PF (OF K g) (tF K fa) σ H Q:=by
 obtain⟨H0,ρ,c,E,e,q⟩:=h;obtain⟨a,ea,e⟩:=AU e;exact⟨H0,ρ,a,E,ea,λv H1 b m k=>⟨a,c,k,e,λw l i j f=>q w l (b.trans i) (j.old b) f⟩⟩
theorem EM{g:O Bx->Y Bx}{fs:Ev->Y (O Bx)}(σ:L2.St)(H:Hp)(Q:VK)(h:tF K (dh g fs) σ H Q):LD (P5 K g) (Ps K fs) σ H Q:=by
 obtain⟨H0,ρ,c,E,e,q⟩:=h;obtain⟨a,ea,e⟩:=AU e;exact⟨H0,ρ,a,E,ea,λv H1 b k=>⟨a,c,k,e,λw l i j f=>q w l (b.trans i) (j.old b) f⟩⟩
section
variable{a b:Expr}{fa fb fc f:Ev->Y Bx}{fs:Ev->Y (O Bx)}
theorem aU{op:Operator}{g:Bx->Bx->Y Bx}(f:Dj X (binaryOp op) g)(c:QV X a fa)(e:QV X b fb):QV X (.BinOp a op b pos) (b2 g fa fb):=⟨have c:=c.run;have e:=e.run;Mr (a0 f c e) LY⟩
theorem SA{op:UnaryOp}{g:Bx->Y Bx}(c:OY X (unaryOp op) g)(b:QV X a fa):QV X (.UnaryOp op a pos) (b1 g fa):=⟨have b:=b.run;Mr (wc c b) sk⟩
theorem fU{g:Bx->Bx->Y Bx}(f:Dj X (AH op) g)(c:QV X a fa)(e:QV X b fb)(h:behindInMarks op b=false):QV X (.Compare a [op] [b] pos) (b2 g fa fb):=⟨have c:=c.run;have e:=e.run;Mr (VQ f c e h) LY⟩
def Dr:Bx->Y Bool
 |.z (.bl b)=>Z b
 |_=>Y3
theorem Du{b:Bx}{v:V}{k:Bool}(h:bH K H b v)(e:Dr b=Z k):v=.bl k:=by
 cases b with
 |z d=>
  cases d<;>first|(cases e;done)|skip;cases e;simpa only[bH,AX]using h
 |_=>cases e
theorem NC(σ:L2.St)(H:Hp)(Q:Bool->Hp->Prop)(h:EA K (λρ=>(f ρ).bind Dr) σ H Q):tF K f σ H (λx H'=>∃k,x=.bl k/\Q k H'):=by
 obtain⟨H0,ρ,k,E,e,q⟩:=h;obtain⟨b,eb,e⟩:=AU e;exact⟨H0,ρ,b,E,eb,λv H1 a g c=>⟨k,Du c e,q H1 a⟩⟩
theorem dG{g:Bx->Bx->Y Bx}(f:Dj X (AH op) g)(c:QV X a fa)(e:QV X b fb)(i:behindInMarks op b=false):QB X (.Compare a [op] [b] pos) (λρ=>(b2 g fa fb ρ).bind Dr):=⟨have c:=c.run;have e:=e.run;HK (YG f c e i) λσ H Q h=>LY σ H _ (NC σ H Q h)⟩
def DZ(g g':Bx->Bx->Y Bx)(fa fb fc:Ev->Y Bx):Ev->Y Bx:=λρ=>(fa ρ).bind λx=>(fb ρ).bind λy=>(g x y).bind λr=>(Dr r).bind λk=>if k=true then(fc ρ).bind λw=>g' y w else Z (.z (.bl false))
theorem Pp{g g':Bx->Bx->Y Bx}(σ:L2.St)(H:Hp)(Q:VK)(h:tF K (DZ g g' fa fb fc) σ H Q):WQ (rF K g) (rF K g') (tF K fa) (tF K fb) (tF K fc) σ H Q:=by
 obtain⟨H0,ρ,d,E,e,q⟩:=h;obtain⟨a,ea,e⟩:=AU e;obtain⟨b,eb,e⟩:=AU e;obtain⟨r,er,e⟩:=AU e;obtain⟨k,ek,e⟩:=AU e;refine⟨H0,ρ,a,E,ea,λv H1 m F A=>⟨H0,ρ,b,E.grow m,eb,λu H2 j L i=>?_⟩⟩;refine⟨a,b,r,A.same j,i,er,λw D l G p=>⟨k,Du p ek,?_⟩⟩;have c:=(m.trans j).trans l;cases k with
 |false=>
  rw[zv zC]at e ⊢;cases e;exact q _ D c trivial (by simp only[bH,AX])
 |true=>
  rw[zh rfl]at e ⊢;obtain⟨n,o,e⟩:=AU e;refine⟨H0,ρ,n,E.grow c,o,λx J f I C=>?_⟩;exact⟨b,n,d,(i.same l).same f,C,e,λy s t z B=>q y s ((c.trans f).trans t) (z.old (c.trans f)) B⟩
theorem JB{e:CmpOp}{g g':Bx->Bx->Y Bx}(l:Dj X (AH op) g)(k:Dj X (AH e) g')(h:QV X a fa)(i:QV X b fb)(f:QV X c fc)(j:lastMarks [op,e] [b,c]=false:=by with_unfolding_all rfl):QV X (.Compare a [op,e] [b,c] pos) (DZ g g' fa fb fc):=⟨have h:=h.run;have i:=i.run;have f:=f.run;Mr (aI l k h i f j) Pp⟩
theorem f8{e:CmpOp}{g g':Bx->Bx->Y Bx}(m:Dj X (AH op) g)(l:Dj X (AH e) g')(i:QV X a fa)(j:QV X b fb)(f:QV X c fc)(k:lastMarks [op,e] [b,c]=false:=by with_unfolding_all rfl):QB X (.Compare a [op,e] [b,c] pos) (λρ=>(DZ g g' fa fb fc ρ).bind Dr):=⟨have i:=i.run;have j:=j.run;have f:=f.run;HK (hZ m l i j f k) λσ H Q h=>Pp σ H _ (NC σ H Q h)⟩
def Ig(ρ:Ev)(i:Nat):Y Bx:=match ρ[i]? with
 |some (Z (.o ds))=>Z (.l ds)
 |some (Z (.m AQ _))=>Z (.n AQ)
 |some (Z b)=>Z b
 |_=>Y3
theorem Tv{ρ:Ev}{b:Bx}(E:bW K H0 H σ ρ)(e:Ig ρ i=Z b):∃v,σ[i]?=Z (Z v)/\bH K H b v:=by
 unfold Ig at e;split at e
 ·rename_i ds h;cases e;obtain⟨v,e1,a,vs,e2,q,r⟩:=E.val i _ h;exact⟨v,e1,a,vs,e2,.inl q,r⟩
 ·rename_i ds h;cases e;obtain⟨v,e1,a,vs,e2,q,r⟩:=E.val i _ h;exact⟨v,e1,a,vs,e2,.inl q,r.1⟩
 ·rename_i c h;cases e;exact E.val i _ h
 ·cases e
theorem Jb{ρ:Ev}{b:Bx}(e:Ig ρ i=Z b):Ci b=false:=by
 unfold Ig at e;split at e
 ·cases e;rfl
 ·cases e;rfl
 ·rename_i a h1 h2 c;cases e;cases b with
  |o ds=>exact absurd Y2 (h1 ds)
  |m ds _=>exact absurd Y2 (h2 ds _)
  |_=>rfl
 ·cases e
theorem ak(i:Nat)(a:X.N[i]?=Z x:=by rfl)(f:D9 X.env.scope x:=by first|exact km rfl|exact ja (km Y2)|exact ja (ja Y2))(hd:db x:=by decide)(c:(x==("__classdict__":AK))=false:=by decide):QV X (.Name x pos) (λρ=>Ig ρ i):=⟨Mr (Ga a f hd c) λσ H Q h=>by
 obtain⟨H0,ρ,b,E,e,q⟩:=h;obtain⟨v,e1,r⟩:=Tv E e;refine⟨v,e1,q v H (AW.refl H) ?_ r⟩;cases b with
 |o ds=>have:=Jb e;cases this
 |m ds _=>have:=Jb e;cases this
 |_=>trivial⟩
def cB(d:Dt):Ev->Y Bx:=λ_=>Z (.z d)
theorem FU{v:V}{d:Dt}(h:PE X e (tC v))(r:∀H,AX X.K H d v):PV X e (cB d):=Mr h λσ H Q q=>by
 obtain⟨H0,ρ,b,E,e,q⟩:=q;cases e;exact q v H (AW.refl H) trivial (r H)
theorem aD{i j}:QV X (.Constant (.int i) j pos) (cB (.int i)):=⟨FU uC λH=>by simp only[AX]⟩
theorem yr{i j}:QV X (.Constant (.bool i) j pos) (cB (.bl i)):=⟨FU Ts λH=>by simp only[AX]⟩
theorem rM{j}:QV X (.Constant .none j pos) (cB .non):=⟨FU UO λH=>by simp only[AX]⟩
theorem RF{j}(hx:x.length<=AB:=by decide):PV X (.Constant (.str x) j pos) (cB (.str x)):=FU T2 λH=>by unfold AX;exact⟨rfl,hx⟩
theorem Dv{i:Int}{t:Tok}(a:Gl X x)(b:X.mg x=Z (.int i t))(hd:db x:=by decide):QV X (.Name x pos) (cB (.int i)):=⟨FU (YC a b (v:=.int i) ⟨t,rfl⟩ hd) λH=>by simp only[AX]⟩
theorem Tw{t:Tok}(a:Gl X x)(c:X.mg x=Z (.str y t))(b:y.length<=AB:=by decide)(hd:db x:=by decide):QV X (.Name x pos) (cB (.str y)):=⟨FU (YC a c (v:=.str y) ⟨t,rfl⟩ hd) λH=>by unfold AX;exact⟨rfl,b⟩⟩
def G1:Bx->Y Bool
 |.z .non=>Z false
 |.z (.bl b)=>Z b
 |.z (.int i)=>Z (i != 0)
 |.z (.str x)=>Z ((x.length:Int) != 0)
 |.z (.tup ds)=>Z (!ds.isEmpty)
 |.z (.lst ds)=>Z (!ds.isEmpty)
 |.l ds=>Z (!ds.isEmpty)
 |.o ds=>Z (!ds.isEmpty)
 |.z .emp=>Y3
 |.n _=>Y3
 |.m _ _=>Y3
theorem aP.isEmpty{ds:O Dt}(h:aP K H ds vs):(!ds.isEmpty)=!vs.isEmpty:=by
 have:=h.length;cases ds<;>cases vs<;>simp_all
theorem X'{b:Bx}{v:V}{k:Bool}(r:bH K H b v)(e:G1 b=Z k):LJ K v H k:=by
 cases b with
 |z d=>
  cases d with
  |non=>cases e;simp only[bH,AX]at r;subst r;rfl
  |bl b=>cases e;simp only[bH,AX]at r;subst r;rfl
  |int b=>cases e;simp only[bH,AX]at r;subst r;rfl
  |str x=>cases e;simp only[bH,AX]at r;obtain⟨rfl,h⟩:=r;exact⟨h,rfl⟩
  |tup ds=>
   cases e;simp only[bH,AX]at r;obtain⟨a,vs,rfl,q,r⟩:=r;exact .inr (.inl ⟨vs,q,r.isEmpty⟩)
  |lst ds=>
   cases e;obtain⟨a,vs,rfl,q,r⟩:=r.Mw rfl;exact .inl ⟨vs,q,r.isEmpty⟩
  |emp=>cases e
 |l ds=>
  cases e;obtain⟨a,vs,rfl,q,r⟩:=r.Mw rfl;exact .inl ⟨vs,q,r.isEmpty⟩
 |o ds=>
  cases e;obtain⟨a,vs,rfl,q,r⟩:=r.Mw rfl;exact .inl ⟨vs,q,r.isEmpty⟩
 |n _=>cases e
 |m _ _=>cases e
theorem jF(h:QV X e f)(i:∀a,isTrue e X.env a=(do let v <-a;standAt e.pos;holding [v] (truthy v)):=by intro _;rfl):QB X e (λρ=>(f ρ).bind G1):=⟨have h:=h.run;HK (sF h i) λσ H Q q=>by
 obtain⟨H0,ρ,k,E,e,q⟩:=q;obtain⟨b,eb,e⟩:=AU e;exact⟨H0,ρ,b,E,eb,λv H1 c j g=>⟨k,X' g e,q H1 c⟩⟩⟩
def GE(p q:Ev->Y Bool):Ev->Y Bool:=λρ=>(p ρ).bind λc=>if c=true then q ρ else Z false
def D5(p q:Ev->Y Bool):Ev->Y Bool:=λρ=>(p ρ).bind λc=>if c=true then Z true else q ρ
def Bj(p:Ev->Y Bool):Ev->Y Bool:=λρ=>(p ρ).bind λc=>Z (!c)
def pT(X:Cx)(e:Expr)(f:Ev->Y Bool):Prop:=PW X e (EA X.K f)
structure FA (X:Cx) (e:Expr) (f:Ev->Option Bool):Prop where
 run:pT X e f
variable{p q:Ev->Y Bool}{AT:O Expr}
theorem Sk(b:QB X a p):FA X (.BoolOp .And [a] pos) p:=⟨have b:=b.run;xD b⟩
theorem tK(b:QB X a p):FA X (.BoolOp .Or [a] pos) p:=⟨have b:=b.run;li b⟩
theorem io(σ:L2.St)(H:Hp)(Q:Bool->Hp->Prop)(h:EA K (GE p q) σ H Q):ON (EA K p) (EA K q) σ H Q:=by
 obtain⟨H0,ρ,k,E,e,w⟩:=h;obtain⟨c,f,e⟩:=AU e;refine⟨H0,ρ,c,E,f,λH1 a=>?_⟩;cases c with
 |true=>rw[zh rfl]at e ⊢;exact⟨H0,ρ,k,E.grow a,e,λH2 b=>w H2 (a.trans b)⟩
 |false=>rw[zv zC]at e ⊢;cases e;exact w H1 a
theorem ut(σ:L2.St)(H:Hp)(Q:Bool->Hp->Prop)(h:EA K (D5 p q) σ H Q):Oy (EA K p) (EA K q) σ H Q:=by
 obtain⟨H0,ρ,k,E,e,w⟩:=h;obtain⟨c,f,e⟩:=AU e;refine⟨H0,ρ,c,E,f,λH1 a=>?_⟩;cases c with
 |true=>rw[zh rfl]at e ⊢;cases e;exact w H1 a
 |false=>rw[zv zC]at e ⊢;exact⟨H0,ρ,k,E.grow a,e,λH2 b=>w H2 (a.trans b)⟩
theorem oB(c:QB X a p)(e:FA X (.BoolOp .And (b::AT) pos) q):FA X (.BoolOp .And (a::b::AT) pos) (GE p q):=⟨have c:=c.run;have e:=e.run;RO (n0 c e) io⟩
theorem yM(c:QB X a p)(e:FA X (.BoolOp .Or (b::AT) pos) q):FA X (.BoolOp .Or (a::b::AT) pos) (D5 p q):=⟨have c:=c.run;have e:=e.run;RO (hV c e) ut⟩
theorem Qm(h:FA X e p):QB X e p:=⟨have h:=h.run;h.pt⟩
theorem o8(b:QB X a p):QB X (.UnaryOp .Not a pos) (Bj p):=⟨have b:=b.run;HK (nX b) λσ H Q h=>by
 obtain⟨H0,ρ,k,E,e,w⟩:=h;obtain⟨c,g,e⟩:=AU e;cases e;exact⟨H0,ρ,c,E,g,λH1 f=>w H1 f⟩⟩
def jy(fa fb:Ev->Y Bx):Ev->Y Bx:=λρ=>((fa ρ).bind Dr).bind λc=>if c=true then fb ρ else Z (.z (.bl false))
def HL(fa:Ev->Y Bx):Ev->Y Bx:=λρ=>((fa ρ).bind Dr).bind λc=>Z (.z (.bl (!c)))
theorem fY{op}(h:QV X a fa):QV X (.BoolOp op [a] pos) fa:=⟨have h:=h.run;W' h⟩
theorem cT(i:QV X a fa)(j:QV X (.BoolOp .And (b::AT) pos) fb):QV X (.BoolOp .And (a::b::AT) pos) (jy fa fb):=⟨have i:=i.run;have j:=j.run;Mr (YO i j) λσ H Q h=>by
 obtain⟨H0,ρ,k,E,e,w⟩:=h;obtain⟨c,g,e⟩:=AU e;obtain⟨x,ex,g⟩:=AU g;refine⟨H0,ρ,x,E,ex,λv H1 f p o=>⟨c,Du o g,?_⟩⟩;cases c with
 |true=>rw[zh rfl]at e ⊢;exact⟨H0,ρ,k,E.grow f,e,λv H2 l m n=>w v H2 (f.trans l) (m.old f) n⟩
 |false=>rw[zv zC]at e ⊢;cases e;exact w _ H1 f trivial (by simp only[bH,AX])⟩
theorem sB(f:QV X a fa):QV X (.UnaryOp .Not a pos) (HL fa):=⟨have f:=f.run;Mr (wp f) λσ H Q h=>by
 obtain⟨H0,ρ,k,E,e,w⟩:=h;obtain⟨c,b,e⟩:=AU e;obtain⟨x,ex,b⟩:=AU b;cases e;exact⟨H0,ρ,x,E,ex,λv H1 g j i=>⟨c,Du i b,w _ H1 g trivial (by simp only[bH,AX])⟩⟩⟩
def FR(p:Ev->Y Bool)(fa fb:Ev->Y Bx):Ev->Y Bx:=λρ=>(p ρ).bind λc=>if c=true then fa ρ else fb ρ
theorem W0(l:QB X c p)(m:QV X a fa)(n:QV X b fb):QV X (.IfExp c a b pos) (FR p fa fb):=⟨have l:=l.run;have m:=m.run;have n:=n.run;Mr (VW l m n) λσ H Q h=>by
 obtain⟨H0,ρ,k,E,e,w⟩:=h;obtain⟨c,o,e⟩:=AU e;refine⟨H0,ρ,c,E,o,λH1 f=>?_⟩;cases c with
 |true=>rw[zh rfl]at e ⊢;exact⟨H0,ρ,k,E.grow f,e,λv H2 g i j=>w v H2 (f.trans g) (i.old f) j⟩
 |false=>rw[zv zC]at e ⊢;exact⟨H0,ρ,k,E.grow f,e,λv H2 g i j=>w v H2 (f.trans g) (i.old f) j⟩⟩
theorem Qn:FI X [] (λ_=>Z []):=Mn vA λσ H Q h=>by
 obtain⟨H0,ρ,bs,E,e,q⟩:=h;cases e;exact q [] H (AW.refl H) .nil
def aq(f:Ev->Y Bx)(fs:Ev->Y (O Bx)):Ev->Y (O Bx):=λρ=>(f ρ).bind λb=>(fs ρ).bind λbs=>Z (b::bs)
theorem JC(h1:PV X e f)(h2:FI X es fs)(hs:AA (e::es) X.env=(false,eval e X.env)::AA es X.env:=by rfl):FI X (e::es) (aq f fs):=Mn (jf h1 h2 hs) λσ H Q h=>by
 obtain⟨H0,ρ,bs,E,e,q⟩:=h;obtain⟨b,eb,e⟩:=AU e;obtain⟨k,g,e⟩:=AU e;cases e;refine⟨H0,ρ,b,E,eb,λv H1 c l j=>⟨H0,ρ,k,E.grow c,g,λvs H2 a i=>?_⟩⟩;exact q (v::vs) H2 (c.trans a) (.cons (j.same a) i)
def tL:Bx->Y Bx
 |.z d=>Z (.z d)
 |.o ds=>Z (.z (.lst ds))
 |.l _=>Y3
 |.n _=>Y3
 |.m _ _=>Y3
theorem W2{a:A2}(I:L2.AV X AO σ H s)(h:H a=Z (.lst vs)):∃o,L2.AV X AO σ (BD H a (.qG o (.lst vs))) s:=by
 obtain⟨z,AS,n,r,e⟩:=I.hok a _ h;refine⟨{ cls:=.type "list",data:=.seq AS.toArray n },⟨I.ok,I.os,I.bare,⟨I.base.keep,I.base.slot,λb f q1 q2 q3=>?_,I.base.there,λb xs q=>?_,λb f u q=>?_,λb ps q=>?_⟩,I.loc,I.cell,?_,λx c q=>?_,λp hp=>?_,?_,I.len⟩⟩
 ·have:=I.base.free b f q1 q2 q3;rw[aR (cJ h this).symm];exact this
 ·have:=I.base.tups b xs q;rw[aR (Br this h (by intro z;cases z))];exact this
 ·have:=I.base.HY b f u q;rw[aR (Br this h (by intro z;cases z))];exact this
 ·obtain⟨m,this⟩:=I.base.Ce b ps q;rw[aR (Br this h (by intro z;cases z))];exact⟨m,this⟩
 ·rw[aR (cJ h I.free).symm];exact I.free
 ·rw[aR (cJ h (I.tD x c q)).symm];exact I.tD x c q
 ·obtain⟨q1,q2,q3⟩:=I.pin p hp;refine⟨q1,?_,q3⟩;rw[aR (cJ h q2).symm];exact q2
 ·intro b u q;by_cases g:b=a
  ·subst g;rw[bK]at q;cases q;exact⟨e,z,AS,n,r,e⟩
  ·rw[aR g]at q;refine(I.hok b u q).stay (λc v _ w=>w) (λc w=>?_) (λc xs w=>?_) λc o' i w=>?_
   ·rw[aR (Br w h (by intro z;cases z))];exact w
   ·rw[aR (Br w h (by intro z;cases z))];exact w
   ·rw[aR (Br w h (by intro z;cases z))];exact w
theorem dO(h:QV X e f):QV X e (b1 tL f):=⟨by
 have h:=h.run;intro AO s σ H Q I q;obtain⟨H0,ρ,b,E,e,q⟩:=q;obtain⟨x,ex,e⟩:=AU e;cases x with
 |z d=>
  cases e;exact h AO s σ H Q I ⟨H0,ρ,_,E,ex,λv H' s' i g=>q v H' s' trivial g⟩
 |l ds=>cases e
 |n ds=>cases e
 |m ds _=>cases e
 |o ds=>
  cases e;refine jQ (h AO s σ H (λv H'=>AW H H'/\Nw H (.o ds) v/\bH X.K H' (.o ds) v) I ⟨H0,ρ,_,E,ex,λv H' s' i g=>⟨s',i,g⟩⟩) λu B y=>?_;obtain⟨v,H1,t,w,s',i,g⟩:=y;obtain⟨a,vs,rfl,k,rs⟩:=g;obtain⟨o,A⟩:=W2 t k;refine⟨.ref a,_,A,w,q _ _ (λc p j=>?_) trivial ?_⟩
  ·rw[aR (cJ j (i a Y2))];exact s' c p j
  ·simp only[bH,AX];exact⟨a,vs,rfl,.inl ⟨o,bK⟩,rs.kp (.lst k)⟩⟩
def Qo:O Bx->Y (O Dt)
 |[]=>Z []
 |.z d::r=>(Qo r).bind λds=>Z (d::ds)
 |_=>Y3
theorem JD{K:BA}{H:Hp}:∀{bs:O Bx} {vs:O V} {ds:O Dt},Dq K H bs vs->Qo bs=Z ds->aP K H ds vs
 |_,_,_,.nil,e=>by cases e;exact aP.nil
 |b::bs,_,_,.cons h t,e=>by
  cases b with
  |z d=>
   simp only[Qo]at e;obtain⟨a,e1,e2⟩:=AU e;cases e2;exact aP.cons h (JD t e1)
  |_=>cases e
theorem JF:∀{bs:O Bx} {ds:O Dt},Qo bs=Z ds->ds.length=bs.length
 |[],_,e=>by cases e;rfl
 |.z d::r,_,e=>by
  simp only[Qo]at e;obtain⟨a,e1,e2⟩:=AU e;cases e2;simp[JF e1]
 |.l _::_,_,e=>by cases e
 |.o _::_,_,e=>by cases e
 |.n _::_,_,e=>by cases e
 |.m _ _::_,_,e=>by cases e
def mC(bs:O Bx):Y Bx:=if bs.length<=1000 then(Qo bs).bind λds=>Z (.z (.tup ds))else Y3
def vX(bs:O Bx):Y Bx:=if bs.length<=1000 then(Qo bs).bind λds=>Z (.o ds)else Y3
theorem cG{p:A2}(h:H p=Y3):AW H (BD H p o):=λb u e=>by rw[aR (cJ e h)];exact e
theorem Me(h:n<=1000):n<=AB:=zl h ()
theorem gZ{x1}(h:YQ X es fs):QV X (.Tuple es x1 pos) (dh mC fs):=⟨have h:=h.run;Mr (Y1 h) λσ H Q q=>by
 obtain⟨H0,ρ,c,E,e,q⟩:=q;obtain⟨bs,b,e⟩:=AU e;refine⟨H0,ρ,bs,E,b,λvs H1 f g=>?_⟩;unfold mC at e;split at e
 ·rename_i i;obtain⟨ds,e1,e⟩:=AU e;cases e;have a:=JD g e1;refine⟨Me (by rw[a.length,JF e1];exact i),λp hp=>q _ _ (f.trans (cG hp)) trivial ?_⟩;simp only[bH,AX];exact⟨p,vs,rfl,.inl (.inl bK),a.kp (.of (cG hp))⟩
 ·cases e⟩
theorem mD(h:YQ X es fs):QV X (.List es pos) (dh vX fs):=⟨have h:=h.run;Mr (Uf h) λσ H Q q=>by
 obtain⟨H0,ρ,c,E,e,q⟩:=q;obtain⟨bs,g,e⟩:=AU e;refine⟨H0,ρ,bs,E,g,λvs H1 b i=>?_⟩;unfold vX at e;split at e
 ·rename_i j;obtain⟨ds,e1,e⟩:=AU e;cases e;have f:=JD i e1;refine⟨Me (by rw[f.length,JF e1];exact j),λp hp=>q _ _ (b.trans (cG hp)) (λa ea=>by cases ea;exact b.free hp) ?_⟩;exact⟨p,vs,rfl,bK,f.kp (.of (cG hp))⟩
 ·cases e⟩
theorem bQ{id:String}{g:O Bx->Y Bx}{p:Pos}(c:vW X (.builtin id) g)(b:Gl X x)(f:X.mg x=Y3)(i:AI x=Z (.builtin id))(a:YQ X (e::es) fs)(k:x ≠ "__name__":=by decide)(l:db x:=by decide)(j:AA (e::es) X.env=(false,eval e X.env)::AA es X.env:=by rfl)(h:(AE pos (AA es X.env)).any (·.1)=false:=by rfl):QV X (.Call (.Name x p) (e::es) [] pos) (dh g fs):=⟨have a:=a.run;Mr (yK c b f i a k l j h) EM⟩
theorem cD{T:String}{g:O Bx->Y Bx}{p:Pos}(c:vW X (.type T) g)(b:Gl X x)(f:X.mg x=Y3)(i:AI x=Z (.type T))(a:YQ X (e::es) fs)(k:x ≠ "__name__":=by decide)(l:db x:=by decide)(j:AA (e::es) X.env=(false,eval e X.env)::AA es X.env:=by rfl)(h:(AE pos (AA es X.env)).any (·.1)=false:=by rfl):QV X (.Call (.Name x p) (e::es) [] pos) (dh g fs):=⟨have a:=a.run;Mr (Sz c b f i a k l j h) EM⟩
end
inductive Ap where
 |nx (ρ:Ev)|rt (b:Bx)|bk (ρ:Ev)|ct (ρ:Ev)
def Fs(K:BA)(H0:Hp)(D:CO):Ap->Prop
 |.nx ρ=>∀ σ H,bW K H0 H σ ρ->D.nx σ H
 |.rt b=>∀v H,AW H0 H->Nw H0 b v->bH K H b v->D.rt v H
 |.bk ρ=>∀ σ H,bW K H0 H σ ρ->D.bk σ H
 |.ct ρ=>∀ σ H,bW K H0 H σ ρ->D.ct σ H
def tG(K:BA)(g:Ev->Y Ap):TS:=λD σ H=>∃H0 ρ r,bW K H0 H σ ρ/\g ρ=Z r/\Fs K H0 D r
def wa(X:Cx)(st:AC)(g:Ev->Y Ap):Prop:=PS X st (tG X.K g)
structure Co (X:Cx) (st:Stmt) (g:Ev->Option Ap):Prop where
 run:wa X st g
def DF(X:Cx)(st:O AC)(g:Ev->Y Ap):Prop:=NQ X st (tG X.K g)
structure D0 (X:Cx) (st:List Stmt) (g:Ev->Option Ap):Prop where
 run:DF X st g
def aF(g1 g2:Ev->Y Ap):Ev->Y Ap:=λρ=>(g1 ρ).bind λr=>match r with
 |.nx a=>g2 a
 |r=>Z r
section
variable{a b:Expr}{fa fb fc f:Ev->Y Bx}{fs:Ev->Y (O Bx)}{AT:O AC}{g g1 g2:Ev->Y Ap}
theorem aH  :D0 X [] (λρ=>Z (.nx ρ)):=⟨GN YD λD σ H h=>by
 obtain⟨H0,ρ,r,E,e,q⟩:=h;cases e;exact q σ H E⟩
theorem aA(h1:Co X st g1)(h2:D0 X AT g2):D0 X (st::AT) (aF g1 g2):=⟨have h1:=h1.run;have h2:=h2.run;GN (Jw h1 h2) λD σ H h=>by
 obtain⟨H0,ρ,r,E,e,q⟩:=h;obtain⟨c,e1,e⟩:=AU e;refine⟨H0,ρ,c,E,e1,?_⟩;cases c with
 |nx a=>exact λσ' H' f=>⟨H0,a,r,f,e,q⟩
 |rt b=>cases e;exact q
 |bk a=>cases e;exact q
 |ct a=>cases e;exact q⟩
def FS:Bx->Y Ap
 |.l _=>Y3
 |.n _=>Y3
 |b=>Z (.rt b)
theorem aY(h:QV X e f):Co X (.Return (Z e) pos) (λρ=>(f ρ).bind FS):=⟨have h:=h.run;DU (OK h) λD σ H h=>by
 obtain⟨H0,ρ,r,E,e,q⟩:=h;obtain⟨b,eb,e⟩:=AU e;refine⟨H0,ρ,b,E,eb,λv H1 a g c=>?_⟩;cases b with
 |l ds=>cases e
 |z d=>cases e;exact q v H1 (E.base.trans a) trivial c
 |o ds=>cases e;exact q v H1 (E.base.trans a) (g.old E.base) c
 |n ds=>cases e
 |m ds _=>cases e;exact q v H1 (E.base.trans a) (g.old E.base) c⟩
def Qp(i:Nat)(ρ:Ev):Y Ap:=match ρ[i]? with
 |some (Z b)=>FS b
 |_=>Y3
theorem YS(i:Nat){p:Pos}(k:X.N[i]?=Z x:=by rfl)(j:D9 X.env.scope x:=by first|exact km rfl|exact ja (km Y2)|exact ja (ja Y2))(hd:db x:=by decide)(g:(x==("__classdict__":AK))=false:=by decide):Co X (.Return (Z (.Name x p)) pos) (Qp i):=⟨DU (OK (Ga k j hd g)) λD σ H h=>by
 obtain⟨H0,ρ,r,E,e,q⟩:=h;unfold Qp at e;split at e
 ·rename_i b f;obtain⟨v,e1,c⟩:=E.val i b f;refine⟨v,e1,?_⟩;cases b with
  |l ds=>cases e
  |z d=>cases e;exact q v H E.base trivial c
  |o ds=>cases e;exact q v H E.base (λa ea=>E.new i _ a f Y2 (by rw[e1,ea])) c
  |n ds=>cases e
  |m ds _=>cases e;exact q v H E.base (λa ea=>E.new i _ a f Y2 (by rw[e1,ea])) c
 ·cases e⟩
def yF(p:Ev->Y Bool)(g1 g2:Ev->Y Ap):Ev->Y Ap:=λρ=>(p ρ).bind λk=>if k=true then g1 ρ else g2 ρ
theorem fZ{p:Ev->Y Bool}{u v:O AC}(f:QB X c p)(a:D0 X u g1)(b:D0 X v g2):Co X (.If c u v pos) (yF p g1 g2):=⟨have f:=f.run;have a:=a.run;have b:=b.run;DU (RE f a b) λD σ H h=>by
 obtain⟨H0,ρ,r,E,e,q⟩:=h;obtain⟨k,ek,e⟩:=AU e;refine⟨H0,ρ,k,E,ek,λH1 g=>?_⟩;cases k with
 |true=>rw[zh rfl]at e ⊢;exact⟨H0,ρ,r,E.grow g,e,q⟩
 |false=>rw[zv zC]at e ⊢;exact⟨H0,ρ,r,E.grow g,e,q⟩⟩
theorem BN{l:O α}{x y:α}(h:(l.set i x)[j]?=Z y):(j=i/\y=x/\i<l.length)\/(j≠i/\l[j]?=Z y):=by
 rw[yA]at h;by_cases e:i=j
 ·subst e;rw[zh rfl]at h;split at h
  ·cases h;exact .inl ⟨rfl,rfl,by assumption⟩
  ·cases h
 ·rw[zv e]at h;exact .inr ⟨λz=>e z.symm,h⟩
theorem JG{l:O α}(x:α)(h:i<l.length):(l.set i x)[i]?=Z x:=by
 rw[yA,zh rfl,zh h]
theorem Dw{l:O α}(x:α)(h:j≠i):(l.set i x)[j]?=l[j]?:=by
 rw[yA,zv (k9 h)]
theorem bW.set{H1:Hp}{ρ:Ev}{b:Bx}{v:V}(E:bW K H0 H σ ρ)(s:AW H H1)(r:bH K H1 b v)(w:Ci b=true\/loose b=false)(n:Nw H b v):bW K H0 H1 (σ.set i (Z v)) (ρ.set i (Z b)):=by
 have C:=E.grow s;have D:∀(j:Nat) (g:Bx) (a:A2),ρ[j]?=Z (Z g)->loose g=true->σ[j]?=Z (Z (.ref a))->H a≠Y3:=λj g a e1 e2 e3 z=>by
  obtain⟨I,h,x⟩:=E.val j g e1;rw[e3]at h;cases h;cases g with
  |z d=>cases e2
  |l ds=>
   obtain⟨B,vs,f,q,_⟩:=x;cases f;rcases q with q|⟨o,q⟩<;>(rw[z]at q;cases q)
  |o ds=>
   obtain⟨B,vs,f,q,_⟩:=x;cases f;rw[z]at q;cases q
  |n ds=>
   obtain⟨B,vs,f,q,_⟩:=x;cases f;rcases q with q|⟨o,q⟩<;>(rw[z]at q;cases q)
  |m ds _=>
   obtain⟨B,vs,f,q,_⟩:=x;cases f;rw[z]at q;cases q
 have A:Ci b=true->∀a,v=.ref a->H a=Y3:=λG=>by
  cases b with
  |o ds=>exact n
  |m ds _=>exact n
  |_=>cases G
 refine⟨by rw[kQ,kQ];exact E.len,λj g e=>?_,λj k c a g e1 p e2 e3 h f=>?_,C.base,λj c a e1 p e2=>?_⟩
 ·rcases BN e with⟨rfl,e',hi⟩|⟨u,e'⟩
  ·cases e';exact⟨v,JG _ (by rw[E.len];exact hi),r⟩
  ·rw[Dw _ u];exact C.val j g e'
 ·rcases BN e1 with⟨rfl,e',hi⟩|⟨u,e'⟩
  ·cases e';rw[JG _ (by rw[E.len];exact hi)]at e2;cases e2;rcases BN e3 with⟨rfl,t,_⟩|⟨y,t⟩
   ·rfl
   ·rw[Dw _ y]at f;exact absurd (A p a Y2) (D k g a t h f)
  ·rw[Dw _ u]at e2;rcases BN e3 with⟨rfl,t,hi⟩|⟨y,t⟩
   ·cases t;rw[JG _ (by rw[E.len];exact hi)]at f;cases f;have F:loose c=true:=by cases c<;>first|rfl|cases p
    rcases w with w|w
    ·exact absurd (A w a Y2) (D j _ a e' F e2)
    ·rw[w]at h;cases h
   ·rw[Dw _ y]at f;exact E.own j k c a g e' p e2 t h f
 ·rcases BN e1 with⟨rfl,e',hi⟩|⟨u,e'⟩
  ·cases e';rw[JG _ (by rw[E.len];exact hi)]at e2;cases e2;exact E.base.free (A p a Y2)
  ·rw[Dw _ u]at e2;exact E.new j c a e' p e2
def Go(ρ:Ev)(i:Nat):Bx->Y Ev
 |.l _=>Y3
 |.n _=>Y3
 |b=>Z (ρ.set i (Z b))
theorem mM{H1:Hp}{ρ ρ':Ev}{b:Bx}{v:V}(E:bW K H0 H σ ρ)(s:AW H H1)(r:bH K H1 b v)(n:Nw H b v)(e:Go ρ i b=Z ρ'):bW K H0 H1 (σ.set i (Z v)) ρ':=by
 cases b with
 |l ds=>cases e
 |z d=>cases e;exact E.set s r (.inr Y2) n
 |o d=>cases e;exact E.set s r (.inl Y2) n
 |n ds=>cases e
 |m d _=>cases e;exact E.set s r (.inl Y2) n
theorem bY(i:Nat){p:Pos}(l:X.N.Nodup)(a:QV X e f)(hi:X.N[i]?=Z x:=by rfl)(hx:D6 X.env.scope x:=by first|exact km rfl|exact ja Y2)(hs:swapsWith e (Z (.Name x p)) pos.line X.env=pure false:=by rfl)(m:X.fn x=true\/X.env.scope.names.lookup x=Z .local:=by first|exact .inl rfl|exact .inr Y2):Co X (.Assign [.Name x p] e pos) (λρ=>(f ρ).bind λb=>(Go ρ i b).bind λρ'=>Z (.nx ρ')):=⟨have a:=a.run;DU (X2 l hi hx a hs m) λD σ H h=>by
 obtain⟨H0,ρ,r,E,e,q⟩:=h;obtain⟨b,eb,e⟩:=AU e;obtain⟨ρ',g,e⟩:=AU e;cases e;exact⟨H0,ρ,b,E,eb,λv H1 j c k=>q _ _ (mM E j k c g)⟩⟩
def Lo(σ:L2.St)(ρ:Ev)(σ':L2.St)(ρ':Ev):Prop:=∀(j:Nat) b,loose b=true->ρ'[j]?=Z (Z b)->ρ[j]?=Z (Z b)/\σ'[j]?=σ[j]?
theorem Lo.refl{σ:L2.St}{ρ:Ev}:Lo σ ρ σ ρ:=λ_ _ _ e=>⟨e,rfl⟩
theorem Lo.trans{σ f h:L2.St}{ρ i g:Ev}(a:Lo σ ρ f i)(b:Lo f i h g):Lo σ ρ h g:=λj c l e=>by
 obtain⟨e1,e2⟩:=b j c l e;obtain⟨e3,k⟩:=a j c l e1;exact⟨e3,e2.trans k⟩
theorem Lo.set{ρ:Ev}(i:Nat)(v:V)(d:Dt):Lo σ ρ (σ.set i (Z v)) (ρ.set i (Z (.z d))):=λj b l e=>by
 rcases BN e with⟨rfl,e',_⟩|⟨a,e'⟩
 ·cases e';cases l
 ·exact⟨e',Dw _ a⟩
def OH(K:BA)(g:Dt->Ev->Y Ev):TG:=λv σ H Q=>∃H0 ρ d a,bW K H0 H σ ρ/\AX K H d v/\g d ρ=Z a/\∀ σ',bW K H0 H σ' a->Lo σ ρ σ' a->Q σ' H
def FH(X:Cx)(t:Expr)(g:Dt->Ev->Y Ev):Prop:=PG X t (OH X.K g)
structure Db (X:Cx) (t:Expr) (g:Dt->Ev->Option Ev):Prop where
 run:FH X t g
theorem aK(i:Nat)(a:X.N.Nodup)(hi:X.N[i]?=Z x:=by rfl)(hx:D6 X.env.scope x:=by first|exact km rfl|exact ja Y2)(f:X.fn x=true\/X.env.scope.names.lookup x=Z .local:=by first|exact .inl rfl|exact .inr Y2):Db X (.Name x pos) (λd ρ=>Z (ρ.set i (Z (.z d)))):=⟨λAO s σ H v u Q I r h=>by
 obtain⟨H0,ρ,d,g,E,c,e,q⟩:=h;cases e;exact IW a hi hx f AO s σ H v u Q I r (q _ (E.set (b:=.z d) (AW.refl H) c (.inr Y2) trivial) (Lo.set i v d))⟩
theorem ld(i:Nat)(a:X.N.Nodup:=by show List.Nodup (_++_);decide +kernel)(hi:X.N[i]?=Z x:=by rfl)(hx:D6 X.env.scope x:=by first|exact km rfl|exact ja Y2)(f:X.fn x=true\/X.env.scope.names.lookup x=Z .local:=by first|exact .inl rfl|exact .inr Y2):Db X (.Name x pos) (λd ρ=>Z (ρ.set i (Z (.z d)))):=aK i a hi hx f
def fT(K:BA)(g:O Dt->Ev->Y Ev):EQ:=λvs σ H Q=>∃H0 ρ ds a,bW K H0 H σ ρ/\aP K H ds vs/\g ds ρ=Z a/\∀ σ',bW K H0 H σ' a->Lo σ ρ σ' a->Q σ' H
def rf(X:Cx)(t:O Expr)(g:O Dt->Ev->Y Ev):Prop:=L2.DF X t (fT X.K g)
structure ID (X:Cx) (t:List Expr) (g:List Dt->Ev->Option Ev):Prop where
 run:rf X t g
def qj:O Dt->Ev->Y Ev
 |[],ρ=>Z ρ
 |_,_=>Y3
def bZ(g:Dt->Ev->Y Ev)(gs:O Dt->Ev->Y Ev):O Dt->Ev->Y Ev
 |d::ds,ρ=>(g d ρ).bind (gs ds)
 |_,_=>Y3
theorem jg  :ID X [] qj:=⟨λAO s σ H vs us Q I r h=>by
 obtain⟨H0,ρ,ds,b,E,a,e,q⟩:=h;cases ds with
 |nil=>cases e;unfold aP at a;exact xL AO s σ H vs us Q I r ⟨a,q _ E Lo.refl⟩
 |cons d ds=>cases e⟩
theorem bC{t:Expr}{ts:O Expr}{gt:Dt->Ev->Y Ev}{gs:O Dt->Ev->Y Ev}(h1:Db X t gt)(h2:ID X ts gs)(hs:(assignEach (t::ts) X.env).map (·.2)=assign t X.env::(assignEach ts X.env).map (·.2):=by rfl):ID X (t::ts) (bZ gt gs):=⟨have h1:=h1.run;have h2:=h2.run;λAO s σ H vs us Q I r h=>by
 obtain⟨H0,ρ,ds,m,E,a,e,q⟩:=h;cases ds with
 |nil=>cases e
 |cons d ds=>
  unfold aP at a;obtain⟨v,n,rfl,l,i⟩:=a;simp only[bZ]at e;obtain⟨b,e1,e⟩:=AU e;exact UF h1 h2 hs AO s σ H _ us Q I r ⟨v,n,rfl,H0,ρ,d,b,E,l,e1,λo k f=>⟨H0,b,ds,m,k,i,e,λj g c=>q j g (f.trans c)⟩⟩⟩
def nD(n:Nat)(gs:O Dt->Ev->Y Ev):Dt->Ev->Y Ev
 |.tup ds,ρ=>if ds.length=n then gs ds ρ else Y3
 |_,_=>Y3
theorem mF{ts:O Expr}{gs:O Dt->Ev->Y Ev}(f:X.calm=true)(h:ID X ts gs)(l:(assignEach ts X.env).length=n:=by rfl)(c:(assignEach ts X.env).findIdx? (·.1)=Y3:=by rfl):Db X (.Tuple ts k pos) (nD n gs):=⟨have h:=h.run;λAO s σ H v u Q I r j=>by
 obtain⟨H0,ρ,d,g,E,b,e,q⟩:=j;cases d with
 |tup ds=>
  simp only[nD]at e;split at e
  ·rename_i m;unfold AX at b;obtain⟨a,vs,rfl,i,rs⟩:=b;exact hU f h l c AO s σ H _ u Q I r ⟨a,vs,rfl,i,by rw[rs.length];exact m,H0,ρ,ds,g,E,rs,e,q⟩
  ·cases e
 |_=>cases e⟩
theorem yN{gt:Dt->Ev->Y Ev}(c:QV X e f)(a:Db X tg gt)(hs:swapsWithSole [tg] e pos.line X.env=pure false:=by rfl)(l:swappedStores [tg] e X.env=pure Y3:=by rfl)(h1:(assignEach [tg] X.env).map (·.2)=[assign tg X.env]:=by rfl):Co X (.Assign [tg] e pos) (λρ=>(f ρ).bind λb=>match b with|.z d=>(gt d ρ).bind λρ'=>Z (.nx ρ')|_=>Y3):=⟨have c:=c.run;have a:=a.run;DU (gT c a hs l h1) λD σ H h=>by
 obtain⟨H0,ρ,r,E,e,q⟩:=h;obtain⟨b,eb,e⟩:=AU e;refine⟨H0,ρ,b,E,eb,λv H1 i m k=>?_⟩;cases b with
 |z d=>
  obtain⟨ρ',g,e⟩:=AU e;cases e;exact⟨H0,ρ,d,ρ',E.grow i,k,g,λσ' j _=>q _ _ j⟩
 |_=>cases e⟩
def HR(i j:Nat)(ρ:Ev):O Bx->Y Ap
 |[.z d,.z d']=>Z (.nx ((ρ.set i (Z (.z d))).set j (Z (.z d'))))
 |_=>Y3
theorem OO(i j:Nat){px py pt:Pos}{kt k2 pt2}(m:X.calm=true)(u:X.N.Nodup)(c:YQ X [a,b] fs)(hi:X.N[i]?=Z x:=by rfl)(o:X.N[j]?=Z y:=by rfl)(v:i≠j:=by decide)(hx:X.env.scope.names.lookup x=Z .local:=by rfl)(l:X.env.scope.names.lookup y=Z .local:=by rfl)(s:swappedStores [.Tuple [.Name x px,.Name y py] kt pt] (.Tuple [a,b] k2 pt2) X.env=pure (Z [x,y]):=by rfl)(hs:swapsWithSole [.Tuple [.Name x px,.Name y py] kt pt] (.Tuple [a,b] k2 pt2) pos.line X.env=pure false:=by rfl):Co X (.Assign [.Tuple [.Name x px,.Name y py] kt pt] (.Tuple [a,b] k2 pt2) pos) (λρ=>(fs ρ).bind (HR i j ρ)):=⟨have c:=c.run;DU (NL m u hi o v hx l c s hs) λD σ H h=>by
 obtain⟨H0,ρ,r,E,e,q⟩:=h;obtain⟨bs,eb,e⟩:=AU e;refine⟨H0,ρ,bs,E,eb,λvs H1 g n=>?_⟩;unfold HR at e;split at e
 ·rename_i d k;cases e;cases n with
  |cons p t=>
   cases t with
   |cons p' f=>
    cases f;refine⟨_,_,rfl,q _ _ ?_⟩;exact((E.grow g).set (b:=.z d) (AW.refl H1) p (.inr Y2) trivial).set (b:=.z k) (AW.refl H1) p' (.inr Y2) trivial
 ·cases e⟩
def HU(ρ:Ev)(i:Nat):Bx->Y Ap
 |.z d=>match ρ[i]? with
  |some (Z (.o ds))=>if ds.length<AB then Z (.nx (ρ.set i (Z (.o (ds++[d])))))else Y3
  |_=>Y3
 |_=>Y3
theorem bW.anV{ρ:Ev}{x c1:Bx}{a:A2}{u:HO}(E:bW K H0 H σ ρ)(h:ρ[i]?=Z (Z x))(w:Ci x=true)(hs:σ[i]?=Z (Z (.ref a)))(k:Kp H (BD H a u))(r:bH K (BD H a u) c1 (.ref a)):
  bW K H0 (BD H a u) σ (ρ.set i (Z c1)):=by
 have hi:i<ρ.length:=(bj.mp h).1;have Q:H0 a=Y3:=E.new i x a h w hs;have lo:∀c,Ci c=true->loose c=true:=λc M=>by cases c<;>first|rfl|cases M
 refine⟨by rw[kQ];exact E.len,λj A e=>?_,λj F c f A e1 y e2 e3 I L=>?_,λc o e=>?_,λj c f e1 y e2=>?_⟩
 ·rcases BN e with⟨rfl,e',_⟩|⟨C,e'⟩
  ·cases e';exact⟨_,hs,r⟩
  ·obtain⟨v,e1,t⟩:=E.val j A e';refine⟨v,e1,?_⟩;have B:∀f,v=.ref f->loose A=true->f≠a:=λf ev P z=>by
    subst z;exact C (E.own i j x _ _ h w hs e' P (by rw[e1,ev])).symm
   cases A with
   |z d=>exact AX.kp k t
   |l D=>
    obtain⟨f,s,rfl,q,p⟩:=t;refine⟨f,s,rfl,?_,p.kp k⟩;have g:=B f Y2 rfl;rcases q with q|⟨o,q⟩
    ·exact .inl (by rw[aR g];exact q)
    ·exact .inr ⟨o,by rw[aR g];exact q⟩
   |o D=>
    obtain⟨f,s,rfl,q,p⟩:=t;have g:=B f Y2 rfl;exact⟨f,s,rfl,by rw[aR g];exact q,p.kp k⟩
   |n D=>
    obtain⟨f,s,rfl,q,p⟩:=t;refine⟨f,s,rfl,?_,p.kp k⟩;have g:=B f Y2 rfl;rcases q with q|⟨o,q⟩
    ·exact .inl (by rw[aR g];exact q)
    ·exact .inr ⟨o,by rw[aR g];exact q⟩
   |m D=>
    obtain⟨f,s,rfl,q,p⟩:=t;have g:=B f Y2 rfl;exact⟨f,s,rfl,by rw[aR g];exact q,p.1.kp k,p.2⟩
 ·have G:∀(m:Nat) (b:Bx),(ρ.set i (Z c1))[m]?=Z (Z b)->loose b=true->∃b0,ρ[m]?=Z (Z b0)/\loose b0=true/\(Ci b=true->Ci b0=true):=λm b e l=>by
   rcases BN e with⟨rfl,e',_⟩|⟨C,e'⟩
   ·exact⟨_,h,lo _ w,λ_=>w⟩
   ·exact⟨b,e',l,λz=>z⟩
  obtain⟨b0,q1,q2,q3⟩:=G j _ e1 (lo _ y);obtain⟨b1,N,J,_⟩:=G F _ e3 I;exact E.own j F b0 f b1 q1 (q3 y) e2 N J L
 ·rw[aR (cJ e Q)];exact E.base c o e
 ·rcases BN e1 with⟨rfl,e',_⟩|⟨C,e'⟩
  ·exact E.new _ x f h w e2
  ·exact E.new j c f e' y e2
theorem bW.ab0{ρ:Ev}{ds es:O Dt}{a:A2}{us:O V}(E:bW K H0 H σ ρ)(h:ρ[i]?=Z (Z (.o ds)))(hs:σ[i]?=Z (Z (.ref a)))(b:H a=Z (.lst vs))(r:aP K H es us):
  bW K H0 (BD H a (.lst us)) σ (ρ.set i (Z (.o es))):=E.anV h Y2 hs (.lst b) ⟨a,us,rfl,bK,r.kp (.lst b)⟩
theorem yO(i:Nat){p:Pos}(j:QV X e f)(A:X.N[i]?=Z x:=by rfl)(w:D9 X.env.scope x:=by first|exact km rfl|exact ja (km Y2)|exact ja (ja Y2))(hd:db x:=by decide)(m:(x==("__classdict__":AK))=false:=by decide)(k:AA [e] X.env=[(false,eval e X.env)]:=by rfl)(t:attributeBase (.Name x p) "append" X.env (eval (.Name x p) X.env)=eval (.Name x p) X.env:=by rfl)(s:((AE cpos (AA [e] X.env)).all (λx=>!x.1)&&(backToKw cpos (keywordEach [] X.env)).all (λx=>x.1.isSome)&&decide ([e].length+([]:O AD).length+(if([]:O AD).isEmpty then 0 else 1)<30))=true:=by rfl)(y:(apos.endLine==cpos.line)=true:=by rfl)(hs:swapsWith (.Call (.Attribute (.Name x p) "append" apos) [e] [] cpos) Y3 pos.line X.env=pure false:=by rfl):Co X (.Expr (.Call (.Attribute (.Name x p) "append" apos) [e] [] cpos) pos) (λρ=>(f ρ).bind (HU ρ i)):=⟨have j:=j.run;DU (YF (YM PySem.F.plainAttrs_list PySem.F.slot_list_append PySem.F.type_list_append N7 (Ga (i:=i) A w hd m) (jf j vA (by rw[k]<;>rfl)) t s y (by rw[k]<;>rfl) Y2) hs) λD σ H h=>by
  obtain⟨H0,ρ,r,E,e,q⟩:=h;obtain⟨b,eb,e⟩:=AU e;cases b with
  |z d=>
   simp only[HU]at e;split at e
   ·rename_i ds l;split at e
    ·rename_i B;cases e;obtain⟨v,e1,a,vs,rfl,g,rs⟩:=E.val i _ l;refine⟨_,e1,.inl ⟨rfl,vs,.inl (.inl g)⟩,H0,ρ,_,E,eb,λu H1 c C o=>?_⟩;have n:=E.grow c;refine⟨a,vs,u,rfl,rfl,c _ _ g,by rw[rs.length];exact B,q _ _ ?_⟩;exact n.ab0 l e1 (c _ _ g) ((rs.kp (.of c)).append (aP.cons o aP.nil))
    ·cases e
   ·cases e
  |_=>cases e⟩
end
def MX(x:AK):It:=⟨λi _=>i<x.cps.size,λi H v H'=>H'=H/\∃c,x.cps[i]?=Z c/\v=.str ⟨#[c]⟩,λi _=>x.cps.size<=i⟩
def ij(h:A7)(it:A2)(x:AK)(i:Nat):Prop:=∃t,h.IsStrIter it "str_ascii_iterator" x t i\/h.IsStrIter it "str_iterator" x t i
theorem Tz(it:A2)(x:AK):CS P w K tg (MX x) [it] it (λi h=>ij h it x i) where
 mem:=by simp
 obj:=λi h st b a=>by
  have e:b=it:=by simpa using a
  subst e;obtain⟨t,⟨o,e,c,d⟩|⟨o,e,c,d⟩⟩:=st
  ·exact⟨o,e,λv z=>by rw[d]at z;cases z⟩
  ·exact⟨o,e,λv z=>by rw[d]at z;cases z⟩
 keep:=λi h h' st k=>by
  obtain⟨t,⟨o,e,c⟩|⟨o,e,c⟩⟩:=st
  ·exact⟨t,.inl ⟨o,k it (by simp) o e,c⟩⟩
  ·exact⟨t,.inr ⟨o,k it (by simp) o e,c⟩⟩
 item:=by
  intro X m A n u i AO s σ H E I l st p;subst m A n;obtain⟨f0,f1,f2,f3,f,j⟩:=l it (by simp);have hi:i<x.cps.size:=p;have hx:x.cps[i]?=Z x.cps[i]:=by simp[hi]
  obtain⟨t,st|st⟩:=st
  ·refine wpAny_pyNext_ascii_item st hx λh' g y=>?_;have q:L2.AV X AO σ H { s with heap:=h',toks:=s.toks+1 }:=I.turned (λb o a e=>(y.2 b a).trans e) f0 f1 f3 f j;obtain⟨o,e,c,d⟩:=id g;exact⟨_,rfl,Tj (s:={ s with heap:=h',toks:=s.toks+1 }) e c d () ⟨.str ⟨#[x.cps[i]]⟩,H,q,⟨_,rfl⟩,⟨rfl,_,hx,rfl⟩,⟨t,.inl g⟩,λb a=>(l b a).1⟩⟩
  ·refine wpAny_pyNext_wide_item st hx λh' g y=>?_;have q:L2.AV X AO σ H { s with heap:=h',toks:=s.toks+1 }:=I.turned (λb o a e=>(y.2 b a).trans e) f0 f1 f3 f j;obtain⟨o,e,c,d⟩:=id g;exact⟨_,rfl,Tj (s:={ s with heap:=h',toks:=s.toks+1 }) e c d () ⟨.str ⟨#[x.cps[i]]⟩,H,q,⟨_,rfl⟩,⟨rfl,_,hx,rfl⟩,⟨t,.inr g⟩,λb a=>(l b a).1⟩⟩
 done:=by
  intro X m A n u i AO s σ H E I l st p;subst m A n;obtain⟨f0,f1,f2,f3,f,j⟩:=l it (by simp);have hx:x.cps[i]?=Y3:=by have:x.cps.size<=i:=p;simp[this]
  obtain⟨t,st|st⟩:=st
  ·exact wpAny_pyNext_ascii_end (I.ok.hd u) st hx λh' eb=>⟨rfl,I.turned (t':=s.toks) (λb o a e=>eb b o a e) f0 f1 f3 f j⟩
  ·exact wpAny_pyNext_wide_end (I.ok.hd u) st hx λh' eb=>⟨rfl,I.turned (t':=s.toks) (λb o a e=>eb b o a e) f0 f1 f3 f j⟩
 self:=λ_ _ _ _ _ st h=>by
  obtain⟨t,st|st⟩:=st
  ·exact wpAny_pyIter_striter_ascii st h
  ·exact wpAny_pyIter_striter_wide st h
def hW(K:BA)(tl:TE):TI:=λσ H R=>tl σ H λx H1=>(∃a,x=.ref a/\(∃xs,tH K H1 a xs)/\R (MI K a) H1)\/(∃a,x=.ref a/\(∃xs,wM K H1 a xs)/\R (MS K a) H1)\/∃y,x=.str y/\R (MX y) H1
theorem N0{l:Expr}{tl:TE}(m:PE X l tl):PI X tg l (hW X.K tl):=by
 intro AO s σ H R I h;refine jQ (m AO s σ H _ I h) λv s1 ⟨x,H1,I1,r1,q1⟩=>?_;have c:∀(o:AF) (b:A2),b∈[s1.heap.objs.size]->vQ X AO H1 b:=λo b k=>by
  have e:b=s1.heap.objs.size:=by simpa using k
  subst e;exact I1.Ti (zo _) (I1.hok.fresh (zo _))
 rcases q1 with⟨a,e,⟨xs,f⟩,q⟩|⟨a,e,⟨xs,f⟩,q⟩|⟨y,e,q⟩
 ·subst e;cases r1;obtain⟨AS,j,p,i⟩:=I1.list f;refine wpAny_pyIter_list p.isList ?_;exact⟨s1.heap.objs.size,[s1.heap.objs.size],_,_,H1,rfl,I1.kept (t':=s1.toks) λb o e=>zg _ e,uu a _,⟨_,zD _ rfl,rfl,rfl⟩,c default,q⟩
 ·subst e;cases r1;obtain⟨AS,j,p,i⟩:=I1.tuple f;refine yk (show s1.heap.IsTuple a AS.toArray from p) ?_;exact⟨s1.heap.objs.size,[s1.heap.objs.size],_,_,H1,rfl,I1.kept (t':=s1.toks) λb o e=>zg _ e,WK a _,⟨_,zD _ rfl,rfl,rfl⟩,c default,q⟩
 ·subst e;obtain⟨t,rfl⟩:=r1;cases g:y.cps.all (· < 128)with
  |true=>
   refine wpAny_pyIter_ascii g ?_;exact⟨s1.heap.objs.size,[s1.heap.objs.size],_,_,H1,rfl,I1.kept (t':=s1.toks) λb o e=>zg _ e,Tz _ y,⟨t,.inl ⟨_,zD _ rfl,rfl,rfl⟩⟩,c default,q⟩
  |false=>
   refine wpAny_pyIter_wide g ?_;exact⟨s1.heap.objs.size,[s1.heap.objs.size],_,_,H1,rfl,I1.kept (t':=s1.toks) λb o e=>zg _ e,Tz _ y,⟨t,.inr ⟨_,zD _ rfl,rfl,rfl⟩⟩,c default,q⟩
def B9(K:BA)(J:It)(ds:O Dt)(Hs:Hp):Prop:=∀(i:Nat) (H:Hp),AW Hs H →
 (∀d,ds[i]?=Z d->J.go i H/\∀x H',J.yld i H x H'->AW H H'/\AX K H' d x)/\(ds.length<=i->J.stop i H)
theorem B9.of{ds:O Dt}(h:∀(i:Nat) (H:Hp),AW Hs H →
  (∀d,ds[i]?=Z d->J.go i H/\∀x H',J.yld i H x H'->H'=H/\AX K H d x)/\(ds.length<=i->J.stop i H)):B9 K J ds Hs:=λi H s=>
 ⟨λd e=>⟨((h i H s).1 d e).1,λx H' y=>by
  obtain⟨rfl,r⟩:=((h i H s).1 d e).2 x H' y;exact⟨AW.refl _,r⟩⟩,(h i H s).2⟩
def BS(x:AK):O Dt:=x.cps.toList.map λc=>.str ⟨#[c]⟩
theorem B9.list{ds:O Dt}(h:tH K Hs a vs)(r:aP K Hs ds vs):B9 K (MI K a) ds Hs:=.of λi H s=>by
 have h':=s.seq h;have c:=r.kp (.of s);refine⟨λd e=>?_,λe=>⟨vs,h',by rw[r.length];exact e⟩⟩;obtain⟨v,ev,b⟩:=c.get e;refine⟨⟨vs,v,h',ev⟩,λx H' y=>?_⟩;obtain⟨y1,y2⟩:=y;have:=y2 vs h';rw[ev]at this;cases this;exact⟨y1,b⟩
theorem B9.tup{ds:O Dt}(h:wM K Hs a vs)(r:aP K Hs ds vs):B9 K (MS K a) ds Hs:=.of λi H s=>by
 have h':=(Kp.of s).sqT h;have c:=r.kp (.of s);refine⟨λd e=>?_,λe=>⟨vs,h',by rw[r.length];exact e⟩⟩;obtain⟨v,ev,b⟩:=c.get e;refine⟨⟨vs,v,h',ev⟩,λx H' y=>?_⟩;obtain⟨y1,y2⟩:=y;have:=y2 vs h';rw[ev]at this;cases this;exact⟨y1,b⟩
theorem B9.str(x:AK):B9 K (MX x) (BS x) Hs:=.of λi H s=>by
 refine⟨λd e=>?_,λe=>?_⟩
 ·unfold BS at e;rw[qv]at e;cases h:x.cps.toList[i]? with
  |none=>rw[h]at e;cases e
  |some c=>
   rw[h]at e;cases e;have b:x.cps[i]?=Z c:=by simpa using h
   have hi:i<x.cps.size:=by
    have:=(bj.mp h).1;simpa using this
   refine⟨hi,λv H' y=>?_⟩;obtain⟨y1,c',a,rfl⟩:=y;rw[b]at a;cases a;refine⟨y1,?_⟩;unfold AX;exact⟨rfl,by show(1:Nat)<=AB;decide⟩
 ·have:(BS x).length=x.cps.size:=by simp[BS]
  show x.cps.size<=i;omega
def Qq(lo:Int)(n:Nat):O Dt:=(dc n).map λk=>.int (lo+(k:Nat))
theorem B9.rng(lo:Int)(n:Nat):B9 K (IG lo n) (Qq lo n) Hs:=.of λi H s=>by
 refine⟨λd e=>?_,λe=>?_⟩
 ·unfold Qq at e;rw[qv]at e;by_cases hi:i<n
  ·rw[n3 hi]at e;cases e;refine⟨hi,λv H' y=>?_⟩;obtain⟨y1,y2⟩:=y;refine⟨y1,?_⟩;unfold AX;exact y2
  ·rw[eh (by simp;omega)]at e;cases e
 ·have:(Qq lo n).length=n:=by simp[Qq]
  show n<=i;omega
def iF(K:BA)(f:Ev->Y (O Dt)):TI:=λσ H R=>∃H0 ρ ds,bW K H0 H σ ρ/\f ρ=Z ds/\∀J H',AW H H' →
 (∀Hs,AW Hs H'->(∀a,H a=Y3->Hs a=H' a)->(∀a o u,H' a=Z (.qG o u)->Hs a=H' a)->(∀a vs,H' a=Z (.tup vs)->Hs a=H' a)->B9 K J ds Hs)->R J H'
def L6(X:Cx)(tg iter:Expr)(f:Ev->Y (O Dt)):Prop:=PI X tg iter (iF X.K f)
structure Do (X:Cx) (tg iter:Expr) (f:Ev->Option (List Dt)):Prop where
 run:L6 X tg iter f
def IJ:Bx->Y (O Dt)
 |.z (.lst ds)=>Z ds
 |.z (.tup ds)=>Z ds
 |.z (.str x)=>Z (BS x)
 |.o ds=>Z ds
 |_=>Y3
section
variable{f:Ev->Y Bx}{fs:Ev->Y (O Bx)}
mutual
theorem AX.part{K:BA}{H Hs:Hp}(b:∀a o u,H a=Z (.qG o u)->Hs a=H a)(c:∀a vs,H a=Z (.tup vs)->Hs a=H a):∀{d:Dt} {v:V},AX K H d v->AX K Hs d v
 |.non,_,h=>by simpa only[AX]using h
 |.bl _,_,h=>by simpa only[AX]using h
 |.int _,_,h=>by simpa only[AX]using h
 |.str _,_,h=>by simpa only[AX]using h
 |.tup ds,_,h=>by
  simp only[AX]at h ⊢;obtain⟨a,vs,e,q,r⟩:=h;refine⟨a,vs,e,?_,aP.part b c r⟩;rcases q with (q|⟨o,q⟩)|q
  ·exact .inl (.inl ((c _ _ q).trans q))
  ·exact .inl (.inr ⟨o,(b _ _ _ q).trans q⟩)
  ·exact .inr q
 |.lst ds,_,h=>by
  simp only[AX]at h ⊢;obtain⟨a,vs,e,q,r⟩:=h;refine⟨a,vs,e,?_,aP.part b c r⟩;rcases q with⟨o,q⟩|q
  ·exact .inl ⟨o,(b _ _ _ q).trans q⟩
  ·exact .inr q
 |.emp,_,h=>by
  simp only[AX]at h ⊢;obtain⟨a,o,e,q⟩:=h;exact⟨a,o,e,(b _ _ _ q).trans q⟩
theorem aP.part{K:BA}{H Hs:Hp}(c:∀a o u,H a=Z (.qG o u)->Hs a=H a)(b:∀a vs,H a=Z (.tup vs)->Hs a=H a):∀{ds:O Dt} {vs:O V},aP K H ds vs->aP K Hs ds vs
 |[],_,h=>by simpa only[aP]using h
 |d::ds,_,h=>by
  simp only[aP]at h ⊢;obtain⟨v,r,e,q,t⟩:=h;exact⟨v,r,e,AX.part c b q,aP.part c b t⟩
end
theorem z6(h:QV X e f):Do X tg e (λρ=>(f ρ).bind IJ):=⟨have h:=h.run;λAO s σ H R I q=>by
 refine N0 h AO s σ H R I ?_;obtain⟨H0,ρ,ds,E,e,q⟩:=q;obtain⟨b,eb,e⟩:=AU e;refine⟨H0,ρ,b,E,eb,λv H1 p w i=>?_⟩;cases b with
 |z d=>
  cases d with
  |tup k=>
   cases e;simp only[bH,AX]at i;obtain⟨a,vs,rfl,c,rs⟩:=i;refine .inr (.inl ⟨a,rfl,⟨vs,c⟩,q _ _ p λHs u t g j=>.tup ?_ (rs.part g j)⟩);rcases c with (c|⟨o,c⟩)|c
   ·exact .inl (.inl ((j _ _ c).trans c))
   ·exact .inl (.inr ⟨o,(g _ _ _ c).trans c⟩)
   ·exact .inr c
  |lst k=>
   cases e;simp only[bH,AX]at i;obtain⟨a,vs,rfl,c,rs⟩:=i;refine .inl ⟨a,rfl,⟨vs,c.sq⟩,q _ _ p λHs u t g j=>.list ?_ (rs.part g j)⟩;rcases c with⟨o,c⟩|c
   ·exact .inl (.inr ⟨o,(g _ _ _ c).trans c⟩)
   ·exact .inr c
  |str x=>
   cases e;simp only[bH,AX]at i;obtain⟨rfl,_⟩:=i;exact .inr (.inr ⟨x,rfl,q _ _ p λHs u t g j=>.str x⟩)
  |_=>cases e
 |l k=>cases e
 |n k=>cases e
 |m k=>cases e
 |o k=>
  cases e;obtain⟨a,vs,rfl,c,rs⟩:=i;refine .inl ⟨a,rfl,⟨vs,.inl (.inl c)⟩,q _ _ p λHs u t g j=>.list (.inl (.inl ((t a (w a Y2)).trans c))) (rs.part g j)⟩⟩
def MB:O Bx->Y (O Dt)
 |[.z (.int j)]=>if -(2 ^ 62)<=j/\j<2 ^ 62 then Z (Qq 0 j.toNat)else Y3
 |_=>Y3
theorem lM{p:Pos}(f:Gl X "range")(g:X.mg "range"=Y3)(a:YQ X [e] fs)(hs:AA [e] X.env=[(false,eval e X.env)]:=by rfl):Do X tg (.Call (.Name "range" p) [e] [] pos) (λρ=>(fs ρ).bind MB):=⟨have a:=a.run;λAO s σ H R I q=>by
 refine ua f g a hs AO s σ H R I ?_;obtain⟨H0,ρ,ds,E,e,q⟩:=q;obtain⟨bs,eb,e⟩:=AU e;refine⟨H0,ρ,bs,E,eb,λvs H1 c h=>?_⟩;unfold MB at e;split at e
 ·rename_i j;split at e
  ·rename_i b;cases e;cases h with
   |cons p t=>
    cases t;simp only[bH,AX]at p;subst p;exact⟨j,rfl,b.1,b.2,q _ _ c λHs _ _ _ _=>.rng 0 _⟩
  ·cases e
 ·cases e⟩
def Ih(gt:Dt->Ev->Y Ev)(gb:Ev->Y Ap):O Dt->Ev->Y Ap
 |[],ρ=>Z (.nx ρ)
 |d::ds,ρ=>(gt d ρ).bind λc=>(gb c).bind λr=>match r with
  |.nx a=>Ih gt gb ds a
  |.ct a=>Ih gt gb ds a
  |.bk a=>Z (.nx a)
  |.rt b=>Z (.rt b)
noncomputable def jh(H:Hp)(σ:L2.St)(ρ:Ev):Hp:=λa=>@ite _ (∃(i:Nat) (c:Bx),ρ[i]?=Z (Z c)/\Ci c=true/\σ[i]?=Z (Z (.ref a))) (Classical.propDecidable _) Y3 (H a)
theorem wR{ρ:Ev}:AW (jh H σ ρ) H:=λa o e=>by
 unfold jh at e;split at e
 ·cases e
 ·exact e
theorem bW.rebase{ρ:Ev}(E:bW K Hs H σ ρ)(s:AW H0 Hs):bW K H0 H σ ρ:=⟨E.len,E.val,E.own,s.trans E.base,λi c a e1 b e2=>s.free (E.new i c a e1 b e2)⟩
theorem bW.sans{ρ:Ev}(E:bW K H0 H σ ρ):bW K (jh H σ ρ) H σ ρ:=⟨E.len,E.val,E.own,wR,λi c a e1 b e2=>by
 unfold jh;rw[zh ⟨i,c,e1,b,e2⟩]⟩
theorem bW.sub{ρ:Ev}(E:bW K H0 H σ ρ):AW H0 (jh H σ ρ):=λa o e=>by
 unfold jh;split
 ·rename_i h;obtain⟨i,c,e1,b,e2⟩:=h;rw[E.new i c a e1 b e2]at e;cases e
 ·exact E.base a o e
theorem nF{ρ:Ev}(E:bW K H0 H σ ρ)(h:∀vs,H a≠Z (.lst vs))(h2:∀vs,H a≠Z (.dK vs)):jh H σ ρ a=H a:=by
 unfold jh;split
 ·rename_i g;obtain⟨i,c,e1,f,e2⟩:=g;obtain⟨v,e3,e⟩:=E.val i _ e1;rw[e2]at e3;cases e3;cases c with
  |o ds=>obtain⟨j,vs,b,q,_⟩:=e;cases b;exact absurd q (h vs)
  |m ds _=>obtain⟨j,vs,b,q,_⟩:=e;cases b;exact absurd q (h2 vs)
  |_=>cases f
 ·rfl
theorem Fs.rebase{K:BA}{H0 Hs:Hp}{D:CO}{r:Ap}(s:AW H0 Hs)(h:Fs K H0 D r):Fs K Hs D r:=by
 cases r with
 |nx ρ=>exact λσ H E=>h σ H (E.rebase s)
 |bk ρ=>exact λσ H E=>h σ H (E.rebase s)
 |ct ρ=>exact λσ H E=>h σ H (E.rebase s)
 |rt b=>exact λv H s' n r=>h v H (s.trans s') (n.old s) r
theorem WV{gt:Dt->Ev->Option Ev}{gb:Ev->Option Ap}{ds:O Dt}{H1:Hp}{ρ:Ev}{D:CO}{r:Ap}(l:bW X.K H0 H1 σ ρ)(Y:B9 X.K J ds (jh H1 σ ρ))(e:Ih gt gb ds ρ=Z r)(q:Fs X.K H0 D r):
  ∃W:Nat->Nat->L2.St->Hp->Prop,(∃m,W 0 m σ H1)/\∀i m σ H,W i m σ H →
   (J.stop i H/\D.nx σ H)\/(J.go i H/\∃N:L2.St->Hp->Prop,(∀ σ' H',N σ' H'->∃s,s<m/\W (i+1) s σ' H')/\∀x H',J.yld i H x H'->OH X.K gt x σ H' λc H2=>tG X.K gb { D with nx:=N,ct:=N,bk:=D.nx } c H2):=by
 have o:=l.sans;have q2:=q.rebase l.sub;generalize jh H1 σ ρ=Hs at Y o q2;refine⟨λi m σ' H'=>m=ds.length-i/\i<=ds.length/\∃f,bW X.K Hs H' σ' f/\Ih gt gb (ds.drop i) f=Z r,⟨ds.length,by simp,ZT _,ρ,o,by simpa using e⟩,?_⟩;rintro i m σ' H' ⟨rfl,B,f,g,e'⟩;obtain⟨y1,y2⟩:=Y i H' g.base;by_cases k:i<ds.length
 ·right;have hd:ds[i]?=Z ds[i]:=by simp[k]
  obtain⟨go,w⟩:=y1 _ hd;rw[kK k]at e';simp only[Ih]at e';obtain⟨n,e1,e'⟩:=AU e';obtain⟨p,e2,e'⟩:=AU e';refine⟨go,λc H2=>∃a,bW X.K Hs H2 c a/\Ih gt gb (ds.drop (i+1)) a=Z r,λc H2 ⟨a,h,e3⟩=>⟨ds.length-(i+1),by omega,rfl,k,a,h,e3⟩,λx H2 z=>?_⟩;obtain⟨v,u⟩:=w x H2 z;refine⟨Hs,f,ds[i],n,g.grow v,u,e1,λA h _=>⟨Hs,n,p,h,e2,?_⟩⟩;cases p with
  |nx a=>exact λc y j=>⟨a,j,e'⟩
  |ct a=>exact λc y j=>⟨a,j,e'⟩
  |bk a=>cases e';exact q2
  |rt b=>cases e';exact q2
 ·left;have t:ds.length<=i:=by omega
  refine⟨y2 t,?_⟩;rw[kn t]at e';cases e';exact q2 σ' H' g
theorem qH{fi:Ev->Y (O Dt)}{gt:Dt->Ev->Y Ev}{gb:Ev->Y Ap}(hp:PassesOwn (dl X) X.A X.env X.xe)(t:X.calm=true)(hi:Do X tg iter fi)(g:Db X tg gt)(k:D0 X body gb)(hs:∀x,foldedSetIterable iter X.env x=pure x:=by intro _;rfl):Co X (.For tg iter body [] pos) (λρ=>(fi ρ).bind λds=>Ih gt gb ds ρ):=⟨have hi:=hi.run;have g:=g.run;have k:=k.run;DU (RI hp t hi g k hs) λD σ H h=>by
 obtain⟨H0,ρ,r,E,e,q⟩:=h;obtain⟨ds,B,e⟩:=AU e;refine⟨H0,ρ,ds,E,B,λJ H1 s y=>?_⟩;have j:=E.grow s;refine WV j ?_ e q;refine y _ wR (λa b=>?_) (λa o u b=>nF j (λvs z=>by rw[b]at z;cases z) (λvs z=>by rw[b]at z;cases z)) λa vs b=>nF j (λvs z=>by rw[b]at z;cases z) (λvs z=>by rw[b]at z;cases z);unfold jh;split
 ·rename_i C;obtain⟨i,c,e1,p,e2⟩:=C;obtain⟨v,e3,l⟩:=E.val i _ e1;rw[e2]at e3;cases e3;cases c with
  |o ds=>obtain⟨n,vs,f,q,_⟩:=l;cases f;rw[b]at q;cases q
  |m ds _=>obtain⟨n,vs,f,q,_⟩:=l;cases f;rw[b]at q;cases q
  |_=>cases p
 ·rfl⟩
end
def CF(a:O (AK×A2)):O (AK×A2)->Prop
 |[]=>True
 |(n,c)::r=>a.lookup n=Z c/\CF a r
theorem CF.get{a:O (AK×A2)}:∀{cl:O (AK×A2)},CF a cl->∀{x:AK} {c:A2},cl.lookup x=Z c->a.lookup x=Z c
 |[],_,_,_,e=>by cases e
 |(n,d)::r,h,x,c,e=>by
  rw[y9]at e;by_cases hx:x==n
  ·simp only[hx]at e;cases e;have:x=n:=by simpa using hx
   rw[this];exact h.1
  ·have hx:(x==n)=false:=by simpa using hx
   simp only[hx]at e;exact CF.get h.2 e
structure RA (X:Cx) (scope:Scope) (cl:List (Str×Addr)) (x:Str) (i:Nat):Prop where
 n:X.N[i]?=some x
 k:X.env.kindOf x=some .cell\/X.env.kindOf x=some .free
 k':(relabel scope X.env).names.lookup x=some .cell\/(relabel scope X.env).names.lookup x=some .free
 c:∃c,cl.lookup x=some c
def Mx(X:Cx)(scope:Scope)(cl:O (AK×A2)):B5->O Nat->Prop
 |[],[]=>True
 |x::xs,i::is=>RA X scope cl x i/\Mx X scope cl xs is
 |_,_=>False
theorem Mx.get{X:Cx}{scope:Scope}{cl:O (AK×A2)}:∀{xs:B5} {is:O Nat},Mx X scope cl xs is->xs.length=is.length/\∀(j:Nat) (x:AK),xs[j]?=Z x->∃i,is[j]?=Z i/\RA X scope cl x i
 |[],[],_=>⟨rfl,λj x e=>by simp at e⟩
 |x::xs,i::is,h=>by
  obtain⟨h1,h2⟩:=h;obtain⟨l,g⟩:=Mx.get h2;refine⟨by simp[l],λj y e=>?_⟩;cases j with
  |zero=>simp at e;subst e;exact⟨i,rfl,h1⟩
  |succ j=>obtain⟨k,e1,e2⟩:=g j y (by simpa using e);exact⟨k,by simpa using e1,e2⟩
 |[],_::_,h=>h.elim
 |_::_,[],h=>h.elim
def LS(a:O (AK×NameKind))(x:AK):Bool:=match a.lookup x with
 |some .cell=>true
 |_=>false
def Dy(X:Cx)(a:B5)(scope:Scope)(cl:O (AK×A2))(C:A2)(s₀:A3)(H₀:Hp)(fp:O A2):Cx:=
 { X with N:=a,s₀:=s₀,H₀:=H₀,env:=compEnvC scope (cellsFrom (C+1) scope.names cl) C X.env,outer:=X.stack,ex:=fp,fn:=LS scope.names,pn:=[],xe:=λ_ _=>False }
structure MG (h:Heap) (cs:List (Str×Addr)):Prop where
 inj:∀x y c,cs.lookup x=some c->cs.lookup y=some c->x=y
 cell:∀x c,cs.lookup x=some c->∃v,h.IsCell c v
theorem mR{n:AK}{a:α}{l:O (AK×α)}(h:x≠n):((n,a)::l).lookup x=l.lookup x:=by
 rw[y9,beq_eq_false_iff_ne.mpr h]
theorem KT:∀(j:O (AK×NameKind)) (h:A7) (f:O (AK×A2)),MG h f->MG (pushCells h j) (cellsFrom h.objs.size j f)
 |[],_,_,x=>x
 |(n,k)::r,h,f,x=>by
  unfold pushCells cellsFrom;split
  ·have i:∀y c,f.lookup y=Z c->c≠h.objs.size:=λy c e=>let ⟨_,q⟩:=x.cell y c e;ZO q.lt;have:=KT r (h.push { cls:=.type "cell",data:=.cell Y3 }) ((n,h.objs.size)::f) ⟨λy z c e1 e2=>?_,λy c e=>?_⟩
   ·rwa [Kj]at this
   ·by_cases a:y=n<;>by_cases g:z=n
    ·rw[a,g]
    ·subst a;rw[kq]at e1;rw[mR g]at e2;cases e1;exact absurd Y2 (i _ _ e2)
    ·subst g;rw[kq]at e2;rw[mR a]at e1;cases e2;exact absurd Y2 (i _ _ e1)
    ·rw[mR a]at e1;rw[mR g]at e2;exact x.inj y z c e1 e2
   ·by_cases a:y=n
    ·subst a;rw[kq]at e;cases e;exact⟨Y3,_,zD _ rfl,rfl⟩
    ·rw[mR a]at e;obtain⟨v,q⟩:=x.cell y c e;exact⟨v,q.keeps λb o e=>zg _ e⟩
  ·exact KT r h f x
theorem Dz:∀(b:O (AK×NameKind)) (n:Nat) (a:O (AK×A2)) (x:AK) (c:A2),(cellsFrom n b a).lookup x=Z c->a.lookup x=Z c\/n<=c
 |[],_,_,_,_,e=>.inl e
 |(m,k)::r,n,a,x,c,e=>by
  unfold cellsFrom at e;split at e
  ·rcases Dz r _ _ x c e with h|h
   ·by_cases hx:x=m
    ·subst hx;rw[kq]at h;cases h;exact .inr (zo _)
    ·rw[mR hx]at h;exact .inl h
   ·exact .inr ()
  ·exact Dz r _ _ x c e
theorem Qs:∀(b:O (AK×NameKind)) (n:Nat) (a:O (AK×A2)) (x:AK),(x,NameKind.cell)∉b->(cellsFrom n b a).lookup x=a.lookup x
 |[],_,_,_,_=>rfl
 |(m,k)::r,n,a,x,h=>by
  unfold cellsFrom;have c:(x,NameKind.cell)∉r:=λz=>h (zk _ z);split
  ·rename_i hk;rw[Qs r _ _ x c,mR λz=>h (by rw[z,<-beq_iff_eq.mp hk];exact zr ..)]
  ·exact Qs r _ _ x c
theorem W3:∀(b:O (AK×NameKind)) (n:Nat) (a:O (AK×A2)) (x:AK),((x,NameKind.cell)∈b\/∃c,a.lookup x=Z c)->∃c,(cellsFrom n b a).lookup x=Z c
 |[],_,_,_,h=>h.elim (λz=>by simp at z) λz=>z
 |(m,k)::r,n,a,x,h=>by
  unfold cellsFrom;split
  ·refine W3 r _ _ x ?_;by_cases hx:x=m
   ·exact .inr ⟨n,by rw[hx,kq]⟩
   ·rw[mR hx];exact h.imp_left λz=>(ba.mp z).elim (λz=>absurd (congrArg Prod.fst z) hx) λz=>z
  ·rename_i hk;exact W3 r _ _ x (h.imp_left λz=>(ba.mp z).elim (λz=>by cases z;exact absurd Y2 hk) λz=>z)
theorem kw{g:A2}{Q:Env->A3->Prop}(h:Q (newEnv scope s.heap.objs.size g (cellsFrom (s.heap.objs.size+1) scope.names cl) qual Y3 .none (Z env) builtinsNs) { s with heap:=pushCells (s.heap.push { cls:=.type "dict",data:=.dict #[] }) scope.names }):
  A8 M A (newFunctionEnv scope g cl [] qual Y3 .none (Z env)) Q E s:=by
 simp only[newFunctionEnv,hO,QP];refine zb (wpAny_alloc ?_);refine zb (wpAny_layCells _ (λname a b=>by cases a==NameKind.cell<;>simp) _ _ _ _ ?_);rw[show({ s with heap:=s.heap.push { cls:=.type "dict",data:=.dict #[] } }:A3).heap.objs.size=s.heap.objs.size+1 from Kj ..];rw[List.forIn_nil];exact zb (ze (ze h))
structure wU (X:Cx) (scope:Scope) (cl:List (Str×Addr)) (xs:B5) (is:List Nat):Prop where
 clos:closureFor scope X.env=pure cl
 kind:scope.kind=.function
 cell:∀y∈scope.names,y.2=.cell->cl.lookup y.1=none
 names:∀y∈scope.names,y.2=.local->scope.names.lookup y.1=some .local
 sub:CF X.env.cells cl
 has:∀x,((relabel scope X.env).names.lookup x=some .cell\/(relabel scope X.env).names.lookup x=some .free)->(x,NameKind.cell)∈scope.names\/∃c,cl.lookup x=some c
 cap:Mx X scope cl xs is
def wV(is:O Nat)(σ:L2.St):L2.St:=is.map λi=>(σ[i]?).bind λv=>v
def lH(is:O Nat)(ρ:Ev):Ev:=is.map λi=>Ig ρ i
def C'(n m:Nat)(g:Dt->Ev->Y Ev):Prop:=∀d ρ a,g d ρ=Z a->a.length=ρ.length/\∀j,j<n\/m<=j->a[j]?=ρ[j]?
def IX(n m:Nat)(g:O Dt->Ev->Y Ev):Prop:=∀d ρ a,g d ρ=Z a->a.length=ρ.length/\∀j,j<n\/m<=j->a[j]?=ρ[j]?
theorem bT(h:n<=i:=by decide)(h':i<m:=by decide):C' n m (λd ρ=>Z (ρ.set i (Z (.z d)))):=λd ρ a e=>by
 cases e;exact⟨by rw[kQ],λj b=>Dw _ ()⟩
theorem Jc:IX n m qj:=λd ρ a e=>by
 cases d with
 |nil=>cases e;exact⟨rfl,λ_ _=>Y2⟩
 |cons=>cases e
theorem ql{g:Dt->Ev->Y Ev}{gs:O Dt->Ev->Y Ev}(h:C' n m g)(hs:IX n m gs):IX n m (bZ g gs):=λd ρ l e=>by
 cases d with
 |nil=>cases e
 |cons d ds=>
  simp only[bZ]at e;obtain⟨k,e1,e⟩:=AU e;obtain⟨a,b⟩:=h _ _ _ e1;obtain⟨i,f⟩:=hs _ _ _ e;exact⟨i.trans a,λj c=>(f j c).trans (b j c)⟩
theorem Qt{gs:O Dt->Ev->Y Ev}(hs:IX n m gs):C' n m (nD k gs):=λd ρ a e=>by
 cases d with
 |tup ds=>
  simp only[nD]at e;split at e
  ·exact hs _ _ _ e
  ·cases e
 |_=>cases e
def yP(gt:Dt->Ev->Y Ev)(p:Ev->Y Bool)(fs:Ev->Y (O Dt))(ρ:Ev):O Dt->Y (O Dt)
 |[]=>Z []
 |d::ds=>(gt d ρ).bind λa=>(p a).bind λk=>if k=true then(fs a).bind λys=>(yP gt p fs ρ ds).bind λzs=>Z (ys++zs)else yP gt p fs ρ ds
def LX:Bx->Y (O Dt)
 |.z y=>Z [y]
 |_=>Y3
def Bt(gt:Dt->Ev->Y Ev)(p:Ev->Y Bool)(fe:Ev->Y Bx)(ρ:Ev):O Dt->Y (O Dt):=yP gt p (λρ=>(fe ρ).bind LX) ρ
theorem Gh{b:Bx}{ys:O Dt}(h:LX b=Z ys):∃y,b=.z y/\ys=[y]:=by
 cases b<;>cases h;exact⟨_,rfl,rfl⟩
theorem z7{gt:Dt->Ev->Y Ev}{p:Ev->Y Bool}{fe:Ev->Y Bx}{ρ:Ev}:∀{ds out:O Dt},Bt gt p fe ρ ds=Z out->out.length<=ds.length
 |[],_,e=>by cases e;exact zo _
 |d::ds,out,e=>by
  simp only[Bt,yP]at e;obtain⟨f,_,e⟩:=AU e;obtain⟨k,_,e⟩:=AU e;cases k with
  |false=>
   rw[zv zC]at e;exact zl (z7 (gt:=gt) (p:=p) (fe:=fe) e) (by simp)
  |true=>
   rw[zh rfl]at e;obtain⟨ys,a,e⟩:=AU e;obtain⟨zs,c,e⟩:=AU e;obtain⟨b,_,a⟩:=AU a;obtain⟨y,_,rfl⟩:=Gh a;cases e;simpa using z7 (gt:=gt) (p:=p) (fe:=fe) c
def CA(X:Cx)(ifs:O Expr)(p:Ev->Y Bool):Prop:=(ifs=[]/\p=λ_=>Z true)\/∃c,ifs=[c]/\PB X c p
structure Cj (X:Cx) (ifs:List Expr) (p:Ev->Option Bool):Prop where
 run:CA X ifs p
section
variable{xs:B5}{gt:Dt->Ev->Y Ev}{p:Ev->Y Bool}{fe:Ev->Y Bx}{fi:Ev->Y (O Dt)}
theorem a8{t:Hp}{f:A3}(a:L2.AV X AO σ t f)(O:wU X scope cl xs is)(A:∀b∈fp,vQ X AO t b)(E:∀b∈fp,b<f.heap.objs.size):
  L2.AV (Dy X (xs++ts) scope cl f.heap.objs.size f t fp) [] (wV is σ++bb ts.length Y3) t { f with heap:=pushCells (f.heap.push { cls:=.type "dict",data:=.dict #[] }) scope.names }:=by
 obtain⟨U,N⟩:=O.cap.get;have p:=O.sub;have L:(f.heap.push { cls:=.type "dict",data:=.dict #[] }).objs.size=f.heap.objs.size+1:=Kj ..;have hk:∀b o,f.heap.get? b=Z o->(pushCells (f.heap.push { cls:=.type "dict",data:=.dict #[] }) scope.names).get? b=Z o:=λb o e=>pushCells_keeps _ _ b o (zg _ e);have C:MG (pushCells (f.heap.push { cls:=.type "dict",data:=.dict #[] }) scope.names) (cellsFrom (f.heap.objs.size+1) scope.names cl):=by
  rw[<-L];refine KT _ _ _ ⟨λx y c e1 e2=>a.ok.inj x y c (p.get e1) (p.get e2),λx c e=>?_⟩;obtain⟨v,q⟩:=a.cell x c (p.get e);exact⟨v,q.keeps λb o e=>zg _ e⟩
 have D:∀x c,(cellsFrom (f.heap.objs.size+1) scope.names cl).lookup x=Z c->X.env.cells.lookup x=Z c\/f.heap.objs.size<c:=λx c e=>(Dz _ _ _ x c e).imp_left p.get;refine⟨⟨a.ok.mod,O.kind,a.ok.glob,a.ok.blt,zo _,C.inj,λx hx=>W3 _ _ _ x (O.has x hx),λx c hx e=>?_,a.ok.hd,a.ok.frames,.inl rfl,λb g=>⟨ZO (E b g),λx c e=>?_⟩,a.bs,zl a.ok.bsz a.sz,λb o e g=>?_,λb g G=>?_,a.stack,a.Qc,a.ok.tabs.go a.base.Ce⟩,
  rfl,a.bare,Un.kept hk,⟨_,(Heap.Ns.new f.heap (.type "dict")).keeps (pushCells_keeps _ _),λj x v e1 e2 _=>?_⟩,C.cell,a.hok.fresh (zo _),λx c e=>(D x c e).elim (a.tD x c) λh=>a.hok.fresh (qh h),λq I=>absurd (show q∈([]:List (A2×AF)) from I) (by simp),a.hok.kept hk,?_⟩
 ·refine(Dz _ _ _ x c e).elim (λh=>?_) λh=>qh h;have hx:(x,NameKind.cell)∈scope.names:=by
   have hx:LS scope.names x=true:=hx;unfold LS at hx;split at hx
   ·rename_i q;exact mem_of_lookup q
   ·cases hx
  rw[O.cell _ hx rfl]at h;cases h
 ·rcases D x c e with h|h
  ·exact(A b g).2.2.2.2.1 x c h
  ·exact kG (Nat.lt_trans (E b g) h)
 ·obtain⟨_,_,_,z,_⟩:=A b g;rcases z with z|z
  ·exact a.ok.abJ b o e z
  ·exact absurd (ZH (zI e) (zl a.ok.bsz z)) (kL _)
 ·obtain⟨_,F,W,_⟩:=A b g;rcases ba.mp (a.Qa b G)with z|z
  ·exact F z
  ·exact W z
 ·have B:j<is.length:=by
   by_cases B:j<is.length
   ·exact B
   ·rw[QO (by simp[wV];omega)]at e2;rw[j3]at e2;split at e2<;>cases e2
  have M:xs[j]?=Z x:=by
   have e1:(xs++ts)[j]?=Z x:=e1;rw[qa ()]at e1;exact e1
  obtain⟨i,K,m⟩:=N j x M;have e3:σ[i]?=Z (Z v):=by
   rw[qa (by simp[wV];omega)]at e2;unfold wV at e2;rw[qv,K]at e2;cases q:σ[i]? with
   |none=>rw[ew,q]at e2;cases e2
   |some o=>
    rw[ew,q]at e2;have:o=Z v:=by simpa using e2
    rw[this]
  have J:D9 X.env.scope x:=by
   rcases m.k with k|k
   ·exact .inr (.inl k)
   ·exact .inr (.inr k)
  obtain⟨m',a1,P⟩:=a.loc;obtain⟨u,r,l⟩:=P i x v m.n e3 J;refine⟨u,r,?_⟩;rcases l with⟨k,_⟩|⟨k,c,H,Q⟩
  ·rcases m.k with w|w<;>(rw[k]at w;cases w)
  ·obtain⟨c',s⟩:=m.c;have:=p.get s;rw[H]at this;cases this;refine .inr ⟨m.k',c,(Qs _ _ _ x λz=>by rw[O.cell _ z rfl]at s;cases s).trans s,?_⟩;obtain⟨o,S,hd⟩:=Q;exact⟨o,hk c o S,hd⟩
 ·show(wV is σ++bb ts.length Y3).length=(xs++ts).length;simp[wV,U]
theorem bW.caps{ρ:Ev}(E:bW K H0 H σ ρ)(is:O Nat)(n:Nat):bW K H H (wV is σ++bb n Y3) (lH is ρ++bb n Y3):=by
 have g:∀(j:Nat) c,(lH is ρ++bb n Y3)[j]?=Z (Z c)->Ci c=false:=λj c e=>by
  by_cases h:j<is.length
  ·rw[qa (by simp[lH];omega)]at e;unfold lH at e;rw[qv]at e;cases q:is[j]? with
   |none=>rw[q]at e;cases e
   |some i=>
    rw[q]at e;have:Ig ρ i=Z c:=by simpa using e
    exact Jb this
  ·rw[QO (by simp[lH];omega),j3]at e;split at e<;>cases e
 refine⟨by simp[wV,lH],λj b e=>?_,λj k c a b e f=>absurd f (by rw[g j c e];exact zC),AW.refl H,λj c a e f=>absurd f (by rw[g j c e];exact zC)⟩;by_cases h:j<is.length
 ·rw[qa (by simp[lH];omega)]at e;rw[qa (by simp[wV];omega)];unfold lH at e;unfold wV;rw[qv]at e ⊢;cases q:is[j]? with
  |none=>rw[q]at e;cases e
  |some i=>
   rw[q]at e;have:Ig ρ i=Z b:=by simpa using e
   obtain⟨v,e1,r⟩:=Tv E this;exact⟨v,by simp[e1],r⟩
 ·rw[QO (by simp[lH];omega),j3]at e;split at e<;>cases e
theorem bW.forget{ρ ρ':Ev}(E:bW K H0 H σ ρ')(l:ρ'.length=ρ.length)(h:∀(j:Nat) b,ρ[j]?=Z (Z b)->ρ'[j]?=Z (Z b)):bW K H0 H σ ρ:=
 ⟨E.len.trans l,λj b e=>E.val j b (h j b e),λi j c a b e1 f e2 e3 g k=>E.own i j c a b (h _ _ e1) f e2 (h _ _ e3) g k,E.base,λi c a e1 f e2=>E.new i c a (h _ _ e1) f e2⟩
structure ED (Hb:Hp) (σ:L2.St) (ρ:Ev) (n:Nat):Prop where
 own:∀(j:Nat) c,ρ[j]?=some (some c)->Ci c=false
 lt:∀(j:Nat) b,ρ[j]?=some (some b)->j<n
 old:∀(j:Nat) c a,ρ[j]?=some (some c)->loose c=true->σ[j]?=some (some (.ref a))->Hb a≠none
def Fx(σ σ':L2.St)(ρ:Ev):Prop:=∀(j:Nat) c,loose c=true->ρ[j]?=Z (Z c)->σ'[j]?=σ[j]?
theorem ED.fx{b:Hp}{σ':L2.St}{ρ:Ev}(P:ED b σ ρ n)(f:Fx σ σ' ρ):ED b σ' ρ n:=⟨P.own,P.lt,λj c a e g ea=>P.old j c a e g (by rw[<-f j c g e];exact ea)⟩
theorem EO{ρ:Ev}(E:bW K H0 H σ ρ)(j:Nat)(c:Bx)(a:A2)(e:ρ[j]?=Z (Z c))(h:loose c=true)(ea:σ[j]?=Z (Z (.ref a))):H a≠Y3:=λz=>by
 obtain⟨v,e1,b⟩:=E.val j _ e;rw[ea]at e1;cases e1;cases c with
 |z d=>cases h
 |l f=>
  obtain⟨g,vs,e2,q,_⟩:=b;cases e2;rcases q with q|⟨o,q⟩<;>(rw[z]at q;cases q)
 |n f=>
  obtain⟨g,vs,e2,q,_⟩:=b;cases e2;rcases q with q|⟨o,q⟩<;>(rw[z]at q;cases q)
 |o f=>
  obtain⟨g,vs,e2,q,_⟩:=b;cases e2;rw[z]at q;cases q
 |m f _=>
  obtain⟨g,vs,e2,q,_⟩:=b;cases e2;rw[z]at q;cases q
theorem bW.grown{g:Hp}{ρ:Ev}(E:bW K g H σ ρ)(P:ED g σ ρ n)(s:g D=Y3)(kp:Kp H (BD H D o)):bW K g (BD H D o) σ ρ:=by
 refine⟨E.len,λj b e=>?_,λj k c a b e h=>absurd h (by rw[P.own j c e];exact zC),λc o e=>?_,λj c a e h=>absurd h (by rw[P.own j c e];exact zC)⟩
 ·obtain⟨v,ev,p⟩:=E.val j b e;refine⟨v,ev,?_⟩;cases b with
  |z d=>exact AX.kp kp p
  |o i=>have:=P.own j _ e;cases this
  |m i _=>have:=P.own j _ e;cases this
  |n i=>
   obtain⟨a,vs,rfl,q,t⟩:=p;refine⟨a,vs,rfl,?_,t.kp kp⟩;have f:a≠D:=λz=>P.old j _ _ e Y2 ev (by rw[z];exact s);exact q.imp (λq=>by rw[aR f];exact q) λ⟨o,q⟩=>⟨o,by rw[aR f];exact q⟩
  |l i=>
   obtain⟨a,vs,rfl,q,t⟩:=p;refine⟨a,vs,rfl,?_,t.kp kp⟩;have f:a≠D:=λz=>P.old j _ _ e Y2 ev (by rw[z];exact s);exact q.imp (λq=>by rw[aR f];exact q) λ⟨o,q⟩=>⟨o,by rw[aR f];exact q⟩
 ·rw[aR (cJ e s)];exact E.base c o e
def W4(X:Cx)(el:A2->Env->Sem Unit)(fs:Ev->Y (O Dt))(Ac:A2->Hp->O Dt->HO->Prop)(N n:Nat):Prop:=∀(AO:O (A2×AF)) (s:A3) (σ:L2.St) (H a:Hp) (ρ:Ev) (D:A2) (o:HO) (b ys:O Dt),L2.AV X AO σ H s->bW X.K a H σ ρ->ED a σ ρ n->a D=Y3->fs ρ=Z ys->H D=Z o->Ac D H b o->b.length+ys.length<=N →
 A8 (dl X) X.A (el D X.env) (λ_ s'=>∃ σ' H' o',L2.AV X AO σ' H' s'/\bW X.K a H' σ' ρ/\Fx σ σ' ρ/\H' D=Z o'/\Ac D H' (b++ys) o') X.xe s
theorem Pw{fs:Ev->Y (O Dt)}{Ac:A2->Hp->O Dt->HO->Prop}{N:Nat}(h:∀(AO:O (A2×AF)) (s:A3) (σ:L2.St) (H c:Hp) (ρ:Ev) (D:A2) (o:HO) (b ys:O Dt),L2.AV X AO σ H s->bW X.K c H σ ρ->fs ρ=Z ys->H D=Z o->Ac D H b o->b.length+ys.length<=N →
  A8 (dl X) X.A (el D X.env) (λ_ s'=>∃a o',L2.AV X AO σ (BD a D o') s'/\AW H a/\Kp a (BD a D o')/\Ac D (BD a D o') (b++ys) o') X.xe s):W4 X el fs Ac N n:=λAO s σ H c ρ D o b ys I E P e e1 e2 a1 l=>by
 refine qA (h AO s σ H c ρ D o b ys I E e1 e2 a1 l) (λ_ s' ⟨a,o',I',s9,kp,a'⟩=>?_) λ_ _ z=>z;exact⟨σ,_,o',I',(E.grow s9).grown P e kp,λ_ _ _ _=>Y2,bK,a'⟩
structure YT (B:Around->Bool->Prop) (P:Program) (w:World) (K:BA) (tg:Expr) (J:It) (fp:List Addr) (it:Addr) (tn:Nat->Heap->Prop):Prop where
 obj:∀i h,tn i h->∀b∈fp,∃o,h.get? b=some o/\∀v,o.data≠.cell v
 keep:∀i h h',tn i h->(∀b∈fp,∀o,h.get? b=some o->h'.get? b=some o)->tn i h'
 item:∀(X:Cx),X.prog=P->X.w=w->X.K=K->B X.A X.calm->∀(i:Nat) (AO:List (Addr×Obj)) (s:Shared) (σ:L2.St) (H:Hp) (E:BO),L2.AV X AO σ H s->(∀b∈fp,vQ X AO H b)->tn i s.heap->J.go i H →
  wpAny (model P w) X.A (pyNext (.ref it)) (λr s1=>∃u,r=some u ∧
   wpAny (model P w) X.A (letOwnedTupleGo tg (.ref it) u) (λ_ s2=>∃x H',L2.AV X AO σ H' s2/\B6 x u/\J.yld i H x H'/\tn (i+1) s2.heap/\∀b∈fp,H' b=none) E s1) E s
 done:∀(X:Cx),X.prog=P->X.w=w->X.K=K->B X.A X.calm->∀(i:Nat) (AO:List (Addr×Obj)) (s:Shared) (σ:L2.St) (H:Hp) (E:BO),L2.AV X AO σ H s->(∀b∈fp,vQ X AO H b)->tn i s.heap->J.stop i H →
  wpAny (model P w) X.A (pyNext (.ref it)) (λr s1=>r=none/\L2.AV X AO σ H s1) E s
 self:∀(A:Around) (i:Nat) (s:Shared) (Q:BO) (E:BO),tn i s.heap->Q (.ref it) s->wpAny (model P w) A (pyIter (.ref it)) Q E s
abbrev Oa:A6->Bool->Prop:=λ_ c=>c=true
theorem TF(T:CS P w K tg J fp it tn):YT Oa P w K tg J fp it tn:=⟨T.obj,T.keep,T.item,T.done,T.self⟩
theorem Ob{comp:Expr}{d:Nat}{g1:Pos}{Ac:A2->Hp->O Dt->HO->Prop}{fs:Ev->Option (O Dt)}{N:Nat}{l:Hp}{ds o0 out:O Dt}{ρ:Ev}{R:Result->A3->Prop}(c5:B X.A X.calm)(hx:X.xe=λ_ _=>False)(TJ:FH X tgt gt)(g3:CA X ifs p)(e0:W4 X el fs Ac N m)(e6:C' n m gt)(g0:n<=m)(I:L2.AV X AO σ H s)(E:bW X.K l H σ ρ)(P:ED l σ ρ n)(hD:l D=Y3)(f4:H D=Z o)(hA:Ac D H o0 o)(T:YT B X.prog X.w X.K tgt J fp it tn)(st:tn 0 s.heap)(hf:∀b∈fp,vQ X AO H b)(Y:B9 X.K J ds l)(f5:yP gt p fs ρ ds=Z out)(hN:o0.length+out.length<=N)(b0:∀{D:A2} {H H':Hp} {C:O Dt} {o:HO},Kp H H'->Ac D H C o->Ac D H' C o)(f2:∀(it:A0) (D:A2) (env:Env),compTurn comp d it (.ref D) env=(standAt g1 >>= λ_=>pyNext it >>= λr=>match r with
   |none=>pure (.done .next)
   |some v=>letOwnedTupleGo tgt it v >>= λ_=>assign tgt env v >>= λ_=>(forIn ifs true λc r=>if r=true then isTrue c env (eval c env) >>= λok=>pure (ForInStep.yield ok)else pure (ForInStep.yield r)) >>= λok=>if ok=true then el D env >>= λ_=>again (.compLoop comp d it (.ref D) env)else again (.compLoop comp d it (.ref D) env)))(f1:∀{it b3:A0} {env:Env} {Q:Fin->A3->Prop} {E:BO} {s:A3},A8 (dl X) X.A ((compTurn comp d it b3 env).onRaise (λx=>noteFrame x env >>= λ_=>theTreesLotGoes x)) Q E s->A8 (dl X) (X.A.under (.compLoop comp d it b3 env)) ((dl X).den (.compLoop comp d it b3 env)) Q E s)(hR:∀s' σ' H' o',L2.AV X AO σ' H' s'->bW X.K l H' σ' ρ->Fx σ σ' ρ->H' D=Z o'->Ac D H' (o0++out) o'->R (.ok .next) s'):
  AG (dl X) X.A (.compLoop comp d (.ref it) (.ref D) X.env) R s:=by
 have a7:∀{H':Hp},(∀b∈fp,H' b=Y3)->∀b∈fp,vQ X AO H' b:=λ{H'} hn b t=>⟨hn b t,(hf b t).2⟩;refine codeAny_loop Y2 (λk s'=>∃(i:Nat) (σ':L2.St) (H':Hp) (C o2:O Dt) (o:HO),k=ds.length-i/\i<=ds.length/\L2.AV X AO σ' H' s'/\tn i s'.heap/\(∀b∈fp,H' b=Y3)/\bW X.K l H' σ' ρ/\Fx σ σ' ρ/\H' D=Z o/\Ac D H' C o/\yP gt p fs ρ (ds.drop i)=Z o2/\C++o2=o0++out) ?_ ds.length
  ⟨0,σ,H,o0,out,o,by simp,ZT _,I,st,λb t=>(hf b t).1,E,λ_ _ _ _=>Y2,f4,hA,by simpa using f5,rfl⟩
 rintro k s4 ⟨i,a3,H4,C,o2,o,rfl,hi,I4,d0,b6,E4,F4,a4,U,g,W⟩;have P4:=P.fx F4;refine f1 (wpAny_noted ?_);rw[f2];obtain⟨y1,y2⟩:=Y i H4 E4.base;by_cases a6:i<ds.length
 ·have hd:ds[i]?=Z ds[i]:=by simp[a6]
  obtain⟨go,yl⟩:=y1 _ hd;rw[kK a6]at g;simp only[yP]at g;obtain⟨y,e1,g⟩:=AU g;obtain⟨k,ek,g⟩:=AU g;obtain⟨f0,b4⟩:=e6 _ _ _ e1;have d1:∀{a1:L2.St} {H5:Hp},bW X.K l H5 a1 y->bW X.K l H5 a1 ρ:=λE5=>E5.forget f0 λj b e=>by rw[b4 j (.inl (P.lt j b e))];exact e
  refine zb (QU (zb ?_));refine jQ (T.item X Y2 Y2 Y2 c5 i AO s4 a3 H4 _ I4 (a7 b6) d0 go) λr s5 ⟨u,hr,h5⟩=>?_;subst hr;refine zb (jQ h5 λ_ s6 ⟨x,H6,I6,r6,y6,G2,fr6⟩=>?_);obtain⟨sm,rx⟩:=yl x H6 y6;have E4:=E4.grow sm;have a4:=sm _ _ a4;have U:=b0 (.of sm) U;have e9:=I6.pinned (a7 fr6) (T.obj _ _ G2);have ha:=TJ _ s6 a3 H6 x u (λσ' H'=>H'=H6/\bW X.K l H6 σ' y/\Lo a3 ρ σ' y) e9 r6 ⟨l,ρ,ds[i],y,E4,rx,e1,λσ' E' L'=>⟨rfl,E',L'⟩⟩;rw[hx]at ha;refine zb (qA ha (λ_ s7 h7=>?_) λ_ _ z=>z.elim);obtain⟨S,H7,I7,rfl,E7,L7⟩:=h7;have P7:ED l S y m:=by
   refine⟨λj c e=>?_,λj c e=>?_,λj c a e F ea=>?_⟩
   ·cases c with
    |o ds=>exact P.own j _ (L7 j _ Y2 e).1
    |m ds _=>exact P.own j _ (L7 j _ Y2 e).1
    |_=>rfl
   ·refine Nat.lt_of_not_le λh=>?_;rw[b4 j (.inr h)]at e;exact absurd (ZH (P.lt j c e) g0) (nq.mpr h)
   ·obtain⟨e',ee⟩:=L7 j c F e;exact P4.old j c a e' F (by rw[<-ee];exact ea)
  have c4:∀{a1:L2.St},Fx S a1 y->Fx σ a1 ρ:=λf j c F e=>by
   have e':y[j]?=Z (Z c):=by rw[b4 j (.inl (P.lt j c e))];exact e
   exact(f j c F e').trans ((L7 j c F e').2.trans (F4 j c F e))
  have ht:A8 (dl X) X.A (forIn ifs true λc r=>if r=true then do let ok <-isTrue c X.env (eval c X.env);pure (ForInStep.yield ok)else pure (ForInStep.yield r))
    (λok M=>ok=k/\∃q,L2.AV X (AO++Gf fp s6.heap) S q M/\AW H7 q) (notedBy (dl X) X.A X.env λe s'=>R (.error e) s') s7:=by
   rcases g3 with⟨rfl,rfl⟩|⟨c,rfl,hc⟩
   ·cases ek;exact wpAny_tests_nil ⟨rfl,H7,I7,AW.refl H7⟩
   ·refine wpAny_tests_one ?_;have:=hc _ s7 S H7 (λb q=>b=k/\AW H7 q) I7 ⟨l,y,k,E7,ek,λq M=>⟨rfl,M⟩⟩;rw[hx]at this;exact qA this (λb M ⟨q,I8,eb,s8'⟩=>⟨eb,q,I8,s8'⟩) λ_ _ z=>z.elim
  refine zb (qA ht (λok M h8=>?_) λ_ _ z=>z);obtain⟨rfl,q,I8,L⟩:=h8;have c0:∀{a2:L2.St} {G:Hp} {s9:A3},L2.AV X (AO++Gf fp s6.heap) a2 G s9->L2.AV X AO a2 G s9/\tn (i+1) s9.heap/\∀b∈fp,G b=Y3:=λ{a2 G s9} I9=>by
   refine⟨I9.vR,T.keep _ _ _ G2 λb t o e=>(I9.pin (b,o) (ZN _ (ZN _ (wO t e)))).1,λb t=>?_⟩;obtain⟨o,e,d⟩:=T.obj _ _ G2 b t;exact(I9.pin (b,o) (ZN _ (ZN _ (wO t e)))).2.1
  cases ok with
  |false=>
   rw[zv zC]at g;obtain⟨I9,g6,g4⟩:=c0 I8;exact ze ⟨rfl,ds.length-(i+1),by omega,i+1,S,q,C,o2,o,rfl,a6,I9,g6,g4,d1 (E7.grow L),c4 (λ_ _ _ _=>Y2),L _ _ a4,b0 (.of L) U,g,W⟩
  |true=>
   rw[zh rfl]at g;obtain⟨ys,eb,g⟩:=AU g;obtain⟨zs,e5,g⟩:=AU g;cases g;have F:=congrArg dC W;simp only[zt]at F;have he:=e0 _ M S q l y D o C ys I8 (E7.grow L) P7 hD eb (L _ _ a4) (b0 (.of L) U) ();rw[hx]at he;refine zb (qA he (λ_ h0 e7=>?_) λ_ _ z=>z.elim);obtain⟨a2,G,o',e3,E9,F9,e2,a5⟩:=e7;obtain⟨d2,f3,g2⟩:=c0 e3;exact ze ⟨rfl,ds.length-(i+1),by omega,i+1,a2,G,C++ys,zs,o',rfl,a6,d2,f3,g2,d1 E9,c4 F9,e2,a5,e5,by rw[Zp];exact W⟩
 ·have b5:ds.length<=i:=by omega
  rw[kn b5]at g;cases g;refine zb (QU (zb ?_));refine jQ (T.done X Y2 Y2 Y2 c5 i AO s4 a3 H4 _ I4 (a7 b6) d0 (y2 b5)) λr s5 ⟨hr,I5⟩=>?_;subst hr;rw[qS]at W;exact ze (hR s5 a3 H4 o I5 E4 F4 a4 (by rw[<-W];exact U))
theorem Oc{R:Result->A3->Prop}{d:Nat}{i:Expr}{it a:A0}(f:(clausesOf e)[d]?=Z ⟨i,iter,ifs,0⟩)(hd:∀{Q:Fin->A3->Prop} {E:BO},A8 (A9 prog w) A ((compStart e d it a env).onRaise (λx=>do noteFrame x env;standAt theWindowsPlace)) Q E s->A8 (A9 prog w) (A.under (.compStart e d it a env)) ((A9 prog w).den (.compStart e d it a env)) Q E s)(b:Code.quiet (.compLoop e d it a env)=true:=by rfl)(g:AG (A9 prog w) A (.compLoop e d it a env) R s)(h:A8 (A9 prog w) A (pyIter it) (λc s'=>AG (A9 prog w) A (.compLoop e d c a env) R s') (notedBy (A9 prog w) A env λx s'=>R (.error x) s') s):
  AG (A9 prog w) A (.compStart e d it a env) R s:=by
 refine codeAny_of_tree (hd ?_);refine wpAny_notedAt ?_;unfold compStart;rw[f];show A8 _ _ (ask >>= _) _ _ s;refine zb (wpAny_askSetting (wpAny_ite ?_));split
 ·exact ze (And.intro b g)
 ·refine zb (QN ?_);show A8 _ _ (standAt iter.pos >>= _) _ _ s;exact zb (QU (zb (qA h (λc s' h'=>ze (And.intro b h')) λ_ _ x=>x)))
def G7(H:Hp)(D:A2):Hp:=λb=>if b=D then Y3 else H b
theorem yQ{b:A2}(h:b≠D):G7 H D b=H b:=zv h
theorem JH:AW (G7 H D) H:=λb o e=>by
 by_cases h:b=D
 ·rw[G7,zh h]at e;cases e
 ·rw[yQ h]at e;exact e
theorem bW.onto{f b:Hp}{ρ:Ev}(E:bW K f H σ ρ)(P:∀(j:Nat) c,ρ[j]?=Z (Z c)->Ci c=false)(s:AW b H):bW K b H σ ρ:=
 ⟨E.len,E.val,E.own,s,λj c a e g=>absurd g (by rw[P j c e];exact zC)⟩
def E8(fi:Ev->Y (O Dt))(gt:Dt->Ev->Y Ev)(p:Ev->Y Bool)(fs:Ev->Y (O Dt)):Ev->Y (O Dt):=λρ=>(fi ρ).bind λds=>yP gt p fs ρ ds
theorem TQ{comp:Expr}{d:Nat}{Ac:A2->Hp->O Dt->HO->Prop}{fs:Ev->Option (O Dt)}{N:Nat}(a6:X.calm=true)(hx:X.xe=λ_ _=>False)(hi:L6 X tgt iter fi)(TJ:FH X tgt gt)(b4:CA X ifs p)(a4:W4 X el fs Ac N m)(a3:C' n m gt)(W:n<=m)(G:∀{D:A2} {H H':Hp} {g:O Dt} {o:HO},Kp H H'->Ac D H g o->Ac D H' g o)(C:∀{D:A2} {H:Hp} {g:O Dt} {o:HO},Ac D H g o->(∀F u,o≠.qG F u)/\∀vs,o≠.tup vs)(hs:∀x,foldedSetIterable iter X.env x=pure x)(a5:∀(it:A0) (D:A2) (env:Env),compTurn comp d it (.ref D) env=(standAt iter.pos >>= λ_=>pyNext it >>= λr=>match r with
   |none=>pure (.done .next)
   |some v=>letOwnedTupleGo tgt it v >>= λ_=>assign tgt env v >>= λ_=>(forIn ifs true λc r=>if r=true then isTrue c env (eval c env) >>= λok=>pure (ForInStep.yield ok)else pure (ForInStep.yield r)) >>= λok=>if ok=true then el D env >>= λ_=>again (.compLoop comp d it (.ref D) env)else again (.compLoop comp d it (.ref D) env)))(b0:∀{it f:A0} {env:Env} {R:Result->A3->Prop} {s:A3},AG (dl X) X.A (.compLoop comp d it f env) R s->A8 (dl X) X.A (pyIter it) (λa2 s'=>AG (dl X) X.A (.compLoop comp d a2 f env) R s') (notedBy (dl X) X.A env λx s'=>R (.error x) s') s->AG (dl X) X.A (.compStart comp d it f env) R s)(a1:∀{it f:A0} {env:Env} {Q:Fin->A3->Prop} {E:BO} {s:A3},A8 (dl X) X.A ((compTurn comp d it f env).onRaise (λx=>noteFrame x env >>= λ_=>theTreesLotGoes x)) Q E s->A8 (dl X) (X.A.under (.compLoop comp d it f env)) ((dl X).den (.compLoop comp d it f env)) Q E s):
  W4 X (λD env=>do let x <-eval iter env;standAt iter.pos;let x <-foldedSetIterable iter env x;let _ <-runOwn (.compStart comp d (<-holding [x] (pyIter x)) (.ref D) env) env) (E8 fi gt p fs) Ac N n:=by
 intro AO s σ H L ρ D o g ys I E P hD e M l q;obtain⟨ds,ed,e⟩:=AU e;refine zb (qA (hi AO s σ H (λJ H'=>AW H H'/\∀Hs,AW Hs H'->(∀a,H a=Y3->Hs a=H' a)->(∀a o u,H' a=Z (.qG o u)->Hs a=H' a)->(∀a vs,H' a=Z (.tup vs)->Hs a=H' a)->B9 X.K J ds Hs) I ⟨L,ρ,ds,E,ed,λJ H' s' y=>⟨s',y⟩⟩) (λv s1 h1=>?_) λ_ _ z=>z);refine zb (QU (zb (wpAny_of_eq (hs v) (zb (ko (qA h1 (λb5 s2 h2=>?_) λ_ _ z=>z))))));obtain⟨it,fp,tn,J,H2,rfl,I2,T,st,hf,i,Y⟩:=h2;have k:=i _ _ M;have b3:=G (.of i) l;have Yb:B9 X.K J ds (G7 H2 D):=Y _ JH (λa b=>yQ λz=>by rw[z,M]at b;cases b) (λa F u b=>yQ λz=>by rw[z,k]at b;cases b;exact(C l).1 _ _ Y2) λa vs b=>yQ λz=>by rw[z,k]at b;cases b;exact(C l).2 _ rfl
 have S:AW L (G7 H2 D):=λa u ea=>by rw[yQ (cJ ea hD)];exact i _ _ (E.base _ _ ea)
 have E2:bW X.K (G7 H2 D) H2 σ ρ:=(E.grow i).onto P.own JH;have P2:ED (G7 H2 D) σ ρ n:=⟨P.own,P.lt,λj c a U q ea z=>P.old j c a U q ea (S.free z)⟩;have lp:∀{R:Result->A3->Prop},(∀s' σ' H' o',L2.AV X AO σ' H' s'->bW X.K (G7 H2 D) H' σ' ρ->Fx σ σ' ρ->H' D=Z o'->Ac D H' (g++ys) o'->R (.ok .next) s')->AG (dl X) X.A (.compStart comp d (.ref it) (.ref D) X.env) R s2:=λhR=>
  have h:=Ob (B:=Oa) a6 hx TJ b4 a4 a3 W I2 E2 P2 (zh Y2) k b3 (TF T) st hf Yb e q G a5 a1 hR
  b0 h (T.self _ 0 _ _ _ st h)
 exact zb (wpAny_runOwn (lp λs' σ' H' o' I' t F' a7 a'=>ze ⟨σ',H',o',I',t.onto P.own (S.trans t.base),F',a7,a'⟩))
theorem Gi{comp:Expr}{mk:Sem A0}{o0:AF}{O0:HO}{Ac:A2->Hp->List Dt->HO->Prop}{fs:Ev->Option (List Dt)}{N:Nat}{H2:Hp}{a:A3}{ds out:List Dt}{ρ:Ev}(O:wU X scope cl xs is)(c5:B X.A X.calm)(TJ:∀C n t fp,FH (Dy X (xs++ts) scope cl C n t fp) tgt gt)(e3:∀C n t fp,CA (Dy X (xs++ts) scope cl C n t fp) ifs p)(d2:∀C n t fp,W4 (Dy X (xs++ts) scope cl C n t fp) el fs Ac N m)(b4:C' is.length m gt)(a4:is.length<=m)(W:L2.AV X AO σ H2 a)(Ec:bW X.K H2 H2 (wV is σ++bb ts.length Y3) (lH is ρ++bb ts.length Y3))(T:YT B X.prog X.w X.K tgt J fp it tn)(st:tn 0 a.heap)(S:∀b∈fp,vQ X AO H2 b)(Y:B9 X.K J ds H2)(e6:yP gt p fs (lH is ρ++bb ts.length Y3) ds=Z out)(c4:out.length<=N)(b3:∀(D C:A2) (s':A3) (H':Hp) (o:HO),H2 D=Y3->L2.AV X AO σ H' s'->vQ X AO H' C->(∃m,s'.heap.Ns C m)->AW H2 H'->H' D=Z o->Ac D H' out o->RR (.ref D) C (.ok .next) s')(d0:∀{Q:BO},Q (.ref a.heap.objs.size) { a with heap:=a.heap.push o0 }->A8 (dl X) X.A mk Q E a)(e2:∀H,jx X.prog X.w H (a.heap.push o0) a.heap.objs.size O0)(a6:∀H,Ac a.heap.objs.size H [] O0)(c0:∀{D:A2} {H H':Hp} {L:List Dt} {o:HO},Kp H H'->Ac D H L o->Ac D H' L o)(b6:∀(it:A0) (D:A2) (env:Env),compTurn comp 0 it (.ref D) env=(standAt iter.pos >>= λ_=>pyNext it >>= λr=>match r with
   |none=>pure (.done .next)
   |some v=>letOwnedTupleGo tgt it v >>= λ_=>assign tgt env v >>= λ_=>(forIn ifs true λc r=>if r=true then isTrue c env (eval c env) >>= λok=>pure (ForInStep.yield ok)else pure (ForInStep.yield r)) >>= λok=>if ok=true then el D env >>= λ_=>again (.compLoop comp 0 it (.ref D) env)else again (.compLoop comp 0 it (.ref D) env)))(e1:∀{it k:A0} {env:Env} {R:Result->A3->Prop} {s:A3},AG (dl X) X.A (.compLoop comp 0 it k env) R s->A8 (dl X) X.A (pyIter it) (λb0 s'=>AG (dl X) X.A (.compLoop comp 0 b0 k env) R s') (notedBy (dl X) X.A env λx s'=>R (.error x) s') s->AG (dl X) X.A (.compStart comp 0 it k env) R s)(a7:∀{it k:A0} {env:Env} {Q:Fin->A3->Prop} {E:BO} {s:A3},A8 (dl X) X.A ((compTurn comp 0 it k env).onRaise (λx=>noteFrame x env >>= λ_=>theTreesLotGoes x)) Q E s->A8 (dl X) (X.A.under (.compLoop comp 0 it k env)) ((dl X).den (.compLoop comp 0 it k env)) Q E s):
  A8 (dl X) X.A mk (λk e0=>A8 (dl X) X.A (newFunctionEnv scope X.env.globals cl [] X.env.qual Y3 .none (Z X.env)) (λa1 e5=>
   AG (dl X) X.A (.compStart comp 0 (.ref it) k { a1 with scope:=relabel scope X.env }) (RR k a1.locals) e5) E e0) E a:=by
 refine d0 (kw ?_);have I:H2 a.heap.objs.size=Y3:=W.hok.fresh (zo _);have u:L2.AV X AO σ (BD H2 a.heap.objs.size O0) { a with heap:=a.heap.push o0 }:=
  W.laid (t':=a.toks) (λb o e=>zg _ e) (zo _) (e2 _)
 have a3:∀b∈fp,b<a.heap.objs.size:=λb f=>let ⟨o,e,_⟩:=T.obj 0 _ st b f;zI e;have G:∀b∈fp,vQ X AO (BD H2 a.heap.objs.size O0) b:=λb f=>⟨by rw[aR (ZO (a3 b f))];exact(S b f).1,(S b f).2⟩;have a2:tn 0 (a.heap.push o0):=T.keep 0 _ _ st λb f o e=>zg _ e;have y:∀b∈fp,b<(a.heap.push o0).objs.size:=λb f=>by rw[Kj];exact jq (a3 b f)
 generalize e7:({ a with heap:=a.heap.push o0 }:A3)=s3 at *
 have e4:s3.heap=a.heap.push o0:=by rw[<-e7]
 rw[<-e4]at a2 y;have IC:=a8 (ts:=ts) u O G y;have P:tn 0 (pushCells (s3.heap.push { cls:=.type "dict",data:=.dict #[] }) scope.names):=T.keep 0 _ _ a2 λb f o e=>pushCells_keeps _ _ b o (zg _ e);have b5:∀b∈fp,vQ (Dy X (xs++ts) scope cl s3.heap.objs.size s3 (BD H2 a.heap.objs.size O0) fp) [] (BD H2 a.heap.objs.size O0) b:=λb f=>by
  obtain⟨f0,f1,f2,f3,F,M⟩:=G b f;refine⟨f0,ZO (y b f),λz=>?_,.inl f,λx c e z=>?_,λq hq=>absurd (show q∈([]:List (A2×AF)) from hq) (by simp)⟩
  ·rcases ba.mp (u.Qa b z)with q|q
   ·exact f1 q
   ·exact f2 q
  ·rcases Dz _ _ _ x c e with h|h
   ·exact F x c (O.sub.get h) z
   ·rw[z]at h;exact absurd (ZH (y b f) (qs h)) (kL _)
 have P0:ED H2 (wV is σ++bb ts.length Y3) (lH is ρ++bb ts.length Y3) is.length:=by
  have g:∀(j:Nat) c,(lH is ρ++bb ts.length Y3)[j]?=Z (Z c)->j<is.length/\Ci c=false:=λj c e=>by
   by_cases hj:j<is.length
   ·refine⟨hj,?_⟩;rw[qa (by simp[lH];omega)]at e;unfold lH at e;rw[qv]at e;cases q:is[j]? with
    |none=>rw[q]at e;cases e
    |some i=>rw[q]at e;exact Jb (by simpa using e)
   ·rw[QO (by simp[lH];omega),j3]at e;split at e<;>cases e
  exact⟨λj c e=>(g j c e).2,λj c e=>(g j c e).1,EO Ec⟩
 have h:=Ob (B:=B) (X:=Dy X (xs++ts) scope cl s3.heap.objs.size s3 (BD H2 a.heap.objs.size O0) fp) (R:=RR (.ref a.heap.objs.size) s3.heap.objs.size) (o0:=[]) c5 Y2 (TJ _ _ _ _) (e3 _ _ _ _) (d2 _ _ _ _) b4 a4 IC (Ec.grow (cG I)) P0 I bK (a6 _) T P b5 Y e6 (by simpa using c4) c0 b6 a7 λs5 e9 U o5 l E5 _ d1 a5=>by
  have IB:L2.AV X AO σ U s5:=u.call' (ch:=fp) l.os l.base l.hok l.bare λb f=>by
   obtain⟨f0,f1,f2,f3,F,M⟩:=G b f;exact⟨f3,f1,F,M⟩
  obtain⟨m,hn,_⟩:=l.loc;exact b3 _ _ s5 U o5 I IB (u.Ti (zo _) l.free) ⟨m,hn⟩ E5.base d1 a5
 exact e1 h (T.self _ 0 _ _ _ P h)
def YW(K:BA)(_:A2)(H:Hp)(a:O Dt)(o:HO):Prop:=∃us,o=.lst us/\aP K H a us
theorem YW.kp{K:BA}{D:A2}{H H':Hp}{a:O Dt}{o:HO}(k:Kp H H'):YW K D H a o->YW K D H' a o:=λ⟨us,e,r⟩=>⟨us,e,r.kp k⟩
def GM(fe:Ev->Y Bx):Ev->Y (O Dt):=λρ=>(fe ρ).bind LX
theorem YX(h:PV X elt fe):W4 X (λD env=>do let _ <-call (.builtin "list.append") [.ref D,<-eval elt env]) (GM fe) (YW X.K) 100000 n:=by
 refine Pw λAO s σ H Hb ρ D o o1 ys I En f hD ⟨us,e,r4⟩ hl=>?_;subst e;obtain⟨b,eb,f⟩:=AU f;obtain⟨y,rfl,rfl⟩:=Gh f;refine zb (qA (h AO s σ H (λv a=>AW H a/\AX X.K a y v) I ⟨Hb,ρ,_,En,eb,λv a j _ i=>⟨j,i⟩⟩) (λv j p=>?_) λ_ _ z=>z);obtain⟨c,a,t,q,g,i⟩:=p;have k:=g _ _ hD;refine zb (qA ((N7 (X:=X)) _ j σ a (.ref D) [c] (.ref D) [v] (λw l=>l=BD a D (.lst (us++[c]))) t Y2 (.cons q .nil) ⟨_,us,c,rfl,rfl,k,by rw[r4.length];have A:(100000:Nat)<AB:=();simp at hl;omega,rfl⟩) (λw B m=>?_) λ_ _ z=>z);obtain⟨x,l,u,_,rfl⟩:=m;have kp:Kp a (BD a D (.lst (us++[c]))):=.lst k;exact ze ⟨a,_,u,g,kp,us++[c],rfl,((r4.kp (.of g)).append (aP.cons i aP.nil)).kp kp⟩
theorem TX{H2:Hp}{k:A3}{ds out:List Dt}{ρ:Ev}(O:wU X scope cl xs is)(t:B X.A X.calm)(y:∀C i j fp,FH (Dy X (xs++ts) scope cl C i j fp) tgt gt)(s:∀C i j fp,CA (Dy X (xs++ts) scope cl C i j fp) ifs p)(z:∀C i j fp,PV (Dy X (xs++ts) scope cl C i j fp) elt fe)(I:C' is.length (is.length+ts.length) gt)(x:L2.AV X AO σ H2 k)(u:bW X.K H2 H2 (wV is σ++bb ts.length Y3) (lH is ρ++bb ts.length Y3))(T:YT B X.prog X.w X.K tgt J fp it tn)(st:tn 0 k.heap)(L:∀b∈fp,vQ X AO H2 b)(Y:B9 X.K J ds H2)(H:ds.length<=100000)(l:Bt gt p fe (lH is ρ++bb ts.length Y3) ds=Z out)(G:∀(D C:A2) (s':A3) (H':Hp) (us:List V),H2 D=Y3->L2.AV X AO σ H' s'->vQ X AO H' C->(∃m,s'.heap.Ns C m)->AW H2 H'->H' D=Z (.lst us)->aP X.K H' out us->RR (.ref D) C (.ok .next) s'):
  A8 (dl X) X.A (newList []) (λq F=>A8 (dl X) X.A (newFunctionEnv scope X.env.globals cl [] X.env.qual Y3 .none (Z X.env)) (λn v=>
   AG (dl X) X.A (.compStart (.ListComp elt [⟨tgt,iter,ifs,0⟩] scope pos) 0 (.ref it) q { n with scope:=relabel scope X.env }) (RR q n.locals) v) E F) E k:=
 Gi (B:=B) (Ac:=YW X.K) (O0:=.lst []) (N:=100000) O t y s (λC i j fp=>YX (z C i j fp)) I (Nat.le_add_right ..) x u T st L Y l (zl (z7 l) H) (λD C s' H' o a b c d e f g=>by obtain⟨us,rfl,r⟩:=g;exact G D C s' H' us a b c d e f r)
  QY (λ_=>⟨ZT _,[],0,.nil,zD _ rfl⟩) (λ_=>⟨[],rfl,aP.nil⟩) YW.kp (λ_ _ _=>Y2) codeAny_compStart_list λh=>h
end
def iC(K:BA)(f:Ev->Y (O Dt)):TI:=λσ H R=>∃H0 ρ ds,bW K H0 H σ ρ/\f ρ=Z ds/\∀J H',AW H H'->B9 K J ds H'->R J H'
def ML(X:Cx)(tg iter:Expr)(f:Ev->Y (O Dt)):Prop:=PI X tg iter (iC X.K f)
structure FX (X:Cx) (tg iter:Expr) (f:Ev->Option (List Dt)):Prop where
 run:ML X tg iter f
def FF:Bx->Y (O Dt)
 |.z (.lst ds)=>Z ds
 |.z (.tup ds)=>Z ds
 |.z (.str x)=>Z (BS x)
 |.o ds=>Z ds
 |.l ds=>Z ds
 |_=>Y3
section
variable{f:Ev->Y Bx}{fs:Ev->Y (O Bx)}{xs:B5}{gt:Dt->Ev->Y Ev}{p:Ev->Y Bool}{fe:Ev->Y Bx}{fi:Ev->Y (O Dt)}
theorem W5(h:Do X tgt iter fi):FX X tgt iter fi:=⟨have h:=h.run;λAO s σ H R I q=>by
 obtain⟨H0,ρ,ds,E,e,q⟩:=q;exact h AO s σ H R I ⟨H0,ρ,ds,E,e,λJ H' s' y=>q J H' s' (y H' (AW.refl H') (λ_ _=>Y2) (λ_ _ _ _=>Y2) λ_ _ _=>Y2)⟩⟩
theorem dD(h:QV X e f):FX X tgt e (λρ=>(f ρ).bind FF):=⟨have h:=h.run;λAO s σ H R I q=>by
 refine N0 h AO s σ H R I ?_;obtain⟨H0,ρ,ds,E,e,q⟩:=q;obtain⟨b,eb,e⟩:=AU e;refine⟨H0,ρ,b,E,eb,λv H1 i k g=>?_⟩;cases b with
 |z d=>
  cases d with
  |tup j=>
   cases e;simp only[bH,AX]at g;obtain⟨a,vs,rfl,c,rs⟩:=g;exact .inr (.inl ⟨a,rfl,⟨vs,c⟩,q _ _ i (.tup c rs)⟩)
  |lst j=>
   cases e;obtain⟨a,vs,rfl,c,rs⟩:=g.Mw rfl;exact .inl ⟨a,rfl,⟨vs,c⟩,q _ _ i (.list c rs)⟩
  |str x=>
   cases e;simp only[bH,AX]at g;obtain⟨rfl,_⟩:=g;exact .inr (.inr ⟨x,rfl,q _ _ i (.str x)⟩)
  |_=>cases e
 |l j=>
  cases e;obtain⟨a,vs,rfl,c,rs⟩:=g.Mw rfl;exact .inl ⟨a,rfl,⟨vs,c⟩,q _ _ i (.list c rs)⟩
 |o j=>
  cases e;obtain⟨a,vs,rfl,c,rs⟩:=g.Mw rfl;exact .inl ⟨a,rfl,⟨vs,c⟩,q _ _ i (.list c rs)⟩
 |n _=>cases e
 |m _ _=>cases e⟩
def dX(fi:Ev->Y (O Dt))(gt:Dt->Ev->Y Ev)(p:Ev->Y Bool)(fe:Ev->Y Bx)(is:O Nat)(n:Nat):Ev->Y Bx:=λρ=>(fi ρ).bind λds=>
 if ds.length<=100000 then(Bt gt p fe (lH is ρ++bb n Y3) ds).bind λout=>Z (.o out)else Y3
theorem eG(ts:B5)(O:wU X scope cl xs is)(N:X.calm=true)(hi:FX X tgt iter fi)(g:∀C c f fp,Db (Dy X (xs++ts) scope cl C c f fp) tgt gt)(j:∀C c f fp,Cj (Dy X (xs++ts) scope cl C c f fp) ifs p)(i:∀C c f fp,QV (Dy X (xs++ts) scope cl C c f fp) elt fe)(t:C' is.length (is.length+ts.length) gt)(hs:∀x,foldedSetIterable iter X.env x=pure x:=by intro _;rfl):QV X (.ListComp elt [⟨tgt,iter,ifs,0⟩] scope pos) (dX fi gt p fe is ts.length):=⟨have hi:=hi.run;have g:=λC c f fp=>(g C c f fp).run;have j:=λC c f fp=>(j C c f fp).run;have i:=λC c f fp=>(i C c f fp).run;λAO s σ H Q I h=>by
 obtain⟨H0,ρ,b,E,e,q⟩:=h;obtain⟨ds,P,e⟩:=AU e;split at e
 ·rename_i L;obtain⟨out,S,e⟩:=AU e;cases e;rw[eval_ListComp];refine kM (use:=Y3) Y2 hs O.clos O.kind O.names ?_;refine jQ (hi AO s σ H (λJ H'=>AW H H'/\B9 X.K J ds H') I ⟨H0,ρ,ds,E,P,λJ H' s' y=>⟨s',y⟩⟩) λv s1 h1=>jQ h1 λa1 s2 h2=>?_;obtain⟨it,fp,tn,J,H2,rfl,G,T,st,z,k,Y⟩:=h2;refine TX (B:=Oa) (RR:=λM C=>compPost (dl X) X.A X.xe Y3 (EP X AO σ Q) M C) (ts:=ts) (xs:=xs) O N g j i t G ((E.grow k).caps is ts.length) (TF T) st z Y L S ?_;intro D C s' H' us W F u ⟨m,hn⟩ s2' hD' r';refine⟨m,hn,λh' U=>⟨.ref D,H',?_,rfl,q _ _ (k.trans s2') (λa ea=>by cases ea;exact k.free W) ⟨D,us,rfl,hD',r'⟩⟩⟩;obtain⟨f0,f1,f2,f3,l,n⟩:=u;exact F.turned (t':=s'.toks) (λb o hb e=>(U.2 b hb).trans e) f0 f1 f3 l n
 ·cases e⟩
theorem wW(i:Nat){py spos:Pos}(ts:B5)(O:wU X scope cl xs is)(a5:X.calm=true)(W:X.N.Nodup)(hi:FX X tgt iter fi)(k:∀C c f fp,Db (Dy X (xs++ts) scope cl C c f fp) tgt gt)(t:∀C c f fp,Cj (Dy X (xs++ts) scope cl C c f fp) ifs p)(n:∀C c f fp,QV (Dy X (xs++ts) scope cl C c f fp) elt fe)(a1:C' is.length (is.length+ts.length) gt)(b3:swapsWith (.ListComp elt [⟨tgt,iter,ifs,0⟩] scope pos) (Z (.Name y py)) spos.line X.env=pure true:=by with_unfolding_all rfl)(hy:X.N[i]?=Z y:=by rfl)(hx:D6 X.env.scope y:=by first|exact km rfl|exact ja Y2)(hf:X.fn y=true\/X.env.scope.names.lookup y=Z .local:=by first|exact .inl rfl|exact .inr Y2)(hs:∀x,foldedSetIterable iter X.env x=pure x:=by intro _;rfl):Co X (.Assign [.Name y py] (.ListComp elt [⟨tgt,iter,ifs,0⟩] scope pos) spos) (λρ=>(dX fi gt p fe is ts.length ρ).bind λb=>(Go ρ i b).bind λρ'=>Z (.nx ρ')):=⟨have hi:=hi.run;have k:=λC c f fp=>(k C c f fp).run;have t:=λC c f fp=>(t C c f fp).run;have n:=λC c f fp=>(n C c f fp).run;λAO s σ H D I h=>by
 obtain⟨H0,ρ,r,E,e,q⟩:=h;obtain⟨b,eb,e⟩:=AU e;obtain⟨ds,ed,eb⟩:=AU eb;split at eb
 ·rename_i a3;obtain⟨out,eo,eb⟩:=AU eb;cases eb;cases e;rw[exec_Assign_Name_used _ _ _ _ b3];refine zb (QU (zb ?_));show A8 _ X.A (do let _ <-comprehension (.ListComp elt [⟨tgt,iter,ifs,0⟩] scope pos) scope X.env _ (newList []) false (eval iter X.env) (Z (assign (.Name y py) X.env))) _ _ s;refine zb (qA (kM (use:=Z (assign (.Name y py) X.env)) (Q:=λ_ s'=>SP X AO D .next s') Y2 hs O.clos O.kind O.names ?_) (λ_ s' U=>ze (ze U)) λ_ _ e=>e);refine jQ (hi AO s σ H (λJ H'=>AW H H'/\B9 X.K J ds H') I ⟨H0,ρ,ds,E,ed,λJ H' s' y=>⟨s',y⟩⟩) λv s1 h1=>jQ h1 λb5 s2 h2=>?_;obtain⟨it,fp,tn,J,H2,rfl,I2,T,st,b0,u,Y⟩:=h2;refine TX (B:=Oa) (RR:=λa4 C=>compPost (dl X) X.A X.xe (Z (assign (.Name y py) X.env)) (λ_ s'=>SP X AO D .next s') a4 C) (ts:=ts) (xs:=xs) O a5 k t n a1 I2 ((E.grow u).caps is ts.length) (TF T) st b0 Y a3 eo ?_;intro g C s' H' us hD F fC ⟨m,hn⟩ s2' hD' r';show A8 _ X.A (assign (.Name y py) X.env (.ref g)) _ _ s';obtain⟨f0,f1,f2,f3,M,S⟩:=fC;obtain⟨j,a6,ep,a2,G,a7⟩:=id hn;have b4:L2.AV X (AO++[(C,j)]) σ H' s':=F.IK λL hp=>by
   rcases bc.mp hp with z|z
   ·exact F.pin L (ZN _ z)
   ·have:L=(C,j):=by simpa using z
    subst this;exact⟨a2,f0,f1,f2,λv z=>by rw[G]at z;cases z⟩
  refine jQ (L2.IW W hy hx hf (AO++[(C,j)]) s' σ H' (.ref g) (.ref g) (λσ' l=>σ'=σ.set i (Z (.ref g))/\l=H') b4 Y2 ⟨rfl,rfl⟩) λ_ s'' ⟨σ',l,J',e1,e2⟩=>?_;subst e1 e2;have P:=(J'.pin (C,j) (by simp)).1;refine⟨m,⟨j,a6,ep,P,G,a7⟩,λh' sb=>?_⟩;refine⟨σ.set i (Z (.ref g)),l,J'.vR.turned (t':=s''.toks) (λb o hb e=>(sb.2 b hb).trans e) f0 f1 f3 M S,q _ _ ?_⟩;exact E.set (u.trans s2') (b:=.o out) ⟨g,us,rfl,hD',r'⟩ (.inl Y2) λa ea=>by cases ea;exact u.free hD
 ·cases eb⟩
def B7:Bx->Bx
 |.o ds=>.l ds
 |.m ds _=>.n ds
 |b=>b
def xa:Bx->Bool
 |.o _=>true
 |.m _ _=>true
 |_=>false
def DD(K:BA)(n:Nat)(F:O Bx->Y Bx):Sp:=λvs H Q _=>vs.length=n/\∃bs r,Dq K H bs vs/\bs.all (λb=>!xa b)=true/\F bs=Z r/\∀v H',AW H H'->Nw H r v->bH K H' r v->Q v H'
def cu(n:Nat)(g:Ev->Y Ap):O Bx->Y Bx:=λbs=>(g (bs.map Z++bb (n-bs.length) Y3)).bind λr=>match r with
 |.rt b=>Z b
 |.nx _=>Z (.z .non)
 |_=>Y3
theorem bW.start{K:BA}{H:Hp}{N:B5}{bs:O Bx}{vs:O V}(r:Dq K H bs vs)(k:bs.all (λb=>!xa b)=true):bW K H H (L2.start N vs) (bs.map Z++bb (N.length-bs.length) Y3):=by
 have l:bs.length=vs.length:=Paired.length r;have get:∀(i:Nat) b,(bs.map Z++bb (N.length-bs.length) Y3)[i]?=Z (Z b)->bs[i]?=Z b:=λi b e=>by
  by_cases hi:i<bs.length
  ·rw[qa (by simpa using hi),qv]at e;cases q:bs[i]? with
   |none=>rw[q]at e;cases e
   |some n=>rw[q]at e;simpa using e
  ·rw[QO (by simp;omega),j3]at e;split at e<;>cases e
 have g:∀(i:Nat) c,(bs.map Z++bb (N.length-bs.length) Y3)[i]?=Z (Z c)->Ci c=true->False:=λi c e f=>by
  have:=List.all_eq_true.mp k _ (KO (get i _ e));cases c with
  |o ds=>cases this
  |m ds _=>cases this
  |_=>cases f
 refine⟨?_,λi b e=>?_,λi j c a b e f=>(g i c e f).elim,AW.refl H,λi c a e f=>(g i c e f).elim⟩
 ·unfold L2.start;simp[l]
 ·have e':=get i b e;have hi:i<bs.length:=(bj.mp e').1;have:∀{bs:O Bx} {vs:O V} {i:Nat} {b:Bx},AJ (bH K H) bs vs->bs[i]?=Z b->∃v,vs[i]?=Z v/\bH K H b v:=by
   intro bs vs i b r
   induction r generalizing i with
   |nil=>intro e;simp at e
   |cons p t h=>
    intro e;cases i with
    |zero=>simp at e;subst e;exact⟨_,rfl,p⟩
    |succ i=>obtain⟨v,e1,e2⟩:=h (i:=i) (by simpa using e);exact⟨v,by simpa using e1,e2⟩
  obtain⟨v,e1,e2⟩:=this r e';refine⟨v,?_,e2⟩;unfold L2.start;rw[qa (by simp;omega),qv,e1];rfl
end
theorem im{f:A2}{g:Ev->Y Ap}(F:DS K x qual st f fd)(S:aW N ps (aJ st))(n:∀(a:A0) (A:A6) (outer:O Env) (s:A3) (H:Hp) (E:XK),lK k (A.deeper (AL qual (aJ st) s.heap.objs.size f a))->DF (Jy Tt P w K mg base N qual (aJ st) f a A outer s H E).nox (kE st) g):
  Cg P w K mg base Tt (k+1) f fd ps (DD K ps.length (cu N.length g)):=by
 refine F.ok S (λvs H Q E h=>h.1) λa A outer s H vs Q E m h=>?_;obtain⟨p,bs,r,l,o,e,q⟩:=h;refine⟨_,n a A outer s H E m,?_⟩;obtain⟨c,er,e⟩:=AU e;refine⟨H,_,c,bW.start l o,er,?_⟩;cases c with
 |rt b=>cases e;exact λv H' s' i c=>q v H' s' i c
 |nx ρ=>cases e;exact λσ H' j=>q _ H' j.base trivial (by unfold bH AX;rfl)
 |bk ρ=>cases e
 |ct ρ=>cases e
section
variable{f:A2}{F:O Bx->Y Bx}{p:Pos}{fs:Ev->Y (O Bx)}
theorem TY{K:BA}{H:Hp}:∀{bs:O Bx} {vs:O V},Dq K H bs vs->Dq K H (bs.map B7) vs
 |_,_,.nil=>.nil
 |b::bs,_,.cons h t=>by
  refine .cons ?_ (TY t);cases b with
  |z d=>exact h
  |l ds=>exact h
  |o ds=>obtain⟨a,vs,e,q,r⟩:=h;exact⟨a,vs,e,.inl q,r⟩
  |n ds=>exact h
  |m ds _=>obtain⟨a,vs,e,q,r⟩:=h;exact⟨a,vs,e,.inl q,r.1⟩
theorem YZ:∀bs:O Bx,(bs.map B7).all (λb=>!xa b)=true
 |[]=>rfl
 |b::bs=>by
  rw[zw,ke,YZ bs];cases b<;>rfl
def aV(n:Nat)(F:O Bx->Y Bx)(fs:Ev->Y (O Bx)):Ev->Y Bx:=λρ=>(fs ρ).bind λbs=>if bs.length=n then F (bs.map B7)else Y3
theorem mv(G:Cg X.prog X.w X.K X.mg X.base Tt k f fd ps (DD X.K n F))(o:lK k X.A)(i:Gl X x)(m:X.mg x=Z (.ref f))(hk:keepIn X.K (.ref f)=true)(y:Bn X.K fd ps [])(a:YQ X (e::es) fs)(z:db x:=by decide)(t:AA (e::es) X.env=(false,eval e X.env)::AA es X.env:=by rfl)(s:(AE pos (AA es X.env)).any (·.1)=false:=by rfl):QV X (.Call (.Name x p) (e::es) [] pos) (aV n F fs):=⟨have a:=a.run;Mr (Tx G o i m hk y .nil (UY) a z t s) λσ H Q h=>by
 obtain⟨H0,ρ,r,E,e,q⟩:=h;obtain⟨bs,eb,e⟩:=AU e;refine⟨H0,ρ,bs,E,eb,λvs H1 b c=>?_⟩;split at e
 ·rename_i u;rw[qS];exact⟨by rw[<-Paired.length c];exact u,_,r,TY c,YZ bs,e,λv H2 g j l=>q v H2 (b.trans g) (j.old b) l⟩
 ·cases e⟩
end
end P1
variable{b:P1.Bx}{q:P1.Ev->Y Bool}{F:O P1.Bx->Y P1.Bx}{f:P1.Ev->Y P1.Bx}{g:P1.Ev->Y P1.Ap}{p:P1.Ev->Y Bool}{ds:O P1.Dt}{fa:P1.Ev->Y P1.Bx}{ρ:P1.Ev}{fb fc:P1.Ev->Y P1.Bx}{g1 g2:P1.Ev->Y P1.Ap}{gt:P1.Dt->P1.Ev->Y P1.Ev}{gb:P1.Ev->Y P1.Ap}{fi:P1.Ev->Y (O P1.Dt)}{fe:P1.Ev->Y P1.Bx}{Ac:A2->L2.Hp->O P1.Dt->L2.HO->Prop}{fk:P1.Dt->Y P1.Bx}{fo fv:P1.Ev->Y P1.Bx}{rs:O P1.Dt}{fr:P1.Ev->Y (O (AK×P1.Dt))}{f1:P1.Ev->Y P1.Bx}{gx:P1.Ev->Y P1.Dt}{okk:P1.Dt->Bool}{kf:O P1.Dt->Y (O (O L2.AZ))}{jT:P1.Bx}
namespace P1
open L2 SeqAt
open AutoSeq1 (wpAny_loadPart')
def Mz(h:A7)(a:A2):Prop:=∃o ep,h.get? a=Z o/\o.ExactDict/\o.data=.dict #[] ep
section
variable{b:A2}
theorem DG{vs:O (AZ×A0)}(q:AQ=[])(r:KV AQ vs)(d:h.DictOf (nC P w) a vs):Mz h a:=by
 subst q;cases r;obtain⟨o,es,ep,h1,h2,c,_,b,_⟩:=d;have:es=#[]:=by
  have:=b.length;apply Array.eq_empty_of_size_eq_zero;simpa using this
 subst this;exact⟨o,ep,h1,h2,c⟩
theorem Mz.dict(P:A4)(w:A5)(x:Mz h a):h.DictOf (strKind P w) a []:=by
 obtain⟨o,ep,h1,h2,c⟩:=x;exact⟨o,#[],ep,h1,h2,c,λe b=>by simp at b,.nil,gF⟩
theorem SO(f:(a==sysModules)=false)(e:(b==sysModules)=false)(g:Mz s.heap a)(c:Mz s.heap b)(i:A.units<cLine):RcAt A s (.ref a) (.ref b) true:=λprog w E Q h=>
 PySem.W.keq_eq (knd:=strKind prog w) f e (g.dict prog w) (c.dict prog w) i (λ_=>.nil) h
theorem dL(f:(a==sysModules)=false)(e:(b==sysModules)=false)(g:Mz s.heap a)(c:Mz s.heap b)(i:A.units<cLine):RcNeAt A s (.ref a) (.ref b) false:=λprog w E Q h=>
 PySem.W.keq_ne (r:=true) (knd:=strKind prog w) f e (g.dict prog w) (c.dict prog w) i (λ_=>.nil) h
theorem T3(o:AF)(b:AK)(u:Tok):Meets (Builtin.«dict.__eq__» ⟨[.ref a,.str b u],[]⟩) (λ_ R s=>(s.heap.get? a=Z o/\o.cls=.type "dict")/\R (.ok (.ret .notImplemented)) s):=
 .of_wp λprog w A R s h=>by
  have c:s.TypeIs (.ref a) "dict":=⟨o,h.1.1,h.1.2⟩;show A8 _ _ (Builtin.Dict.dictSlotArgs "__eq__" ⟨[.ref a,.str b u],[]⟩ >>= _) _ _ s;refine zb ?_;unfold Builtin.Dict.dictSlotArgs;refine zb (wpAny_notOrdered_dict c ?_);show A8 _ _ (pure (Value.ref a,Value.str b u)) _ _ s;refine ze ?_;refine zb (y3 (T :="str") (typeIs_str s b u) PySem.F.sub_str_dict ?_);simp only[yi,QP];refine zb (QN ?_);exact ze ⟨_,rfl,h.2⟩
theorem T4(b:AK)(u:Tok)(es:Array DictEntry)(ep:Nat)(e:Y A2)(sl:Array (Y A0)):Meets (Builtin.«str.__eq__» ⟨[.str b u,.ref a],[]⟩) (λ_ R s=>s.heap.get? a=Z { cls:=.type "dict",dict:=e,data:=.dict es ep,slots:=sl }/\R (.ok (.ret .notImplemented)) s):=
 .of_wp λprog w A R s h=>by obtain⟨hp,g,d,tk,os⟩:=s;obtain⟨c,h⟩:=h;wp_walk using wpAny_loadPart' c,wpAny_load c;exact⟨_,rfl,h⟩
theorem Od(x:AK)(t:Tok)(d:Mz s.heap a)(i:A.units<cLine):RcAt A s (.str x t) (.ref a) false:=λprog w E Q h=>by
 obtain⟨⟨l,g,m,sl⟩,ep,c,⟨e,hd,j⟩,f⟩:=d;simp only at e f;subst e f;exact rc_eq_decline_or (k:=false) (typeIs_str s x t) ⟨_,c,rfl⟩ () PySem.F.sub_dict_str PySem.F.slot_str_eq PySem.F.slot_dict_eq_refl
  (λ_ b=>call_meets PySem.F.slot_str_eq (typeIs_str s x t) PySem.F.entry_str_eq (PySem.F.args_str_eq_2 _ _) (T4 x t #[] ep g sl) ⟨c,b⟩)
  (λ_ b=>call_meets PySem.F.slot_dict_eq_refl ⟨_,c,rfl⟩ PySem.F.entry_dict_eq (PySem.F.args_dict_eq_2 _ _) (T3 _ x t) ⟨⟨c,rfl⟩,b⟩)
  (λ_ b=>wpAny_of_eq (rfl:isSame (.str x t) (.ref a)=pure false) b) (.inr i) h
theorem T5(o:AF)(b:AK)(u:Tok):Meets (Builtin.«dict.__ne__» ⟨[.ref a,.str b u],[]⟩) (λ_ R s=>(s.heap.get? a=Z o/\o.cls=.type "dict")/\R (.ok (.ret .notImplemented)) s):=
 .of_wp λprog w A R s h=>by
  have c:s.TypeIs (.ref a) "dict":=⟨o,h.1.1,h.1.2⟩;show A8 _ _ (Builtin.Dict.dictSlotArgs "__ne__" ⟨[.ref a,.str b u],[]⟩ >>= _) _ _ s;refine zb ?_;unfold Builtin.Dict.dictSlotArgs;refine zb (wpAny_notOrdered_dict c ?_);show A8 _ _ (pure (Value.ref a,Value.str b u)) _ _ s;refine ze ?_;refine zb (y3 (T :="str") (typeIs_str s b u) PySem.F.sub_str_dict ?_);simp only[yi,QP];refine zb (QN ?_);exact ze ⟨_,rfl,h.2⟩
theorem T6(b:AK)(u:Tok)(es:Array DictEntry)(ep:Nat)(e:Y A2)(sl:Array (Y A0)):Meets (Builtin.«str.__ne__» ⟨[.str b u,.ref a],[]⟩) (λ_ R s=>s.heap.get? a=Z { cls:=.type "dict",dict:=e,data:=.dict es ep,slots:=sl }/\R (.ok (.ret .notImplemented)) s):=
 .of_wp λprog w A R s h=>by obtain⟨hp,g,d,tk,os⟩:=s;obtain⟨c,h⟩:=h;wp_walk using wpAny_loadPart' c,wpAny_load c;exact⟨_,rfl,h⟩
theorem sD(x:AK)(t:Tok)(d:Mz s.heap a)(i:A.units<cLine):RcNeAt A s (.str x t) (.ref a) true:=λprog w E Q h=>by
 obtain⟨⟨l,g,m,sl⟩,ep,c,⟨e,hd,j⟩,f⟩:=d;simp only at e f;subst e f;exact rc_ne_decline_or (k:=false) (typeIs_str s x t) ⟨_,c,rfl⟩ () PySem.F.sub_dict_str PySem.F.slot_str_ne PySem.F.slot_dict_ne_refl
  (λ_ b=>call_meets PySem.F.slot_str_ne (typeIs_str s x t) PySem.F.entry_str_ne (PySem.F.args_str_ne_2 _ _) (T6 x t #[] ep g sl) ⟨c,b⟩)
  (λ_ b=>call_meets PySem.F.slot_dict_ne_refl ⟨_,c,rfl⟩ PySem.F.entry_dict_ne (PySem.F.args_dict_ne_2 _ _) (T5 _ x t) ⟨⟨c,rfl⟩,b⟩)
  (λ_ b=>wpAny_of_eq (rfl:isSame (.str x t) (.ref a)=pure false) b) (.inr i) h
theorem oP(x:AK)(t:Tok)(d:Mz s.heap a)(c:A.units<cLine):EqAt A s (.str x t) (.ref a) false:=λprog w E Q h=>by
 unfold eqBool;refine ko ?_;refine wpAny_ite_split (λb=>absurd (eq_of_beq b) nofun) (λ_=>?_);exact zb (Od x t d c prog w E _ (QE h))
end
mutual
def Bu:Dt->Nat
 |.tup xs=>DK xs+1
 |.lst xs=>DK xs+1
 |_=>1
def DK:O Dt->Nat
 |[]=>0
 |d::ds=>max (Bu d) (DK ds)
end
mutual
def DN:Dt->Dt->Y Bool
 |.non,.non=>Z true
 |.non,.bl _=>Z false|.non,.int _=>Z false|.non,.str _=>Z false|.non,.tup _=>Z false|.non,.lst _=>Z false
 |.bl a,.bl b=>Z (a==b)
 |.bl a,.int b=>Z ((if a then 1 else 0)==b)
 |.bl _,.non=>Z false|.bl _,.str _=>Z false|.bl _,.tup _=>Z false|.bl _,.lst _=>Z false
 |.int a,.int b=>Z (a==b)
 |.int a,.bl b=>Z (a==(if b then 1 else 0))
 |.int _,.non=>Z false|.int _,.str _=>Z false|.int _,.tup _=>Z false|.int _,.lst _=>Z false
 |.str a,.str b=>Z (a==b)
 |.str _,.non=>Z false|.str _,.bl _=>Z false|.str _,.int _=>Z false|.str _,.tup _=>Z false|.str _,.lst _=>Z false|.str _,.emp=>Z false
 |.tup xs,.tup ys=>o9 xs ys
 |.tup _,.non=>Z false|.tup _,.bl _=>Z false|.tup _,.int _=>Z false|.tup _,.str _=>Z false|.tup _,.lst _=>Z false
 |.lst xs,.lst ys=>o9 xs ys
 |.emp,.emp=>Z true
 |.lst _,.non=>Z false|.lst _,.bl _=>Z false|.lst _,.int _=>Z false|.lst _,.str _=>Z false|.lst _,.tup _=>Z false
 |_,_=>Y3
def o9:O Dt->O Dt->Y Bool
 |[],[]=>Z true
 |[],_::_=>Z false
 |_::_,[]=>Z false
 |x::xs,y::ys=>match DN x y with
  |some b=>match o9 xs ys with
   |some c=>Z (b&&c)
   |none=>Y3
  |none=>Y3
end
mutual
theorem T7:∀{d:Dt} {k:Bool},DN d d=Z k->k=true
 |.non,_,e=>by cases e;rfl
 |.bl b,_,e=>by cases e;simp
 |.int b,_,e=>by cases e;simp
 |.str b,_,e=>by cases e;simp
 |.tup xs,_,e=>Gj (ds:=xs) e
 |.lst xs,_,e=>Gj (ds:=xs) e
 |.emp,_,e=>by cases e;rfl
theorem Gj:∀{ds:O Dt} {k:Bool},o9 ds ds=Z k->k=true
 |[],_,e=>by simp only[o9]at e;cases e;rfl
 |d::ds,_,e=>by
  simp only[o9]at e;cases h:DN d d with
  |none=>rw[h]at e;cases e
  |some b=>
   rw[h]at e;simp only at e;cases h2:o9 ds ds with
   |none=>rw[h2]at e;cases e
   |some c=>
    rw[h2]at e;cases e;rw[T7 h,Gj h2];rfl
end
theorem Jd(xs ys:O Dt):DN (.tup xs) (.tup ys)=o9 xs ys:=rfl
theorem yR:∀{xs ys:O Dt} {k:Bool},o9 xs ys=Z k->∃e:Nat->Bool,(∀(j:Nat) x y,xs[j]?=Z x->ys[j]?=Z y->DN x y=Z (e j))/\k=((dc (min xs.length ys.length)).all e&&xs.length==ys.length)
 |[],[],k,h=>by simp only[o9]at h;cases h;exact⟨λ_=>true,λj x y e=>by simp at e,by simp⟩
 |[],y::ys,k,h=>by simp only[o9]at h;cases h;exact⟨λ_=>true,λj x y e=>by simp at e,by simp⟩
 |x::xs,[],k,h=>by simp only[o9]at h;cases h;exact⟨λ_=>true,λj x y _ e=>by simp at e,by simp⟩
 |x::xs,y::ys,k,h=>by
  simp only[o9]at h;cases h1:DN x y with
  |none=>rw[h1]at h;cases h
  |some b=>
   rw[h1]at h;simp only at h;cases h2:o9 xs ys with
   |none=>rw[h2]at h;cases h
   |some c=>
    rw[h2]at h;cases h;obtain⟨e,g,i⟩:=yR h2;refine⟨λj=>match j with|0=>b|j+1=>e j,λj u v a ev=>?_,?_⟩
    ·cases j with
     |zero=>simp at a ev;subst a ev;exact h1
     |succ j=>exact g j u v (by simpa using a) (by simpa using ev)
    ·have:min (x::xs).length (y::ys).length=min xs.length ys.length+1:=by simp only[ZZ];omega
     rw[this,dP,ke,ez,i];have f:((x::xs).length==(y::ys).length)=(xs.length==ys.length):=by
      rw[KW];simp
     rw[f,Bool.and_assoc];rfl
theorem yS:∀{ds:O Dt} {j:Nat} {d:Dt},ds[j]?=Z d->Bu d<=DK ds
 |[],_,_,e=>by simp at e
 |d::ds,0,_,e=>by simp at e;subst e;simp only[DK];exact Nat.le_max_left _ _
 |d::ds,j+1,_,e=>by
  simp only[DK];exact zl (yS (ds:=ds) (j:=j) (by simpa using e)) (Nat.le_max_right _ _)
theorem Je(I:L2.AV X AO σ H s)(h:wM X.K H a vs):∃b,s.heap.get? a=Z b/\b.cls=.type "tuple":=by
 obtain⟨AS,_,⟨b,e,c,_⟩,_⟩:=I.tuple h;exact⟨b,e,c⟩
theorem Jf(I:L2.AV X AO σ H s)(h:tH X.K H a vs):∃b,s.heap.get? a=Z b/\b.cls=.type "list":=by
 obtain⟨AS,_,⟨b,n,e,c,_⟩,_⟩:=I.list h;exact⟨b,e,c⟩
theorem tM(I:L2.AV X AO σ H s){o:AF}(h:H a=Z (.qG o (.dK []))):∃b,s.heap.get? a=Z b/\b.cls=.type "dict":=by
 obtain⟨e,_,_,vs,_,b,es,ep,e2,ex,_⟩:=I.hok a _ h;exact⟨b,e2,ex.1⟩
theorem Gk{n m:String}(h:∃b,s.heap.get? a=Z b/\b.cls=.type n)(q:∃b,s.heap.get? a=Z b/\b.cls=.type m)(f:n≠m):False:=by
 obtain⟨o,e,c⟩:=h;obtain⟨o',e',c'⟩:=q;rw[e]at e';cases e';rw[c]at c';exact f (by injection c')
mutual
theorem AX.inj(I:L2.AV X AO σ H s):∀{d e:Dt} {v:V},AX X.K H d v->AX X.K H e v->d=e
 |.non,e,v,h,q=>by
  simp only[AX]at h;subst h;cases e<;>simp only[AX]at q<;>first|rfl|(cases q;done)|(obtain⟨a,b,z,_⟩:=q;cases z;done)|(obtain⟨z,_⟩:=q;cases z;done)
 |.bl _,e,v,h,q=>by
  simp only[AX]at h;subst h;cases e<;>simp only[AX]at q<;>first|(cases q;rfl)|(cases q;done)|(obtain⟨a,b,z,_⟩:=q;cases z;done)|(obtain⟨z,_⟩:=q;cases z;done)
 |.int _,e,v,h,q=>by
  simp only[AX]at h;subst h;cases e<;>simp only[AX]at q<;>first|(cases q;rfl)|(cases q;done)|(obtain⟨a,b,z,_⟩:=q;cases z;done)|(obtain⟨z,_⟩:=q;cases z;done)
 |.str x,e,v,h,q=>by
  simp only[AX]at h;have g:v=.str x:=h.1;subst g;cases e with
  |str y=>
   simp only[AX]at q;have z:V.str x=V.str y:=q.1;injection z with z;rw[z]
  |tup es=>simp only[AX]at q;obtain⟨a,b,z,_⟩:=q;cases z
  |lst es=>simp only[AX]at q;obtain⟨a,b,z,_⟩:=q;cases z
  |emp=>simp only[AX]at q;obtain⟨a,b,z,_⟩:=q;cases z
  |_=>simp only[AX]at q;cases q
 |.tup ds,e,v,h,q=>by
  simp only[AX]at h;obtain⟨a,vs,rfl,sq,r⟩:=h;cases e with
  |tup es=>
   simp only[AX]at q;obtain⟨b,us,z,c,f⟩:=q;cases z;have:=I.Gb sq c;subst this;rw[aP.inj I r f]
  |lst es=>
   simp only[AX]at q;obtain⟨b,us,z,c,f⟩:=q;cases z;exact(Gk (Je I sq) (Jf I c.sq) ()).elim
  |emp=>
   simp only[AX]at q;obtain⟨b,o,z,c⟩:=q;cases z;exact(Gk (Je I sq) (tM I c) ()).elim
  |str x=>simp only[AX]at q;have z:=q.1;cases z
  |_=>simp only[AX]at q;cases q
 |.lst ds,e,v,h,q=>by
  simp only[AX]at h;obtain⟨a,vs,rfl,sq,r⟩:=h;cases e with
  |lst es=>
   simp only[AX]at q;obtain⟨b,us,z,c,f⟩:=q;cases z;have:=I.Jv sq.sq c.sq;subst this;rw[aP.inj I r f]
  |tup es=>
   simp only[AX]at q;obtain⟨b,us,z,c,f⟩:=q;cases z;exact(Gk (Jf I sq.sq) (Je I c) ()).elim
  |emp=>
   simp only[AX]at q;obtain⟨b,o,z,c⟩:=q;cases z;exact(Gk (Jf I sq.sq) (tM I c) ()).elim
  |str x=>simp only[AX]at q;have z:=q.1;cases z
  |_=>simp only[AX]at q;cases q
 |.emp,e,v,h,q=>by
  simp only[AX]at h;obtain⟨a,o,rfl,sq⟩:=h;cases e with
  |emp=>rfl
  |tup es=>
   simp only[AX]at q;obtain⟨b,us,z,c,f⟩:=q;cases z;exact(Gk (tM I sq) (Je I c) ()).elim
  |lst es=>
   simp only[AX]at q;obtain⟨b,us,z,c,f⟩:=q;cases z;exact(Gk (tM I sq) (Jf I c.sq) ()).elim
  |str x=>simp only[AX]at q;have z:=q.1;cases z
  |_=>simp only[AX]at q;cases q
theorem aP.inj(I:L2.AV X AO σ H s):∀{ds es:O Dt} {vs:O V},aP X.K H ds vs->aP X.K H es vs->ds=es
 |[],es,vs,h,q=>by
  simp only[aP]at h;subst h;cases es with
  |nil=>rfl
  |cons e es=>simp only[aP]at q;obtain⟨_,_,z,_⟩:=q;cases z
 |d::ds,es,vs,h,q=>by
  simp only[aP]at h;obtain⟨v,r,rfl,h1,h2⟩:=h;cases es with
  |nil=>simp only[aP]at q;cases q
  |cons e es=>
   simp only[aP]at q;obtain⟨b,a,z,q1,q2⟩:=q;cases z;rw[AX.inj I h1 q1,aP.inj I h2 q2]
end
theorem N4(I:L2.AV X AO σ H s):∀(n:Nat) {A:A6} {d e:Dt} {x y:V} {u v:A0} {k:Bool},min (Bu d) (Bu e)<=n->A.units+n<cLine->AX X.K H d x->AX X.K H e y->B6 x u->B6 y v->DN d e=Z k->EqAt A s u v k:=by
 intro n
 induction n with
 |zero=>
  intro A d e x y u v k M;have h1:1<=Bu d:=by cases d<;>simp only[Bu]<;>omega
  have h2:1<=Bu e:=by cases e<;>simp only[Bu]<;>omega
  omega
 |succ n ih=>
  intro A d e x y u v k M hA m c w g ek;have h:A.units<cLine:=by omega
  by_cases G:u=v/\∃a,u=.ref a
  ·obtain⟨rfl,a,rfl⟩:=G;have hx:x=.ref a:=by have:=w.abs;simpa[MY]using this.symm
   have hy:y=.ref a:=by have:=g.abs;simpa[MY]using this.symm
   subst hx hy;have:=AX.inj I m c;subst this;rw[T7 ek];exact EqAt.same _
  ·have items:∀{ds es:O Dt} {vs us:O V} {AS l:O A0} {f:Nat->Bool},min (DK ds) (DK es)<=n->aP X.K H ds vs->aP X.K H es us->AY vs AS->AY us l->(∀(j:Nat) x y,ds[j]?=Z x->es[j]?=Z y->DN x y=Z (f j)) →
     ∀j (h1:j<AS.toArray.size) (h2:j<l.toArray.size),EqAt A.in1 s AS.toArray[j] l.toArray[j] (f j):=by
    intro ds es vs us AS l f hm r1 U w1 w2 D j h1 h2;have l1:=w1.length;have l2:=w2.length;have l3:=r1.length;have l4:=U.length;have j1:j<AS.length:=by simpa using h1
    have j2:j<l.length:=by simpa using h2
    have P:ds[j]?=Z ds[j]:=by simp
    have d2:es[j]?=Z es[j]:=by simp
    obtain⟨a,ea,B⟩:=r1.get P;obtain⟨b,eb,C⟩:=U.get d2;obtain⟨p,ep,rp⟩:=w1.get ea;obtain⟨q,eq,rq⟩:=w2.get eb;have e1:AS.toArray[j]=p:=by simpa[j1]using ep
    have e2:l.toArray[j]=q:=by simpa[j2]using eq
    rw[e1,e2];have S:=yS P;have m2:=yS d2;exact ih () (by rw[units_in1];omega) B C rp rq (D j _ _ P d2)
   cases d with
   |non=>
    cases m;cases w;cases e with
    |non=>cases c;cases g;cases ek;exact EqAt.same _
    |bl b=>cases c;cases g;cases ek;exact EqAt.none_bool b
    |int b=>cases c;obtain⟨t,rfl⟩:=g;cases ek;exact EqAt.none_int b t
    |str b=>obtain⟨rfl,_⟩:=c;obtain⟨t,rfl⟩:=g;cases ek;exact EqAt.none_str b t
    |tup es=>obtain⟨b,us,rfl,sq,_⟩:=c;cases g;cases ek;obtain⟨_,_,p,_⟩:=I.tuple sq;exact EqAt.none_tuple p h
    |lst es=>obtain⟨b,us,rfl,sq,_⟩:=c;cases g;cases ek;obtain⟨_,_,p,_⟩:=I.list sq.sq;exact EqAt.none_list p.isList h
    |emp=>cases ek
   |bl a=>
    cases m;cases w;cases e with
    |non=>cases c;cases g;cases ek;exact EqAt.bool_none a
    |bl b=>cases c;cases g;cases ek;exact EqAt.bool_bool a b
    |int b=>cases c;obtain⟨t,rfl⟩:=g;cases ek;exact EqAt.bool_int a b t
    |str b=>obtain⟨rfl,_⟩:=c;obtain⟨t,rfl⟩:=g;cases ek;exact EqAt.bool_str a b t
    |tup es=>obtain⟨b,us,rfl,sq,_⟩:=c;cases g;cases ek;obtain⟨_,_,p,_⟩:=I.tuple sq;exact EqAt.bool_tuple a p h
    |lst es=>obtain⟨b,us,rfl,sq,_⟩:=c;cases g;cases ek;obtain⟨_,_,p,_⟩:=I.list sq.sq;exact EqAt.bool_list a p.isList h
    |emp=>cases ek
   |int a=>
    cases m;obtain⟨i,rfl⟩:=w;cases e with
    |non=>cases c;cases g;cases ek;exact EqAt.int_none a i
    |bl b=>cases c;cases g;cases ek;exact EqAt.int_bool a i b
    |int b=>cases c;obtain⟨t,rfl⟩:=g;cases ek;exact EqAt.int_int a i b t
    |str b=>obtain⟨rfl,_⟩:=c;obtain⟨t,rfl⟩:=g;cases ek;exact EqAt.int_str a i b t
    |tup es=>obtain⟨b,us,rfl,sq,_⟩:=c;cases g;cases ek;obtain⟨_,_,p,_⟩:=I.tuple sq;exact EqAt.int_tuple a i p h
    |lst es=>obtain⟨b,us,rfl,sq,_⟩:=c;cases g;cases ek;obtain⟨_,_,p,_⟩:=I.list sq.sq;exact EqAt.int_list a i p.isList h
    |emp=>cases ek
   |str a=>
    obtain⟨rfl,_⟩:=m;obtain⟨i,rfl⟩:=w;cases e with
    |non=>cases c;cases g;cases ek;exact EqAt.str_none a i
    |bl b=>cases c;cases g;cases ek;exact EqAt.str_bool a i b
    |int b=>cases c;obtain⟨t,rfl⟩:=g;cases ek;exact EqAt.str_int a i b t
    |str b=>obtain⟨rfl,_⟩:=c;obtain⟨t,rfl⟩:=g;cases ek;exact EqAt.str_str a i b t
    |tup es=>obtain⟨b,us,rfl,sq,_⟩:=c;cases g;cases ek;obtain⟨_,_,p,_⟩:=I.tuple sq;exact EqAt.str_tuple a i p h
    |lst es=>obtain⟨b,us,rfl,sq,_⟩:=c;cases g;cases ek;obtain⟨_,_,p,_⟩:=I.list sq.sq;exact EqAt.str_list a i p.isList h
    |emp=>
     simp only[AX]at c;obtain⟨p,o,rfl,e⟩:=c;cases g;cases ek;obtain⟨_,_,vs,r,q⟩:=N8 I.hok (.inr ⟨o,e⟩);exact oP a i (DG Y2 r q) h
   |tup ds=>
    obtain⟨a,vs,rfl,N,B⟩:=m;cases w;obtain⟨AS,E,p,_⟩:=I.tuple N;cases e with
    |non=>cases c;cases g;cases ek;exact EqAt.tuple_none p h
    |bl b=>cases c;cases g;cases ek;exact EqAt.tuple_bool b p h
    |int b=>cases c;obtain⟨t,rfl⟩:=g;cases ek;exact EqAt.tuple_int b t p h
    |str b=>obtain⟨rfl,_⟩:=c;obtain⟨t,rfl⟩:=g;cases ek;exact EqAt.tuple_str b t p h
    |lst es=>obtain⟨b,us,rfl,sq,_⟩:=c;cases g;cases ek;obtain⟨_,_,p2,_⟩:=I.list sq.sq;exact EqAt.tuple_list p p2.isList h
    |tup es=>
     obtain⟨b,us,rfl,Q,C⟩:=c;cases g;obtain⟨l,F,p2,_⟩:=I.tuple Q;change o9 _ _=Z _ at ek;obtain⟨f,D,rfl⟩:=yR ek;have J:a≠b:=λz=>G ⟨by rw[z],a,rfl⟩;have z:=EqAt.of_refs J (RcAt.tuples (A:=A) (e:=f) p p2 h (items (by simp only[Bu]at M;omega) B C E F D));have q1:AS.toArray.size=ds.length:=by rw[zi,<-E.length,B.length]
     have q2:l.toArray.size=es.length:=by rw[zi,<-F.length,C.length]
     rw[q1,q2]at z;exact z
    |emp=>cases ek
   |lst ds=>
    obtain⟨a,vs,rfl,N,B⟩:=m;cases w;obtain⟨AS,E,p,_⟩:=I.list N.sq;cases e with
    |non=>cases c;cases g;cases ek;exact EqAt.list_none p.isList h
    |bl b=>cases c;cases g;cases ek;exact EqAt.list_bool b p.isList h
    |int b=>cases c;obtain⟨t,rfl⟩:=g;cases ek;exact EqAt.list_int b t p.isList h
    |str b=>obtain⟨rfl,_⟩:=c;obtain⟨t,rfl⟩:=g;cases ek;exact EqAt.list_str b t p.isList h
    |tup es=>obtain⟨b,us,rfl,sq,_⟩:=c;cases g;cases ek;obtain⟨_,_,p2,_⟩:=I.tuple sq;exact EqAt.list_tuple p.isList p2 h
    |lst es=>
     obtain⟨b,us,rfl,Q,C⟩:=c;cases g;obtain⟨l,F,p2,_⟩:=I.list Q.sq;change o9 _ _=Z _ at ek;obtain⟨f,D,rfl⟩:=yR ek;have J:a≠b:=λz=>G ⟨by rw[z],a,rfl⟩;have q1:AS.toArray.size=ds.length:=by rw[zi,<-E.length,B.length]
     have q2:l.toArray.size=es.length:=by rw[zi,<-F.length,C.length]
     by_cases W:AS.toArray.size=l.toArray.size
     ·have z:=EqAt.of_refs J (RcAt.lists (A:=A) (e:=f) p.isList p2.isList W h (items (by simp only[Bu]at M;omega) B C E F D));have L:ds.length=es.length:=by omega
      rw[q1]at z;rw[L,yb,beq_self_eq_true,KF,<-L];exact z
     ·have L:(ds.length==es.length)=false:=by rw[beq_eq_false_iff_ne];omega
      rw[L,m7];exact EqAt.of_refs J (RcAt.lists_lengths p.isList p2.isList (by simpa using W) h)
    |emp=>cases ek
   |emp=>
    cases e<;>first|(cases ek;done)|skip;simp only[AX]at m c;obtain⟨a,o,rfl,e1⟩:=m;obtain⟨b,o',rfl,e2⟩:=c;cases w;cases g;cases ek;obtain⟨_,S,vs,r,q⟩:=N8 I.hok (.inr ⟨o,e1⟩);obtain⟨_,m2,a1,r',q'⟩:=N8 I.hok (.inr ⟨o',e2⟩);exact EqAt.of_refs (λz=>G ⟨by rw[z],a,rfl⟩) (SO S m2 (DG Y2 r q) (DG Y2 r' q') h)
theorem T9(I:L2.AV X AO σ H s){es:O Dt}{us:O V}{c:O A0}{f:Nat->Bool}(D:min (DK ds) (DK es)<=n)(G:A.units+n+1<cLine)(k:aP X.K H ds vs)(g:aP X.K H es us)(h:AY vs AS)(i:AY us c)(m:∀(j:Nat) x y,ds[j]?=Z x->es[j]?=Z y->DN x y=Z (f j)):∀j (h1:j<AS.toArray.size) (h2:j<c.toArray.size),EqAt A.in1 s AS.toArray[j] c.toArray[j] (f j):=by
 intro j h1 h2;have J:=h.length;have E:=i.length;have C:=k.length;have F:=g.length;have u:j<AS.length:=by simpa using h1
 have z:j<c.length:=by simpa using h2
 have e:ds[j]?=Z (ds[j]'()):=by simp
 have d2:es[j]?=Z (es[j]'()):=by simp
 obtain⟨a,ea,v⟩:=k.get e;obtain⟨b,eb,w⟩:=g.get d2;obtain⟨p,ep,t⟩:=h.get ea;obtain⟨q,o,l⟩:=i.get eb;have e1:AS.toArray[j]=p:=by simpa[u]using ep
 have e2:c.toArray[j]=q:=by simpa[z]using o
 rw[e1,e2];have B:=yS e;have m2:=yS d2;exact N4 I n () (by rw[units_in1];omega) v w t l (m j _ _ e d2)
def jG(K:BA)(H:Hp):Dt->V->Prop
 |.lst ds,v=>∃a vs,v=.ref a/\tH K H a vs/\aP K H ds vs
 |d,v=>AX K H d v
def oX:Bx->Bool
 |.n _=>true
 |.m _ _=>true
 |_=>false
def toD:Bx->Dt
 |.z d=>d
 |.l ds=>.lst ds
 |.o ds=>.lst ds
 |.n _=>.non
 |.m _ _=>.non
theorem bH.toD{v:V}(h:bH K H b v)(a:oX b=false):jG K H (toD b) v:=by
 cases b with
 |z d=>
  cases d with
  |lst ds=>exact h.Mw rfl
  |_=>exact h
 |l ds=>exact h.Mw rfl
 |o ds=>exact h.Mw rfl
 |n _=>cases a
 |m _ _=>cases a
theorem Y0(I:L2.AV X AO σ H s){d e:Dt}{x y:V}{v:A0}{k:Bool}(N:min (Bu d) (Bu e)<=100)(W:X.A.units+100<cLine)(z:jG X.K H d x)(h:jG X.K H e y)(B:B6 x u)(i:B6 y v)(ek:DN d e=Z k):RcAt X.A s u v k/\RcNeAt X.A s u v (!k):=by
 have g:X.A.units<cLine:=by omega
 cases d with
 |non=>
  cases z;cases B;cases e with
  |non=>
   cases h;cases i;cases ek;exact⟨.none_none,.none_none⟩
  |bl c=>
   cases h;cases i;cases ek;exact⟨.none_bool c,.none_bool c⟩
  |int c=>
   cases h;obtain⟨t2,rfl⟩:=i;cases ek;exact⟨.none_int c t2,.none_int c t2⟩
  |str c=>
   obtain⟨rfl,_⟩:=h;obtain⟨t2,rfl⟩:=i;cases ek;exact⟨.none_str c t2,.none_str c t2⟩
  |tup c=>
   obtain⟨a2,w,rfl,j,l⟩:=h;cases i;obtain⟨t,m,p2,_⟩:=I.tuple j;cases ek;exact⟨.none_tuple p2 g,.none_tuple p2 g⟩
  |lst c=>
   obtain⟨a2,w,rfl,j,l⟩:=h;cases i;obtain⟨t,m,p2,_⟩:=I.list j;cases ek;exact⟨.none_list p2.isList g,.none_list p2.isList g⟩
  |emp=>cases ek
 |bl x1=>
  cases z;cases B;cases e with
  |non=>
   cases h;cases i;cases ek;exact⟨.bool_none x1,.bool_none x1⟩
  |bl c=>
   cases h;cases i;cases ek;exact⟨.bool_bool x1 c,.bool_bool x1 c⟩
  |int c=>
   cases h;obtain⟨t2,rfl⟩:=i;cases ek;exact⟨.bool_int x1 c t2,.bool_int x1 c t2⟩
  |str c=>
   obtain⟨rfl,_⟩:=h;obtain⟨t2,rfl⟩:=i;cases ek;exact⟨.bool_str x1 c t2,.bool_str x1 c t2⟩
  |tup c=>
   obtain⟨a2,w,rfl,j,l⟩:=h;cases i;obtain⟨t,m,p2,_⟩:=I.tuple j;cases ek;exact⟨.bool_tuple x1 p2 g,.bool_tuple x1 p2 g⟩
  |lst c=>
   obtain⟨a2,w,rfl,j,l⟩:=h;cases i;obtain⟨t,m,p2,_⟩:=I.list j;cases ek;exact⟨.bool_list x1 p2.isList g,.bool_list x1 p2.isList g⟩
  |emp=>cases ek
 |int x1=>
  cases z;obtain⟨t1,rfl⟩:=B;cases e with
  |non=>
   cases h;cases i;cases ek;exact⟨.int_none x1 t1,.int_none x1 t1⟩
  |bl c=>
   cases h;cases i;cases ek;exact⟨.int_bool x1 t1 c,.int_bool x1 t1 c⟩
  |int c=>
   cases h;obtain⟨t2,rfl⟩:=i;cases ek;exact⟨.int_int x1 t1 c t2,.int_int x1 t1 c t2⟩
  |str c=>
   obtain⟨rfl,_⟩:=h;obtain⟨t2,rfl⟩:=i;cases ek;exact⟨.int_str x1 t1 c t2,.int_str x1 t1 c t2⟩
  |tup c=>
   obtain⟨a2,w,rfl,j,l⟩:=h;cases i;obtain⟨t,m,p2,_⟩:=I.tuple j;cases ek;exact⟨.int_tuple x1 t1 p2 g,.int_tuple x1 t1 p2 g⟩
  |lst c=>
   obtain⟨a2,w,rfl,j,l⟩:=h;cases i;obtain⟨t,m,p2,_⟩:=I.list j;cases ek;exact⟨.int_list x1 t1 p2.isList g,.int_list x1 t1 p2.isList g⟩
  |emp=>cases ek
 |str x1=>
  obtain⟨rfl,_⟩:=z;obtain⟨t1,rfl⟩:=B;cases e with
  |non=>
   cases h;cases i;cases ek;exact⟨.str_none x1 t1,.str_none x1 t1⟩
  |bl c=>
   cases h;cases i;cases ek;exact⟨.str_bool x1 t1 c,.str_bool x1 t1 c⟩
  |int c=>
   cases h;obtain⟨t2,rfl⟩:=i;cases ek;exact⟨.str_int x1 t1 c t2,.str_int x1 t1 c t2⟩
  |str c=>
   obtain⟨rfl,_⟩:=h;obtain⟨t2,rfl⟩:=i;cases ek;exact⟨.str_str x1 t1 c t2,.str_str x1 t1 c t2⟩
  |tup c=>
   obtain⟨a2,w,rfl,j,l⟩:=h;cases i;obtain⟨t,m,p2,_⟩:=I.tuple j;cases ek;exact⟨.str_tuple x1 t1 p2 g,.str_tuple x1 t1 p2 g⟩
  |lst c=>
   obtain⟨a2,w,rfl,j,l⟩:=h;cases i;obtain⟨t,m,p2,_⟩:=I.list j;cases ek;exact⟨.str_list x1 t1 p2.isList g,.str_list x1 t1 p2.isList g⟩
  |emp=>
   simp only[jG,AX]at h;obtain⟨p,o,rfl,e⟩:=h;cases i;cases ek;obtain⟨_,_,vs,r,q⟩:=N8 I.hok (.inr ⟨o,e⟩);exact⟨Od x1 t1 (DG Y2 r q) g,sD x1 t1 (DG Y2 r q) g⟩
 |tup x1=>
  obtain⟨a1,S,rfl,L,C⟩:=z;cases B;obtain⟨F,D,p1,_⟩:=I.tuple L;cases e with
  |non=>
   cases h;cases i;cases ek;exact⟨.tuple_none p1 g,.tuple_none p1 g⟩
  |bl c=>
   cases h;cases i;cases ek;exact⟨.tuple_bool c p1 g,.tuple_bool c p1 g⟩
  |int c=>
   cases h;obtain⟨t2,rfl⟩:=i;cases ek;exact⟨.tuple_int c t2 p1 g,.tuple_int c t2 p1 g⟩
  |str c=>
   obtain⟨rfl,_⟩:=h;obtain⟨t2,rfl⟩:=i;cases ek;exact⟨.tuple_str c t2 p1 g,.tuple_str c t2 p1 g⟩
  |tup c=>
   obtain⟨a2,w,rfl,j,l⟩:=h;cases i;obtain⟨t,m,p2,_⟩:=I.tuple j;change o9 _ _=Z _ at ek;obtain⟨f,J,rfl⟩:=yR ek;have q1:F.toArray.size=x1.length:=by rw[zi,<-D.length,C.length]
   have q2:t.toArray.size=c.length:=by rw[zi,<-m.length,l.length]
   have it:=T9 I (n:=99) (A:=X.A) (by simp only[Bu]at N;omega) () C l D m J;rw[<-q1,<-q2];exact⟨.tuples p1 p2 g it,.tuples p1 p2 g it⟩
  |lst c=>
   obtain⟨a2,w,rfl,j,l⟩:=h;cases i;obtain⟨t,m,p2,_⟩:=I.list j;cases ek;exact⟨.tuple_list p1 p2.isList g,.tuple_list p1 p2.isList g⟩
  |emp=>cases ek
 |lst x1=>
  obtain⟨a1,S,rfl,L,C⟩:=z;cases B;obtain⟨F,D,p1,_⟩:=I.list L;cases e with
  |non=>
   cases h;cases i;cases ek;exact⟨.list_none p1.isList g,.list_none p1.isList g⟩
  |bl c=>
   cases h;cases i;cases ek;exact⟨.list_bool c p1.isList g,.list_bool c p1.isList g⟩
  |int c=>
   cases h;obtain⟨t2,rfl⟩:=i;cases ek;exact⟨.list_int c t2 p1.isList g,.list_int c t2 p1.isList g⟩
  |str c=>
   obtain⟨rfl,_⟩:=h;obtain⟨t2,rfl⟩:=i;cases ek;exact⟨.list_str c t2 p1.isList g,.list_str c t2 p1.isList g⟩
  |tup c=>
   obtain⟨a2,w,rfl,j,l⟩:=h;cases i;obtain⟨t,m,p2,_⟩:=I.tuple j;cases ek;exact⟨.list_tuple p1.isList p2 g,.list_tuple p1.isList p2 g⟩
  |lst c=>
   obtain⟨a2,w,rfl,j,l⟩:=h;cases i;obtain⟨t,m,p2,_⟩:=I.list j;change o9 _ _=Z _ at ek;obtain⟨f,J,rfl⟩:=yR ek;have q1:F.toArray.size=x1.length:=by rw[zi,<-D.length,C.length]
   have q2:t.toArray.size=c.length:=by rw[zi,<-m.length,l.length]
   have it:=T9 I (n:=99) (A:=X.A) (by simp only[Bu]at N;omega) () C l D m J;by_cases E:F.toArray.size=t.toArray.size
   ·have G:x1.length=c.length:=by omega
    rw[G,yb,beq_self_eq_true,KF,<-G,<-q1];exact⟨.lists p1.isList p2.isList E g it,.lists p1.isList p2.isList E g it⟩
   ·have G:(x1.length==c.length)=false:=by rw[beq_eq_false_iff_ne];omega
    rw[G,m7];exact⟨.lists_lengths p1.isList p2.isList (by simpa using E) g,.lists_lengths p1.isList p2.isList (by simpa using E) g⟩
  |emp=>cases ek
 |emp=>
  cases e<;>first|(cases ek;done)|skip;simp only[jG,AX]at z h;obtain⟨a,o,rfl,e1⟩:=z;obtain⟨b,o',rfl,e2⟩:=h;cases B;cases i;cases ek;obtain⟨_,M,vs,r,q⟩:=N8 I.hok (.inr ⟨o,e1⟩);obtain⟨_,m2,U,P,Q⟩:=N8 I.hok (.inr ⟨o',e2⟩);exact⟨SO M m2 (DG Y2 r q) (DG Y2 P Q) g,dL M m2 (DG Y2 r q) (DG Y2 P Q) g⟩
def C8(a b:Bx):Y Bx:=if oX a=true\/oX b=true then Y3 else if min (Bu (toD a)) (Bu (toD b))<=100 then(DN (toD a) (toD b)).bind λk=>Z (.z (.bl k))else Y3
def Wy(a b:Bx):Y Bx:=if oX a=true\/oX b=true then Y3 else if min (Bu (toD a)) (Bu (toD b))<=100 then(DN (toD a) (toD b)).bind λk=>Z (.z (.bl (!k)))else Y3
theorem of_eq(i:X.A.units+100<cLine):Dj X (AH .Eq) C8:=by
 intro AO s σ H x y v u Q I j o h;obtain⟨a,b,c,g,n,e,q⟩:=h;unfold C8 at e;split at e
 ·cases e
 rename_i f;have m:oX a=false:=by cases h:oX a with|false=>rfl|true=>exact absurd (.inl h) f
 have p:oX b=false:=by cases h:oX b with|false=>rfl|true=>exact absurd (.inr h) f
 split at e
 ·rename_i l;obtain⟨k,ek,e⟩:=AU e;cases e;exact(Y0 I l i (g.toD m) (n.toD p) j o ek).1 X.prog X.w X.xe _ ⟨.bl k,H,I,rfl,q _ H (AW.refl H) trivial (by unfold bH AX;rfl)⟩
 ·cases e
theorem Bv(i:X.A.units+100<cLine):Dj X (AH .NotEq) Wy:=by
 intro AO s σ H x y v u Q I j o h;obtain⟨a,b,c,g,n,e,q⟩:=h;unfold Wy at e;split at e
 ·cases e
 rename_i f;have m:oX a=false:=by cases h:oX a with|false=>rfl|true=>exact absurd (.inl h) f
 have p:oX b=false:=by cases h:oX b with|false=>rfl|true=>exact absurd (.inr h) f
 split at e
 ·rename_i l;obtain⟨k,ek,e⟩:=AU e;cases e;exact(Y0 I l i (g.toD m) (n.toD p) j o ek).2 X.prog X.w X.xe _ ⟨.bl (!k),H,I,rfl,q _ H (AW.refl H) trivial (by unfold bH AX;rfl)⟩
 ·cases e
theorem JK{i:Int}:bH K H (.z (.int i)) (.int i):=by unfold bH AX;rfl
theorem JL{b:Bool}:bH K H (.z (.bl b)) (.bl b):=by unfold bH AX;rfl
theorem I0(h:x.length<=AB):bH K H (.z (.str x)) (.str x):=by unfold bH AX;exact⟨rfl,h⟩
theorem Tc{i:Int}{v:V}(h:bH K H (.z (.int i)) v):v=.int i:=by simpa only[bH,AX]using h
theorem W7{v:V}(h:bH K H (.z (.str x)) v):v=.str x/\x.length<=AB:=by simpa only[bH,AX]using h
theorem Hk{v:V}(h:bH K H (.z (.tup ds)) v):∃a vs,v=.ref a/\wM K H a vs/\aP K H ds vs:=by simpa only[bH,AX]using h
def i2(g:Int->Int->Y Dt):Bx->Bx->Y Bx
 |.z (.int i),.z (.int j)=>(g i j).bind λd=>Z (.z d)
 |_,_=>Y3
theorem JM{f:A0->A0->Sem A0}{r:R2}{g:Int->Int->Y Dt}(o:yE X f r)(h:∀i j d H Q,g i j=Z d->(∀v,AX X.K H d v->Q v H)->r (.int i) (.int j) H Q):Dj X f (i2 g):=yE.imp o λx y H Q q=>by
 obtain⟨a,b,c,k,m,e,q⟩:=q;unfold i2 at e;split at e
 ·rename_i i j;obtain⟨d,n,e⟩:=AU e;cases e;rw[Tc k,Tc m];exact h i j d H Q n λv l=>q v H (AW.refl H) trivial l
 ·cases e
theorem HI{i:Int}:AX K H (.int i) (.int i):=by unfold AX;rfl
theorem GO{b:Bool}:AX K H (.bl b) (.bl b):=by unfold AX;rfl
abbrev F6:=i2 λi j=>Z (.int (i-j))
abbrev DT:=i2 λi j=>Z (.bl (decide (i<=j)))
abbrev HH:=i2 λi j=>Z (.bl (decide (j<i)))
abbrev FM:=i2 λi j=>Z (.bl (decide (j<=i)))
abbrev qm:=i2 λi j=>if 0<j/\j<1073741824 then Z (.int (i / j))else Y3
abbrev kJ:=i2 λi j=>if 0<j then Z (.int (i%j))else Y3
abbrev MZ:=i2 λi j=>if 0<=j/\j<=1000/\i.natAbs<2 ^ 64 then Z (.int (i ^ j.toNat))else Y3
theorem rg:Dj X (binaryOp .Sub) F6:=JM t8 λi j d H Q e q=>by cases e;exact⟨i,j,rfl,rfl,q _ HI⟩
theorem Bz:Dj X (AH .LtE) DT:=JM og λi j d H Q e q=>by cases e;exact⟨i,j,rfl,rfl,q _ GO⟩
theorem Nl:Dj X (AH .Gt) HH:=JM VZ λi j d H Q e q=>by cases e;exact⟨i,j,rfl,rfl,q _ GO⟩
theorem Y4:Dj X (AH .GtE) FM:=JM tz λi j d H Q e q=>by cases e;exact⟨i,j,rfl,rfl,q _ GO⟩
theorem jH:Dj X (binaryOp .FloorDiv) qm:=JM fm λi j d H Q e q=>by
 split at e
 ·rename_i h;cases e;exact⟨i,j,rfl,rfl,h,q _ HI⟩
 ·cases e
theorem dM:Dj X (binaryOp .Mod) kJ:=JM TD λi j d H Q e q=>by
 split at e
 ·rename_i h;cases e;exact⟨i,j,rfl,rfl,h,q _ HI⟩
 ·cases e
theorem iO:Dj X (binaryOp .Pow) MZ:=JM XE λi j d H Q e q=>by
 split at e
 ·rename_i h;cases e;exact⟨i,j,rfl,rfl,⟨h.1,by omega,h.2.2⟩,q _ HI⟩
 ·cases e
def FG:Bx->Y Bx
 |.z (.int i)=>Z (.z (.int (-i)))
 |_=>Y3
theorem NY:OY X (unaryOp .USub) FG:=ET.imp sN λx H Q q=>by
 obtain⟨a,c,b,e,q⟩:=q;unfold FG at e;split at e
 ·rename_i i;cases e;exact⟨i,Tc b,q _ H (AW.refl H) trivial JK⟩
 ·cases e
def Ua:Nat:=1000000
theorem UN:Ua<=AB:=by decide
theorem ci{b:A2}{us:O V}{Q:VK}(I:L2.AV X AO σ H s)(n:tH X.K H l vs)(u:tH X.K H b us)(m:vs.length+us.length<=AB)(q:∀p,H p=Y3->Q (.ref p) (BD H p (.lst (vs++us)))):
  A8 (dl X) X.A (binaryOp .Add (.ref l) (.ref b)) (EP X AO σ Q) X.xe s:=by
 obtain⟨AS,g,⟨⟨C,x,v,sl⟩,j,e1,c1,h,i⟩,z1⟩:=I.list n;obtain⟨a,f,⟨⟨cls2,E,B,k⟩,t,e2,c2,d2,c⟩,z2⟩:=I.list u;simp only at c1 h i c2 d2 c;subst c1 h i c2 d2 c;have D:=g.length;have z:=f.length;have e:AS.toArray++a.toArray=(AS++a).toArray:=by simp
 refine concat_meets ⟨_,e1,rfl⟩ ⟨_,e2,rfl⟩ noFill_list_add seq_list_add PySem.F.slot_list_add PySem.F.entry_list_add (PySem.F.args_list_add_2 _ _) (list_addW l b AS.toArray a.toArray j t Y3 Y3 sl k (by rw[zi,zi];omega)) ⟨e1,e2,?_⟩;rw[e];exact⟨.ref s.heap.objs.size,_,I.laid (t':=s.toks) (o:=.lst (vs++us)) (λb y q=>zg _ q) (zo _) ⟨by rw[zt];exact m,_,0,g.append f,zD _ rfl⟩,rfl,q _ (I.hok.fresh (zo _))⟩
theorem SY{b:A2}{us:O V}{Q:VK}(I:L2.AV X AO σ H s)(g:wM X.K H l vs)(f:wM X.K H b us)(n:vs.length+us.length<=AB)(q0:vs=[]->Q (.ref b) H)(q1:us=[]->Q (.ref l) H)(q2:∀p,H p=Y3->Q (.ref p) (BD H p (.tup (vs++us)))):
  A8 (dl X) X.A (binaryOp .Add (.ref l) (.ref b)) (EP X AO σ Q) X.xe s:=by
 by_cases a:vs=[]
 ·obtain⟨AS,o,⟨⟨t,j,x,sl⟩,e1,c1,h,e⟩,z1⟩:=I.tuple g;obtain⟨i,u,⟨⟨cls2,q,v,k⟩,e2,c2,m,c⟩,z2⟩:=I.tuple f;simp only at c1 e c2 c;subst c1 e c2 c;have:AS=[]:=o.Ja.mpr a;exact concat_meets ⟨_,e1,rfl⟩ ⟨_,e2,rfl⟩ noFill_tuple_add seq_tuple_add PySem.F.slot_tuple_add YE (yY _ _)
   (tuple_addW0 l b AS.toArray i.toArray h m j q sl k (by simp[this])) ⟨e1,e2,⟨.ref b,H,I,rfl,q0 a⟩⟩
 ·exact om AO s σ H (.ref l) (.ref b) (.ref l) (.ref b) Q I Y2 Y2 ⟨l,b,vs,us,rfl,rfl,g,f,a,n,q1,λ_=>q2⟩
def eY:Bx->Bx->Y Bx
 |.z (.int i),.z (.int j)=>Z (.z (.int (i+j)))
 |.z (.str i),.z (.str j)=>if i.length+j.length<=Ua then Z (.z (.str (i++j)))else Y3
 |.z (.tup xs),.z (.tup ys)=>if xs.length+ys.length<=Ua then Z (.z (.tup (xs++ys)))else Y3
 |a,b=>(vV a).bind λxs=>(vV b).bind λys=>if xs.length+ys.length<=Ua then Z (.o (xs++ys))else Y3
theorem EH(i j:AK):(i++j).length=i.length+j.length:=by
 show(i.cps++j.cps).size=_;rw[kb];rfl
theorem cL:Dj X (binaryOp .Add) eY:=by
 intro AO s σ H x y v u Q I n w h;obtain⟨a,b,c,k,o,e,q⟩:=h;have B:=UN;unfold eY at e;split at e
 ·rename_i i j;cases e;exact UX AO s σ H x y v u Q I n w ⟨i,j,Tc k,Tc o,q _ H (AW.refl H) trivial JK⟩
 ·rename_i i j;split at e
  ·rename_i A;cases e;exact WT AO s σ H x y v u Q I n w ⟨i,j,(W7 k).1,(W7 o).1,by omega,q _ H (AW.refl H) trivial (I0 (by rw[EH];omega))⟩
  ·cases e
 ·rename_i xs ys;split at e
  ·rename_i A;cases e;obtain⟨l,vs,rfl,sl,f⟩:=Hk k;obtain⟨m,us,rfl,t,g⟩:=Hk o;cases n;cases w;have h1:=f.length;have h2:=g.length;refine SY I sl t () (λz=>q _ H (AW.refl H) trivial ?_) (λz=>q _ H (AW.refl H) trivial ?_) λp hp=>q _ _ (cG hp) trivial ?_
   ·unfold bH AX;refine⟨m,us,rfl,t,?_⟩;have:xs=[]:=by subst z;exact js (by simpa using h1.symm)
    rw[this,kP];exact g
   ·unfold bH AX;refine⟨l,vs,rfl,sl,?_⟩;have:ys=[]:=by subst z;exact js (by simpa using h2.symm)
    rw[this,qS];exact f
   ·unfold bH AX;exact⟨p,_,rfl,.inl (.inl bK),(f.append g).kp (.of (cG hp))⟩
  ·cases e
 ·obtain⟨xs,ea,e⟩:=AU e;obtain⟨ys,eb,e⟩:=AU e;split at e
  ·rename_i A;cases e;obtain⟨l,vs,rfl,sl,f⟩:=k.Mw ea;obtain⟨m,us,rfl,t,g⟩:=o.Mw eb;cases n;cases w;have h1:=f.length;have h2:=g.length;refine ci I sl t () λp hp=>q _ _ (cG hp) (λa ea=>by cases ea;exact hp) ⟨p,_,rfl,bK,(f.append g).kp (.of (cG hp))⟩
  ·cases e
def DP:Bx->Bx->Y Bx
 |.z (.int i),.z (.int j)=>if(-(2 ^ 64)<i/\i<2 ^ 64)\/(-(2 ^ 64)<j/\j<2 ^ 64)then Z (.z (.int (i*j)))else Y3
 |.z (.str x),.z (.int n)=>if n<=1000 ∧ -1000<=n/\x.length<=1000 then Z (.z (.str (Txt.mul x n)))else Y3
 |_,_=>Y3
theorem Bw(x:Array Nat):∀(n:Nat) (a:Array Nat),((bb n x).foldl (·++·) a).size=a.size+n*x.size
 |0,a=>by simp
 |n+1,a=>by
  rw[K2,kR,Bw x n,kb,eU];omega
theorem Qu(x:AK)(n:Int):(Txt.mul x n).length<=n.toNat*x.length+x.length:=by
 unfold Txt.mul;split
 ·exact ZT _
 ·split
  ·exact Nat.le_add_left _ _
  ·show((bb n.toNat x.cps).foldl (·++·) #[]).size<=_;rw[Bw];show(#[]:Array Nat).size+n.toNat*x.cps.size<=n.toNat*x.cps.size+x.cps.size;simp
theorem yU:Dj X (binaryOp .Mult) DP:=by
 intro AO s σ H x y v u Q I m p h;obtain⟨a,b,c,l,o,e,q⟩:=h;unfold DP at e;split at e
 ·rename_i i j;split at e
  ·rename_i g;cases e;exact oT AO s σ H x y v u Q I m p ⟨i,j,Tc l,Tc o,g,q _ H (AW.refl H) trivial JK⟩
  ·cases e
 ·rename_i f n;split at e
  ·rename_i g;cases e;obtain⟨rfl,hx⟩:=W7 l;have z:=Tc o;subst z;obtain⟨t,rfl⟩:=m;obtain⟨w,rfl⟩:=p;have B:AB=16777216:=sizeLine_eq;have C:n.toNat*f.length<=1000*1000:=yf () g.2.2;refine SB.mul ⟨?_,λh1 h2=>?_,λh1 h2=>?_⟩ λw k=>⟨.str _,H,I.tok _,⟨_,rfl⟩,q _ H (AW.refl H) trivial (I0 (zl (Qu f n) ()))⟩
   ·have e1:decide (n < -(2 ^ 63:Int))=false:=z4 ();have e2:decide (n>=2 ^ 63)=false:=z4 ();rw[e1,e2];rfl
   ·have A:0<n:=by omega
    have:(1000:Int)<=(2 ^ 63-1) / n:=(Int.le_ediv_iff_mul_le A).mpr ();omega
   ·show decide (f.length*n.toNat>AB)=false;rw[Nat.mul_comm];exact z4 ()
  ·cases e
 ·cases e
def qp(i j:AK):Bool:=!(Builtin.Str.occurrences j i 0 j.length 1).isEmpty
def DR:Dt->Bool
 |.non=>true
 |.bl _=>true
 |.int _=>true
 |.str _=>true
 |_=>false
def D4(x:Dt)(ys:O Dt):Y Bool:=if DR x=true/\ys.all DR=true then Z (ys.any λy=>match DN y x with|some true=>true|_=>false)else Y3
def vB:Bx->Y (O Dt)
 |.z (.lst ds)=>Z ds
 |.z (.tup ds)=>Z ds
 |.l ds=>Z ds
 |.o ds=>Z ds
 |_=>Y3
def F8:Bx->Bx->Y Bool
 |.z (.str i),.z (.str j)=>Z (qp i j)
 |.z d,b=>(vB b).bind λys=>D4 d ys
 |_,_=>Y3
def inF(a b:Bx):Y Bx:=(F8 a b).bind λk=>Z (.z (.bl k))
def Ub(a b:Bx):Y Bx:=(F8 a b).bind λk=>Z (.z (.bl (!k)))
theorem Uc{d:Dt}{v:V}(r:AX K H d v)(f:DR d=true):yq v=true:=by
 cases d<;>first|(cases f;done)|skip
 all_goals simp only[AX]at r
 ·subst r;rfl
 ·subst r;rfl
 ·subst r;rfl
 ·obtain⟨rfl,_⟩:=r;rfl
theorem Oe{K:BA}{H:Hp}:∀{ds:O Dt} {vs:O V},aP K H ds vs->ds.all DR=true->vs.all yq=true
 |[],_,h,_=>by simp only[aP]at h;subst h;rfl
 |d::ds,_,h,f=>by
  simp only[aP]at h;obtain⟨v,r,rfl,h1,h2⟩:=h;rw[ke,zS]at f;rw[ke,Uc h1 f.1,Oe h2 f.2];rfl
theorem Qv(b:Bool):(match Z b with|some true=>true|_=>false)=b:=by cases b<;>rfl
theorem dm{d e:Dt}{x y:V}(a:AX K H d x)(b:AX K H e y)(fd:DR d=true)(fe:DR e=true):EF x y=(match DN d e with|some true=>true|_=>false):=by
 cases d<;>first|(cases fd;done)|skip
 all_goals (cases e<;>first|(cases fe;done)|skip)
 all_goals simp only[AX]at a b
 all_goals first
  |(subst a;subst b;exact(Qv _).symm)
  |(obtain⟨rfl,_⟩:=a;subst b;exact(Qv _).symm)
  |(subst a;obtain⟨rfl,_⟩:=b;exact(Qv _).symm)
  |(obtain⟨rfl,_⟩:=a;obtain⟨rfl,_⟩:=b;exact(Qv _).symm)
theorem Y5{K:BA}{H:Hp}{d:Dt}{x:V}(a:AX K H d x)(fd:DR d=true):∀{ds:O Dt} {vs:O V},aP K H ds vs->ds.all DR=true->Hm x vs=ds.any λy=>match DN y d with|some true=>true|_=>false
 |[],_,h,_=>by simp only[aP]at h;subst h;rfl
 |e::ds,_,h,f=>by
  simp only[aP]at h;obtain⟨v,r,rfl,h1,h2⟩:=h;rw[ke,zS]at f;have:=Y5 a fd h2 f.2;unfold Hm at this ⊢;rw[iB,iB,dm h1 a f.1 fd,this]
theorem yV{v:V}(h:bH K H b v)(e:vB b=Z ds):∃a vs,v=.ref a/\(tH K H a vs\/wM K H a vs)/\aP K H ds vs:=by
 cases b with
 |z d=>
  cases d<;>first|(cases e;done)|skip
  ·cases e;obtain⟨a,vs,e,q,r⟩:=Hk h;exact⟨a,vs,e,.inr q,r⟩
  ·cases e;obtain⟨a,vs,e,q,r⟩:=h.Mw rfl;exact⟨a,vs,e,.inl q,r⟩
 |l c=>
  cases e;obtain⟨a,vs,e,q,r⟩:=h.Mw rfl;exact⟨a,vs,e,.inl q,r⟩
 |o c=>
  cases e;obtain⟨a,vs,e,q,r⟩:=h.Mw rfl;exact⟨a,vs,e,.inl q,r⟩
 |n _=>cases e
 |m _ _=>cases e
theorem Og{a:Bx}{x y:V}{k:Bool}(f:bH X.K H a x)(g:bH X.K H b y)(e:F8 a b=Z k):
  (∃i j,x=.str i/\y=.str j/\k=qp i j)\/(∃p xs,y=.ref p/\(tH X.K H p xs\/wM X.K H p xs)/\yq x=true/\xs.all yq=true/\k=Hm x xs):=by
 unfold F8 at e;split at e
 ·rename_i i j;cases e;exact .inl ⟨i,j,(W7 f).1,(W7 g).1,rfl⟩
 ·rename_i d _;obtain⟨ys,l,e⟩:=AU e;unfold D4 at e;split at e
  ·rename_i c;cases e;obtain⟨p,vs,rfl,sq,rs⟩:=yV g l;have h:AX X.K H d x:=f;exact .inr ⟨p,vs,rfl,sq,Uc h c.1,Oe rs c.2,(Y5 h c.1 rs c.2).symm⟩
  ·cases e
 ·cases e
theorem Oh:Dj X (AH .In) inF:=by
 intro AO s σ H x y v u Q I f g h;obtain⟨a,b,c,l,m,e,q⟩:=h;obtain⟨k,ek,e⟩:=AU e;cases e;rcases Og l m ek with⟨i,j,rfl,rfl,rfl⟩|⟨p,xs,rfl,sq,f1,f2,rfl⟩
 ·exact We AO s σ H _ _ v u Q I f g ⟨i,j,rfl,rfl,q _ H (AW.refl H) trivial JL⟩
 ·exact U2 AO s σ H _ _ v u Q I f g ⟨p,xs,rfl,sq,f1,f2,q _ H (AW.refl H) trivial JL⟩
theorem JN:Dj X (AH .NotIn) Ub:=by
 intro AO s σ H x y v u Q I f g h;obtain⟨a,b,c,l,m,e,q⟩:=h;obtain⟨k,ek,e⟩:=AU e;cases e;rcases Og l m ek with⟨i,j,rfl,rfl,rfl⟩|⟨p,xs,rfl,sq,f1,f2,rfl⟩
 ·exact Qh AO s σ H _ _ v u Q I f g ⟨i,j,rfl,rfl,q _ H (AW.refl H) trivial JL⟩
 ·exact Qg AO s σ H _ _ v u Q I f g ⟨p,xs,rfl,sq,f1,f2,q _ H (AW.refl H) trivial JL⟩
def JQ:Bx->Bool
 |.z .non=>true
 |_=>false
theorem Oi{v:V}(h:bH K H b v):decide (v=.non)=JQ b:=by
 cases b with
 |z d=>
  cases d<;>simp only[bH,AX]at h
  ·subst h;rfl
  ·subst h;rfl
  ·subst h;rfl
  ·obtain⟨rfl,_⟩:=h;rfl
  ·obtain⟨_,_,rfl,_⟩:=h;rfl
  ·obtain⟨_,_,rfl,_⟩:=h;rfl
  ·obtain⟨_,_,rfl,_⟩:=h;rfl
 |l ds=>obtain⟨_,_,rfl,_⟩:=h;rfl
 |o ds=>obtain⟨_,_,rfl,_⟩:=h;rfl
 |n ds=>obtain⟨_,_,rfl,_⟩:=h;rfl
 |m ds _=>obtain⟨_,_,rfl,_⟩:=h;rfl
def EU(a:Bx):Bx->Y Bx
 |.z .non=>Z (.z (.bl (JQ a)))
 |_=>Y3
def JR(a:Bx):Bx->Y Bx
 |.z .non=>Z (.z (.bl (!JQ a)))
 |_=>Y3
theorem Ch:Dj X (AH .Is) EU:=yE.imp Sc λx y H Q q=>by
 obtain⟨a,b,c,g,f,e,q⟩:=q;unfold EU at e;split at e
 ·cases e;simp only[bH,AX]at f;exact⟨f,by rw[Oi g];exact q _ H (AW.refl H) trivial JL⟩
 ·cases e
theorem Qw:Dj X (AH .IsNot) JR:=yE.imp d5 λx y H Q q=>by
 obtain⟨a,b,c,g,f,e,q⟩:=q;unfold JR at e;split at e
 ·cases e;simp only[bH,AX]at f;exact⟨f,by rw[Oi g];exact q _ H (AW.refl H) trivial JL⟩
 ·cases e
def fH:Bx->Bx->Y Bx
 |.z (.str x),.z (.int i)=>(Ib x.cps.toList i).bind λc=>Z (.z (.str ⟨#[c]⟩))
 |b,.z (.int i)=>(vB b).bind λds=>(Ib ds i).bind λd=>Z (.z d)
 |_,_=>Y3
theorem uv{i:Int}{d:Dt}(r:aP K H ds vs)(e:Ib ds i=Z d):∃v,Ib vs i=Z v/\AX K H d v:=by
 unfold Ib at e ⊢;rw[r.length];obtain⟨j,a,e⟩:=AU e;rw[a];exact r.get e
theorem bw{a b:Expr}(j:QV X a fa)(l:QV X b fb)(hs:YL b:=by intro _ _;with_unfolding_all rfl):QV X (.Subscript a b pos) (b2 fH fa fb):=⟨have j:=j.run;have l:=l.run;Mr (UV To j l hs) λσ H Q h=>by
 obtain⟨H0,ρ,c,E,e,q⟩:=h;obtain⟨a,ea,e⟩:=AU e;obtain⟨b,eb,e⟩:=AU e;refine⟨H0,ρ,a,E,ea,λv H1 g A t=>⟨H0,ρ,b,E.grow g,eb,λu H2 f B o=>?_⟩⟩;have k:=t.same f;unfold fH at e;split at e
 ·rename_i x i;obtain⟨c',s,e⟩:=AU e;cases e;exact .inr (.inr ⟨_,_,c',(W7 k).1,Tc o,(W7 k).2,s,q _ _ (g.trans f) trivial (I0 (by show(1:Nat)<=AB;decide))⟩)
 ·obtain⟨ds,y,e⟩:=AU e;obtain⟨d,z,e⟩:=AU e;cases e;obtain⟨p,vs,rfl,sq,rs⟩:=yV k y;obtain⟨w,m,n⟩:=uv rs z;have hi:=Tc o;rcases sq with sq|sq
  ·exact .inl ⟨p,vs,_,w,rfl,hi,sq,m,q _ _ (g.trans f) trivial n⟩
  ·exact .inr (.inl ⟨p,vs,_,w,rfl,hi,sq,m,q _ _ (g.trans f) trivial n⟩)
 ·cases e⟩
theorem bg:AI "bool"=Z (.type "bool"):=by decide +kernel
theorem W8:AI "int"=Z (.type "int"):=by decide +kernel
theorem NB:AI "str"=Z (.type "str"):=by decide +kernel
theorem d7:AI "tuple"=Z (.type "tuple"):=by decide +kernel
theorem Y6:AI "list"=Z (.type "list"):=by decide +kernel
theorem pK:AI "isinstance"=Z (.builtin "isinstance"):=by decide +kernel
theorem nG:AI "len"=Z (.builtin "len"):=by decide +kernel
theorem wT:AI "abs"=Z (.builtin "abs"):=by decide +kernel
theorem vC:AI "all"=Z (.builtin "all"):=by decide +kernel
theorem UM:AI "max"=Z (.builtin "max"):=by decide +kernel
theorem rG:AI "sorted"=Z (.builtin "sorted"):=by decide +kernel
def BU:Dt->Bool
 |.bl _=>true
 |_=>false
theorem TK(I:L2.AV X AO σ H s){d:Dt}{x:V}{v:A0}{Q:VK}(f:jG X.K H d x)(g:B6 x v)(q:Q (.bl (BU d)) H):A8 (dl X) X.A (call (.builtin "isinstance") [v,.type "bool"]) (EP X AO σ Q) X.xe s:=by
 cases d with
 |non=>simp only[jG,AX]at f;subst f;cases g;exact IsiPair.NoneType_bool ⟨.bl _,H,I.tok _,rfl,q⟩
 |bl b=>simp only[jG,AX]at f;subst f;cases g;exact IsiPair.bool_bool ⟨.bl _,H,I,rfl,q⟩
 |int b=>simp only[jG,AX]at f;subst f;obtain⟨t,rfl⟩:=g;exact IsiPair.int_bool ⟨.bl _,H,I.tok _,rfl,q⟩
 |str b=>simp only[jG,AX]at f;obtain⟨rfl,_⟩:=f;obtain⟨t,rfl⟩:=g;exact IsiPair.str_bool ⟨.bl _,H,I.tok _,rfl,q⟩
 |tup ds=>simp only[jG,AX]at f;obtain⟨a,vs,rfl,sq,_⟩:=f;cases g;obtain⟨_,_,p,_⟩:=I.tuple sq;exact IsiPair.isTuple_bool p (λ_ _ e=>e) ⟨.bl _,H,I.tok _,rfl,q⟩
 |lst ds=>simp only[jG]at f;obtain⟨a,vs,rfl,sq,_⟩:=f;cases g;obtain⟨_,_,p,_⟩:=I.list sq;exact IsiPair.isList_bool p.isList (λ_ _ e=>e) ⟨.bl _,H,I.tok _,rfl,q⟩
 |emp=>simp only[jG,AX]at f;obtain⟨a,o,rfl,sq⟩:=f;cases g;obtain⟨h,e,c⟩:=tM I sq;exact IsiPair.dict_bool e c ⟨.bl _,H,I.tok _,rfl,q⟩
theorem Ud{p:Pos}(g:QV X e f)(j:Gl X "isinstance")(n:X.mg "isinstance"=Y3)(k:Gl X "bool")(A:X.mg "bool"=Y3)(hs:AA [e,.Name "bool" p2] X.env=[(false,eval e X.env),(false,eval (.Name "bool" p2) X.env)]:=by rfl):QV X (.Call (.Name "isinstance" p) [e,.Name "bool" p2] [] pos) (b1 (λb=>if oX b=true then Y3 else Z (.z (.bl (BU (toD b))))) f):=⟨by
 have g:=g.run;have o:iG X (.builtin "isinstance") (λxs H Q=>∃b x,xs=[x,.ty "bool"]/\bH X.K H b x/\oX b=false/\Q (.bl (BU (toD b))) H):=by
  intro AO s σ H xs us Q I r h;obtain⟨b,x,rfl,w,y,q⟩:=h;obtain⟨u,C,rfl,a,l⟩:=Cc r;cases l;exact TK I (w.toD y) a q
 have t:PA X [e,.Name "bool" p2] (Dm (tF X.K f) (Dm (tC (.ty "bool")) GS)):=jf g (jf (IV k A (v:=.ty "bool") (u:=.type "bool") bg Y2) vA) (by rw[hs]<;>rfl);refine Mr (yK o j n pK t () () (by rw[hs]<;>rfl) Y2) λσ H Q h=>?_;obtain⟨H0,ρ,c,E,e,q⟩:=h;obtain⟨b,eb,e⟩:=AU e;split at e
 ·cases e
 rename_i m;cases e;exact⟨H0,ρ,b,E,eb,λv H1 i B a=>⟨b,v,rfl,a,by simpa using m,q _ _ i trivial JL⟩⟩⟩
def Gm:Dt->Bool
 |.bl _=>true
 |.int _=>true
 |_=>false
theorem po(I:L2.AV X AO σ H s){d:Dt}{x:V}{v:A0}{Q:VK}(f:jG X.K H d x)(g:B6 x v)(q:Q (.bl (Gm d)) H):A8 (dl X) X.A (call (.builtin "isinstance") [v,.type "int"]) (EP X AO σ Q) X.xe s:=by
 cases d with
 |non=>simp only[jG,AX]at f;subst f;cases g;exact IsiPair.NoneType_int ⟨.bl _,H,I.tok _,rfl,q⟩
 |bl b=>simp only[jG,AX]at f;subst f;cases g;exact IsiPair.bool_int ⟨.bl _,H,I,rfl,q⟩
 |int b=>simp only[jG,AX]at f;subst f;obtain⟨t,rfl⟩:=g;exact IsiPair.int_int ⟨.bl _,H,I,rfl,q⟩
 |str b=>simp only[jG,AX]at f;obtain⟨rfl,_⟩:=f;obtain⟨t,rfl⟩:=g;exact IsiPair.str_int ⟨.bl _,H,I.tok _,rfl,q⟩
 |tup ds=>simp only[jG,AX]at f;obtain⟨a,vs,rfl,sq,_⟩:=f;cases g;obtain⟨_,_,p,_⟩:=I.tuple sq;exact IsiPair.isTuple_int p (λ_ _ e=>e) ⟨.bl _,H,I.tok _,rfl,q⟩
 |lst ds=>simp only[jG]at f;obtain⟨a,vs,rfl,sq,_⟩:=f;cases g;obtain⟨_,_,p,_⟩:=I.list sq;exact IsiPair.isList_int p.isList (λ_ _ e=>e) ⟨.bl _,H,I.tok _,rfl,q⟩
 |emp=>simp only[jG,AX]at f;obtain⟨a,o,rfl,sq⟩:=f;cases g;obtain⟨h,e,c⟩:=tM I sq;exact IsiPair.dict_int e c ⟨.bl _,H,I.tok _,rfl,q⟩
theorem W9{p:Pos}(g:QV X e f)(j:Gl X "isinstance")(n:X.mg "isinstance"=Y3)(k:Gl X "int")(A:X.mg "int"=Y3)(hs:AA [e,.Name "int" p2] X.env=[(false,eval e X.env),(false,eval (.Name "int" p2) X.env)]:=by rfl):QV X (.Call (.Name "isinstance" p) [e,.Name "int" p2] [] pos) (b1 (λb=>if oX b=true then Y3 else Z (.z (.bl (Gm (toD b))))) f):=⟨by
 have g:=g.run;have o:iG X (.builtin "isinstance") (λxs H Q=>∃b x,xs=[x,.ty "int"]/\bH X.K H b x/\oX b=false/\Q (.bl (Gm (toD b))) H):=by
  intro AO s σ H xs us Q I r h;obtain⟨b,x,rfl,w,y,q⟩:=h;obtain⟨u,C,rfl,a,l⟩:=Cc r;cases l;exact po I (w.toD y) a q
 have t:PA X [e,.Name "int" p2] (Dm (tF X.K f) (Dm (tC (.ty "int")) GS)):=jf g (jf (IV k A (v:=.ty "int") (u:=.type "int") W8 Y2) vA) (by rw[hs]<;>rfl);refine Mr (yK o j n pK t () () (by rw[hs]<;>rfl) Y2) λσ H Q h=>?_;obtain⟨H0,ρ,c,E,e,q⟩:=h;obtain⟨b,eb,e⟩:=AU e;split at e
 ·cases e
 rename_i m;cases e;exact⟨H0,ρ,b,E,eb,λv H1 i B a=>⟨b,v,rfl,a,by simpa using m,q _ _ i trivial JL⟩⟩⟩
def gB:Dt->Bool
 |.str _=>true
 |_=>false
theorem ai(I:L2.AV X AO σ H s){d:Dt}{x:V}{v:A0}{Q:VK}(f:jG X.K H d x)(g:B6 x v)(q:Q (.bl (gB d)) H):A8 (dl X) X.A (call (.builtin "isinstance") [v,.type "str"]) (EP X AO σ Q) X.xe s:=by
 cases d with
 |non=>simp only[jG,AX]at f;subst f;cases g;exact IsiPair.NoneType_str ⟨.bl _,H,I.tok _,rfl,q⟩
 |bl b=>simp only[jG,AX]at f;subst f;cases g;exact IsiPair.bool_str ⟨.bl _,H,I.tok _,rfl,q⟩
 |int b=>simp only[jG,AX]at f;subst f;obtain⟨t,rfl⟩:=g;exact IsiPair.int_str ⟨.bl _,H,I.tok _,rfl,q⟩
 |str b=>simp only[jG,AX]at f;obtain⟨rfl,_⟩:=f;obtain⟨t,rfl⟩:=g;exact IsiPair.str_str ⟨.bl _,H,I,rfl,q⟩
 |tup ds=>simp only[jG,AX]at f;obtain⟨a,vs,rfl,sq,_⟩:=f;cases g;obtain⟨_,_,p,_⟩:=I.tuple sq;exact IsiPair.isTuple_str p (λ_ _ e=>e) ⟨.bl _,H,I.tok _,rfl,q⟩
 |lst ds=>simp only[jG]at f;obtain⟨a,vs,rfl,sq,_⟩:=f;cases g;obtain⟨_,_,p,_⟩:=I.list sq;exact IsiPair.isList_str p.isList (λ_ _ e=>e) ⟨.bl _,H,I.tok _,rfl,q⟩
 |emp=>simp only[jG,AX]at f;obtain⟨a,o,rfl,sq⟩:=f;cases g;obtain⟨h,e,c⟩:=tM I sq;exact IsiPair.dict_str e c ⟨.bl _,H,I.tok _,rfl,q⟩
theorem Ck{p:Pos}(g:QV X e f)(j:Gl X "isinstance")(n:X.mg "isinstance"=Y3)(k:Gl X "str")(A:X.mg "str"=Y3)(hs:AA [e,.Name "str" p2] X.env=[(false,eval e X.env),(false,eval (.Name "str" p2) X.env)]:=by rfl):QV X (.Call (.Name "isinstance" p) [e,.Name "str" p2] [] pos) (b1 (λb=>if oX b=true then Y3 else Z (.z (.bl (gB (toD b))))) f):=⟨by
 have g:=g.run;have o:iG X (.builtin "isinstance") (λxs H Q=>∃b x,xs=[x,.ty "str"]/\bH X.K H b x/\oX b=false/\Q (.bl (gB (toD b))) H):=by
  intro AO s σ H xs us Q I r h;obtain⟨b,x,rfl,w,y,q⟩:=h;obtain⟨u,C,rfl,a,l⟩:=Cc r;cases l;exact ai I (w.toD y) a q
 have t:PA X [e,.Name "str" p2] (Dm (tF X.K f) (Dm (tC (.ty "str")) GS)):=jf g (jf (IV k A (v:=.ty "str") (u:=.type "str") NB Y2) vA) (by rw[hs]<;>rfl);refine Mr (yK o j n pK t () () (by rw[hs]<;>rfl) Y2) λσ H Q h=>?_;obtain⟨H0,ρ,c,E,e,q⟩:=h;obtain⟨b,eb,e⟩:=AU e;split at e
 ·cases e
 rename_i m;cases e;exact⟨H0,ρ,b,E,eb,λv H1 i B a=>⟨b,v,rfl,a,by simpa using m,q _ _ i trivial JL⟩⟩⟩
def As:Dt->Bool
 |.tup _=>true
 |_=>false
theorem eM(I:L2.AV X AO σ H s){d:Dt}{x:V}{v:A0}{Q:VK}(f:jG X.K H d x)(g:B6 x v)(q:Q (.bl (As d)) H):A8 (dl X) X.A (call (.builtin "isinstance") [v,.type "tuple"]) (EP X AO σ Q) X.xe s:=by
 cases d with
 |non=>simp only[jG,AX]at f;subst f;cases g;exact IsiPair.NoneType_tuple ⟨.bl _,H,I.tok _,rfl,q⟩
 |bl b=>simp only[jG,AX]at f;subst f;cases g;exact IsiPair.bool_tuple ⟨.bl _,H,I.tok _,rfl,q⟩
 |int b=>simp only[jG,AX]at f;subst f;obtain⟨t,rfl⟩:=g;exact IsiPair.int_tuple ⟨.bl _,H,I.tok _,rfl,q⟩
 |str b=>simp only[jG,AX]at f;obtain⟨rfl,_⟩:=f;obtain⟨t,rfl⟩:=g;exact IsiPair.str_tuple ⟨.bl _,H,I.tok _,rfl,q⟩
 |tup ds=>simp only[jG,AX]at f;obtain⟨a,vs,rfl,sq,_⟩:=f;cases g;obtain⟨_,_,p,_⟩:=I.tuple sq;exact IsiPair.isTuple_tuple p (λ_ _ e=>e) ⟨.bl _,H,I,rfl,q⟩
 |lst ds=>simp only[jG]at f;obtain⟨a,vs,rfl,sq,_⟩:=f;cases g;obtain⟨_,_,p,_⟩:=I.list sq;exact IsiPair.isList_tuple p.isList (λ_ _ e=>e) ⟨.bl _,H,I.tok _,rfl,q⟩
 |emp=>simp only[jG,AX]at f;obtain⟨a,o,rfl,sq⟩:=f;cases g;obtain⟨h,e,c⟩:=tM I sq;exact IsiPair.dict_tuple e c ⟨.bl _,H,I.tok _,rfl,q⟩
theorem qJ{p:Pos}(g:QV X e f)(j:Gl X "isinstance")(n:X.mg "isinstance"=Y3)(k:Gl X "tuple")(A:X.mg "tuple"=Y3)(hs:AA [e,.Name "tuple" p2] X.env=[(false,eval e X.env),(false,eval (.Name "tuple" p2) X.env)]:=by rfl):QV X (.Call (.Name "isinstance" p) [e,.Name "tuple" p2] [] pos) (b1 (λb=>if oX b=true then Y3 else Z (.z (.bl (As (toD b))))) f):=⟨by
 have g:=g.run;have o:iG X (.builtin "isinstance") (λxs H Q=>∃b x,xs=[x,.ty "tuple"]/\bH X.K H b x/\oX b=false/\Q (.bl (As (toD b))) H):=by
  intro AO s σ H xs us Q I r h;obtain⟨b,x,rfl,w,y,q⟩:=h;obtain⟨u,C,rfl,a,l⟩:=Cc r;cases l;exact eM I (w.toD y) a q
 have t:PA X [e,.Name "tuple" p2] (Dm (tF X.K f) (Dm (tC (.ty "tuple")) GS)):=jf g (jf (IV k A (v:=.ty "tuple") (u:=.type "tuple") d7 Y2) vA) (by rw[hs]<;>rfl);refine Mr (yK o j n pK t () () (by rw[hs]<;>rfl) Y2) λσ H Q h=>?_;obtain⟨H0,ρ,c,E,e,q⟩:=h;obtain⟨b,eb,e⟩:=AU e;split at e
 ·cases e
 rename_i m;cases e;exact⟨H0,ρ,b,E,eb,λv H1 i B a=>⟨b,v,rfl,a,by simpa using m,q _ _ i trivial JL⟩⟩⟩
def mB(K:BA)(f:Ev->Y (Y Int)):TO:=λσ H Q=>∃H0 ρ o,bW K H0 H σ ρ/\f ρ=Z o/\∀H',AW H H'->Q o H'
def dk(X:Cx)(e:Y Expr)(f:Ev->Y (Y Int)):Prop:=PO X e (mB X.K f)
structure HZ (X:Cx) (e:Option Expr) (f:Ev->Option (Option Int)):Prop where
 run:dk X e f
theorem OZ{e:Y Expr}{t t':TO}(h:PO X e t)(m:∀ σ H Q,t' σ H Q->t σ H Q):PO X e t':=λAO s σ H Q I q=>h AO s σ H Q I (m σ H Q q)
def ji:Ev->Y (Y Int):=λ_=>Z Y3
theorem eZ  :HZ X Y3 ji:=⟨OZ nL λσ H Q h=>by
 obtain⟨H0,ρ,o,E,e,q⟩:=h;cases e;exact q H (AW.refl H)⟩
def L0:Bx->Y (Y Int)
 |.z (.int i)=>Z (Z i)
 |_=>Y3
def lG(f:Ev->Y Bx):Ev->Y (Y Int):=λρ=>(f ρ).bind L0
theorem dR(h:QV X e f):HZ X (Z e) (lG f):=⟨have h:=h.run;OZ (XZ h) λσ H Q q=>by
 obtain⟨H0,ρ,o,E,e,q⟩:=q;obtain⟨b,eb,e⟩:=AU e;refine⟨H0,ρ,b,E,eb,λv H1 a g c=>?_⟩;unfold L0 at e;split at e
 ·rename_i i;cases e;exact⟨i,Tc c,q H1 a⟩
 ·cases e⟩
def CI(xs:O Dt)(lo hi:Y Int):O Dt:=(xs.drop (HT.jU xs.length 0 lo)).take (HT.jU xs.length xs.length hi-HT.jU xs.length 0 lo)
theorem Ue(r:aP K H ds vs)(lo hi:Y Int):aP K H (CI ds lo hi) (Tq vs lo hi):=by
 unfold CI Tq;rw[r.length];exact(r.drop _).take _
theorem XV(ds:O Dt)(h1:HT.jU ds.length 0 lo=0)(h2:HT.jU ds.length ds.length hi=ds.length):CI ds lo hi=ds:=by
 unfold CI;rw[h1,h2];simp
theorem DW{t sl:A2}{c b:A0}(a:IsTup s.heap t items)(hs:s.heap.IsSliceOf sl c b .none)(pl:IsPart c lo)(j:IsPart b hi)(h1:HT.jU items.size 0 lo=0)(h2:HT.jU items.size items.size hi=items.size)(h:Q (.ref t) s):A8 (A9 prog w) A (getItem (.ref t) (.ref sl)) Q E s:=by
 obtain⟨os,g,f,k⟩:=id hs;have e:s.TypeIs (.ref sl) "slice":=⟨os,g,f⟩;unfold getItem
 try with_reducible refine ko ?_
 first|refine zb (ze ?_)|skip
 refine zb (wpAny_sequenceKey a.typeIs () ?_);refine zb (jI (name:=Str.ofString "__getitem__") a.typeIs PyProof.Rows.slot_tuple_getitem
  (jb PyProof.Rows.slot_tuple_getitem a.typeIs entry_tuple_getitem ?_ (args_tuple_getitem _ _)))
 show A8 _ _ (Builtin.Tuple.tupleItemsOf (.ref t) >>= _) _ _ s;refine zb (tupleItemsOf_ a ?_);refine zb (JU e ?_);rw[zh ()];refine zb (HT.vU hs pl j ?_);have i:(((HT.jU items.size 0 lo:Nat):Int)==0&&(1:Int)==1&&(HT.jU items.size items.size hi-HT.jU items.size 0 lo)==items.size)=true:=by
  rw[h1,h2];simp
 show A8 _ _ (if(((HT.jU items.size 0 lo:Nat):Int)==0&&(1:Int)==1&&(HT.jU items.size items.size hi-HT.jU items.size 0 lo)==items.size)=true then _ else _) _ _ s;rw[zh i]
 first
  |refine zb (zb (JU a.typeIs (ze ?_)))
  |refine zb (JU a.typeIs (zb (ze ?_)))
  |refine zb (JU a.typeIs ?_)
 rw[zh ()]
 first
  |exact zb (QN (ze ⟨_,rfl,ze h⟩))
  |exact zb (QN (zb (ze (ze ⟨_,rfl,ze h⟩))))
def Eg(b:Bx)(lo hi:Y Int):Y Bx:=match b with
 |.z (.str x)=>Z (.z (.str (Txt.slice x lo hi)))
 |.z (.tup ds)=>Z (.z (.tup (CI ds lo hi)))
 |b=>(vV b).bind λds=>Z (.o (CI ds lo hi))
def p6(K:BA):V->Y Int->Y Int->Hp->VK->Prop:=λx lo hi H Q=>∃b c,bH K H b x/\Eg b lo hi=Z c/\∀w H',AW H H'->Nw H c w->bH K H' c w->Q w H'
theorem T0:IU X (p6 X.K):=by
 intro AO s σ H x v J D lo hi sl Q I w n pl m h;obtain⟨b,c,A,e,q⟩:=h;unfold Eg at e;split at e
 ·rename_i y;cases e;obtain⟨rfl,f⟩:=W7 A;obtain⟨t,rfl⟩:=w;refine⟨"str", _,F.slot_str_getitem.lookup,typeIs_str _ _ _,?_⟩;obtain⟨o,e1,e2,e3⟩:=n;have z:∀C k,EP X AO σ Q (.str (Txt.slice y lo hi) C) { s with toks:=k }:=λC k=>⟨.str _,H,I.tok _,⟨_,rfl⟩,q _ H (AW.refl H) trivial (I0 (zl (Txt.slice_le y _ _) f))⟩;cases pl with
  |none=>
   cases m with
   |none=>exact k8 (l:=Y3) (u:=Y3) (st:=Y3) ⟨o,e1,e2,e3⟩ Y2 (post_val_or_str ⟨zl (Txt.slice_le y _ _) f,z⟩)
   |int j B=>exact k8 (l:=Y3) (u:=Z (j,B)) (st:=Y3) ⟨o,e1,e2,e3⟩ Y2 (post_val_or_str ⟨zl (Txt.slice_le y _ _) f,z⟩)
  |int i E=>
   cases m with
   |none=>exact k8 (l:=Z (i,E)) (u:=Y3) (st:=Y3) ⟨o,e1,e2,e3⟩ Y2 (post_val_or_str ⟨zl (Txt.slice_le y _ _) f,z⟩)
   |int j B=>exact k8 (l:=Z (i,E)) (u:=Z (j,B)) (st:=Y3) ⟨o,e1,e2,e3⟩ Y2 (post_val_or_str ⟨zl (Txt.slice_le y _ _) f,z⟩)
 ·rename_i ds;cases e;obtain⟨a,vs,rfl,sq,rs⟩:=Hk A;by_cases g:HT.jU vs.length 0 lo=0/\HT.jU vs.length vs.length hi=vs.length
  ·cases w;obtain⟨AS,r,G,N⟩:=I.tuple sq;have L:AS.toArray.size=vs.length:=by rw[zi];exact r.length.symm
   refine⟨"tuple", _,PyProof.Rows.slot_tuple_getitem.lookup,G.typeIs,DW G n pl m (by rw[L];exact g.1) (by rw[L];exact g.2) ⟨.ref a,H,I,rfl,q _ H (AW.refl H) trivial ?_⟩⟩;rw[XV ds (by rw[<-rs.length];exact g.1) (by rw[<-rs.length];exact g.2)];exact A
  ·refine cx AO s σ H _ v J D lo hi sl Q I w n pl m ⟨a,vs,rfl,sq,g,λp hp=>q _ _ (cG hp) trivial ?_⟩;unfold bH AX;exact⟨p,_,rfl,.inl (.inl bK),(Ue rs lo hi).kp (.of (cG hp))⟩
 ·obtain⟨ds,M,e⟩:=AU e;cases e;obtain⟨a,vs,rfl,sq,rs⟩:=A.Mw M;exact fF AO s σ H _ v J D lo hi sl Q I w n pl m ⟨a,vs,rfl,sq,λp hp=>q _ _ (cG hp) (λa ea=>by cases ea;exact hp) ⟨p,_,rfl,bK,(Ue rs lo hi).kp (.of (cG hp))⟩⟩
def DX(f:Ev->Y Bx)(fl fh:Ev->Y (Y Int)):Ev->Y Bx:=λρ=>(f ρ).bind λb=>(fl ρ).bind λlo=>(fh ρ).bind λhi=>Eg b lo hi
theorem oZ{lo hi:Y Expr}{fl fh:Ev->Y (Y Int)}(i:QV X e f)(k:HZ X lo fl)(j:HZ X hi fh):QV X (.Subscript e (.Slice lo hi Y3 p2) pos) (DX f fl fh):=⟨have i:=i.run;have k:=k.run;have j:=j.run;Mr (WF T0 i k j) λσ H Q h=>by
 obtain⟨H0,ρ,c,E,e,q⟩:=h;obtain⟨b,eb,e⟩:=AU e;obtain⟨lo,el,e⟩:=AU e;obtain⟨hi,n,e⟩:=AU e;refine⟨H0,ρ,b,E,eb,λv H1 g x p=>⟨H0,ρ,lo,E.grow g,el,λH2 a=>⟨H0,ρ,hi,E.grow (g.trans a),n,λy l=>?_⟩⟩⟩;have m:=(g.trans a).trans l;exact⟨b,c,(p.same a).same l,e,λw u s o t=>q w u (m.trans s) (o.old m) t⟩⟩
def qK:O Bx->Y Bx
 |[.z (.str x)]=>Z (.z (.int x.length))
 |[b]=>(vB b).bind λds=>Z (.z (.int ds.length))
 |_=>Y3
theorem BT(r:Dq K H [b] vs):∃v,vs=[v]/\bH K H b v:=by
 cases r with
 |cons p t=>cases t;exact⟨_,rfl,p⟩
theorem nH:vW X (.builtin "len") qK:=iG.imp (Qi.or Qj) λxs H Q q=>by
 obtain⟨bs,c,b,e,q⟩:=q;unfold qK at e;split at e
 ·rename_i x;cases e;obtain⟨v,rfl,a⟩:=BT b;obtain⟨rfl,hx⟩:=W7 a;exact .inr ⟨x,rfl,hx,q _ H (AW.refl H) trivial JK⟩
 ·obtain⟨ds,f,e⟩:=AU e;cases e;obtain⟨v,rfl,a⟩:=BT b;obtain⟨p,vs,rfl,sq,rs⟩:=yV a f;exact .inl ⟨p,vs,rfl,sq,by rw[rs.length];exact q _ H (AW.refl H) trivial JK⟩
 ·cases e
def GB:O Bx->Y Bx
 |[.z (.int i)]=>Z (.z (.int (if i<0 then -i else i)))
 |_=>Y3
theorem Wl:vW X (.builtin "abs") GB:=iG.imp hJ λxs H Q q=>by
 obtain⟨bs,c,a,e,q⟩:=q;unfold GB at e;split at e
 ·rename_i i;cases e;obtain⟨v,rfl,b⟩:=BT a;have:=Tc b;subst this;exact⟨i,rfl,q _ H (AW.refl H) trivial JK⟩
 ·cases e
def GH:O Bx->Y Bx
 |[.z (.int i)]=>Z (.z (.int i))
 |[.z (.bl k)]=>Z (.z (.int (if k then 1 else 0)))
 |_=>Y3
theorem T':vW X (.type "int") GH:=iG.imp mN λxs H Q q=>by
 obtain⟨bs,c,b,e,q⟩:=q;unfold GH at e;split at e
 ·rename_i i;cases e;obtain⟨v,rfl,a⟩:=BT b;have:=Tc a;subst this;exact .inl ⟨i,rfl,q _ H (AW.refl H) trivial JK⟩
 ·rename_i k;cases e;obtain⟨v,rfl,a⟩:=BT b;simp only[bH,AX]at a;subst a;exact .inr ⟨k,rfl,q _ H (AW.refl H) trivial JK⟩
 ·cases e
def Oj:O Bx->Y Bx
 |[b]=>(vB b).bind λds=>Z (.o ds)
 |_=>Y3
theorem Y7:vW X (.type "list") Oj:=iG.imp Qk λxs H Q q=>by
 obtain⟨bs,c,f,e,q⟩:=q;unfold Oj at e;split at e
 ·obtain⟨ds,h,e⟩:=AU e;cases e;obtain⟨v,rfl,g⟩:=BT f;obtain⟨p,vs,rfl,sq,rs⟩:=yV g h;exact⟨p,vs,rfl,sq,λl b=>q _ _ (cG b) (λa ea=>by cases ea;exact b) ⟨l,vs,rfl,bK,rs.kp (.of (cG b))⟩⟩
 ·cases e
def g8:O Bx->Y Bx
 |[b]=>(vB b).bind λds=>Z (.z (.tup ds))
 |_=>Y3
theorem fj:vW X (.type "tuple") g8:=iG.imp Mv λxs H Q q=>by
 obtain⟨bs,c,b,e,q⟩:=q;unfold g8 at e;split at e
 ·obtain⟨ds,g,e⟩:=AU e;cases e;obtain⟨v,rfl,f⟩:=BT b;obtain⟨p,vs,rfl,sq,rs⟩:=yV f g;refine⟨p,vs,rfl,?_⟩;rcases sq with sq|sq
  ·refine .inl ⟨sq,λl a=>q _ _ (cG a) trivial ?_⟩;unfold bH AX;exact⟨l,vs,rfl,.inl (.inl bK),rs.kp (.of (cG a))⟩
  ·refine .inr ⟨sq,q _ H (AW.refl H) trivial ?_⟩;unfold bH AX;exact⟨p,vs,rfl,sq,rs⟩
 ·cases e
def Ol:O Dt->Y (O Bool)
 |[]=>Z []
 |.bl b::ds=>(Ol ds).bind λbs=>Z (b::bs)
 |_=>Y3
theorem JT{K:BA}{H:Hp}:∀{ds:O Dt} {bs:O Bool} {vs:O V} {us:O A0},Ol ds=Z bs->aP K H ds vs->AY vs us->us=bs.map Value.bool
 |[],_,_,_,e,r,w=>by
  cases e;simp only[aP]at r;subst r;cases w;rfl
 |d::ds,_,_,_,e,r,w=>by
  simp only[aP]at r;obtain⟨v,a,rfl,h1,h2⟩:=r;cases d<;>first|(cases e;done)|skip;simp only[Ol]at e;obtain⟨bs,e1,e⟩:=AU e;cases e;simp only[AX]at h1;subst h1;cases w with
  |cons p t=>
   cases p;rw[JT e1 h2 t];rfl
theorem Cs(bs:O Bool):((dc bs.length).all λi=>bs.getD i false)=bs.all id:=by
 rw[KW,qf,qf];constructor
 ·intro h b a;obtain⟨i,hi,rfl⟩:=cb.mp a;have:=h i (by simpa using hi);simpa[List.getD,hi]using this
 ·intro h i hi;have hi:i<bs.length:=by simpa using hi
  have:=h bs[i] (Ya hi);simpa[List.getD,hi]using this
def Bi:O Bx->Y Bx
 |[b]=>(vV b).bind λds=>(Ol ds).bind λbs=>Z (.z (.bl (bs.all id)))
 |_=>Y3
theorem Ug(bs:O Bool):TruthOf prog w A (λi v=>(bs.map Value.bool).toArray[i]?=Z v) λi=>bs.getD i false:=λi v s Q E h q=>by
 have h':(bs.map Value.bool)[i]?=Z v:=by simpa using h
 rw[qv]at h';cases e:bs[i]? with
 |none=>rw[e]at h';cases h'
 |some b=>
  rw[e]at h';cases h';have:bs.getD i false=b:=by simp[List.getD,e]
  have a:Q b s:=by rw[<-this];exact q
  exact QE a
theorem vD(j:X.calm=true):vW X (.builtin "all") Bi:=by
 intro AO s σ H xs us Q I r h;obtain⟨bs,c,t,e,q⟩:=h;unfold Bi at e;split at e
 ·obtain⟨ds,x,e⟩:=AU e;obtain⟨ks,ek,e⟩:=AU e;cases e;obtain⟨v,rfl,l⟩:=BT t;obtain⟨a,vs,rfl,sq,rs⟩:=l.Mw x;obtain⟨u,rfl,z⟩:=BG r;cases z;obtain⟨AS,w,pl,D⟩:=I.list sq;have f:=JT ek rs w;have y:a<s.heap.objs.size:=by obtain⟨o,n,e,_⟩:=pl;exact zI e
  refine call_all_walk (wpAny_pyIter_list pl.isList ?_);refine⟨s.heap.objs.size,_,_,_,_,_,λi=>ks.getD i false,rfl,Walks.list (by show X.A.handled=Y3;exact I.ok.hd j) s.heap.objs.size a (ZO y) AS.toArray,⟨⟨_,zD _ rfl,rfl,rfl⟩,pl.isList.push _⟩,?_,λh' tk k=>?_⟩
  ·rw[f];exact Ug ks
  ·have B:AS.toArray.size=ks.length:=by rw[f];simp
   rw[B,Cs];have p:L2.AV X AO σ H { s with heap:=s.heap.push { cls:=.type "list_iterator",data:=.fields #[.ref a,.int 0 0] } }:=I.kept (t':=s.toks) λb o e=>zg _ e;refine⟨.bl _,H,?_,rfl,q _ H (AW.refl H) trivial JL⟩;obtain⟨f0,f1,f2,f3,g,m⟩:=I.Ti (b:=s.heap.objs.size) (H':=H) (zo _) (I.hok.fresh (zo _));exact p.turned (it:=s.heap.objs.size) (λb o C e=>k b o (by simpa using C) e) f0 f1 f3 g m
 ·cases e
end P1
namespace P1
open L2
def gv(i:Nat):Ev->Y Bx:=λρ=>Ig ρ i
def Bk(g:Bx->Bx->Y Bx)(fa fb:Ev->Y Bx):Ev->Y Bool:=λρ=>(b2 g fa fb ρ).bind Dr
def Lc(g g':Bx->Bx->Y Bx)(fa fb fc:Ev->Y Bx):Ev->Y Bool:=λρ=>(DZ g g' fa fb fc ρ).bind Dr
def tV(f:Ev->Y Bx):Ev->Y Bool:=λρ=>(f ρ).bind G1
def aG:Ev->Y (O Bx):=λ_=>Z []
def yW(p:Dt->Bool)(f:Ev->Y Bx):Ev->Y Bx:=b1 (λb=>if oX b=true then Y3 else Z (.z (.bl (p (toD b))))) f
def dN:Ev->Y Ap:=λρ=>Z (.nx ρ)
def dw(f:Ev->Y Bx):Ev->Y Ap:=λρ=>(f ρ).bind FS
def B8(i:Nat)(f:Ev->Y Bx):Ev->Y Ap:=λρ=>(f ρ).bind λb=>(Go ρ i b).bind λa=>Z (.nx a)
def MF(gt:Dt->Ev->Y Ev)(f:Ev->Y Bx):Ev->Y Ap:=λρ=>(f ρ).bind λb=>match b with|.z d=>(gt d ρ).bind λa=>Z (.nx a)|_=>Y3
def HP(i j:Nat)(fs:Ev->Y (O Bx)):Ev->Y Ap:=λρ=>(fs ρ).bind (HR i j ρ)
def MJ(i:Nat)(f:Ev->Y Bx):Ev->Y Ap:=λρ=>(f ρ).bind (HU ρ i)
def sZ(fi:Ev->Y (O Dt))(gt:Dt->Ev->Y Ev)(gb:Ev->Y Ap):Ev->Y Ap:=λρ=>(fi ρ).bind λds=>Ih gt gb ds ρ
def DB(f:Ev->Y Bx):Ev->Y (O Dt):=λρ=>(f ρ).bind IJ
def z8(f:Ev->Y Bx):Ev->Y (O Dt):=λρ=>(f ρ).bind FF
def Uh(fs:Ev->Y (O Bx)):Ev->Y (O Dt):=λρ=>(fs ρ).bind MB
def iW(i:Nat):Dt->Ev->Y Ev:=λd ρ=>Z (ρ.set i (Z (.z d)))
def lJ:Ev->Y Bool:=λ_=>Z true
theorem bJ:Cj X [] lJ:=⟨.inl ⟨rfl,rfl⟩⟩
theorem mG(h:QB X c p):Cj X [c] p:=⟨have h:=h.run;.inr ⟨c,rfl,h⟩⟩
theorem mn:Mx X scope cl [] []:=trivial
theorem dv{xs:B5}(n:X.N[i]?=Z x)(k:X.env.kindOf x=Z .cell\/X.env.kindOf x=Z .free)(a:(relabel scope X.env).names.lookup x=Z .cell\/(relabel scope X.env).names.lookup x=Z .free)(c:∃c,cl.lookup x=Z c)(r:Mx X scope cl xs is):Mx X scope cl (x::xs) (i::is):=⟨⟨n,k,a,c⟩,r⟩
theorem mem_of_lookup{a:O (AK×NameKind)}{x:AK}{k:NameKind}:a.lookup x=Z k->(x,k)∈a:=Q1
theorem sn{xs:B5}(clos:closureFor scope X.env=pure cl)(kind:scope.kind=.function)(cell:scope.names.all (λy=>decide (y.2≠.cell)||(cl.lookup y.1).isNone)=true)(names:scope.names.all (λy=>decide (y.2=.local->scope.names.lookup y.1=Z .local))=true)(sub:CF X.env.cells cl)(has:(relabel scope X.env).names.all (λy=>!(y.2==.cell||y.2==.free)||(cl.lookup y.1).isSome||scope.names.contains (y.1,.cell))=true)(cap:Mx X scope cl xs is):wU X scope cl xs is where
 clos:=clos
 kind:=kind
 cell:=λy a b=>by
  have:=List.all_eq_true.mp cell y a;simp only[b,ne_eq,not_true_eq_false,decide_false,nv,kh]at this;exact this
 names:=λy a=>kv (List.all_eq_true.mp names y a)
 sub:=sub
 has:=λx hx=>by
  have h:∃k,(relabel scope X.env).names.lookup x=Z k/\(k==NameKind.cell||k==NameKind.free)=true:=by
   rcases hx with hx|hx
   ·exact⟨_,hx,rfl⟩
   ·exact⟨_,hx,rfl⟩
  obtain⟨k,e,hk⟩:=h;have:=List.all_eq_true.mp has _ (mem_of_lookup e);simp only[hk,i4,nv,QQ]at this;rcases this with h|h
  ·exact .inr (cZ.mp h)
  ·exact .inl (ei.mp h)
 cap:=cap
theorem Qx(r:lK k A):A.units+100<cLine:=by have:=r.un;omega
theorem gS(h:∀b:O Int,b.length<=63->F [.z (.lst (b.map .int))]=Z (.z (.bl true)))(j:∀b:O Int,b.length<=63->F [.l (b.map .int)]=Z (.z (.bl true)))(K:BA)(H:Hp)(a:A2)(b:O Int)(g:b.length<=63)(_:DC H)(c:tH K H a (b.map V.int)):
  DD K 1 F [.ref a] H (λv _=>v=.bl true) λ_ _ _=>False:=by
 have rs:∀e:O Int,aP K H (e.map Dt.int) (e.map V.int):=λe=>by
  induction e with
  |nil=>exact aP.nil
  |cons m e i=>exact aP.cons (by unfold AX;rfl) i
 have f:∀v (H':Hp),AW H H'->Nw H (.z (.bl true)) v->bH K H' (.z (.bl true)) v->v=.bl true:=λv H' _ _ r=>by simpa only[bH,AX]using r
 rcases c with c|c
 ·exact⟨rfl,[.l (b.map .int)],_,.cons ⟨a,_,rfl,c,rs b⟩ .nil,rfl,j b g,f⟩
 ·refine⟨rfl,[.z (.lst (b.map .int))],_,.cons ?_ .nil,rfl,h b g,f⟩;unfold bH AX;exact⟨a,_,rfl,.inr c,rs b⟩
theorem UD{f:A2}(F:DS K x qual st f fd)(S:aW N ps (aJ st))(c:N.length=n)(e:ps.length=m)(b:∀(a:A0) (A:A6) (outer:O Env) (s:A3) (H:Hp) (E:XK),lK k (A.deeper (AL qual (aJ st) s.heap.objs.size f a))->DF (Jy Tt P w K mg base N qual (aJ st) f a A outer s H E).nox (kE st) g):
  Cg P w K mg base Tt (k+1) f fd ps (DD K m (cu n g)):=by
 subst c e;exact im F S b
section
variable{st:Expr}{fs:Ev->Y Bx}
end
def Y8:Bx->Bx->Y Bx
 |.z (.int i),.z (.int j)=>Z (.z (.bl (decide (i<j))))
 |.z (.str x),.z (.str y)=>Z (.z (.bl (decide (x.cps.toList<y.cps.toList))))
 |_,_=>Y3
theorem Qy:Dj X (AH .Lt) Y8:=by
 intro AO s σ H x y v u Q I g l h;obtain⟨a,b,c,f,k,e,q⟩:=h;unfold Y8 at e;split at e
 ·rename_i i j;cases e;exact XU AO s σ H x y v u Q I g l ⟨i,j,Tc f,Tc k,q _ H (AW.refl H) trivial (by unfold bH;exact GO)⟩
 ·rename_i i j;cases e;obtain⟨rfl,_⟩:=W7 f;obtain⟨rfl,_⟩:=W7 k;obtain⟨t,rfl⟩:=g;obtain⟨m,rfl⟩:=l;exact PySem.P.lt_str ⟨.bl _,H,I,rfl,q _ H (AW.refl H) trivial (by unfold bH;exact GO)⟩
 ·cases e
def tO:O Dt->Y B5
 |[]=>Z []
 |.str x::r=>(tO r).bind λys=>Z (x::ys)
 |_=>Y3
theorem Gn{K:BA}{H:Hp}:∀{ds:O Dt} {vs:O V} {ys:B5},aP K H ds vs->tO ds=Z ys->vs=ys.map V.str/\∀y∈ys,y.length<=AB
 |[],_,_,h,e=>by cases e;simp only[aP]at h;subst h;exact⟨rfl,λy a=>by cases a⟩
 |.str x::ds,_,_,h,e=>by
  simp only[tO]at e;obtain⟨ys,e1,e2⟩:=AU e;cases e2;simp only[aP]at h;obtain⟨v,r,rfl,hd,b⟩:=h;obtain⟨rfl,hx⟩:v=.str x/\x.length<=AB:=by simpa only[AX]using hd
  obtain⟨rfl,h2⟩:=Gn b e1;refine⟨rfl,λy a=>?_⟩;rcases ba.mp a with rfl|a
  ·exact hx
  ·exact h2 y a
 |.non::_,_,_,_,e=>by cases e
 |.bl _::_,_,_,_,e=>by cases e
 |.int _::_,_,_,_,e=>by cases e
 |.tup _::_,_,_,_,e=>by cases e
 |.lst _::_,_,_,_,e=>by cases e
 |.emp::_,_,_,_,e=>by cases e
theorem JV{K:BA}{H:Hp}:∀{ys:B5},(∀y∈ys,y.length<=AB)->aP K H (ys.map Dt.str) (ys.map V.str)
 |[],_=>aP.nil
 |y::ys,h=>aP.cons (by unfold AX;exact⟨rfl,h y (zr ..)⟩) (JV λz a=>h z (zk _ a))
theorem Cm:∀{ys:B5} {AS:O A0},AY (ys.map V.str) AS->StrsAre AS ys
 |[],_,h=>by cases h;exact .nil
 |y::ys,_,h=>by
  cases h with
  |cons r t=>
   obtain⟨tk,rfl⟩:=r;exact .cons y tk (Cm t)
theorem Gp:∀{AS:O A0} {ys:B5},StrsAre AS ys->AY (ys.map V.str) AS
 |_,_,.nil=>.nil
 |_,_,.cons y t h=>.cons ⟨t,rfl⟩ (Gp h)
theorem Qz:iG X (.builtin "sorted") (λxs H Q=>∃p ys,xs=[.ref p]/\tH X.K H p (ys.map V.str)/\ys.length<64/\∀l zs,H l=Y3->zs.Perm ys->sortedS zs=true->Q (.ref l) (BD H l (.lst (zs.map V.str)))):=by
 intro AO s σ H xs us Q I r h;obtain⟨p,ys,rfl,k,t,q⟩:=h;obtain⟨u,rfl,i⟩:=BG r;cases i;obtain⟨AS,c,pl,f⟩:=I.list k;have m:=c.length;rw[zd]at m f;refine sorted_strs pl.isList (Cm c) () λout zs g hp j=>?_;obtain⟨n,en⟩:=sortedAll_at s.heap AS out;refine⟨.ref (s.heap.objs.size+1),_,I.laid (t':=s.toks) (a:=s.heap.objs.size+1) (o:=.lst (zs.map V.str)) (λb o e=>sortedAll_old e) (KG _) ?_,rfl,q _ zs (I.hok.fresh (KG _)) hp j⟩;refine⟨by rw[zd,hp.length_eq];exact f,out.toList,n,Gp g,?_⟩;rw[en]
def MK(a b:AK):Prop:=ltCps b.cps.toList a.cps.toList=false
theorem DY:∀(p:AK) (l:B5),risingS p l=true->(p::l).Pairwise MK
 |p,[],_=>by simp
 |p,x::r,h=>by
  have h':(!ltCps x.cps.toList p.cps.toList&&risingS x r)=true:=h;rw[zS]at h';have c:=DY x r h'.2;have hx:MK p x:=by simpa[MK]using h'.1
  refine bB.mpr ⟨λy b=>?_,c⟩;rcases ba.mp b with rfl|b
  ·exact hx
  ·have a:MK x y:=Q3 c b;unfold MK at hx a ⊢;rw[ltCps_eq]at hx a ⊢;simp only[QI]at hx a ⊢;exact List.le_trans (α:=Nat) hx a
theorem QC{l:B5}(h:sortedS l=true):l.Pairwise MK:=by
 cases l with
 |nil=>exact .nil
 |cons p l=>exact DY p l h
theorem Ui{a b:AK}(h:MK a b)(h':MK b a):a=b:=by
 unfold MK at h h';rw[ltCps_eq]at h h';simp only[QI]at h h';have:=rB (as:=a.cps.toList) (bs:=b.cps.toList) h h';cases a;cases b;simp only[Str.mk.injEq];exact k4.mp this
theorem Jg:∀{l c:B5},l.Perm c->l.Pairwise MK->c.Pairwise MK->l=c
 |[],c,h,_,_=>by rw[List.nil_perm.mp h]
 |a::l,[],h,_,_=>by cases List.perm_nil.mp h
 |a::l,b::c,h,p,p'=>by
  have e:a=b:=by
   have f:a∈b::c:=h.mem_iff.mp (zr ..);have g:b∈a::l:=h.mem_iff.mpr (zr ..);rcases ba.mp f with h1|h1
   ·exact h1
   ·rcases ba.mp g with h2|h2
    ·exact h2.symm
    ·exact Ui (Q3 p h2) (Q3 p' h1)
  subst e;rw[Jg ((m8 a).mp h) (bB.mp p).2 (bB.mp p').2]
def FV(a b:AK):Bool:=!ltCps b.cps.toList a.cps.toList
def JW(ys:B5):B5:=ys.mergeSort FV
theorem rN(ys:B5):(JW ys).Perm ys:=Q2 ys FV
theorem wX(ys:B5):(JW ys).Pairwise MK:=by
 have h:=jS (le:=FV) (λa b c h1 h2=>by
  unfold FV at *
  rw[ltCps_eq]at *
  simp only[qV,QI]at *
  exact List.le_trans (α:=Nat) h1 h2) (λa b=>by
  unfold FV;rw[ltCps_eq,ltCps_eq];simp only[QQ,qV,QI];exact List.le_total a.cps.toList b.cps.toList) ys
 exact h.imp λ{a b} hh=>by simpa[FV,MK]using hh
theorem mh{ys zs:B5}(hp:zs.Perm ys)(hs:sortedS zs=true):zs=JW ys:=Jg (hp.trans (rN ys).symm) (QC hs) (wX ys)
def Uj:O Bx->Y Bx
 |[b]=>(vV b).bind λds=>(tO ds).bind λys=>if ys.length<64 then Z (.o ((JW ys).map Dt.str))else Y3
 |_=>Y3
theorem US:vW X (.builtin "sorted") Uj:=iG.imp Qz λxs H Q q=>by
 obtain⟨bs,c,n,e,q⟩:=q;unfold Uj at e;split at e
 ·rename_i b;obtain⟨ds,o,e⟩:=AU e;obtain⟨ys,i,e⟩:=AU e;split at e
  ·rename_i m;cases e;obtain⟨v,rfl,k⟩:=BT n;obtain⟨p,vs,rfl,sq,rs⟩:=k.Mw o;obtain⟨rfl,j⟩:=Gn rs i;refine⟨p,ys,rfl,sq,m,λl zs f hp g=>?_⟩;rw[mh hp g];refine q _ _ (cG f) (λa ea=>by cases ea;exact f) ⟨l,_,rfl,bK,JV λy h=>j y ((rN ys).mem_iff.mp h)⟩
  ·cases e
 ·cases e
def JX(x:AK)(b:Bx):Y Bx:=(vV b).bind λds=>(tO ds).bind λys=>if(ys.map (·.length)).sum+ys.length*x.length<=100000 then Z (.z (.str (Txt.join x ys)))else Y3
theorem w8:MW X "str.join" (λx xs H Q=>∃y p ys,x=.str y/\xs=[.ref p]/\tH X.K H p (ys.map V.str)/\(ys.map (·.length)).sum+ys.length*y.length<=100000/\Q (.str (Txt.join y ys)) H):=by
 intro AO s σ H x xs v us Q I b rs h;obtain⟨y,p,ys,rfl,rfl,sq,g,q⟩:=h;obtain⟨t,rfl⟩:=b;obtain⟨u,rfl,c⟩:=BG rs;cases c;obtain⟨AS,a,pl,f⟩:=I.list sq;exact join_list pl.isList (Cm a) () λe k=>⟨.str _,H,I.tok _,⟨_,rfl⟩,q⟩
theorem QD{p1:Pos}(h:QV X e f)(hx:x.length<=AB:=by decide)(o:attributeBase (.Constant (.str x) j p1) "join" X.env (eval (.Constant (.str x) j p1) X.env)=eval (.Constant (.str x) j p1) X.env:=by rfl)(m:((AE cpos (AA [e] X.env)).all (λx=>!x.1)&&(backToKw cpos (keywordEach [] X.env)).all (λx=>x.1.isSome)&&decide ([e].length+([]:O AD).length+(if([]:O AD).isEmpty then 0 else 1)<30))=true:=by rfl)(t:(apos.endLine==cpos.line)=true:=by rfl)(hs:AA [e] X.env=(false,eval e X.env)::AA [] X.env:=by rfl):QV X (.Call (.Attribute (.Constant (.str x) j p1) "join" apos) [e] [] cpos) (b1 (JX x) f):=⟨have h:=h.run;Mr (YM (T :="str") F.plainAttrs_str F.slot_str_join F.type_str_join w8 (RF (hx:=hx)) (JC h Qn hs) o m t hs Y2) λσ H Q q=>by
  obtain⟨H0,ρ,c,E,e,q⟩:=q;obtain⟨a,ea,e⟩:=AU e;refine⟨H0,ρ,_,E,rfl,λv H1 b y l=>?_⟩;obtain⟨rfl,A⟩:v=.str x/\x.length<=AB:=by simpa only[bH,AX]using l
  refine⟨rfl,H0,ρ,[a],E.grow b,by simp only[aq,ea,y8],λvs H2 g k=>?_⟩;obtain⟨w,rfl,n⟩:=BT k;unfold JX at e;obtain⟨ds,s,e⟩:=AU e;obtain⟨ys,i,e⟩:=AU e;split at e
  ·rename_i u;cases e;obtain⟨p,z,rfl,sq,rs⟩:=n.Mw s;obtain⟨rfl,B⟩:=Gn rs i;refine⟨x,p,ys,rfl,rfl,sq,u,q _ _ (b.trans g) trivial ?_⟩;unfold bH AX;exact⟨rfl,joinOk_length (joinOk_of ())⟩
  ·cases e⟩
def IH:O Bx->Y Bx
 |[.z (.str x)]=>Z (.z (.str x))
 |[.z (.int i)]=>if i.natAbs<=1000000 then Z (.z (.str (Str.ofString (toString i))))else Y3
 |_=>Y3
theorem WA:vW X (.type "str") IH:=by
 intro AO s σ H xs us Q I r h;obtain⟨bs,c,g,e,q⟩:=h;unfold IH at e;split at e
 ·rename_i x;cases e;obtain⟨v,rfl,a⟩:=BT g;obtain⟨rfl,hx⟩:=W7 a;obtain⟨u,rfl,b⟩:=BG r;obtain⟨t,rfl⟩:=b;exact PySem.P.str_of_str ⟨.str x,H,I,⟨t,rfl⟩,q _ H (AW.refl H) trivial a⟩
 ·rename_i i;split at e
  ·rename_i hi;cases e;obtain⟨v,rfl,a⟩:=BT g;have k:=Tc a;subst k;obtain⟨u,rfl,b⟩:=BG r;obtain⟨t,rfl⟩:=b;have j:i.natAbs.log2<1920:=by
    have:i.natAbs<2 ^ 20:=by omega
    have h2:i.natAbs.log2<20:=by
     by_cases f:i.natAbs=0
     ·rw[f];decide
     ·exact(Nat.log2_lt f).mpr this
    omega
   refine PySem.P.str_of_int j ⟨.str _,H,I.tok _,⟨_,rfl⟩,q _ H (AW.refl H) trivial ?_⟩;have l:=len_str_of_int i;unfold bH AX;refine⟨rfl,?_⟩;have:(Str.ofString (toString i)).length<=1000002:=by omega
   exact zl this ()
  ·cases e
 ·cases e
def GT:O Bx->Y Bx
 |[.z (.int a),.z (.int b)]=>Z (.z (.int (if b>a then b else a)))
 |_=>Y3
theorem vF{a:Bx}(h:Dq K H [a,b] vs):∃v w,vs=[v,w]/\bH K H a v/\bH K H b w:=by
 cases h with
 |cons p t=>
  cases t with
  |cons p' c=>cases c;exact⟨_,_,rfl,p,p'⟩
theorem oq(j:X.calm=true):vW X (.builtin "max") GT:=by
 intro AO s σ H xs us Q I r h;obtain⟨bs,c,l,e,q⟩:=h;unfold GT at e;split at e
 ·rename_i a b;cases e;obtain⟨v,w,rfl,k,i⟩:=vF l;have m:=Tc k;have n:=Tc i;subst m n;obtain⟨u,x,rfl,o,g⟩:=AY.two r;obtain⟨t,rfl⟩:=o;obtain⟨p,rfl⟩:=g;refine max_two_ints (I.ok.hd j) λh' tk kp=>?_;by_cases f:b>a
  ·rw[zh f]at q ⊢;exact⟨.int b,H,I.kept kp,⟨_,rfl⟩,q _ H (AW.refl H) trivial JK⟩
  ·rw[zv f]at q ⊢;exact⟨.int a,H,I.kept kp,⟨_,rfl⟩,q _ H (AW.refl H) trivial JK⟩
 ·cases e
section
variable{ek o:Expr}{fk:Ev->Y Bx}{pos':Pos}
end
section
variable{a b:Expr}{fs:Ev->Y (O Bx)}
theorem cM{j}(hx:x.length<=AB:=by decide):QV X (.Constant (.str x) j pos) (cB (.str x)):=⟨P1.RF (hx:=hx)⟩
end
section
variable{a b:Expr}{fs:Ev->Y (O Bx)}
variable{AT:O Expr}
theorem aj(h1:QV X e f)(h2:YQ X es fs)(hs:AA (e::es) X.env=(false,eval e X.env)::AA es X.env:=by rfl):YQ X (e::es) (aq f fs):=⟨P1.JC (h1:=h1.run) (h2:=h2.run) (hs:=hs)⟩
theorem au  :YQ X [] (λ_=>Z []):=⟨P1.Qn ⟩
end
theorem NN{f:A2}(F:DS K x qual st f fd)(S:aW N ps (aJ st))(h:N.length=n)(b:ps.length=m)(e:∀(a:A0) (A:A6) (outer:O Env) (s:A3) (H:Hp) (E:XK),lK k (A.deeper (AL qual (aJ st) s.heap.objs.size f a))->D0 (Jy Tt P w K mg base N qual (aJ st) f a A outer s H E).nox (kE st) g):
  Cg P w K mg base Tt (k+1) f fd ps (DD K m (cu n g)):=UD F S h b λa A outer s H E c=>(e a A outer s H E c).run
theorem bW.ahy(E:bW K H0 H σ ρ)(i:Nat):bW K H0 H σ (ρ.set i Y3):=by
 have f:∀(j:Nat) (b:Bx),(ρ.set i Y3)[j]?=Z (Z b)->ρ[j]?=Z (Z b):=λj b e=>by
  rw[yA]at e;split at e
  ·split at e<;>cases e
  ·exact e
 refine⟨by rw[kQ];exact E.len,λj b e=>E.val j b (f j b e),λj k c a b e1 g e2 e3 h l=>E.own j k c a b (f _ _ e1) g e2 (f _ _ e3) h l,E.base,λj c a e1 g e2=>E.new j c a (f _ _ e1) g e2⟩
def kill(is:O Nat)(ρ:Ev):Ev:=is.foldl (λρ i=>ρ.set i Y3) ρ
theorem bW.kill{K:BA}{H0 H:Hp}{σ:L2.St}:∀(is:O Nat) {ρ:Ev},bW K H0 H σ ρ->bW K H0 H σ (P1.kill is ρ)
 |[],_,E=>E
 |i::is,_,E=>bW.kill is (E.ahy i)
def iH(is:O Nat):Ev->Y Ap:=λρ=>Z (.nx (kill is ρ))
theorem VY{a:O AC}(is:O Nat)(h:DF X a g):DF X a (aF g (iH is)):=GN h λD σ H q=>by
 obtain⟨H0,ρ,r,E,e,q⟩:=q;obtain⟨c,e1,e⟩:=AU e;refine⟨H0,ρ,c,E,e1,?_⟩;cases c with
 |nx i=>cases e;exact λσ' H' f=>q σ' H' (f.kill is)
 |rt b=>cases e;exact q
 |bk b=>cases e;exact q
 |ct b=>cases e;exact q
theorem cN{a:O AC}(is:O Nat)(h:D0 X a g):D0 X a (aF g (iH is)):=⟨VY is h.run⟩
end P1
namespace S1
section
variable(rk:A0->Nat)
def at_(xs:Array Keyed)(i:Nat):Nat:=match xs[i]? with
 |some p=>rk p.1
 |none=>0
def Up(xs:Array Keyed)(k:Nat):Prop:=∀i j,i<=j->j<k->at_ rk xs i<=at_ rk xs j
structure Bs (kd:SortKind) (b:Array Keyed) (st:SortSt):Prop where
 pm:(arrOf st).Perm b
 kd:kindOf st=kd
 fl:failedOf st=none
 pd:pendingOf st=#[]
variable{rk}{b:Array Keyed}
theorem Bs.sz{st:SortSt}(h:Bs kd b st):(AN st).size=b.size:=h.pm.size_eq
theorem yX{xs ys:Array Keyed}(h:xs[i]?=ys[j]?):at_ rk xs i=at_ rk ys j:=by unfold at_;rw[h]
theorem nK{xs:Array Keyed}{p d:Nat}(hs:p<xs.size)(hd:d<=p)(k:Nat):at_ rk (bubble xs p d) k=if k=p-d then at_ rk xs p else if p-d<k/\k<=p then at_ rk xs (k-1)else at_ rk xs k:=by
 have e:=getElem?_bubble hs d hd k;by_cases q:k=p-d
 ·simp only[zh q]at e ⊢;exact yX e
 ·simp only[zv q]at e ⊢;by_cases q2:p-d<k/\k<=p
  ·simp only[zh q2]at e ⊢;exact yX e
  ·simp only[zv q2]at e ⊢;exact yX e
theorem nz{xs:Array Keyed}(a:j<=xs.size)(k:Nat):at_ rk (mirror xs i j ((j-i) / 2)) k=if i<=k/\k<j then at_ rk xs (i+j-1-k)else at_ rk xs k:=by
 have e:=getElem?_mirror_all (i:=i) a k;by_cases q:i<=k/\k<j
 ·simp only[zh q]at e ⊢;exact yX e
 ·simp only[zv q]at e ⊢;exact yX e
end
section
variable{b:Array Keyed}
def JZ(prog:A4)(w:A5)(A:A6)(s:A3)(kd:SortKind)(rk:A0->Nat)(b:Array Keyed):Prop:=
 ∀(E:BO) (p q:Keyed) (Q:Bool->A3->Prop),p∈b.toList->q∈b.toList->Q (decide (rk p.1<rk q.1)) s->A8 (A9 prog w) A (keyLt' kd p.1 q.1) Q E s
def Rn(prog:A4)(w:A5)(A:A6)(kd:SortKind)(rk:A0->Nat)(b:Array Keyed):Prop:=∀(E:BO) (s:A3) (st:SortSt) (Q:Unit->SortSt->Prop),JZ prog w A s kd rk b->Bs kd b st->2<=b.size →
 (∀t,(AN t).Perm b->failedOf t=Y3->Up rk (AN t) b.size->Q lm t)->wpS (A9 prog w) A E s sortRuns' Q st
def IA(a:A2)(s s':A3):Prop:=∀c o,c≠a->s.heap.get? c=Z o->s'.heap.get? c=Z o
theorem i9{vs:O A0}{P:Fin->A3->Prop}(g:s.heap.get? a=Z (seqObj "list" vs.toArray n))(m:2<=vs.length->∀s',IA a s s'->∀Q:SortKind->A3->Prop,Q kd s'->A8 (A9 prog w) A (keyKind' vs.toArray) Q E s')(l:∀s',IA a s s'->JZ prog w A s' kd rk (pairsOf vs))(x:vs.length<=AB)(v:Rn prog w A kd rk (pairsOf vs))(h:∀st:SortSt,(AN st).Perm (pairsOf vs)->Up rk (AN st) (pairsOf vs).size->P (.done (.ret .none)) { s with heap:=sortedHeap s.heap a vs ((AN st).map (·.2)) }):
  A8 (A9 prog w) A (Builtin.«list.sort» ⟨[.ref a],[]⟩) P E s:=by
 rw[list_sort_plain];have p:=zI g;refine zb (listItems_at g Y2 (zb (listUpdate_at g Y2 ?_)));obtain⟨e1,g1⟩:∃e1,(s.heap.update a (Obj.mapSeq λ_=>#[])).get? a=Z (seqObj "list" #[] e1):=⟨_,get?_update_seq g λ_=>#[]⟩;refine zb (seqEpoch_at g1 Y2 (zb (wpAny_newTuple (zb (yB (ko ?_))))));have z1:(s.heap.update a (Obj.mapSeq λ_=>#[])).objs.size=s.heap.objs.size:=r0 ..;have keep:∀c,c<s.heap.objs.size->(((s.heap.update a (Obj.mapSeq λ_=>#[])).push (seqObj "tuple" vs.toArray 0)).push (seqObj "list" #[] 0)).get? c=(s.heap.update a (Obj.mapSeq λ_=>#[])).get? c:=λc b=>by
  rw[qx _ _ _ (by rw[size_push',z1];exact ZO (jq b)),qx _ _ _ (by rw[z1];exact ZO b)]
 have f:=(keep a p).trans g1;have old:IA a s { s with heap:=((s.heap.update a (Obj.mapSeq λ_=>#[])).push (seqObj "tuple" vs.toArray 0)).push (seqObj "list" #[] 0) }:=λc o b e=>by
  show(((s.heap.update a (Obj.mapSeq λ_=>#[])).push (seqObj "tuple" vs.toArray 0)).push (seqObj "list" #[] 0)).get? c=Z o;rw[keep c (zI e),n4 _ _ _ _ b];exact e
 show A8 _ _ _ _ _ { s with heap:=((s.heap.update a (Obj.mapSeq λ_=>#[])).push (seqObj "tuple" vs.toArray 0)).push (seqObj "list" #[] 0) };have B:vs.toArray.size=vs.length:=by simp
 have k:∀st:SortSt,(AN st).Perm (pairsOf vs)->((AN st).map (·.2)).size<=AB+1:=λst hp=>by
  have q:((AN st).map (·.2)).size=vs.length:=(Array.size_map ..).trans (hp.size_eq.trans (pairsOf_size _));rw[q];exact q7 x
 by_cases h2:vs.toArray.size<2
 ·simp only[zh h2];refine zb (ze ?_);rw[StateT.run_pure];refine zb (ze (zb (seqEpoch_at f Y2 (zb (listUpdate_at f Y2 ?_ (hsz2:=k (SortSt.mk' general' (pairsOf vs) #[] 7 Y3) (K0 _)))))));simp only[bne_self_eq_false,z5,Qb];refine ze (h (SortSt.mk' general' (pairsOf vs) #[] 7 Y3) (K0 _) λi j C u=>?_);rw[pairsOf_size]at u;rw[show i=j by omega];exact zo _
 ·simp only[zv h2];refine zb (m () _ old _ ?_);refine zb (qA (v _ _ (SortSt.mk' kd (pairsOf vs) #[] 7 Y3) (λ_ t=>(AN t).Perm (pairsOf vs)/\failedOf t=Y3/\Up rk (AN t) (pairsOf vs).size) (l _ old) ⟨K0 _,rfl,rfl,rfl⟩ (by rw[pairsOf_size];omega) λt q1 q2 q3=>⟨q1,q2,q3⟩) ?_ λ_ _ q=>q);rintro⟨⟨⟩,t⟩ s' ⟨rfl,hp,z,y⟩;dsimp only;refine zb (seqEpoch_at f Y2 (zb (listUpdate_at f Y2 ?_ (hsz2:=k t hp))));rw[z];simp only[bne_self_eq_false,z5,Qb];exact ze (h t hp y)
theorem Xa{x:A0}{vs:O A0}(v:∀(b:BO) (g:O A0->A3->Prop),(∀h' tk,s.heap.objs.size<=h'.objs.size->(∀c o,s.heap.get? c=Z o->h'.get? c=Z o)->g vs { s with heap:=h',toks:=tk })->A8 (A9 prog w) A.in1 (collect x) g b s)(k:2<=vs.length->∀(b:BO) (a:A6) (s':A3),(∀c o,s.heap.get? c=Z o->s'.heap.get? c=Z o)->∀Q:SortKind->A3->Prop,Q kd s'->A8 (A9 prog w) a (keyKind' vs.toArray) Q b s')(j:∀(a:A6) (s':A3),(∀c o,s.heap.get? c=Z o->s'.heap.get? c=Z o)->JZ prog w a s' kd rk (pairsOf vs))(u:vs.length<=AB)(t:∀a:A6,Rn prog w a kd rk (pairsOf vs))(h:∀(l:A2) (h':A7) (tk n:Nat) (st:SortSt),(AN st).Perm (pairsOf vs)->Up rk (AN st) (pairsOf vs).size->s.heap.objs.size<=l->(∀c o,s.heap.get? c=Z o->h'.get? c=Z o)->h'.get? l=Z (seqObj "list" ((AN st).map (·.2)) n)->Q (.ref l) { s with heap:=h',toks:=tk }):
  A8 (A9 prog w) A (call (.builtin "sorted") [x]) Q E s:=by
 refine Calls.call_function_entry kind_sorted plain_sorted entry_sorted (args_sorted1 _) ?_;unfold Builtin.«sorted»;refine zb (m:=checkCount "sorted" 1 1 _) (ze (zb (v _ _ λh1 tk p ext=>zb (yB ?_))));have f:(h1.push (seqObj "list" vs.toArray 0)).get? h1.objs.size=Z (seqObj "list" vs.toArray 0):=zD _ rfl;have old:∀s':A3,IA h1.objs.size { s with heap:=h1.push (seqObj "list" vs.toArray 0),toks:=tk } s'->∀c o,s.heap.get? c=Z o->s'.heap.get? c=Z o:=λs' q c o e=>
  q c o (ZO (zI (ext c o e))) (zg _ (ext c o e))
 refine zb (ko (jb slot_list_sort ⟨_,f,rfl⟩ entry_list_sort (i9 f (λq s' o=>k q _ _ s' (old s' o)) (λs' o=>j _ s' (old s' o)) u (t _) λst q1 q2=>⟨_,rfl,ze ⟨_,rfl,?_⟩⟩) (args_list_sort _)));obtain⟨n,en⟩:=sortedHeap_at (out:=(AN st).map (·.2)) f;refine h h1.objs.size _ tk n st q1 q2 p (λc o e=>?_) en;have i:=zI (ext c o e);rw[sortedHeap_old (ZO i) (by rw[Kj];exact jq i)];exact zg _ (ext c o e)
end
end S1
namespace S1
open L2
theorem T1(fb:Bool)(x y:A0):keyLt' (tuples' fb) x y=(do
  let xs <-Builtin.List.listItems x
  let ys <-Builtin.List.listItems y
  for ((p,q),i) in (xs.toList.zip ys.toList).zipIdx do
   if !(<-eqBool p q)then return <-oneLt' (fb&&i==0) p q
  return decide (xs.size<ys.size)):=rfl
def Y9:AZ->AZ->Bool
 |.inl a,.inl b=>decide (a<b)
 |.inr x,.inr y=>decide (x.cps.toList<y.cps.toList)
 |.inl _,.inr _=>true
 |.inr _,.inl _=>false
def Uk:AZ->AZ->Bool
 |.inl _,.inl _=>true
 |.inr _,.inr _=>true
 |_,_=>false
def jj:O AZ->O AZ->Bool
 |[],[]=>false
 |[],_::_=>true
 |_::_,[]=>false
 |x::xs,y::ys=>if x=y then jj xs ys else Y9 x y
def DJ:O AZ->O AZ->Prop
 |x::xs,y::ys=>Uk x y=true/\DJ xs ys
 |_,_=>True
theorem DE{x y:AZ}{p q:A0}{Q:Bool->A3->Prop}(hp:nA x p=true)(c:nA y q=true)(h:Q (decide (x=y)) s):A8 (A9 prog w) A (eqBool p q) Q E s:=
 (nC prog w).eqBool (a:=x) (b:=y) hp c h
theorem VA{fb:Bool}{x y:AZ}{p q:A0}{Q:Bool->A3->Prop}(hs:Uk x y=true)(hp:nA x p=true)(a:nA y q=true)(h:Q (Y9 x y) s):A8 (A9 prog w) A (oneLt' fb p q) Q E s:=by
 rcases bU hp with⟨i,t,rfl,rfl⟩|⟨z,t,rfl,rfl⟩
 ·rcases bU a with⟨j,u,rfl,rfl⟩|⟨z,u,rfl,rfl⟩
  ·cases fb with
   |true=>exact oneLt_int h
   |false=>
    rw[oneLt'_eq];simp only[z5,Qb];refine zb (show A8 _ _ (AH .Lt (.int i t) (.int j u)) _ _ _ from lt_int ?_);exact QE h
  ·cases hs
 ·rcases bU a with⟨j,u,rfl,rfl⟩|⟨b,u,rfl,rfl⟩
  ·cases hs
  ·cases fb with
   |true=>exact oneLt_str h
   |false=>
    rw[oneLt'_eq];simp only[z5,Qb];refine zb (show A8 _ _ (AH .Lt (.str z t) (.str b u)) _ _ _ from PySem.P.lt_str ?_);exact QE h
def Ks(ks:O AZ)(AS:O A0):Prop:=AJ (λk v=>nA k v=true) ks AS
def EX:O AZ->O AZ->Y Bool
 |x::xs,y::ys=>if x=y then EX xs ys else Z (Y9 x y)
 |_,_=>Y3
theorem R1:∀ks a:O AZ,jj ks a=match EX ks a with|some r=>r|none=>decide (ks.length<a.length)
 |[],[]=>rfl
 |[],_::_=>by simp[jj,EX]
 |_::_,[]=>rfl
 |x::xs,y::ys=>by
  simp only[jj,EX];by_cases e:x=y
  ·rw[zh e,zh e,R1 xs ys];simp only[ZZ,Nat.add_lt_add_iff_right]
  ·rw[zv e,zv e]
def turn(fb:Bool):(A0×A0)×Nat->Y Bool×Unit->Sem (ForInStep (Y Bool×Unit)):=λx _=>match x with
 |((p,q),i)=>do
  let e <-eqBool p q
  if(!e)=true then do
    let r <-oneLt' (fb&&i==0) p q
    pure (ForInStep.done (Z r,lm))
   else pure (ForInStep.yield (Y3,lm))
theorem LU(fb:Bool):∀(ks b:O AZ) (AS a:O A0) (i:Nat) (R:Y Bool×Unit->A3->Prop),Ks ks AS->Ks b a->DJ ks b->R (EX ks b,lm) s->A8 (A9 prog w) A (forIn ((AS.zip a).zipIdx i) ((Y3,lm):Y Bool×Unit) (turn fb)) R E s:=by
 intro ks
 induction ks with
 |nil=>intro b AS a i R h _ _ h1;cases h;exact ze h1
 |cons x xs g=>
  intro b AS a i R h h' c h1;cases h with
  |@cons _ p _ AS hp hk=>
   cases h' with
   |nil=>exact ze h1
   |@cons y q ys a f j=>
    rw[JP,r7,List.forIn_cons];refine zb ?_;show A8 _ _ (eqBool p q >>= _) _ _ _;refine zb (DE hp f ?_);by_cases e:x=y
    ·simp only[e,decide_true,i4,z5,Qb];refine ze (g ys AS a (i+1) R hk j c.2 ?_);simp only[EX,zh e]at h1;exact h1
    ·simp only[e,decide_false,yi,QP];refine zb (VA c.1 hp f (ze (ze ?_)));simp only[EX,zv e]at h1;exact h1
theorem rV{fb:Bool}{c:A2}{oa g:AF}{f:O A0}{b:O AZ}{Q:Bool->A3->Prop}(o:s.heap.get? a=Z oa)(q:oa.data=.seq AS.toArray n)(l:s.heap.get? c=Z g)(p:g.data=.seq f.toArray m)(hk:Ks ks AS)(i:Ks b f)(hs:DJ ks b)(h:Q (jj ks b) s):A8 (A9 prog w) A (keyLt' (tuples' fb) (.ref a) (.ref c)) Q E s:=by
 rw[T1];refine zb (listItems_at o q (zb (listItems_at l p ?_)));have k:AS.length=ks.length:=(Paired.length hk).symm;have j:f.length=b.length:=(Paired.length i).symm;refine zb (LU fb ks b AS f 0 _ hk i hs ?_);rw[R1]at h;cases e:EX ks b with
 |some r=>rw[e]at h;exact ze h
 |none=>
  rw[e]at h;refine ze ?_;simpa[k,j]using h
theorem bX(x:AZ):Y9 x x=false:=by
 cases x with
 |inl a=>simp[Y9]
 |inr a=>simp[Y9]
theorem b7{x y z:AZ}(h:Y9 x y=true)(h':Y9 y z=true):Y9 x z=true:=by
 cases x<;>cases y<;>cases z<;>simp only[Y9,Zl,z5,reduceCtorEq]at h h' ⊢
 ·omega
 ·exact List.lt_trans h h'
theorem TM{x y:AZ}(h:Y9 x y=false)(h':Y9 y x=false):x=y:=by
 cases x<;>cases y<;>simp only[Y9,QI,Bool.true_eq_false,reduceCtorEq]at h h'
 ·congr 1;omega
 ·rename_i a b;have:=rB (as:=a.cps.toList) (bs:=b.cps.toList) h' h;cases a;cases b;simp only at this;rw[k4.mp this]
theorem yZ:∀xs:O AZ,jj xs xs=false
 |[]=>rfl
 |x::xs=>by simp only[jj,QP];exact yZ xs
theorem mH:∀{xs ys zs:O AZ},jj xs ys=true->jj ys zs=true->jj xs zs=true
 |[],[],_,h,_=>by cases h
 |[],_::_,[],_,h'=>by cases h'
 |[],_::_,_::_,_,_=>rfl
 |_::_,[],_,h,_=>by cases h
 |_::_,_::_,[],_,h'=>by cases h'
 |x::xs,y::ys,z::zs,h,h'=>by
  simp only[jj]at h h' ⊢;by_cases e1:x=y
  ·subst e1;rw[zh rfl]at h;by_cases e2:x=z
   ·subst e2;rw[zh rfl]at h' ⊢;exact mH h h'
   ·rw[zv e2]at h' ⊢;exact h'
  ·rw[zv e1]at h;by_cases e2:y=z
   ·subst e2;rw[zv e1];exact h
   ·rw[zv e2]at h';have:=b7 h h';rw[zv (λe=>by subst e;rw[bX]at this;cases this)];exact this
theorem za:∀{xs ys:O AZ},jj xs ys=false->jj ys xs=false->xs=ys
 |[],[],_,_=>rfl
 |[],_::_,h,_=>by cases h
 |_::_,[],_,h'=>by cases h'
 |x::xs,y::ys,h,h'=>by
  simp only[jj]at h h';by_cases e:x=y
  ·subst e;rw[zh rfl]at h h';rw[za h h']
  ·rw[zv e]at h;rw[zv (k9 e)]at h';exact absurd (TM h h') e
def vG(xs ys:O AZ):Bool:=!jj ys xs
theorem rO(a b c:O AZ)(h:vG a b=true)(h':vG b c=true):vG a c=true:=by
 unfold vG at *
 simp only[qV]at *
 cases g:jj c a with
 |false=>rfl
 |true=>
  cases f:jj a b with
  |true=>rw[mH g f]at h';cases h'
  |false=>
   have e:=za f h;subst e;rw[g]at h';cases h'
theorem rP(a b:O AZ):(vG a b||vG b a)=true:=by
 unfold vG;cases h:jj b a with
 |false=>rfl
 |true=>
  cases h':jj a b with
  |false=>rfl
  |true=>have:=mH h h';rw[yZ]at this;cases this
theorem z9{a b:O AZ}(h:vG a b=true)(h':vG b a=true):a=b:=by
 unfold vG at *
 simp only[qV]at *
 exact za h' h
theorem zc{α:Type}{le:α->α->Prop}(f:∀a b,le a b->le b a->a=b):∀{l c:O α},l.Perm c->l.Pairwise le->c.Pairwise le->l=c
 |[],c,h,_,_=>by rw[List.nil_perm.mp h]
 |a::l,[],h,_,_=>by cases List.perm_nil.mp h
 |a::l,b::c,h,p,p'=>by
  have e:a=b:=by
   have g:a∈b::c:=h.mem_iff.mp (zr ..);have i:b∈a::l:=h.mem_iff.mpr (zr ..);rcases ba.mp g with h1|h1
   ·exact h1
   ·rcases ba.mp i with h2|h2
    ·exact h2.symm
    ·exact f a b (Q3 p h2) (Q3 p' h1)
  subst e;rw[zc f ((m8 a).mp h) (bB.mp p).2 (bB.mp p').2]
def Cp(cP:O (O AZ)):O (O AZ):=cP.mergeSort vG
theorem G8(cP:O (O AZ)):(Cp cP).Perm cP:=Q2 ..
theorem Ul(cP:O (O AZ)):(Cp cP).Pairwise (λa b=>vG a b=true):=jS rO rP cP
theorem Om{out:O (O AZ)}(hp:out.Perm cP)(hs:out.Pairwise (λa b=>vG a b=true)):out=Cp cP:=zc (λ_ _=>z9) (hp.trans (G8 cP).symm) hs (Ul cP)
def CL(cP:O (O AZ))(k:O AZ):Nat:=cP.countP λu=>jj u k
theorem Oo{α:Type}{p q:α->Bool}:∀{l:O α},(∀x∈l,p x=true->q x=true)->(∃x∈l,p x=false/\q x=true)->l.countP p<l.countP q
 |[],_,⟨x,hx,_⟩=>by cases hx
 |a::l,h,⟨x,hx,h1,h2⟩=>by
  have le:l.countP p<=l.countP q:=nc λy b=>h y (zk _ b);rw[r9,r9];rcases ba.mp hx with rfl|hx
  ·rw[h1,h2];simp;omega
  ·have:=Oo (λy b=>h y (zk _ b)) ⟨x,hx,h1,h2⟩;have c:=h a (zr ..);cases hp:p a with
   |true=>rw[c hp];simp;omega
   |false=>simp;omega
theorem Jh{a b:O AZ}(f:a∈cP):decide (CL cP a<CL cP b)=jj a b:=by
 cases h:jj a b with
 |true=>
  refine zz (Oo (λu _ c=>mH c h) ⟨a,f,yZ a,h⟩)
 |false=>
  refine z4 (nq.mpr (nc λu _ c=>?_));cases e:jj b a with
  |true=>exact mH c e
  |false=>rw[za h e];exact c
def tu(h:A7)(ks:O AZ)(v:A0):Prop:=∃(a:A2) (o:AF) (AS:O A0) (n:Nat),v=.ref a/\h.get? a=Z o/\o.cls=.type "tuple" ∧ o.data=.seq AS.toArray n/\Ks ks AS
theorem tu.keep{h':A7}{v:A0}(q:tu h ks v)(k:∀c o,h.get? c=Z o->h'.get? c=Z o):tu h' ks v:=by
 obtain⟨a,o,AS,n,e,g,c,d,p⟩:=q;exact⟨a,o,AS,n,e,k _ _ g,c,d,p⟩
theorem sT{k l:AZ}{v:A0}(h:nA k v=true)(h':nA l v=true):k=l:=by
 rcases bU h with⟨i,t,rfl,rfl⟩|⟨x,t,rfl,rfl⟩
 ·rcases bU h' with⟨j,u,rfl,e⟩|⟨y,u,rfl,e⟩
  ·cases e;rfl
  ·cases e
 ·rcases bU h' with⟨j,u,rfl,e⟩|⟨y,u,rfl,e⟩
  ·cases e
  ·cases e;rfl
theorem Ks.inj:∀{ks a:O AZ} {AS:O A0},Ks ks AS->Ks a AS->ks=a
 |_,_,[],h,h'=>by cases h;cases h';rfl
 |_,_,v::AS,h,h'=>by
  cases h with
  |cons p t=>cases h' with
   |cons p' t'=>rw[sT p p',Ks.inj t t']
theorem tu.inj{h:A7}{ks b:O AZ}{v:A0}(q:tu h ks v)(j:tu h b v):ks=b:=by
 obtain⟨a,o,AS,n,rfl,g,c,d,p⟩:=q;obtain⟨m,o',k,l,e,i,c',f,p'⟩:=j;cases e;rw[g]at i;cases i;rw[d]at f;injection f with e1 e2;have e3:AS=k:=by simpa using congrArg n7 e1
 subst e3;exact p.inj p'
theorem Za{f:α->Sem β}:∀(xs:O α) (ys:O β) (Q:O β->A3->Prop),AJ (λx y=>∀(b:BO) (a:β->A3->Prop),a y s->A8 (A9 prog w) A (f x) a b s) xs ys->Q ys s->A8 (A9 prog w) A (xs.mapM f) Q E s:=by
 intro xs
 induction xs with
 |nil=>intro ys Q p h;cases p;rw[List.mapM_nil];exact ze h
 |cons x xs c=>
  intro ys Q p q;cases p with
  |cons h t=>
   rw[List.mapM_cons];exact zb (h _ _ (zb (c _ _ t (ze q))))
theorem aE(v:A0):firstOfTuple' v=(do
  if(<-typeOf v) != .type "tuple" then return Y3
  return (<-Builtin.List.listItems v)[0]?):=rfl
theorem VT{k:AZ}{v:A0}(q:tu s.heap (k::ks) v):∃u,nA k u=true/\∀(e:BO) (b:Y A0->A3->Prop),b (Z u) s->A8 (A9 prog w) A (firstOfTuple' v) b e s:=by
 obtain⟨a,o,AS,n,rfl,g,c,d,p⟩:=q;cases p with
 |@cons _ u _ AS hp t=>
  refine⟨u,hp,λe b h=>?_⟩;rw[aE];refine zb (JU (T :="tuple") ⟨o,g,c⟩ ?_);rw[zv ()];exact zb (listItems_at g d (ze h))
theorem av{k:AZ}(h:nA k u=true)(b:BO)(a:BO)(q:a (.type (if k.isLeft then "int" else "str")) s):A8 (A9 prog w) A (typeOf u) a b s:=by
 rcases bU h with⟨i,t,rfl,rfl⟩|⟨x,t,rfl,rfl⟩
 ·exact JU (typeIs_int s i t) q
 ·exact JU (typeIs_str s x t) q
theorem Oq{vs:O A0}{Q:SortKind->A3->Prop}(j:AJ (tu s.heap) cP vs)(i:∀k∈cP,k≠[])(p:∀k∈cP,∀l∈cP,DJ k l)(h2:1<=vs.length)(h:Q (tuples' true) s):A8 (A9 prog w) A (keyKind' vs.toArray) Q E s:=by
 have step:∀(cP:O (O AZ)) (vs:O A0),AJ (tu s.heap) cP vs->(∀k∈cP,k≠[])->∃us:O A0,AJ (λv u=>∀(c:BO) (a:Y A0->A3->Prop),a (Z u) s->A8 (A9 prog w) A (firstOfTuple' v) a c s) vs us/\AJ (λ(k:O AZ) u=>∃x r,k=x::r/\nA x u=true) cP us:=by
  intro cP vs j
  induction j with
  |nil=>intro _;exact⟨[],.nil,.nil⟩
  |@cons k v cP vs q t e=>
   intro i;obtain⟨us,p1,p2⟩:=e λk hk=>i k (zk _ hk);cases k with
   |nil=>exact absurd Y2 (i _ (zr ..))
   |cons x r=>
    obtain⟨u,g,H⟩:=VT (prog:=prog) (w:=w) (A:=A) q;exact⟨u::us,.cons H p1,.cons ⟨x,r,rfl,g⟩ p2⟩
 obtain⟨us,p1,p2⟩:=step cP vs j i;have C:us.length=vs.length:=(Paired.length p1).symm;have B:∀{l:O A0} {n:O A0},AJ (λv u=>∀(c:BO) (a:Y A0->A3->Prop),a (Z u) s->A8 (A9 prog w) A (firstOfTuple' v) a c s) l n->AJ (λv u=>∀(c:BO) (a:Y A0->A3->Prop),a u s->A8 (A9 prog w) A (firstOfTuple' v) a c s) l (n.map Z):=λh=>by
  induction h with
  |nil=>exact .nil
  |cons q t e=>exact .cons q e
 rw[keyKind'_eq,ra,map_eq_pure_bind];refine zb (zb (Za vs (us.map Z) _ (B p1) (ze ?_)));have D:(us.map Z).toArray.all (·.isSome)=true:=by simp
 rw[zh D];refine zb (QN ?_);have y:(us.map Z).toArray.filterMap id=us.toArray:=by simp
 rw[y,oneTypeOnly'_eq,ra,map_eq_pure_bind];have ty:∀(cP:O (O AZ)) (us:O A0),AJ (λ(k:O AZ) u=>∃x r,k=x::r/\nA x u=true) cP us->∃ts:O A0,AJ (λu t=>∀(c:BO) (a:BO),a t s->A8 (A9 prog w) A (typeOf u) a c s) us ts/\AJ (λ(k:O AZ) t=>∃x r,k=x::r/\t=.type (if x.isLeft then "int" else "str")) cP ts:=by
  intro cP us hp
  induction hp with
  |nil=>exact⟨[],.nil,.nil⟩
  |@cons k u cP us q t e=>
   obtain⟨ts,q1,q2⟩:=e;obtain⟨x,r,rfl,hx⟩:=q;exact⟨_::ts,.cons (λc a h=>av hx c a h) q1,.cons ⟨x,r,rfl,rfl⟩ q2⟩
 obtain⟨ts,q1,q2⟩:=ty cP us p2;refine zb (zb (zb (Za us ts _ q1 (ze ?_))));have lt:ts.length=vs.length:=by rw[<-Paired.length q1,C]
 cases q2 with
 |nil=>simp at lt;omega
 |@cons L K J m z G=>
  obtain⟨b,r,rfl,rfl⟩:=z;have same:∀t∈m,t=Value.type (if b.isLeft then "int" else "str"):=by
   have F:∀(cP:O (O AZ)) (ts:O A0),AJ (λ(k:O AZ) t=>∃x r,k=x::r/\t=Value.type (if x.isLeft then "int" else "str")) cP ts->(∀k∈cP,DJ (b::r) k)->∀t∈ts,t=Value.type (if b.isLeft then "int" else "str"):=by
    intro cP ts hp
    induction hp with
    |nil=>intro _ t f;cases f
    |@cons k t cP ts q _ e=>
     intro o u g;rcases ba.mp g with rfl|g
     ·obtain⟨x,I,rfl,rfl⟩:=q;have:=(o _ (zr ..)).1;cases b<;>cases x<;>first|rfl|cases this
     ·exact e (λk hk=>o k (zk _ hk)) u g
   exact F _ _ G λk hk=>p _ (zr ..) k (zk _ hk)
  have e0:(Value.type (if b.isLeft then "int" else "str")::m).toArray[0]?=Z (Value.type (if b.isLeft then "int" else "str")):=by simp
  have e1:((Value.type (if b.isLeft then "int" else "str")::m).toArray.all λx=>x==Value.type (if b.isLeft then "int" else "str"))=true:=by
   simp only[List.all_toArray,qf];intro t f;rcases ba.mp f with rfl|f
   ·simp
   ·rw[same t f];simp
  rw[e0];simp only[e1,QP];refine ze (ze ?_);have e2:((Z (Value.type (if b.isLeft then "int" else "str"))).any λx=>x !=Value.type "tuple")=true:=by
   cases b with
   |inl _=>exact(by decide:((Z (Value.type "int")).any λx=>x !=Value.type "tuple")=true)
   |inr _=>exact(by decide:((Z (Value.type "str")).any λx=>x !=Value.type "tuple")=true)
  rw[e2];exact h
def Be(cP:O (O AZ))(vs:O A0)(v:A0):O AZ:=match (vs.zip cP).find? (λp=>p.1==v)with
 |some p=>p.2
 |none=>[]
theorem pq{h:A7}:∀{cP:O (O AZ)} {vs:O A0},AJ (tu h) cP vs->∀v∈vs,Be cP vs v∈cP/\tu h (Be cP vs v) v
 |_,_,.nil,v,hv=>by cases hv
 |k::cP,u::vs,.cons q t,v,hv=>by
  unfold Be;rw[JP,List.find?_cons];by_cases e:u=v
  ·subst e;simp only[beq_self_eq_true];exact⟨zr ..,q⟩
  ·have e':(u==v)=false:=by simpa using e
   simp only[e'];have b:v∈vs:=by
    rcases ba.mp hv with h|h
    ·exact absurd h.symm e
    ·exact h
   have a:=pq t v b;exact⟨zk _ a.1,a.2⟩
theorem zf{h:A7}:∀{cP:O (O AZ)} {vs:O A0},AJ (tu h) cP vs->∀(K:A0->O AZ),(∀v∈vs,tu h (K v) v)->vs.map K=cP
 |_,_,.nil,_,_=>rfl
 |k::cP,v::vs,.cons q t,K,hK=>by
  rw[zw,(hK v (zr ..)).inj q,zf t K λu a=>hK u (zk _ a)]
theorem J0{h:A7}:∀{vs:O A0} {K:A0->O AZ},(∀v∈vs,tu h (K v) v)->AJ (tu h) (vs.map K) vs
 |[],_,_=>.nil
 |v::vs,K,hK=>.cons (hK v (zr ..)) (J0 λu a=>hK u (zk _ a))
theorem Um{vs:O A0}(i:AJ (tu s.heap) cP vs)(t:∀k∈cP,∀l∈cP,DJ k l):JZ prog w A s (tuples' true) (λv=>CL cP (Be cP vs v)) (pairsOf vs):=by
 intro E p q Q hp f h;rw[pairsOf_toList]at hp f;obtain⟨b,t1⟩:=pq i p.1 (mem_zip_self hp).2;obtain⟨m2,t2⟩:=pq i q.1 (mem_zip_self f).2;rw[Jh b]at h;have j:=t _ b _ m2;obtain⟨a,o,AS,n,e,g,c,d,k⟩:=t1;obtain⟨B,o',z,y,e',u,c',m,x⟩:=t2;rw[e,e'];exact rV g d u m k x j h
theorem tJ{vs:O A0}(a:AJ (tu h) cP vs){xs:Array Keyed}(hp:xs.Perm (pairsOf vs))(n:Up (λv=>CL cP (Be cP vs v)) xs (pairsOf vs).size):AJ (tu h) (Cp cP) (xs.map (·.2)).toList:=by
 have f:xs.toList.Perm (vs.zip vs):=by rw[<-pairsOf_toList];exact cW.mp hp
 have c:∀p∈xs.toList,p.1=p.2/\p.1∈vs:=λp q=>mem_zip_self (f.mem_iff.mp q);have e:(xs.map (·.2)).toList=xs.toList.map (·.1):=by
  rw[k5];exact ki λp q=>(c p q).1.symm
 have pv:(xs.toList.map (·.1)).Perm vs:=by
  have:=f.map Prod.fst;rwa [sa (zo _)]at this
 have g:Cp cP=(xs.toList.map (·.1)).map (Be cP vs):=by
  refine(Om ?_ ?_).symm
  ·have:=pv.map (Be cP vs);rwa [zf a _ λv q=>(pq a v q).2]at this
  ·rw[dg];intro i j hi k m;have l:i<xs.size:=by simpa using hi
   have b:j<xs.size:=by simpa using k
   have u:=n i j (qh m) (by rw[<-hp.size_eq];exact b);unfold at_ at u;rw[getElem?_pos xs i l,getElem?_pos xs j b]at u;have m2:=(pq a xs[j].1 (c xs[j] (by simp)).2).1;simp only[JO,kD];unfold vG;rw[<-Jh m2,z4 (nq.mpr u)];rfl
 rw[g,e];refine J0 λv q=>(pq a v ?_).2;exact pv.mem_iff.mp q
end S1
namespace P1
open L2 S1
theorem J4{o:AF}{T:String}{vs:O A0}{Q:O A0->A3->Prop}(f:s.heap.get? l=Z o)(a:o.cls=.type T)(g:T ="list" ∨ T ="tuple")(hd:o.data=.seq vs.toArray n)(i:vs.length<=AB)(h:∀h' tk,s.heap.objs.size<=h'.objs.size->(∀c o,s.heap.get? c=Z o->h'.get? c=Z o)->Q vs { s with heap:=h',toks:=tk }):A8 (A9 prog w) A (collect (.ref l)) Q E s:=by
 unfold collect;refine zb (wpAny_runValue (codeAny_builtin entry_proto_collect' ?_));show A8 _ _ (newList [] >>= λq=>again (.builtin "list.__iadd__" ⟨[q,.ref l],[]⟩)) _ _ s;refine zb (yB (ze ⟨Code.quiet_builtin _ (by decide +kernel),codeAny_builtin entry_list_iadd' ?_⟩));show A8 _ _ (Builtin.List.listExtendWith (.ref s.heap.objs.size) (.ref l) (.ref s.heap.objs.size)) _ _ _;unfold Builtin.List.listExtendWith;have g1:(s.heap.push (seqObj "list" #[] 0)).get? l=Z o:=zg _ f;refine zb (JU (T:=T) ⟨o,g1,a⟩ ?_);have b:(Value.type T==Value.type "list" || Value.type T==Value.type "tuple")=true:=by rcases g with rfl|rfl<;>decide
 rw[zh (by rw[Bool.or_assoc,b];simp)];refine zb (listItems_at g1 hd (zb (listItems_at (xs:=#[]) (n:=0) (zD _ Y2) Y2 ?_)));rw[zv (by simp)];have g2:(s.heap.push (seqObj "list" #[] 0)).get? s.heap.objs.size=Z (seqObj "list" #[] 0):=zD _ rfl;refine zb (listUpdate_at (xs:=#[]) (n:=0) g2 Y2 (ze ?_) (ZT _) (by show(#[]++vs.toArray).size<=AB+1;simp only[kb,zi,mm];omega));show A8 (A9 prog w) A (load s.heap.objs.size >>= _) Q E _;refine zb (wpAny_load (get?_update_seq g2 _) ?_);show A8 _ _ (pure ((#[]:Array A0)++vs.toArray).toList) Q E _;rw[show((#[]:Array A0)++vs.toArray).toList=vs by simp];refine ze (h _ s.toks ?_ λc j e=>?_)
 ·rw[r0,size_push'];exact KG _
 ·rw[n4 _ _ _ _ (ZO (zI e))];exact zg _ e
def MQ:Dt->Y AZ
 |.int i=>Z (.inl i)
 |.str x=>Z (.inr x)
 |_=>Y3
def Ot:O Dt->Y (O AZ)
 |[]=>Z []
 |d::ds=>(MQ d).bind λk=>(Ot ds).bind λks=>Z (k::ks)
def G9:Dt->Y (O AZ)
 |.tup ds=>Ot ds
 |_=>Y3
def Cq:O Dt->Y (O (O AZ))
 |[]=>Z []
 |d::ds=>(G9 d).bind λk=>(Cq ds).bind λks=>Z (k::ks)
def dK:AZ->Dt
 |.inl i=>.int i
 |.inr x=>.str x
def C0(ks:O AZ):Dt:=.tup (ks.map dK)
theorem l9{d:Dt}{k:AZ}(h:MQ d=Z k):d=dK k:=by
 cases d<;>cases h<;>rfl
theorem Uo:∀{ds:O Dt} {ks:O AZ},Ot ds=Z ks->ds=ks.map dK
 |[],_,h=>by cases h;rfl
 |d::ds,_,h=>by
  obtain⟨k,e1,h⟩:=AU h;obtain⟨ks,e2,h⟩:=AU h;cases h;rw[zw,l9 e1,Uo e2]
theorem vY{d:Dt}(h:G9 d=Z ks):d=C0 ks:=by
 cases d with
 |tup ds=>exact congrArg Dt.tup (Uo h)
 |_=>cases h
theorem Aa:∀{ds:O Dt} {cP:O (O AZ)},Cq ds=Z cP->ds=cP.map C0
 |[],_,h=>by cases h;rfl
 |d::ds,_,h=>by
  obtain⟨k,e1,h⟩:=AU h;obtain⟨ks,e2,h⟩:=AU h;cases h;rw[zw,vY e1,Aa e2]
theorem i0{k:AZ}{v:V}(h:AX K H (dK k) v):v=kV k:=by
 cases k with
 |inl i=>exact(show v=.int i by simpa only[dK,AX]using h)
 |inr x=>exact(show v=.str x/\x.length<=AB by simpa only[dK,AX]using h).1
theorem Ab{K:BA}{H:Hp}:∀{ks:O AZ} {vs:O V},aP K H (ks.map dK) vs->vs=ks.map kV
 |[],_,h=>by simp only[kH,aP]at h;exact h
 |k::ks,_,h=>by
  simp only[zw,aP]at h;obtain⟨v,r,rfl,h1,h2⟩:=h;rw[i0 h1,Ab h2,zw]
theorem MM(X:Cx):∀{us:O A0},AY (ks.map kV) us->Ks ks us:=by
 induction ks with
 |nil=>intro us h;cases h;exact .nil
 |cons k ks a=>
  intro us h;cases h with
  |cons r t=>exact .cons (oy (P:=X.prog) (w:=X.w) r) (a t)
theorem Ji{AO:O (A2×AF)}{σ:L2.St}{H:Hp}{s:A3}(I:AV X AO σ H s):∀{cP:O (O AZ)} {vs:O V} {AS:O A0},aP X.K H (cP.map C0) vs->AY vs AS->AJ (tu s.heap) cP AS
 |[],_,_,h,r=>by
  simp only[kH,aP]at h;subst h;cases r;exact .nil
 |k::cP,_,_,h,r=>by
  simp only[zw,aP]at h;obtain⟨v,vs,rfl,h1,h2⟩:=h;cases r with
  |cons f e=>
   refine .cons ?_ (Ji I h2 e);simp only[C0,AX]at h1;obtain⟨a,i,rfl,sq,rs⟩:=h1;obtain⟨AS,b,⟨o,g,c,n,d⟩,_⟩:=I.tuple sq;cases f;rw[Ab rs]at b;exact⟨a,o,AS,n,rfl,g,c,d,MM X b⟩
theorem Ou{AO:O (A2×AF)}{σ:L2.St}{H:Hp}{s:A3}(I:AV X AO σ H s){cP:O (O AZ)}{vs:O V}{AS:O A0}(h:aP X.K H (cP.map C0) vs)(r:AY vs AS):∀{c:O (O AZ)} {out:O A0},AJ (tu s.heap) c out->(∀u∈out,u∈AS)->∃zs,AY zs out/\aP X.K H (c.map C0) zs
 |_,_,.nil,_=>⟨[],.nil,aP.nil⟩
 |l::c,u::out,.cons q t,hm=>by
  obtain⟨zs,z1,z2⟩:=Ou I h r t λx hx=>hm x (zk _ hx);have j:∀(cP:O (O AZ)) (vs:O V) (AS:O A0),aP X.K H (cP.map C0) vs->AY vs AS->u∈AS->∃v,B6 v u/\AX X.K H (C0 l) v:=by
   intro cP
   induction cP with
   |nil=>
    intro vs AS h r a;simp only[kH,aP]at h;subst h;cases r;cases a
   |cons k cP f=>
    intro vs AS h r a;simp only[zw,aP]at h;obtain⟨v,vs,rfl,h1,h2⟩:=h;cases r with
    |@cons _ m _ _ b i=>
     rcases ba.mp a with rfl|a
     ·have e:k=l:=by
       have:=Ji I (cP:=[k]) (vs:=[v]) (AS:=[u]) (by simp only[zw,kH];exact aP.cons h1 aP.nil) (.cons b .nil);cases this with
       |cons g _=>exact g.inj q
      subst e;exact⟨v,b,h1⟩
     ·exact f vs _ h2 i a
  obtain⟨v,b,h1⟩:=j cP vs AS h r (hm u (zr ..));exact⟨v::zs,.cons b z1,by rw[zw];exact aP.cons h1 z2⟩
def QF(k l:O AZ):Bool:=((k.zip l).all λp=>Uk p.1 p.2)
theorem Gq:∀{k l:O AZ},QF k l=true->DJ k l
 |[],_,_=>by simp[DJ]
 |_::_,[],_=>by simp[DJ]
 |x::k,y::l,h=>by
  unfold QF at h;rw[JP,ke,zS]at h;exact⟨h.1,Gq h.2⟩
theorem Jj{v:V}(h:bH K H b v)(e:vB b=Z ds):∃a vs,v=.ref a/\(tH K H a vs\/wM K H a vs)/\aP K H ds vs:=by
 cases b with
 |z d=>
  cases d<;>first|(cases e;done)|skip
  ·cases e;simp only[bH,AX]at h;obtain⟨a,vs,e,q,r⟩:=h;exact⟨a,vs,e,.inr q,r⟩
  ·cases e;simp only[bH,AX]at h;obtain⟨a,vs,e,q,r⟩:=h;exact⟨a,vs,e,.inl q.sq,r⟩
 |l c=>cases e;obtain⟨a,vs,e,q,r⟩:=h;exact⟨a,vs,e,.inl (.inl q),r⟩
 |o c=>cases e;obtain⟨a,vs,e,q,r⟩:=h;exact⟨a,vs,e,.inl (.inl (.inl q)),r⟩
 |n _=>cases e
 |m _ _=>cases e
end P1
namespace S6
def ib(xs:Array Nat):Prop:=∀i j,i<j->j<xs.size->xs.getD i 0<xs.getD j 0
def It(h:A7)(it a:A2)(first:A0)(i n ep:Nat):Prop:=∃o,h.get? it=Z o/\o.cls=.type "set_iterator" ∧ o.data=.fields #[first,.int (i:Int) 0,.ref a,.int (n:Int) 0,.int (ep:Int) 0]
section
variable{ep:Nat}{es:Array (Int×A0)}{t:SetTable}
theorem WI{Q:Bool->A3->Prop}(h:Q (w.params.followText "set-order") s):A8 (A9 prog w) A setsByText Q E s:=by
 unfold setsByText;exact zb (wpAny_askSetting (ze h))
end
end S6
namespace S6
open P1
section
variable{ep:Nat}{es:Array (Int×A0)}{t:SetTable}
end
def EJ(w:A5):AF:={ cls:=.type "set",dict:=Y3,data:=.set #[] 0 (.fresh 0 0 (!w.params.followText "set-order")) }
section
variable{R:Result->A3->Prop}{I:A2}{wr:O A2}{P:Nat->A0->Prop}{St:Nat->A3->Prop}{C:A7->O κ->Prop}{val:Nat->κ}
end
end S6
namespace S6
open PySem
structure Tb (t:SetTable):Prop where
 mask:t.mask=7\/t.mask=31\/t.mask=127
 dum:t.dummies=#[]
 rise:ib t.place
 bd:∀j:Nat,j∈t.place->j<=t.mask
 full:t.place.size<=t.mask
def lh(a:Nat)(p:SetTable.Probe):SetTable.Probe:=
 if p.more>0 then { p with j:=p.j+1,more:=p.more-1 }else
 { p with j:=(dt a p.i p.perturb).1,more:=tj a (dt a p.i p.perturb).1-(dt a p.i p.perturb).1,i:=(dt a p.i p.perturb).1,perturb:=(dt a p.i p.perturb).2 }
def rh(a i perturb:Nat):SetTable.Probe:={ j:=i,more:=tj a i-i,i,perturb,dummy:=Y3 }
def MR(a:Nat)(h:Int):Nat->SetTable.Probe
 |0=>rh a (i7 h%(a+1)) (i7 h)
 |n+1=>lh a (MR a h n)
def nx(M i:Nat):Nat:=(i*5+1)%M
def lp(a:Nat)(h:Int):Nat->Nat×Nat
 |0=>(i7 h%(a+1),i7 h)
 |l+1=>dt a (lp a h l).1 (lp a h l).2
structure Tok (t:SetTable) (es:Array (Int×Value)):Prop extends Tb t where
 size:t.place.size=es.size
 reach:∀(i j:Nat) e,t.place[i]?=some j->es[i]?=some e->∃n,n<10*SetTable.turns t.mask/\(MR t.mask e.1 n).j=j/\∀m,m<n->(MR t.mask e.1 m).j∈t.place
end S6
namespace S6
open P1 L2
abbrev c6(prog:A4)(w:A5)(ks:O AZ):Int:=tupleKeyHash (nC prog w) ks
def TE(prog:A4)(w:A5)(h:A7)(z:O AZ×A2)(e:Int×A0):Prop:=e=(c6 prog w z.1,.ref z.2)/\IsTupleKey (nC prog w) h z.1 z.2
end S6
namespace S1
open L2
end S1
namespace S6
end S6
namespace S1
def EK:Bool->Keyed->Array Keyed->Nat->Nat->Nat->StateT SortSt Sem (Y Nat):=sortPriv% PySem.Builtin.gallop
def SK:Array Keyed->Array Keyed->StateT SortSt Sem (Array Keyed):=sortPriv% PySem.Builtin.mergeLo
def PC:Array Keyed->Array Keyed->StateT SortSt Sem (Array Keyed):=sortPriv% PySem.Builtin.mergeHi
def B8:Nat->StateT SortSt Sem Unit:=sortPriv% PySem.Builtin.setMinGallop
section
variable{b:Array Keyed}
theorem Uq{p q:Keyed}{st:SortSt}{Q:Y Bool->SortSt->Prop}(a:JZ prog w A s kd rk b)(hk:kindOf st=kd)(c:p∈b.toList)(e:q∈b.toList)(h:Q (Z (decide (rk p.1<rk q.1))) st):wpS (A9 prog w) A E s (lt' p q) Q st:=by
 rw[lt'_eq];refine AM (wpS_get ?_);rw[hk];exact AM (wpS_lift (wpAny_attempt (a _ p q _ c e ⟨rfl,wpS_pure h⟩)))
theorem qt{xs:Array Keyed}{st:SortSt}{Q:Keyed->SortSt->Prop}{p:Keyed}(e:xs[i]?=Z p)(h:Q p st):wpS (A9 prog w) A E s (elem' xs i) Q st:=by
 rw[elem'_eq,e];exact wpS_pure h
theorem Zb{lo hi:Nat}{P:Nat->Prop}[DecidablePred P]{st:SortSt}{f:Nat->Y β×Nat×Nat->StateT SortSt Sem (ForInStep (Y β×Nat×Nat))}{Q:Y β×Nat×Nat->SortSt->Prop}(mono:∀i j,i<=j->j<n->P j->P i)(q:∀x lo hi,lo<=hi->hi<=n->∀a:ForInStep (Y β×Nat×Nat)->SortSt->Prop,(lo>=hi->a (.done (Y3,lo,hi)) st)->(lo<hi->P (lo+(hi-lo) / 2)->a (.yield (Y3,lo+(hi-lo) / 2+1,hi)) st)->(lo<hi->¬ P (lo+(hi-lo) / 2)->a (.yield (Y3,lo,lo+(hi-lo) / 2)) st)->wpS (A9 prog w) A E s (f x (Y3,lo,hi)) a st)(h1:lo<=hi)(h2:hi<=n)(m:∀i,i<lo->P i)(o:∀i,hi<=i->i<n->¬ P i)(h:∀k,k<=n->(∀i,i<k->P i)->(∀i,k<=i->i<n->¬ P i)->Q (Y3,k,k) st):wpS (A9 prog w) A E s (forIn [0:n] (Y3,lo,hi) f) Q st:=by
 refine wpS_forRange (I:=λx c t=>t=st/\∃lo hi,c=(Y3,lo,hi)/\lo<=hi/\hi<=n/\hi-lo<=n-x/\(∀i,i<lo->P i)/\∀i,hi<=i->i<n->¬ P i) ?_ ?_ ⟨rfl,lo,hi,rfl,h1,h2,by omega,m,o⟩
 ·rintro x c t _ hx ⟨rfl,lo,hi,rfl,a1,a2,l,g,b⟩;refine q x lo hi a1 a2 _ (λu=>?_) (λlt p=>?_) λlt p=>?_
  ·have e:hi=lo:=by omega
   subst e;exact h hi a2 g b
  ·exact⟨rfl,_,_,rfl,by omega,a2,by omega,λi v=>mono i _ () () p,b⟩
  ·exact⟨rfl,_,_,rfl,by omega,by omega,by omega,g,λi q1 q2 z=>p (mono _ i q1 q2 z)⟩
 ·rintro c t ⟨rfl,lo,hi,rfl,a1,a2,l,g,b⟩;have e:hi=lo:=by omega
  subst e;exact h hi a2 g b
theorem RY{left:Bool}{f:Keyed}{xs:Array Keyed}{base a:Nat}{st:SortSt}{Q:Y Nat->SortSt->Prop}(D:JZ prog w A s kd rk b)(hk:kindOf st=kd)(mk:f∈b.toList)(G:∀i,i<n->∃p,xs[base+i]?=Z p/\p∈b.toList)(J:a<n)(M:∀i j,i<=j->j<n->at_ rk xs (base+i)<=at_ rk xs (base+j))(h:∀k,k<=n->(∀i,i<k->if left=true then at_ rk xs (base+i)<rk f.1 else at_ rk xs (base+i)<=rk f.1)->(∀i,k<=i->i<n->if left=true then rk f.1<=at_ rk xs (base+i)else rk f.1<at_ rk xs (base+i))->Q (Z k) st):wpS (A9 prog w) A E s (EK left f xs base n a) Q st:=by
 let P:Nat->Prop:=λi=>if left=true then at_ rk xs (base+i)<rk f.1 else at_ rk xs (base+i)<=rk f.1
 have N:∀i,Decidable (P i):=λi=>by
  show Decidable (if left=true then _ else _);cases left
  ·exact Nat.decLe _ _
  ·exact Nat.decLt _ _
 have mono:∀i j,i<=j->j<n->P j->P i:=λi j K H p=>by
  have:=M i j K H;cases left
  ·have p:at_ rk xs (base+j)<=rk f.1:=p;show at_ rk xs (base+i)<=rk f.1;omega
  ·have p:at_ rk xs (base+j)<rk f.1:=p;show at_ rk xs (base+i)<rk f.1;omega
 have C:∀{i:Nat} {Q:Y Bool->SortSt->Prop},i<n->Q (Z (decide (P i))) st->wpS (A9 prog w) A E s (do let x <-elem' xs (base+i);if left=true then lt' x f else do let z <-lt' f x;pure (z.map (!·))) Q st:=λ{i Q} hi hq=>by
  obtain⟨p,e,m⟩:=G i hi;have ea:at_ rk xs (base+i)=rk p.1:=by unfold at_;rw[e]
  refine AM (qt e ?_);cases left
  ·rw[zv ()];refine AM (Uq D hk mk m (wpS_pure ?_));have:(Option.map (λx=>!x) (Z (decide (rk f.1<rk p.1))))=Z (decide (P i)):=by
    show Z (!decide _)=_;refine congrArg Z ?_;rw[<-decide_not];exact decide_eq_decide.mpr (by show _↔at_ rk xs (base+i)<=rk f.1;omega)
   rw[this];exact hq
  ·rw[zh rfl];refine Uq D hk m mk ?_;have:decide (rk p.1<rk f.1)=decide (P i):=decide_eq_decide.mpr (by show _↔at_ rk xs (base+i)<rk f.1;rw[ea]);rw[this];exact hq
 have F:∀k,k<=n->(∀i,i<k->P i)->(∀i,k<=i->i<n->¬ P i)->Q (Z k) st:=λk v y B=>h k v y λi q1 q2=>by
  have:=B i q1 q2;cases left
  ·have this:¬ at_ rk xs (base+i)<=rk f.1:=this;show rk f.1<at_ rk xs (base+i);omega
  ·have this:¬ at_ rk xs (base+i)<rk f.1:=this;show rk f.1<=at_ rk xs (base+i);omega
 clear h;unfold EK;refine AM (C J ?_);dsimp only;by_cases p0:P a
 ·rw[zz p0,zh rfl];refine AM (wpS_mono (wpS_forRange (I:=λx c t=>t=st/\∃l o,c=(Y3,l,o)/\x+1<=o/\l<o/\a+l<n/\P (a+l)) (Q:=λc t=>t=st/\∃l o,c=(Y3,l,o)/\a+l+1<=a+min o (n-a)/\a+min o (n-a)<=n/\(∀i,i<a+l+1->P i)/\∀i,a+min o (n-a)<=i->i<n->¬ P i) ?_ ?_ ⟨rfl,0,1,rfl,by omega,by omega,by omega,p0⟩) ?_)
  ·rintro x c t _ hx ⟨rfl,l,o,rfl,a1,a2,u,g⟩;dsimp only;by_cases q:o>=n-a
   ·rw[zh q];exact wpS_pure ⟨rfl,l,o,rfl,by omega,by omega,λi hi=>mono i _ () u g,λi q1 q2=>by omega⟩
   ·rw[zv q];refine AM (C () ?_);dsimp only;by_cases p:P (a+o)
    ·rw[zz p,zv ()];exact wpS_pure ⟨rfl,o,2*o+1,rfl,by omega,by omega,by omega,p⟩
    ·rw[z4 p,zh ()];exact wpS_pure ⟨rfl,l,o,rfl,by omega,by omega,λi hi=>mono i _ () u g,λi q1 q2 z=>p (mono _ i () q2 z)⟩
  ·rintro c t ⟨rfl,l,o,rfl,a1,a2,u,g⟩;exact⟨rfl,l,o,rfl,by omega,by omega,λi hi=>mono i _ () u g,λi q1 q2=>by omega⟩
  rintro c t ⟨rfl,l,o,rfl,a1,a2,u,g⟩;dsimp only;refine AM (Zb mono ?_ a1 a2 u g λk v y B=>wpS_pure (F k v y B));intro x lo hi b1 b2 L g1 g2 g3;dsimp only;by_cases q:lo>=hi
  ·rw[zh q];exact wpS_pure (g1 q)
  ·rw[zv q];refine AM (C () ?_);dsimp only;by_cases p:P (lo+(hi-lo) / 2)
   ·rw[zz p,zh rfl];exact wpS_pure (g2 () p)
   ·rw[z4 p,zv ()];exact wpS_pure (g3 () p)
 ·rw[z4 p0,zv ()];refine AM (wpS_mono (wpS_forRange (I:=λx c t=>t=st/\∃l o,c=(Y3,l,o)/\x+1<=o/\l<o/\l<=a/\¬ P (a-l)) (Q:=λc t=>t=st/\∃l o,c=(Y3,l,o)/\a+1-min o (a+1)<=a-l/\a-l<=n/\(∀i,i<a+1-min o (a+1)->P i)/\∀i,a-l<=i->i<n->¬ P i) ?_ ?_ ⟨rfl,0,1,rfl,by omega,by omega,by omega,p0⟩) ?_)
  ·rintro x c t _ hx ⟨rfl,l,o,rfl,a1,a2,u,g⟩;dsimp only;by_cases q:o>=a+1
   ·rw[zh q];exact wpS_pure ⟨rfl,l,o,rfl,by omega,by omega,λi hi=>by omega,λi q1 q2 z=>g (mono _ i q1 q2 z)⟩
   ·rw[zv q];refine AM (C () ?_);dsimp only;by_cases p:P (a-o)
    ·rw[zz p,zh rfl];exact wpS_pure ⟨rfl,l,o,rfl,by omega,by omega,λi hi=>mono i _ () () p,λi q1 q2 z=>g (mono _ i q1 q2 z)⟩
    ·rw[z4 p,zv ()];exact wpS_pure ⟨rfl,o,2*o+1,rfl,by omega,by omega,by omega,p⟩
  ·rintro c t ⟨rfl,l,o,rfl,a1,a2,u,g⟩;exact⟨rfl,l,o,rfl,by omega,by omega,λi hi=>by omega,λi q1 q2 z=>g (mono _ i q1 q2 z)⟩
  rintro c t ⟨rfl,l,o,rfl,a1,a2,u,g⟩;dsimp only;refine AM (Zb mono ?_ a1 a2 u g λk v y B=>wpS_pure (F k v y B));intro x lo hi b1 b2 L g1 g2 g3;dsimp only;by_cases q:lo>=hi
  ·rw[zh q];exact wpS_pure (g1 q)
  ·rw[zv q];refine AM (C () ?_);dsimp only;by_cases p:P (lo+(hi-lo) / 2)
   ·rw[zz p,zh rfl];exact wpS_pure (g2 () p)
   ·rw[z4 p,zv ()];exact wpS_pure (g3 () p)
end
section
variable(le:Keyed->Keyed->Prop)
structure Mg (W out xs ys:List Keyed):Prop where
 pm:(out++xs++ys).Perm W
 so:out.Pairwise le
 lo:∀x∈out,∀y∈xs++ys,le x y
 sx:xs.Pairwise le
 sy:ys.Pairwise le
variable{le}{out xs ys:O Keyed}
theorem Mg.acQ{x:Keyed}(h:Mg le W out (x::xs) ys)(l:∀y∈ys,le x y):Mg le W (out++[x]) xs ys:=by
 have f:=bB.mp h.sx;refine⟨by have:=h.pm;simpa using this,cf.mpr ⟨h.so,lA ..,λa e c b=>?_⟩,λa e c b=>?_,f.2,h.sy⟩
 ·rw[ag.mp b];exact h.lo a e x (by simp)
 ·rcases bc.mp e with q|q
  ·exact h.lo a q c (by simp at b ⊢;rcases b with z|z<;>simp[z])
  ·rw[ag.mp q];rcases bc.mp b with z|z
   ·exact f.1 c z
   ·exact l c z
theorem Mg.acR{y:Keyed}(h:Mg le W out xs (y::ys))(l:∀x∈xs,le y x):Mg le W (out++[y]) xs ys:=by
 have f:=bB.mp h.sy;refine⟨List.Perm.trans ?_ h.pm,cf.mpr ⟨h.so,lA ..,λa e c b=>?_⟩,λa e c b=>?_,h.sx,f.2⟩
 ·rw[Zp,Zp,Zp];refine List.Perm.append_left _ ?_;show(y::(xs++ys)).Perm (xs++y::ys);exact List.perm_middle.symm
 ·rw[ag.mp b];exact h.lo a e y (by simp)
 ·rcases bc.mp e with q|q
  ·exact h.lo a q c (by simp at b ⊢;rcases b with z|z<;>simp[z])
  ·rw[ag.mp q];rcases bc.mp b with z|z
   ·exact l c z
   ·exact f.1 c z
theorem Mg.QG:∀{zs out:O Keyed},Mg le W out (zs++xs) ys->(∀z∈zs,∀y∈ys,le z y)->Mg le W (out++zs) xs ys
 |[],out,h,_=>by rw[qS];exact h
 |z::zs,out,h,l=>by
  have:=Mg.QG (h.acQ (xs:=zs++xs) (l z (by simp))) λa b=>l a (by simp[b]);rwa [Zp]at this
theorem Mg.QH:∀{zs out:O Keyed},Mg le W out xs (zs++ys)->(∀z∈zs,∀x∈xs,le z x)->Mg le W (out++zs) xs ys
 |[],out,h,_=>by rw[qS];exact h
 |z::zs,out,h,l=>by
  have:=Mg.QH (h.acR (ys:=zs++ys) (l z (by simp))) λa b=>l a (by simp[b]);rwa [Zp]at this
theorem Mg.ajk(h:Mg le W out xs []):(out++xs).Perm W/\(out++xs).Pairwise le:=
 ⟨by have:=h.pm;simpa using this,cf.mpr ⟨h.so,h.sx,λa b c e=>h.lo a b c (by simpa using e)⟩⟩
theorem Mg.ajl(h:Mg le W out [] ys):(out++ys).Perm W/\(out++ys).Pairwise le:=
 ⟨by have:=h.pm;simpa using this,cf.mpr ⟨h.so,h.sy,λa b c e=>h.lo a b c (by simpa using e)⟩⟩
theorem Mg.alO(h:Mg le W out xs ys)(l:∀y∈ys,∀x∈xs,le y x):(out++ys++xs).Perm W/\(out++ys++xs).Pairwise le:=by
 have h2:Mg le W (out++ys) xs []:=Mg.QH (zs:=ys) (ys:=[]) (by rw[qS];exact h) l;exact h2.ajk
end
abbrev Sm(st t:SortSt):Prop:=kindOf t=kindOf st/\failedOf t=failedOf st/\AN t=AN st/\pendingOf t=pendingOf st
theorem vZ{x:Array Keyed}{z:Keyed}(h:z∈x.toList.drop i):∃j,i<=j/\∃h:j<x.size,x[j]=z:=by
 obtain⟨n,a,e⟩:=Qr h;rw[ka]at e;rw[qc]at a;exact⟨i+n,by omega,by simp at a;omega,e⟩
theorem J5(x:Array Keyed)(i k:Nat):(x.extract i (i+k)).toList=(x.toList.drop i).take k:=by
 rw[kC,JS,lF]
theorem Ad(x:Array Keyed)(i:Nat):(x.extract i).toList=x.toList.drop i:=by
 rw[kC,JS,qi (by simp)]
theorem Zc{x:Array Keyed}{z:Keyed}(h:z∈(x.extract i (i+k)).toList):∃j,i<=j/\j<i+k/\∃h:j<x.size,x[j]=z:=by
 rw[J5]at h;obtain⟨n,a,e⟩:=Qr h;rw[JY,ka]at e;rw[qk,qc]at a;exact⟨i+n,by omega,by omega,by simp at a;omega,e⟩
theorem CB{x:Array Keyed}(h:i<x.size):x.toList.drop i=x[i]::x.toList.drop (i+1):=kK (by simpa using h)
theorem Ur(x:Array Keyed)(i k:Nat):x.toList.drop i=(x.extract i (i+k)).toList++x.toList.drop (i+k):=by
 rw[J5,<-Ki,ZU]
theorem Hf{x:Array Keyed}(h:i<x.size):at_ rk x i=rk x[i].1:=by unfold at_;rw[getElem?_pos x i h]
section
variable{b:Array Keyed}
abbrev Le(rk:A0->Nat):Keyed->Keyed->Prop:=λp q=>rk p.1<=rk q.1
abbrev Rt(rk:A0->Nat)(W:O Keyed)(r:Array Keyed):Prop:=r.toList.Perm W/\r.toList.Pairwise (Le rk)
theorem BJ{x:Array Keyed}(h:x.toList.Pairwise (Le rk))(b:i<=j)(a:j<x.size):rk x[i].1<=rk x[j].1:=by
 by_cases e:i=j
 ·subst e;exact zo _
 ·have:=dg.mp h i j (by simp;omega) (by simpa using a) ();simpa using this
section
variable{x y:Array Keyed}
abbrev Mo(rk:A0->Nat)(W:O Keyed)(x y out:Array Keyed)(i j:Nat):Prop:=Mg (Le rk) W out.toList (x.toList.drop i) (y.toList.drop j)
theorem Mo.pX(h:Mo rk W x y out i j)(hi:i<x.size)(l:∀k (q:k<y.size),j<=k->rk x[i].1<=rk y[k].1):Mo rk W x y (out.push x[i]) (i+1) j:=by
 unfold Mo at *
 rw[CB hi]at h;rw[Kn];exact h.acQ λz c=>by
  obtain⟨k,a,b,rfl⟩:=vZ c;exact l k b a
theorem Mo.pY(h:Mo rk W x y out i j)(b:j<y.size)(l:∀k (q:k<x.size),i<=k->rk y[j].1<=rk x[k].1):Mo rk W x y (out.push y[j]) i (j+1):=by
 unfold Mo at *
 rw[CB b]at h;rw[Kn];exact h.acR λz c=>by
  obtain⟨k,a,e,rfl⟩:=vZ c;exact l k e a
theorem Mo.pXs(h:Mo rk W x y out i j)(l:∀a (p:a<x.size),i<=a->a<i+n->∀k (q:k<y.size),j<=k->rk x[a].1<=rk y[k].1):Mo rk W x y (out++x.extract i (i+n)) (i+n) j:=by
 unfold Mo at *
 rw[Ur x i n]at h;rw[ZA];exact h.QG λz f c g=>by
  obtain⟨a,a1,a2,b,rfl⟩:=Zc f;obtain⟨k,e,m,rfl⟩:=vZ g;exact l a b a1 a2 k m e
theorem Mo.pYs(h:Mo rk W x y out i j)(l:∀a (p:a<y.size),j<=a->a<j+n->∀k (q:k<x.size),i<=k->rk y[a].1<=rk x[k].1):Mo rk W x y (out++y.extract j (j+n)) i (j+n):=by
 unfold Mo at *
 rw[Ur y j n]at h;rw[ZA];exact h.QH λz f c g=>by
  obtain⟨a,a1,a2,b,rfl⟩:=Zc f;obtain⟨k,e,m,rfl⟩:=vZ g;exact l a b a1 a2 k m e
theorem Mo.Ea(h:Mo rk W x y out i j)(e:(j==y.size)=true):Rt rk W (out++x.extract i++y.extract j):=by
 have e:j=y.size:=by simpa using e
 have a:y.toList.drop j=[]:=kn (by simp;omega);unfold Mo at h;rw[a]at h;unfold Rt;rw[ZA,ZA,Ad,Ad,a,qS];exact h.ajk
theorem Mo.acS(h:Mo rk W x y out i j)(e:(i==x.size)=true):Rt rk W (out++x.extract i++y.extract j):=by
 have e:i=x.size:=by simpa using e
 have a:x.toList.drop i=[]:=kn (by simp;omega);unfold Mo at h;rw[a]at h;unfold Rt;rw[ZA,ZA,Ad,Ad,a,qS];exact h.ajl
theorem Mo.last(h:Mo rk W x y out i j)(e:(i+1==x.size)=true)(l:∀k (q:k<y.size) (z:x.size-1<x.size),rk y[k].1<=rk x[x.size-1].1):Rt rk W (out++y.extract j++x.extract i):=by
 have e:i+1=x.size:=by simpa using e
 unfold Rt;rw[ZA,ZA,Ad,Ad];refine Mg.alO h λc g z f=>?_;obtain⟨k,m,b,rfl⟩:=vZ g;obtain⟨a,a1,a2,rfl⟩:=vZ f;have:a=x.size-1:=by omega
 subst this;exact l k b a2
theorem QJ{g:Nat}{Q:Unit->SortSt->Prop}(h:∀t',Sm t t'->Q ⟨⟩ t'):wpS (A9 prog w) A E s (B8 g) Q t:=by
 unfold B8;exact wpS_modify (h _ ⟨rfl,rfl,rfl,rfl⟩)
theorem Sm.tr{u v:SortSt}(h:Sm t u)(h':Sm u v):Sm t v:=⟨h'.1.trans h.1,h'.2.1.trans h.2.1,h'.2.2.1.trans h.2.2.1,h'.2.2.2.trans h.2.2.2⟩
theorem Jk{left:Bool}{e:Keyed}{z:Array Keyed}{f:Nat}{Q:Y Nat->SortSt->Prop}(g:JZ prog w A s kd rk b)(hk:kindOf t=kd)(mk:e∈b.toList)(l:∀p∈z.toList,p∈b.toList)(sz:z.toList.Pairwise (Le rk))(y:i+n<=z.size)(u:f<n)(h:∀k,k<=n->(∀a (q:a<z.size),i<=a->a<i+k->if left=true then rk z[a].1<rk e.1 else rk z[a].1<=rk e.1)->(∀a (q:a<z.size),i+k<=a->a<i+n->if left=true then rk e.1<=rk z[a].1 else rk e.1<rk z[a].1)->Q (Z k) t):wpS (A9 prog w) A E s (EK left e z i n f) Q t:=by
 refine RY (rk:=rk) g hk mk (λa x=>⟨z[i+a]'(),getElem?_pos z _ (),l _ (by simp)⟩) u (λa c B v=>?_) λk j m o=>h k j (λa q q1 q2=>?_) λa q q1 q2=>?_
 ·rw[Hf (show i+a<z.size by omega),Hf (show i+c<z.size by omega)];exact BJ sz () _
 ·have:=m (a-i) ();rw[show i+(a-i)=a by omega,Hf q]at this;exact this
 ·have:=o (a-i) () ();rw[show i+(a-i)=a by omega,Hf q]at this;exact this
abbrev Fm:=Y (Array Keyed)×Array Keyed×Nat×Nat×Nat×Nat×Nat
def QK(x y o:Array Keyed)(i j g k u:Nat):StateT SortSt Sem (ForInStep Fm):=elem' x i >>= λd=>if(i+1+1==x.size)=true then pure (.done (Z (o.push d++y.extract j++x.extract (i+1)),o.push d,i+1,j,g,k,u))else if(decide (k<7)&&decide (u<7))=true then pure (.done (Y3,o.push d,i+1,j,g,k,u))else pure (.yield (Y3,o.push d,i+1,j,g,k,u))
def QL(x y o:Array Keyed)(i j g k q:Nat):StateT SortSt Sem (ForInStep Fm):=elem' y j >>= λd=>if(j+1==y.size)=true then pure (.done (Z (o.push d++x.extract i++y.extract (j+1)),o.push d,i,j+1,g,k,q))else elem' x i >>= λe=>EK true e y (j+1) (y.size-(j+1)) 0 >>= λz=>match z with
 |some u=>if u>0 then if(j+1+u==y.size)=true then pure (.done (Z (o.push d++y.extract (j+1) (j+1+u)++x.extract i++y.extract (j+1+u)),o.push d++y.extract (j+1) (j+1+u),i,j+1+u,g,k,u))else QK x y (o.push d++y.extract (j+1) (j+1+u)) i (j+1+u) g k u else QK x y (o.push d) i (j+1) g k u
 |_=>pure (.done (Z (o.push d++x.extract i++y.extract (j+1)),o.push d,i,j+1,g,k,q))
def OS(x y o:Array Keyed)(i j g p q:Nat):StateT SortSt Sem (ForInStep Fm):=B8 g >>= λ_=>elem' y j >>= λe=>EK false e x i (x.size-i) 0 >>= λz=>match z with
 |some k=>if k>0 then if(i+k+1==x.size)=true then pure (.done (Z (o++x.extract i (i+k)++y.extract j++x.extract (i+k)),o++x.extract i (i+k),i+k,j,g,k,q))else if(i+k==x.size)=true then pure (.done (Z (o++x.extract i (i+k)++x.extract (i+k)++y.extract j),o++x.extract i (i+k),i+k,j,g,k,q))else QL x y (o++x.extract i (i+k)) (i+k) j g k q else QL x y o i j g k q
 |_=>pure (.done (Z (o++x.extract i++y.extract j),o,i,j,g,p,q))
section
variable{P:ForInStep Fm->SortSt->Prop}
theorem Us{a b:Nat}(h:¬ (a==b)=true)(l:a<=b):a<b:=n8 l λe=>h (beq_iff_eq.mpr e)
abbrev LI(rk:A0->Nat)(W:O Keyed)(P:ForInStep Fm->SortSt->Prop)(t:SortSt):Prop:=∀r c,Rt rk W r->P (.done (Z r,c)) t
abbrev Iq(rk:A0->Nat)(W:O Keyed)(x y:Array Keyed)(n:Nat)(P:ForInStep Fm->SortSt->Prop)(t:SortSt):Prop:=∀o i j c,Mo rk W x y o i j->i+1<x.size->j<y.size->n<i+j->P (.done (Y3,o,i,j,c)) t/\P (.yield (Y3,o,i,j,c)) t
theorem Ov{o:Array Keyed}{g u:Nat}(M:Mo rk W x y o i j)(hi:i+1<x.size)(f:j<y.size)(l:∀a (q:a<y.size),j<=a->rk x[i].1<=rk y[a].1)(last:∀k (q:k<y.size) (z:x.size-1<x.size),rk y[k].1<=rk x[x.size-1].1)(h:n<=i+j)(hd:LI rk W P t)(c:Iq rk W x y n P t):wpS (A9 prog w) A E s (QK x y o i j g k u) P t:=by
 unfold QK;have hx:=ky hi;refine AM (qt (getElem?_pos x _ hx) ?_);have b:=M.pX hx λa z e=>l a z e;by_cases d:(i+1+1==x.size)=true
 ·rw[zh d];exact wpS_pure (hd _ _ (b.last d last))
 rw[zv d];have z:=c _ _ _ (g,k,u) b (Us d hi) f (hP h (Nat.add_lt_add_right (k6 i) j));split
 ·exact wpS_pure z.1
 ·exact wpS_pure z.2
theorem Ow{o:Array Keyed}{g q:Nat}(C:JZ prog w A s kd rk b)(hk:kindOf t=kd)(J:∀p∈x.toList,p∈b.toList)(D:∀p∈y.toList,p∈b.toList)(G:x.toList.Pairwise (Le rk))(F:y.toList.Pairwise (Le rk))(M:Mo rk W x y o i j)(hi:i+1<x.size)(e:j<y.size)(l:∀a (q:a<x.size),i<=a->rk y[j].1<rk x[a].1)(last:∀k (q:k<y.size) (z:x.size-1<x.size),rk y[k].1<=rk x[x.size-1].1)(L:n<=i+j)(hd:LI rk W P t)(B:Iq rk W x y n P t):wpS (A9 prog w) A E s (QL x y o i j g k q) P t:=by
 unfold QL;have hx:=ky hi;refine AM (qt (getElem?_pos y _ e) ?_);have M2:=M.pY e λa z I=>qh (l a z I);by_cases d:(j+1==y.size)=true
 ·rw[zh d];exact wpS_pure (hd _ _ (M2.Ea d))
 rw[zv d];have K:=Us d e;refine AM (qt (getElem?_pos x _ hx) (AM (Jk (rk:=rk) C hk (J _ (by simp)) D F () () λu N v f=>?_)));simp only[QP]at v f;dsimp only;by_cases m:u>0
 ·rw[zh m];have h:=M2.pYs (n:=u) λa p q1 q2 c z H=>zl (qh (v a p q1 q2)) (BJ G H z);by_cases d:(j+1+u==y.size)=true
  ·rw[zh d];exact wpS_pure (hd _ _ (h.Ea d))
  rw[zv d];exact Ov h hi (Us d ()) (λa q q1=>f a q q1 ()) last () hd B
 ·rw[zv m];exact Ov M2 hi K (λa q q1=>f a q () ()) last () hd B
theorem ng{o:Array Keyed}{g p q:Nat}(h:JZ prog w A s kd rk b)(hk:kindOf t=kd)(B:∀p∈x.toList,p∈b.toList)(l:∀p∈y.toList,p∈b.toList)(D:x.toList.Pairwise (Le rk))(m:y.toList.Pairwise (Le rk))(M:Mo rk W x y o i j)(hi:i+1<x.size)(v:j<y.size)(last:∀k (q:k<y.size) (z:x.size-1<x.size),rk y[k].1<=rk x[x.size-1].1)(I:n<=i+j)(hd:∀t',Sm t t'->LI rk W P t')(f:∀t',Sm t t'->Iq rk W x y n P t'):wpS (A9 prog w) A E s (OS x y o i j g p q) P t:=by
 unfold OS;refine AM (QJ λt' u=>?_);have hd:=hd t' u;have f:=f t' u;have hk:=u.1.trans hk;refine AM (qt (getElem?_pos y _ v) (AM (Jk (rk:=rk) h hk (l _ (by simp)) B D () () λk J G C=>?_)));simp only[z5,Qb]at G C;dsimp only;by_cases F:k>0
 ·rw[zh F];have M1:=M.pXs (n:=k) λa p q1 q2 c z H=>zl (G a p q1 q2) (BJ m H z);by_cases d:(i+k+1==x.size)=true
  ·rw[zh d];exact wpS_pure (hd _ _ (M1.last d last))
  rw[zv d];by_cases e:(i+k==x.size)=true
  ·rw[zh e];exact wpS_pure (hd _ _ (M1.acS e))
  rw[zv e];exact Ow h hk B l D m M1 (Us d (Us e ())) v (λa q q1=>C a q q1 ()) last () hd f
 ·rw[zv F];exact Ow h hk B l D m M hi v (λa q q1=>C a q () ()) last I hd f
end
theorem t7{st:SortSt}{Q:Array Keyed->SortSt->Prop}(N:JZ prog w A s kd rk b)(hk:kindOf st=kd)(U:∀p∈x.toList,p∈b.toList)(P:∀p∈y.toList,p∈b.toList)(G:x.toList.Pairwise (Le rk))(F:y.toList.Pairwise (Le rk))(hx:0<x.size)(K:0<y.size)
  (first:∀k (q:k<x.size),rk y[0].1<=rk x[k].1) (last:∀k (q:k<y.size) (z:x.size-1<x.size),rk y[k].1<=rk x[x.size-1].1)
  (h:∀r t,Sm st t->Rt rk (x.toList++y.toList) r->Q r t):wpS (A9 prog w) A E s (SK x y) Q st:=by
 have ex:∀{i:Nat} {t:SortSt} {Q:Keyed->SortSt->Prop} (hi:i<x.size),Q x[i] t->wpS (A9 prog w) A E s (elem' x i) Q t:=λhi C=>qt (getElem?_pos x _ hi) C;have D:∀{i:Nat} {t:SortSt} {Q:Keyed->SortSt->Prop} (hi:i<y.size),Q y[i] t->wpS (A9 prog w) A E s (elem' y i) Q t:=λhi C=>qt (getElem?_pos y _ hi) C;have X:∀{i:Nat} (hi:i<x.size),x[i]∈b.toList:=λhi=>U _ (by simp);have a2:∀{i:Nat} (hi:i<y.size),y[i]∈b.toList:=λhi=>P _ (by simp);have a1:∀r t,Sm st t->Rt rk (x.toList++y.toList) r->Q r t:=h;unfold SK;refine AM (wpS_lift (QN ⟨rfl,?_⟩));dsimp only;refine AM (D K ?_);have M0:Mo rk (x.toList++y.toList) x y #[] 0 0:=⟨by simp,by simp,λa ha=>(by cases ha),G,F⟩;have M1:=M0.pY K λk q _=>first k q;rw[show(#[]:Array Keyed).push y[0]=#[y[0]] from rfl]at M1;by_cases c1:(1==y.size)=true
 ·rw[zh c1];exact wpS_pure (h _ _ ⟨rfl,rfl,rfl,rfl⟩ (M1.Ea c1))
 rw[zv c1];by_cases c2:(0+1==x.size)=true
 ·rw[zh c2];exact wpS_pure (h _ _ ⟨rfl,rfl,rfl,rfl⟩ (M1.last c2 last))
 rw[zv c2];have W:1<y.size:=by
  have:¬ 1=y.size:=by simpa using c1
  omega
 have n2:0+1<x.size:=by
  have:¬ 0+1=x.size:=by simpa using c2
  omega
 refine AM (wpS_get ?_);refine AM (wpS_mono (wpS_forRange (I:=λn c t=>Sm st t/\∃out i j g,c=(Y3,out,i,j,g)/\Mo rk (x.toList++y.toList) x y out i j/\i+1<x.size/\j<y.size/\n+1<=i+j) (Q:=λc t=>Sm st t/\∃r c',c=(Z r,c')/\Rt rk (x.toList++y.toList) r) ?_ ?_ ⟨⟨rfl,rfl,rfl,rfl⟩,_,0,1,_,rfl,M1,n2,W,by omega⟩) ?_)
 ·rintro n c t _ hn ⟨S,out,i,j,g,rfl,M,hi,f,m⟩;dsimp only;refine AM (wpS_mono (wpS_forRange (I:=λn c t=>Sm st t/\∃out i' e p q,c=(Y3,out,i',e,p,q)/\Mo rk (x.toList++y.toList) x y out i' e/\i'+1<x.size/\e<y.size/\i+j+n<=i'+e)
   (Q:=λc t=>Sm st t/\((∃r c',c=(Z r,c')/\Rt rk (x.toList++y.toList) r)\/∃out i' e p q,c=(Y3,out,i',e,p,q)/\Mo rk (x.toList++y.toList) x y out i' e/\i'+1<x.size/\e<y.size/\i+j+1<=i'+e)) ?_ ?_ ⟨S,_,i,j,0,0,rfl,M,hi,f,by omega⟩) ?_)
  ·rintro n' c t _ a3 ⟨S,out,i',e,p,q,rfl,M,hi,f,v⟩;dsimp only;refine AM (D f (AM (ex (ky hi) (AM (Uq N (S.1.trans hk) (a2 f) (X _) ?_)))));dsimp only;by_cases c:rk y[e].1<rk x[i'].1
   ·rw[zz c,zh rfl];refine AM (D f ?_);have u:=M.pY f λk z hk=>zl (qh c) (BJ G hk z);by_cases d:(e+1==y.size)=true
    ·rw[zh d];exact wpS_pure ⟨S,.inl ⟨_,_,rfl,u.Ea d⟩⟩
    ·rw[zv d];have H:e+1<y.size:=by
      have:¬ e+1=y.size:=by simpa using d
      omega
     split
     ·exact wpS_pure ⟨S,.inr ⟨_,_,_,_,_,rfl,u,hi,H,by omega⟩⟩
     ·exact wpS_pure ⟨S,_,_,_,_,_,rfl,u,hi,H,by omega⟩
   ·rw[z4 c,zv ()];refine AM (ex (ky hi) ?_);have u:=M.pX (ky hi) λk z hk=>zl (k0 c) (BJ F hk z);by_cases d:(i'+1+1==x.size)=true
    ·rw[zh d];exact wpS_pure ⟨S,.inl ⟨_,_,rfl,u.last d last⟩⟩
    ·rw[zv d];have L:i'+1+1<x.size:=by
      have:¬ i'+1+1=x.size:=by simpa using d
      omega
     split
     ·exact wpS_pure ⟨S,.inr ⟨_,_,_,_,_,rfl,u,L,f,by omega⟩⟩
     ·exact wpS_pure ⟨S,_,_,_,_,_,rfl,u,L,f,by omega⟩
  ·rintro c t ⟨S,out,i',e,p,q,rfl,M,hi,f,v⟩;exact⟨S,.inr ⟨_,_,_,_,_,rfl,M,hi,f,by omega⟩⟩
  rintro c t ⟨S,⟨r,c',rfl,R⟩|⟨out,i',e,p,q,rfl,M,hi,f,v⟩⟩
  ·exact wpS_pure ⟨S,r,_,rfl,R⟩
  dsimp only;refine AM (wpS_lift (QN ⟨rfl,?_⟩));refine AM (wpS_mono (wpS_forRange (I:=λn c t=>Sm st t/\∃out i' e g p q,c=(Y3,out,i',e,g,p,q)/\Mo rk (x.toList++y.toList) x y out i' e/\i'+1<x.size/\e<y.size/\i+j+1<=i'+e)
   (Q:=λc t=>Sm st t/\((∃r c',c=(Z r,c')/\Rt rk (x.toList++y.toList) r)\/∃out i' e g p q,c=(Y3,out,i',e,g,p,q)/\Mo rk (x.toList++y.toList) x y out i' e/\i'+1<x.size/\e<y.size/\i+j+1<=i'+e)) ?_ ?_ ⟨S,_,i',e,_,p,q,rfl,M,hi,f,v⟩) ?_)
  ·rintro n' c t _ a3 ⟨S,out,i',e,g,p,q,rfl,M,hi,f,v⟩;dsimp only;by_cases J:g>1
   all_goals first
    |rw[zh J]
    |rw[zv J]
   all_goals exact ng (o:=out) (i:=i') (j:=e) (p:=p) (q:=q) (n:=i+j) N (S.1.trans hk) U P G F M hi f last () (λt' B r c R=>⟨Sm.tr S B,.inl ⟨r,c,rfl,R⟩⟩) (λt' B o i j c M hi f l=>⟨⟨Sm.tr S B,.inr ⟨_,_,_,_,_,_,rfl,M,hi,f,l⟩⟩,Sm.tr S B,_,_,_,_,_,_,rfl,M,hi,f,l⟩)
  ·rintro c t z;exact⟨z.1,.inr z.2⟩
  rintro c t ⟨S,⟨r,c',rfl,R⟩|⟨out,i',e,g,p,q,rfl,M,hi,f,v⟩⟩
  ·exact wpS_pure ⟨S,r,_,rfl,R⟩
  dsimp only;refine AM (wpS_modify (wpS_pure ⟨S,_,_,_,_,rfl,M,hi,f,by omega⟩))
 ·rintro c t ⟨S,out,i,j,g,rfl,M,hi,f,m⟩;omega
 ·rintro c t ⟨S,r,c',rfl,R⟩;exact wpS_pure (a1 r t S R)
end
end
theorem Mg.alP{le:Keyed->Keyed->Prop}{out xs ys:O Keyed}(h:Mg le W out xs ys)(l:∀x∈xs,∀y∈ys,le x y):(out++xs++ys).Perm W/\(out++xs++ys).Pairwise le:=by
 have h2:Mg le W (out++xs) [] ys:=Mg.QG (zs:=xs) (xs:=[]) (by rw[qS];exact h) l;exact h2.ajl
theorem wg{x:Array Keyed}{z:Keyed}(h:z∈(x.toList.take i).reverse):∃j,j<i/\∃h:j<x.size,x[j]=z:=by
 obtain⟨n,a,e⟩:=Qr (k7.mp h);rw[JY]at e;rw[qk]at a;exact⟨n,by omega,by simp at a;omega,e⟩
theorem wj(x:Array Keyed)(i:Nat):(x.extract 0 i).toList=x.toList.take i:=by
 rw[kC,JS,Nat.sub_zero,List.drop_zero]
theorem QM(x:Array Keyed){a:Nat}(h:a<=i):(x.extract a i).toList=(x.toList.take i).drop a:=by
 rw[kC,JS,List.drop_take]
theorem Cb{x:Array Keyed}{a:Nat}{z:Keyed}(h:z∈(x.extract a i).toList):∃j,a<=j/\j<i/\∃h:j<x.size,x[j]=z:=by
 by_cases c:a<=i
 ·rw[QM x c]at h;obtain⟨n,b,e⟩:=Qr h;rw[ka,JY]at e;rw[qc,qk]at b;exact⟨a+n,by omega,by omega,by simp at b;omega,e⟩
 ·rw[kC,JS,show i-a=0 by omega]at h;cases h
section
variable{b:Array Keyed}
abbrev Ge(rk:A0->Nat):Keyed->Keyed->Prop:=λp q=>rk q.1<=rk p.1
variable{x y:Array Keyed}
abbrev Mp(rk:A0->Nat)(W:O Keyed)(x y out:Array Keyed)(i j:Nat):Prop:=Mg (Ge rk) W out.toList (x.toList.take i).reverse (y.toList.take j).reverse
theorem CC(a:0<i)(h:i-1<x.size):(x.toList.take i).reverse=x[i-1]::(x.toList.take (i-1)).reverse:=by
 have:=dV (l:=x.toList) (i:=i-1) (by simpa using h);rw[show i-1+1=i by omega]at this;rw[this,kg];rfl
theorem Mp.pX(h:Mp rk W x y out i j)(e:0<i)(hi:i-1<x.size)(l:∀k (q:k<y.size),k<j->rk y[k].1<=rk x[i-1].1):Mp rk W x y (out.push x[i-1]) (i-1) j:=by
 unfold Mp at *
 rw[CC e hi]at h;rw[Kn];exact h.acQ λz c=>by
  obtain⟨k,a,b,rfl⟩:=wg c;exact l k b a
theorem Mp.pY(h:Mp rk W x y out i j)(c:0<j)(e:j-1<y.size)(l:∀k (q:k<x.size),k<i->rk x[k].1<=rk y[j-1].1):Mp rk W x y (out.push y[j-1]) i (j-1):=by
 unfold Mp at *
 rw[CC c e]at h;rw[Kn];exact h.acR λz b=>by
  obtain⟨k,a,f,rfl⟩:=wg b;exact l k f a
theorem Ut(x:Array Keyed){a:Nat}(h:a<=i):(x.toList.take i).reverse=(x.extract a i).toList.reverse++(x.toList.take a).reverse:=by
 rw[QM x h,<-kg]
 conv=>lhs;rw[<-ZU a (x.toList.take i)]
 rw[List.take_take,mq h]
theorem Mp.pXs{a:Nat}(h:Mp rk W x y out i j)(m:a<=i)(l:∀c (p:c<x.size),a<=c->c<i->∀k (q:k<y.size),k<j->rk y[k].1<=rk x[c].1):Mp rk W x y (out++(x.extract a i).reverse) a j:=by
 unfold Mp at *
 rw[Ut x m]at h;rw[ZA,kB];exact h.QG λz f c g=>by
  obtain⟨d,a1,a2,b,rfl⟩:=Cb (k7.mp f);obtain⟨k,e,n,rfl⟩:=wg g;exact l d b a1 a2 k n e
theorem Mp.pYs{a:Nat}(h:Mp rk W x y out i j)(m:a<=j)(l:∀c (p:c<y.size),a<=c->c<j->∀k (q:k<x.size),k<i->rk x[k].1<=rk y[c].1):Mp rk W x y (out++(y.extract a j).reverse) i a:=by
 unfold Mp at *
 rw[Ut y m]at h;rw[ZA,kB];exact h.QH λz f c g=>by
  obtain⟨d,a1,a2,b,rfl⟩:=Cb (k7.mp f);obtain⟨k,e,n,rfl⟩:=wg g;exact l d b a1 a2 k n e
theorem QS{l r:O Keyed}(e:r=l.reverse)(h:l.Perm W/\l.Pairwise (Ge rk)):r.Perm W/\r.Pairwise (Le rk):=by
 subst e;exact⟨(jr _).trans h.1,ej.mpr h.2⟩
theorem Mp.Ea(h:Mp rk W x y out i j)(e:(i==0)=true):Rt rk W (x.extract 0 i++y.extract 0 j++out.reverse):=by
 have e:i=0:=by simpa using e
 subst e;refine QS ?_ (Mg.ajl h);rw[ZA,ZA,kB,wj,wj,kg,KL];rfl
theorem Mp.acS(h:Mp rk W x y out i j)(e:(j==0)=true):Rt rk W (x.extract 0 i++y.extract 0 j++out.reverse):=by
 have e:j=0:=by simpa using e
 subst e;refine QS ?_ (Mg.ajk h);rw[ZA,ZA,kB,wj,wj,kg,KL,hC,qS]
theorem Mp.first(h:Mp rk W x y out i j)(e:(j==1)=true)(l:∀k (q:k<x.size) (z:0<y.size),rk y[0].1<=rk x[k].1):Rt rk W (y.extract 0 j++x.extract 0 i++out.reverse):=by
 have e:j=1:=by simpa using e
 subst e;refine QS ?_ (Mg.alP h λc g z f=>?_)
 ·rw[ZA,ZA,kB,wj,wj,kg,kg,KL,KL,Zp]
 ·obtain⟨k,m,b,rfl⟩:=wg g;obtain⟨a,a1,a2,rfl⟩:=wg f;have:a=0:=by omega
  subst this;exact l k b a2
abbrev Fc:=Y (Array Keyed)×Nat×Nat×Array Keyed×Nat×Nat×Nat
def QT(x y o:Array Keyed)(i j g k u:Nat):StateT SortSt Sem (ForInStep Fc):=elem' x (i-1) >>= λd=>if(i-1==0)=true then pure (.done (Z (x.extract 0 (i-1)++y.extract 0 j++(o.push d).reverse),i-1,j,o.push d,g,k,u))else if(decide (k<7)&&decide (u<7))=true then pure (.done (Y3,i-1,j,o.push d,g,k,u))else pure (.yield (Y3,i-1,j,o.push d,g,k,u))
def QW(x y o:Array Keyed)(i j g k q:Nat):StateT SortSt Sem (ForInStep Fc):=elem' y (j-1) >>= λd=>if(j-1==1)=true then pure (.done (Z (y.extract 0 (j-1)++x.extract 0 i++(o.push d).reverse),i,j-1,o.push d,g,k,q))else elem' x (i-1) >>= λe=>EK true e y 0 (j-1) (j-1-1) >>= λz=>match z with
 |some a=>if j-1-a>0 then if(a==1)=true then pure (.done (Z (y.extract 0 a++x.extract 0 i++(o.push d++(y.extract a (j-1)).reverse).reverse),i,a,o.push d++(y.extract a (j-1)).reverse,g,k,j-1-a))else if(a==0)=true then pure (.done (Z (x.extract 0 i++y.extract 0 a++(o.push d++(y.extract a (j-1)).reverse).reverse),i,a,o.push d++(y.extract a (j-1)).reverse,g,k,j-1-a))else QT x y (o.push d++(y.extract a (j-1)).reverse) i a g k (j-1-a)else QT x y (o.push d) i (j-1) g k (j-1-a)
 |_=>pure (.done (Z (x.extract 0 i++y.extract 0 (j-1)++(o.push d).reverse),i,j-1,o.push d,g,k,q))
def PU(x y o:Array Keyed)(i j g p q:Nat):StateT SortSt Sem (ForInStep Fc):=B8 g >>= λ_=>elem' y (j-1) >>= λe=>EK false e x 0 i (i-1) >>= λz=>match z with
 |some a=>if i-a>0 then if(a==0)=true then pure (.done (Z (x.extract 0 a++y.extract 0 j++(o++(x.extract a i).reverse).reverse),a,j,o++(x.extract a i).reverse,g,i-a,q))else QW x y (o++(x.extract a i).reverse) a j g (i-a) q else QW x y o i j g (i-a) q
 |_=>pure (.done (Z (x.extract 0 i++y.extract 0 j++o.reverse),i,j,o,g,p,q))
section
variable{P:ForInStep Fc->SortSt->Prop}
theorem Uu{a b:Nat}(h:¬ (a==b)=true)(l:b<=a):b<a:=n8 l λe=>h (beq_iff_eq.mpr e.symm)
abbrev LZ(rk:A0->Nat)(W:O Keyed)(P:ForInStep Fc->SortSt->Prop)(t:SortSt):Prop:=∀r c,Rt rk W r->P (.done (Z r,c)) t
abbrev LV(rk:A0->Nat)(W:O Keyed)(x y:Array Keyed)(n:Nat)(P:ForInStep Fc->SortSt->Prop)(t:SortSt):Prop:=∀o i j c,Mp rk W x y o i j->0<i->i<=x.size->1<j->j<=y.size->i+j<n->P (.done (Y3,i,j,o,c)) t/\P (.yield (Y3,i,j,o,c)) t
theorem Ox{o:Array Keyed}{g u:Nat}(M:Mp rk W x y o i j)(hi:0<i)(v:i<=x.size)(m:1<j)(e:j<=y.size)(l:∀a (q:a<y.size),a<j->rk y[a].1<=rk x[i-1]!.1)(p:i+j<=n)(hd:LZ rk W P t)(f:LV rk W x y n P t):wpS (A9 prog w) A E s (QT x y o i j g k u) P t:=by
 unfold QT;have b:i-1<x.size:=by omega
 refine AM (qt (getElem?_pos x _ b) ?_);have c:=M.pX hi b λa z h=>by have:=l a z h;rwa [getElem!_pos x _ b]at this
 by_cases d:(i-1==0)=true
 ·rw[zh d];exact wpS_pure (hd _ _ (c.Ea d))
 rw[zv d];have z:=f _ _ _ (g,k,u) c (Uu d (ZT _)) (qh b) m e ();split
 ·exact wpS_pure z.1
 ·exact wpS_pure z.2
theorem Oz{o:Array Keyed}{g q:Nat}(L:JZ prog w A s kd rk b)(hk:kindOf t=kd)(Q:∀p∈x.toList,p∈b.toList)(N:∀p∈y.toList,p∈b.toList)(S:x.toList.Pairwise (Le rk))(K:y.toList.Pairwise (Le rk))(M:Mp rk W x y o i j)(hi:0<i)(D:i<=x.size)(J:1<j)(gj:j<=y.size)(h:j-1<y.size)(l:∀a (q:a<x.size),a<i->rk x[a].1<=rk y[j-1].1)(first:∀k (q:k<x.size) (z:0<y.size),rk y[0].1<=rk x[k].1)(X:i+j<=n)(hd:LZ rk W P t)(B:LV rk W x y n P t):wpS (A9 prog w) A E s (QW x y o i j g k q) P t:=by
 unfold QW;refine AM (qt (getElem?_pos y _ h) ?_);have M2:=M.pY (ky J) h λa z I=>l a z I;by_cases d:(j-1==1)=true
 ·rw[zh d];exact wpS_pure (hd _ _ (M2.first d first))
 rw[zv d];have U:1<j-1:=Uu d ();have f:i-1<x.size:=by omega
 refine AM (qt (getElem?_pos x _ f) (AM (Jk (rk:=rk) L hk (Q _ (by simp)) N K () () λu G m C=>?_)));simp only[QP,Kb]at m C;dsimp only;have H:i+(j-1)<=n:=by omega
 by_cases F:j-1-u>0
 ·rw[zh F];have v:=M2.pYs (a:=u) G λc p q1 q2 e z he=>zl (BJ S (show e<=i-1 by omega) f) (C c p q1 q2);by_cases d:(u==1)=true
  ·rw[zh d];exact wpS_pure (hd _ _ (v.first d first))
  rw[zv d];by_cases e:(u==0)=true
  ·rw[zh e];exact wpS_pure (hd _ _ (v.acS e))
  rw[zv e];exact Ox v hi D (Uu d (Uu e (ZT _))) () (λa q q1=>by rw[getElem!_pos x _ f];exact qh (m a q (ZT _) q1)) (zl (Nat.add_le_add_left G i) H) hd B
 ·rw[zv F];exact Ox M2 hi D U (qh h) (λa q q1=>by rw[getElem!_pos x _ f];exact qh (m a q (ZT _) ())) H hd B
theorem rS{o:Array Keyed}{g p q:Nat}(l:JZ prog w A s kd rk b)(hk:kindOf t=kd)(D:∀p∈x.toList,p∈b.toList)(m:∀p∈y.toList,p∈b.toList)(F:x.toList.Pairwise (Le rk))(u:y.toList.Pairwise (Le rk))(M:Mp rk W x y o i j)(hi:0<i)(L:i<=x.size)(I:1<j)(H:j<=y.size)(first:∀k (q:k<x.size) (z:0<y.size),rk y[0].1<=rk x[k].1)(K:i+j<=n)(hd:∀t',Sm t t'->LZ rk W P t')(h:∀t',Sm t t'->LV rk W x y n P t'):wpS (A9 prog w) A E s (PU x y o i j g p q) P t:=by
 unfold PU;refine AM (QJ λt' B=>?_);have hd:=hd t' B;have h:=h t' B;have hk:=B.1.trans hk;have f:j-1<y.size:=by omega
 refine AM (qt (getElem?_pos y _ f) (AM (Jk (rk:=rk) l hk (m _ (by simp)) D F () () λk v C J=>?_)));simp only[z5,Qb,Kb]at C J;dsimp only;by_cases G:i-k>0
 ·rw[zh G];have M1:=M.pXs (a:=k) v λc p q1 q2 e z N=>zl (BJ u (show e<=j-1 by omega) f) (qh (J c p q1 q2));by_cases d:(k==0)=true
  ·rw[zh d];exact wpS_pure (hd _ _ (M1.Ea d))
  rw[zv d];exact Oz l hk D m F u M1 (Uu d (ZT _)) (zl v L) I H f (λa q q1=>C a q (ZT _) q1) first (zl (Nat.add_le_add_right v j) K) hd h
 ·rw[zv G];exact Oz l hk D m F u M hi L I H f (λa q q1=>C a q (ZT _) ()) first K hd h
end
theorem U'{st:SortSt}{Q:Array Keyed->SortSt->Prop}(X:JZ prog w A s kd rk b)(hk:kindOf st=kd)(mx:∀p∈x.toList,p∈b.toList)(my:∀p∈y.toList,p∈b.toList)(L:x.toList.Pairwise (Le rk))(J:y.toList.Pairwise (Le rk))(hx:0<x.size)(hy:0<y.size)
  (first:∀k (q:k<x.size) (z:0<y.size),rk y[0].1<=rk x[k].1) (last:∀k (q:k<y.size) (z:x.size-1<x.size),rk y[k].1<=rk x[x.size-1].1)
  (h:∀r t,Sm st t->Rt rk (x.toList++y.toList) r->Q r t):wpS (A9 prog w) A E s (PC x y) Q st:=by
 have ex:∀{i:Nat} {t:SortSt} {Q:Keyed->SortSt->Prop} (hi:i<x.size),Q x[i] t->wpS (A9 prog w) A E s (elem' x i) Q t:=λhi H=>qt (getElem?_pos x _ hi) H;have U:∀{i:Nat} {t:SortSt} {Q:Keyed->SortSt->Prop} (hi:i<y.size),Q y[i] t->wpS (A9 prog w) A E s (elem' y i) Q t:=λhi H=>qt (getElem?_pos y _ hi) H;have a1:∀{i:Nat} (hi:i<x.size),x[i]∈b.toList:=λhi=>mx _ (by simp);have a2:∀{i:Nat} (hi:i<y.size),y[i]∈b.toList:=λhi=>my _ (by simp);unfold PC;refine AM (wpS_lift (QN ⟨rfl,?_⟩));dsimp only;have K:x.size-1<x.size:=by omega
 refine AM (ex K ?_);have M0:Mp rk (x.toList++y.toList) x y #[] x.size y.size:=⟨by
  rw[qi (by simp),qi (by simp)];exact(jr _).append (jr _),by simp,λa ha=>(by cases ha),by rw[qi (by simp)];exact ej.mpr L,by rw[qi (by simp)];exact ej.mpr J⟩
 have M1:=M0.pX hx K λk q _=>last k q K;rw[show(#[]:Array Keyed).push x[x.size-1]=#[x[x.size-1]] from rfl]at M1;by_cases c1:(x.size-1==0)=true
 ·rw[zh c1];exact wpS_pure (h _ _ ⟨rfl,rfl,rfl,rfl⟩ (M1.Ea c1))
 rw[zv c1];by_cases c2:(y.size==1)=true
 ·rw[zh c2];exact wpS_pure (h _ _ ⟨rfl,rfl,rfl,rfl⟩ (M1.first c2 first))
 rw[zv c2];have n1:0<x.size-1:=by
  have:¬ x.size-1=0:=by simpa using c1
  omega
 have n2:1<y.size:=by
  have:¬ y.size=1:=by simpa using c2
  omega
 refine AM (wpS_get ?_);refine AM (wpS_mono (wpS_forRange (I:=λn c t=>Sm st t/\∃out i j g,c=(Y3,i,j,out,g)/\Mp rk (x.toList++y.toList) x y out i j/\0<i/\i<=x.size/\1<j/\j<=y.size/\i+j+n+1<=x.size+y.size) (Q:=λc t=>Sm st t/\∃r c',c=(Z r,c')/\Rt rk (x.toList++y.toList) r) ?_ ?_ ?_) ?_)
 ·rintro n c t _ hn ⟨S,out,i,j,g,rfl,M,hi,u,f,v,m⟩;dsimp only;refine AM (wpS_mono (wpS_forRange (I:=λn c t=>Sm st t/\∃out i' e p q,c=(Y3,i',e,out,p,q)/\Mp rk (x.toList++y.toList) x y out i' e/\0<i'/\i'<=x.size/\1<e/\e<=y.size/\i'+e+n<=i+j)
   (Q:=λc t=>Sm st t/\((∃r c',c=(Z r,c')/\Rt rk (x.toList++y.toList) r)\/∃out i' e p q,c=(Y3,i',e,out,p,q)/\Mp rk (x.toList++y.toList) x y out i' e/\0<i'/\i'<=x.size/\1<e/\e<=y.size/\i'+e+1<=i+j)) ?_ ?_ ⟨S,_,i,j,0,0,rfl,M,hi,u,f,v,by omega⟩) ?_)
  ·rintro n' c t _ a3 ⟨S,out,i',e,p,q,rfl,M,hi,u,f,v,D⟩;dsimp only;have F:i'-1<x.size:=by omega
   have G:e-1<y.size:=by omega
   refine AM (U G (AM (ex F (AM (Uq X (S.1.trans hk) (a2 G) (a1 F) ?_)))));dsimp only;by_cases c:rk y[e-1].1<rk x[i'-1].1
   ·rw[zz c,zh rfl];refine AM (ex F ?_);have B:=M.pX hi F λk z hk=>zl (BJ J (show k<=e-1 by omega) G) (qh c);by_cases d:(i'-1==0)=true
    ·rw[zh d];exact wpS_pure ⟨S,.inl ⟨_,_,rfl,B.Ea d⟩⟩
    ·rw[zv d];have W:0<i'-1:=by
      have:¬ i'-1=0:=by simpa using d
      omega
     split
     ·exact wpS_pure ⟨S,.inr ⟨_,_,_,_,_,rfl,B,W,by omega,f,v,by omega⟩⟩
     ·exact wpS_pure ⟨S,_,_,_,_,_,rfl,B,W,by omega,f,v,by omega⟩
   ·rw[z4 c,zv ()];refine AM (U G ?_);have B:=M.pY () G λk z hk=>zl (BJ L (show k<=i'-1 by omega) F) (k0 c);by_cases d:(e-1==1)=true
    ·rw[zh d];exact wpS_pure ⟨S,.inl ⟨_,_,rfl,B.first d first⟩⟩
    ·rw[zv d];have N:1<e-1:=by
      have:¬ e-1=1:=by simpa using d
      omega
     split
     ·exact wpS_pure ⟨S,.inr ⟨_,_,_,_,_,rfl,B,hi,u,N,by omega,by omega⟩⟩
     ·exact wpS_pure ⟨S,_,_,_,_,_,rfl,B,hi,u,N,by omega,by omega⟩
  ·rintro c t ⟨S,out,i',e,p,q,rfl,M,hi,u,f,v,D⟩;exact⟨S,.inr ⟨_,_,_,_,_,rfl,M,hi,u,f,v,by omega⟩⟩
  rintro c t ⟨S,⟨r,c',rfl,R⟩|⟨out,i',e,p,q,rfl,M,hi,u,f,v,D⟩⟩
  ·exact wpS_pure ⟨S,r,_,rfl,R⟩
  dsimp only;refine AM (wpS_lift (QN ⟨rfl,?_⟩));refine AM (wpS_mono (wpS_forRange (I:=λn c t=>Sm st t/\∃out i' e g p q,c=(Y3,i',e,out,g,p,q)/\Mp rk (x.toList++y.toList) x y out i' e/\0<i'/\i'<=x.size/\1<e/\e<=y.size/\i'+e+1<=i+j)
   (Q:=λc t=>Sm st t/\((∃r c',c=(Z r,c')/\Rt rk (x.toList++y.toList) r)\/∃out i' e g p q,c=(Y3,i',e,out,g,p,q)/\Mp rk (x.toList++y.toList) x y out i' e/\0<i'/\i'<=x.size/\1<e/\e<=y.size/\i'+e+1<=i+j)) ?_ ?_ ⟨S,_,i',e,_,p,q,rfl,M,hi,u,f,v,D⟩) ?_)
  ·rintro n' c t _ a3 ⟨S,out,i',e,g,p,q,rfl,M,hi,u,f,v,D⟩;dsimp only;by_cases P:g>1
   all_goals first
    |rw[zh P]
    |rw[zv P]
   all_goals exact rS (o:=out) (i:=i') (j:=e) (p:=p) (q:=q) (n:=i+j) X (S.1.trans hk) mx my L J M hi u f v first (qs D) (λt' C r c R=>⟨Sm.tr S C,.inl ⟨r,c,rfl,R⟩⟩) (λt' C o a4 a5 c M hi u f v l=>⟨⟨Sm.tr S C,.inr ⟨_,_,_,_,_,_,rfl,M,hi,u,f,v,l⟩⟩,Sm.tr S C,_,_,_,_,_,_,rfl,M,hi,u,f,v,l⟩)
  ·rintro c t z;exact⟨z.1,.inr z.2⟩
  rintro c t ⟨S,⟨r,c',rfl,R⟩|⟨out,i',e,g,p,q,rfl,M,hi,u,f,v,D⟩⟩
  ·exact wpS_pure ⟨S,r,_,rfl,R⟩
  dsimp only;refine AM (QJ λt' C=>wpS_pure ⟨Sm.tr S C,_,_,_,_,rfl,M,hi,u,f,v,by omega⟩)
 ·rintro c t ⟨S,out,i,j,g,rfl,M,hi,u,f,v,m⟩;omega
 ·exact⟨⟨rfl,rfl,rfl,rfl⟩,_,x.size-1,y.size,_,rfl,M1,n1,by omega,n2,zo _,by omega⟩
 ·rintro c t ⟨S,r,c',rfl,R⟩;exact wpS_pure (h r t S R)
end
def ME:Nat->StateT SortSt Sem Bool:=sortPriv% PySem.Builtin.mergeAt
theorem Uv{f:Array Keyed->Keyed×Nat->Array Keyed}{g:Nat}(i:∀a p j,f a (p,j)=a.setIfInBounds (g+j) p):∀(M:O Keyed) (a:Array Keyed) (b:Nat) (U c V:O Keyed),a.toList=U++c++V->U.length=g+b->c.length=M.length->((M.zipIdx b).foldl f a).toList=U++M++V
 |[],a,b,U,c,V,e,_,h=>by
  have:c=[]:=js h;subst this;exact e
 |p::M,a,b,U,[],V,_,_,h=>by cases h
 |p::M,a,b,U,z::c,V,e,hu,h=>by
  rw[r7,kR,i];have:=Uv i M (a.setIfInBounds (g+b) p) (b+1) (U++[p]) c V (by
   rw[Array.toList_setIfInBounds,e,<-hu,Zp,List.set_append_right _ _ (zo _),Nat.sub_self];simp) (by rw[zt,hu];rfl) (by simpa using h)
  rw[this];simp
section
variable{b:Array Keyed}
theorem QX{g:O Keyed}{V:O Keyed}{a:Array Keyed}(e:a.toList=U++g++V)(hi:i<g.length):a[U.length+i]?=Z g[i]:=by
 rw[<-Kx,e,Zp,QO (),lF,qa hi,ZY hi]
theorem QZ{g:O Keyed}{V:O Keyed}{a:Array Keyed}(e:a.toList=U++g++V)(hi:i<g.length):at_ rk a (U.length+i)=rk g[i].1:=by unfold at_;rw[QX e hi]
theorem K'{g:O Keyed}(h:g.Pairwise (Le rk))(b:i<=j)(a:j<g.length):rk g[i].1<=rk g[j].1:=by
 by_cases e:i=j
 ·subst e;exact zo _
 ·exact dg.mp h i j () a ()
theorem Zd{left:Bool}{c:Keyed}{a:Array Keyed}{g V:O Keyed}{base f:Nat}{Q:Y Nat->SortSt->Prop}(m:JZ prog w A s kd rk b)(hk:kindOf t=kd)(mk:c∈b.toList)(o:∀p∈g,p∈b.toList)(e:a.toList=U++g++V)(C:base=U.length)(u:n=g.length)(v:g.Pairwise (Le rk))(z:f<n)(h:∀k,k<=g.length->(∀p∈g.take k,if left=true then rk p.1<rk c.1 else rk p.1<=rk c.1)->(∀p∈g.drop k,if left=true then rk c.1<=rk p.1 else rk c.1<rk p.1)->Q (Z k) t):wpS (A9 prog w) A E s (EK left c a base n f) Q t:=by
 subst C u;refine RY (rk:=rk) m hk mk (λi hi=>⟨g[i],QX e hi,o _ (by simp)⟩) z (λi j B l=>?_) λk q x y=>h k q (λp hp=>?_) λp hp=>?_
 ·rw[QZ e (show i<g.length by omega),QZ e l];exact K' v B l
 ·obtain⟨i,hi,rfl⟩:=Qr hp;rw[qk]at hi;rw[JY];have:=x i ();rw[QZ e (show i<g.length by omega)]at this;exact this
 ·obtain⟨i,hi,rfl⟩:=Qr hp;rw[qc]at hi;rw[ka];have:=y (k+i) () ();rw[QZ e (show k+i<g.length by omega)]at this;exact this
theorem dE{σ:Type}{t t':σ}{Q:PUnit->σ->Prop}(h:Q ⟨⟩ t'):wpS M A E s (set t':StateT σ Sem PUnit) Q t:=by
 unfold wpS;rw[StateT.run_set];exact ze ⟨rfl,h⟩
theorem wd{st:SortSt}{o B p l L q:Nat}{Q:Bool->SortSt->Prop}{g g' V:O Keyed}(M:JZ prog w A s kd rk b)(hk:kindOf st=kd)(K:failedOf st=Y3)(X:∀z∈(AN st).toList,z∈b.toList)(e:(AN st).toList=U++(g++g')++V)(p1:(pendingOf st)[i]?=Z (o,B,p))(p2:(pendingOf st)[i+1]?=Z (l,L,q))(ea:o=U.length)(en:B=g.length)(eb:l=o+B)(em:L=g'.length)(hg:g≠[])(a3:g'≠[])(G:g.Pairwise (Le rk))(F:g'.Pairwise (Le rk))(h:∀t m,kindOf t=kd->failedOf t=Y3->pendingOf t=((pendingOf st).setIfInBounds i (o,B+L,p)).eraseIdxIfInBounds (i+1)->m.Perm (g++g')->m.Pairwise (Le rk)->(AN t).toList=U++m++V->Q true t):wpS (A9 prog w) A E s (ME i) Q st:=by
 have hx:0<g.length:=dz.mpr hg;have v:0<g'.length:=dz.mpr a3;have e1:(AN st).toList=U++g++(g'++V):=by rw[e];simp
 have e2:(AN st).toList=(U++g)++g'++V:=by rw[e];simp
 have W:l=(U++g).length:=by rw[zt,eb,ea,en]
 have mg:∀z∈g,z∈b.toList:=λz C=>X z (by rw[e];simp[C]);have P:∀z∈g',z∈b.toList:=λz C=>X z (by rw[e];simp[C]);have g0:∀z∈g',rk g'[0].1<=rk z.1:=λz C=>by
  obtain⟨j,hj,rfl⟩:=Qr C;exact K' F (ZT _) hj
 have gl:∀z∈g,rk z.1<=rk (g[g.length-1]'()).1:=λz C=>by
  obtain⟨j,hj,rfl⟩:=Qr C;exact K' G () ()
 unfold ME;refine AM (wpS_get ?_);rw[p1,p2];dsimp only;refine AM (dE ?_);refine AM (qt (p:=g'[0]) (by rw[W];exact QX e2 v) ?_);refine AM (Zd (rk:=rk) M hk (P _ (by simp)) mg e1 ea en G () λk k1 J k3=>?_);simp only[z5,Qb]at J k3;dsimp only;by_cases c:(B-k==0)=true
 ·rw[zh c];have c:B-k=0:=by simpa using c
  rw[qi ()]at J;exact wpS_pure (h _ (g++g') hk K Y2 (List.Perm.refl _) (cf.mpr ⟨G,F,λx hx y v=>zl (J x hx) (g0 y v)⟩) e)
 rw[zv c];have c:¬ B-k=0:=by simpa using c
 have ix:o+k+(B-k)-1=U.length+(g.length-1):=by omega
 rw[ix];refine AM (qt (QX e1 (show g.length-1<g.length by omega)) ?_);refine AM (Zd (rk:=rk) M hk (mg _ (by simp)) P e2 W em F () λn n1 n2 N=>?_);simp only[QP]at n2 N;dsimp only;by_cases d:(n==0)=true
 ·rw[zh d];have d:n=0:=by simpa using d
  subst d;exact wpS_pure (h _ (g++g') hk K Y2 (List.Perm.refl _) (cf.mpr ⟨G,F,λx hx y v=>zl (gl x hx) (N y v)⟩) e)
 rw[zv d];have d:¬ n=0:=by simpa using d
 have ex:((AN st).extract (o+k) l).toList=g.drop k:=by
  rw[QM _ (),e2,Zp,fP (),qi (),ea,<-Ki,hE]
 have D:((AN st).extract l (l+n)).toList=g'.take n:=by
  rw[J5,e2,W,Zp,hE,fP n1]
 have zx:((AN st).extract (o+k) l).size=g.length-k:=by rw[<-Z3,ex,qc]
 have zy:((AN st).extract l (l+n)).size=n:=by rw[<-Z3,D,qk];omega
 have gx:∀{j:Nat} (q:j<((AN st).extract (o+k) l).size),((AN st).extract (o+k) l)[j]=g[k+j]'():=λ{j} q=>by
  rw[<-kD];simp only[ex,ka]
 have gy:∀{j:Nat} (q:j<((AN st).extract l (l+n)).size),((AN st).extract l (l+n))[j]=g'[j]'():=λ{j} q=>by
  rw[<-kD];simp only[D,JY]
 have first:∀j (q:j<((AN st).extract (o+k) l).size) (z:0<((AN st).extract l (l+n)).size),rk ((AN st).extract l (l+n))[0].1<=rk ((AN st).extract (o+k) l)[j].1:=λj q z=>by
  have m:((AN st).extract (o+k) l)[j]∈g.drop k:=by rw[<-ex];exact nt.mpr (rm _)
  rw[gy];exact qh (k3 _ m)
 have last:∀j (q:j<((AN st).extract l (l+n)).size) (z:((AN st).extract (o+k) l).size-1<((AN st).extract (o+k) l).size),rk ((AN st).extract l (l+n))[j].1<=rk (((AN st).extract (o+k) l)[((AN st).extract (o+k) l).size-1]).1:=λj q z=>by
  have m:((AN st).extract l (l+n))[j]∈g'.take n:=by rw[<-D];exact nt.mpr (rm _)
  rw[gx];have:k+(((AN st).extract (o+k) l).size-1)=g.length-1:=by omega
  simp only[this];exact qh (n2 _ m)
 have mx:∀p∈((AN st).extract (o+k) l).toList,p∈b.toList:=λp hp=>mg p (by rw[ex]at hp;exact kc hp);have my:∀p∈((AN st).extract l (l+n)).toList,p∈b.toList:=λp hp=>P p (by rw[D]at hp;exact KM hp);have sx:((AN st).extract (o+k) l).toList.Pairwise (Le rk):=by rw[ex];exact G.sublist (List.drop_sublist _ _)
 have sy:((AN st).extract l (l+n)).toList.Pairwise (Le rk):=by rw[D];exact F.sublist (yz _ _)
 have a1:∀(t:SortSt) (r:Array Keyed) (u:SortSt),Sm t u->kindOf t=kd->failedOf t=Y3->AN t=AN st->pendingOf t=((pendingOf st).setIfInBounds i (o,B+L,p)).eraseIdxIfInBounds (i+1)->Rt rk (((AN st).extract (o+k) l).toList++((AN st).extract l (l+n)).toList) r →
   ∀(f:Array Keyed->Keyed×Nat->Array Keyed),(∀a p j,f a (p,j)=a.setIfInBounds (o+k+j) p)->Q (failedOf u).isNone (SortSt.mk' (kindOf u) (r.toList.zipIdx.foldl f (AN u)) (pendingOf u) (gallopOf u) (failedOf u)):=λt r u S tk tf ta tp R f a4=>by
  rw[S.2.1,tf];rw[ex,D]at R;have hr:r.toList.length=(g.drop k++g'.take n).length:=R.1.length_eq;have fs:=Uv a4 r.toList (AN u) 0 (U++g.take k) (g.drop k++g'.take n) (g'.drop n++V) (by
   rw[S.2.2.1,ta,e]
   conv=>lhs;rw[<-ZU k g,<-ZU n g']
   simp only[Zp]) (by rw[zt,qk];omega) hr.symm
  refine h _ (g.take k++r.toList++g'.drop n) (S.1.trans tk) Y2 (S.2.2.2.trans tp) ?_ ?_ ?_
  ·refine(((R.1.append_left _).append_right _).trans (List.Perm.of_eq ?_))
   conv=>rhs;rw[<-ZU k g,<-ZU n g']
   simp only[Zp]
  ·have I:=G;have H:=F;rw[<-ZU k g]at I;rw[<-ZU n g']at H;have I:=cf.mp I;have H:=cf.mp H;have a2:∀x∈g.take k,∀y∈g',Le rk x y:=λx hx y v=>zl (J x hx) (g0 y v);have a5:∀x∈g,∀y∈g'.drop n,Le rk x y:=λx hx y v=>zl (gl x hx) (N y v);refine cf.mpr ⟨cf.mpr ⟨I.1,R.2,λx hx y v=>?_⟩,H.2.1,λx hx y v=>?_⟩
   ·rcases bc.mp (R.1.mem_iff.mp v)with q|q
    ·exact I.2.2 x hx y q
    ·exact a2 x hx y (KM q)
   ·rcases bc.mp hx with q|q
    ·exact a2 x q y (kc v)
    ·rcases bc.mp (R.1.mem_iff.mp q)with q|q
     ·exact a5 x (kc q) y v
     ·exact H.2.2 x q y v
  ·show(r.toList.zipIdx.foldl f (AN u)).toList=_;rw[fs];simp
 have px:0<((AN st).extract (o+k) l).size:=by omega
 have py:0<((AN st).extract l (l+n)).size:=by omega
 split
 ·exact AM (t7 (rk:=rk) M hk mx my sx sy px py (λj q=>first j q py) last λr u S R=>AM (wpS_modify (AM (wpS_get (wpS_pure (a1 _ r u S hk K Y2 Y2 R _ λ_ _ _=>Y2))))))
 ·exact AM (U' (rk:=rk) M hk mx my sx sy px py first last λr u S R=>AM (wpS_modify (AM (wpS_get (wpS_pure (a1 _ r u S hk K Y2 Y2 R _ λ_ _ _=>Y2))))))
end
section
variable(rk:A0->Nat)(lo:Nat)
abbrev al(xs:Array Keyed)(i:Nat):Nat:=at_ rk xs (lo+i)
def DO(xs:Array Keyed)(k:Nat):Prop:=∀i j,i<=j->j<k->al rk lo xs i<=al rk lo xs j
def Ee(xs:Array Keyed)(k:Nat):Prop:=∀i j,i<=j->j<k->al rk lo xs j<=al rk lo xs i
structure Bo (b:Array Keyed) (u st:SortSt):Prop where
 pm:(arrOf st).Perm b
 kd:kindOf st=kindOf u
 fl:failedOf st=failedOf u
 pd:pendingOf st=pendingOf u
 ot:∀k,k<lo->(arrOf st)[k]?=(arrOf u)[k]?
end
section
variable{b:Array Keyed}{lo:Nat}{u:SortSt}
theorem Bo.sz(h:Bo lo b u t):(AN t).size=b.size:=h.pm.size_eq
theorem Bo.mir(h:Bo lo b u t)(hi:lo<=i)(a:j<=b.size):Bo lo b u (PyProof.Rows.setArr t (mirror (AN t) i j ((j-i) / 2))):=⟨(mirror_perm _ _ _ _).trans h.pm,h.kd,h.fl,h.pd,λk hk=>by
 show(mirror (AN t) i j ((j-i) / 2))[k]?=_;rw[getElem?_mirror_all (by rw[h.sz];exact a),zv ()];exact h.ot k hk⟩
theorem Ze{Q:Y Bool->SortSt->Prop}(e:JZ prog w A s (kindOf u) rk b)(B:Bo lo b u t)(hi:i<b.size)(c:j<b.size)(h:Q (Z (decide (at_ rk (AN t) i<at_ rk (AN t) j))) t):wpS (A9 prog w) A E s (ltAt' i j) Q t:=by
 have get:∀k,k<b.size->∃p,(AN t)[k]?=Z p/\p∈b.toList:=λk hk=>by
  have a:k<(AN t).size:=by rw[B.sz];exact hk
  exact⟨(AN t)[k],getElem?_pos _ k a,(cW.mp B.pm).mem_iff.mp (by simp)⟩
 obtain⟨p,e1,f⟩:=get i hi;obtain⟨q,e2,m2⟩:=get j c;have h:Q (Z (decide (rk p.1<rk q.1))) t:=by unfold at_ at h;rw[e1,e2]at h;exact h
 rw[ltAt'_eq];exact AM (wpS_get (AM (qt e1 (AM (qt e2 (Uq e B.kd f m2 h))))))
theorem OA{f:Nat->Y β×Nat->StateT SortSt Sem (ForInStep (Y β×Nat))}{a:Nat}{Q:Y β×Nat->SortSt->Prop}(v:∀x m,∀k:ForInStep (Y β×Nat)->SortSt->Prop,1<=m->m<n->(al rk lo (AN t) m<al rk lo (AN t) (m-1)->k (.done (Y3,m)) t)->(¬ al rk lo (AN t) m<al rk lo (AN t) (m-1)->k (.yield (Y3,m+1)) t)->wpS (A9 prog w) A E s (f x (Y3,m)) k t)(y:1<=a)(o:a<=n)(b:DO rk lo (AN t) a)(h:∀m,a<=m->m<=n->DO rk lo (AN t) m->(m=n\/al rk lo (AN t) m<al rk lo (AN t) (m-1))->Q (Y3,m) t):wpS (A9 prog w) A E s (forIn [a:n] (Y3,a) f) Q t:=by
 refine wpS_forRange (I:=λx c g=>g=t/\c=(Y3,x)/\DO rk lo (AN t) x) ?_ ?_ ⟨rfl,rfl,b⟩
 ·rintro x c g l p ⟨rfl,rfl,b⟩;refine v x x _ () p (λq=>h x l () b (.inr q)) λq=>⟨rfl,rfl,λi j u z=>?_⟩;by_cases hx:j<x
  ·exact b i j u hx
  ·have e:j=x:=by omega
   subst e;by_cases hi:i=j
   ·rw[hi];exact zo _
   ·have:=b i (j-1) () ();omega
 ·rintro c g ⟨rfl,rfl,b⟩;rw[show max a n=n by omega]at b ⊢;exact h n o (zo _) b (.inl Y2)
theorem Re{xs:Array Keyed}(a:lo+j<=xs.size)(k:Nat):al rk lo (mirror xs (lo+i) (lo+j) ((lo+j-(lo+i)) / 2)) k=if i<=k/\k<j then al rk lo xs (i+j-1-k)else al rk lo xs k:=by
 unfold al;rw[nz a];by_cases q:i<=k/\k<j
 ·rw[zh q,zh ⟨by omega,by omega⟩];congr 1;omega
 ·rw[zv q,zv ()]
theorem Q0{xs:Array Keyed}(b:lo+j<=xs.size)(a:∀k,i<=k->k<j->al rk lo xs k=al rk lo xs (j-1))(k:Nat):al rk lo (mirror xs (lo+i) (lo+j) ((lo+j-(lo+i)) / 2)) k=al rk lo xs k:=by
 rw[Re b];by_cases q:i<=k/\k<j
 ·rw[zh q,a (i+j-1-k) () (),a k q.1 q.2]
 ·rw[zv q]
theorem grow{xs ys:Array Keyed}{x:Nat}(dn:Ee rk lo xs x)(hk:∀k,al rk lo ys k=al rk lo xs k)(c:1<=x->al rk lo xs x<=al rk lo xs (x-1)):Ee rk lo ys (x+1):=λi j a e=>by
 rw[hk,hk];by_cases hx:j<x
 ·exact dn i j a hx
 ·have b:j=x:=by omega
  subst b;by_cases hi:i=j
  ·rw[hi];exact zo _
  ·have:=dn i (j-1) () ();have:=c ();omega
theorem fz{Q:Y Nat->SortSt->Prop}(N:JZ prog w A s (kindOf u) rk b)(hn:lo+n<=b.size)(h1:1<=n)(B:Bo lo b u t)(h:∀k t,Bo lo b u t->1<=k->k<=n->DO rk lo (AN t) k->Q (Z k) t):wpS (A9 prog w) A E s (countRun' lo n) Q t:=by
 rw[countRun'_eq];have L:∀{t:SortSt},Bo lo b u t->∀m,∀v:Y Bool->SortSt->Prop,1<=m->m<n->v (Z (decide (al rk lo (AN t) m<al rk lo (AN t) (m-1)))) t->wpS (A9 prog w) A E s (ltAt' (lo+m) (lo+m-1)) v t:=λ{t} B m v q1 q2 hq=>by
  refine Ze N B () () ?_;rw[show lo+m-1=lo+(m-1) by omega];exact hq
 refine AM (OA (rk:=rk) (lo:=lo) (λx m v q1 q2 g1 g2=>?_) (zo 1) h1 (λi j o l=>by rw[show i=j by omega];exact zo _) λm S m2 F or=>?_)
 ·refine AM (L B m _ q1 q2 ?_);dsimp only;by_cases c:al rk lo (AN t) m<al rk lo (AN t) (m-1)
  ·rw[zz c,zh rfl];exact wpS_pure (g1 c)
  ·rw[z4 c,zv ()];exact wpS_pure (g2 c)
 dsimp only;by_cases K:m=n
 ·rw[zh (show(m==n)=true by simpa using K)];exact wpS_pure (h m t B S m2 F)
 rw[zv (show ¬ (m==n)=true by simpa using K)];have lt:=or.resolve_left K;have M:lo+m<=(AN t).size:=by rw[B.sz];omega
 by_cases g1:m>1
 case' pos=>
  rw[zh g1];refine AM (Ze N B () () ?_);dsimp only;by_cases q:at_ rk (AN t) lo<at_ rk (AN t) (lo+m-1)
  ·rw[zz q,zh rfl];exact wpS_pure (h m t B S m2 F)
  rw[z4 q,zv ()];have all:∀k,0<=k->k<m->al rk lo (AN t) k=al rk lo (AN t) (m-1):=λk _ hk=>by
   have a1:=F 0 k () hk;have a2:=F k (m-1) () ();have q:¬ al rk lo (AN t) 0<al rk lo (AN t) (m-1):=by
    show ¬ at_ rk (AN t) (lo+0)<at_ rk (AN t) (lo+(m-1));rw[oC,show lo+(m-1)=lo+m-1 by omega];exact q
   omega
  have e:=Q0 (rk:=rk) (i:=0) M all;rw[oC]at e;have D:=B.mir (zo lo) (show lo+m<=b.size by omega);refine AM (wpS_reverse ?_);have H:Ee rk lo (AN (PyProof.Rows.setArr t (mirror (AN t) lo (lo+m) ((lo+m-lo) / 2)))) (m+1):=grow (xs:=AN t) (λi j o l=>by rw[all i () (),all j () ()];exact zo _) e λ_=>qh lt;generalize PyProof.Rows.setArr t (mirror (AN t) lo (lo+m) ((lo+m-lo) / 2))=t1 at D H ⊢
 case' neg=>
  rw[zv g1];have e1:m=1:=by omega
  have D:=B;have H:Ee rk lo (AN t) (m+1):=grow (xs:=AN t) (λi j o l=>by rw[show i=j by omega];exact zo _) (λ_=>Y2) λ_=>qh lt;generalize t=t1 at D H ⊢
 all_goals
  refine AM (wpS_lift (QN ⟨rfl,?_⟩));refine AM (wpS_mono (wpS_forRange (I:=λx c t=>∃e,c=(Y3,x,e)/\Bo lo b u t/\Ee rk lo (AN t) x/\e+1<=x/\∀i,x-(e+1)<=i->i<x->al rk lo (AN t) i=al rk lo (AN t) (x-1))
   (Q:=λc t=>∃k e,c=(Y3,k,e)/\m+1<=k/\k<=n/\Bo lo b u t/\Ee rk lo (AN t) k/\e+1<=k/\∀i,k-(e+1)<=i->i<k->al rk lo (AN t) i=al rk lo (AN t) (k-1)) ?_ ?_ ⟨0,rfl,D,H,by omega,λi q1 q2=>by rw[show i=m+1-1 by omega]⟩) ?_)
  ·rintro x c a a3 a4 ⟨e,rfl,f,dn,C,g⟩;have M:lo+x<=(AN a).size:=by rw[f.sz];omega
   dsimp only;refine AM (L f x _ () a4 ?_);dsimp only;by_cases q:al rk lo (AN a) x<al rk lo (AN a) (x-1)
   ·rw[zz q,zh rfl];by_cases p:e>0
    ·rw[zh p];refine AM (wpS_reverse (wpS_pure ?_));have G:=Q0 (rk:=rk) M g;rw[show lo+x-(e+1)=lo+(x-(e+1)) by omega];exact⟨0,rfl,f.mir () (),grow dn G λ_=>by omega,by omega,λi q1 q2=>by rw[show i=x+1-1 by omega]⟩
    ·rw[zv p];exact wpS_pure ⟨0,rfl,f,grow dn (λ_=>Y2) λ_=>by omega,by omega,λi q1 q2=>by rw[show i=x+1-1 by omega]⟩
   ·rw[z4 q,zv ()];refine AM (Ze N f () () ?_);dsimp only;rw[show lo+x-1=lo+(x-1) by omega];by_cases q2:al rk lo (AN a) (x-1)<al rk lo (AN a) x
    ·rw[zz q2,zh rfl];exact wpS_pure ⟨x,e,rfl,a3,by omega,f,dn,C,g⟩
    ·rw[z4 q2,zv ()];refine wpS_pure ⟨e+1,rfl,f,grow dn (λ_=>Y2) λ_=>by omega,by omega,λi q3 q4=>?_⟩;rw[show x+1-1=x by omega];by_cases hi:i=x
     ·rw[hi]
     ·rw[g i () ()];omega
  ·rintro c a ⟨e,rfl,f,dn,C,g⟩;rw[show max (m+1) n=n by omega]at dn C g ⊢;exact⟨n,e,rfl,by omega,zo _,f,dn,C,g⟩
  rintro c a ⟨k,e,rfl,k1,W,f,dn,C,g⟩;have a5:lo+k<=(AN a).size:=by rw[f.sz];omega
  dsimp only;by_cases p:e>0
  case' pos=>
   rw[zh p];refine AM (wpS_reverse ?_);have G:=Q0 (rk:=rk) a5 g;rw[show lo+k-(e+1)=lo+(k-(e+1)) by omega];have y:=f.mir (show lo<=lo+(k-(e+1)) by omega) (show lo+k<=b.size by omega);have J:Ee rk lo (AN (PyProof.Rows.setArr a (mirror (AN a) (lo+(k-(e+1))) (lo+k) ((lo+k-(lo+(k-(e+1)))) / 2)))) k:=λi j o l=>by
    show al rk lo (mirror (AN a) _ _ _) j<=al rk lo (mirror (AN a) _ _ _) i;rw[G,G];exact dn i j o l
   generalize PyProof.Rows.setArr a (mirror (AN a) (lo+(k-(e+1))) (lo+k) ((lo+k-(lo+(k-(e+1)))) / 2))=t2 at y J ⊢
  case' neg=>
   rw[zv p];have y:=f;have J:=dn;generalize a=t2 at y J ⊢
  all_goals
   refine AM (wpS_reverse ?_);have X:lo+k<=(AN t2).size:=by rw[y.sz];omega
   have B3:=y.mir (zo lo) (show lo+k<=b.size by omega);have P:DO rk lo (AN (PyProof.Rows.setArr t2 (mirror (AN t2) lo (lo+k) ((lo+k-lo) / 2)))) k:=λi j o l=>by
    have e:=Re (rk:=rk) (i:=0) X;rw[oC]at e;show al rk lo (mirror (AN t2) _ _ _) i<=al rk lo (mirror (AN t2) _ _ _) j;rw[e,e,zh ⟨by omega,by omega⟩,zh ⟨by omega,by omega⟩];exact J _ _ () ()
   generalize PyProof.Rows.setArr t2 (mirror (AN t2) lo (lo+k) ((lo+k-lo) / 2))=t3 at B3 P ⊢;refine AM (OA (rk:=rk) (lo:=lo) (λx z v q1 q2 g1 g2=>?_) (show 1<=k by omega) W P λz p1 p2 U _=>wpS_pure (h z t3 B3 () p2 U));refine AM (L B3 z _ q1 q2 ?_);dsimp only;by_cases c:al rk lo (AN t3) z<al rk lo (AN t3) (z-1)
   ·rw[zz c,zh rfl];exact wpS_pure (g1 c)
   ·rw[z4 c,zv ()];exact wpS_pure (g2 c)
theorem RU{xs:Array Keyed}{p d:Nat}(hs:lo+p<xs.size)(hd:d<=p)(k:Nat):al rk lo (bubble xs (lo+p) d) k=if k=p-d then al rk lo xs p else if p-d<k/\k<=p then al rk lo xs (k-1)else al rk lo xs k:=by
 unfold al;rw[nK hs ()];by_cases q:k=p-d
 ·rw[zh q,zh ()]
 ·rw[zv q,zv ()];by_cases q2:p-d<k/\k<=p
  ·rw[zh q2,zh ⟨by omega,by omega⟩];congr 1;omega
  ·rw[zv q2,zv ()]
theorem bP{o:Nat}{Q:Bool->SortSt->Prop}(G:JZ prog w A s (kindOf u) rk b)(L:lo+n<=b.size)(K:o<=n)(B:Bo lo b u t)(hs:DO rk lo (AN t) o)(h:∀t,Bo lo b u t->DO rk lo (AN t) n->Q true t):wpS (A9 prog w) A E s (binarySort' lo n o) Q t:=by
 rw[binarySort'_eq];refine AM (wpS_mono (wpS_forRange (I:=λk c t=>c=(Y3,lm)/\Bo lo b u t/\DO rk lo (AN t) (min k n)) (Q:=λc t=>c=(Y3,lm)/\Bo lo b u t/\DO rk lo (AN t) n) ?_ ?_ ?_) ?_)
 ·rintro k c t P M ⟨rfl,f,g⟩;rw[show min k n=k by omega]at g;refine AM (wpS_mono (wpS_forRange (I:=λx c a=>a=t/\∃l r,c=(Y3,l,r)/\l<=r/\r<=k/\r-l<=k-x/\(∀i,i<l->al rk lo (AN t) i<=al rk lo (AN t) k)/\(∀i,r<=i->i<k->al rk lo (AN t) k<al rk lo (AN t) i))
   (Q:=λc a=>a=t/\∃l r,c=(Y3,l,r)/\l<=k/\(∀i,i<l->al rk lo (AN t) i<=al rk lo (AN t) k)/\(∀i,l<=i->i<k->al rk lo (AN t) k<al rk lo (AN t) i)) ?_ ?_ ?_) ?_)
  ·rintro x c a _ hx ⟨rfl,l,r,rfl,H,y,J,m,hi⟩;dsimp only;by_cases D:l>=r
   ·rw[zh D];have e:l=r:=by omega
    subst e;exact wpS_pure ⟨rfl,l,l,rfl,y,m,hi⟩
   ·rw[zv D];refine AM (Ze G f () () ?_);dsimp only;by_cases q:al rk lo (AN a) k<al rk lo (AN a) ((l+r) / 2)
    ·rw[zz q,zh rfl];refine wpS_pure ⟨rfl,l,(l+r) / 2,rfl,by omega,by omega,by omega,m,λi q1 q2=>?_⟩;have:=g ((l+r) / 2) i q1 q2;omega
    ·rw[z4 q,zv ()];refine wpS_pure ⟨rfl,(l+r) / 2+1,r,rfl,by omega,by omega,by omega,λi q1=>?_,hi⟩;have:=g i ((l+r) / 2) () ();omega
  ·rintro c a ⟨rfl,l,r,rfl,H,y,J,m,hi⟩;have e:l=r:=by omega
   subst e;exact⟨rfl,l,l,rfl,y,m,hi⟩
  ·exact⟨rfl,0,k,rfl,by omega,by omega,by omega,λi hi=>by omega,λi q1 q2=>by omega⟩
  ·rintro c a ⟨rfl,l,r,rfl,N,m,hi⟩;show wpS _ _ _ _ (moveDown' (lo+k) (lo+l) >>= λ_=>pure (ForInStep.yield (Y3,lm))) _ _;rw[moveDown'_eq];have v:lo+k<(AN a).size:=by rw[f.sz];omega
   refine AM (wpS_modify (wpS_pure ⟨rfl,⟨(bubble_perm _ _ _).trans f.pm,f.kd,f.fl,f.pd,λj p=>?_⟩,?_⟩))
   ·show(bubble (AN a) (lo+k) (lo+k-(lo+l)))[j]?=_;rw[getElem?_bubble v _ (),zv (),zv ()];exact f.ot j p
   rw[show min (k+1) n=k+1 by omega];intro i j C p;show al rk lo (bubble (AN a) (lo+k) (lo+k-(lo+l))) i<=al rk lo (bubble (AN a) (lo+k) (lo+k-(lo+l))) j;rw[show lo+k-(lo+l)=k-l by omega,RU v (),RU v (),show k-(k-l)=l by omega]
   repeat' split
   all_goals first
    |(exfalso;omega)
    |exact zo _
    |exact m _ ()
    |exact qh (hi _ () ())
    |exact g _ _ () ()
 ·rintro c t ⟨F,f,g⟩;refine⟨F,f,?_⟩;rwa [show min (max (max o 1) n) n=n by omega]at g
 ·refine⟨rfl,B,λi j C p=>?_⟩;by_cases z:o=0
  ·rw[show i=j by omega];exact zo _
  ·exact hs i j C ()
 ·rintro c t ⟨rfl,f,g⟩;exact wpS_pure (h t f g)
end
section
variable(rk:A0->Nat)
def Ds:Nat->O (O Keyed)->O (Nat×Nat×Nat)->Prop
 |_,[],[]=>True
 |lo,g::gs,(a,n,_)::ps=>a=lo/\n=g.length/\g≠[]/\g.Pairwise (Le rk)/\Ds (lo+g.length) gs ps
 |_,_,_=>False
variable{rk}
theorem Ds.len:∀{gs:O (O Keyed)} {ps:O (Nat×Nat×Nat)} {lo:Nat},Ds rk lo gs ps->gs.length=ps.length
 |[],[],_,_=>rfl
 |g::gs,(a,n,q)::ps,lo,h=>congrArg (·+1) (Ds.len h.2.2.2.2)
 |[],_::_,_,h=>h.elim
 |_::_,[],_,h=>h.elim
theorem Ds.snoc:∀{gs:O (O Keyed)} {ps:O (Nat×Nat×Nat)} {lo:Nat} {g:O Keyed} {q:Nat},Ds rk lo gs ps->g≠[]->g.Pairwise (Le rk)->Ds rk lo (gs++[g]) (ps++[(lo+gs.flatten.length,g.length,q)])
 |[],[],_,g,q,_,h1,h2=>⟨rfl,rfl,h1,h2,trivial⟩
 |f::gs,(a,n,r)::ps,lo,g,q,h,h1,h2=>by
  have b:=Ds.snoc (q:=q) h.2.2.2.2 h1 h2;rw[Nat.add_assoc,<-zt,<-jN]at b;exact⟨h.1,h.2.1,h.2.2.1,h.2.2.2.1,b⟩
 |[],_::_,_,_,_,h,_,_=>h.elim
 |_::_,[],_,_,_,h,_,_=>h.elim
theorem Ds.pw{f:Nat×Nat×Nat->Nat×Nat×Nat}(b:∀a n q,∃r,f (a,n,q)=(a,n,r)):∀{gs:O (O Keyed)} {ps:O (Nat×Nat×Nat)} {lo i:Nat},Ds rk lo gs ps->Ds rk lo gs (ps.modify i f)
 |[],[],_,i,_=>by cases i<;>trivial
 |g::gs,(a,n,q)::ps,lo,0,h=>by
  obtain⟨r,e⟩:=b a n q;show Ds rk lo (g::gs) (f (a,n,q)::ps);rw[e];exact h
 |g::gs,(a,n,q)::ps,lo,i+1,h=>⟨h.1,h.2.1,h.2.2.1,h.2.2.2.1,Ds.pw b h.2.2.2.2⟩
 |[],_::_,_,_,h=>h.elim
 |_::_,[],_,_,h=>h.elim
theorem Ds.two:∀{i:Nat} {gs:O (O Keyed)} {ps:O (Nat×Nat×Nat)} {lo:Nat},Ds rk lo gs ps->i+1<ps.length->∃G g g' c p q,gs=G++g::g'::c/\ps[i]?=Z (lo+G.flatten.length,g.length,p)/\ps[i+1]?=Z (lo+G.flatten.length+g.length,g'.length,q)/\g≠[]/\g'≠[]/\g.Pairwise (Le rk)/\g'.Pairwise (Le rk) ∧
   ∀m:O Keyed,m.length=g.length+g'.length->m.Pairwise (Le rk)->Ds rk lo (G++m::c) ((ps.set i (lo+G.flatten.length,g.length+g'.length,p)).eraseIdx (i+1))
 |0,g::g'::c,(a,n,p)::(a',n',q)::ps,lo,h,_=>by
  obtain⟨rfl,rfl,h1,h2,rfl,rfl,j,l,f⟩:=h;refine⟨[],g,g',c,p,q,rfl,rfl,rfl,h1,j,h2,l,λm b o=>⟨rfl,b.symm,?_,o,?_⟩⟩
  ·intro e;rw[e]at b;have:=dz.mpr h1;simp at b;omega
  ·rw[b,<-Nat.add_assoc];exact f
 |i+1,g::gs,(a,n,p)::ps,lo,h,hi=>by
  obtain⟨G,k,t,c,p',s,e,e1,e2,h1,h2,j,l,f⟩:=Ds.two (i:=i) h.2.2.2.2 (by simpa using hi);have ex:lo+g.length+G.flatten.length=lo+(g::G).flatten.length:=by rw[jN,zt];omega
  rw[ex]at e1 e2 f;exact⟨g::G,k,t,c,p',s,by rw[e];rfl,e1,e2,h1,h2,j,l,λm b o=>⟨h.1,h.2.1,h.2.2.1,h.2.2.2.1,f m b o⟩⟩
 |_,[],[],_,_,hi=>by cases hi
 |0,_,[_],_,_,hi=>by simp at hi
 |_,[],_::_,_,h,_=>h.elim
 |_,_::_,[],_,h,_=>h.elim
 |0,[_],_::_::_,_,h,_=>h.2.2.2.2.elim
end
section
variable{b:Array Keyed}
structure St (rk:Value->Nat) (kd:SortKind) (b:Array Keyed) (R:List Keyed) (gs:List (List Keyed)) (t:SortSt):Prop where
 kd:kindOf t=kd
 fl:failedOf t=none
 pm:(arrOf t).Perm b
 ar:(arrOf t).toList=gs.flatten++R
 ds:Ds rk 0 gs (pendingOf t).toList
theorem PP{R:O Keyed}{gs:O (O Keyed)}{Q:Bool->SortSt->Prop}(u:JZ prog w A s kd rk b)(S:St rk kd b R gs t)(hi:i+1<(pendingOf t).size)(h:∀a t',St rk kd b R a t'->a.flatten.length=gs.flatten.length->a.length+1=gs.length->Q true t'):wpS (A9 prog w) A E s (ME i) Q t:=by
 obtain⟨G,g,n,o,p,q,e,e1,e2,h1,h2,v,C,c⟩:=Ds.two S.ds (i:=i) (by simpa using hi);rw[Kb]at e1 e2 c;rw[Kx]at e1 e2;have f:(AN t).toList=G.flatten++(g++n)++(o.flatten++R):=by rw[S.ar,e];simp
 have B:∀z∈(AN t).toList,z∈b.toList:=λz y=>(cW.mp S.pm).mem_iff.mp y;refine wd (rk:=rk) u S.kd S.fl B f e1 e2 Y2 Y2 Y2 Y2 h1 h2 v C λt' m x D F k H j=>?_;have l:m.length=g.length+n.length:=by rw[k.length_eq,zt]
 refine h (G++m::o) t' ⟨x,D,?_,by rw[j];simp,?_⟩ (by rw[e];simp[l];omega) (by rw[e];simp only[zt,ZZ];omega)
 ·refine Array.Perm.trans ?_ S.pm;rw[cW,j,f];exact(k.append_left _).append_right _
 ·rw[F];have:=c m l H;simpa using this
theorem Uw{st:SortSt}{Q:Unit->SortSt->Prop}(L:JZ prog w A s kd rk b)(B:Bs kd b st)(h2:2<=b.size)
  (h:∀t,(AN t).Perm b->failedOf t=Y3->Up rk (AN t) b.size->Q lm t):wpS (A9 prog w) A E s sortRuns' Q st:=by
 rw[sortRuns'_eq];refine AM (wpS_get ?_);rw[B.sz];generalize minRun' b.size b.size 0=mr;dsimp only;refine AM (wpS_mono (wpS_forRange (I:=λx c t=>∃gs R,c=(Y3,gs.flatten.length)/\St rk kd b R gs t/\x<=gs.flatten.length) (Q:=λc t=>c.1=Y3/\∃gs,St rk kd b [] gs t) ?_ ?_ ⟨[],(AN st).toList,rfl,⟨B.kd,B.fl,B.pm,rfl,by rw[B.pd];trivial⟩,ZT _⟩) ?_)
 ·rintro x c t _ hx ⟨gs,R,rfl,S,F⟩;have sz:gs.flatten.length+R.length=b.size:=by
   rw[<-zt,<-S.ar,Z3];exact S.pm.size_eq
  dsimp only;by_cases ge:gs.flatten.length>=b.size
  ·rw[zh ge];have:R=[]:=js ();subst this;exact wpS_pure ⟨rfl,gs,S⟩
  rw[zv ge];refine AM (fz (rk:=rk) (u:=t) (lo:=gs.flatten.length) (by rw[S.kd];exact L) () () ⟨S.pm,rfl,rfl,rfl,λ_ _=>Y2⟩ λn t' B' n1 n2 J=>?_);have body:∀(t1:SortSt) (m:Nat),Bo gs.flatten.length b t t1->1<=m->m<=b.size-gs.flatten.length->DO rk gs.flatten.length (AN t1) m->∃g D,g.length=m/\g≠[]/\g.Pairwise (Le rk)/\St rk kd b (g++D) gs t1:=λt1 m o H m2 J=>by
   have z1:(AN t1).toList.length=b.size:=by rw[Z3];exact o.sz
   have e:(AN t1).toList.take gs.flatten.length=gs.flatten:=by
    apply List.ext_getElem?;intro k;by_cases hk:k<gs.flatten.length
    ·rw[kz hk,Kx,o.ot k hk,<-Kx,S.ar,qa hk]
    ·rw[eh (by rw[qk];omega),eh ()]
   have v:(((AN t1).toList.drop gs.flatten.length).take m).length=m:=by rw[qk,qc,z1];omega
   refine⟨((AN t1).toList.drop gs.flatten.length).take m,((AN t1).toList.drop gs.flatten.length).drop m,v,λz=>by rw[z]at v;simp at v;omega,dg.mpr λi j hi P a1=>?_,⟨o.kd.trans S.kd,o.fl.trans S.fl,o.pm,?_,by rw[o.pd];exact S.ds⟩⟩
   ·rw[v]at hi P;have:=J i j () P;unfold al at this;rw[Hf (show gs.flatten.length+i<(AN t1).size by rw[o.sz];omega),Hf (show gs.flatten.length+j<(AN t1).size by rw[o.sz];omega)]at this;rw[JY,JY,ka,ka];exact this
   ·rw[ZU]
    conv=>rhs;lhs;rw[<-e]
    exact(ZU _ _).symm
  have C:JZ prog w A s (kindOf t) rk b:=by rw[S.kd];exact L
  dsimp only;have e0:minRun' b.size b.size 0=minRun' b.size b.size 0:=rfl;generalize a4:minRun' b.size b.size 0=mr;by_cases c:n<mr
  case' pos=>
   rw[zh c];refine AM (wpS_lift (QN ⟨rfl,AM (bP (rk:=rk) (u:=t) C () () B' J λt1 o K=>?_)⟩));rw[zv ()];have H:1<=min (b.size-gs.flatten.length) mr:=by omega
   have m2:min (b.size-gs.flatten.length) mr<=b.size-gs.flatten.length:=by omega
   generalize min (b.size-gs.flatten.length) mr=m at *
  case' neg=>
   rw[zv c];have o:=B';have K:=J;have H:=n1;have m2:=n2;generalize t'=t1 at o K ⊢;generalize n=m at H m2 K ⊢
  all_goals
   obtain⟨g,D,v,hg,M,X⟩:=body t1 m o H m2 K;have a2:∀f t2,St rk kd b (g++D) f t2->f.flatten.length=gs.flatten.length->∃W a3,((Y3:Y Unit),gs.flatten.length+m)=(Y3,W.flatten.length)/\St rk kd b a3 W (setPending t2 ((pendingOf t2).push (gs.flatten.length,m,0)))/\x+1<=W.flatten.length:=λf t2 l e2=>by
    have l2:(f++[g]).flatten.length=gs.flatten.length+m:=by simp[<-e2,v]
    refine⟨f++[g],D,by rw[l2],⟨l.kd,l.fl,l.pm,?_,?_⟩,by rw[l2];omega⟩
    ·show(AN t2).toList=_;rw[l.ar];simp
    ·have:=l.ds.snoc (q:=0) hg M;rw[Kb,e2,v]at this;show Ds rk 0 _ ((pendingOf t2).push _).toList;rw[Kn];exact this
   refine AM (wpS_get ?_);split
   ·refine AM (wpS_mono (wpS_forRange (I:=λx c t=>c=(Y3,lm)/\∃f,St rk kd b (g++D) f t/\f.flatten.length=gs.flatten.length) (Q:=λc t=>c=(Y3,lm)/\∃f,St rk kd b (g++D) f t/\f.flatten.length=gs.flatten.length) ?_ (λ_ _ q=>q) ⟨rfl,gs,X,rfl⟩) ?_)
    ·rintro y c t2 _ _ ⟨rfl,f,l,e2⟩;refine AM (wpS_get ?_);by_cases z:(pendingOf t2).size>1
     ·rw[zh z];split
      ·split
       ·exact wpS_pure ⟨rfl,f,l,e2⟩
       ·refine AM (PP L l () λN t3 U e3 _=>?_);rw[zv ()];exact wpS_pure ⟨rfl,N,U,e3.trans e2⟩
      ·exact wpS_pure ⟨rfl,f,l,e2⟩
     ·rw[zv z];exact wpS_pure ⟨rfl,f,l,e2⟩
    ·rintro c t2 ⟨rfl,f,l,e2⟩;dsimp only;refine AM (wpS_modify (AM (wpS_modify (wpS_pure ?_))));refine a2 f _ ⟨l.kd,l.fl,l.pm,l.ar,?_⟩ e2;show Ds rk 0 _ ((pendingOf t2).modify _ _).toList;rw[Array.toList_modify];exact l.ds.pw λa n q=>⟨_,rfl⟩
   ·exact AM (wpS_modify (wpS_pure (a2 gs t1 X Y2)))
 ·rintro c t ⟨gs,R,rfl,S,F⟩;have sz:gs.flatten.length+R.length=b.size:=by
   rw[<-zt,<-S.ar,Z3];exact S.pm.size_eq
  have:R=[]:=js ();subst this;exact⟨rfl,gs,S⟩
 rintro⟨c,lo⟩ t ⟨hc,gs,S⟩;simp only at hc;subst hc;dsimp only;refine AM (wpS_mono (wpS_forRange (I:=λx c t=>c=(Y3,lm)/\∃gs,St rk kd b [] gs t/\(gs.length+x<=b.size\/gs.length<=1)) (Q:=λc t=>c=(Y3,lm)/\∃gs,St rk kd b [] gs t/\gs.length<=1) ?_ ?_ ⟨rfl,gs,S,.inl ?_⟩) ?_)
 ·rintro x c t _ hx ⟨rfl,gs,S,F⟩;have lp:gs.length=(pendingOf t).size:=by rw[S.ds.len,Z3]
  refine AM (wpS_get ?_);by_cases z:(pendingOf t).size<=1
  ·rw[zh z];exact wpS_pure ⟨rfl,gs,S,by omega⟩
  rw[zv z];have le:∀(p:Prop) [Decidable p] (a:Nat),(if p then a-1 else a)<=a:=λp _ a=>by split<;>omega
  refine AM (PP L S (hP (KA (le _ _)) ()) λN t3 U e3 l3=>?_);rw[zv ()];exact wpS_pure ⟨rfl,N,U,by omega⟩
 ·rintro c t ⟨rfl,gs,S,F⟩;exact⟨rfl,gs,S,by omega⟩
 ·have:∀{gs:O (O Keyed)} {ps:O (Nat×Nat×Nat)} {lo:Nat},Ds rk lo gs ps->gs.length<=gs.flatten.length:=by
   intro gs
   induction gs with
   |nil=>intro ps lo _;exact zo _
   |cons g gs ih=>
    intro ps lo h;cases ps with
    |nil=>exact h.elim
    |cons p ps=>
     obtain⟨a,n,q⟩:=p;have:=ih h.2.2.2.2;have:=dz.mpr h.2.2.1;rw[jN,zt,ZZ];omega
  have:=this S.ds;have sz:gs.flatten.length=b.size:=by
   have:=congrArg dC S.ar;rw[qS,Z3]at this;exact this.symm.trans S.pm.size_eq
  omega
 ·rintro c t ⟨rfl,gs,S,F⟩;refine wpS_pure (h t S.pm S.fl ?_);have G:=S.ar;have ds:=S.ds;have sz:=S.pm.size_eq
  match gs,F,G,ds with
  |[],_,G,ds=>
   have:(AN t).size=0:=by rw[<-Z3,G];rfl
   omega
  |[g],_,G,ds=>
   generalize (pendingOf t).toList=ps at ds
   match ps,ds with
   |(a,n,q)::_,ds=>
    have M:=ds.2.2.2.1;have e:(AN t).toList=g:=by rw[G];simp
    rw[<-e]at M;intro i j a1 P;rw[Hf (show i<(AN t).size by omega),Hf (show j<(AN t).size by omega)];exact BJ M a1 ()
end
theorem lL{b:Array Keyed}:Rn prog w A kd rk b:=λ_ _ _ _ a B h2 q=>Uw a B h2 q
end S1
namespace P1
open L2 S6
section
variable{fs:Ev->Y B5}{p:Pos}
end
theorem WZ(h:Q (.ref s.heap.objs.size) { s with heap:=s.heap.push (EJ w) }):A8 (A9 prog w) A (newSet (.type "set")) Q E s:=by
 unfold newSet;refine zb (WI ?_);simp only[newObj];exact zb (wpAny_alloc (ze h))
theorem Tu{R:Result->A3->Prop}{a:Expr}{AT:O Comprehension}{it b:A0}(c:AG (A9 prog w) A (.compLoop (.SetComp elt (⟨a,iter,ifs,0⟩::AT) scope pos) 0 it b env) R s)(h:A8 (A9 prog w) A (pyIter it) (λe s'=>AG (A9 prog w) A (.compLoop (.SetComp elt (⟨a,iter,ifs,0⟩::AT) scope pos) 0 e b env) R s') (notedBy (A9 prog w) A env λx s'=>R (.error x) s') s):
  AG (A9 prog w) A (.compStart (.SetComp elt (⟨a,iter,ifs,0⟩::AT) scope pos) 0 it b env) R s:=by
 refine codeAny_of_tree ?_;show A8 _ _ ((compStart (.SetComp elt (⟨a,iter,ifs,0⟩::AT) scope pos) 0 it b env).onRaise (λx=>do noteFrame x env;standAt theWindowsPlace)) _ _ s;refine wpAny_notedAt ?_;unfold compStart;show A8 _ _ (ask >>= _) _ _ s;refine zb (wpAny_askSetting (wpAny_ite ?_));split
 ·first
   |exact zb (ze (ze (And.intro rfl c)))
   |exact ze (And.intro rfl c)
 ·first
   |exact zb (QN (zb (QU (zb (qA h (λe s' h'=>ze (And.intro rfl h')) λ_ _ x=>x)))))
   |(refine zb (QN ?_);show A8 _ _ (standAt iter.pos >>= _) _ _ s;exact zb (QU (zb (qA h (λq s' h'=>ze (And.intro rfl h')) λ_ _ x=>x))))
theorem di{c:A7->Prop}(h:H a=Z (.ext c)):Kp H (BD H a o):=by
 refine⟨λb ys e=>?_,λb f u e=>?_⟩
 ·rw[aR (Br e h (by intro z;cases z))];exact e
 ·rw[aR (Br e h (by intro z;cases z))];exact e
section
variable{xs:B5}
def Ha:Bx->Y (O Dt)
 |.z (.str x)=>Z [.str x]
 |_=>Y3
end
theorem Ux:∀{ds:O Dt} {ys:B5},tO ds=Z ys->ds=ys.map Dt.str
 |[],_,e=>by cases e;rfl
 |.str x::ds,_,e=>by
  simp only[tO]at e;obtain⟨ys,e1,e2⟩:=AU e;cases e2;rw[zw,<-Ux e1]
 |.non::_,_,e=>by cases e
 |.bl _::_,_,e=>by cases e
 |.int _::_,_,e=>by cases e
 |.tup _::_,_,e=>by cases e
 |.lst _::_,_,e=>by cases e
 |.emp::_,_,e=>by cases e
section
variable{xs:B5}
def cE(fe:Ev->Y Bx):Ev->Y (O Dt):=λρ=>(fe ρ).bind Ha
def N2(fs fs':Ev->Y (O Dt)):Prop:=∀ ρ ys,fs ρ=Z ys->(∀d∈ys,∃x,d=Dt.str x)->fs' ρ=Z ys
theorem F5:N2 (GM fe) (cE fe):=λρ ys e h=>by
 obtain⟨b,eb,e⟩:=AU e;obtain⟨y,rfl,rfl⟩:=Gh e;obtain⟨x,rfl⟩:=h y (ag.mpr Y2);show(fe ρ).bind Ha=_;rw[eb];rfl
theorem Xb{fs fs':Ev->Y (O Dt)}(u:N2 fs fs'){ρ:Ev}:∀{ds out:O Dt},yP gt p fs ρ ds=Z out->(∀d∈out,∃x,d=Dt.str x)->yP gt p fs' ρ ds=Z out
 |[],_,e,_=>e
 |d::ds,out,e,h=>by
  simp only[yP]at e ⊢;obtain⟨a,e1,e⟩:=AU e;obtain⟨k,ek,e⟩:=AU e;simp only[e1,ek,y8];cases k with
  |false=>rw[zv zC]at e ⊢;exact Xb u e h
  |true=>
   rw[zh rfl]at e ⊢;obtain⟨ys,c,e⟩:=AU e;obtain⟨zs,b,e⟩:=AU e;cases e;rw[u a ys c λd hd=>h d (QR _ hd),Xb u b λd hd=>h d (ZN _ hd)];rfl
def NA(fi:Ev->Y (O Dt))(gt:Dt->Ev->Y Ev)(p:Ev->Y Bool)(fe:Ev->Y Bx)(is:O Nat)(n:Nat):Ev->Y B5:=λρ=>(fi ρ).bind λds=>
 if ds.length<4000 then(Bt gt p fe (lH is ρ++bb n Y3) ds).bind tO else Y3
variable{fs:Ev->Y B5}{p':Pos}
end
end P1
namespace P1
open L2 S1 S6
section
variable [DecidableEq α]
end
section
def Hd(ks:O AZ):Bool:=ks.any λk=>k.isRight
variable{fs:Ev->Y (O (O AZ))}{p:Pos}
end
end P1
namespace P1
open L2
section
variable{kx vx:Expr}{xs:B5}{fk:Ev->Y Bx}
end
section
variable{ks:O (AZ×V)}{o:AF}
end
section
variable{fd:Ev->Y Bx}{xs:B5}
end
def two(a b:AK)(i:Nat):AK:=if i=0 then a else b
theorem Xc{R:α->β->Prop}:∀{xs:O α} {ys:O β},AJ R xs ys->∀{i:Nat} {x:α},xs[i]?=Z x->∃y,ys[i]?=Z y/\R x y:=by
 intro xs ys h
 induction h with
 |nil=>intro i x q;simp at q
 |cons r _ a=>
  intro i x q;cases i with
  |zero=>simp at q;subst q;exact⟨_,rfl,r⟩
  |succ i=>
   rw[l0]at q;obtain⟨y,y1,y2⟩:=a q;exact⟨y,by rw[l0];exact y1,y2⟩
section
variable{fs:Ev->Y (O Bx)}{p px spos:Pos}{f:A2}{G:A2->O (AZ×Dt)->O Bx->Y (O (AZ×Dt))}
end
def EZ:Y Bool->Bool
 |some true=>true
 |_=>false
def GW(x:Dt)(ys:O Dt):Y Bool:=if(ys.all λy=>(DN y x).isSome&&decide (min (Bu y) (Bu x)<=60))=true then Z (ys.any λy=>EZ (DN y x))else Y3
def FO(a b:Bx):Y Bx:=match a with
 |.z d=>(vB b).bind λys=>(GW d ys).bind λk=>Z (.z (.bl k))
 |_=>Y3
theorem NG(I:L2.AV X AO σ H s)(G:X.A.units+100<cLine){d:Dt}{x:V}(t:AX X.K H d x)(C:B6 x u){ys:O Dt}(rs:aP X.K H ys vs)(l:AY vs AS){k:Bool}(hk:GW d ys=Z k):
  ∃e:A0->Bool,(∀y,y∈AS->SeqAt.EqAt X.A.in1 s y u (e y))/\AS.any e=k:=by
 unfold GW at hk;split at hk
 ·rename_i p;injection hk with hk;rw[qf]at p;have at_:∀(i:Nat) y,AS[i]?=Z y->∃c,ys[i]?=Z c/\SeqAt.EqAt X.A.in1 s y u (EZ (DN c d)):=λi y g=>by
   have E:=l.length;have w:=rs.length;have hi:i<AS.length:=(bj.mp g).1;have a:i<ys.length:=by omega
   obtain⟨v,ev,B⟩:=rs.get (show ys[i]?=Z ys[i] by simp[a]);obtain⟨F,n,z⟩:=l.get ev;rw[g]at n;cases n;refine⟨ys[i],by simp[a],?_⟩;have j:=p ys[i] (Ya a);rw[zS]at j;obtain⟨b,o⟩:=cZ.mp j.1;have:=N4 I 60 (A:=X.A.in1) (kv j.2) (by rw[units_in1];omega) B t z C o;rw[o];cases b<;>exact this
  classical
  refine⟨λy=>decide (∃(i:Nat) (c:Dt),AS[i]?=Z y/\ys[i]?=Z c/\EZ (DN c d)=true),λy g=>?_,?_⟩
  ·dsimp only;by_cases q:∃(i:Nat) (c:Dt),AS[i]?=Z y/\ys[i]?=Z c/\EZ (DN c d)=true
   ·rw[zz q];obtain⟨i,c,h1,h2,f⟩:=q;obtain⟨c',e1,e2⟩:=at_ i y h1;rw[h2]at e1;cases e1;rw[f]at e2;exact e2
   ·rw[z4 q];obtain⟨i,hi,m⟩:=Qr g;have h1:AS[i]?=Z y:=by rw[ZY hi,m]
    obtain⟨c,e1,e2⟩:=at_ i y h1;have:EZ (DN c d)=false:=by
     cases D:EZ (DN c d)with
     |false=>rfl
     |true=>exact absurd ⟨i,c,h1,e1,D⟩ q
    rw[this]at e2;exact e2
  ·rw[<-hk,KW,KB,KB];constructor
   ·rintro⟨y,g,h⟩;obtain⟨i,c,h1,h2,f⟩:=kv h;exact⟨c,KO h2,f⟩
   ·rintro⟨c,j,f⟩;obtain⟨i,hi,m⟩:=Qr j;have E:=l.length;have w:=rs.length;have a:i<AS.length:=by omega
    exact⟨AS[i],Ya a,zz ⟨i,c,by simp[a],by rw[ZY hi,m],f⟩⟩
 ·cases hk
theorem NS(m:X.A.units+100<cLine):Dj X (AH .In) FO:=by
 intro AO s σ H x y v u Q I l z h;obtain⟨a,b,c,j,t,e,q⟩:=h;unfold FO at e;split at e
 ·rename_i d;obtain⟨ys,n,e⟩:=AU e;obtain⟨k,ek,e⟩:=AU e;cases e;obtain⟨p,vs,rfl,sq,rs⟩:=Jj t n;cases z;rcases sq with sq|sq
  ·obtain⟨AS,g,pl,o⟩:=I.list sq;obtain⟨f,f1,f2⟩:=NG I m j l rs g ek;refine SeqAt.in_listAt f pl.isList (λw i=>f1 w (by simpa using i)) ⟨.bl k,H,I,by rw[show AS.toArray.any f=AS.any f by simp,f2];rfl,q _ H (AW.refl H) trivial (by simp only[bH,AX])⟩
  ·obtain⟨AS,g,pl,o⟩:=I.tuple sq;obtain⟨f,f1,f2⟩:=NG I m j l rs g ek;refine SeqAt.in_tupleAt f pl (λw i=>f1 w (by simpa using i)) ⟨.bl k,H,I,by rw[show AS.toArray.any f=AS.any f by simp,f2];rfl,q _ H (AW.refl H) trivial (by simp only[bH,AX])⟩
 ·cases e
section
variable{st:O AC}
end
open AutoSeq1 (wpAny_loadPart')
open SeqAt
theorem Ll(I:L2.AV X AO σ H s)(h:wM X.K H a xs):∃AS:O A0,AY xs AS/\rK s.heap a AS.toArray:=by
 rcases h with h|⟨o,AS,n,hk,b,c,e,r⟩
 ·obtain⟨z,AS,r,p⟩:=h.ok I.hok;exact⟨AS,r,p⟩
 ·exact⟨AS.toList,r,o,I.kIn a o hk,b.1,⟨n,by simpa using c⟩,b.2⟩
section
variable{o:Expr}{fx:Ev->Y Bx}
end
section
variable{t:Ev->Y Bool}
end
section
variable{h':A7}
theorem Zf{t':Nat}{e:A2}(I:L2.AV X AO σ H s)(k:∀b o,b≠e->b≠it->s.heap.get? b=Z o->h'.get? b=Z o)(fe:vQ X AO H e)(fi:vQ X AO H it)(t:∃o,h'.get? e=Z o)(hi:∃o,h'.get? it=Z o)(new:jx X.prog X.w (BD H s.heap.objs.size (.tup xs)) h' s.heap.objs.size (.tup xs)):L2.AV X AO σ (BD H s.heap.objs.size (.tup xs)) { s with heap:=h',toks:=t' }:=by
 have p:H s.heap.objs.size=Y3:=I.hok.fresh (zo _);have g:∀b u,H b=Z u->b≠s.heap.objs.size:=λb u q z=>by rw[z,p]at q;cases q
 have i:∀b u,H b=Z u->b≠e/\b≠it:=λb u q=>⟨λz=>(by rw[z,fe.1]at q;cases q),λz=>(by rw[z,fi.1]at q;cases q)⟩;have h:∀b,b∉[e,it]->b≠e/\b≠it:=λb f=>⟨λz=>f (by simp[z]),λz=>f (by simp[z])⟩;refine I.step (g':=s.gens) (d':=s.drawn) (ch:=[e,it]) (λb f=>?_) (λb o _ _ a q _=>k b o (h b a).1 (h b a).2 q) (λb o _ _ a q _=>⟨o.slots,k b o (h b a).1 (h b a).2 q⟩) (λb o _ q n=>?_)
  (λb o a q=>⟨o,k b o (h b a).1 (h b a).2 q⟩) (λb ys q=>?_) (λb o u q=>?_) (λb ps q=>⟨#[],?_⟩) (λm j=>?_) (λb u q=>?_) I.bare
 ·rcases ba.mp f with rfl|f
  ·exact⟨fe.2.2.2.1,fe.2.1,fe.2.2.2.2.1,fe.2.2.2.2.2⟩
  ·cases ag.mp f;exact⟨fi.2.2.2.1,fi.2.1,fi.2.2.2.2.1,fi.2.2.2.2.2⟩
 ·rw[aR (ZO (zI q))];exact n
 ·rw[aR (g b _ q)];exact q
 ·rw[aR (g b _ q)];exact q
 ·rw[aR (g b _ q),q];simp
 ·obtain⟨o,es,ep,l,r⟩:=j;exact⟨o,es,ep,k _ o (k9 fe.2.1) (k9 fi.2.1) l,r⟩
 ·by_cases f:b=s.heap.objs.size
  ·subst f;rw[bK]at q;cases q;exact new
  ·rw[aR f]at q;refine(I.hok b u q).stay (λc v a w=>k c v ?_ ?_ w) (λc w=>?_) (λc ys w=>?_) λc o' x w=>?_
   ·rcases a with rfl|z
    ·exact(i _ _ q).1
    ·exact(i _ _ z).1
   ·rcases a with rfl|z
    ·exact(i _ _ q).2
    ·exact(i _ _ z).2
   ·rw[aR (g c _ w)];exact w
   ·rw[aR (g c _ w)];exact w
   ·rw[aR (g c _ w)];exact w
end
def LG(K:BA)(l:A2):It:=
 ⟨λi H=>∃xs x,tH K H l xs/\xs[i]?=Z x,λi H v H'=>∃p x,H p=Y3/\(∀xs,tH K H l xs->xs[i]?=Z x)/\v=.ref p/\H'=BD H p (.tup [.int i,x]),λi H=>∃xs,tH K H l xs/\xs.length<=i⟩
theorem sj(l e it:A2)(B:e≠it):
  CS P w K (.Tuple elts x1 tpos) (LG K l) [e,it] e (λi h=>(∃old,IsEnum h e it i old)/\h.IsListIter it l i) where
 mem:=by simp
 obj:=λi h st b a=>by
  obtain⟨⟨old,h1⟩,o,h2,_,h3⟩:=st;rcases ba.mp a with rfl|a
  ·exact⟨_,h1,λv z=>by cases z⟩
  ·cases ag.mp a;exact⟨o,h2,λv z=>by rw[h3]at z;cases z⟩
 keep:=λi h h' st k=>by
  obtain⟨⟨old,h1⟩,h2⟩:=st;exact⟨⟨old,k e (by simp) _ h1⟩,h2.at λo q=>k it (by simp) o q⟩
 item:=by
  intro X j t g C i AO s σ H E I f st m;subst j t g;obtain⟨⟨old,h1⟩,h2⟩:=st;obtain⟨xs,x,c,hx⟩:=m;obtain⟨AS,n,p,N⟩:=I.list c;obtain⟨u,W,S⟩:=n.get hx;have fe:=f e (by simp);have fi:=f it (by simp);refine wpAny_pyNext_enum_item h1 h2 p.isList (x:=u) (by simpa using W) B λa3 U L hT a2 hk=>⟨_,rfl,?_⟩;refine wpAny_letOwnedTupleGo_enum U λG F y=>?_;have elt:e<s.heap.objs.size:=zI h1;have a1:it<s.heap.objs.size:=by obtain⟨_,q,_⟩:=h2;exact zI q
  have Q:G.get? s.heap.objs.size=Z { cls:=.type "tuple",data:=.seq #[.int i s.toks,u] }:=(y.2 _ (kG elt)).trans hT;have D:G.IsListIter it l (i+1):=L.at λo q=>(y.2 it (k9 B)).trans q;refine⟨.ref s.heap.objs.size,BD H s.heap.objs.size (.tup [.int i,x]),Zf (t':=s.toks+1) I (λb o A n2 q=>(y.2 b A).trans (hk b o A n2 q)) fe fi ⟨_,F⟩ (by obtain⟨o,q,_⟩:=D;exact⟨o,q⟩) ?_,rfl,⟨_,x,I.hok.fresh (zo _),λys hy=>by rw[I.Jv hy c];exact hx,rfl,rfl⟩,⟨⟨_,by simpa using F⟩,D⟩,λb a=>?_⟩
  ·exact⟨by show 2<=AB;decide,[.int i s.toks,u],.cons ⟨_,rfl⟩ (.cons S .nil),_,Q,rfl,⟨_,rfl⟩,rfl⟩
  ·rcases ba.mp a with rfl|a
   ·rw[aR (ZO elt)];exact fe.1
   ·cases ag.mp a;rw[aR (ZO a1)];exact fi.1
 done:=by
  intro X j t g C i AO s σ H E I f st m;subst j t g;obtain⟨⟨old,h1⟩,h2⟩:=st;obtain⟨xs,c,hx⟩:=m;obtain⟨AS,n,p,N⟩:=I.list c;obtain⟨f0,f1,f2,f3,J,M⟩:=f it (by simp);have hl:=n.length;exact wpAny_pyNext_enum_end (I.ok.hd C) h1 h2 p.isList (by simp;omega) λh' eb=>⟨rfl,I.turned (t':=s.toks) (λb o a e=>eb b o a e) f0 f1 f3 J M⟩
 self:=λ_ _ _ _ _ st h=>by
  obtain⟨⟨old,h1⟩,_⟩:=st;exact yv h1 h
def Eb(ds:O Dt):O Dt:=(dc ds.length).zipWith (λk d=>.tup [.int (k:Nat),d]) ds
theorem OD(ds:O Dt):(Eb ds).length=ds.length:=by simp[Eb]
theorem mi{d:Dt}(h:(Eb ds)[i]?=Z d):∃c,ds[i]?=Z c/\d=.tup [.int (i:Nat),c]:=by
 have hi:i<ds.length:=by
  have:=(bj.mp h).1;rwa [OD]at this
 refine⟨ds[i],by simp[hi],?_⟩;unfold Eb at h;rw[nf]at h;simp[hi]at h;exact h.symm
theorem B9.enum(h:tH K Hs l vs)(r:aP K Hs ds vs):B9 K (LG K l) (Eb ds) Hs:=λi H s=>by
 have h':=s.seq h;have f:=r.kp (.of s);refine⟨λd e=>?_,λe=>⟨vs,h',by rw[OD]at e;rw[r.length];exact e⟩⟩;obtain⟨c,g,rfl⟩:=mi e;obtain⟨v,ev,j⟩:=f.get g;refine⟨⟨vs,v,h',ev⟩,λx H' y=>?_⟩;obtain⟨p,m,hp,k,rfl,rfl⟩:=y;have:=k vs h';rw[ev]at this;cases this;have a:AW H (BD H p (.tup [.int (i:Nat),v])):=λb o q=>by rw[aR (cJ q hp)];exact q
 refine⟨a,?_⟩;simp only[AX];exact⟨p,_,rfl,.inl (.inl bK),aP.cons (by simp only[AX]) (aP.cons (AX.kp (.of a) j) aP.nil)⟩
section
variable{p:Pos}{fs:Ev->Y (O Bx)}
def iL(K:BA)(ta:TA):TI:=λσ H R=>ta σ H λvs H1=>∃l,vs=[.ref l]/\(∃xs,tH K H1 l xs)/\R (LG K l) H1
theorem Zg{ta:TA}(g:Gl X "enumerate")(i:X.mg "enumerate"=Y3)(j:PA X [e] ta)(hs:AA [e] X.env=[(false,eval e X.env)]:=by rfl):PI X (.Tuple elts x1 tpos) (.Call (.Name "enumerate" p) [e] [] pos) (iL X.K ta):=by
 intro AO s σ H R I h;refine Call_ (yI I g i boot_enumerate (PyProof.Rows.callWith_type1 (jQ (j pos AO s σ H _ I h) λus s1 ⟨vs,H1,I1,r1,q1⟩=>?_) hs Y2));obtain⟨l,rfl,⟨xs,k⟩,q⟩:=q1;obtain⟨u,rfl,m⟩:=BG r1;cases m;obtain⟨AS,t,p,o⟩:=I1.list k;refine call_enumerate_list p.isList λh' c f n hk=>?_;refine yv c ?_;refine⟨s1.heap.objs.size+1,[s1.heap.objs.size+1,s1.heap.objs.size],_,_,H1,rfl,I1.kept (t':=s1.toks) hk,sj l _ _ (kG (k6 _)),⟨⟨_,c⟩,f⟩,λb a=>?_,q⟩;rcases ba.mp a with rfl|a
 ·exact I1.Ti (KG _) (I1.hok.fresh (KG _))
 ·cases ag.mp a;exact I1.Ti (zo _) (I1.hok.fresh (zo _))
def Uy:O Bx->Y (O Dt)
 |[b]=>(vV b).bind λds=>Z (Eb ds)
 |_=>Y3
theorem WS(g:Gl X "enumerate")(h:X.mg "enumerate"=Y3)(j:FI X [e] fs)(hs:AA [e] X.env=[(false,eval e X.env)]:=by rfl):ML X (.Tuple elts x1 tpos) (.Call (.Name "enumerate" p) [e] [] pos) (λρ=>(fs ρ).bind Uy):=λAO s σ H R I q=>by
 refine Zg g h j hs AO s σ H R I ?_;obtain⟨H0,ρ,ds,E,e,q⟩:=q;obtain⟨bs,eb,e⟩:=AU e;refine⟨H0,ρ,bs,E,eb,λvs H1 f i=>?_⟩;unfold Uy at e;split at e
 ·rename_i b;obtain⟨m,l,e⟩:=AU e;cases e;obtain⟨v,rfl,k⟩:=BT i;obtain⟨a,c,rfl,sq,rs⟩:=k.Mw l;exact⟨a,rfl,⟨c,sq⟩,q _ _ f (.enum sq rs)⟩
 ·cases e
def Uz:O Bx->Y (O Dt)
 |[.z (.lst ds)]=>Z (Eb ds)
 |_=>Y3
theorem wy(i:Gl X "enumerate")(j:X.mg "enumerate"=Y3)(l:FI X [e] fs)(hs:AA [e] X.env=[(false,eval e X.env)]:=by rfl):L6 X (.Tuple elts x1 tpos) (.Call (.Name "enumerate" p) [e] [] pos) (λρ=>(fs ρ).bind Uz):=λAO s σ H R I q=>by
 refine Zg i j l hs AO s σ H R I ?_;obtain⟨H0,ρ,ds,E,e,q⟩:=q;obtain⟨bs,eb,e⟩:=AU e;refine⟨H0,ρ,bs,E,eb,λvs H1 h k=>?_⟩;unfold Uz at e;split at e
 ·rename_i n;cases e;obtain⟨v,rfl,c⟩:=BT k;simp only[bH,AX]at c;obtain⟨a,g,rfl,b,rs⟩:=c;refine⟨a,rfl,⟨g,b.sq⟩,q _ _ h λHs hs t f m=>.enum ?_ (rs.part f m)⟩;rcases b with⟨o,b⟩|b
  ·exact .inl (.inr ⟨o,(f _ _ _ b).trans b⟩)
  ·exact .inr b
 ·cases e
theorem VX(b:Gl X "enumerate")(c:X.mg "enumerate"=Y3)(a:YQ X [e] fs)(hs:AA [e] X.env=[(false,eval e X.env)]:=by rfl):FX X (.Tuple elts x1 tpos) (.Call (.Name "enumerate" p) [e] [] pos) (λρ=>(fs ρ).bind Uy):=⟨WS b c a.run hs⟩
theorem ZB(b:Gl X "enumerate")(c:X.mg "enumerate"=Y3)(a:YQ X [e] fs)(hs:AA [e] X.env=[(false,eval e X.env)]:=by rfl):Do X (.Tuple elts x1 tpos) (.Call (.Name "enumerate" p) [e] [] pos) (λρ=>(fs ρ).bind Uz):=⟨wy b c a.run hs⟩
end
section
variable{ek ev:Expr}{fk:Ev->Y Bx}
def GG:Ev->Y Ap:=λ_=>Y3
theorem Q5:Co X st GG:=⟨λD AO s σ H I q=>by
 obtain⟨H0,ρ,r,E,e,q⟩:=q;cases e⟩
end
section
variable{st:Expr}{fs:Ev->Y Bx}
end
theorem WU{t:A2}{xs:Array A0}{x:A0}(hi:s.heap.IsTupleIter it t i)(e:s.heap.IsTuple t xs)(hx:xs[i]?=Z x)(b:∀h',h'.IsTupleIter it t (i+1)->Heap.SameBut it s.heap h'->Q x { s with heap:=h' }):A8 (A9 prog w) A (Builtin.SmallTypes.nextOf (.ref it)) Q E s:=by
 obtain⟨o,a,c,hd⟩:=id hi;obtain⟨p,hp,_,n,f⟩:=e;unfold Builtin.SmallTypes.nextOf;refine zb (jI (name:=Str.ofString "__next__") hi.typeIs kF (jb kF hi.typeIs F.entry_tuple_iterator_next ?_ (F.args_tuple_iterator_next_1 _)));show A8 _ _ (field (.ref it) 0 >>= _) _ _ s;refine zb (jn a hd (x:=.ref t) Y2 ?_);show A8 _ _ (if(Value.ref t==Value.none)=true then _ else _) _ _ s;rw[zv (show ¬ ((Value.ref t==Value.none)=true) from zC)];show A8 _ _ (field (.ref it) 1 >>= _) _ _ s;refine zb (jn a hd (x:=.int i 0) Y2 ?_);show A8 _ _ (seqItems? (.ref t) >>= _) _ _ s;refine zb (wpAny_seqItems hp f ?_);simp only[jv,hx];refine zb (wpAny_setField a hd (by simp) (ze ⟨x,rfl,ze (b _ ?_ (JI ..))⟩));exact⟨_,Heap.get?_update_self _ a (Obj.isFreed_of_fields (Obj.data_mapFields hd _)),(Obj.cls_mapFields ..).trans c,by rw[Obj.data_mapFields hd];simp[rawInt]⟩
theorem Xd{t:A2}{xs:Array A0}(c:A.handled=Y3)(hi:s.heap.IsTupleIter it t i)(f:s.heap.IsTuple t xs)(hx:xs[i]?=Y3)(h:∀h' e,Heap.ExtBut it s.heap h'->(∃o,h'.get? e=Z o/\o.cls=.type "StopIteration")->E (.ref e) { s with heap:=h' }):A8 (A9 prog w) A (Builtin.SmallTypes.nextOf (.ref it)) Q E s:=by
 obtain⟨o,b,j,hd⟩:=id hi;obtain⟨p,hp,_,n,g⟩:=f;unfold Builtin.SmallTypes.nextOf;refine zb (jI (name:=Str.ofString "__next__") hi.typeIs kF (jb kF hi.typeIs F.entry_tuple_iterator_next ?_ (F.args_tuple_iterator_next_1 _)));show A8 _ _ (field (.ref it) 0 >>= _) _ _ s;refine zb (jn b hd (x:=.ref t) Y2 ?_);show A8 _ _ (if(Value.ref t==Value.none)=true then _ else _) _ _ s;rw[zv (show ¬ ((Value.ref t==Value.none)=true) from zC)];show A8 _ _ (field (.ref it) 1 >>= _) _ _ s;refine zb (jn b hd (x:=.int i 0) Y2 ?_);show A8 _ _ (seqItems? (.ref t) >>= _) _ _ s;refine zb (wpAny_seqItems hp g ?_);simp only[jv,hx];refine zb (QN (zb (wpAny_setField b hd (by simp) ?_)));show A8 _ _ (newExc (.type "StopIteration") [] >>= _) _ _ _;refine zb ?_;simp only[newExc,newTuple];refine zb (QY ?_ (by size_fits));refine zb (m:=firstArgMember _ _) (wpAny_of_eq (a:=Value.none) (by first|rfl|(simp only[firstArgMember];rfl)) ?_);refine QY ?_ (by size_fits);simp only[raiseNew];refine zb (wpAny_handled ?_)
 first|rw[show A.in1.handled=Y3 from c]|rw[c]
 refine zb (ze (wpAny_throw ?_));exact h _ _ (((JI ..).extBut.push _).push _) ⟨_,zD _ rfl,rfl⟩
theorem ad{a b:Nat}(h:a≠b):@Ne A2 a b:=h
section
variable{K:Type} [DecidableEq K] {knd:KeyKind prog w K}
end
section
variable{ea eb:Expr}{p1 pos1 pos2:Pos}
end
theorem m9(xs:B5)(is:O Nat)(b:closureFor scope X.env=pure cl:=by with_unfolding_all rfl)(c:scope.kind=.function:=by rfl)(f:scope.names.all (λy=>decide (y.2≠.cell)||(cl.lookup y.1).isNone)=true:=by rfl)(e:scope.names.all (λy=>decide (y.2=.local->scope.names.lookup y.1=Z .local))=true:=by decide +kernel)(sub:CF X.env.cells cl:=by repeat (first|exact trivial|refine⟨rfl,?_⟩))(has:(relabel scope X.env).names.all (λy=>!(y.2==.cell||y.2==.free)||(cl.lookup y.1).isSome||scope.names.contains (y.1,.cell))=true:=by rfl)(a:Mx X scope cl xs is:=by repeat (first|exact mn|refine dv Y2 (by first|exact .inl rfl|exact .inr Y2) (by first|exact .inl rfl|exact .inr Y2) ⟨_,rfl⟩ ?_)):wU X scope cl xs is:=sn b c f e sub has a
theorem gC{a:Scope}(h1:a.kind=.function:=by rfl)(h2:a.isCoroutine=false:=by rfl)(c:a.isGenerator=false:=by rfl)(f:N.Nodup:=by decide +kernel)(b:N.take ps.length=ps:=by rfl)(g:∀x∈ps,a.names.lookup x=Z .local\/a.names.lookup x=Z .cell:=by decide +kernel)(e:∀y∈a.names,y.2≠.free:=by decide +kernel):aW N ps a:=⟨h1,h2,c,f,b,g,e⟩
instance:Inhabited Dt:=⟨.non⟩
theorem B4(a:α)(f:α->Y β):(Z a).bind f=f a:=(y8 a f).trans (Eq.refl _)
def B0:Y Prop->Prop
 |none=>True
 |some p=>p
def bD:Y Prop->Y Prop->Y Prop
 |none,q=>q
 |some p,Y3=>Z p
 |some p,Z q=>Z (p/\q)
def Cr(c:Prop):Y Prop->Y Prop
 |none=>Y3
 |some p=>Z (c->p)
theorem aC{p q:Y Prop}(h:B0 (bD p q)):B0 p/\B0 q:=by
 cases p with
 |none=>exact⟨trivial,h⟩
 |some p=>cases q with
  |none=>exact⟨h,trivial⟩
  |some q=>exact h
theorem jz{c:Prop}{p:Y Prop}(h:B0 (Cr c p))(a:c):B0 p:=by
 cases p with
 |none=>trivial
 |some p=>exact h a
structure R {α β:Type} (f:Ev->Option β) (ρ:Ev) (c:α->β) where
 v:α
 D:Option Prop
 ok:B0 D->f ρ=some (c v)
abbrev zE(e:α->Dt):α->Bx:=λa=>.z (e a)
abbrev oE(e:α->Dt):O α->Bx:=λxs=>.o (xs.map e)
abbrev lE(e:α->Dt):O α->Bx:=λxs=>.l (xs.map e)
abbrev tE:Bool->Bool:=λb=>b
abbrev iE(e:α->Dt):O α->O Dt:=λxs=>xs.map e
abbrev eI:Int->Dt:=Dt.int
abbrev eB:Bool->Dt:=Dt.bl
abbrev eS:AK->Dt:=Dt.str
abbrev eD:Dt->Dt:=λd=>d
abbrev eN:Unit->Dt:=λ_=>.non
abbrev eL(e:α->Dt):O α->Dt:=λxs=>.lst (xs.map e)
abbrev eT(e:α->Dt):O α->Dt:=λxs=>.tup (xs.map e)
abbrev eO(e:α->Dt):Y α->Dt:=λo=>match o with|none=>.non|some a=>e a
abbrev MU(a:α->Dt):α->Dt:=λx=>.tup [a x]
abbrev Xe(a:α->Dt)(b:β->Dt):α×β->Dt:=λx=>.tup [a x.1,b x.2]
abbrev D3(a:α->Dt)(b:β->Dt)(c:γ->Dt):α×β×γ->Dt:=λx=>.tup [a x.1,b x.2.1,c x.2.2]
abbrev F2(a:α->Dt)(b:β->Dt)(c:γ->Dt)(d:δ->Dt):α×β×γ×δ->Dt:=λx=>.tup [a x.1,b x.2.1,c x.2.2.1,d x.2.2.2]
structure RL {α:Type} (f:Ev->Option Bx) (ρ:Ev) (e:α->Dt) where
 v:List α
 D:Option Prop
 b:Bx
 lk:vV b=some (v.map e)
 ok:B0 D->f ρ=some b
section
variable{fs:Ev->Y (O Bx)}{e:α->Dt}{e':β->Dt}
def jk(a:R f ρ (oE e)):RL f ρ e:=⟨a.v,a.D,_,rfl,a.ok⟩
def ni(a:R f ρ (lE e)):RL f ρ e:=⟨a.v,a.D,_,rfl,a.ok⟩
def GA(a:R f ρ (zE (eL e))):RL f ρ e:=⟨a.v,a.D,_,rfl,a.ok⟩
def Lp(b:Bx)(ds:O Dt):Prop:=b=.z (.lst ds)\/b=.l ds
theorem Lp.Mw(h:Lp b ds):vV b=Z ds:=by rcases h with rfl|rfl<;>rfl
theorem Lp.get{b:Bx}{ds:O Dt}{i:Nat}(h:Lp b ds)(hi:ρ[i]?=Z (Z b)):Ig ρ i=Z b:=by
 rcases h with rfl|rfl<;>(unfold Ig;rw[hi])
theorem Ed(h:vV b=Z ds):Lp (P1.B7 b) ds:=by
 cases b with
 |z d=>cases d<;>cases h;exact .inl rfl
 |l d=>cases h;exact .inr rfl
 |o d=>cases h;exact .inr rfl
 |n d=>cases h
 |m d _=>cases h
def ao(i:Nat)(c:α->Bx)(a:α)(h:Ig ρ i=Z (c a)):R (gv i) ρ c:=⟨a,Y3,λ_=>h⟩
def lN(i:Nat)(e:α->Dt)(a:O α)(h:Lp b (a.map e))(hi:ρ[i]?=Z (Z b)):RL (gv i) ρ e:=⟨a,Y3,b,h.Mw,λ_=>h.get hi⟩
def rQ(d:Dt)(e:α->Dt)(a:α)(h:d=e a):R (cB d) ρ (zE e):=⟨a,Y3,λ_=>by rw[h];rfl⟩
def o7(a:R f ρ (zE e)):R f ρ (zE eD):=⟨e a.v,a.D,a.ok⟩
def J6(a:R f ρ (zE e)):R f ρ (zE (eO e)):=⟨Z a.v,a.D,a.ok⟩
def Q6:R (cB .non) ρ (zE (eO e)):=⟨Y3,Y3,λ_=>Y2⟩
def UG[Inhabited α](a:R f ρ (zE (eO e))):R f ρ (zE e):=⟨a.v.getD default,bD a.D (Z (a.v.isSome=true)),λh=>by
 obtain⟨h1,h2⟩:=aC h;rw[a.ok h1];have h2:a.v.isSome=true:=h2;cases b:a.v with
 |none=>rw[b]at h2;cases h2
 |some x=>rfl⟩
def Ff(a:R f ρ (oE e)):R (b1 tL f) ρ (zE (eL e)):=⟨a.v,a.D,λh=>by simp only[b1,a.ok h,B4,tL]⟩
def fQ(a:R f ρ (zE e)):R (b1 tL f) ρ (zE e):=⟨a.v,a.D,λh=>by simp only[b1,a.ok h,B4,tL]⟩
def SE(a:R f ρ (zE eI)):R (b1 FG f) ρ (zE eI):=⟨-a.v,a.D,λh=>by simp only[b1,a.ok h,B4,FG]⟩
def iY(a:R fa ρ (zE eI))(b:R fb ρ (zE eI)):R (b2 eY fa fb) ρ (zE eI):=⟨a.v+b.v,bD a.D b.D,λh=>by
 obtain⟨h1,h2⟩:=aC h;simp only[b2,a.ok h1,b.ok h2,B4,eY]⟩
def LL(a:R fa ρ (zE eI))(b:R fb ρ (zE eI)):R (b2 F6 fa fb) ρ (zE eI):=⟨a.v-b.v,bD a.D b.D,λh=>by
 obtain⟨h1,h2⟩:=aC h;simp only[b2,a.ok h1,b.ok h2,B4,i2]⟩
def HE(a b:Int):Prop:=(-18446744073709551616<a/\a<18446744073709551616)\/(-18446744073709551616<b/\b<18446744073709551616)
def OU(a:R fa ρ (zE eI))(b:R fb ρ (zE eI)):R (b2 DP fa fb) ρ (zE eI):=⟨a.v*b.v,bD (bD a.D b.D) (Z (HE a.v b.v)),λh=>by
 obtain⟨h,c⟩:=aC h;obtain⟨h1,h2⟩:=aC h;simp only[b2,a.ok h1,b.ok h2,B4];exact zh c⟩
def Xf(n:Int)(a : -18446744073709551616<n/\n<18446744073709551616)(b:R fb ρ (zE eI)):R (b2 DP (cB (.int n)) fb) ρ (zE eI):=⟨n*b.v,b.D,λh=>by
 simp only[b2,b.ok h,B4,cB];exact zh (.inl a)⟩
def Zh(a:R fa ρ (zE eI))(n:Int)(b : -18446744073709551616<n/\n<18446744073709551616):R (b2 DP fa (cB (.int n))) ρ (zE eI):=⟨a.v*n,a.D,λh=>by
 simp only[b2,a.ok h,B4,cB];exact zh (.inr b)⟩
def il(a:R fa ρ (zE eI))(b:R fb ρ (zE eI)):R (b2 qm fa fb) ρ (zE eI):=⟨a.v / b.v,bD (bD a.D b.D) (Z (0<b.v/\b.v<1073741824)),λh=>by
 obtain⟨h,c⟩:=aC h;obtain⟨h1,h2⟩:=aC h;have c:0<b.v/\b.v<1073741824:=c;simp only[b2,a.ok h1,b.ok h2,B4,i2,zh c]⟩
def kO(a:R fa ρ (zE eI))(n:Int)(b:0<n/\n<1073741824):R (b2 qm fa (cB (.int n))) ρ (zE eI):=⟨a.v / n,a.D,λh=>by
 simp only[b2,a.ok h,B4,i2,cB,zh b]⟩
def Ic(a:R fa ρ (zE eI))(b:R fb ρ (zE eI)):R (b2 kJ fa fb) ρ (zE eI):=⟨a.v%b.v,bD (bD a.D b.D) (Z (0<b.v)),λh=>by
 obtain⟨h,c⟩:=aC h;obtain⟨h1,h2⟩:=aC h;have c:0<b.v:=c;simp only[b2,a.ok h1,b.ok h2,B4,i2,zh c]⟩
def d8(a:R fa ρ (zE eI))(n:Int)(b:0<n):R (b2 kJ fa (cB (.int n))) ρ (zE eI):=⟨a.v%n,a.D,λh=>by
 simp only[b2,a.ok h,B4,i2,cB,zh b]⟩
def Sf(a b:Int)(n:Nat)(h:0<=b/\b<=1000/\a.natAbs<18446744073709551616)(c:b.toNat=n):R (b2 MZ (cB (.int a)) (cB (.int b))) ρ (zE eI):=⟨a ^ n,Y3,λ_=>by
 simp only[b2,B4,cB];show((if 0<=b/\b<=1000/\a.natAbs<2 ^ 64 then Z (Dt.int (a ^ b.toNat))else Y3).bind λd=>Z (Bx.z d))=_;rw[zh h,c];rfl⟩
def UJ(a:R fa ρ (zE eI))(b:R fb ρ (zE eI)):R (b2 DT fa fb) ρ (zE eB):=⟨decide (a.v<=b.v),bD a.D b.D,λh=>by
 obtain⟨h1,h2⟩:=aC h;simp only[b2,a.ok h1,b.ok h2,B4,i2]⟩
def NF(a:R fa ρ (zE eI))(b:R fb ρ (zE eI)):R (b2 HH fa fb) ρ (zE eB):=⟨decide (b.v<a.v),bD a.D b.D,λh=>by
 obtain⟨h1,h2⟩:=aC h;simp only[b2,a.ok h1,b.ok h2,B4,i2]⟩
def Dx(a:R fa ρ (zE eI))(b:R fb ρ (zE eI)):R (b2 FM fa fb) ρ (zE eB):=⟨decide (b.v<=a.v),bD a.D b.D,λh=>by
 obtain⟨h1,h2⟩:=aC h;simp only[b2,a.ok h1,b.ok h2,B4,i2]⟩
def Pt(a:R fa ρ (zE eI))(b:R fb ρ (zE eI)):R (b2 Y8 fa fb) ρ (zE eB):=⟨decide (a.v<b.v),bD a.D b.D,λh=>by
 obtain⟨h1,h2⟩:=aC h;simp only[b2,a.ok h1,b.ok h2,B4,Y8]⟩
def Cu(x y:AK):Bool:=decide (x.cps.toList<y.cps.toList)
def fA(a:R fa ρ (zE eS))(b:R fb ρ (zE eS)):R (b2 Y8 fa fb) ρ (zE eB):=⟨Cu a.v b.v,bD a.D b.D,λh=>by
 obtain⟨h1,h2⟩:=aC h;simp only[b2,a.ok h1,b.ok h2,B4,Y8,Cu]⟩
end
class BF {α:Type} [DecidableEq α] (e:α->Dt) (n:outParam Nat):Prop where
 eq:∀a b,DN (e a) (e b)=some (decide (a=b))
 dp:∀a,Bu (e a)<=n
class D8 {α:Type} (e:α->Dt):Prop where
 l:∀a,DN .non (e a)=some false
 r:∀a,DN (e a) .non=some false
instance:BF eI 1:=⟨λa b=>rfl,λa=>by simp[Bu]⟩
instance:BF eB 1:=⟨λa b=>rfl,λa=>by simp[Bu]⟩
instance:BF eS 1:=⟨λa b=>rfl,λa=>by simp[Bu]⟩
instance:D8 eI:=⟨λa=>rfl,λa=>rfl⟩
instance:D8 eB:=⟨λa=>rfl,λa=>rfl⟩
instance:D8 eS:=⟨λa=>rfl,λa=>rfl⟩
section
variable [DecidableEq α] [DecidableEq β] [DecidableEq γ] [DecidableEq δ] {e:α->Dt}{e':β->Dt}{e'':γ->Dt}{e3:δ->Dt}{l:Nat}
theorem J7[BF e n]:∀xs ys:O α,o9 (xs.map e) (ys.map e)=Z (decide (xs=ys))
 |[],[]=>by simp[o9]
 |[],y::ys=>by simp[o9]
 |x::xs,[]=>by simp[o9]
 |x::xs,y::ys=>by
  simp only[zw,o9,BF.eq,J7 xs ys];congr 1;by_cases h:x=y<;>by_cases h':xs=ys<;>simp[h,h']
theorem J8[BF e n]:∀xs:O α,DK (xs.map e)<=n
 |[]=>by simp[DK]
 |x::xs=>by
  have:=BF.dp (e:=e) x;have:=J8 xs;simp only[zw,DK];omega
instance [BF e n]:BF (eL e) (n+1):=⟨λa b=>J7 a b,λa=>by simp only[Bu];have:=J8 (e:=e) a;omega⟩
instance [BF e n]:BF (eT e) (n+1):=⟨λa b=>J7 a b,λa=>by simp only[Bu];have:=J8 (e:=e) a;omega⟩
instance:D8 (eL e):=⟨λa=>rfl,λa=>rfl⟩
instance:D8 (eT e):=⟨λa=>rfl,λa=>rfl⟩
instance:D8 (MU e):=⟨λa=>rfl,λa=>rfl⟩
instance:D8 (Xe e e'):=⟨λa=>rfl,λa=>rfl⟩
instance:D8 (D3 e e' e''):=⟨λa=>rfl,λa=>rfl⟩
instance:D8 (F2 e e' e'' e3):=⟨λa=>rfl,λa=>rfl⟩
instance [BF e n]:BF (MU e) (n+1):=⟨λa b=>by
 simp only[Jd,o9,BF.eq,KF],λa=>by
 have:=BF.dp (e:=e) a;simp only[Bu,DK];omega⟩
theorem FY{a b:Nat}(h:a<=n)(h':b<=m):max a b<=max n m:=Nat.max_le.mpr ⟨zl h (Nat.le_max_left ..),zl h' (Nat.le_max_right ..)⟩
theorem Mb{a:Nat}(h:a<=n):max a 0<=n:=Nat.max_le.mpr ⟨h,ZT _⟩
instance [BF e n] [BF e' m]:BF (Xe e e') (max n m+1):=⟨λa b=>by
 obtain⟨a,a'⟩:=a;obtain⟨b,b'⟩:=b;simp only[Jd,o9,BF.eq,yT,mu,KF],λa=>KA (FY (BF.dp (e:=e) a.1) (Mb (BF.dp (e:=e') a.2)))⟩
instance [BF e n] [BF e' m] [BF e'' k]:BF (D3 e e' e'') (max n (max m k)+1):=⟨λa b=>by
 obtain⟨a,a',a2⟩:=a;obtain⟨b,b',b2⟩:=b;simp only[Jd,o9,BF.eq,yT,mu,KF],λa=>KA (FY (BF.dp (e:=e) a.1) (FY (BF.dp (e:=e') a.2.1) (Mb (BF.dp (e:=e'') a.2.2))))⟩
instance [BF e n] [BF e' m] [BF e'' k] [BF e3 l]:BF (F2 e e' e'' e3) (max n (max m (max k l))+1):=⟨λa b=>by
 obtain⟨a,a',a2,a3⟩:=a;obtain⟨b,b',b2,b3⟩:=b;simp only[Jd,o9,BF.eq,yT,mu,KF],λa=>KA (FY (BF.dp (e:=e) a.1) (FY (BF.dp (e:=e') a.2.1) (FY (BF.dp (e:=e'') a.2.2.1) (Mb (BF.dp (e:=e3) a.2.2.2)))))⟩
instance [BF e n] [D8 e]:BF (eO e) (n+1):=⟨λa b=>by
 cases a with
 |none=>cases b with
  |none=>exact rfl
  |some b=>exact(D8.l (e:=e) b).trans (by simp)
 |some a=>cases b with
  |none=>exact(D8.r (e:=e) a).trans (by simp)
  |some b=>exact(BF.eq (e:=e) a b).trans (by simp),λa=>by
 cases a with
 |none=>show Bu .non<=n+1;simp[Bu]
 |some a=>exact q7 (BF.dp (e:=e) a)⟩
end
section
variable{fs:Ev->Y (O Bx)}{e:α->Dt}{e':β->Dt}
def C5[DecidableEq α][BF e n](c:n<=100)(a:R fa ρ (zE e))(b:R fb ρ (zE e)):R (b2 C8 fa fb) ρ (zE eB):=⟨decide (a.v=b.v),bD a.D b.D,λh=>by
 obtain⟨h1,h2⟩:=aC h;have:=BF.dp (e:=e) a.v;simp only[b2,a.ok h1,b.ok h2,B4,C8,oX,toD,z5,or_self,Qb,BF.eq];rw[zh ()]⟩
def UL[DecidableEq α][BF e n](c:n<=100)(a:R fa ρ (zE e))(b:R fb ρ (zE e)):R (b2 Wy fa fb) ρ (zE eB):=⟨!decide (a.v=b.v),bD a.D b.D,λh=>by
 obtain⟨h1,h2⟩:=aC h;have:=BF.dp (e:=e) a.v;simp only[b2,a.ok h1,b.ok h2,B4,Wy,oX,toD,z5,or_self,Qb,BF.eq];rw[zh ()]⟩
def Ms(a b:Dt):Bool:=(DN a b).getD false
def Zi(a b:Dt):Prop:=(DN a b).isSome=true/\min (Bu a) (Bu b)<=100
def UW(a:R fa ρ (zE eD))(b:R fb ρ (zE eD)):R (b2 C8 fa fb) ρ (zE eB):=⟨Ms a.v b.v,bD (bD a.D b.D) (Z (Zi a.v b.v)),λh=>by
 obtain⟨h,c⟩:=aC h;obtain⟨h1,h2⟩:=aC h;obtain⟨c,e⟩:Zi a.v b.v:=c;simp only[b2,a.ok h1,b.ok h2,B4,C8,oX,toD,z5,or_self,Qb,zh e];cases hd:DN a.v b.v with
 |none=>rw[hd]at c;cases c
 |some k=>simp only[Ms,hd,B4,la];exact zh e⟩
def OL(a:R fa ρ (zE eD))(b:R fb ρ (zE eD)):R (b2 Wy fa fb) ρ (zE eB):=⟨!Ms a.v b.v,bD (bD a.D b.D) (Z (Zi a.v b.v)),λh=>by
 obtain⟨h,c⟩:=aC h;obtain⟨h1,h2⟩:=aC h;obtain⟨c,e⟩:Zi a.v b.v:=c;simp only[b2,a.ok h1,b.ok h2,B4,Wy,oX,toD,z5,or_self,Qb,zh e];cases hd:DN a.v b.v with
 |none=>rw[hd]at c;cases c
 |some k=>simp only[Ms,hd,B4,la];exact zh e⟩
def Zj(a:R fa ρ (zE (eO e)))(b:∀x,JQ (.z (e x))=false):R (b2 EU fa (cB .non)) ρ (zE eB):=⟨a.v.isNone,a.D,λh=>by
 simp only[b2,a.ok h,B4,cB,EU];cases c:a.v with
 |none=>rfl
 |some x=>simp only[Option.isNone_some,b]⟩
def Q7(a:R fa ρ (zE (eO e)))(b:∀x,JQ (.z (e x))=false):R (b2 JR fa (cB .non)) ρ (zE eB):=⟨a.v.isSome,a.D,λh=>by
 simp only[b2,a.ok h,B4,cB,JR];cases c:a.v with
 |none=>rfl
 |some x=>simp only[hO,b,yi]⟩
def fu(a:R fa ρ (zE eB))(b:R fb ρ (zE eB)):R (jy fa fb) ρ (zE eB):=⟨a.v&&b.v,bD a.D (Cr (a.v=true) b.D),λh=>by
 obtain⟨h1,h2⟩:=aC h;simp only[jy,a.ok h1,B4,Dr];cases c:a.v with
 |true=>simp only[QP,jd];exact b.ok (jz h2 c)
 |false=>simp only[z5,Qb,gz]⟩
def r8(a:R fa ρ (zE eB)):R (HL fa) ρ (zE eB):=⟨!a.v,a.D,λh=>by simp only[HL,a.ok h,B4,Dr]⟩
def zj(a:R fa ρ (zE eB)):R (tV fa) ρ tE:=⟨a.v,a.D,λh=>by simp only[tV,a.ok h,B4,G1]⟩
def xF(a:R fa ρ (zE eS)):R (tV fa) ρ tE:=⟨decide (a.v.length≠0),a.D,λh=>by
 simp only[tV,a.ok h,B4,G1];congr 1;exact Bool.eq_iff_iff.mpr (by simp)⟩
def f9{g:Bx->Bx->Y Bx}(a:R (b2 g fa fb) ρ (zE eB)):R (Bk g fa fb) ρ tE:=⟨a.v,a.D,λh=>by simp only[Bk,a.ok h,B4,Dr]⟩
def sr{g g':Bx->Bx->Y Bx}(a:R (DZ g g' fa fb fc) ρ (zE eB)):R (Lc g g' fa fb fc) ρ tE:=⟨a.v,a.D,λh=>by simp only[Lc,a.ok h,B4,Dr]⟩
def XB(a:R p ρ tE)(b:R q ρ tE):R (GE p q) ρ tE:=⟨a.v&&b.v,bD a.D (Cr (a.v=true) b.D),λh=>by
 obtain⟨h1,h2⟩:=aC h;simp only[GE,a.ok h1,B4];cases c:a.v with
 |true=>simp only[QP,jd];exact b.ok (jz h2 c)
 |false=>simp only[z5,Qb,gz]⟩
def U0(a:R p ρ tE)(b:R q ρ tE):R (D5 p q) ρ tE:=⟨a.v||b.v,bD a.D (Cr (a.v=false) b.D),λh=>by
 obtain⟨h1,h2⟩:=aC h;simp only[D5,a.ok h1,B4];cases c:a.v with
 |true=>simp only[QP,Bool.true_or]
 |false=>simp only[z5,Qb,nv];exact b.ok (jz h2 c)⟩
def wk(a:R p ρ tE):R (Bj p) ρ tE:=⟨!a.v,a.D,λh=>by simp only[Bj,a.ok h,B4]⟩
def Hc{g g':Bx->Bx->Y Bx}(a:R (b2 g fa fb) ρ (zE eB))(b:R (b2 g' fb fc) ρ (zE eB)):R (DZ g g' fa fb fc) ρ (zE eB):=⟨a.v&&b.v,bD a.D (Cr (a.v=true) b.D),λh=>by
 obtain⟨h1,e⟩:=aC h;have e1:=a.ok h1;simp only[b2]at e1;obtain⟨x,ex,e1⟩:=AU e1;obtain⟨y,c,e1⟩:=AU e1;simp only[DZ,ex,c,B4,e1,Dr];cases f:a.v with
 |true=>
  have e2:=b.ok (jz e f);simp only[b2,c,B4]at e2;simp only[QP,jd];exact e2
 |false=>simp only[z5,Qb,gz]⟩
def L4{c:α->Bx}(t:R p ρ tE)(a:R fa ρ c)(b:R fb ρ c):R (FR p fa fb) ρ c:=⟨if t.v=true then a.v else b.v,bD t.D (bD (Cr (t.v=true) a.D) (Cr (t.v=false) b.D)),λh=>by
 obtain⟨h1,h2⟩:=aC h;obtain⟨h2,f⟩:=aC h2;simp only[FR,t.ok h1,B4];cases e:t.v with
 |true=>simp only[QP];exact a.ok (jz h2 e)
 |false=>simp only[z5,Qb];exact b.ok (jz f e)⟩
end
section
variable{ε:Type}{fd:Ev->Y Bx}{fs:Ev->Y (O Bx)}{e:α->Dt}{e':β->Dt}{e'':γ->Dt}{e3:δ->Dt}
def Xg(a:R fa ρ (zE e)):R (dh mC (aq fa aG)) ρ (zE (MU e)):=⟨a.v,a.D,λh=>by
 simp only[dh,aq,aG,a.ok h,B4];rfl⟩
def Gr(a:R fa ρ (zE e))(b:R fb ρ (zE e')):R (dh mC (aq fa (aq fb aG))) ρ (zE (Xe e e')):=⟨(a.v,b.v),bD a.D b.D,λh=>by
 obtain⟨h1,h2⟩:=aC h;simp only[dh,aq,aG,a.ok h1,b.ok h2,B4];rfl⟩
def Gs(a:R fa ρ (zE e))(b:R fb ρ (zE e'))(c:R fc ρ (zE e'')):R (dh mC (aq fa (aq fb (aq fc aG)))) ρ (zE (D3 e e' e'')):=⟨(a.v,b.v,c.v),bD a.D (bD b.D c.D),λh=>by
 obtain⟨h1,h⟩:=aC h;obtain⟨h2,f⟩:=aC h;simp only[dh,aq,aG,a.ok h1,b.ok h2,c.ok f,B4];rfl⟩
def gE(a:R fa ρ (zE e))(b:R fb ρ (zE e'))(c:R fc ρ (zE e''))(d:R fd ρ (zE e3)):R (dh mC (aq fa (aq fb (aq fc (aq fd aG))))) ρ (zE (F2 e e' e'' e3)):=⟨(a.v,b.v,c.v,d.v),bD a.D (bD b.D (bD c.D d.D)),λh=>by
 obtain⟨h1,h⟩:=aC h;obtain⟨h2,h⟩:=aC h;obtain⟨g,f⟩:=aC h;simp only[dh,aq,aG,a.ok h1,b.ok h2,c.ok g,d.ok f,B4];rfl⟩
def iI(e:α->Dt):R aG ρ (λxs:O α=>xs.map (zE e)):=⟨[],Y3,λ_=>Y2⟩
def bI(a:R fa ρ (zE e))(t:R fs ρ (λxs:O α=>xs.map (zE e))):R (aq fa fs) ρ (λxs:O α=>xs.map (zE e)):=⟨a.v::t.v,bD a.D t.D,λh=>by
 obtain⟨h1,h2⟩:=aC h;simp only[aq,a.ok h1,t.ok h2,B4,zw]⟩
theorem Ef:∀xs:O α,Qo (xs.map (zE e))=Z (xs.map e)
 |[]=>rfl
 |x::xs=>by simp only[zw,Qo,Ef xs,B4]
def rR(t:R fs ρ (λxs:O α=>xs.map (zE e)))(a:t.v.length<=1000):R (dh vX fs) ρ (oE e):=⟨t.v,t.D,λh=>by
 simp only[dh,t.ok h,B4,vX,zd,zh a,Ef]⟩
def ph(t:R fs ρ (λxs:O α=>xs.map (zE e)))(a:t.v.length<=1000):R (dh mC fs) ρ (zE (eT e)):=⟨t.v,t.D,λh=>by
 simp only[dh,t.ok h,B4,mC,zd,zh a,Ef]⟩
def Q8(t:R fs ρ (λxs:O Dt=>xs.map (zE eD)))(a:t.v.length<=1000):R (dh mC fs) ρ (zE eD):=⟨.tup t.v,t.D,λh=>by
 simp only[dh,t.ok h,B4,mC,zd,zh a,Ef,sh,id]⟩
def Au[Inhabited α](xs:O α)(i:Int):α:=(Ib xs i).getD default
def In(n:Nat)(i:Int):Prop:=-(n:Int)<=i/\i<n
theorem Ae{xs:O α}{i:Int}(h:In xs.length i):∃x,Ib xs i=Z x:=by
 obtain⟨h1,h2⟩:=h;unfold Ib EL;by_cases a:0<=i
 ·rw[zh a,zh h2];exact⟨xs[i.toNat]'(),ZY ()⟩
 ·rw[zv a,zh h1];exact⟨xs[(i+xs.length).toNat]'(),ZY ()⟩
theorem xC{xs:O α}{i:Int}{x:α}(h:Ib xs i=Z x):Ib (xs.map e) i=Z (e x):=by
 unfold Ib at h ⊢;rw[zd];obtain⟨j,a,h⟩:=AU h;rw[a,B4,qv,h];rfl
theorem P3[Inhabited α]{xs:O α}{i:Int}(h:In xs.length i):Ib (xs.map e) i=Z (e (Au xs i)):=by
 obtain⟨x,hx⟩:=Ae h;rw[xC hx];unfold Au;rw[hx];rfl
theorem ox{i:Int}(h:vV b=Z ds):fH b (.z (.int i))=(Ib ds i).bind λd=>Z (.z d):=by
 cases b with
 |z d=>cases d<;>cases h;rfl
 |l d=>cases h;rfl
 |o d=>cases h;rfl
 |n d=>cases h
 |m d _=>cases h
def rT[Inhabited α](a:RL fa ρ e)(b:R fb ρ (zE eI)):R (b2 fH fa fb) ρ (zE e):=⟨Au a.v b.v,bD (bD a.D b.D) (Z (In a.v.length b.v)),λh=>by
 obtain⟨h,c⟩:=aC h;obtain⟨h1,h2⟩:=aC h;simp only[b2,a.ok h1,b.ok h2,B4,ox a.lk,P3 (show In a.v.length b.v from c)]⟩
def OJ[Inhabited α](a:R fa ρ (zE (eT e)))(b:R fb ρ (zE eI)):R (b2 fH fa fb) ρ (zE e):=⟨Au a.v b.v,bD (bD a.D b.D) (Z (In a.v.length b.v)),λh=>by
 obtain⟨h,c⟩:=aC h;obtain⟨h1,h2⟩:=aC h;simp only[b2,a.ok h1,b.ok h2,B4,fH,vB,P3 (show In a.v.length b.v from c)]⟩
def ch(x:AK)(i:Int):AK:=⟨#[(Ib x.cps.toList i).getD 0]⟩
def U4(a:R fa ρ (zE eS))(b:R fb ρ (zE eI)):R (b2 fH fa fb) ρ (zE eS):=⟨ch a.v b.v,bD (bD a.D b.D) (Z (In a.v.length b.v)),λh=>by
 obtain⟨h,c⟩:=aC h;obtain⟨h1,h2⟩:=aC h;obtain⟨x,hx⟩:=Ae (xs:=a.v.cps.toList) (i:=b.v) (show In a.v.length b.v from c);simp only[b2,a.ok h1,b.ok h2,B4,fH,hx,ch,la]⟩
def fX(d:Dt)(i:Int):Dt:=match fH (.z d) (.z (.int i))with|some (.z y)=>y|_=>.non
def Af(d:Dt)(i:Int):Prop:=match d with
 |.tup ds=>In ds.length i
 |.lst ds=>In ds.length i
 |.str x=>In x.length i
 |_=>False
def jJ(a:R fa ρ (zE eD))(b:R fb ρ (zE eI)):R (b2 fH fa fb) ρ (zE eD):=⟨fX a.v b.v,bD (bD a.D b.D) (Z (Af a.v b.v)),λh=>by
 obtain⟨h,e⟩:=aC h;obtain⟨h1,h2⟩:=aC h;have e:Af a.v b.v:=e;simp only[b2,a.ok h1,b.ok h2,B4];show fH (.z a.v) (.z (.int b.v))=Z (.z (fX a.v b.v));unfold fX;cases f:a.v with
 |tup ds=>
  rw[f]at e;obtain⟨x,hx⟩:=Ae (show In ds.length b.v from e);simp only[fH,vB,B4,hx]
 |lst ds=>
  rw[f]at e;obtain⟨x,hx⟩:=Ae (show In ds.length b.v from e);simp only[fH,vB,B4,hx]
 |str x=>
  rw[f]at e;obtain⟨c,hx⟩:=Ae (xs:=x.cps.toList) (show In x.length b.v from e);simp only[fH,B4,hx]
 |non=>rw[f]at e;exact absurd e id
 |bl _=>rw[f]at e;exact absurd e id
 |int _=>rw[f]at e;exact absurd e id
 |emp=>rw[f]at e;exact absurd e id⟩
def jA(a:R fa ρ (zE e))(g:α->β)(e':β->Dt)(i:Int)(h:∀x,fH (.z (e x)) (.z (.int i))=Z (.z (e' (g x)))):R (b2 fH fa (cB (.int i))) ρ (zE e'):=⟨g a.v,a.D,λhd=>by
 simp only[b2,a.ok hd,B4,cB,h]⟩
def BI(xs:O α)(lo hi:Y Int):O α:=(xs.drop (HT.jU xs.length 0 lo)).take (HT.jU xs.length xs.length hi-HT.jU xs.length 0 lo)
theorem Zk(xs:O α)(lo hi:Y Int):CI (xs.map e) lo hi=(BI xs lo hi).map e:=by
 unfold CI BI;rw[zd,List.map_take,List.map_drop]
abbrev pE:Y Int->Y Int:=λo=>o
def Eh:R ji ρ pE:=⟨Y3,Y3,λ_=>Y2⟩
def Ei(a:R fa ρ (zE eI)):R (lG fa) ρ pE:=⟨Z a.v,a.D,λh=>by simp only[lG,a.ok h,B4,L0]⟩
variable{fl fh:Ev->Y (Y Int)}
theorem sv(h:vV b=Z ds):Eg b lo hi=Z (.o (CI ds lo hi)):=by
 cases b with
 |z d=>cases d<;>cases h;rfl
 |l d=>cases h;rfl
 |o d=>cases h;rfl
 |n d=>cases h
 |m d _=>cases h
def FK(a:RL fa ρ e)(l:R fl ρ pE)(u:R fh ρ pE):R (DX fa fl fh) ρ (oE e):=⟨BI a.v l.v u.v,bD a.D (bD l.D u.D),λh=>by
 obtain⟨h1,h⟩:=aC h;obtain⟨h2,b⟩:=aC h;simp only[DX,a.ok h1,l.ok h2,u.ok b,B4,sv a.lk,Zk]⟩
def L3(a:R fa ρ (zE (eT e)))(l:R fl ρ pE)(u:R fh ρ pE):R (DX fa fl fh) ρ (zE (eT e)):=⟨BI a.v l.v u.v,bD a.D (bD l.D u.D),λh=>by
 obtain⟨h1,h⟩:=aC h;obtain⟨h2,b⟩:=aC h;simp only[DX,a.ok h1,l.ok h2,u.ok b,B4,Eg,Zk]⟩
def Zm(a:R fa ρ (zE eS))(l:R fl ρ pE)(u:R fh ρ pE):R (DX fa fl fh) ρ (zE eS):=⟨Txt.slice a.v l.v u.v,bD a.D (bD l.D u.D),λh=>by
 obtain⟨h1,h⟩:=aC h;obtain⟨h2,b⟩:=aC h;simp only[DX,a.ok h1,l.ok h2,u.ok b,B4,Eg]⟩
def MC:Dt->O Dt
 |.tup ds=>ds
 |.lst ds=>ds
 |_=>[]
def TR(a:R fa ρ (zE eD))(l:R fl ρ pE)(u:R fh ρ pE):R (DX fa fl fh) ρ (zE eD):=⟨.tup (BI (MC a.v) l.v u.v),bD (bD a.D (bD l.D u.D)) (Z (As a.v=true)),λh=>by
 obtain⟨h,b⟩:=aC h;obtain⟨h1,h⟩:=aC h;obtain⟨h2,c⟩:=aC h;have b:As a.v=true:=b;simp only[DX,a.ok h1,l.ok h2,u.ok c,B4];cases e:a.v<;>rw[e]at b<;>first|(cases b;done)|rfl⟩
def Ej(n:Nat):Prop:=n<=1000000
def Q9(a:R fa ρ (zE eS))(b:R fb ρ (zE eS)):R (b2 eY fa fb) ρ (zE eS):=⟨a.v++b.v,bD (bD a.D b.D) (Z (Ej (a.v.length+b.v.length))),λh=>by
 obtain⟨h,c⟩:=aC h;obtain⟨h1,h2⟩:=aC h;simp only[b2,a.ok h1,b.ok h2,B4,eY,zh (show a.v.length+b.v.length<=Ua from c)]⟩
def PQ(a:R fa ρ (zE (eT e)))(b:R fb ρ (zE (eT e))):R (b2 eY fa fb) ρ (zE (eT e)):=⟨a.v++b.v,bD (bD a.D b.D) (Z (Ej (a.v.length+b.v.length))),λh=>by
 obtain⟨h,c⟩:=aC h;obtain⟨h1,h2⟩:=aC h;simp only[b2,a.ok h1,b.ok h2,B4,eY,zd,zh (show a.v.length+b.v.length<=Ua from c),zE,eT,qB]⟩
theorem gc{e:Bx}{f:O Dt}(h:vV b=Z ds)(h':vV e=Z f)(c:ds.length+f.length<=Ua):eY b e=Z (.o (ds++f)):=by
 cases b with
 |z d=>
  cases d<;>cases h;cases e with
  |z a=>cases a<;>cases h';exact zh c
  |l a=>cases h';exact zh c
  |o a=>cases h';exact zh c
  |n a=>cases h'
  |m a=>cases h'
 |l d=>
  cases h;cases e with
  |z a=>cases a<;>cases h';exact zh c
  |l a=>cases h';exact zh c
  |o a=>cases h';exact zh c
  |n a=>cases h'
  |m a=>cases h'
 |o d=>
  cases h;cases e with
  |z a=>cases a<;>cases h';exact zh c
  |l a=>cases h';exact zh c
  |o a=>cases h';exact zh c
  |n a=>cases h'
  |m a=>cases h'
 |n d=>cases h
 |m d _=>cases h
def Xh(a:RL fa ρ e)(b:RL fb ρ e):R (b2 eY fa fb) ρ (oE e):=⟨a.v++b.v,bD (bD a.D b.D) (Z (Ej (a.v.length+b.v.length))),λh=>by
 obtain⟨h,c⟩:=aC h;obtain⟨h1,h2⟩:=aC h;simp only[b2,a.ok h1,b.ok h2,B4];rw[gc a.lk b.lk (by rw[zd,zd];exact c)];simp only[oE,qB]⟩
def on(a:R fa ρ (zE eS))(b:R fb ρ (zE eI)):R (b2 DP fa fb) ρ (zE eS):=⟨Txt.mul a.v b.v,bD (bD a.D b.D) (Z (b.v<=1000 ∧ -1000<=b.v/\a.v.length<=1000)),λh=>by
 obtain⟨h,c⟩:=aC h;obtain⟨h1,h2⟩:=aC h;simp only[b2,a.ok h1,b.ok h2,B4];exact zh c⟩
theorem uB(h:vV b=Z ds):qK [b]=Z (.z (.int ds.length)):=by
 cases b with
 |z d=>cases d<;>cases h;rfl
 |l d=>cases h;rfl
 |o d=>cases h;rfl
 |n d=>cases h
 |m d _=>cases h
theorem cq(h:vV b=Z ds):vB b=Z ds:=by
 cases b with
 |z d=>cases d<;>cases h;rfl
 |l d=>cases h;rfl
 |o d=>cases h;rfl
 |n d=>cases h
 |m d _=>cases h
def CU(a:RL fa ρ e):R (dh qK (aq fa aG)) ρ (zE eI):=⟨(a.v.length:Int),a.D,λh=>by
 simp only[dh,aq,aG,a.ok h,B4,uB a.lk,zd]⟩
def J9(a:R fa ρ (zE (eT e))):R (dh qK (aq fa aG)) ρ (zE eI):=⟨(a.v.length:Int),a.D,λh=>by
 simp only[dh,aq,aG,a.ok h,B4,qK,vB,zd]⟩
def Ka(a:R fa ρ (zE eS)):R (dh qK (aq fa aG)) ρ (zE eI):=⟨(a.v.length:Int),a.D,λh=>by
 simp only[dh,aq,aG,a.ok h,B4,qK]⟩
def Ij:Dt->Int
 |.tup ds=>ds.length
 |.lst ds=>ds.length
 |.str x=>x.length
 |_=>0
def MN:Dt->Bool
 |.tup _=>true
 |.lst _=>true
 |.str _=>true
 |_=>false
def Xi(a:R fa ρ (zE eD)):R (dh qK (aq fa aG)) ρ (zE eI):=⟨Ij a.v,bD a.D (Z (MN a.v=true)),λh=>by
 obtain⟨h,b⟩:=aC h;have b:MN a.v=true:=b;simp only[dh,aq,aG,a.ok h,B4];cases c:a.v<;>rw[c]at b<;>first|(cases b;done)|rfl⟩
def gK(a:RL fa ρ e):R (dh g8 (aq fa aG)) ρ (zE (eT e)):=⟨a.v,a.D,λh=>by
 simp only[dh,aq,aG,a.ok h,B4,g8,cq a.lk]⟩
def Zn(a:R fa ρ (zE (eT e))):R (dh Oj (aq fa aG)) ρ (oE e):=⟨a.v,a.D,λh=>by
 simp only[dh,aq,aG,a.ok h,B4,Oj,vB]⟩
def Y'(a:R fa ρ (zE eI)):R (dh GB (aq fa aG)) ρ (zE eI):=⟨if a.v<0 then -a.v else a.v,a.D,λh=>by
 simp only[dh,aq,aG,a.ok h,B4,GB]⟩
def V'(a:R fa ρ (zE eB)):R (dh GH (aq fa aG)) ρ (zE eI):=⟨if a.v=true then 1 else 0,a.D,λh=>by
 simp only[dh,aq,aG,a.ok h,B4,GH]⟩
theorem O1:∀l:O Bool,Ol (l.map eB)=Z l
 |[]=>rfl
 |a::l=>by simp only[zw,Ol,O1 l,B4]
def yu(a:RL fa ρ eB):R (dh Bi (aq fa aG)) ρ (zE eB):=⟨a.v.all id,a.D,λh=>by
 simp only[dh,aq,aG,a.ok h,B4,Bi,a.lk,O1]⟩
def nB(a:R fa ρ (zE eI))(b:R fb ρ (zE eI)):R (dh GT (aq fa (aq fb aG))) ρ (zE eI):=⟨if b.v>a.v then b.v else a.v,bD a.D b.D,λh=>by
 obtain⟨h1,h2⟩:=aC h;simp only[dh,aq,aG,a.ok h1,b.ok h2,B4,GT]⟩
def Ek(P:Dt->Bool)(a:R fa ρ (zE e)):R (yW P fa) ρ (zE eB):=⟨P (e a.v),a.D,λh=>by
 simp only[yW,b1,a.ok h,B4,oX,toD,z5,Qb]⟩
theorem C4:∀l:B5,tO (l.map eS)=Z l
 |[]=>rfl
 |a::l=>by simp only[zw,tO,C4 l,B4]
def Xj(s:AK)(a:RL fa ρ eS):R (b1 (JX s) fa) ρ (zE eS):=⟨Txt.join s a.v,bD a.D (Z ((a.v.map (·.length)).sum+a.v.length*s.length<=100000)),λh=>by
 obtain⟨h,b⟩:=aC h;simp only[b1,a.ok h,B4,JX,a.lk,C4];exact zh b⟩
def bu(a:RL fa ρ eS):R (dh Uj (aq fa aG)) ρ (oE eS):=⟨JW a.v,bD a.D (Z (a.v.length<64)),λh=>by
 obtain⟨h,b⟩:=aC h;simp only[dh,aq,aG,a.ok h,B4,Uj,a.lk,C4];exact zh b⟩
def Zo(a:R fa ρ (zE e))(g:α->β)(e':β->Dt)(lo hi:Y Int)(c:fl ρ=Z lo)(b:fh ρ=Z hi)(h:∀x,Eg (.z (e x)) lo hi=Z (.z (e' (g x)))):R (DX fa fl fh) ρ (zE e'):=⟨g a.v,a.D,λhd=>by
 simp only[DX,a.ok hd,c,b,B4,h]⟩
def LA(a:R f ρ (zE e))(g:α->β)(e':β->Dt)(h:∀x,e x=e' (g x)):R f ρ (zE e'):=⟨g a.v,a.D,λhd=>by rw[a.ok hd];exact congrArg (λd=>Z (Bx.z d)) (h a.v)⟩
def Cv:Dt->Int
 |.int i=>i
 |_=>0
def yw:Dt->AK
 |.str x=>x
 |_=>⟨#[]⟩
def iD(a:R f ρ (zE eD))(g:Dt->α)(e:α->Dt):R f ρ (zE e):=⟨g a.v,bD a.D (Z (a.v=e (g a.v))),λhd=>by
 obtain⟨h1,h2⟩:=aC hd;have h2:a.v=e (g a.v):=h2;rw[a.ok h1];show Z (Bx.z a.v)=Z (Bx.z (e (g a.v)));rw[<-h2]⟩
class CH {α:Type} (e:α->Dt):Prop where
 f:∀a,DR (e a)=true
instance:CH eI:=⟨λ_=>rfl⟩
instance:CH eB:=⟨λ_=>rfl⟩
instance:CH eS:=⟨λ_=>rfl⟩
theorem Kc[DecidableEq α][BF e n][CH e](x:α)(ys:O α):D4 (e x) (ys.map e)=Z (decide (x∈ys)):=by
 unfold D4;rw[zh ⟨CH.f x,by rw[ez];exact List.all_eq_true.mpr λy _=>CH.f y⟩,List.any_map];congr 1;rw[KW,KB,decide_eq_true_iff];constructor
 ·rintro⟨y,a,h⟩;simp only[Function.comp,BF.eq]at h;by_cases e1:y=x
  ·rw[<-e1];exact a
  ·simp only[e1,decide_false]at h;cases h
 ·intro h;exact⟨x,h,by simp only[Function.comp,BF.eq,decide_true]⟩
theorem oz{d:Dt}(h:vV b=Z ds):F8 (.z d) b=D4 d ds:=by
 cases b with
 |z a=>cases a<;>cases h;cases d<;>rfl
 |l a=>cases h;cases d<;>rfl
 |o a=>cases h;cases d<;>rfl
 |n a=>cases h
 |m a=>cases h
theorem Zq{d:Dt}:F8 (.z d) (.z (.tup ds))=D4 d ds:=by cases d<;>rfl
def e8[DecidableEq α][BF e n][CH e](a:R fa ρ (zE e))(b:RL fb ρ e):R (b2 Ub fa fb) ρ (zE eB):=⟨!decide (a.v∈b.v),bD a.D b.D,λh=>by
 obtain⟨h1,h2⟩:=aC h;simp only[b2,a.ok h1,b.ok h2,B4,Ub,oz b.lk,Kc]⟩
def Zr[DecidableEq α][BF e n][CH e](a:R fa ρ (zE e))(b:R fb ρ (zE (eT e))):R (b2 inF fa fb) ρ (zE eB):=⟨decide (a.v∈b.v),bD a.D b.D,λh=>by
 obtain⟨h1,h2⟩:=aC h;simp only[b2,a.ok h1,b.ok h2,B4,inF,Zq,Kc]⟩
def O'[DecidableEq α][BF e n][CH e](a:R fa ρ (zE e))(b:R fb ρ (zE (eT e))):R (b2 Ub fa fb) ρ (zE eB):=⟨!decide (a.v∈b.v),bD a.D b.D,λh=>by
 obtain⟨h1,h2⟩:=aC h;simp only[b2,a.ok h1,b.ok h2,B4,Ub,Zq,Kc]⟩
def OR(a:R fa ρ (zE eS))(b:R fb ρ (zE eS)):R (b2 inF fa fb) ρ (zE eB):=⟨qp a.v b.v,bD a.D b.D,λh=>by
 obtain⟨h1,h2⟩:=aC h;simp only[b2,a.ok h1,b.ok h2,B4,inF,F8]⟩
end
structure AR {γ:Type} (cA:γ->List Bx->Prop) (fs:Ev->Option (List Bx)) (ρ:Ev) where
 v:γ
 D:Option Prop
 bs:List Bx
 h:cA v bs
 ok:B0 D->fs ρ=some bs
section
variable{ε σ:Type}{fd:Ev->Y Bx}{fs:Ev->Y (O Bx)}{e:α->Dt}{e':β->Dt}{e'':γ->Dt}{e3:δ->Dt}
def aN:Unit->O Bx->Prop:=λ_ bs=>bs=[]
def aZ(e:α->Dt)(t:γ->O Bx->Prop):α×γ->O Bx->Prop:=λx bs=>∃r,bs=.z (e x.1)::r/\t x.2 r
def aL(e:α->Dt)(t:γ->O Bx->Prop):O α×γ->O Bx->Prop:=λx bs=>∃b r,bs=b::r/\vV b=Z (x.1.map e)/\t x.2 r
def aM:AR aN aG ρ:=⟨lm,Y3,[],rfl,λ_=>Y2⟩
def aX{t:γ->O Bx->Prop}(a:R fa ρ (zE e))(r:AR t fs ρ):AR (aZ e t) (aq fa fs) ρ:=⟨(a.v,r.v),bD a.D r.D,_,⟨_,rfl,r.h⟩,λh=>by
 obtain⟨h1,h2⟩:=aC h;simp only[aq,a.ok h1,r.ok h2,B4]⟩
def Ik{t:γ->O Bx->Prop}(a:RL fa ρ e)(r:AR t fs ρ):AR (aL e t) (aq fa fs) ρ:=⟨(a.v,r.v),bD a.D r.D,_,⟨_,_,rfl,a.lk,r.h⟩,λh=>by
 obtain⟨h1,h2⟩:=aC h;simp only[aq,a.ok h1,r.ok h2,B4]⟩
def An{b:γ->O Bx->Prop}{c:α->Bx}{T:γ->α}{e:γ->Y Prop}(S:∀v bs,b v bs->bs.length=n/\(B0 (e v)->F (bs.map B7)=Z (c (T v))))(a:AR b fs ρ):R (aV n F fs) ρ c:=⟨T a.v,bD a.D (e a.v),λh=>by
 obtain⟨h1,h2⟩:=aC h;obtain⟨g,f⟩:=S a.v a.bs a.h;simp only[aV,a.ok h1,B4,zh g,f h2]⟩
theorem ip{bs:O Bx}{c:α->Bx}(x:R g (bs.map Z++bb (n-bs.length) Y3) (λr=>Ap.rt (c r)))(h:B0 x.D):cu n g bs=Z (c x.v):=by
 unfold cu;rw[x.ok h];rfl
def Fu(xs:O α)(P:α->Y Prop):Y Prop:=Z (∀x∈xs,B0 (P x))
theorem El{fs:Ev->Y (O Dt)}{c:Ev}{g:α->O Dt}{π:α->Bool}:∀xs:O α,(∀x∈xs,∃a,gt (e x) c=Z a/\p a=Z (π x)/\(π x=true->fs a=Z (g x)))->yP gt p fs c (xs.map e)=Z ((xs.filter π).flatMap g)
 |[],_=>rfl
 |x::xs,h=>by
  obtain⟨a,h1,h2,f⟩:=h x (zr ..);have b:=El (g:=g) (π:=π) xs λy i=>h y (zk _ i);cases hp:π x with
  |true=>simp only[zw,yP,h1,B4,h2,hp,QP,f hp,b,lb,ZI]
  |false=>simp only[zw,yP,h1,B4,h2,hp,b,lb,z5,Qb]
theorem U5{g:α->β}:∀xs:O α,xs.flatMap (λx=>[e' (g x)])=(xs.map g).map e'
 |[]=>rfl
 |x::xs=>by rw[ZI,U5 xs];rfl
theorem Em{b:Ev}{g:α->β}{π:α->Bool}(xs:O α)(h:∀x∈xs,∃a,gt (e x) b=Z a/\p a=Z (π x)/\(π x=true->fe a=Z (.z (e' (g x))))):Bt gt p fe b (xs.map e)=Z (((xs.filter π).map g).map e'):=by
 rw[<-U5];exact El xs λx hx=>let ⟨a,h1,h2,h3⟩:=h x hx;⟨a,h1,h2,λhp=>by rw[h3 hp];rfl⟩
theorem CM{b:Ev}{g:α->β}(xs:O α)(h:∀x∈xs,∃a,gt (e x) b=Z a/\fe a=Z (.z (e' (g x)))):Bt gt lJ fe b (xs.map e)=Z ((xs.map g).map e'):=
 (Em (π:=λ_=>true) xs λx hx=>let ⟨a,h1,h2⟩:=h x hx;⟨a,h1,rfl,λ_=>h2⟩).trans (by rw[dA.mpr λ_ _=>Y2])
def qI(it:R fi ρ (iE e))(a:α->Ev)(f:∀x,gt (e x) (lH is ρ++bb n Y3)=Z (a x))(b:∀x,R fe (a x) (zE e')):R (dX fi gt lJ fe is n) ρ (oE e'):=⟨it.v.map λx=>(b x).v,bD (bD it.D (Z (it.v.length<=100000))) (Fu it.v λx=>(b x).D),λh=>by
 obtain⟨h,c⟩:=aC h;obtain⟨h1,h2⟩:=aC h;have c:∀x∈it.v,B0 (b x).D:=c;simp only[dX,it.ok h1,B4,zd,zh (show it.v.length<=100000 from h2),CM it.v λx hx=>⟨a x,f x,(b x).ok (c x hx)⟩]⟩
def lY(it:R fi ρ (iE e))(a:α->Ev)(c:∀x,gt (e x) (lH is ρ++bb n Y3)=Z (a x))(b:∀x,R fe (a x) (zE e'))(f:∀x,(b x).D=Y3):R (dX fi gt lJ fe is n) ρ (oE e'):=⟨it.v.map λx=>(b x).v,bD it.D (Z (it.v.length<=100000)),λh=>by
 obtain⟨h1,h2⟩:=aC h;simp only[dX,it.ok h1,B4,zd,zh (show it.v.length<=100000 from h2),CM it.v λx hx=>⟨a x,c x,(b x).ok (by rw[f x];trivial)⟩]⟩
def Zt(it:R fi ρ (iE e))(a:α->Ev)(f:∀x,gt (e x) (lH is ρ++bb n Y3)=Z (a x))(t:∀x,R p (a x) tE)(b:∀x,R fe (a x) (zE e')):R (dX fi gt p fe is n) ρ (oE e'):=⟨(it.v.filter λx=>(t x).v).map λx=>(b x).v,bD (bD it.D (Z (it.v.length<=100000))) (Fu it.v λx=>bD (t x).D (Cr ((t x).v=true) (b x).D)),λh=>by
 obtain⟨h,c⟩:=aC h;obtain⟨h1,h2⟩:=aC h;have c:∀x∈it.v,B0 (bD (t x).D (Cr ((t x).v=true) (b x).D)):=c;simp only[dX,it.ok h1,B4,zd,zh (show it.v.length<=100000 from h2),Em it.v λx hx=>⟨a x,f x,(t x).ok (aC (c x hx)).1,λg=>(b x).ok (jz (aC (c x hx)).2 g)⟩]⟩
def Eo(it:R fi ρ (iE e))(a:α->Ev)(c:∀x,gt (e x) (lH is ρ++bb n Y3)=Z (a x))(t:∀x,R p (a x) tE)(b:∀x,R fe (a x) (zE e'))(g:∀x,(t x).D=Y3)(f:∀x,(b x).D=Y3):R (dX fi gt p fe is n) ρ (oE e'):=⟨(it.v.filter λx=>(t x).v).map λx=>(b x).v,bD it.D (Z (it.v.length<=100000)),λh=>by
 obtain⟨h1,h2⟩:=aC h;simp only[dX,it.ok h1,B4,zd,zh (show it.v.length<=100000 from h2),Em it.v λx hx=>⟨a x,c x,(t x).ok (by rw[g x];trivial),λ_=>(b x).ok (by rw[f x];trivial)⟩]⟩
def IP(a:RL fa ρ e):R (z8 fa) ρ (iE e):=⟨a.v,a.D,λh=>by
 have:FF a.b=Z (a.v.map e):=by
  have:=a.lk
  revert this
  generalize a.b=b;generalize a.v.map e=ds;intro this;cases b with
  |z d=>cases d<;>cases this;rfl
  |l d=>cases this;rfl
  |o d=>cases this;rfl
  |n d=>cases this
  |m d _=>cases this
 simp only[z8,a.ok h,B4,this]⟩
def yG(a:R fa ρ (zE (eT e))):R (z8 fa) ρ (iE e):=⟨a.v,a.D,λh=>by simp only[z8,a.ok h,B4,FF]⟩
def BH(x:AK):B5:=x.cps.toList.map λc=>⟨#[c]⟩
theorem Kd(x:AK):BS x=(BH x).map eS:=by
 unfold BS BH;rw[ZE];rfl
def mE(a:R fa ρ (zE eS)):R (z8 fa) ρ (iE eS):=⟨BH a.v,a.D,λh=>by simp only[z8,a.ok h,B4,FF,Kd]⟩
def U6:Dt->O Dt
 |.tup ds=>ds
 |.lst ds=>ds
 |.str x=>BS x
 |_=>[]
def N1(a:R fa ρ (zE eD)):R (z8 fa) ρ (iE eD):=⟨U6 a.v,bD a.D (Z (MN a.v=true)),λh=>by
 obtain⟨h,b⟩:=aC h;have b:MN a.v=true:=b;simp only[z8,a.ok h,B4];cases c:a.v<;>rw[c]at b<;>first|(cases b;done)|(simp only[FF,U6,iE,eD,sh,id])⟩
def HQ(a:R fa ρ (oE e)):R (DB fa) ρ (iE e):=⟨a.v,a.D,λh=>by simp only[DB,a.ok h,B4,IJ]⟩
def Xs(a:R fa ρ (zE (eT e))):R (DB fa) ρ (iE e):=⟨a.v,a.D,λh=>by simp only[DB,a.ok h,B4,IJ]⟩
def rng(i:Int)(n:Nat):O Int:=(dc n).map λk:Nat=>i+(k:Int)
theorem Zu(i:Int)(n:Nat):Qq i n=(rng i n).map eI:=by
 unfold Qq rng;rw[ZE];rfl
def Rg(j:Int):Prop:=-4611686018427387904<=j/\j<4611686018427387904
def zm(a:R fa ρ (zE eI)):R (Uh (aq fa aG)) ρ (iE eI):=⟨rng 0 a.v.toNat,bD a.D (Z (Rg a.v)),λh=>by
 obtain⟨h,b⟩:=aC h;simp only[Uh,aq,aG,a.ok h,B4];show(if -(2 ^ 62)<=a.v/\a.v<2 ^ 62 then Z (Qq 0 a.v.toNat)else Y3)=_;exact(zh b).trans (by rw[Zu])⟩
def x3(n:Int)(m:Nat)(b:n.toNat=m)(a:Rg n):R (Uh (aq (cB (.int n)) aG)) ρ (iE eI):=⟨rng 0 m,Y3,λ_=>by
 simp only[Uh,aq,aG,B4,cB];show(if -(2 ^ 62)<=n/\n<2 ^ 62 then Z (Qq 0 n.toNat)else Y3)=_;exact(zh a).trans (by rw[Zu,b])⟩
end
section
variable{ε σ τ:Type}{fd:Ev->Y Bx}{fs:Ev->Y (O Bx)}{e:α->Dt}{e':β->Dt}{k:Ev->Y Ap}{cO:γ->Ap}
theorem vH{ρ':Ev}(h:g1 ρ=Z (.nx ρ')):aF g1 k ρ=k ρ':=by
 unfold aF;rw[h];rfl
def bR(x:R (aF g (aF g1 k)) ρ cO):R (aF (aF g g1) k) ρ cO:=⟨x.v,x.D,λh=>by
 rw[<-x.ok h];unfold aF;cases g ρ with
 |none=>rfl
 |some o=>cases o<;>rfl⟩
def cQ(x:R k ρ cO):R (aF dN k) ρ cO:=⟨x.v,x.D,λh=>x.ok h⟩
def dJ(x:γ)(h:cO x=.nx (kill is ρ)):R (iH is) ρ cO:=⟨x,Y3,λ_=>by rw[h];rfl⟩
def bL{c:α->Bx}(inj:α->γ)(a:R f ρ c)(h:∀x,cO (inj x)=.rt (c x))(b:∀x,FS (c x)=Z (.rt (c x))):R (aF (dw f) k) ρ cO:=⟨inj a.v,a.D,λhd=>by
 have:dw f ρ=Z (.rt (c a.v)):=by unfold dw;rw[a.ok hd,B4,b]
 unfold aF;rw[this,h];rfl⟩
def Pc{c:α->Bx}(i:Nat)(inj:α->γ)(a:α)(hi:ρ[i]?=Z (Z (c a)))(h:∀x,cO (inj x)=.rt (c x))(b:∀x,FS (c x)=Z (.rt (c x))):R (aF (Qp i) k) ρ cO:=⟨inj a,Y3,λhd=>by
 have:Qp i ρ=Z (.rt (c a)):=by unfold Qp;rw[hi];exact b a
 unfold aF;rw[this,h];rfl⟩
def cH{c:α->Bx}(i:Nat)(a:R f ρ c)(b:∀x,Go ρ i (c x)=Z (ρ.set i (Z (c x))))(K:∀x,R k (ρ.set i (Z (c x))) cO):R (aF (B8 i f) k) ρ cO:=⟨(K a.v).v,bD a.D (K a.v).D,λhd=>by
 obtain⟨h1,h2⟩:=aC hd;rw[vH (ρ':=ρ.set i (Z (c a.v))) (by unfold B8;rw[a.ok h1,B4,b,B4])];exact(K a.v).ok h2⟩
def Hg(a:R f ρ (zE e))(b:α->Ev)(c:∀x,gt (e x) ρ=Z (b x))(K:∀x,R k (b x) cO):R (aF (MF gt f) k) ρ cO:=⟨(K a.v).v,bD a.D (K a.v).D,λhd=>by
 obtain⟨h1,h2⟩:=aC hd;rw[vH (ρ':=b a.v) (by unfold MF;rw[a.ok h1,B4];simp only[c,B4])];exact(K a.v).ok h2⟩
def SD(i j:Nat)(a:R fa ρ (zE e))(b:R fb ρ (zE e'))(K:∀x y,R k ((ρ.set i (Z (.z (e x)))).set j (Z (.z (e' y)))) cO):R (aF (HP i j (aq fa (aq fb aG))) k) ρ cO:=⟨(K a.v b.v).v,bD (bD a.D b.D) (K a.v b.v).D,λhd=>by
 obtain⟨h1,c⟩:=aC hd;obtain⟨h1,h2⟩:=aC h1;rw[vH (ρ':=(ρ.set i (Z (.z (e a.v)))).set j (Z (.z (e' b.v)))) (by unfold HP;simp only[aq,aG,a.ok h1,b.ok h2,B4,HR])];exact(K a.v b.v).ok c⟩
def Hh(i:Nat)(xs:O α)(hi:ρ[i]?=Z (Z (.o (xs.map e))))(a:R f ρ (zE e))(K:∀ys:O α,R k (ρ.set i (Z (.o (ys.map e)))) cO):R (aF (MJ i f) k) ρ cO:=⟨(K (xs++[a.v])).v,bD (bD a.D (Z (Ej xs.length))) (K (xs++[a.v])).D,λhd=>by
 obtain⟨h1,b⟩:=aC hd;obtain⟨h1,h2⟩:=aC h1;have h2:xs.length<=1000000:=h2;rw[vH (ρ':=ρ.set i (Z (.o ((xs++[a.v]).map e)))) (by
  unfold MJ;rw[a.ok h1,B4];simp only[HU,hi,zd,qB,zw,kH];rw[zh (hP h2 ())])]
 exact(K _).ok b⟩
def jB(t:R p ρ tE)(a:R (aF g1 k) ρ cO)(b:R (aF g2 k) ρ cO):R (aF (yF p g1 g2) k) ρ cO:=⟨if t.v=true then a.v else b.v,bD t.D (bD (Cr (t.v=true) a.D) (Cr (t.v=false) b.D)),λhd=>by
 obtain⟨h1,h2⟩:=aC hd;obtain⟨h2,f⟩:=aC h2;have e1:∀c,t.v=c->aF (yF p g1 g2) k ρ=aF (if c=true then g1 else g2) k ρ:=λc g=>by
  unfold aF yF;rw[t.ok h1,B4,g];cases c<;>rfl
 cases e:t.v with
 |true=>rw[e1 true e];simp only[QP];exact a.ok (jz h2 e)
 |false=>rw[e1 false e];simp only[z5,Qb];exact b.ok (jz f e)⟩
def O2(E:σ->Ev)(t:R p ρ tE)(a:R g1 ρ (λs=>Ap.nx (E s)))(b:R g2 ρ (λs=>Ap.nx (E s)))(K:∀s,R k (E s) cO):R (aF (yF p g1 g2) k) ρ cO:=⟨(K (if t.v=true then a.v else b.v)).v,bD (bD t.D (bD (Cr (t.v=true) a.D) (Cr (t.v=false) b.D))) (K (if t.v=true then a.v else b.v)).D,λhd=>by
 obtain⟨h,f⟩:=aC hd;obtain⟨h1,h2⟩:=aC h;obtain⟨h2,e⟩:=aC h2;rw[vH (ρ':=E (if t.v=true then a.v else b.v)) (by
  unfold yF;rw[t.ok h1,B4];cases c:t.v with
  |true=>simp only[QP];exact a.ok (jz h2 c)
  |false=>simp only[z5,Qb];exact b.ok (jz e c))]
 exact(K _).ok f⟩
def Gu(step:σ->α->σ)(P:σ->α->Y Prop):O α->σ->Prop
 |[],_=>True
 |x::xs,s=>B0 (P s x)/\Gu step P xs (step s x)
theorem Ke{gb:Ev->Y Ap}(E:σ->Ev)(a:σ->α->Ev)(b:∀s x,gt (e x) (E s)=Z (a s x))(body:∀s x,R gb (a s x) (λs=>Ap.nx (E s))):∀(xs:O α) (s:σ),Gu (λs x=>(body s x).v) (λs x=>(body s x).D) xs s->Ih gt gb (xs.map e) (E s)=Z (.nx (E (xs.foldl (λs x=>(body s x).v) s)))
 |[],s,_=>rfl
 |x::xs,s,h=>by
  simp only[zw,Ih,b,B4,(body s x).ok h.1,kR];exact Ke E a b body xs _ h.2
def Kf(E:σ->Ev)(a:σ)(g:ρ=E a)(it:R fi ρ (iE e))(b:σ->α->Ev)(c:∀s x,gt (e x) (E s)=Z (b s x))(body:∀s x,R gb (b s x) (λs=>Ap.nx (E s)))(K:∀s,R k (E s) cO):R (aF (sZ fi gt gb) k) ρ cO:=⟨(K (it.v.foldl (λs x=>(body s x).v) a)).v,bD (bD it.D (Z (Gu (λs x=>(body s x).v) (λs x=>(body s x).D) it.v a))) (K (it.v.foldl (λs x=>(body s x).v) a)).D,λhd=>by
 obtain⟨h,f⟩:=aC hd;obtain⟨h1,h2⟩:=aC h;rw[vH (ρ':=E (it.v.foldl (λs x=>(body s x).v) a)) (by
  unfold sZ;rw[it.ok h1,B4];subst g;exact Ke E b c body it.v a h2)]
 exact(K _).ok f⟩
def sL(E:σ->Ev)(a:σ)(i:ρ=E a)(it:R fi ρ (iE e))(b:σ->α->Ev)(f:∀s x,gt (e x) (E s)=Z (b s x))(body:∀s x,R gb (b s x) (λs=>Ap.nx (E s)))(h:∀s x,(body s x).D=Y3)(K:∀s,R k (E s) cO):R (aF (sZ fi gt gb) k) ρ cO:=⟨(K (it.v.foldl (λs x=>(body s x).v) a)).v,bD it.D (K (it.v.foldl (λs x=>(body s x).v) a)).D,λhd=>by
 obtain⟨h1,g⟩:=aC hd;have h2:∀(xs:O α) (s:σ),Gu (λs x=>(body s x).v) (λs x=>(body s x).D) xs s:=λxs=>by
  induction xs with
  |nil=>intro s;trivial
  |cons x xs c=>intro s;exact⟨by show B0 (body s x).D;rw[h s x];trivial,c _⟩
 rw[vH (ρ':=E (it.v.foldl (λs x=>(body s x).v) a)) (by
  unfold sZ;rw[it.ok h1,B4];subst i;exact Ke E b f body it.v a (h2 _ _))]
 exact(K _).ok g⟩
inductive wN (σ τ:Type) where
 |nx (s:σ)|rt (r:τ)|bk (s:σ)|ct (s:σ)
def cC(E:σ->Ev)(c:τ->Bx):wN σ τ->Ap
 |.nx s=>.nx (E s)
 |.rt r=>.rt (c r)
 |.bk s=>.bk (E s)
 |.ct s=>.ct (E s)
def oY(step:σ->α->wN σ τ):O α->σ->wN σ τ
 |[],s=>.nx s
 |x::xs,s=>match step s x with
  |.nx s'=>oY step xs s'
  |.ct s'=>oY step xs s'
  |.bk s'=>.nx s'
  |.rt r=>.rt r
def yx(step:σ->α->wN σ τ)(P:σ->α->Y Prop):O α->σ->Prop
 |[],_=>True
 |x::xs,s=>B0 (P s x)/\match step s x with
  |.nx s'=>yx step P xs s'
  |.ct s'=>yx step P xs s'
  |.bk _=>True
  |.rt _=>True
theorem Ra{c:τ->Bx}(E:σ->Ev)(a:σ->α->Ev)(b:∀s x,gt (e x) (E s)=Z (a s x))(body:∀s x,R gb (a s x) (cC E c)):∀(xs:O α) (s:σ),yx (λs x=>(body s x).v) (λs x=>(body s x).D) xs s->Ih gt gb (xs.map e) (E s)=Z (cC E c (oY (λs x=>(body s x).v) xs s))
 |[],s,_=>rfl
 |x::xs,s,h=>by
  obtain⟨h1,h2⟩:=h;dsimp only at h2;simp only[zw,Ih,b,B4,(body s x).ok h1,oY]
  revert h2
  cases(body s x).v with
  |nx s'=>intro h2;exact Ra E a b body xs s' h2
  |ct s'=>intro h2;exact Ra E a b body xs s' h2
  |bk s'=>intro _;rfl
  |rt r=>intro _;rfl
theorem Kg(step:σ->α->wN σ τ):∀(xs:O α) (s:σ),(∃s',oY step xs s=.nx s')\/∃r,oY step xs s=.rt r
 |[],s=>.inl ⟨s,rfl⟩
 |x::xs,s=>by
  unfold oY;cases step s x with
  |nx s'=>exact Kg step xs s'
  |ct s'=>exact Kg step xs s'
  |bk s'=>exact .inl ⟨s',rfl⟩
  |rt r=>exact .inr ⟨r,rfl⟩
def By(r:wN σ τ)(inj:τ->γ)(K:σ->γ):γ:=match r with
 |.rt r=>inj r
 |.nx s=>K s
 |.bk s=>K s
 |.ct s=>K s
def Ep(r:wN σ τ)(K:σ->Prop):Prop:=match r with
 |.rt _=>True
 |.nx s=>K s
 |.bk s=>K s
 |.ct s=>K s
def cK(r:wN σ τ)(K:σ->Y Prop):Y Prop:=Z (Ep r λs=>B0 (K s))
def Rb{c:τ->Bx}(E:σ->Ev)(a:σ)(j:ρ=E a)(it:R fi ρ (iE e))(b:σ->α->Ev)(g:∀s x,gt (e x) (E s)=Z (b s x))(body:∀s x,R gb (b s x) (cC E c))(inj:τ->γ)(i:∀r,cO (inj r)=.rt (c r))(K:∀s,R k (E s) cO):R (aF (sZ fi gt gb) k) ρ cO:=⟨By (oY (λs x=>(body s x).v) it.v a) inj λs=>(K s).v,bD (bD it.D (Z (yx (λs x=>(body s x).v) (λs x=>(body s x).D) it.v a))) (cK (oY (λs x=>(body s x).v) it.v a) λs=>(K s).D),λhd=>by
 obtain⟨h,f⟩:=aC hd;obtain⟨h1,h2⟩:=aC h;have e1:sZ fi gt gb ρ=Z (cC E c (oY (λs x=>(body s x).v) it.v a)):=by
  unfold sZ;rw[it.ok h1,B4];subst j;exact Ra E b g body it.v a h2
 rcases Kg (λs x=>(body s x).v) it.v a with⟨s',es⟩|⟨r,es⟩
 ·rw[es]at e1 f ⊢;rw[vH e1];exact(K s').ok f
 ·rw[es]at e1 ⊢;show aF (sZ fi gt gb) k ρ=Z (cO (inj r));unfold aF;rw[e1,i];rfl⟩
class Ky {κ:Type} (c:κ->AZ):Prop where
 inj:∀a b,c a=c b->a=b
abbrev kS:AK->AZ:=Sum.inr
abbrev kI:Int->AZ:=Sum.inl
instance:Ky kS:=⟨λ_ _ h=>by cases h;rfl⟩
instance:Ky kI:=⟨λ_ _ h=>by cases h;rfl⟩
section
variable [DecidableEq κ] {c:κ->AZ}
def has(m:O (κ×α))(x:κ):Bool:=m.any λq=>decide (q.1=x)
end
end
section
variable{fs:Ev->Y B5}{e:α->Dt}
theorem Zv(h:vV b=Z ds):vB b=Z ds:=by
 cases b with
 |z d=>cases d<;>first|exact h|(cases h;done)
 |l _=>exact h
 |o _=>exact h
 |n _=>cases h
 |m _ _=>cases h
theorem SH(n:Nat):∃m,m=n:=⟨n,rfl⟩
noncomputable def kN(n:Nat):Nat:=Classical.choose (SH n)
theorem Pm(n:Nat):kN n=n:=Classical.choose_spec (SH n)
noncomputable def wP(n:Int)(m:Nat)(b:n.toNat=m)(a:Rg n):R (Uh (aq (cB (.int n)) aG)) ρ (iE eI):=⟨rng 0 (kN m),Y3,λh=>by rw[Pm];exact(x3 n m b a).ok h⟩
end
end P1
namespace P1
open L2 S1 S6
class tU {α:Type} (e:α->Dt) where
 k:α->AZ
 ok:∀a,MQ (e a)=some (k a)
 inj:∀a b,k a=k b->a=b
 same:∀a b,Uk (k a) (k b)=true
instance:tU eI:=⟨λi=>.inl i,λ_=>rfl,λa b h=>by cases h;rfl,λ_ _=>rfl⟩
instance:tU eS:=⟨λi=>.inr i,λ_=>rfl,λa b h=>by cases h;rfl,λ_ _=>rfl⟩
class lZ {α:Type} (e:α->Dt) where
 k:α->List AZ
 ok:∀a,G9 (e a)=some (k a)
 inj:∀a b,k a=k b->a=b
 shp:∀a b,QF (k a) (k b)=true
 ne:∀a,(k a).isEmpty=false
class L5 {α:Type} (e:α->Dt) [lZ e]:Prop where
 tx:∀a,Hd (lZ.k e a)=true
section
variable{e:α->Dt}{e':β->Dt}{e'':γ->Dt}{e3:δ->Dt}
instance [tU e] [tU e']:lZ (Xe e e'):=⟨λq=>[tU.k e q.1,tU.k e' q.2],λq=>by simp only[G9,Ot,tU.ok,B4],λa b h=>by
 simp only[hY.injEq,and_true]at h;exact kA (tU.inj _ _ h.1) (tU.inj _ _ h.2),λa b=>by simp[QF,tU.same],λ_=>rfl⟩
instance [tU e] [tU e'] [tU e'']:lZ (D3 e e' e''):=⟨λq=>[tU.k e q.1,tU.k e' q.2.1,tU.k e'' q.2.2],λq=>by simp only[G9,Ot,tU.ok,B4],λa b h=>by
 simp only[hY.injEq,and_true]at h;exact kA (tU.inj _ _ h.1) (kA (tU.inj _ _ h.2.1) (tU.inj _ _ h.2.2)),λa b=>by simp[QF,tU.same],λ_=>rfl⟩
instance [tU e] [tU e'] [tU e''] [tU e3]:lZ (F2 e e' e'' e3):=⟨λq=>[tU.k e q.1,tU.k e' q.2.1,tU.k e'' q.2.2.1,tU.k e3 q.2.2.2],λq=>by simp only[G9,Ot,tU.ok,B4],λa b h=>by
 simp only[hY.injEq,and_true]at h;exact kA (tU.inj _ _ h.1) (kA (tU.inj _ _ h.2.1) (kA (tU.inj _ _ h.2.2.1) (tU.inj _ _ h.2.2.2))),λa b=>by simp[QF,tU.same],λ_=>rfl⟩
instance [tU e]:L5 (Xe e eS):=⟨λa=>by simp[lZ.k,Hd,tU.k]⟩
instance [tU e] [tU e']:L5 (D3 e eS e'):=⟨λa=>by simp[lZ.k,Hd,tU.k]⟩
instance [tU e] [tU e'] [tU e'']:L5 (F2 e eS e' e''):=⟨λa=>by simp[lZ.k,Hd,tU.k]⟩
variable{fs:Ev->Y (O (O AZ))}
theorem wY[lZ e]:∀xs:O α,Cq (xs.map e)=Z (xs.map (lZ.k e))
 |[]=>rfl
 |x::xs=>by simp only[zw,Cq,lZ.ok,B4,wY xs]
def EG(e:α->Dt)[lZ e](a b:α):Bool:=vG (lZ.k e a) (lZ.k e b)
def DI(e:α->Dt)[lZ e](a b:α):Bool:=jj (lZ.k e a) (lZ.k e b)
def jK(e:α->Dt)[lZ e](xs:O α):O α:=xs.mergeSort (EG e)
theorem d9[lZ e](xs:O α):(jK e xs).Perm xs:=Q2 ..
theorem pA[lZ e](xs:O α):(jK e xs).Pairwise (λa b=>EG e a b=true):=jS (le:=EG e) (λa b c=>rO (lZ.k e a) (lZ.k e b) (lZ.k e c)) (λa b=>rP (lZ.k e a) (lZ.k e b)) xs
theorem lI[lZ e]{a b:α}(h:EG e a b=true)(h':EG e b a=true):a=b:=lZ.inj _ _ (z9 h h')
theorem U7[lZ e]{xs out:O α}(hp:out.Perm xs)(hs:out.Pairwise (λa b=>EG e a b=true)):out=jK e xs:=zc (λ_ _=>lI) (hp.trans (d9 xs).symm) hs (pA xs)
theorem ck[lZ e](xs:O α):Cp (xs.map (lZ.k e))=(jK e xs).map (lZ.k e):=by
 refine(Om ((d9 xs).map _) (bA.mpr (pA xs))).symm
theorem Tk[lZ e](xs:O α):(xs.map (lZ.k e)).map C0=xs.map e:=by
 rw[ZE];exact ki λa _=>(vY (lZ.ok a)).symm
end
end P1
namespace P1
open L2
section
variable{fd fk:Ev->Y Bx}{fs:Ev->Y (O Bx)}{e:α->Dt}{e':β->Dt}{k:Ev->Y Ap}{cO:γ->Ap}
end
section
variable{e:α->Dt}
def Rc[DecidableEq α](x:α)(ys:O α):Bool:=decide (x∈ys)
theorem U8[DecidableEq α]{x:α}{ys:O α}:Rc x ys=true↔x∈ys:=by unfold Rc;rw[Zl]
theorem So[DecidableEq α][BF e n](b:n<=60)(x:α)(ys:O α):GW (e x) (ys.map e)=Z (decide (x∈ys)):=by
 unfold GW;rw[zh]
 ·congr 1;rw[List.any_map,KW,KB,Zl];constructor
  ·rintro⟨y,a,h⟩;simp only[Function.comp,BF.eq]at h;by_cases q:y=x
   ·exact q▸a
   ·simp[q,EZ]at h
  ·intro h;exact⟨x,h,by simp[Function.comp,BF.eq,EZ]⟩
 ·rw[ez,qf];intro y _;have:=BF.dp (e:=e) y;simp only[Function.comp,BF.eq,hO,jd,Zl];omega
def Nc[DecidableEq α][BF e n](c:n<=60)(a:R fa ρ (zE e))(b:R fb ρ (zE (eT e))):R (b2 FO fa fb) ρ (zE eB):=⟨Rc a.v b.v,bD a.D b.D,λh=>by
 obtain⟨h1,h2⟩:=aC h;simp only[b2,a.ok h1,b.ok h2,B4,FO,vB,eT,So c,Rc]⟩
end
end P1
namespace P1
open L2 S1 S6
def kT(xs:B5):O AZ:=xs.map Sum.inr
def X0(a b:B5):Bool:=vG (kT a) (kT b)
section
variable{e:α->Dt}
theorem map_some(e:α->Dt)(xs:O α):(xs.map Z).map (eO e)=xs.map e:=by rw[ZE];rfl
end
end P1
namespace P1
open L2
section
variable{k:Ev->Y Ap}{cO:α->Ap}
end
section
variable{e:α->Dt}
end
section
variable{σ τ:Type}{k:Ev->Y Ap}{cO:γ->Ap}
end
section
variable{e:α->Dt}
def LM(fs:Ev->Y (O Bx)):Ev->Y (O Dt):=λρ=>(fs ρ).bind Uy
def Ix(fs:Ev->Y (O Bx)):Ev->Y (O Dt):=λρ=>(fs ρ).bind Uz
def nJ(xs:O α):O (Int×α):=(dc xs.length).zipWith (λ(k:Nat) x=>((k:Int),x)) xs
theorem O4(xs:O α):Eb (xs.map e)=(nJ xs).map (Xe eI e):=by
 unfold Eb nJ;rw[zd,mX,lg]
def Th(a:RL fa ρ e):R (LM (aq fa aG)) ρ (iE (Xe eI e)):=⟨nJ a.v,a.D,λh=>by
 simp only[LM,aq,aG,a.ok h,B4,Uy,a.lk,O4]⟩
def Z'(a:R fa ρ (zE (eL e))):R (Ix (aq fa aG)) ρ (iE (Xe eI e)):=⟨nJ a.v,a.D,λh=>by
 simp only[Ix,aq,aG,a.ok h,B4,zE,eL,Uz,O4]⟩
end
section
variable{σ τ:Type}
theorem Zw{step:σ->α->σ}{P:σ->α->Y Prop}(I:Nat->σ->Prop):∀(xs:O α) (m:Nat) (a:σ),I m a->(∀k x s,xs[k]?=Z x->I (m+k) s->B0 (P s x)/\I (m+k+1) (step s x))->Gu step P xs a/\I (m+xs.length) (xs.foldl step a)
 |[],m,a,h0,_=>⟨trivial,h0⟩
 |x::xs,m,a,h0,hs=>by
  obtain⟨h1,h2⟩:=hs 0 x a Y2 h0;have:=Zw I xs (m+1) (step a x) h2 λk y s e h=>by
   have:=hs (k+1) y s (by simpa using e) (by rw[show m+(k+1)=m+1+k by omega];exact h);rw[show m+(k+1)+1=m+1+k+1 by omega]at this;exact this
  refine⟨⟨h1,this.1⟩,?_⟩;rw[ZZ,show m+(xs.length+1)=m+1+xs.length by omega];exact this.2
theorem YI{i:Int}{x:Int}(h:(rng i n)[k]?=Z x):x=i+k/\k<n:=by
 unfold rng at h;rw[qv]at h;cases hk:(dc n)[k]? with
 |none=>rw[hk]at h;cases h
 |some j=>
  rw[hk]at h;have a:k<n:=by simpa using(bj.mp hk).1
  have:j=k:=by
   rw[n3 a]at hk;cases hk;rfl
  subst this;cases h;exact⟨rfl,a⟩
theorem qL(i:Int)(n:Nat):(rng i n).length=n:=by unfold rng;simp
theorem X9{i:Int}{x:Int}(h:x∈rng i n):i<=x/\x<i+n:=by
 unfold rng at h;obtain⟨k,hk,rfl⟩:=aQ.mp h;have:=dB.mp hk;omega
theorem rW{step:σ->Int->σ}{P:σ->Int->Y Prop}(I:Nat->σ->Prop)(n:Nat)(a:σ)(b:I 0 a)(hs:∀(k:Nat) s,k<n->I k s->B0 (P s k)/\I (k+1) (step s k)):Gu step P (rng 0 n) a/\I n ((rng 0 n).foldl step a):=by
 have:=Zw (P:=P) I (rng 0 n) 0 a b λk x s e h=>by
  obtain⟨rfl,hk⟩:=YI e;rw[Kb]at h ⊢;rw[eW];exact hs k s hk h
 rw[qL,Kb]at this;exact this
theorem Kh{step:Unit->α->wN Unit Bool}{P:Unit->α->Y Prop}:∀xs:O α,(∀x∈xs,B0 (P lm x)/\(step lm x=.nx lm\/step lm x=.ct lm))->oY step xs lm=.nx lm/\yx step P xs lm
 |[],_=>⟨rfl,trivial⟩
 |x::xs,h=>by
  obtain⟨h1,h2⟩:=h x (zr ..);have a:=Kh (P:=P) xs λy b=>h y (zk _ b);rcases h2 with h2|h2
  ·exact⟨by unfold oY;rw[h2];exact a.1,h1,by rw[h2];exact a.2⟩
  ·exact⟨by unfold oY;rw[h2];exact a.1,h1,by rw[h2];exact a.2⟩
theorem Rf[Inhabited α]{xs:O α}{i:Int}(h:In xs.length i):Au xs i∈xs:=by
 obtain⟨x,hx⟩:=Ae h;unfold Au;rw[hx];unfold Ib at hx;obtain⟨j,_,hx⟩:=AU hx;exact KO hx
theorem Ta[Inhabited α]{xs:O α}{x:α}(h:xs[k]?=Z x):Au xs (k:Int)=x:=by
 have a:k<xs.length:=(bj.mp h).1;unfold Au Ib EL;rw[zh (),zh (),B4,jv,h];rfl
theorem wZ[Inhabited α](xs:O α)(k:Nat)(h:k<xs.length):Au xs (k:Int)=xs[k]:=Ta (ZY h)
theorem BC{i:Int}(a:0<=i)(h1:i<n):In n i:=⟨by omega,h1⟩
theorem Xk(h:k<n):In n (k:Int):=⟨by omega,by omega⟩
theorem zp{x m:Int}(a:0<m)(h:m<=n):In n (x%m):=BC (Int.emod_nonneg _ ()) (h6 (oW _ a) h)
theorem iJ(x:Int){m:Int}(a:0<m):0<=x%m/\x%m<m:=⟨Int.emod_nonneg _ (),oW _ a⟩
theorem Hi{j:Int}(a:0<=j)(h1:j<=1000000):Rg j:=⟨by omega,by omega⟩
theorem Mc{a b:Int}(c:0<=a)(h1:a<18446744073709551616):HE a b:=.inl ⟨by omega,h1⟩
theorem ie{xs:O α}{x:α}(h:x∈BI xs lo hi):x∈xs:=kc (KM h)
theorem pV(xs:O α)(lo hi:Y Int):(BI xs lo hi).length<=xs.length:=by
 unfold BI;rw[qk,qc];omega
theorem zq{xs:O α}(h:k<=xs.length):BI xs (Z (k:Int)) Y3=xs.drop k:=by
 unfold BI;rw[HT.YH,HT.Tp,mq h,qi (by simp)]
theorem OQ{xs:O α}(h:k<=xs.length):BI xs Y3 (Z (k:Int))=xs.take k:=by
 unfold BI;rw[HT.YH,HT.Tp,mq h,Nat.sub_zero,List.drop_zero]
theorem mU(x y:AK):(x++y).length=x.length+y.length:=by
 show(x.cps++y.cps).size=_;rw[kb];rfl
theorem Cw(x:AK)(i:Int):(ch x i).length=1:=rfl
theorem slice_le(x:AK)(l u:Y Int):(Txt.slice x l u).length<=x.length:=PyProof.Txt.length_slice_le x l u
theorem u4(x:AK):(BH x).length=x.length:=by unfold BH;rw[zd,Z3];rfl
theorem XO(x:AK):(BS x).length=x.length:=by rw[Kd,zd,u4]
end
section
variable [Inhabited α] {e:α->Dt}{k:Ev->Y Ap}{cO:γ->Ap}
end
section
variable{e:α->Dt}{k:Ev->Y Ap}{cO:γ->Ap}
end
section
variable{e:α->Dt}{k:Ev->Y Ap}{cO:γ->Ap}
def Rh[Inhabited γ]:R (aF GG k) ρ cO:=⟨default,Z False,λh=>absurd h id⟩
end
section
variable{e:α->Dt}
end
section
variable{e:α->Dt}{e':β->Dt}
def Xl{e3:γ->Dt}(a:R fa ρ (zE e))(b:R fb ρ (zE e'))(g:α->β->γ)(h:∀x y,eY (.z (e x)) (.z (e' y))=Z (.z (e3 (g x y)))):R (b2 eY fa fb) ρ (zE e3):=⟨g a.v b.v,bD a.D b.D,λhd=>by
 obtain⟨h1,h2⟩:=aC hd;simp only[b2,a.ok h1,b.ok h2,B4,zE,h]⟩
end
def RP(f:Ev->Y β)(ρ:Ev)(c:α->β)(v:α)(D:Y Prop):Prop:=B0 D->f ρ=Z (c v)
theorem R.tp{f:Ev->Y β}{c:α->β}{b:α}{a:Y Prop}(x:R f ρ c)(e:x.v=b:=by kernel_rfl)(g:x.D=a:=by kernel_rfl):RP f ρ c b a:=λh=>by
 subst e g;exact x.ok h
def RP.r{f:Ev->Y β}{c:α->β}{v:α}{D:Y Prop}(h:RP f ρ c v D):R f ρ c:=⟨v,D,h⟩
theorem LF{p:O α->Prop}(h:∀a,p [a]):∀us:O α,us.length=1->p us
 |[a],_=>h a
theorem LP{p:O α->Prop}(h:∀a b,p [a,b]):∀us:O α,us.length=2->p us
 |[a,b],_=>h a b
theorem YN{p:O α->Prop}(h:∀a b c,p [a,b,c]):∀us:O α,us.length=3->p us
 |[a,b,c],_=>h a b c
theorem wm{p:O α->Prop}(h:∀a b c d,p [a,b,c,d]):∀us:O α,us.length=4->p us
 |[a,b,c,d],_=>h a b c d
theorem nS{p:O α->Prop}(h:∀a b c d e,p [a,b,c,d,e]):∀us:O α,us.length=5->p us
 |[a,b,c,d,e],_=>h a b c d e
end P1
namespace P1
open L2 S1
end P1
namespace P1
open L2
section
variable{fs:Ev->Y (O Bx)}
end
section
variable{AT:O AC}
end
section
variable{ks:O V}{o:AF}
theorem ly(j:∀f u,X.H₀ a≠Z (.qG f u))(I:L2.AV X AO σ H s)(e:H a=Z (.qG o (.lst ks))):L2.AV X AO σ (BD H a (.lst ks)) s:=by
 have g:∀{b:A2} {u:HO},H b=Z u->u≠.qG o (.lst ks)->b≠a:=λq n z=>by subst z;rw[e]at q;cases q;exact n rfl
 have h:∀{b:A2},H b=Y3->b≠a:=λq z=>by subst z;rw[e]at q;cases q
 refine⟨I.ok,I.os,I.bare,⟨I.base.keep,I.base.slot,λb f q n hx=>?_,I.base.there,λb xs q=>?_,λb f u q=>?_,λb ps q=>?_⟩,I.loc,I.cell,?_,λx c q=>?_,λp hp=>?_,λb f q=>?_,I.len⟩
 ·have:=I.base.free b f q n hx;rw[aR (h this)];exact this
 ·have:=I.base.tups b xs q;rw[aR (g this λz=>by cases z)];exact this
 ·have:=I.base.HY b f u q;rw[aR (λz=>by subst z;exact j _ _ q)];exact this
 ·obtain⟨m,this⟩:=I.base.Ce b ps q;exact⟨m,by rw[aR (g this λz=>by cases z)];exact this⟩
 ·have:=I.free;rw[aR (h this)];exact this
 ·have:=I.tD x c q;rw[aR (h this)];exact this
 ·obtain⟨p1,p2,p3⟩:=I.pin p hp;exact⟨p1,by rw[aR (h p2)];exact p2,p3⟩
 ·have st:∀{c:A2} {w:HO},jx X.prog X.w H s.heap c w->jx X.prog X.w (BD H a (.lst ks)) s.heap c w:=λx=>
   x.stay (λ_ _ _ r=>r) (λd r=>by rw[aR (g r λz=>by cases z)];exact r) (λd xs r=>by rw[aR (g r λz=>by cases z)];exact r) λd o' k r=>by rw[aR (g r λz=>by cases z)];exact r
  by_cases i:b=a
  ·subst i;rw[bK]at q;cases q;exact st (I.hok _ _ e).2
  ·rw[aR i]at q;exact st (I.hok _ _ q)
end
section
variable{M0 M1 M2 er:Expr}{f0 f2:Ev->Y Bx}{d0 d2:Dt}{z0 z1 z2 z3:Pos}
end
section
variable{st:O AC}{fr:Ev->Y Bx}{i':Nat}{W:O Nat}{z:Pos}
end
section
variable{a b c:Ev->Y Ap}
end
end P1
namespace P1
open L2 S6
section
variable{kx vx t1 i1 t2 i2:Expr}{f1 f2:O Expr}{xs:B5}{g1 g2:Dt->Ev->Y Ev}{p1 p2:Ev->Y Bool}{fk:Ev->Y Bx}{fi1 fi2:Ev->Y (O Dt)}{fs:Ev->Y (O Dt)}{N:Nat}
def cls2(fi:Ev->Y (O Dt))(gt:Dt->Ev->Y Ev)(p:Ev->Y Bool)(fs:Ev->Y (O Dt))(is:O Nat)(n:Nat):Ev->Y (O Dt):=λρ=>(fi ρ).bind λds=>yP gt p fs (lH is ρ++bb n Y3) ds
def Ri(fi:Ev->Y (O Dt))(gt:Dt->Ev->Y Ev)(p:Ev->Y Bool)(fs:Ev->Y (O Dt))(is:O Nat)(n:Nat):Ev->Y Bx:=λρ=>(cls2 fi gt p fs is n ρ).bind λout=>if out.length<=100000 then Z (.o out)else Y3
theorem YW.no{b:O Dt}:YW K D H b o->(∀a u,o≠.qG a u)/\∀vs,o≠.tup vs:=λ⟨_,e,_⟩=>by subst e;exact⟨λ_ _ z=>(by cases z),λ_ z=>(by cases z)⟩
end
end P1
namespace P1
open L2
section
variable{e:α->Dt}{e':β->Dt}{fs:Ev->Y (O Dt)}
theorem Kl{g:α->O β}:∀xs:O α,(xs.flatMap g).map e'=xs.flatMap λx=>(g x).map e'
 |[]=>rfl
 |x::xs=>by rw[ZI,qB,Kl xs];rfl
def mP(it:R fi ρ (iE e))(a:α->Ev)(c:∀x,gt (e x) (lH is ρ++bb n Y3)=Z (a x))(b:∀x,R fs (a x) (iE e')):R (cls2 fi gt lJ fs is n) ρ (iE e'):=⟨it.v.flatMap λx=>(b x).v,bD it.D (Fu it.v λx=>(b x).D),λh=>by
 obtain⟨h1,h2⟩:=aC h;have h2:∀x∈it.v,B0 (b x).D:=h2;simp only[cls2,it.ok h1,B4];rw[El (π:=λ_=>true) (g:=λx=>(b x).v.map e') it.v λx hx=>⟨a x,c x,rfl,λ_=>(b x).ok (h2 x hx)⟩,dA.mpr λ_ _=>Y2];rw[iE,Kl]⟩
def iA(it:R fi ρ (iE e))(a:α->Ev)(c:∀x,gt (e x) ρ=Z (a x))(t:∀x,R p (a x) tE)(b:∀x,R fe (a x) (zE e')):R (E8 fi gt p (GM fe)) ρ (iE e'):=⟨(it.v.filter λx=>(t x).v).map λx=>(b x).v,bD it.D (Fu it.v λx=>bD (t x).D (Cr ((t x).v=true) (b x).D)),λh=>by
 obtain⟨h1,h2⟩:=aC h;have h2:∀x∈it.v,B0 (bD (t x).D (Cr ((t x).v=true) (b x).D)):=h2;simp only[E8,it.ok h1,B4];exact Em it.v λx hx=>⟨a x,c x,(t x).ok (aC (h2 x hx)).1,λf=>(b x).ok (jz (aC (h2 x hx)).2 f)⟩⟩
def ft(a:R (cls2 fi gt p fs is n) ρ (iE e)):R (Ri fi gt p fs is n) ρ (oE e):=⟨a.v,bD a.D (Z (a.v.length<=100000)),λh=>by
 obtain⟨h1,h2⟩:=aC h;simp only[Ri,a.ok h1,B4,zd,zh (show a.v.length<=100000 from h2)]⟩
end
def hx(h:A7)(a:A2):HO:=.ext λh'=>h'.get? a=h.get? a
section
variable{H2:Hp}{as:O A2}
end
section
variable{gs:O (Int×A2×O Dt)}{k:Int}{x:Dt}{u:V}
end
section
variable{e1 e2 ev:Expr}{f2:Ev->Y Bx}{w:AK}{pw py py2 py3 px p1 p3 p4 pl a1 a2 c1 c2:Pos}
theorem bn{q:Nat}(h:(ρ.set i Y3)[q]?=Z (Z b)):q≠i/\ρ[q]?=Z (Z b):=by
 rcases BN h with⟨_,z,_⟩|⟨h1,h2⟩
 ·cases z
 ·exact⟨h1,h2⟩
end
end P1
namespace P1
open L2 S6
section
variable{kx vx t1 i1 t2 i2:Expr}{f1 f2:O Expr}{xs:B5}{g1 g2:Dt->Ev->Y Ev}{p1 p2:Ev->Y Bool}{fk:Ev->Y Bx}{fi1 fi2:Ev->Y (O Dt)}
end
end P1
namespace P1
open L2
section
variable{e:α->Dt}{e0:β->Dt}{fd f2:Ev->Y Bx}{kk:Ev->Y Ap}{cO:γ->Ap}
end
section
variable{e:α->Dt}{fs:Ev->Y (O Dt)}
end
section
variable{a:Expr}
end
theorem bG{bs:O Bx}{c:α->Bx}{v:α}{D:Y Prop}(x:RP g (bs.map Z++bb (n-bs.length) Y3) (λr=>Ap.rt (c r)) v D)(h:B0 D):cu n g bs=Z (c v):=ip x.r h
section
variable{e:α->Dt}
end
open PySem.Builtin PySem.Builtin.Str
section
theorem w9:MW X "str.split" (λx xs H Q=>∃y z,x=.str y/\xs=[.str z]/\(z.length==0)=false/\y.length<=100000/\∀l H',AW H H'->H l=Y3->H' l=Z (.lst ((Txt.split y z).map V.str))->Q (.ref l) H'):=by
 intro AO s σ H x xs v us Q I i rs h;obtain⟨y,z,rfl,rfl,f,m,q⟩:=h;obtain⟨t,rfl⟩:=i;obtain⟨u,rfl,k⟩:=BG rs;obtain⟨t2,rfl⟩:=k;have sl:(100002:Nat)<=AB:=by decide
 have n:=split_le y z;have c:∀(l:O (AK×Tok)) (tk:Nat),l.map (·.1)=Txt.split y z->EP X AO σ Q (.ref s.heap.objs.size) { s with toks:=tk,heap:=s.heap.push { cls:=.type "list",data:=.seq (strValues l).toArray } }:=λl tk e=>by
  have j:AV X AO σ (BD H s.heap.objs.size (.lst ((Txt.split y z).map V.str))) { s with toks:=tk,heap:=s.heap.push { cls:=.type "list",data:=.seq (strValues l).toArray } }:=
   I.laid (t':=tk) (λb o e=>zg _ e) (zo _) (show jx X.prog X.w _ _ _ (.lst _) from⟨by rw[zd];omega,strValues l,0,Gp (by rw[<-e];exact strsAre_of_values l),zD _ rfl⟩)
  have g:=I.hok.fresh (zo _);exact⟨.ref s.heap.objs.size,_,j,rfl,q _ _ (cG g) g bK⟩
 cases h1:(decide (y.length<z.length)||decide (strKind y<strKind z))
 ·cases a:(occurrences y z 0 y.length (y.length+1)).isEmpty
  ·have e:Txt.split y z=partsBetween y (occurrences y z 0 y.length (y.length+1)) z.length:=(zv (ne_true_of_eq_false h1)).trans (zv (ne_true_of_eq_false a));refine call_meets YA (typeIs_str _ _ _) F.entry_str_split (F.args_str_split_2 _ _) (meets_str_split_sep y z t t2 h1 f a () (by rw[<-e];omega)) ?_;show EP X AO σ Q _ { s with toks:=_,heap:=s.heap.push { cls:=.type "list",data:=.seq (strsFrom s.toks (partsBetween y (occurrences y z 0 y.length (y.length+1)) z.length)).toArray } };rw[strsFrom_eq];exact c _ _ ((numbered_texts _ _).trans e.symm)
  ·exact call_meets YA (typeIs_str _ _ _) F.entry_str_split (F.args_str_split_2 _ _) (meets_str_split_not_found y z t t2 h1 f a) (c [(y,t)] s.toks ((zv (ne_true_of_eq_false h1)).trans (zh a)).symm)
 ·exact call_meets YA (typeIs_str _ _ _) F.entry_str_split (F.args_str_split_2 _ _) (meets_str_split_cannot_occur y z t t2 h1) (c [(y,t)] s.toks (zh h1).symm)
def FD:Bx->Bx->Y Bx
 |.z (.str y),.z (.str z)=>if(z.length==0)=false/\y.length<=100000 then Z (.o ((Txt.split y z).map Dt.str))else Y3
 |_,_=>Y3
variable{o:Expr}{fx:Ev->Y Bx}
theorem U9(B:QV X o fo)(hx:QV X e fx)(u:attributeBase o "split" X.env (eval o X.env)=eval o X.env:=by rfl)(s:((AE cpos (AA [e] X.env)).all (λx=>!x.1)&&(backToKw cpos (keywordEach [] X.env)).all (λx=>x.1.isSome)&&decide ([e].length+([]:O AD).length+(if([]:O AD).isEmpty then 0 else 1)<30))=true:=by rfl)(A:(apos.endLine==cpos.line)=true:=by rfl)(hs:AA [e] X.env=(false,eval e X.env)::AA [] X.env:=by rfl):QV X (.Call (.Attribute o "split" apos) [e] [] cpos) (b2 FD fo fx):=
 ⟨Mr (YM (T :="str") F.plainAttrs_str YA F.type_str_split w9 B.run (JC hx.run Qn hs) u s A hs Y2) λσ H Q q=>by
  obtain⟨H0,ρ,c,E,e,q⟩:=q;obtain⟨a,ea,e⟩:=AU e;obtain⟨b,eb,e⟩:=AU e;unfold FD at e;split at e
  ·rename_i y z _;split at e
   ·rename_i h;cases e;refine⟨H0,ρ,_,E,ea,λv H1 f C n=>?_⟩;obtain⟨rfl,m⟩:=W7 n;refine⟨rfl,H0,ρ,[_],E.grow f,by simp only[aq,eb,y8];rfl,λvs H2 g k=>?_⟩;obtain⟨w,rfl,t⟩:=BT k;obtain⟨rfl,D⟩:=W7 t;refine⟨y,z,rfl,rfl,h.1,h.2,λl G i j e3=>q _ _ ((f.trans g).trans i) (λa ea=>by cases ea;exact(f.trans g).free j) ⟨l,_,rfl,e3,JV λp hp=>zl (part_short hp) m⟩⟩
   ·cases e
  ·cases e⟩
end
section
variable{g:Ev->Y AK}
def Zx(a:R fa ρ (zE eS))(b:R fb ρ (zE eS)):R (b2 FD fa fb) ρ (oE eS):=⟨Txt.split a.v b.v,bD (bD a.D b.D) (Z ((b.v.length==0)=false/\a.v.length<=100000)),λh=>by
 obtain⟨h,c⟩:=aC h;obtain⟨h1,h2⟩:=aC h;simp only[b2,a.ok h1,b.ok h2,B4,FD,zE,eS];exact zh c⟩
end
def EV(X:Cx)(a:A2)(zs:B5):HO:=.ext λh=>∃n,n<=zs.length/\h.SetOf (strKind X.prog X.w) a (λz=>decide (z∈zs)) n
theorem Pv{zs:B5}(b:n<=zs.length)(x:h.SetOf (strKind X.prog X.w) a (λz=>decide (z∈zs)) n):jx X.prog X.w H h a (EV X a zs):=
 ⟨⟨n,b,x⟩,(let ⟨o,_,_,_,ho,_⟩:=x;⟨o,ho⟩),λh1 h2 ⟨n,b,o,es,ep,t,ho,r⟩ k=>⟨n,b,o,es,ep,t,k o ho,r⟩⟩
theorem i8:yE X (AH .In) (λx y H Q=>∃t a zs,x=.str t/\y=.ref a/\H a=Z (EV X a zs)/\Q (.bl (decide (t∈zs))) H):=by
 intro AO s σ H x y v u Q I c e h;obtain⟨t,a,zs,rfl,rfl,b,q⟩:=h;obtain⟨tk,rfl⟩:=c;cases e;obtain⟨n,_,f⟩:=(I.hok _ _ b).1;exact wpAny_inSet_of (strKind_is X.prog X.w t tk) Y2 f ⟨.bl _,H,I.tok _,rfl,q⟩
section
variable{e1 e2 e3:Expr}{gr:Ev->Y Ap}{fx:Ev->Y Dt}{tR tQ:TS}{xr xj y1 y2:AK}{AT no:O AC}{kk:Nat}{p0 p00 p01 p02 q1 q2 pt pj pa px pb pif pf2 px3 a1 c1 pe1 pr a2 pj2 c2 pe2:Pos}
end
section
variable{e:α->Dt}{ea:β->Dt}{eb:δ->Dt}{kk:Ev->Y Ap}{cO:γ->Ap}
end
end P1
namespace P1
open L2 S1
theorem sw{x y:AZ}{p q:A0}(hs:Uk x y=true)(hp:nA x p=true)(a:nA y q=true)(h:Q (.bool (Y9 x y)) s):A8 (A9 prog w) A (AH .Lt p q) Q E s:=by
 rcases bU hp with⟨i,t,rfl,rfl⟩|⟨z,t,rfl,rfl⟩
 ·rcases bU a with⟨j,u,rfl,rfl⟩|⟨z,u,rfl,rfl⟩
  ·exact lt_int h
  ·cases hs
 ·rcases bU a with⟨j,u,rfl,rfl⟩|⟨b,u,rfl,rfl⟩
  ·cases hs
  ·exact PySem.P.lt_str h
theorem d3{g:O AZ}{b:A2}{c:O A0}(G:rK s.heap a AS.toArray)(D:rK s.heap b c.toArray)(hk:Ks ks AS)(S:Ks g c)(hs:DJ ks g)(X:A.units<cLine)(h:Q (.bool (jj ks g)) s):A8 (A9 prog w) A (AH .Lt (.ref a) (.ref b)) Q E s:=by
 obtain⟨y,ea,B,⟨na,M⟩,_⟩:=G;obtain⟨x,eb,z,⟨nb,W⟩,_⟩:=D;show A8 _ _ (richCompare .Lt (.ref a) (.ref b)) _ _ _;refine wpAny_richCompare_same_room ⟨y,ea,B⟩ ⟨x,eb,z⟩ F.slot_tuple_lt (jb F.slot_tuple_lt ⟨y,ea,B⟩ F.entry_tuple_lt ?_ (F.args_tuple_lt_2 _ _)) X;show A8 _ _ (isInstance (.ref b) (.type "tuple") >>= _) _ _ s;refine zb (y3 ⟨x,eb,z⟩ isSubtype_tuple_tuple ?_);simp only[i4,z5,Qb];refine zb (wpAny_tupleItemsOf ea M ?_);refine zb (wpAny_tupleItemsOf eb W ?_);refine zb ?_;refine wpAny_forIn_list _
  (λAT r s'=>r.1=Y3/\s'=s/\∃l m j k,AT=List.zip j k/\Ks l j/\Ks m k/\DJ l m/\jj l m=jj ks g/\(j.length<k.length↔AS.length<c.length))
  _ ?_ ?_ _ _ ⟨rfl,rfl,ks,g,AS,c,by simp,hk,S,hs,rfl,Iff.rfl⟩
 ·rintro⟨u,v⟩ AT r s' ⟨t,rfl,l,m,j,k,i,q,n,o,f,p⟩;cases q with
  |nil=>simp at i
  |@cons L u' N K h1 J=>
   cases n with
   |nil=>simp at i
   |@cons H v' P I h2 U=>
    simp only[JP,hY.injEq,yT]at i;obtain⟨⟨rfl,rfl⟩,rfl⟩:=i;refine zb (DE h1 h2 ?_);simp only[jj]at f;by_cases e:L=H
    ·rw[zh e]at f;rw[zz e];simp only[i4,z5,Qb];exact ze ⟨rfl,rfl,N,P,K,I,rfl,J,U,o.2,f,by simpa using p⟩
    ·rw[zv e]at f;rw[z4 e];simp only[yi,QP];refine zb (QN ?_);refine zb (show A8 _ _ (AH .Lt u v) _ _ _ from sw o.1 h1 h2 ?_);rw[f];exact zb (ze (ze (ze ⟨_,rfl,by simp,h⟩)))
 ·rintro⟨r1,r2⟩ s' ⟨t,rfl,l,m,j,k,i,q,n,o,f,p⟩;simp only at t;subst t;have C:decide (AS.length<c.length)=jj ks g:=by
   rw[<-f,<-decide_eq_decide.mpr p];cases q with
   |nil=>cases n with
    |nil=>rfl
    |cons _ _=>rfl
   |cons _ _=>cases n with
    |nil=>rfl
    |cons _ _=>simp at i
  refine ze ⟨_,rfl,?_⟩;show Value.bool (decide (AS.toArray.size<c.toArray.size))≠_/\Q (Value.bool (decide (AS.toArray.size<c.toArray.size))) _;rw[zi,zi,C];exact⟨by simp,h⟩
def Xm:Bx->Bx->Y Bx
 |.z a,.z b=>(G9 a).bind λks=>(G9 b).bind λc=>if QF ks c=true then Z (.z (.bl (jj ks c)))else Y3
 |_,_=>Y3
theorem WN(C:X.A.units+100<cLine):Dj X (AH .Lt) Xm:=by
 intro AO s σ H x y v u Q I l n h;obtain⟨a,b,c,f,g,e,q⟩:=h;unfold Xm at e;split at e
 ·rename_i t d2;obtain⟨ks,ek,e⟩:=AU e;obtain⟨z,el,e⟩:=AU e;split at e
  ·rename_i k;cases e;rw[vY ek]at f;rw[vY el]at g;simp only[bH,C0,AX]at f g;obtain⟨p,vs,rfl,sq,rs⟩:=f;obtain⟨p',B,rfl,m,o⟩:=g;cases l;cases n;obtain⟨AS,j,t1⟩:=Ll I sq;obtain⟨w,i,t2⟩:=Ll I m;rw[Ab rs]at j;rw[Ab o]at i;exact d3 t1 t2 (MM X j) (MM X i) (Gq k) () ⟨.bl _,H,I,rfl,q _ H (AW.refl H) trivial (by simp only[bH,AX])⟩
  ·cases e
 ·cases e
theorem E6{a b:Y β}{c:β}(h:a.or b=Z c):a=Z c\/b=Z c:=by
 cases a with
 |none=>exact .inr h
 |some x=>exact .inl h
def GU(f g:Bx->Bx->Y Bx):Bx->Bx->Y Bx:=λa b=>(f a b).or (g a b)
theorem SU{i:A0->A0->Sem A0}{f g:Bx->Bx->Y Bx}(h1:Dj X i f)(h2:Dj X i g):Dj X i (GU f g):=λAO s σ H x y v u Q I k m h=>by
 obtain⟨a,b,c,j,l,e,q⟩:=h;rcases E6 e with e|e
 ·exact h1 AO s σ H x y v u Q I k m ⟨a,b,c,j,l,e,q⟩
 ·exact h2 AO s σ H x y v u Q I k m ⟨a,b,c,j,l,e,q⟩
section
variable{f:A2}{p:Pos}
end
end P1
namespace P1
open L2 S1 S6
theorem MO{p:O α->Prop}(h:p []):∀us:O α,us.length=0->p us
 |[],_=>h
section
variable{e:α->Dt}{g:Ev->Y Bx}{c:α->Bx}
def TU(a:R fa ρ (zE eS))(b:R fb ρ (zE eS)):R (b2 (GU Y8 Xm) fa fb) ρ (zE eB):=⟨Cu a.v b.v,bD a.D b.D,λh=>by
 obtain⟨h1,h2⟩:=aC h;simp only[b2,a.ok h1,b.ok h2,B4];rfl⟩
def SG[lZ e](a:R fa ρ (zE e))(b:R fb ρ (zE e)):R (b2 (GU Y8 Xm) fa fb) ρ (zE eB):=⟨DI e a.v b.v,bD a.D b.D,λh=>by
 obtain⟨h1,h2⟩:=aC h;simp only[b2,a.ok h1,b.ok h2,B4,GU];have c:=vY (lZ.ok (e:=e) a.v);have f:=vY (lZ.ok (e:=e) b.v);have n:Y8 (zE e a.v) (zE e b.v)=Y3:=by
  show Y8 (.z (e a.v)) (.z (e b.v))=Y3;rw[c];rfl
 rw[n];show Xm (.z (e a.v)) (.z (e b.v))=_;unfold Xm;simp only[lZ.ok,B4,lZ.shp,QP];rfl⟩
end
def EB(d:Dt):R (cB d) ρ (zE eD):=rQ d eD d rfl
def BB(i:Int):R (cB (.int i)) ρ (zE eI):=rQ (.int i) eI i rfl
def Dk(s:AK):R (cB (.str s)) ρ (zE eS):=rQ (.str s) eS s rfl
abbrev Nn(K:BA)(n:AK)(f:A2):Prop:=nsIn K mainGlobals n=Z (Z (.ref f))
abbrev Lk(K:BA)(f:A2)(n:AK)(st:AC)(g:A0)(a:Y A2)(sl:Array (Y A0))(kV e pm:A0)(c:Y A2)(b ct:A0):Prop:=K.lookup f=Z ⟨g,a,.func (fnOf n n (wQ st) (kE st) (aJ st) .none kV e pm c b ct),sl⟩
end P1
namespace P1
open L2
section
variable{e:α->Dt}
end
section
variable{Ex:BO}{outer:O Env}{L e T:A2}{C fl:A0}{dx:Y A2}{Q:Unit->A3->Prop}
end
section
variable{H':Hp}{h':A7}{ch:O A2}
end
section
variable{g:Array GenState}{d:Drawn}{t:Nat}{fI e:A2}{AT:O A0}{B:String}
end
section
variable{g:Array GenState}{d:Drawn}{t:Nat}{e:A2}
end
section
variable{g:Array GenState}{d:Drawn}{t:Nat}{e dx:A2}{v:A0}{vs:Array A0}{sl:Array (Y A0)}{m:AK->Y A0}
end
section
variable{o value:Expr}{tv:TE}{f:AK}{pos' p:Pos}{B:String}{t:TA}
end
section
variable{f:AK}{p:Pos}{B:String}
end
section
variable{E:XK}
end
section
variable{Cn f:A2}{iv iy:Nat}{n cn:AK}{np hp p py pa:Pos}{b0:AC}{suite:O AC}{ts:A2->TS}{tf:TE}{t:TA}
end
section
variable{d:A2}{fs:O (AK×V)}{f:AK}{o:Expr}
end
section
variable{f:AK}{E:XK}{gy:Ev->Y Dt}{p:Pos}{AT a b:O AC}{B:String}{pc:Ev->Y Bool}
end
section
variable{f h:A2}{fs:Ev->Y (O Bx)}{p q:Pos}
end
end P1
namespace P1
open L2 S6
section
variable{xs:B5}
theorem ub(e:h.get? a=Z (EJ X.w)):jx X.prog X.w H h a (EV X a []):=Pv (n:=0) (zo _) ((setObjOf_fresh _).setOf e ())
def Po(X:Cx)(D:A2)(_:Hp)(a:O Dt)(o:HO):Prop:=∃us,o=EV X D us/\(∀z,z∈us↔Dt.str z∈a)/\us.length<=a.length
theorem aw(h:PV X elt fe):W4 X (λD env=>do let v <-eval elt env;standAt elt.pos;let _ <-call (.builtin "set.add") [.ref D,v]) (λρ=>(fe ρ).bind Ha) (Po X) 4000 n:=by
 refine Pw λAO s σ H Hb ρ D o o1 ys I En c hD ⟨us,e,r4⟩ hl=>?_;subst e;obtain⟨b,eb,c⟩:=AU c;obtain⟨a,rfl,rfl⟩:∃a,b=.z (.str a)/\ys=[.str a]:=by
  unfold Ha at c;split at c
  ·cases c;exact⟨_,rfl,rfl⟩
  ·cases c
 refine zb (qA (h AO s σ H (λv f=>AW H f/\AX X.K f (.str a) v) I ⟨Hb,ρ,_,En,eb,λv f j _ l=>⟨j,l⟩⟩) (λv j A=>?_) λ_ _ z=>z);obtain⟨y,f,m,B,q,l⟩:=A;obtain⟨rfl,G⟩:y=.str a/\a.length<=AB:=by simpa only[AX]using l
 obtain⟨tk,rfl⟩:=B;have g:=q _ _ hD;simp only[ku]at hl;obtain⟨L,J,C⟩:=(m.hok _ _ g).1;have M:(4001:Nat)<scanBound:=by decide
 refine zb (QU (zb ?_));refine call_set_add (k:=a) (strKind_is X.prog X.w a tk) Y2 C () λh' E i=>?_;have e:(λp=>decide (p∈us)||decide (p=a))=λz=>decide (z∈us++[a]):=by
  funext z;simp
 rw[e]at i;obtain⟨o',_,_,_,t,_⟩:=id i;refine ze ⟨f,_,m.write (t':=j.toks+1) (x:=D) (e:=D) (o:=EV X D (us++[a])) (by rw[g];trivial) (.inl Y2) (λb u F e=>by rw[E.2 b F];exact e) ⟨o',t⟩ (Pv (by rw[zt,ku];split<;>omega) i),
  q,di g,us++[a],rfl,λz=>?_,by simp;omega⟩
 rw[bc,bc,r4.1 z];simp
def Lv(X:Cx)(i:Nat)(f:Ev->Y B5):TS:=λD σ H=>∃H0 ρ ys,bW X.K H0 H σ ρ/\f ρ=Z ys/\∀a zs H',AW H H'->H a=Y3->H' a=Z (EV X a zs)->(∀z,z∈zs↔z∈ys)->D.nx (σ.set i (Z (.ref a))) H'
theorem Xn(i:Nat){py spos:Pos}(ts:B5)(O:wU X scope cl xs is)(a6:X.calm=true)(hN:X.N.Nodup)(hi:ML X tgt iter fi)(W:∀C a c fp,FH (Dy X (xs++ts) scope cl C a c fp) tgt gt)(b6:∀C a c fp,CA (Dy X (xs++ts) scope cl C a c fp) ifs p)(b3:∀C a c fp,PV (Dy X (xs++ts) scope cl C a c fp) elt fe)(a1:C' is.length (is.length+ts.length) gt)(c4:swapsWith (.SetComp elt [⟨tgt,iter,ifs,0⟩] scope pos) (Z (.Name y py)) spos.line X.env=pure true:=by with_unfolding_all rfl)(k:X.N[i]?=Z y:=by rfl)(hx:D6 X.env.scope y:=by first|exact km rfl|exact ja Y2)(hf:X.fn y=true\/X.env.scope.names.lookup y=Z .local:=by first|exact .inl rfl|exact .inr Y2)(hs:∀x,foldedSetIterable iter X.env x=pure x:=by intro _;rfl):PS X (.Assign [.Name y py] (.SetComp elt [⟨tgt,iter,ifs,0⟩] scope pos) spos) (Lv X i (NA fi gt p fe is ts.length)):=λAO s σ H D I h=>by
 obtain⟨H0,ρ,ys,E,e,q⟩:=h;obtain⟨ds,ed,e⟩:=AU e;split at e
 ·rename_i a4;obtain⟨out,G,e⟩:=AU e;have L:=Ux e;rw[exec_Assign_Name_used _ _ _ _ c4];refine zb (QU (zb ?_));show A8 _ X.A (do let _ <-comprehension (.SetComp elt [⟨tgt,iter,ifs,0⟩] scope pos) scope X.env _ (newSet (.type "set")) false (eval iter X.env) (Z (assign (.Name y py) X.env))) _ _ s;refine zb (qA (kM (use:=Z (assign (.Name y py) X.env)) (Q:=λ_ s'=>SP X AO D .next s') Y2 hs O.clos O.kind O.names ?_) (λ_ s' U=>ze (ze U)) λ_ _ e=>e);refine jQ (hi AO s σ H (λJ H'=>AW H H'/\B9 X.K J ds H') I ⟨H0,ρ,ds,E,ed,λJ H' s' y=>⟨s',y⟩⟩) λv s1 h1=>jQ h1 λd0 s2 h2=>?_;obtain⟨it,fp,tn,J,H2,rfl,I2,T,st,c0,n,Y⟩:=h2;have a2:∀d∈out,∃z,d=Dt.str z:=λd hd=>by rw[L]at hd;obtain⟨z,_,rfl⟩:=aQ.mp hd;exact⟨z,rfl⟩
  refine Gi (B:=Oa) (Ac:=Po X) (O0:=EV X s2.heap.objs.size []) (N:=4000) (RR:=λa5 C=>compPost (dl X) X.A X.xe (Z (assign (.Name y py) X.env)) (λ_ s'=>SP X AO D .next s') a5 C) (ts:=ts) (xs:=xs) O a6 W b6 (λC a c fp=>aw (b3 C a c fp)) a1 (Nat.le_add_right ..) I2 ((E.grow n).caps is ts.length) (TF T) st c0 Y (Xb F5 G a2) (zl (z7 G) (qh a4)) ?_
   WZ (λ_=>ub (zD _ Y2)) (λ_=>⟨[],rfl,by simp,zo _⟩) (λ_ h=>h) (λ_ _ _=>Y2) Tu λh=>h
  rintro f C s' H' o hD t fC ⟨m,hn⟩ b0 a7 ⟨zs,rfl,mz,_⟩;show A8 _ X.A (assign (.Name y py) X.env (.ref f)) _ _ s';obtain⟨f0,f1,f2,f3,M,S⟩:=fC;obtain⟨g,b4,ep,a3,u,b5⟩:=id hn;have c5:L2.AV X (AO++[(C,g)]) σ H' s':=t.IK λF hp=>by
   rcases bc.mp hp with z|z
   ·exact t.pin F (ZN _ z)
   ·have:F=(C,g):=by simpa using z
    subst this;exact⟨a3,f0,f1,f2,λv z=>by rw[u]at z;cases z⟩
  refine jQ (L2.IW hN k hx hf (AO++[(C,g)]) s' σ H' (.ref f) (.ref f) (λσ' j=>σ'=σ.set i (Z (.ref f))/\j=H') c5 Y2 ⟨rfl,rfl⟩) λ_ s'' ⟨σ',j,J',e1,e2⟩=>?_;subst e1 e2;have P:=(J'.pin (C,g) (by simp)).1;refine⟨m,⟨g,b4,ep,P,u,b5⟩,λh' sb=>?_⟩;refine⟨σ.set i (Z (.ref f)),j,J'.vR.turned (t':=s''.toks) (λb o hb e=>(sb.2 b hb).trans e) f0 f1 f3 M S,q f zs _ (n.trans b0) (n.free hD) a7 λz=>?_⟩;rw[mz z,L];constructor
  ·intro l;obtain⟨y,k,e⟩:=aQ.mp l;cases e;exact k
  ·exact λl=>aQ.mpr ⟨z,l,rfl⟩
 ·cases e
end
def Va(k:Nat)(fe:Ev->Y Bx)(ys:B5)(fx:Ev->Y Dt):O Dt->Ev->Y (Sum Ev Dt)
 |[],ρ=>Z (.inl ρ)
 |d::ds,ρ=>(fe (ρ.set k (Z (.z d)))).bind λb=>match b with
  |.z (.str x)=>if x∈ys then(fx (ρ.set k (Z (.z d)))).bind λq=>Z (.inr q)else Va k fe ys fx ds (ρ.set k (Z (.z d)))
  |_=>Y3
section
variable{e2 se:Expr}{fS:Ev->Y B5}{fx:Ev->Y Dt}{no AT:O AC}{tR tQ:TS}{p0 p02 px pb pif pk:Pos}{f:AK}{E:XK}
def GI(j k:Nat)(fS:Ev->Y B5)(fi:Ev->Y (O Dt))(fe:Ev->Y Bx)(fx:Ev->Y Dt):Ev->Y (Sum Ev Dt):=λρ=>(fS ρ).bind λys=>(fi (ρ.set j Y3)).bind λds=>if j<ρ.length/\j≠k then Va k fe ys fx ds (ρ.set j Y3)else Y3
theorem UE(j k:Nat)(hp:PassesOwn (dl X) X.A X.env X.xe)(hc:X.calm=true)(hN:X.N.Nodup)(hS:PS X (.Assign [.Name x p0] se p02) (Lv X j fS))(hi:Do X (.Name y pk) iter fi)(h2:QV X e2 fe)(hR:NQ X no tR)(hQ:NQ X AT tQ)
  (xj:X.N[j]?=Z x:=by rfl) (xk:X.N[k]?=Z y:=by rfl) (vj:D9 X.env.scope x:=by first|exact km rfl|exact ja (km Y2)|exact ja (ja Y2)) (lj:D6 X.env.scope x:=by first|exact km rfl|exact ja Y2) (lk:D6 X.env.scope y:=by first|exact km rfl|exact ja Y2)
  (gj:X.fn x=true\/X.env.scope.names.lookup x=Z .local:=by first|exact .inl rfl|exact .inr Y2) (gk:X.fn y=true\/X.env.scope.names.lookup y=Z .local:=by first|exact .inl rfl|exact .inr Y2)
  (dj:db x:=by decide) (cj:(x==("__classdict__":AK))=false:=by decide) (hs:∀z,foldedSetIterable iter X.env z=pure z:=by intro _;rfl)
  (b3:behindInMarks .In (.Name x px)=false:=by with_unfolding_all rfl):
  NQ X (.Assign [.Name x p0] se p02::.For (.Name y pk) iter [.If (.Compare e2 [.In] [.Name x px] pb) no [] pif] [] pos::AT) λF σ H=>
   ∃H0 ρ r,bW X.K H0 H σ ρ/\GI j k fS fi fe fx ρ=Z r/\(∀ ρ',r=.inl ρ'->∀ σ' H',bW X.K H0 H' σ' ρ'->tQ F σ' H')/\∀d,r=.inr d->∀D' σ' H' a1,bW X.K H0 H' σ' a1->fx a1=Z d->D'.rt=F.rt->tR D' σ' H':=by
 refine GN (Jw hS
  (Jw (RI hp hc hi.run (L2.IW hN xk lk gk) (wb (RE (YG i8 h2.run (Ga (i:=j) xj vj dj cj) b3) hR YD)) hs) hQ)) λF σ H h=>?_
 obtain⟨H0,ρ,r,Ev,e,q1,q2⟩:=h;obtain⟨ys,ey,e⟩:=AU e;obtain⟨ds,ed,e⟩:=AU e;split at e;rotate_left
 ·cases e
 rename_i I;obtain⟨hj,I⟩:=I;refine⟨H0,ρ,ys,Ev,ey,λD zs H1 s1 c0 hD W=>?_⟩;have B:bW X.K H0 H1 (σ.set j (Z (.ref D))) (ρ.set j Y3):=by
  have E0:=(Ev.ahy j).grow s1;have p:∀(q:Nat) c,(ρ.set j Y3)[q]?=Z (Z c)->(σ.set j (Z (V.ref D)))[q]?=σ[q]?:=λq c z=>Dw _ (bn z).1;exact⟨by rw[kQ];exact E0.len,λq b e=>by rw[p q b e];exact E0.val q b e,
   λq q' c a b e1 e2 e3 Q e5 e6=>E0.own q q' c a b e1 e2 (by rw[<-p q c e1];exact e3) Q e5 (by rw[<-p q' b Q];exact e6),E0.base,λq c a e1 e2 e3=>E0.new q c a e1 e2 (by rw[<-p q c e1];exact e3)⟩
 have b5:(σ.set j (Z (V.ref D)))[j]?=Z (Z (.ref D)):=JG _ (by rw[Ev.len];exact hj);generalize σ.set j (Z (V.ref D))=σ1 at *
 refine⟨H0,_,ds,B,ed,λJ H2 U y=>?_⟩;have l:=B.grow U;have E:=U _ _ hD;have Y:B9 X.K J ds (jh H2 σ1 (ρ.set j Y3)):=by
  refine y _ wR (λa g=>?_) (λa o u g=>nF l (λvs z=>by rw[g]at z;cases z) (λvs z=>by rw[g]at z;cases z)) λa vs g=>nF l (λvs z=>by rw[g]at z;cases z) (λvs z=>by rw[g]at z;cases z);unfold jh;rw[zv];rintro⟨q,c,e1,ec,e2⟩;exact EO B q c a e1 (by cases c<;>first|rfl|cases ec) e2 g
 have a3:jh H2 σ1 (ρ.set j Y3) D=Z (EV X D zs):=(nF l (λvs z=>by rw[E]at z;cases z) (λvs z=>by rw[E]at z;cases z)).trans E;have ES:=l.sans;have sub:=l.sub;generalize jh H2 σ1 (ρ.set j Y3)=Hs at Y a3 ES sub;refine⟨λn m' σ' H'=>m'=ds.length-n/\n<=ds.length/\σ'[j]?=Z (Z (.ref D))/\∃ ρ',bW X.K Hs H' σ' ρ'/\Va k fe ys fx (ds.drop n) ρ'=Z r,⟨ds.length,by simp,ZT _,b5,_,ES,e⟩,?_⟩;rintro n m' σ' H' ⟨rfl,c4,a7,ρ',s,f⟩;obtain⟨b6,b4⟩:=Y n H' s.base;by_cases L:n<ds.length
 ·right;have hd:ds[n]?=Z ds[n]:=by simp[L]
  obtain⟨go,yl⟩:=b6 _ hd;rw[kK L]at f;simp only[Va]at f;obtain⟨b,eb,f⟩:=AU f;refine⟨go,λG H2=>G[j]?=Z (Z (.ref D))/\∃a4,bW X.K Hs H2 G a4/\Va k fe ys fx (ds.drop (n+1)) a4=Z r,λG H2 ⟨z1,z2⟩=>⟨ds.length-(n+1),by omega,rfl,L,z1,z2⟩,λM P yy=>?_⟩;obtain⟨a6,rx⟩:=yl M P yy;have S:bW X.K Hs P (σ'.set k (Z M)) (ρ'.set k (Z (.z ds[n]))):=(s.grow a6).set (b:=.z ds[n]) (AW.refl P) rx (.inr Y2) trivial;have a2:(σ'.set k (Z M))[j]?=Z (Z (.ref D)):=(Dw _ I).trans a7;split at f;rotate_left
  ·cases f
  rename_i t;refine⟨Hs,_,_,S,eb,λv H4 s4 _ r4=>⟨.ref D,a2,?_⟩⟩;obtain⟨rfl,_⟩:v=.str t/\t.length<=AB:=by simpa only[bH,AX]using r4
  have C:=S.grow s4;have b0:=C.base _ _ a3;refine⟨t,D,zs,rfl,rfl,b0,?_⟩;refine⟨decide (t∈zs),rfl,?_⟩;dsimp only;by_cases m:t∈ys
  ·rw[zh m]at f;obtain⟨d,ex,f⟩:=AU f;cases f;rw[zh (zz ((W t).mpr m))];exact q2 d Y2 _ _ _ _ (C.rebase sub) ex rfl
  ·rw[zv m]at f;rw[zv (by rw[z4 (λz=>m ((W t).mp z))];exact zC)];exact⟨a2,_,C,f⟩
 ·left;have a5:ds.length<=n:=by omega
  refine⟨b4 a5,?_⟩;rw[kn a5]at f;cases f;exact q1 _ Y2 σ' H' (s.rebase sub)
theorem ay(j k:Nat)(hp:PassesOwn (dl X) X.A X.env X.xe)(o:X.calm=true)(B:X.N.Nodup)(m:PS X (.Assign [.Name x p0] se p02) (Lv X j fS))(hi:Do X (.Name y pk) iter fi)(h2:QV X e2 fe)(a:D0 X AT g)
  (xj:X.N[j]?=Z x:=by rfl) (p:X.N[k]?=Z y:=by rfl) (v:D9 X.env.scope x:=by first|exact km rfl|exact ja (km Y2)|exact ja (ja Y2)) (n:D6 X.env.scope x:=by first|exact km rfl|exact ja Y2) (u:D6 X.env.scope y:=by first|exact km rfl|exact ja Y2)
  (i:X.fn x=true\/X.env.scope.names.lookup x=Z .local:=by first|exact .inl rfl|exact .inr Y2) (l:X.fn y=true\/X.env.scope.names.lookup y=Z .local:=by first|exact .inl rfl|exact .inr Y2)
  (t:db x:=by decide) (b:(x==("__classdict__":AK))=false:=by decide) (hs:∀z,foldedSetIterable iter X.env z=pure z:=by intro _;rfl)
  (f:behindInMarks .In (.Name x px)=false:=by with_unfolding_all rfl):
  D0 X (.Assign [.Name x p0] se p02::.For (.Name y pk) iter [.If (.Compare e2 [.In] [.Name x px] pb) no [] pif] [] pos::AT) (λρ=>(GI j k fS fi fe (λ_=>Y3) ρ).bind λr=>match r with
   |.inl ρ'=>g ρ'
   |.inr _=>Y3):=⟨GN (UE j k hp o B m hi h2 WJ a.run xj p v n u i l t b hs f) λC σ H h=>by
 obtain⟨H0,ρ,out,Ev,e,q⟩:=h;obtain⟨r,er,e⟩:=AU e;cases r with
 |inl s=>exact⟨H0,ρ,_,Ev,er,λρ' z σ' H' c=>(by cases z;exact⟨H0,s,out,c,e,q⟩),λd z=>nomatch z⟩
 |inr d=>cases e⟩
end
end P1
namespace P1
open L2
section
variable{e1 e2 e3:Expr}{gr:Ev->Y Ap}{xr xj y1 y2:AK}{AT no:O AC}{kk:Nat}{p0 p00 p01 p02 q1 q2 pt pj pa px pb pif pf2 px3 a1 c1 pe1 pr a2 pj2 c2 pe2:Pos}{fx:Ev->Y Dt}{f:AK}{E:XK}
end
section
variable{Cn f:A2}{iv:Nat}{n cn:AK}{np hp p pa:Pos}{b0:AC}{suite:O AC}{ts:A2->TS}{tf:TE}{t:TA}
end
section
variable{fx:Ev->Y Bx}
end
section
variable{xs:Array A0}
end
theorem zZ:∀{AS:O A0} {a:O Int},IntsAre AS a->AY (a.map V.int) AS
 |_,_,.nil=>.nil
 |_,_,.cons y t h=>.cons ⟨t,rfl⟩ (zZ h)
def Vb:Bx->Bx->Y Bx
 |.z (.bl a),.z (.bl b)=>Z (.z (.bl (!(a==b))))
 |_,_=>Y3
theorem tT:Dj X (AH .IsNot) Vb:=by
 intro AO s σ H x y v u Q I i l h;obtain⟨a,b,c,f,g,e,q⟩:=h;unfold Vb at e;split at e
 ·rename_i k j;cases e;obtain rfl:x=.bl k:=by simpa only[bH,AX]using f
  obtain rfl:y=.bl j:=by simpa only[bH,AX]using g
  cases i;cases l;exact ze ⟨.bl (!(k==j)),H,I,(by cases k<;>cases j<;>rfl),q _ H (AW.refl H) trivial (by simp only[bH,AX])⟩
 ·cases e
section
variable{e:α->Dt}
def nE(a:R fa ρ (zE eB))(b:R fb ρ (zE eB)):R (b2 Vb fa fb) ρ (zE eB):=⟨!(a.v==b.v),bD a.D b.D,λh=>by
 obtain⟨h1,h2⟩:=aC h;simp only[b2,a.ok h1,b.ok h2,B4,Vb]⟩
end
section
variable{e:α->Dt}{ea:β->Dt}{eb:δ->Dt}{fx:Ev->Y Dt}{d:Dt}
end
section
variable{e:α->Dt}{g:Ev->Y β}{c:γ->β}
end
section
variable{E:XK}
end
section
variable{f:AK}{E:XK}{fs:Ev->Y (O Bx)}{gy:Ev->Y Dt}{p p1 epos:Pos}{AT:O AC}
end
section
variable{o:Expr}
def Vc:O Bx->Y Bx
 |[.z (.str x)]=>if x.length<=640 then(intText? x).bind λn=>Z (.z (.int n))else Y3
 |_=>Y3
theorem ol:vW X (.type "int") Vc:=by
 intro AO s σ H xs us Q I f h;obtain⟨bs,c,a,e,q⟩:=h;unfold Vc at e;split at e
 ·rename_i x;split at e
  ·rename_i hx;obtain⟨n,en,e⟩:=AU e;cases e;obtain⟨v,rfl,g⟩:=BT a;obtain⟨rfl,_⟩:=W7 g;obtain⟨u,rfl,b⟩:=BG f;obtain⟨t,rfl⟩:=b;exact PySem.W.KIN.call_text en hx ⟨.int n,H,I.tok _,⟨_,rfl⟩,q _ H (AW.refl H) trivial JK⟩
  ·cases e
 ·cases e
def PH:Dt->Bool
 |.non=>true
 |.tup _=>true
 |_=>false
def ND:Dt->Bool
 |.non=>true
 |_=>false
end
section
variable{o l:Expr}{fs:Ev->Y (O Bx)}{z:AK}
end
instance {σ τ:Type} [Inhabited σ]:Inhabited (wN σ τ):=⟨.nx default⟩
section
variable{e:α->Dt}
def nj:Dt->AK
 |.str x=>x
 |.int i=>Str.ofString (toString i)
 |_=>Str.empty
def IE:Dt->Prop
 |.str _=>True
 |.int i=>i.natAbs<=1000000
 |_=>False
def oI(a:R fa ρ (zE eD)):R (dh IH (aq fa aG)) ρ (zE eS):=⟨nj a.v,bD a.D (Z (IE a.v)),λh=>by
 obtain⟨h1,h2⟩:=aC h;have h2:IE a.v:=h2;simp only[dh,aq,aG,a.ok h1,B4,eD];generalize a.v=d at h2;cases d<;>first|exact h2.elim|rfl|exact zh h2⟩
def cS(a:R fa ρ (zE eS)):R (dh Vc (aq fa aG)) ρ (zE eI):=⟨(intText? a.v).getD 0,bD a.D (Z (a.v.length<=640/\(intText? a.v).isSome=true)),λh=>by
 obtain⟨h1,h2⟩:=aC h;have h2:a.v.length<=640/\(intText? a.v).isSome=true:=h2;simp only[dh,aq,aG,a.ok h1,B4,eS,Vc,zh h2.1];obtain⟨n,en⟩:=cZ.mp h2.2;rw[en];rfl⟩
theorem NE(a:∀x,∃ds,e x=.tup ds)(ys:O (Y α)):(ys.map (eO e)).all PH=true/\(ND ∘ eO e)=Option.isNone:=by
 refine⟨?_,?_⟩
 ·rw[qf];intro d hd;obtain⟨o,_,rfl⟩:=aQ.mp hd;cases o with
  |none=>rfl
  |some x=>obtain⟨ds,q⟩:=a x;show PH (e x)=true;rw[q];rfl
 ·funext o;cases o with
  |none=>rfl
  |some x=>obtain⟨ds,q⟩:=a x;show ND (e x)=false;rw[q];rfl
end
section
variable{o e2:Expr}{fx fy:Ev->Y Bx}
end
section
variable{f:AK}{E:XK}{gy:Ev->Y Dt}{sts AT:O AC}{p0 p00 p01 p02:Pos}
end
structure DQ (K:BA) (mg:Str->Option Value) (x:Str) (st:Stmt) (ps:B5) where
 f:Addr
 fd:FuncData
 F:DS K x x st f fd
 b:Bn K fd ps []
 m:mg x=some (.ref f)
 k:keepIn K (.ref f)=true
def gD{f:A2}{i b:Y A2}{sl:Array (Y A0)}{m kV j pm e ct:A0}(X:K.In h)(G:h.Ns mainGlobals mg)(a:Nn K x f)(l:Lk K f x st m i sl kV j pm b e ct)(c:codeIn K e x=true)(k:keepIn K (.ref f)=true)(o:∀(kV n pm:A0) (b:Y A2) (g ct:A0) (us:O A0),us.length=ps.length->bindArgs (fnOf x x (wQ st) (kE st) (aJ st) .none kV n pm b g ct) ⟨us,[]⟩=pure (ps.zip us):=by intro _ _ _ _ _ _;first|exact P1.LF λ_=>Y2|exact P1.LP λ_ _=>Y2|exact P1.YN λ_ _ _=>Y2|exact P1.wm λ_ _ _ _=>Y2|exact P1.nS λ_ _ _ _ _=>Y2|exact P1.MO Y2):DQ K mg x st ps:=
 ⟨f,_,PD l c k,(PD l c k).binds o,mg_of X G a,k⟩
theorem Fk{v:Tok->A0}{tk:Tok}(X:K.In h)(G:h.Ns mainGlobals mg)(c:nsIn K mainGlobals x=Z (Z (v tk))):∃tk,mg x=Z (v tk):=⟨tk,mg_of X G c⟩
abbrev Ok(P:A4)(w:A5)(base:A7)(d:DQ K mg x st ps)(k n:Nat)(F:O Bx->Y Bx):Prop:=Cg P w K mg base Tt k d.f d.fd ps (DD K n F)
theorem vI(d:DQ K mg x st ps)(S:aW N ps (aJ st))(e:∀(a:A0) (A:A6) (outer:O Env) (s:A3) (H:Hp) (E:XK),lK k (A.deeper (AL x (aJ st) s.heap.objs.size d.f a))->(A.deeper (AL x (aJ st) s.heap.objs.size d.f a)).units+100<cLine->N.Nodup->D0 (Jy Tt P w K mg base N x (aJ st) d.f a A outer s H E).nox (kE st) g)(h:N.length=n:=by rfl)(c:ps.length=m:=by rfl):Ok P w base d (k+1) m (cu n g):=NN d.F S h c λa A outer s H E b=>e a A outer s H E b (Qx b) S.nd
section
variable{fs:Ev->Y (O Bx)}{p:Pos}
theorem bf(d:DQ X.K X.mg x st ps)(G:Ok X.prog X.w X.base d k n F)(f:lK m X.A)(c:YQ X (e::es) fs)(a:Gl X x:=by rfl)(j:k<=m:=by decide)(i:db x:=by decide)(h:AA (e::es) X.env=(false,eval e X.env)::AA es X.env:=by rfl)(g:(AE pos (AA es X.env)).any (·.1)=false:=by rfl):QV X (.Call (.Name x p) (e::es) [] pos) (aV n F fs):=
 mv G (f.mono j) a d.m d.k d.b c i h g
end
theorem GL{l:PySem.W.OpenLaw}{q:A4}{loose:B5}{d:DefRec}{K:Params->BA}{T:BA->(AK->Y A0)->Type}{F_law:O Bx->Y Bx}(c:∀{K mg},T K mg->DQ K mg "law" st [x])(hk:lK k callerA)(hd:d.name ="law")(G:∀(w:A5) (mg:AK->Y A0) (base:A7) (t:T (K w.params) mg),Ok l.prog w base (c t) k 1 F_law)(v:l.most=Z 63)(B:d.params.defaults=[])(h1:∀b:O Int,b.length<=63->F_law [.z (.lst (b.map .int))]=Z (.z (.bl true)))(h2:∀b:O Int,b.length<=63->F_law [.l (b.map .int)]=Z (.z (.bl true)))(M:∀(kV i pm:A0) (g:Y A2) (j ct u:A0),bindArgs (fnOf "law" "law" (wQ st) (kE st) (aJ st) .none kV i pm g j ct) ⟨[u],[]⟩=pure [(x,u)])(A:∀(w:A5) (h:A7),YP w h->(K w.params).In h)(L:∀(w:A5) (h:A7) (mg C:AK->Y A0) (y:ExcName->Y A0) (p:B5),(K w.params).In h->Top q p y mg C h->∃J,L2.Fn (K w.params) h J)(F:∀(w:A5) (mg:AK->Y A0) (h:A7),(K w.params).In h->h.Ns mainGlobals mg->T (K w.params) mg):
  PySem.W.WalkO q loose XP YP l.row.toRowW d [] (λf vs=>PySem.call f vs):=
 L2.W1 (n:=63) (k:=k) (x:=x) (CX:=Tt) (sp:=λK=>DD K 1 F_law) v () B hk A (λw mg fa h X N e=>by
  have t:=F w mg h X N;have D:=(c t).m;rw[hd,D]at e;cases e;refine⟨(c t).fd,λs u=>?_,λbase _ _=>G w mg base t⟩;obtain⟨Q,S,kV,i,pm,g,j,ct,osl,e,P,U⟩:=(c t).F.ex;rw[e];exact .of_eq (M kV i pm g j ct u)) (λK H a b E o I=>gS h1 h2 K H a b E o I) (λ_ _ _ _ z=>z) L
section
variable{f:A2}{sp:A2->O V->Hp->VK->Prop}{p:Pos}{t:TA}
end
section
variable{p0 p1:Pos}{xs:B5}{e:A2}{a:Expr}{ta:TA}
end
section
variable{f:AK}{E:XK}{fs:Ev->Y (O Bx)}{p:Pos}
end
section
variable{g:Array GenState}{d:Drawn}{t:Nat}{AT:O A0}{B:String}
end
section
variable{E:XK}{p:Pos}{B:String}{t:TA}
end
def F3(j:Int)(ds:O Dt):O Dt:=(dc ds.length).zipWith (λk d=>.tup [.int (j+(k:Nat)),d]) ds
theorem Zy(j:Int)(ds:O Dt):(F3 j ds).length=ds.length:=by simp[F3]
section
variable{p kp cp:Pos}{fs:Ev->Y (O Bx)}{j:Int}{kk:Nat}
end
section
variable{e:α->Dt}
def iz(j:Int)(xs:O α):O (Int×α):=(dc xs.length).zipWith (λ(k:Nat) x=>(j+(k:Int),x)) xs
end
section
variable{g:Ev->Y AK}
variable{e:α->Dt}
end
section
variable{e:α->Dt}{σ' τ:Type}
def qE(e:α->Dt):Y (O α)->Bx
 |none=>.z .non
 |some l=>.o (l.map e)
def tw(e:α->Dt):Y (O α)->Bx
 |none=>.z .non
 |some l=>.l (l.map e)
class MA (c:Option (List α)->Bx) (e:outParam (α->Dt)):Prop where
 d:∀v,toD (c v)=eO (eL e) v/\oX (c v)=false
instance:MA (qE e) e:=⟨λv=>by cases v<;>exact⟨rfl,rfl⟩⟩
instance:MA (tw e) e:=⟨λv=>by cases v<;>exact⟨rfl,rfl⟩⟩
instance:MA (zE (eO (eL e))) e:=⟨λv=>⟨rfl,rfl⟩⟩
end
theorem f6(l:A2)(items:Array A0)(n:Nat)(a:Y A2)(sl:Array (Y A0)):
  Meets (Builtin.«enumerate.__new__» ⟨[.type "enumerate", .ref l],[]⟩) (λ_ R s=>s.heap.get? l=Z ⟨.type "tuple",a,.seq items n,sl⟩ ∧
   R (.ok (.ret (.ref (s.heap.push { cls:=.type "tuple_iterator",data:=.fields #[.ref l,.int 0 0] }).objs.size)))
    { s with heap:=(s.heap.push { cls:=.type "tuple_iterator",data:=.fields #[.ref l,.int 0 0] }).push { cls:=.type "enumerate",data:=.fields #[.none,.bool false,.ref s.heap.objs.size,rawInt 0,.none,.none] } }):=
 .of_wp λprog w A R s ⟨hl,h⟩=>by
  obtain⟨hp,g,d,tk,os⟩:=s;have b:=sub_enumerate;have m2:Heap.IsTuple (Shared.heap ⟨hp,g,d,tk,os⟩) l items:=⟨_,hl,rfl,n,rfl⟩
  wp_walk using AutoSeq1.wpAny_loadPart' hl
  refine wpAny_stack_any λst=>ze ?_;split
  ·rename_i c _ _ _ _ _;cases(c==Value.type "enumerate")
   ·wp_walk using AutoSeq1.wpAny_loadPart' hl,yk m2
    exact⟨_,rfl,h⟩
   ·wp_walk using AutoSeq1.wpAny_loadPart' hl,yk m2
    exact⟨_,rfl,h⟩
  ·wp_walk using AutoSeq1.wpAny_loadPart' hl,yk m2
   exact⟨_,rfl,h⟩
theorem oQ(f:s.heap.IsTuple l items)(h:∀h',IsEnum h' (s.heap.objs.size+1) s.heap.objs.size 0 .none->h'.IsTupleIter s.heap.objs.size l 0->(∀b o,s.heap.get? b=Z o->h'.get? b=Z o)->Q (.ref (s.heap.objs.size+1)) { s with heap:=h' }):
  A8 (A9 prog w) A (call (.type "enumerate") [.ref l]) Q E s:=by
 obtain⟨⟨c,g,m,sl⟩,k,i,n,hd⟩:=f;cases i;cases hd;refine callType_new F.called_enumerate () (F.typeCall_enumerate_1 _) (F.newCall_enumerate_1 _) (λj=>F.args_object_init_2 j _) F.entry_enumerate_new (f6 l items n g sl) ⟨k,?_⟩;have e:(s.heap.push { cls:=.type "tuple_iterator",data:=.fields #[.ref l,.int 0 0] }).objs.size=s.heap.objs.size+1:=Kj ..;show _/\_;rw[e];have a:=zD (s.heap.push { cls:=.type "tuple_iterator",data:=.fields #[.ref l,.int 0 0] }) (o:={ cls:=.type "enumerate",data:=.fields #[.none,.bool false,.ref s.heap.objs.size,rawInt 0,.none,.none] }) rfl;rw[e]at a;exact⟨⟨_,a,rfl⟩,h _ a ⟨_,zg _ (zD _ Y2),rfl,rfl⟩ λb o x=>zg _ (zg _ x)⟩
theorem ia{e:A2}{j:Int}{x old:A0}(u:IsEnum s.heap e it j old)(N:s.heap.IsTupleIter it l i)(M:s.heap.IsTuple l items)(hx:items[i]?=Z x)(D:e≠it)(q:∀h',IsEnumOut h' e it (j+1) x s.heap.objs.size->h'.IsTupleIter it l (i+1)->h'.get? s.heap.objs.size=Z { cls:=.type "tuple",data:=.seq #[.int j s.toks,x] }->(∀b o,b≠e->b≠it->s.heap.get? b=Z o->h'.get? b=Z o)->Q (.ref s.heap.objs.size) { s with heap:=h',toks:=s.toks+1 }):
  A8 (A9 prog w) A (Builtin.«enumerate.__next__» ⟨[.ref e],[]⟩) (λL s'=>∃v,L=.done (.ret v)/\Q v s') E s:=by
 obtain⟨c,g,d,tk,os⟩:=s;have f:it≠e:=k9 D;show A8 _ _ (field (.ref e) 2 >>= _) _ _ _;refine zb (jn u Y2 (x:=.ref it) Y2 (zb (WU N M hx λa1 it1 (t:Heap.SameBut it c a1)=>?_)));have e1:IsEnum a1 e it j old:=(t.2 e D).trans u;show A8 _ _ (field (.ref e) 3 >>= _) _ _ ⟨a1,g,d,tk,os⟩;refine zb (jn e1 Y2 (x:=rawInt j) Y2 ?_);show A8 _ _ (field (.ref e) 4 >>= _) _ _ ⟨a1,g,d,tk,os⟩;refine zb (jn e1 Y2 (x:=.none) Y2 ?_);show A8 _ _ (mkInt j >>= _) _ _ ⟨a1,g,d,tk,os⟩;refine zb (wpAny_mkInt ?_);show A8 _ _ (setField (.ref e) 3 (rawInt (j+1)) >>= _) _ _ ⟨a1,g,d,tk+1,os⟩;refine zb (kU e1 (by simp) λa2 e2 (k:Heap.SameBut e a1 a2)=>?_);have e2:IsEnum a2 e it (j+1) old:=e2;show A8 _ _ (setField (.ref e) 4 .none >>= _) _ _ ⟨a2,g,d,tk+1,os⟩;refine zb (kU e2 (by simp) λa3 e3 (m:Heap.SameBut e a2 a3)=>?_);have e3:IsEnum a3 e it (j+1) old:=e3;have z3:a3.objs.size=c.objs.size:=by rw[m.1,k.1,t.1]
 show A8 _ _ (newTuple [.int j tk,x] >>= _) _ _ ⟨a3,g,d,tk+1,os⟩;refine zb (wpAny_newTuple ?_);have le:e<c.objs.size:=zI u;obtain⟨a,I,h,J,G,H⟩:∃a,a3.push { cls:=.type "tuple",data:=.seq #[.int j tk,x] }=a/\IsEnum a e it (j+1) old/\a.get? c.objs.size=Z { cls:=.type "tuple",data:=.seq #[.int j tk,x] }/\(∀b o,b≠e->b≠it->c.get? b=Z o->a.get? b=Z o)/\a.IsTupleIter it l (i+1):=by
  refine⟨_,rfl,zg _ e3,by rw[<-z3];exact zD _ rfl,λb o b1 b2 z=>zg _ (m.extBut b o b1 (k.extBut b o b1 (t.extBut b o b2 z))),?_⟩;obtain⟨o,K,r⟩:=(it1.extBut k.extBut f).extBut m.extBut f;exact⟨o,zg _ K,r⟩
 rw[show({ heap:=a3,gens:=g,drawn:=d,toks:=tk+1,os:=os }:A3).heap.push { cls:=.type "tuple",data:=.seq #[.int j tk,x] }=a from I,show({ heap:=a3,gens:=g,drawn:=d,toks:=tk+1,os:=os }:A3).heap.objs.size=c.objs.size from z3];show A8 _ _ (Builtin.SmallTypes.ownedTupleIsFree (.ref e) >>= _) _ _ ⟨a,g,d,tk+1,os⟩;refine zb ?_;unfold Builtin.SmallTypes.ownedTupleIsFree;refine zb (jn h Y2 (x:=.none) Y2 (ze ?_));simp only[QP];refine zb (QN (zb (jn h Y2 (x:=old) Y2 (zb (kU h (by simp) λa5 p (C:Heap.SameBut e a a5)=>?_)))));have p:IsEnum a5 e it (j+1) x:=p;show A8 _ _ (Builtin.SmallTypes.ownedTupleHandOut (.ref e) (.ref c.objs.size) >>= _) _ _ ⟨a5,g,d,tk+1,os⟩;refine zb ?_;unfold Builtin.SmallTypes.ownedTupleHandOut;refine zb (kU p (by simp) λa6 n (B:Heap.SameBut e a5 a6)=>?_);have n:IsEnumOut a6 e it (j+1) x c.objs.size:=n;refine kU n (by simp) λa7 e7 (F:Heap.SameBut e a6 a7)=>?_;have kk:∀b o,b≠e->a.get? b=Z o->a7.get? b=Z o:=λb o y z=>F.extBut b o y (B.extBut b o y (C.extBut b o y z));exact zb (wpAny_letGo (ze ⟨_,rfl,q a7 e7 (((H.extBut C.extBut f).extBut B.extBut f).extBut F.extBut f) (kk _ _ (kG le) J) λb o b1 b2 z=>kk b o b1 (G b o b1 b2 z)⟩))
theorem pe{e:A2}{j:Int}{x old:A0}{Q:Y A0->A3->Prop}(f:IsEnum s.heap e it j old)(h:s.heap.IsTupleIter it l i)(n:s.heap.IsTuple l items)(hx:items[i]?=Z x)(m:e≠it)(q:∀h',IsEnumOut h' e it (j+1) x s.heap.objs.size->h'.IsTupleIter it l (i+1)->h'.get? s.heap.objs.size=Z { cls:=.type "tuple",data:=.seq #[.int j s.toks,x] }->(∀b o,b≠e->b≠it->s.heap.get? b=Z o->h'.get? b=Z o)->Q (Z (.ref s.heap.objs.size)) { s with heap:=h',toks:=s.toks+1 }):
  A8 (A9 prog w) A (pyNext (.ref e)) Q E s:=by
 have g:s.TypeIs (.ref e) "enumerate":=⟨_,f,rfl⟩;unfold pyNext;exact zb (wpAny_attempt (jI (name:=Str.ofString "__next__") g Kt (jb Kt g F.entry_enumerate_next (ia f h n hx m λh' a b c k=>ze (q h' a b c k)) (F.args_enumerate_next_1 _))))
theorem wE{e:A2}{j:Int}{old:A0}{Q:Y A0->A3->Prop}(g:A.handled=Y3)(a:IsEnum s.heap e it j old)(f:s.heap.IsTupleIter it l i)(h:s.heap.IsTuple l items)(hx:items[i]?=Y3)(q:∀h',Heap.ExtBut it s.heap h'->Q Y3 { s with heap:=h' }):A8 (A9 prog w) A (pyNext (.ref e)) Q E s:=by
 have c:s.TypeIs (.ref e) "enumerate":=⟨_,a,rfl⟩;unfold pyNext;refine zb (wpAny_attempt (jI (name:=Str.ofString "__next__") c Kt (jb Kt c F.entry_enumerate_next ?_ (F.args_enumerate_next_1 _))));show A8 _ _ (field (.ref e) 2 >>= _) _ _ _;refine zb (jn a Y2 (x:=.ref it) Y2 (zb (Xd g f h hx λh' x he' ⟨o,ho,hc⟩=>?_)));exact zb (y3 (T :="StopIteration") (b:=true) ⟨o,ho,hc⟩ isSubtype_stop (ze (q _ he')))
def MD(K:BA)(l:A2)(j:Int):It:=
 ⟨λi H=>∃xs x,wM K H l xs/\xs[i]?=Z x,λi H v H'=>∃p x,H p=Y3/\(∀xs,wM K H l xs->xs[i]?=Z x)/\v=.ref p/\H'=BD H p (.tup [.int (j+i),x]),λi H=>∃xs,wM K H l xs/\xs.length<=i⟩
theorem nN(l e it:A2)(j:Int)(G:e≠it):
  CS P w K (.Tuple elts x1 tpos) (MD K l j) [e,it] e (λi h=>(∃old,IsEnum h e it (j+(i:Nat)) old)/\h.IsTupleIter it l i) where
 mem:=by simp
 obj:=λi h st b a=>by
  obtain⟨⟨old,h1⟩,o,h2,_,h3⟩:=st;rcases ba.mp a with rfl|a
  ·exact⟨_,h1,λv z=>by cases z⟩
  ·cases ag.mp a;exact⟨o,h2,λv z=>by rw[h3]at z;cases z⟩
 keep:=λi h h' st k=>by
  obtain⟨⟨old,h1⟩,h2⟩:=st;exact⟨⟨old,k e (by simp) _ h1⟩,h2.at λo q=>k it (by simp) o q⟩
 item:=by
  intro X m y g C i AO s σ H E I f st n;subst m y g;obtain⟨⟨old,h1⟩,h2⟩:=st;obtain⟨xs,x,c,hx⟩:=n;obtain⟨AS,t,p,S⟩:=I.tuple c;obtain⟨u,hu,W⟩:=t.get hx;have fe:=f e (by simp);have fi:=f it (by simp);refine pe h1 h2 (show s.heap.IsTuple l AS.toArray from p) (x:=u) (by simpa using hu) G λa2 ho M hT hk=>⟨_,rfl,?_⟩;refine wpAny_letOwnedTupleGo_enum ho λJ F A=>?_;have elt:e<s.heap.objs.size:=zI h1;have a1:it<s.heap.objs.size:=by obtain⟨_,q,_⟩:=h2;exact zI q
  have U:J.get? s.heap.objs.size=Z { cls:=.type "tuple",data:=.seq #[.int (j+(i:Nat)) s.toks,u] }:=(A.2 _ (kG elt)).trans hT;have D:J.IsTupleIter it l (i+1):=M.at λo q=>(A.2 it (k9 G)).trans q;have Q:j+(i:Nat)+1=j+((i+1:Nat):Int):=by omega
  refine⟨.ref s.heap.objs.size,BD H s.heap.objs.size (.tup [.int (j+i),x]),Zf (t':=s.toks+1) I (λb o B n2 q=>(A.2 b B).trans (hk b o B n2 q)) fe fi ⟨_,F⟩ (by obtain⟨o,q,_⟩:=D;exact⟨o,q⟩) ?_,rfl,⟨_,x,I.hok.fresh (zo _),λys hy=>by rw[I.Gb hy c];exact hx,rfl,rfl⟩,⟨⟨_,by rw[<-Q];exact F⟩,D⟩,λb a=>?_⟩
  ·exact⟨by show 2<=AB;decide,[.int (j+(i:Nat)) s.toks,u],.cons ⟨_,rfl⟩ (.cons W .nil),_,U,rfl,⟨_,rfl⟩,rfl⟩
  ·rcases ba.mp a with rfl|a
   ·rw[aR (ZO elt)];exact fe.1
   ·cases ag.mp a;rw[aR (ZO a1)];exact fi.1
 done:=by
  intro X m y g C i AO s σ H E I f st n;subst m y g;obtain⟨⟨old,h1⟩,h2⟩:=st;obtain⟨xs,c,hx⟩:=n;obtain⟨AS,t,p,S⟩:=I.tuple c;obtain⟨f0,f1,f2,f3,L,N⟩:=f it (by simp);have hl:=t.length;exact wE (I.ok.hd C) h1 h2 (show s.heap.IsTuple l AS.toArray from p) (by simp;omega) λh' eb=>⟨rfl,I.turned (t':=s.toks) (λb o a e=>eb b o a e) f0 f1 f3 L N⟩
 self:=λ_ _ _ _ _ st h=>by
  obtain⟨⟨old,h1⟩,_⟩:=st;exact yv h1 h
theorem B9.enT(j:Int)(h:wM K Hs l vs)(r:aP K Hs ds vs):B9 K (MD K l j) (P1.F3 j ds) Hs:=λi H s=>by
 have h':=Kp.sqT (.of s) h;have c:=r.kp (.of s);refine⟨λd e=>?_,λe=>⟨vs,h',by rw[Zy]at e;rw[r.length];exact e⟩⟩;have hi:i<ds.length:=by
  have:=(bj.mp e).1;rwa [Zy]at this
 have f:ds[i]?=Z ds[i]:=by simp[hi]
 unfold P1.F3 at e;rw[nf]at e;simp[hi]at e;subst e;obtain⟨v,ev,g⟩:=c.get f;refine⟨⟨vs,v,h',ev⟩,λx H' y=>?_⟩;obtain⟨p,m,hp,k,rfl,rfl⟩:=y;have:=k vs h';rw[ev]at this;cases this;have a:AW H (BD H p (.tup [.int (j+i),v])):=λb o q=>by rw[aR (cJ q hp)];exact q
 refine⟨a,?_⟩;simp only[AX];exact⟨p,_,rfl,.inl (.inl bK),aP.cons (by simp only[AX]) (aP.cons (AX.kp (.of a) g) aP.nil)⟩
section
variable{p:Pos}{fs:Ev->Y (O Bx)}
def aT(K:BA)(ta:TA):TI:=λσ H R=>ta σ H λvs H1=>∃l,vs=[.ref l]/\(∃xs,wM K H1 l xs)/\R (MD K l 0) H1
theorem lS{ta:TA}(g:Gl X "enumerate")(i:X.mg "enumerate"=Y3)(j:PA X [e] ta)(hs:AA [e] X.env=[(false,eval e X.env)]:=by rfl):PI X (.Tuple elts x1 tpos) (.Call (.Name "enumerate" p) [e] [] pos) (aT X.K ta):=by
 intro AO s σ H R I h;refine Call_ (yI I g i boot_enumerate (PyProof.Rows.callWith_type1 (jQ (j pos AO s σ H _ I h) λus s1 ⟨vs,H1,I1,r1,q1⟩=>?_) hs Y2));obtain⟨l,rfl,⟨xs,k⟩,q⟩:=q1;obtain⟨u,rfl,m⟩:=BG r1;cases m;obtain⟨AS,o,p,n⟩:=I1.tuple k;refine oQ (show s1.heap.IsTuple l AS.toArray from p) λh' c f hk=>?_;refine yv c ?_;refine⟨s1.heap.objs.size+1,[s1.heap.objs.size+1,s1.heap.objs.size],_,_,H1,rfl,I1.kept (t':=s1.toks) hk,nN l _ _ 0 (kG (k6 _)),⟨⟨_,by rw[show(0:Int)+((0:Nat):Int)=0 by simp];exact c⟩,f⟩,λb a=>?_,q⟩;rcases ba.mp a with rfl|a
 ·exact I1.Ti (KG _) (I1.hok.fresh (KG _))
 ·cases ag.mp a;exact I1.Ti (zo _) (I1.hok.fresh (zo _))
def IM:O Bx->Y (O Dt)
 |[.z (.tup ds)]=>Z (F3 0 ds)
 |_=>Y3
theorem XL(j:Gl X "enumerate")(k:X.mg "enumerate"=Y3)(m:YQ X [e] fs)(hs:AA [e] X.env=[(false,eval e X.env)]:=by rfl):Do X (.Tuple elts x1 tpos) (.Call (.Name "enumerate" p) [e] [] pos) (λρ=>(fs ρ).bind IM):=⟨λAO s σ H R I q=>by
 refine lS j k m.run hs AO s σ H R I ?_;obtain⟨H0,ρ,ds,E,e,q⟩:=q;obtain⟨bs,eb,e⟩:=AU e;refine⟨H0,ρ,bs,E,eb,λvs H1 i l=>?_⟩;unfold IM at e;split at e
 ·rename_i n;cases e;obtain⟨v,rfl,c⟩:=BT l;simp only[bH,AX]at c;obtain⟨a,h,rfl,b,rs⟩:=c;refine⟨a,rfl,⟨h,b⟩,q _ _ i λHs hs t g f=>.enT 0 ?_ (rs.part g f)⟩;rcases b with (b|⟨o,b⟩)|b
  ·exact .inl (.inl ((f _ _ b).trans b))
  ·exact .inl (.inr ⟨o,(g _ _ _ b).trans b⟩)
  ·exact .inr b
 ·cases e⟩
end
section
variable{e:α->Dt}
def Lu(fs:Ev->Y (O Bx)):Ev->Y (O Dt):=λρ=>(fs ρ).bind IM
def Se(a:R fa ρ (zE (eT e))):R (Lu (aq fa aG)) ρ (iE (Xe eI e)):=⟨iz 0 a.v,a.D,λh=>by
 have b:F3 0 (a.v.map e)=(iz 0 a.v).map (Xe eI e):=by
  unfold F3 iz;rw[zd,mX,lg]
 simp only[Lu,aq,aG,a.ok h,B4,zE,eT,IM,b]⟩
end
section
variable{e:α->Dt}
end
section
variable{AT:O AC}{ga:Ev->Y Ap}
end
section
variable{f:A2}{Fa Fb:O Bx->Y Bx}{p spos:Pos}{fs:Ev->Y (O Bx)}
end
section
variable{e:α->Dt}
end
end P1
namespace P1
open L2 S1 S6
section
variable{e:α->Dt}
end
end P1
namespace P1
open L2
section
variable{e:α->Dt}
end
section
variable{R:Result->A3->Prop}{I:A2}{wr:O A2}{P:Nat->A0->Prop}{St:Nat->A7->Prop}
end
section
variable{e:α->Dt}
end
def G2{α:Type}:O α->O α
 |[]=>[]
 |x::xs=>x::G2 (xs.drop 5)
termination_by l=>l.length
decreasing_by simp;omega
section
variable{st:Expr}{fs:Ev->Y Bx}
end
section
variable{e:α->Dt}
end
section
variable{AT:O AC}{W:O Nat}
end
section
variable{e:α->Dt}
end
section
variable{st:O AC}{fr:Ev->Y Bx}{W:O Nat}{z:Pos}{Φ:Hp->Hp->L2.St->Ev->Prop}
end
section
variable{AT:O AC}
end
end P1
namespace P1
open L2 S6
section
variable{p p' pos':Pos}
end
end P1
namespace P1
open L2 S1
section
variable{T:O AZ->A0->Prop}(inj:∀ k l v,T k v->T l v->k=l)
include inj
end
end P1
namespace P1
open L2 S1 S6
section
variable{e:α->Dt}{e':β->Dt}
end
end P1
namespace P1
open L2
theorem Xo{pos':Pos}{c g:A0}(l:O A0)(h:TriplesOk l)(e:codeAmong pos' (l++[rawInt pos.line,rawInt pos.col,c])=Z g):codeAmong pos' l=Z g\/g=c:=by
 fun_induction TriplesOk l with
 |case1=>
  simp only[kP,codeAmong,rawInt]at e;split at e
  ·cases e;exact .inr rfl
  ·cases e
 |case2 a t b u x AT i=>
  simp only[lr,codeAmong]at e ⊢;split at e
  ·rename_i f;rw[zh f];exact .inl e
  ·rename_i f;rw[zv f];exact i h e
 |case3 l h1 h2=>exact h.elim
def Xp(K:BA)(c P:A2)(q:AK):Prop:=∃o vs e tf a tg inF b tt x t,K.lookup c=Z o/\o.cls=.type "code" ∧ o.data=.fields vs/\vs[11]?=Z (.ref P)/\vs.getD 11 .none=.ref P/\vs.getD 18 .none=.str e tf ∧
 vs.getD 7 .none=.int a tg/\vs.getD 9 .none=.bool inF/\vs.getD 10 .none=.int b tt/\c≠P/\vs[1]?=Z (.str x t)/\x∈IF/\q=x++(".<locals>.<lambda>":AK)
theorem Xp.tab{c P:A2}{q:AK}(h:Xp K c P q):Lm K P q:=by
 obtain⟨o,vs,_,_,_,_,_,_,_,x,t,a,_,d,e,_,_,_,_,_,_,f,g,i⟩:=h;exact⟨c,o,vs,x,t,a,d,f,g,e,i⟩
theorem Xp.hd{c P:A2}{q:AK}(h:Xp K c P q){hp:A7}(k:K.In hp):PySem.W.CodeHd hp c P:=by
 obtain⟨o,vs,a1,a2,f,n,m,g,l,x,t,a,b,d,e,e1,e2,e3,j,i,p,_⟩:=h;exact⟨o,vs,a1,a2,f,n,m,g,l,k _ _ a,b,d,e,e1,e2,e3,j,i,p⟩
abbrev Il:HO:=.ext λ_=>True
structure Vd (H:Hp) (f:Addr) (q:Str) (params:Arguments) (body:Expr) (scope:Scope) (clos:List (Str×Addr)) (pm:Value):Prop where
 at_:∃c' ctv oc vs t,H f=some (.qG (kla_obj "<lambda>" q params body scope clos pm c' ctv) Il)/\H c'=some (.qG oc Il)/\oc.data=.fields vs/\vs[1]?=some (.str q t)
theorem Vd.same{H':Hp}{f:A2}{q:AK}{body:Expr}{e:O (AK×A2)}{pm:A0}(h:Vd H f q params body scope e pm)(s:AW H H'):Vd H' f q params body scope e pm:=by
 obtain⟨c',g,i,vs,t,a,b,c⟩:=h.at_;exact⟨c',g,i,vs,t,s _ _ a,s _ _ b,c⟩
theorem Rj{o:AF}(e:h.get? a=Z o):jx P w H h a (.qG o Il):=⟨e,trivial,⟨o,e⟩,λ_ _ _ _=>trivial⟩
theorem x9{c P:A2}{q:AK}{body:Expr}{D:O (AK×A2)}{R:BO}(I:L2.AV X AO σ H s)(hK:Xp X.K c P q)(a3:X.env.code=.ref c)(hq:X.env.qual++("<lambda>":AK)=q)(e0:defaultsOf params X.env=([],[]))(a2:closureFor scope X.env=pure D)(h:∀f H' s',L2.AV X AO σ H' s'->AW H H'->H f=Y3->Vd H' f q params body scope D ((X.mg "__name__").getD .none)->R (.ref f) s'):A8 M A (eval (.Lambda params body scope pos) X.env) R E s:=by
 refine PySem.W.kla_eval e0 ?_;rw[show X.env.qual++("<lambda>":AK)=q from hq];obtain⟨ps,G,a4,e9⟩:=(I.ok.tabs.go I.base.Ce) P q hK.tab;obtain⟨a1,y,x,a5⟩:=I.hok P _ G;have B:s.heap.Ns mainGlobals X.mg:=I.mod.glob.keeps I.bk;have C:=hK.hd I.kIn;obtain⟨S,L,b1,b2,b3,b4,b5,Q⟩:=I.mod.bmain;have c4:mainGlobals≠P:=λz=>by
  obtain⟨o,es,ep,e,hd,_⟩:=B;rw[z,y]at e;cases e;cases hd
 have k:=I.bk _ _ b3;have F:S≠P:=λz=>by rw[z,y]at k;cases k;cases b4
 have c0:S≠mainGlobals:=λz=>by
  obtain⟨o,es,ep,e,hd,_⟩:=B;rw[z,e]at k;cases k;rw[hd]at Q;cases Q
 have hB:s.heap.BuiltinsAt X.mg P:=⟨S,L,b1,b2,c0,F,k,b4,b5,Q⟩;cases J:codeAmong pos (tr ps++a1).toList with
 |some U=>
  obtain⟨c',a,vs,t,rfl,g1,g2,g3⟩:=a5 pos U J;refine PySem.W.kla_makeFunctionHit (mg:=X.mg) a2 I.ok.glob B a3 C y x J hB λp h' tk hk e6=>?_;have m:L2.AV X AO σ H { s with heap:=h',toks:=tk }:=I.kept hk;have i:H h'.objs.size=Y3:=m.hok.fresh (zo _);have l:AW H (BD H h'.objs.size (.qG (kla_obj "<lambda>" q params body scope D ((X.mg "__name__").getD .none) c' p) Il)):=cG i;refine h h'.objs.size _ _ (m.laid (t':=tk) (λb u e=>zg _ e) (zo _) (Rj (zD _ Y2))) l i ⟨c',p,a,vs,t,bK,l _ _ g1,g2,?_⟩;rw[a4]at g3;exact g3
 |none=>
  refine PySem.W.kla_makeFunction (mg:=X.mg) a2 I.ok.glob B a3 C y x J c4 hB λc' p h' tk hx a6 d2 b0 N=>?_;obtain⟨e5,a,vs,t,e2,d1,hd,hv⟩:=b0;cases e2;have a7:H c'=Y3:=I.hok.fresh a6;have nP:∀b,H b=Y3->b≠P:=λb n z=>by rw[z,G]at n;cases n
  have e7:=N;have g:AW H (BD H c' (.qG a Il)):=cG a7;have u:Un X.fs [] H (BD H c' (.qG a Il)) s.heap h':=by
   refine⟨λb o e n _ _=>hx b o (nP b n) e,λb o e n _ _=>⟨o.slots,hx b o (nP b n) e⟩,λb o e n _=>?_,λb o e _=>?_,λb xs e=>g _ _ e,λb o u e=>g _ _ e,λb ps e=>⟨#[],by rw[g _ _ e];simp⟩⟩
   ·rw[aR (ZO (ZH (zI e) a6))];exact n
   ·by_cases j:b=P
    ·subst j;exact⟨_,N⟩
    ·exact⟨o,hx b o j e⟩
  have d0:G5 X.prog X.w (BD H c' (.qG a Il)) h':=λb L e=>by
   by_cases j:b=c'
   ·subst j;rw[bK]at e;cases e;exact Rj d1
   ·rw[aR j]at e;by_cases F:b=P
    ·subst F;rw[G]at e;cases e;refine⟨a1++#[rawInt pos.line,rawInt pos.col,.ref c'],?_,?_,λpos' U z=>?_⟩
     ·rw[<-yo];exact N
     ·rw[<-yo,ZA];exact TriplesOk_snoc _ _ _ _ x
     ·rw[<-yo,ZA]at z;rcases Xo _ x z with z|z
      ·obtain⟨d,od,ws,t',e1,e2,e3,e4⟩:=a5 pos' U z;exact⟨d,od,ws,t',e1,g _ _ e2,e3,e4⟩
      ·exact⟨c',a,vs,t,z,bK,hd,by rw[a4];exact hv⟩
    ·refine(I.hok b L e).stay (λd v hd q'=>hx d v (λz=>?_) q') (λd z=>g _ _ z) (λd xs z=>g _ _ z) λd o φ z=>g _ _ z;subst z;rcases hd with z|z
     ·exact F z.symm
     ·rw[G]at z;cases z
  have m:L2.AV X AO σ (BD H c' (.qG a Il)) { s with heap:=h',toks:=tk }:=I.un u d0;have i:(BD H c' (.qG a Il)) h'.objs.size=Y3:=m.hok.fresh (zo _);have c5:H h'.objs.size=Y3:=by rw[aR (kG d2)]at i;exact i
  have l:AW (BD H c' (.qG a Il)) (BD (BD H c' (.qG a Il)) h'.objs.size (.qG (kla_obj "<lambda>" q params body scope D ((X.mg "__name__").getD .none) c' p) Il)):=cG i;exact h h'.objs.size _ _ (m.laid (t':=tk) (λb u e=>zg _ e) (zo _) (Rj (zD _ Y2))) (g.trans l) c5 ⟨c',p,a,vs,t,bK,l _ _ bK,hd,hv⟩
def O5(X:Cx)(scope:Scope)(cl:O (AK×A2)):B5->O Nat->Prop
 |[],[]=>True
 |x::xs,i::is=>(X.N[i]?=Z x/\(X.env.kindOf x=Z .cell\/X.env.kindOf x=Z .free)/\scope.names.lookup x=Z .free/\∃c,cl.lookup x=Z c)/\O5 X scope cl xs is
 |_,_=>False
theorem O5.get{X:Cx}{scope:Scope}{cl:O (AK×A2)}:∀{xs:B5} {is:O Nat},O5 X scope cl xs is->xs.length=is.length/\∀(j:Nat) (x:AK),xs[j]?=Z x->∃i,is[j]?=Z i/\X.N[i]?=Z x/\(X.env.kindOf x=Z .cell\/X.env.kindOf x=Z .free)/\scope.names.lookup x=Z .free/\∃c,cl.lookup x=Z c
 |[],[],_=>⟨rfl,λj x e=>by simp at e⟩
 |x::xs,i::is,h=>by
  obtain⟨h1,h2⟩:=h;obtain⟨l,g⟩:=O5.get h2;refine⟨by simp[l],λj y e=>?_⟩;cases j with
  |zero=>simp at e;subst e;exact⟨i,rfl,h1⟩
  |succ j=>obtain⟨k,e1,e2⟩:=g j y (by simpa using e);exact⟨k,by simpa using e1,e2⟩
 |[],_::_,h=>h.elim
 |_::_,[],h=>h.elim
structure ZC (X:Cx) (scope:Scope) (cl:List (Str×Addr)) (x:Str) (xs:B5) (is:List Nat):Prop where
 clos:closureFor scope X.env=pure cl
 kind:scope.kind=.function
 co:scope.isCoroutine=false
 gen:scope.isGenerator=false
 ahM:∀y∈scope.names,y.2≠.cell
 par:scope.names.lookup x=some .local
 sub:CF X.env.cells cl
 has:∀y∈scope.names,y.2=.free->∃c,cl.lookup y.1=some c
 cap:O5 X scope cl xs is
def II(X:Cx)(A:A6)(a:B5)(env:Env)(s₀:A3)(H₀:Hp):Cx:=
 { X with A:=A.deeper env,N:=a,s₀:=s₀,H₀:=H₀,env:=env,outer:=X.stack,stack:=env::X.stack,ex:=[],calm:=true,fn:=λ_=>false,pn:=[],xe:=λ_ _=>False }
section
variable{q:AK}{body:Expr}{xs:B5}{f c':A2}{pm:A0}
theorem nr{h1:A7}{t1:Nat}{v:V}(I:L2.AV X AO σ H s)(O:ZC X scope cl x xs is)(S:A.frames=Z X.stack)(P:A.handled=Y3)(r:B6 v u)(G:h1.Ns s.heap.objs.size (λy=>[(x,u)].reverse.lookup y))(hk:∀b o,s.heap.get? b=Z o->h1.get? b=Z o):
  L2.AV (II X A (x::xs) (envX q scope s.heap.objs.size f (.ref c') cl) s H) [] (Z v::wV is σ) H { s with heap:=h1,toks:=t1 }:=by
 obtain⟨U,K⟩:=O.cap.get;have t:∀b:A2,b∉(II X A (x::xs) (envX q scope s.heap.objs.size f (.ref c') cl) s H).ex:=λb z=>absurd (show b∈([]:List A2) from z) (by simp);have g:∀y c,cl.lookup y=Z c->X.env.cells.lookup y=Z c:=λy c e=>O.sub.get e;refine⟨⟨I.ok.mod,O.kind,rfl,rfl,zo _,λy z c e1 e2=>I.ok.inj y z c (g _ _ e1) (g _ _ e2),λy a=>?_,λy c h _=>absurd h (by show ¬ (false=true);simp),λ_=>P,Around.frames_deeper S,.inr ⟨rfl,rfl⟩,λb z=>absurd z (t b),I.bs,zl I.ok.bsz I.sz,λb _ _=>t b,λb z=>absurd z (t b),I.stack,I.Qc,I.ok.tabs.go I.base.Ce⟩,
  rfl,I.bare,Un.kept hk,⟨_,G,λj y w e1 e2 _=>?_⟩,λy c e=>?_,I.hok.fresh (zo _),λy c e=>I.tD y c (g _ _ e),λp hp=>absurd (show p∈([]:List (A2×AF)) from hp) (by simp),I.hok.kept hk,?_⟩
 ·have a:scope.names.lookup y=Z .cell\/scope.names.lookup y=Z .free:=a;rcases a with a|a
  ·exact absurd Y2 (O.ahM _ (Q1 a))
  ·exact O.has _ (Q1 a) rfl
 ·cases j with
  |zero=>
   have e1:Z x=Z y:=e1;have e2:Z (Z v)=Z (Z w):=e2;cases e1;cases e2;exact⟨u,r,.inl ⟨O.par,by simp⟩⟩
  |succ j=>
   have e1:xs[j]?=Z y:=e1;have e2:(wV is σ)[j]?=Z (Z w):=e2;obtain⟨i,F,n,k,D,c,B⟩:=K j y e1;have e3:σ[i]?=Z (Z w):=by
    unfold wV at e2;rw[qv,F]at e2;cases q:σ[i]? with
    |none=>rw[ew,q]at e2;cases e2
    |some o=>
     rw[ew,q]at e2;have:o=Z w:=by simpa using e2
     rw[this]
   have E:D9 X.env.scope y:=by
    rcases k with k|k
    ·exact .inr (.inl k)
    ·exact .inr (.inr k)
   obtain⟨m',a1,L⟩:=I.loc;obtain⟨W,J,l⟩:=L i y w n e3 E;refine⟨W,J,?_⟩;rcases l with⟨C,_⟩|⟨_,c2,Q,N⟩
   ·rcases k with k|k<;>(rw[C]at k;cases k)
   ·have:=g _ _ B;rw[Q]at this;cases this;obtain⟨o,m,hd⟩:=N;exact .inr ⟨.inr D,_,B,o,hk _ o m,hd⟩
 ·obtain⟨M,o,m,hd⟩:=I.cell y c (g _ _ e);exact⟨M,o,hk _ _ m,hd⟩
 ·show(Z v::wV is σ).length=(x::xs).length;simp[wV,U]
theorem cz{d:Dt}{y:Bx}{v:V}(I:L2.AV X AO σ H s)(O:ZC X scope cl x xs is)(hA:A.frames=Z X.stack)(hh:A.handled=Y3)(a5:A.depth<recursionLimit)(L:Vd H f q params body scope cl pm)(U:∀a7 ct u,bindArgs (kla_fn "<lambda>" q params body scope cl pm a7 ct) ⟨[u],[]⟩=pure [(x,u)])(hb:∀f c' s H,PV (II X A (x::xs) (envX q scope s.heap.objs.size f (.ref c') cl) s H) body fb)(E:bW X.K H0 H σ ρ)(r:B6 v u)(rd:AX X.K H d v)(e:fb (Z (.z d)::lH is ρ)=Z y):
  A8 (dl X) A (call (.ref f) [u]) (λF s'=>∃g H',L2.AV X AO σ H' s'/\B6 g F/\AW H H'/\Nw H y g/\bH X.K H' y g) (λ_ _=>False) s:=by
 obtain⟨c',b5,oc,vs,t,a1,a2,P,a4⟩:=L.at_;have N:=(I.hok _ _ a1).1;have hc:=(I.hok _ _ a2).1;refine wpAny_call (PySem.W.kla_callFunE a5 N Y2 O.co O.gen Y2 ⟨c',oc,vs,t,rfl,hc,P,a4⟩ ?_);rw[U];refine ze (wpAny_newFunctionEnv O.ahM (λz hz=>by rw[ag.mp hz];exact O.par) (λb4 b0 D=>⟨(I.nolimit).fresh _ D,?_⟩) O.kind);show AG _ _ (.expr body (envX q scope s.heap.objs.size f (.ref c') cl)) _ _;have b3:∀b o,s.heap.get? b=Z o->b4.get? b=Z o:=λb o e=>D.extBut b o (ZO (zI e)) (zg _ e);have J:=nr (t1:=s.toks+1) (c':=c') (f:=f) (q:=q) I O hA hh r b0 b3;have E0:=E.caps is 0;have M:bW X.K H H (Z v::wV is σ) (Z (.z d)::lH is ρ):=by
  have B:=E0.len;simp only[List.replicate_zero,qS]at E0 B;refine⟨by simpa using B,λi b e=>?_,λi j c a b e h=>?_,AW.refl H,λi c a e h=>?_⟩
  ·cases i with
   |zero=>cases e;exact⟨v,rfl,rd⟩
   |succ i=>exact E0.val i b (by simpa using e)
  ·cases i with
   |zero=>cases e;cases h
   |succ i=>
    intro h1 h2 C h4;cases j with
    |zero=>cases h2;cases C
    |succ j=>rw[E0.own i j c a b (by simpa using e) h (by simpa using h1) (by simpa using h2) C (by simpa using h4)]
  ·cases i with
   |zero=>cases e;cases h
   |succ i=>intro h1;exact E0.new i c a (by simpa using e) h (by simpa using h1)
 refine PySem.W.kla_codeExpr (qA (hb f c' s H [] _ _ _ (λg H'=>AW H H'/\Nw H y g/\bH X.K H' y g) J ⟨H,_,y,M,e,λg H' n l p=>⟨n,l,p⟩⟩) (λF s' m=>?_) λe s' m=>m.elim);obtain⟨g,H',k,rv,n,l,p⟩:=m;obtain⟨v2,H2,I2,a6,S,n2,G⟩:=I.after (Q:=λg H'=>AW H H'/\Nw H y g/\bH X.K H' y g) ⟨g,H',k.os,k.bare,k.base,k.hok,rv,n,l,p⟩;exact⟨v2,H2,I2,a6,S,n2,G⟩
end
end P1
namespace P1
open L2 S1
def BY(okk:Dt->Bool)(fk:Dt->Y Bx):O Dt->Y (O (Dt×Dt))
 |[]=>Z []
 |d::ds=>match fk d with
  |some (.z k)=>if okk k=true then(BY okk fk ds).bind λr=>Z ((d,k)::r)else Y3
  |_=>Y3
theorem wz{H1:Hp}{S:A2}(s:AW H1 H)(h:H1 S=Y3):AW H1 (BD H S o):=λa u e=>by
 rw[aR (cJ e h)];exact s a u e
theorem Xq{d:Dt}{r:O (Dt×Dt)}(h:BY okk fk (d::ds)=Z r):∃k a,fk d=Z (.z k)/\okk k=true/\BY okk fk ds=Z a/\r=(d,k)::a:=by
 simp only[BY]at h;split at h
 ·rename_i k hk;split at h
  ·rename_i ok;obtain⟨a,e,h⟩:=AU h;cases h;exact⟨k,a,hk,ok,e,rfl⟩
  ·cases h
 ·cases h
theorem c9{H':Hp}(h:tH K H a xs)(s:AW H H'):tH K H' a xs:=by
 rcases h with (h|⟨o,h⟩)|h
 ·exact .inl (.inl (s _ _ h))
 ·exact .inl (.inr ⟨o,s _ _ h⟩)
 ·exact .inr h
section
variable{R:Result->A3->Prop}
end
section
variable{body:Expr}{ajY p kpos:Pos}{xs:B5}{c P:A2}{q:AK}{bt:Dt->Dt->Bool}
end
end P1
namespace P1
open L2
section
variable{o:Expr}
end
end P1
namespace P1
open L2 S1
end P1
namespace P1
open L2 S1 S6
section
variable{e:α->Dt}{e':β->Dt}
theorem O6{okk:Dt->Bool}{fk:Dt->Y Bx}{g:α->β}(a:∀y,okk (e' y)=true):∀{xs:O α},(∀x∈xs,fk (e x)=Z (.z (e' (g x))))->BY okk fk (xs.map e)=Z (xs.map λx=>(e x,e' (g x)))
 |[],_=>rfl
 |x::xs,h=>by
  rw[zw,BY,h x (zr ..)];simp only[a,QP];rw[O6 a λz b=>h z (zk _ b),B4];rfl
def hk(q:AK×β):O AZ:=[.inr q.1]
end
end P1
namespace P1
open L2
section
variable [Inhabited α] {e:α->Dt}{k:Ev->Y Ap}{cO:γ->Ap}
end
theorem iq{f c:A2}(F:DS K x qual st f fd)(i:fd.code=.ref c)(S:aW N ps (aJ st))(C:N.length=n)(t:ps.length=m)(B:∀(A:A6) (outer:O Env) (s:A3) (H:Hp) (E:XK),lK k (A.deeper (AL qual (aJ st) s.heap.objs.size f (.ref c)))->D0 (Jy Tt P w K mg base N qual (aJ st) f (.ref c) A outer s H E).nox (kE st) g):
  Cg P w K mg base Tt (k+1) f fd ps (DD K m (cu n g)):=by
 subst C t;obtain⟨J,G,kV,L,pm,I,j,ct,osl,rfl,z,p⟩:=F.ex;have i:j=.ref c:=i;subst i;refine OG z p S (λvs H Q E h=>h.1) λA outer s H vs Q E y h=>?_;refine⟨_,NQ.nox (B A outer s H E y).run,?_⟩;obtain⟨M,bs,r,u,D,e,q⟩:=h;obtain⟨a,er,e⟩:=AU e;refine⟨H,_,a,bW.start u D,er,?_⟩;cases a with
 |rt b=>cases e;exact λv H' s' l a=>q v H' s' l a
 |nx ρ=>cases e;exact λσ H' o=>q _ H' o.base trivial (by unfold bH AX;rfl)
 |bk ρ=>cases e
 |ct ρ=>cases e
section
variable{f:A2}{p:Pos}{fs:Ev->Y (O Bx)}
end
end P1
namespace P1
open PySem PySem.Spec PySem.Calls PyProof.Rows L2
def xb(f:A2)(v:A0):Bool:=match v with
 |.ref g=>g==f
 |_=>false
section
variable{D:O (AK×A2)}{k:AK}{tk:Tok}
end
section
variable{D:O (AK×A2)}{tab:O (AK×(O Bx->Y Bx))}{dn:AK}{ek:Expr}{p0 p1 p3 q0 q1 q2 q3:Pos}{AT:O AC}{fh:Ev->Y Bx}
end
end P1
namespace P1
open L2
def zu(o:AF):Y (AK×A2):=match o.data with
 |.fields vs=>match vs[1]?,vs[11]? with
  |some (Value.str x _),Z (Value.ref P)=>if IF.contains x=true then Z (x,P)else Y3
  |_,_=>Y3
 |_=>Y3
def TN(K:BA):O (A2×AK):=K.filterMap λp=>(zu p.2).map λq=>(q.2,q.1)
def Na(x:AK):Array A0:=#[.str (x++(".<locals>.<lambda>":AK)) 0]
def LN(K:BA):O (A2×Array A0):=(TN K).map λp=>(p.1,Na p.2)
def DL(K:BA)(x:AK):Y A2:=match nsIn K mainGlobals x with
 |some (Z (.ref f))=>match K.lookup f with
  |some a=>match a.data with
   |.func fd=>match fd.code with
    |.ref c=>Z c
    |_=>Y3
   |_=>Y3
  |none=>Y3
 |_=>Y3
def Jl(p:A4)(K:BA)(c:A2)(x:AK)(P:A2):Bool:=(recsOf p).any (λd=>d.name==x)&&DL K x==Z c&&(K.lookup c).bind zu==Z (x,P)&&(K.lookup P).isNone&&(TN K).lookup P==Z x
def iP(p:A4)(K:BA):Bool:=K.all λr=>match zu r.2 with
 |none=>true
 |some (x,P)=>Jl p K r.1 x P
theorem Cy{α β γ:Type}[BEq α]{a:α}(f:β->γ):∀l:O (α×β),(l.map λp=>(p.1,f p.2)).lookup a=(l.lookup a).map f
 |[]=>rfl
 |(b,c)::l=>by
  simp only[zw,y9];split
  ·rfl
  ·exact Cy f l
theorem Gv{α β:Type}[BEq α][LawfulBEq α]{a:α}{b:β}:∀{l:O (α×β)},l.lookup a=Z b->(a,b)∈l
 |[],h=>by cases h
 |(c,d)::l,h=>by
  rw[y9]at h;split at h
  ·rename_i e;cases h;rw[eq_of_beq e];exact zr ..
  ·exact zk _ (Gv h)
theorem oi{o:AF}{P:A2}(h:zu o=Z (x,P)):∃vs t,o.data=.fields vs/\vs[1]?=Z (.str x t)/\vs[11]?=Z (.ref P):=by
 unfold zu at h;cases hd:o.data with
 |fields vs=>
  rw[hd]at h;dsimp only at h;split at h
  ·rename_i y t Q e1 e2;split at h
   ·cases h;exact⟨vs,t,rfl,e1,e2⟩
   ·cases h
  ·cases h
 |_=>rw[hd]at h;cases h
theorem EE{p:A4}{L:AK->Y A0}{G:ExcName->Y A0}{A:B5}(g:iP p K=true)(X:K.In h)(T:Top p A G mg L h):L2.Fn K h (LN K):=by
 have s:∀c o x P,(c,o)∈K->zu o=Z (x,P)->Jl p K c x P=true:=λc o x P m e=>by
  have:=List.all_eq_true.mp g _ m;simp only[e]at this;exact this
 refine⟨λP q k=>?_,λP ps e=>?_⟩
 ·obtain⟨c,o,vs,x,t,e,d,v,m,f,j⟩:=k;subst j;have er:zu o=Z (x,P):=by
   unfold zu;simp only[d,v,f];rw[zh (ei.mpr m)]
  have z:=s c o x P (Gv e) er;simp only[Jl,zS,beq_iff_eq]at z;refine⟨Na x,?_,rfl,Nat.zero_lt_one⟩;unfold LN;rw[Cy,z.2];rfl
 ·unfold LN at e;rw[Cy]at e;obtain⟨x,ex,rfl⟩:=m3.mp e;have m:=Gv ex;obtain⟨⟨c,o⟩,u,i⟩:=hL.mp m;obtain⟨⟨M,S⟩,i,j⟩:=m3.mp i;obtain⟨q1,q2⟩:=Prod.mk.inj j;have q1:S=P:=q1;have q2:M=x:=q2;rw[q1,q2]at i;have z:=s c o x P u i;simp only[Jl,zS,beq_iff_eq,KB,kh]at z;obtain⟨⟨⟨⟨⟨d,hd,hx⟩,b⟩,Q⟩,C⟩,_⟩:=z;obtain⟨a,o1,fd,c1,E,t1,t2,J,H,_,l⟩:=T.tab d hd;rw[hx]at t1;obtain⟨o',y,U⟩:=Option.bind_eq_some_iff.mp Q;obtain⟨vs,t,F,_,B⟩:=oi U;have w:c1=c:=by
   unfold DL at b;split at b
   ·rename_i f D;have:=mg_of X T.g D;rw[t1]at this;cases this;split at b
    ·rename_i ob I;have:=X _ _ I;rw[t2]at this;cases this;split at b
     ·rename_i a1 n;rw[J]at n;cases n;rw[H]at b;cases b;rfl
     ·cases b
    ·cases b
   ·cases b
  subst w;have N:E=P:=by
   obtain⟨⟨o2,W,e1,_,e2,e3⟩,_⟩:=l;rw[X _ _ y]at e1;cases e1;rw[F]at e2;cases e2;rw[B]at e3;cases e3;rfl
  subst N;exact⟨C,l.2,l.isCodeTable,rfl⟩
def LH(K:BA)(fd:FuncData)(q:AK):Bool:=match fd.code with
 |.ref c=>match K.lookup c with
  |some o=>match o.data with
   |.fields vs=>o.cls==.type "code" && (match vs[11]?,vs[1]?,vs.getD 18 .none,vs.getD 7 .none,vs.getD 9 .none,vs.getD 10 .none with
    |some (Value.ref P),Z (Value.str x _),Value.str _ _,Value.int _ _,Value.bool _,Value.int _ _=>!(c==P)&&IF.contains x&&q==x++(".<locals>.<lambda>":AK)
    |_,_,_,_,_,_=>false)
   |_=>false
  |none=>false
 |_=>false
theorem gg{q:AK}(h:LH K fd q=true):∃c P,fd.code=.ref c/\Xp K c P q:=by
 unfold LH at h;split at h;rotate_left
 ·cases h
 rename_i c n;split at h;rotate_left
 ·cases h
 rename_i o v;split at h;rotate_left
 ·cases h
 rename_i vs hd;rw[zS]at h;obtain⟨h1,h⟩:=h;split at h;rotate_left
 ·cases h
 rename_i P x t f tf i e b j s a e1 u p g l;simp only[zS,qV,beq_eq_false_iff_ne,ne_eq,beq_iff_eq]at h;obtain⟨⟨h2,k⟩,m⟩:=h;exact⟨c,P,n,o,vs,f,tf,i,e,b,j,s,x,t,v,eq_of_beq h1,hd,a,by rw[Array.getD_eq_getD_getElem?,a];rfl,u,p,g,l,h2,e1,ei.mp k,m⟩
theorem XX{xs:B5}(g:closureFor scope X.env=pure cl)(i:scope.kind=.function)(b:scope.isCoroutine=false)(f:scope.isGenerator=false)(j:(scope.names.all λy=>!(y.2==.cell))=true)(h:scope.names.lookup x=Z .local)(sub:CF X.env.cells cl)(has:(scope.names.all λy=>!(y.2==.free)||(cl.lookup y.1).isSome)=true)(c:O5 X scope cl xs is):ZC X scope cl x xs is:=by
 refine⟨g,i,b,f,λy a e=>?_,h,sub,λy a e=>?_,c⟩
 ·have:=List.all_eq_true.mp j y a;rw[e]at this;simp at this
 ·have:=List.all_eq_true.mp has y a;rw[e]at this;exact cZ.mp (by simpa using this)
section
variable{e:α->Dt}{c:β->Bx}{fh:Ev->Y Bx}{k:Ev->Y Ap}{cO:γ->Ap}{tab:O (AK×(O Bx->Y Bx))}{tt:O (AK×(O α->β)×(O α->Y Prop))}
end
end P1
namespace P1
open PySem PySem.Spec PySem.Calls PyProof.Rows L2 S1
section
variable{R:Result->A3->Prop}{I:A2}{wr:O A2}{P:Nat->A0->Prop}{St:Nat->A7->Prop}
end
end P1
namespace P1
open L2
section
variable{K:Type} [DecidableEq K] {knd:KeyKind prog w K}
end
end P1
namespace L2
end L2
namespace P1
open L2
section
variable{a b:Expr}{fs:Ev->Y (O Bx)}
end
end P1
namespace P1
open L2 S1 S6
section
variable{e:α->Dt}{e':β->Dt}{e3:γ->Dt}{k:Ev->Y Ap}{cO:δ->Ap}
end
end P1
namespace P1
open L2
section
variable{o f k v:Expr}{ff fk:Ev->Y Bx}{keys:O (Y Expr)}{values:O Expr}
end
section
variable{e:α->Dt}{fk:Ev->Y Bx}
end
end P1
namespace P1
open L2 S1
def Hn(cP:O (O AZ)):Bool:=decide (cP.length<=100000)&&(cP.all (λk=>!k.isEmpty)&&cP.all λk=>cP.all λl=>QF k l)
def Cz:O Bx->Y Bx
 |[b]=>(vB b).bind λds=>(Cq ds).bind λcP=>if Hn cP=true then Z (.o ((Cp cP).map C0))else Y3
 |_=>Y3
theorem Km:vW X (.builtin "sorted") Cz:=by
 intro AO s σ H xs us Q I S h;obtain⟨bs,c,rb,e,q⟩:=h;unfold Cz at e;split at e
 ·rename_i b;obtain⟨ds,ed,e⟩:=AU e;obtain⟨cP,ek,e⟩:=AU e;split at e
  ·rename_i y;cases e;simp only[Hn,zS,Zl,qf,qV]at y;obtain⟨A,G,x⟩:=y;obtain⟨v,rfl,W⟩:=BT rb;obtain⟨p,vs,rfl,sq,rs⟩:=Jj W ed;obtain⟨u,rfl,M⟩:=BG S;cases M;have E:=Aa ek;subst E;have a1:∃(AS:O A0) (o:AF) (T:String) (n:Nat),AY vs AS/\s.heap.get? p=Z o/\o.cls=.type T/\(T ="list" ∨ T ="tuple")/\o.data=.seq AS.toArray n/\vs.length<=AB:=by
    rcases sq with sq|sq
    ·obtain⟨AS,f,pl,j⟩:=I.list sq;obtain⟨o,g,c,n,d⟩:=pl.isList;exact⟨AS,o,_,n,f,g,c,.inl rfl,d,j⟩
    ·obtain⟨AS,f,⟨o,g,c,n,d⟩,j⟩:=I.tuple sq;exact⟨AS,o,_,n,f,g,c,.inr rfl,d,j⟩
   obtain⟨AS,o,T,n,f,g,J,hT,hd,j⟩:=a1;have N:AS.length=cP.length:=by rw[<-f.length,rs.length,zd]
   have tv:=Ji I rs f;refine Xa (kd:=tuples' true) (rk:=λv=>CL cP (Be cP AS v)) (vs:=AS) (λD L t=>J4 g J hT hd (by rw[<-f.length];exact j) t)
    (λh2 D A' s' k L t=>Oq (Paired.imp' (λ_ _ z=>tu.keep z k) tv) (λk hk=>by have:=G k hk;cases k with|nil=>cases this|cons _ _=>exact sG _ _) (λk hk l i=>Gq (x k hk l i)) () t)
    (λA' s' k=>Um (Paired.imp' (λ_ _ z=>tu.keep z k) tv) λk hk l i=>Gq (x k hk l i)) (by rw[N];exact zl A ()) (λ_=>lL) λl h' tk m st hp F i ext P=>?_
   have out:=tJ tv hp F;have C:∀u∈((AN st).map (·.2)).toList,u∈AS:=λu B=>by
    rw[k5]at B;obtain⟨pr,a2,rfl⟩:=aQ.mp B;have K:pr∈AS.zip AS:=by rw[<-pairsOf_toList];exact(cW.mp hp).mem_iff.mp a2
    have:=mem_zip_self K;rw[<-this.1];exact this.2
   obtain⟨zs,z1,z2⟩:=Ou I rs f out C;have U:zs.length=cP.length:=by rw[z2.length,zd,(G8 cP).length_eq]
   have w:H l=Y3:=I.hok.fresh i;refine⟨.ref l,_,I.laid (t':=tk) (a:=l) (o:=.lst zs) ext i ⟨by rw[U];exact zl A (),_,m,z1,?_⟩,rfl,q _ _ (cG w) (λa ea=>by cases ea;exact w) ⟨l,zs,rfl,bK,z2.kp (.of (cG w))⟩⟩;rw[P]
  ·cases e
 ·cases e
def IL(X:Cx)(A:A6)(σ:L2.St)(H1:Hp)(f:A2)(fk:Dt->Y Bx):Prop:=∀(AO:O (A2×AF)) (s:A3) (H:Hp) (d k:Dt) (v:V) (u:A0),L2.AV X AO σ H s->AW H1 H->B6 v u->AX X.K H d v->fk d=Z (.z k) →
 A8 (dl X) A (call (.ref f) [u]) (λb s'=>∃a H',L2.AV X AO σ H' s'/\B6 a b/\AW H H'/\AX X.K H' k a) (λ_ _=>False) s
def zA(X:Cx)(kf:O Dt->Y (O (O AZ))):Prop:=∀(AO:O (A2×AF)) (σ:L2.St) (H:Hp) (s:A3) (ks:O Dt) (vs:O V) (us:O A0) (cP:O (O AZ)),L2.AV X AO σ H s->aP X.K H ks vs->AY vs us->kf ks=Z cP →
 ∃(kd:SortKind) (K:A0->O AZ),us.map K=cP/\(2<=us.length->∀(A:A6) (E:BO) (Q:SortKind->A3->Prop),Q kd s->A8 (dl X) A (keyKind' us.toArray) Q E s)/\∀A:A6,JZ X.prog X.w A s kd (λv=>CL cP (K v)) (pairsOf us)
def Er(ds:O Dt)(cP:O (O AZ)):Bool:=decide cP.Nodup||(match Cq ds with|some a=>(a.zip cP).all λp=>(a.zip cP).all λq=>!decide (p.2=q.2)||decide (p.1=q.1)|none=>false)
def F0(a b:Dt×O AZ):Bool:=vG a.2 b.2
def O7(ds:O Dt)(cP:O (O AZ)):O Dt:=((ds.zip cP).mergeSort F0).map (·.1)
def vJ(kf:O Dt->Y (O (O AZ)))(fe:Ev->Y Bx)(fk:Ev->Dt->Y Bx):Ev->Y Bx:=λρ=>(fe ρ).bind λb=>(vB b).bind λds=>(BY (λ_=>true) (fk ρ) ds).bind λr=>(kf (r.map (·.2))).bind λcP=>if(decide (ds.length<=100000)&&Er ds cP)=true then Z (.o (O7 ds cP))else Y3
theorem Gw{fk:Dt->Y Bx}:∀{ds:O Dt} {r:O (Dt×Dt)},BY (λ_=>true) fk ds=Z r->r.length=ds.length/\∀(i:Nat) (d:Dt),ds[i]?=Z d->∃k:Dt,r[i]?=Z (d,k)/\fk d=Z (.z k)
 |[],r,h=>by cases h;exact⟨rfl,λi d e=>by cases e⟩
 |d::ds,r,h=>by
  obtain⟨k,b,h1,_,h2,rfl⟩:=Xq h;obtain⟨l,m⟩:=Gw h2;refine⟨congrArg (·+1) l,λi a e=>?_⟩;cases i with
  |zero=>cases e;exact⟨k,rfl,h1⟩
  |succ i=>exact m i a e
theorem Es{α:Type}{le:α->α->Prop}:∀{l c:O α},(∀a∈l,∀b∈l,le a b->le b a->a=b)->l.Perm c->l.Pairwise le->c.Pairwise le->l=c
 |[],c,_,h,_,_=>h.nil_eq
 |x::l,c,anti,h,p,p'=>by
  cases c with
  |nil=>exact absurd h.length_eq (by simp)
  |cons y c=>
   have e:x=y:=by
    have hx:x∈y::c:=h.mem_iff.mp zr;have f:y∈x::l:=h.mem_iff.mpr zr;rcases ba.mp hx with e|hx
    ·exact e
    rcases ba.mp f with e|f
    ·exact e.symm
    exact anti x zr y (zk _ f) ((bB.mp p).1 y f) ((bB.mp p').1 x hx)
   subst e;rw[Es (λa g b i=>anti a (zk _ g) b (zk _ i)) ((m8 x).mp h) (bB.mp p).2 (bB.mp p').2]
theorem eP(o:ds.length=cP.length)(h:Er ds cP=true):∀p∈ds.zip cP,∀q∈ds.zip cP,p.2=q.2->p.1=q.1:=by
 unfold Er at h;rw[QQ]at h;intro p hp q a e;rcases h with h|h
 ·have f:cP.Nodup:=kv h;obtain⟨i,hi,c⟩:=cb.mp hp;obtain⟨j,m,b⟩:=cb.mp a;rw[sH]at c b;subst c b;have:=(Yf f).mp e;subst this;rfl
 ·split at h
  ·rename_i n hd;have e0:=Aa hd;subst e0;simp only[qf,QQ,qV,QI,Zl]at h;rw[List.zip_map_left]at hp a;obtain⟨p',g,rfl⟩:=aQ.mp hp;obtain⟨k,l,rfl⟩:=aQ.mp a;rcases h p' g k l with h|h
   ·exact absurd e h
   ·exact congrArg C0 h
  ·cases h
theorem az{R:α->β->Prop}{ys b:O β}(p:ys.Perm b):∀{xs:O α},AJ R xs ys->∃a,xs.Perm a/\AJ R a b:=by
 induction p with
 |nil=>intro xs h;cases h;exact⟨[],.refl _,.nil⟩
 |cons y _ e=>
  intro xs h;cases h with
  |cons h t=>obtain⟨a,p',f⟩:=e t;exact⟨_::a,p'.cons _,.cons h f⟩
 |swap y z l=>
  intro xs h;cases h with
  |cons h1 t=>cases t with
   |cons h2 t=>exact⟨_::_::_,.swap _ _ _,.cons h2 (.cons h1 t)⟩
 |trans _ _ g i=>
  intro xs h;obtain⟨x1,p1,t1⟩:=g h;obtain⟨c,p2,t2⟩:=i t1;exact⟨c,p1.trans p2,t2⟩
section
variable{kS:A2}{vs:O A0}{keys:Array A0}{e e1:Nat}{P:PySem.Fin->A3->Prop}
theorem ow(u:s.heap.get? kS=Z (seqObj "list" keys e))(B:s.heap.get? a=Z (seqObj "list" #[] e1))(x:kS≠a)(y:keys.size=vs.length)(H:vs.length<=AB)
  (o:2<=keys.size->∀Q:SortKind->A3->Prop,Q kd s->A8 (A9 prog w) A (keyKind' keys) Q E s) (C:JZ prog w A s kd rk (keys.zip vs.toArray))
  (h:∀(st:SortSt) (c:Nat),(AN st).Perm (keys.zip vs.toArray)->Up rk (AN st) (AN st).size->((s.heap.update kS (Obj.mapSeq λ_=>(#[]:Array A0))).update a (Obj.mapSeq λ_=>(AN st).map (·.2))).get? a=Z (seqObj "list" ((AN st).map (·.2)) c) →
   P (.done (.ret .none)) { s with heap:=(s.heap.update kS (Obj.mapSeq λ_=>(#[]:Array A0))).update a (Obj.mapSeq λ_=>(AN st).map (·.2)) }):
  A8 (A9 prog w) A (ksk_end a false vs.toArray e1 (.ref kS) keys) P E s:=by
 have n:(keys.zip vs.toArray).size=vs.length:=by rw[Array.size_zip,y,zi,yb]
 have z:=JI s.heap kS (Obj.mapSeq λ_=>(#[]:Array A0));have l:(s.heap.update kS (Obj.mapSeq λ_=>(#[]:Array A0))).get? a=Z (seqObj "list" #[] e1):=(z.2 a x.symm).trans B;have m:∀st:SortSt,(AN st).Perm (keys.zip vs.toArray)->failedOf st=Y3->Up rk (AN st) (AN st).size->A8 (A9 prog w) A (ksk_tail a false e1 (.ref kS) st) P E s:=λst hp k g=>by
  have G:((AN st).map (·.2)).size=vs.length:=by rw[Array.size_map,hp.size_eq,n]
  obtain⟨c,v⟩:∃c,((s.heap.update kS (Obj.mapSeq λ_=>(#[]:Array A0))).update a (Obj.mapSeq λ_=>(AN st).map (·.2))).get? a=Z (seqObj "list" ((AN st).map (·.2)) c):=⟨_,get?_update_seq l λ_=>(AN st).map (·.2)⟩;unfold ksk_tail
  try dsimp only
  refine zb (listUpdate_at u Y2 ?_ () (ZT _));refine zb (wpAny_letGo ?_);refine zb (seqEpoch_at l Y2 ?_);refine zb (listUpdate_at l Y2 ?_ (ZT _) (by simp only[z5,Qb];omega));rw[k];simp only[bne_self_eq_false,z5,Qb];exact ze (h st c hp g v)
 unfold ksk_end
 try dsimp only
 rw[zv (by simp)];by_cases h2:vs.toArray.size<2
 ·rw[zh h2,zh h2];refine zb (ze ?_);rw[StateT.run_pure];refine zb (ze ?_)
  try dsimp only
  refine m (SortSt.mk' general' (if false=true then(keys.zip vs.toArray).reverse else keys.zip vs.toArray) #[] 7 Y3) (K0 _) Y2 λi j F p=>?_;have D:j<(keys.zip vs.toArray).size:=p;rw[n]at D;rw[zi]at h2;have:i=j:=by omega
  subst this;exact zo _
 ·rw[zv h2,zv h2];rw[zi]at h2;refine zb (o () _ ?_);refine zb (qA (Uw (b:=keys.zip vs.toArray) (st:=SortSt.mk' kd (if false=true then(keys.zip vs.toArray).reverse else keys.zip vs.toArray) #[] 7 Y3) (Q:=λ_ f=>(AN f).Perm (keys.zip vs.toArray)/\failedOf f=Y3/\Up rk (AN f) (keys.zip vs.toArray).size) C ⟨K0 _,rfl,rfl,rfl⟩ () λt q1 q2 q3=>⟨q1,q2,q3⟩) ?_ λ_ _ q=>q);rintro⟨⟨⟩,f⟩ s' ⟨rfl,hp,k,g⟩
  try dsimp only
  exact m f hp k (by rw[hp.size_eq];exact g)
end
theorem pg{f kS:A2}{r:O (Dt×Dt)}{oa:AF}{e1:Nat}{P:PySem.Fin->A3->Prop}(L:IL X A σ H0 f fk)(hk:BY (λ_=>true) fk ds=Z r)(J:aP X.K H0 ds vs)(G:AY vs AS)(hz:AS.length<=AB)(I:L2.AV X AO σ H s)(sm:AW H0 H)(U:H0 kS=Y3)(hS:H kS=Z (.lst []))(N:H a=Z (.qG oa (.lst [])))(h:∀H' s' AQ c n,L2.AV X AO σ H' s'->AW H0 H'->H' kS=Z (.lst AQ)->H' a=Z (.qG oa (.lst []))->aP X.K H' (r.map (·.2)) AQ->AY AQ c->s'.heap.get? kS=Z (seqObj "list" c.toArray n)->A8 (dl X) A (ksk_end a false AS.toArray e1 (.ref kS) c.toArray) P E s'):
  A8 (dl X) A (ksk_rest a (.ref f) false AS.toArray e1 (.ref kS)) P E s:=by
 obtain⟨a7,Q⟩:=Gw hk;have a5:AS.length=ds.length:=by rw[<-G.length,J.length]
 unfold ksk_rest;refine zb (QN ?_)
 first
  |rw[List.forIn_toArray]
  |(rw[<-pD];simp only[gd])
  |rw[<-pD]
 refine zb (ksk_fold (λi s'=>∃H' AQ,L2.AV X AO σ H' s'/\AW H0 H'/\H' kS=Z (.lst AQ)/\H' a=Z (.qG oa (.lst []))/\aP X.K H' ((r.take i).map (·.2)) AQ) AS 0 s ⟨H,[],I,sm,hS,N,by rw[hC];exact aP.nil⟩ ?step ?done)
 case step=>
  rintro j x s' hx ⟨H',AQ,q,m,o,l,rk⟩;simp only[Kb]at rk ⊢;have hj:j<AS.length:=(bj.mp hx).1;obtain⟨d,hd⟩:∃d,ds[j]?=Z d:=⟨_,ZY ()⟩;obtain⟨k,a4,a1⟩:=Q j d hd;obtain⟨v,hv,rd⟩:=J.get hd;obtain⟨u,F,ru⟩:=G.get hv;rw[hx]at F;cases F;have a2:AQ.length<=j:=by rw[rk.length,zd,qk];omega
  refine zb (wpAny_attempt (qA (L AO s' H' d k v x q m ru (rd.kp (.of m)) a1) (λg p he=>?_) λ_ _ W=>W.elim));obtain⟨C,H2,D,S,t,a3⟩:=he
  try dsimp only
  have y:=t _ _ o;obtain⟨_,c,n,rs,_,eS⟩:=D.afs y;have a6:c.length<=j:=by rw[<-rs.length];exact a2
  have s1:=JI p.heap kS (Obj.mapSeq (·.push g));obtain⟨c2,B⟩:∃c2,(p.heap.update kS (Obj.mapSeq (·.push g))).get? kS=Z (seqObj "list" (c.toArray.push g) c2):=⟨_,get?_update_seq eS (·.push g)⟩;have ea:c.toArray.push g=(c++[g]).toArray:=by simp
  have I3:L2.AV X AO σ (BD H2 kS (.lst (AQ++[C]))) { p with heap:=p.heap.update kS (Obj.mapSeq (·.push g)) }:=D.write (t':=p.toks) (by rw[y];trivial) (.inl Y2) (λb u M e=>(s1.2 b M).trans e) ⟨_,B⟩ ⟨by rw[zt];simp;omega,c++[g],c2,rs.append (.cons S .nil),by rw[<-ea];exact B⟩;refine zb (listUpdate_at eS Y2 ?_ (by rw[zi];omega) (zl (ye (Array.size_push ..)) (by rw[zi];omega)));refine ze ⟨rfl,_,AQ++[C],I3,wz (m.trans t) U,bK,?_,?_⟩
  ·have ne:a≠kS:=λz=>by rw[z,o]at l;cases l
   rw[aR ne];exact t _ _ l
  ·have et:(r.take (j+1)).map (·.2)=(r.take j).map (·.2)++[k]:=by rw[rr,a4,qB];rfl
   rw[et];exact((rk.kp (.of t)).append (aP.cons a3 aP.nil)).kp (Kp.lst y)
 case done=>
  rintro s' ⟨H',AQ,q,m,o,l,rk⟩;rw[show r.take (0+AS.length)=r from qi ()]at rk;obtain⟨_,c,n,rs,_,eS⟩:=q.afs o
  try dsimp only
  refine zb (listItems_at eS Y2 ?_);exact h H' s' AQ c n q m o l rk rs eS
theorem Ve{x:Keyed}(h:x∈us.zip us):x∈(pairsOf us).toList:=by rw[pairsOf_toList];exact h
theorem Ko{f p:A2}{r:O (Dt×Dt)}(hF:zA X kf)(I:L2.AV X AO σ H s)(hT:IL X A.in1.in1 σ H f fk)(sq:tH X.K H p vs\/wM X.K H p vs)(S:aP X.K H ds vs)(hk:BY (λ_=>true) fk ds=Z r)(e5:kf (r.map (·.2))=Z cP)(hl:ds.length<=100000)(h1:Er ds cP=true)(hQ:∀H' s' l zs,L2.AV X AO σ H' s'->AW H H'->H l=Y3->H' l=Z (.lst zs)->aP X.K H' (O7 ds cP) zs->Q (.ref l) s'):
  A8 (dl X) A (call (.builtin "sorted") [.ref p] [(Str.ofString "key", .ref f)]) Q E s:=by
 have e4:∃(AS:O A0) (o:AF) (T:String) (n:Nat),AY vs AS/\s.heap.get? p=Z o/\o.cls=.type T/\(T ="list" ∨ T ="tuple")/\o.data=.seq AS.toArray n/\vs.length<=AB:=by
  rcases sq with sq|sq
  ·obtain⟨AS,r',pl,D⟩:=I.list sq;obtain⟨o,g,c,n,d⟩:=pl.isList;exact⟨AS,o,_,n,r',g,c,.inl rfl,d,D⟩
  ·obtain⟨AS,r',⟨o,g,c,n,d⟩,D⟩:=I.tuple sq;exact⟨AS,o,_,n,r',g,c,.inr rfl,d,D⟩
 obtain⟨AS,o,T,n,P,g,W,f2,hd,D⟩:=e4;have L:AS.length<=AB:=by rw[<-P.length];exact D
 have c5:AS.length=ds.length:=by rw[<-P.length,S.length]
 refine call_function_entry_kw kind_sorted plain_sorted entry_sorted (ksk_s1 _ _) ?_;unfold Builtin.«sorted»;refine zb (m:=checkCount "sorted" 1 1 _) (ze ?_);refine zb (J4 g W f2 hd L λhp tk e9 ext=>zb (yB ?_));generalize d0:hp.objs.size=l;have a3:(hp.push (seqObj "list" AS.toArray 0)).get? l=Z (seqObj "list" AS.toArray 0):=by rw[<-d0];exact zD _ rfl
 have a5:s.heap.objs.size<=l:=by rw[<-d0];exact e9
 refine zb (ko (wpAny_call_entry_kw slot_list_sort ⟨_,a3,rfl⟩ entry_list_sort ?_ (ksk_l1 _ _)));show A8 (dl X) A.in1.in1 (Builtin.«list.sort» ⟨[.ref l],[(Str.ofString "key", .ref f)]⟩) _ _ _;rw[ksk_t1];obtain⟨e1,a4⟩:∃e1,((hp.push (seqObj "list" AS.toArray 0)).update l (Obj.mapSeq λ_=>(#[]:Array A0))).get? l=Z (seqObj "list" #[] e1):=⟨_,get?_update_seq a3 λ_=>#[]⟩;unfold ksk_tree;refine zb (listItems_at a3 Y2 ?_);refine zb (listUpdate_at a3 Y2 ?_ (by rw[zi];omega) (ZT _));refine zb (seqEpoch_at a4 Y2 ?_);refine zb (wpAny_newTuple ?_ (by show AS.length<=_;exact L));refine zb (yB ?_ (ZT _));refine ko ?_;have s0:=JI (hp.push (seqObj "list" AS.toArray 0)) l (Obj.mapSeq λ_=>(#[]:Array A0));have fl:H l=Y3:=I.hok.fresh a5;have e7:∀b u,s.heap.get? b=Z u->((hp.push (seqObj "list" AS.toArray 0)).update l (Obj.mapSeq λ_=>(#[]:Array A0))).get? b=Z u:=λb u e=>
  (s0.2 b (ZO (ZH (zI e) a5))).trans (zg _ (ext b u e))
 have I1:L2.AV X AO σ (BD H l (.qG (seqObj "list" #[] e1) (.lst []))) { s with heap:=(hp.push (seqObj "list" AS.toArray 0)).update l (Obj.mapSeq λ_=>(#[]:Array A0)),toks:=tk }:=
  I.laid (t':=tk) e7 a5 ⟨a4,ZT _,[],e1,.nil,a4⟩
 generalize g2:(hp.push (seqObj "list" AS.toArray 0)).update l (Obj.mapSeq λ_=>(#[]:Array A0))=h2 at *
 have I2:L2.AV X AO σ (BD H l (.qG (seqObj "list" #[] e1) (.lst []))) { s with heap:=h2.push (seqObj "tuple" AS.toArray 0),toks:=tk }:=I1.kept (t':=tk) λb u e=>zg _ e;generalize g4:h2.push (seqObj "tuple" AS.toArray 0)=h3 at *
 have I3:L2.AV X AO σ (BD (BD H l (.qG (seqObj "list" #[] e1) (.lst []))) h3.objs.size (.lst [])) { s with heap:=h3.push (seqObj "list" #[] 0),toks:=tk }:=
  I2.laid (t':=tk) (λb u e=>zg _ e) (zo _) ⟨ZT _,[],0,.nil,zD _ rfl⟩
 have N:(BD H l (.qG (seqObj "list" #[] e1) (.lst []))) h3.objs.size=Y3:=I2.hok.fresh (zo _);have U:l≠h3.objs.size:=λz=>by rw[<-z,bK]at N;cases N
 have a6:H h3.objs.size=Y3:=by rw[aR U.symm]at N;exact N
 have d1:AW H (BD (BD H l (.qG (seqObj "list" #[] e1) (.lst []))) h3.objs.size (.lst [])):=wz (cG fl) a6;have f5:∀ob u,X.H₀ l≠Z (.qG ob u):=λob u e=>by have:=I.base.HY l ob u e;rw[fl]at this;cases this
 show A8 _ A.in1.in1 (ksk_rest l (.ref f) false AS.toArray e1 (.ref h3.objs.size)) _ _ { s with heap:=h3.push (seqObj "list" #[] 0),toks:=tk };refine pg (H0:=H) (oa:=seqObj "list" #[] e1) hT hk S P L I3 d1 a6 bK (by rw[aR U,bK]) λH' s' AQ B m I' f0 d2 b6 rk b4 eS=>?_;have b0:B.length=AS.length:=by rw[<-b4.length,rk.length,zd,(Gw hk).1,c5]
 obtain⟨kd,K,hK,kk,cc⟩:=hF AO σ H' s' _ AQ B cP I' rk b4 e5;have g0:cP.length=ds.length:=by rw[<-hK,zd,b0,c5]
 have na:s'.heap.get? l=Z (seqObj "list" #[] e1):=(I'.hok _ _ b6).1;refine ow (kd:=kd) (rk:=λv=>CL cP (K v)) eS na U.symm (by rw[zi];exact b0) L (λh2 Q' M=>kk (by rw[zi]at h2;exact h2) _ _ _ M) (λE' p q Q' hp M hh=>?_) λst c hp up W=>?_
 ·rw[ksk_zip,gd]at hp M;have m1:=(KU hp).1;have m2:=(KU M).1;have z:∀{x:A0},x∈B->(x,x)∈(pairsOf B).toList:=λ{x} hx=>Ve (by
   obtain⟨i,hi,e⟩:=cb.mp hx;exact cb.mpr ⟨i,by rw[List.length_zip];omega,by rw[sH,e]⟩)
  exact cc _ E' (p.1,p.1) (q.1,q.1) Q' (z m1) (z m2) hh
 ·have e6:(B.zip AS).Perm (AN st).toList:=by
   have:=cW.mp hp;rw[ksk_zip,gd]at this;exact this.symm
  have pr:AJ (λ(x:(Dt×O AZ)×V) (y:Keyed)=>x.1.2=K y.1/\B6 x.2 y.2/\AX X.K H x.1.1 x.2/\y.1∈B) ((ds.zip cP).zip vs) (B.zip AS):=by
   have G:∀(C:O A0),(∀x∈C,x∈B)->∀(ds:O Dt) (cP:O (O AZ)) (vs:O V) (AS:O A0),C.map K=cP->aP X.K H ds vs->AY vs AS->AJ (λ(x:(Dt×O AZ)×V) (y:Keyed)=>x.1.2=K y.1/\B6 x.2 y.2/\AX X.K H x.1.1 x.2/\y.1∈B) ((ds.zip cP).zip vs) (C.zip AS):=by
    intro C
    induction C with
    |nil=>intro _ ds cP vs AS e _ _;subst e;rw[kH,h9,ry,ry];exact .nil
    |cons k C J=>
     intro hm ds cP vs AS e r t;subst e;cases t with
     |nil=>rw[h9,h9];exact .nil
     |@cons v u vs AS t1 t2=>
      cases ds with
      |nil=>simp only[aP]at r;cases r
      |cons d ds=>
       simp only[aP]at r;obtain⟨v',g3,e,r1,r2⟩:=r;cases e;rw[zw,JP,JP,JP];exact .cons ⟨rfl,t1,r1,hm k zr⟩ (J (λx hx=>hm x (zk _ hx)) ds _ vs AS Y2 r2 t2)
   exact G B (λ_ h=>h) ds cP vs AS hK S P
  obtain⟨xs,px,pa⟩:=az e6 pr;have gx:∀{i:Nat} {x:(Dt×O AZ)×V} {y:Keyed},xs[i]?=Z x->(AN st).toList[i]?=Z y->x.1.2=K y.1/\B6 x.2 y.2/\AX X.K H x.1.1 x.2/\y.1∈B:=λ{i x y} e1 e2=>by
   obtain⟨y',e3,q⟩:=Xc pa e1;rw[e2]at e3;cases e3;exact q
  have lx:xs.length=(AN st).size:=by rw[pa.length,Z3]
  have b3:xs.map (·.1.1)=O7 ds cP:=by
   have e0:xs.map (·.1)=(ds.zip cP).mergeSort F0:=by
    have pz:(xs.map (·.1)).Perm (ds.zip cP):=by
     have h:=px.symm.map Prod.fst;rwa [sa (by rw[List.length_zip,S.length];omega)]at h
    refine Es (le:=λa b=>F0 a b=true) (λa ha b F f4 g1=>?_) (pz.trans (Q2 ..).symm) ?_ (jS (le:=F0) (λa b c=>rO a.2 b.2 c.2) (λa b=>rP a.2 b.2) _)
    ·have e2:a.2=b.2:=z9 f4 g1;have:=eP g0.symm h1 a (pz.mem_iff.mp ha) b (pz.mem_iff.mp F) e2;exact kA this e2
    ·rw[dg];intro i j hi hj f3;rw[zd]at hi hj;simp only[JO];have c4:i<(AN st).size:=by omega
     have a7:j<(AN st).size:=by omega
     obtain⟨a1,_,_,m1⟩:=gx (i:=i) (x:=xs[i]) (y:=(AN st)[i]) (ZY hi) (by rw[ZY (by rw[Z3];exact c4),kD]);obtain⟨a2,_,_,m2⟩:=gx (i:=j) (x:=xs[j]) (y:=(AN st)[j]) (ZY hj) (by rw[ZY (by rw[Z3];exact a7),kD]);have u:=up i j (qh f3) a7;unfold at_ at u;rw[getElem?_pos _ i c4,getElem?_pos _ j a7]at u;show vG _ _=true;unfold vG;rw[a1,a2,<-Jh (show K (AN st)[j].1∈cP by rw[<-hK];exact JE m2),z4 (nq.mpr u)];rfl
   have:xs.map (·.1.1)=(xs.map (·.1)).map (·.1):=by rw[ZE];rfl
   rw[this,e0];rfl
  have rz:aP X.K H (O7 ds cP) (xs.map (·.2)):=by
   rw[<-b3];have G:∀{xs:O ((Dt×O AZ)×V)} {ys:O Keyed},AJ (λx (y:Keyed)=>x.1.2=K y.1/\B6 x.2 y.2/\AX X.K H x.1.1 x.2/\y.1∈B) xs ys->aP X.K H (xs.map (·.1.1)) (xs.map (·.2)):=by
    intro xs ys h
    induction h with
    |nil=>exact aP.nil
    |cons h _ J=>rw[zw,zw];exact aP.cons h.2.2.1 J
   exact G pa
  have vz:AY (xs.map (·.2)) ((AN st).map (·.2)).toList:=by
   rw[k5];have G:∀{xs:O ((Dt×O AZ)×V)} {ys:O Keyed},AJ (λx (y:Keyed)=>x.1.2=K y.1/\B6 x.2 y.2/\AX X.K H x.1.1 x.2/\y.1∈B) xs ys->AY (xs.map (·.2)) (ys.map (·.2)):=by
    intro xs ys h
    induction h with
    |nil=>exact .nil
    |cons h _ J=>exact .cons h.2.1 J
   exact G pa
  have f1:(xs.map (·.2)).length<=AB:=by rw[rz.length,<-b3,zd,lx,hp.size_eq,Array.size_zip,zi,zi,b0,yb];exact L
  have t1:=JI s'.heap h3.objs.size (Obj.mapSeq λ_=>(#[]:Array A0));obtain⟨c1,c0⟩:∃c1,(s'.heap.update h3.objs.size (Obj.mapSeq λ_=>(#[]:Array A0))).get? h3.objs.size=Z { cls:=.type "list",data:=.seq #[] c1 }:=⟨_,get?_update_seq eS λ_=>#[]⟩;have J1:L2.AV X AO σ (BD H' h3.objs.size (.lst [])) { s' with heap:=s'.heap.update h3.objs.size (Obj.mapSeq λ_=>(#[]:Array A0)) }:=I'.write (t':=s'.toks) (by rw[d2];trivial) (.inl Y2) (λb u F e=>(t1.2 b F).trans e) ⟨_,c0⟩ ⟨ZT _,[],c1,.nil,c0⟩;have J2:=ly f5 J1 (show(BD H' h3.objs.size (.lst [])) l=Z (.qG (seqObj "list" #[] e1) (.lst [])) by rw[aR U];exact b6);have t2:=JI (s'.heap.update h3.objs.size (Obj.mapSeq λ_=>(#[]:Array A0))) l (Obj.mapSeq λ_=>(AN st).map (·.2));have J3:L2.AV X AO σ (BD (BD (BD H' h3.objs.size (.lst [])) l (.lst [])) l (.lst (xs.map (·.2)))) { s' with heap:=(s'.heap.update h3.objs.size (Obj.mapSeq λ_=>(#[]:Array A0))).update l (Obj.mapSeq λ_=>(AN st).map (·.2)) }:=
   J2.write (t':=s'.toks) (by rw[bK];trivial) (.inl Y2) (λb u F e=>(t2.2 b F).trans e) ⟨_,W⟩ ⟨f1,((AN st).map (·.2)).toList,c,vz,by rw[W]⟩
  have b5:AW H (BD (BD (BD H' h3.objs.size (.lst [])) l (.lst [])) l (.lst (xs.map (·.2)))):=wz (wz (wz f0 a6) fl) fl;exact⟨_,rfl,ze ⟨_,rfl,hQ _ _ l _ J3 b5 fl bK (rz.kp (.of b5))⟩⟩
end P1
namespace P1
open L2 S6
section
variable{t1 i1 tY i2 tZ i3:Expr}{f1 f2 f3:O Expr}{xs:B5}{g1 g2 g3:Dt->Ev->Y Ev}{p1 p2 p3:Ev->Y Bool}{fi1 fi2 fi3:Ev->Y (O Dt)}{m2:Nat}
structure RH (X:Cx) (ts:B5) (m m2:Nat) (scope:Scope) (cl:List (Str×Addr)) (xs:B5) (is:List Nat) (t1 i1:Expr) (f1:List Expr) (tY i2:Expr) (f2:List Expr) (tZ i3:Expr) (f3:List Expr) (fi1 fi2 fi3:Ev->Option (List Dt)) (g1 g2 g3:Dt->Ev->Option Ev) (p1 p2 p3:Ev->Option Bool):Prop where
 ok:wU X scope cl xs is
 calm:X.calm=true
 it1:FX X t1 i1 fi1
 tg1:∀C s₀ H₀ fp,Db (Dy X (xs++ts) scope cl C s₀ H₀ fp) t1 g1
 c1:∀C s₀ H₀ fp,Cj (Dy X (xs++ts) scope cl C s₀ H₀ fp) f1 p1
 k1:C' is.length m g1
 it2:∀C s₀ H₀ fp,Do (Dy X (xs++ts) scope cl C s₀ H₀ fp) tY i2 fi2
 tg2:∀C s₀ H₀ fp,Db (Dy X (xs++ts) scope cl C s₀ H₀ fp) tY g2
 c2:∀C s₀ H₀ fp,Cj (Dy X (xs++ts) scope cl C s₀ H₀ fp) f2 p2
 k2:C' m m2 g2
 it3:∀C s₀ H₀ fp,Do (Dy X (xs++ts) scope cl C s₀ H₀ fp) tZ i3 fi3
 tg3:∀C s₀ H₀ fp,Db (Dy X (xs++ts) scope cl C s₀ H₀ fp) tZ g3
 c3:∀C s₀ H₀ fp,Cj (Dy X (xs++ts) scope cl C s₀ H₀ fp) f3 p3
 k3:C' m2 (is.length+ts.length) g3
 hm:is.length<=m:=by decide
 hm2:m<=m2:=by decide
 hm3:m2<=is.length+ts.length:=by decide
 hs:∀x,foldedSetIterable i1 X.env x=pure x:=by intro _;rfl
 hs2:∀C x,foldedSetIterable i2 (compEnvC scope (cellsFrom (C+1) scope.names cl) C X.env) x=pure x:=by intro _ _;rfl
 hs3:∀C x,foldedSetIterable i3 (compEnvC scope (cellsFrom (C+1) scope.names cl) C X.env) x=pure x:=by intro _ _;rfl
theorem XA(ts:B5)(W:RH X ts m m2 scope cl xs is t1 i1 f1 tY i2 f2 tZ i3 f3 fi1 fi2 fi3 g1 g2 g3 p1 p2 p3)(P:∀C c f fp,QV (Dy X (xs++ts) scope cl C c f fp) elt fe):
  QV X (.ListComp elt [⟨t1,i1,f1,0⟩,⟨tY,i2,f2,0⟩,⟨tZ,i3,f3,0⟩] scope pos) (Ri fi1 g1 p1 (E8 fi2 g2 p2 (E8 fi3 g3 p3 (GM fe))) is ts.length):=⟨λAO s σ H Q I h=>by
 obtain⟨H0,ρ,b,E,e,q⟩:=h;obtain⟨out,g,e⟩:=AU e;obtain⟨ds,M,g⟩:=AU g;split at e
 ·rename_i z;cases e;rw[eval_ListComp];refine kM (use:=Y3) Y2 W.hs W.ok.clos W.ok.kind W.ok.names ?_;refine jQ (W.it1.run AO s σ H (λJ H'=>AW H H'/\B9 X.K J ds H') I ⟨H0,ρ,ds,E,M,λJ H' s' y=>⟨s',y⟩⟩) λv s1 h1=>jQ h1 λa1 s2 h2=>?_;obtain⟨it,fp,tn,J,H2,rfl,x,T,st,p,i,Y⟩:=h2;refine Gi (B:=Oa) (Ac:=YW X.K) (O0:=.lst []) (N:=100000) (RR:=λF C=>compPost (dl X) X.A X.xe Y3 (EP X AO σ Q) F C) (ts:=ts) (xs:=xs) W.ok W.calm (λC c f fp=>(W.tg1 C c f fp).run) (λC c f fp=>(W.c1 C c f fp).run)
   (λC c f fp=>TQ (X:=Dy X (xs++ts) scope cl C c f fp) (comp:=.ListComp elt [⟨t1,i1,f1,0⟩,⟨tY,i2,f2,0⟩,⟨tZ,i3,f3,0⟩] scope pos) (d:=1) W.calm Y2 (W.it2 C c f fp).run (W.tg2 C c f fp).run (W.c2 C c f fp).run
    (TQ (X:=Dy X (xs++ts) scope cl C c f fp) (comp:=.ListComp elt [⟨t1,i1,f1,0⟩,⟨tY,i2,f2,0⟩,⟨tZ,i3,f3,0⟩] scope pos) (d:=2) W.calm Y2 (W.it3 C c f fp).run (W.tg3 C c f fp).run (W.c3 C c f fp).run (YX (P C c f fp).run) W.k3 W.hm3 YW.kp YW.no (W.hs3 C) (λ_ _ _=>Y2) (Oc Y2 λh=>h) λh=>h)
    W.k2 W.hm2 YW.kp YW.no (W.hs2 C) (λ_ _ _=>by simp only[bind_assoc,pure_bind];rfl) (Oc Y2 λh=>h) λh=>h)
   W.k1 W.hm x ((E.grow i).caps is ts.length) (TF T) st p Y g z ?_
   QY (λ_=>⟨ZT _,[],0,.nil,zD _ rfl⟩) (λ_=>⟨[],rfl,aP.nil⟩) YW.kp (λ_ _ _=>by simp only[bind_assoc,pure_bind];rfl) codeAny_compStart_list λh=>h
  rintro D C s' H' o U u n ⟨m,l⟩ L G ⟨us,rfl,t⟩;refine⟨m,l,λh' S=>⟨.ref D,H',?_,rfl,q _ _ (i.trans L) (λa ea=>by cases ea;exact i.free U) ⟨D,us,rfl,G,t⟩⟩⟩;obtain⟨f0,f1,f2,f3,j,k⟩:=n;exact u.turned (t':=s'.toks) (λb o hb e=>(S.2 b hb).trans e) f0 f1 f3 j k
 ·cases e⟩
section
variable{e:α->Dt}{e':β->Dt}{fs:Ev->Y (O Dt)}
end
end
end P1
namespace P1
open L2 S1
def HA(ks:O Dt):Y (O (O AZ)):=(Cq ks).bind λcP=>if(cP.all (λk=>!k.isEmpty)&&cP.all λk=>cP.all λl=>QF k l)=true then Z cP else Y3
def EN:O Dt->Y (O (O AZ))
 |[]=>Z []
 |.str x::ds=>(EN ds).bind λr=>Z ([.inr x]::r)
 |_=>Y3
theorem g7:zA X HA:=by
 intro AO σ H s ks vs us cP I rs h e;unfold HA at e;obtain⟨j,ek,e⟩:=AU e;split at e
 ·rename_i b;cases e;simp only[zS,qf,qV]at b;obtain⟨f,c⟩:=b;have g:=Aa ek;subst g;have tv:=Ji I rs h;refine⟨tuples' true,Be cP us,zf tv _ λv q=>(pq tv v q).2,λh2 A E Q i=>Oq tv (λk hk=>by have:=f k hk;cases k with|nil=>cases this|cons _ _=>exact sG _ _) (λk hk l a=>Gq (c k hk l a)) () i,λA=>Um tv λk hk l a=>Gq (c k hk l a)⟩
 ·cases e
def FC:A0->O AZ
 |.str x _=>[.inr x]
 |_=>[]
theorem NI:∀{ks:O Dt} {cP:O (O AZ)},EN ks=Z cP->∃xs:B5,ks=xs.map Dt.str/\cP=xs.map λx=>[.inr x]
 |[],_,h=>by cases h;exact⟨[],rfl,rfl⟩
 |d::ks,cP,h=>by
  cases d<;>first|(cases h;done)|skip;rename_i x;unfold EN at h;obtain⟨r,e,h⟩:=AU h;cases h;obtain⟨xs,rfl,rfl⟩:=NI e;exact⟨x::xs,rfl,rfl⟩
theorem O8{K:BA}{H:Hp}:∀{xs:B5} {vs:O V} {us:O A0},aP K H (xs.map Dt.str) vs->AY vs us->StrsAre us xs
 |[],_,_,h,r=>by
  simp only[kH,aP]at h;subst h;cases r;exact .nil
 |x::xs,_,_,h,r=>by
  simp only[zw,aP]at h;obtain⟨v,vs,rfl,h1,h2⟩:=h;cases r with
  |cons b a=>
   obtain⟨e,_⟩:v=.str x/\x.length<=AB:=by simpa only[AX]using h1
   subst e;obtain⟨t,rfl⟩:=b;exact .cons _ _ (O8 h2 a)
theorem bE:zA X EN:=by
 intro AO σ H s ks vs us cP I rs m e;obtain⟨xs,rfl,rfl⟩:=NI e;have a:=O8 rs m;have l:∀{us:O A0} {xs:B5},StrsAre us xs->us.map FC=xs.map λx=>[.inr x]:=by
  intro us xs h
  induction h with
  |nil=>rfl
  |cons _ _ _ g=>rw[zw,zw,g];rfl
 have i:∀{us:O A0} {xs:B5},StrsAre us xs->∀u∈us,∃x t,u=.str x t/\x∈xs:=by
  intro us xs h
  induction h with
  |nil=>intro u b;cases b
  |cons x t _ g=>
   intro u b;rcases ba.mp b with rfl|b
   ·exact⟨x,t,rfl,zr⟩
   ·obtain⟨y,c,e,k⟩:=g u b;exact⟨y,c,e,zk _ k⟩
 refine⟨oneType',FC,l a,λh2 A E Q f=>?_,λA E p q Q hp f h=>?_⟩
 ·match us,h2,a with
  |v1::v2::us,_,a=>exact wpAny_of_eq (keyKind_strs a) f
 ·rw[pairsOf_toList]at hp f;obtain⟨x,t,e1,j⟩:=i a p.1 (mem_zip_self hp).2;obtain⟨y,c,e2,m2⟩:=i a q.1 (mem_zip_self f).2;rw[e1,e2]at h ⊢;rw[keyLt'_oneType];have:decide (CL (xs.map λx=>[.inr x]) (FC (.str x t))<CL (xs.map λx=>[.inr x]) (FC (.str y c)))=decide (x.cps.toList<y.cps.toList):=by
   rw[show FC (.str x t)=[.inr x] from rfl,show FC (.str y c)=[.inr y] from rfl,Jh (aQ.mpr ⟨x,j,rfl⟩)];unfold jj;split
   ·rename_i e;cases e;simp[jj,hG]
   ·rfl
  rw[this]at h;exact oneLt_str h
theorem ii{H':Hp}(h:wM K H a xs)(s:AW H H'):wM K H' a xs:=by
 rcases h with (h|⟨o,h⟩)|h
 ·exact .inl (.inl (s _ _ h))
 ·exact .inl (.inr ⟨o,s _ _ h⟩)
 ·exact .inr h
theorem gf(r:lK (k+1) A):lK k A.in1.in1:=
 ⟨r.hd,by have:=r.dp;show A.depth+3*k+5<_;omega,by have:=r.un;show A.units+1+1+16*k+200<_;omega⟩
section
variable{f:A2}
theorem aS{H1:Hp}(G:Cg X.prog X.w X.K X.mg X.base Tt k f fd ps (DD X.K 1 F))(l:lK k A)(i:A.frames=Z X.stack)(o:Bn X.K fd ps []):IL X A σ H1 f λd=>F [.z d]:=by
 intro AO s H d kk v u I q j g e;have Ev:=I.env0;have h:DD X.K 1 F ([v]++[]) H (λb H'=>AW H H'/\AX X.K H' kk b) E0:=⟨rfl,[.z d],.z kk,.cons g .nil,rfl,e,λb H' s' _ c=>⟨s',c⟩⟩;have p:([u]++[]:O A0).length=ps.length:=by
  have:=G.len _ _ _ _ h;exact this
 refine wpAny_call (codeAny_mono (G.run A X.stack s H ⟨[u],[]⟩ ([u]++[]) ([v]++[]) _ _ l ⟨i,Ev.mod,Ev.bs,Ev.bsz,Ev.Ia,Ev.frf,Ev.hok,Ev.bare,Ev.tabs⟩ (o s [u] I.kIn p) (.cons j .nil) h) λr s' a=>?_);cases r with
 |error e=>exact a.elim
 |ok fl=>
  cases fl with
  |ret t=>
   obtain⟨b,H',m,c,s',n⟩:=I.after a;exact⟨b,H',m,c,s',n⟩
  |next=>exact False.elim a
  |brk=>exact False.elim a
  |cont=>exact False.elim a
end
section
variable{p kp kpos:Pos}{f:A2}
theorem g5(C:zA X kf)(B:Gl X "sorted")(q:X.mg "sorted"=Y3)(hv:AI "sorted"=Z (.builtin "sorted"))(G:Cg X.prog X.w X.K X.mg X.base Tt k f fd ps (DD X.K 1 F))(U:lK (k+1) X.A)(a2:Gl X x)(N:X.mg x=Z (.ref f))(n:Bn X.K fd ps [])(he:QV X e fe)
  (hs:AA [e] X.env=(false,eval e X.env)::AA [] X.env:=by rfl) (h1:AE pos (AA [e] X.env)=(false,eval e X.env)::AE pos (AA [] X.env):=by rfl) (h2:(AE pos (AA [e] X.env)).any (·.1)=false:=by rfl) (t:("sorted":AK) ≠ "__name__":=by decide) (a1:(("sorted":AK)==("__debug__":AK))=false:=by decide) (D:db x:=by decide):
  QV X (.Call (.Name "sorted" p) [e] [⟨Z "key", .Name x kp,kpos⟩] pos) (vJ kf fe λ_ d=>F [.z d]):=⟨λAO s σ H Q I h=>by
 obtain⟨H0,ρ,b,E,c,qq⟩:=h;unfold vJ at c;obtain⟨b1,e1,c⟩:=AU c;obtain⟨ds,ed,c⟩:=AU c;obtain⟨kr,ek,c⟩:=AU c;obtain⟨cP,y,c⟩:=AU c;split at c
 ·rename_i g;cases c;rw[zS,Zl]at g;refine kX (yI I B q hv ?_ t a1);refine callWith_kw (jQ (jf he.run vA hs pos AO s σ H (λvs H1=>∃v,vs=[v]/\AW H H1/\bH X.K H1 b1 v) I ⟨H0,ρ,b1,E,e1,λv H' W _ j=>⟨v,rfl,W,j⟩⟩) λus P hu=>?_) h1 h2 Y2 rfl;obtain⟨vs,H1,i,S,v,rfl,m,j⟩:=hu;obtain⟨u,rfl,L⟩:=BG S;obtain⟨a,ws,rfl,sq,rs⟩:=Jj j ed;cases L;show A8 _ _ (evalAll [do let v <-eval (.Name x kp) X.env;standAt pos;pure v]) _ _ P;refine wpAny_evalAll_cons (zb (Qd i a2 N ?_ D));refine zb (QU (ze (wpAny_evalAll_nil ?_)));show A8 _ _ (call (.builtin "sorted") [.ref a] [(Str.ofString "key", .ref f)]) _ _ _;refine Ko C i (aS G (gf U) (show X.A.in1.in1.frames=Z X.stack from i.ok.frames) n) sq rs ek y g.1 g.2 λH' s' l zs J M hl o rz=>⟨.ref l,H',J,rfl,qq (.ref l) H' (m.trans M) (λa ea=>by cases ea;exact m.free hl) ⟨l,zs,rfl,o,rz⟩⟩
 ·cases c⟩
end
section
variable{body:Expr}{ajY p kpos:Pos}{xs:B5}{c P:A2}{q:AK}
theorem SV(a3:X.calm=true)(hd:X.A.depth<recursionLimit)(U:zA X kf)(N:Gl X "sorted")(D:X.mg "sorted"=Y3)(hv:AI "sorted"=Z (.builtin "sorted"))(O:ZC X scope cl x xs is)(y:Xp X.K c P q)(a1:X.env.code=.ref c)(F:X.env.qual++("<lambda>":AK)=q)
  (a6:defaultsOf params X.env=([],[])) (S:∀pm a5 ct u,bindArgs (kla_fn "<lambda>" q params body scope cl pm a5 ct) ⟨[u],[]⟩=pure [(x,u)]) (he:QV X e fe)
  (B:∀f c' s H,QV (II X X.A.in1.in1 (x::xs) (envX q scope s.heap.objs.size f (.ref c') cl) s H) body fb)
  (hs:AA [e] X.env=(false,eval e X.env)::AA [] X.env:=by rfl) (h1:AE pos (AA [e] X.env)=(false,eval e X.env)::AE pos (AA [] X.env):=by rfl) (h2:(AE pos (AA [e] X.env)).any (·.1)=false:=by rfl) (G:("sorted":AK) ≠ "__name__":=by decide) (a4:(("sorted":AK)==("__debug__":AK))=false:=by decide):
  QV X (.Call (.Name "sorted" p) [e] [⟨Z "key", .Lambda params body scope ajY,kpos⟩] pos) (vJ kf fe λρ d=>fb (Z (.z d)::lH is ρ)):=⟨λAO s σ H Q I h=>by
 obtain⟨H0,ρ,b,E,g,qq⟩:=h;unfold vJ at g;obtain⟨b1,e1,g⟩:=AU g;obtain⟨ds,ed,g⟩:=AU g;obtain⟨kr,ek,g⟩:=AU g;obtain⟨cP,J,g⟩:=AU g;split at g
 ·rename_i n;cases g;rw[zS,Zl]at n;refine kX (yI I N D hv ?_ G a4);refine callWith_kw (jQ (jf he.run vA hs pos AO s σ H (λvs H1=>∃v,vs=[v]/\AW H H1/\bH X.K H1 b1 v) I ⟨H0,ρ,b1,E,e1,λv H' j _ t=>⟨v,rfl,j,t⟩⟩) λus s1 hu=>?_) h1 h2 Y2 rfl;obtain⟨vs,H1,I1,r1,v,rfl,m,t⟩:=hu;obtain⟨u,rfl,ru⟩:=BG r1;obtain⟨a,w,rfl,sq,rs⟩:=Jj t ed;cases ru;show A8 _ _ (evalAll [do let v <-eval (.Lambda params body scope ajY) X.env;standAt pos;pure v]) _ _ s1;refine wpAny_evalAll_cons (zb (x9 I1 y a1 F a6 O.clos λf H2 s2 W i hf L=>zb (QU (ze (wpAny_evalAll_nil ?_)))));show A8 _ _ (call (.builtin "sorted") [.ref a] [(Str.ofString "key", .ref f)]) _ _ _;have hT:IL X X.A.in1.in1 σ H2 f λd=>fb (Z (.z d)::lH is ρ):=λAO s H' d k v u I j rv rd e=>
   qA (cz I O (show X.A.in1.in1.frames=Z X.stack from I.ok.frames) (show X.A.in1.in1.handled=Y3 from I.ok.hd a3) (show X.A.in1.in1.depth<recursionLimit from hd) (L.same j) (S _) (λf c' s H=>(B f c' s H).run) (((E.grow m).grow i).grow j) rv rd e)
    (λu' s' ⟨v',H'',o,r',s'',_,r''⟩=>⟨v',H'',o,r',s'',r''⟩) λ_ _ h=>h
  have M:tH X.K H2 a w\/wM X.K H2 a w:=by
   rcases sq with sq|sq
   ·exact .inl (c9 sq i)
   ·exact .inr (ii sq i)
  refine Ko U W hT M (rs.kp (.of i)) ek J n.1 n.2 λH' s' l zs o a2 hl C rz=>⟨.ref l,H',o,rfl,qq (.ref l) H' ((m.trans i).trans a2) (λa ea=>by cases ea;exact(m.trans i).free hl) ⟨l,zs,rfl,C,rz⟩⟩
 ·cases g⟩
end
end P1
namespace P1
open L2
section
variable{K:Type} [DecidableEq K] {knd:KeyKind prog w K}
end
end P1
namespace P1
open L2 S1 S6
section
variable{e:α->Dt}{e':β->Dt}
theorem sd[lZ e](xs:O α)(h:xs.length<=100000):Hn (xs.map (lZ.k e))=true:=by
 simp only[Hn,zS,Zl,qf,qV,zd,aQ,forall_exists_index,and_imp,forall_apply_eq_imp_iff₂];exact⟨h,λa _=>lZ.ne a,λa _ b _=>lZ.shp a b⟩
def Xr[lZ e](a:RL fa ρ e):R (dh Cz (aq fa aG)) ρ (oE e):=⟨jK e a.v,bD a.D (Z (a.v.length<=100000)),λh=>by
 obtain⟨h,b⟩:=aC h;simp only[dh,aq,aG,a.ok h,B4,Cz,Zv a.lk,wY,sd a.v b,QP,ck,Tk]⟩
class Gx {β:Type} (e':β->Dt) (kf:outParam (List Dt->Option (List (List AZ)))) where
 kk:β->List AZ
 ok:∀xs:List β,kf (xs.map e')=some (xs.map kk)
 inj:∀a b,kk a=kk b->a=b
instance [lZ e']:Gx e' HA:=⟨lZ.k e',λxs=>by
 unfold HA;rw[wY,B4,zh];simp only[zS,qf,qV,aQ,forall_exists_index,and_imp,forall_apply_eq_imp_iff₂];exact⟨λa _=>lZ.ne a,λa _ b _=>lZ.shp a b⟩,lZ.inj⟩
theorem ZD:∀xs:B5,EN (xs.map eS)=Z (xs.map λx=>[.inr x])
 |[]=>rfl
 |x::xs=>by
  rw[zw,eS,EN,ZD xs,B4];rfl
instance:Gx eS EN:=⟨λx=>[.inr x],ZD,λa b h=>by cases h;rfl⟩
def EW(e':β->Dt)[Gx e' kf](κ:α->β)(a b:α):Bool:=vG (Gx.kk e' (κ a)) (Gx.kk e' (κ b))
def yC(e':β->Dt)[Gx e' kf](κ:α->β)(xs:O α):O α:=xs.mergeSort (EW e' κ)
section
variable [Gx e' kf] {κ:α->β}
theorem w5(xs:O α):(yC e' κ xs).Perm xs:=Q2 ..
theorem w6(xs:O α):(yC e' κ xs).Pairwise (λa b=>EW e' κ a b=true):=jS (le:=EW e' κ) (λa b c=>rO _ _ _) (λa b=>rP _ _) xs
theorem Vf{a b:α}(h:EW e' κ a b=true)(h':EW e' κ b a=true):κ a=κ b:=Gx.inj (e':=e') _ _ (z9 h h')
theorem Vg{xs out:O α}(hi:∀a∈xs,∀b∈xs,κ a=κ b->a=b)(hp:out.Perm xs)(hs:out.Pairwise (λa b=>EW e' κ a b=true)):out=yC e' κ xs:=
 Es (λa c b e h h'=>hi a (hp.mem_iff.mp c) b (hp.mem_iff.mp e) (Vf h h')) (hp.trans (w5 xs).symm) hs (w6 xs)
theorem gL{xs:O α}(hi:∀a∈xs,∀b∈xs,κ a=κ b->a=b):O7 (xs.map e) (xs.map λx=>Gx.kk e' (κ x))=(yC e' κ xs).map e:=by
 unfold O7;have g:(xs.map e).zip (xs.map λx=>Gx.kk e' (κ x))=xs.map λx=>(e x,Gx.kk e' (κ x)):=by
  rw[List.zip_map',]
 have i:(xs.map λx=>(e x,Gx.kk e' (κ x))).mergeSort F0=(yC e' κ xs).map λx=>(e x,Gx.kk e' (κ x)):=by
  refine Es (le:=λa b=>F0 a b=true) (λa j b k h h'=>?_) ((Q2 ..).trans ((w5 xs).map _).symm) (jS (le:=F0) (λa b c=>rO a.2 b.2 c.2) (λa b=>rP a.2 b.2) _) (bA.mpr (w6 xs));obtain⟨x,hx,rfl⟩:=aQ.mp ((Q2 ..).mem_iff.mp j);obtain⟨y,f,rfl⟩:=aQ.mp ((Q2 ..).mem_iff.mp k);rw[hi x hx y f (Vf h h')]
 rw[g,i,ZE];rfl
structure SR (fe:Ev->Option Bx) (ρ:Ev) (e:α->Dt) where
 v:List α
 D:Option Prop
 ok:B0 D->∃b,fe ρ=some b/\vB b=some (v.map e)
def uS(a:RL fa ρ e):SR fa ρ e:=⟨a.v,a.D,λh=>⟨_,a.ok h,Zv a.lk⟩⟩
def Wp(a:R fa ρ (zE (eT e))):SR fa ρ e:=⟨a.v,a.D,λh=>⟨_,a.ok h,rfl⟩⟩
theorem Kq{fk:Ev->Dt->Y Bx}{xs:O α}(c:fe ρ=Z b)(hs:vB b=Z (xs.map e))(hk:∀x∈xs,fk ρ (e x)=Z (.z (e' (κ x))))(h:xs.length<=100000)(hi:∀a∈xs,∀b∈xs,κ a=κ b->a=b)(h1:Er (xs.map e) (xs.map λx=>Gx.kk e' (κ x))=true):
  vJ kf fe fk ρ=Z (.o ((yC e' κ xs).map e)):=by
 have h2:=O6 (okk:=λ_=>true) (e:=e) (e':=e') (fk:=fk ρ) (g:=κ) (λ_=>Y2) hk;have f:kf ((xs.map λx=>(e x,e' (κ x))).map (·.2))=Z (xs.map λx=>Gx.kk e' (κ x)):=by
  rw[ZE];have:=Gx.ok (e':=e') (xs.map κ);rw[ZE,ZE]at this;exact this
 unfold vJ;rw[c,B4,hs,B4,h2,B4,f,B4,zh (by rw[zS,Zl,zd];exact⟨h,h1⟩),gL hi]
theorem ZF{xs:O α}(h:(xs.map κ).Nodup):(∀a∈xs,∀b∈xs,κ a=κ b->a=b)/\Er (xs.map e) (xs.map λx=>Gx.kk e' (κ x))=true:=by
 constructor
 ·intro a c b k e;obtain⟨i,hi,rfl⟩:=cb.mp c;obtain⟨j,f,rfl⟩:=cb.mp k;have:=(Yf (i:=i) (j:=j) (h₀:=by rw[zd];exact hi) (h₁:=by rw[zd];exact f) h).mp (by rw[JO,JO];exact e);subst this;rfl
 ·unfold Er;rw[QQ];refine .inl (zz ?_);have:(xs.map λx=>Gx.kk e' (κ x))=(xs.map κ).map (Gx.kk e'):=by rw[ZE];rfl
  rw[this];exact bA.mpr (qo (λg q=>g (Gx.inj (e':=e') _ _ q)) h)
theorem dy[lZ e]{xs:O α}(h:∀a∈xs,∀b∈xs,κ a=κ b->a=b):Er (xs.map e) (xs.map λx=>Gx.kk e' (κ x))=true:=by
 unfold Er;rw[QQ];refine .inr ?_;rw[wY];simp only[List.zip_map',qf,aQ,forall_exists_index,and_imp,forall_apply_eq_imp_iff₂,QQ,qV,QI,Zl];intro a c b f;by_cases q:Gx.kk e' (κ a)=Gx.kk e' (κ b)
 ·exact .inr (by rw[h a c b f (Gx.inj (e':=e') _ _ q)])
 ·exact .inl q
end
def gp[lZ e][Gx e' kf]{T:α×Unit->β}{f:α×Unit->Y Prop}(S:∀v bs,aZ e aN v bs->bs.length=1/\(B0 (f v)->F (bs.map B7)=Z (zE e' (T v))))(a:SR fa ρ e):R (vJ kf fa λ_ d=>F [.z d]) ρ (oE e):=
 ⟨yC e' (λx=>T (x,lm)) a.v,bD a.D (Z ((∀x∈a.v,B0 (f (x,lm)))/\a.v.length<=100000/\∀x∈a.v,∀y∈a.v,T (x,lm)=T (y,lm)->x=y)),λh=>by
 obtain⟨h1,h2,i,c⟩:=aC h;obtain⟨b,j,g⟩:=a.ok h1;exact Kq (e':=e') (κ:=λx=>T (x,lm)) j g (λx hx=>(S (x,lm) [.z (e x)] ⟨_,rfl,rfl⟩).2 (h2 x hx)) i c (dy (e':=e') c)⟩
def Sr[Gx e' kf](a:SR fa ρ e)(k:∀x:α,R fb (Z (.z (e x))::lH is ρ) (zE e')):R (vJ kf fa λρ d=>fb (Z (.z d)::lH is ρ)) ρ (oE e):=
 ⟨yC e' (λx=>(k x).v) a.v,bD a.D (Z ((∀x∈a.v,B0 (k x).D)/\a.v.length<=100000/\(a.v.map λx=>(k x).v).Nodup)),λh=>by
 obtain⟨h1,h2,i,c⟩:=aC h;obtain⟨b,g,f⟩:=a.ok h1;exact Kq (e':=e') (κ:=λx=>(k x).v) g f (λx hx=>(k x).ok (h2 x hx)) i (ZF (e:=e) (e':=e') c).1 (ZF (e:=e) (e':=e') c).2⟩
end
section
variable{e:α->Dt}{e':β->Dt}{fs:Ev->Y (O Dt)}
def WB(it:R fi ρ (iE e))(a:α->Ev)(c:∀x,gt (e x) ρ=Z (a x))(b:∀x,R fs (a x) (iE e')):R (E8 fi gt lJ fs) ρ (iE e'):=⟨it.v.flatMap λx=>(b x).v,bD it.D (Fu it.v λx=>(b x).D),λh=>by
 obtain⟨h1,h2⟩:=aC h;have h2:∀x∈it.v,B0 (b x).D:=h2;simp only[E8,it.ok h1,B4];rw[El (π:=λ_=>true) (g:=λx=>(b x).v.map e') it.v λx hx=>⟨a x,c x,rfl,λ_=>(b x).ok (h2 x hx)⟩,dA.mpr λ_ _=>Y2];rw[iE,Kl]⟩
end
section
variable{e:α->Dt}
end
end P1
namespace L2
end L2
namespace P1
open L2
section
variable{e1 e2:Expr}{fs:Ev->Y (O Bx)}
variable{e:α->Dt}{k:Ev->Y Ap}{cO:γ->Ap}
end
def ul(K:BA):V->O V->Hp->VK->Prop:=λx vs H Q=>∃l b xs zs,x=.ref l/\vs=[.ref b]/\H l=Z (.lst xs)/\wM K H b zs/\xs.length+zs.length<=1000000/\Q .non (BD H l (.lst (xs++zs)))
theorem o3:NU X "list.extend" (ul X.K):=by
 intro AO s σ H x vs v us Q I i m h;obtain⟨l,b,xs,zs,rfl,rfl,f,g,y,q⟩:=h;cases i;obtain⟨u,rfl,o⟩:=AY.one m;cases o;obtain⟨z,AS,n,r,B,e⟩:=I.afs f;obtain⟨a,c,p,e2,c2,d2⟩:=Ll I g;have k:¬ (!AS.toArray.isEmpty&&Builtin.List.listTooLong (AS.toArray.size+a.toArray.size))=true:=by
  have j:(1000000:Nat)<=AB:=by decide
  rw[pi (by rw[zi,zi,<-r.length,<-c.length];omega),m7];exact zC
 have j:(1000000:Nat)<=AB:=by decide
 have t:=r.length;have A:=c.length;refine jb F.slot_list_extend ⟨_,e,rfl⟩ F.entry_list_extend ?_ (F.args_list_extend_2 _ _);unfold Builtin.«list.extend»;show A8 _ _ (Builtin.List.listExtendWith (.ref l) (.ref b) .none) _ _ _;unfold Builtin.List.listExtendWith;refine zb (JU (T :="tuple") ⟨p,e2,c2⟩ ?_);rw[zh (by simp)];obtain⟨w,d2⟩:=d2.1;refine zb (listItems_at e2 d2 (zb (listItems_at e Y2 ?_)));rw[zv k];refine zb (listUpdate_at e Y2 ?_ (by rw[zi];omega) (by show(AS.toArray++a.toArray).size<=AB+1;rw[kb,zi,zi];omega));refine zb (ze (ze ⟨_,rfl,.non,_,I.ab0 (its':=AS++a) f e (by simp) (r.append c) ?_,rfl,q⟩));rw[zt];omega
section
def IR(ρ:Ev)(i:Nat):Bx->Y Ap
 |.z (.tup zs)=>match ρ[i]? with
  |some (Z (.o ds))=>if ds.length+zs.length<=1000000 then Z (.nx (ρ.set i (Z (.o (ds++zs)))))else Y3
  |_=>Y3
 |_=>Y3
def HC(i:Nat)(f:Ev->Y Bx):Ev->Y Ap:=λρ=>(f ρ).bind (IR ρ i)
theorem OW(i:Nat){p:Pos}(y:QV X e f)(C:X.N[i]?=Z x:=by rfl)(A:D9 X.env.scope x:=by first|exact km rfl|exact ja (km Y2)|exact ja (ja Y2))(hd:db x:=by decide)(o:(x==("__classdict__":AK))=false:=by decide)(m:AA [e] X.env=[(false,eval e X.env)]:=by rfl)(w:attributeBase (.Name x p) "extend" X.env (eval (.Name x p) X.env)=eval (.Name x p) X.env:=by rfl)(t:((AE cpos (AA [e] X.env)).all (λx=>!x.1)&&(backToKw cpos (keywordEach [] X.env)).all (λx=>x.1.isSome)
   && decide ([e].length+([]:O AD).length+(if([]:O AD).isEmpty then 0 else 1)<30))=true:=by rfl)(B:(apos.endLine==cpos.line)=true:=by rfl)(hs:swapsWith (.Call (.Attribute (.Name x p) "extend" apos) [e] [] cpos) Y3 pos.line X.env=pure false:=by rfl):
  Co X (.Expr (.Call (.Attribute (.Name x p) "extend" apos) [e] [] cpos) pos) (HC i f):=⟨
 DU (YF (YM PySem.F.plainAttrs_list PySem.F.slot_list_extend PySem.F.type_list_extend o3 (Ga (i:=i) C A hd o) (jf y.run vA (by rw[m]<;>rfl)) w t B (by rw[m]<;>rfl) Y2) hs) λD σ H h=>by
  obtain⟨H0,ρ,r,E,e,q⟩:=h;obtain⟨b,eb,e⟩:=AU e;unfold IR at e;split at e
  ·rename_i zs;split at e
   ·rename_i ds l;split at e
    ·rename_i z;cases e;obtain⟨v,e1,a,vs,rfl,g,rs⟩:=E.val i _ l;refine⟨_,e1,.inl ⟨rfl,vs,.inl (.inl g)⟩,H0,ρ,_,E,eb,λu H1 c I j=>?_⟩;have s:=E.grow c;simp only[bH,AX]at j;obtain⟨b,n,rfl,G,k⟩:=j;refine⟨a,b,vs,n,rfl,rfl,c _ _ g,G,by rw[rs.length,k.length];exact z,q _ _ ?_⟩;exact s.ab0 l e1 (c _ _ g) ((rs.kp (.of c)).append k)
    ·cases e
   ·cases e
  ·cases e⟩
variable{en:α->Dt}{k:Ev->Y Ap}{cO:γ->Ap}
def SI(i:Nat)(xs:O α)(hi:ρ[i]?=Z (Z (.o (xs.map en))))(a:R f ρ (zE (eT en)))(K:∀ys:O α,R k (ρ.set i (Z (.o (ys.map en)))) cO):R (aF (HC i f) k) ρ cO:=⟨(K (xs++a.v)).v,bD (bD a.D (Z (xs.length+a.v.length<=1000000))) (K (xs++a.v)).D,λhd=>by
 obtain⟨h1,b⟩:=aC hd;obtain⟨h1,h2⟩:=aC h1;have h2:xs.length+a.v.length<=1000000:=h2;rw[vH (ρ':=ρ.set i (Z (.o ((xs++a.v).map en)))) (by
  unfold HC;rw[a.ok h1,B4];show IR ρ i (.z (.tup (a.v.map en)))=_;simp only[IR,hi,zd,qB];rw[zh h2])]
 exact(K _).ok b⟩
end
def SF(i j:Nat)(ρ:Ev):Bx->Bx->Y Ap
 |.o a,.o b=>Z (.nx ((ρ.set i (Z (.o a))).set j (Z (.o b))))
 |_,_=>Y3
def ZG(i j:Nat)(fa fb:Ev->Y Bx):Ev->Y Ap:=λρ=>(fa ρ).bind λa=>(fb ρ).bind λb=>SF i j ρ a b
section
variable{a b:Expr}
theorem l7(i j:Nat){px py pt:Pos}{kt k2 pt2}(m:X.calm=true)(u:X.N.Nodup)(o:QV X a fa)(A:QV X b fb)(hi:X.N[i]?=Z x:=by rfl)(p:X.N[j]?=Z y:=by rfl)(z:i≠j:=by decide)(hx:X.env.scope.names.lookup x=Z .local:=by rfl)(n:X.env.scope.names.lookup y=Z .local:=by rfl)(h1:AA [a,b] X.env=(false,eval a X.env)::AA [b] X.env:=by rfl)(h2:AA [b] X.env=(false,eval b X.env)::AA [] X.env:=by rfl)(t:swappedStores [.Tuple [.Name x px,.Name y py] kt pt] (.Tuple [a,b] k2 pt2) X.env=pure (Z [x,y]):=by rfl)(hs:swapsWithSole [.Tuple [.Name x px,.Name y py] kt pt] (.Tuple [a,b] k2 pt2) pos.line X.env=pure false:=by rfl):
  Co X (.Assign [.Tuple [.Name x px,.Name y py] kt pt] (.Tuple [a,b] k2 pt2) pos) (ZG i j fa fb):=⟨DU (NL m u hi p z hx n (jf o.run (jf A.run vA h2) h1) t hs) λD σ H h=>by
 obtain⟨H0,ρ,r,E,e,q⟩:=h;obtain⟨F,ea,e⟩:=AU e;obtain⟨B,eb,e⟩:=AU e;unfold SF at e;split at e
 ·rename_i G C;cases e;refine⟨H0,ρ,_,E,ea,λv H1 c f s=>⟨H0,ρ,_,E.grow c,eb,λw H2 g k l=>?_⟩⟩;refine⟨v,w,rfl,q _ _ ?_⟩;exact(E.set c s (.inl Y2) f).set g l (.inl Y2) k
 ·cases e⟩
variable{e1:α->Dt}{e2:β->Dt}{k:Ev->Y Ap}{cO:γ->Ap}
def eA(i j:Nat)(x:R fa ρ (oE e1))(y:R fb ρ (oE e2))(K:∀(u:O α) (v:O β),R k ((ρ.set i (Z (.o (u.map e1)))).set j (Z (.o (v.map e2)))) cO):R (aF (ZG i j fa fb) k) ρ cO:=⟨(K x.v y.v).v,bD (bD x.D y.D) (K x.v y.v).D,λhd=>by
 obtain⟨h1,a⟩:=aC hd;obtain⟨h1,h2⟩:=aC h1;rw[vH (ρ':=(ρ.set i (Z (.o (x.v.map e1)))).set j (Z (.o (y.v.map e2)))) (by
  unfold ZG;rw[x.ok h1,B4,y.ok h2,B4];rfl)]
 exact(K _ _).ok a⟩
end
theorem Ag{d:Dt}(h:gB d=true):∃x,d=.str x:=by
 cases d with
 |str x=>exact⟨x,rfl⟩
 |_=>cases h
theorem zB{d:Dt}(h:As d=true):∃ds,d=.tup ds:=by
 cases d with
 |tup x=>exact⟨x,rfl⟩
 |_=>cases h
theorem XN{d:Dt}(h:As d=true):MN d=true:=by
 obtain⟨ds,rfl⟩:=zB h;rfl
theorem mj(x y:AK):Ms (.str x) (.str y)=(x==y):=by
 rfl
theorem jL(x y:AK):Zi (.str x) (.str y):=⟨by rfl,by simp[Bu]⟩
theorem Vh{a b:Dt}(c:gB a=true)(e:gB b=true):Zi a b:=by
 obtain⟨x,rfl⟩:=Ag c;obtain⟨y,rfl⟩:=Ag e;exact jL x y
theorem Jm{d:Dt}(h:ds[k]?=Z d):fX (.tup ds) (k:Int)=d:=by
 have a:k<ds.length:=(bj.mp h).1;have:Ib ds (k:Int)=Z d:=by
  unfold Ib EL;rw[zh (),zh (),B4,jv,h]
 unfold fX;simp only[fH,vB,B4,this]
theorem PY{d:Dt}{i:Int}(h:As d=true)(a:0<=i)(h1:i<Ij d):Af d i:=by
 obtain⟨ds,rfl⟩:=zB h;exact BC a h1
theorem Et(a:Dt)(r:O Dt):fX (.tup (a::r)) 0=a:=Jm (k:=0) rfl
theorem Hj(a b:Dt)(r:O Dt):fX (.tup (a::b::r)) 1=b:=Jm (k:=1) rfl
theorem Vi(a b c:Dt)(r:O Dt):fX (.tup (a::b::c::r)) 2=c:=Jm (k:=2) rfl
theorem Mk(a b c d:Dt)(r:O Dt):fX (.tup (a::b::c::d::r)) 3=d:=Jm (k:=3) rfl
theorem eJ{d:Dt}(h:d∈U6 (.str x)):d=eS (yw d):=by
 unfold U6 BS at h;obtain⟨c,_,rfl⟩:=aQ.mp h;rfl
theorem lT(x:AK):(U6 (.str x)).length=x.length:=XO x
theorem DM(a b:AK):Cu a b=true↔MK a b/\a≠b:=by
 unfold Cu MK;rw[ltCps_eq];simp only[Zl,QI];constructor
 ·intro h;exact⟨List.lt_asymm h,λe=>by subst e;exact hG _ h⟩
 ·intro⟨h,hn⟩;by_cases q:a.cps.toList<b.cps.toList
  ·exact q
  ·exact absurd (Ui (a:=a) (b:=b) (by unfold MK;rw[ltCps_eq];simpa using h) (by unfold MK;rw[ltCps_eq];simpa using q)) hn
theorem WO(n:Nat):rng 0 (n+1)=0::(rng 0 n).map (·+1):=by
 unfold rng;rw[dP,zw,ZE,ZE];refine congr (congrArg _ ?_) ?_
 ·simp
 ·apply ki;intro k _;simp only[Function.comp];omega
theorem xg{i:Int}(h:i∈rng 0 n):∃k:Nat,k<n/\i=(k:Int):=by
 unfold rng at h;obtain⟨k,hk,rfl⟩:=aQ.mp h;exact⟨k,dB.mp hk,by omega⟩
end P1
namespace P1
open L2 S1 S6
theorem CG[DecidableEq α]{xs ys:O α}(h1:xs.Nodup)(h2:ys.Nodup)(h:∀x,x∈xs↔x∈ys):xs.Perm ys:=by
 rw[List.perm_iff_count];intro a;by_cases b:a∈xs
 ·rw[h1.count,h2.count,zh b,zh ((h a).mp b)]
 ·rw[h1.count,h2.count,zv b,zv λz=>b ((h a).mpr z)]
structure Wd (U:B5) (w:List B5):Prop where
 ne:∀s∈w,s≠[]
 so:∀s∈w,s.Pairwise MK
 nd:w.flatten.Nodup
 sub:∀x∈w.flatten,x∈U
 st:w.Pairwise (λa b=>X0 a b=true)
def same(w:O B5)(x y:AK):Prop:=∃s∈w,x∈s/\y∈s
end P1
section
set_option maxHeartbeats 1000000
namespace P1
open L2
open PySem.Builtin PySem.Builtin.Str
abbrev cs(s:AK):O Nat:=s.cps.toList
theorem Gy(a b:AK):cs (a++b)=cs a++cs b:=ZA
theorem Xu{a b:AK}(h:cs a=cs b):a=b:=Str.ext' (k4.mp h)
theorem iK(a:AK):a.length=(cs a).length:=by simp[Str.length]
theorem Rk(y p q:AK)(ps:B5):Str.join y (p::q::ps)=p++y++Str.join y (q::ps):=rfl
theorem O3(h:StrLaws.At x y x.length k):∃r,(cs x).drop k=cs y++r:=by
 have e:=h.2;rw[StrLaws.subAt_eq]at e;have e:((cs x).drop k).take y.length=cs y:=eq_of_beq e;exact⟨((cs x).drop k).drop y.length,by rw[<-e];exact(ZU _ _).symm⟩
theorem rL{r:O Nat}(h:(cs x).drop k=cs y++r)(hk:k<=(cs x).length):StrLaws.At x y x.length k:=by
 refine⟨?_,?_⟩
 ·have:=congrArg dC h;rw[qc,zt,<-iK,<-iK]at this;rw[<-iK]at hk;omega
 ·rw[StrLaws.subAt_eq];apply beq_iff_eq.mpr;show((cs x).drop k).take y.length=cs y;rw[h,iK,List.take_left]
theorem Kr{x y:AK}{c:Nat}{A:O Nat}(l:cs y=c::A):∀(ps:B5) (p:AK) (b:O Nat) (a f:Nat),(∀q∈p::ps,c∉cs q)->a<=(cs x).length->(cs x).drop a=cs (Str.join y (p::ps))->StrLaws.ChainG x y x.length a b f->(∀k,f<=k->¬ StrLaws.At x y x.length k) →
  StrLaws.partsFrom x y.length a b=p::ps
 |[],p,b,a,f,hc,ha,hx,j,hn=>by
  have hx:(cs x).drop a=cs p:=hx;have hp:=hc p (zr ..);cases b with
  |nil=>
   show[strSub x a x.length]=[p];congr 1;refine Xu ?_;show(strSub x a x.length).cps.toList=_;rw[StrLaws.strSub_toList];show((cs x).drop a).take (x.length-a)=_;rw[qi (by rw[qc,iK];exact zo _),hx]
  |cons d r=>
   obtain⟨g1,g2,_,_⟩:=j;obtain⟨t,m⟩:=O3 g2;refine absurd ?_ hp;rw[<-hx,show(cs x).drop a=((cs x).drop a).take (d-a)++(cs x).drop d by
    rw[show(cs x).drop d=((cs x).drop a).drop (d-a) by rw[Ki];congr 1;omega,ZU],m,l]
   exact ZN _ (zr ..)
 |q::ps,p,b,a,f,hc,ha,hx,j,hn=>by
  have hx:(cs x).drop a=cs p++(cs y++cs (Str.join y (q::ps))):=by
   rw[hx,Rk,Gy,Gy,Zp]
  have hp:=hc p (zr ..);have B:=congrArg dC hx;rw[qc,zt,zt]at B;have D:1<=(cs y).length:=by rw[l];simp
  have e1:(cs x).drop (a+(cs p).length)=cs y++cs (Str.join y (q::ps)):=by
   rw[<-Ki,hx,hE]
  have n:StrLaws.At x y x.length (a+(cs p).length):=rL e1 ();have no:∀d,a<=d->d<a+(cs p).length->¬ StrLaws.At x y x.length d:=λd h1 h2 w=>by
   obtain⟨t,m⟩:=O3 w;refine hp ?_;have:(cs x).drop d=((cs p).drop (d-a))++(cs y++cs (Str.join y (q::ps))):=by
    rw[show(cs x).drop d=((cs x).drop a).drop (d-a) by rw[Ki];congr 1;omega,hx,List.drop_append_of_le_length ()]
   rw[m,l]at this;have s:(cs p).drop (d-a)≠[]:=λz=>by
    have:=congrArg dC z;rw[qc,mm]at this;omega
   cases g:(cs p).drop (d-a)with
   |nil=>exact absurd g s
   |cons u v=>
    rw[g]at this;injection this with e _;rw[e];exact kc (i:=d-a) (by rw[g];exact zr ..)
  cases b with
  |nil=>
   have j:f=a:=j;exact absurd n (hn _ ())
  |cons d r=>
   obtain⟨g1,g2,g3,o⟩:=j;have hd:d=a+(cs p).length:=by
    apply Decidable.byContradiction;intro C;by_cases h:d<a+(cs p).length
    ·exact no d g1 h g2
    ·exact g3 _ () () n
   subst hd;show strSub x a (a+(cs p).length)::StrLaws.partsFrom x y.length (a+(cs p).length+y.length) r=p::q::ps;rw[Kr l ps q r _ f (λz g=>hc z (zk _ g)) (by rw[iK];omega) (by rw[<-Ki,e1,iK,hE]) o hn];congr 1;refine Xu ?_;show(strSub x a (a+(cs p).length)).cps.toList=_;rw[StrLaws.strSub_toList];show((cs x).drop a).take (a+(cs p).length-a)=_;rw[hx,show a+(cs p).length-a=(cs p).length by omega,List.take_left]
theorem UA(x:AK):1<=Builtin.Str.strKind x:=by
 unfold Builtin.Str.strKind;split
 ·exact zo _
 ·split<;>decide
theorem Ku{c:Nat}{k:O Nat}(b:cs y=c::k)(hk:Builtin.Str.strKind y=1)(p:AK)(ps:B5)(e:∀q∈p::ps,c∉cs q):Txt.split (Txt.join y (p::ps)) y=p::ps:=by
 have g:Txt.join y (p::ps)=Str.join y (p::ps):=StrLaws.glued_eq_join y _;rw[g];have l:1<=y.length:=by rw[iK,b];simp
 generalize hx:Str.join y (p::ps)=x;obtain⟨f,i,j⟩:=StrLaws.occ_tight x y l;have a:=Kr (x:=x) b ps p _ 0 f e (ZT _) (by rw[hx];rfl) i j;unfold Txt.split;split
 ·rename_i h;rw[QQ,Zl,Zl]at h;have:=UA x;have h:x.length<y.length:=by omega
  cases ps with
  |nil=>rw[<-hx];rfl
  |cons q ps=>
   rw[<-hx,Rk,mU,mU]at h;omega
 ·split
  ·rename_i h;rw[List.isEmpty_iff.mp h]at a;have a:[strSub x 0 x.length]=p::ps:=a;rw[StrLaws.sub_whole]at a;exact a
  ·rw[StrLaws.partsBetween_eq];exact a
theorem O9{c:Nat}{s:AK}(h:c∈cs s):qp ⟨#[c]⟩ s=true:=by
 unfold qp;obtain⟨i,hi⟩:=(mem_iff_at s c).mp h;rcases StrLaws.occ_head s ⟨#[c]⟩ 1 (zo 1)with⟨a,b⟩|⟨i,r,a,_,_⟩
 ·exact absurd hi (b i)
 ·rw[a];rfl
theorem cy(h:n<=x.length):cs (Txt.slice x (Z (n:Int)) Y3)=(cs x).drop n:=by
 rw[slice_from_eq (b:=x.length) () () rfl];show((cs x).drop ((n:Int).toNat)).take _=_;rw[jv,qi (by rw[qc,<-iK];omega)]
theorem VO(h:n<=x.length):cs (Txt.slice x Y3 (Z (n:Int)))=(cs x).take n:=by
 have:=slice_closes_to (x:=x) (j:=(n:Int)) ⟨by omega,by rw[show x.cps.toList.length=x.length by simp[Str.length]];omega⟩;rw[eq_of_beq this];show((cs x).drop 0).take _=_;simp
theorem Kv(x:AK):BH x=(cs x).map λc=>⟨#[c]⟩:=rfl
theorem ZJ:∀(y p:AK) (ps:B5),cs (Txt.join y (p::ps))=cs p++ps.flatMap λq=>cs y++cs q:=by
 intro y p ps;rw[show Txt.join y (p::ps)=Str.join y (p::ps) from StrLaws.glued_eq_join y _]
 induction ps generalizing p with
 |nil=>simp[Str.join]
 |cons q ps a=>rw[Rk,Gy,Gy,a,ZI,Zp,Zp]
end P1
end
section
set_option maxHeartbeats 1000000
namespace P1
open L2 S1 S6
section
variable [Inhabited α]
def Fh(lt:α->α->Bool)(xs:O α):Bool:=((rng 0 ((xs.length:Int)-1).toNat).map λi:Int=>lt (Au xs i) (Au xs (i+1))).all id
theorem Vj(a:α)(l:O α)(h:k<l.length):Au (a::l) ((k:Int)+1)=Au l (k:Int):=by
 have e:=wZ (a::l) (k+1) (by simp;omega);rw[wZ l k h,show((k:Int)+1)=((k+1:Nat):Int) by omega,e];rfl
theorem ue(lt:α->α->Bool)(a b:α)(l:O α):Fh lt (a::b::l)=(lt a b&&Fh lt (b::l)):=by
 unfold Fh;rw[show(((a::b::l).length:Int)-1).toNat=l.length+1 by simp only[ZZ];omega,show(((b::l).length:Int)-1).toNat=l.length by simp only[ZZ];omega,WO,zw,ke,ZE];refine congr (congrArg _ ?_) (congrArg (λl:O Bool=>l.all id) ?_)
 ·have e0:=wZ (a::b::l) 0 (by simp);have e1:=wZ (a::b::l) 1 (by simp);show lt (Au (a::b::l) ((0:Nat):Int)) (Au (a::b::l) ((1:Nat):Int))=lt a b;rw[e0,e1];rfl
 ·apply ki;intro i hi;obtain⟨k,hk,rfl⟩:=xg hi;have e1:=Vj a (b::l) (k:=k) (by simp;omega);have e2:=Vj a (b::l) (k:=k+1) (by simp;omega);have e3:((k+1:Nat):Int)=(k:Int)+1:=by omega
  rw[e3]at e2;simp only[Function.comp];rw[e1,e2]
theorem Ah{lt:α->α->Bool}(tr:∀a b c,lt a b=true->lt b c=true->lt a c=true):∀(xs:O α),Fh lt xs=true↔xs.Pairwise λa b=>lt a b=true
 |[]=>by simp[Fh,rng]
 |[a]=>by simp[Fh,rng]
 |a::b::l=>by
  rw[ue,zS,Ah tr (b::l),@bB _ _ a (b::l)];constructor
  ·intro⟨h1,h2⟩;refine⟨λy e=>?_,h2⟩;rcases ba.mp e with rfl|e
   ·exact h1
   ·exact tr _ _ _ h1 (Q3 h2 e)
  ·intro⟨h1,h2⟩;exact⟨h1 b (zr ..),h2⟩
end
theorem SC(a b c:AK)(h1:Cu a b=true)(h2:Cu b c=true):Cu a c=true:=by
 unfold Cu at *
 simp only[Zl]at *
 exact List.lt_trans h1 h2
section
variable{e:α->Dt} [lZ e]
theorem OX(a b c:α)(h1:DI e a b=true)(h2:DI e b c=true):DI e a c=true:=mH h1 h2
theorem TZ(a b:α):DI e a b=true↔EG e a b=true/\a≠b:=by
 unfold DI EG vG;constructor
 ·intro h;refine⟨?_,λz=>?_⟩
  ·cases q:jj (lZ.k e b) (lZ.k e a)with
   |false=>rfl
   |true=>have:=mH h q;rw[yZ]at this;cases this
  ·rw[z,yZ]at h;cases h
 ·rintro⟨h1,h2⟩;cases q:jj (lZ.k e a) (lZ.k e b)with
  |true=>rfl
  |false=>
   have h1:jj (lZ.k e b) (lZ.k e a)=false:=by
    cases z:jj (lZ.k e b) (lZ.k e a)with
    |false=>rfl
    |true=>rw[z]at h1;cases h1
   exact absurd (lZ.inj _ _ (za q h1)) h2
end
end P1
end
namespace P1
open L2
open PySem.Builtin PySem.Builtin.Str
end P1
section
set_option maxHeartbeats 1000000
namespace P1
open L2
open PySem.Builtin PySem.Builtin.Str
end P1
end
section
set_option synthInstance.maxSize 100000
namespace G11
open L2 P1
noncomputable section
abbrev BE:=O P1.Dt
abbrev qM:Type:=AK×AK
abbrev Kw:qM->Dt:=Xe eS eS
abbrev bM:Type:=AK×(O qM)
abbrev aO:bM->Dt:=Xe eS (eT Kw)
abbrev He:Type:=BE×BE
abbrev Bl:He->Dt:=Xe (eT eD) (eT eD)
abbrev LB:Type:=Int×bM
abbrev FB:Type:=Int×Dt
abbrev fG:Type:=AK×AK×Int
abbrev eE:fG->Dt:=D3 eS eS eI
abbrev Eu:Type:=Dt×fG
abbrev IY:Eu->Dt:=Xe eD eE
abbrev dH:Type:=Int×AK×AK×Int
abbrev dI:dH->Dt:=F2 eI eS eS eI
abbrev Bm:Type:=B5×(O dH)×(O fG)
abbrev jR:Bm->Dt:=D3 (eT eS) (eT dI) (eT eE)
abbrev S4:Type:=Dt×Dt×Dt
abbrev S0:S4->Dt:=D3 eD eD eD
abbrev Ew:Type:=(O bM)×(O bM)
abbrev Sb:Ew->Dt:=Xe (eT aO) (eT aO)
abbrev Hl:Type:=Int×AK
abbrev gX:Type:=Int×AK×AK
abbrev WG:gX->Dt:=D3 eI eS eS
abbrev SL:Type:=He×(O bM)×Int
abbrev On:SL->Dt:=D3 Bl (eT aO) eI
def HG(d:Dt):S4:=(fX d 0,fX d 1,fX d 2)
def top(i:Nat):AC:=PySem.Challenge.pw_onefolk_k11_whole_grounds_put_together.main.body.getD i (.Pass ⟨0,0,0,0⟩)
abbrev Kz:AC:=top 50
abbrev BK:AC:=top 51
abbrev Ho:AC:=top 55
abbrev Hq:AC:=top 52
abbrev KC:AC:=top 53
abbrev Pa:AC:=top 54
abbrev Hr:AC:=top 56
abbrev Pb:AC:=top 18
abbrev Ht:AC:=top 29
abbrev BL:AC:=top 31
abbrev Ey:AC:=top 30
abbrev ZK:AC:=top 28
abbrev Pg:AC:=top 42
abbrev KD:AC:=top 39
abbrev KH:AC:=top 40
abbrev Hu:AC:=top 41
abbrev KJ:AC:=top 8
abbrev Ez:AC:=top 17
abbrev Ph:AC:=top 16
abbrev EY:AC:=top 11
abbrev Hv:AC:=top 36
abbrev KN:AC:=top 7
abbrev Hw:AC:=top 24
abbrev Vk:AC:=top 34
abbrev Hx:AC:=top 33
abbrev BP:AC:=top 37
abbrev KQ:AC:=top 38
abbrev Hy:AC:=top 35
abbrev zF:AC:=top 57
abbrev wA:AC:=top 19
abbrev zG:AC:=top 20
abbrev BR:AC:=top 58
abbrev Hz:AC:=top 45
abbrev Fe:AC:=top 44
abbrev KR:AC:=top 12
abbrev HB:AC:=top 10
abbrev Pj:AC:=top 48
abbrev HD:AC:=top 9
abbrev zH:AC:=top 25
abbrev rY:AC:=top 27
abbrev Pk:AC:=top 26
abbrev Pn:AC:=top 47
abbrev Fg:AC:=top 46
abbrev tW:AC:=top 59
abbrev s_law:AC:=top 60
def BW:Ev->Y Ap:=(aF (aF (B8 2 (b2 kJ (b2 eY (b2 DP (gv 2) (cB (.int 69621))) (gv 3)) (cB (.int 2147483647)))) dN) (iH [3]))
def xq:Ev->Y Ap:=(aF (yF (Bk Y8 (gv 1) (dh qK (aq (gv 0) aG))) (aF (dw (b2 fH (gv 0) (gv 1))) dN) dN) (aF (B8 2 (b2 kJ (b2 DP (cB (.int 48271)) (b2 eY (b2 eY (b2 DP (gv 1) (gv 1)) (b2 DP (cB (.int 7)) (gv 1))) (cB (.int 11)))) (cB (.int 2147483647)))) (aF (sZ (DB (DX (gv 0) ji (lG (cB (.int 3))))) (iW 3) BW) (aF (dw (gv 2)) dN))))
def rZ:O Bx->Y Bx:=cu 4 xq
def pB:Ev->Y Ap:=(aF (aF (B8 3 (b2 kJ (b2 eY (b2 eY (b2 DP (gv 3) (b2 eY (b2 kJ (gv 3) (cB (.int 65521))) (cB (.int 40487)))) (b2 DP (cB (.int 7)) (gv 5))) (cB (.int 5))) (cB (.int 1999999973)))) (aF (MJ 2 (b2 fH (dh vX (aq (gv 3) (aq (b2 kJ (gv 4) (cB (.int 1000000))) aG))) (dh GH (aq (b2 HH (gv 4) (cB (.int 0))) aG)))) (aF (B8 4 (b2 qm (gv 4) (cB (.int 1000000)))) dN))) (iH [5]))
def pL:Ev->Y Ap:=(aF (B8 2 (dh vX aG)) (aF (B8 3 (b2 kJ (b2 DP (b2 eY (b2 kJ (gv 0) (cB (.int 1999999973))) (cB (.int 31))) (cB (.int 765432101))) (cB (.int 1999999973)))) (aF (B8 4 (cB (.int 0))) (aF (yF (D5 (Bk Y8 (gv 0) (cB (.int 0))) (Bk FM (gv 0) (b2 MZ (cB (.int 10)) (cB (.int 18))))) (aF (aF (B8 4 (dh GB (aq (gv 0) aG))) dN) (iH [])) (aF dN (iH []))) (aF (sZ (Uh (aq (gv 1) aG)) (iW 5) pB) (aF (Qp 2) dN))))))
def lO:O Bx->Y Bx:=cu 6 pL
def zJ:Ev->Y Ap:=(aF (aF (B8 4 (b2 fH (gv 0) (b2 eY (cB (.int 1)) (gv 3)))) (aF (HP 5 6 (aq (b2 fH (gv 1) (b2 kJ (gv 4) (cB (.int 5)))) (aq (b2 fH (gv 1) (b2 kJ (b2 eY (b2 eY (gv 4) (cB (.int 1))) (b2 kJ (b2 qm (gv 4) (cB (.int 5))) (cB (.int 4)))) (cB (.int 5)))) aG))) (aF (B8 7 (b2 fH (dh vX (aq (b1 tL (b2 eY (cB (.int 1)) (b2 kJ (b2 qm (gv 4) (cB (.int 300))) (cB (.int 3))))) (aq (b1 tL (b2 eY (cB (.int 1)) (b2 kJ (b2 qm (gv 4) (cB (.int 300))) (cB (.int 1000))))) aG))) (b2 kJ (b2 qm (gv 4) (cB (.int 7))) (cB (.int 2))))) (aF (B8 8 (b2 kJ (b2 qm (gv 4) (cB (.int 20))) (cB (.int 5)))) (aF (yF (Bk C8 (gv 8) (cB (.int 0))) (aF (aF (MJ 2 (dh mC (aq (cB (.str "never")) (aq (gv 5) aG)))) dN) (iH [])) (aF (aF (yF (Bk C8 (gv 8) (cB (.int 1))) (aF (aF (MJ 2 (dh mC (aq (cB (.str "begin")) (aq (gv 5) (aq (b1 tL (b2 eY (cB (.int 1)) (b2 kJ (b2 qm (gv 4) (cB (.int 100))) (cB (.int 3))))) (aq (gv 7) aG)))))) dN) (iH [])) (aF (aF (yF (Bk C8 (gv 8) (cB (.int 2))) (aF (aF (MJ 2 (dh mC (aq (cB (.str "both")) (aq (gv 5) (aq (gv 6) (aq (gv 7) aG)))))) dN) (iH [])) (aF (aF (MJ 2 (dh mC (aq (cB (.str "same")) (aq (gv 5) (aq (gv 7) aG))))) dN) (iH []))) dN) (iH []))) dN) (iH []))) dN))))) (iH [3,4,5,6,7,8]))
def tX:Ev->Y Ap:=(aF (B8 1 (dh vX (aq (cB (.str "day")) (aq (cB (.str "name")) (aq (cB (.str "names")) (aq (cB (.str "p")) (aq (cB (.str "zzz")) aG))))))) (aF (B8 2 (dh vX aG)) (aF (sZ (Uh (aq (b2 eY (cB (.int 1)) (b2 kJ (b2 fH (gv 0) (cB (.int 0))) (cB (.int 4)))) aG)) (iW 3) zJ) (aF (dw (dh g8 (aq (gv 2) aG))) dN))))
def qu:O Bx->Y Bx:=cu 9 tX
def su:Ev->Y Ap:=(aF (aF (B8 7 (b2 fH (gv 2) (b2 kJ (b2 eY (gv 6) (b2 fH (gv 0) (cB (.int 2)))) (cB (.int 15))))) (aF (B8 8 (b2 eY (b2 eY (DX (gv 3) ji (lG (gv 4))) (gv 7)) (DX (gv 3) (lG (gv 4)) ji))) (aF (yF (Bk C8 (b2 kJ (b2 fH (gv 0) (cB (.int 3))) (cB (.int 3))) (cB (.int 1))) (aF (aF (B8 8 (b2 DP (b2 fH (gv 2) (b2 qm (gv 6) (cB (.int 8)))) (b2 eY (cB (.int 1)) (b2 kJ (gv 6) (cB (.int 8)))))) dN) (iH [])) (aF dN (iH []))) (aF (MJ 5 (gv 8)) dN)))) (iH [6,7,8]))
def uc:Ev->Y Ap:=(aF (B8 2 (cB (.str "abcdefghijklmnopqrstuvwxyz"))) (aF (B8 3 (b1 (JX "") (dX (Uh (aq (b2 kJ (b2 fH (gv 0) (cB (.int 0))) (cB (.int 6))) aG)) (iW 2) lJ (b2 fH (gv 0) (b2 kJ (b2 qm (b2 fH (gv 1) (gv 2)) (cB (.int 40))) (cB (.int 26)))) [2,0] 1))) (aF (B8 4 (b2 kJ (b2 fH (gv 0) (cB (.int 1))) (b2 eY (dh qK (aq (gv 3) aG)) (cB (.int 1))))) (aF (B8 5 (dh vX aG)) (aF (sZ (Uh (aq (gv 1) aG)) (iW 6) su) (aF (Qp 5) dN))))))
def ud:O Bx->Y Bx:=cu 9 uc
def BX:Ev->Y Ap:=(aF (aF (B8 1 (b2 eY (gv 1) (b2 fH (cB (.str "ab1")) (b2 kJ (b2 qm (b2 qm (gv 0) (cB (.int 16))) (b2 fH (dh vX (aq (cB (.int 1)) (aq (cB (.int 3)) (aq (cB (.int 9)) (aq (cB (.int 27)) aG))))) (gv 2))) (cB (.int 3)))))) dN) (iH [2]))
def xu:Ev->Y Ap:=(aF (yF (Bk C8 (b2 kJ (gv 0) (cB (.int 4))) (cB (.int 0))) (aF (dw (b2 fH (dh vX (aq (cB (.str "a")) (aq (cB (.str "ab")) (aq (cB (.str "abc")) (aq (cB (.str "b")) (aq (cB (.str "1")) (aq (cB (.str "12")) (aq (cB (.str "a1")) aG)))))))) (b2 kJ (b2 qm (gv 0) (cB (.int 4))) (cB (.int 7))))) dN) dN) (aF (B8 1 (cB (.str ""))) (aF (sZ (Uh (aq (b2 eY (cB (.int 1)) (b2 kJ (b2 qm (gv 0) (cB (.int 4))) (cB (.int 4)))) aG)) (iW 2) BX) (aF (dw (gv 1)) dN))))
def xG:O Bx->Y Bx:=cu 3 xu
def Fi:Ev->Y Ap:=(aF (aF (yF (Bk HH (b2 kJ (b2 fH (gv 1) (gv 4)) (cB (.int 4))) (cB (.int 0))) (aF (aF (MJ 3 (dh mC (aq (b2 fH (gv 2) (gv 4)) (aq (b1 tL (aV 1 xG (aq (b2 qm (b2 fH (gv 1) (gv 4)) (cB (.int 4))) aG))) aG)))) dN) (iH [])) (aF dN (iH []))) dN) (iH [4]))
def Ai:Ev->Y Ap:=(aF (B8 2 (dh vX (aq (cB (.str "day")) (aq (cB (.str "name")) (aq (b1 tL (b2 eY (cB (.str "name")) (cB (.str "s")))) (aq (cB (.str "p")) aG)))))) (aF (B8 3 (dh vX aG)) (aF (sZ (Uh (aq (cB (.int 4)) aG)) (iW 4) Fi) (aF (dw (dh mC (aq (gv 0) (aq (dh g8 (aq (gv 3) aG)) aG)))) dN))))
def Aj:O Bx->Y Bx:=cu 5 Ai
def uf:Ev->Y Ap:=(aF (B8 1 (aV 2 lO (aq (b1 tL (aV 2 rZ (aq (gv 0) (aq (cB (.int 0)) aG)))) (aq (cB (.int 20)) aG)))) (aF (B8 2 (dh mC (aq (b1 tL (aV 1 qu (aq (gv 1) aG))) (aq (b1 tL (DX (aV 1 qu (aq (b1 tL (DX (gv 1) (lG (cB (.int 5))) ji)) aG)) ji (lG (cB (.int 2))))) aG)))) (aF (B8 3 (aV 2 ud (aq (b1 tL (DX (gv 1) (lG (cB (.int 10))) ji)) (aq (b2 kJ (b2 fH (gv 1) (cB (.int 16))) (cB (.int 7))) aG)))) (aF (B8 4 (dX (Uh (aq (dh qK (aq (gv 3) aG)) aG)) (iW 2) lJ (b1 tL (aV 2 Aj (aq (b2 fH (gv 0) (gv 2)) (aq (b1 tL (aV 2 lO (aq (b1 tL (aV 2 rZ (aq (gv 1) (aq (b1 tL (b2 eY (cB (.int 1)) (gv 2))) aG)))) (aq (cB (.int 4)) aG)))) aG)))) [3,0] 1)) (aF (B8 5 (b2 kJ (b2 fH (gv 1) (cB (.int 17))) (dh GT (aq (cB (.int 1)) (aq (dh qK (aq (gv 4) aG)) aG))))) (aF (dw (dh mC (aq (gv 2) (aq (dh g8 (aq (b2 eY (DX (gv 4) (lG (gv 5)) ji) (DX (gv 4) ji (lG (gv 5)))) aG)) (aq (b2 kJ (b2 fH (gv 1) (cB (.int 18))) (b2 eY (dh qK (aq (gv 4) aG)) (cB (.int 1)))) aG))))) dN))))))
def ug:O Bx->Y Bx:=cu 6 uf
def Fj:Ev->Y Ap:=(aF (aF (yF (Bk C8 (gv 2) (gv 1)) (aF (dw (gv 3)) dN) dN) dN) (iH [2,3]))
def Ak:Ev->Y Ap:=(aF (sZ (DB (b2 fH (gv 0) (cB (.int 1)))) (nD 2 (bZ (iW 2) (bZ (iW 3) qj))) Fj) (aF (dw (cB .non)) dN))
def iM:O Bx->Y Bx:=cu 4 Ak
def uh:Ev->Y Ap:=(aF (B8 3 (aV 2 iM (aq (gv 0) (aq (gv 2) aG)))) (aF (dw (jy (b2 JR (gv 3) (cB .non)) (b2 C8 (gv 3) (aV 2 iM (aq (gv 1) (aq (gv 2) aG)))))) dN))
def mV:O Bx->Y Bx:=cu 4 uh
def pN:Ev->Y Ap:=(aF (B8 4 (aV 2 iM (aq (gv 0) (aq (gv 2) aG)))) (aF (B8 5 (aV 2 iM (aq (gv 1) (aq (gv 2) aG)))) (aF (yF (D5 (Bk EU (gv 4) (cB .non)) (Bk EU (gv 5) (cB .non))) (aF (dw (cB (.bl false))) dN) dN) (aF (dw (jy (b2 FM (dh qK (aq (gv 4) aG)) (gv 3)) (jy (b2 FM (dh qK (aq (gv 5) aG)) (gv 3)) (b2 C8 (DX (gv 4) ji (lG (gv 3))) (DX (gv 5) ji (lG (gv 3))))))) dN))))
def pO:O Bx->Y Bx:=cu 6 pN
def qN:Ev->Y Ap:=(aF (B8 3 (aV 2 iM (aq (gv 0) (aq (gv 2) aG)))) (aF (B8 4 (aV 2 iM (aq (gv 1) (aq (gv 2) aG)))) (aF (dw (jy (b2 JR (gv 3) (cB .non)) (jy (b2 JR (gv 4) (cB .non)) (b2 Wy (gv 3) (gv 4))))) dN)))
def qO:O Bx->Y Bx:=cu 5 qN
def Jo:Ev->Y Ap:=(aF (yF (Bk C8 (b2 fH (gv 0) (cB (.int 0))) (cB (.str "same"))) (aF (dw (aV 3 mV (aq (gv 1) (aq (gv 2) (aq (b2 fH (gv 0) (cB (.int 1))) aG))))) dN) dN) (aF (yF (Bk C8 (b2 fH (gv 0) (cB (.int 0))) (cB (.str "begin"))) (aF (dw (aV 4 pO (aq (gv 1) (aq (gv 2) (aq (b2 fH (gv 0) (cB (.int 1))) (aq (b2 fH (gv 0) (cB (.int 2))) aG)))))) dN) dN) (aF (yF (Bk C8 (b2 fH (gv 0) (cB (.int 0))) (cB (.str "both"))) (aF (dw (jy (aV 3 mV (aq (gv 1) (aq (gv 2) (aq (b2 fH (gv 0) (cB (.int 1))) aG)))) (aV 3 mV (aq (gv 1) (aq (gv 2) (aq (b2 fH (gv 0) (cB (.int 2))) aG)))))) dN) dN) (aF (dw (aV 3 qO (aq (gv 1) (aq (gv 2) (aq (b2 fH (gv 0) (cB (.int 1))) aG))))) dN))))
def Jp:O Bx->Y Bx:=cu 3 Jo
def Al:Ev->Y Ap:=(aF (dw (Ri (LM (aq (gv 0) aG)) (nD 2 (bZ (iW 2) (bZ (iW 3) qj))) lJ (E8 (DB (DX (gv 0) (lG (b2 eY (gv 2) (cB (.int 1)))) ji)) (iW 4) lJ (E8 (Lu (aq (gv 1) aG)) (nD 2 (bZ (iW 5) (bZ (iW 6) qj))) (tV (aV 3 Jp (aq (gv 6) (aq (gv 3) (aq (gv 4) aG))))) (GM (dh mC (aq (gv 6) (aq (dh mC (aq (b2 fH (gv 3) (cB (.int 0))) (aq (b2 fH (gv 4) (cB (.int 0))) (aq (gv 5) aG)))) aG)))))) [0,1] 5)) dN)
def Am:O Bx->Y Bx:=cu 2 Al
def xH:Ev->Y Ap:=(aF (MF (nD 4 (bZ (iW 1) (bZ (iW 2) (bZ (iW 3) (bZ (iW 4) qj))))) (gv 0)) (aF (dw (dh mC (aq (b1 FG (gv 1)) (aq (gv 2) (aq (gv 3) (aq (gv 4) aG)))))) dN))
def pC:O Bx->Y Bx:=cu 5 xH
def xJ:Ev->Y Ap:=(aF (dw (vJ HA (gv 0) λ_ d=>pC [.z d])) dN)
def jV:O Bx->Y Bx:=cu 1 xJ
def um:Ev->Y Ap:=(aF (B8 2 (vJ EN (gv 0) λρ d=>(b2 fH (gv 0) (cB (.int 0))) (Z (.z d)::lH [] ρ))) (aF (B8 3 (aV 2 Am (aq (gv 2) (aq (gv 1) aG)))) (aF (B8 4 (dX (z8 (gv 3)) (nD 2 (bZ (iW 0) (bZ (iW 1) qj))) (Bk Wy (b2 fH (gv 0) (cB (.int 0))) (cB (.str "never"))) (b1 tL (b2 eY (dh mC (aq (b2 fH (gv 0) (b1 FG (cB (.int 1)))) aG)) (gv 1))) [] 2)) (aF (B8 5 (dX (z8 (gv 3)) (nD 2 (bZ (iW 0) (bZ (iW 1) qj))) (Bk C8 (b2 fH (gv 0) (cB (.int 0))) (cB (.str "never"))) (gv 1) [] 2)) (aF (dw (dh mC (aq (dh g8 (aq (dX (z8 (gv 2)) (iW 0) lJ (b2 fH (gv 0) (cB (.int 0))) [] 1) aG)) (aq (dh g8 (aq (aV 1 jV (aq (gv 4) aG)) aG)) (aq (dh g8 (aq (dh Cz (aq (gv 5) aG)) aG)) aG))))) dN)))))
def cU:O Bx->Y Bx:=cu 6 um
def xK:Ev->Y Ap:=(aF (dw (jy (yW As (gv 0)) (b2 C8 (dh qK (aq (gv 0) aG)) (gv 1)))) dN)
def ig:O Bx->Y Bx:=cu 2 xK
def qP:Ev->Y Ap:=(aF (dw (jy (yW gB (gv 0)) (jy (DZ DT DT (cB (.int 1)) (dh qK (aq (gv 0) aG)) (gv 2)) (dh Bi (aq (dX (z8 (gv 0)) (iW 1) lJ (b2 inF (gv 1) (gv 0)) [1] 1) aG))))) dN)
def qQ:O Bx->Y Bx:=cu 3 qP
def Ao:Ev->Y Ap:=(aF (dw (aV 3 qQ (aq (gv 0) (aq (cB (.str "abcdefghijklmnopqrstuvwxyz")) (aq (cB (.int 8)) aG))))) dN)
def dU:O Bx->Y Bx:=cu 1 Ao
def gM:Ev->Y Ap:=(aF (dw (dh Bi (aq (dX (Uh (aq (b2 F6 (dh qK (aq (gv 0) aG)) (cB (.int 1))) aG)) (iW 1) lJ (b2 (GU Y8 Xm) (b2 fH (gv 0) (gv 1)) (b2 fH (gv 0) (b2 eY (gv 1) (cB (.int 1))))) [0] 1) aG))) dN)
def eH:O Bx->Y Bx:=cu 1 gM
def uo:Ev->Y Ap:=(aF (dw (jy (yW As (gv 0)) (jy (dh Bi (aq (dX (z8 (gv 0)) (iW 0) lJ (b1 tL (aV 1 dU (aq (gv 0) aG))) [] 1) aG)) (aV 1 eH (aq (gv 0) aG))))) dN)
def uq:O Bx->Y Bx:=cu 1 uo
def xM:Ev->Y Ap:=(aF (dw (jy (yW Gm (gv 0)) (HL (yW BU (gv 0))))) dN)
def jW:O Bx->Y Bx:=cu 1 xM
def ur:Ev->Y Ap:=(aF (dw (jy (aV 1 jW (aq (gv 0) aG)) (DZ DT DT (cB (.int 1)) (gv 0) (cB (.int 1000))))) dN)
def iZ:O Bx->Y Bx:=cu 1 ur
def Fl:Ev->Y Ap:=(aF (yF (Bj (tV (aV 2 ig (aq (gv 0) (aq (cB (.int 3)) aG))))) (aF (dw (cB (.bl false))) dN) dN) (aF (MF (nD 3 (bZ (iW 1) (bZ (iW 2) (bZ (iW 3) qj)))) (gv 0)) (aF (dw (jy (aV 1 dU (aq (gv 1) aG)) (jy (aV 1 dU (aq (gv 2) aG)) (jy (b2 Y8 (gv 1) (gv 2)) (jy (aV 1 jW (aq (gv 3) aG)) (b2 FM (gv 3) (cB (.int 0)))))))) dN)))
def wB:O Bx->Y Bx:=cu 4 Fl
def uw:Ev->Y Ap:=(aF (dw (jy (aV 2 ig (aq (gv 0) (aq (cB (.int 4)) aG))) (jy (aV 1 iZ (aq (b2 fH (gv 0) (cB (.int 0))) aG)) (aV 1 wB (aq (b1 tL (DX (gv 0) (lG (cB (.int 1))) ji)) aG))))) dN)
def ux:O Bx->Y Bx:=cu 1 uw
def pP:Ev->Y Ap:=(aF (yF (D5 (Bj (tV (yW As (gv 0)))) (Bj (tV (dh Bi (aq (dX (z8 (gv 0)) (iW 0) lJ (b1 tL (aV 1 ux (aq (gv 0) aG))) [] 1) aG))))) (aF (dw (cB (.bl false))) dN) dN) (aF (yF (Bj (tV (dh Bi (aq (dX (z8 (gv 0)) (iW 1) lJ (jy (b2 inF (b2 fH (gv 1) (cB (.int 1))) (gv 0)) (b2 inF (b2 fH (gv 1) (cB (.int 2))) (gv 0))) [1] 1) aG)))) (aF (dw (cB (.bl false))) dN) dN) (aF (dw (aV 1 eH (aq (b1 tL (dX (z8 (gv 0)) (iW 0) lJ (b1 tL (aV 1 pC (aq (gv 0) aG))) [] 1)) aG))) dN)))
def pQ:O Bx->Y Bx:=cu 2 pP
def xO:Ev->Y Ap:=(aF (yF (D5 (Bj (tV (yW As (gv 0)))) (Bj (tV (dh Bi (aq (dX (z8 (gv 0)) (iW 0) lJ (b1 tL (aV 1 wB (aq (gv 0) aG))) [] 1) aG))))) (aF (dw (cB (.bl false))) dN) dN) (aF (dw (jy (dh Bi (aq (dX (z8 (gv 0)) (iW 1) lJ (jy (b2 inF (b2 fH (gv 1) (cB (.int 0))) (gv 0)) (b2 inF (b2 fH (gv 1) (cB (.int 1))) (gv 0))) [1] 1) aG)) (aV 1 eH (aq (gv 0) aG)))) dN))
def xP:O Bx->Y Bx:=cu 2 xO
def uy:Ev->Y Ap:=(aF (yF (Bj (tV (aV 2 ig (aq (gv 0) (aq (cB (.int 3)) aG))))) (aF (dw (cB (.bl false))) dN) dN) (aF (MF (nD 3 (bZ (iW 1) (bZ (iW 2) (bZ (iW 3) qj)))) (gv 0)) (aF (dw (jy (aV 1 uq (aq (gv 1) aG)) (jy (aV 2 pQ (aq (gv 2) (aq (gv 1) aG))) (aV 2 xP (aq (gv 3) (aq (gv 1) aG)))))) dN)))
def uD:O Bx->Y Bx:=cu 4 uy
def uE:Ev->Y Ap:=(aF (aF (MF (nD 3 (bZ (iW 6) (bZ (iW 7) (bZ (iW 8) qj)))) (aV 2 cU (aq (dh mC (aq (b2 fH (gv 0) (gv 4)) (aq (b2 fH (gv 0) (gv 5)) aG))) (aq (gv 1) aG)))) (aF (HC 2 (gv 7)) (aF (HC 3 (gv 8)) dN))) (iH [5,6,7,8]))
def uF:Ev->Y Ap:=(aF (aF (sZ (Uh (aq (gv 4) aG)) (iW 5) uE) dN) (iH [4,5,6,7,8]))
def nM:Ev->Y Ap:=(aF (ZG 2 3 (dh vX aG) (dh vX aG)) (aF (sZ (Uh (aq (dh qK (aq (gv 0) aG)) aG)) (iW 4) uF) (aF (dw (dh mC (aq (dh g8 (aq (dh Uj (aq (dX (z8 (gv 0)) (iW 0) lJ (b2 fH (gv 0) (cB (.int 0))) [] 1) aG)) aG)) (aq (dh g8 (aq (aV 1 jV (aq (gv 2) aG)) aG)) (aq (dh g8 (aq (dh Cz (aq (gv 3) aG)) aG)) aG))))) dN)))
def nO:O Bx->Y Bx:=cu 9 nM
def MT:Ev->Y B5:=NA (z8 (gv 0)) (iW 0) lJ (b2 fH (gv 0) (cB (.int 0))) [] 1
def IQ:Ev->Y Ap:=λρ=>(GI 2 3 MT (DB (gv 1)) (b2 fH (gv 3) (cB (.int 0))) (λ_=>Y3) ρ).bind λr=>match r with
 |.inl a=>aF (dw (b2 eY (gv 0) (gv 1))) dN a
 |.inr _=>Y3
def iQ:O Bx->Y Bx:=cu 4 IQ
def nQ:Ev->Y Ap:=(aF (yF (D5 (Bj (tV (aV 1 dU (aq (gv 1) aG)))) (Bk Ub (gv 1) (dX (z8 (gv 0)) (iW 0) lJ (b2 fH (gv 0) (cB (.int 0))) [] 1))) (aF GG dN) dN) (aF (dw (dh g8 (aq (dX (z8 (gv 0)) (iW 1) (Bk Wy (b2 fH (gv 1) (cB (.int 0))) (gv 0)) (gv 1) [1] 1) aG))) dN))
def nR:O Bx->Y Bx:=cu 2 nQ
def pR:Ev->Y Ap:=(aF (MF (nD 3 (bZ (iW 2) (bZ (iW 3) (bZ (iW 4) qj)))) (gv 0)) (aF (B8 5 (dX (z8 (gv 3)) (iW 1) (Bk Ub (gv 0) (DX (gv 1) (lG (cB (.int 1))) (lG (cB (.int 3))))) (gv 1) [1] 1)) (aF (B8 6 (dX (z8 (gv 4)) (iW 1) (Bk Ub (gv 0) (DX (gv 1) ji (lG (cB (.int 2))))) (gv 1) [1] 1)) (aF (dw (dh mC (aq (dh g8 (aq (dX (z8 (gv 2)) (iW 1) (Bk Wy (gv 1) (gv 0)) (gv 1) [1] 1) aG)) (aq (dh g8 (aq (gv 5) aG)) (aq (dh g8 (aq (gv 6) aG)) aG))))) dN))))
def pU:O Bx->Y Bx:=cu 7 pR
def uG:Ev->Y Ap:=(aF (dw (b1 (JX " ") (dX (z8 (gv 0)) (iW 0) lJ (b1 tL (dh IH (aq (gv 0) aG))) [] 1))) dN)
def uH:O Bx->Y Bx:=cu 1 uG
def qR:Ev->Y Ap:=(aF (dw (b1 (JX "\n") (dX (z8 (gv 0)) (iW 0) lJ (b1 tL (aV 1 uH (aq (gv 0) aG))) [] 1))) dN)
def qT:O Bx->Y Bx:=cu 1 qR
def xQ:Ev->Y Ap:=(aF (yF (Bj (tV (yW gB (gv 0)))) (aF GG dN) dN) (aF (dw (FR (tV (gv 0)) (b2 FD (gv 0) (cB (.str "\n"))) (dh vX aG))) dN))
def xR:O Bx->Y Bx:=cu 1 xQ
def uI:Ev->Y Ap:=(aF (yF (D5 (Bj (Lc DT DT (cB (.int 1)) (dh qK (aq (gv 0) aG)) (cB (.int 6)))) (Bj (tV (dh Bi (aq (dX (z8 (gv 0)) (iW 0) lJ (b2 inF (gv 0) (cB (.str "0123456789"))) [] 1) aG))))) (aF (dw (cB .non)) dN) dN) (aF (yF (GE (Bk C8 (b2 fH (gv 0) (cB (.int 0))) (cB (.str "0"))) (Bk Wy (gv 0) (cB (.str "0")))) (aF (dw (cB .non)) dN) dN) (aF (dw (b1 tL (dh Vc (aq (gv 0) aG)))) dN)))
def uJ:O Bx->Y Bx:=cu 1 uI
def Aq:Ev->Y Ap:=(aF (B8 1 (aV 1 uJ (aq (gv 0) aG))) (aF (dw (FR (Bk EU (gv 1) (cB .non)) (gv 0) (gv 1))) dN))
def Ar:O Bx->Y Bx:=cu 2 Aq
def uK:Ev->Y Ap:=(aF (dw (jy (aV 2 ig (aq (gv 0) (aq (gv 2) aG))) (jy (yW gB (b2 fH (gv 0) (cB (.int 0)))) (b2 C8 (b2 fH (gv 0) (cB (.int 0))) (gv 1))))) dN)
def jX:O Bx->Y Bx:=cu 3 uK
def nT:Ev->Y Ap:=(aF (dw (jy (aV 1 jW (aq (gv 0) aG)) (DZ DT DT (cB (.int 1)) (gv 0) (cB (.int 12))))) dN)
def nU:O Bx->Y Bx:=cu 1 nT
def jl:Ev->Y Ap:=(aF (dw (jy (aV 1 dU (aq (gv 0) aG)) (jy (aV 1 dU (aq (gv 1) aG)) (b2 Wy (gv 0) (gv 1))))) dN)
def jm:O Bx->Y Bx:=cu 2 jl
def Av:Ev->Y Ap:=(aF (yF (tV (aV 3 jX (aq (gv 0) (aq (cB (.str "same")) (aq (cB (.int 3)) aG))))) (aF (dw (jy (aV 1 dU (aq (b2 fH (gv 0) (cB (.int 1))) aG)) (aV 1 iZ (aq (b2 fH (gv 0) (cB (.int 2))) aG)))) dN) dN) (aF (yF (tV (aV 3 jX (aq (gv 0) (aq (cB (.str "begin")) (aq (cB (.int 4)) aG))))) (aF (dw (jy (aV 1 dU (aq (b2 fH (gv 0) (cB (.int 1))) aG)) (jy (aV 1 nU (aq (b2 fH (gv 0) (cB (.int 2))) aG)) (aV 1 iZ (aq (b2 fH (gv 0) (cB (.int 3))) aG))))) dN) dN) (aF (yF (tV (aV 3 jX (aq (gv 0) (aq (cB (.str "both")) (aq (cB (.int 4)) aG))))) (aF (dw (jy (aV 2 jm (aq (b2 fH (gv 0) (cB (.int 1))) (aq (b2 fH (gv 0) (cB (.int 2))) aG))) (aV 1 iZ (aq (b2 fH (gv 0) (cB (.int 3))) aG)))) dN) dN) (aF (dw (jy (aV 3 jX (aq (gv 0) (aq (cB (.str "never")) (aq (cB (.int 2)) aG)))) (aV 1 dU (aq (b2 fH (gv 0) (cB (.int 1))) aG)))) dN))))
def Aw:O Bx->Y Bx:=cu 1 Av
def Ax:Ev->Y Ap:=(aF (B8 1 (dh g8 (aq (dX (z8 (b2 FD (gv 0) (cB (.str " ")))) (iW 0) lJ (b1 tL (aV 1 Ar (aq (gv 0) aG))) [] 1) aG))) (aF (dw (b1 tL (FR (tV (aV 1 Aw (aq (gv 1) aG))) (gv 1) (cB .non)))) dN))
def Ay:O Bx->Y Bx:=cu 2 Ax
def yD:Ev->Y Ap:=(aF (aF (B8 4 (aV 1 Ay (aq (gv 3) aG))) (aF (yF (Bk EU (gv 4) (cB .non)) (aF GG dN) dN) (aF (MJ 1 (gv 4)) dN))) (iH [2,3,4]))
def qU:Ev->Y Ap:=(aF (B8 1 (dh vX aG)) (aF (sZ (Ix (aq (b1 tL (aV 1 xR (aq (gv 0) aG))) aG)) (nD 2 (bZ (iW 2) (bZ (iW 3) qj))) yD) (aF (dw (dh g8 (aq (gv 1) aG))) dN)))
def qW:O Bx->Y Bx:=cu 5 qU
def jM:Ev->Y Ap:=(aF (MF (nD 3 (bZ (iW 3) (bZ (iW 4) (bZ (iW 5) qj)))) (aV 2 cU (aq (gv 0) (aq (gv 1) aG)))) (aF (B8 6 (aV 2 cU (aq (gv 0) (aq (gv 2) aG)))) (aF (B8 7 (dX (z8 (b2 fH (gv 6) (cB (.int 1)))) (iW 1) lJ (b1 tL (b2 eY (DX (gv 1) ji (lG (cB (.int 3)))) (dh mC (aq (b1 tL (b2 eY (b2 fH (gv 1) (cB (.int 3))) (dh qK (aq (gv 0) aG)))) aG)))) [1] 1)) (aF (B8 8 (dX (z8 (b2 fH (gv 6) (cB (.int 2)))) (iW 1) lJ (b1 tL (b2 eY (DX (gv 1) ji (lG (cB (.int 2)))) (dh mC (aq (b1 tL (b2 eY (b2 fH (gv 1) (cB (.int 2))) (dh qK (aq (gv 0) aG)))) aG)))) [1] 1)) (aF (B8 9 (dh mC (aq (gv 3) (aq (dh g8 (aq (aV 1 jV (aq (b1 tL (b2 eY (dh Oj (aq (gv 4) aG)) (gv 7))) aG)) aG)) (aq (dh g8 (aq (dh Cz (aq (b2 eY (dh Oj (aq (gv 5) aG)) (gv 8)) aG)) aG)) aG))))) (aF (dw (b2 C8 (aV 2 cU (aq (gv 0) (aq (b1 tL (b2 eY (gv 1) (gv 2))) aG))) (gv 9))) dN))))))
def gO:O Bx->Y Bx:=cu 10 jM
def Vl:Ev->Y Ap:=(aF (aF (yF (Bk Wy (aV 2 cU (aq (b1 tL (aV 2 iQ (aq (gv 8) (aq (gv 9) aG)))) (aq (gv 4) aG))) (gv 5)) (aF (dw (cB (.bl false))) dN) dN) (aF (MF (nD 3 (bZ (iW 10) (bZ (iW 11) (bZ (iW 12) qj)))) (aV 2 cU (aq (gv 8) (aq (gv 4) aG)))) (aF (yF (D5 (Bj (tV (dh Bi (aq (dX (z8 (gv 11)) (iW 1) lJ (b2 FO (gv 1) (b2 fH (gv 0) (cB (.int 1)))) [5] 1) aG)))) (Bj (tV (dh Bi (aq (dX (z8 (gv 12)) (iW 1) lJ (b2 FO (gv 1) (b2 fH (gv 0) (cB (.int 2)))) [5] 1) aG))))) (aF (dw (cB (.bl false))) dN) dN) dN))) (iH [8,9,10,11,12]))
def Vm:Ev->Y Ap:=(aF (aF (yF (Bk Wy (aV 2 cU (aq (b1 tL (aV 2 nR (aq (gv 2) (aq (gv 13) aG)))) (aq (gv 4) aG))) (aV 2 pU (aq (gv 5) (aq (gv 13) aG)))) (aF (dw (cB (.bl false))) dN) dN) dN) (iH [13]))
def ZL:Ev->Y Ap:=(aF (MF (nD 3 (bZ (iW 1) (bZ (iW 2) (bZ (iW 3) qj)))) (aV 1 ug (aq (gv 0) aG))) (aF (B8 4 (b2 eY (b2 fH (gv 1) (cB (.int 0))) (b2 fH (gv 1) (cB (.int 1))))) (aF (B8 5 (aV 2 cU (aq (gv 2) (aq (gv 4) aG)))) (aF (HP 6 7 (aq (b1 tL (DX (gv 2) ji (lG (gv 3)))) (aq (b1 tL (DX (gv 2) (lG (gv 3)) ji)) aG))) (aF (yF (D5 (Bk Vb (aV 1 uD (aq (gv 5) aG)) (cB (.bl true))) (Bk Wy (gv 5) (aV 2 nO (aq (gv 2) (aq (gv 4) aG))))) (aF (dw (cB (.bl false))) dN) dN) (aF (sZ (DB (dh vX (aq (dh mC (aq (gv 6) (aq (gv 7) aG))) (aq (dh mC (aq (gv 7) (aq (gv 6) aG))) aG)))) (nD 2 (bZ (iW 8) (bZ (iW 9) qj))) Vl) (aF (sZ (DB (dX (z8 (gv 2)) (iW 0) lJ (b2 fH (gv 0) (cB (.int 0))) [] 1)) (iW 13) Vm) (aF (yF (Bk Wy (aV 2 cU (aq (gv 2) (aq (b1 tL (aV 1 qW (aq (b1 tL (aV 1 qT (aq (gv 4) aG))) aG))) aG))) (gv 5)) (aF (dw (cB (.bl false))) dN) dN) (aF (dw (jy (aV 3 gO (aq (gv 2) (aq (b2 fH (gv 1) (cB (.int 0))) (aq (b2 fH (gv 1) (cB (.int 1))) aG)))) (aV 3 gO (aq (gv 2) (aq (b2 fH (gv 1) (cB (.int 1))) (aq (b2 fH (gv 1) (cB (.int 0))) aG)))))) dN)))))))))
def F_law:O Bx->Y Bx:=cu 14 ZL
end
end G11
end
section
set_option synthInstance.maxSize 100000
namespace G11
open L2 P1
set_option genInjectivity false
set_option genSizeOf false
structure T (K:BA) (mg:Str->Option Value) where
 sE:DQ K mg "_law_cell" Kz ["_law_script","_law_k"]
 lQ:DQ K mg "_law_numbers" BK ["_law_cell_here","_law_many"]
 qw:DQ K mg "_law_rules" Ho ["_law_xs"]
 uL:DQ K mg "_law_names" Hq ["_law_xs","_law_many"]
 xT:DQ K mg "_law_word" KC ["_law_x"]
 Az:DQ K mg "_law_row" Pa ["_law_name","_law_xs"]
 uM:DQ K mg "_law_drawn" Hr ["_law_script"]
 iR:DQ K mg "word_of" Pb ["row","field"]
 mW:DQ K mg "are_alike" Ht ["row","other","field"]
 pW:DQ K mg "begin_alike" BL ["row","other","field","many"]
 qX:DQ K mg "are_unlike" Ey ["row","other","field"]
 Jq:DQ K mg "tells" ZK ["rule","row","other"]
 Ba:DQ K mg "told_of" Pg ["rows","rules"]
 mJ:DQ K mg "place_of" KD ["reason"]
 jY:DQ K mg "in_order" KH ["reasons"]
 cV:DQ K mg "ground_of" Hu ["book","rules"]
 iu:DQ K mg "is_tuple" KJ ["thing","many"]
 qY:DQ K mg "is_text_of" Ez ["thing","signs","longest"]
 dW:DQ K mg "is_name" Ph ["thing"]
 gP:DQ K mg "are_rising" EY ["things"]
 uN:DQ K mg "are_names" Hv ["thing"]
 jZ:DQ K mg "is_whole" KN ["thing"]
 jc:DQ K mg "is_weight" Hw ["thing"]
 wC:DQ K mg "is_bar" Vk ["thing"]
 uO:DQ K mg "is_reason" Hx ["thing"]
 pZ:DQ K mg "are_reasons" BP ["thing","names"]
 xU:DQ K mg "are_bars" KQ ["thing","names"]
 uP:DQ K mg "is_ground" Hy ["thing"]
 nW:DQ K mg "_law_of_pairs" zF ["_law_book","_law_rules_here"]
 kW:DQ K mg "books_together" wA ["book","other"]
 nY:DQ K mg "book_without" zG ["book","name"]
 p7:DQ K mg "_law_without" BR ["_law_ground","_law_name"]
 uQ:DQ K mg "show_rule" Hz ["rule"]
 qZ:DQ K mg "show_rules" Fe ["rules"]
 xV:DQ K mg "lines_in" KR ["text"]
 uR:DQ K mg "number_in" HB ["text"]
 Bb:DQ K mg "part_in" Pj ["word"]
 j4:DQ K mg "is_worded" HD ["thing","word","many"]
 nZ:DQ K mg "is_beginning" zH ["thing"]
 jo:DQ K mg "are_unlike_names" rY ["one","other"]
 Bc:DQ K mg "is_rule" Pk ["thing"]
 Bd:DQ K mg "rule_in" Pn ["line"]
 q8:DQ K mg "read_rules" Fg ["text"]
 gQ:DQ K mg "_law_rules_right" tW ["_law_book","_law_first","_law_second"]
 x_law:DQ K mg "law" s_law ["_law_script"]
 amq:mg "abs"=none
 BZ:mg "all"=none
 aj9:mg "bool"=none
 zK:mg "enumerate"=none
 aea:mg "int"=none
 fV:mg "isinstance"=none
 uT:mg "len"=none
 aeb:mg "list"=none
 amr:mg "max"=none
 p8:mg "range"=none
 wD:mg "sorted"=none
 ZM:mg "str"=none
 eV:mg "tuple"=none
 aa5:∃tk,mg "FIGURES"=some (.str "0123456789" tk)
 aa6:∃tk,mg "LETTERS"=some (.str "abcdefghijklmnopqrstuvwxyz" tk)
 KY:∃tk,mg "LONGEST_NAME"=some (.int 8 tk)
 KZ:∃tk,mg "MOST_FIGURES"=some (.int 6 tk)
 Rm:∃tk,mg "MOST_SIGNS"=some (.int 12 tk)
 MP:∃tk,mg "MOST_WEIGHT"=some (.int 1000 tk)
 M5:LH K cV.fd "ground_of.<locals>.<lambda>"=true
section
variable(t:T K mg)
theorem Vn:aW ["_law_script","_law_k","_law_state","_law_cell_here"] ["_law_script","_law_k"] (aJ Kz):=gC
theorem Vo:Ok P w base t.sE 1 2 rZ:=vI (g:=xq) t.sE Vn λ_ _ _ _ _ _ b c a=>(aA (fZ (dG Qy (ak 1) (bQ nH Y2 t.uT nG (aj (ak 0) au)) (bV _)) (aA (aY (bw (ak 0) (ak 1))) aH) aH) (aA (bY 2 a (aU dM (aU yU aD (aU cL (aU cL (aU yU (ak 1) (ak 1)) (aU yU aD (ak 1))) aD)) aD)) (aA (qH PassesOwn.never Y2 (z6 (oZ (ak 0) eZ (dR aD))) (aK 3 a) (cN [3] (aA (bY 2 a (aU dM (aU cL (aU yU (ak 2) aD) (ak 3)) aD)) aH))) (aA (aY (ak 2)) aH))))
theorem K1:aW ["_law_cell_here","_law_many","_law_found","_law_state","_law_digits","_law_k"] ["_law_cell_here","_law_many"] (aJ BK):=gC
theorem K3:Ok P w base t.lQ 1 2 lO:=vI (g:=pL) t.lQ K1 λ_ _ _ _ _ _ b c a=>(aA (bY 2 a (mD au)) (aA (bY 3 a (aU dM (aU yU (aU cL (aU dM (ak 0) aD) aD) aD) aD)) (aA (bY 4 a aD) (aA (fZ (Qm (yM (dG Qy (ak 0) aD (bV _)) (tK (dG Y4 (ak 0) (aU iO aD aD) (bV _))))) (cN [] (aA (bY 4 a (bQ Wl Y2 t.amq wT (aj (ak 0) au))) aH)) (cN [] aH)) (aA (qH PassesOwn.never Y2 (lM Y2 t.p8 (aj (ak 1) au)) (aK 5 a) (cN [5] (aA (bY 3 a (aU dM (aU cL (aU cL (aU yU (ak 3) (aU cL (aU dM (ak 3) aD) aD)) (aU yU aD (ak 5))) aD) aD)) (aA (yO 2 (bw (mD (aj (ak 3) (aj (aU dM (ak 4) aD) au))) (cD T' Y2 t.aea W8 (aj (fU Nl (ak 4) aD (bV _)) au)))) (aA (bY 4 a (aU jH (ak 4) aD)) aH))))) (aA (YS 2) aH))))))
theorem Ro:aW ["_law_xs","_law_fields","_law_found","_law_k","_law_y","_law_one","_law_other","_law_weight","_law_way"] ["_law_xs"] (aJ Ho):=gC
theorem Rp:Ok P w base t.qw 1 1 qu:=vI (g:=tX) t.qw Ro λ_ _ _ _ _ _ c b a=>(aA (bY 1 a (mD (aj cM (aj cM (aj cM (aj cM (aj cM au))))))) (aA (bY 2 a (mD au)) (aA (qH PassesOwn.never Y2 (lM Y2 t.p8 (aj (aU cL aD (aU dM (bw (ak 0) aD) aD)) au)) (aK 3 a) (cN [3,4,5,6,7,8] (aA (bY 4 a (bw (ak 0) (aU cL aD (ak 3)))) (aA (OO 5 6 Y2 a (aj (bw (ak 1) (aU dM (ak 4) aD)) (aj (bw (ak 1) (aU dM (aU cL (aU cL (ak 4) aD) (aU dM (aU jH (ak 4) aD) aD)) aD)) au))) (aA (bY 7 a (bw (mD (aj (dO (aU cL aD (aU dM (aU jH (ak 4) aD) aD))) (aj (dO (aU cL aD (aU dM (aU jH (ak 4) aD) aD))) au))) (aU dM (aU jH (ak 4) aD) aD))) (aA (bY 8 a (aU dM (aU jH (ak 4) aD) aD)) (aA (fZ (dG (of_eq b) (ak 8) aD (bV _)) (cN [] (aA (yO 2 (gZ (aj cM (aj (ak 5) au)))) aH)) (cN [] (aA (fZ (dG (of_eq b) (ak 8) aD (bV _)) (cN [] (aA (yO 2 (gZ (aj cM (aj (ak 5) (aj (dO (aU cL aD (aU dM (aU jH (ak 4) aD) aD))) (aj (ak 7) au)))))) aH)) (cN [] (aA (fZ (dG (of_eq b) (ak 8) aD (bV _)) (cN [] (aA (yO 2 (gZ (aj cM (aj (ak 5) (aj (ak 6) (aj (ak 7) au)))))) aH)) (cN [] (aA (yO 2 (gZ (aj cM (aj (ak 5) (aj (ak 7) au))))) aH))) aH))) aH))) aH))))))) (aA (aY (cD fj Y2 t.eV d7 (aj (ak 2) au))) aH))))
theorem Rq:aW ["_law_xs","_law_many","_law_letters","_law_stem","_law_at","_law_found","_law_k","_law_mark","_law_name"] ["_law_xs","_law_many"] (aJ Hq):=gC
theorem Rr:Ok P w base t.uL 1 2 ud:=vI (g:=uc) t.uL Rq λ_ _ _ _ _ _ c b a=>(aA (bY 2 a cM) (aA (bY 3 a (QD (eG ["_law_k"] (m9 ["_law_letters","_law_xs"] [2,0]) Y2 (W5 (lM Y2 t.p8 (aj (aU dM (bw (ak 0) aD) aD) au))) (λ_ _ _ _=>(ld 2)) (λ_ _ _ _=>bJ) (λ_ _ _ _=>(bw (ak 0) (aU dM (aU jH (bw (ak 1) (ak 2)) aD) aD))) (bT)))) (aA (bY 4 a (aU dM (bw (ak 0) aD) (aU cL (bQ nH Y2 t.uT nG (aj (ak 3) au)) aD))) (aA (bY 5 a (mD au)) (aA (qH PassesOwn.never Y2 (lM Y2 t.p8 (aj (ak 1) au)) (aK 6 a) (cN [6,7,8] (aA (bY 7 a (bw (ak 2) (aU dM (aU cL (ak 6) (bw (ak 0) aD)) aD))) (aA (bY 8 a (aU cL (aU cL (oZ (ak 3) eZ (dR (ak 4))) (ak 7)) (oZ (ak 3) (dR (ak 4)) eZ))) (aA (fZ (dG (of_eq b) (aU dM (bw (ak 0) aD) aD) aD (bV _)) (cN [] (aA (bY 8 a (aU yU (bw (ak 2) (aU jH (ak 6) aD)) (aU cL aD (aU dM (ak 6) aD)))) aH)) (cN [] aH)) (aA (yO 5 (ak 8)) aH)))))) (aA (YS 5) aH))))))
theorem Vp:aW ["_law_x","_law_found","_law_j"] ["_law_x"] (aJ KC):=gC
theorem Vq:Ok P w base t.xT 1 1 xG:=vI (g:=xu) t.xT Vp λ_ _ _ _ _ _ c b a=>(aA (fZ (dG (of_eq b) (aU dM (ak 0) aD) aD (bV _)) (aA (aY (bw (mD (aj cM (aj cM (aj cM (aj cM (aj cM (aj cM (aj cM au)))))))) (aU dM (aU jH (ak 0) aD) aD))) aH) aH) (aA (bY 1 a cM) (aA (qH PassesOwn.never Y2 (lM Y2 t.p8 (aj (aU cL aD (aU dM (aU jH (ak 0) aD) aD)) au)) (aK 2 a) (cN [2] (aA (bY 1 a (aU cL (ak 1) (bw cM (aU dM (aU jH (aU jH (ak 0) aD) (bw (mD (aj aD (aj aD (aj aD (aj aD au))))) (ak 2))) aD)))) aH))) (aA (aY (ak 1)) aH))))
theorem Xv:aW ["_law_name","_law_xs","_law_fields","_law_words","_law_k"] ["_law_name","_law_xs"] (aJ Pa):=gC
theorem Xw(b:Ok P w base t.xT 1 1 xG):Ok P w base t.Az 2 2 Aj:=vI (g:=Ai) t.Az Xv λ_ _ _ _ _ _ c e a=>(aA (bY 2 a (mD (aj cM (aj cM (aj (dO (aU cL cM cM)) (aj cM au)))))) (aA (bY 3 a (mD au)) (aA (qH PassesOwn.never Y2 (lM Y2 t.p8 (aj aD au)) (aK 4 a) (cN [4] (aA (fZ (dG Nl (aU dM (bw (ak 1) (ak 4)) aD) aD (bV _)) (cN [] (aA (yO 3 (gZ (aj (bw (ak 2) (ak 4)) (aj (dO (bf t.xT b c (aj (aU jH (bw (ak 1) (ak 4)) aD) au))) au)))) aH)) (cN [] aH)) aH))) (aA (aY (gZ (aj (ak 0) (aj (cD fj Y2 t.eV d7 (aj (ak 3) au)) au)))) aH))))
theorem Ru:aW ["_law_script","_law_head","_law_rules_here","_law_names_here","_law_rows","_law_turn"] ["_law_script"] (aJ Hr):=gC
theorem Rv(e:Ok P w base t.sE 1 2 rZ)(h:Ok P w base t.uL 1 2 ud)(f:Ok P w base t.lQ 1 2 lO)(i:Ok P w base t.Az 2 2 Aj)(c:Ok P w base t.qw 1 1 qu):Ok P w base t.uM 3 1 ug:=vI (g:=uf) t.uM Ru λ_ _ _ _ _ _ a j b=>(aA (bY 1 b (bf t.lQ f a (aj (dO (bf t.sE e a (aj (ak 0) (aj aD au)))) (aj aD au)))) (aA (bY 2 b (gZ (aj (dO (bf t.qw c a (aj (ak 1) au))) (aj (dO (oZ (bf t.qw c a (aj (dO (oZ (ak 1) (dR aD) eZ)) au)) eZ (dR aD))) au)))) (aA (bY 3 b (bf t.uL h a (aj (dO (oZ (ak 1) (dR aD) eZ)) (aj (aU dM (bw (ak 1) aD) aD) au)))) (aA (wW 4 ["_law_k"] (m9 ["_law_names_here","_law_script"] [3,0]) Y2 b (W5 (lM Y2 t.p8 (aj (bQ nH Y2 t.uT nG (aj (ak 3) au)) au))) (λ_ _ _ _=>(ld 2)) (λ_ _ _ _=>bJ) (λ_ _ _ _=>(dO (bf t.Az i a (aj (bw (ak 0) (ak 2)) (aj (dO (bf t.lQ f a (aj (dO (bf t.sE e a (aj (ak 1) (aj (dO (aU cL aD (ak 2))) au)))) (aj aD au)))) au))))) (bT)) (aA (bY 5 b (aU dM (bw (ak 1) aD) (bQ (oq Y2) Y2 t.amr UM (aj aD (aj (bQ nH Y2 t.uT nG (aj (ak 4) au)) au))))) (aA (aY (gZ (aj (ak 2) (aj (cD fj Y2 t.eV d7 (aj (aU cL (oZ (ak 4) (dR (ak 5)) eZ) (oZ (ak 4) eZ (dR (ak 5)))) au)) (aj (aU dM (bw (ak 1) aD) (aU cL (bQ nH Y2 t.uT nG (aj (ak 4) au)) aD)) au))))) aH))))))
theorem Xx:aW ["row","field","own_field","word"] ["row","field"] (aJ Pb):=gC
theorem Xy:Ok P w base t.iR 1 2 iM:=vI (g:=Ak) t.iR Xx λ_ _ _ _ _ _ c b a=>(aA (qH PassesOwn.never Y2 (z6 (bw (ak 0) aD)) (mF Y2 (bC (aK 2 a) (bC (aK 3 a) jg))) (cN [2,3] (aA (fZ (dG (of_eq b) (ak 2) (ak 1) (bV _)) (aA (aY (ak 3)) aH) aH) aH))) (aA (aY rM) aH))
theorem Rw:aW ["row","other","field","word"] ["row","other","field"] (aJ Ht):=gC
theorem Rx(a:Ok P w base t.iR 1 2 iM):Ok P w base t.mW 2 3 mV:=vI (g:=uh) t.mW Rw λ_ _ _ _ _ _ b e c=>(aA (bY 3 c (bf t.iR a b (aj (ak 0) (aj (ak 2) au)))) (aA (aY (cT (fU Qw (ak 3) rM (bV _)) (fY (fU (of_eq e) (ak 3) (bf t.iR a b (aj (ak 1) (aj (ak 2) au))) (bV _))))) aH))
theorem K4:aW ["row","other","field","many","word","other_word"] ["row","other","field","many"] (aJ BL):=gC
theorem K5(b:Ok P w base t.iR 1 2 iM):Ok P w base t.pW 2 4 pO:=vI (g:=pN) t.pW K4 λ_ _ _ _ _ _ c e a=>(aA (bY 4 a (bf t.iR b c (aj (ak 0) (aj (ak 2) au)))) (aA (bY 5 a (bf t.iR b c (aj (ak 1) (aj (ak 2) au)))) (aA (fZ (Qm (yM (dG Ch (ak 4) rM (bV _)) (tK (dG Ch (ak 5) rM (bV _))))) (aA (aY yr) aH) aH) (aA (aY (cT (fU Y4 (bQ nH Y2 t.uT nG (aj (ak 4) au)) (ak 3) (bV _)) (cT (fU Y4 (bQ nH Y2 t.uT nG (aj (ak 5) au)) (ak 3) (bV _)) (fY (fU (of_eq e) (oZ (ak 4) eZ (dR (ak 3))) (oZ (ak 5) eZ (dR (ak 3))) (bV _)))))) aH))))
theorem M6:aW ["row","other","field","word","other_word"] ["row","other","field"] (aJ Ey):=gC
theorem M7(b:Ok P w base t.iR 1 2 iM):Ok P w base t.qX 2 3 qO:=vI (g:=qN) t.qX M6 λ_ _ _ _ _ _ c e a=>(aA (bY 3 a (bf t.iR b c (aj (ak 0) (aj (ak 2) au)))) (aA (bY 4 a (bf t.iR b c (aj (ak 1) (aj (ak 2) au)))) (aA (aY (cT (fU Qw (ak 3) rM (bV _)) (cT (fU Qw (ak 4) rM (bV _)) (fY (fU (Bv e) (ak 3) (ak 4) (bV _)))))) aH)))
theorem VI:aW ["rule","row","other"] ["rule","row","other"] (aJ ZK):=gC
theorem uk(c:Ok P w base t.mW 2 3 mV)(f:Ok P w base t.qX 2 3 qO)(e:Ok P w base t.pW 2 4 pO):Ok P w base t.Jq 3 3 Jp:=vI (g:=Jo) t.Jq VI λ_ _ _ _ _ _ a b h=>(aA (fZ (dG (of_eq b) (bw (ak 0) aD) cM (bV _)) (aA (aY (bf t.mW c a (aj (ak 1) (aj (ak 2) (aj (bw (ak 0) aD) au))))) aH) aH) (aA (fZ (dG (of_eq b) (bw (ak 0) aD) cM (bV _)) (aA (aY (bf t.pW e a (aj (ak 1) (aj (ak 2) (aj (bw (ak 0) aD) (aj (bw (ak 0) aD) au)))))) aH) aH) (aA (fZ (dG (of_eq b) (bw (ak 0) aD) cM (bV _)) (aA (aY (cT (bf t.mW c a (aj (ak 1) (aj (ak 2) (aj (bw (ak 0) aD) au)))) (fY (bf t.mW c a (aj (ak 1) (aj (ak 2) (aj (bw (ak 0) aD) au))))))) aH) aH) (aA (aY (bf t.qX f a (aj (ak 1) (aj (ak 2) (aj (bw (ak 0) aD) au))))) aH))))
theorem Xz:aW ["rows","rules"] ["rows","rules"] (aJ Pg):=gC
theorem XC(a:Ok P w base t.Jq 3 3 Jp):Ok P w base t.Ba 4 2 Am:=vI (g:=Al) t.Ba Xz λ_ _ _ _ _ _ b e c=>(aA (aY (XA ["at","row","other","number","rule"] (RH.mk (m:=4) (m2:=5) (m9 ["rows","rules"] [0,1]) Y2 (VX Y2 t.zK (aj (ak 0) au)) (λ_ _ _ _=>(mF Y2 (bC (ld 2) (bC (ld 3) jg)))) (λ_ _ _ _=>bJ) (Qt (ql (bT) (ql (bT) Jc))) (λ_ _ _ _=>(z6 (oZ (ak 0) (dR (aU cL (ak 2) aD)) eZ))) (λ_ _ _ _=>(ld 4)) (λ_ _ _ _=>bJ) (bT) (λ_ _ _ _=>(XL Y2 t.zK (aj (ak 1) au))) (λ_ _ _ _=>(mF Y2 (bC (ld 5) (bC (ld 6) jg)))) (λ_ _ _ _=>(mG (jF (bf t.Jq a b (aj (ak 6) (aj (ak 3) (aj (ak 4) au))))))) (Qt (ql (bT) (ql (bT) Jc)))) (λ_ _ _ _=>(gZ (aj (ak 6) (aj (gZ (aj (bw (ak 3) aD) (aj (bw (ak 4) aD) (aj (ak 5) au)))) au)))))) aH)
theorem Vr:aW ["reason","weight","one","other","number"] ["reason"] (aJ KD):=gC
theorem Vs:Ok P w base t.mJ 1 1 pC:=vI (g:=xH) t.mJ Vr λ_ _ _ _ _ _ b c a=>(aA (yN (ak 0) (mF Y2 (bC (aK 1 a) (bC (aK 2 a) (bC (aK 3 a) (bC (aK 4 a) jg)))))) (aA (aY (gZ (aj (SA NY (ak 1)) (aj (ak 2) (aj (ak 3) (aj (ak 4) au)))))) aH))
theorem Vt:aW ["reasons"] ["reasons"] (aJ KH):=gC
theorem Vu(a:Ok P w base t.mJ 1 1 pC):Ok P w base t.jY 3 1 jV:=vI (g:=xJ) t.jY Vt λ_ _ _ _ _ _ c f e=>(aA (aY (g5 g7 Y2 t.wD rG a (c.mono ()) Y2 t.mJ.m t.mJ.b (ak 0))) aH)
theorem Fo:aW ["book","rules","rows","told","reasons","bars"] ["book","rules"] (aJ Hu):=gC
theorem Rz(f:Ok P w base t.jY 3 1 jV)(e:Ok P w base t.Ba 4 2 Am):Ok P w base t.cV 5 2 cU:=by
 unfold cU;obtain⟨m,j,i,h⟩:=gg t.M5;refine iq (k:=4) (g:=um) t.cV.F i Fo Y2 Y2 λA outer s H E b=>?_;have c:=Qx b;have a:=Fo.nd;exact(aA (bY 2 a (SV (x :="each") (xs:=[]) (is:=[]) (cl:=[]) Y2 b.depth bE Y2 t.wD rG (XX Y2 Y2 Y2 Y2 Y2 Y2 trivial Y2 trivial) h Y2 Y2 Y2 (λ_ _ _ _=>Y2) (ak 0) λl c' s' H'=>(bw (ak 0) aD))) (aA (bY 3 a (bf t.Ba e b (aj (ak 2) (aj (ak 1) au)))) (aA (wW 4 ["rule","pair"] (m9 [] []) Y2 a (dD (ak 3)) (λ_ _ _ _=>(mF Y2 (bC (ld 0) (bC (ld 1) jg)))) (λ_ _ _ _=>(mG (dG (Bv c) (bw (ak 0) aD) cM (bV _)))) (λ_ _ _ _=>(dO (aU cL (gZ (aj (bw (ak 0) (SA NY aD)) au)) (ak 1)))) (Qt (ql (bT) (ql (bT) Jc)))) (aA (wW 5 ["rule","pair"] (m9 [] []) Y2 a (dD (ak 3)) (λ_ _ _ _=>(mF Y2 (bC (ld 0) (bC (ld 1) jg)))) (λ_ _ _ _=>(mG (dG (of_eq c) (bw (ak 0) aD) cM (bV _)))) (λ_ _ _ _=>(ak 1)) (Qt (ql (bT) (ql (bT) Jc)))) (aA (aY (gZ (aj (cD fj Y2 t.eV d7 (aj (eG ["row"] (m9 [] []) Y2 (dD (ak 2)) (λ_ _ _ _=>(ld 0)) (λ_ _ _ _=>bJ) (λ_ _ _ _=>(bw (ak 0) aD)) (bT)) au)) (aj (cD fj Y2 t.eV d7 (aj (bf t.jY f b (aj (ak 4) au)) au)) (aj (cD fj Y2 t.eV d7 (aj (bQ Km Y2 t.wD rG (aj (ak 5) au)) au)) au))))) aH)))))
theorem Vv:aW ["thing","many"] ["thing","many"] (aJ KJ):=gC
theorem Vw:Ok P w base t.iu 1 2 ig:=vI (g:=xK) t.iu Vv λ_ _ _ _ _ _ c a b=>(aA (aY (cT (qJ (ak 0) Y2 t.fV Y2 t.eV) (fY (fU (of_eq a) (bQ nH Y2 t.uT nG (aj (ak 0) au)) (ak 1) (bV _))))) aH)
theorem M8:aW ["thing","signs","longest"] ["thing","signs","longest"] (aJ Ez):=gC
theorem M9:Ok P w base t.qY 1 3 qQ:=vI (g:=qP) t.qY M8 λ_ _ _ _ _ _ b c a=>(aA (aY (cT (Ck (ak 0) Y2 t.fV Y2 t.ZM) (cT (JB Bz Bz aD (bQ nH Y2 t.uT nG (aj (ak 0) au)) (ak 2)) (fY (bQ (vD Y2) Y2 t.BZ vC (aj (eG ["sign"] (m9 ["signs"] [1]) Y2 (dD (ak 0)) (λ_ _ _ _=>(ld 1)) (λ_ _ _ _=>bJ) (λ_ _ _ _=>(fU Oh (ak 1) (ak 0) (by with_unfolding_all rfl))) (bT)) au)))))) aH)
theorem XD:aW ["thing"] ["thing"] (aJ Ph):=gC
theorem XF(b:Ok P w base t.qY 1 3 qQ):Ok P w base t.dW 2 1 dU:=vI (g:=Ao) t.dW XD λ_ _ _ _ _ _ c j f=>by
 obtain⟨h,e⟩:=t.aa6;obtain⟨i,a⟩:=t.KY;exact(aA (aY (bf t.qY b c (aj (ak 0) (aj (Tw Y2 e) (aj (Dv Y2 a) au))))) aH)
theorem Nb:aW ["things"] ["things"] (aJ EY):=gC
theorem Nf:Ok P w base t.gP 1 1 eH:=vI (g:=gM) t.gP Nb λ_ _ _ _ _ _ c a b=>(aA (aY (bQ (vD Y2) Y2 t.BZ vC (aj (eG ["at"] (m9 ["things"] [0]) Y2 (W5 (lM Y2 t.p8 (aj (aU rg (bQ nH Y2 t.uT nG (aj (ak 0) au)) aD) au))) (λ_ _ _ _=>(ld 1)) (λ_ _ _ _=>bJ) (λ_ _ _ _=>(fU (SU Qy (WN a)) (bw (ak 0) (ak 1)) (bw (ak 0) (aU cL (ak 1) aD)) (bV _))) (bT)) au))) aH)
theorem RB:aW ["thing"] ["thing"] (aJ Hv):=gC
theorem RD(b:Ok P w base t.gP 1 1 eH)(c:Ok P w base t.dW 2 1 dU):Ok P w base t.uN 3 1 uq:=vI (g:=uo) t.uN RB λ_ _ _ _ _ _ a f e=>(aA (aY (cT (qJ (ak 0) Y2 t.fV Y2 t.eV) (cT (bQ (vD Y2) Y2 t.BZ vC (aj (eG ["name"] (m9 [] []) Y2 (dD (ak 0)) (λ_ _ _ _=>(ld 0)) (λ_ _ _ _=>bJ) (λ_ _ _ _=>(dO (bf t.dW c a (aj (ak 0) au)))) (bT)) au)) (fY (bf t.gP b a (aj (ak 0) au)))))) aH)
theorem Vx:aW ["thing"] ["thing"] (aJ KN):=gC
theorem Vy:Ok P w base t.jZ 1 1 jW:=vI (g:=xM) t.jZ Vx λ_ _ _ _ _ _ b c a=>(aA (aY (cT (W9 (ak 0) Y2 t.fV Y2 t.aea) (fY (sB (Ud (ak 0) Y2 t.fV Y2 t.aj9))))) aH)
theorem RG:aW ["thing"] ["thing"] (aJ Hw):=gC
theorem RJ(c:Ok P w base t.jZ 1 1 jW):Ok P w base t.jc 2 1 iZ:=vI (g:=ur) t.jc RG λ_ _ _ _ _ _ a h e=>by
 obtain⟨f,b⟩:=t.MP;exact(aA (aY (cT (bf t.jZ c a (aj (ak 0) au)) (fY (JB Bz Bz aD (ak 0) (Dv Y2 b))))) aH)
theorem XY:aW ["thing","one","other","number"] ["thing"] (aJ Vk):=gC
theorem lv(c:Ok P w base t.dW 2 1 dU)(e:Ok P w base t.iu 1 2 ig)(f:Ok P w base t.jZ 1 1 jW):Ok P w base t.wC 3 1 wB:=vI (g:=Fl) t.wC XY λ_ _ _ _ _ _ a h b=>(aA (fZ (o8 (jF (bf t.iu e a (aj (ak 0) (aj aD au))))) (aA (aY yr) aH) aH) (aA (yN (ak 0) (mF Y2 (bC (aK 1 b) (bC (aK 2 b) (bC (aK 3 b) jg))))) (aA (aY (cT (bf t.dW c a (aj (ak 1) au)) (cT (bf t.dW c a (aj (ak 2) au)) (cT (fU Qy (ak 1) (ak 2) (bV _)) (cT (bf t.jZ f a (aj (ak 3) au)) (fY (fU Y4 (ak 3) aD (bV _)))))))) aH)))
theorem RK:aW ["thing"] ["thing"] (aJ Hx):=gC
theorem RM(e:Ok P w base t.wC 3 1 wB)(c:Ok P w base t.iu 1 2 ig)(b:Ok P w base t.jc 2 1 iZ):Ok P w base t.uO 4 1 ux:=vI (g:=uw) t.uO RK λ_ _ _ _ _ _ a h f=>(aA (aY (cT (bf t.iu c a (aj (ak 0) (aj aD au))) (cT (bf t.jc b a (aj (bw (ak 0) aD) au)) (fY (bf t.wC e a (aj (dO (oZ (ak 0) (dR aD) eZ)) au)))))) aH)
theorem K7:aW ["thing","names"] ["thing","names"] (aJ BP):=gC
theorem K8(b:Ok P w base t.gP 1 1 eH)(e:Ok P w base t.uO 4 1 ux)(c:Ok P w base t.mJ 1 1 pC):Ok P w base t.pZ 5 2 pQ:=vI (g:=pP) t.pZ K7 λ_ _ _ _ _ _ a h f=>(aA (fZ (Qm (yM (o8 (jF (qJ (ak 0) Y2 t.fV Y2 t.eV))) (tK (o8 (jF (bQ (vD Y2) Y2 t.BZ vC (aj (eG ["reason"] (m9 [] []) Y2 (dD (ak 0)) (λ_ _ _ _=>(ld 0)) (λ_ _ _ _=>bJ) (λ_ _ _ _=>(dO (bf t.uO e a (aj (ak 0) au)))) (bT)) au))))))) (aA (aY yr) aH) aH) (aA (fZ (o8 (jF (bQ (vD Y2) Y2 t.BZ vC (aj (eG ["reason"] (m9 ["names"] [1]) Y2 (dD (ak 0)) (λ_ _ _ _=>(ld 1)) (λ_ _ _ _=>bJ) (λ_ _ _ _=>(cT (fU Oh (bw (ak 1) aD) (ak 0) (by with_unfolding_all rfl)) (fY (fU Oh (bw (ak 1) aD) (ak 0) (by with_unfolding_all rfl))))) (bT)) au)))) (aA (aY yr) aH) aH) (aA (aY (bf t.gP b a (aj (dO (eG ["reason"] (m9 [] []) Y2 (dD (ak 0)) (λ_ _ _ _=>(ld 0)) (λ_ _ _ _=>bJ) (λ_ _ _ _=>(dO (bf t.mJ c a (aj (ak 0) au)))) (bT))) au))) aH)))
theorem Vz:aW ["thing","names"] ["thing","names"] (aJ KQ):=gC
theorem VB(b:Ok P w base t.gP 1 1 eH)(c:Ok P w base t.wC 3 1 wB):Ok P w base t.xU 4 2 xP:=vI (g:=xO) t.xU Vz λ_ _ _ _ _ _ a f e=>(aA (fZ (Qm (yM (o8 (jF (qJ (ak 0) Y2 t.fV Y2 t.eV))) (tK (o8 (jF (bQ (vD Y2) Y2 t.BZ vC (aj (eG ["bar"] (m9 [] []) Y2 (dD (ak 0)) (λ_ _ _ _=>(ld 0)) (λ_ _ _ _=>bJ) (λ_ _ _ _=>(dO (bf t.wC c a (aj (ak 0) au)))) (bT)) au))))))) (aA (aY yr) aH) aH) (aA (aY (cT (bQ (vD Y2) Y2 t.BZ vC (aj (eG ["bar"] (m9 ["names"] [1]) Y2 (dD (ak 0)) (λ_ _ _ _=>(ld 1)) (λ_ _ _ _=>bJ) (λ_ _ _ _=>(cT (fU Oh (bw (ak 1) aD) (ak 0) (by with_unfolding_all rfl)) (fY (fU Oh (bw (ak 1) aD) (ak 0) (by with_unfolding_all rfl))))) (bT)) au)) (fY (bf t.gP b a (aj (ak 0) au))))) aH))
theorem RN:aW ["thing","names","reasons","bars"] ["thing"] (aJ Hy):=gC
theorem RQ(h:Ok P w base t.xU 4 2 xP)(c:Ok P w base t.uN 3 1 uq)(f:Ok P w base t.pZ 5 2 pQ)(e:Ok P w base t.iu 1 2 ig):Ok P w base t.uP 6 1 uD:=vI (g:=uy) t.uP RN λ_ _ _ _ _ _ a i b=>(aA (fZ (o8 (jF (bf t.iu e a (aj (ak 0) (aj aD au))))) (aA (aY yr) aH) aH) (aA (yN (ak 0) (mF Y2 (bC (aK 1 b) (bC (aK 2 b) (bC (aK 3 b) jg))))) (aA (aY (cT (bf t.uN c a (aj (ak 1) au)) (cT (bf t.pZ f a (aj (ak 2) (aj (ak 1) au))) (fY (bf t.xU h a (aj (ak 3) (aj (ak 1) au))))))) aH)))
theorem Io:aW ["_law_book","_law_rules_here","_law_reasons","_law_bars","_law_k","_law_j","_law_names_here","_law_some","_law_shut"] ["_law_book","_law_rules_here"] (aJ zF):=gC
theorem Ip(c:Ok P w base t.cV 5 2 cU)(e:Ok P w base t.jY 3 1 jV):Ok P w base t.nW 6 2 nO:=vI (g:=nM) t.nW Io λ_ _ _ _ _ _ b f a=>(aA (l7 2 3 Y2 a (mD au) (mD au)) (aA (qH PassesOwn.never Y2 (lM Y2 t.p8 (aj (bQ nH Y2 t.uT nG (aj (ak 0) au)) au)) (aK 4 a) (cN [4,5,6,7,8] (aA (qH PassesOwn.never Y2 (lM Y2 t.p8 (aj (ak 4) au)) (aK 5 a) (cN [5,6,7,8] (aA (yN (bf t.cV c b (aj (gZ (aj (bw (ak 0) (ak 4)) (aj (bw (ak 0) (ak 5)) au))) (aj (ak 1) au))) (mF Y2 (bC (aK 6 a) (bC (aK 7 a) (bC (aK 8 a) jg))))) (aA (OW 2 (ak 7)) (aA (OW 3 (ak 8)) aH))))) aH))) (aA (aY (gZ (aj (cD fj Y2 t.eV d7 (aj (bQ US Y2 t.wD rG (aj (eG ["_law_row_here"] (m9 [] []) Y2 (dD (ak 0)) (λ_ _ _ _=>(ld 0)) (λ_ _ _ _=>bJ) (λ_ _ _ _=>(bw (ak 0) aD)) (bT)) au)) au)) (aj (cD fj Y2 t.eV d7 (aj (bf t.jY e b (aj (ak 2) au)) au)) (aj (cD fj Y2 t.eV d7 (aj (bQ Km Y2 t.wD rG (aj (ak 3) au)) au)) au))))) aH)))
theorem n6:aW ["book","other","names","row"] ["book","other"] (aJ wA):=gC
theorem Fp:Ok P w base t.kW 2 2 iQ:=by
 refine NN (k:=1) (g:=IQ) t.kW.F n6 Y2 Y2 λb A outer s H E a=>?_;have c:=Qx a;exact ay 2 3 PassesOwn.never Y2 n6.nd (Xn 2 ["row"] (m9 [] []) Y2 n6.nd (dD (ak 0)).run (λ_ _ _ _=>(ld 0).run) (λ_ _ _ _=>bJ.run) (λ_ _ _ _=>(bw (ak 0) aD).run) (bT)) (z6 (ak 1)) (bw (ak 3) aD) (aA (aY (aU cL (ak 0) (ak 1))) aH)
theorem Ir:aW ["book","name"] ["book","name"] (aJ zG):=gC
theorem Iu(c:Ok P w base t.dW 2 1 dU):Ok P w base t.nY 3 2 nR:=vI (g:=nQ) t.nY Ir λ_ _ _ _ _ _ a b e=>(aA (fZ (Qm (yM (o8 (jF (bf t.dW c a (aj (ak 1) au)))) (tK (dG JN (ak 1) (eG ["row"] (m9 [] []) Y2 (dD (ak 0)) (λ_ _ _ _=>(ld 0)) (λ_ _ _ _=>bJ) (λ_ _ _ _=>(bw (ak 0) aD)) (bT)) (by with_unfolding_all rfl))))) (aA Q5 aH) aH) (aA (aY (cD fj Y2 t.eV d7 (aj (eG ["row"] (m9 ["name"] [1]) Y2 (dD (ak 0)) (λ_ _ _ _=>(ld 1)) (λ_ _ _ _=>(mG (dG (Bv b) (bw (ak 1) aD) (ak 0) (bV _)))) (λ_ _ _ _=>(ak 1)) (bT)) au))) aH))
theorem K9:aW ["_law_ground","_law_name","_law_names_here","_law_reasons","_law_bars","_law_left","_law_shut"] ["_law_ground","_law_name"] (aJ BR):=gC
theorem La:Ok P w base t.p7 1 2 pU:=vI (g:=pR) t.p7 K9 λ_ _ _ _ _ _ c b a=>(aA (yN (ak 0) (mF Y2 (bC (aK 2 a) (bC (aK 3 a) (bC (aK 4 a) jg))))) (aA (wW 5 ["_law_reason"] (m9 ["_law_name"] [1]) Y2 a (dD (ak 3)) (λ_ _ _ _=>(ld 1)) (λ_ _ _ _=>(mG (dG JN (ak 0) (oZ (ak 1) (dR aD) (dR aD)) (by with_unfolding_all rfl)))) (λ_ _ _ _=>(ak 1)) (bT)) (aA (wW 6 ["_law_bar"] (m9 ["_law_name"] [1]) Y2 a (dD (ak 4)) (λ_ _ _ _=>(ld 1)) (λ_ _ _ _=>(mG (dG JN (ak 0) (oZ (ak 1) eZ (dR aD)) (by with_unfolding_all rfl)))) (λ_ _ _ _=>(ak 1)) (bT)) (aA (aY (gZ (aj (cD fj Y2 t.eV d7 (aj (eG ["_law_one"] (m9 ["_law_name"] [1]) Y2 (dD (ak 2)) (λ_ _ _ _=>(ld 1)) (λ_ _ _ _=>(mG (dG (Bv b) (ak 1) (ak 0) (bV _)))) (λ_ _ _ _=>(ak 1)) (bT)) au)) (aj (cD fj Y2 t.eV d7 (aj (ak 5) au)) (aj (cD fj Y2 t.eV d7 (aj (ak 6) au)) au))))) aH))))
theorem RT:aW ["rule"] ["rule"] (aJ Hz):=gC
theorem RW:Ok P w base t.uQ 1 1 uH:=vI (g:=uG) t.uQ RT λ_ _ _ _ _ _ b c a=>(aA (aY (QD (eG ["part"] (m9 [] []) Y2 (dD (ak 0)) (λ_ _ _ _=>(ld 0)) (λ_ _ _ _=>bJ) (λ_ _ _ _=>(dO (cD WA Y2 t.ZM NB (aj (ak 0) au)))) (bT)))) aH)
theorem Nh:aW ["rules"] ["rules"] (aJ Fe):=gC
theorem Ni(b:Ok P w base t.uQ 1 1 uH):Ok P w base t.qZ 2 1 qT:=vI (g:=qR) t.qZ Nh λ_ _ _ _ _ _ a e c=>(aA (aY (QD (eG ["rule"] (m9 [] []) Y2 (dD (ak 0)) (λ_ _ _ _=>(ld 0)) (λ_ _ _ _=>bJ) (λ_ _ _ _=>(dO (bf t.uQ b a (aj (ak 0) au)))) (bT)))) aH)
theorem VD:aW ["text"] ["text"] (aJ KR):=gC
theorem VF:Ok P w base t.xV 1 1 xR:=vI (g:=xQ) t.xV VD λ_ _ _ _ _ _ b c a=>(aA (fZ (o8 (jF (Ck (ak 0) Y2 t.fV Y2 t.ZM))) (aA Q5 aH) aH) (aA (aY (W0 (jF (ak 0)) (U9 (ak 0) cM) (mD au))) aH))
theorem RX:aW ["text"] ["text"] (aJ HB):=gC
theorem RZ:Ok P w base t.uR 1 1 uJ:=vI (g:=uI) t.uR RX λ_ _ _ _ _ _ i a f=>by
 obtain⟨e,b⟩:=t.aa5;obtain⟨h,c⟩:=t.KZ;exact(aA (fZ (Qm (yM (o8 (f8 Bz Bz aD (bQ nH Y2 t.uT nG (aj (ak 0) au)) (Dv Y2 c))) (tK (o8 (jF (bQ (vD Y2) Y2 t.BZ vC (aj (eG ["sign"] (m9 [] []) Y2 (dD (ak 0)) (λ_ _ _ _=>(ld 0)) (λ_ _ _ _=>bJ) (λ_ _ _ _=>(fU Oh (ak 0) (Tw Y2 b) (by with_unfolding_all rfl))) (bT)) au))))))) (aA (aY rM) aH) aH) (aA (fZ (Qm (oB (dG (of_eq a) (bw (ak 0) aD) cM (bV _)) (Sk (dG (Bv a) (ak 0) cM (bV _))))) (aA (aY rM) aH) aH) (aA (aY (dO (cD ol Y2 t.aea W8 (aj (ak 0) au)))) aH)))
theorem XH:aW ["word","number"] ["word"] (aJ Pj):=gC
theorem XJ(a:Ok P w base t.uR 1 1 uJ):Ok P w base t.Bb 2 1 Ar:=vI (g:=Aq) t.Bb XH λ_ _ _ _ _ _ c e b=>(aA (bY 1 b (bf t.uR a c (aj (ak 0) au))) (aA (aY (W0 (dG Ch (ak 1) rM (bV _)) (ak 0) (ak 1))) aH))
theorem R0:aW ["thing","word","many"] ["thing","word","many"] (aJ HD):=gC
theorem R3(c:Ok P w base t.iu 1 2 ig):Ok P w base t.j4 2 3 jX:=vI (g:=uK) t.j4 R0 λ_ _ _ _ _ _ a b e=>(aA (aY (cT (bf t.iu c a (aj (ak 0) (aj (ak 2) au))) (cT (Ck (bw (ak 0) aD) Y2 t.fV Y2 t.ZM) (fY (fU (of_eq b) (bw (ak 0) aD) (ak 1) (bV _)))))) aH)
theorem Iv:aW ["thing"] ["thing"] (aJ zH):=gC
theorem Iw(c:Ok P w base t.jZ 1 1 jW):Ok P w base t.nZ 2 1 nU:=vI (g:=nT) t.nZ Iv λ_ _ _ _ _ _ a h f=>by
 obtain⟨e,b⟩:=t.Rm;exact(aA (aY (cT (bf t.jZ c a (aj (ak 0) au)) (fY (JB Bz Bz aD (ak 0) (Dv Y2 b))))) aH)
theorem Bp:aW ["one","other"] ["one","other"] (aJ rY):=gC
theorem Bq(b:Ok P w base t.dW 2 1 dU):Ok P w base t.jo 3 2 jm:=vI (g:=jl) t.jo Bp λ_ _ _ _ _ _ a c e=>(aA (aY (cT (bf t.dW b a (aj (ak 0) au)) (cT (bf t.dW b a (aj (ak 1) au)) (fY (fU (Bv c) (ak 0) (ak 1) (bV _)))))) aH)
theorem XM:aW ["thing"] ["thing"] (aJ Pk):=gC
theorem XQ(h:Ok P w base t.jo 3 2 jm)(f:Ok P w base t.nZ 2 1 nU)(c:Ok P w base t.dW 2 1 dU)(e:Ok P w base t.jc 2 1 iZ)(b:Ok P w base t.j4 2 3 jX):Ok P w base t.Bc 4 1 Aw:=vI (g:=Av) t.Bc XM λ_ _ _ _ _ _ a j i=>(aA (fZ (jF (bf t.j4 b a (aj (ak 0) (aj cM (aj aD au))))) (aA (aY (cT (bf t.dW c a (aj (bw (ak 0) aD) au)) (fY (bf t.jc e a (aj (bw (ak 0) aD) au))))) aH) aH) (aA (fZ (jF (bf t.j4 b a (aj (ak 0) (aj cM (aj aD au))))) (aA (aY (cT (bf t.dW c a (aj (bw (ak 0) aD) au)) (cT (bf t.nZ f a (aj (bw (ak 0) aD) au)) (fY (bf t.jc e a (aj (bw (ak 0) aD) au)))))) aH) aH) (aA (fZ (jF (bf t.j4 b a (aj (ak 0) (aj cM (aj aD au))))) (aA (aY (cT (bf t.jo h a (aj (bw (ak 0) aD) (aj (bw (ak 0) aD) au))) (fY (bf t.jc e a (aj (bw (ak 0) aD) au))))) aH) aH) (aA (aY (cT (bf t.j4 b a (aj (ak 0) (aj cM (aj aD au)))) (fY (bf t.dW c a (aj (bw (ak 0) aD) au))))) aH))))
theorem XR:aW ["line","rule"] ["line"] (aJ Pn):=gC
theorem XS(c:Ok P w base t.Bc 4 1 Aw)(e:Ok P w base t.Bb 2 1 Ar):Ok P w base t.Bd 5 1 Ay:=vI (g:=Ax) t.Bd XR λ_ _ _ _ _ _ a f b=>(aA (bY 1 b (cD fj Y2 t.eV d7 (aj (eG ["word"] (m9 [] []) Y2 (dD (U9 (ak 0) cM)) (λ_ _ _ _=>(ld 0)) (λ_ _ _ _=>bJ) (λ_ _ _ _=>(dO (bf t.Bb e a (aj (ak 0) au)))) (bT)) au))) (aA (aY (dO (W0 (jF (bf t.Bc c a (aj (ak 1) au))) (ak 1) rM))) aH))
theorem Nj:aW ["text","rules","at","line","rule"] ["text"] (aJ Fg):=gC
theorem Nk(e:Ok P w base t.xV 1 1 xR)(c:Ok P w base t.Bd 5 1 Ay):Ok P w base t.q8 6 1 qW:=vI (g:=qU) t.q8 Nj λ_ _ _ _ _ _ b f a=>(aA (bY 1 a (mD au)) (aA (qH PassesOwn.never Y2 (ZB Y2 t.zK (aj (dO (bf t.xV e b (aj (ak 0) au))) au)) (mF Y2 (bC (aK 2 a) (bC (aK 3 a) jg))) (cN [2,3,4] (aA (bY 4 a (bf t.Bd c b (aj (ak 3) au))) (aA (fZ (dG Ch (ak 4) rM (bV _)) (aA Q5 aH) aH) (aA (yO 1 (ak 4)) aH))))) (aA (aY (cD fj Y2 t.eV d7 (aj (ak 1) au))) aH)))
theorem CP:aW ["_law_book","_law_first","_law_second","_law_names_here","_law_reasons","_law_bars","_law_found","_law_more","_law_shut","_law_due"] ["_law_book","_law_first","_law_second"] (aJ tW):=gC
theorem CQ(c:Ok P w base t.cV 5 2 cU)(f:Ok P w base t.jY 3 1 jV):Ok P w base t.gQ 6 3 gO:=vI (g:=jM) t.gQ CP λ_ _ _ _ _ _ b e a=>(aA (yN (bf t.cV c b (aj (ak 0) (aj (ak 1) au))) (mF Y2 (bC (aK 3 a) (bC (aK 4 a) (bC (aK 5 a) jg))))) (aA (bY 6 a (bf t.cV c b (aj (ak 0) (aj (ak 2) au)))) (aA (wW 7 ["_law_reason"] (m9 ["_law_first"] [1]) Y2 a (dD (bw (ak 6) aD)) (λ_ _ _ _=>(ld 1)) (λ_ _ _ _=>bJ) (λ_ _ _ _=>(dO (aU cL (oZ (ak 1) eZ (dR aD)) (gZ (aj (dO (aU cL (bw (ak 1) aD) (bQ nH Y2 t.uT nG (aj (ak 0) au)))) au))))) (bT)) (aA (wW 8 ["_law_bar"] (m9 ["_law_first"] [1]) Y2 a (dD (bw (ak 6) aD)) (λ_ _ _ _=>(ld 1)) (λ_ _ _ _=>bJ) (λ_ _ _ _=>(dO (aU cL (oZ (ak 1) eZ (dR aD)) (gZ (aj (dO (aU cL (bw (ak 1) aD) (bQ nH Y2 t.uT nG (aj (ak 0) au)))) au))))) (bT)) (aA (bY 9 a (gZ (aj (ak 3) (aj (cD fj Y2 t.eV d7 (aj (bf t.jY f b (aj (dO (aU cL (cD Y7 Y2 t.aeb Y6 (aj (ak 4) au)) (ak 7))) au)) au)) (aj (cD fj Y2 t.eV d7 (aj (bQ Km Y2 t.wD rG (aj (aU cL (cD Y7 Y2 t.aeb Y6 (aj (ak 5) au)) (ak 8)) au)) au)) au))))) (aA (aY (fU (of_eq e) (bf t.cV c b (aj (ak 0) (aj (dO (aU cL (ak 1) (ak 2))) au))) (ak 9) (bV _))) aH))))))
theorem tm:aW ["_law_script","_law_rules_here","_law_book","_law_at","_law_whole","_law_ground","_law_one","_law_other","_law_first","_law_second","_law_names_here","_law_reasons","_law_bars","_law_name"] ["_law_script"] (aJ s_law):=gC
theorem si(j:Ok P w base t.uM 3 1 ug)(m:Ok P w base t.nW 6 2 nO)(f:Ok P w base t.gQ 6 3 gO)(o:Ok P w base t.p7 1 2 pU)(l:Ok P w base t.nY 3 2 nR)(h:Ok P w base t.kW 2 2 iQ)(e:Ok P w base t.cV 5 2 cU)(n:Ok P w base t.uP 6 1 uD)(i:Ok P w base t.q8 6 1 qW)(k:Ok P w base t.qZ 2 1 qT):Ok P w base t.x_law 7 1 F_law:=vI (g:=ZL) t.x_law tm λ_ _ _ _ _ _ a c b=>(aA (yN (bf t.uM j a (aj (ak 0) au)) (mF Y2 (bC (aK 1 b) (bC (aK 2 b) (bC (aK 3 b) jg))))) (aA (bY 4 b (aU cL (bw (ak 1) aD) (bw (ak 1) aD))) (aA (bY 5 b (bf t.cV e a (aj (ak 2) (aj (ak 4) au)))) (aA (OO 6 7 Y2 b (aj (dO (oZ (ak 2) eZ (dR (ak 3)))) (aj (dO (oZ (ak 2) (dR (ak 3)) eZ)) au))) (aA (fZ (Qm (yM (dG tT (bf t.uP n a (aj (ak 5) au)) yr (bV _)) (tK (dG (Bv c) (ak 5) (bf t.nW m a (aj (ak 2) (aj (ak 4) au))) (bV _))))) (aA (aY yr) aH) aH) (aA (qH PassesOwn.never Y2 (z6 (mD (aj (gZ (aj (ak 6) (aj (ak 7) au))) (aj (gZ (aj (ak 7) (aj (ak 6) au))) au)))) (mF Y2 (bC (aK 8 b) (bC (aK 9 b) jg))) (cN [8,9,10,11,12] (aA (fZ (dG (Bv c) (bf t.cV e a (aj (dO (bf t.kW h a (aj (ak 8) (aj (ak 9) au)))) (aj (ak 4) au))) (ak 5) (bV _)) (aA (aY yr) aH) aH) (aA (yN (bf t.cV e a (aj (ak 8) (aj (ak 4) au))) (mF Y2 (bC (aK 10 b) (bC (aK 11 b) (bC (aK 12 b) jg))))) (aA (fZ (Qm (yM (o8 (jF (bQ (vD Y2) Y2 t.BZ vC (aj (eG ["_law_reason"] (m9 ["_law_ground"] [5]) Y2 (dD (ak 11)) (λ_ _ _ _=>(ld 1)) (λ_ _ _ _=>bJ) (λ_ _ _ _=>(fU (NS c) (ak 1) (bw (ak 0) aD) (by with_unfolding_all rfl))) (bT)) au)))) (tK (o8 (jF (bQ (vD Y2) Y2 t.BZ vC (aj (eG ["_law_bar"] (m9 ["_law_ground"] [5]) Y2 (dD (ak 12)) (λ_ _ _ _=>(ld 1)) (λ_ _ _ _=>bJ) (λ_ _ _ _=>(fU (NS c) (ak 1) (bw (ak 0) aD) (by with_unfolding_all rfl))) (bT)) au))))))) (aA (aY yr) aH) aH) aH))))) (aA (qH PassesOwn.never Y2 (z6 (eG ["_law_row_here"] (m9 [] []) Y2 (dD (ak 2)) (λ_ _ _ _=>(ld 0)) (λ_ _ _ _=>bJ) (λ_ _ _ _=>(bw (ak 0) aD)) (bT))) (aK 13 b) (cN [13] (aA (fZ (dG (Bv c) (bf t.cV e a (aj (dO (bf t.nY l a (aj (ak 2) (aj (ak 13) au)))) (aj (ak 4) au))) (bf t.p7 o a (aj (ak 5) (aj (ak 13) au))) (bV _)) (aA (aY yr) aH) aH) aH))) (aA (fZ (dG (Bv c) (bf t.cV e a (aj (ak 2) (aj (dO (bf t.q8 i a (aj (dO (bf t.qZ k a (aj (ak 4) au))) au))) au))) (ak 5) (bV _)) (aA (aY yr) aH) aH) (aA (aY (cT (bf t.gQ f a (aj (ak 2) (aj (bw (ak 1) aD) (aj (bw (ak 1) aD) au)))) (fY (bf t.gQ f a (aj (ak 2) (aj (bw (ak 1) aD) (aj (bw (ak 1) aD) au))))))) aH)))))))))
theorem F1:Ok P w base t.x_law 7 1 F_law:=by
 have E:=Vo (P:=P) (w:=w) (base:=base) t;have L:=K3 (P:=P) (w:=w) (base:=base) t;have B:=Rp (P:=P) (w:=w) (base:=base) t;have C:=Rr (P:=P) (w:=w) (base:=base) t;have I:=Vq (P:=P) (w:=w) (base:=base) t;have N:=Xw (P:=P) (w:=w) (base:=base) t I;have K:=Rv (P:=P) (w:=w) (base:=base) t E C L N B;have g:=Xy (P:=P) (w:=w) (base:=base) t;have H:=Rx (P:=P) (w:=w) (base:=base) t g;have l:=K5 (P:=P) (w:=w) (base:=base) t g;have u:=M7 (P:=P) (w:=w) (base:=base) t g;have Ry:=uk (P:=P) (w:=w) (base:=base) t H u l;have z:=XC (P:=P) (w:=w) (base:=base) t Ry;have j:=Vs (P:=P) (w:=w) (base:=base) t;have e:=Vu (P:=P) (w:=w) (base:=base) t j;have c:=Rz (P:=P) (w:=w) (base:=base) t e z;have b:=Vw (P:=P) (w:=w) (base:=base) t;have X:=M9 (P:=P) (w:=w) (base:=base) t;have a:=XF (P:=P) (w:=w) (base:=base) t X;have f:=Nf (P:=P) (w:=w) (base:=base) t;have D:=RD (P:=P) (w:=w) (base:=base) t f a;have h:=Vy (P:=P) (w:=w) (base:=base) t;have i:=RJ (P:=P) (w:=w) (base:=base) t h;have k:=lv (P:=P) (w:=w) (base:=base) t a b h;have U:=RM (P:=P) (w:=w) (base:=base) t k b i;have W:=K8 (P:=P) (w:=w) (base:=base) t f U j;have p:=VB (P:=P) (w:=w) (base:=base) t f k;have x:=RQ (P:=P) (w:=w) (base:=base) t p D W b;have G:=Ip (P:=P) (w:=w) (base:=base) t c e;have A:=Fp (P:=P) (w:=w) (base:=base) t;have s:=Iu (P:=P) (w:=w) (base:=base) t a;have M:=La (P:=P) (w:=w) (base:=base) t;have zO:=RW (P:=P) (w:=w) (base:=base) t;have o:=Ni (P:=P) (w:=w) (base:=base) t zO;have CN:=VF (P:=P) (w:=w) (base:=base) t;have m:=RZ (P:=P) (w:=w) (base:=base) t;have n:=XJ (P:=P) (w:=w) (base:=base) t m;have y:=R3 (P:=P) (w:=w) (base:=base) t b;have q:=Iw (P:=P) (w:=w) (base:=base) t h;have v:=Bq (P:=P) (w:=w) (base:=base) t a;have Q:=XQ (P:=P) (w:=w) (base:=base) t v q a i y;have GJ:=XS (P:=P) (w:=w) (base:=base) t Q n;have J:=Nk (P:=P) (w:=w) (base:=base) t CN GJ;have F:=CQ (P:=P) (w:=w) (base:=base) t c e;have S:=si (P:=P) (w:=w) (base:=base) t K G F M s A c x J o;exact S
end
end G11
end
section
set_option synthInstance.maxSize 100000
namespace G11
open L2 P1
noncomputable section
def Ca(a:Int)(b:Int):Int:=(let a:=(((a*69621)+b)%2147483647);a)
theorem Np(e:BM)(f:Lp jT (e.map eI))(c:Int)(a:Int)(b:Int):RP BW [Z jT,Z (zE eI c),Z (zE eI a),Z (zE eI b)] (λs=>Ap.nx ((λa:Int=>[Z jT,Z (zE eI c),Z (zE eI a),Y3]) s)) (Ca  a b) (Y3):=R.tp (bR (cH 2 (d8 (iY (Zh (ao 2 (zE eI) a Y2) 69621 ()) (ao 3 (zE eI) b Y2)) 2147483647 ()) (λ_=>Y2) λa=>(cQ (dJ a Y2))))
def cF(c:BM)(b:Int):Int:=(if(decide (b<(c.length:Int)))=true then(Au c b)else(let a:=((48271*(((b*b)+(7*b))+11))%2147483647);(let a:Int:=((BI c Y3 (Z 3)).foldl (λ(a:Int) (e:Int)=>(Ca  a e)) a);a)))
def pG(b:BM)(a:Int):Prop:=(((decide (a<(b.length:Int)))=true->In b.length a)/\((decide (a<(b.length:Int)))=false->HE a a))
theorem X3(b:BM)(e:Lp jT (b.map eI))(a:Int):RP xq [Z jT,Z (zE eI a),Y3,Y3] (λr=>Ap.rt (zE eI r)) (cF b a) (Z (pG b a)):=R.tp (jB (f9 (Pt (ao 1 (zE eI) a Y2) (CU (lN 0 eI b e Y2)))) (bR (bL (λr=>r) (rT (lN 0 eI b e Y2) (ao 1 (zE eI) a Y2)) (λ_=>Y2) λ_=>Y2)) (cQ (cH 2 (d8 (Xf 48271 () (iY (iY (OU (ao 1 (zE eI) a Y2) (ao 1 (zE eI) a Y2)) (Xf 7 () (ao 1 (zE eI) a Y2))) (BB 11))) 2147483647 ()) (λ_=>Y2) λc=>(sL (λc:Int=>[Z jT,Z (zE eI a),Z (zE eI c),Y3]) c Y2 (HQ (FK (lN 0 eI b e Y2) Eh (Ei (BB 3)))) _ (λ_ _=>Y2) (λ(c:Int) (f:Int)=>(Np b e a c f).r) (λ_ _=>Y2) λc=>(bL (λr=>r) (ao 2 (zE eI) c Y2) (λ_=>Y2) λ_=>Y2)))))
theorem Ld:∀v bs,(aL eI (aZ eI aN)) v bs->bs.length=2/\(B0 (Z (pG v.1 v.2.1))->rZ (bs.map B7)=Z ((zE eI) (cF v.1 v.2.1))):=by
 rintro⟨c,a,_⟩ _ ⟨jT,_,rfl,b,⟨_,rfl,rfl⟩⟩;exact⟨rfl,λh=>bG (g:=xq) (n:=4) (bs:=[B7 jT,.z (eI a)]) (X3 c (Ed b) a) h⟩
def c7(a:Int×BM×Int)(f:Int):Int×BM×Int:=(let b:=((((a.1*((a.1%65521)+40487))+(7*f))+5)%1999999973);(let c:=a.2.1++[(Au [b,(a.2.2%1000000)] (if(decide ((0:Int)<a.2.2))=true then(1:Int)else 0))];(let e:=(a.2.2 / (1000000:Int));(b,c,e))))
def kY(a:Int×BM×Int)(c:Int):Prop:=(HE a.1 ((a.1%65521)+40487)/\(let b:=((((a.1*((a.1%65521)+40487))+(7*c))+5)%1999999973);(In [b,(a.2.2%1000000)].length (if(decide ((0:Int)<a.2.2))=true then(1:Int)else 0)/\Ej a.2.1.length)))
theorem GK(c:Int)(e:Int)(a:Int×BM×Int)(b:Int):RP pB [Z (zE eI c),Z (zE eI e),Z ((oE eI) a.2.1),Z ((zE eI) a.1),Z ((zE eI) a.2.2),Z (zE eI b)] (λs=>Ap.nx ((λa:Int×BM×Int=>[Z (zE eI c),Z (zE eI e),Z ((oE eI) a.2.1),Z ((zE eI) a.1),Z ((zE eI) a.2.2),Y3]) s)) (c7  a b) (Z (kY  a b)):=R.tp (bR (cH 3 (d8 (iY (iY (OU (ao 3 (zE eI) a.1 Y2) (iY (d8 (ao 3 (zE eI) a.1 Y2) 65521 ()) (BB 40487))) (Xf 7 () (ao 5 (zE eI) b Y2))) (BB 5)) 1999999973 ()) (λ_=>Y2) λf=>(bR (Hh 2 a.2.1 Y2 (rT (jk (rR (bI (ao 3 (zE eI) f Y2) (bI (d8 (ao 4 (zE eI) a.2.2 Y2) 1000000 ()) (iI eI))) (Zs Y2))) (V' (NF (ao 4 (zE eI) a.2.2 Y2) (BB 0)))) λg=>(bR (cH 4 (kO (ao 4 (zE eI) a.2.2 Y2) 1000000 ()) (λ_=>Y2) λh=>(cQ (dJ (f,g,h) Y2))))))))
def kZ(h:Int)(c:Int)(b:BM)(f:Int)(e:Int):BM:=(let a:Int×BM×Int:=((rng 0 c.toNat).foldl (λ(a:Int×BM×Int) (g:Int)=>(c7  a g)) (f,b,e));a.2.1)
def pH(h:Int)(c:Int)(e:BM)(g:Int)(f:Int):Prop:=(Rg c/\Gu (λ(a:Int×BM×Int) (b:Int)=>(c7  a b)) (λ(a:Int×BM×Int) (b:Int)=>Z (kY  a b)) (rng 0 c.toNat) (g,e,f))
def GP:Ev->Y Ap:=(aF (sZ (Uh (aq (gv 1) aG)) (iW 5) pB) (aF (Qp 2) dN))
theorem GQ(c:Int)(b:Int)(e:BM)(g:Int)(f:Int):RP GP [Z (zE eI c),Z (zE eI b),Z (oE eI e),Z (zE eI g),Z (zE eI f),Y3] (λr=>Ap.rt (oE eI r)) (kZ c b e g f) (Z (pH c b e g f)):=R.tp (Kf (λa:Int×BM×Int=>[Z (zE eI c),Z (zE eI b),Z ((oE eI) a.2.1),Z ((zE eI) a.1),Z ((zE eI) a.2.2),Y3]) (g,e,f) Y2 (zm (ao 1 (zE eI) b Y2)) _ (λ_ _=>Y2) (λ(a:Int×BM×Int) (h:Int)=>(GK c b a h).r) λa=>(Pc 2 (λr=>r) a.2.1 Y2 (λ_=>Y2) λ_=>Y2))
def bN(a:Int)(e:Int):BM:=(let c:=([]:O Int);(let f:=((((a%1999999973)+31)*765432101)%1999999973);(let b:=(0:Int);(let b:Int:=(if((decide (a<0))||(decide (((10:Int) ^ 18)<=a)))=true then(let b:=(if a<0 then -a else a);b)else b);(kZ a e c f b)))))
def lR(a:Int)(e:Int):Prop:=(let c:=([]:O Int);(let f:=((((a%1999999973)+31)*765432101)%1999999973);(let b:=(0:Int);(let b:Int:=(if((decide (a<0))||(decide (((10:Int) ^ 18)<=a)))=true then(let b:=(if a<0 then -a else a);b)else b);(pH a e c f b)))))
theorem Nq(a:Int)(c:Int):RP pL [Z (zE eI a),Z (zE eI c),Y3,Y3,Y3,Y3] (λr=>Ap.rt (oE eI r)) (bN a c) (Z (lR a c)):=R.tp (cH 2 (rR (iI eI) (Zs Y2)) (λ_=>Y2) λe=>(cH 3 (d8 (Zh (iY (d8 (ao 0 (zE eI) a Y2) 1999999973 ()) (BB 31)) 765432101 ()) 1999999973 ()) (λ_=>Y2) λf=>(cH 4 (BB 0) (λ_=>Y2) λb=>(O2 (λb:Int=>[Z (zE eI a),Z (zE eI c),Z (oE eI e),Z (zE eI f),Z (zE eI b),Y3]) (U0 (f9 (Pt (ao 0 (zE eI) a Y2) (BB 0))) (f9 (Dx (ao 0 (zE eI) a Y2) (Sf 10 18 18 () Y2)))) (bR (cH 4 (Y' (ao 0 (zE eI) a Y2)) (λ_=>Y2) λb=>(cQ (dJ b Y2)))) (cQ (dJ b Y2)) λb=>(GQ a c e f b).r))))
theorem Cd:∀v bs,(aZ eI (aZ eI aN)) v bs->bs.length=2/\(B0 (Z (lR v.1 v.2.1))->lO (bs.map B7)=Z ((oE eI) (bN v.1 v.2.1))):=by
 rintro⟨b,a,_⟩ _ ⟨_,rfl,⟨_,rfl,rfl⟩⟩;exact⟨rfl,λh=>bG (g:=pL) (n:=6) (bs:=[.z (eI b),.z (eI a)]) (Nq b a) h⟩
def gn(i:BM)(g:B5)(a:BE)(j:Int):BE:=(let b:=(Au i (1+j));(let y1:=(Au g (b%5));let y2:=(Au g (((b+1)+((b / (5:Int))%4))%5));let c:=y1;let h:=y2;(let e:=(Au [(1+((b / (300:Int))%3)),(1+((b / (300:Int))%1000))] ((b / (7:Int))%2));(let f:=((b / (20:Int))%5);(let a:BE:=(if(decide (f=0))=true then(let a:=a++[(Dt.tup [(Dt.str "never"),(eS c)])];a)else(let a:BE:=(if(decide (f=1))=true then(let a:=a++[(Dt.tup [(Dt.str "begin"),(eS c),(eI (1+((b / (100:Int))%3))),(eI e)])];a)else(let a:BE:=(if(decide (f=2))=true then(let a:=a++[(Dt.tup [(Dt.str "both"),(eS c),(eS h),(eI e)])];a)else(let a:=a++[(Dt.tup [(Dt.str "same"),(eS c),(eI e)])];a));a));a));a)))))
def oh(f:BM)(e:B5)(c:BE)(g:Int):Prop:=(In f.length (1+g)/\(let a:=(Au f (1+g));((In e.length (a%5)/\In e.length (((a+1)+((a / (5:Int))%4))%5))/\(let y1:=(Au e (a%5));let y2:=(Au e (((a+1)+((a / (5:Int))%4))%5));let j:=y1;let h:=y2;(In [(1+((a / (300:Int))%3)),(1+((a / (300:Int))%1000))].length ((a / (7:Int))%2)/\(let i:=(Au [(1+((a / (300:Int))%3)),(1+((a / (300:Int))%1000))] ((a / (7:Int))%2));(let b:=((a / (20:Int))%5);(((decide (b=0))=true->Ej c.length)/\((decide (b=0))=false->(((decide (b=1))=true->Ej c.length)/\((decide (b=1))=false->(((decide (b=2))=true->Ej c.length)/\((decide (b=2))=false->Ej c.length)))))))))))))
theorem Lf(j:BM)(k:Lp jT (j.map eI))(c:B5)(a:BE)(f:Int):RP zJ [Z jT,Z (oE eS c),Z (oE eD a),Z (zE eI f),Y3,Y3,Y3,Y3,Y3] (λs=>Ap.nx ((λa:BE=>[Z jT,Z (oE eS c),Z (oE eD a),Y3,Y3,Y3,Y3,Y3,Y3]) s)) (gn j c a f) (Z (oh j c a f)):=R.tp (bR (cH 4 (rT (lN 0 eI j k Y2) (iY (BB 1) (ao 3 (zE eI) f Y2))) (λ_=>Y2) λb=>(bR (SD 5 6 (rT (ni (ao 1 (lE eS) c Y2)) (d8 (ao 4 (zE eI) b Y2) 5 ())) (rT (ni (ao 1 (lE eS) c Y2)) (d8 (iY (iY (ao 4 (zE eI) b Y2) (BB 1)) (d8 (kO (ao 4 (zE eI) b Y2) 5 ()) 4 ())) 5 ())) λe i=>(bR (cH 7 (rT (jk (rR (bI (fQ (iY (BB 1) (d8 (kO (ao 4 (zE eI) b Y2) 300 ()) 3 ()))) (bI (fQ (iY (BB 1) (d8 (kO (ao 4 (zE eI) b Y2) 300 ()) 1000 ()))) (iI eI))) (Zs Y2))) (d8 (kO (ao 4 (zE eI) b Y2) 7 ()) 2 ())) (λ_=>Y2) λg=>(bR (cH 8 (d8 (kO (ao 4 (zE eI) b Y2) 20 ()) 5 ()) (λ_=>Y2) λh=>(bR (O2 (λa:BE=>[Z jT,Z (oE eS c),Z (oE eD a),Z (zE eI f),Z (zE eI b),Z (zE eS e),Z (zE eS i),Z (zE eI g),Z (zE eI h)]) (f9 (C5 () (ao 8 (zE eI) h Y2) (BB 0))) (bR (Hh 2 a Y2 (Q8 (bI (EB (.str "never")) (bI (o7 (ao 5 (zE eS) e Y2)) (iI eD))) (Zs Y2)) λa=>(cQ (dJ a Y2)))) (bR (O2 (λa:BE=>[Z jT,Z (oE eS c),Z (oE eD a),Z (zE eI f),Z (zE eI b),Z (zE eS e),Z (zE eS i),Z (zE eI g),Z (zE eI h)]) (f9 (C5 () (ao 8 (zE eI) h Y2) (BB 1))) (bR (Hh 2 a Y2 (Q8 (bI (EB (.str "begin")) (bI (o7 (ao 5 (zE eS) e Y2)) (bI (o7 (fQ (iY (BB 1) (d8 (kO (ao 4 (zE eI) b Y2) 100 ()) 3 ())))) (bI (o7 (ao 7 (zE eI) g Y2)) (iI eD))))) (Zs Y2)) λa=>(cQ (dJ a Y2)))) (bR (O2 (λa:BE=>[Z jT,Z (oE eS c),Z (oE eD a),Z (zE eI f),Z (zE eI b),Z (zE eS e),Z (zE eS i),Z (zE eI g),Z (zE eI h)]) (f9 (C5 () (ao 8 (zE eI) h Y2) (BB 2))) (bR (Hh 2 a Y2 (Q8 (bI (EB (.str "both")) (bI (o7 (ao 5 (zE eS) e Y2)) (bI (o7 (ao 6 (zE eS) i Y2)) (bI (o7 (ao 7 (zE eI) g Y2)) (iI eD))))) (Zs Y2)) λa=>(cQ (dJ a Y2)))) (bR (Hh 2 a Y2 (Q8 (bI (EB (.str "same")) (bI (o7 (ao 5 (zE eS) e Y2)) (bI (o7 (ao 7 (zE eI) g Y2)) (iI eD)))) (Zs Y2)) λa=>(cQ (dJ a Y2)))) λa=>(cQ (dJ a Y2)))) λa=>(cQ (dJ a Y2)))) λa=>(cQ (dJ a Y2))))))))))))
def cI(b:BM):BE:=(let c:=[("day":AK),("name":AK),("names":AK),("p":AK),("zzz":AK)];(let a:=([]:O Dt);(let a:BE:=((rng 0 (1+((Au b 0)%4)).toNat).foldl (λ(a:BE) (e:Int)=>(gn b c a e)) a);a)))
def qy(a:BM):Prop:=(let e:=[("day":AK),("name":AK),("names":AK),("p":AK),("zzz":AK)];(let b:=([]:O Dt);((In a.length 0/\Rg (1+((Au a 0)%4)))/\Gu (λ(b:BE) (c:Int)=>(gn a e b c)) (λ(b:BE) (c:Int)=>Z (oh a e b c)) (rng 0 (1+((Au a 0)%4)).toNat) b)))
theorem VG(b:BM)(c:Lp jT (b.map eI)):RP tX [Z jT,Y3,Y3,Y3,Y3,Y3,Y3,Y3,Y3] (λr=>Ap.rt ((zE (eT eD)) r)) (cI b) (Z (qy b)):=R.tp (cH 1 (rR (bI (Dk "day") (bI (Dk "name") (bI (Dk "names") (bI (Dk "p") (bI (Dk "zzz") (iI eS)))))) (Zs Y2)) (λ_=>Y2) λe=>(cH 2 (rR (iI eD) (Zs Y2)) (λ_=>Y2) λa=>(Kf (λa:BE=>[Z jT,Z (oE eS e),Z (oE eD a),Y3,Y3,Y3,Y3,Y3,Y3]) a Y2 (zm (iY (BB 1) (d8 (rT (lN 0 eI b c Y2) (BB 0)) 4 ()))) _ (λ_ _=>Y2) (λ(a:BE) (f:Int)=>(Lf b c e a f).r) λa=>(bL (λr=>r) (gK (ni (ao 2 (lE eD) a Y2))) (λ_=>Y2) λ_=>Y2))))
theorem HF:∀v bs,(aL eI aN) v bs->bs.length=1/\(B0 (Z (qy v.1))->qu (bs.map B7)=Z ((zE (eT eD)) (cI v.1))):=by
 rintro⟨a,_⟩ _ ⟨jT,_,rfl,b,rfl⟩;exact⟨rfl,λh=>bG (g:=tX) (n:=9) (bs:=[B7 jT]) (VG a (Ed b)) h⟩
def gq(f:BM)(e:AK)(g:AK)(h:Int)(b:B5)(c:Int):B5:=(let i:=(ch e ((c+(Au f 2))%15));(let a:=(((Txt.slice g Y3 (Z h))++i)++(Txt.slice g (Z h) Y3));(let a:AK:=(if(decide (((Au f 3)%3)=1))=true then(let a:=(Txt.mul (ch e (c / (8:Int))) (1+(c%8)));a)else a);(let b:=b++[a];b))))
def ou(b:BM)(c:AK)(e:AK)(f:Int)(i:B5)(a:Int):Prop:=((In b.length 2/\In c.length ((a+(Au b 2))%15))/\(let h:=(ch c ((a+(Au b 2))%15));((Ej ((Txt.slice e Y3 (Z f)).length+h.length)/\Ej (((Txt.slice e Y3 (Z f))++h).length+(Txt.slice e (Z f) Y3).length))/\(let g:=(((Txt.slice e Y3 (Z f))++h)++(Txt.slice e (Z f) Y3));((In b.length 3/\((decide (((Au b 3)%3)=1))=true->(In c.length (a / (8:Int))/\((1+(a%8))<=1000 ∧ -1000<=(1+(a%8))/\(ch c (a / (8:Int))).length<=1000))))/\(let g:AK:=(if(decide (((Au b 3)%3)=1))=true then(let g:=(Txt.mul (ch c (a / (8:Int))) (1+(a%8)));g)else g);Ej i.length))))))
theorem Lg(h:BM)(j:Lp jT (h.map eI))(i:Int)(b:AK)(c:AK)(g:Int)(a:B5)(e:Int):RP su [Z jT,Z (zE eI i),Z (zE eS b),Z (zE eS c),Z (zE eI g),Z (oE eS a),Z (zE eI e),Y3,Y3] (λs=>Ap.nx ((λa:B5=>[Z jT,Z (zE eI i),Z (zE eS b),Z (zE eS c),Z (zE eI g),Z (oE eS a),Y3,Y3,Y3]) s)) (gq h b c g a e) (Z (ou h b c g a e)):=R.tp (bR (cH 7 (U4 (ao 2 (zE eS) b Y2) (d8 (iY (ao 6 (zE eI) e Y2) (rT (lN 0 eI h j Y2) (BB 2))) 15 ())) (λ_=>Y2) λk=>(bR (cH 8 (Q9 (Q9 (Zm (ao 3 (zE eS) c Y2) Eh (Ei (ao 4 (zE eI) g Y2))) (ao 7 (zE eS) k Y2)) (Zm (ao 3 (zE eS) c Y2) (Ei (ao 4 (zE eI) g Y2)) Eh)) (λ_=>Y2) λf=>(bR (O2 (λf:AK=>[Z jT,Z (zE eI i),Z (zE eS b),Z (zE eS c),Z (zE eI g),Z (oE eS a),Z (zE eI e),Z (zE eS k),Z (zE eS f)]) (f9 (C5 () (d8 (rT (lN 0 eI h j Y2) (BB 3)) 3 ()) (BB 1))) (bR (cH 8 (on (U4 (ao 2 (zE eS) b Y2) (kO (ao 6 (zE eI) e Y2) 8 ())) (iY (BB 1) (d8 (ao 6 (zE eI) e Y2) 8 ()))) (λ_=>Y2) λf=>(cQ (dJ f Y2)))) (cQ (dJ f Y2)) λf=>(bR (Hh 5 a Y2 (ao 8 (zE eS) f Y2) λa=>(cQ (dJ a Y2))))))))))
def oA(b:BM)(f:Int)(e:AK)(c:AK):B5:=(let h:=((Au b 1)%((c.length:Int)+1));(let a:=([]:B5);(let a:B5:=((rng 0 f.toNat).foldl (λ(a:B5) (g:Int)=>(gq b e c h a g)) a);a)))
def sJ(b:BM)(g:Int)(f:AK)(c:AK):Prop:=((In b.length 1/\0<((c.length:Int)+1))/\(let h:=((Au b 1)%((c.length:Int)+1));(let a:=([]:B5);(Rg g/\Gu (λ(a:B5) (e:Int)=>(gq b f c h a e)) (λ(a:B5) (e:Int)=>Z (ou b f c h a e)) (rng 0 g.toNat) a))))
def Lh:Ev->Y Ap:=(aF (B8 4 (b2 kJ (b2 fH (gv 0) (cB (.int 1))) (b2 eY (dh qK (aq (gv 3) aG)) (cB (.int 1))))) (aF (B8 5 (dh vX aG)) (aF (sZ (Uh (aq (gv 1) aG)) (iW 6) su) (aF (Qp 5) dN))))
theorem Li(f:BM)(g:Lp jT (f.map eI))(b:Int)(e:AK)(c:AK):RP Lh [Z jT,Z (zE eI b),Z (zE eS e),Z (zE eS c),Y3,Y3,Y3,Y3,Y3] (λr=>Ap.rt (oE eS r)) (oA f b e c) (Z (sJ f b e c)):=R.tp (cH 4 (Ic (rT (lN 0 eI f g Y2) (BB 1)) (iY (Ka (ao 3 (zE eS) c Y2)) (BB 1))) (λ_=>Y2) λh=>(cH 5 (rR (iI eS) (Zs Y2)) (λ_=>Y2) λa=>(Kf (λa:B5=>[Z jT,Z (zE eI b),Z (zE eS e),Z (zE eS c),Z (zE eI h),Z (oE eS a),Y3,Y3,Y3]) a Y2 (zm (ao 1 (zE eI) b Y2)) _ (λ_ _=>Y2) (λ(a:B5) (i:Int)=>(Lg f g b e c h a i).r) λa=>(Pc 5 (λr=>r) a Y2 (λ_=>Y2) λ_=>Y2))))
def dY(a:BM)(c:Int):B5:=(let b:=("abcdefghijklmnopqrstuvwxyz":AK);(let e:=(Txt.join "" ((rng 0 ((Au a 0)%6).toNat).map λf:Int=>(ch b (((Au a f) / (40:Int))%26))));(oA a c b e)))
def uV(a:BM)(e:Int):Prop:=(let c:=("abcdefghijklmnopqrstuvwxyz":AK);(((((In a.length 0/\Rg ((Au a 0)%6))/\(rng 0 ((Au a 0)%6).toNat).length<=100000)/\(∀b∈(rng 0 ((Au a 0)%6).toNat),(In a.length b/\In c.length (((Au a b) / (40:Int))%26))))/\(((rng 0 ((Au a 0)%6).toNat).map λb:Int=>(ch c (((Au a b) / (40:Int))%26))).map (·.length)).sum+((rng 0 ((Au a 0)%6).toNat).map λb:Int=>(ch c (((Au a b) / (40:Int))%26))).length*("":AK).length<=100000)/\(let f:=(Txt.join "" ((rng 0 ((Au a 0)%6).toNat).map λb:Int=>(ch c (((Au a b) / (40:Int))%26))));(sJ a e c f))))
theorem VH(a:BM)(b:Lp jT (a.map eI))(c:Int):RP uc [Z jT,Z (zE eI c),Y3,Y3,Y3,Y3,Y3,Y3,Y3] (λr=>Ap.rt (oE eS r)) (dY a c) (Z (uV a c)):=R.tp (cH 2 (Dk "abcdefghijklmnopqrstuvwxyz") (λ_=>Y2) λe=>(cH 3 (Xj "" (jk (qI (zm (d8 (rT (lN 0 eI a b Y2) (BB 0)) 6 ())) _ (λ_=>Y2) (λg:Int=>(U4 (ao 0 (zE eS) e Y2) (d8 (kO (rT (lN 1 eI a b (congrArg Z (b.get Y2))) (ao 2 (zE eI) g Y2)) 40 ()) 26 ())))))) (λ_=>Y2) λf=>(Li a b c e f).r))
theorem VJ:∀v bs,(aL eI (aZ eI aN)) v bs->bs.length=2/\(B0 (Z (uV v.1 v.2.1))->ud (bs.map B7)=Z ((oE eS) (dY v.1 v.2.1))):=by
 rintro⟨b,a,_⟩ _ ⟨jT,_,rfl,c,⟨_,rfl,rfl⟩⟩;exact⟨rfl,λh=>bG (g:=uc) (n:=9) (bs:=[B7 jT,.z (eI a)]) (VH b (Ed c) a) h⟩
def lU(c:Int)(a:AK)(b:Int):AK:=(let a:=(a++(ch ("ab1":AK) (((c / (16:Int)) / (Au [(1:Int),(3:Int),(9:Int),(27:Int)] b))%3)));a)
def qd(b:Int)(c:AK)(a:Int):Prop:=(((In [(1:Int),(3:Int),(9:Int),(27:Int)].length a/\(0<(Au [(1:Int),(3:Int),(9:Int),(27:Int)] a)/\(Au [(1:Int),(3:Int),(9:Int),(27:Int)] a)<1073741824))/\In ("ab1":AK).length (((b / (16:Int)) / (Au [(1:Int),(3:Int),(9:Int),(27:Int)] a))%3))/\Ej (c.length+(ch ("ab1":AK) (((b / (16:Int)) / (Au [(1:Int),(3:Int),(9:Int),(27:Int)] a))%3)).length))
theorem Nr(b:Int)(a:AK)(c:Int):RP BX [Z (zE eI b),Z (zE eS a),Z (zE eI c)] (λs=>Ap.nx ((λa:AK=>[Z (zE eI b),Z (zE eS a),Y3]) s)) (lU b a c) (Z (qd b a c)):=R.tp (bR (cH 1 (Q9 (ao 1 (zE eS) a Y2) (U4 (Dk "ab1") (d8 (il (kO (ao 0 (zE eI) b Y2) 16 ()) (rT (jk (rR (bI (BB 1) (bI (BB 3) (bI (BB 9) (bI (BB 27) (iI eI))))) (Zs Y2))) (ao 2 (zE eI) c Y2))) 3 ()))) (λ_=>Y2) λa=>(cQ (dJ a Y2))))
def sO(b:Int):AK:=(if(decide ((b%4)=0))=true then(Au [("a":AK),("ab":AK),("abc":AK),("b":AK),("1":AK),("12":AK),("a1":AK)] ((b / (4:Int))%7))else(let a:=("":AK);(let a:AK:=((rng 0 (1+((b / (4:Int))%4)).toNat).foldl (λ(a:AK) (c:Int)=>(lU b a c)) a);a)))
def yd(a:Int):Prop:=(((decide ((a%4)=0))=true->In [("a":AK),("ab":AK),("abc":AK),("b":AK),("1":AK),("12":AK),("a1":AK)].length ((a / (4:Int))%7))/\((decide ((a%4)=0))=false->(let b:=("":AK);(Rg (1+((a / (4:Int))%4))/\Gu (λ(b:AK) (c:Int)=>(lU a b c)) (λ(b:AK) (c:Int)=>Z (qd a b c)) (rng 0 (1+((a / (4:Int))%4)).toNat) b))))
theorem X4(a:Int):RP xu [Z (zE eI a),Y3,Y3] (λr=>Ap.rt (zE eS r)) (sO a) (Z (yd a)):=R.tp (jB (f9 (C5 () (d8 (ao 0 (zE eI) a Y2) 4 ()) (BB 0))) (bR (bL (λr=>r) (rT (jk (rR (bI (Dk "a") (bI (Dk "ab") (bI (Dk "abc") (bI (Dk "b") (bI (Dk "1") (bI (Dk "12") (bI (Dk "a1") (iI eS)))))))) (Zs Y2))) (d8 (kO (ao 0 (zE eI) a Y2) 4 ()) 7 ())) (λ_=>Y2) λ_=>Y2)) (cQ (cH 1 (Dk "") (λ_=>Y2) λb=>(Kf (λb:AK=>[Z (zE eI a),Z (zE eS b),Y3]) b Y2 (zm (iY (BB 1) (d8 (kO (ao 0 (zE eI) a Y2) 4 ()) 4 ()))) _ (λ_ _=>Y2) (λ(b:AK) (c:Int)=>(Nr a b c).r) λb=>(bL (λr=>r) (ao 1 (zE eS) b Y2) (λ_=>Y2) λ_=>Y2)))))
theorem X5:∀v bs,(aZ eI aN) v bs->bs.length=1/\(B0 (Z (yd v.1))->xG (bs.map B7)=Z ((zE eS) (sO v.1))):=by
 rintro⟨a,_⟩ _ ⟨_,rfl,rfl⟩;exact⟨rfl,λh=>bG (g:=xu) (n:=3) (bs:=[.z (eI a)]) (X4 a) h⟩
def jt(c:BM)(e:B5)(a:O qM)(b:Int):(O qM):=(let a:(O qM):=(if(decide ((0:Int)<((Au c b)%4)))=true then(let a:=a++[((Au e b),(sO ((Au c b) / (4:Int))))];a)else a);a)
def q9(b:BM)(c:B5)(e:O qM)(a:Int):Prop:=(In b.length a/\((decide ((0:Int)<((Au b a)%4)))=true->((In c.length a/\(In b.length a/\(yd ((Au b a) / (4:Int)))))/\Ej e.length)))
theorem R6(g:AK)(e:BM){f:Bx}(h:Lp f (e.map eI))(c:B5)(a:O qM)(b:Int):RP Fi [Z (zE eS g),Z f,Z (oE eS c),Z (oE Kw a),Z (zE eI b)] (λs=>Ap.nx ((λa:(O qM)=>[Z (zE eS g),Z f,Z (oE eS c),Z (oE Kw a),Y3]) s)) (jt e c a b) (Z (q9 e c a b)):=R.tp (bR (O2 (λa:(O qM)=>[Z (zE eS g),Z f,Z (oE eS c),Z (oE Kw a),Z (zE eI b)]) (f9 (NF (d8 (rT (lN 1 eI e h Y2) (ao 4 (zE eI) b Y2)) 4 ()) (BB 0))) (bR (Hh 3 a Y2 (Gr (rT (ni (ao 2 (lE eS) c Y2)) (ao 4 (zE eI) b Y2)) (fQ (An X5 (aX (kO (rT (lN 1 eI e h Y2) (ao 4 (zE eI) b Y2)) 4 ()) aM)))) λa=>(cQ (dJ a Y2)))) (cQ (dJ a Y2)) λa=>(cQ (dJ a Y2))))
def gG(f:AK)(c:BM):bM:=(let b:=[("day":AK),("name":AK),(("name":AK)++("s":AK)),("p":AK)];(let a:=([]:O qM);(let a:(O qM):=((rng 0 (kN 4)).foldl (λ(a:O qM) (e:Int)=>(jt c b a e)) a);(f,a))))
def wG(f:AK)(e:BM):Prop:=(Ej (("name":AK).length+("s":AK).length)/\(let c:=[("day":AK),("name":AK),(("name":AK)++("s":AK)),("p":AK)];(let a:=([]:O qM);Gu (λ(a:O qM) (b:Int)=>(jt e c a b)) (λ(a:O qM) (b:Int)=>Z (q9 e c a b)) (rng 0 (kN 4)) a)))
theorem XW(b:AK)(c:BM){e:Bx}(g:Lp e (c.map eI)):RP Ai [Z (zE eS b),Z e,Y3,Y3,Y3] (λr=>Ap.rt (zE aO r)) (gG b c) (Z (wG b c)):=R.tp (cH 2 (rR (bI (Dk "day") (bI (Dk "name") (bI (fQ (Q9 (Dk "name") (Dk "s"))) (bI (Dk "p") (iI eS))))) (Zs Y2)) (λ_=>Y2) λf=>(cH 3 (rR (iI Kw) (Zs Y2)) (λ_=>Y2) λa=>(Kf (λa:(O qM)=>[Z (zE eS b),Z e,Z (oE eS f),Z (oE Kw a),Y3]) a Y2 (wP 4 4 Y2 (by unfold Rg;decide)) _ (λ_ _=>Y2) (λ(a:O qM) (h:Int)=>(R6 b c g f a h).r) λa=>(bL (λr=>r) (Gr (ao 0 (zE eS) b Y2) (gK (ni (ao 3 (lE Kw) a Y2)))) (λ_=>Y2) λ_=>Y2))))
theorem iX:∀v bs,(aZ eS (aL eI aN)) v bs->bs.length=2/\(B0 (Z (wG v.1 v.2.1))->Aj (bs.map B7)=Z ((zE aO) (gG v.1 v.2.1))):=by
 rintro⟨a,e,_⟩ _ ⟨_,rfl,⟨c,_,rfl,b,rfl⟩⟩;exact⟨rfl,λh=>bG (g:=Ai) (n:=5) (bs:=[.z (eS a),B7 c]) (XW a e (Ed b)) h⟩
def fB(e:BM):SL:=(let a:=(bN (cF e 0) 20);(let h:=((cI a),(BI (cI (BI a (Z 5) Y3)) Y3 (Z 2)));(let g:=(dY (BI a (Z 10) Y3) ((Au a 16)%7));(let b:=((rng 0 (g.length:Int).toNat).map λf:Int=>(gG (Au g f) (bN (cF e (1+f)) 4)));(let c:=((Au a 17)%(if(b.length:Int)>1 then(b.length:Int)else 1));(h,((BI b (Z c) Y3)++(BI b Y3 (Z c))),((Au a 18)%((b.length:Int)+1))))))))
def qz(c:BM):Prop:=(((pG c 0)/\(lR (cF c 0) 20))/\(let a:=(bN (cF c 0) 20);(((qy a)/\(qy (BI a (Z 5) Y3)))/\(let h:=((cI a),(BI (cI (BI a (Z 5) Y3)) Y3 (Z 2)));((In a.length 16/\(uV (BI a (Z 10) Y3) ((Au a 16)%7)))/\(let f:=(dY (BI a (Z 10) Y3) ((Au a 16)%7));(((Rg (f.length:Int)/\(rng 0 (f.length:Int).toNat).length<=100000)/\(∀b∈(rng 0 (f.length:Int).toNat),((In f.length b/\((pG c (1+b))/\(lR (cF c (1+b)) 4)))/\(wG (Au f b) (bN (cF c (1+b)) 4)))))/\(let e:=((rng 0 (f.length:Int).toNat).map λb:Int=>(gG (Au f b) (bN (cF c (1+b)) 4)));((In a.length 17/\0<(if(e.length:Int)>1 then(e.length:Int)else 1))/\(let g:=((Au a 17)%(if(e.length:Int)>1 then(e.length:Int)else 1));(Ej ((BI e (Z g) Y3).length+(BI e Y3 (Z g)).length)/\(In a.length 18/\0<((e.length:Int)+1)))))))))))))
theorem VL(b:BM)(e:Lp jT (b.map eI)):RP uf [Z jT,Y3,Y3,Y3,Y3,Y3] (λr=>Ap.rt (zE On r)) (fB b) (Z (qz b)):=R.tp (cH 1 (An Cd (aX (fQ (An Ld (Ik (lN 0 eI b e Y2) (aX (BB 0) aM)))) (aX (BB 20) aM))) (λ_=>Y2) λa=>(cH 2 (Gr (fQ (An HF (Ik (ni (ao 1 (lE eI) a Y2)) aM))) (fQ (L3 (An HF (Ik (GA (Ff (FK (ni (ao 1 (lE eI) a Y2)) (Ei (BB 5)) Eh))) aM)) Eh (Ei (BB 2))))) (λ_=>Y2) λi=>(cH 3 (An VJ (Ik (GA (Ff (FK (ni (ao 1 (lE eI) a Y2)) (Ei (BB 10)) Eh))) (aX (d8 (rT (ni (ao 1 (lE eI) a Y2)) (BB 16)) 7 ()) aM))) (λ_=>Y2) λh=>(cH 4 (qI (zm (CU (ni (ao 3 (lE eS) h Y2)))) _ (λ_=>Y2) (λg:Int=>(fQ (An iX (aX (rT (ni (ao 0 (lE eS) h Y2)) (ao 2 (zE eI) g Y2)) (Ik (GA (Ff (An Cd (aX (fQ (An Ld (Ik (lN 1 eI b e (congrArg Z (e.get Y2))) (aX (fQ (iY (BB 1) (ao 2 (zE eI) g Y2))) aM)))) (aX (BB 4) aM))))) aM)))))) (λ_=>Y2) λc=>(cH 5 (Ic (rT (ni (ao 1 (lE eI) a Y2)) (BB 17)) (nB (BB 1) (CU (ni (ao 4 (lE aO) c Y2))))) (λ_=>Y2) λf=>(bL (λr=>r) (Gs (ao 2 (zE Bl) i Y2) (gK (jk (Xh (jk (FK (ni (ao 4 (lE aO) c Y2)) (Ei (ao 5 (zE eI) f Y2)) Eh)) (jk (FK (ni (ao 4 (lE aO) c Y2)) Eh (Ei (ao 5 (zE eI) f Y2))))))) (Ic (rT (ni (ao 1 (lE eI) a Y2)) (BB 18)) (iY (CU (ni (ao 4 (lE aO) c Y2))) (BB 1)))) (λ_=>Y2) λ_=>Y2))))))
theorem VN:∀v bs,(aL eI aN) v bs->bs.length=1/\(B0 (Z (qz v.1))->ug (bs.map B7)=Z ((zE On) (fB v.1))):=by
 rintro⟨b,_⟩ _ ⟨jT,_,rfl,a,rfl⟩;exact⟨rfl,λh=>bG (g:=uf) (n:=6) (bs:=[B7 jT]) (VL b (Ed a)) h⟩
def lq(a:AK)(b:Unit)(q2:qM):wN (Unit) (Y AK):=(if(decide (q2.1=a))=true then(wN.rt (Z q2.2))else(wN.nx lm))
theorem R7(c:bM)(a:AK)(b:Unit)(q2:qM):RP Fj [Z (zE aO c),Z (zE eS a),Z ((zE eS) q2.1),Z ((zE eS) q2.2)] (cC (λb:Unit=>[Z (zE aO c),Z (zE eS a),Y3,Y3]) (zE (eO eS))) (lq a b q2) (Y3):=R.tp (bR (jB (f9 (C5 () (ao 2 (zE eS) q2.1 Y2) (ao 1 (zE eS) a Y2))) (bR (bL .rt (J6 (ao 3 (zE eS) q2.2 Y2)) (λ_=>Y2) λ_=>Y2)) (cQ (cQ (dJ (.nx lm) Y2)))))
def fK(b:bM)(c:AK):(Y AK):=(By (oY (λ(a:Unit) (q2:qM)=>((lq c a q2):wN (Unit) (Y AK))) b.2 lm) (λr=>r) λa:Unit=>Y3)
def lu(b:bM)(c:AK):Prop:=(yx (λ(a:Unit) (q2:qM)=>((lq c a q2):wN (Unit) (Y AK))) (λ(a:Unit) (q2:qM)=>Y3) b.2 lm/\(Ep (oY (λ(a:Unit) (q2:qM)=>((lq c a q2):wN (Unit) (Y AK))) b.2 lm) λa:Unit=>True))
theorem dS(a:bM)(b:AK):RP Ak [Z (zE aO a),Z (zE eS b),Y3,Y3] (λr=>Ap.rt ((zE (eO eS)) r)) (fK a b) (Z (lu a b)):=R.tp (Rb (λc:Unit=>[Z (zE aO a),Z (zE eS b),Y3,Y3]) lm Y2 (Xs (jA (ao 0 (zE aO) a Y2) (λq=>q.2) (eT Kw) 1 λ_=>Y2)) _ (λ_ _=>Y2) (λ(c:Unit) (q2:qM)=>((R7 a b c q2).r:R _ _ (cC (λc:Unit=>[Z (zE aO a),Z (zE eS b),Y3,Y3]) (zE (eO eS))))) (λr=>r) (λ_=>Y2) λc=>(bL (λr=>r) Q6 (λ_=>Y2) λ_=>Y2))
theorem rH:∀v bs,(aZ aO (aZ eS aN)) v bs->bs.length=2/\(B0 (Z (lu v.1 v.2.1))->iM (bs.map B7)=Z ((zE (eO eS)) (fK v.1 v.2.1))):=by
 rintro⟨a,b,_⟩ _ ⟨_,rfl,⟨_,rfl,rfl⟩⟩;exact⟨rfl,λh=>bG (g:=Ak) (n:=4) (bs:=[.z (aO a),.z (eS b)]) (dS a b) h⟩
def je(c:bM)(e:bM)(b:AK):Bool:=(let a:=(fK c b);(a.isSome&&(decide (a=(fK e b)))))
def mY(b:bM)(e:bM)(a:AK):Prop:=((lu b a)/\(let c:=(fK b a);(c.isSome=true->(lu e a))))
theorem VP(c:bM)(b:bM)(a:AK):RP uh [Z (zE aO c),Z (zE aO b),Z (zE eS a),Y3] (λr=>Ap.rt (zE eB r)) (je c b a) (Z (mY c b a)):=R.tp (cH 3 (An rH (aX (ao 0 (zE aO) c Y2) (aX (ao 2 (zE eS) a Y2) aM))) (λ_=>Y2) λe=>(bL (λr=>r) (fu (Q7 (ao 3 (zE (eO eS)) e Y2) λ_=>Y2) (C5 () (ao 3 (zE (eO eS)) e Y2) (An rH (aX (ao 1 (zE aO) b Y2) (aX (ao 2 (zE eS) a Y2) aM))))) (λ_=>Y2) λ_=>Y2))
theorem zT:∀v bs,(aZ aO (aZ aO (aZ eS aN))) v bs->bs.length=3/\(B0 (Z (mY v.1 v.2.1 v.2.2.1))->mV (bs.map B7)=Z ((zE eB) (je v.1 v.2.1 v.2.2.1))):=by
 rintro⟨a,b,c,_⟩ _ ⟨_,rfl,⟨_,rfl,⟨_,rfl,rfl⟩⟩⟩;exact⟨rfl,λh=>bG (g:=uh) (n:=4) (bs:=[.z (aO a),.z (aO b),.z (eS c)]) (VP a b c) h⟩
def lV(f:bM)(g:bM)(e:AK)(a:Int):Bool:=(let b:=(fK f e);(let c:=(fK g e);(if(b.isNone||c.isNone)=true then false else((decide (a<=((b.getD default).length:Int)))&&((decide (a<=((c.getD default).length:Int)))&&(decide ((Z (Txt.slice (b.getD default) Y3 (Z a)))=(Z (Txt.slice (c.getD default) Y3 (Z a))))))))))
def lW(f:bM)(g:bM)(b:AK)(e:Int):Prop:=((lu f b)/\(let a:=(fK f b);((lu g b)/\(let c:=(fK g b);((a.isNone||c.isNone)=false->(a.isSome=true/\((decide (e<=((a.getD default).length:Int)))=true->(c.isSome=true/\((decide (e<=((c.getD default).length:Int)))=true->(a.isSome=true/\c.isSome=true))))))))))
theorem Nt(c:bM)(e:bM)(b:AK)(a:Int):RP pN [Z (zE aO c),Z (zE aO e),Z (zE eS b),Z (zE eI a),Y3,Y3] (λr=>Ap.rt (zE eB r)) (lV c e b a) (Z (lW c e b a)):=R.tp (cH 4 (An rH (aX (ao 0 (zE aO) c Y2) (aX (ao 2 (zE eS) b Y2) aM))) (λ_=>Y2) λf=>(cH 5 (An rH (aX (ao 1 (zE aO) e Y2) (aX (ao 2 (zE eS) b Y2) aM))) (λ_=>Y2) λg=>(jB (U0 (f9 (Zj (ao 4 (zE (eO eS)) f Y2) λ_=>Y2)) (f9 (Zj (ao 5 (zE (eO eS)) g Y2) λ_=>Y2))) (bR (bL (λr=>r) (rQ (.bl false) eB false Y2) (λ_=>Y2) λ_=>Y2)) (cQ (bL (λr=>r) (fu (Dx (Ka (UG (ao 4 (zE (eO eS)) f Y2))) (ao 3 (zE eI) a Y2)) (fu (Dx (Ka (UG (ao 5 (zE (eO eS)) g Y2))) (ao 3 (zE eI) a Y2)) (C5 () (J6 (Zm (UG (ao 4 (zE (eO eS)) f Y2)) Eh (Ei (ao 3 (zE eI) a Y2)))) (J6 (Zm (UG (ao 5 (zE (eO eS)) g Y2)) Eh (Ei (ao 3 (zE eI) a Y2))))))) (λ_=>Y2) λ_=>Y2)))))
theorem Nu:∀v bs,(aZ aO (aZ aO (aZ eS (aZ eI aN)))) v bs->bs.length=4/\(B0 (Z (lW v.1 v.2.1 v.2.2.1 v.2.2.2.1))->pO (bs.map B7)=Z ((zE eB) (lV v.1 v.2.1 v.2.2.1 v.2.2.2.1))):=by
 rintro⟨a,b,e,c,_⟩ _ ⟨_,rfl,⟨_,rfl,⟨_,rfl,⟨_,rfl,rfl⟩⟩⟩⟩;exact⟨rfl,λh=>bG (g:=pN) (n:=6) (bs:=[.z (aO a),.z (aO b),.z (eS e),.z (eI c)]) (Nt a b e c) h⟩
def oF(e:bM)(f:bM)(b:AK):Bool:=(let a:=(fK e b);(let c:=(fK f b);(a.isSome&&(c.isSome&&(!decide (a=c))))))
def rC(b:bM)(c:bM)(a:AK):Prop:=((lu b a)/\(let e:=(fK b a);(lu c a)))
theorem R8(b:bM)(c:bM)(a:AK):RP qN [Z (zE aO b),Z (zE aO c),Z (zE eS a),Y3,Y3] (λr=>Ap.rt (zE eB r)) (oF b c a) (Z (rC b c a)):=R.tp (cH 3 (An rH (aX (ao 0 (zE aO) b Y2) (aX (ao 2 (zE eS) a Y2) aM))) (λ_=>Y2) λe=>(cH 4 (An rH (aX (ao 1 (zE aO) c Y2) (aX (ao 2 (zE eS) a Y2) aM))) (λ_=>Y2) λf=>(bL (λr=>r) (fu (Q7 (ao 3 (zE (eO eS)) e Y2) λ_=>Y2) (fu (Q7 (ao 4 (zE (eO eS)) f Y2) λ_=>Y2) (UL () (ao 3 (zE (eO eS)) e Y2) (ao 4 (zE (eO eS)) f Y2)))) (λ_=>Y2) λ_=>Y2)))
theorem R9:∀v bs,(aZ aO (aZ aO (aZ eS aN))) v bs->bs.length=3/\(B0 (Z (rC v.1 v.2.1 v.2.2.1))->qO (bs.map B7)=Z ((zE eB) (oF v.1 v.2.1 v.2.2.1))):=by
 rintro⟨a,b,c,_⟩ _ ⟨_,rfl,⟨_,rfl,⟨_,rfl,rfl⟩⟩⟩;exact⟨rfl,λh=>bG (g:=qN) (n:=5) (bs:=[.z (aO a),.z (aO b),.z (eS c)]) (R8 a b c) h⟩
def uW(a:Dt)(b:bM)(c:bM):Bool:=(if(Ms (fX a 0) (Dt.str "same"))=true then(je b c (yw (fX a 1)))else(if(Ms (fX a 0) (Dt.str "begin"))=true then(lV b c (yw (fX a 1)) (Cv (fX a 2)))else(if(Ms (fX a 0) (Dt.str "both"))=true then((je b c (yw (fX a 1)))&&(je b c (yw (fX a 2))))else(oF b c (yw (fX a 1))))))
def Fq(a:Dt)(b:bM)(c:bM):Prop:=((Af a (0:Int)/\Zi (fX a 0) (Dt.str "same"))/\(((Ms (fX a 0) (Dt.str "same"))=true->((Af a (1:Int)/\(fX a 1)=eS (yw (fX a 1)))/\(mY b c (yw (fX a 1)))))/\((Ms (fX a 0) (Dt.str "same"))=false->((Af a (0:Int)/\Zi (fX a 0) (Dt.str "begin"))/\(((Ms (fX a 0) (Dt.str "begin"))=true->(((Af a (1:Int)/\(fX a 1)=eS (yw (fX a 1)))/\(Af a (2:Int)/\(fX a 2)=eI (Cv (fX a 2))))/\(lW b c (yw (fX a 1)) (Cv (fX a 2)))))/\((Ms (fX a 0) (Dt.str "begin"))=false->((Af a (0:Int)/\Zi (fX a 0) (Dt.str "both"))/\(((Ms (fX a 0) (Dt.str "both"))=true->(((Af a (1:Int)/\(fX a 1)=eS (yw (fX a 1)))/\(mY b c (yw (fX a 1))))/\((je b c (yw (fX a 1)))=true->((Af a (2:Int)/\(fX a 2)=eS (yw (fX a 2)))/\(mY b c (yw (fX a 2)))))))/\((Ms (fX a 0) (Dt.str "both"))=false->((Af a (1:Int)/\(fX a 1)=eS (yw (fX a 1)))/\(rC b c (yw (fX a 1)))))))))))))
theorem VE(a:Dt)(b:bM)(c:bM):RP Jo [Z (zE eD a),Z (zE aO b),Z (zE aO c)] (λr=>Ap.rt (zE eB r)) (uW a b c) (Z (Fq a b c)):=R.tp (jB (f9 (UW (jJ (ao 0 (zE eD) a Y2) (BB 0)) (EB (.str "same")))) (bR (bL (λr=>r) (An zT (aX (ao 1 (zE aO) b Y2) (aX (ao 2 (zE aO) c Y2) (aX (iD (jJ (ao 0 (zE eD) a Y2) (BB 1)) yw eS) aM)))) (λ_=>Y2) λ_=>Y2)) (cQ (jB (f9 (UW (jJ (ao 0 (zE eD) a Y2) (BB 0)) (EB (.str "begin")))) (bR (bL (λr=>r) (An Nu (aX (ao 1 (zE aO) b Y2) (aX (ao 2 (zE aO) c Y2) (aX (iD (jJ (ao 0 (zE eD) a Y2) (BB 1)) yw eS) (aX (iD (jJ (ao 0 (zE eD) a Y2) (BB 2)) Cv eI) aM))))) (λ_=>Y2) λ_=>Y2)) (cQ (jB (f9 (UW (jJ (ao 0 (zE eD) a Y2) (BB 0)) (EB (.str "both")))) (bR (bL (λr=>r) (fu (An zT (aX (ao 1 (zE aO) b Y2) (aX (ao 2 (zE aO) c Y2) (aX (iD (jJ (ao 0 (zE eD) a Y2) (BB 1)) yw eS) aM)))) (An zT (aX (ao 1 (zE aO) b Y2) (aX (ao 2 (zE aO) c Y2) (aX (iD (jJ (ao 0 (zE eD) a Y2) (BB 2)) yw eS) aM))))) (λ_=>Y2) λ_=>Y2)) (cQ (bL (λr=>r) (An R9 (aX (ao 1 (zE aO) b Y2) (aX (ao 2 (zE aO) c Y2) (aX (iD (jJ (ao 0 (zE eD) a Y2) (BB 1)) yw eS) aM)))) (λ_=>Y2) λ_=>Y2)))))))
theorem b8:∀v bs,(aZ eD (aZ aO (aZ aO aN))) v bs->bs.length=3/\(B0 (Z (Fq v.1 v.2.1 v.2.2.1))->Jp (bs.map B7)=Z ((zE eB) (uW v.1 v.2.1 v.2.2.1))):=by
 rintro⟨c,a,b,_⟩ _ ⟨_,rfl,⟨_,rfl,⟨_,rfl,rfl⟩⟩⟩;exact⟨rfl,λh=>bG (g:=Jo) (n:=3) (bs:=[.z (eD c),.z (aO a),.z (aO b)]) (VE c a b) h⟩
def jD(a:O bM)(c:BE):(O Eu):=((nJ a).flatMap λq1:LB=>((BI a (Z (q1.1+1)) Y3).flatMap λb:bM=>(((iz 0 c).filter λq2:FB=>(uW q2.2 q1.2 b)).map λq2:FB=>(q2.2,(q1.2.1,b.1,q2.1)))))
def Bf(a:O bM)(c:BE):Prop:=((∀q1∈(nJ a),(∀b∈(BI a (Z (q1.1+1)) Y3),(∀q2∈(iz 0 c),(Fq q2.2 q1.2 b))))/\((nJ a).flatMap λq1:LB=>((BI a (Z (q1.1+1)) Y3).flatMap λb:bM=>(((iz 0 c).filter λq2:FB=>(uW q2.2 q1.2 b)).map λq2:FB=>(q2.2,(q1.2.1,b.1,q2.1))))).length<=100000)
theorem i5(a:O bM)(c:Lp jT (a.map aO))(b:BE):RP Al [Z jT,Z ((zE (eT eD)) b)] (λr=>Ap.rt (oE IY r)) (jD a b) (Z (Bf a b)):=R.tp (bL (λr=>r) (ft (mP (Th (lN 0 aO a c Y2)) _ (λ_=>Y2) (λq1:LB=>(WB (HQ (FK (lN 0 aO a c (congrArg Z (c.get Y2))) (Ei (iY (ao 2 (zE eI) q1.1 Y2) (BB 1))) Eh)) _ (λ_=>Y2) (λe:bM=>(iA (Se (ao 1 (zE (eT eD)) b Y2)) _ (λ_=>Y2) (λq2:FB=>(zj (An b8 (aX (ao 6 (zE eD) q2.2 Y2) (aX (ao 3 (zE aO) q1.2 Y2) (aX (ao 4 (zE aO) e Y2) aM)))))) (λq2:FB=>(Gr (ao 6 (zE eD) q2.2 Y2) (Gs (jA (ao 3 (zE aO) q1.2 Y2) (λq=>q.1) eS 0 λ_=>Y2) (jA (ao 4 (zE aO) e Y2) (λq=>q.1) eS 0 λ_=>Y2) (ao 5 (zE eI) q2.1 Y2)))))))))) (λ_=>Y2) λ_=>Y2)
theorem UI:∀v bs,(aL aO (aZ (eT eD) aN)) v bs->bs.length=2/\(B0 (Z (Bf v.1 v.2.1))->Am (bs.map B7)=Z ((oE IY) (jD v.1 v.2.1))):=by
 rintro⟨c,a,_⟩ _ ⟨jT,_,rfl,b,⟨_,rfl,rfl⟩⟩;exact⟨rfl,λh=>bG (g:=Al) (n:=2) (bs:=[B7 jT,.z (eT eD a)]) (i5 c (Ed b) a) h⟩
def bh(a:dH):dH:=(let q1:=a;((-q1.1),q1.2.1,q1.2.2.1,q1.2.2.2))
theorem X6(a:dH):RP xH [Z (zE dI a),Y3,Y3,Y3,Y3] (λr=>Ap.rt (zE dI r)) (bh a) Y3:=R.tp (Hg (ao 0 (zE dI) a Y2) _ (λ_=>Y2) λq1=>(bL (λr=>r) (gE (SE (ao 1 (zE eI) q1.1 Y2)) (ao 2 (zE eS) q1.2.1 Y2) (ao 3 (zE eS) q1.2.2.1 Y2) (ao 4 (zE eI) q1.2.2.2 Y2)) (λ_=>Y2) λ_=>Y2))
theorem Lj:∀v bs,(aZ dI aN) v bs->bs.length=1/\(B0 (Y3)->pC (bs.map B7)=Z ((zE dI) (bh v.1))):=by
 rintro⟨a,_⟩ _ ⟨_,rfl,rfl⟩;exact⟨rfl,λh=>bG (g:=xH) (n:=5) (bs:=[.z (dI a)]) (X6 a) h⟩
def cg(a:O dH):(O dH):=(yC dI (λx:dH=>bh x) a)
def mL(a:O dH):Prop:=((∀x∈a,True)/\a.length<=100000/\∀x∈a,∀y∈a,bh x=bh y->x=y)
theorem X7(a:O dH)(b:Lp jT (a.map dI)):RP xJ [Z jT] (λr=>Ap.rt (oE dI r)) (cg a) (Z (mL a)):=R.tp (bL (λr=>r) (gp (e':=dI) Lj (uS (lN 0 dI a b Y2))) (λ_=>Y2) λ_=>Y2)
theorem CV:∀v bs,(aL dI aN) v bs->bs.length=1/\(B0 (Z (mL v.1))->jV (bs.map B7)=Z ((oE dI) (cg v.1))):=by
 rintro⟨b,_⟩ _ ⟨jT,_,rfl,a,rfl⟩;exact⟨rfl,λh=>bG (g:=xJ) (n:=1) (bs:=[B7 jT]) (X7 b (Ed a)) h⟩
def aB(b:O bM)(c:BE):Bm:=(let a:=(yC eS (λh:bM=>h.1) b);(let vx:=(jD a c);(let e:=((vx.filter λq1:Eu=>(!Ms (fX q1.1 0) (Dt.str "never"))).map λq1:Eu=>((Cv (fX q1.1 (-(1:Int)))),q1.2.1,q1.2.2.1,q1.2.2.2));(let g:=((vx.filter λq2:Eu=>(Ms (fX q2.1 0) (Dt.str "never"))).map λq2:Eu=>q2.2);((a.map λf:bM=>f.1),(cg e),(jK eE g))))))
def dF(a:O bM)(e:BE):Prop:=(((∀b∈a,True)/\a.length<=100000/\(a.map λb:bM=>b.1).Nodup)/\(let c:=(yC eS (λb:bM=>b.1) a);((Bf c e)/\(let vx:=(jD c e);((vx.length<=100000/\(∀q1∈vx,((Af q1.1 (0:Int)/\Zi (fX q1.1 0) (Dt.str "never"))/\((!Ms (fX q1.1 0) (Dt.str "never"))=true->(Af q1.1 (-(1:Int))/\(fX q1.1 (-(1:Int)))=eI (Cv (fX q1.1 (-(1:Int)))))))))/\(let f:=((vx.filter λq1:Eu=>(!Ms (fX q1.1 0) (Dt.str "never"))).map λq1:Eu=>((Cv (fX q1.1 (-(1:Int)))),q1.2.1,q1.2.2.1,q1.2.2.2));((vx.length<=100000/\(∀q2∈vx,(Af q2.1 (0:Int)/\Zi (fX q2.1 0) (Dt.str "never"))))/\(let g:=((vx.filter λq2:Eu=>(Ms (fX q2.1 0) (Dt.str "never"))).map λq2:Eu=>q2.2);(c.length<=100000/\((mL f)/\g.length<=100000))))))))))
theorem VR(a:O bM)(b:BE):RP um [Z ((zE (eT aO)) a),Z ((zE (eT eD)) b),Y3,Y3,Y3,Y3] (λr=>Ap.rt (zE jR r)) (aB a b) (Z (dF a b)):=R.tp (cH 2 (Sr (e':=eS) (Wp (ao 0 (zE (eT aO)) a Y2)) (λh:bM=>(jA (ao 0 (zE aO) h Y2) (λq=>q.1) eS 0 λ_=>Y2))) (λ_=>Y2) λc=>(cH 3 (An UI (Ik (ni (ao 2 (lE aO) c Y2)) (aX (ao 1 (zE (eT eD)) b Y2) aM))) (λ_=>Y2) λvx=>(cH 4 (Zt (IP (ni (ao 3 (lE IY) vx Y2))) _ (λ_=>Y2) (λq1:Eu=>(f9 (OL (jJ (ao 0 (zE eD) q1.1 Y2) (BB 0)) (EB (.str "never"))))) (λq1:Eu=>(fQ (Xl (e3:=dI) (Xg (iD (jJ (ao 0 (zE eD) q1.1 Y2) (SE (BB 1))) Cv eI)) (ao 1 (zE eE) q1.2 Y2) (λx y=>(x,y.1,y.2.1,y.2.2)) λ_ _=>Y2)))) (λ_=>Y2) λe=>(cH 5 (Zt (IP (ni (ao 3 (lE IY) vx Y2))) _ (λ_=>Y2) (λq2:Eu=>(f9 (UW (jJ (ao 0 (zE eD) q2.1 Y2) (BB 0)) (EB (.str "never"))))) (λq2:Eu=>(ao 1 (zE eE) q2.2 Y2))) (λ_=>Y2) λg=>(bL (λr=>r) (Gs (gK (jk (lY (IP (ni (ao 2 (lE aO) c Y2))) _ (λ_=>Y2) (λf:bM=>(jA (ao 0 (zE aO) f Y2) (λq=>q.1) eS 0 λ_=>Y2)) λ_=>Y2))) (gK (jk (An CV (Ik (ni (ao 4 (lE dI) e Y2)) aM)))) (gK (jk (Xr (ni (ao 5 (lE eE) g Y2)))))) (λ_=>Y2) λ_=>Y2)))))
theorem gR:∀v bs,(aZ (eT aO) (aZ (eT eD) aN)) v bs->bs.length=2/\(B0 (Z (dF v.1 v.2.1))->cU (bs.map B7)=Z ((zE jR) (aB v.1 v.2.1))):=by
 rintro⟨a,b,_⟩ _ ⟨_,rfl,⟨_,rfl,rfl⟩⟩;exact⟨rfl,λh=>bG (g:=um) (n:=6) (bs:=[.z (eT aO a),.z (eT eD b)]) (VR a b) h⟩
def cX(a:Dt)(b:Int):Bool:=((As a)&&(decide ((Ij a)=b)))
def mO(a:Dt)(b:Int):Prop:=((As a)=true->MN a=true)
theorem X8(a:Dt)(b:Int):RP xK [Z (zE eD a),Z (zE eI b)] (λr=>Ap.rt (zE eB r)) (cX a b) (Z (mO a b)):=R.tp (bL (λr=>r) (fu (Ek As (ao 0 (zE eD) a Y2)) (C5 () (Xi (ao 0 (zE eD) a Y2)) (ao 1 (zE eI) b Y2))) (λ_=>Y2) λ_=>Y2)
theorem yg:∀v bs,(aZ eD (aZ eI aN)) v bs->bs.length=2/\(B0 (Z (mO v.1 v.2.1))->ig (bs.map B7)=Z ((zE eB) (cX v.1 v.2.1))):=by
 rintro⟨a,b,_⟩ _ ⟨_,rfl,⟨_,rfl,rfl⟩⟩;exact⟨rfl,λh=>bG (g:=xK) (n:=2) (bs:=[.z (eD a),.z (eI b)]) (X8 a b) h⟩
def ju(a:Dt)(c:AK)(b:Int):Bool:=((gB a)&&(((decide ((1:Int)<=(Ij a)))&&(decide ((Ij a)<=b)))&&(((U6 a).map λe:Dt=>(qp (yw e) c)).all id)))
def oG(a:Dt)(e:AK)(c:Int):Prop:=((gB a)=true->((MN a=true/\((decide ((1:Int)<=(Ij a)))=true->MN a=true))/\(((decide ((1:Int)<=(Ij a)))&&(decide ((Ij a)<=c)))=true->((MN a=true/\(U6 a).length<=100000)/\(∀b∈(U6 a),b=eS (yw b))))))
theorem Sg(a:Dt)(c:AK)(b:Int):RP qP [Z (zE eD a),Z (zE eS c),Z (zE eI b)] (λr=>Ap.rt (zE eB r)) (ju a c b) (Z (oG a c b)):=R.tp (bL (λr=>r) (fu (Ek gB (ao 0 (zE eD) a Y2)) (fu (Hc (UJ (BB 1) (Xi (ao 0 (zE eD) a Y2))) (UJ (Xi (ao 0 (zE eD) a Y2)) (ao 2 (zE eI) b Y2))) (yu (jk (qI (N1 (ao 0 (zE eD) a Y2)) _ (λ_=>Y2) (λe:Dt=>(OR (iD (ao 1 (zE eD) e Y2) yw eS) (ao 0 (zE eS) c Y2)))))))) (λ_=>Y2) λ_=>Y2)
theorem Sh:∀v bs,(aZ eD (aZ eS (aZ eI aN))) v bs->bs.length=3/\(B0 (Z (oG v.1 v.2.1 v.2.2.1))->qQ (bs.map B7)=Z ((zE eB) (ju v.1 v.2.1 v.2.2.1))):=by
 rintro⟨b,c,a,_⟩ _ ⟨_,rfl,⟨_,rfl,⟨_,rfl,rfl⟩⟩⟩;exact⟨rfl,λh=>bG (g:=qP) (n:=3) (bs:=[.z (eD b),.z (eS c),.z (eI a)]) (Sg b c a) h⟩
def bF(a:Dt):Bool:=(ju a ("abcdefghijklmnopqrstuvwxyz":AK) 8)
def gH(a:Dt):Prop:=(oG a ("abcdefghijklmnopqrstuvwxyz":AK) 8)
theorem TH(a:Dt):RP Ao [Z (zE eD a)] (λr=>Ap.rt (zE eB r)) (bF a) (Z (gH a)):=R.tp (bL (λr=>r) (An Sh (aX (ao 0 (zE eD) a Y2) (aX (Dk "abcdefghijklmnopqrstuvwxyz") (aX (BB 8) aM)))) (λ_=>Y2) λ_=>Y2)
theorem lB:∀v bs,(aZ eD aN) v bs->bs.length=1/\(B0 (Z (gH v.1))->dU (bs.map B7)=Z ((zE eB) (bF v.1))):=by
 rintro⟨a,_⟩ _ ⟨_,rfl,rfl⟩;exact⟨rfl,λh=>bG (g:=Ao) (n:=1) (bs:=[.z (eD a)]) (TH a) h⟩
def rD(a:B5):Bool:=(((rng 0 ((a.length:Int)-1).toNat).map λb:Int=>(Cu (Au a b) (Au a (b+1)))).all id)
def rE(a:B5):Prop:=((Rg ((a.length:Int)-1)/\(rng 0 ((a.length:Int)-1).toNat).length<=100000)/\(∀b∈(rng 0 ((a.length:Int)-1).toNat),(In a.length b/\In a.length (b+1))))
theorem Sq(a:B5):RP gM [Z ((zE (eT eS)) a)] (λr=>Ap.rt (zE eB r)) (rD a) (Z (rE a)):=R.tp (bL (λr=>r) (yu (jk (qI (zm (LL (J9 (ao 0 (zE (eT eS)) a Y2)) (BB 1))) _ (λ_=>Y2) (λb:Int=>(TU (OJ (ao 0 (zE (eT eS)) a Y2) (ao 1 (zE eI) b Y2)) (OJ (ao 0 (zE (eT eS)) a Y2) (iY (ao 1 (zE eI) b Y2) (BB 1)))))))) (λ_=>Y2) λ_=>Y2)
theorem Ss:∀v bs,(aZ (eT eS) aN) v bs->bs.length=1/\(B0 (Z (rE v.1))->eH (bs.map B7)=Z ((zE eB) (rD v.1))):=by
 rintro⟨a,_⟩ _ ⟨_,rfl,rfl⟩;exact⟨rfl,λh=>bG (g:=gM) (n:=1) (bs:=[.z (eT eS a)]) (Sq a) h⟩
def mZ(a:B5):Bool:=((As (eT eS a))&&(((a.map λb:AK=>(bF (eS b))).all id)&&(rD a)))
def uX(a:B5):Prop:=((As (eT eS a))=true->((a.length<=100000/\(∀b∈a,(gH (eS b))))/\(((a.map λb:AK=>(bF (eS b))).all id)=true->(rE a))))
theorem V0(a:B5):RP uo [Z ((zE (eT eS)) a)] (λr=>Ap.rt (zE eB r)) (mZ a) (Z (uX a)):=R.tp (bL (λr=>r) (fu (Ek As (ao 0 (zE (eT eS)) a Y2)) (fu (yu (jk (qI (yG (ao 0 (zE (eT eS)) a Y2)) _ (λ_=>Y2) (λb:AK=>(fQ (An lB (aX (o7 (ao 0 (zE eS) b Y2)) aM))))))) (An Ss (aX (ao 0 (zE (eT eS)) a Y2) aM)))) (λ_=>Y2) λ_=>Y2)
theorem V1:∀v bs,(aZ (eT eS) aN) v bs->bs.length=1/\(B0 (Z (uX v.1))->uq (bs.map B7)=Z ((zE eB) (mZ v.1))):=by
 rintro⟨a,_⟩ _ ⟨_,rfl,rfl⟩;exact⟨rfl,λh=>bG (g:=uo) (n:=1) (bs:=[.z (eT eS a)]) (V0 a) h⟩
def iw(a:Dt):Bool:=((Gm a)&&(!(BU a)))
theorem Yc(a:Dt):RP xM [Z (zE eD a)] (λr=>Ap.rt (zE eB r)) (iw a) Y3:=R.tp (bL (λr=>r) (fu (Ek Gm (ao 0 (zE eD) a Y2)) (r8 (Ek BU (ao 0 (zE eD) a Y2)))) (λ_=>Y2) λ_=>Y2)
theorem CW:∀v bs,(aZ eD aN) v bs->bs.length=1/\(B0 (Y3)->jW (bs.map B7)=Z ((zE eB) (iw v.1))):=by
 rintro⟨a,_⟩ _ ⟨_,rfl,rfl⟩;exact⟨rfl,λh=>bG (g:=xM) (n:=1) (bs:=[.z (eD a)]) (Yc a) h⟩
def gU(a:Dt):Bool:=((iw a)&&((decide ((1:Int)<=(Cv a)))&&(decide ((Cv a)<=1000))))
def j5(a:Dt):Prop:=((iw a)=true->(a=eI (Cv a)/\((decide ((1:Int)<=(Cv a)))=true->a=eI (Cv a))))
theorem V2(a:Dt):RP ur [Z (zE eD a)] (λr=>Ap.rt (zE eB r)) (gU a) (Z (j5 a)):=R.tp (bL (λr=>r) (fu (An CW (aX (ao 0 (zE eD) a Y2) aM)) (Hc (UJ (BB 1) (iD (ao 0 (zE eD) a Y2) Cv eI)) (UJ (iD (ao 0 (zE eD) a Y2) Cv eI) (BB 1000)))) (λ_=>Y2) λ_=>Y2)
theorem uY:∀v bs,(aZ eD aN) v bs->bs.length=1/\(B0 (Z (j5 v.1))->iZ (bs.map B7)=Z ((zE eB) (gU v.1))):=by
 rintro⟨a,_⟩ _ ⟨_,rfl,rfl⟩;exact⟨rfl,λh=>bG (g:=ur) (n:=1) (bs:=[.z (eD a)]) (V2 a) h⟩
def sS(a:Dt):Bool:=(if(!(cX a 3))=true then false else(let q1:=(HG a);((bF q1.1)&&((bF q1.2.1)&&((Cu (yw q1.1) (yw q1.2.1))&&((iw q1.2.2)&&(decide ((0:Int)<=(Cv q1.2.2)))))))))
def zU(a:Dt):Prop:=((mO a 3)/\((!(cX a 3))=false->(a=S0 (HG a)/\(let q1:=(HG a);((gH q1.1)/\((bF q1.1)=true->((gH q1.2.1)/\((bF q1.2.1)=true->((q1.1=eS (yw q1.1)/\q1.2.1=eS (yw q1.2.1))/\((Cu (yw q1.1) (yw q1.2.1))=true->((iw q1.2.2)=true->q1.2.2=eI (Cv q1.2.2))))))))))))
theorem g9(a:Dt):RP Fl [Z (zE eD a),Y3,Y3,Y3] (λr=>Ap.rt (zE eB r)) (sS a) (Z (zU a)):=R.tp (jB (wk (zj (An yg (aX (ao 0 (zE eD) a Y2) (aX (BB 3) aM))))) (bR (bL (λr=>r) (rQ (.bl false) eB false Y2) (λ_=>Y2) λ_=>Y2)) (cQ (Hg (iD (ao 0 (zE eD) a Y2) HG S0) _ (λ_=>Y2) λq1=>(bL (λr=>r) (fu (An lB (aX (ao 1 (zE eD) q1.1 Y2) aM)) (fu (An lB (aX (ao 2 (zE eD) q1.2.1 Y2) aM)) (fu (fA (iD (ao 1 (zE eD) q1.1 Y2) yw eS) (iD (ao 2 (zE eD) q1.2.1 Y2) yw eS)) (fu (An CW (aX (ao 3 (zE eD) q1.2.2 Y2) aM)) (Dx (iD (ao 3 (zE eD) q1.2.2 Y2) Cv eI) (BB 0)))))) (λ_=>Y2) λ_=>Y2))))
theorem V3:∀v bs,(aZ eD aN) v bs->bs.length=1/\(B0 (Z (zU v.1))->wB (bs.map B7)=Z ((zE eB) (sS v.1))):=by
 rintro⟨a,_⟩ _ ⟨_,rfl,rfl⟩;exact⟨rfl,λh=>bG (g:=Fl) (n:=4) (bs:=[.z (eD a)]) (g9 a) h⟩
def m5(a:Dt):Bool:=((cX a 4)&&((gU (fX a 0))&&(sS (Dt.tup (BI (MC a) (Z 1) Y3)))))
def uZ(a:Dt):Prop:=((mO a 4)/\((cX a 4)=true->((Af a (0:Int)/\(j5 (fX a 0)))/\((gU (fX a 0))=true->(As a=true/\(zU (Dt.tup (BI (MC a) (Z 1) Y3))))))))
theorem V4(a:Dt):RP uw [Z (zE eD a)] (λr=>Ap.rt (zE eB r)) (m5 a) (Z (uZ a)):=R.tp (bL (λr=>r) (fu (An yg (aX (ao 0 (zE eD) a Y2) (aX (BB 4) aM))) (fu (An uY (aX (jJ (ao 0 (zE eD) a Y2) (BB 0)) aM)) (An V3 (aX (fQ (TR (ao 0 (zE eD) a Y2) (Ei (BB 1)) Eh)) aM)))) (λ_=>Y2) λ_=>Y2)
theorem V5:∀v bs,(aZ eD aN) v bs->bs.length=1/\(B0 (Z (uZ v.1))->ux (bs.map B7)=Z ((zE eB) (m5 v.1))):=by
 rintro⟨a,_⟩ _ ⟨_,rfl,rfl⟩;exact⟨rfl,λh=>bG (g:=uw) (n:=1) (bs:=[.z (eD a)]) (V4 a) h⟩
def oH(a:O dH):Bool:=(((rng 0 ((a.length:Int)-1).toNat).map λb:Int=>(DI dI (Au a b) (Au a (b+1)))).all id)
def oJ(a:O dH):Prop:=((Rg ((a.length:Int)-1)/\(rng 0 ((a.length:Int)-1).toNat).length<=100000)/\(∀b∈(rng 0 ((a.length:Int)-1).toNat),(In a.length b/\In a.length (b+1))))
theorem Ln(a:O dH)(b:Lp jT (a.map dI)):RP gM [Z jT] (λr=>Ap.rt (zE eB r)) (oH a) (Z (oJ a)):=R.tp (bL (λr=>r) (yu (jk (qI (zm (LL (CU (lN 0 dI a b Y2)) (BB 1))) _ (λ_=>Y2) (λc:Int=>(SG (rT (lN 0 dI a b (congrArg Z (b.get Y2))) (ao 1 (zE eI) c Y2)) (rT (lN 0 dI a b (congrArg Z (b.get Y2))) (iY (ao 1 (zE eI) c Y2) (BB 1)))))))) (λ_=>Y2) λ_=>Y2)
theorem Lq:∀v bs,(aL dI aN) v bs->bs.length=1/\(B0 (Z (oJ v.1))->eH (bs.map B7)=Z ((zE eB) (oH v.1))):=by
 rintro⟨b,_⟩ _ ⟨jT,_,rfl,a,rfl⟩;exact⟨rfl,λh=>bG (g:=gM) (n:=1) (bs:=[B7 jT]) (Ln b (Ed a)) h⟩
def jE(b:O dH)(c:B5):Bool:=(if((!(As (eT dI b)))||(!((b.map λa:dH=>(m5 (dI a))).all id)))=true then false else(if(!((b.map λa:dH=>((decide (a.2.1∈c))&&(decide (a.2.2.1∈c)))).all id))=true then false else(oH (b.map λa:dH=>(bh a)))))
def qe(a:O dH)(c:B5):Prop:=(((!(As (eT dI a)))=false->(a.length<=100000/\(∀b∈a,(uZ (dI b)))))/\(((!(As (eT dI a)))||(!((a.map λb:dH=>(m5 (dI b))).all id)))=false->(a.length<=100000/\((!((a.map λb:dH=>((decide (b.2.1∈c))&&(decide (b.2.2.1∈c)))).all id))=false->(a.length<=100000/\(oJ (a.map λb:dH=>(bh b))))))))
theorem Nv(a:O dH)(c:B5):RP pP [Z ((zE (eT dI)) a),Z ((zE (eT eS)) c)] (λr=>Ap.rt (zE eB r)) (jE a c) (Z (qe a c)):=R.tp (jB (U0 (wk (zj (Ek As (ao 0 (zE (eT dI)) a Y2)))) (wk (zj (yu (jk (qI (yG (ao 0 (zE (eT dI)) a Y2)) _ (λ_=>Y2) (λb:dH=>(fQ (An V5 (aX (o7 (ao 0 (zE dI) b Y2)) aM)))))))))) (bR (bL (λr=>r) (rQ (.bl false) eB false Y2) (λ_=>Y2) λ_=>Y2)) (cQ (jB (wk (zj (yu (jk (lY (yG (ao 0 (zE (eT dI)) a Y2)) _ (λ_=>Y2) (λb:dH=>(fu (Zr (jA (ao 1 (zE dI) b Y2) (λq=>q.2.1) eS 1 λ_=>Y2) (ao 0 (zE (eT eS)) c Y2)) (Zr (jA (ao 1 (zE dI) b Y2) (λq=>q.2.2.1) eS 2 λ_=>Y2) (ao 0 (zE (eT eS)) c Y2)))) λ_=>Y2))))) (bR (bL (λr=>r) (rQ (.bl false) eB false Y2) (λ_=>Y2) λ_=>Y2)) (cQ (bL (λr=>r) (An Lq (Ik (GA (Ff (lY (yG (ao 0 (zE (eT dI)) a Y2)) _ (λ_=>Y2) (λb:dH=>(fQ (An Lj (aX (ao 0 (zE dI) b Y2) aM)))) λ_=>Y2))) aM)) (λ_=>Y2) λ_=>Y2)))))
theorem Nx:∀v bs,(aZ (eT dI) (aZ (eT eS) aN)) v bs->bs.length=2/\(B0 (Z (qe v.1 v.2.1))->pQ (bs.map B7)=Z ((zE eB) (jE v.1 v.2.1))):=by
 rintro⟨a,b,_⟩ _ ⟨_,rfl,⟨_,rfl,rfl⟩⟩;exact⟨rfl,λh=>bG (g:=pP) (n:=2) (bs:=[.z (eT dI a),.z (eT eS b)]) (Nv a b) h⟩
def oK(a:O fG):Bool:=(((rng 0 ((a.length:Int)-1).toNat).map λb:Int=>(DI eE (Au a b) (Au a (b+1)))).all id)
def oM(a:O fG):Prop:=((Rg ((a.length:Int)-1)/\(rng 0 ((a.length:Int)-1).toNat).length<=100000)/\(∀b∈(rng 0 ((a.length:Int)-1).toNat),(In a.length b/\In a.length (b+1))))
theorem Lr(a:O fG):RP gM [Z ((zE (eT eE)) a)] (λr=>Ap.rt (zE eB r)) (oK a) (Z (oM a)):=R.tp (bL (λr=>r) (yu (jk (qI (zm (LL (J9 (ao 0 (zE (eT eE)) a Y2)) (BB 1))) _ (λ_=>Y2) (λb:Int=>(SG (OJ (ao 0 (zE (eT eE)) a Y2) (ao 1 (zE eI) b Y2)) (OJ (ao 0 (zE (eT eE)) a Y2) (iY (ao 1 (zE eI) b Y2) (BB 1)))))))) (λ_=>Y2) λ_=>Y2)
theorem Ls:∀v bs,(aZ (eT eE) aN) v bs->bs.length=1/\(B0 (Z (oM v.1))->eH (bs.map B7)=Z ((zE eB) (oK v.1))):=by
 rintro⟨a,_⟩ _ ⟨_,rfl,rfl⟩;exact⟨rfl,λh=>bG (g:=gM) (n:=1) (bs:=[.z (eT eE a)]) (Lr a) h⟩
def sU(a:O fG)(c:B5):Bool:=(if((!(As (eT eE a)))||(!((a.map λb:fG=>(sS (eE b))).all id)))=true then false else(((a.map λb:fG=>((decide (b.1∈c))&&(decide (b.2.1∈c)))).all id)&&(oK a)))
def yh(a:O fG)(c:B5):Prop:=(((!(As (eT eE a)))=false->(a.length<=100000/\(∀b∈a,(zU (eE b)))))/\(((!(As (eT eE a)))||(!((a.map λb:fG=>(sS (eE b))).all id)))=false->(a.length<=100000/\(((a.map λb:fG=>((decide (b.1∈c))&&(decide (b.2.1∈c)))).all id)=true->(oM a)))))
theorem Yd(a:O fG)(b:B5):RP xO [Z ((zE (eT eE)) a),Z ((zE (eT eS)) b)] (λr=>Ap.rt (zE eB r)) (sU a b) (Z (yh a b)):=R.tp (jB (U0 (wk (zj (Ek As (ao 0 (zE (eT eE)) a Y2)))) (wk (zj (yu (jk (qI (yG (ao 0 (zE (eT eE)) a Y2)) _ (λ_=>Y2) (λc:fG=>(fQ (An V3 (aX (o7 (ao 0 (zE eE) c Y2)) aM)))))))))) (bR (bL (λr=>r) (rQ (.bl false) eB false Y2) (λ_=>Y2) λ_=>Y2)) (cQ (bL (λr=>r) (fu (yu (jk (lY (yG (ao 0 (zE (eT eE)) a Y2)) _ (λ_=>Y2) (λc:fG=>(fu (Zr (jA (ao 1 (zE eE) c Y2) (λq=>q.1) eS 0 λ_=>Y2) (ao 0 (zE (eT eS)) b Y2)) (Zr (jA (ao 1 (zE eE) c Y2) (λq=>q.2.1) eS 1 λ_=>Y2) (ao 0 (zE (eT eS)) b Y2)))) λ_=>Y2))) (An Ls (aX (ao 0 (zE (eT eE)) a Y2) aM))) (λ_=>Y2) λ_=>Y2)))
theorem Ye:∀v bs,(aZ (eT eE) (aZ (eT eS) aN)) v bs->bs.length=2/\(B0 (Z (yh v.1 v.2.1))->xP (bs.map B7)=Z ((zE eB) (sU v.1 v.2.1))):=by
 rintro⟨a,b,_⟩ _ ⟨_,rfl,⟨_,rfl,rfl⟩⟩;exact⟨rfl,λh=>bG (g:=xO) (n:=2) (bs:=[.z (eT eE a),.z (eT eS b)]) (Yd a b) h⟩
def j6(a:Bm):Bool:=(if(!(cX (jR a) 3))=true then false else(let q1:=a;((mZ q1.1)&&((jE q1.2.1 q1.1)&&(sU q1.2.2 q1.1)))))
def u0(a:Bm):Prop:=((mO (jR a) 3)/\((!(cX (jR a) 3))=false->(let q1:=a;((uX q1.1)/\((mZ q1.1)=true->((qe q1.2.1 q1.1)/\((jE q1.2.1 q1.1)=true->(yh q1.2.2 q1.1))))))))
theorem V6(a:Bm):RP uy [Z (zE jR a),Y3,Y3,Y3] (λr=>Ap.rt (zE eB r)) (j6 a) (Z (u0 a)):=R.tp (jB (wk (zj (An yg (aX (o7 (ao 0 (zE jR) a Y2)) (aX (BB 3) aM))))) (bR (bL (λr=>r) (rQ (.bl false) eB false Y2) (λ_=>Y2) λ_=>Y2)) (cQ (Hg (ao 0 (zE jR) a Y2) _ (λ_=>Y2) λq1=>(bL (λr=>r) (fu (An V1 (aX (ao 1 (zE (eT eS)) q1.1 Y2) aM)) (fu (An Nx (aX (ao 2 (zE (eT dI)) q1.2.1 Y2) (aX (ao 1 (zE (eT eS)) q1.1 Y2) aM))) (An Ye (aX (ao 3 (zE (eT eE)) q1.2.2 Y2) (aX (ao 1 (zE (eT eS)) q1.1 Y2) aM))))) (λ_=>Y2) λ_=>Y2))))
theorem V7:∀v bs,(aZ jR aN) v bs->bs.length=1/\(B0 (Z (u0 v.1))->uD (bs.map B7)=Z ((zE eB) (j6 v.1))):=by
 rintro⟨a,_⟩ _ ⟨_,rfl,rfl⟩;exact⟨rfl,λh=>bG (g:=uy) (n:=4) (bs:=[.z (jR a)]) (V6 a) h⟩
def jO(b:O bM)(c:BE)(f:Int)(a:(O dH)×(O fG))(e:Int):(O dH)×(O fG):=(let q3:=(aB [(Au b f),(Au b e)] c);(let g:=a.1++q3.2.1;(let h:=a.2++q3.2.2;(g,h))))
def oN(a:O bM)(f:BE)(e:Int)(b:(O dH)×(O fG))(c:Int):Prop:=(((In a.length e/\In a.length c)/\(dF [(Au a e),(Au a c)] f))/\(let q3:=(aB [(Au a e),(Au a c)] f);(b.1.length+q3.2.1.length<=1000000/\(let g:=b.1++q3.2.1;b.2.length+q3.2.2.length<=1000000))))
theorem Fv(b:O bM)(c:BE)(e:Int)(a:(O dH)×(O fG))(f:Int):RP uE [Z ((zE (eT aO)) b),Z ((zE (eT eD)) c),Z ((oE dI) a.1),Z ((oE eE) a.2),Z (zE eI e),Z (zE eI f),Y3,Y3,Y3] (λs=>Ap.nx ((λa:(O dH)×(O fG)=>[Z ((zE (eT aO)) b),Z ((zE (eT eD)) c),Z ((oE dI) a.1),Z ((oE eE) a.2),Z (zE eI e),Y3,Y3,Y3,Y3]) s)) (jO b c e a f) (Z (oN b c e a f)):=R.tp (bR (Hg (An gR (aX (ph (bI (OJ (ao 0 (zE (eT aO)) b Y2) (ao 4 (zE eI) e Y2)) (bI (OJ (ao 0 (zE (eT aO)) b Y2) (ao 5 (zE eI) f Y2)) (iI aO))) (Zs Y2)) (aX (ao 1 (zE (eT eD)) c Y2) aM))) _ (λ_=>Y2) λq3=>(bR (SI 2 a.1 Y2 (ao 7 (zE (eT dI)) q3.2.1 Y2) λg=>(bR (SI 3 a.2 Y2 (ao 8 (zE (eT eE)) q3.2.2 Y2) λh=>(cQ (dJ (g,h) Y2))))))))
def fL(f:O bM)(e:BE)(b:(O dH)×(O fG))(c:Int):(O dH)×(O fG):=(let a:(O dH)×(O fG):=((rng 0 c.toNat).foldl (λ(a:(O dH)×(O fG)) (g:Int)=>(jO f e c a g)) (b.1,b.2));(a.1,a.2))
def jP(g:O bM)(f:BE)(e:(O dH)×(O fG))(a:Int):Prop:=(Rg a/\Gu (λ(b:(O dH)×(O fG)) (c:Int)=>(jO g f a b c)) (λ(b:(O dH)×(O fG)) (c:Int)=>Z (oN g f a b c)) (rng 0 a.toNat) (e.1,e.2))
theorem Fw(e:O bM)(c:BE)(a:(O dH)×(O fG))(f:Int):RP uF [Z ((zE (eT aO)) e),Z ((zE (eT eD)) c),Z ((oE dI) a.1),Z ((oE eE) a.2),Z (zE eI f),Y3,Y3,Y3,Y3] (λs=>Ap.nx ((λa:(O dH)×(O fG)=>[Z ((zE (eT aO)) e),Z ((zE (eT eD)) c),Z ((oE dI) a.1),Z ((oE eE) a.2),Y3,Y3,Y3,Y3,Y3]) s)) (fL e c a f) (Z (jP e c a f)):=R.tp (bR (Kf (λb:(O dH)×(O fG)=>[Z ((zE (eT aO)) e),Z ((zE (eT eD)) c),Z ((oE dI) b.1),Z ((oE eE) b.2),Z (zE eI f),Y3,Y3,Y3,Y3]) (a.1,a.2) Y2 (zm (ao 4 (zE eI) f Y2)) _ (λ_ _=>Y2) (λ(b:(O dH)×(O fG)) (g:Int)=>(Fv e c f b g).r) λb=>(cQ (dJ (b.1,b.2) Y2))))
def iT(b:O bM)(e:BE):Bm:=(let j:=([]:O dH);let f:=([]:O fG);let h:=j;let i:=f;(let a:(O dH)×(O fG):=((rng 0 (b.length:Int).toNat).foldl (λ(a:(O dH)×(O fG)) (g:Int)=>(fL b e a g)) (h,i));((JW (b.map λc:bM=>c.1)),(cg a.1),(jK eE a.2))))
def j7(b:O bM)(e:BE):Prop:=(let j:=([]:O dH);let i:=([]:O fG);let f:=j;let g:=i;((Rg (b.length:Int)/\Gu (λ(a:(O dH)×(O fG)) (c:Int)=>(fL b e a c)) (λ(a:(O dH)×(O fG)) (c:Int)=>Z (jP b e a c)) (rng 0 (b.length:Int).toNat) (f,g))/\(let a:(O dH)×(O fG):=((rng 0 (b.length:Int).toNat).foldl (λ(a:(O dH)×(O fG)) (c:Int)=>(fL b e a c)) (f,g));((b.length<=100000/\(b.map λh:bM=>h.1).length<64)/\((mL a.1)/\a.2.length<=100000)))))
theorem Lx(b:O bM)(c:BE):RP nM [Z ((zE (eT aO)) b),Z ((zE (eT eD)) c),Y3,Y3,Y3,Y3,Y3,Y3,Y3] (λr=>Ap.rt (zE jR r)) (iT b c) (Z (j7 b c)):=R.tp (eA 2 3 (rR (iI dI) (Zs Y2)) (rR (iI eE) (Zs Y2)) λg h=>(Kf (λa:(O dH)×(O fG)=>[Z ((zE (eT aO)) b),Z ((zE (eT eD)) c),Z ((oE dI) a.1),Z ((oE eE) a.2),Y3,Y3,Y3,Y3,Y3]) (g,h) Y2 (zm (J9 (ao 0 (zE (eT aO)) b Y2))) _ (λ_ _=>Y2) (λ(a:(O dH)×(O fG)) (f:Int)=>(Fw b c a f).r) λa=>(bL (λr=>r) (Gs (gK (jk (bu (jk (lY (yG (ao 0 (zE (eT aO)) b Y2)) _ (λ_=>Y2) (λe:bM=>(jA (ao 0 (zE aO) e Y2) (λq=>q.1) eS 0 λ_=>Y2)) λ_=>Y2))))) (gK (jk (An CV (Ik (ni (ao 2 (lE dI) a.1 Y2)) aM)))) (gK (jk (Xr (ni (ao 3 (lE eE) a.2 Y2)))))) (λ_=>Y2) λ_=>Y2)))
theorem Ly:∀v bs,(aZ (eT aO) (aZ (eT eD) aN)) v bs->bs.length=2/\(B0 (Z (j7 v.1 v.2.1))->nO (bs.map B7)=Z ((zE jR) (iT v.1 v.2.1))):=by
 rintro⟨b,a,_⟩ _ ⟨_,rfl,⟨_,rfl,rfl⟩⟩;exact⟨rfl,λh=>bG (g:=nM) (n:=9) (bs:=[.z (eT aO b),.z (eT eD a)]) (Lx b a) h⟩
def iU(b:O bM)(a:O bM):(O bM):=(b++a)
def pI(a:O bM)(b:O bM):Prop:=(a.length<4000/\Ej (a.length+b.length))/\b.find? (λr=>decide (r.1∈a.map (·.1)))=Y3
theorem P6:∀a:O bM,Bt (iW 0) lJ (b2 fH (gv 0) (cB (.int 0))) [Y3] (a.map aO)=Z (a.map λr=>Dt.str r.1)
 |[]=>rfl
 |r::a=>by
  have b:=P6 a;unfold Bt at b ⊢;simp only[zw,yP];rw[b];rfl
theorem ZP:∀ys:B5,tO (ys.map Dt.str)=Z ys
 |[]=>rfl
 |y::ys=>by
  simp only[zw,tO,ZP ys];rfl
theorem YR(a b:O bM)(h:a.length<4000):MT [Z (.z (eT aO a)),Z (.z (eT aO b)),Y3,Y3]=Z (a.map (·.1)):=by
 show(if(a.map aO).length<4000 then _ else _)=_;rw[zh (by rw[zd];exact h)];show(Bt (iW 0) lJ (b2 fH (gv 0) (cB (.int 0))) [Y3] (a.map aO)).bind tO=_;rw[P6];show tO (a.map λr=>Dt.str r.1)=_;have:(a.map λr=>Dt.str r.1)=(a.map (·.1)).map Dt.str:=by rw[ZE];rfl
 rw[this,ZP]
theorem Pf(ys:B5)(fx:Ev->Y Dt)(b1 b:Y Bx):∀(a:O bM) (x:Y Bx),Va 3 (b2 fH (gv 3) (cB (.int 0))) ys fx (a.map aO) [b1,b,Y3,x]=match a.find? (λr=>decide (r.1∈ys))with
  |some r=>(fx [b1,b,Y3,Z (.z (aO r))]).bind λq=>Z (.inr q)
  |none=>Z (.inl [b1,b,Y3,(a.getLast?.map λr=>Z (Bx.z (aO r))).getD x])
 |[],x=>rfl
 |r::a,x=>by
  have e:=Pf ys fx b1 b a (Z (.z (aO r)));simp only[zw,Va];show(if r.1∈ys then _ else _)=_;by_cases c:r.1∈ys
  ·rw[zh c,List.find?_cons_of_pos (by simpa using c)];rfl
  ·rw[zv c,List.find?_cons_of_neg (by simpa using c)];refine e.trans ?_;cases a.find? (λr=>decide (r.1∈ys))with
   |some q=>rfl
   |none=>cases a<;>rfl
theorem fR{a b:O bM}(h1:a.length<4000)(fx:Ev->Y Dt):GI 2 3 MT (DB (gv 1)) (b2 fH (gv 3) (cB (.int 0))) fx [Z (.z (eT aO a)),Z (.z (eT aO b)),Y3,Y3]=Va 3 (b2 fH (gv 3) (cB (.int 0))) (a.map (·.1)) fx (b.map aO) [Z (.z (eT aO a)),Z (.z (eT aO b)),Y3,Y3]:=by
 unfold GI;rw[YR a b h1];rfl
theorem TC{a b:O bM}(h1:a.length<4000)(h2:Ej (a.length+b.length))(c:b.find? (λr=>decide (r.1∈a.map (·.1)))=Y3):iQ [.z (eT aO a),.z (eT aO b)]=Z (.z (eT aO (a++b))):=by
 show(IQ [Z (.z (eT aO a)),Z (.z (eT aO b)),Y3,Y3]).bind _=_;unfold IQ;rw[fR h1,Pf,c];have ad:eY (.z (eT aO a)) (.z (eT aO b))=Z (.z (eT aO (a++b))):=by
  unfold Ej at h2;simp only[eT,eY,zd,qB];rw[zh (show a.length+b.length<=Ua from zl h2 ())]
 show((((eY (.z (eT aO a)) (.z (eT aO b))).bind FS).bind _).bind _)=_;rw[ad];rfl
theorem GR:∀v bs,(aZ (eT aO) (aZ (eT aO) aN)) v bs->bs.length=2/\(B0 (Z (pI v.1 v.2.1))->iQ (bs.map B7)=Z ((zE (eT aO)) (iU v.1 v.2.1))):=by
 rintro⟨b,a,_⟩ _ ⟨_,rfl,⟨_,rfl,rfl⟩⟩;refine⟨rfl,λh=>?_⟩;obtain⟨⟨h1,h2⟩,c⟩:pI b a:=h;exact TC h1 h2 c
def iV(c:O bM)(b:AK):(O bM):=(if((!(bF (eS b)))||(!decide (b∈(c.map λa:bM=>a.1))))=true then default else((c.filter λa:bM=>(!decide (a.1=b))).map λa:bM=>a))
def sV(b:O bM)(a:AK):Prop:=(((gH (eS a))/\((!(bF (eS a)))=false->b.length<=100000))/\((((!(bF (eS a)))||(!decide (a∈(b.map λc:bM=>c.1))))=true->False)/\(((!(bF (eS a)))||(!decide (a∈(b.map λc:bM=>c.1))))=false->b.length<=100000)))
theorem Lz(c:O bM)(a:AK):RP nQ [Z ((zE (eT aO)) c),Z (zE eS a)] (λr=>Ap.rt ((zE (eT aO)) r)) (iV c a) (Z (sV c a)):=R.tp (jB (U0 (wk (zj (An lB (aX (o7 (ao 1 (zE eS) a Y2)) aM)))) (f9 (e8 (ao 1 (zE eS) a Y2) (jk (lY (yG (ao 0 (zE (eT aO)) c Y2)) _ (λ_=>Y2) (λb:bM=>(jA (ao 0 (zE aO) b Y2) (λq=>q.1) eS 0 λ_=>Y2)) λ_=>Y2))))) (bR Rh) (cQ (bL (λr=>r) (gK (jk (Eo (yG (ao 0 (zE (eT aO)) c Y2)) _ (λ_=>Y2) (λb:bM=>(f9 (UL () (jA (ao 1 (zE aO) b Y2) (λq=>q.1) eS 0 λ_=>Y2) (ao 0 (zE eS) a Y2)))) (λb:bM=>(ao 1 (zE aO) b Y2)) (λ_=>Y2) λ_=>Y2))) (λ_=>Y2) λ_=>Y2)))
theorem LC:∀v bs,(aZ (eT aO) (aZ eS aN)) v bs->bs.length=2/\(B0 (Z (sV v.1 v.2.1))->nR (bs.map B7)=Z ((zE (eT aO)) (iV v.1 v.2.1))):=by
 rintro⟨b,a,_⟩ _ ⟨_,rfl,⟨_,rfl,rfl⟩⟩;exact⟨rfl,λh=>bG (g:=nQ) (n:=2) (bs:=[.z (eT aO b),.z (eS a)]) (Lz b a) h⟩
def lX(vs:Bm)(c:AK):Bm:=(let q1:=vs;(let e:=((q1.2.1.filter λval:dH=>(!decide (c∈[(val.2.1,val.2.2.1).1,(val.2.1,val.2.2.1).2]))).map λval:dH=>val);(let f:=((q1.2.2.filter λa:fG=>(!decide (c∈[(a.1,a.2.1).1,(a.1,a.2.1).2]))).map λa:fG=>a);(((q1.1.filter λb:AK=>(!decide (b=c))).map λb:AK=>b),e,f))))
def vN(vs:Bm)(b:AK):Prop:=(let q1:=vs;(q1.2.1.length<=100000/\(let c:=((q1.2.1.filter λval:dH=>(!decide (b∈[(val.2.1,val.2.2.1).1,(val.2.1,val.2.2.1).2]))).map λval:dH=>val);(q1.2.2.length<=100000/\(let e:=((q1.2.2.filter λa:fG=>(!decide (b∈[(a.1,a.2.1).1,(a.1,a.2.1).2]))).map λa:fG=>a);q1.1.length<=100000)))))
theorem Ny(vs:Bm)(a:AK):RP pR [Z (zE jR vs),Z (zE eS a),Y3,Y3,Y3,Y3,Y3] (λr=>Ap.rt (zE jR r)) (lX vs a) (Z (vN vs a)):=R.tp (Hg (ao 0 (zE jR) vs Y2) _ (λ_=>Y2) λq1=>(cH 5 (Eo (yG (ao 3 (zE (eT dI)) q1.2.1 Y2)) _ (λ_=>Y2) (λval:dH=>(f9 (O' (ao 0 (zE eS) a Y2) (LA (Zo (ao 1 (zE dI) val Y2) (λq=>(q.2.1,q.2.2.1)) Kw (Z 1) (Z 3) Y2 Y2 λ_=>Y2) (λq=>[q.1,q.2]) (eT eS) λ_=>Y2)))) (λval:dH=>(ao 1 (zE dI) val Y2)) (λ_=>Y2) λ_=>Y2) (λ_=>Y2) λe=>(cH 6 (Eo (yG (ao 4 (zE (eT eE)) q1.2.2 Y2)) _ (λ_=>Y2) (λc:fG=>(f9 (O' (ao 0 (zE eS) a Y2) (LA (Zo (ao 1 (zE eE) c Y2) (λq=>(q.1,q.2.1)) Kw Y3 (Z 2) Y2 Y2 λ_=>Y2) (λq=>[q.1,q.2]) (eT eS) λ_=>Y2)))) (λc:fG=>(ao 1 (zE eE) c Y2)) (λ_=>Y2) λ_=>Y2) (λ_=>Y2) λf=>(bL (λr=>r) (Gs (gK (jk (Eo (yG (ao 2 (zE (eT eS)) q1.1 Y2)) _ (λ_=>Y2) (λb:AK=>(f9 (UL () (ao 1 (zE eS) b Y2) (ao 0 (zE eS) a Y2)))) (λb:AK=>(ao 1 (zE eS) b Y2)) (λ_=>Y2) λ_=>Y2))) (gK (ni (ao 5 (lE dI) e Y2))) (gK (ni (ao 6 (lE eE) f Y2)))) (λ_=>Y2) λ_=>Y2))))
theorem Nz:∀v bs,(aZ jR (aZ eS aN)) v bs->bs.length=2/\(B0 (Z (vN v.1 v.2.1))->pU (bs.map B7)=Z ((zE jR) (lX v.1 v.2.1))):=by
 rintro⟨vs,a,_⟩ _ ⟨_,rfl,⟨_,rfl,rfl⟩⟩;exact⟨rfl,λh=>bG (g:=pR) (n:=7) (bs:=[.z (jR vs),.z (eS a)]) (Ny vs a) h⟩
def qC(b:Dt):AK:=(Txt.join " " ((U6 b).map λa:Dt=>(nj a)))
def u5(b:Dt):Prop:=(((MN b=true/\(U6 b).length<=100000)/\(∀a∈(U6 b),IE a))/\(((U6 b).map λa:Dt=>(nj a)).map (·.length)).sum+((U6 b).map λa:Dt=>(nj a)).length*(" ":AK).length<=100000)
theorem V8(a:Dt):RP uG [Z (zE eD a)] (λr=>Ap.rt (zE eS r)) (qC a) (Z (u5 a)):=R.tp (bL (λr=>r) (Xj " " (jk (qI (N1 (ao 0 (zE eD) a Y2)) _ (λ_=>Y2) (λb:Dt=>(fQ (oI (ao 0 (zE eD) b Y2))))))) (λ_=>Y2) λ_=>Y2)
theorem V9:∀v bs,(aZ eD aN) v bs->bs.length=1/\(B0 (Z (u5 v.1))->uH (bs.map B7)=Z ((zE eS) (qC v.1))):=by
 rintro⟨a,_⟩ _ ⟨_,rfl,rfl⟩;exact⟨rfl,λh=>bG (g:=uG) (n:=1) (bs:=[.z (eD a)]) (V8 a) h⟩
def cR(b:BE):AK:=(Txt.join "\n" (b.map λa:Dt=>(qC a)))
def oO(b:BE):Prop:=((b.length<=100000/\(∀a∈b,(u5 a)))/\((b.map λa:Dt=>(qC a)).map (·.length)).sum+(b.map λa:Dt=>(qC a)).length*("\n":AK).length<=100000)
theorem Sv(a:BE):RP qR [Z ((zE (eT eD)) a)] (λr=>Ap.rt (zE eS r)) (cR a) (Z (oO a)):=R.tp (bL (λr=>r) (Xj "\n" (jk (qI (yG (ao 0 (zE (eT eD)) a Y2)) _ (λ_=>Y2) (λb:Dt=>(fQ (An V9 (aX (ao 0 (zE eD) b Y2) aM))))))) (λ_=>Y2) λ_=>Y2)
theorem Sw:∀v bs,(aZ (eT eD) aN) v bs->bs.length=1/\(B0 (Z (oO v.1))->qT (bs.map B7)=Z ((zE eS) (cR v.1))):=by
 rintro⟨a,_⟩ _ ⟨_,rfl,rfl⟩;exact⟨rfl,λh=>bG (g:=qR) (n:=1) (bs:=[.z (eT eD a)]) (Sv a) h⟩
def cY(a:AK):B5:=(if(!(gB (eS a)))=true then default else(if(decide (a.length≠0))=true then(Txt.split a ("\n":AK))else([]:B5)))
def yj(a:AK):Prop:=(((!(gB (eS a)))=true->False)/\((!(gB (eS a)))=false->((decide (a.length≠0))=true->((("\n":AK).length==0)=false/\a.length<=100000))))
theorem Yh(a:AK):RP xQ [Z (zE eS a)] (λr=>Ap.rt (oE eS r)) (cY a) (Z (yj a)):=R.tp (jB (wk (zj (Ek gB (ao 0 (zE eS) a Y2)))) (bR Rh) (cQ (bL (λr=>r) (L4 (xF (ao 0 (zE eS) a Y2)) (Zx (ao 0 (zE eS) a Y2) (Dk "\n")) (rR (iI eS) (Zs Y2))) (λ_=>Y2) λ_=>Y2)))
theorem Yi:∀v bs,(aZ eS aN) v bs->bs.length=1/\(B0 (Z (yj v.1))->xR (bs.map B7)=Z ((oE eS) (cY v.1))):=by
 rintro⟨a,_⟩ _ ⟨_,rfl,rfl⟩;exact⟨rfl,λh=>bG (g:=xQ) (n:=1) (bs:=[.z (eS a)]) (Yh a) h⟩
def fD(a:AK):(Y Int):=(if((!((decide ((1:Int)<=(a.length:Int)))&&(decide ((a.length:Int)<=6))))||(!(((BH a).map λb:AK=>(qp b ("0123456789":AK))).all id)))=true then Y3 else(if((decide ((ch a 0)=("0":AK)))&&(!decide (a=("0":AK))))=true then Y3 else(Z ((intText? a).getD 0))))
def qD(a:AK):Prop:=(((!((decide ((1:Int)<=(a.length:Int)))&&(decide ((a.length:Int)<=6))))=false->(BH a).length<=100000)/\(((!((decide ((1:Int)<=(a.length:Int)))&&(decide ((a.length:Int)<=6))))||(!(((BH a).map λb:AK=>(qp b ("0123456789":AK))).all id)))=false->(In a.length 0/\(((decide ((ch a 0)=("0":AK)))&&(!decide (a=("0":AK))))=false->(a.length<=640/\(intText? a).isSome=true)))))
theorem Wa(a:AK):RP uI [Z (zE eS a)] (λr=>Ap.rt ((zE (eO eI)) r)) (fD a) (Z (qD a)):=R.tp (jB (U0 (wk (sr (Hc (UJ (BB 1) (Ka (ao 0 (zE eS) a Y2))) (UJ (Ka (ao 0 (zE eS) a Y2)) (BB 6))))) (wk (zj (yu (jk (lY (mE (ao 0 (zE eS) a Y2)) _ (λ_=>Y2) (λb:AK=>(OR (ao 0 (zE eS) b Y2) (Dk "0123456789"))) λ_=>Y2)))))) (bR (bL (λr=>r) Q6 (λ_=>Y2) λ_=>Y2)) (cQ (jB (XB (f9 (C5 () (U4 (ao 0 (zE eS) a Y2) (BB 0)) (Dk "0"))) (f9 (UL () (ao 0 (zE eS) a Y2) (Dk "0")))) (bR (bL (λr=>r) Q6 (λ_=>Y2) λ_=>Y2)) (cQ (bL (λr=>r) (J6 (fQ (cS (ao 0 (zE eS) a Y2)))) (λ_=>Y2) λ_=>Y2)))))
theorem Wb:∀v bs,(aZ eS aN) v bs->bs.length=1/\(B0 (Z (qD v.1))->uJ (bs.map B7)=Z ((zE (eO eI)) (fD v.1))):=by
 rintro⟨a,_⟩ _ ⟨_,rfl,rfl⟩;exact⟨rfl,λh=>bG (g:=uI) (n:=1) (bs:=[.z (eS a)]) (Wa a) h⟩
def lC(b:AK):Dt:=(let a:=(fD b);(if a.isNone=true then(eS b)else(eO eI a)))
def GX(a:AK):Prop:=(qD a)
theorem oj(a:AK):RP Aq [Z (zE eS a),Y3] (λr=>Ap.rt (zE eD r)) (lC a) (Z (GX a)):=R.tp (cH 1 (An Wb (aX (ao 0 (zE eS) a Y2) aM)) (λ_=>Y2) λb=>(bL (λr=>r) (L4 (f9 (Zj (ao 1 (zE (eO eI)) b Y2) λ_=>Y2)) (o7 (ao 0 (zE eS) a Y2)) (o7 (ao 1 (zE (eO eI)) b Y2))) (λ_=>Y2) λ_=>Y2))
theorem XT:∀v bs,(aZ eS aN) v bs->bs.length=1/\(B0 (Z (GX v.1))->Ar (bs.map B7)=Z ((zE eD) (lC v.1))):=by
 rintro⟨a,_⟩ _ ⟨_,rfl,rfl⟩;exact⟨rfl,λh=>bG (g:=Aq) (n:=2) (bs:=[.z (eS a)]) (oj a) h⟩
def bx(a:Dt)(b:AK)(c:Int):Bool:=((cX a c)&&((gB (fX a 0))&&(Ms (fX a 0) (eS b))))
def j8(a:Dt)(c:AK)(b:Int):Prop:=((mO a b)/\((cX a b)=true->(Af a (0:Int)/\((gB (fX a 0))=true->(Af a (0:Int)/\Zi (fX a 0) (eS c))))))
theorem Wc(a:Dt)(b:AK)(c:Int):RP uK [Z (zE eD a),Z (zE eS b),Z (zE eI c)] (λr=>Ap.rt (zE eB r)) (bx a b c) (Z (j8 a b c)):=R.tp (bL (λr=>r) (fu (An yg (aX (ao 0 (zE eD) a Y2) (aX (ao 2 (zE eI) c Y2) aM))) (fu (Ek gB (jJ (ao 0 (zE eD) a Y2) (BB 0))) (UW (jJ (ao 0 (zE eD) a Y2) (BB 0)) (o7 (ao 1 (zE eS) b Y2))))) (λ_=>Y2) λ_=>Y2)
theorem u6:∀v bs,(aZ eD (aZ eS (aZ eI aN))) v bs->bs.length=3/\(B0 (Z (j8 v.1 v.2.1 v.2.2.1))->jX (bs.map B7)=Z ((zE eB) (bx v.1 v.2.1 v.2.2.1))):=by
 rintro⟨a,b,c,_⟩ _ ⟨_,rfl,⟨_,rfl,⟨_,rfl,rfl⟩⟩⟩;exact⟨rfl,λh=>bG (g:=uK) (n:=3) (bs:=[.z (eD a),.z (eS b),.z (eI c)]) (Wc a b c) h⟩
def j9(a:Dt):Bool:=((iw a)&&((decide ((1:Int)<=(Cv a)))&&(decide ((Cv a)<=12))))
def oR(a:Dt):Prop:=((iw a)=true->(a=eI (Cv a)/\((decide ((1:Int)<=(Cv a)))=true->a=eI (Cv a))))
theorem LK(a:Dt):RP nT [Z (zE eD a)] (λr=>Ap.rt (zE eB r)) (j9 a) (Z (oR a)):=R.tp (bL (λr=>r) (fu (An CW (aX (ao 0 (zE eD) a Y2) aM)) (Hc (UJ (BB 1) (iD (ao 0 (zE eD) a Y2) Cv eI)) (UJ (iD (ao 0 (zE eD) a Y2) Cv eI) (BB 12)))) (λ_=>Y2) λ_=>Y2)
theorem LQ:∀v bs,(aZ eD aN) v bs->bs.length=1/\(B0 (Z (oR v.1))->nU (bs.map B7)=Z ((zE eB) (j9 v.1))):=by
 rintro⟨a,_⟩ _ ⟨_,rfl,rfl⟩;exact⟨rfl,λh=>bG (g:=nT) (n:=1) (bs:=[.z (eD a)]) (LK a) h⟩
def gw(b:Dt)(a:Dt):Bool:=((bF b)&&((bF a)&&(!Ms b a)))
def jw(b:Dt)(a:Dt):Prop:=((gH b)/\((bF b)=true->((gH a)/\((bF a)=true->Zi b a))))
theorem CZ(b:Dt)(a:Dt):RP jl [Z (zE eD b),Z (zE eD a)] (λr=>Ap.rt (zE eB r)) (gw b a) (Z (jw b a)):=R.tp (bL (λr=>r) (fu (An lB (aX (ao 0 (zE eD) b Y2) aM)) (fu (An lB (aX (ao 1 (zE eD) a Y2) aM)) (OL (ao 0 (zE eD) b Y2) (ao 1 (zE eD) a Y2)))) (λ_=>Y2) λ_=>Y2)
theorem Dc:∀v bs,(aZ eD (aZ eD aN)) v bs->bs.length=2/\(B0 (Z (jw v.1 v.2.1))->jm (bs.map B7)=Z ((zE eB) (gw v.1 v.2.1))):=by
 rintro⟨b,a,_⟩ _ ⟨_,rfl,⟨_,rfl,rfl⟩⟩;exact⟨rfl,λh=>bG (g:=jl) (n:=2) (bs:=[.z (eD b),.z (eD a)]) (CZ b a) h⟩
def lD(a:Dt):Bool:=(if(bx a ("same":AK) 3)=true then((bF (fX a 1))&&(gU (fX a 2)))else(if(bx a ("begin":AK) 4)=true then((bF (fX a 1))&&((j9 (fX a 2))&&(gU (fX a 3))))else(if(bx a ("both":AK) 4)=true then((gw (fX a 1) (fX a 2))&&(gU (fX a 3)))else((bx a ("never":AK) 2)&&(bF (fX a 1))))))
def Bg(a:Dt):Prop:=((j8 a ("same":AK) 3)/\(((bx a ("same":AK) 3)=true->((Af a (1:Int)/\(gH (fX a 1)))/\((bF (fX a 1))=true->(Af a (2:Int)/\(j5 (fX a 2))))))/\((bx a ("same":AK) 3)=false->((j8 a ("begin":AK) 4)/\(((bx a ("begin":AK) 4)=true->((Af a (1:Int)/\(gH (fX a 1)))/\((bF (fX a 1))=true->((Af a (2:Int)/\(oR (fX a 2)))/\((j9 (fX a 2))=true->(Af a (3:Int)/\(j5 (fX a 3))))))))/\((bx a ("begin":AK) 4)=false->((j8 a ("both":AK) 4)/\(((bx a ("both":AK) 4)=true->(((Af a (1:Int)/\Af a 2)/\(jw (fX a 1) (fX a 2)))/\((gw (fX a 1) (fX a 2))=true->(Af a (3:Int)/\(j5 (fX a 3))))))/\((bx a ("both":AK) 4)=false->((j8 a ("never":AK) 2)/\((bx a ("never":AK) 2)=true->(Af a (1:Int)/\(gH (fX a 1))))))))))))))
theorem YV(a:Dt):RP Av [Z (zE eD a)] (λr=>Ap.rt (zE eB r)) (lD a) (Z (Bg a)):=R.tp (jB (zj (An u6 (aX (ao 0 (zE eD) a Y2) (aX (Dk "same") (aX (BB 3) aM))))) (bR (bL (λr=>r) (fu (An lB (aX (jJ (ao 0 (zE eD) a Y2) (BB 1)) aM)) (An uY (aX (jJ (ao 0 (zE eD) a Y2) (BB 2)) aM))) (λ_=>Y2) λ_=>Y2)) (cQ (jB (zj (An u6 (aX (ao 0 (zE eD) a Y2) (aX (Dk "begin") (aX (BB 4) aM))))) (bR (bL (λr=>r) (fu (An lB (aX (jJ (ao 0 (zE eD) a Y2) (BB 1)) aM)) (fu (An LQ (aX (jJ (ao 0 (zE eD) a Y2) (BB 2)) aM)) (An uY (aX (jJ (ao 0 (zE eD) a Y2) (BB 3)) aM)))) (λ_=>Y2) λ_=>Y2)) (cQ (jB (zj (An u6 (aX (ao 0 (zE eD) a Y2) (aX (Dk "both") (aX (BB 4) aM))))) (bR (bL (λr=>r) (fu (An Dc (aX (jJ (ao 0 (zE eD) a Y2) (BB 1)) (aX (jJ (ao 0 (zE eD) a Y2) (BB 2)) aM))) (An uY (aX (jJ (ao 0 (zE eD) a Y2) (BB 3)) aM))) (λ_=>Y2) λ_=>Y2)) (cQ (bL (λr=>r) (fu (An u6 (aX (ao 0 (zE eD) a Y2) (aX (Dk "never") (aX (BB 2) aM)))) (An lB (aX (jJ (ao 0 (zE eD) a Y2) (BB 1)) aM))) (λ_=>Y2) λ_=>Y2)))))))
theorem sR:∀v bs,(aZ eD aN) v bs->bs.length=1/\(B0 (Z (Bg v.1))->Aw (bs.map B7)=Z ((zE eB) (lD v.1))):=by
 rintro⟨a,_⟩ _ ⟨_,rfl,rfl⟩;exact⟨rfl,λh=>bG (g:=Av) (n:=1) (bs:=[.z (eD a)]) (YV a) h⟩
def fM(c:AK):(Y BE):=(let a:=((Txt.split c (" ":AK)).map λb:AK=>(lC b));(if(lD (eT eD a))=true then(Z a)else Y3))
def wH(a:AK):Prop:=((((((" ":AK).length==0)=false/\a.length<=100000)/\(Txt.split a (" ":AK)).length<=100000)/\(∀b∈(Txt.split a (" ":AK)),(GX b)))/\(let c:=((Txt.split a (" ":AK)).map λb:AK=>(lC b));(Bg (eT eD c))))
theorem nV(a:AK):RP Ax [Z (zE eS a),Y3] (λr=>Ap.rt ((zE (eO (eT eD))) r)) (fM a) (Z (wH a)):=R.tp (cH 1 (gK (jk (qI (IP (jk (Zx (ao 0 (zE eS) a Y2) (Dk " ")))) _ (λ_=>Y2) (λc:AK=>(fQ (An XT (aX (ao 0 (zE eS) c Y2) aM))))))) (λ_=>Y2) λb=>(bL (λr=>r) (fQ (L4 (zj (An sR (aX (o7 (ao 1 (zE (eT eD)) b Y2)) aM))) (J6 (ao 1 (zE (eT eD)) b Y2)) Q6)) (λ_=>Y2) λ_=>Y2))
theorem oS:∀v bs,(aZ eS aN) v bs->bs.length=1/\(B0 (Z (wH v.1))->Ay (bs.map B7)=Z ((zE (eO (eT eD))) (fM v.1))):=by
 rintro⟨a,_⟩ _ ⟨_,rfl,rfl⟩;exact⟨rfl,λh=>bG (g:=Ax) (n:=2) (bs:=[.z (eS a)]) (nV a) h⟩
def dZ(a:O BE)(q1:Hl):wN ((O BE)) (O BE):=(let b:=(fM q1.2);(if b.isNone=true then default else(let a:=a++[(b.getD default)];(wN.nx a))))
def jC(b:O BE)(q1:Hl):Prop:=((wH q1.2)/\(let a:=(fM q1.2);((a.isNone=true->False)/\(a.isNone=false->(a.isSome=true/\Ej b.length)))))
theorem Iz(c:AK)(a:O BE)(q1:Hl):RP yD [Z (zE eS c),Z ((oE (eT eD)) a),Z ((zE eI) q1.1),Z ((zE eS) q1.2),Y3] (cC (λa:(O BE)=>[Z (zE eS c),Z ((oE (eT eD)) a),Y3,Y3,Y3]) (zE (eT (eT eD)))) (dZ  a q1) (Z (jC  a q1)):=R.tp (bR (cH 4 (An oS (aX (ao 3 (zE eS) q1.2 Y2) aM)) (λ_=>Y2) λb=>(bR (jB (f9 (Zj (ao 4 (zE (eO (eT eD))) b Y2) λ_=>Y2)) (bR Rh) (cQ (bR (Hh 1 a Y2 (UG (ao 4 (zE (eO (eT eD))) b Y2)) λa=>(cQ (dJ (.nx a) Y2)))))))))
def gW(b:AK):(O BE):=(let a:=([]:O BE);(By (oY (λ(a:O BE) (q1:Hl)=>((dZ  a q1):wN ((O BE)) (O BE))) (nJ (cY b)) a) (λr=>r) λa:(O BE)=>a))
def oU(b:AK):Prop:=(let a:=([]:O BE);(((yj b)/\yx (λ(a:O BE) (q1:Hl)=>((dZ  a q1):wN ((O BE)) (O BE))) (λ(a:O BE) (q1:Hl)=>Z (jC  a q1)) (nJ (cY b)) a)/\(Ep (oY (λ(a:O BE) (q1:Hl)=>((dZ  a q1):wN ((O BE)) (O BE))) (nJ (cY b)) a) λa:(O BE)=>True)))
theorem Sx(b:AK):RP qU [Z (zE eS b),Y3,Y3,Y3,Y3] (λr=>Ap.rt ((zE (eT (eT eD))) r)) (gW b) (Z (oU b)):=R.tp (cH 1 (rR (iI (eT eD)) (Zs Y2)) (λ_=>Y2) λa=>(Rb (λa:(O BE)=>[Z (zE eS b),Z ((oE (eT eD)) a),Y3,Y3,Y3]) a Y2 (Z' (Ff (An Yi (aX (ao 0 (zE eS) b Y2) aM)))) _ (λ_ _=>Y2) (λ(a:O BE) (q1:Hl)=>((Iz b a q1).r:R _ _ (cC (λa:(O BE)=>[Z (zE eS b),Z ((oE (eT eD)) a),Y3,Y3,Y3]) (zE (eT (eT eD)))))) (λr=>r) (λ_=>Y2) λa=>(bL (λr=>r) (gK (ni (ao 1 (lE (eT eD)) a Y2))) (λ_=>Y2) λ_=>Y2)))
theorem Sy:∀v bs,(aZ eS aN) v bs->bs.length=1/\(B0 (Z (oU v.1))->qW (bs.map B7)=Z ((zE (eT (eT eD))) (gW v.1))):=by
 rintro⟨a,_⟩ _ ⟨_,rfl,rfl⟩;exact⟨rfl,λh=>bG (g:=qU) (n:=5) (bs:=[.z (eS a)]) (Sx a) h⟩
def fO(c:O bM)(b:BE)(e:BE):Bool:=(let q1:=(aB c b);(let f:=(aB c e);(let i:=(f.2.1.map λval:dH=>((val.1,val.2.1,val.2.2.1).1,(val.1,val.2.1,val.2.2.1).2.1,(val.1,val.2.1,val.2.2.1).2.2,(val.2.2.2+(b.length:Int))));(let h:=(f.2.2.map λa:fG=>((a.1,a.2.1).1,(a.1,a.2.1).2,(a.2.2+(b.length:Int))));(let g:=(q1.1,(cg (q1.2.1++i)),(jK eE (q1.2.2++h)));(decide ((aB c (b++e))=g)))))))
def gY(b:O bM)(a:BE)(e:BE):Prop:=((dF b a)/\(let q1:=(aB b a);((dF b e)/\(let f:=(aB b e);(f.2.1.length<=100000/\(let h:=(f.2.1.map λval:dH=>((val.1,val.2.1,val.2.2.1).1,(val.1,val.2.1,val.2.2.1).2.1,(val.1,val.2.1,val.2.2.1).2.2,(val.2.2.2+(a.length:Int))));(f.2.2.length<=100000/\(let g:=(f.2.2.map λc:fG=>((c.1,c.2.1).1,(c.1,c.2.1).2,(c.2.2+(a.length:Int))));(((Ej (q1.2.1.length+h.length)/\(mL (q1.2.1++h)))/\(Ej (q1.2.2.length+g.length)/\(q1.2.2++g).length<=100000))/\(let i:=(q1.1,(cg (q1.2.1++h)),(jK eE (q1.2.2++g)));(Ej (a.length+e.length)/\(dF b (a++e)))))))))))))
theorem Fy(b:O bM)(a:BE)(c:BE):RP jM [Z ((zE (eT aO)) b),Z ((zE (eT eD)) a),Z ((zE (eT eD)) c),Y3,Y3,Y3,Y3,Y3,Y3,Y3] (λr=>Ap.rt (zE eB r)) (fO b a c) (Z (gY b a c)):=R.tp (Hg (An gR (aX (ao 0 (zE (eT aO)) b Y2) (aX (ao 1 (zE (eT eD)) a Y2) aM))) _ (λ_=>Y2) λq1=>(cH 6 (An gR (aX (ao 0 (zE (eT aO)) b Y2) (aX (ao 2 (zE (eT eD)) c Y2) aM))) (λ_=>Y2) λe=>(cH 7 (lY (yG (jA (ao 6 (zE jR) e Y2) (λq=>q.2.1) (eT dI) 1 λ_=>Y2)) _ (λ_=>Y2) (λval:dH=>(fQ (Xl (e3:=dI) (Zo (ao 1 (zE dI) val Y2) (λq=>(q.1,q.2.1,q.2.2.1)) WG Y3 (Z 3) Y2 Y2 λ_=>Y2) (Xg (fQ (iY (jA (ao 1 (zE dI) val Y2) (λq=>q.2.2.2) eI 3 λ_=>Y2) (J9 (ao 0 (zE (eT eD)) a Y2))))) (λx y=>(x.1,x.2.1,x.2.2,y)) λ_ _=>Y2))) λ_=>Y2) (λ_=>Y2) λi=>(cH 8 (lY (yG (jA (ao 6 (zE jR) e Y2) (λq=>q.2.2) (eT eE) 2 λ_=>Y2)) _ (λ_=>Y2) (λf:fG=>(fQ (Xl (e3:=eE) (Zo (ao 1 (zE eE) f Y2) (λq=>(q.1,q.2.1)) Kw Y3 (Z 2) Y2 Y2 λ_=>Y2) (Xg (fQ (iY (jA (ao 1 (zE eE) f Y2) (λq=>q.2.2) eI 2 λ_=>Y2) (J9 (ao 0 (zE (eT eD)) a Y2))))) (λx y=>(x.1,x.2,y)) λ_ _=>Y2))) λ_=>Y2) (λ_=>Y2) λh=>(cH 9 (Gs (ao 3 (zE (eT eS)) q1.1 Y2) (gK (jk (An CV (Ik (GA (Ff (Xh (jk (Zn (ao 4 (zE (eT dI)) q1.2.1 Y2))) (ni (ao 7 (lE dI) i Y2))))) aM)))) (gK (jk (Xr (jk (Xh (jk (Zn (ao 5 (zE (eT eE)) q1.2.2 Y2))) (ni (ao 8 (lE eE) h Y2)))))))) (λ_=>Y2) λg=>(bL (λr=>r) (C5 () (An gR (aX (ao 0 (zE (eT aO)) b Y2) (aX (fQ (PQ (ao 1 (zE (eT eD)) a Y2) (ao 2 (zE (eT eD)) c Y2))) aM))) (ao 9 (zE jR) g Y2)) (λ_=>Y2) λ_=>Y2))))))
theorem u9:∀v bs,(aZ (eT aO) (aZ (eT eD) (aZ (eT eD) aN))) v bs->bs.length=3/\(B0 (Z (gY v.1 v.2.1 v.2.2.1))->gO (bs.map B7)=Z ((zE eB) (fO v.1 v.2.1 v.2.2.1))):=by
 rintro⟨c,a,b,_⟩ _ ⟨_,rfl,⟨_,rfl,⟨_,rfl,rfl⟩⟩⟩;exact⟨rfl,λh=>bG (g:=jM) (n:=10) (bs:=[.z (eT aO c),.z (eT eD a),.z (eT eD b)]) (Fy c a b) h⟩
def sW(b:BE)(vs:Bm)(e:Unit)(q3:Ew):wN (Unit) Bool:=(if(!decide ((aB (iU q3.1 q3.2) b)=vs))=true then(wN.rt false)else(let a:=(aB q3.1 b);(if((!((a.2.1.map λval:dH=>(Rc val vs.2.1)).all id))||(!((a.2.2.map λc:fG=>(Rc c vs.2.2)).all id)))=true then(wN.rt false)else(wN.nx lm))))
def Fz(a:BE)(vs:Bm)(c:Unit)(q3:Ew):Prop:=(((pI q3.1 q3.2)/\(dF (iU q3.1 q3.2) a))/\((!decide ((aB (iU q3.1 q3.2) a)=vs))=false->((dF q3.1 a)/\(let b:=(aB q3.1 a);(b.2.1.length<=100000/\((!((b.2.1.map λval:dH=>(Rc val vs.2.1)).all id))=false->b.2.2.length<=100000))))))
theorem xE(j:BM)(l:Lp jT (j.map eI))(e:He)(g:O bM)(i:Int)(a:BE)(vs:Bm)(f:O bM)(c:O bM)(b:Unit)(q3:Ew):RP Vl [Z jT,Z (zE Bl e),Z ((zE (eT aO)) g),Z (zE eI i),Z ((zE (eT eD)) a),Z (zE jR vs),Z ((zE (eT aO)) f),Z ((zE (eT aO)) c),Z ((zE (eT aO)) q3.1),Z ((zE (eT aO)) q3.2),Y3,Y3,Y3,Y3] (cC (λb:Unit=>[Z jT,Z (zE Bl e),Z ((zE (eT aO)) g),Z (zE eI i),Z ((zE (eT eD)) a),Z (zE jR vs),Z ((zE (eT aO)) f),Z ((zE (eT aO)) c),Y3,Y3,Y3,Y3,Y3,Y3]) (zE eB)) (sW a vs b q3) (Z (Fz a vs b q3)):=R.tp (bR (jB (f9 (UL () (An gR (aX (fQ (An GR (aX (ao 8 (zE (eT aO)) q3.1 Y2) (aX (ao 9 (zE (eT aO)) q3.2 Y2) aM)))) (aX (ao 4 (zE (eT eD)) a Y2) aM))) (ao 5 (zE jR) vs Y2))) (bR (bL .rt (rQ (.bl false) eB false Y2) (λ_=>Y2) λ_=>Y2)) (cQ (bR (Hg (An gR (aX (ao 8 (zE (eT aO)) q3.1 Y2) (aX (ao 4 (zE (eT eD)) a Y2) aM))) _ (λ_=>Y2) λh=>(bR (jB (U0 (wk (zj (yu (jk (lY (yG (ao 11 (zE (eT dI)) h.2.1 Y2)) _ (λ_=>Y2) (λval:dH=>(Nc () (ao 1 (zE dI) val Y2) (jA (ao 0 (zE jR) vs Y2) (λq=>q.2.1) (eT dI) 1 λ_=>Y2))) λ_=>Y2))))) (wk (zj (yu (jk (lY (yG (ao 12 (zE (eT eE)) h.2.2 Y2)) _ (λ_=>Y2) (λk:fG=>(Nc () (ao 1 (zE eE) k Y2) (jA (ao 0 (zE jR) vs Y2) (λq=>q.2.2) (eT eE) 2 λ_=>Y2))) λ_=>Y2)))))) (bR (bL .rt (rQ (.bl false) eB false Y2) (λ_=>Y2) λ_=>Y2)) (cQ (cQ (dJ (.nx lm) Y2))))))))))
def sX(c:O bM)(b:BE)(vs:Bm)(e:Unit)(a:AK):wN (Unit) Bool:=(if(!decide ((aB (iV c a) b)=(lX vs a)))=true then(wN.rt false)else(wN.nx lm))
def zV(b:O bM)(c:BE)(vs:Bm)(e:Unit)(a:AK):Prop:=(((sV b a)/\(dF (iV b a) c))/\(vN vs a))
theorem WC(j:BM)(k:Lp jT (j.map eI))(g:He)(a:O bM)(i:Int)(c:BE)(vs:Bm)(h:O bM)(f:O bM)(e:Unit)(b:AK):RP Vm [Z jT,Z (zE Bl g),Z ((zE (eT aO)) a),Z (zE eI i),Z ((zE (eT eD)) c),Z (zE jR vs),Z ((zE (eT aO)) h),Z ((zE (eT aO)) f),Y3,Y3,Y3,Y3,Y3,Z (zE eS b)] (cC (λe:Unit=>[Z jT,Z (zE Bl g),Z ((zE (eT aO)) a),Z (zE eI i),Z ((zE (eT eD)) c),Z (zE jR vs),Z ((zE (eT aO)) h),Z ((zE (eT aO)) f),Y3,Y3,Y3,Y3,Y3,Y3]) (zE eB)) (sX a c vs e b) (Z (zV a c vs e b)):=R.tp (bR (jB (f9 (UL () (An gR (aX (fQ (An LC (aX (ao 2 (zE (eT aO)) a Y2) (aX (ao 13 (zE eS) b Y2) aM)))) (aX (ao 4 (zE (eT eD)) c Y2) aM))) (An Nz (aX (ao 5 (zE jR) vs Y2) (aX (ao 13 (zE eS) b Y2) aM))))) (bR (bL .rt (rQ (.bl false) eB false Y2) (λ_=>Y2) λ_=>Y2)) (cQ (cQ (dJ (.nx lm) Y2)))))
def Wf(i:BM):Bool:=(let q1:=(fB i);(let a:=(q1.1.1++q1.1.2);(let vs:=(aB q1.2.1 a);(let j:=(BI q1.2.1 Y3 (Z q1.2.2));let h:=(BI q1.2.1 (Z q1.2.2) Y3);let e:=j;let b:=h;(if((!((j6 vs)==true))||(!decide (vs=(iT q1.2.1 a))))=true then false else(By (oY (λ(c:Unit) (q3:Ew)=>((sW a vs c q3):wN (Unit) Bool)) [(e,b),(b,e)] lm) (λr=>r) λc:Unit=>(By (oY (λ(f:Unit) (k:AK)=>((sX q1.2.1 a vs f k):wN (Unit) Bool)) (q1.2.1.map λg:bM=>g.1) lm) (λr=>r) λf:Unit=>(if(!decide ((aB q1.2.1 ((gW (cR a)).map (eT eD)))=vs))=true then false else((fO q1.2.1 q1.1.1 q1.1.2)&&(fO q1.2.1 q1.1.2 q1.1.1))))))))))
def Wg(i:BM):Prop:=((qz i)/\(let q1:=(fB i);(Ej (q1.1.1.length+q1.1.2.length)/\(let a:=(q1.1.1++q1.1.2);((dF q1.2.1 a)/\(let vs:=(aB q1.2.1 a);(let k:=(BI q1.2.1 Y3 (Z q1.2.2));let j:=(BI q1.2.1 (Z q1.2.2) Y3);let g:=k;let f:=j;(((u0 vs)/\((!((j6 vs)==true))=false->(j7 q1.2.1 a)))/\(((!((j6 vs)==true))||(!decide (vs=(iT q1.2.1 a))))=false->(yx (λ(b:Unit) (q3:Ew)=>((sW a vs b q3):wN (Unit) Bool)) (λ(b:Unit) (q3:Ew)=>Z (Fz a vs b q3)) [(g,f),(f,g)] lm/\(Ep (oY (λ(b:Unit) (q3:Ew)=>((sW a vs b q3):wN (Unit) Bool)) [(g,f),(f,g)] lm) λb:Unit=>((q1.2.1.length<=100000/\yx (λ(c:Unit) (e:AK)=>((sX q1.2.1 a vs c e):wN (Unit) Bool)) (λ(c:Unit) (e:AK)=>Z (zV q1.2.1 a vs c e)) (q1.2.1.map λh:bM=>h.1) lm)/\(Ep (oY (λ(c:Unit) (e:AK)=>((sX q1.2.1 a vs c e):wN (Unit) Bool)) (q1.2.1.map λh:bM=>h.1) lm) λc:Unit=>((((oO a)/\(oU (cR a)))/\(dF q1.2.1 ((gW (cR a)).map (eT eD))))/\((!decide ((aB q1.2.1 ((gW (cR a)).map (eT eD)))=vs))=false->((gY q1.2.1 q1.1.1 q1.1.2)/\((fO q1.2.1 q1.1.1 q1.1.2)=true->(gY q1.2.1 q1.1.2 q1.1.1))))))))))))))))))
theorem a9(e:BM)(h:Lp jT (e.map eI)):RP ZL [Z jT,Y3,Y3,Y3,Y3,Y3,Y3,Y3,Y3,Y3,Y3,Y3,Y3,Y3] (λr=>Ap.rt (zE eB r)) (Wf e) (Z (Wg e)):=R.tp (Hg (An VN (Ik (lN 0 eI e h Y2) aM)) _ (λ_=>Y2) λq1=>(cH 4 (PQ (jA (ao 1 (zE Bl) q1.1 Y2) (λq=>q.1) (eT eD) 0 λ_=>Y2) (jA (ao 1 (zE Bl) q1.1 Y2) (λq=>q.2) (eT eD) 1 λ_=>Y2)) (λ_=>Y2) λa=>(cH 5 (An gR (aX (ao 2 (zE (eT aO)) q1.2.1 Y2) (aX (ao 4 (zE (eT eD)) a Y2) aM))) (λ_=>Y2) λvs=>(SD 6 7 (fQ (L3 (ao 2 (zE (eT aO)) q1.2.1 Y2) Eh (Ei (ao 3 (zE eI) q1.2.2 Y2)))) (fQ (L3 (ao 2 (zE (eT aO)) q1.2.1 Y2) (Ei (ao 3 (zE eI) q1.2.2 Y2)) Eh)) λc b=>(jB (U0 (f9 (nE (An V7 (aX (ao 5 (zE jR) vs Y2) aM)) (rQ (.bl true) eB true Y2))) (f9 (UL () (ao 5 (zE jR) vs Y2) (An Ly (aX (ao 2 (zE (eT aO)) q1.2.1 Y2) (aX (ao 4 (zE (eT eD)) a Y2) aM)))))) (bR (bL (λr=>r) (rQ (.bl false) eB false Y2) (λ_=>Y2) λ_=>Y2)) (cQ (Rb (λf:Unit=>[Z jT,Z ((zE Bl) q1.1),Z ((zE (eT aO)) q1.2.1),Z ((zE eI) q1.2.2),Z ((zE (eT eD)) a),Z (zE jR vs),Z ((zE (eT aO)) c),Z ((zE (eT aO)) b),Y3,Y3,Y3,Y3,Y3,Y3]) lm Y2 (HQ (rR (bI (Gr (ao 6 (zE (eT aO)) c Y2) (ao 7 (zE (eT aO)) b Y2)) (bI (Gr (ao 7 (zE (eT aO)) b Y2) (ao 6 (zE (eT aO)) c Y2)) (iI Sb))) (Zs Y2))) _ (λ_ _=>Y2) (λ(f:Unit) (q3:Ew)=>((xE e h q1.1 q1.2.1 q1.2.2 a vs c b f q3).r:R _ _ (cC (λf:Unit=>[Z jT,Z ((zE Bl) q1.1),Z ((zE (eT aO)) q1.2.1),Z ((zE eI) q1.2.2),Z ((zE (eT eD)) a),Z (zE jR vs),Z ((zE (eT aO)) c),Z ((zE (eT aO)) b),Y3,Y3,Y3,Y3,Y3,Y3]) (zE eB)))) (λr=>r) (λ_=>Y2) λf=>(Rb (λg:Unit=>[Z jT,Z ((zE Bl) q1.1),Z ((zE (eT aO)) q1.2.1),Z ((zE eI) q1.2.2),Z ((zE (eT eD)) a),Z (zE jR vs),Z ((zE (eT aO)) c),Z ((zE (eT aO)) b),Y3,Y3,Y3,Y3,Y3,Y3]) lm Y2 (HQ (lY (yG (ao 2 (zE (eT aO)) q1.2.1 Y2)) _ (λ_=>Y2) (λi:bM=>(jA (ao 0 (zE aO) i Y2) (λq=>q.1) eS 0 λ_=>Y2)) λ_=>Y2)) _ (λ_ _=>Y2) (λ(g:Unit) (j:AK)=>((WC e h q1.1 q1.2.1 q1.2.2 a vs c b g j).r:R _ _ (cC (λg:Unit=>[Z jT,Z ((zE Bl) q1.1),Z ((zE (eT aO)) q1.2.1),Z ((zE eI) q1.2.2),Z ((zE (eT eD)) a),Z (zE jR vs),Z ((zE (eT aO)) c),Z ((zE (eT aO)) b),Y3,Y3,Y3,Y3,Y3,Y3]) (zE eB)))) (λr=>r) (λ_=>Y2) λg=>(jB (f9 (UL () (An gR (aX (ao 2 (zE (eT aO)) q1.2.1 Y2) (aX (LA (fQ (An Sy (aX (fQ (An Sw (aX (ao 4 (zE (eT eD)) a Y2) aM))) aM))) (λq=>q.map (eT eD)) (eT eD) λ_=>congrArg Dt.tup (KI _).symm) aM))) (ao 5 (zE jR) vs Y2))) (bR (bL (λr=>r) (rQ (.bl false) eB false Y2) (λ_=>Y2) λ_=>Y2)) (cQ (bL (λr=>r) (fu (An u9 (aX (ao 2 (zE (eT aO)) q1.2.1 Y2) (aX (jA (ao 1 (zE Bl) q1.1 Y2) (λq=>q.1) (eT eD) 0 λ_=>Y2) (aX (jA (ao 1 (zE Bl) q1.1 Y2) (λq=>q.2) (eT eD) 1 λ_=>Y2) aM)))) (An u9 (aX (ao 2 (zE (eT aO)) q1.2.1 Y2) (aX (jA (ao 1 (zE Bl) q1.1 Y2) (λq=>q.2) (eT eD) 1 λ_=>Y2) (aX (jA (ao 1 (zE Bl) q1.1 Y2) (λq=>q.1) (eT eD) 0 λ_=>Y2) aM))))) (λ_=>Y2) λ_=>Y2)))))))))))
theorem PZ:∀v bs,(aL eI aN) v bs->bs.length=1/\(B0 (Z (Wg v.1))->F_law (bs.map B7)=Z ((zE eB) (Wf v.1))):=by
 rintro⟨b,_⟩ _ ⟨jT,_,rfl,a,rfl⟩;exact⟨rfl,λh=>bG (g:=ZL) (n:=14) (bs:=[B7 jT]) (a9 b (Ed a)) h⟩
theorem NR(h:∀a:O Int,a.length<=63->Wg a/\Wf a=true):(∀a:O Int,a.length<=63->F_law [.z (.lst (a.map .int))]=Z (.z (.bl true)))/\∀a:O Int,a.length<=63->F_law [.l (a.map .int)]=Z (.z (.bl true)):=
 ⟨λa b=>((PZ (a,lm) [.z (.lst (a.map .int))] ⟨_,_,rfl,rfl,rfl⟩).2 (h a b).1).trans (by rw[(h a b).2]),λa b=>((PZ (a,lm) [.l (a.map .int)] ⟨_,_,rfl,rfl,rfl⟩).2 (h a b).1).trans (by rw[(h a b).2])⟩
end
end G11
end
section
set_option synthInstance.maxSize 100000
namespace G11
open L2 P1
theorem PM(b:O Int)(k:Int)(a:0<=k)(h1:k<=1000):pG b k:=by
 unfold pG;exact⟨λh=>BC a (by simpa using h),λ_=>Mc a ()⟩
theorem VM(k:Nat)(s:Int×O Int×Int)(hk:k<1000)(h:(0<=s.1/\s.1<1999999973)/\s.2.1.length=k/\(∀x∈s.2.1,0<=x)/\0<=s.2.2):kY s k/\(0<=(c7 s k).1/\(c7 s k).1<1999999973)/\(c7 s k).2.1.length=k+1/\(∀x∈(c7 s k).2.1,0<=x)/\0<=(c7 s k).2.2:=by
 obtain⟨h1,h2,c,b⟩:=h;have a:In 2 (if(decide ((0:Int)<s.2.2))=true then(1:Int)else 0):=by split<;>exact BC () ()
 refine⟨⟨Mc h1.1 (),a,?_⟩,iJ _ (),?_,?_,Int.ediv_nonneg b ()⟩
 ·show s.2.1.length<=1000000;omega
 ·show(s.2.1++[_]).length=k+1;rw[zt,h2];rfl
 ·intro x hx;rcases bc.mp hx with hx|hx
  ·exact c x hx
  ·cases ag.mp hx;have:=Rf (xs:=[((((s.1*((s.1%65521)+40487))+(7*k))+5)%1999999973),(s.2.2%1000000)]) a;simp only[ba,JJ,or_false]at this;rcases this with e|e<;>rw[e]
   ·exact(iJ _ ()).1
   ·exact(iJ _ ()).1
theorem Yk(c m:Int)(f:0<=m)(h1:m<=1000):lR c m/\(bN c m).length=m.toNat/\∀x∈bN c m,0<=x:=by
 have e:∀st a:Int,(0<=st/\st<1999999973)->0<=a->pH c m [] st a/\(kZ c m [] st a).length=m.toNat/\∀x∈kZ c m [] st a,0<=x:=λst a b hd=>by
  have:=rW (P:=λs k=>Z (kY s k)) (λk s=>(0<=s.1/\s.1<1999999973)/\s.2.1.length=k/\(∀x∈s.2.1,0<=x)/\0<=s.2.2) (step:=λs k=>c7 s k) m.toNat (st,[],a) ⟨b,rfl,λx h=>(by cases h),hd⟩ λk s hk h=>VM k s () h;exact⟨⟨Hi f (),this.1⟩,this.2.2.1,this.2.2.2.1⟩
 refine e _ _ (iJ _ ()) ?_;dsimp only;split<;>(try split)<;>omega
open S1 S6
abbrev bO:=AK×O (AK×AK)
theorem Pq{α τ:Type}{p:α->Bool}{g:α->τ}{step:Unit->α->wN Unit τ}(hs:∀s x,step s x=if p x=true then .rt (g x)else .nx lm):∀(xs:O α),oY step xs lm=(match xs.find? p with|some x=>.rt (g x)|none=>.nx lm)/\yx step (λ_ _=>Y3) xs lm
 |[]=>⟨rfl,trivial⟩
 |x::xs=>by
  obtain⟨h1,h2⟩:=Pq hs xs;unfold oY yx;rw[hs,List.find?_cons];cases p x with
  |true=>exact⟨rfl,trivial,trivial⟩
  |false=>exact⟨h1,trivial,h2⟩
def fw(a:O (AK×AK))(f:AK):Y AK:=(a.find? λq=>decide (q.1=f)).map (·.2)
theorem wI(r:bO)(f:AK):lu r f/\fK r f=fw r.2 f:=by
 obtain⟨h1,h2⟩:=Pq (p:=λq:AK×AK=>decide (q.1=f)) (g:=λq:AK×AK=>Z q.2) (step:=λs q=>lq f s q) (λ_ _=>Y2) r.2;refine⟨⟨h2,?_⟩,?_⟩
 ·cases oY (λ(a:Unit) (q2:AK×AK)=>((lq f a q2):wN Unit (Y AK))) r.2 lm<;>trivial
 ·unfold fK fw;rw[h1];cases r.2.find? λq=>decide (q.1=f)<;>rfl
theorem C3{α:Type}(c:Array α):∀(n:Nat) (a:Array α),((bb n c).foldl (·++·) a).size=a.size+n*c.size
 |0,a=>by simp
 |n+1,a=>by
  rw[K2,kR,C3 c n,kb,eU];omega
theorem Qu(x:AK)(k:Int):(Txt.mul x k).length<=x.length*k.toNat:=by
 unfold Txt.mul;split
 ·exact ZT _
 split
 ·rename_i a h;simp only[QQ,beq_iff_eq]at h;rcases h with h|h
  ·subst h;simp
  ·rw[h];simp
 ·show(Array.size _)<=_;rw[C3];have:x.cps.size=x.length:=rfl;rw[this,Nat.mul_comm];simp
def LT:AK:=("abcdefghijklmnopqrstuvwxyz":AK)
theorem Yl:LT.length=26:=by decide +kernel
theorem vO(h:n<=1000):Ej n:=zl h ()
theorem Ym(xs:O Int)(l:6<=xs.length)(b:AK)(hs:b.length<=5)(at_:Int)(k:Nat)(a:B5)(hk:k<200)(h:a.length=k/\∀n∈a,n.length<=12):ou xs LT b at_ a k/\(gq xs LT b at_ a k).length=k+1/\∀n∈gq xs LT b at_ a k,n.length<=12:=by
 have i:=zl (slice_le b Y3 (Z at_)) hs;have g:=zl (slice_le b (Z at_) Y3) hs;have c1:=Cw LT ((↑k+Au xs 2)%15);have j:=iJ (k:Int) (m:=8) ();have hd:(0:Int)<=(k:Int) / 8/\(k:Int) / 8<26:=by omega
 refine⟨⟨⟨BC () (),zp () (by rw[Yl];decide)⟩,⟨vO (),vO (by rw[mU];omega)⟩,⟨BC () (),λ_=>⟨BC hd.1 (by rw[Yl];exact hd.2),by omega,by omega,by rw[Cw];decide⟩⟩,vO ()⟩,?_⟩;have e:∀n:AK,n.length<=12->(a++[n]).length=k+1/\∀m∈a++[n],m.length<=12:=λn f=>⟨by simp[h.1],λm c=>by
  rcases bc.mp c with c|c
  ·exact h.2 m c
  ·cases ag.mp c;exact f⟩
 unfold gq;dsimp only;split
 ·exact e _ (by have:=Qu (ch LT ((k:Int) / 8)) (1+(k:Int)%8);rw[Cw]at this;exact zl this ())
 ·exact e _ (by rw[mU,mU,c1];omega)
theorem Of(xs:B5)(n:Nat)(h:∀x∈xs,x.length<=n):(Txt.join "" xs).length<=xs.length*n:=by
 have h1:=StrLaws.join_length_le ("":AK) xs;rw[<-StrLaws.glued_eq_join]at h1;have h2:(xs.map (·.length)).sum<=xs.length*n:=by
  clear h1
  induction xs with
  |nil=>simp
  |cons a l b=>
   have:=b λx hx=>h x (zk _ hx);have:=h a (zr ..);simp only[zw,nw,ZZ,eU];omega
 have c:("":AK).length=0:=rfl;rw[c,Nat.mul_zero]at h1;exact zl h1 ()
theorem sC(xs:B5)(h:∀x∈xs,x.length=1):(xs.map (·.length)).sum=xs.length:=by
 induction xs with
 |nil=>rfl
 |cons a l b=>
  have:=b λx hx=>h x (zk _ hx);have:=h a (zr ..);simp only[zw,nw,ZZ];omega
theorem X1(xs:O Int)(o:6<=xs.length)(a:Int)(l:0<=a)(h1:a<=200):uV xs a/\(dY xs a).length=a.toNat/\∀n∈dY xs a,n.length<=12:=by
 have i:=iJ (Au xs 0) (m:=6) ();have st:∀b:AK,b.length<=5->sJ xs a LT b/\(oA xs a LT b).length=a.toNat/\∀n∈oA xs a LT b,n.length<=12:=λb e=>by
  have:=rW (P:=λf k=>Z (ou xs LT b (Au xs 1%((b.length:Int)+1)) f k)) (step:=λf k=>gq xs LT b (Au xs 1%((b.length:Int)+1)) f k) (λk s=>s.length=k/\∀n∈s,n.length<=12) a.toNat [] ⟨rfl,λn h=>(by cases h)⟩ λk s hk h=>Ym xs o b e _ k s () h;exact⟨⟨⟨BC () (),by omega⟩,Hi l (),this.1⟩,this.2⟩
 have c1:∀x∈((rng 0 (Au xs 0%6).toNat).map λc:Int=>ch LT (Au xs c / 40%26)),x.length=1:=λx hx=>by
  obtain⟨k,_,rfl⟩:=aQ.mp hx;exact Cw _ _
 have:=st (Txt.join "" ((rng 0 (Au xs 0%6).toNat).map λc:Int=>ch LT (Au xs c / 40%26))) (by
  have:=Of _ 1 λx hx=>ye (c1 x hx);rw[zd,qL]at this;omega)
 refine⟨⟨⟨⟨⟨⟨BC () (),Hi i.1 ()⟩,by rw[qL];omega⟩,λk hk=>?_⟩,?_⟩,this.1⟩,this.2⟩
 ·obtain⟨j,p,rfl⟩:=xg hk;exact⟨BC () (),zp () (by rw[show("abcdefghijklmnopqrstuvwxyz":AK)=LT from rfl,Yl];decide)⟩
 ·rw[show("abcdefghijklmnopqrstuvwxyz":AK)=LT from rfl,sC _ c1,zd,qL];have g:("":AK).length=0:=rfl;rw[g];omega
def EC(xs:O Int)(a:AK)(at_:Int)(k:Int):AK:=if(decide (((Au xs 3)%3)=1))=true then(Txt.mul (ch LT (k / (8:Int))) (1+(k%8)))else(((Txt.slice a Y3 (Z at_))++(ch LT ((k+(Au xs 2))%15)))++(Txt.slice a (Z at_) Y3))
theorem Dd{α β:Type}(g:β->α):∀(l:O β) (f:O α),l.foldl (λf k=>f++[g k]) f=f++l.map g
 |[],f=>by simp
 |k::l,f=>by rw[kR,Dd g l];simp
theorem vE(xs:O Int)(a:Int):∃b at_,dY xs a=(rng 0 a.toNat).map (EC xs b at_):=by
 refine⟨_,_,(Dd (EC xs _ _) _ []).trans (kP _)⟩
theorem Yn{a b m c:AK}(h:(a++m)++b=(a++c)++b):m=c:=by
 have h:=congrArg (λs:AK=>s.cps.toList) h;have h:((a.cps++m.cps)++b.cps).toList=((a.cps++c.cps)++b.cps).toList:=h;simp only[ZA]at h;have:=List.append_cancel_left (List.append_cancel_right h);cases m;cases c;congr 1;exact Array.ext' this
theorem gm:∀i:Fin 30,∀j:Fin 30,Txt.mul (ch LT ((i.val:Int) / 8)) (1+(i.val:Int)%8)=Txt.mul (ch LT ((j.val:Int) / 8)) (1+(j.val:Int)%8)->i=j:=by decide +kernel
theorem jp:∀i:Fin 15,∀j:Fin 15,ch LT (i.val:Int)=ch LT (j.val:Int)->i=j:=by decide +kernel
theorem p5{x y:Int}(hx:0<=x/\x<15)(a:0<=y/\y<15)(h:ch LT x=ch LT y):x=y:=by
 have:=jp ⟨x.toNat,by omega⟩ ⟨y.toNat,by omega⟩ (by
  show ch LT ((x.toNat:Nat):Int)=ch LT ((y.toNat:Nat):Int);rw[gi hx.1,gi a.1];exact h)
 have:=congrArg Fin.val this;have:x.toNat=y.toNat:=this;omega
theorem UB{xs:O Int}{a:AK}{at_:Int}(hi:i<15)(b:j<15)(h:EC xs a at_ i=EC xs a at_ j):i=j:=by
 unfold EC at h;by_cases e:(decide (((Au xs 3)%3)=1))=true
 ·rw[zh e,zh e]at h;exact congrArg Fin.val (gm ⟨i,by omega⟩ ⟨j,by omega⟩ h)
 ·rw[zv e,zv e]at h;have:=p5 (iJ _ ()) (iJ _ ()) (Yn h);omega
theorem NE{g:Int->AK}(h:∀i j:Nat,i<n->j<n->g i=g j->i=j):((rng 0 n).map g).Nodup:=by
 unfold rng;rw[ZE];unfold List.Nodup;rw[bA];refine y0 ?_ (sI (n:=n));intro a b f k c e;refine c (h a b (dB.mp f) (dB.mp k) ?_);have e:g (0+(a:Int))=g (0+(b:Int)):=e;rwa [eW,eW]at e
theorem be(xs:O Int)(a:Int)(h:a<=15):(dY xs a).Nodup:=by
 obtain⟨c,at_,e⟩:=vE xs a;rw[e];exact NE λi j hi b=>UB () ()
abbrev Wd(w:AK):Prop:=w.length<=12
def FL:B5:=[("day":AK),("name":AK),(("name":AK)++("s":AK)),("p":AK)]
abbrev Fd(r:bO):Prop:=(r.2.map (·.1)).Sublist FL/\∀q∈r.2,Wd q.2
theorem UZ:("ab1":AK).length=3:=by decide +kernel
theorem vS(x:Int)(k:Nat)(s:AK)(hk:k<4)(h:s.length=k):qd x s k/\(lU x s k).length=k+1:=by
 have hi:In [(1:Int),(3:Int),(9:Int),(27:Int)].length (k:Int):=BC () (by show(k:Int)<4;omega);have hp:(0<(Au [(1:Int),(3:Int),(9:Int),(27:Int)] (k:Int))/\(Au [(1:Int),(3:Int),(9:Int),(27:Int)] (k:Int))<1073741824):=by
  have:=Rf hi;simp only[ba,JJ,or_false]at this;rcases this with e|e|e|e<;>rw[e]<;>decide
 refine⟨⟨⟨⟨hi,hp⟩,zp () (by rw[UZ];decide)⟩,vO (by rw[Cw];omega)⟩,?_⟩;show(s++ch _ _).length=k+1;rw[mU,Cw,h]
theorem rn:∀w∈[("a":AK),("ab":AK),("abc":AK),("b":AK),("1":AK),("12":AK),("a1":AK)],Wd w:=by decide +kernel
theorem My(x:Int):yd x/\Wd (sO x):=by
 have b:=iJ (x / 4) (m:=4) ();have lp:=rW (P:=λf k=>Z (qd x f k)) (step:=λf k=>lU x f k) (λk (s:AK)=>s.length=k) (1+x / 4%4).toNat ("":AK) Y2 λk s hk h=>vS x k s () h;have a:In [("a":AK),("ab":AK),("abc":AK),("b":AK),("1":AK),("12":AK),("a1":AK)].length (x / 4%7):=zp () ();refine⟨⟨λ_=>a,λ_=>⟨Hi () (),lp.1⟩⟩,?_⟩;unfold sO;split
 ·exact rn _ (Rf a)
 ·refine zl (ye lp.2) ()
theorem VU(xs:O Int)(j:xs.length=4)(k:Nat)(a:O (AK×AK))(hk:k<4)(h:(a.map (·.1)).Sublist (FL.take k)/\∀q∈a,Wd q.2):q9 xs FL a k/\((jt xs FL a k).map (·.1)).Sublist (FL.take (k+1))/\∀q∈jt xs FL a k,Wd q.2:=by
 have c:=h.2
 replace h:=h.1
 have g:=h.length_le;rw[zd,qk]at g;have i:FL.length=4:=rfl;have hi:In xs.length (k:Int):=BC () ();have f:In FL.length (k:Int):=BC () ();have e:Au FL (k:Int)=FL[k]'():=wZ _ _ _;refine⟨⟨hi,λ_=>⟨⟨f,hi,(My _).1⟩,vO ()⟩⟩,?_⟩;unfold jt;dsimp only;rw[dV ()];split
 ·rw[qB,e];refine⟨h.append (List.Sublist.refl _),λq b=>?_⟩;rcases bc.mp b with b|b
  ·exact c q b
  ·rw[ag.mp b];exact(My _).2
 ·exact⟨h.trans (lz _ _),c⟩
theorem bq(n:AK)(xs:O Int)(c:xs.length=4):wG n xs/\(gG n xs).1=n/\Fd (gG n xs):=by
 have lp:=rW (P:=λf k=>Z (q9 xs FL f k)) (step:=λf k=>jt xs FL f k) (λk (a:O (AK×AK))=>(a.map λq:AK×AK=>q.1).Sublist (FL.take k)/\∀q∈a,Wd q.2) (kN 4) [] ⟨List.nil_sublist _,λq h=>by cases h⟩ λk s hk h=>VU xs c k s (by rw[show kN 4=4 from Pm 4]at hk;exact hk) h;have h2:((gG n xs).2.map (·.1)).Sublist (FL.take (kN 4)):=lp.2.1;have b:=h2.trans (yz _ _);exact⟨⟨vO (by decide +kernel),lp.1⟩,rfl,b,lp.2.2⟩
open S1 S6
theorem md{f:α->β->γ}{a e:α}{b c:β}(h:a=e)(h':b=c):f a b=f e c:=by rw[h,h']
abbrev PR:=bO×bO
def C9:O bO->O PR
 |[]=>[]
 |x::xs=>xs.map (λy=>(x,y))++C9 xs
theorem mQ(j:Int)(x:α)(xs:O α):iz j (x::xs)=(j,x)::iz (j+1) xs:=by
 unfold iz;rw[ZZ,dP,m4,List.zipWith_map_left];refine md (f:=hY) (by simp) (congrArg (λg=>pF g (dc xs.length) xs) ?_);funext k z;show(j+((k+1:Nat):Int),z)=(j+1+(k:Int),z);rw[show j+((k+1:Nat):Int)=j+1+(k:Int) by omega]
theorem wq(xs:O α):nJ xs=iz 0 xs:=by
 unfold nJ iz;refine congrArg (λg=>pF g (dc xs.length) xs) ?_;funext k z;simp
theorem Pr{α:Type}:∀(xs:O α) (j:Int),(iz j xs).length=xs.length
 |[],j=>rfl
 |x::xs,j=>by rw[mQ,ZZ,Pr xs,ZZ]
theorem Bh{α:Type}:∀(xs:O α) (j:Int) (q:Int×α),q∈iz j xs->q.2∈xs/\j<=q.1
 |x::xs,j,q,h=>by
  rw[mQ]at h;rcases ba.mp h with rfl|h
  ·exact⟨zr,hH _⟩
  ·have:=Bh xs (j+1) q h;exact⟨zk _ this.1,by omega⟩
def tl(R:O Dt)(q:PR):O (Dt×AK×AK×Int):=((iz 0 R).filter λz:Int×Dt=>uW z.2 q.1 q.2).map λz:Int×Dt=>(z.2,(q.1.1,q.2.1,z.1))
theorem SJ(w:O bO)(R:O Dt):jD w R=(C9 w).flatMap (tl R):=by
 have b:∀(xs a:O bO),a++xs=w->((iz (a.length:Int) xs).flatMap λq1:Int×bO=>((BI w (Z (q1.1+1)) Y3).flatMap λf:bO=>tl R (q1.2,f)))=(C9 xs).flatMap (tl R):=by
  intro xs
  induction xs with
  |nil=>intro a _;rfl
  |cons x xs c=>
   intro a e;have h1:=c (a++[x]) (by rw[Zp];exact e);rw[zt,ku]at h1;rw[mQ,ZI,show((a.length:Int)+1)=((a.length+1:Nat):Int) by omega,h1];have g:BI w (Z ((a.length+1:Nat):Int)) Y3=xs:=by
    rw[zq (by rw[<-e,zt,ZZ];omega),<-e,show a++x::xs=(a++[x])++xs by simp,List.drop_left' (by simp)]
   show(BI w (Z ((a.length:Int)+1)) Y3).flatMap _++_=_;rw[show((a.length:Int)+1)=((a.length+1:Nat):Int) by omega,g];show _=(xs.map (λy=>(x,y))++C9 xs).flatMap (tl R);rw[ya,List.flatMap_map]
 have:=b w [] rfl;unfold jD;rw[wq];exact this
theorem FJ:∀{w:O bO} {q:PR},q∈C9 w->q.1∈w/\q.2∈w
 |x::xs,q,h=>by
  rcases bc.mp h with h|h
  ·obtain⟨y,a,rfl⟩:=aQ.mp h;exact⟨zr,zk _ a⟩
  ·exact⟨zk _ (FJ h).1,zk _ (FJ h).2⟩
theorem Jr:∀w:O bO,(C9 w).length<=w.length*w.length
 |[]=>zo _
 |x::xs=>by
  have:=Jr xs;show(xs.map (λy=>(x,y))++C9 xs).length<=_;rw[zt,zd,ZZ,eU,Nat.mul_succ];omega
theorem FN{α β:Type}{g:α->O β}{k:Nat}(h:∀x,(g x).length<=k):∀xs:O α,(xs.flatMap g).length<=xs.length*k
 |[]=>by simp
 |x::xs=>by
  have:=FN h xs;have:=h x;rw[ZI,zt,ZZ,eU];omega
theorem Yo(R:O Dt)(q:PR):(tl R q).length<=R.length:=by
 unfold tl;rw[zd];exact zl (Q4 _ _) (ye (Pr R 0))
def Rl(r:Dt):Prop:=(∃f w,r=.tup [.str "same", .str f,.int w])\/(∃f n w,r=.tup [.str "begin", .str f,.int n,.int w])\/(∃f g w,r=.tup [.str "both", .str f,.str g,.int w])\/∃f,r=.tup [.str "never", .str f]
def OE(x y:bO)(f:AK):Bool:=(fw x.2 f).isSome&&decide (fw x.2 f=fw y.2 f)
theorem Yp(x y:bO)(f:AK):mY x y f/\je x y f=OE x y f:=by
 obtain⟨h1,h2⟩:=wI x f;obtain⟨b,a⟩:=wI y f;refine⟨⟨h1,λ_=>b⟩,?_⟩;unfold je OE;dsimp only;rw[h2,a]
def NM(x y:bO)(f:AK)(n:Int):Bool:=match fw x.2 f,fw y.2 f with
 |some a,Z b=>decide (n<=(a.length:Int))&&(decide (n<=(b.length:Int))&&decide (Txt.slice a Y3 (Z n)=Txt.slice b Y3 (Z n)))
 |_,_=>false
theorem lc(x y:bO)(f:AK)(n:Int):lW x y f n/\lV x y f n=NM x y f n:=by
 obtain⟨h1,h2⟩:=wI x f;obtain⟨c,e⟩:=wI y f;unfold lW lV NM;dsimp only;rw[h2,e];cases fw x.2 f with
 |none=>exact⟨⟨h1,c,λz=>by cases z⟩,by simp⟩
 |some a=>
  cases fw y.2 f with
  |none=>exact⟨⟨h1,c,λz=>by cases z⟩,by simp⟩
  |some b=>
   refine⟨⟨h1,c,λ_=>⟨rfl,λ_=>⟨rfl,λ_=>⟨rfl,rfl⟩⟩⟩⟩,?_⟩;simp
def OV(x y:bO)(f:AK):Bool:=(fw x.2 f).isSome&&((fw y.2 f).isSome&&!decide (fw x.2 f=fw y.2 f))
theorem UC(x y:bO)(f:AK):rC x y f/\oF x y f=OV x y f:=by
 obtain⟨h1,h2⟩:=wI x f;obtain⟨b,a⟩:=wI y f;refine⟨⟨h1,b⟩,?_⟩;unfold oF OV;dsimp only;rw[h2,a]
theorem nh:(("same":AK)==("same":AK))=true:=by decide
theorem xA:(("begin":AK)==("same":AK))=false:=by decide
theorem hI:(("begin":AK)==("begin":AK))=true:=by decide
theorem iN:(("both":AK)==("same":AK))=false:=by decide
theorem UQ:(("both":AK)==("begin":AK))=false:=by decide
theorem l8:(("both":AK)==("both":AK))=true:=by decide
theorem gI:(("never":AK)==("same":AK))=false:=by decide
theorem o4:(("never":AK)==("begin":AK))=false:=by decide
theorem WP:(("never":AK)==("both":AK))=false:=by decide
theorem Pl:(("never":AK)==("never":AK))=true:=by decide
theorem Ct(a:Dt)(r:O Dt):Af (.tup (a::r)) (0:Int):=by
 show In (r.length+1) 0;exact BC () ()
theorem IT(a b:Dt)(r:O Dt):Af (.tup (a::b::r)) (1:Int):=by
 show In (r.length+1+1) 1;exact BC () ()
theorem Pd(a b c:Dt)(r:O Dt):Af (.tup (a::b::c::r)) (2:Int):=by
 show In (r.length+1+1+1) 2;exact BC () ()
theorem L8(a:Dt)(r:O Dt):Af (.tup (a::r)) (-(1:Int)):=by
 show In (r.length+1) (-1);exact⟨by omega,by omega⟩
theorem tN{r:Dt}(h:Rl r)(x y:bO):Fq r x y:=by
 unfold Fq;rcases h with⟨f,w,rfl⟩|⟨f,n,w,rfl⟩|⟨f,g,w,rfl⟩|⟨f,rfl⟩
 ·rw[Et,Hj,mj,nh];exact⟨⟨Ct _ _,jL _ _⟩,λ_=>⟨⟨IT _ _ _,rfl⟩,(Yp x y f).1⟩,λz=>by cases z⟩
 ·rw[Et,Hj,Vi,mj,mj,xA,hI];exact⟨⟨Ct _ _,jL _ _⟩,(λz=>by cases z),λ_=>⟨⟨Ct _ _,jL _ _⟩,λ_=>⟨⟨⟨IT _ _ _,rfl⟩,Pd _ _ _ _,rfl⟩,(lc x y f n).1⟩,λz=>by cases z⟩⟩
 ·rw[Et,Hj,Vi,mj,mj,mj,iN,UQ,l8];exact⟨⟨Ct _ _,jL _ _⟩,(λz=>by cases z),λ_=>⟨⟨Ct _ _,jL _ _⟩,(λz=>by cases z),λ_=>⟨⟨Ct _ _,jL _ _⟩,
   λ_=>⟨⟨⟨IT _ _ _,rfl⟩,(Yp x y f).1⟩,λ_=>⟨⟨Pd _ _ _ _,rfl⟩,(Yp x y g).1⟩⟩,λz=>by cases z⟩⟩⟩
 ·rw[Et,Hj,mj,mj,mj,gI,o4,WP];exact⟨⟨Ct _ _,jL _ _⟩,(λz=>by cases z),λ_=>⟨⟨Ct _ _,jL _ _⟩,(λz=>by cases z),λ_=>⟨⟨Ct _ _,jL _ _⟩,(λz=>by cases z),λ_=>⟨⟨IT _ _ _,rfl⟩,(UC x y f).1⟩⟩⟩⟩
def FE(r:Dt):Bool:=Ms (fX r 0) (Dt.str "never")
theorem SM{r:Dt}(h:Rl r):(Af r (0:Int)/\Zi (fX r 0) (Dt.str "never"))/\(FE r=false->Af r (-(1:Int))/\fX r (-(1:Int))=eI (Cv (fX r (-(1:Int))))):=by
 unfold FE;rcases h with⟨f,w,rfl⟩|⟨f,n,w,rfl⟩|⟨f,g,w,rfl⟩|⟨f,rfl⟩
 ·rw[Et];exact⟨⟨Ct _ _,jL _ _⟩,λ_=>⟨L8 _ _,rfl⟩⟩
 ·rw[Et];exact⟨⟨Ct _ _,jL _ _⟩,λ_=>⟨L8 _ _,rfl⟩⟩
 ·rw[Et];exact⟨⟨Ct _ _,jL _ _⟩,λ_=>⟨L8 _ _,rfl⟩⟩
 ·rw[Et,mj,Pl];exact⟨⟨Ct _ _,jL _ _⟩,λz=>by cases z⟩
def wJ(v:O bO):O bO:=yC eS (λx:bO=>x.1) v
theorem N9(x:AK):Gx.kk eS x=[.inr x]:=rfl
theorem lP(a b:bO):EW eS (λx:bO=>x.1) a b=true↔MK a.1 b.1:=by
 unfold EW;rw[N9,N9];show(!jj [.inr b.1] [.inr a.1])=true↔ltCps b.1.cps.toList a.1.cps.toList=false;rw[qV,ltCps_eq];unfold jj jj;split
 ·rename_i e;rw[Sum.inr.inj e];simp[hG]
 ·exact Iff.rfl
theorem gA(v:O bO):(wJ v).Perm v:=w5 v
theorem Js{v:O bO}(c:(v.map (·.1)).Nodup):(wJ v).Pairwise λa b=>Cu a.1 b.1=true:=by
 have h1:(wJ v).Pairwise λa b=>MK a.1 b.1:=qo (λh=>(lP _ _).mp h) (w6 (e':=eS) (κ:=λx:bO=>x.1) v);have h2:((wJ v).map (·.1)).Nodup:=((gA v).map _).nodup_iff.mpr c;have h2:(wJ v).Pairwise λa b=>a.1≠b.1:=bA.mp h2;exact qo (λ⟨a,b⟩=>(DM _ _).mpr ⟨a,b⟩) (h1.and h2)
theorem SN{v:O bO}(g:(v.map (·.1)).Nodup){a b:bO}(c:a∈v)(h:b∈v)(e:a.1=b.1):a=b:=by
 obtain⟨i,hi,rfl⟩:=cb.mp c;obtain⟨j,f,rfl⟩:=cb.mp h;have:=(Yf (i:=i) (j:=j) (h₀:=by rw[zd];exact hi) (h₁:=by rw[zd];exact f) g).mp (by rw[JO,JO];exact e);subst this;rfl
theorem bz{v c:O bO}(g:(v.map (·.1)).Nodup)(p:v.Perm c):wJ v=wJ c:=
 Vg (e':=eS) (κ:=λx:bO=>x.1) (λa f b h e=>SN g (p.mem_iff.mpr f) (p.mem_iff.mpr h) e) ((gA v).trans p) (w6 v)
def rJ(v:O bO)(R:O Dt):O (Dt×AK×AK×Int):=(C9 (wJ v)).flatMap (tl R)
theorem SQ{v:O bO}{R:O Dt}(h1:v.length<=40)(h2:R.length<=20):(rJ v R).length<=32000:=by
 have a:=FN (Yo R) (C9 (wJ v));have b:=Jr (wJ v);rw[(gA v).length_eq]at b;have c:v.length*v.length<=40*40:=yf h1 h1;have d:(C9 (wJ v)).length*R.length<=1600*20:=yf () h2;unfold rJ;omega
theorem ro{v:O bO}{R:O Dt}{q:Dt×AK×AK×Int}(h:q∈rJ v R):q.1∈R:=by
 obtain⟨p,_,a⟩:=da.mp h;obtain⟨z,b,rfl⟩:=aQ.mp a;exact(Bh R 0 z (ca.mp b).1).1
def HN(T:O (Dt×AK×AK×Int)):O (Int×AK×AK×Int):=(T.filter λq=>!FE q.1).map λq=>(Cv (fX q.1 (-(1:Int))),q.2.1,q.2.2.1,q.2.2.2)
def Jt(T:O (Dt×AK×AK×Int)):O (AK×AK×Int):=(T.filter λq=>FE q.1).map λq=>q.2
theorem GZ(x y:Int×AK×AK×Int)(h:bh x=bh y):x=y:=by
 obtain⟨a,b,c,d⟩:=x;obtain⟨g,j,c',i⟩:=y;unfold bh at h;dsimp only at h;simp only[yT]at h;obtain⟨h1,h2,e,f⟩:=h;rw[show a=g by omega,h2,e,f]
theorem L9{xs:O (Int×AK×AK×Int)}(h:xs.length<=100000):mL xs:=⟨λ_ _=>trivial,h,λx _ y _ e=>GZ x y e⟩
theorem sY(xs:O (Int×AK×AK×Int)):(cg xs).Perm xs:=w5 xs
theorem eF(v:O bO)(R:O Dt):aB v R=((wJ v).map (·.1),cg (HN (rJ v R)),jK (D3 eS eS eI) (Jt (rJ v R))):=by
 unfold aB;dsimp only;rw[SJ];rfl
theorem zW{v:O bO}{R:O Dt}(h:(v.map (·.1)).Nodup)(h1:v.length<=40)(h2:R.length<=20)(f:∀r∈R,Rl r):dF v R:=by
 have e:=SQ h1 h2;have j:(wJ v).length=v.length:=(gA v).length_eq;unfold dF;refine⟨⟨λ_ _=>trivial,by omega,h⟩,?_⟩;have td:Bf (wJ v) R:=⟨λq1 _ i _ q2 a=>tN (f _ (Bh R 0 q2 a).1) _ _,by
  have:=SJ (wJ v) R;unfold jD at this;rw[this];exact zl e ()⟩
 have g:jD (wJ v) R=rJ v R:=SJ _ _;have c:∀q∈jD (wJ v) R,Rl q.1:=λq a=>f _ (ro (by rw[<-g];exact a));have b:(jD (wJ v) R).length<=100000:=by rw[g];exact zl e ()
 refine⟨td,⟨b,λq a=>⟨(SM (c q a)).1,λz=>(SM (c q a)).2 (by simpa[FE]using z)⟩⟩,⟨b,λq a=>(SM (c q a)).1⟩,?_,L9 ?_,?_⟩
 ·show(wJ v).length<=_;omega
 ·rw[zd];exact zl (Q4 _ _) b
 ·rw[zd];exact zl (Q4 _ _) b
def pr(v:O bO)(r:Dt):O (AK×AK):=((C9 (wJ v)).filter λq=>uW r q.1 q.2).map λq=>(q.1.1,q.2.1)
theorem qg{e:α->Dt}[lZ e]{xs ys:O α}(h:xs.Perm ys):jK e xs=jK e ys:=U7 ((d9 xs).trans h) (pA xs)
theorem HS{α β:Type}(p:β->Bool)(g:α->O β):∀xs:O α,(xs.flatMap g).filter p=xs.flatMap λx=>(g x).filter p
 |[]=>rfl
 |x::xs=>by rw[ZI,yn,HS p g xs,ZI]
theorem SS{v:O bO}{q:PR}(h:q∈C9 (wJ v)):q.1∈v/\q.2∈v:=⟨(gA v).mem_iff.mp (FJ h).1,(gA v).mem_iff.mp (FJ h).2⟩
theorem t9(d:Dt)(b:AK)(n:Int)(h:n<=1000):oG d b n:=by
 unfold oG;intro a;obtain⟨x,rfl⟩:=Ag a;refine⟨⟨rfl,λ_=>Y2⟩,λc=>⟨⟨rfl,?_⟩,λs h=>eJ h⟩⟩;rw[lT];have h2:(x.length:Int)<=n:=kv ((zS _ _).mp c).2;omega
theorem Wh{d:Dt}{a:AK}{n:Int}(h:ju d a n=true):gB d=true:=by
 unfold ju at h;rw[zS]at h;exact h.1
theorem yp(d:Dt):gH d:=t9 d _ 8 ()
theorem LR{d:Dt}(h:bF d=true):gB d=true:=Wh h
abbrev Ma:=Int×AK×AK×Int
abbrev CD:=AK×AK×Int
abbrev NK:Ma->Dt:=F2 eI eS eS eI
abbrev NP:CD->Dt:=D3 eS eS eI
def Lw(c:Nat):Prop:=97<=c/\c<=122
def Nm(s:AK):Prop:=1<=s.length/\s.length<=8/\∀c∈cs s,Lw c
theorem o6{c:Nat}(h:Lw c):c∈cs LT:=by
 have:∀i:Fin 26,97+i.val∈cs LT:=by decide +kernel
 have:=this ⟨c-97,by unfold Lw at h;omega⟩;unfold Lw at h;rwa [show 97+(c-97)=c by omega]at this
theorem oV{s:AK}(h:Nm s):bF (.str s)=true:=by
 unfold bF ju;rw[show gB (.str s)=true from rfl,show Ij (.str s)=(s.length:Int) from rfl,zz (show(1:Int)<=s.length by have:=h.1;omega),zz (show(s.length:Int)<=8 by have:=h.2.1;omega)];show List.all _ id=true;rw[qf];intro b a;obtain⟨d,hd,rfl⟩:=aQ.mp a;obtain⟨c,e,rfl⟩:=aQ.mp (show d∈P1.BS s from hd);exact O9 (o6 (h.2.2 c e))
theorem ZQ{d:Dt}(h:bF d=true):d=eS (yw d):=by obtain⟨x,rfl⟩:=Ag (LR h);rfl
theorem wK{d:Dt}(h:iw d=true):d=eI (Cv d):=by
 cases d with
 |int i=>rfl
 |_=>cases h
theorem FP(d:Dt):j5 d:=λh=>⟨wK h,λ_=>wK h⟩
theorem ZR{d:Dt}(h:As d=true):∃ds,d=.tup ds/\Ij d=ds.length:=by
 obtain⟨ds,rfl⟩:=zB h;exact⟨ds,rfl,rfl⟩
theorem fg{d:Dt}(h:cX d 3=true):∃a b c,d=.tup [a,b,c]:=by
 unfold cX at h;rw[zS,Zl]at h;obtain⟨ds,rfl,e⟩:=ZR h.1;rw[e]at h;have h:=h.2
 match ds,h with
 |[a,b,c],_=>exact⟨a,b,c,rfl⟩
theorem gu{d:Dt}(h:cX d 4=true):∃a b c x,d=.tup [a,b,c,x]:=by
 unfold cX at h;rw[zS,Zl]at h;obtain⟨ds,rfl,e⟩:=ZR h.1;rw[e]at h;have h:=h.2
 match ds,h with
 |[a,b,c,x],_=>exact⟨a,b,c,x,rfl⟩
theorem SX(d:Dt)(n:Int):mO d n:=λh=>XN h
theorem ik{b:Bool}(h:(!b)=false):b=true:=by cases b<;>first|rfl|cases h
def B3(a b c:Dt):Bool:=bF a&&(bF b&&(Cu (yw a) (yw b)&&(iw c&&decide ((0:Int)<=Cv c))))
theorem OT(d:Dt):zU d:=by
 refine⟨SX d 3,λh=>?_⟩;obtain⟨a,b,c,rfl⟩:=fg (ik h);exact⟨rfl,yp a,λh1=>⟨yp b,λh2=>⟨⟨ZQ h1,ZQ h2⟩,λ_ e=>wK e⟩⟩⟩
def R4(x a b c:Dt):Bool:=gU x&&B3 a b c
theorem tI(d:Dt):uZ d:=by
 refine⟨SX d 4,λh=>?_⟩;obtain⟨x,a,b,c,rfl⟩:=gu h;exact⟨⟨BC () (by simp),FP _⟩,λ_=>⟨rfl,OT _⟩⟩
structure RV (r:Ma):Prop where
 w:1<=r.1/\r.1<=1000
 lt:Cu r.2.1 r.2.2.1=true
 n:0<=r.2.2.2/\r.2.2.2<1000000
 a:Nm r.2.1
 b:Nm r.2.2.1
structure BV (b:CD):Prop where
 lt:Cu b.1 b.2.1=true
 n:0<=b.2.2/\b.2.2<1000000
 a:Nm b.1
 b:Nm b.2.1
theorem ir{xs:B5}(h:xs.length<=1000):rE xs:=by
 refine⟨⟨⟨by omega,by omega⟩,by rw[qL];omega⟩,λz a=>?_⟩;obtain⟨k,hk,rfl⟩:=xg a;exact⟨BC () (),BC () ()⟩
theorem fE{xs:O Ma}(h:xs.length<=1000):oJ xs:=by
 refine⟨⟨⟨by omega,by omega⟩,by rw[qL];omega⟩,λz a=>?_⟩;obtain⟨k,hk,rfl⟩:=xg a;exact⟨BC () (),BC () ()⟩
theorem wS{xs:O CD}(h:xs.length<=1000):oM xs:=by
 refine⟨⟨⟨by omega,by omega⟩,by rw[qL];omega⟩,λz a=>?_⟩;obtain⟨k,hk,rfl⟩:=xg a;exact⟨BC () (),BC () ()⟩
theorem fq{c:B5}(f:c.Pairwise λa b=>Cu a b=true)(g:c.length<=60)(nm:∀n∈c,Nm n):uX c/\mZ c=true:=by
 refine⟨λ_=>⟨⟨by omega,λn _=>yp _⟩,λ_=>ir ()⟩,?_⟩;have e1:((c.map λn:AK=>(bF (eS n))).all id)=true:=by
  rw[qf];intro x hx;obtain⟨n,e,rfl⟩:=aQ.mp hx;exact oV (nm n e)
 unfold mZ;rw[e1,show rD c=true from(Ah SC c).mpr f];rfl
structure Gd (n_:B5) (rs:List Ma) (bs:List CD):Prop where
 ss:n_.Pairwise λa b=>Cu a b=true
 nl:n_.length<=60
 nm:∀n∈n_,Nm n
 rv:∀r∈rs,RV r
 ri:∀r∈rs,r.2.1∈n_/\r.2.2.1∈n_
 rp:(rs.map bh).Pairwise λa b=>DI NK a b=true
 rl:rs.length<=1000
 bv:∀b∈bs,BV b
 bi:∀b∈bs,b.1∈n_/\b.2.1∈n_
 bp:bs.Pairwise λa b=>DI NP a b=true
 bl:bs.length<=1000
theorem U1{r:Ma}(h:RV r):m5 (NK r)=true:=by
 show R4 (.int r.1) (.str r.2.1) (.str r.2.2.1) (.int r.2.2.2)=true;unfold R4 B3;rw[oV h.a,oV h.b];show((true&&(decide ((1:Int)<=r.1)&&decide (r.1<=1000)))&&(true&&(true&&(Cu r.2.1 r.2.2.1&&(true&&decide ((0:Int)<=r.2.2.2))))))=true;rw[h.lt,zz h.w.1,zz h.w.2,zz h.n.1];rfl
theorem F7{b:CD}(h:BV b):sS (NP b)=true:=by
 show B3 (.str b.1) (.str b.2.1) (.int b.2.2)=true;unfold B3;rw[oV h.a,oV h.b];show(true&&(true&&(Cu b.1 b.2.1&&(true&&decide ((0:Int)<=b.2.2)))))=true;rw[h.lt,zz h.n.1];rfl
theorem Pu{l:O α}{f:α->Bool}(h:∀x∈l,f x=true):(l.map f).all id=true:=by
 rw[qf];intro y a;obtain⟨x,hx,rfl⟩:=aQ.mp a;exact h x hx
theorem sf{a:B5}{rs:O Ma}{bs:O CD}(g:Gd a rs bs):u0 (a,rs,bs)/\j6 (a,rs,bs)=true:=by
 obtain⟨h,l⟩:=fq g.ss g.nl g.nm;have n:=g.rl;have bl:=g.bl;have a1:(rs.map λc:Ma=>(m5 (NK c))).all id=true:=Pu λr b=>U1 (g.rv r b);have a2:(rs.map λc:Ma=>((decide (c.2.1∈a))&&(decide (c.2.2.1∈a)))).all id=true:=Pu λr b=>by
  rw[zz (g.ri r b).1,zz (g.ri r b).2];rfl
 have i:oH (rs.map λc:Ma=>(bh c))=true:=(Ah (OX (e:=NK)) _).mpr g.rp;have b1:(bs.map λf:CD=>(sS (NP f))).all id=true:=Pu λr b=>F7 (g.bv r b);have b2:(bs.map λf:CD=>((decide (f.1∈a))&&(decide (f.2.1∈a)))).all id=true:=Pu λr b=>by
  rw[zz (g.bi r b).1,zz (g.bi r b).2];rfl
 have m:oK bs=true:=(Ah (OX (e:=NP)) _).mpr g.bp;have tr:jE rs a=true:=by
  unfold jE;rw[a1,a2,i];rfl
 have tb:sU bs a=true:=by
  unfold sU;rw[b1,b2,m];rfl
 have j:qe rs a:=⟨λ_=>⟨by omega,λ_ _=>tI _⟩,λ_=>⟨by omega,λ_=>⟨by omega,fE (by rw[zd];omega)⟩⟩⟩;have k:yh bs a:=⟨λ_=>⟨by omega,λ_ _=>OT _⟩,λ_=>⟨by omega,λ_=>wS ()⟩⟩;refine⟨⟨λ_=>Y2,λ_=>⟨h,λ_=>⟨j,λ_=>k⟩⟩⟩,?_⟩;unfold j6;rw[show cX ((D3 (eT eS) (eT NK) (eT NP)) (a,rs,bs)) 3=true from rfl];dsimp only;rw[l,tr,tb];rfl
theorem we(c:Nat)(n:Int)(h:1<=n):cs (Txt.mul ⟨#[c]⟩ n)=bb n.toNat c:=by
 unfold Txt.mul;split
 ·omega
 split
 ·rename_i h;simp only[QQ,beq_iff_eq]at h;rcases h with h|h
  ·subst h;rfl
  ·cases h
 ·have:∀(k:Nat) (a:Array Nat),((bb k (#[c]:Array Nat)).foldl (·++·) a).toList=a.toList++bb k c:=by
   intro k
   induction k with
   |zero=>intro a;simp
   |succ k b=>
    intro a;rw[K2,kR,b,ZA,K2];simp
  exact(this _ _).trans (by simp)
theorem LO{i:Int}(h:0<=i/\i<26):ch LT i=⟨#[97+i.toNat]⟩:=by
 have:∀i:Fin 26,ch LT (i.val:Int)=⟨#[97+i.val]⟩:=by decide +kernel
 have:=this ⟨i.toNat,by omega⟩;rwa [show((⟨i.toNat,by omega⟩:Fin 26).val:Int)=i by show(i.toNat:Int)=i;omega]at this
theorem ah{i n:Int}(h:0<=i/\i<26)(h1:1<=n)(b:n<=8):Nm (Txt.mul (ch LT i) n):=by
 have e:=we (97+i.toNat) n h1;rw[<-LO h]at e;refine⟨?_,?_,λc a=>?_⟩
 ·rw[iK,e,eg];omega
 ·rw[iK,e,eg];omega
 ·rw[e]at a;rw[(List.mem_replicate.mp a).2];unfold Lw;omega
theorem de{l:B5}{c:Nat}(h:c∈cs (Txt.join "" l)):∃q∈l,c∈cs q:=by
 cases l with
 |nil=>cases h
 |cons p ps=>
  rw[ZJ]at h;rcases bc.mp h with h|h
  ·exact⟨p,zr ..,h⟩
  ·obtain⟨q,a,h⟩:=da.mp h;exact⟨q,zk _ a,h⟩
theorem ov(xs:O Int)(g:Int):∃(e:AK) (at_:Int),(∀c∈cs e,Lw c)/\e.length<=5/\0<=at_/\at_<=(e.length:Int)/\dY xs g=(rng 0 g.toNat).map (EC xs e at_):=by
 have j:=iJ (Au xs 0) (m:=6) ();have f:∀x∈((rng 0 (Au xs 0%6).toNat).map λa:Int=>ch LT (Au xs a / 40%26)),x.length=1/\∀c∈cs x,Lw c:=λx hx=>by
  obtain⟨k,_,rfl⟩:=aQ.mp hx;refine⟨Cw _ _,λc b=>?_⟩;rw[LO (iJ _ ())]at b;cases ag.mp b;have:=iJ (Au xs k / 40) (m:=26) ();unfold Lw;omega
 refine⟨Txt.join "" ((rng 0 (Au xs 0%6).toNat).map λa:Int=>ch LT (Au xs a / 40%26)),Au xs 1%(((Txt.join "" ((rng 0 (Au xs 0%6).toNat).map λa:Int=>ch LT (Au xs a / 40%26))).length:Int)+1),λc b=>?_,?_,?_,?_,(Dd (EC xs _ _) _ []).trans (kP _)⟩
 ·obtain⟨q,i,h⟩:=de b;exact(f q i).2 c h
 ·have:=Of _ 1 λx hx=>ye (f x hx).1;rw[zd,qL]at this;omega
 ·exact(iJ _ ()).1
 ·have:=(iJ (Au xs 1) (m:=((Txt.join "" ((rng 0 (Au xs 0%6).toNat).map λa:Int=>ch LT (Au xs a / 40%26))).length:Int)+1) ()).2;omega
theorem Xt{xs:O Int}{a:AK}{at_:Int}(h1:∀c∈cs a,Lw c)(h2:a.length<=5)(j:0<=at_)(l:at_<=(a.length:Int)){k:Int}(hk:0<=k/\k<15):Nm (EC xs a at_ k):=by
 unfold EC;split
 ·exact ah () () ()
 ·have g:=VO (x:=a) (n:=at_.toNat) ();have f:=cy (x:=a) (n:=at_.toNat) ();rw[gi j]at g f;have c1:=LO (i:=(k+Au xs 2)%15) (by have:=iJ (k+Au xs 2) (m:=15) ();omega);have m:=iJ (k+Au xs 2) (m:=15) ();have e:cs ((Txt.slice a Y3 (Z at_)++ch LT ((k+Au xs 2)%15))++Txt.slice a (Z at_) Y3)=((cs a).take at_.toNat++[97+((k+Au xs 2)%15).toNat])++(cs a).drop at_.toNat:=by
   rw[Gy,Gy,g,f,c1]
  have h:((Txt.slice a Y3 (Z at_)++ch LT ((k+Au xs 2)%15))++Txt.slice a (Z at_) Y3).length=a.length+1:=by
   rw[iK,e,zt,zt,qk,qc,<-iK];show _+1+_=_;omega
  refine⟨by rw[h];omega,by rw[h];omega,λc b=>?_⟩;rw[e]at b;rcases bc.mp b with b|b
  ·rcases bc.mp b with b|b
   ·exact h1 c (KM b)
   ·cases ag.mp b;unfold Lw;omega
  ·exact h1 c (kc b)
theorem xS(xs:O Int)(a:Int)(h:a<=15):∀n∈dY xs a,Nm n:=by
 obtain⟨i,at_,h1,h2,b,c,e⟩:=ov xs a;rw[e];intro n f;obtain⟨k,hk,rfl⟩:=aQ.mp f;obtain⟨j,g,rfl⟩:=xg hk;exact Xt h1 h2 b c ()
open S1 S6
def BQ(v:O bO):O PR:=(v.flatMap λx=>v.map λy=>(x,y)).filter λq=>Cu q.1.1 q.2.1
theorem gJ{v:O bO}{q:PR}:q∈BQ v↔(q.1∈v/\q.2∈v)/\Cu q.1.1 q.2.1=true:=by
 unfold BQ;rw[ca,da];refine and_congr_left λ_=>⟨λ⟨x,hx,h⟩=>?_,λ⟨h1,h2⟩=>⟨q.1,h1,aQ.mpr ⟨q.2,h2,rfl⟩⟩⟩;obtain⟨y,a,rfl⟩:=aQ.mp h;exact⟨hx,a⟩
theorem wL{v:O bO}(c:v.Nodup):(BQ v).Nodup:=by
 unfold BQ;refine QA kl ?_;refine eu.mpr ⟨λx _=>bA.mpr (qo (λh e=>h (congrArg (λz:PR=>z.2) e)) c),qo (λ{a b} h x hx y hy e=>?_) c⟩;obtain⟨z,_,rfl⟩:=aQ.mp hx;obtain⟨f,_,rfl⟩:=aQ.mp hy;exact h (congrArg (λz:PR=>z.1) e)
theorem FQ(a:AK):Cu a a=false:=by
 unfold Cu;exact z4 (hG _)
theorem xN{a b:AK}(h:Cu a b=true):Cu b a=false:=by
 cases h':Cu b a with
 |false=>rfl
 |true=>have:=SC _ _ _ h h';rw[FQ]at this;cases this
theorem Mf:∀{w:O bO},w.Pairwise (λa b=>Cu a.1 b.1=true)->∀{q:PR},q∈C9 w↔(q.1∈w/\q.2∈w)/\Cu q.1.1 q.2.1=true
 |[],_,q=>by simp[C9]
 |x::xs,h,q=>by
  obtain⟨h1,h2⟩:=bB.mp h;show q∈xs.map (λy=>(x,y))++C9 xs↔_;rw[bc,Mf h2];constructor
  ·rintro(h|h)
   ·obtain⟨y,e,rfl⟩:=aQ.mp h;exact⟨⟨zr,zk _ e⟩,h1 y e⟩
   ·exact⟨⟨zk _ h.1.1,zk _ h.1.2⟩,h.2⟩
  ·rintro⟨⟨a,b⟩,c⟩;rcases ba.mp a with a|a
   ·rcases ba.mp b with b|b
    ·rw[a,b,FQ]at c;cases c
    ·exact .inl (aQ.mpr ⟨q.2,b,by rw[<-a]⟩)
   ·rcases ba.mp b with b|b
    ·have:=h1 _ a;rw[<-b]at this;rw[xN this]at c;cases c
    ·exact .inr ⟨⟨a,b⟩,c⟩
theorem Yq:∀{w:O bO},w.Nodup->(C9 w).Nodup
 |[],_=>gF
 |x::xs,h=>by
  obtain⟨h1,h2⟩:=dd.mp h;show(xs.map (λy=>(x,y))++C9 xs).Nodup;refine dq.mpr ⟨bA.mpr (qo (λh e=>h (congrArg (λz:PR=>z.2) e)) h2),Yq h2,λa c b f e=>?_⟩;obtain⟨y,_,rfl⟩:=aQ.mp c;subst e;exact h1 (FJ f).1
theorem qF{v:O bO}(a:(v.map (·.1)).Nodup):v.Nodup:=qo (λh e=>h (by rw[e])) (bA.mp a)
theorem Yr{v:O bO}(a:(v.map (·.1)).Nodup):(BQ v).Perm (C9 (wJ v)):=
 CG (wL (qF a)) (Yq ((gA v).nodup_iff.mpr (qF a))) λq=>by
  rw[gJ,Mf (Js a),(gA v).mem_iff,(gA v).mem_iff]
theorem Wi(R:O Dt):iz 0 R=(rng 0 R.length).map λk=>(k,Au R k):=by
 unfold iz rng;rw[ZE];refine s8 (by simp) λi h1 h2=>?_;rw[n5,j0,yb]at h1;simp only[nu,qb,JO,Function.comp_apply,eW];rw[wZ _ _ h1]
theorem ZS(h:n<=100000):Ej n:=zl h ()
theorem Wj(x:Int×AK×AK×Int):bh (bh x)=x:=by
 obtain⟨a,b,c,d⟩:=x;show((- -a,b,c,d):Int×AK×AK×Int)=_;rw[Int.neg_neg]
theorem Mh(X:O (Int×AK×AK×Int)):cg X=(jK NK (X.map bh)).map bh:=by
 refine(Vg (e':=NK) (κ:=λx=>bh x) (λa _ b _ e=>GZ a b e) ?_ ?_).symm
 ·refine((d9 _).map bh).trans ?_;rw[ZE,show bh ∘ bh=id from funext Wj,KI]
 ·refine bA.mpr (qo (λ{a b} h=>?_) (pA (e:=NK) (X.map bh)));show EG NK (bh (bh a)) (bh (bh b))=true;rw[Wj,Wj];exact h
theorem zX{X Y:O (Int×AK×AK×Int)}(h:X.Perm Y):cg X=cg Y:=by
 rw[Mh,Mh,qg (h.map _)]
theorem Wk{α β:Type}(c:α->Bool)(F:α->O β):∀xs:O α,(xs.flatMap λx=>if c x=true then F x else[])=(xs.filter c).flatMap F
 |[]=>rfl
 |x::xs=>by
  rw[ZI,Wk c F xs,lb];cases c x<;>rfl
theorem G3{xs ys:O α}(h:xs.Perm ys)(g:α->O β):(xs.flatMap g).Perm (ys.flatMap g):=by
 induction h with
 |nil=>exact .refl _
 |cons x _ a=>rw[ZI,ZI];exact List.Perm.append_left _ a
 |swap x y l=>
  rw[ZI,ZI,ZI,ZI,<-Zp,<-Zp];exact List.Perm.append_right _ dr
 |trans _ _ h1 h2=>exact h1.trans h2
theorem G4{v:O bO}(e:(v.map (·.1)).Nodup):JW (v.map λc:bO=>c.1)=(wJ v).map (·.1):=by
 have h1:(wJ v).Pairwise λa b:bO=>MK a.1 b.1:=qo (R:=λa b:bO=>Cu a.1 b.1=true) (λh=>((DM _ _).mp h).1) (Js e);exact(Jg (((gA v).map _).trans (rN _).symm) (bA.mpr h1) (wX _)).symm
def Wt(r:Dt):Prop:=FE r=false->1<=Cv (fX r (-(1:Int)))/\Cv (fX r (-(1:Int)))<=1000
theorem TB{R:O Dt}{z:Int×Dt}(h:z∈iz 0 R):0<=z.1/\z.1<R.length:=by
 rw[Wi]at h;obtain⟨k,hk,rfl⟩:=aQ.mp h;have:=X9 hk;exact⟨this.1,by have:=this.2;dsimp only;omega⟩
structure TV (v:List bO) (R:List Dt) (z:Dt×Str×Str×Int):Prop where
 r:z.1∈R
 lt:Cu z.2.1 z.2.2.1=true
 n:0<=z.2.2.2/\z.2.2.2<R.length
 a:z.2.1∈(wJ v).map (·.1)
 b:z.2.2.1∈(wJ v).map (·.1)
theorem RS{v:O bO}(b:(v.map (·.1)).Nodup){R:O Dt}{z:Dt×AK×AK×Int}(h:z∈rJ v R):TV v R z:=by
 obtain⟨q,c,e⟩:=da.mp h;obtain⟨y,a,rfl⟩:=aQ.mp e;have a:=(ca.mp a).1;have h1:=(Mf (Js b)).mp c;exact⟨(Bh R 0 y a).1,h1.2,TB a,JE (f:=λx:bO=>x.1) h1.1.1,JE (f:=λx:bO=>x.1) h1.1.2⟩
theorem fN{v:O bO}(c:(v.map (·.1)).Nodup)(R:O Dt):((rJ v R).map (·.2)).Nodup:=by
 unfold rJ;rw[ti];have e:∀q:PR,(tl R q).map (·.2)=(((iz 0 R).filter λz:Int×Dt=>uW z.2 q.1 q.2).map (·.1)).map λk=>(q.1.1,q.2.1,k):=λq=>by
  unfold tl;rw[ZE,ZE];rfl
 have er:((iz 0 R).map (·.1)).Nodup:=by
  rw[Wi,ZE];show((rng 0 R.length).map λk=>k).Nodup;rw[eX];unfold rng;refine bA.mpr (qo (λ{a b} h e=>h ?_) sI);have e:0+(a:Int)=0+(b:Int):=e;omega
 refine eu.mpr ⟨λq _=>?_,y0 (λ{q q'} hq hq' hne x hx y hy exy=>?_) (Yq ((gA v).nodup_iff.mpr (qF c)))⟩
 ·rw[e];have g:(((iz 0 R).filter λz:Int×Dt=>uW z.2 q.1 q.2).map (·.1)).Pairwise λa b=>a≠b:=QA (List.filter_sublist.map _) er;exact bA.mpr (qo (S:=λa b:Int=>(q.1.1,q.2.1,a)≠(q.1.1,q.2.1,b)) (λ{a b} (h:a≠b) e=>h (congrArg (λz:AK×AK×Int=>z.2.2) e)) g)
 ·rw[e]at hx hy;obtain⟨k,_,rfl⟩:=aQ.mp hx;obtain⟨i,_,rfl⟩:=aQ.mp hy;have f:=SS hq;have m2:=SS hq';have f1:=SN c f.1 m2.1 (congrArg (λz:AK×AK×Int=>z.1) exy);have f2:=SN c f.2 m2.2 (congrArg (λz:AK×AK×Int=>z.2.1) exy);exact hne (kA f1 f2)
theorem RC[DecidableEq α]{e:α->Dt}[lZ e]{xs:O α}(c:xs.Nodup):(jK e xs).Pairwise λa b=>DI e a b=true:=by
 have h1:=pA (e:=e) xs;have h2:(jK e xs).Nodup:=(d9 xs).nodup_iff.mpr c;exact qo (λ⟨a,b⟩=>(TZ _ _).mpr ⟨a,b⟩) (h1.and h2)
theorem Px{v:O bO}{R:O Dt}(i:(v.map (·.1)).Nodup)(m:v.length<=10)(nm:∀x∈v,Nm x.1)(u:∀r∈R,Wt r)(s:R.length<=8):Gd (aB v R).1 (aB v R).2.1 (aB v R).2.2:=by
 rw[eF];have y:(wJ v).length=v.length:=(gA v).length_eq;have A:(rJ v R).length<=800:=by
  have a:=FN (Yo R) (C9 (wJ v));have b:=Jr (wJ v);rw[y]at b;have c:v.length*v.length<=10*10:=yf m m;have d:(C9 (wJ v)).length*R.length<=100*8:=yf () s;unfold rJ;omega
 have f:∀n∈(wJ v).map (·.1),Nm n:=λn l=>by
  obtain⟨x,hx,rfl⟩:=aQ.mp l;exact nm x ((gA v).mem_iff.mp hx)
 have j:∀r∈cg (HN (rJ v R)),RV r/\r.2.1∈(wJ v).map (·.1)/\r.2.2.1∈(wJ v).map (·.1):=λr j=>by
  obtain⟨z,g,rfl⟩:=aQ.mp ((sY _).mem_iff.mp j);obtain⟨g,l⟩:=ca.mp g;have t:=RS i g;have w:=u _ t.r (by simpa using l);exact⟨⟨w,t.lt,⟨t.n.1,h6 t.n.2 ()⟩,f _ t.a,f _ t.b⟩,t.a,t.b⟩
 have k:∀b∈jK NP (Jt (rJ v R)),BV b/\b.1∈(wJ v).map (·.1)/\b.2.1∈(wJ v).map (·.1):=λb k=>by
  obtain⟨z,g,rfl⟩:=aQ.mp ((d9 _).mem_iff.mp k);have t:=RS i (ca.mp g).1;exact⟨⟨t.lt,⟨t.n.1,h6 t.n.2 ()⟩,f _ t.a,f _ t.b⟩,t.a,t.b⟩
 have o:=fN i R;have q:(HN (rJ v R)).Nodup:=by
  unfold HN;refine bA.mpr (qo (λh e=>h ?_) (bA.mp (QA (List.filter_sublist.map _) o)));have e2:=congrArg (λz:Int×AK×AK×Int=>z.2) e;exact e2
 have p:(Jt (rJ v R)).Nodup:=QA (List.filter_sublist.map _) o;refine⟨bA.mpr (Js i),by rw[zd];omega,f,λr h=>(j r h).1,λr h=>(j r h).2,?_,?_,λb h=>(k b h).1,λb h=>(k b h).2,RC p,?_⟩
 ·show((cg (HN (rJ v R))).map bh).Pairwise _;rw[Mh,ZE,show bh ∘ bh=id from funext Wj,KI];refine RC ?_;exact bA.mpr (qo (λh e=>h (GZ _ _ e)) q)
 ·show(cg _).length<=_;rw[(sY _).length_eq];unfold HN;rw[zd];exact zl (Q4 _ _) ()
 ·show(jK _ _).length<=_;rw[(d9 _).length_eq];unfold Jt;rw[zd];exact zl (Q4 _ _) ()
theorem Wm{v a:O bO}(b:(v.map (·.1)).Nodup)(p:v.Perm a)(R:O Dt):aB v R=aB a R:=by
 rw[eF,eF];unfold rJ;rw[bz b p]
theorem Ys{v:O bO}{x:bO}(l:(v++[x]).Nodup):(BQ (v++[x])).Perm (BQ v++v.flatMap λy=>BQ [x,y]):=by
 obtain⟨h1,_,n⟩:=dq.mp l;have hx:∀y∈v,y≠x:=λy f e=>n y f x (ag.mpr Y2) e;have c2:∀{y:bO} {q:PR},q∈BQ [x,y]->(q.1=x/\q.2=y)\/(q.1=y/\q.2=x):=λ{y q} h=>by
  obtain⟨⟨a,b⟩,c⟩:=gJ.mp h;rcases ba.mp a with a|a
  ·rcases ba.mp b with b|b
   ·rw[a,b,FQ]at c;cases c
   ·exact .inl ⟨a,ag.mp b⟩
  ·have a:=ag.mp a;rcases ba.mp b with b|b
   ·exact .inr ⟨a,b⟩
   ·rw[a,ag.mp b,FQ]at c;cases c
 refine CG (wL l) (dq.mpr ⟨wL h1,eu.mpr ⟨λy f=>wL ?_,y0 (λ{y y'} f hy' hne a k b i e=>?_) h1⟩,λa k b i e=>?_⟩) λq=>?_
 ·refine dd.mpr ⟨λh=>hx y f (ag.mp h).symm,dd.mpr ⟨JJ,gF⟩⟩
 ·subst e;rcases c2 k with⟨p1,p2⟩|⟨p1,p2⟩<;>rcases c2 i with⟨j,m⟩|⟨j,m⟩
  ·exact hne (p2.symm.trans m)
  ·exact hx y' hy' (j.symm.trans p1)
  ·exact hx y f (p1.symm.trans j)
  ·exact hne (p1.symm.trans j)
 ·subst e;obtain⟨y,f,i⟩:=da.mp i;obtain⟨⟨o,m2⟩,_⟩:=gJ.mp k;rcases c2 i with⟨p1,p2⟩|⟨p1,p2⟩
  ·exact hx _ o p1
  ·exact hx _ m2 p2
 ·refine gJ.trans (Iff.trans ?_ bc.symm);rw[gJ,da];constructor
  ·rintro⟨⟨a,b⟩,c⟩;rcases bc.mp a with a|a
   ·rcases bc.mp b with b|b
    ·exact .inl ⟨⟨a,b⟩,c⟩
    ·exact .inr ⟨q.1,a,gJ.mpr ⟨⟨zk _ zr,ba.mpr (.inl (ag.mp b))⟩,c⟩⟩
   ·rcases bc.mp b with b|b
    ·exact .inr ⟨q.2,b,gJ.mpr ⟨⟨ba.mpr (.inl (ag.mp a)),zk _ zr⟩,c⟩⟩
    ·rw[ag.mp a,ag.mp b,FQ]at c;cases c
  ·rintro(⟨⟨a,b⟩,c⟩|⟨y,f,h⟩)
   ·exact⟨⟨QR _ a,QR _ b⟩,c⟩
   ·obtain⟨⟨a,b⟩,c⟩:=gJ.mp h;have g:∀z∈[x,y],z∈v++[x]:=λz p=>by
     rcases ba.mp p with e|e
     ·rw[e];exact ZN _ (ag.mpr Y2)
     ·rw[ag.mp e];exact QR _ f
    exact⟨⟨g _ a,g _ b⟩,c⟩
theorem Dg{α β:Type}{f g:α->O β}:∀{xs:O α},(∀x∈xs,(f x).Perm (g x))->(xs.flatMap f).Perm (xs.flatMap g)
 |[],_=>.refl _
 |x::xs,h=>by
  rw[ZI,ZI];exact(h x zr).append (Dg λy a=>h y (zk _ a))
theorem pJ{v:O bO}(a:(v.map (·.1)).Nodup)(R:O Dt):(rJ v R).Perm ((BQ v).flatMap (tl R)):=G3 (Yr a).symm _
theorem NW{v:O bO}{x y:bO}(a:((v++[x]).map (·.1)).Nodup)(b:y∈v):(([x,y]:O bO).map (·.1)).Nodup:=by
 rw[qB]at a;obtain⟨_,_,c⟩:=dq.mp a;refine dd.mpr ⟨λh=>?_,dd.mpr ⟨JJ,gF⟩⟩;exact c y.1 (JE (f:=λz:bO=>z.1) b) x.1 (ag.mpr Y2) (ag.mp h).symm
theorem ae{v:O bO}{x:bO}(a:((v++[x]).map (·.1)).Nodup)(R:O Dt):(rJ (v++[x]) R).Perm (rJ v R++v.flatMap λy=>rJ [x,y] R):=by
 have c:(v.map (·.1)).Nodup:=by rw[qB]at a;exact(dq.mp a).1
 refine(pJ a R).trans ((G3 (Ys (qF a)) _).trans ?_);rw[ya,List.flatMap_assoc];exact(pJ c R).symm.append (Dg λy b=>(pJ (NW a b) R).symm)
theorem aa(x y:bO)(R:O Dt):(rJ [x,y] R).length<=4*R.length:=by
 have a:=FN (Yo R) (C9 (wJ [x,y]));have b:=Jr (wJ [x,y]);rw[(gA [x,y]).length_eq]at b;have c:(C9 (wJ [x,y])).length*R.length<=4*R.length:=Nat.mul_le_mul_right _ b;unfold rJ;omega
theorem S5(T:O (Dt×AK×AK×Int)):(HN T).length<=T.length:=by
 unfold HN;rw[zd];exact Q4 _ _
theorem S7(T:O (Dt×AK×AK×Int)):(Jt T).length<=T.length:=by
 unfold Jt;rw[zd];exact Q4 _ _
theorem ZV(S T:O (Dt×AK×AK×Int)):HN (S++T)=HN S++HN T:=by
 unfold HN;rw[yn,qB]
theorem ZW(S T:O (Dt×AK×AK×Int)):Jt (S++T)=Jt S++Jt T:=by
 unfold Jt;rw[yn,qB]
theorem Mi{S T:O (Dt×AK×AK×Int)}(h:S.Perm T):(HN S).Perm (HN T):=(h.filter _).map _
theorem Mj{S T:O (Dt×AK×AK×Int)}(h:S.Perm T):(Jt S).Perm (Jt T):=(h.filter _).map _
structure PI (R:List Dt) (T:List (Dt×Str×Str×Int)) (n:Nat) (s:List Ma×List CD):Prop where
 r:s.1.Perm (HN T)
 b:s.2.Perm (Jt T)
 l:s.1.length<=n*80/\s.2.length<=n*80
theorem Ju{v:O bO}(h:k<v.length):v.take (k+1)=v.take k++[Au v (k:Int)]:=by
 rw[rr,ZY h,wZ _ _ h];rfl
theorem rX{v:O bO}{R:O Dt}(q:(v.map (·.1)).Nodup)(H:v.length<=10)(w:∀r∈R,Rl r)(A:R.length<=20):j7 v R/\iT v R=aB v R:=by
 have o:∀{k:Nat},k<v.length->((v.take k++[Au v (k:Int)]).map (·.1)).Nodup:=λ{k} hk=>by
  rw[<-Ju hk,List.map_take];exact QA (yz _ _) q
 have u:∀{k:Nat} (hk:k<v.length) {T:O (Dt×AK×AK×Int)} {n:Nat} (z:n+k<=400) {s:O Ma×O CD} (h:PI R T n s),jP v R s (k:Int)/\PI R (T++(v.take k).flatMap λy=>rJ [Au v (k:Int),y] R) (n+k) (fL v R s (k:Int)):=λ{k} hk {T n} z {s} h=>by
  have lp:=rW (P:=λ(a:O Ma×O CD) (g:Int)=>Z (oN v R (k:Int) a g)) (step:=λ(a:O Ma×O CD) (g:Int)=>jO v R (k:Int) a g) (λj (a:O Ma×O CD)=>PI R (T++(v.take j).flatMap λy=>rJ [Au v (k:Int),y] R) (n+j) a) k (s.1,s.2) (by
   rw[hC,List.flatMap_nil,qS];exact h) λj a E h2=>by
    have f:j<v.length:=by omega
    have C:Au v (j:Int)∈v.take k:=by
     rw[wZ _ _ f];exact List.mem_take_iff_getElem.mpr ⟨j,by omega,rfl⟩
    have x:=NW (o hk) C;have t:=zW x (by show 2<=40;decide) A w;have F:=aa (Au v (k:Int)) (Au v (j:Int)) R;have e:=eF [Au v (k:Int),Au v (j:Int)] R;have G:=S5 (rJ [Au v (k:Int),Au v (j:Int)] R);have I:=S7 (rJ [Au v (k:Int),Au v (j:Int)] R);obtain⟨r,b,l⟩:=h2;have pr:(aB [Au v (k:Int),Au v (j:Int)] R).2.1.Perm (HN (rJ [Au v (k:Int),Au v (j:Int)] R)):=by rw[e];exact sY _
    have pb:(aB [Au v (k:Int),Au v (j:Int)] R).2.2.Perm (Jt (rJ [Au v (k:Int),Au v (j:Int)] R)):=by rw[e];exact d9 _
    have el:=pr.length_eq;have eb:=pb.length_eq;refine⟨⟨⟨⟨Xk hk,Xk f⟩,t⟩,?_,?_⟩,?_,?_,?_⟩
    ·show a.1.length+(aB _ R).2.1.length<=1000000;omega
    ·show a.2.length+(aB _ R).2.2.length<=1000000;omega
    ·show(a.1++(aB _ R).2.1).Perm _;rw[Ju f,ya,m6,<-Zp,ZV];exact r.append pr
    ·show(a.2++(aB _ R).2.2).Perm _;rw[Ju f,ya,m6,<-Zp,ZW];exact b.append pb
    ·show(a.1++(aB _ R).2.1).length<=_/\(a.2++(aB _ R).2.2).length<=_;rw[zt,zt];omega
  refine⟨⟨Hi () (),lp.1⟩,lp.2⟩
 have sq:∀k:Nat,k<10->k*10+k<=400:=λk h=>by omega
 have lp:=rW (P:=λ(c:O Ma×O CD) (m:Int)=>Z (jP v R c m)) (step:=λ(c:O Ma×O CD) (m:Int)=>fL v R c m) (λk (c:O Ma×O CD)=>PI R (rJ (v.take k) R) (k*10) c) v.length ([],[]) (by
  have e:wJ []=[]:=List.Perm.nil_eq (gA []).symm |>.symm;rw[hC,show rJ [] R=[] by unfold rJ;rw[e];rfl];exact⟨.refl _,.refl _,ZT _,ZT _⟩) λk s hk h=>by
   obtain⟨d,i⟩:=u hk (n:=k*10) (by have:=sq k ();omega) h;refine⟨d,?_⟩;have p:=(ae (o hk) R).symm;rw[<-Ju hk]at p;exact⟨i.r.trans (Mi p),i.b.trans (Mj p),zl i.l.1 (),zl i.l.2 ()⟩
 rw[List.take_length]at lp;obtain⟨B,r,b,l⟩:=lp;have D:Rg (v.length:Int):=Hi () ();have en:((v.length:Int).toNat)=v.length:=jv _;unfold j7 iT;dsimp only;rw[en];refine⟨⟨⟨D,B⟩,⟨by omega,by rw[zd];omega⟩,L9 (zl l.1 ()),zl l.2 ()⟩,?_⟩;rw[eF,G4 q,zX r,qg b]
theorem ZX{u v:O bO}(g:(u.map (·.1)).Nodup)(i:(v.map (·.1)).Nodup)(h:∀x∈u,x∈v){R:O Dt}{z:Dt×AK×AK×Int}(e:z∈rJ u R):z∈rJ v R:=by
 have e:=(pJ g R).mem_iff.mp e;obtain⟨q,f,e⟩:=da.mp e;obtain⟨⟨a,b⟩,c⟩:=gJ.mp f;exact(pJ i R).mem_iff.mpr (da.mpr ⟨q,gJ.mpr ⟨⟨h _ a,h _ b⟩,c⟩,e⟩)
theorem Yt{u v:O bO}(c:(u.map (·.1)).Nodup)(e:(v.map (·.1)).Nodup)(h:∀x∈u,x∈v)(R:O Dt):(∀r∈(aB u R).2.1,r∈(aB v R).2.1)/\∀r∈(aB u R).2.2,r∈(aB v R).2.2:=by
 rw[eF,eF];refine⟨λr b=>(sY _).mem_iff.mpr ?_,λr b=>(d9 _).mem_iff.mpr ?_⟩
 ·obtain⟨z,a,rfl⟩:=aQ.mp ((sY _).mem_iff.mp b);obtain⟨h1,h2⟩:=ca.mp a;exact aQ.mpr ⟨z,ca.mpr ⟨ZX c e h h1,h2⟩,rfl⟩
 ·obtain⟨z,a,rfl⟩:=aQ.mp ((d9 _).mem_iff.mp b);obtain⟨h1,h2⟩:=ca.mp a;exact aQ.mpr ⟨z,ca.mpr ⟨ZX c e h h1,h2⟩,rfl⟩
theorem HW{e:α->Dt}[lZ e](c:α->Bool)(xs:O α):(jK e xs).filter c=jK e (xs.filter c):=
 U7 ((d9 xs).filter c) (QA kl (pA xs))
theorem Yu(c:Ma->Bool)(X:O Ma):(cg X).filter c=cg (X.filter c):=by
 rw[Mh,Mh,JA,HW,JA];refine congrArg (λZ:O Ma=>(jK NK (Z.map bh)).map bh) (Kk λx _=>?_);show c (bh (bh x))=c x;rw[Wj]
theorem S8(p:bO->Bool)(v:O bO)(f:v.Nodup):(BQ (v.filter p)).Perm ((BQ v).filter λq=>p q.1&&p q.2):=
 CG (wL (f.sublist kl)) ((wL f).sublist kl) λq=>by
  rw[gJ,ca,ca,ca,gJ,zS];exact⟨λ⟨⟨⟨a,b⟩,c,d⟩,e⟩=>⟨⟨⟨a,c⟩,e⟩,b,d⟩,λ⟨⟨⟨a,c⟩,e⟩,b,d⟩=>⟨⟨⟨a,b⟩,c,d⟩,e⟩⟩
theorem Yv{v:O bO}(a:(v.map (·.1)).Nodup)(g:AK->Bool)(R:O Dt):(rJ (v.filter λx=>g x.1) R).Perm ((rJ v R).filter λz=>g z.2.1&&g z.2.2.1):=by
 have b:((v.filter λx=>g x.1).map (·.1)).Nodup:=QA (List.filter_sublist.map _) a;refine(pJ b R).trans ((G3 (S8 _ v (qF a)) _).trans ?_);refine List.Perm.trans ?_ ((pJ a R).symm.filter _);rw[HS,<-Wk (λq:PR=>g q.1.1&&g q.2.1) (tl R)];refine Dg λq _=>?_;have e:(tl R q).filter (λz=>g z.2.1&&g z.2.2.1)=if(g q.1.1&&g q.2.1)=true then tl R q else[]:=by
  unfold tl;rw[JA];show ef _ (List.filter (λ_=>g q.1.1&&g q.2.1) _)=_;cases g q.1.1&&g q.2.1 with
  |true=>rw[zh rfl];exact congrArg (ef _) (dA.mpr λ_ _=>Y2)
  |false=>rw[zv ()];exact congrArg (ef _) (List.filter_eq_nil_iff.mpr λ_ _ h=>by cases h)
 rw[e]
theorem Yw(g:AK->Bool)(T:O (Dt×AK×AK×Int)):HN (T.filter λz=>g z.2.1&&g z.2.2.1)=(HN T).filter λr=>g r.2.1&&g r.2.2.1:=by
 unfold HN;rw[JA,ym,ym];exact congrArg (ef _) (Kk λz _=>Bool.and_comm _ _)
theorem Yx(g:AK->Bool)(T:O (Dt×AK×AK×Int)):Jt (T.filter λz=>g z.2.1&&g z.2.2.1)=(Jt T).filter λr=>g r.1&&g r.2.1:=by
 unfold Jt;rw[JA,ym,ym];exact congrArg (ef _) (Kk λz _=>Bool.and_comm _ _)
theorem Z0{n a b:AK}:(!decide (n∈[a,b]))=((!decide (a=n))&&!decide (b=n)):=by
 rw[<-Bool.not_or];refine congrArg Bool.not (Bool.eq_iff_iff.mpr ?_);rw[Zl,QQ,Zl,Zl,ba,ag];exact⟨λh=>h.imp Eq.symm Eq.symm,λh=>h.imp Eq.symm Eq.symm⟩
theorem Yy{v:O bO}{R:O Dt}(a:(v.map (·.1)).Nodup)(n:AK):aB (v.filter λx=>!decide (x.1=n)) R=lX (aB v R) n:=by
 have b:((v.filter λx=>!decide (x.1=n)).map (·.1)).Nodup:=QA (List.filter_sublist.map _) a;have t:=Yv a (λs=>!decide (s=n)) R;unfold lX;dsimp only;rw[eX,eX,eX,eF,eF];dsimp only;refine kA ?_ (kA ?_ ?_)
 ·show(wJ _).map _=((wJ v).map _).filter _;rw[<-G4 b,<-G4 a];refine(Jg ?_ (QA kl (wX _)) (wX _)).symm;refine((rN _).filter _).trans (List.Perm.trans ?_ (rN _).symm);rw[JA];exact .refl _
 ·show cg (HN _)=(cg (HN _)).filter _;rw[Yu,zX (Mi t),Yw (λs=>!decide (s=n))];exact congrArg cg (Kk λr _=>Z0.symm)
 ·show jK NP (Jt _)=(jK NP (Jt _)).filter _;rw[HW,qg (Mj t),Yx (λs=>!decide (s=n))];exact congrArg (jK NP) (Kk λr _=>Z0.symm)
def GY(n:Int)(z:Dt×AK×AK×Int):Dt×AK×AK×Int:=(z.1,z.2.1,z.2.2.1,z.2.2.2+n)
def LW(n:Int)(r:Ma):Ma:=(r.1,r.2.1,r.2.2.1,r.2.2.2+n)
def NV(n:Int)(r:CD):CD:=(r.1,r.2.1,r.2.2+n)
theorem HX:∀(xs:O Dt) (j n:Int),iz (j+n) xs=(iz j xs).map λz=>(z.1+n,z.2)
 |[],_,_=>rfl
 |x::xs,j,n=>by
  rw[mQ,mQ,zw,show j+n+1=(j+1)+n by omega,HX xs]
theorem Py:∀(xs ys:O Dt) (j:Int),iz j (xs++ys)=iz j xs++iz (j+xs.length) ys
 |[],ys,j=>by
  show iz j ys=[]++iz (j+((0:Nat):Int)) ys;rw[kP,show j+((0:Nat):Int)=j by omega]
 |x::xs,ys,j=>by
  rw[lr,mQ,mQ,Py xs ys,lr,ZZ,show j+1+(xs.length:Int)=j+((xs.length+1:Nat):Int) by omega]
theorem u7(A B:O Dt)(q:PR):tl (A++B) q=tl A q++(tl B q).map (GY A.length):=by
 unfold tl;rw[Py,yn,qB,HX B 0 (A.length:Int),JA,ZE,ZE];rfl
theorem Wn{α β:Type}(f g:α->O β):∀xs:O α,(xs.flatMap λx=>f x++g x).Perm (xs.flatMap f++xs.flatMap g)
 |[]=>.refl _
 |x::xs=>by
  rw[ZI,ZI,ZI,Zp,Zp];refine List.Perm.append_left _ (((Wn f g xs).append_left _).trans ?_);rw[<-Zp,<-Zp];exact List.Perm.append_right _ dr
theorem Z1(v:O bO)(A B:O Dt):(rJ v (A++B)).Perm (rJ v A++(rJ v B).map (GY A.length)):=by
 unfold rJ;rw[show tl (A++B)=λq=>tl A q++(tl B q).map (GY A.length) from funext (u7 A B),ti];exact Wn _ _ _
theorem wf(n:Int)(T:O (Dt×AK×AK×Int)):HN (T.map (GY n))=(HN T).map (LW n):=by
 unfold HN;rw[JA,ZE,ZE];rfl
theorem me(n:Int)(T:O (Dt×AK×AK×Int)):Jt (T.map (GY n))=(Jt T).map (NV n):=by
 unfold Jt;rw[JA,ZE,ZE];rfl
theorem Wq{v:O bO}{A B:O Dt}(b:(v.map (·.1)).Nodup)(a:v.length<=40)(f:∀r∈A,Rl r)(c:∀r∈B,Rl r)(i:A.length+B.length<=20):gY v A B/\fO v A B=true:=by
 have g:=zW b a (show A.length<=20 by omega) f;have k:=zW b a (show B.length<=20 by omega) c;have j:=zW b a (show(A++B).length<=20 by rw[zt];exact i) λr h=>(bc.mp h).elim (f r) (c r);have tA:=SQ (v:=v) a (show A.length<=20 by omega);have tB:=SQ (v:=v) a (show B.length<=20 by omega);have l:=S5 (rJ v A);have q:=S5 (rJ v B);have u:=S7 (rJ v A);have s:=S7 (rJ v B);have p1:(aB v A).2.1.Perm (HN (rJ v A)):=by rw[eF];exact sY _
 have p2:(aB v B).2.1.Perm (HN (rJ v B)):=by rw[eF];exact sY _
 have p3:(aB v A).2.2.Perm (Jt (rJ v A)):=by rw[eF];exact d9 _
 have p4:(aB v B).2.2.Perm (Jt (rJ v B)):=by rw[eF];exact d9 _
 have e:aB v (A++B)=((aB v A).1,cg ((aB v A).2.1++(aB v B).2.1.map (LW A.length)),jK NP ((aB v A).2.2++(aB v B).2.2.map (NV A.length))):=by
  rw[eF v (A++B)];refine kA (by rw[eF]) (kA ?_ ?_)
  ·refine zX ((Mi (Z1 v A B)).trans ?_);rw[ZV,wf];exact p1.symm.append (p2.symm.map _)
  ·refine qg ((Mj (Z1 v A B)).trans ?_);rw[ZW,me];exact p3.symm.append (p4.symm.map _)
 have t:=p1.length_eq;have p:=p2.length_eq;have n:=p3.length_eq;have m:=p4.length_eq;have o:mL ((aB v A).2.1++(aB v B).2.1.map (LW A.length)):=L9 (by rw[zt,zd];omega);refine⟨⟨g,k,by omega,by omega,⟨⟨⟨ZS ?_,o⟩,ZS ?_,?_⟩,?_⟩⟩,?_⟩
 ·show _+(ef _ _).length<=_;rw[zd];omega
 ·show _+(ef _ _).length<=_;rw[zd];omega
 ·show(_++ef _ _).length<=_;rw[zt,zd];omega
 ·exact⟨vO (),j⟩
 ·show decide (aB v (A++B)=_)=true;rw[e];exact zz rfl
theorem Wr(d:Dt):oR d:=λh=>⟨wK h,λ_=>wK h⟩
theorem Ws{d:Dt}{n:Int}(h:cX d n=true):As d=true/\Ij d=n:=by
 unfold cX at h;simpa using h
theorem FT(d:Dt)(w:AK)(n:Int)(b:1<=n):j8 d w n:=by
 refine⟨SX d n,λh=>?_⟩;obtain⟨h1,h2⟩:=Ws h;have:=PY (i:=0) h1 () ();exact⟨this,λa=>⟨this,Vh a rfl⟩⟩
theorem ac{d:Dt}{w:AK}{n:Int}(h:bx d w n=true):As d=true/\Ij d=n:=by
 unfold bx at h;rw[zS]at h;exact Ws h.1
theorem ny(a b:Dt):jw a b:=⟨yp a,λh1=>⟨yp b,λh2=>Vh (LR h1) (LR h2)⟩⟩
theorem VV(d:Dt):Bg d:=by
 have a:∀{w:AK} {n i:Int},bx d w n=true->0<=i->i<n->Af d i:=λh b h1=>by
  obtain⟨h2,c⟩:=ac h;exact PY h2 b ()
 refine⟨FT d _ _ (),λh=>⟨⟨a h () (),yp _⟩,λ_=>⟨a h () (),FP _⟩⟩,λ_=>⟨FT d _ _ (),λh=>⟨⟨a h () (),yp _⟩,λ_=>⟨⟨a h () (),Wr _⟩,λ_=>⟨a h () (),FP _⟩⟩⟩,λ_=>⟨FT d _ _ (),λh=>⟨⟨⟨a h () (),a h () ()⟩,ny _ _⟩,λ_=>⟨a h () (),FP _⟩⟩,λ_=>⟨FT d _ _ (),λh=>⟨a h () (),yp _⟩⟩⟩⟩⟩
theorem Sa{c:Nat}{s:AK}(h:qp ⟨#[c]⟩ s=true):c∈cs s:=by
 unfold qp at h;rcases StrLaws.occ_head s ⟨#[c]⟩ 1 (zo 1)with⟨a,b⟩|⟨i,r,a,h1,_⟩
 ·rw[a]at h;cases h
 ·exact(mem_iff_at s c).mpr ⟨i,h1⟩
theorem Pz{w s:AK}(h:((BH w).map λv:AK=>qp v s).all id=true):∀c∈cs w,c∈cs s:=λc a=>by
 rw[ez,qf]at h;exact Sa (h ⟨#[c]⟩ (by rw[Kv];exact aQ.mpr ⟨c,a,rfl⟩))
theorem oo{c:Nat}(h:c∈cs ("0123456789":AK)):48<=c/\c<=57:=(by decide +kernel:∀c∈cs ("0123456789":AK),48<=c/\c<=57) c h
theorem C1{w:AK}(h:((!(decide ((1:Int)<=(w.length:Int))&&decide ((w.length:Int)<=6)))||(!(((BH w).map λv:AK=>qp v ("0123456789":AK)).all id)))=false):(1<=w.length/\w.length<=6)/\∀c∈cs w,48<=c/\c<=57:=by
 rw[Bool.or_eq_false_iff,ic,ic,zS,Zl,Zl]at h;exact⟨⟨by omega,by omega⟩,λc a=>oo (Pz h.2 c a)⟩
theorem wt{w:AK}(h:(1<=w.length/\w.length<=6)/\∀c∈cs w,48<=c/\c<=57):w.length<=640/\(intText? w).isSome=true:=by
 refine⟨by omega,?_⟩;rw[PySem.intText_digits (x:=w) h.2 (λe=>by have:=h.1.1;rw[iK]at this;rw[show cs w=[] from e]at this;cases this) ()];rfl
theorem Sl{w:AK}(h:w.length<=n):(BH w).length<=n:=by
 rw[Kv,zd,<-iK];exact h
theorem ap(w:AK):qD w:=by
 unfold qD;refine⟨λh=>?_,λh=>⟨BC () (by have:=(C1 h).1.1;omega),λ_=>wt (C1 h)⟩⟩;rw[ic,zS,Zl,Zl]at h;exact Sl ()
theorem t5{c:Nat}(h:c∈cs ("abcdefghijklmnopqrstuvwxyz":AK)):Lw c:=(by decide +kernel:∀c∈cs ("abcdefghijklmnopqrstuvwxyz":AK),97<=c/\c<=122) c h
theorem x4(p:AK->Bool):((U6 (.str x)).map λv:Dt=>p (yw v))=(BH x).map p:=by
 rw[show U6 (.str x)=(BH x).map Dt.str from Kd x,ZE];rfl
theorem Wu{a:AK}(h:bF (.str a)=true):Nm a:=by
 unfold bF ju at h;have h:((decide ((1:Int)<=(a.length:Int))&&decide ((a.length:Int)<=8))&&(((U6 (.str a)).map λv:Dt=>qp (yw v) ("abcdefghijklmnopqrstuvwxyz":AK)).all id))=true:=h;rw[x4 (λv=>qp v _),zS,zS,Zl,Zl]at h;exact⟨by omega,by omega,λc b=>t5 (Pz h.2 c b)⟩
theorem u8{a:AK}(h:Nm a):fD a=Y3:=by
 unfold fD;cases g:((!(decide ((1:Int)<=(a.length:Int))&&decide ((a.length:Int)<=6)))||(!(((BH a).map λv:AK=>qp v ("0123456789":AK)).all id)))with
 |true=>rfl
 |false=>
  obtain⟨⟨h1,_⟩,h2⟩:=C1 g;have b:=h1;rw[iK]at b;obtain⟨c,f⟩:=kj (cs a) (λe=>by rw[e]at b;cases b);have:=h2 c f;have:97<=c/\c<=122:=h.2.2 c f;omega
theorem Cf{w:AK}:lC w=(match fD w with|none=>.str w|some n=>.int n):=by
 unfold lC;dsimp only;cases fD w<;>rfl
theorem sQ{a:AK}(h:Nm a):lC a=.str a:=by rw[Cf,u8 h]
def C2(ds:O Dt):Prop:=
 (∃a c,ds=[.str "same", .str a,.int c]/\Nm a/\(1<=c/\c<=1000))\/(∃a b c,ds=[.str "begin", .str a,.int b,.int c]/\Nm a/\(1<=b/\b<=12)/\(1<=c/\c<=1000)) ∨
 (∃a b c,ds=[.str "both", .str a,.str b,.int c]/\Nm a/\Nm b/\a≠b/\(1<=c/\c<=1000))\/∃a,ds=[.str "never", .str a]/\Nm a
theorem Dh{c:Int}(h:1<=c/\c<=1000):gU (.int c)=true:=by
 show(decide (1<=c)&&decide (c<=1000))=true;rw[zz h.1,zz h.2];rfl
theorem mT{c:Int}(h:1<=c/\c<=12):j9 (.int c)=true:=by
 show(decide (1<=c)&&decide (c<=12))=true;rw[zz h.1,zz h.2];rfl
theorem Yz(h:C2 ds):lD (.tup ds)=true:=by
 rcases h with⟨a,c,rfl,e,f⟩|⟨a,b,c,rfl,e,g,f⟩|⟨a,b,c,rfl,e,g,i,f⟩|⟨a,rfl,e⟩
 ·unfold lD;rw[show bx (.tup [.str "same", .str a,.int c]) "same" 3=true from rfl,zh rfl,Hj,Vi,oV e,Dh f];rfl
 ·unfold lD;rw[show bx (.tup [.str "begin", .str a,.int b,.int c]) "same" 3=false from rfl,zv zC,show bx (.tup [.str "begin", .str a,.int b,.int c]) "begin" 4=true from rfl,zh rfl,Hj,Vi,Mk,oV e,mT g,Dh f];rfl
 ·unfold lD gw;rw[show bx (.tup [.str "both", .str a,.str b,.int c]) "same" 3=false from rfl,zv zC,show bx (.tup [.str "both", .str a,.str b,.int c]) "begin" 4=false from rfl,zv zC,show bx (.tup [.str "both", .str a,.str b,.int c]) "both" 4=true from rfl,zh rfl,Hj,Vi,Mk,oV e,oV g,Dh f,mj,show(a==b)=false from beq_eq_false_iff_ne.mpr i];rfl
 ·unfold lD;rw[show bx (.tup [.str "never", .str a]) "same" 3=false from rfl,zv zC,show bx (.tup [.str "never", .str a]) "begin" 4=false from rfl,zv zC,show bx (.tup [.str "never", .str a]) "both" 4=false from rfl,zv zC,show bx (.tup [.str "never", .str a]) "never" 2=true from rfl,Hj,oV e];rfl
theorem UU:Nm "same" ∧ Nm "begin" ∧ Nm "both" ∧ Nm "never":=⟨Wu (by decide +kernel),Wu (by decide +kernel),Wu (by decide +kernel),Wu (by decide +kernel)⟩
theorem Si{t:AK}(h:t.length=0):t=("":AK):=by
 refine Xu ?_;rw[iK]at h;rw[List.length_eq_zero_iff.mp h];rfl
theorem Ml{t:AK}(h:t≠("":AK)):cY t=Txt.split t "\n":=by
 have a:t.length≠0:=λe=>h (Si e);show(if decide (t.length≠0)=true then Txt.split t "\n" else[])=_;rw[zz a,zh rfl]
theorem PJ:cY ("":AK)=[]:=rfl
theorem x6(t:AK):(cY t).length<=t.length+2:=by
 by_cases h:t=("":AK)
 ·rw[h,PJ];exact ZT _
 ·rw[Ml h];exact split_le _ _
theorem Wv{t l:AK}(h:l∈cY t):l.length<=t.length:=by
 by_cases e:t=("":AK)
 ·rw[e,PJ]at h;cases h
 ·rw[Ml e]at h;exact part_short h
theorem dQ{t:AK}(h:t.length<=80000):yj t:=⟨λz=>(by cases z),λ_ _=>⟨by decide +kernel,by omega⟩⟩
theorem lf{l:AK}(h:l.length<=90000):wH l:=by
 have a:=split_le l " ";exact⟨⟨⟨⟨by decide +kernel,by omega⟩,by omega⟩,λw _=>ap w⟩,VV _⟩
theorem N3{t:AK}{q:(Int×AK)}(h:q∈nJ (cY t)):q.2∈cY t:=by
 unfold nJ at h;obtain⟨k,hk,e⟩:=cb.mp h;rw[nu]at e;rw[<-e];exact Ya _
theorem Z2:∀(b:O (Int×AK)) (a:O BE),(∀q∈b,wH q.2/\(fM q.2).isSome=true)->a.length+b.length<=90000 →
  oY (λ(c:O BE) (q1:(Int×AK))=>(dZ c q1:wN (O BE) (O BE))) b a=.nx (a++b.map λq=>(fM q.2).getD default)/\yx (λ(c:O BE) (q1:(Int×AK))=>(dZ c q1:wN (O BE) (O BE))) (λ(c:O BE) (q1:(Int×AK))=>Z (jC c q1)) b a
 |[],a,_,_=>⟨by simp[oY],trivial⟩
 |q::b,a,h,hl=>by
  obtain⟨h1,h2⟩:=h q (zr ..);rw[ZZ]at hl;obtain⟨x,hx⟩:=cZ.mp h2;have e1:dZ a q=.nx (a++[x]):=by
   unfold dZ;dsimp only;rw[hx];rfl
  have e:jC a q:=by
   unfold jC;dsimp only;rw[hx];exact⟨h1,(λz=>nomatch z),λ_=>⟨rfl,by unfold Ej;omega⟩⟩
  obtain⟨i1,i2⟩:=Z2 b (a++[x]) (λp hp=>h p (zk _ hp)) (by rw[zt,ku];omega);refine⟨?_,e,?_⟩
  ·unfold oY;rw[e1];dsimp only;rw[i1,zw,hx,Zp];rfl
  ·dsimp only;rw[e1];exact i2
theorem Z4{β:Type}(f:AK->β):∀(ks:O Nat) (a:B5),ks.length=a.length->pF (λ(_:Nat) y=>f y) ks a=a.map f
 |[],[],_=>rfl
 |[],_::_,h=>by cases h
 |_::_,[],h=>by cases h
 |k::ks,l::a,h=>by rw[m4,zw,Z4 f ks a (Nat.succ.inj h)]
theorem eK(f:AK->β)(a:B5):(nJ a).map (λq=>f q.2)=a.map f:=by
 unfold nJ;rw[lg];exact Z4 f _ a j0
theorem bS{t:AK}(h:t.length<=80000)(b:∀l∈cY t,(fM l).isSome=true):oU t/\gW t=(cY t).map λl=>(fM l).getD default:=by
 have c:=x6 t;have a:(nJ (cY t)).length<=t.length+2:=by unfold nJ;rw[n5,j0,yb];exact c
 obtain⟨f1,f2⟩:=Z2 (nJ (cY t)) [] (λq a=>⟨lf (by have:=Wv (N3 a);omega),b _ (N3 a)⟩) (by rw[mm];omega);refine⟨⟨⟨dQ h,f2⟩,?_⟩,?_⟩
 ·rw[f1];trivial
 ·unfold gW;dsimp only;rw[f1,kP,eK (λl=>(fM l).getD default)];rfl
def Lk(d:Dt):Prop:=∃ds,d=.tup ds/\C2 ds
theorem Pi(y:AK)(l:B5):(Txt.join y l).length<=(l.map (·.length)).sum+l.length*y.length:=by
 have h:=StrLaws.join_length_le y l;rw[<-StrLaws.glued_eq_join]at h;exact h
theorem P9(y:AK)(l:B5)(n:Nat)(h:∀x∈l,x.length<=n):(l.map (·.length)).sum<=l.length*n:=by
 induction l with
 |nil=>simp
 |cons a l b=>
  have h1:=h a (zr ..);have h2:=b λx hx=>h x (zk _ hx);rw[zw,nw,ZZ,Nat.add_mul,Nat.one_mul];omega
theorem ax{w:AK}{n:Int}(h:fD w=Z n):(1<=w.length/\w.length<=6)/\∀c∈cs w,48<=c/\c<=57:=by
 unfold fD at h;cases a:((!(decide ((1:Int)<=(w.length:Int))&&decide ((w.length:Int)<=6)))||(!(((BH w).map λv:AK=>qp v ("0123456789":AK)).all id)))with
 |true=>rw[a]at h;cases h
 |false=>exact C1 a
theorem YU:∀i:Fin 1001,1<=i.val->((fJ 10 i.val).map Char.toNat).length<=4/\∃c∈((fJ 10 i.val).map Char.toNat).head?,c≠48:=by decide +kernel
theorem br{c:Nat}(h:48<=c/\c<=57):c∈cs ("0123456789":AK):=by
 have:∀i:Fin 10,48+i.val∈cs ("0123456789":AK):=by decide +kernel
 have:=this ⟨c-48,by omega⟩;rwa [show 48+(c-48)=c by omega]at this
theorem sA{n:Int}(h:1<=n/\n<=1000):fD (nj (.int n))=Z n:=by
 have o:=PySem.W.KIN.num_reads (n:=n) () ();obtain⟨m,rfl⟩:=ma (show 0<=n by omega);obtain⟨j,c,b,p⟩:=YU ⟨m,by omega⟩ (by show 1<=m;omega);have es:cs (nj (.int (m:Nat)))=(fJ 10 m).map Char.toNat:=PySem.W.KIN.signs_num m;have q:(nj (.int (m:Nat))).length<=4:=by rw[iK,es];exact j
 have h1:1<=(nj (.int (m:Nat))).length:=by
  rw[iK,es];cases f:(fJ 10 m).map Char.toNat with
  |nil=>rw[f]at b;cases b
  |cons a l=>exact KA (ZT _)
 have hd:∀c∈cs (nj (.int (m:Nat))),48<=c/\c<=57:=λc b=>by
  rw[es]at b;obtain⟨x,hx,rfl⟩:=aQ.mp b;exact digit_range (Nat.isDigit_of_mem_toDigits () () hx)
 have k:ch (nj (.int (m:Nat))) 0≠("0":AK):=λe=>by
  cases f:cs (nj (.int (m:Nat)))with
  |nil=>rw[iK,f]at h1;cases h1
  |cons a l=>
   have e2:ch (nj (.int (m:Nat))) 0=⟨#[a]⟩:=by
    unfold ch;rw[show(nj (.int (m:Nat))).cps.toList=a::l from f,show Ib (a::l) 0=Z a by simp[Ib,EL]];rfl
   rw[e2]at e;have e3:[a]=[48]:=(congrArg cs e).trans (by decide +kernel);rw[es]at f;have b:c∈((fJ 10 m).map Char.toNat).head?:=b;rw[f]at b;have i:a=c:=Jn b;exact p (i.symm.trans (hY.inj e3).1)
 unfold fD;have a1:((BH (nj (.int (m:Nat)))).map λv:AK=>qp v ("0123456789":AK)).all id=true:=by
  rw[ez,qf];intro v g;rw[Kv]at g;obtain⟨c,b,rfl⟩:=aQ.mp g;exact O9 (br (hd c b))
 rw[a1,zz (show(1:Int)<=((nj (.int (m:Nat))).length:Int) by omega),zz (show((nj (.int (m:Nat))).length:Int)<=6 by omega),z4 k];show Z ((intText? (Str.ofString (toString ((m:Nat):Int)))).getD 0)=_;rw[o];rfl
structure Wo (d:Dt):Prop where
 s:IE d
 len:1<=(nj d).length/\(nj d).length<=8
 sg:∀c∈cs (nj d),48<=c/\c<=122
 p:lC (nj d)=d
theorem FW{a:AK}(h:Nm a):Wo (.str a):=⟨trivial,⟨h.1,h.2.1⟩,λc b=>by have:97<=c/\c<=122:=h.2.2 c b;omega,sQ h⟩
theorem S9{n:Int}(h:1<=n/\n<=1000):Wo (.int n):=by
 have q:=sA h;obtain⟨h1,h2⟩:=ax q;exact⟨by show n.natAbs<=1000000;omega,by omega,λc a=>by have:=h2 c a;omega,by rw[Cf,q]⟩
theorem zY(h:C2 ds):(∀d∈ds,Wo d)/\ds≠[]/\ds.length<=4:=by
 obtain⟨k,l,i,j⟩:=UU;rcases h with⟨a,c,rfl,e,f⟩|⟨a,b,c,rfl,e,g,f⟩|⟨a,b,c,rfl,e,g,_,f⟩|⟨a,rfl,e⟩
 ·refine⟨?_,by simp,by simp⟩;simp only[KP,JJ,false_implies,implies_true,and_true];exact⟨FW k,FW e,S9 f⟩
 ·refine⟨?_,by simp,by simp⟩;simp only[KP,JJ,false_implies,implies_true,and_true];exact⟨FW l,FW e,S9 (),S9 f⟩
 ·refine⟨?_,by simp,by simp⟩;simp only[KP,JJ,false_implies,implies_true,and_true];exact⟨FW i,FW e,FW g,S9 f⟩
 ·refine⟨?_,by simp,by simp⟩;simp only[KP,JJ,false_implies,implies_true,and_true];exact⟨FW j,FW e⟩
def Di(d:Dt):AK:=Txt.join " " ((U6 d).map λa:Dt=>nj a)
theorem OP:cs (" ":AK)=32::[]:=by decide +kernel
theorem tP:cs ("\n":AK)=10::[]:=by decide +kernel
theorem UH(h:C2 ds):Txt.split (Di (.tup ds)) " "=ds.map nj:=by
 obtain⟨h1,h2,_⟩:=zY h;unfold Di;show Txt.split (Txt.join " " (ds.map nj)) " "= _;cases ds with
 |nil=>exact absurd Y2 h2
 |cons d ds=>
  rw[zw];refine Ku OP (by decide +kernel) _ _ λq a b=>?_;rw[<-zw]at a;obtain⟨x,hx,rfl⟩:=aQ.mp a;have:=(h1 x hx).sg _ b;omega
theorem C7(h:C2 ds):fM (Di (.tup ds))=Z ds:=by
 obtain⟨h1,h2,_⟩:=zY h;unfold fM;dsimp only;rw[UH h,ZE];have e:ds.map ((λa:AK=>lC a) ∘ nj)=ds:=by
  refine(ki λd hd=>(h1 d hd).p).trans ?_;exact KI _
 rw[e];show(if lD (.tup (ds.map eD))=true then _ else _)=_;rw[show ds.map eD=ds from KI _,Yz h,zh rfl]
theorem Z5(h:C2 ds):(Di (.tup ds)).length<=36/\((ds.map nj).map (·.length)).sum+(ds.map nj).length*(" ":AK).length<=36:=by
 obtain⟨h1,h2,c⟩:=zY h;have a:=Pi (" ":AK) (ds.map nj);have b:=P9 " " (ds.map nj) 8 λx hx=>by
  obtain⟨d,hd,rfl⟩:=aQ.mp hx;exact(h1 d hd).len.2
 rw[zd]at a b ⊢;rw[show(" ":AK).length=1 from rfl]at a ⊢;unfold Di;refine⟨zl (show(Txt.join " " (ds.map nj)).length<=_ from a) ?_,?_⟩<;>omega
theorem x5(h:C2 ds):10∉cs (Di (.tup ds)):=by
 obtain⟨h1,h2,_⟩:=zY h;unfold Di;show 10∉cs (Txt.join " " (ds.map nj));cases ds with
 |nil=>exact absurd Y2 h2
 |cons d ds=>
  intro a;rw[zw,ZJ]at a;rcases bc.mp a with a|a
  ·have:=(h1 d (zr ..)).sg _ a;omega
  ·obtain⟨q,b,a⟩:=da.mp a;obtain⟨x,hx,rfl⟩:=aQ.mp b;rcases bc.mp a with a|a
   ·rw[OP]at a;cases ag.mp a
   ·have:=(h1 x (zk _ hx)).sg _ a;omega
structure Rs (rs:List Dt):Prop where
 lk:∀r∈rs,Lk r
 len:rs.length<=8
theorem Z6(rs:O Dt):cR rs=Txt.join "\n" (rs.map Di):=rfl
theorem SZ{r:Dt}(h:Lk r):u5 r:=by
 obtain⟨ds,rfl,a⟩:=h;obtain⟨h1,_,b⟩:=zY a;exact⟨⟨⟨rfl,by show ds.length<=_;omega⟩,λd hd=>(h1 d hd).s⟩,zl (Z5 a).2 ()⟩
theorem Ww(h:Rs rs):((rs.map Di).map (·.length)).sum+(rs.map Di).length*("\n":AK).length<=300:=by
 have e:=h.len;have b:=P9 "\n" (rs.map Di) 36 λx hx=>by
  obtain⟨r,c,rfl⟩:=aQ.mp hx;obtain⟨ds,rfl,a⟩:=h.lk r c;exact(Z5 a).1
 rw[zd]at b ⊢;rw[show("\n":AK).length=1 from rfl];omega
theorem c8(h:Rs rs):oO rs:=⟨⟨by have:=h.len;omega,λr a=>SZ (h.lk r a)⟩,zl (Ww h) ()⟩
theorem DH(h:Rs rs):(cR rs).length<=300:=by
 rw[Z6];exact zl (Pi _ _) (Ww h)
theorem Sj(h:Rs rs)(c:rs≠[]):Txt.split (cR rs) "\n"=rs.map Di:=by
 rw[Z6];cases rs with
 |nil=>exact absurd Y2 c
 |cons r rs=>
  rw[zw];refine Ku tP (by decide +kernel) _ _ λq a=>?_;rw[<-zw]at a;obtain⟨x,hx,rfl⟩:=aQ.mp a;obtain⟨ds,rfl,b⟩:=h.lk x hx;exact x5 b
theorem YB(h:Rs rs):cY (cR rs)=rs.map Di:=by
 by_cases a:rs=[]
 ·subst a;rfl
 ·have e:=Sj h a;rw[<-e];refine Ml λz=>?_;rw[z,show Txt.split ("":AK) "\n"= [("":AK)] by decide +kernel]at e;obtain⟨r,b⟩:=kj rs a;have q:Di r∈[("":AK)]:=by rw[e];exact aQ.mpr ⟨r,b,rfl⟩
  obtain⟨ds,rfl,c⟩:=h.lk r b;have:=C7 c;rw[ag.mp q,show fM ("":AK)=Y3 by decide +kernel]at this;cases this
theorem mS(h:Rs rs):oO rs/\oU (cR rs)/\(gW (cR rs)).map (eT eD)=rs:=by
 have c:=DH h;have e:=YB h;have i:∀l∈cY (cR rs),(fM l).isSome=true:=λl c=>by
  rw[e]at c;obtain⟨r,b,rfl⟩:=aQ.mp c;obtain⟨ds,rfl,a⟩:=h.lk r b;rw[C7 a];rfl
 obtain⟨g,f⟩:=bS (t:=cR rs) () i;refine⟨c8 h,g,?_⟩;rw[f,e,ZE,ZE];refine(ki λr b=>?_).trans (KI _);obtain⟨ds,rfl,a⟩:=h.lk r b;show eT eD ((fM (Di (.tup ds))).getD default)=.tup ds;rw[C7 a];show Dt.tup (ds.map eD)=_;rw[show ds.map eD=ds from KI _]
def Mq:B5:=[("day":AK),("name":AK),("names":AK),("p":AK),("zzz":AK)]
theorem mo:∀i:Fin 5,bF (.str (Au Mq (i.val:Int)))=true:=by decide +kernel
theorem sM:∀i j:Fin 5,i≠j->Au Mq (i.val:Int)≠Au Mq (j.val:Int):=by decide +kernel
theorem Z7(y:Int):Nm (Au Mq (y%5)):=by
 have m:=iJ y (m:=5) ();have:=mo ⟨(y%5).toNat,by omega⟩;rw[show(((⟨(y%5).toNat,by omega⟩:Fin 5).val:Nat):Int)=y%5 by show(((y%5).toNat:Nat):Int)=_;omega]at this;exact Wu this
theorem wo(y:Int):Au Mq (y%5)≠Au Mq ((y+1+y / 5%4)%5):=by
 have m:=iJ y (m:=5) ();have m2:=iJ (y+1+y / 5%4) (m:=5) ();have a:=iJ (y / 5) (m:=4) ();have:=sM ⟨(y%5).toNat,by omega⟩ ⟨((y+1+y / 5%4)%5).toNat,by omega⟩ (λe=>by
  have e:=congrArg Fin.val e;have e:(y%5).toNat=((y+1+y / 5%4)%5).toNat:=e;omega)
 rw[show(((⟨(y%5).toNat,by omega⟩:Fin 5).val:Nat):Int)=y%5 by show(((y%5).toNat:Nat):Int)=_;omega,show(((⟨((y+1+y / 5%4)%5).toNat,by omega⟩:Fin 5).val:Nat):Int)=(y+1+y / 5%4)%5 by show((((y+1+y / 5%4)%5).toNat:Nat):Int)=_;omega]at this;exact this
theorem XG(y z:Int):1<=Au [1+y / 300%3,1+y / 300%1000] (z%2)/\Au [1+y / 300%3,1+y / 300%1000] (z%2)<=1000:=by
 have h:=Rf (xs:=[1+y / 300%3,1+y / 300%1000]) (i:=z%2) (zp () (hH 2));have a:=iJ (y / 300) (m:=3) ();have m2:=iJ (y / 300) (m:=1000) ();rcases ba.mp h with e|h
 ·rw[e];omega
 ·rw[ag.mp h];omega
theorem Wx(xs:O Int)(i:5<=xs.length)(k:Nat)(a:O Dt)(hk:k<4)(h:a.length=k/\∀d∈a,Lk d):oh xs Mq a k/\(gn xs Mq a k).length=k+1/\∀d∈gn xs Mq a k,Lk d:=by
 have f:Ej a.length:=by unfold Ej;omega
 have f1:=Z7 (Au xs (1+k));have f2:=Z7 (Au xs (1+k)+1+Au xs (1+k) / 5%4);have f3:=wo (Au xs (1+k));have w:=XG (Au xs (1+k)) (Au xs (1+k) / 7);have g:=iJ (Au xs (1+k) / 100) (m:=3) ();refine⟨⟨BC () (),⟨zp () (hH 5),zp () (hH 5)⟩,zp () (hH 2),λ_=>f,λ_=>⟨λ_=>f,λ_=>⟨λ_=>f,λ_=>f⟩⟩⟩,?_⟩;have c:∀d,Lk d->(a++[d]).length=k+1/\∀e∈a++[d],Lk e:=λd hd=>⟨by simp[h.1],λe b=>by
  rcases bc.mp b with b|b
  ·exact h.2 e b
  ·cases ag.mp b;exact hd⟩
 unfold gn;dsimp only;split
 ·exact c _ ⟨_,rfl,.inr (.inr (.inr ⟨_,rfl,f1⟩))⟩
 split
 ·exact c _ ⟨_,rfl,.inr (.inl ⟨_,_,_,rfl,f1,by omega,w⟩)⟩
 split
 ·exact c _ ⟨_,rfl,.inr (.inr (.inl ⟨_,_,_,rfl,f1,f2,f3,w⟩))⟩
 ·exact c _ ⟨_,rfl,.inl ⟨_,_,rfl,f1,w⟩⟩
theorem PK(xs:O Int)(b:5<=xs.length):qy xs/\(1<=(cI xs).length/\(cI xs).length<=4)/\∀d∈cI xs,Lk d:=by
 have m:=iJ (Au xs 0) (m:=4) ();have:=rW (P:=λa k=>Z (oh xs Mq a k)) (step:=λa k=>gn xs Mq a k) (λk s=>s.length=k/\∀d∈s,Lk d) (1+Au xs 0%4).toNat [] ⟨rfl,λd h=>(by cases h)⟩ λk s hk h=>Wx xs b k s () h;exact⟨⟨⟨BC () (),Hi () ()⟩,this.1⟩,⟨by rw[show(cI xs).length=_ from this.2.1];omega,by rw[show(cI xs).length=_ from this.2.1];omega⟩,this.2.2⟩
theorem PL{r:Dt}(h:Lk r):Rl r/\Wt r:=by
 obtain⟨ds,rfl,f⟩:=h;rcases f with⟨a,c,rfl,_,e⟩|⟨a,b,c,rfl,_,_,e⟩|⟨a,b,c,rfl,_,_,_,e⟩|⟨a,rfl,_⟩
 ·exact⟨.inl ⟨a,c,rfl⟩,λ_=>e⟩
 ·exact⟨.inr (.inl ⟨a,b,c,rfl⟩),λ_=>e⟩
 ·exact⟨.inr (.inr (.inl ⟨a,b,c,rfl⟩)),λ_=>e⟩
 ·exact⟨.inr (.inr (.inr ⟨a,rfl⟩)),λz=>by unfold FE at z;rw[Et,mj,Pl]at z;cases z⟩
open S1 S6
structure DV (v:List bO) (R:List Dt):Prop where
 nd:(v.map (·.1)).Nodup
 ln:v.length<=6
 nm:∀x∈v,Nm x.1
 lk:∀r∈R,Lk r
 rl:R.length<=8
theorem mw(a:O Int)(U:a.length<=63):qz a/\DV (fB a).2.1 ((fB a).1.1++(fB a).1.2)/\∃k:Nat,(fB a).2.2=(k:Int)/\k<=(fB a).2.1.length:=by
 obtain⟨o,c,G⟩:=Yk (cF a 0) 20 () ();have c:(bN (cF a 0) 20).length=20:=c;unfold qz fB;dsimp only;generalize P:bN (cF a 0) 20=xs at *
 have H:(BI xs (Z 5) Y3).length=15:=by
  rw[show BI xs (Z 5) Y3=xs.drop 5 from zq (k:=5) (),qc,c]
 have M:(BI xs (Z 10) Y3).length=10:=by
  rw[show BI xs (Z 10) Y3=xs.drop 10 from zq (k:=10) (),qc,c]
 obtain⟨D,I,s⟩:=PK xs ();obtain⟨C,L,B⟩:=PK (BI xs (Z 5) Y3) ();have sl:=pV (cI (BI xs (Z 5) Y3)) Y3 (Z 2);have A:∀r∈cI xs++BI (cI (BI xs (Z 5) Y3)) Y3 (Z 2),Lk r:=λr E=>(bc.mp E).elim (s r) λh=>B r (ie h);have v:(cI xs++BI (cI (BI xs (Z 5) Y3)) Y3 (Z 2)).length<=8:=by rw[zt];omega
 have S:=iJ (Au xs 16) (m:=7) ();obtain⟨q1,q2,q3⟩:=X1 (BI xs (Z 10) Y3) () (Au xs 16%7) () ();have y:=be (BI xs (Z 10) Y3) (Au xs 16%7) ();have q:=xS (BI xs (Z 10) Y3) (Au xs 16%7) ();have N:(dY (BI xs (Z 10) Y3) (Au xs 16%7)).length<=6:=by rw[q2];omega
 generalize eN:dY (BI xs (Z 10) Y3) (Au xs 16%7)=na at *
 have l:∀k:Int,wG (Au na k) (bN (cF a (1+k)) 4)/\(gG (Au na k) (bN (cF a (1+k)) 4)).1=Au na k/\Fd (gG (Au na k) (bN (cF a (1+k)) 4)):=λk=>bq _ _ (Yk (cF a (1+k)) 4 () ()).2.1;have g:((rng 0 (na.length:Int).toNat).map λb:Int=>(gG (Au na b) (bN (cF a (1+b)) 4))).map (·.1)=na:=by
  rw[ZE,show((λx:bO=>x.1) ∘ λb:Int=>(gG (Au na b) (bN (cF a (1+b)) 4)))=Au na from funext λk=>(l k).2.1,jv];unfold rng;rw[ZE];refine s8 (by simp) λi h1 h2=>?_;simp only[JO,qb,Function.comp_apply,eW];exact wZ _ _ h2
 generalize K:((rng 0 (na.length:Int).toNat).map λb:Int=>(gG (Au na b) (bN (cF a (1+b)) 4)))=w at *
 have F:w.length=na.length:=by rw[<-g,zd]
 have n:0<(if(w.length:Int)>1 then(w.length:Int)else 1):=by split<;>omega
 have e:=iJ (Au xs 17) n;have W:Au xs 17%(if(w.length:Int)>1 then(w.length:Int)else 1)<=w.length:=by
  by_cases h:(w.length:Int)>1
  ·rw[zh h]at e ⊢;omega
  ·rw[zv h]at e ⊢;omega
 generalize Au xs 17%(if(w.length:Int)>1 then(w.length:Int)else 1)=t at *
 obtain⟨k,rfl⟩:=ma e.1;rw[zq (show k<=w.length by omega),OQ (show k<=w.length by omega)];have p:(w.drop k++w.take k).Perm w:=by
  have:=dr (l₁:=w.drop k) (l₂:=w.take k);rwa [ZU]at this
 have Q:=iJ (Au xs 18) (m:=(w.length:Int)+1) ();have lp:=p.length_eq;refine⟨⟨⟨PM a 0 () (),o⟩,⟨D,C⟩,⟨BC () (),q1⟩,⟨⟨Hi () (),by rw[qL];omega⟩,λz u=>?_⟩,⟨BC () (),n⟩,vO ?_,BC () (),by omega⟩,⟨?_,by omega,λx hx=>?_,A,v⟩,(Au xs 18%((w.length:Int)+1)).toNat,by omega,by omega⟩
 ·obtain⟨j,J,rfl⟩:=xg u;exact⟨⟨Xk (),PM a _ () (),(Yk _ 4 () ()).1⟩,(l j).1⟩
 ·rw[<-zt];omega
 ·rw[(p.map _).nodup_iff,g];exact y
 ·exact q _ (by rw[<-g];exact JE (f:=λz:bO=>z.1) (p.mem_iff.mp hx))
theorem NH{v:O bO}{R:O Dt}(V:DV v R):(aB v R).1.length<=1000/\(aB v R).2.1.length<=1000/\(aB v R).2.2.length<=1000:=by
 have g:=Px V.nd (by have:=V.ln;omega) V.nm (λr h=>(PL (V.lk r h)).2) V.rl;exact⟨zl g.nl (),g.rl,g.bl⟩
theorem DV.sub{v u:O bO}{R:O Dt}(V:DV v R)(s:u.Sublist v):DV u R:=⟨V.nd.sublist (s.map _),zl s.length_le V.ln,λx hx=>V.nm x (s.subset hx),V.lk,V.rl⟩
theorem DV.per{v u:O bO}{R:O Dt}(V:DV v R)(s:u.Perm v):DV u R:=⟨(s.map _).nodup_iff.mpr V.nd,by rw[s.length_eq];exact V.ln,λx hx=>V.nm x (s.mem_iff.mp hx),V.lk,V.rl⟩
theorem DV.d{v:O bO}{R:O Dt}(V:DV v R):dF v R:=zW V.nd (zl V.ln ()) (zl V.rl ()) λr h=>(PL (V.lk r h)).1
theorem Z8{v:O bO}{R:O Dt}(V:DV v R){a b:O bO}(p:(a++b).Perm v):Fz R (aB v R) lm (a,b)/\sW R (aB v R) lm (a,b)=.nx lm:=by
 have W:=V.per p;have U:=W.sub (lz a b);have i:aB (a++b) R=aB v R:=Wm W.nd p R;have l:=W.ln;rw[zt]at l;have g:=W.nd;rw[qB]at g;obtain⟨_,_,j⟩:=dq.mp g;obtain⟨g1,g2⟩:=Yt U.nd V.nd (λx hx=>p.mem_iff.mp (QR _ hx)) R;obtain⟨_,n,m⟩:=NH U;have e0:(!decide (aB (iU a b) R=aB v R))=false:=by
  show(!decide (aB (a++b) R=aB v R))=false;rw[i,zz rfl];rfl
 have a1:(((aB a R).2.1.map λval:Ma=>(Rc val (aB v R).2.1)).all id)=true:=Pu λr c=>U8.mpr (g1 r c);have a2:(((aB a R).2.2.map λval:CD=>(Rc val (aB v R).2.2)).all id)=true:=Pu λr c=>U8.mpr (g2 r c);have z1:a.length<4000:=by omega
 have z2:(aB a R).2.1.length<=100000:=by omega
 have z3:(aB a R).2.2.length<=100000:=by omega
 refine⟨⟨⟨⟨⟨z1,vO (show a.length+b.length<=1000 by omega)⟩,?_⟩,W.d⟩,λ_=>⟨U.d,z2,λ_=>z3⟩⟩,?_⟩
 ·refine List.find?_eq_none.mpr λx hx h=>?_;obtain⟨y,k,e⟩:=aQ.mp (kv h);exact j y.1 (JE (f:=λz:bO=>z.1) k) x.1 (JE (f:=λz:bO=>z.1) hx) e
 ·unfold sW;dsimp only;rw[e0,a1,a2];rfl
theorem Md{v:O bO}{R:O Dt}(V:DV v R){n:AK}(a:n∈v.map (·.1)):zV v R (aB v R) lm n/\sX v R (aB v R) lm n=.nx lm:=by
 obtain⟨x,hx,e⟩:=aQ.mp a;have nm:bF (eS n)=true:=oV (by rw[<-e];exact V.nm x hx);have c:((!(bF (eS n)))||(!decide (n∈(v.map λb:bO=>b.1))))=false:=by
  rw[nm,zz a];rfl
 have eb:iV v n=v.filter λx=>!decide (x.1=n):=by
  unfold iV;rw[c,zv (),eX]
 have U:DV (v.filter λx=>!decide (x.1=n)) R:=V.sub kl;have f:=V.ln;obtain⟨j,i,g⟩:=NH V;unfold zV sX;rw[eb,Yy V.nd n,zz rfl];refine⟨⟨⟨⟨⟨yp _,λ_=>by omega⟩,λh=>?_,λ_=>by omega⟩,U.d⟩,by omega,by omega,by omega⟩,rfl⟩;rw[c]at h;cases h
theorem No:∀a:O Int,a.length<=63->Wg a/\Wf a=true:=λa G=>by
 obtain⟨w,V,k,ek,hk⟩:=mw a G;unfold Wg Wf;dsimp only;generalize K:fB a=D at *
 obtain⟨⟨A,B⟩,v,at_⟩:=D;dsimp only at V ek hk ⊢;subst ek;have J:=V.ln;have p:=V.rl;rw[zt]at p;rw[OQ hk,zq hk];have m:∀r∈A,Rl r:=λr h=>(PL (V.lk r (QR _ h))).1;have l:∀r∈B,Rl r:=λr h=>(PL (V.lk r (ZN _ h))).1;have u:∀r∈A++B,Rl r:=λr h=>(PL (V.lk r h)).1;obtain⟨i1,i2⟩:=sf (Px V.nd () V.nm (λr h=>(PL (V.lk r h)).2) V.rl);obtain⟨s,I⟩:=rX V.nd () u (zl V.rl ());obtain⟨y,z,E⟩:=mS (rs:=A++B) ⟨V.lk,V.rl⟩;obtain⟨f1,f2⟩:=Wq (v:=v) V.nd () m l ();obtain⟨h1,h2⟩:=Wq (v:=v) V.nd () l m ();have H:((aB v (A++B)).1,(aB v (A++B)).2.1,(aB v (A++B)).2.2)=aB v (A++B):=rfl;rw[H]at i1 i2;have p1:(v.take k++v.drop k).Perm v:=by rw[ZU]
 have p2:(v.drop k++v.take k).Perm v:=dr.trans p1;obtain⟨o,x⟩:=Kh (step:=λ(b:Unit) (q3:O bO×O bO)=>((sW (A++B) (aB v (A++B)) b q3):wN (Unit) Bool)) (P:=λ(b:Unit) (q3:O bO×O bO)=>Z (Fz (A++B) (aB v (A++B)) b q3)) [(v.take k,v.drop k),(v.drop k,v.take k)] λq t=>by
  rcases ba.mp t with e|e
  ·rw[e];exact⟨(Z8 V p1).1,.inl (Z8 V p1).2⟩
  ·rw[ag.mp e];exact⟨(Z8 V p2).1,.inl (Z8 V p2).2⟩
 obtain⟨g,C⟩:=Kh (step:=λ(c:Unit) (f:AK)=>((sX v (A++B) (aB v (A++B)) c f):wN (Unit) Bool)) (P:=λ(c:Unit) (f:AK)=>Z (zV v (A++B) (aB v (A++B)) c f)) (v.map λF:bO=>F.1) λn j=>⟨(Md V j).1,.inl (Md V j).2⟩;have i:=V.d;rw[E,i2,I,zz rfl,f2,h2];refine⟨⟨w,vO (),i,⟨i1,λ_=>s⟩,λ_=>⟨x,?_⟩⟩,?_⟩
 ·rw[o];refine⟨⟨by omega,C⟩,?_⟩;rw[g];exact⟨⟨⟨y,z⟩,i⟩,λ_=>⟨f1,λ_=>h1⟩⟩
 ·rw[o];show(By (oY _ _ lm) _ _)=true;rw[g];rfl
theorem H1:∀a:O Int,a.length<=63->F_law [.z (.lst (a.map .int))]=Z (.z (.bl true)):=(NR No).1
theorem H2:∀a:O Int,a.length<=63->F_law [.l (a.map .int)]=Z (.z (.bl true)):=(NR No).2
end G11
end
open PySem PySem.W PyProof.Rows
namespace PySem.W.Fast
def tw16615618813818779117:=0
def tw3089627165432768613:=0
def tw931378742346413775:=0
def tw13897820841193834779:=0
def tw9368387165712614355:=0
def tw8319117398594807416:=0
def tw13522973891831732830:=0
def tw2151617652187290980:=0
def tw13598552622728391349:=0
def tw17051764836408423778:=0
def tw15145910601026215916:=0
def tw3477804874934124206:=0
def tw17071267123479405824:=0
def tw15236365917600326229:=0
def tw17554636645958068507:=0
def tw758689016361354002:=0
def tw9483728186364913155:=0
def tw14697093887993323700:=0
def tw4472942210231930703:=0
def tw10497306782077374493:=0
def tw258535849466388534:=0
def tw14154744366094029296:=0
def tw16318470930029409619:=0
def tw16378047880120001845:=0
def tw18241631133468024091:=0
def tw13412003957158901812:=0
def tw16316382401820393412:=0
def tw4631750178028749356:=0
def tw14372843593806320205:=0
def tw5716136428861654802:=0
def tw10049223348852890936:=0
def tw8013815139220607182:=0
def tw3467368162989966191:=0
def tw7869180046099388427:=0
def tw15780180007284132067:=0
def tw2252327810533466115:=0
def tw4545589408818588224:=0
def tw7923195925307440353:=0
def tw2241188610564673039:=0
def tw6602446168101316247:=0
def tw10843292432439738558:=0
def tw12041097938517131920:=0
def tw7721228746019345309:=0
def tw12546936835906328252:=0
def tw5329705669717766704:=0
def tw15328474806784068586:=0
def tw5088565657202657814:=0
def tw16385741157848819479:=0
def tw12594424605855364739:=0
def tw13618820980375169764:=0
def tw10766587041993143967:=0
def tw11235244823336190846:=0
def tw16640435767262683368:=0
def tw2416716044922320495:=0
def tw2599714825683727487:=0
def tw6376994440212947881:=0
def tw5880851515874114216:=0
def tw7992073558347765376:=0
def tw10890148770265691574:=0
def tw15130191220448682833:=0
def tw12371253714594477844:=0
def tw5868917148981381512:=0
def tw17696164340861463401:=0
def tw14452845684072581063:=0
def tw12649147531294348689:=0
def tw338815972760955153:=0
def tw16048283332190147177:=0
def tw12014942511169109810:=0
def tw17978137879940346003:=0
def tw15223541292950377771:=0
def tw9712213162160691286:=0
def tw18039860628352810984:=0
def tw1546626569438560871:=0
def tw16191505570052778811:=0
def tw6053816002832421887:=0
def tw17461154165134152840:=0
def tw2938050633803382421:=0
def tw16052030026549745815:=0
def tw13240868867445391821:=0
def tw9630690024235854998:=0
def tw17074246648679157422:=0
def tw4236512611469715902:=0
def tw17847758433498694575:=0
def tw8150289838874034854:=0
def tw1009456933700595819:=0
def tw6080987308576671669:=0
def tw8352756892299245065:=0
def tw12833073454498111593:=0
def tw2602648887383070074:=0
def tw8823930604546172914:=0
def tw7340377930154920745:=0
def tw2849987314865067155:=0
def tw4996107522693176998:=0
def tw947535124182452086:=0
def tw10137745027887327760:=0
def tw5872120455525949240:=0
def tw17182972795981103014:=0
def tw8805516158396602949:=0
def tw9029256302493112078:=0
def tw387657942196979013:=0
def tw12900506256133801389:=0
def tw5474805580055344651:=0
def tw1820418631208562489:=0
def tw1196459624465193997:=0
def tw2158124672436578881:=0
def tw1555026061574844132:=0
def tw12971528649721537516:=0
def tw2452774941729536757:=0
def tw5757230641775489960:=0
def tw8659739292255360379:=0
def tw2014676381864846639:=0
def tw8454389327417240417:=0
def tw17080554213272640656:=0
def tw7389410484618146064:=0
def tw2272529626202210525:=0
def tw4412726052938822880:=0
def tw90949558645416505:=0
def tw2707660944845574755:=0
def tw5050935635316341353:=0
def tw2880405352502524736:=0
def tw3836693410197238927:=0
def tw8557210200416974399:=0
def tw5245618311849518533:=0
def tw11252430782820125081:=0
def tw6245748662099043080:=0
def tw9891568992179129206:=0
def tw1364611656087889690:=0
def tw15415755228493637056:=0
def tw17399334463360496384:=0
def tw16794341893962862667:=0
def tw3318081335218386991:=0
def tw1883921399674432970:=0
def tw439741097600592615:=0
def tw2445438504722793838:=0
def tw15580849629798241635:=0
def tw6868402788499763200:=0
def tw17129432925588908113:=0
def tw8655209047488741816:=0
def tw12001095526155133332:=0
def tw17732244094200364730:=0
def tw15415932595108555406:=0
def tw3872498512998605262:=0
def tw17799645271198184196:=0
def tw1489315685221065209:=0
def tw2727946610192999587:=0
def tw12102468563090105374:=0
def tw97716837024139669:=0
def tw14827728117485637515:=0
def tw1215105359076127275:=0
def tw9243936817923612880:=0
def tw11674024061735868587:=0
def tw7506955719866225199:=0
def tw5320876503236621336:=0
def tw15064889480769640431:=0
def tw12139871597555238004:=0
def tw1398053916877452247:=0
def tw12282701936760422986:=0
def tw14594069720960106658:=0
def tw422500037654864049:=0
def tw6089730641895113099:=0
def tw18321755668353455074:=0
def tw15462737131422569576:=0
def tw4726285059665335221:=0
def tw13067780704290451698:=0
def tw11100242716514523593:=0
def tw18018101846500621496:=0
def tw13592679702547023624:=0
def tw18202535998315035994:=0
def tw15651957750378297641:=0
def tw3783559019903248922:=0
def tw6995994143812438682:=0
def tw12314831873487698869:=0
def tw921913210900119268:=0
def tw14357073990470032767:=0
def tw3938155344921036080:=0
def tw2937650821574350834:=0
def tw9737569739482634523:=0
def tw14573278828192770929:=0
def tw164030374409854222:=0
def tw4932099759310577834:=0
def tw13891480031824681288:=0
def tw2379438025193391017:=0
def tw18263644806073298319:=0
def tw5624150447709133947:=0
def tw12085896041266747698:=0
def tw17580215056990361458:=0
def tw6973394320768019169:=0
def tw9321926395300729579:=0
def tw12528040934475030519:=0
def tw15580437824127646795:=0
def tw1524358364916323649:=0
def tw1332032354463823779:=0
def tw8649496175206522778:=0
def tw13490896261363865417:=0
def tw10776889976387627680:=0
def tw2329711321636016363:=0
def tw13984358160333813238:=0
def tw13863925196748587375:=0
def tw9509476753747205935:=0
def tw17980442993432125937:=0
def tw7095573437788472605:=0
def tw11338809039942389377:=0
def tw4603902058707627641:=0
def tw5015958318920935585:=0
def tw7077520443342757599:=0
def tw17138073576654076287:=0
def tw8191588255703661148:=0
def tw9624768487461857220:=0
def tw7974392169168725556:=0
def tw3651046590651278763:=0
def tw2848971565706521212:=0
def tw13686843088875963914:=0
def tw13843371673322934203:=0
def tw10554446497377598727:=0
def tw2949987764555598936:=0
def tw274523124255503299:=0
def tw14176618457152533879:=0
def tw38943660167162607:=0
def tw16315067801524098093:=0
def tw6597777190395974652:=0
def tw13856964780545900093:=0
def tw9738211315973811993:=0
def tw16017447191214016125:=0
def tw7749293244765214018:=0
def tw16713242964203863293:=0
def tw11694655469099270517:=0
def tw14004125208514050044:=0
def tw7590833915258489180:=0
def tw13543742104953026236:=0
def tw9826768377739741618:=0
def tw3652148715274489462:=0
def tw2064514091373863092:=0
def tw1425668194862182174:=0
def tw17846194557556121994:=0
def tw75372321338882120:=0
def tw5497442516864194997:=0
def tw11598527168910497819:=0
def tw13074654514242849445:=0
def tw17831915805393502330:=0
def tw11117643262697029848:=0
def tw6715711234116086482:=0
def tw15895698787735889313:=0
def tw14604798810445246852:=0
def tw12256581436574523046:=0
def tw6965451753040311943:=0
def tw11037395356288583547:=0
def tw15471293029340741278:=0
def tw2245824736287740318:=0
def tw7620540333482934298:=0
def tw12417671000967292521:=0
def tw9265431865266051132:=0
def tw11436281913390802742:=0
def tw959303234182040219:=0
def tw17555431255165361460:=0
def tw2920908726968040816:=0
def tw3523733210439225836:=0
def tw2058203371288453506:=0
def tw4172725368646224992:=0
def tw12198250039554084444:=0
def tw12722380230388247029:=0
def tw10863527953812519832:=0
def tw12170887613216780783:=0
def tw1009397468991983772:=0
def tw2023084184889287868:=0
def tw7651312256120313347:=0
def tw2156544606363819904:=0
def tw8311705028917495428:=0
def tw7273222714107485034:=0
def tw3701060372918847803:=0
def tw8217735619896871497:=0
def tw13080242240656510001:=0
def tw15194323688355495815:=0
def tw17685263634538993139:=0
def tw16342744737454259425:=0
def tw6175490765588883256:=0
def tw4726501534373291764:=0
def tw5362956479125585902:=0
def tw16021603184163930132:=0
def tw17898415223518432115:=0
def tw15940252151176873109:=0
def tw3460611382545595734:=0
def tw11457058370009725857:=0
def tw10509524642294893989:=0
def tw751292404152422704:=0
def tw13210191215125986784:=0
def tw82153706764421128:=0
def tw18052681548024481599:=0
def tw15767129285024679286:=0
def tw210071006836670116:=0
def tw13034222705576584491:=0
def tw7876309569685116206:=0
def tw4115411790227938337:=0
def tw2889882752456355247:=0
def tw629961633691785824:=0
def tw16381759780849113112:=0
def tw9406122870043682086:=0
def tw14919720065900071478:=0
def tw3066080669453539116:=0
def tw2324744726968146199:=0
def tw3344196162517781320:=0
def tw7768158390015844505:=0
def tw17037695395316772422:=0
def tw6666510740890640469:=0
def tw475950375842524205:=0
def tw3414835395687896204:=0
def tw15825754939784681460:=0
def tw18255588263254622436:=0
def tw16905563106515610570:=0
def tw13831919530098536505:=0
def tw1079401065696411909:=0
def tw9102421191910104165:=0
def tw12176327484677146481:=0
end PySem.W.Fast
set_option maxRecDepth 100000 in
set_option maxHeartbeats 0 in
theorem PySem.Challenge.cw_onefolk_k11_whole_grounds_put_together_holds : PySem.Challenge.rw_onefolk_k11_whole_grounds_put_together.Holds := by
 w_on;refine PySem.W.holds_law (by decide +kernel) λsaid=>?_
 k_head;(case hw=>w_witness2)
 k_fill
 refine P1.GL (l:=PySem.Challenge.rw_onefolk_k11_whole_grounds_put_together) (T:=G11.T) (k:=7) (x := "_law_script") (st:=G11.s_law) (F_law:=G11.F_law) (λt=>t.x_law) ⟨rfl,by decide,by decide⟩ rfl (λw mg base t=>G11.F1 t) rfl rfl G11.H1 G11.H2 (λ_ _ _ _ _ _ _=>rfl) (λw h Y=>PySem.W.km_in_of Y) (λw h _ _ _ _ X T=>⟨_,P1.EE (by kernel_rfl) X T⟩) ?F
 case F=>
  intro w mg h KX G
  refine' ⟨P1.gD KX G _ _ _ _,P1.gD KX G _ _ _ _,P1.gD KX G _ _ _ _,P1.gD KX G _ _ _ _,P1.gD KX G _ _ _ _,P1.gD KX G _ _ _ _,P1.gD KX G _ _ _ _,P1.gD KX G _ _ _ _,P1.gD KX G _ _ _ _,P1.gD KX G _ _ _ _,P1.gD KX G _ _ _ _,P1.gD KX G _ _ _ _,P1.gD KX G _ _ _ _,P1.gD KX G _ _ _ _,P1.gD KX G _ _ _ _,P1.gD KX G _ _ _ _,P1.gD KX G _ _ _ _,P1.gD KX G _ _ _ _,P1.gD KX G _ _ _ _,P1.gD KX G _ _ _ _,P1.gD KX G _ _ _ _,P1.gD KX G _ _ _ _,P1.gD KX G _ _ _ _,P1.gD KX G _ _ _ _,P1.gD KX G _ _ _ _,P1.gD KX G _ _ _ _,P1.gD KX G _ _ _ _,P1.gD KX G _ _ _ _,P1.gD KX G _ _ _ _,P1.gD KX G _ _ _ _,P1.gD KX G _ _ _ _,P1.gD KX G _ _ _ _,P1.gD KX G _ _ _ _,P1.gD KX G _ _ _ _,P1.gD KX G _ _ _ _,P1.gD KX G _ _ _ _,P1.gD KX G _ _ _ _,P1.gD KX G _ _ _ _,P1.gD KX G _ _ _ _,P1.gD KX G _ _ _ _,P1.gD KX G _ _ _ _,P1.gD KX G _ _ _ _,P1.gD KX G _ _ _ _,P1.gD KX G _ _ _ _,P1.gD KX G _ _ _ _,qr KX G _,qr KX G _,qr KX G _,qr KX G _,qr KX G _,qr KX G _,qr KX G _,qr KX G _,qr KX G _,qr KX G _,qr KX G _,qr KX G _,qr KX G _,P1.Fk KX G _,P1.Fk KX G _,P1.Fk KX G _,P1.Fk KX G _,P1.Fk KX G _,P1.Fk KX G _,_⟩
  all_goals try (show _=_;k_is)
  all_goals try kernel_rfl
