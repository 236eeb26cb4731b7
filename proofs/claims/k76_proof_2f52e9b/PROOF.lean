import PyProof.Rows.All
import Wide.All
import OpenK.AllK
import Wide.FinOn
import Lean
import PySem.Challenge.RW_onefolk_k76_whole_rules_and_rules
open PySem.Heap renaming get?_push_of_some->ze,lt_size->zw,get?_push_size->zz,size_push->kq,get?_update_ne->ey,get?_push_ne->eM,size_update->fm
open List renaming length_map->zg,size_toArray->zk,mem_cons_of_mem->zo,mem_cons_self->zt,map_cons->zv,length_append->zC,getElem?_eq_getElem->Zs,append_assoc->ZE,getElem?_append_left->ZN,map_append->ZT,map_map->ZU,take_of_length_le->ZY,length_take->ZZ,length_cons->Z3,append_nil->qa,take_append_drop->qc,mem_append_right->qf,length_filter_le->qh,all_eq_true->qk,getElem?_map->qv,getElem_of_mem->Qb,getElem?_append_right->QA,filter_filter->QN,mergeSort_perm->QR,length_drop->QY,zip_cons_cons->Q1,map_nil->Q3,eq_nil_of_length_eq_zero->ja,flatMap_cons->jb,pairwise_mergeSort->jn,getElem?_replicate->js,find?_cons->jv,rel_of_pairwise_cons->JA,extract_eq_take_drop->JE,getElem_take->JO,getElem_drop->JP,take_succ_eq_append_getElem->JU,reverse_append->JY,getElem_map->ka,filter_cons->kb,any_eq_true->kc,foldl_cons->kg,lookup_cons_self->kl,filter_congr->kn,mem_map_of_mem->kG,filterMap_cons->kH,drop_eq_nil_of_le->kX,not_mem_nil->Ki,getElem_mem->Kj,getElem_inj->Kk,reverse_reverse->Kx,mem_of_getElem?->KA,of_mem_zip->KF,nil_append->KG,length_set->KI,filter_map->KL,map_congr_left->KP,lt_irrefl->KW,drop_eq_getElem_cons->yb,take_sublist->yi,reverse_perm->yk,reverse_cons->ym,getElem?_set->yn,mem_cons->yz,lookup_cons->y0,getElem?_cons_succ->y8,replicate->aa,getElem?_eq_some_iff->ae,mem_singleton->af,mem_map->ag,mem_append->ah,pairwise_append->ai,pairwise_cons->am,mem_iff_getElem->ap,range->av,mem_filter->ax,pairwise_map->ay,pairwise_iff_getElem->az,mem_range->aI,length_pos_iff->aT,filter_eq_self->ba,nodup_cons->bb,range_succ_eq_map->be,map->bg,getElem?_eq_none->bi,contains_iff_mem->bj,pairwise_reverse->bn,mem_of_mem_drop->br,eq_nil_iff_forall_not_mem->bu,take_append_of_le_length->bv,toList_toArray->bz,mem_filterMap->bX,zip_nil_right->ce,any_cons->cf,getD_eq_getElem?_getD->ci,flatten_cons->cr,getElem?_take_of_lt->cx,all_map->cE,mem_reverse->cS,map_id'->de,pairwise_singleton->df,filter_append_perm->di,length_nil->dk,getElem?_set_self->dm,length->dq,zipWith_map_right->dr,filter_eq_nil_iff->dt,length_singleton->du,perm_cons->dv,countP_mono_left->dy,take_take->dz,take_zero->dA,getElem?_zipWith->dC,perm_append_comm->dE,mem_append_left->dL,getElem?_set_ne->dP,mem_of_mem_take->dV,all_cons->eg,getElem?_range->ej,replicate_succ->eu,length_reverse->ew,filter_sublist->ez,any_map->eC,filter_append->eK,mapM_toArray->eP,drop_sublist->eR,zip_nil_left->eU,any_eq_false->eW,filter->e6,le_antisymm->e9,zipIdx_cons->fq,countP_cons->ft,map_fst_zip->fz,perm_middle->fA,map_zipWith->fE,cons_ne_nil->fF,getElem_zip->fJ,mem_flatMap->fN
open Nat renaming le_trans->zi,le_refl->zl,le_of_ble_eq_true->zD,ne_of_lt->z4,lt_of_lt_of_le->Zp,zero_le->qi,le_of_lt->qo,zero_add->kD,ne_of_gt->kF,lt_irrefl->kK,le_succ->Kt,succ_mul->KU,succ_le_succ->yY,le_of_eq->bo,min_eq_left->bq,mul_le_mul->bS,lt_of_le_of_lt->cb,lt_succ_of_lt->cm,lt_of_succ_lt->cq,lt_trans->cy,le_of_not_lt->cz,min_self->cI,add_zero->da,add_sub_cancel_left->dg,not_lt->dQ,mul_le_mul_right->ef,le_succ_of_le->eN
open Bool renaming false_eq_true->zS,and_eq_true->ZH,false_ne_true->ZO,not_eq_true'->qA,eq_iff_iff->jI,or_eq_true->JJ,and_comm->kL,and_true->Kn,false_and->bE,and_false->bI,not_false->bP,decide_and->dl,false_or->eh,true_and->ei
open Array renaming toList_append->Zl,length_toList->ZI,size_append->ko,toList_reverse->ku,toList_extract->ky,getElem_toList->kA,toList_push->kU,getElem?_toList->k9,append_assoc->ya,perm_iff_toList_perm->aw,toList_inj->cJ,toList_map->cK,mem_toList_iff->dS,toList->eA,forIn_toList->eJ,getElem_mem->eQ
open Int renaming toNat_natCast->JS,toNat_of_nonneg->KS,zero_add->dc,emod_lt_of_pos->eG,le_refl->eX
open Or renaming inr->ke,inl->Kb
open Prod renaming ext->yT
open Unit renaming unit->f8
local macro_rules|`(())=>`(by first|omega|decide)
open Option renaming isSome_iff_exists->aE,map_eq_some_iff->bc,map_some->bp,isSome_some->ca,isNone_iff_eq_none->cw,getD_some->db,getD_none->e8,bind_some->fg
open PySem.SetTable renaming leap->aS,bits->ck,runEnd->fR
open Option renaming some->Z,none->O
abbrev Y:=List
abbrev S:=Option
theorem Y3{α:Sort u}{a:α}:a=a:=rfl
open PySem renaming Value->A0,Addr->A1,Shared->A2,Program->A3,World->A4,Around->A5,Heap->A6,wpAny->A7,model->A8,starEach->A9,sizeLine->AA,Stmt->AB,Keyword->AC,backTo->AD,Obj->AE,codeAny->AF,compareOp->AG,bootBuiltins->AH,Paired->AI,Str->AJ
abbrev fT(x:AJ):=(x==("__debug__":AJ))=false
open PyProof.Rows renaming envOfC->AK,wpS_bind->AL,arrOf->AM
open PySem.W (methodObj keepIn cellsFrom_some fnOf codeIn nsIn mg_of kla_obj envX kla_fn)
set_option maxRecDepth 100000
set_option maxHeartbeats 4000000
set_option linter.all false
set_option Elab.async false
open PySem PySem.Spec PyProof.Rows
variable{w:A4}{i:Nat}{t:SortSt}{x:AJ}{a:A1}{prog:A3}{us:Y A0}{κ:Type}{h:A6}{items:Array A0}{u:A0}{P:A3}{α β:Type}{k:Nat}{e:Expr}{n:Nat}{mg:AJ->S A0}{base:A6}{l:A1}{env:Env}{m:Nat}{AN:Y (A1×AE)}{s:A2}{it:A1}{j:Nat}{M:Model}{A:A5}{hi:S Int}{D:A1}{es:Y Expr}{st:AB}{pos:Pos}{y:AJ}{c tg:Expr}{fp:Y A1}{tn:Nat->A6->Prop}{iter:Expr}{lo:S Int}{body:Y AB}{C:A1}{op:CmpOp}{AQ:Y A0}{name:AJ}{tpos:Pos}{fd:FuncData}{apos:Pos}{qual:AJ}{scope:Scope}{params:Arguments}{osl sl:Array (S A0)}{p2 cpos:Pos}{XP:(AJ->S A0)->A6->Prop}{YP:A4->A6->Prop}{cl:Y (AJ×A1)}{is:Y Nat}{ifs:Y Expr}{elt tgt:Expr}{el:A1->Env->Sem Unit}{B:A5->Bool->Prop}{out:Array Keyed}{RR:A0->A1->Result->A2->Prop}{rk:A0->Nat}{kd:SortKind}{z:Keyed}{U:Y Keyed}{elts:Y Expr}{x1:Nat}{γ δ τ:Type}{os:OsState}{bmB:Y A0}{newId initId:String}
abbrev Au:=Y PySem.Str
abbrev BF:=PySem.Value->PySem.Shared->Prop
abbrev B6:=PySem.W.Frag
abbrev BD:=Y Int
abbrev zb:=@wpAny_bind
abbrev zd:=@wpAny_pure
abbrev zh:=@if_pos
abbrev zr:=@if_neg
abbrev zI:=@decide_eq_false
abbrev z5:=@decide_eq_true
abbrev ZA:=@decide_eq_true_eq
abbrev qr:=@wpAny_newObj_type
abbrev qB:=@wpAny_mono
abbrev qS:=@PySem.W.mg_none_of
abbrev qV:=@if_false
abbrev Qr:=@decide_eq_false_iff_not
abbrev QE:=@wpAny_field
abbrev QI:=@wpAny_rule
abbrev QO:=@wpAny_callSpecial?_slot
abbrev QP:=@wpAny_truthy_bool
abbrev QQ:=@PySem.mem_of_lookup
abbrev QU:=@if_true
abbrev Q2:=@wpAny_typeOf
abbrev Q4:=@wpAny_holding
abbrev jS:=@Heap.SameBut.update
abbrev Jn:=@wpAny_call_entry
abbrev JI:=@Option.some.inj
abbrev ki:=@wpAny_standAt
abbrev km:=@of_decide_eq_true
abbrev kB:=@F.slot_tuple_iterator_next
abbrev kC:=@Ne.symm
abbrev kM:=@wpAny_setField_rec
abbrev kP:=@wpAny_Call_Name_kw
abbrev kQ:=@wpAny_getItem_str_slice
abbrev kR:=@List.Pairwise.imp
abbrev k8:=@F.slot_enumerate_next
abbrev KB:=@wpAny_passesOwn
abbrev KM:=@List.cons.injEq
abbrev KO:=@Array.Perm.refl
abbrev K0:=@List.Perm.refl
abbrev K2:=@wpAny_pyIter_tuple
abbrev ye:=@wpAny_pyIter_list
abbrev yf:=@wpAny_pyIter_enum
abbrev yo:=@wpAny_newList
abbrev yv:=@Prod.mk.injEq
abbrev yA:=@wpAny_comprehension_free
abbrev yB:=@PySem.F.args_tuple_add_2
abbrev y7:=@PySem.F.entry_tuple_add
variable{ps:Au}{K:B6}{N:Au}{E Q:BF}{ts:Au}
namespace L2
abbrev AY:=Sum Int AJ
def jW:AY->A0->Bool
 |.inl k,v=>Value.isInt k v
 |.inr x,v=>Value.isStrOf x v
def OT(w:A4):AY->Int
 |.inl k=>hashInt k
 |.inr x=>hashStr w x
theorem bT:∀{k:AY} {v:A0},jW k v=true->(∃i t,k=Sum.inl i/\v=Value.int i t)\/(∃x t,k=Sum.inr x/\v=Value.str x t)
 |.inl i,v,h=>by
  obtain⟨t,e⟩:=Value.isInt_shape (k:=i) (v:=v) h;exact .inl ⟨i,t,rfl,e⟩
 |.inr x,v,h=>by
  obtain⟨t,e⟩:=Value.isStrOf_shape (x:=x) (v:=v) h;exact .inr ⟨x,t,rfl,e⟩
theorem N5(i:Int)(t:Tok):jW (.inl i) (.int i t)=true:=by simp[jW,Value.isInt]
theorem N6(x:AJ)(t:Tok):jW (.inr x) (.str x t)=true:=by simp[jW,Value.isStrOf]
theorem Yx(a b:Int):decide ((Sum.inl a:AY)=Sum.inl b)=(a==b):=by
 by_cases e:a=b
 ·subst e;simp
 ·have h:¬ (Sum.inl a:AY)=Sum.inl b:=λq=>e (Sum.inl.inj q);rw[zI h];exact(beq_eq_false_iff_ne.mpr e).symm
theorem Yy(a b:AJ):decide ((Sum.inr a:AY)=Sum.inr b)=decide (a=b):=by
 by_cases e:a=b
 ·subst e;simp
 ·have h:¬ (Sum.inr a:AY)=Sum.inr b:=λq=>e (Sum.inr.inj q);rw[zI h,zI e]
theorem Yz(a:Int)(b:AJ):decide ((Sum.inl a:AY)=Sum.inr b)=false:=zI (λq=>nomatch q)
theorem YB(a:AJ)(b:Int):decide ((Sum.inr a:AY)=Sum.inl b)=false:=zI (λq=>nomatch q)
def d8(prog:A3)(w:A4):PySem.KeyKind prog w AY where
 is:=jW
 hash:=OT w
 inj:=λv a b f d=>by
  rcases bT f with⟨i,t,rfl,rfl⟩|⟨x,t,rfl,rfl⟩
  ·rcases bT d with⟨j,u,rfl,e⟩|⟨y,u,rfl,e⟩
   ·injection e with e1 _;rw[e1]
   ·exact nomatch e
  ·rcases bT d with⟨j,u,rfl,e⟩|⟨y,u,rfl,e⟩
   ·exact nomatch e
   ·injection e with e1 _;rw[e1]
 byValue:=λk v h=>by
  rcases bT h with⟨i,t,rfl,rfl⟩|⟨x,t,rfl,rfl⟩<;>rfl
 pyHash:=λc h=>by
  rcases bT c with⟨i,t,rfl,rfl⟩|⟨x,t,rfl,rfl⟩
  ·exact wpAny_pyHash_int h
  ·exact wpAny_pyHash_str h
 eqBool:=λg c h=>by
  rcases bT g with⟨i,t,rfl,rfl⟩|⟨x,t,rfl,rfl⟩
  ·rcases bT c with⟨j,u,rfl,rfl⟩|⟨y,u,rfl,rfl⟩
   ·rw[Yx]at h;exact wpAny_eqBool_int h
   ·rw[Yz]at h;exact SeqAt.EqAt.int_str i t y u _ _ _ _ h
  ·rcases bT c with⟨j,u,rfl,rfl⟩|⟨y,u,rfl,rfl⟩
   ·rw[YB]at h;exact SeqAt.EqAt.str_int x t j u _ _ _ _ h
   ·rw[Yy]at h;exact wpAny_eqBool_str h
 «strs»:=λk x t v h=>by
  rcases bT h with⟨i,u,rfl,e⟩|⟨y,u,rfl,e⟩
  ·exact nomatch e
  ·injection e with e1 _;subst e1;cases v<;>rfl
theorem G3(prog:A3)(w:A4)(i:Int)(t:Tok):(d8 prog w).is (.inl i) (.int i t)=true:=N5 i t
theorem G4(prog:A3)(w:A4)(x:AJ)(t:Tok):(d8 prog w).is (.inr x) (.str x t)=true:=N6 x t
end L2
namespace L2
inductive V where
 |non|bl (b:Bool)|int (i:Int)|str (x:Str)|byt (b:Array UInt8)|flt (b:UInt64)|ref (a:Addr)|ty (n:String)
 deriving DecidableEq
def At:V->A0->Prop
 |.non,u=>u=Value.none
 |.bl b,u=>u=Value.bool b
 |.int i,u=>∃t,u=Value.int i t
 |.str x,u=>∃t,u=Value.str x t
 |.byt b,u=>∃t,u=Value.bytes b t
 |.flt b,u=>∃t,u=Value.float b t
 |.ref a,u=>u=Value.ref a
 |.ty n,u=>u=Value.type n
abbrev AX:Y V->Y A0->Prop:=AI At
theorem AX.length{xs:Y V}{us:Y A0}(r:AX xs us):xs.length=us.length:=Paired.length r
theorem AX.get:∀{xs:Y V} {us:Y A0} {i:Nat} {x:V},AX xs us->xs[i]?=Z x->∃u,us[i]?=Z u/\At x u
 |_,_,_,_,.nil,e=>by simp at e
 |_,_,0,_,.cons r _,e=>by simp at e;subst e;exact⟨_,rfl,r⟩
 |_,_,i+1,x,.cons _ t,e=>by
  obtain⟨u,h1,h2⟩:=AX.get (i:=i) (x:=x) t (by simpa using e);exact⟨u,by simpa using h1,h2⟩
theorem AX.append:∀{xs ys:Y V} {us a:Y A0},AX xs us->AX ys a->AX (xs++ys) (us++a)
 |_,_,_,_,.nil,s=>s
 |_,_,_,_,.cons r t,s=>.cons r (AX.append t s)
theorem AX.take:∀{xs:Y V} {us:Y A0} (n:Nat),AX xs us->AX (xs.take n) (us.take n)
 |_,_,0,_=>.nil
 |_,_,_+1,.nil=>.nil
 |_,_,n+1,.cons r t=>.cons r (AX.take n t)
theorem AX.drop:∀{xs:Y V} {us:Y A0} (n:Nat),AX xs us->AX (xs.drop n) (us.drop n)
 |_,_,0,r=>r
 |_,_,_+1,.nil=>.nil
 |_,_,n+1,.cons _ t=>AX.drop n t
def G5:S V->S A0->Prop
 |some v,Z u=>At v u
 |none,O=>True
 |_,_=>False
def KV:Y (κ×V)->Y (κ×A0)->Prop:=AI λ(p:κ×V) (q:κ×A0)=>p.1=q.1/\At p.2 q.2
def kV:AY->V
 |.inl i=>.int i
 |.inr x=>.str x
inductive HO where
 |lst (xs:List V)
 |tup (xs:List V)
 |dK (AO:List (AY×V))|dT (AO:List (List AY×V))
 |set (S:Int->Bool) (n:Nat)
 |ins (C dx:Addr) (fs:List (Str×V))
 |own (x:Addr)
 |xd (fs:List (Str×V))
 |met (f x:Addr)
 |rng (lo hi:Int)
 |j7 (o:Obj) (u:HO)
 |DX (ps:Array Value)
 |ext (φ:Heap->Prop)
abbrev Hp:=A1->S HO
def B7(H:Hp)(a:A1)(o:HO):Hp:=λb=>if b=a then Z o else H b
theorem bh{H:Hp}{o:HO}:B7 H a o a=Z o:=by unfold B7;rw[zh rfl]
theorem aO{H:Hp}{b:A1}{o:HO}(h:b≠a):B7 H a o b=H b:=by unfold B7;rw[zr h]
def gR(h:A6)(a:A1)(items:Array A0):Prop:=∃o,h.get? a=Z o/\o.cls=.type "tuple" ∧ (∃n,o.data=.seq items n)/\o.dict=O
theorem gR.weak(x:gR h a items):IsTup h a items:=let ⟨o,e,c,d,_⟩:=x;⟨o,e,c,d⟩
theorem gR.new(h:A6)(items:Array A0):gR (h.push { cls:=.type "tuple",data:=.seq items }) h.objs.size items:=⟨_,zz _ rfl,rfl,⟨_,rfl⟩,rfl⟩
theorem xg{H:Hp}{b:A1}{o u:HO}(h:H a=Z o)(h':H b=Z u)(d:o≠u):a≠b:=by
 intro e;subst e;rw[h]at h';exact d (JI h')
theorem bW{H:Hp}{b:A1}{o:HO}(h:H a=Z o)(h':H b=O):a≠b:=by
 intro e;subst e;rw[h]at h';cases h'
def tq(ps:Array A0):AJ:=match ps[0]? with
 |some (Value.str q _)=>q
 |_ => ""
def tr(ps:Array A0):Array A0:=ps.extract 1 ps.size
def Ql:Au:=["most_word","longest_word","ground_of","least_for","nearest_pair"]
def YC(K:B6)(P:A1)(q:AJ):Prop:=∃c o vs x t,K.lookup c=Z o/\o.data=.fields vs/\vs[1]?=Z (.str x t)/\x∈Ql/\vs[11]?=Z (.ref P)/\q=x++(".<locals>.<lambda>":AJ)
def Op(o:AE):Bool:=match o.data with
 |.fields vs=>match vs[1]? with
  |some (Value.str x _)=>!Ql.contains x
  |_=>true
 |_=>true
def Be(K:B6)(H:Hp):Prop:=∀P q,YC K P q->∃ps,H P=Z (.DX ps)/\tq ps=q/\0<ps.size
theorem Be.go{H H':Hp}(x:Be K H)(u:∀b ps,H b=Z (.DX ps)->∃a,H' b=Z (.DX (ps++a))):Be K H':=λP q k=>by
 obtain⟨ps,e,h,z⟩:=x P q k;obtain⟨a,e'⟩:=u P ps e;refine⟨_,e',?_,by rw[ko];omega⟩;rw[<-h];unfold tq;rw[Array.getElem?_append_left z]
section
variable(P:A3)(w:A4)
def gq(H:Hp)(h:A6)(a:A1):HO->Prop
 |.lst xs=>xs.length<=AA/\∃(AQ:Y A0) (n:Nat),AX xs AQ/\h.get? a=Z { cls:=.type "list",data:=.seq AQ.toArray n }
 |.tup xs=>xs.length<=AA/\∃AQ:Y A0,AX xs AQ/\gR h a AQ.toArray
 |.dK AO=>AO.length<=AA/\(a==sysModules)=false/\∃vs,KV AO vs/\h.DictOf (d8 P w) a vs
 |.dT AO=>AO.length<=AA/\(a==sysModules)=false/\∃xs:Y (Y AY×A1×A0),
   AI (λ(p:Y AY×V) (q:Y AY×A1×A0)=>p.1=q.1/\H q.2.1=Z (.tup (p.1.map kV))/\At p.2 q.2.2) AO xs ∧
   ∃o es ep,h.get? a=Z o/\o.ExactDict/\o.data=.dict es ep/\es.toList=xs.map (entryOfKey (tupleKind (d8 P w)))/\(xs.map (·.1)).Nodup
 |.set S n=>h.SetOf (intKind P w) a S n
 |.ins C dx fs=>H dx=Z (.own a)/\fs.length<=1000/\dx≠a/\h.get? a=Z (PySem.W.instObj C dx) ∧
   ∃mA,h.Ns1 dx mA/\(∀f,G5 (fs.lookup f) (mA f))/\PySem.Within mA (fs.map (·.1))
 |.own _=>∃o,h.get? a=Z o
 |.xd fs=>∃mA,h.Ns1 a mA/\∀f,G5 (fs.lookup f) (mA f)
 |.rng lo hi=>∃t u v,h.get? a=Z { cls:=.type "range",data:=.fields #[.int lo t,.int hi u,.int 1 v] }
 |.j7 o u=>h.get? a=Z o/\gq H h a u
 |.DX ps=>∃d,h.get? a=Z { cls:=.none,data:=.fields (tr ps++d) }/\TriplesOk (tr ps++d).toList ∧
   ∀pos e,codeAmong pos (tr ps++d).toList=Z e->∃c g vs t,e=.ref c/\H c=Z (.j7 g (.ext λ_=>True))/\g.data=.fields vs/\vs[1]?=Z (.str (tq ps) t)
 |.met f x=>h.get? a=Z (methodObj (.ref f) (.ref x))
 |.ext b=>b h/\(∃o,h.get? a=Z o)/\∀h1 h2:A6,b h1->(∀o,h1.get? a=Z o->h2.get? a=Z o)->b h2
def vR(H:Hp)(h:A6):Prop:=∀a o,H a=Z o->gq P w H h a o
end
section
variable{H H':Hp}{h':A6}{o:HO}
theorem gq.lt(x:gq P w H h a o):a<h.objs.size:=by
 cases o with
 |lst xs=>obtain⟨_,_,_,_,e⟩:=x;exact zw e
 |tup xs=>obtain⟨_,_,_,p⟩:=x;exact p.weak.lt
 |dK AO=>obtain⟨_,_,_,_,o,_,_,e,_⟩:=x;exact zw e
 |dT AO=>obtain⟨_,_,_,_,o,_,_,e,_⟩:=x;exact zw e
 |set S n=>obtain⟨o,_,_,_,e,_⟩:=x;exact zw e
 |ins C dx fs=>obtain⟨_,_,_,e,_⟩:=x;exact zw e
 |own y=>obtain⟨_,e⟩:=x;exact zw e
 |xd fs=>obtain⟨_,⟨_,_,_,e,_⟩,_⟩:=x;exact zw e
 |rng lo hi=>obtain⟨_,_,_,e⟩:=x;exact zw e
 |j7 b u=>obtain⟨e,_⟩:=x;exact zw e
 |DX ps=>obtain⟨_,e,_⟩:=x;exact zw e
 |met f y=>exact zw (show h.get? a=Z _ from x)
 |ext c=>obtain⟨_,⟨_,e⟩,_⟩:=x;exact zw e
theorem Paired.YD{α β:Type}{F G:α->β->Prop}:∀{d:Y α} {c:Y β},AI F d c->(∀a b,F a b->G a b)->AI G d c
 |_,_,.nil,_=>.nil
 |_,_,.cons r t,f=>.cons (f _ _ r) (Paired.YD t f)
theorem Paired.imp'{F G:α->β->Prop}(f:∀a b,F a b->G a b){d:Y α}{c:Y β}(r:AI F d c):AI G d c:=Paired.YD r f
theorem gq.stay(x:gq P w H h a o)(k:∀b u,(b=a\/H b=Z (.own a))->h.get? b=Z u->h'.get? b=Z u)
  (E:∀b,H b=Z (.own a)->H' b=Z (.own a)) (I:∀b xs,H b=Z (.tup xs)->H' b=Z (.tup xs)) (A:∀b o l,H b=Z (.j7 o (.ext l))->H' b=Z (.j7 o (.ext l))):gq P w H' h' a o:=by
 induction o with
 |lst xs=>obtain⟨z,AQ,n,r,e⟩:=x;exact⟨z,AQ,n,r,k _ _ (.inl Y3) e⟩
 |tup xs=>obtain⟨z,AQ,r,i,e,c⟩:=x;exact⟨z,AQ,r,i,k _ _ (.inl Y3) e,c⟩
 |dK AO=>obtain⟨z,y,vs,r,i,es,ep,e,c⟩:=x;exact⟨z,y,vs,r,i,es,ep,k _ _ (.inl Y3) e,c⟩
 |dT AO=>
  obtain⟨z,y,xs,r,i,es,ep,e,c⟩:=x;exact⟨z,y,xs,Paired.YD r λp q z=>⟨z.1,I _ _ z.2.1,z.2.2⟩,i,es,ep,k _ _ (.inl Y3) e,c⟩
 |set S n=>obtain⟨i,es,ep,t,e,c⟩:=x;exact⟨i,es,ep,t,k _ _ (.inl Y3) e,c⟩
 |ins C dx fs=>
  obtain⟨d,z,J,e,mA,⟨j,es,ep,e2,c⟩,r⟩:=x;exact⟨E _ d,z,J,k _ _ (.inl Y3) e,mA,⟨j,es,ep,k _ _ (.inr d) e2,c⟩,r⟩
 |own y=>obtain⟨i,e⟩:=x;exact⟨i,k _ _ (.inl Y3) e⟩
 |xd fs=>obtain⟨mA,⟨j,es,ep,e,c⟩,r⟩:=x;exact⟨mA,⟨j,es,ep,k _ _ (.inl Y3) e,c⟩,r⟩
 |rng lo hi=>obtain⟨t,u,v,e⟩:=x;exact⟨t,u,v,k _ _ (.inl Y3) e⟩
 |j7 i u s=>obtain⟨e,q⟩:=x;exact⟨k _ _ (.inl Y3) e,s q⟩
 |DX ps=>
  obtain⟨F,e,B,D⟩:=x;refine⟨F,k a _ (.inl Y3) e,B,λpos G z=>?_⟩;obtain⟨c,m,vs,t,rfl,g,d,v⟩:=D pos G z;exact⟨c,m,vs,t,rfl,A c m _ g,d,v⟩
 |met f y=>
  have e:h.get? a=Z (methodObj (.ref f) (.ref y)):=x;show h'.get? a=Z (methodObj (.ref f) (.ref y));exact k a _ (.inl Y3) e
 |ext l=>obtain⟨p,⟨o,e⟩,st⟩:=x;exact⟨st _ _ p λo q=>k _ _ (.inl Y3) q,⟨o,k _ _ (.inl Y3) e⟩,st⟩
theorem vR.lt(x:vR P w H h)(e:H a=Z o):a<h.objs.size:=(x a o e).lt
theorem vR.fresh(x:vR P w H h)(e:h.objs.size<=a):H a=O:=by
 cases q:H a with
 |none=>rfl
 |some u=>exact absurd (Zp (x.lt q) e) (kK _)
theorem vR.kept(x:vR P w H h)(k:∀b u,h.get? b=Z u->h'.get? b=Z u):vR P w H h':=λa o e=>
 (x a o e).stay (λb u _ q=>k b u q) (λ_ q=>q) (λ_ _ q=>q) λ_ _ _ q=>q
theorem vR.laid(x:vR P w H h)(k:∀b u,h.get? b=Z u->h'.get? b=Z u)(hp:h.objs.size<=a)(new:gq P w (B7 H a o) h' a o):vR P w (B7 H a o) h':=λb u e=>by
 have d:=x.fresh hp;by_cases f:b=a
 ·subst f;rw[bh]at e;cases e;exact new
 ·rw[aO f]at e;exact(x b u e).stay (λc v _ q=>k c v q) (λc q=>by rw[aO (bW q d)];exact q) (λc xs q=>by rw[aO (bW q d)];exact q) λc o' g q=>by rw[aO (bW q d)];exact q
end
def Rd(H:Hp)(a:A1)(u:HO):Prop:=H a=Z u\/∃o,H a=Z (.j7 o u)
theorem Rd.ok{H:Hp}{u:HO}(r:Rd H a u)(x:vR P w H h):gq P w H h a u:=by
 rcases r with r|⟨o,r⟩
 ·exact x a u r
 ·obtain⟨_,q⟩:=x a _ r;exact q
def EN:S HO->Prop
 |some (.lst _)=>True
 |some (.dK _)=>True
 |some (.dT _)=>True
 |some (.set _ _)=>True
 |some (.ins _ _ _)=>True
 |some (.ext _)=>True
 |_=>False
section
variable{H:Hp}{h':A6}{x e:A1}{o':HO}
theorem vR.write(ok:vR P w H h)(a:EN (H x))(l:e=x\/H e=Z (.own x))(k:∀b u,b≠e->h.get? b=Z u->h'.get? b=Z u)(p:∃u,h'.get? e=Z u)
  (new:gq P w (B7 H x o') h' x o'):vR P w (B7 H x o') h':=λb u q=>by
 have m:∀c y,H c=Z (.own y)->c≠x:=λc y r z=>by subst z;rw[r]at a;exact a
 have n:∀c xs,H c=Z (.tup xs)->c≠x:=λc xs r z=>by subst z;rw[r]at a;exact a
 have s:∀c o' i,H c=Z (.j7 o' i)->c≠x:=λc o' i r z=>by subst z;rw[r]at a;exact a
 by_cases d:b=x
 ·subst d;rw[bh]at q;cases q;exact new
 ·rw[aO d]at q;by_cases g:b=e
  ·have j:H b=Z (.own x):=by
    rcases l with z|z
    ·exact absurd (g.trans z) d
    ·rw[g];exact z
   rw[q]at j;cases j;obtain⟨v,o⟩:=p;exact⟨v,by rw[g];exact o⟩
  ·refine(ok b u q).stay (λc v f r=>k c v ?_ r) (λc r=>by rw[aO (m c b r)];exact r) (λc xs r=>by rw[aO (n c xs r)];exact r) λc o' i r=>by rw[aO (s c o' _ r)];exact r
   rcases f with rfl|f
   ·exact g
   ·rintro rfl;rcases l with z|z
    ·exact m c b f z
    ·rw[f]at z;cases z;exact d rfl
end
structure Un (fs ex:List Addr) (H H':Hp) (h h':Heap):Prop where
 keep:∀b o,h.get? b=some o->H b=none->b∉fs->b∉ex->h'.get? b=some o
 slot:∀b o,h.get? b=some o->H b=none->b∈fs->b∉ex->∃sl,h'.get? b=some { o with slots:=sl }
 free:∀b o,h.get? b=some o->H b=none->b∉ex->H' b=none
 there:∀b o,h.get? b=some o->b∉ex->∃o',h'.get? b=some o'
 tups:∀b xs,H b=some (.tup xs)->H' b=some (.tup xs)
 yh:∀b o u,H b=some (.j7 o u)->H' b=some (.j7 o u)
 sV:∀b ps,H b=some (.DX ps)->∃more,H' b=some (.DX (ps++more))
section
variable{fs fs' ex ex':Y A1}{H H1 H2:Hp}{h1 h2 h':A6}{x e:A1}{o:HO}
theorem Un.any(u:Un fs ex H H1 h h1){b:A1}{a:AE}(q:h.get? b=Z a)(n:H b=O)(hx:b∉ex):∃sl,h1.get? b=Z { a with slots:=sl }:=by
 by_cases c:b∈fs
 ·exact u.slot b a q n c hx
 ·exact⟨a.slots,u.keep b a q n c hx⟩
theorem Un.kept(k:∀b u,h.get? b=Z u->h'.get? b=Z u):Un fs ex H H h h':=
 ⟨λb a q _ _ _=>k b a q,λb a q _ _ _=>⟨a.slots,k b a q⟩,λ_ _ _ n _=>n,λb a q _=>⟨a,k b a q⟩,λ_ _ q=>q,λ_ _ _ q=>q,λ_ ps q=>⟨#[],by rw[q];simp⟩⟩
theorem Un.refl:Un fs ex H H h h:=Un.kept λ_ _ q=>q
theorem Un.laid(k:∀b u,h.get? b=Z u->h'.get? b=Z u)(hp:h.objs.size<=a)(c:H a=O):Un fs ex H (B7 H a o) h h' where
 keep:=λb u q _ _ _=>k b u q
 slot:=λb u q _ _ _=>⟨u.slots,k b u q⟩
 free:=λb u q n _=>by rw[aO (z4 (Zp (zw q) hp))];exact n
 there:=λb u q _=>⟨u,k b u q⟩
 tups:=λb xs q=>by rw[aO (bW q c)];exact q
 yh:=λb u xs q=>by rw[aO (bW q c)];exact q
 sV:=λb ps q=>⟨#[],by rw[aO (bW q c),q];simp⟩
theorem Un.write(a:EN (H x))(i:e=x\/H e=Z (.own x))(k:∀b u,b≠e->h.get? b=Z u->h'.get? b=Z u)(g:∃u,h'.get? e=Z u):Un fs ex H (B7 H x o) h h':=by
 have hx:∀b,H b=O->b≠x:=λb n z=>by subst z;rw[n]at a;exact a
 have d:∀b,H b=O->b≠e:=λb n z=>by
  subst z;rcases i with r|r
  ·exact hx b n r
  ·rw[n]at r;cases r
 have c:∀b u,H b=Z u->¬ EN (Z u)->b≠x:=λb u q nm z=>by subst z;rw[q]at a;exact nm a
 refine⟨λb u q n _ _=>k b u (d b n) q,λb u q n _ _=>⟨u.slots,k b u (d b n) q⟩,λb u q n _=>by rw[aO (hx b n)];exact n,λb u q _=>?_,
  λb xs q=>by rw[aO (c b _ q λz=>z)];exact q,λb u xs q=>by rw[aO (c b _ q λz=>z)];exact q,λb ps q=>⟨#[],by rw[aO (c b _ q λz=>z),q];simp⟩⟩
 by_cases f:b=e
 ·subst f;exact g
 ·exact⟨u,k b u f q⟩
end
def EM(h:A6)(H:Hp):Y A1:=(av h.objs.size).filter λa=>(H a).isSome
def DY(h:A6)(H:Hp):A6:=PySem.W.hideAll h (EM h H)
theorem N7(h:A6)(H:Hp):(DY h H).objs.size=h.objs.size:=PySem.W.hideAll_size _ _
theorem Qm{H:Hp}{b:A1}{o:AE}(e:h.get? b=Z o)(n:H b=O):(DY h H).get? b=Z o:=
 PySem.W.hideAll_get _ e λa=>by
  have q:(H b).isSome=true:=(ax.mp a).2;rw[n]at q;simp at q
theorem UL{H:Hp}{b:A1}{o:AE}(e:(DY h H).get? b=Z o):h.get? b=Z o/\H b=O:=by
 have e':h.get? b=Z o:=PySem.W.of_hideAll (EM h H) e;refine⟨e',?_⟩;cases q:H b with
 |none=>rfl
 |some x=>
  have a:b∈EM h H:=ax.mpr ⟨aI.mpr (zw e'),by simp[q]⟩;have z:(DY h H).get? b=O:=PySem.W.hideAll_none (EM h H) a;rw[z]at e;cases e
def UW(g h:A6)(L:A1):Y (A1×AE):=(av h.objs.size).filterMap λa=>if a=L\/(g.get? a).isSome=true then O else(h.get? a).map λo=>(a,o)
def AS(g h:A6)(L d:A1):Y (A1×AE):=(UW g h L).filter λp=>decide (p.1≠d)
end L2
namespace L2
structure Mod (K:B6) (mg:Str->Option Value) (base:Heap):Prop where
 kin:K.In base
 glob:base.Ns mainGlobals mg
 blt:∃mb,base.Ns builtinsNs mb/\∀x:Str,x ≠ "__name__" → mb x=bootBuiltins x
 nolimit:base.NoLimit
 bmain:∃bm ob,mg "__builtins__"=some (.ref bm)/\bm≠builtinsNs/\base.get? bm=some ob/\ob.cls=.type "module" ∧ ob.dict=some builtinsNs/\ob.data=.plain
structure Cx where
 prog:Program
 w:World
 K:B6
 mg:Str->Option Value
 base:Heap
 A:Around
 N:Au
 s₀:Shared
 H₀:Hp
 env:Env
 outer:List Env
 stack:List Env
 ex:List Addr
 fn:Str->Bool
 calm:Bool
 pn:List (Addr×Obj)
 xe:BF
abbrev f6(X:Cx):=A8 X.prog X.w
def CI(l:Y Env):Y A1:=l.filterMap (·.frame)
abbrev Cx.fs(X:Cx):Y A1:=CI X.outer
def Uv(a:Scope)(x:AJ):Prop:=a.names.lookup x=Z .local\/a.names.lookup x=Z .cell\/a.names.lookup x=Z .free
def D8(a:Scope)(x:AJ):Prop:=a.names.lookup x=Z .local\/a.names.lookup x=Z .cell
def F7(env:Env)(h:A6)(m:AJ->S A0)(x:AJ)(u:A0):Prop:=
 (env.kindOf x=Z .local/\m x=Z u)\/((env.kindOf x=Z .cell\/env.kindOf x=Z .free)/\∃c,env.cells.lookup x=Z c/\h.IsCell c (Z u))
structure Cx.Ok (X:Cx):Prop where
 mod:Mod X.K X.mg X.base
 kind:X.env.scope.kind=.function
 glob:X.env.globals=mainGlobals
 blt:X.env.builtins=builtinsNs
 above:X.s₀.heap.objs.size<=X.env.locals
 inj:∀x y c,X.env.cells.lookup x=some c->X.env.cells.lookup y=some c->x=y
 has:∀x,(X.env.kindOf x=some .cell\/X.env.kindOf x=some .free)->∃c,X.env.cells.lookup x=some c
 cab:∀x c,X.fn x=true->X.env.cells.lookup x=some c->X.s₀.heap.objs.size<=c
 hd:X.calm=true->X.A.handled=none
 frames:X.A.frames=some X.stack
 stk:X.stack=X.outer\/(X.stack=X.env::X.outer/\X.env.frame=some X.env.locals)
 exf:∀b∈X.ex,b≠X.env.locals/\∀x c,X.env.cells.lookup x=some c->c≠b
 bs:∀b o,X.base.get? b=some o->X.s₀.heap.get? b=some o/\X.H₀ b=none
 Uw:X.base.objs.size<=X.s₀.heap.objs.size
 Qn:∀b o,X.base.get? b=some o->b∉X.ex
 U0:∀b∈X.ex,b∉X.fs
 yj:X.s₀.heap.FunFrames X.base X.outer
 YF:∀b∈X.fs,X.H₀ b=none
 tabs:Be X.K X.H₀
structure AU (X:Cx) (AN:List (Addr×Obj)) (σ:List (Option V)) (H:Hp) (s:Shared):Prop where
 ok:X.Ok
 os:s.os=X.s₀.os
 bare:AllBare s.gens
 base:Un X.fs X.ex X.H₀ H X.s₀.heap s.heap
 loc:∃m,s.heap.Ns X.env.locals m/\∀(i:Nat) (x:Str) (v:V),X.N[i]?=some x->σ[i]?=some (some v)->Uv X.env.scope x->∃u,At v u/\F7 X.env s.heap m x u
 cell:∀x c,X.env.cells.lookup x=some c->∃v,s.heap.IsCell c v
 free:H X.env.locals=none
 mD:∀x c,X.env.cells.lookup x=some c->H c=none
 pin:∀p∈X.pn++AN,s.heap.get? p.1=some p.2/\H p.1=none/\p.1≠X.env.locals/\p.1∉X.fs/\∀v,p.2.data≠.cell v
 hok:vR X.prog X.w H s.heap
 len:σ.length=X.N.length
section
variable{X:Cx}{σ:Y (S V)}{H H':Hp}{h':A6}
theorem Cx.Ok.aer(ok:X.Ok){b:A1}{o:AE}(e:X.base.get? b=Z o):b∉X.fs:=λa=>by
 have:=(ok.yj.mem a).1;rw[e]at this;cases this
theorem AU.bs(I:AU X AN σ H s):∀b o,X.base.get? b=Z o->s.heap.get? b=Z o/\H b=O:=λb o e=>
 ⟨I.base.keep b o (I.ok.bs b o e).1 (I.ok.bs b o e).2 (I.ok.aer e) (I.ok.Qn b o e),I.base.free b o (I.ok.bs b o e).1 (I.ok.bs b o e).2 (I.ok.Qn b o e)⟩
theorem AU.bk(I:AU X AN σ H s):∀b o,X.base.get? b=Z o->s.heap.get? b=Z o:=λb o e=>(I.bs b o e).1
theorem AU.mod(I:AU X AN σ H s):Mod X.K X.mg X.base:=I.ok.mod
theorem AU.U4(I:AU X AN σ H s):X.K.In s.heap:=I.ok.mod.kin.keeps I.bk
theorem AU.nolimit(I:AU X AN σ H s):s.heap.NoLimit:=I.ok.mod.nolimit.keeps I.bk
theorem AU.lt(I:AU X AN σ H s):X.env.locals<s.heap.objs.size:=let ⟨_,hn,_⟩:=I.loc;hn.lt
theorem AU.sz(I:AU X AN σ H s):X.s₀.heap.objs.size<=s.heap.objs.size:=zi I.ok.above (qo I.lt)
theorem AU.aes(I:AU X AN σ H s)(h:s.heap.objs.size<=a):a∉X.fs:=λc=>by
 obtain⟨_,o,b,_⟩:=I.ok.yj.mem c;exact absurd (Zp (zw b) (zi I.sz h)) (kK _)
theorem AU.YG(I:AU X AN σ H s):∀x c,X.env.cells.lookup x=Z c->c≠X.env.locals:=λx c e z=>by
 obtain⟨v,o,a,hd⟩:=I.cell x c e;obtain⟨m,⟨o',es,ep,d,b,_⟩,_⟩:=I.loc;rw[z,d]at a;cases a;rw[b]at hd;cases hd
theorem AU.yj(I:AU X AN σ H s):s.heap.FunFrames X.base X.outer:=by
 have all:∀(l:Y Env),(∀b∈CI l,b∈X.fs)->X.s₀.heap.FunFrames X.base l->s.heap.FunFrames X.base l:=by
  intro l
  induction l with
  |nil=>intro _ _;trivial
  |cons env r g=>
   intro f i;obtain⟨hk,⟨L,o,c,h,j,hd⟩,k⟩:=i;have d:L∈X.fs:=f L (by unfold CI;rw[kH,c];exact zt);obtain⟨sl,e⟩:=I.base.slot L o j (I.ok.YF L d) d λz=>I.ok.U0 L z d;exact⟨hk,⟨L,_,c,h,e,hd⟩,g (λb a=>f b (by unfold CI;rw[kH,c];exact zo _ a)) k⟩
 exact all X.outer (λ_ a=>a) I.ok.yj
theorem AU.stack(I:AU X AN σ H s):s.heap.FunFrames X.base X.stack:=by
 rcases I.ok.stk with e|⟨e,b⟩
 ·rw[e];exact I.yj
 ·rw[e];obtain⟨m,a,_⟩:=I.loc;refine .cons (by rw[I.ok.kind];decide) b a ?_ I.yj;exact Heap.get?_none_of_le (zi I.ok.Uw I.ok.above)
theorem AU.Ea(I:AU X AN σ H s):∀b∈CI X.stack,b∈X.env.locals::X.fs:=λb a=>by
 rcases I.ok.stk with e|⟨e,c⟩
 ·rw[e]at a;exact zo _ a
 ·rw[e]at a;unfold CI at a;rw[kH,c]at a;exact a
theorem AU.Eb(I:AU X AN σ H s):∀b∈CI X.stack,H b=O:=λb a=>by
 rcases List.mem_cons.mp (I.Ea b a)with e|a
 ·rw[e];exact I.free
 ·obtain⟨_,o,c,_⟩:=I.ok.yj.mem a;exact I.base.free b o c (I.ok.YF b a) λz=>I.ok.U0 b z a
theorem AU.step{g':Array GenState}{t':Nat}{d':Drawn}{ch:Y A1}(I:AU X AN σ H s)
  (g:∀b∈ch,(b∈X.ex\/X.s₀.heap.objs.size<=b)/\b≠X.env.locals/\(∀x c,X.env.cells.lookup x=Z c->c≠b)/\∀p∈X.pn++AN,p.1≠b)
  (keep:∀b o,b≠X.env.locals->b∉X.fs->b∉ch->s.heap.get? b=Z o->H b=O->h'.get? b=Z o)
  (D:∀b o,b≠X.env.locals->b∈X.fs->b∉ch->s.heap.get? b=Z o->H b=O->∃sl,h'.get? b=Z { o with slots:=sl }) (free:∀b o,b∉ch->s.heap.get? b=Z o->H b=O->H' b=O)
  (N:∀b o,b∉ch->s.heap.get? b=Z o->∃o',h'.get? b=Z o')
  (W:∀b xs,H b=Z (.tup xs)->H' b=Z (.tup xs)) (Q:∀b o u,H b=Z (.j7 o u)->H' b=Z (.j7 o u)) (F:∀b ps,H b=Z (.DX ps)->∃U,H' b=Z (.DX (ps++U)))
  (J:∀m,s.heap.Ns X.env.locals m->h'.Ns X.env.locals m) (E:vR X.prog X.w H' h') (L:AllBare g'):
  AU X AN σ H' { s with heap:=h',gens:=g',drawn:=d',toks:=t' }:=by
 have A:∀b o,X.s₀.heap.get? b=Z o->b≠X.env.locals:=λb o e=>z4 (Zp (zw e) I.ok.above);have j:∀b o,X.s₀.heap.get? b=Z o->b∉X.ex->b∉ch:=λb o e hx a=>by
  rcases(g b a).1 with z|z
  ·exact hx z
  ·exact absurd (Zp (zw e) z) (kK _)
 have C:∀x c,X.env.cells.lookup x=Z c->∀v,s.heap.IsCell c v->h'.IsCell c v:=λx c e v ⟨o,f,hd⟩=>by
  have h:c∉ch:=λz=>(g c z).2.2.1 x c e rfl;by_cases t:c∈X.fs
  ·obtain⟨sl,q⟩:=D c o (I.YG x c e) t h f (I.mD x c e);exact⟨_,q,hd⟩
  ·exact⟨o,keep c o (I.YG x c e) t h f (I.mD x c e),hd⟩
 refine⟨I.ok,I.os,L,⟨λb o e n a hx=>?_,λb o e n a hx=>?_,λb o e n hx=>?_,λb o e hx=>?_,λb xs e=>W b xs (I.base.tups b xs e),λb o xs e=>Q b o xs (I.base.yh b o xs e),λb ps e=>?_⟩,?_,λx c e=>?_,?_,λx c e=>?_,λp hp=>?_,E,I.len⟩
 ·exact keep b o (A b o e) a (j b o e hx) (I.base.keep b o e n a hx) (I.base.free b o e n hx)
 ·obtain⟨sl,e1⟩:=I.base.slot b o e n a hx;obtain⟨K,e2⟩:=D b _ (A b o e) a (j b o e hx) e1 (I.base.free b o e n hx);exact⟨K,e2⟩
 ·obtain⟨o',e1⟩:=I.base.there b o e hx;exact free b o' (j b o e hx) e1 (I.base.free b o e n hx)
 ·obtain⟨o',e1⟩:=I.base.there b o e hx;exact N b o' (j b o e hx) e1
 ·obtain⟨G,e1⟩:=I.base.sV b ps e;obtain⟨m2,e2⟩:=F b _ e1;exact⟨G++m2,by rw[e2,ya]⟩
 ·obtain⟨m,M,P⟩:=I.loc;refine⟨m,J m M,λi x v e1 e2 e3=>?_⟩;obtain⟨u,r,l⟩:=P i x v e1 e2 e3;refine⟨u,r,?_⟩;rcases l with l|⟨k,c,e,z⟩
  ·exact .inl l
  ·exact .inr ⟨k,c,e,C x c e _ z⟩
 ·obtain⟨v,z⟩:=I.cell x c e;exact⟨v,C x c e v z⟩
 ·obtain⟨m,⟨o,_,_,f,_⟩,_⟩:=I.loc;exact free _ o (λz=>(g _ z).2.1 Y3) f I.free
 ·obtain⟨v,o,f,hd⟩:=I.cell x c e;exact free c o (λz=>(g c z).2.2.1 x c e Y3) f (I.mD x c e)
 ·obtain⟨e,n,B,y,d⟩:=I.pin p hp;have h:p.1∉ch:=λz=>(g p.1 z).2.2.2 p hp rfl;exact⟨keep p.1 p.2 B y h e n,free p.1 p.2 h e n,B,y,d⟩
theorem AU.un{t':Nat}(I:AU X AN σ H s)(u:Un X.fs [] H H' s.heap h')(j:vR X.prog X.w H' h'):AU X AN σ H' { s with heap:=h',toks:=t' }:=by
 obtain⟨m,⟨o,es,ep,c,r⟩,_⟩:=id I.loc;obtain⟨sl,k⟩:=u.any c I.free (by simp);exact I.step (g':=s.gens) (d':=s.drawn) (ch:=[]) (λ_ z=>nomatch z) (λb o _ a _ e n=>u.keep b o e n a (by simp)) (λb o _ a _ e n=>u.slot b o e n a (by simp)) (λb o _ e n=>u.free b o e n (by simp)) (λb o _ e=>u.there b o e (by simp)) u.tups u.yh u.sV (λl g=>by
  obtain⟨o',f,i,d,h⟩:=g;rw[c]at d;cases d;exact⟨_,f,i,k,h⟩) j I.bare
theorem AU.call{g':Array GenState}{t':Nat}{d':Drawn}{ch:Y A1}(I:AU X AN σ H s)(u:Un (CI X.stack) ch H H' s.heap h')(v:vR X.prog X.w H' h')(q:AllBare g')
  (h:∀b∈ch,(b∈X.ex\/X.s₀.heap.objs.size<=b)/\b≠X.env.locals/\(∀x c,X.env.cells.lookup x=Z c->c≠b)/\∀p∈X.pn++AN,p.1≠b):
  AU X AN σ H' { s with heap:=h',gens:=g',drawn:=d',toks:=t' }:=by
 obtain⟨m,⟨o,es,ep,f,r⟩,_⟩:=id I.loc;obtain⟨sl,d⟩:=u.any f I.free λz=>(h _ z).2.1 rfl;exact I.step (ch:=ch) h (λb o d t a e n=>u.keep b o e n (λz=>(List.mem_cons.mp (I.Ea b z)).elim d t) a) (λb o _ _ a e n=>u.any e n a) (λb o a e n=>u.free b o e n a) (λb o a e=>u.there b o e a) u.tups u.yh u.sV (λy j=>by
  obtain⟨o',i,l,g,k⟩:=j;rw[f]at g;cases g;exact⟨_,i,l,d,k⟩) v q
theorem AU.turned{t':Nat}(I:AU X AN σ H s)(k:∀b o,b≠it->s.heap.get? b=Z o->h'.get? b=Z o)(j:H it=O)(f:it≠X.env.locals)(h1:it∈X.ex\/X.s₀.heap.objs.size<=it)(h2:∀x c,X.env.cells.lookup x=Z c->c≠it)(g:∀p∈X.pn++AN,p.1≠it):AU X AN σ H { s with heap:=h',toks:=t' }:=by
 have d:∀b u,H b=Z u->b≠it:=λb u e z=>by rw[z,j]at e;cases e
 refine I.step (g':=s.gens) (d':=s.drawn) (ch:=[it]) (λb i=>?_) (λb o _ _ a e _=>k b o (λz=>a (by simp[z])) e) (λb o _ _ a e _=>⟨o.slots,k b o (λz=>a (by simp[z])) e⟩) (λ_ _ _ _ n=>n)
  (λb o a e=>⟨o,k b o (λz=>a (by simp[z])) e⟩) (λ_ _ e=>e) (λ_ _ _ e=>e) (λb ps e=>⟨#[],by rw[e];simp⟩) (λm h=>?_) (λb u e=>?_) I.bare
 ·have e:b=it:=by simpa using i
  subst e;exact⟨h1,f,h2,g⟩
 ·obtain⟨o,es,ep,l,r⟩:=h;exact⟨o,es,ep,k _ o (kC f) l,r⟩
 ·refine(I.hok b u e).stay (λc v a q=>k c v ?_ q) (λ_ q=>q) (λ_ _ q=>q) λ_ _ _ q=>q;rcases a with z|z
  ·rw[z];exact d b u e
  ·exact d c _ z
theorem AU.tok(I:AU X AN σ H s)(t:Nat):AU X AN σ H { s with toks:=t }:=I.un (h':=s.heap) (t':=t) Un.refl I.hok
theorem AU.kept{t':Nat}(I:AU X AN σ H s)(k:∀b u,s.heap.get? b=Z u->h'.get? b=Z u):AU X AN σ H { s with heap:=h',toks:=t' }:=I.un (Un.kept k) (I.hok.kept k)
theorem AU.laid{a:A1}{o:HO}{t':Nat}(I:AU X AN σ H s)(k:∀b u,s.heap.get? b=Z u->h'.get? b=Z u)(hp:s.heap.objs.size<=a)(new:gq X.prog X.w (B7 H a o) h' a o):
  AU X AN σ (B7 H a o) { s with heap:=h',toks:=t' }:=I.un (Un.laid k hp (I.hok.fresh hp)) (I.hok.laid k hp new)
theorem AU.write{x e:A1}{o:HO}{t':Nat}(I:AU X AN σ H s)(a:EN (H x))(d:e=x\/H e=Z (.own x))(k:∀b u,b≠e->s.heap.get? b=Z u->h'.get? b=Z u)(c:∃u,h'.get? e=Z u)
  (new:gq X.prog X.w (B7 H x o) h' x o):AU X AN σ (B7 H x o) { s with heap:=h',toks:=t' }:=I.un (Un.write a d k c) (I.hok.write a d k c new)
theorem AU.Ed{a:Y (A1×AE)}(I:AU X AN σ H s)(h:∀p∈a,s.heap.get? p.1=Z p.2/\H p.1=O/\p.1≠X.env.locals/\p.1∉X.fs/\∀v,p.2.data≠.cell v):AU X a σ H s:=
 ⟨I.ok,I.os,I.bare,I.base,I.loc,I.cell,I.free,I.mD,λp hp=>(ah.mp hp).elim (λz=>I.pin p (dL _ z)) (h p),I.hok,I.len⟩
theorem G6(c:N.Nodup)(a:N[i]?=Z x)(b:N[j]?=Z x):i=j:=by
 obtain⟨h1,e1⟩:=ae.mp a;obtain⟨h2,e2⟩:=ae.mp b;exact(Kk c).mp (e1.trans e2.symm)
theorem N8{v:V}{Q:Unit->A2->Prop}(I:AU X AN σ H s)(hN:X.N.Nodup)(hi:X.N[i]?=Z x)(hx:D8 X.env.scope x)(r:At v u)(h:∀s',AU X AN (σ.set i (Z v)) H s'->(∃a,Heap.SameBut a s.heap s'.heap/\(a=X.env.locals\/X.env.cells.lookup x=Z a))->Q f8 s')(hf:X.fn x=true\/X.env.scope.names.lookup x=Z .local:=by first|exact .inl rfl|exact .inr rfl|assumption):A7 M A (storeName X.env x u) Q E s:=by
 obtain⟨m,K,hl⟩:=id I.loc;have a5:(X.env.scope.kind==.class||(X.env.scope.kind==.module&&X.env.locals !=X.env.globals))=false:=by rw[I.ok.kind];rfl
 have W:i<σ.length:=by rw[I.len];exact(ae.mp hi).1
 have YG:=I.YG;have a0:∀{a:A1} {h':A6},(∃o,s.heap.get? a=Z o/\H a=O)->Heap.SameBut a s.heap h'->vR X.prog X.w H h':=λ{a h'} ha f b ob e=>by
  obtain⟨_,_,a1⟩:=ha;refine(I.hok b ob e).stay (λc B g q=>(f.2 c ?_).trans q) (λ_ q=>q) (λ_ _ q=>q) λ_ _ _ q=>q;rintro rfl;rcases g with rfl|g
  ·rw[a1]at e;cases e
  ·rw[a1]at g;cases g
 rcases hx with hk|hk
 ·refine wpAny_storeName_local hk K (λh' a3 f=>?_) a5;obtain⟨oL,_,_,a4,_⟩:=id K;refine h _ ⟨I.ok,I.os,I.bare,⟨λb o e n t hx=>?_,λb o e n t hx=>?_,I.base.free,λb o e hx=>?_,I.base.tups,I.base.yh,I.base.sV⟩,⟨_,a3,λj y L e1 e2 e3=>?_⟩,λy c e=>?_,I.free,I.mD,λp hp=>?_,a0 ⟨oL,a4,I.free⟩ f,by simpa using I.len⟩ ⟨_,f,.inl rfl⟩
  ·exact(f.2 b (z4 (Zp (zw e) I.ok.above))).trans (I.base.keep b o e n t hx)
  ·obtain⟨sl,e1⟩:=I.base.slot b o e n t hx;exact⟨sl,(f.2 b (z4 (Zp (zw e) I.ok.above))).trans e1⟩
  ·obtain⟨o',e1⟩:=I.base.there b o e hx;exact⟨o',(f.2 b (z4 (Zp (zw e) I.ok.above))).trans e1⟩
  ·by_cases l:j=i
   ·subst l;rw[hi]at e1;cases e1;rw[dm W]at e2;cases e2;exact⟨u,r,.inl ⟨hk,by simp⟩⟩
   ·rw[dP (kC l)]at e2;obtain⟨F,J,q⟩:=hl j y L e1 e2 e3;refine⟨F,J,?_⟩;rcases q with⟨k,e⟩|⟨k,c,e,z⟩
    ·refine .inl ⟨k,?_⟩;have:y≠x:=λe=>l (G6 hN e1 (e▸hi));simp[this,e]
    ·exact .inr ⟨k,c,e,z.sameBut f (YG y c e)⟩
  ·obtain⟨B,z⟩:=I.cell y c e;exact⟨B,z.sameBut f (YG y c e)⟩
  ·obtain⟨e,n,C,G,d⟩:=I.pin p hp;exact⟨(f.2 p.1 C).trans e,n,C,G,d⟩
 ·have D:X.fn x=true:=by
   rcases hf with z|z
   ·exact z
   ·rw[z]at hk;cases hk
  obtain⟨c,g⟩:=I.ok.has x (.inl hk);obtain⟨B,z⟩:=I.cell x c g;refine wpAny_storeName_cell I.ok.kind hk g z (λh' P f=>?_);obtain⟨oc,a2,a6⟩:=id z;refine h { s with heap:=h' } ⟨I.ok,I.os,I.bare,⟨λb o e n t hx=>?_,λb o e n t hx=>?_,I.base.free,λb o e hx=>?_,I.base.tups,I.base.yh,I.base.sV⟩,⟨m,K.sameBut f (kC (YG x c g)),λj y L e1 e2 e3=>?_⟩,λy c' e=>?_,I.free,I.mD,λp hp=>?_,a0 ⟨oc,a2,I.mD x c g⟩ f,by simpa using I.len⟩ ⟨c,f,.inr g⟩
  ·exact(f.2 b (z4 (Zp (zw e) (I.ok.cab x c D g)))).trans (I.base.keep b o e n t hx)
  ·obtain⟨sl,e1⟩:=I.base.slot b o e n t hx;exact⟨sl,(f.2 b (z4 (Zp (zw e) (I.ok.cab x c D g)))).trans e1⟩
  ·obtain⟨o',e1⟩:=I.base.there b o e hx;exact⟨o',(f.2 b (z4 (Zp (zw e) (I.ok.cab x c D g)))).trans e1⟩
  ·by_cases l:j=i
   ·subst l;rw[hi]at e1;cases e1;rw[dm W]at e2;cases e2;exact⟨u,r,.inr ⟨.inl hk,c,g,P⟩⟩
   ·rw[dP (kC l)]at e2;obtain⟨F,J,q⟩:=hl j y L e1 e2 e3;refine⟨F,J,?_⟩;rcases q with q|⟨k,c',e,z'⟩
    ·exact .inl q
    ·refine .inr ⟨k,c',e,z'.sameBut f ?_⟩;rintro rfl;exact l (G6 hN e1 (I.ok.inj _ _ _ e g▸hi))
  ·by_cases U:c'=c
   ·subst U;exact⟨_,P⟩
   ·obtain⟨w2,z2⟩:=I.cell y c' e;exact⟨w2,z2.sameBut f U⟩
  ·obtain⟨e,n,C,G,d⟩:=I.pin p hp;refine⟨(f.2 p.1 ?_).trans e,n,C,G,d⟩;intro q;rw[q,a2]at e;have q':oc=p.2:=JI e;exact d B (by rw[<-q'];exact a6)
theorem uE{v:V}{Q:Unit->A2->Prop}(I:AU X AN σ H s)(a:X.N.Nodup)(hi:X.N[i]?=Z x)(hx:D8 X.env.scope x)(r:At v u)(h:∀s',AU X AN (σ.set i (Z v)) H s'->Q f8 s')(c:X.fn x=true\/X.env.scope.names.lookup x=Z .local:=by first|exact .inl rfl|exact .inr rfl|assumption):A7 M A (storeName X.env x u) Q E s:=
 N8 I a hi hx r (λs' b _=>h s' b) c
theorem AU.call'{s':A2}{ch:Y A1}(I:AU X AN σ H s)(f:s'.os=s.os)(u:Un (CI X.stack) ch H H' s.heap s'.heap)(a:vR X.prog X.w H' s'.heap)(g:AllBare s'.gens)
  (d:∀b∈ch,(b∈X.ex\/X.s₀.heap.objs.size<=b)/\b≠X.env.locals/\(∀x c,X.env.cells.lookup x=Z c->c≠b)/\∀p∈X.pn++AN,p.1≠b):AU X AN σ H' s':=by
 obtain⟨h',g',d',t',o'⟩:=s';have e:o'=s.os:=f;subst e;exact I.call (g':=g') (t':=t') (d':=d') u a g d
end
abbrev XK:=A0->S A1->Hp->Prop
abbrev St:=Y (S V)
abbrev VK:=V->Hp->Prop
abbrev TE:=St->Hp->VK->Prop
abbrev TT:=St->Hp->(Bool->Hp->Prop)->Prop
abbrev TA:=St->Hp->(Y V->Hp->Prop)->Prop
structure C8 where
 nx:St->Hp->Prop
 rt:VK
 bk:St->Hp->Prop:=λ_ _=>False
 ct:St->Hp->Prop:=λ_ _=>False
abbrev TS:=C8->St->Hp->Prop
def EP(X:Cx)(AN:Y (A1×AE))(σ:St)(Q:VK)(u:A0)(s':A2):Prop:=∃v H',AU X AN σ H' s'/\At v u/\Q v H'
def TP(X:Cx)(AN:Y (A1×AE))(σ:St)(Q:Bool->Hp->Prop)(b:Bool)(s':A2):Prop:=∃H',AU X AN σ H' s'/\Q b H'
def AP(X:Cx)(AN:Y (A1×AE))(σ:St)(Q:Y V->Hp->Prop)(us:Y A0)(s':A2):Prop:=∃vs H',AU X AN σ H' s'/\AX vs us/\Q vs H'
def SP(X:Cx)(AN:Y (A1×AE))(D:C8)(f:Flow)(s':A2):Prop:=
 match f with
 |.next=>∃ σ' H',AU X AN σ' H' s'/\D.nx σ' H'
 |.brk=>∃ σ' H',AU X AN σ' H' s'/\D.bk σ' H'
 |.cont=>∃ σ' H',AU X AN σ' H' s'/\D.ct σ' H'
 |.ret u=>∃v σ' H',AU X AN σ' H' s'/\At v u/\D.rt v H'
def PE(X:Cx)(e:Expr)(t:TE):Prop:=
 ∀(AN:Y (A1×AE)) (s:A2) (σ:St) (H:Hp) (Q:VK),AU X AN σ H s->t σ H Q->A7 (f6 X) X.A (eval e X.env) (EP X AN σ Q) X.xe s
def PT(X:Cx)(e:Expr)(t:TT):Prop:=
 ∀(AN:Y (A1×AE)) (s:A2) (σ:St) (H:Hp) (Q:Bool->Hp->Prop),AU X AN σ H s->t σ H Q->A7 (f6 X) X.A (isTrue e X.env (eval e X.env)) (TP X AN σ Q) X.xe s
def PW(X:Cx)(e:Expr)(t:TT):Prop:=
 ∀(a:Sem A0) (AN:Y (A1×AE)) (s:A2) (σ:St) (H:Hp) (Q:Bool->Hp->Prop),AU X AN σ H s->t σ H Q->A7 (f6 X) X.A (isTrue e X.env a) (TP X AN σ Q) X.xe s
theorem PW.pt{X:Cx}{t:TT}(h:PW X e t):PT X e t:=h _
def PA(X:Cx)(es:Y Expr)(t:TA):Prop:=
 ∀(pos:Pos) (AN:Y (A1×AE)) (s:A2) (σ:St) (H:Hp) (Q:Y V->Hp->Prop),AU X AN σ H s->t σ H Q->A7 (f6 X) X.A (spliced (AD pos (A9 es X.env))) (AP X AN σ Q) X.xe s
def PS(X:Cx)(st:AB)(t:TS):Prop:=
 ∀(AN:Y (A1×AE)) (s:A2) (σ:St) (H:Hp) (D:C8),AU X AN σ H s->t D σ H->A7 (f6 X) X.A (exec st X.env) (SP X AN D) X.xe s
def JZ(X:Cx)(st:Y AB)(t:TS):Prop:=
 ∀(AN:Y (A1×AE)) (s:A2) (σ:St) (H:Hp) (D:C8),AU X AN σ H s->t D σ H->A7 (f6 X) X.A (execs st X.env) (SP X AN D) X.xe s
theorem gU{t:Sem α}{Q b:α->A2->Prop}(h:A7 M A t Q E s)(c:∀a s,Q a s->b a s):A7 M A t b E s:=qB h c λ_ _ x=>x
end L2
namespace L2
section
variable{X:Cx}
def G2(i:Nat):TE:=λσ H Q=>∃v,σ[i]?=Z (Z v)/\Q v H
def tC(v:V):TE:=λ_ H Q=>Q v H
theorem za(o:X.N[i]?=Z x)(f:Uv X.env.scope x)(hd:fT x:=by decide)(g:(x==("__classdict__":AJ))=false:=by decide):PE X (.Name x pos) (G2 i):=by
 intro AN s σ H Q I h;obtain⟨v,e,h⟩:=h;obtain⟨m,k,n⟩:=I.loc;obtain⟨u,r,l⟩:=n i x v o e f;have a:EP X AN σ Q u s:=⟨v,H,I,r,h⟩;rcases l with⟨hk,j⟩|⟨hk,c,b,d⟩
 ·exact wpAny_Name (wpAny_loadName_local I.ok.kind hk k j a) hd
 ·rcases hk with hk|hk
  ·exact wpAny_Name (wpAny_loadName_cell I.ok.kind hk b d a) hd
  ·exact wpAny_Name (wpAny_loadName_free I.ok.kind hk b d a g) hd
theorem YH{i j pos}:PE X (.Constant (.int i) j pos) (tC (.int i)):=λ_ _ _ H _ I h=>wpAny_Constant_int ⟨.int i,H,I.tok _,⟨_,rfl⟩,h⟩
theorem Hn{b j pos}:PE X (.Constant (.bool b) j pos) (tC (.bl b)):=λ_ _ _ H _ I h=>Constant_bool ⟨.bl b,H,I,rfl,h⟩
theorem YJ{j pos}:PE X (.Constant .none j pos) (tC .non):=λ_ _ _ H _ I h=>Constant_none ⟨.non,H,I,rfl,h⟩
theorem YK{x j pos}:PE X (.Constant (.str x) j pos) (tC (.str x)):=λ_ _ _ H _ I h=>Calls.Constant_str ⟨.str x,H,I.tok _,⟨_,rfl⟩,h⟩
def Gl(X:Cx)(x:AJ):Prop:=X.env.kindOf x=Z .globalImplicit
theorem Ln{σ:St}{H:Hp}(I:AU X AN σ H s)(b:Gl X x)(a:X.mg x=Z u)(h:Q u s)(hd:fT x:=by decide):A7 (f6 X) X.A (eval (.Name x pos) X.env) Q E s:=
 Calls.Name_function_global I.ok.kind b (Calls.loadGlobal_global (by rw[I.ok.glob];exact I.mod.glob.keeps I.bk) a h) hd
theorem qm{σ:St}{H:Hp}(I:AU X AN σ H s)(c:Gl X x)(a:X.mg x=O)(b:AH x=Z u)(h:Q u s)(d:x ≠ "__name__":=by decide)(hd:fT x:=by decide):A7 (f6 X) X.A (eval (.Name x pos) X.env) Q E s:=by
 obtain⟨e,h1,h2⟩:=I.mod.blt;exact Calls.Name_function_global I.ok.kind c (Calls.loadGlobal_builtin (by rw[I.ok.glob];exact I.mod.glob.keeps I.bk) a (by rw[I.ok.blt];exact h1.keeps I.bk) ((h2 x d).trans b) h) hd
variable{a b:Expr}{ta tb:TE}
variable{tA tB':TT}{AS:Y Expr}
def GI(t u:TT):TT:=λσ H Q=>t σ H λc H1=>if c=true then Q true H1 else u σ H1 Q
def MV(t:TT):TT:=λσ H Q=>t σ H λc H1=>Q (!c) H1
theorem YL(b:PT X a tA):PW X (.BoolOp .Or [a] pos) tA:=by
 intro f AN s σ H Q I h;refine isTrue_or (gU (b AN s σ H Q I h) λc d e=>?_);cases c with
 |false=>exact isTrue_or_nil e
 |true=>exact e
theorem OC(d:PT X a tA)(e:PW X (.BoolOp .Or (b::AS) pos) tB'):PW X (.BoolOp .Or (a::b::AS) pos) (GI tA tB'):=by
 intro f AN s σ H Q I h;refine isTrue_or (gU (d AN s σ H _ I h) λc s1 ⟨H1,I1,q1⟩=>?_);cases c with
 |true=>exact⟨H1,I1,q1⟩
 |false=>exact e f AN s1 σ H1 Q I1 q1
theorem YM(b:PT X a tA):PT X (.UnaryOp .Not a pos) (MV tA):=by
 intro AN s σ H Q I h;exact isTrue_not (b AN s σ H (λc H1=>Q (!c) H1) I h)
def OO(ta tb:TE):TE:=λσ H Q=>ta σ H λx H1=>∃c,x=.bl c/\if c=true then tb σ H1 Q else Q (.bl false) H1
def LL(ta:TE):TE:=λσ H Q=>ta σ H λx H1=>∃c,x=.bl c/\Q (.bl (!c)) H1
theorem YQ{op}{t:TE}(h:PE X a t):PE X (.BoolOp op [a] pos) t:=λAN s σ H Q I b=>BoolOp_one (h AN s σ H Q I b)
theorem YS(d:PE X a ta)(e:PE X (.BoolOp .And (b::AS) pos) tb):PE X (.BoolOp .And (a::b::AS) pos) (OO ta tb):=by
 intro AN s σ H Q I h;refine BoolOp_and (gU (d AN s σ H _ I h) λv s1 ⟨x,H1,I1,r1,q1⟩=>?_);obtain⟨c,rfl,q1⟩:=q1;cases r1;refine QP ?_;cases c with
 |true=>exact e AN s1 σ H1 Q I1 q1
 |false=>exact⟨.bl false,H1,I1,rfl,q1⟩
theorem YT(b:PE X a ta):PE X (.UnaryOp .Not a pos) (LL ta):=by
 intro AN s σ H Q I h;refine UnaryOp_ (gU (b AN s σ H _ I h) λv s1 ⟨x,H1,I1,r1,q1⟩=>?_);obtain⟨c,rfl,q1⟩:=q1;cases r1;exact not_of (QP ⟨.bl (!c),H1,I1,rfl,q1⟩)
end
end L2
namespace L2
def nF(K:B6)(H:Hp)(a:A1)(xs:Y V):Prop:=
 Rd H a (.lst xs) ∨
  ∃(o:AE) (AQ:Array A0) (n:Nat),K.lookup a=Z o/\o.cls=.type "list" ∧ o.dict=O/\o.data=.seq AQ n/\AQ.size<=AA/\AX xs AQ.toList
def qj(K:B6)(H:Hp)(a:A1)(xs:Y V):Prop:=
 Rd H a (.tup xs) ∨
  ∃(o:AE) (AQ:Array A0) (n:Nat),K.lookup a=Z o/\(o.cls=.type "tuple" ∧ o.dict=O)/\o.data=.seq AQ n/\AQ.size<=AA/\AX xs AQ.toList
def YW:A0->S V
 |.none=>Z .non
 |.bool b=>Z (.bl b)
 |.int i _=>Z (.int i)
 |.str x _=>Z (.str x)
 |.bytes b _=>Z (.byt b)
 |.float b _=>Z (.flt b)
 |.ref a=>Z (.ref a)
 |.type n=>Z (.ty n)
 |_=>O
theorem At.abs{x:V}(r:At x u):YW u=Z x:=by
 cases x with
 |non=>cases r;rfl
 |bl _=>cases r;rfl
 |int _=>obtain⟨t,rfl⟩:=r;rfl
 |str _=>obtain⟨t,rfl⟩:=r;rfl
 |byt _=>obtain⟨t,rfl⟩:=r;rfl
 |flt _=>obtain⟨t,rfl⟩:=r;rfl
 |ref _=>cases r;rfl
 |ty _=>cases r;rfl
theorem At.inj{x y:V}{u:A0}(r:At x u)(q:At y u):x=y:=JI (r.abs.symm.trans q.abs)
theorem AX.inj:∀{xs ys:Y V} {us:Y A0},AX xs us->AX ys us->xs=ys
 |_,_,_,.nil,.nil=>rfl
 |_,_,_,.cons r t,.cons r' t'=>by rw[r.inj r',AX.inj t t']
section
variable{X:Cx}{σ:St}{H:Hp}{xs ys:Y V}
theorem AU.list(I:AU X AN σ H s)(h:nF X.K H a xs):∃AQ:Y A0,AX xs AQ/\PlainL s.heap a AQ.toArray/\xs.length<=AA:=by
 rcases h with h|⟨o,AQ,n,hk,b,hd,c,d,r⟩
 ·obtain⟨z,AQ,n,r,e⟩:=h.ok I.hok;exact⟨AQ,r,⟨_,n,e,rfl,rfl,rfl⟩,z⟩
 ·refine⟨AQ.toList,r,⟨o,n,I.U4 a o hk,b,hd,by simpa using c⟩,?_⟩;have e:=r.length;simp only[ZI]at e;omega
theorem AU.tuple(I:AU X AN σ H s)(h:qj X.K H a xs):∃AQ:Y A0,AX xs AQ/\IsTup s.heap a AQ.toArray/\xs.length<=AA:=by
 rcases h with h|⟨o,AQ,n,hk,b,c,d,r⟩
 ·obtain⟨z,AQ,r,p⟩:=h.ok I.hok;exact⟨AQ,r,p.weak,z⟩
 ·refine⟨AQ.toList,r,⟨o,I.U4 a o hk,b.1,n,by simpa using c⟩,?_⟩;have e:=r.length;simp only[ZI]at e;omega
theorem AU.zc(I:AU X AN σ H s)(h:nF X.K H a xs)(h':nF X.K H a ys):xs=ys:=by
 obtain⟨AQ,r,⟨o,n,e,_,_,d⟩,_⟩:=I.list h;obtain⟨c,f,⟨o',i,e',_,_,b⟩,_⟩:=I.list h';rw[e]at e';cases e';rw[d]at b;injection b with g _;have:AQ=c:=by simpa using congrArg eA g
 subst this;exact r.inj f
theorem AU.vW(I:AU X AN σ H s)(h:qj X.K H a xs)(h':qj X.K H a ys):xs=ys:=by
 obtain⟨AQ,r,⟨o,e,_,n,d⟩,_⟩:=I.tuple h;obtain⟨c,f,⟨o',e',_,i,b⟩,_⟩:=I.tuple h';rw[e]at e';cases e';rw[d]at b;injection b with g _;have:AQ=c:=by simpa using congrArg eA g
 subst this;exact r.inj f
end
abbrev Cx.wish(X:Cx)(E:BF):Cx:={ X with xe:=E }
abbrev Cx.Ux(X:Cx):Cx:=X.wish λ_ _=>False
theorem Cx.Ok.wish{X:Cx}(ok:X.Ok)(E:BF):(X.wish E).Ok:=
 ⟨ok.mod,ok.kind,ok.glob,ok.blt,ok.above,ok.inj,ok.has,ok.cab,ok.hd,ok.frames,ok.stk,ok.exf,ok.bs,ok.Uw,ok.Qn,ok.U0,ok.yj,ok.YF,ok.tabs⟩
theorem Cx.Ok.qp{X:Cx}(ok:(X.wish E).Ok):X.Ok:=
 ⟨ok.mod,ok.kind,ok.glob,ok.blt,ok.above,ok.inj,ok.has,ok.cab,ok.hd,ok.frames,ok.stk,ok.exf,ok.bs,ok.Uw,ok.Qn,ok.U0,ok.yj,ok.YF,ok.tabs⟩
section
variable{X:Cx}{σ:St}{H:Hp}
theorem AU.wish(I:AU X AN σ H s)(E:BF):AU (X.wish E) AN σ H s:=⟨I.ok.wish E,I.os,I.bare,I.base,I.loc,I.cell,I.free,I.mD,I.pin,I.hok,I.len⟩
theorem AU.qp(I:AU (X.wish E) AN σ H s):AU X AN σ H s:=⟨I.ok.qp,I.os,I.bare,I.base,I.loc,I.cell,I.free,I.mD,I.pin,I.hok,I.len⟩
theorem SP.qp{D:C8}{f:Flow}{s':A2}(h:SP (X.wish E) AN D f s'):SP X AN D f s':=by
 cases f with
 |next=>obtain⟨σ',H',I,q⟩:=h;exact⟨σ',H',I.qp,q⟩
 |brk=>obtain⟨σ',H',I,q⟩:=h;exact⟨σ',H',I.qp,q⟩
 |cont=>obtain⟨σ',H',I,q⟩:=h;exact⟨σ',H',I.qp,q⟩
 |ret u=>obtain⟨v,σ',H',I,r,q⟩:=h;exact⟨v,σ',H',I.qp,r,q⟩
theorem JZ.Ux{st:Y AB}{t:TS}(h:JZ X.Ux st t):JZ X st t:=λAN s σ H D I a=>
 qB (h AN s σ H D (I.wish _) a) (λ_ _ q=>q.qp) λ_ _ z=>False.elim z
end
section
variable{X:Cx}{AS:Y AB}{t u:TS}{te:TE}
def ON:TS:=λD σ H=>D.nx σ H
def LY(t u:TS):TS:=λD σ H=>t { D with nx:=u D } σ H
theorem U5:JZ X [] ON:=λ_ _ σ H _ I h=>wpAny_execs_nil ⟨σ,H,I,h⟩
theorem Qo(h1:PS X st t)(h2:JZ X AS u):JZ X (st::AS) (LY t u):=by
 intro AN s σ H D I h;refine wpAny_execs_cons (gU (h1 AN s σ H { D with nx:=u D } I h) λf b q=>?_);cases f with
 |next=>
  obtain⟨σ',H',a,q⟩:=q;exact h2 AN b σ' H' D a q
 |ret v=>exact q
 |brk=>exact q
 |cont=>exact q
theorem AU.quiet{σ:St}{H:Hp}(I:AU X AN σ H s):interactive X.env=false:=by simp[interactive,I.ok.kind]
def OS(te:TE):TS:=λD σ H=>te σ H λ_ H1=>D.nx σ H1
theorem Lq(a:PE X e te)(hs:swapsWith e O pos.line X.env=pure false:=by rfl):PS X (.Expr e pos) (OS te):=by
 intro AN s σ H D I h;exact wpAny_Expr_any (gU (a AN s σ H _ I h) λv s1 ⟨x,H1,I1,r1,q1⟩=>⟨σ,H1,I1,q1⟩) I.quiet hs
def L5(te:TE):TS:=λD σ H=>te σ H D.rt
theorem Qp(a:PE X e te):PS X (.Return (Z e) pos) (L5 te):=by
 intro AN s σ H D I h;exact wpAny_Return_some (gU (a AN s σ H _ I h) λv s1 ⟨x,H1,I1,r1,q1⟩=>⟨x,σ,H1,I1,r1,q1⟩)
def OK(c:TT)(t u:TS):TS:=λD σ H=>c σ H λb H1=>if b=true then t D σ H1 else u D σ H1
theorem My{a b:Y AB}{tc:TT}(e:PT X c tc)(f:JZ X a t)(g:JZ X b u):PS X (.If c a b pos) (OK tc t u):=by
 intro AN s σ H D I h;refine wpAny_If (gU (e AN s σ H _ I h) λd s1 ⟨H1,I1,q1⟩=>?_);cases d with
 |true=>exact f AN s1 σ H1 D I1 q1
 |false=>exact g AN s1 σ H1 D I1 q1
end
abbrev TG:=V->St->Hp->(St->Hp->Prop)->Prop
abbrev Xr:=Y V->St->Hp->(St->Hp->Prop)->Prop
def PG(X:Cx)(a:Expr)(t:TG):Prop:=
 ∀(AN:Y (A1×AE)) (s:A2) (σ:St) (H:Hp) (v:V) (u:A0) (Q:St->Hp->Prop),AU X AN σ H s->At v u->t v σ H Q →
  A7 (f6 X) X.A (assign a X.env u) (λ_ s'=>∃ σ' H',AU X AN σ' H' s'/\Q σ' H') X.xe s
def Qq(X:Cx)(ts:Y Expr)(t:Xr):Prop:=
 ∀(AN:Y (A1×AE)) (s:A2) (σ:St) (H:Hp) (vs:Y V) (us:Y A0) (Q:St->Hp->Prop),AU X AN σ H s->AX vs us->t vs σ H Q →
  A7 (f6 X) X.A (assignInOrder ((assignEach ts X.env).map (·.2)) us) (λ_ s'=>∃ σ' H',AU X AN σ' H' s'/\Q σ' H') X.xe s
section
variable{X:Cx}
def Xu(i:Nat):TG:=λv σ H Q=>Q (σ.set i (Z v)) H
theorem Lr(a:X.N.Nodup)(hi:X.N[i]?=Z x)(hx:D8 X.env.scope x)(c:X.fn x=true\/X.env.scope.names.lookup x=Z .local:=by first|exact .inl rfl|exact .inr rfl|assumption):PG X (.Name x pos) (Xu i):=by
 intro AN s σ H v u Q I r h;exact wpAny_assign_Name (uE I a hi hx r (λs' b=>⟨_,H,b,h⟩) c)
def HU:Xr:=λvs σ H Q=>vs=[]/\Q σ H
def NW(t:TG)(u:Xr):Xr:=λvs σ H Q=>∃v r,vs=v::r/\t v σ H λσ' H'=>u r σ' H' Q
theorem U6:Qq X [] HU:=by
 intro AN s σ H vs us Q I r h;obtain⟨e,h⟩:=h;subst e;cases r;exact assignInOrder_nil ⟨σ,H,I,h⟩
theorem Qs{t:TG}{u:Xr}(h1:PG X e t)(h2:Qq X es u)(hs:(assignEach (e::es) X.env).map (·.2)=assign e X.env::(assignEach es X.env).map (·.2):=by rfl):Qq X (e::es) (NW t u):=by
 intro AN s σ H vs us Q I r h;obtain⟨v,b,e1,h⟩:=h;subst e1;cases r with
 |cons r a=>
  rw[hs];refine assignInOrder_cons (gU (h1 AN s σ H _ _ _ I r h) λ_ s1 ⟨σ1,H1,I1,q1⟩=>?_);exact h2 AN s1 σ1 H1 _ _ Q I1 a q1
def NL(K:B6)(n:Nat)(t:Xr):TG:=λv σ H Q=>∃a xs,v=.ref a/\qj K H a xs/\xs.length=n/\t xs σ H Q
theorem YX{t:Xr}(i:X.calm=true)(h:Qq X es t)(g:(assignEach es X.env).length=n:=by rfl)(l:(assignEach es X.env).findIdx? (·.1)=O:=by rfl):PG X (.Tuple es k pos) (NL X.K n t):=by
 intro AN s σ H v u Q I r c;obtain⟨a,xs,e1,f,j,c⟩:=c;subst e1;cases r;obtain⟨AQ,d,p,q⟩:=I.tuple f;refine assign_Tuple_tuple (I.ok.hd i) p (by simp[g,<-j,d.length]) l λh' hx=>?_;have m:AU X AN σ H { s with heap:=h' }:=I.kept (t':=s.toks) λb o e=>hx b o (z4 (zw e)) e;exact h AN _ σ H xs _ Q m (by simpa using d) c
def FM(te:TE)(g:TG):TS:=λD σ H=>te σ H λx H1=>g x σ H1 D.nx
theorem YZ{te:TE}{g:TG}(a:PE X e te)(b:PG X tg g)(hs:swapsWithSole [tg] e pos.line X.env=pure false:=by rfl)(c:swappedStores [tg] e X.env=pure O:=by rfl)(h1:(assignEach [tg] X.env).map (·.2)=[assign tg X.env]:=by rfl):PS X (.Assign [tg] e pos) (FM te g):=by
 intro AN s σ H D I h;refine wpAny_Assign_stores (gU (a AN s σ H _ I h) λv s1 ⟨x,H1,I1,r1,q1⟩=>?_) hs c;rw[h1];exact gU (b AN s1 σ H1 x v _ I1 r1 q1) λ_ d q=>q
theorem Y0{te:TE}{pos':Pos}(d:X.N.Nodup)(hi:X.N[i]?=Z x)(hx:D8 X.env.scope x)(c:PE X e te)(hs:swapsWith e (Z (.Name x pos')) pos.line X.env=pure false:=by rfl)(a:X.fn x=true\/X.env.scope.names.lookup x=Z .local:=by first|exact .inl rfl|exact .inr rfl|assumption):
  PS X (.Assign [.Name x pos'] e pos) (FM te (Xu i)):=by
 intro AN s σ H D I h;refine wpAny_Assign_Name (gU (c AN s σ H _ I h) λv s1 ⟨y,H1,I1,r1,q1⟩=>?_) hs;exact uE I1 d hi hx r1 (λf b=>⟨_,H1,b,q1⟩) a
def IM(i j:Nat)(ta:TA):TS:=λD σ H=>ta σ H λvs H1=>∃v w,vs=[v,w]/\D.nx ((σ.set i (Z v)).set j (Z w)) H1
theorem Y4{a b:Expr}{ta:TA}{px py pt:Pos}{kt k2 Y5}(u:X.calm=true)(k:X.N.Nodup)(hi:X.N[i]?=Z x)(t:X.N[j]?=Z y)(E:i≠j)(hx:X.env.scope.names.lookup x=Z .local)(g:X.env.scope.names.lookup y=Z .local)(l:PA X [a,b] ta)(F:swappedStores [.Tuple [.Name x px,.Name y py] kt pt] (.Tuple [a,b] k2 Y5) X.env=pure (Z [x,y]))(hs:swapsWithSole [.Tuple [.Name x px,.Name y py] kt pt] (.Tuple [a,b] k2 Y5) pos.line X.env=pure false:=by rfl):
  PS X (.Assign [.Tuple [.Name x px,.Name y py] kt pt] (.Tuple [a,b] k2 Y5) pos) (IM i j ta):=by
 intro AN s σ H D I h;rw[exec_Assign_arm];refine zb (ki ?_);rw[hs];refine zb (zd ?_);rw[zr ()];refine zb (Tuple_ (gU (l _ AN s σ H _ I h) λus s1 ⟨vs,H1,I1,r1,q1⟩=>?_));obtain⟨v,w,e1,q1⟩:=q1;subst e1;obtain⟨c,d,rfl,m,B⟩:∃c d,us=[c,d]/\At v c/\At w d:=by
  cases r1 with
  |cons p q=>
   cases q with
   |cons p' G=>
    cases G;exact⟨_,_,rfl,p,p'⟩
 refine qr ?_ (by show 2<=AA;decide);have z:AU X AN σ H1 { s1 with heap:=s1.heap.push { cls:=.type "tuple",data:=.seq [c,d].toArray } }:=I1.kept (t':=s1.toks) λb o e=>ze _ e;rw[F];refine zb (zd ?_);show A7 (f6 X) X.A (do rule "assign.swapped-stores"; let items <-unpackItems (.ref s1.heap.objs.size) 2 O;assignInOrder [λv=>bindName X.env y v,λv=>bindName X.env x v] items.reverse;pure Flow.next) _ _ _;refine zb (QI (zb (unpackItems_tuple (items:=#[c,d]) (I.ok.hd u) (IsTup.new s1.heap _) λh' J=>?_)));have C:=z.kept (h':=h') (t':=s1.toks) λb o e=>J b o (z4 (zw e)) e;show A7 _ _ (assignInOrder [λv=>bindName X.env y v,λv=>bindName X.env x v] [d,c] >>= λ_=>pure Flow.next) _ _ _;refine zb (assignInOrder_cons (wpAny_bindName (uE C k t (.inl g) B (λL n=>?_) (.inr g))));refine assignInOrder_cons (wpAny_bindName (uE n k hi (.inl hx) m (λK f=>assignInOrder_nil (zd ?_)) (.inr hx)));rw[List.set_comm _ _ (kC E)]at f;exact⟨_,H1,f,q1⟩
end
structure It where
 go:Nat->Hp->Prop
 yld:Nat->Hp->V->Hp->Prop
 stop:Nat->Hp->Prop
def nG(X:Cx)(AN:Y (A1×AE))(H:Hp)(b:A1):Prop:=
 H b=O/\b≠X.env.locals/\b∉X.fs/\(b∈X.ex\/X.s₀.heap.objs.size<=b)/\(∀x c,X.env.cells.lookup x=Z c->c≠b)/\∀p∈X.pn++AN,p.1≠b
theorem AU.Ef{X:Cx}{σ:St}{H H':Hp}{b:A1}(I:AU X AN σ H s)(a:s.heap.objs.size<=b)(d:H' b=O):nG X AN H' b:=by
 refine⟨d,kF (Zp I.lt a),I.aes a,.inr (zi I.sz a),λx c e z=>?_,λp hp z=>?_⟩
 ·obtain⟨v,q⟩:=I.cell x c e;exact absurd (Zp q.lt (by rw[z];exact a)) (kK _)
 ·exact absurd (Zp (zw (I.pin p hp).1) (by rw[z];exact a)) (kK _)
structure C9 (P:Program) (w:World) (K:B6) (tg:Expr) (J:It) (fp:List Addr) (it:Addr) (tn:Nat->Heap->Prop):Prop where
 mem:it∈fp
 obj:∀i h,tn i h->∀b∈fp,∃o,h.get? b=some o/\∀v,o.data≠.cell v
 keep:∀i h h',tn i h->(∀b∈fp,∀o,h.get? b=some o->h'.get? b=some o)->tn i h'
 item:∀(X:Cx),X.prog=P->X.w=w->X.K=K->X.calm=true->∀(i:Nat) (AN:List (Addr×Obj)) (s:Shared) (σ:St) (H:Hp) (E:BF),AU X AN σ H s->(∀b∈fp,nG X AN H b)->tn i s.heap->J.go i H →
  wpAny (model P w) X.A (pyNext (.ref it)) (λr s1=>∃u,r=some u ∧
   wpAny (model P w) X.A (letOwnedTupleGo tg (.ref it) u) (λ_ s2=>∃x H',AU X AN σ H' s2/\At x u/\J.yld i H x H'/\tn (i+1) s2.heap/\∀b∈fp,H' b=none) E s1) E s
 done:∀(X:Cx),X.prog=P->X.w=w->X.K=K->X.calm=true->∀(i:Nat) (AN:List (Addr×Obj)) (s:Shared) (σ:St) (H:Hp) (E:BF),AU X AN σ H s->(∀b∈fp,nG X AN H b)->tn i s.heap->J.stop i H →
  wpAny (model P w) X.A (pyNext (.ref it)) (λr s1=>r=none/\AU X AN σ H s1) E s
 self:∀(A:Around) (i:Nat) (s:Shared) (Q:BF) (E:BF),tn i s.heap->Q (.ref it) s->wpAny (model P w) A (pyIter (.ref it)) Q E s
abbrev TI:=St->Hp->(It->Hp->Prop)->Prop
def Fm(X:Cx)(AN:Y (A1×AE))(σ:St)(tg:Expr)(R:It->Hp->Prop)(c:A0)(a:A2):Prop:=
 ∃(it:A1) (fp:Y A1) (tn:Nat->A6->Prop) (J:It) (H':Hp),c=.ref it/\AU X AN σ H' a/\C9 X.prog X.w X.K tg J fp it tn/\tn 0 a.heap/\(∀b∈fp,nG X AN H' b)/\R J H'
def PI(X:Cx)(tg iter:Expr)(a:TI):Prop:=
 ∀(AN:Y (A1×AE)) (s:A2) (σ:St) (H:Hp) (R:It->Hp->Prop),AU X AN σ H s->a σ H R →
  A7 (f6 X) X.A (eval iter X.env) (λv b=>A7 (f6 X) X.A (pyIter v) (Fm X AN σ tg R) X.xe b) X.xe s
theorem G7{o:AE}{n:String}{vs:Array A0}{Q:Unit->A2->Prop}(c:s.heap.get? it=Z o)(b:o.cls=.type n)(hd:o.data=.fields vs)(d:["enumerate","zip","dict_itemiterator","dict_reverseitemiterator","odict_iterator","itertools.zip_longest","itertools.pairwise"].contains n=false)(a:Q f8 s):A7 M A (letOwnedTupleGo tg (.ref it) u) Q E s:=by
 unfold letOwnedTupleGo;cases tg<;>first
  |exact zd a
  |(cases u<;>first
    |exact zd a
    |(refine zb (wpAny_load c ?_)
      rw[b,hd];show A7 M A (if(["enumerate","zip","dict_itemiterator","dict_reverseitemiterator","odict_iterator","itertools.zip_longest","itertools.pairwise"].contains n&&vs[0]?==Z (rawInt _))=true then _ else _) Q E s;rw[zr (by intro h;rw[d,bE]at h;cases h)];exact zd a))
def FA(K:B6)(a:A1):It:=
 ⟨λi H=>∃xs x,nF K H a xs/\xs[i]?=Z x,λi H x H'=>H'=H/\∀xs,nF K H a xs->xs[i]?=Z x,λi H=>∃xs,nF K H a xs/\xs.length<=i⟩
def EQ(K:B6)(a:A1):It:=
 ⟨λi H=>∃xs x,qj K H a xs/\xs[i]?=Z x,λi H x H'=>H'=H/\∀xs,qj K H a xs->xs[i]?=Z x,λi H=>∃xs,qj K H a xs/\xs.length<=i⟩
def DM(lo:Int)(n:Nat):It:=⟨λi _=>i<n,λi H x H'=>H'=H/\x=.int (lo+i),λi _=>n<=i⟩
theorem Oa(a it:A1):C9 P w K tg (FA K a) [it] it (λi h=>h.IsListIter it a i) where
 mem:=by simp
 obj:=λi h st b f=>by
  have e:b=it:=by simpa using f
  subst e;obtain⟨o,e,c,d⟩:=st;exact⟨o,e,λv z=>by rw[d]at z;cases z⟩
 keep:=λi h h' st k=>st.at λo e=>k it (by simp) o e
 item:=by
  intro X q y n C i AN s σ H E I g st t;subst q y n;obtain⟨xs,x,j,hx⟩:=t;obtain⟨AQ,l,p,D⟩:=I.list j;obtain⟨u,L,F⟩:=l.get hx;obtain⟨f0,f1,f2,f3,A,m⟩:=g it (by simp);refine wpAny_pyNext_list_item st p.isList (x:=u) (by simpa using L) λh' B G=>?_;have J:AU X AN σ H { s with heap:=h' }:=I.turned (t':=s.toks) (λb o f e=>(G.2 b f).trans e) f0 f1 f3 A m;obtain⟨o,e,c,d⟩:=id B;exact⟨u,rfl,G7 (s:={ s with heap:=h' }) e c d () ⟨x,H,J,F,⟨rfl,λys M=>by rw[I.zc M j];exact hx⟩,B,λb f=>(g b f).1⟩⟩
 done:=by
  intro X q y n C i AN s σ H E I g st t;subst q y n;obtain⟨xs,j,hx⟩:=t;obtain⟨AQ,l,p,D⟩:=I.list j;obtain⟨f0,f1,f2,f3,A,m⟩:=g it (by simp);have N:=l.length;exact wpAny_pyNext_list_end (I.ok.hd C) st p.isList (by simp;omega) λh' eb=>⟨rfl,I.turned (t':=s.toks) (λb o f e=>eb b o f e) f0 f1 f3 A m⟩
 self:=λ_ _ _ _ _ st h=>wpAny_pyIter_listiter st h
theorem J0(a it:A1):C9 P w K tg (EQ K a) [it] it (λi h=>h.IsTupleIter it a i) where
 mem:=by simp
 obj:=λi h st b f=>by
  have e:b=it:=by simpa using f
  subst e;obtain⟨o,e,c,d⟩:=st;exact⟨o,e,λv z=>by rw[d]at z;cases z⟩
 keep:=λi h h' st k=>st.at λo e=>k it (by simp) o e
 item:=by
  intro X q y n C i AN s σ H E I g st t;subst q y n;obtain⟨xs,x,j,hx⟩:=t;obtain⟨AQ,l,p,D⟩:=I.tuple j;obtain⟨u,L,F⟩:=l.get hx;obtain⟨f0,f1,f2,f3,A,m⟩:=g it (by simp);refine wpAny_pyNext_tuple_item st (show s.heap.IsTuple a AQ.toArray from p) (x:=u) (by simpa using L) λh' B G=>?_;have J:AU X AN σ H { s with heap:=h' }:=I.turned (t':=s.toks) (λb o f e=>(G.2 b f).trans e) f0 f1 f3 A m;obtain⟨o,e,c,d⟩:=id B;exact⟨u,rfl,G7 (s:={ s with heap:=h' }) e c d () ⟨x,H,J,F,⟨rfl,λys M=>by rw[I.vW M j];exact hx⟩,B,λb f=>(g b f).1⟩⟩
 done:=by
  intro X q y n C i AN s σ H E I g st t;subst q y n;obtain⟨xs,j,hx⟩:=t;obtain⟨AQ,l,p,D⟩:=I.tuple j;obtain⟨f0,f1,f2,f3,A,m⟩:=g it (by simp);have N:=l.length;exact wpAny_pyNext_tuple_end (I.ok.hd C) st (show s.heap.IsTuple a AQ.toArray from p) (by simp;omega) λh' eb=>⟨rfl,I.turned (t':=s.toks) (λb o f e=>eb b o f e) f0 f1 f3 A m⟩
 self:=λ_ _ _ _ _ st h=>wpAny_pyIter_tupleiter st h
theorem J4(it:A1)(lo:Int)(n:Nat):C9 P w K tg (DM lo n) [it] it (λi h=>IsRangeIter h it (lo+(i:Nat)*1) ((n:Int)-(i:Nat)) 1) where
 mem:=by simp
 obj:=λi h st b a=>by
  have e:b=it:=by simpa using a
  subst e;exact⟨_,st,λv z=>by
   have y:Data.fields _=Data.cell v:=z;cases y⟩
 keep:=λi h h' st k=>k it (by simp) _ st
 item:=by
  intro X p g l d i AN s σ H E I c st f;subst p g l;obtain⟨f0,f1,f2,f3,j,m⟩:=c it (by simp);have W:=Walks.range (prog:=X.prog) (w:=X.w) (I.ok.hd d) it lo 1 n;refine W.item i s _ _ f st λv h' tk u q kk=>?_;obtain⟨t,rfl⟩:=u;have x:AU X AN σ H { s with heap:=h',toks:=tk }:=I.turned (λb o a e=>kk b o (by simpa using a) e) f0 f1 f3 j m;refine⟨_,rfl,G7 (s:={ s with heap:=h',toks:=tk }) (n :="range_iterator") q Y3 Y3 () ⟨.int (lo+i),H,x,⟨t,?_⟩,⟨rfl,rfl⟩,q,λb a=>(c b a).1⟩⟩;rw[Int.mul_one]
 done:=by
  intro X p g l d i AN s σ H E I c st f;subst p g l;obtain⟨f0,f1,f2,f3,j,m⟩:=c it (by simp);exact wpAny_pyNext_range_end (I.ok.hd d) st (by have:n<=i:=f;omega) λh' eb=>⟨rfl,I.turned (t':=s.toks) (λb o a e=>eb b o a e) f0 f1 f3 j m⟩
 self:=λ_ _ _ _ _ st h=>wpAny_pyIter_rangeiter st h
end L2
namespace L2
section
variable{X:Cx}
theorem G8{σ:St}{H:Hp}{R:It->Hp->Prop}{lo hi:Int}{t u v:Tok}{tk:Nat}(I:AU X AN σ H s)(h1 : -(2 ^ 62)<=lo)(h2:lo<2 ^ 62)(d : -(2 ^ 62)<=hi)(c:hi<2 ^ 62)(q:R (DM lo (hi-lo).toNat) H):A7 (f6 X) X.A (pyIter (.ref s.heap.objs.size)) (Fm X AN σ tg R) E { s with heap:=s.heap.push { cls:=.type "range",data:=.fields #[.int lo t,.int hi u,.int 1 v] },toks:=tk }:=by
 refine wpAny_pyIter_range (IsRange.new ..) (small_one h1 h2 d c) ?_;have a:AU X AN σ H { s with heap:=s.heap.push { cls:=.type "range",data:=.fields #[.int lo t,.int hi u,.int 1 v] },toks:=tk }:=I.kept λb o e=>ze _ e;refine⟨(s.heap.push { cls:=.type "range",data:=.fields #[.int lo t,.int hi u,.int 1 v] }).objs.size,[(s.heap.push { cls:=.type "range",data:=.fields #[.int lo t,.int hi u,.int 1 v] }).objs.size],_,_,H,rfl,
  a.kept (t':=tk) λb o e=>ze _ e,J4 _ lo (hi-lo).toNat,?_,λb f=>?_,q⟩
 ·have e1:lo+((0:Nat):Int)*1=lo:=by simp
  have e2:(((hi-lo).toNat:Nat):Int)-((0:Nat):Int)=Builtin.Range.rangeSize lo hi 1:=by rw[rangeSize_one];split<;>omega
  show IsRangeIter _ _ (lo+((0:Nat):Int)*1) ((((hi-lo).toNat:Nat):Int)-((0:Nat):Int)) 1;rw[e1,e2];exact zz _ rfl
 ·have e:b=(s.heap.push { cls:=.type "range",data:=.fields #[.int lo t,.int hi u,.int 1 v] }).objs.size:=by simpa using f
  subst e;exact a.Ef (zl _) (a.hok.fresh (zl _))
def HL(ta:TA):TI:=λσ H R=>ta σ H λvs H1=>∃j:Int,vs=[.int j] ∧ -(2 ^ 62)<=j/\j<2 ^ 62/\R (DM 0 j.toNat) H1
def MB(ta:TA):TI:=λσ H R=>ta σ H λvs H1=>∃i j:Int,vs=[.int i,.int j]/\(-(2 ^ 62)<=i/\i<2 ^ 62 ∧ -(2 ^ 62)<=j/\j<2 ^ 62)/\R (DM i (j-i).toNat) H1
theorem Ob{a:Expr}{ta:TA}{p:Pos}(d:Gl X "range")(c:X.mg "range"=O)(b:PA X [a] ta)(hs:A9 [a] X.env=[(false,eval a X.env)]:=by rfl):PI X tg (.Call (.Name "range" p) [a] [] pos) (HL ta):=by
 intro AN s σ H R I h;refine Call_ (qm I d c boot_range (PyProof.Rows.callWith_type1 (gU (b pos AN s σ H _ I h) λus s1 ⟨vs,H1,I1,r1,q1⟩=>?_) hs Y3));obtain⟨j,e,q1,q2,q⟩:=q1;subst e;cases r1 with
 |cons r f=>
  cases f;obtain⟨t,rfl⟩:=r;exact call_range_1 (G8 I1 () () q1 q2 (by simpa using q))
theorem Oc{a b:Expr}{ta:TA}{p:Pos}(k:Gl X "range")(g:X.mg "range"=O)(f:PA X [a,b] ta)(hs:A9 [a,b] X.env=[(false,eval a X.env),(false,eval b X.env)]:=by rfl)(d:A9 [b] X.env=[(false,eval b X.env)]:=by rfl):
  PI X tg (.Call (.Name "range" p) [a,b] [] pos) (MB ta):=by
 intro AN s σ H R I h;refine Call_ (qm I k g boot_range (PyProof.Rows.callWith_type1 (gU (f pos AN s σ H _ I h) λus s1 ⟨vs,H1,I1,r1,q1⟩=>?_) (by rw[hs,d]) (by rw[d];rfl)));obtain⟨i,j,e,⟨q1,q2,q3,m⟩,q⟩:=q1;subst e;cases r1 with
 |cons r c=>
  cases c with
  |cons l c=>
   cases c;obtain⟨t,rfl⟩:=r;obtain⟨n,rfl⟩:=l;exact call_range_2 (G8 I1 q1 q2 q3 m q)
def Of(b:TI)(g:TG)(tb:TS):TS:=λD σ H=>b σ H λJ H1=>∃W:Nat->Nat->St->Hp->Prop,(∃m,W 0 m σ H1)/\∀i m σ H,W i m σ H →
 (J.stop i H/\D.nx σ H)\/(J.go i H/\∃N:St->Hp->Prop,(∀ σ' H',N σ' H'->∃a,a<m/\W (i+1) a σ' H')/\∀x H',J.yld i H x H'->g x σ H' λc H2=>tb { D with nx:=N,ct:=N,bk:=D.nx } c H2)
def vX(fp:Y A1)(h:A6):Y (A1×AE):=fp.filterMap λb=>(h.get? b).map λo=>(b,o)
theorem ou{b:A1}{o:AE}(a:b∈fp)(e:h.get? b=Z o):(b,o)∈vX fp h:=bX.mpr ⟨b,a,by rw[e];rfl⟩
theorem Od{p:A1×AE}(hp:p∈vX fp h):p.1∈fp/\h.get? p.1=Z p.2:=by
 obtain⟨b,a,e⟩:=bX.mp hp;cases q:h.get? b with
 |none=>rw[q]at e;cases e
 |some o=>
  rw[q]at e;have e':(b,o)=p:=JI e;subst e';exact⟨a,q⟩
theorem AU.pinned{σ:St}{H:Hp}(I:AU X AN σ H s)(f:∀b∈fp,nG X AN H b)(c:∀b∈fp,∃o,s.heap.get? b=Z o/\∀v,o.data≠.cell v):AU X (AN++vX fp s.heap) σ H s:=
 I.Ed λp hp=>(ah.mp hp).elim (λz=>I.pin p (qf _ z)) λz=>by
  obtain⟨a,e⟩:=Od z;obtain⟨f0,f1,f2,_⟩:=f p.1 a;obtain⟨o,e',d⟩:=c p.1 a;rw[e]at e';cases e';exact⟨e,f0,f1,f2,d⟩
theorem AU.qt{pl:Y (A1×AE)}{σ:St}{H:Hp}(I:AU X (AN++pl) σ H s):AU X AN σ H s:=I.Ed λp hp=>I.pin p (qf _ (dL _ hp))
theorem Y6{L:TI}{g:TG}{tb:TS}(hp:PassesOwn (f6 X) X.A X.env X.xe)(C:X.calm=true)(hi:PI X tg iter L)(hg:PG X tg g)(c:JZ X body tb)(hs:∀x,foldedSetIterable iter X.env x=pure x:=by intro _;rfl):PS X (.For tg iter body [] pos) (Of L g tb):=by
 intro AN s σ H D I h;refine wpAny_For (gU (hi AN s σ H _ I h) λv s1 h1=>gU h1 λa2 s2 h2=>?_) hs;obtain⟨it,fp,tn,J,H2,e,I2,T,a1,f2,W,⟨m0,Q⟩,turn⟩:=h2;subst e;have y:∀{H':Hp},(∀b∈fp,H' b=O)->∀b∈fp,nG X AN H' b:=λhn b c=>⟨hn b c,(f2 b c).2⟩;refine codeAny_forLoop_any (λn s'=>∃i σ' H',AU X AN σ' H' s'/\tn i s'.heap/\(∀b∈fp,H' b=O)/\W i n σ' H') ?_ m0 ⟨0,σ,H2,I2,a1,λb c=>(f2 b c).1,Q⟩;rintro n B ⟨i,q,t,E,G,K,M⟩;rcases turn i n q t M with⟨a0,qn⟩|⟨go,N,hN,step⟩
 ·refine KB hp (gU (T.done X Y3 Y3 Y3 C i AN B q t X.xe E (y K) G a0) λr s4 ⟨hr,I4⟩=>?_);subst hr;exact wpAny_execs_nil ⟨q,t,I4,qn⟩
 ·refine KB hp (gU (T.item X Y3 Y3 Y3 C i AN B q t X.xe E (y K) G go) λr s4 ⟨u,hr,h4⟩=>?_);subst hr;refine KB hp (gU h4 λ_ s5 ⟨x,H5,I5,r5,y5,st5,fr5⟩=>?_);have P:=I5.pinned (y fr5) (T.obj _ _ st5);refine KB hp (gU (hg _ s5 q H5 x u _ P r5 (step x H5 y5)) λ_ s6 ⟨σ6,H6,I6,q6⟩=>?_);refine KB hp (gU (c _ s6 σ6 H6 _ I6 q6) λf z l=>?_);have F:∀{a:St} {j:Hp},AU X (AN++vX fp s5.heap) a j z->N a j->∃m,m<n/\∃i σ' H',AU X AN σ' H' z/\tn i z.heap/\(∀b∈fp,H' b=O)/\W i m σ' H':=λ{a j} k p=>by
   obtain⟨m',hm,w7⟩:=hN a j p;refine⟨m',hm,i+1,a,j,k.qt,T.keep _ _ _ st5 λb c o e=>(k.pin (b,o) (qf _ (qf _ (ou c e)))).1,λb c=>?_,w7⟩;obtain⟨o,e,d⟩:=T.obj _ _ st5 b c;exact(k.pin (b,o) (qf _ (qf _ (ou c e)))).2.1
  cases f with
  |next=>obtain⟨a,j,k,p⟩:=l;exact F k p
  |cont=>obtain⟨a,j,k,p⟩:=l;exact F k p
  |brk=>obtain⟨a,j,k,l⟩:=l;exact⟨a,j,k.qt,l⟩
  |ret v=>obtain⟨x7,a,j,k,U,l⟩:=l;exact⟨x7,a,j,k.qt,U,l⟩
end
end L2
namespace L2
abbrev R2:=V->V->Hp->VK->Prop
def vU(X:Cx)(f:A0->A0->Sem A0)(r:R2):Prop:=
 ∀(AN:Y (A1×AE)) (s:A2) (σ:St) (H:Hp) (x y:V) (v u:A0) (Q:VK),AU X AN σ H s->At x v->At y u->r x y H Q →
  A7 (f6 X) X.A (f v u) (EP X AN σ Q) X.xe s
def Xv(X:Cx)(f:A0->Sem A0)(r:V->Hp->VK->Prop):Prop:=
 ∀(AN:Y (A1×AE)) (s:A2) (σ:St) (H:Hp) (x:V) (v:A0) (Q:VK),AU X AN σ H s->At x v->r x H Q →
  A7 (f6 X) X.A (f v) (EP X AN σ Q) X.xe s
def gW(X:Cx)(f:A0)(r:Y V->Hp->VK->Prop):Prop:=
 ∀(AN:Y (A1×AE)) (s:A2) (σ:St) (H:Hp) (xs:Y V) (us:Y A0) (Q:VK),AU X AN σ H s->AX xs us->r xs H Q →
  A7 (f6 X) X.A (call f us) (EP X AN σ Q) X.xe s
def OM(X:Cx)(r:V->Hp->(Bool->Hp->Prop)->Prop):Prop:=
 ∀(AN:Y (A1×AE)) (s:A2) (σ:St) (H:Hp) (x:V) (v:A0) (Q:Bool->Hp->Prop),AU X AN σ H s->At x v->r x H Q →
  A7 (f6 X) X.A (truthy v) (TP X AN σ Q) X.xe s
def DJ(r:R2)(ta tb:TE):TE:=λσ H Q=>ta σ H λx H1=>tb σ H1 λy H2=>r x y H2 Q
def Ff(r:V->Hp->VK->Prop)(ta:TE):TE:=λσ H Q=>ta σ H λx H1=>r x H1 Q
def rI(C:Int->Int->Prop)(g:Int->Int->V):R2:=λx y H Q=>∃i j,x=.int i/\y=.int j/\C i j/\Q (g i j) H
def DH(g:Int->Int->V):R2:=λx y H Q=>∃i j,x=.int i/\y=.int j/\Q (g i j) H
def rU(g:Int->V):V->Hp->VK->Prop:=λx H Q=>∃i,x=.int i/\Q (g i) H
section
variable{X:Cx}{a b:Expr}{ta tb tc:TE}
theorem Y7(d:PE X a ta)(e:PE X b tb){σ:St}{H:Hp}{R:V->V->Hp->Prop}(I:AU X AN σ H s)(h:ta σ H λx H1=>tb σ H1 λy H2=>R x y H2){f:A0->A0->Sem A0}(g:∀v u c x y H2,AU X AN σ H2 c->At x v->At y u->R x y H2->A7 (f6 X) X.A (f v u) Q X.xe c):
  A7 (f6 X) X.A (eval a X.env) (λv i=>A7 (f6 X) X.A (eval b X.env) (λu j=>A7 (f6 X) X.A (f v u) Q X.xe j) X.xe i) X.xe s:=by
 refine gU (d AN s σ H _ I h) λv s1 ⟨x,H1,I1,r1,q1⟩=>?_;refine gU (e AN s1 σ H1 _ I1 q1) λu c ⟨y,H2,I2,r2,q2⟩=>?_;exact g v u c x y H2 I2 r1 r2 q2
theorem HQ{op:Operator}{r:R2}(f:vU X (binaryOp op) r)(d:PE X a ta)(e:PE X b tb):PE X (.BinOp a op b pos) (DJ r ta tb):=by
 intro AN s σ H Q I h;exact wpAny_BinOp (Y7 d e I h λv u j x y H2 g i c q=>f AN j σ H2 x y v u Q g i c q)
theorem Mk{op:UnaryOp}{r:V->Hp->VK->Prop}(c:Xv X (unaryOp op) r)(b:PE X a ta):PE X (.UnaryOp op a pos) (Ff r ta):=by
 intro AN s σ H Q I h;exact UnaryOp_ (gU (b AN s σ H _ I h) λv s1 ⟨x,H1,I1,r1,q1⟩=>c AN s1 σ H1 x v Q I1 r1 q1)
theorem EB{f:A0->A0->Sem A0}{C:Int->Int->Prop}{g:Int->Int->Int}
  (b:∀(i j:Int) (t u:Tok) (s:A2) (Q:BF) (E:BF),C i j->Q (.int (g i j) s.toks) { s with toks:=s.toks+1 }->A7 (f6 X) X.A (f (.int i t) (.int j u)) Q E s):
  vU X f (rI C λi j=>.int (g i j)):=by
 intro AN s σ H x y v u Q I d a h;obtain⟨i,j,rfl,rfl,c,q⟩:=h;obtain⟨t,rfl⟩:=d;obtain⟨e,rfl⟩:=a;exact b i j t e s _ _ c ⟨.int (g i j),H,I.tok _,⟨_,rfl⟩,q⟩
theorem ME{f:A0->A0->Sem A0}{g:Int->Int->Int}
  (c:∀(i j:Int) (t u:Tok) (s:A2) (Q:BF) (E:BF),Q (.int (g i j) s.toks) { s with toks:=s.toks+1 }->A7 (f6 X) X.A (f (.int i t) (.int j u)) Q E s):
  vU X f (DH λi j=>.int (g i j)):=by
 intro AN s σ H x y v u Q I b a h;obtain⟨i,j,rfl,rfl,q⟩:=h;obtain⟨t,rfl⟩:=b;obtain⟨d,rfl⟩:=a;exact c i j t d s _ _ ⟨.int (g i j),H,I.tok _,⟨_,rfl⟩,q⟩
theorem Y8{f:A0->A0->Sem A0}{g:Int->Int->Bool}
  (c:∀(i j:Int) (t u:Tok) (s:A2) (Q:BF) (E:BF),Q (.bool (g i j)) s->A7 (f6 X) X.A (f (.int i t) (.int j u)) Q E s):
  vU X f (DH λi j=>.bl (g i j)):=by
 intro AN s σ H x y v u Q I b a h;obtain⟨i,j,rfl,rfl,q⟩:=h;obtain⟨t,rfl⟩:=b;obtain⟨d,rfl⟩:=a;exact c i j t d s _ _ ⟨.bl (g i j),H,I,rfl,q⟩
def LD(i j:Int):Prop:=0<j/\j<1073741824
def On(i j:Int):Prop:=0<=j/\j<=1000000/\i.natAbs<2 ^ 64
def Y9(i j:Int):Prop:=(-(2 ^ 64)<i/\i<2 ^ 64)\/(-(2 ^ 64)<j/\j<2 ^ 64)
theorem Y9.ok{i j:Int}(h:Y9 i j):IntMulOk i j:=by
 rcases h with⟨h1,h2⟩|⟨h1,h2⟩
 ·exact .of_left (intBits_le_64 h1 h2)
 ·exact .of_right (intBits_le_64 h1 h2)
theorem Za:vU X (binaryOp .Add) (DH λi j=>.int (i+j)):=ME λ_ _ _ _ _ _ _ q=>add_int q
theorem Zb:vU X (binaryOp .Mult) (rI Y9 λi j=>.int (i*j)):=EB λ_ _ _ _ _ _ _ a q=>mul_int q a.ok
theorem U7:vU X (binaryOp .FloorDiv) (rI LD λi j=>.int (i / j)):=EB λi j _ _ _ _ _ a q=>by
 have h1:(0:Int)<j:=a.1;have h2:j<1073741824:=a.2;exact floordiv_int () (by rw[Int.fdiv_eq_ediv_of_nonneg i ()];exact q) (.inl (PyProof.noPylong_small ()))
theorem Zc:vU X (binaryOp .Mod) (rI (λ_ j=>0<j) λi j=>.int (i%j)):=EB λi j _ _ _ _ _ a q=>by
 have h1:(0:Int)<j:=a;exact mod_int' () (by rw[Int.fmod_eq_emod_of_nonneg i ()];exact q)
theorem Zd:vU X (binaryOp .Pow) (rI On λi j=>.int (i ^ j.toNat)):=EB λ_ _ _ _ _ _ _ a q=>pow_int_small a.1 a.2.1 a.2.2 q
theorem IR{f:A0->Sem A0}{g:Int->Int}
  (b:∀(i:Int) (t:Tok) (s:A2) (Q:BF) (E:BF),Q (.int (g i) s.toks) { s with toks:=s.toks+1 }->A7 (f6 X) X.A (f (.int i t)) Q E s):
  Xv X f (rU λi=>.int (g i)):=by
 intro AN s σ H x v Q I a h;obtain⟨i,rfl,q⟩:=h;obtain⟨t,rfl⟩:=a;exact b i t s _ _ ⟨.int (g i),H,I.tok _,⟨_,rfl⟩,q⟩
theorem Ze:Xv X (unaryOp .USub) (rU λi=>.int (-i)):=IR λ_ _ _ _ _ q=>neg_int q
theorem Qt{σ:St}{H:Hp}{Q:VK}{k a:Bool}(I:AU X AN σ H s)(q:Q (.bl k) H)(e:k=a):EP X AN σ Q (.bool a) s:=by
 subst e;exact⟨.bl k,H,I,rfl,q⟩
theorem HV:vU X (AG .Lt) (DH λi j=>.bl (decide (i<j))):=Y8 λ_ _ _ _ _ _ _ q=>lt_int q
theorem MM:vU X (AG .Gt) (DH λi j=>.bl (decide (j<i))):=Y8 λ_ _ _ _ _ _ _ q=>gt_int q
theorem LH:vU X (AG .GtE) (DH λi j=>.bl (decide (j<=i))):=Y8 λ_ _ _ _ _ _ _ q=>ge_int q
theorem Zf:vU X (AG .Is) (λx y H Q=>y=.non/\Q (.bl (decide (x=.non))) H):=by
 intro AN s σ H x y v u Q I a b h;obtain⟨rfl,q⟩:=h;cases b;refine is_none_gen (Qt I q ?_);cases x<;>first
  |(cases a;rfl)
  |(obtain⟨t,rfl⟩:=a;rfl)
theorem U8:vU X (AG .IsNot) (λx y H Q=>y=.non/\Q (.bl (!decide (x=.non))) H):=by
 intro AN s σ H x y v u Q I a b h;obtain⟨rfl,q⟩:=h;cases b;refine isnot_none_gen (Qt I q ?_);cases x<;>first
  |(cases a;rfl)
  |(obtain⟨t,rfl⟩:=a;rfl)
theorem bK(b:Expr)(h:op≠.In:=by decide)(h2:op≠.NotIn:=by decide):behindInMarks op b=false:=by
 have e1:(op==CmpOp.In)=false:=by cases op<;>first|rfl|exact absurd Y3 h
 have e2:(op==CmpOp.NotIn)=false:=by cases op<;>first|rfl|exact absurd Y3 h2
 cases b<;>simp[behindInMarks,e1,e2]
theorem U9{r:R2}(g:vU X (AG op) r)(d:PE X a ta)(f:PE X b tb)(e:behindInMarks op b=false):PE X (.Compare a [op] [b] pos) (DJ r ta tb):=by
 intro AN s σ H Q I h;exact wpAny_Compare1 (Y7 d f I h λv u k x y H2 i j c q=>g AN k σ H2 x y v u Q i j c q) e
def MQ(t:TE):TT:=λσ H Q=>t σ H λx H'=>∃k,x=.bl k/\Q k H'
theorem Va{r:R2}(g:vU X (AG op) r)(d:PE X a ta)(i:PE X b tb)(f:behindInMarks op b=false):PT X (.Compare a [op] [b] pos) (MQ (DJ r ta tb)):=by
 intro AN s σ H Q I h;refine wpAny_isTrue_Compare1 (gU (d AN s σ H _ I h) λv s1 ⟨x,H1,I1,r1,q1⟩=>gU (i AN s1 σ H1 _ I1 q1) λu s2 ⟨y,H2,I2,r2,q2⟩=>
  gU (g AN s2 σ H2 x y v u _ I2 r1 r2 q2) λc s3 ⟨z,H3,I3,r3,k,e,q3⟩=>?_) f
 subst e;cases r3;exact QP ⟨H3,I3,q3⟩
def Qu(r d:R2)(ta tb tc:TE):TE:=λσ H Q=>ta σ H λx H1=>tb σ H1 λy H2=>r x y H2 λz a=>∃k,z=.bl k ∧
 (if k=true then tc σ a λc b=>d y c b Q else Q (.bl false) a)
theorem Qv{f:CmpOp}{r g:R2}(n:vU X (AG op) r)(o:vU X (AG f) g)(i:PE X a ta)(l:PE X b tb)(m:PE X c tc)(j:lastMarks [op,f] [b,c]=false:=by with_unfolding_all rfl):PE X (.Compare a [op,f] [b,c] pos) (Qu r g ta tb tc):=by
 intro AN s σ H Q I h;refine Compare_chain (gU (i AN s σ H _ I h) λv s1 ⟨x,H1,I1,r1,q1⟩=>chain_link (gU (l AN s1 σ H1 _ I1 q1) λu s2 ⟨y,H2,I2,r2,q2⟩=>
  gU (n AN s2 σ H2 x y v u _ I2 r1 r2 q2) λd s3 ⟨z,H3,I3,r3,k,e,q3⟩=>?_)) j
 subst e;cases r3;refine QP ?_;cases k with
 |false=>exact ite_ff ⟨.bl false,H3,I3,rfl,q3⟩
 |true=>exact ite_tt (chain_last (gU (m AN s3 σ H3 _ I3 q3) λw' s4 ⟨z',H4,I4,r4,q4⟩=>o AN s4 σ H4 y z' u w' Q I4 r2 r4 q4))
def Zg(K:B6)(x:V)(H:Hp)(k:Bool):Prop:=
 match x with
 |.non=>k=false
 |.bl b=>k=b
 |.int i=>k=(i != 0)
 |.str y=>y.length<=AA/\k=((y.length:Int) != 0)
 |.byt y=>y.size<=AA/\k=((y.size:Int) != 0)
 |.ref p=>(∃xs,nF K H p xs/\k=!xs.isEmpty)\/(∃xs,qj K H p xs/\k=!xs.isEmpty)\/∃AO,H p=Z (.dK AO)/\k=!AO.isEmpty
 |_=>False
theorem J5{AO:Y (κ×V)}{vs:Y (κ×A0)}(r:KV AO vs):(!vs.isEmpty)=!AO.isEmpty:=by
 cases r<;>rfl
theorem zf{xs:Y V}(r:AX xs AQ):(!AQ.toArray.isEmpty)=!xs.isEmpty:=by
 cases r<;>simp
theorem vY:(AA:Nat)<2 ^ 63:=by rw[sizeLine_eq];decide
theorem Zh:OM X (λx H Q=>∃k,Zg X.K x H k/\Q k H):=by
 intro AN s σ H x v Q I a h;obtain⟨k,e,q⟩:=h;have j:=vY;have l:AA=16777216:=sizeLine_eq;cases x with
 |non=>
  cases a;have e':k=false:=e;subst e';exact truthy_none ⟨H,I,q⟩
 |bl b=>
  cases a;have e':k=b:=e;subst e';exact QP ⟨H,I,q⟩
 |int i=>
  obtain⟨t,rfl⟩:=a;have e':k=(i != 0):=e;subst e';exact PySem.P.truthy_int ⟨H,I,q⟩
 |str y=>
  obtain⟨t,rfl⟩:=a;obtain⟨g,e'⟩:y.length<=AA/\k=((y.length:Int) != 0):=e;subst e';exact PySem.P.truthy_str () ⟨H,I.tok _,q⟩
 |byt y=>
  obtain⟨t,rfl⟩:=a;obtain⟨g,e'⟩:y.size<=AA/\k=((y.size:Int) != 0):=e;subst e';exact PySem.W.truthy_bytes () ⟨H,I.tok _,q⟩
 |ref p=>
  cases a;have e':(∃xs,nF X.K H p xs/\k=!xs.isEmpty)\/(∃xs,qj X.K H p xs/\k=!xs.isEmpty)\/∃AO,H p=Z (.dK AO)/\k=!AO.isEmpty:=e;rcases e' with⟨xs,hx,e'⟩|⟨xs,hx,e'⟩|⟨AO,hx,e'⟩
  ·subst e';obtain⟨AQ,r,pl,c⟩:=I.list hx;have d:=r.length;exact wpAny_truthy_list pl.isList (by simp only[zk];omega) ⟨H,I.tok _,by rw[zf r];exact q⟩
  ·subst e';obtain⟨AQ,r,pl,c⟩:=I.tuple hx;have d:=r.length;exact truthy_tuple pl (by simp only[zk];omega) ⟨H,I.tok _,by rw[zf r];exact q⟩
  ·subst e';obtain⟨c,f,vs,r,m⟩:AO.length<=AA/\(p==sysModules)=false/\∃vs,KV AO vs/\s.heap.DictOf (d8 X.prog X.w) p vs:=I.hok p _ hx;have d:AO.length=vs.length:=Paired.length r;exact wpAny_truthy_dict f m () ⟨H,I.tok _,by rw[J5 r];exact q⟩
 |_=>exact(show False from e).elim
theorem Qw(c:PE X a ta)(d:∀b,isTrue a X.env b=(do let v <-b;standAt a.pos;holding [v] (truthy v))):
  PT X a (λσ H Q=>ta σ H λx H'=>∃k,Zg X.K x H' k/\Q k H'):=by
 intro AN s σ H Q I h;exact isTrue_plain (gU (c AN s σ H _ I h) λv s1 ⟨x,H1,I1,r1,q1⟩=>Zh AN s1 σ H1 x v Q I1 r1 q1) (d _)
theorem J6:vU X (binaryOp .Add) (λx y H Q=>∃i j,x=.str i/\y=.str j/\i.length+j.length<=AA/\Q (.str (i++j)) H):=by
 intro AN s σ H x y v u Q I b a h;obtain⟨i,j,rfl,rfl,d,q⟩:=h;obtain⟨t,rfl⟩:=b;obtain⟨c,rfl⟩:=a;exact add_str (λc tk=>⟨.str (i++j),H,I.tok _,⟨_,rfl⟩,q⟩) d
theorem BC{x:V}(r:AX [x] us):∃u,us=[u]/\At x u:=by
 cases r with
 |cons a b=>cases b;exact⟨_,rfl,a⟩
theorem Qx:gW X (.builtin "abs") (λxs H Q=>∃i,xs=[.int i]/\Q (.int (if i<0 then -i else i)) H):=by
 intro AN s σ H xs us Q I r h;obtain⟨i,rfl,q⟩:=h;obtain⟨u,rfl,t,rfl⟩:=BC r;exact call_abs_int λu tk=>⟨.int (if i<0 then -i else i),H,I.tok _,⟨_,rfl⟩,q⟩
theorem Oe:gW X (.type "int") (λxs H Q=>(∃i,xs=[.int i]/\Q (.int i) H)\/∃k,xs=[.bl k]/\Q (.int (if k then 1 else 0)) H):=by
 intro AN s σ H xs us Q I r h;rcases h with⟨i,rfl,q⟩|⟨k,rfl,q⟩
 ·obtain⟨u,rfl,t,rfl⟩:=BC r;exact call_int_int ⟨.int i,H,I,⟨_,rfl⟩,q⟩
 ·obtain⟨u,rfl,a⟩:=BC r;cases a;exact call_int_bool ⟨.int (if k then 1 else 0),H,I.tok _,⟨_,rfl⟩,q⟩
end
end L2
namespace L2
section
variable{x dx f:A1}{mA:AJ->S A0}{v:A0}
end
theorem G5.some_of{v:V}{o:S A0}(r:G5 (Z v) o):∃u,o=Z u/\At v u:=by
 cases o with
 |none=>exact(show False from r).elim
 |some u=>exact⟨u,rfl,r⟩
section
variable{H H':Hp}{h':A6}{dx:A1}{fs fs':Y (AJ×V)}
end
section
variable{X:Cx}{σ:St}{H:Hp}{dx:A1}{fs:Y (AJ×V)}{f:AJ}{v:V}
end
section
variable{X:Cx}{o value:Expr}{f:AJ}{pos':Pos}{ta tv:TE}
end
section
variable{X:Cx}{σ:St}{H:Hp}{c:A0}{b:Bool}
end
end L2
namespace L2
structure gY (k:Nat) (A:Around):Prop where
 hd:A.handled=none
 dp:A.depth+3*k+5<recursionLimit
 un:A.units+16*k+200<cLine
theorem gY.mono(r:gY k A)(h:j<=k):gY j A:=⟨r.hd,by have:=r.dp;omega,by have:=r.un;omega⟩
theorem gY.deeper(r:gY (k+1) A)(env:Env):gY k (A.deeper env):=
 ⟨r.hd,by have:=r.dp;show A.depth+1+3*k+5<_;omega,by have:=r.un;show A.units+3+16*k+200<_;omega⟩
theorem gY.in1(r:gY (k+1) A):gY k A.in1:=
 ⟨r.hd,by have:=r.dp;show A.depth+3*k+5<_;omega,by have:=r.un;show A.units+1+16*k+200<_;omega⟩
theorem gY.depth(r:gY k A):A.depth<recursionLimit:=by have:=r.dp;omega
def MH:TA:=λ_ H Q=>Q [] H
def OU(ta:TE)(tr:TA):TA:=λσ H Q=>ta σ H λx H1=>tr σ H1 λxs H2=>Q (x::xs) H2
section
variable{X:Cx}{te:TE}{t:TA}
theorem zj:PA X [] MH:=λ_ _ _ _ H Q I h=>Calls.spliced_nil ⟨[],H,I,.nil,h⟩
theorem uF(a:PE X e te)(b:PA X es t)(hs:A9 (e::es) X.env=(false,eval e X.env)::A9 es X.env:=by rfl):PA X (e::es) (OU te t):=by
 intro pos AN s σ H Q I h;rw[hs];show A7 _ _ (spliced ((false,eval e X.env)::AD pos (A9 es X.env))) _ _ s;refine Calls.spliced_cons (gU (a AN s σ H _ I h) λu s1 ⟨x,H1,I1,r1,q1⟩=>?_);exact gU (b pos AN s1 σ H1 _ I1 q1) λus s2 ⟨xs,H2,I2,r2,q2⟩=>⟨x::xs,H2,I2,.cons r1 r2,q2⟩
def HA(t:TA):TE:=λσ H Q=>t σ H λxs H1=>xs.length<=AA/\∀p,H1 p=O->Q (.ref p) (B7 H1 p (.tup xs))
def IS(t:TA):TE:=λσ H Q=>t σ H λxs H1=>xs.length<=AA/\∀p,H1 p=O->Q (.ref p) (B7 H1 p (.lst xs))
theorem Zi{x1}(h:PA X es t):PE X (.Tuple es x1 pos) (HA t):=by
 intro AN s σ H Q I a;refine wpAny_Tuple_spliced (gU (h pos AN s σ H _ I a) λus s1 ⟨xs,H1,I1,r,z,q⟩=>⟨by rw[<-r.length];exact z,?_⟩);have c:H1 s1.heap.objs.size=O:=I1.hok.fresh (zl _);refine⟨.ref s1.heap.objs.size,B7 H1 s1.heap.objs.size (.tup xs),I1.laid (t':=s1.toks) (λb u e=>ze _ e) (zl _) ?_,rfl,q _ c⟩;exact⟨z,us,r,⟨_,zz _ rfl,rfl,⟨_,rfl⟩,rfl⟩⟩
theorem Zj(h:PA X es t):PE X (.List es pos) (IS t):=by
 intro AN s σ H Q I a;refine wpAny_List_spliced (gU (h pos AN s σ H _ I a) λus s1 ⟨xs,H1,I1,r,z,q⟩=>⟨by rw[<-r.length];exact z,?_⟩);have c:H1 s1.heap.objs.size=O:=I1.hok.fresh (zl _);refine⟨.ref s1.heap.objs.size,B7 H1 s1.heap.objs.size (.lst xs),I1.laid (t':=s1.toks) (λb u e=>ze _ e) (zl _) ?_,rfl,q _ c⟩;exact⟨z,us,0,r,zz _ rfl⟩
end
abbrev Sp:=Y V->Hp->VK->XK->Prop
abbrev Qh:=Y Env->Hp->A2->XK->A0->A2->Prop
structure Vb (P:Program) (w:World) (K:B6) (mg:Str->Option Value) (base:Heap) (A:Around) (outer:List Env) (s:Shared) (H:Hp):Prop where
 frames:A.frames=some outer
 mod:Mod K mg base
 bs:∀b o,base.get? b=some o->s.heap.get? b=some o/\H b=none
 Uw:base.objs.size<=s.heap.objs.size
 yj:s.heap.FunFrames base outer
 YF:∀b∈CI outer,H b=none
 hok:vR P w H s.heap
 bare:AllBare s.gens
 tabs:Be K H
def CE(outer:Y Env)(P:A3)(w:A4)(H:Hp)(s:A2)(Q:VK)(u:A0)(s':A2):Prop:=
 ∃v H',s'.os=s.os/\AllBare s'.gens/\Un (CI outer) [] H H' s.heap s'.heap/\vR P w H' s'.heap/\At v u/\Q v H'
def CR(CX:Qh)(outer:Y Env)(P:A3)(w:A4)(H:Hp)(s:A2)(Q:VK)(E:XK)(r:Result)(s':A2):Prop:=
 match r with
 |.ok (.ret u)=>CE outer P w H s Q u s'
 |.ok _=>False
 |.error e=>CX outer H s E e s'
structure sW (P:Program) (w:World) (K:B6) (mg:Str->Option Value) (base:Heap) (CX:Qh) (k:Nat) (f:Addr) (fd:FuncData) (ps:Au) (sp:Sp):Prop where
 len:∀vs H Q E,sp vs H Q E->vs.length=ps.length
 run:∀(A:Around) (outer:List Env) (s:Shared) (H:Hp) (args:Args) (us:List Value) (vs:List V) (Q:VK) (E:XK),gY k A->Vb P w K mg base A outer s H->BindsTo s fd args (ps.zip us)->AX vs us->sp vs H Q E →
  codeAny (model P w) A (.call (.ref f) args) (CR CX outer P w H s Q E) s
section
variable{X:Cx}{σ:St}{H:Hp}{s':A2}
theorem AU.env0(I:AU X AN σ H s):Vb X.prog X.w X.K X.mg X.base X.A X.stack s H:=
 ⟨I.ok.frames,I.ok.mod,I.bs,zi I.ok.Uw I.sz,I.stack,I.Eb,I.hok,I.bare,I.ok.tabs.go I.base.sV⟩
theorem AU.after{Q:VK}(I:AU X AN σ H s)(h:CE X.stack X.prog X.w H s Q u s'):EP X AN σ Q u s':=by
 obtain⟨v,H',os,c,un,a,r,q⟩:=h;obtain⟨f,g,d,t,e⟩:=s';obtain rfl:e=s.os:=os;exact⟨v,H',I.call (h':=f) (g':=g) (d':=d) (t':=t) (ch:=[]) un a c (λb z=>absurd z (by simp)),r,q⟩
end
def HE(sp:Sp)(Xw:Y V)(E:XK)(t:TA):TE:=λσ H Q=>t σ H λvs H1=>sp (vs++Xw) H1 Q E
def BN(K:B6)(fd:FuncData)(ps:Au)(ds:Y A0):Prop:=
 ∀(s:A2) (us:Y A0),K.In s.heap->(us++ds).length=ps.length->BindsTo s fd ⟨us,[]⟩ (ps.zip (us++ds))
theorem BN.all(h:∀us:Y A0,us.length=ps.length->bindArgs fd ⟨us,[]⟩=pure (ps.zip us)):BN K fd ps []:=λs us _ a=>by
 rw[qa]at a ⊢;exact .of_eq (h us a)
def CA(CX:Qh)(X:Cx)(E:XK):Prop:=∀(AN:Y (A1×AE)) (σ:St) (H:Hp) (s:A2) (e:A0) (s':A2),AU X AN σ H s->CX X.stack H s E e s'->X.xe e s'
section
variable{X:Cx}{CX:Qh}{f:A1}{sp:Sp}{Xw:Y V}{ds:Y A0}{E:XK}{m:AJ}{p:Pos}{o:Expr}{ta:TE}{t:TA}
theorem Zk{σ:St}{H:Hp}{Q:VK}{vs:Y V}(F:sW X.prog X.w X.K X.mg X.base CX k f fd ps sp)(g:gY k X.A)(c:BN X.K fd ps ds)(hd:AX Xw ds)(hx:CA CX X E)(I:AU X AN σ H s)(r:AX vs us)(h:sp (vs++Xw) H Q E):A7 (f6 X) X.A (call (.ref f) us) (EP X AN σ Q) X.xe s:=by
 have b:AX (vs++Xw) (us++ds):=r.append hd;have d:(us++ds).length=ps.length:=by rw[<-b.length];exact F.len _ _ _ _ h
 refine wpAny_call (codeAny_mono (F.run X.A X.stack s H ⟨us,[]⟩ (us++ds) (vs++Xw) Q E g I.env0 (c s us I.U4 d) b h) λr s' a=>?_);cases r with
 |error e=>exact hx AN σ H s e s' I a
 |ok fl=>
  cases fl with
  |ret u=>exact I.after a
  |next=>exact False.elim a
  |brk=>exact False.elim a
  |cont=>exact False.elim a
theorem Vc(F:sW X.prog X.w X.K X.mg X.base CX k f fd ps sp)(i:gY k X.A)(g:Gl X x)(b:X.mg x=Z (.ref f))(hk:keepIn X.K (.ref f)=true)(d:BN X.K fd ps ds)(hd:AX Xw ds)(hx:CA CX X E)
  (a:PA X (e::es) t) (l:fT x:=by decide) (j:A9 (e::es) X.env=(false,eval e X.env)::A9 es X.env:=by rfl) (c:(AD pos (A9 es X.env)).any (·.1)=false:=by rfl):
  PE X (.Call (.Name x p) (e::es) [] pos) (HE sp Xw E t):=by
 intro AN s σ H Q I h;refine kP (Ln I g b ?_ l);refine PySem.W.callWith_K (h₀:=X.base) I.ok.mod.kin hk (gU (a pos AN s σ H _ I h) λus s1 ⟨vs,H1,I1,r,q⟩=>⟨I1.U4,?_⟩) j c;exact Zk F i d hd hx I1 r q
end
section
variable{X:Cx}{CX:Qh}{f:A1}{ks:Au}{sp:Sp}{E:XK}{m:AJ}{p kpos:Pos}{o:Expr}{kws:Y AC}{te ta:TE}{t tk:TA}{nm:S AJ}
variable{g:Y A0->Y A0->Y A0}{gV:Y V->Y V->Y V}
end
structure cj (N P:Au) (sc:Scope):Prop where
 kind:sc.kind=.function
 co:sc.isCoroutine=false
 gen:sc.isGenerator=false
 nd:N.Nodup
 pre:N.take P.length=P
 par:∀x∈P,sc.names.lookup x=some .local\/sc.names.lookup x=some .cell
 Zm:∀y∈sc.names,y.2≠.free
theorem Cv{a:AJ->S NameKind}{x:AJ}:∀{binds:Y (AJ×A0)} {m:AJ->S A0},(∀v,(x,v)∉binds)->bindL a binds m x=m x
 |[],_,_=>rfl
 |(n,v)::r,m,h=>by
  unfold bindL;rw[Cv λw b=>h w (zo _ b)];split
  ·have:x≠n:=by rintro rfl;exact h v zt
   simp[this]
  ·rfl
theorem Cw{a:AJ->S NameKind}{x:AJ}:∀{binds:Y (AJ×A0)} {m:AJ->S A0},(∀v,(x,v)∉binds)->bindC a binds m x=m x
 |[],_,_=>rfl
 |(n,v)::r,m,h=>by
  unfold bindC;rw[Cw λw b=>h w (zo _ b)];split
  ·rfl
  ·have:x≠n:=by rintro rfl;exact h v zt
   simp[this]
theorem Cy{a:AJ->S NameKind}{x:AJ}{v:A0}:∀{P:Au} {vs:Y A0} {i:Nat} {m:AJ->S A0},P.Nodup->P[i]?=Z x->vs[i]?=Z v->a x=Z .local →
  bindL a (P.zip vs) m x=Z v
 |[],_,_,_,_,h,_,_=>by simp at h
 |_::_,[],_,_,_,_,h,_=>by simp at h
 |p::P,w::vs,0,m,nd,h1,h2,hk=>by
  simp at h1 h2;subst h1;subst h2;show bindL a ((p,w)::P.zip vs) m p=_;unfold bindL;rw[Cv λv b=>(bb.mp nd).1 (KF b).1,zh hk];simp
 |p::P,w::vs,i+1,m,nd,h1,h2,hk=>by
  show bindL a ((p,w)::P.zip vs) m x=_;unfold bindL;exact Cy (i:=i) (bb.mp nd).2 (by simpa using h1) (by simpa using h2) hk
theorem Cz{a:AJ->S NameKind}{x:AJ}{v:A0}:∀{P:Au} {vs:Y A0} {i:Nat} {m:AJ->S A0},P.Nodup->P[i]?=Z x->vs[i]?=Z v->a x≠Z .local →
  bindC a (P.zip vs) m x=Z v
 |[],_,_,_,_,h,_,_=>by simp at h
 |_::_,[],_,_,_,_,h,_=>by simp at h
 |p::P,w::vs,0,m,nd,h1,h2,hk=>by
  simp at h1 h2;subst h1;subst h2;show bindC a ((p,w)::P.zip vs) m p=_;unfold bindC;rw[Cw λv b=>(bb.mp nd).1 (KF b).1,zr hk];simp
 |p::P,w::vs,i+1,m,nd,h1,h2,hk=>by
  show bindC a ((p,w)::P.zip vs) m x=_;unfold bindC;exact Cz (i:=i) (bb.mp nd).2 (by simpa using h1) (by simpa using h2) hk
def start(N:Au)(vs:Y V):St:=vs.map Z++aa (N.length-vs.length) O
def zm(CX:Qh)(P:A3)(w:A4)(K:B6)(mg:AJ->S A0)(base:A6)(N:Au)(qual:AJ)(scope:Scope)(f:A1)(a:A0)(A:A5)(outer:Y Env)(s:A2)(H:Hp)(E:XK):Cx where
 prog:=P
 w:=w
 K:=K
 mg:=mg
 base:=base
 A:=A.deeper (AK qual scope s.heap.objs.size f a)
 N:=N
 s₀:=s
 H₀:=H
 env:=AK qual scope s.heap.objs.size f a
 outer:=outer
 stack:=AK qual scope s.heap.objs.size f a::outer
 ex:=[]
 calm:=true
 fn:=λ_=>true
 pn:=[]
 xe:=λe s'=>A7 (A8 P w) (A.deeper (AK qual scope s.heap.objs.size f a)) (leaving (AK qual scope s.heap.objs.size f a) e) (λ_ b=>CX outer H s E e b) (λe' b=>CX outer H s E e' b) s'
theorem G9{a:Scope}(h:a.names.lookup x=Z .cell):∃c,(cellsFrom n a.names []).lookup x=Z c:=by
 have q:=cellsFrom_some a.names n [] (.inl h);exact aE.mp q
theorem Og{CX:Qh}{f:A1}{g:A0}{outer:Y Env}{l:A2}{H:Hp}{E:XK}{vs:Y V}(S:cj N ps scope)(hd:A.handled=O)(e0:Vb P w K mg base A outer s H)(F:vs.length=ps.length)(r:AX vs us)(x:InCallC s s.heap.objs.size (bindL (AK qual scope s.heap.objs.size f g).kindOf (ps.zip us) λ_=>O) (cellsFrom (s.heap.objs.size+1) scope.names []) (bindC (AK qual scope s.heap.objs.size f g).kindOf (ps.zip us) λ_=>O) l):
  AU (zm CX P w K mg base N qual scope f g A outer s H E) [] (start N vs) H l:=by
 have D:ps.length<=N.length:=by have:=congrArg dq S.pre;rw[ZZ]at this;omega
 obtain⟨h1,tk,rfl,hk⟩:=x.done;have j:∀b:A1,b∉(zm CX P w K mg base N qual scope f g A outer s H E).ex:=λb z=>absurd (show b∈([]:Y A1) from z) (by simp);refine⟨⟨e0.mod,S.kind,rfl,rfl,zl _,λy z c h1 h2=>?_,λy d=>?_,λy c _ h=>?_,λ_=>hd,Around.frames_deeper e0.frames,.inr ⟨rfl,rfl⟩,λb z=>absurd z (j b),e0.bs,e0.Uw,λb _ _=>j b,λb z=>absurd z (j b),e0.yj,e0.YF,e0.tabs⟩,
  rfl,e0.bare,Un.kept hk,⟨_,x.toInCall.ns,λi y v h1 h2 C=>?_⟩,λy c h=>⟨_,x.cell y c h⟩,e0.hok.fresh (zl _),λy c h=>?_,λp hp=>absurd (show p∈([]:Y (A1×AE)) from hp) (by simp),e0.hok.kept hk,?_⟩
 ·exact name_of_addr x.apart (QQ h1) (QQ h2)
 ·have d:scope.names.lookup y=Z .cell\/scope.names.lookup y=Z .free:=d;rcases d with d|d
  ·exact G9 d
  ·exact absurd Y3 (S.Zm _ (QQ d))
 ·exact qo (x.above y c (QQ h))
 ·have hi:i<vs.length:=by
   unfold start at h2;by_cases hi:i<vs.length
   ·exact hi
   ·rw[QA (by simpa using hi)]at h2;rw[js]at h2;split at h2<;>cases h2
  have t:vs[i]?=Z v:=by
   unfold start at h2;rw[ZN (by simpa using hi),qv]at h2;cases e:vs[i]? with
   |none=>rw[e]at h2;cases h2
   |some a=>rw[e]at h2;cases h2;rfl
  obtain⟨u,m,B⟩:=r.get t;have hp:ps[i]?=Z y:=by
   rw[<-S.pre,cx ()];exact h1
  have o:ps.Nodup:=by rw[<-S.pre];exact S.nd.sublist (yi _ _)
  refine⟨u,B,?_⟩;rcases S.par y (KA hp)with k|k
  ·exact .inl ⟨k,Cy o hp m k⟩
  ·obtain⟨c,e⟩:=G9 (n:=s.heap.objs.size+1) k;refine .inr ⟨.inl k,c,e,?_⟩;have q:=x.cell y c e;rw[Cz o hp m (by show scope.names.lookup y≠_;rw[k];decide)]at q;exact q
 ·exact e0.hok.fresh (qo (x.above y c (QQ h)))
 ·unfold start;show _=N.length;rw[zC,zg,List.length_replicate];omega
theorem Xx{CX:Qh}{f:A1}{j kV m pm a ct X:A0}{i od:Option A1}{sp:Sp}(L:K.lookup f=Z ⟨X,od,.func (fnOf name qual params body scope j kV m pm i a ct),osl⟩)(M:codeIn K a qual=true)(S:cj N ps scope)(len:∀vs H Q E,sp vs H Q E->vs.length=ps.length)(D:∀(A:A5) (outer:Y Env) (s:A2) (H:Hp) (vs:Y V) (Q:VK) (E:XK),gY k (A.deeper (AK qual scope s.heap.objs.size f a))->sp vs H Q E →
   ∃t,JZ (zm CX P w K mg base N qual scope f a A outer s H E) body t/\t { nx:=λ_ H'=>Q .non H',rt:=Q } (start N vs) H):
  sW P w K mg base CX (k+1) f (fnOf name qual params body scope j kV m pm i a ct) ps sp:=by
 refine⟨len,λA outer s H a0 us vs Q E g e0 C r p=>?_⟩;have U:=len _ _ _ _ p;have h:K.In s.heap:=e0.mod.kin.keeps λb o e=>(e0.bs b o e).1;have G:s.heap.NoLimit:=e0.mod.nolimit.keeps λb o e=>(e0.bs b o e).1;have B:∀y∈ps.zip us,scope.names.lookup y.1=Z .local\/(scope.names.lookup y.1=Z .cell/\((cellsFrom (s.heap.objs.size+1) scope.names []).lookup y.1).isSome=true):=λ⟨n,v⟩ hy=>by
  rcases S.par n (KF hy).1 with q|q
  ·exact .inl q
  ·exact .inr ⟨q,cellsFrom_some _ _ _ (.inl q)⟩
 refine codeAny_call_function g.depth (h _ _ L) Y3 S.co S.gen Y3 (PySem.W.codeRec_of h M) (C _ _ _ _ ?_);refine wpAny_newFunctionEnv_cells S.kind B λenv he z x=>?_;subst he;refine⟨G.keeps x.toInCall.keep,codeAny_func ?_⟩;obtain⟨t,ht,F⟩:=D A outer s H vs Q E (g.deeper _) p;have I:AU (zm CX P w K mg base N qual scope f a A outer s H E) [] (start N vs) H z:=Og S g.hd e0 U r x;refine qB (ht [] z (start N vs) H _ I F) (λfl s' c=>?_) λe s' c=>c;have l:∀{σ':St} {H':Hp} {v:V} {u:A0},AU (zm CX P w K mg base N qual scope f a A outer s H E) [] σ' H' s'->At v u->Q v H'->CE outer P w H s Q u s':=
  λ{σ' H' v u} J d q=>⟨v,H',J.os,J.bare,J.base,J.hok,d,q⟩
 cases fl with
 |ret u=>
  obtain⟨v,σ',H',J,d,q⟩:=c;exact l J d q
 |next=>
  obtain⟨σ',H',J,q⟩:=c;exact l (v:=V.non) (u:=Value.none) J Y3 q
 |brk=>
  obtain⟨_,_,_,q⟩:=c;exact False.elim q
 |cont=>
  obtain⟨_,_,_,q⟩:=c;exact False.elim q
end L2
namespace L2
section
variable{X:Cx}{p:Pos}{t:TA}{id T:String}{r:Y V->Hp->VK->Prop}
def EW(r:Y V->Hp->VK->Prop)(t:TA):TE:=λσ H Q=>t σ H λvs H1=>r vs H1 Q
theorem Qy(g:gW X (.builtin id) r)(f:Gl X x)(c:X.mg x=O)(b:AH x=Z (.builtin id))(a:PA X (e::es) t)(i:x ≠ "__name__":=by decide)(k:fT x:=by decide)
  (j:A9 (e::es) X.env=(false,eval e X.env)::A9 es X.env:=by rfl) (d:(AD pos (A9 es X.env)).any (·.1)=false:=by rfl):PE X (.Call (.Name x p) (e::es) [] pos) (EW r t):=by
 intro AN s σ H Q I h;refine kP (qm I f c b ?_ i k);exact PyProof.Rows.callWith_builtin1 (gU (a pos AN s σ H _ I h) λus s1 ⟨vs,H1,I1,r1,q1⟩=>g AN s1 σ H1 vs us Q I1 r1 q1) j d
theorem Oh(g:gW X (.type T) r)(f:Gl X x)(c:X.mg x=O)(b:AH x=Z (.type T))(a:PA X (e::es) t)(i:x ≠ "__name__":=by decide)(k:fT x:=by decide)
  (j:A9 (e::es) X.env=(false,eval e X.env)::A9 es X.env:=by rfl) (d:(AD pos (A9 es X.env)).any (·.1)=false:=by rfl):PE X (.Call (.Name x p) (e::es) [] pos) (EW r t):=by
 intro AN s σ H Q I h;refine kP (qm I f c b ?_ i k);exact PyProof.Rows.callWith_type1 (gU (a pos AN s σ H _ I h) λus s1 ⟨vs,H1,I1,r1,q1⟩=>g AN s1 σ H1 vs us Q I1 r1 q1) j d
end
end L2
namespace HT
open PySem PyProof.Rows
section
open PySem.SeqAt
open PySem.AutoSeq1 (wpAny_loadPart')
open PySem.MeetsSeq PySem.MeetsSeq2 PySem.MeetsSeq3
end
theorem Ve{t b:A1}{vs a:Y A0}(u:IsTup s.heap t vs.toArray)(p:IsTup s.heap b a.toArray)(h:vs≠[])(h1:a=[]->Q (.ref t) s)(h2:a≠[]->Q (.ref s.heap.objs.size) { s with heap:=s.heap.push { cls:=.type "tuple",data:=.seq (vs++a).toArray } })(q:vs.length+a.length<=AA):A7 (A8 prog w) A (binaryOp .Add (.ref t) (.ref b)) Q E s:=by
 obtain⟨⟨cls,g,data,sl⟩,d,i,n,hd⟩:=id u;obtain⟨⟨cls2,j,v,l⟩,c,o,k,m⟩:=id p;simp only at i hd o m;subst i hd o m;have e:vs.toArray++a.toArray=(vs++a).toArray:=by simp
 by_cases f:a=[]
 ·exact concat_meets ⟨_,d,rfl⟩ ⟨_,c,rfl⟩ noFill_tuple_add seq_tuple_add PySem.F.slot_tuple_add y7 (yB _ _)
   (tuple_addW1 t b vs.toArray a.toArray n k g j sl l (by simpa using h) (by simp[f])) ⟨d,c,h1 f⟩
 ·refine concat_meets ⟨_,d,rfl⟩ ⟨_,c,rfl⟩ noFill_tuple_add seq_tuple_add PySem.F.slot_tuple_add y7 (yB _ _)
   (tuple_addW2 t b vs.toArray a.toArray n k g j sl l (by simpa using h) (by simpa using f) (by rw[zk,zk];exact q)) ⟨d,c,?_⟩
  rw[e];exact h2 f
def gw(n d:Nat):S Int->Nat
 |none=>d
 |some v=>if v<0 then(v+(n:Int)).toNat else min v.toNat n
theorem zp(n d:Nat):gw n d O=d:=rfl
theorem Eh(n d k:Nat):gw n d (Z (k:Int))=min k n:=by
 show(if(k:Int)<0 then((k:Int)+(n:Int)).toNat else min (k:Int).toNat n)=min k n;rw[zr (),JS]
theorem Zn(n d:Nat)(hd:d<=n)(o:S Int):gw n d o<=n:=by
 cases o with
 |none=>exact hd
 |some v=>
  show(if v<0 then(v+(n:Int)).toNat else min v.toNat n)<=n;by_cases a:v<0
  ·rw[zh a];omega
  ·rw[zr a];exact Nat.min_le_right _ _
theorem Lw(v:Int)(n d:Nat):(if v<0 then max (v+(n:Int)) 0 else min v (n:Int))=((gw n d (Z v):Nat):Int):=by
 show(if v<0 then max (v+(n:Int)) 0 else min v (n:Int))=(((if v<0 then(v+(n:Int)).toNat else min v.toNat n):Nat):Int);by_cases a:v<0
 ·simp only[zh a];omega
 ·simp only[zr a];omega
theorem J7(lo hi:S Int)(n:Nat):Builtin.Slice.sliceAdjust lo hi 1 (n:Int)=(((gw n 0 lo:Nat):Int),((gw n n hi:Nat):Int)):=by
 have h1:¬ ((1:Int)<0):=by omega
 unfold Builtin.Slice.sliceAdjust;simp only[h1,qV];refine yT ?_ ?_
 ·cases lo with
  |none=>rfl
  |some v=>exact Lw v n 0
 ·cases hi with
  |none=>rfl
  |some v=>exact Lw v n n
theorem J8(i j:Nat):Builtin.Slice.slicePlaces (i:Int) (j:Int) 1=j-i:=by
 unfold Builtin.Slice.slicePlaces;have h1:(1:Int)>0:=by omega
 simp only[h1,QU,Int.ediv_one];split<;>omega
theorem lD{v:A0}{o:S Int}{Q:S Int->A2->Prop}(p:IsPart v o)(h:Q o s):A7 (A8 prog w) A (Builtin.Slice.slicePartIndex v) Q E s:=by
 cases p with
 |none=>exact slicePart_none h
 |int i t=>exact slicePart_int h
theorem nH{sl:A1}{c a:A0}{Q:Int×Int×Nat->A2->Prop}(hs:s.heap.IsSliceOf sl c a .none)(pl:IsPart c lo)(e:IsPart a hi)(h:Q (((gw n 0 lo:Nat):Int),1,gw n n hi-gw n 0 lo) s):A7 (A8 prog w) A (Builtin.Slice.sliceApplied (.ref sl) (pure (n:Int))) Q E s:=by
 obtain⟨os,b,f,d⟩:=id hs;unfold Builtin.Slice.sliceApplied Builtin.Slice.sliceFields;refine zb (zb (QE b d (x:=c) Y3 (zb (QE b d (x:=a) Y3 (zb (QE b d (x:=.none) Y3 (zd ?_)))))));refine zb (slicePart_none ?_);show A7 _ _ (if((1:Int)==0)=true then _ else _) _ _ s;rw[zr ()];refine zb (lD pl (zb (lD e (zb (zd ?_)))));show A7 _ _ (match Builtin.Slice.sliceAdjust lo hi 1 (n:Int)with|(lo,hi)=>pure (lo,(1:Int),Builtin.Slice.slicePlaces lo hi 1)) _ _ s;rw[J7 lo hi n];show A7 _ _ (pure (((gw n 0 lo:Nat):Int),(1:Int),Builtin.Slice.slicePlaces ((gw n 0 lo:Nat):Int) ((gw n n hi:Nat):Int) 1)) _ _ s;rw[J8];exact zd h
theorem Qz(xs:Array A0)(i k:Nat):((av k).filterMap λ(m:Nat)=>xs[((i:Int)+(m:Int)*1).toNat]?).toArray=((xs.toList.drop i).take k).toArray:=by
 have e:(λ(m:Nat)=>xs[((i:Int)+(m:Int)*1).toNat]?)=λm=>xs[i+m]?:=by
  funext m;have:((i:Int)+(m:Int)*1).toNat=i+m:=by omega
  rw[this]
 rw[e];have:=pick_run xs i k;rw[List.filterMap_map]at this;have e2:((λx=>xs[x]?) ∘ λx=>i+x)=λm=>xs[i+m]?:=rfl;rw[e2]at this;rw[this]
theorem uG{t sl:A1}{d c:A0}(b:IsTup s.heap t items)(hs:s.heap.IsSliceOf sl d c .none)(pl:IsPart d lo)(g:IsPart c hi)(f:¬ (gw items.size 0 lo=0/\gw items.size items.size hi=items.size))(h:Q (.ref s.heap.objs.size) { s with heap:=s.heap.push { cls:=.type "tuple",data:=.seq ((items.toList.drop (gw items.size 0 lo)).take (gw items.size items.size hi-gw items.size 0 lo)).toArray } })(l:items.size<=AA):A7 (A8 prog w) A (getItem (.ref t) (.ref sl)) Q E s:=by
 have a:sizeOk (.seq ((items.toList.drop (gw items.size 0 lo)).take (gw items.size items.size hi-gw items.size 0 lo)).toArray):=by
  show((items.toList.drop (gw items.size 0 lo)).take (gw items.size items.size hi-gw items.size 0 lo)).toArray.size<=AA;rw[zk,ZZ,QY,ZI];omega
 have n:gw items.size items.size hi<=items.size:=Zn _ _ (zl _) hi;obtain⟨os,e,i,o⟩:=id hs;have j:s.TypeIs (.ref sl) "slice":=⟨os,e,i⟩;unfold getItem
 try with_reducible refine Q4 ?_
 first|refine zb (zd ?_)|skip
 refine zb (wpAny_sequenceKey b.typeIs () ?_);refine zb (QO (name:=Str.ofString "__getitem__") b.typeIs PyProof.Rows.slot_tuple_getitem
  (Jn PyProof.Rows.slot_tuple_getitem b.typeIs entry_tuple_getitem ?_ (args_tuple_getitem _ _)))
 show A7 _ _ (Builtin.Tuple.tupleItemsOf (.ref t) >>= _) _ _ s;refine zb (tupleItemsOf_ b ?_);refine zb (Q2 j ?_);rw[zh ()];refine zb (nH hs pl g ?_);have k:¬ ((((gw items.size 0 lo:Nat):Int)==0&&(1:Int)==1&&(gw items.size items.size hi-gw items.size 0 lo)==items.size)=true):=by
  intro q;rw[ZH,ZH]at q;have q1:((gw items.size 0 lo:Nat):Int)=0:=eq_of_beq q.1.1;have q2:gw items.size items.size hi-gw items.size 0 lo=items.size:=eq_of_beq q.2;exact f ⟨by omega,by omega⟩
 show A7 _ _ (if(((gw items.size 0 lo:Nat):Int)==0&&(1:Int)==1&&(gw items.size items.size hi-gw items.size 0 lo)==items.size)=true then _ else _) _ _ s;rw[zr k,Qz]
 first
  |exact zb (m:=Builtin.Tuple.tupleExact _) (qr (zd ⟨_,rfl,zd h⟩) a)
  |exact zb (m:=Builtin.Tuple.tupleExact _) (qr (zb (zd (zd ⟨_,rfl,zd h⟩))) a)
  |exact zb (zb (m:=Builtin.Tuple.tupleExact _) (qr (zd (zd ⟨_,rfl,zd h⟩)) a))
  |exact zb (zb (m:=Builtin.Tuple.tupleExact _) (qr (zd ⟨_,rfl,zd h⟩) a))
end HT
namespace L2
abbrev TO:=St->Hp->(S Int->Hp->Prop)->Prop
def PO(X:Cx)(e:S Expr)(t:TO):Prop:=
 ∀(AN:Y (A1×AE)) (s:A2) (σ:St) (H:Hp) (Q:S Int->Hp->Prop),AU X AN σ H s->t σ H Q →
  A7 (f6 X) X.A (evalPart e X.env) (λu s'=>∃o H',AU X AN σ H' s'/\IsPart u o/\Q o H') X.xe s
def Vf:TO:=λ_ H Q=>Q O H
def IU(t:TE):TO:=λσ H Q=>t σ H λx H1=>∃i,x=.int i/\Q (Z i) H1
section
variable{X:Cx}{te:TE}{lo hi:S Expr}{tl th:TO}
theorem Vg:PO X O Vf:=by
 intro AN s σ H Q I h;rw[evalPart_none];exact zd ⟨O,H,I,.none,h⟩
theorem Vh(h:PE X e te):PO X (Z e) (IU te):=by
 intro AN s σ H Q I a;rw[evalPart_some];refine gU (h AN s σ H _ I a) λu s1 ⟨x,H1,I1,r1,q1⟩=>?_;obtain⟨i,rfl,q⟩:=q1;obtain⟨t,rfl⟩:=r1;exact⟨Z i,H1,I1,.int i t,q⟩
def EE(X:Cx)(r:V->S Int->S Int->Hp->VK->Prop):Prop:=
 ∀(AN:Y (A1×AE)) (s:A2) (σ:St) (H:Hp) (x:V) (v b a:A0) (lo hi:S Int) (sl:A1) (Q:VK),AU X AN σ H s->At x v->s.heap.IsSliceOf sl b a .none->IsPart b lo->IsPart a hi->r x lo hi H Q →
  ∃T id,typeLookup (.type T) "__getitem__"=pure (Z (.builtin id))/\s.TypeIs v T/\A7 (f6 X) X.A (getItem v (.ref sl)) (EP X AN σ Q) X.xe s
def IP(r:V->S Int->S Int->Hp->VK->Prop)(te:TE)(tl th:TO):TE:=λσ H Q=>te σ H λx H1=>tl σ H1 λl H2=>th σ H2 λu a=>r x l u a Q
theorem QC{r:V->S Int->S Int->Hp->VK->Prop}(f:EE X r)(g:PE X e te)(d:PO X lo tl)(j:PO X hi th):PE X (.Subscript e (.Slice lo hi O p2) pos) (IP r te tl th):=by
 intro AN s σ H Q I h;refine Subscript_ (gU (g AN s σ H _ I h) λv s1 ⟨x,H1,I1,r1,q1⟩=>?_);refine wpAny_Slice (gU (d AN s1 σ H1 _ I1 q1) λvl s2 ⟨l,H2,I2,pl,q2⟩=>gU (j AN s2 σ H2 _ I2 q2) λvu s3 ⟨u,H3,I3,pu,q3⟩=>?_);rw[evalPart_none];refine zd ?_;have i:AU X AN σ H3 { s3 with heap:=s3.heap.push { cls:=.type "slice",data:=.fields #[vl,vu,.none] } }:=I3.kept (t':=s3.toks) λb m q=>ze _ q;obtain⟨T,id,a,k,c⟩:=f AN { s3 with heap:=s3.heap.push { cls:=.type "slice",data:=.fields #[vl,vu,.none] } } σ H3 x v vl vu l u s3.heap.objs.size Q i r1 (Heap.IsSliceOf.new ..) pl pu q3;show A7 (f6 X) X.A (subscriptTail e (.Slice lo hi O p2) v (.ref s3.heap.objs.size)) (EP X AN σ Q) X.xe { s3 with heap:=s3.heap.push { cls:=.type "slice",data:=.fields #[vl,vu,.none] } };exact tail_any (ops:=[.ref s3.heap.objs.size,v]) k a c (by with_unfolding_all rfl)
def Hf(xs:Y V)(lo hi:S Int):Y V:=(xs.drop (HT.gw xs.length 0 lo)).take (HT.gw xs.length xs.length hi-HT.gw xs.length 0 lo)
theorem xq(xs:Y V)(lo hi:S Int):(Hf xs lo hi).length<=xs.length:=by
 unfold Hf;rw[ZZ,QY];omega
def OL(K:B6):V->S Int->S Int->Hp->VK->Prop:=λx lo hi H Q=>∃a xs,x=.ref a/\qj K H a xs ∧
 ¬ (HT.gw xs.length 0 lo=0/\HT.gw xs.length xs.length hi=xs.length)/\∀p,H p=O->Q (.ref p) (B7 H p (.tup (Hf xs lo hi)))
theorem Zo:EE X (OL X.K):=by
 intro AN s σ H x v m k lo hi sl Q I g j pl i h;obtain⟨a,xs,rfl,hx,f,q⟩:=h;cases g;obtain⟨AQ,r,e,d⟩:=I.tuple hx;have c:AQ.toArray.size=xs.length:=by rw[zk];exact r.length.symm
 refine⟨"tuple", _,PyProof.Rows.slot_tuple_getitem.lookup,e.typeIs,?_⟩;refine HT.uG e j pl i (by rw[c];exact f) ?_ (by rw[c];exact d);rw[c];refine⟨.ref s.heap.objs.size,_,I.laid (t':=s.toks) (o:=.tup (Hf xs lo hi)) (λb l q=>ze _ q) (zl _) ?_,rfl,q _ (I.hok.fresh (zl _))⟩;exact⟨zi (xq xs lo hi) d,_,(r.drop (HT.gw xs.length 0 lo)).take (HT.gw xs.length xs.length hi-HT.gw xs.length 0 lo),gR.new _ _⟩
def Mc(K:B6):R2:=λx y H Q=>∃a b xs ys,x=.ref a/\y=.ref b/\qj K H a xs/\qj K H b ys/\xs≠[]/\xs.length+ys.length<=AA ∧
 (ys=[]->Q (.ref a) H)/\(ys≠[]->∀p,H p=O->Q (.ref p) (B7 H p (.tup (xs++ys))))
theorem AX.yC{xs:Y V}(r:AX xs us):us=[]↔xs=[]:=by
 cases r with
 |nil=>simp
 |cons _ _=>simp
theorem Vi:vU X (binaryOp .Add) (Mc X.K):=by
 intro AN s σ H x y v u Q I j f h;obtain⟨a,b,xs,ys,rfl,rfl,g,i,hx,e,q1,q2⟩:=h;cases j;cases f;obtain⟨AQ,d,p1,_⟩:=I.tuple g;obtain⟨l,c,p2,_⟩:=I.tuple i;refine HT.Ve p1 p2 (λz=>hx (d.yC.mp z)) (λz=>⟨.ref a,H,I,rfl,q1 (c.yC.mp z)⟩) (λz=>?_) (by rw[<-d.length,<-c.length];exact e);refine⟨.ref s.heap.objs.size,_,I.laid (t':=s.toks) (o:=.tup (xs++ys)) (λb k q=>ze _ q) (zl _) ?_,rfl,q2 (λw=>z (c.yC.mpr w)) _ (I.hok.fresh (zl _))⟩;exact⟨by rw[zC];exact e,_,d.append c,gR.new _ _⟩
end
end L2
namespace L2
def Zq(n:Nat)(i:Int):S Nat:=if 0<=i then(if i<n then Z i.toNat else O)else if -(n:Int)<=i then Z (i+n).toNat else O
def zq(xs:Y α)(i:Int):S α:=(Zq xs.length i).bind λj=>xs[j]?
theorem Vj{i:Int}(h:Zq n i=Z j):seqIndex? i n=Z j/\j<n ∧ -(n:Int)<=i/\i<n:=by
 unfold Zq at h;by_cases a:0<=i
 ·rw[zh a]at h;by_cases h1:i<n
  ·rw[zh h1]at h;have e:i.toNat=j:=JI h;exact⟨by rw[seqIndex_of a h1,e],by omega,by omega,h1⟩
  ·rw[zr h1]at h;cases h
 ·rw[zr a]at h;by_cases h1 : -(n:Int)<=i
  ·rw[zh h1]at h;have e:(i+n).toNat=j:=JI h;exact⟨by rw[seqIndex_neg () h1,e],by omega,h1,by omega⟩
  ·rw[zr h1]at h;cases h
theorem Ei{xs:Y α}{i:Int}{v:α}(h:zq xs i=Z v):∃j,seqIndex? i xs.length=Z j/\xs[j]?=Z v/\j<xs.length ∧ -(xs.length:Int)<=i/\i<xs.length:=by
 unfold zq at h;cases e:Zq xs.length i with
 |none=>rw[e]at h;cases h
 |some j=>
  rw[e]at h;obtain⟨h1,h2,b,a⟩:=Vj e;exact⟨j,h1,h,h2,b,a⟩
def Lx(b:Expr):Prop:=∀o i,subscripted b false o i=operate [o,i] (getItem o i)
def Vl(X:Cx)(r:R2):Prop:=
 ∀(value a:Expr) (AN:Y (A1×AE)) (s:A2) (σ:St) (H:Hp) (x y:V) (v u:A0) (Q:VK),AU X AN σ H s->At x v->At y u->r x y H Q →
  subscripted a false v u=operate [v,u] (getItem v u)->A7 (f6 X) X.A (subscriptTail value a v u) (EP X AN σ Q) X.xe s
def FS(X:Cx)(id:String)(r:V->Y V->Hp->VK->Prop):Prop:=
 ∀(AN:Y (A1×AE)) (s:A2) (σ:St) (H:Hp) (x:V) (xs:Y V) (v:A0) (us:Y A0) (Q:VK),AU X AN σ H s->At x v->AX xs us->r x xs H Q →
  A7 (f6 X) X.A (call (.builtin id) (v::us)) (EP X AN σ Q) X.xe s
section
variable{X:Cx}{a b:Expr}{ta tb:TE}
theorem Vl.or{r b:R2}(h:Vl X r)(h':Vl X b):Vl X (λx y H Q=>r x y H Q\/b x y H Q):=by
 intro value d AN s σ H x y v u Q I c a q e;rcases q with q|q
 ·exact h value d AN s σ H x y v u Q I c a q e
 ·exact h' value d AN s σ H x y v u Q I c a q e
theorem Md{r:R2}(f:Vl X r)(d:PE X a ta)(e:PE X b tb)(hs:Lx b):PE X (.Subscript a b pos) (DJ r ta tb):=by
 intro AN s σ H Q I h;exact Subscript_ (Y7 d e I h λv u j x y H2 g i c q=>f a b AN j σ H2 x y v u Q g i c q (hs _ _))
def Fh(K:B6):R2:=λx y H Q=>∃p xs i v,x=.ref p/\y=.int i/\nF K H p xs/\zq xs i=Z v/\Q v H
def G1(K:B6):R2:=λx y H Q=>∃p xs i v,x=.ref p/\y=.int i/\qj K H p xs/\zq xs i=Z v/\Q v H
def GW:R2:=λx y H Q=>∃z i c,x=.str z/\y=.int i/\z.length<=AA/\zq z.cps.toList i=Z c/\Q (.str ⟨#[c]⟩) H
theorem Vm:Vl X (Fh X.K):=by
 intro value E AN s σ H x y v u Q I n f h c;obtain⟨p,xs,i,z,rfl,rfl,g,o,q⟩:=h;cases n;obtain⟨t,rfl⟩:=f;obtain⟨AQ,r,pl,C⟩:=I.list g;obtain⟨j,h1,h2,B,A,l⟩:=Ei o;obtain⟨w,e,m⟩:=r.get h2;have k:=r.length;have D:=vY;have b:EP X AN σ Q w s:=⟨z,H,I,m,q⟩;by_cases d:0<=i
 ·have a:i.toNat=j:=by
   rw[seqIndex_of d l]at h1;exact JI h1
  exact item_listR pl.isList d () (by rw[a];simpa using e) b c
 ·have a:(i+(AQ.toArray.size:Int)).toNat=j:=by
   rw[seqIndex_neg () A]at h1;rw[zk,<-k];exact JI h1
  exact subscriptTail_builtinR (x:=w) pl.isList.typeIs slot_list_getitem.lookup
   (wpAny_getItem_list_neg (Q:=λr s'=>r=w/\EP X AN σ Q r s') pl.isList () (by rw[zk]<;>omega) () (by rw[a];simpa using e) ⟨rfl,b⟩) c
theorem Zr:Vl X (G1 X.K):=by
 intro value C AN s σ H x y v u Q I f a h l;obtain⟨p,xs,i,z,rfl,rfl,b,g,q⟩:=h;cases f;obtain⟨t,rfl⟩:=a;obtain⟨AQ,r,pl,n⟩:=I.tuple b;obtain⟨j,h1,h2,m,B,A⟩:=Ei g;obtain⟨w,k,e⟩:=r.get h2;have c:=r.length;have o:=vY;have d:EP X AN σ Q w s:=⟨z,H,I,e,q⟩;exact subscriptTail_builtinR (x:=w) pl.typeIs slot_tuple_getitem.lookup
  (getItem_tuple (j:=j) (Q:=λr s'=>r=w/\EP X AN σ Q r s') pl () () (by rw[zk,<-c];exact h1) (by simpa using k) ⟨rfl,d⟩) l
theorem Zt:Vl X GW:=by
 intro value p AN s σ H x y v u Q I e a h k;obtain⟨z,i,c,rfl,rfl,m,f,q⟩:=h;obtain⟨t,rfl⟩:=e;obtain⟨o,rfl⟩:=a;obtain⟨j,h1,h2,l,g,d⟩:=Ei f;have b:z.cps.toList.length=z.length:=by simp[Str.length]
 rw[b]at h1 g d;have n:=vY;exact tail_any (typeIs_str s z t) slot_str_getitem.lookup (getItem_str (c:=c) (by
  have e1:decide (i < -(2 ^ 63:Int))=false:=zI ();have e2:decide (i>=2 ^ 63)=false:=zI ();rw[e1,e2,Bool.or_false]) (by rw[h1];simpa using h2) ⟨.str ⟨#[c]⟩,H,I.tok _,⟨_,rfl⟩,q⟩) k
def LN(K:B6):R2:=λx y H Q=>Fh K x y H Q\/G1 K x y H Q\/GW x y H Q
theorem Zu:Vl X (LN X.K):=Vm.or (Zr.or Zt)
theorem AU.lst{σ:St}{H:Hp}{p:A1}{xs:Y V}(I:AU X AN σ H s)(h:H p=Z (.lst xs)):
  ∃(AQ:Y A0) (n:Nat),AX xs AQ/\s.heap.get? p=Z { cls:=.type "list",data:=.seq AQ.toArray n }/\xs.length<=AA:=by
 obtain⟨z,AQ,n,r,e⟩:=I.hok p _ h;exact⟨AQ,n,r,e,z⟩
theorem Ej(lo hi:S Int)(n:Nat):(sliceBounds lo hi O n).1=((HT.gw n 0 lo:Nat):Int)/\(sliceBounds lo hi O n).2.1=((HT.gw n n hi:Nat):Int)/\(sliceBounds lo hi O n).2.2=1:=by
 refine⟨?_,?_,rfl⟩
 ·cases lo with
  |none=>simp[sliceBounds,HT.gw]
  |some i=>
   simp only[sliceBounds,HT.gw,e8,show(1:Int)>0 by decide,QU];by_cases h:i<0
   ·simp only[h,QU]<;>omega
   ·simp only[h,qV]<;>omega
 ·cases hi with
  |none=>simp[sliceBounds,HT.gw]
  |some i=>
   simp only[sliceBounds,HT.gw,e8,show(1:Int)>0 by decide,QU];by_cases h:i<0
   ·simp only[h,QU]<;>omega
   ·simp only[h,qV]<;>omega
theorem Bw(AQ:Y A0)(lo hi:S Int):slicePick AQ.toArray lo hi O=((AQ.drop (HT.gw AQ.length 0 lo)).take (HT.gw AQ.length AQ.length hi-HT.gw AQ.length 0 lo)).toArray:=by
 obtain⟨h1,h2,a⟩:=Ej lo hi AQ.toArray.size;unfold slicePick;rw[h1,h2,a];simp only[sliceRange_one,pick_run,zk]<;>rfl
def L0(K:B6):V->S Int->S Int->Hp->VK->Prop:=λx lo hi H Q=>∃a xs,x=.ref a/\nF K H a xs/\∀p,H p=O->Q (.ref p) (B7 H p (.lst (Hf xs lo hi)))
theorem Vn:EE X (L0 X.K):=by
 intro AN s σ H x v l j lo hi sl Q I f i pl g h;obtain⟨a,xs,rfl,hx,q⟩:=h;cases f;obtain⟨AQ,r,c,d⟩:=I.list hx;have e:=r.length;refine⟨"list", _,slot_list_getitem.lookup,c.isList.typeIs,?_⟩;refine wpAny_getItem_list_slice c.isList i pl g .none (by simp) ?_ (by rw[zk]<;>omega);rw[Bw,<-e];refine⟨.ref s.heap.objs.size,_,I.laid (t':=s.toks) (o:=.lst (Hf xs lo hi)) (λb k q=>ze _ q) (zl _) ?_,rfl,q _ (I.hok.fresh (zl _))⟩;exact⟨zi (xq xs lo hi) d,_,0,(r.drop (HT.gw xs.length 0 lo)).take (HT.gw xs.length xs.length hi-HT.gw xs.length 0 lo),zz _ rfl⟩
theorem Ek:gW X (.builtin "len") (λxs H Q=>∃p ys,xs=[.ref p]/\(nF X.K H p ys\/qj X.K H p ys)/\Q (.int ys.length) H):=by
 intro AN s σ H xs us Q I r h;obtain⟨p,ys,rfl,a,q⟩:=h;obtain⟨u,rfl,e⟩:=BC r;cases e;have f:=vY;rcases a with a|a
 ·obtain⟨AQ,b,pl,d⟩:=I.list a;have c:=b.length;exact Calls.call_len_list pl.isList (by simp only[zk]<;>omega) ⟨.int ys.length,H,I.tok _,⟨s.toks+1,by rw[zk,c]⟩,q⟩
 ·obtain⟨AQ,b,pl,d⟩:=I.tuple a;have c:=b.length;exact len_tuple pl (by simp only[zk]<;>omega) ⟨.int ys.length,H,I.tok _,⟨s.toks+1,by rw[zk,c]⟩,q⟩
theorem El:gW X (.builtin "len") (λxs H Q=>∃z,xs=[.str z]/\z.length<=AA/\Q (.int z.length) H):=by
 intro AN s σ H xs us Q I r h;obtain⟨z,rfl,b,q⟩:=h;obtain⟨u,rfl,t,rfl⟩:=BC r;have a:=vY;exact len_str () ⟨.int z.length,H,I.tok _,⟨_,rfl⟩,q⟩
theorem gW.or{f:A0}{r b:Y V->Hp->VK->Prop}(h:gW X f r)(h':gW X f b):gW X f (λxs H Q=>r xs H Q\/b xs H Q):=by
 intro AN s σ H xs us Q I a q;rcases q with q|q
 ·exact h AN s σ H xs us Q I a q
 ·exact h' AN s σ H xs us Q I a q
theorem BJ:gW X (.type "tuple") (λxs H Q=>∃p ys,xs=[.ref p]/\((nF X.K H p ys/\∀l,H l=O->Q (.ref l) (B7 H l (.tup ys)))\/(qj X.K H p ys/\Q (.ref p) H))):=by
 intro AN s σ H xs us Q I r h;obtain⟨p,ys,rfl,h⟩:=h;obtain⟨u,rfl,i⟩:=BC r;cases i;rcases h with⟨a,q⟩|⟨a,q⟩
 ·obtain⟨AQ,c,pl,d⟩:=I.list a;have j:=c.length;refine call_tuple_list pl.isList (λh' kp=>?_) (by simp only[zk]<;>omega);have f:AU X AN σ H { s with heap:=h' }:=I.kept (t':=s.toks) kp;have g:AU X AN σ (B7 H h'.objs.size (.tup ys)) { s with heap:=h'.push { cls:=.type "tuple",data:=.seq AQ.toArray } }:=
   f.laid (t':=s.toks) (λb o e=>ze _ e) (zl _) (show gq X.prog X.w _ _ _ (.tup ys) from⟨d,AQ,c,gR.new _ _⟩)
  exact⟨.ref h'.objs.size,_,g,rfl,q _ (f.hok.fresh (zl _))⟩
 ·obtain⟨AQ,c,pl,d⟩:=I.tuple a;exact call_tuple_same pl ⟨.ref p,H,I,rfl,q⟩
def Fn(K:B6)(T:String)(x:V)(H:Hp):Prop:=match x with
 |.str _=>T ="str"
 |.int _=>T ="int"
 |.ref p=>(T ="list" ∧ ∃xs,nF K H p xs)\/(T ="tuple" ∧ ∃o,K.lookup p=Z o/\o.cls=.type "tuple" ∧ o.dict=O) ∨
   (T ="dict" ∧ ((∃AO,H p=Z (.dK AO))\/∃AO,H p=Z (.dT AO)))\/(T ="set" ∧ ∃S n,H p=Z (.set S n))
 |_=>False
theorem Zv{σ:St}{H:Hp}{T:String}{x:V}{v:A0}(I:AU X AN σ H s)(r:At x v)(ty:Fn X.K T x H):
  s.TypeIs v T/\∀a,v=.ref a->∃b,s.heap.get? a=Z b/\b.dict=O:=by
 cases x with
 |str z=>
  obtain⟨t,rfl⟩:=r;cases(show T ="str" from ty);exact⟨typeIs_str s z t,λ_ e=>nomatch e⟩
 |int i=>
  obtain⟨t,rfl⟩:=r;cases(show T ="int" from ty);exact⟨typeIs_int s i t,λ_ e=>nomatch e⟩
 |ref p=>
  cases r;rcases ty with⟨rfl,xs,d⟩|⟨rfl,o,hk,f,hd⟩|⟨rfl,hk⟩|⟨rfl,S,n,hk⟩
  ·obtain⟨AQ,_,pl,_⟩:=I.list d;refine⟨pl.isList.typeIs,λa e=>?_⟩;cases e;obtain⟨o,n,e,c,hd,_⟩:=pl;exact⟨o,e,hd⟩
  ·refine⟨⟨o,I.U4 p o hk,f⟩,λa e=>?_⟩;cases e;exact⟨o,I.U4 _ o hk,hd⟩
  ·have z:∃o,s.heap.get? p=Z o/\o.ExactDict:=by
    rcases hk with⟨AO,hk⟩|⟨AO,hk⟩
    ·obtain⟨_,_,_,_,o,_,_,e,ex,_⟩:=I.hok p _ hk;exact⟨o,e,ex⟩
    ·obtain⟨_,_,_,_,o,_,_,e,ex,_⟩:=I.hok p _ hk;exact⟨o,e,ex⟩
   obtain⟨o,e,ex⟩:=z;refine⟨⟨o,e,ex.1⟩,λa e2=>?_⟩;cases e2;exact⟨o,e,ex.2.1⟩
  ·obtain⟨o,_,_,_,e,ex,_⟩:=I.hok p _ hk;refine⟨⟨o,e,ex.1⟩,λa e2=>?_⟩;cases e2;exact⟨o,e,ex.2.1⟩
 |_=>exact False.elim ty
def I0(K:B6)(T:String)(r:V->Y V->Hp->VK->Prop)(to:TE)(t:TA):TE:=λσ H Q=>to σ H λx H1=>Fn K T x H1/\t σ H1 λxs H2=>r x xs H2 Q
variable{o:Expr}{to:TE}{t:TA}{T id:String}{r:V->Y V->Hp->VK->Prop}
theorem QD(pa:PlainAttrs T)(k:Slot T name id)(l:typeOf (.builtin id)=pure (.type "method_descriptor"))(c:FS X id r)(j:PE X o to)(b:PA X (e::es) t)
  (d:attributeBase o name X.env (eval o X.env)=eval o X.env:=by rfl)
  (g:((AD cpos (A9 (e::es) X.env)).all (λx=>!x.1)&&(backToKw cpos (keywordEach [] X.env)).all (λx=>x.1.isSome)
   && decide ((e::es).length+([]:Y AC).length+(if([]:Y AC).isEmpty then 0 else 1)<30))=true:=by rfl)
  (i:(apos.endLine==cpos.line)=true:=by rfl) (hs:A9 (e::es) X.env=(false,eval e X.env)::A9 es X.env:=by rfl) (f:(AD cpos (A9 es X.env)).any (·.1)=false:=by rfl):
  PE X (.Call (.Attribute o name apos) (e::es) [] cpos) (I0 X.K T r to t):=by
 intro AN s σ H Q I h;refine wpAny_Call_method_late d g i Y3 (gU (j AN s σ H _ I h) λv s1 ⟨x,H1,I1,r1,ty,q1⟩=>?_);obtain⟨h1,h2⟩:=Zv I1 r1 ty;refine⟨T,id,pa,k,l,h1,h2,?_⟩;have a:=b cpos AN s1 σ H1 _ I1 q1;rw[hs]at a ⊢;refine Calls.callWith_builtin (by show(false||(AD cpos (A9 es X.env)).any (·.1))=false;rw[f]<;>rfl) (Calls.evalArgs_plain ?_);exact gU a λus s2 ⟨vs,H2,I2,r2,q2⟩=>c AN s2 σ H2 x vs v us Q I2 r1 r2 q2
end
end L2
namespace L2
def FR(X:Cx)(id:String)(r:V->Y V->Hp->VK->Prop):Prop:=
 ∀(AN:Y (A1×AE)) (s:A2) (σ:St) (H:Hp) (x:V) (xs:Y V) (v:A0) (us:Y A0) (Q:VK),AU X AN σ H s->At x v->AX xs us->r x xs H Q →
  A7 (f6 X) X.A (call (.builtin id) (v::us)) (EP X AN σ Q) X.xe s
theorem AX.one:∀{x:V} {us:Y A0},AX [x] us->∃u,us=[u]/\At x u:=λh=>by
 cases h with
 |cons r t=>cases t;exact⟨_,rfl,r⟩
theorem AX.two:∀{x y:V} {us:Y A0},AX [x,y] us->∃u v,us=[u,v]/\At x u/\At y v:=λh=>by
 cases h with
 |cons r t=>
  cases t with
  |cons q t=>cases t;exact⟨_,_,rfl,r,q⟩
theorem AX.reverse{xs:Y V}(h:AX xs us):AX xs.reverse us.reverse:=by
 induction h with
 |nil=>exact .nil
 |cons r t a=>rw[ym,ym];exact AX.append a (.cons r .nil)
section
variable{X:Cx}{σ:St}{H:Hp}{b:A1}{xs ys zs:Y V}
theorem AU.QF{its':Y A0}{f:Array A0->Array A0}{t':Nat}(I:AU X AN σ H s)(h:H l=Z (.lst xs))(e:s.heap.get? l=Z { cls:=.type "list",data:=.seq AQ.toArray n })(g:f AQ.toArray=its'.toArray)(a:AX ys its')(d:ys.length<=AA):
  AU X AN σ (B7 H l (.lst ys)) { s with heap:=s.heap.update l (Obj.mapSeq f),toks:=t' }:=by
 have q:=PySem.IsL.update e f;rw[g]at q;refine I.write (x:=l) (e:=l) (by rw[h];exact trivial) (.inl Y3) (λi u c b=>(Heap.get?_update_other s.heap (Obj.mapSeq f) (kC c)).trans b) ⟨_,q⟩ ?_;exact⟨d,its',_,a,q⟩
theorem AU.QG(I:AU X AN σ H s)(a:H l=Z (.lst xs)):xs.length<=AA/\∃(AQ:Y A0) (n:Nat),AX xs AQ/\xs.length=AQ.length/\s.heap.get? l=Z { cls:=.type "list",data:=.seq AQ.toArray n }:=by
 obtain⟨z,AQ,n,r,e⟩:=I.hok l _ a;exact⟨z,AQ,n,r,r.length,e⟩
theorem QH(h:n<=AA):Builtin.List.listTooLong n=false:=by
 unfold Builtin.List.listTooLong;exact zI ()
end
section
variable{X:Cx}
def Vo:V->Y V->Hp->VK->Prop:=λx vs H Q=>∃l xs y,x=.ref l/\vs=[y]/\H l=Z (.lst xs)/\xs.length<AA/\Q .non (B7 H l (.lst (xs++[y])))
theorem CG:FR X "list.append" Vo:=by
 intro AN s σ H x vs v us Q I c b h;obtain⟨l,xs,y,rfl,rfl,a,f,q⟩:=h;cases c;obtain⟨u,rfl,d⟩:=b.one;obtain⟨z,AQ,n,r,g,e⟩:=I.QG a;refine call_meets F.slot_list_append ⟨_,e,rfl⟩ F.entry_list_append (F.args_list_append_2 _ _) (PySem.list_append l AQ.toArray n u (by rw[zk];omega)) ⟨e,?_⟩;refine⟨.non,_,I.QF (its':=AQ++[u]) a e (by simp) (r.append (.cons d .nil)) ?_,rfl,q⟩;rw[zC,du];omega
def Vq:V->Y V->Hp->VK->Prop:=λx vs H Q=>∃l b xs zs,x=.ref l/\vs=[.ref b]/\H l=Z (.lst xs)/\H b=Z (.lst zs)/\xs.length+zs.length<=AA/\Q .non (B7 H l (.lst (xs++zs)))
theorem Oi:FR X "list.extend" Vq:=by
 intro AN s σ H x vs v us Q I j f h;obtain⟨l,b,xs,zs,rfl,rfl,c,g,p,q⟩:=h;cases j;obtain⟨u,rfl,m⟩:=f.one;cases m;obtain⟨z,AQ,n,r,t,e⟩:=I.QG c;obtain⟨z2,a,d,o,w,e2⟩:=I.QG g;have i:AQ.toArray.size+a.toArray.size<=AA:=by rw[zk,zk];omega
 have k:¬ (!AQ.toArray.isEmpty&&Builtin.List.listTooLong (AQ.toArray.size+a.toArray.size))=true:=by
  rw[QH i,bI];exact ZO
 refine call_meets F.slot_list_extend ⟨_,e,rfl⟩ F.entry_list_extend (F.args_list_extend_2 _ _)
  (AutoSeq1.list_extend_list_list_0 l AQ.toArray n b a.toArray d k (by rw[zk];omega) ()) ⟨e,e2,?_⟩
 refine⟨.non,_,I.QF (its':=AQ++a) c e (by simp) (r.append o) ?_,rfl,q⟩;rw[zC];omega
end
section
variable{X:Cx}
end
end L2
namespace L2
section
variable [DecidableEq κ]
def BK(AO:Y (κ×V))(k:κ):S V:=(AO.find? λa=>decide (a.1=k)).map (·.2)
def BY(AO:Y (κ×V))(k:κ)(v:V):Y (κ×V):=
 if(AO.any λa=>decide (a.1=k))=true then AO.map (λa=>if a.1=k then(a.1,v)else a)else AO++[(k,v)]
theorem zu{p:κ×V}{r:Y (κ×V)}{k:κ}(e:p.1=k):BK (p::r) k=Z p.2:=by simp[BK,jv,e]
theorem zA{p:κ×V}{r:Y (κ×V)}{k:κ}(e:¬ p.1=k):BK (p::r) k=BK r k:=by simp[BK,jv,e]
theorem Hg(AO:Y (κ×V))(k:κ)(v:V):(BY AO k v).length<=AO.length+1:=by
 unfold BY;split
 ·rw[zg];omega
 ·rw[zC,Z3,dk];omega
theorem KV.val{AO:Y (κ×V)}{vs:Y (κ×A0)}(r:KV AO vs)(k:κ):G5 (BK AO k) (valueAt vs k):=by
 unfold KV at r
 induction r with
 |nil=>exact True.intro
 |@cons p q ps a h t c=>
  obtain⟨h1,h2⟩:=h;by_cases e:p.1=k
  ·have e':q.1=k:=h1.symm.trans e;have b:valueAt (q::a) k=Z q.2:=by simp[valueAt,jv,e']
   rw[zu e,b];exact h2
  ·have e':¬ q.1=k:=λz=>e (h1.trans z);have b:valueAt (q::a) k=valueAt a k:=by simp[valueAt,jv,e']
   rw[zA e,b];exact c
theorem KV.any{AO:Y (κ×V)}{vs:Y (κ×A0)}(r:KV AO vs)(k:κ):(AO.any λa=>decide (a.1=k))=vs.any λa=>decide (a.1=k):=by
 unfold KV at r
 induction r with
 |nil=>rfl
 |cons h t b=>rw[cf,cf,b,h.1]
theorem KV.repl{AO:Y (κ×V)}{vs:Y (κ×A0)}(r:KV AO vs)(k:κ){y:V}(b:At y u):
  KV (AO.map λa=>if a.1=k then(a.1,y)else a) (vs.map λa=>if a.1=k then(a.1,u)else a):=by
 unfold KV at r ⊢
 induction r with
 |nil=>exact .nil
 |@cons p q ps d h t c=>
  rw[zv,zv];refine .cons ?_ c;obtain⟨h1,h2⟩:=h;by_cases e:p.1=k
  ·rw[zh e,zh (h1.symm.trans e)];exact⟨h1,b⟩
  ·rw[zr e,zr (λz=>e (h1.trans z))];exact⟨h1,h2⟩
theorem KV.put{AO:Y (κ×V)}{vs:Y (κ×A0)}(r:KV AO vs)(k:κ){y:V}(a:At y u):KV (BY AO k y) (stored vs k u):=by
 unfold BY stored;rw[r.any k];by_cases e:(vs.any λb=>decide (b.1=k))=true
 ·rw[zh e,zh e];exact r.repl k a
 ·rw[zr e,zr e];exact Paired.snoc r ⟨rfl,a⟩
end
theorem Ly{k:AY}(r:At (kV k) u):(d8 P w).is k u=true:=by
 cases k with
 |inl i=>obtain⟨t,e⟩:=(show ∃t,u=Value.int i t from r);subst e;exact G3 P w i t
 |inr x=>obtain⟨t,e⟩:=(show ∃t,u=Value.str x t from r);subst e;exact G4 P w x t
theorem CJ{P:A3}{w:A4}:∀{ks:Y AY} {us:Y A0},AX (ks.map kV) us->ItemsAre (d8 P w) ks us
 |[],_,r=>by rw[Q3]at r;cases r;exact .nil
 |k::ks,_,r=>by
  rw[zv]at r;cases r with
  |cons h t=>exact .cons (Ly h) (CJ t)
abbrev KT(H:Hp):Y (Y AY×V)->Y (Y AY×A1×A0)->Prop:=AI λp q=>p.1=q.1/\H q.2.1=Z (.tup (p.1.map kV))/\At p.2 q.2.2
theorem KT.val{H:Hp}{AO:Y (Y AY×V)}{xs:Y (Y AY×A1×A0)}(r:KT H AO xs)(k:Y AY):G5 (BK AO k) ((atKey xs k).map (·.2)):=by
 induction r with
 |nil=>exact True.intro
 |@cons p q ps a h t c=>
  obtain⟨h1,_,h2⟩:=h;by_cases e:p.1=k
  ·have e':q.1=k:=h1.symm.trans e;have b:atKey (q::a) k=Z q.2:=by simp[atKey,jv,e']
   rw[zu e,b];exact h2
  ·have e':¬ q.1=k:=λz=>e (h1.trans z);have b:atKey (q::a) k=atKey a k:=by simp[atKey,jv,e']
   rw[zA e,b];exact c
section
variable{H:Hp}
theorem Xy{u:HO}(ok:vR P w H h)(e:Rd H a u):gq P w H h a u:=e.ok ok
theorem xu{AO:Y (AY×V)}(ok:vR P w H h)(e:Rd H a (.dK AO)):AO.length<=AA/\(a==sysModules)=false/\∃vs,KV AO vs/\h.DictOf (d8 P w) a vs:=
 show gq P w H h a (.dK AO) from Xy ok e
theorem QJ{ks:Y AY}(ok:vR P w H h)(e:H a=Z (.tup (ks.map kV))):(tupleKind (d8 P w)).is h ks a:=by
 obtain⟨_,AQ,r,o,h1,h2,⟨n,b⟩,_⟩:=(show gq P w H h a (.tup (ks.map kV)) from ok a _ e);exact⟨o,AQ.toArray,n,h1,h2,b,by simpa using CJ r⟩
theorem Xz{AO:Y (Y AY×V)}(ok:vR P w H h)(e:Rd H a (.dT AO)):AO.length<=AA/\(a==sysModules)=false ∧
  ∃xs,KT H AO xs/\h.DictOfH (tupleKind (d8 P w)) a xs:=by
 obtain⟨z,y,xs,r,o,es,ep,h1,h2,c,g,f⟩:=(show gq P w H h a (.dT AO) from Xy ok e);refine⟨z,y,xs,r,o,es,ep,h1,h2,c,g,λx hx=>?_,f⟩;have all:∀{l:Y (Y AY×V)} {m:Y (Y AY×A1×A0)},KT H l m->∀x∈m,(tupleKind (d8 P w)).is h x.1 x.2.1:=by
  intro l m q
  induction q with
  |nil=>intro x hx;exact nomatch hx
  |@cons p q ps i b t d=>
   intro x hx;rcases List.mem_cons.mp hx with e|hx
   ·subst e;exact QJ ok (by rw[<-b.1];exact b.2.1)
   ·exact d x hx
 exact all r x hx
end
def Zw(H:Hp)(a:A1)(y:V)(r:S V):Prop:=
 (∃AO k,Rd H a (.dK AO)/\y=kV k/\r=BK AO k)\/∃AO k b,Rd H a (.dT AO)/\y=.ref b/\H b=Z (.tup (k.map kV))/\r=BK AO k
section
variable{X:Cx}{σ:St}{H:Hp}{y v:V}{r:A0}{o:S V}
theorem AU.big(I:AU X AN σ H s):sysModules<s.heap.objs.size:=by
 have h:mainGlobals<s.heap.objs.size:=(I.mod.glob.keeps I.bk).lt;exact cy () h
theorem Oj(t:A.units+1<cLine)(I:AU X AN σ H s)(g:Zw H a y (Z v))(n:At y u)(h:∀c s',AU X AN σ H s'->At v c->Q c s'):
  A7 (f6 X) A (getItem (.ref a) u) Q E s:=by
 rcases g with⟨AO,k,e,j,l⟩|⟨AO,k,b,e,j,eb,l⟩
 ·subst j;obtain⟨z,hd,vs,d,f⟩:=xu I.hok e;obtain⟨c,i,m⟩:=G5.some_of (v:=v) (o:=valueAt vs k) (by rw[l];exact d.val k);exact wpAny_getItem_of (Ly n) f.mapOf i (h c _ (I.tok _) m)
 ·subst j;cases(show u=Value.ref b from n);obtain⟨z,hd,xs,d,f⟩:=Xz I.hok e;obtain⟨c,i,m⟩:=G5.some_of (v:=v) (o:=(atKey xs k).map (·.2)) (by rw[l];exact d.val k);obtain⟨p,hp,q⟩:=bc.mp i;refine wpAny_getItem_heap (tupleKind_room_in1 t) (QJ I.hok eb) f hp ?_;rw[q];exact h c _ (I.tok _) m
end
section
variable{X:Cx}{σ:St}{H:Hp}{AO:Y (AY×V)}{k:AY}
end
def Zx(i:Expr):Prop:=∀a iv,subscripted i false a iv=operate [a,iv] (getItem a iv)
theorem Vr{value b:Expr}{T id:String}(l:typeLookup (.type T) "__getitem__"=pure (Z (.builtin id)))(hs:Zx b)(h:A7 (A8 prog w) A (eval value env) (λo f=>A7 (A8 prog w) A (eval b env) (λi a=>a.TypeIs o T/\A7 (A8 prog w) A (getItem o i) Q E a) E f) E s):
  A7 (A8 prog w) A (eval (.Subscript value b pos) env) Q E s:=by
 refine Subscript_ (qB h (λo f j=>qB j (λi a c=>?_) λ_ _ x=>x) λ_ _ x=>x);obtain⟨e,c⟩:=c;unfold subscriptTail;refine zb ?_;rw[getitemInPython_of_ne e.not_modules];refine zb (wpAny_specialOf e l ?_);have d:A7 (A8 prog w) A (subscripted b false o i) (λr g=>A7 (A8 prog w) A (letTemporaryGo value o r >>= λ_=>pure r) Q E g) E a:=by
  rw[hs o i];exact wpAny_operating (qB c (λr g k=>zb (wpAny_letTemporaryGo (zd k))) λ_ _ x=>x)
 first
  |exact zd (zb d)
  |exact zb (zd (zb d))
  |exact zb d
theorem Hh{X:Cx}{σ:St}{H:Hp}{y:V}{o:S V}(I:AU X AN σ H s)(g:Zw H a y o):s.TypeIs (.ref a) "dict":=by
 rcases g with⟨AO,k,e,_,_⟩|⟨AO,k,b,e,_,_,_⟩
 ·obtain⟨_,_,vs,_,c⟩:=xu I.hok e;exact c.typeIs
 ·obtain⟨_,_,xs,_,c⟩:=Xz I.hok e;exact c.typeIs
def Ha(td ty:TE):TE:=λσ H Q=>td σ H λx H1=>ty σ H1 λy H2=>∃a v,x=.ref a/\Zw H2 a y (Z v)/\Q v H2
section
variable{X:Cx}{o i value:Expr}{pos':Pos}{td ty tv:TE}
theorem Vs(d:X.A.units+1<cLine)(b:PE X o td)(hi:PE X i ty)(hs:Zx i):PE X (.Subscript o i pos) (Ha td ty):=by
 intro AN s σ H Q I h;refine Vr PySem.F.slot_dict_getitem.lookup hs (gU (b AN s σ H _ I h) λu s1 ⟨x,H1,I1,rx,q1⟩=>gU (hi AN s1 σ H1 _ I1 q1) λiv s2 ⟨y,H2,I2,ry,a,v,ex,g,q2⟩=>?_);subst ex;obtain rfl:u=Value.ref a:=rx;exact⟨Hh I2 g,Oj d I2 g ry λj f e c=>⟨v,H2,e,c,q2⟩⟩
end
section
variable{X:Cx}
end
def vZ(AO c:Y (AY×V)):Y (AY×V):=c.foldl (λb a=>BY b a.1 a.2) AO
theorem KV.merge:∀{a:Y (AY×V)} {rs:Y (AY×A0)} {AO:Y (AY×V)} {vs:Y (AY×A0)},KV a rs->KV AO vs->KV (vZ AO a) (merged vs rs):=by
 intro a rs AO vs r;unfold KV at r
 induction r generalizing AO vs with
 |nil=>intro q;exact q
 |@cons p q ps d h t b=>
  intro c;have e:KV (BY AO p.1 p.2) (stored vs q.1 q.2):=by
   have:=c.put p.1 h.2;rw[<-h.1];exact this
  exact b e
theorem rY:∀(a AO:Y (AY×V)),(vZ AO a).length<=AO.length+a.length
 |[],AO=>by show AO.length<=AO.length+0;omega
 |p::r,AO=>by
  have h1:=rY r (BY AO p.1 p.2);have h2:=Hg AO p.1 p.2;show(vZ (BY AO p.1 p.2) r).length<=_;rw[Z3];omega
structure M1 (X:Cx) (o:Expr) (m:Str) (apos:Pos) (e:Expr) (cpos:Pos):Prop where
 base:attributeBase o m X.env (eval o X.env)=eval o X.env
 few:((backTo cpos (starEach [e] X.env)).all (λx=>!x.1)&&(backToKw cpos (keywordEach [] X.env)).all (λx=>x.1.isSome)
  && decide (([e]:List Expr).length+([]:List Keyword).length+(if([]:List Keyword).isEmpty then 0 else 1)<30))=true
 line:(apos.endLine==cpos.line)=true
 trees:backTo cpos (starEach [e] X.env)=[(false,eval e X.env)]
structure M2 (X:Cx) (o:Expr) (m:Str) (apos:Pos) (e f:Expr) (cpos:Pos):Prop where
 base:attributeBase o m X.env (eval o X.env)=eval o X.env
 few:((backTo cpos (starEach [e,f] X.env)).all (λx=>!x.1)&&(backToKw cpos (keywordEach [] X.env)).all (λx=>x.1.isSome)
  && decide (([e,f]:List Expr).length+([]:List Keyword).length+(if([]:List Keyword).isEmpty then 0 else 1)<30))=true
 line:(apos.endLine==cpos.line)=true
 trees:backTo cpos (starEach [e,f] X.env)=[(false,eval e X.env),(false,eval f X.env)]
section
variable{X:Cx}{σ:St}{H:Hp}{y d:V}{r:A0}{o:S V}
end
section
variable{X:Cx}{o f:Expr}{td ty tx:TE}
end
section
variable{X:Cx}{σ:St}{H:Hp}{AO:Y (AY×V)}
end
section
variable{X:Cx}{σ:St}{H:Hp}{y:V}
end
end L2
namespace Att
open PySem PySem.W PySem.Calls PyProof.Rows
theorem yp{P:Params}:∀(c:Y Int) (vs:Y A0),WellAll P h vs (c.map WData.int)->IntsAre vs c:=by
 intro c
 induction c with
 |nil=>
  intro vs w;rw[Q3]at w;cases w;exact .nil
 |cons n c d=>
  intro vs w;rw[zv]at w;cases w with
  |cons a b=>
   cases a;exact .cons _ _ (d _ b)
theorem Ol{l:OpenLaw}(s:l.most=Z n){P:Params}{args:Y WData}{g:Y A0}(i:l.row.toRowW.claim.pre args=true)(k:WellAll P h g args):
  ∃a vs b,g=[Value.ref a]/\args=[WData.list (b.map WData.int)]/\h.get? a=Z { cls:=.type "list",data:=.seq vs.toArray }/\IntsAre vs b/\b.length<=n:=by
 have o:WShape.hasAll [] args [.list .int]=true:=(pre_splitW i).1;have f:l.pre.holds [] { args:=args }=true:=(pre_splitW i).2;obtain⟨d,r,rfl,h1,h2⟩:=hasAllW_cons o;obtain rfl:=hasAllW_nil h2;obtain⟨xs,rfl,m⟩:=hasW_list h1;obtain⟨b,rfl⟩:=items_int m;have u:b.length<=n:=by
  unfold OpenLaw.pre at f;have e:(WTm.not (.lt (.lit (.int (n:Int))) (.len (.arg 0)))).holds [] { args:=[.list (b.map .int)] }=true:=by
   have e:=(holds_andW f).1;rw[s]at e;exact e
  have c:=condW_of e (w_not (w_lt w_lit (w_len_list (w_arg Y3))));rw[zg]at c;refine cz λq=>?_;have t:(n:Int)<((b.length:Nat):Int):=by omega
  first
   |(rw[z5 t]at c;exact absurd c ())
   |(simp at c;omega)
 cases k with
 |cons p j=>
  cases j;cases p with
  |list v w=>exact⟨_,_,b,rfl,rfl,v,yp b _ w,u⟩
theorem Om(l:OpenLaw)(args:Y WData):l.row.toRowW.claim.post args (.bool true) args=true:=
 postW_of (r:=l.row.toRowW) (X:=(true==true))
  (show WShape.has [] (.bool true) .bool=true by first|rfl|decide|simp[WShape.has,WShape.arms,WShape.armsAll])
  (show(WTm.eq .res (.lit (.bool true))).value [] { args:=args,res:=Z (.bool true),after:=args }=Z (.bool (true==true)) from w_eq_bool (w_res Y3) w_lit) rfl
theorem Hi{l:OpenLaw}{q:A3}{loose:Au}{d:DefRec}(z:l.most=Z n)(C:d.params.defaults=[])(call:∀(w:A4) (h b:A2) (mg g:AJ->S A0) (fa:A1) (o:AE) (pm c i:A0) (a:A1) (vs:List A0) (e:List Int),
   Ground q loose [] XP w h mg g b.heap->YP w b.heap →
   b.heap.get? fa=Z o->o.data=.func (docDef d.name d.params d.body d.scope pm c i)->b.heap.CodeRec c d.name->mg d.name=Z (.ref fa) →
   b.heap.get? a=Z { cls:=.type "list",data:=.seq vs.toArray }->IntsAre vs e->e.length<=n->b.gens=#[] →
   AF (A8 l.prog w) callerA (.call (.ref fa) ⟨[.ref a],[]⟩) (λr s'=>r=.ok (.ret (.bool true))/\OldK b.heap s'.heap/\s'.os=b.os/\AllBare s'.gens) b):
  WalkO q loose XP YP l.row.toRowW d [] (λf vs=>PySem.call f vs):=by
 intro w h b mg g G Y fa o pm c i p kV t hd E j m y I H as v K L B J;obtain rfl:p=.none:=Dflts.none j C;obtain rfl:kV=.none:=Dflts.noKw j;obtain⟨a,vs,e,rfl,rfl,A,s,F⟩:=Ol z v B;refine enter_call (codeAny_mono (call w h b mg g fa o pm c i a vs e G Y t (fd_plain hd) E m A s F y) λr s' x=>?_);obtain⟨rfl,h2,k,u⟩:=x;exact⟨.inl ⟨.bool true,.bool true,[],rfl,λ_=>Y3,.bool true,Om l _,λ_=>⟨List.Pairwise.nil,λ_ D=>(nomatch D)⟩⟩,h2,k,u⟩
section
variable{K:Frag}
end
end Att
namespace L2
theorem qU:∀{vs:Y A0} {a:Y Int},IntsAre vs a->AX (a.map V.int) vs
 |_,_,.nil=>.nil
 |_,_,.cons n t h=>.cons ⟨t,rfl⟩ (qU h)
def CO(H:Hp):Prop:=∀b,H b=O\/(∃o xs,H b=Z (.j7 o (.lst xs)))\/∃ps,H b=Z (.DX ps)
structure QK (K:B6) (h:Heap) (TL:List (Addr×Array Value)):Prop where
 all:∀P q,YC K P q->∃ps,TL.lookup P=some ps/\tq ps=q/\0<ps.size
 ok:∀P ps,TL.lookup P=some ps->K.lookup P=none/\h.get? P=some { cls:=.none,data:=.fields #[] }/\isCodeTable h P/\tr ps=#[]
theorem QL{D:AJ->S A0}{CX:Qh}{fa:A1}{sp:Sp}{c:A2}{vs:Y A0}{A:Y Int}{f:Y (A1×Array A0)}(I:K.In c.heap)(U:c.heap.Ns mainGlobals mg)(i:c.heap.Ns builtinsNs D)(a5:∀x:AJ,x ≠ "__name__" → D x=AH x)(a9:c.heap.NoLimit)(b7:∃p j,mg "__builtins__"=Z (.ref p)/\p≠builtinsNs/\c.heap.get? p=Z j/\j.cls=.type "module" ∧ j.dict=Z builtinsNs/\j.data=.plain)(hg:c.gens=#[])(t:c.heap.get? a=Z { cls:=.type "list",data:=.seq vs.toArray })(hi:IntsAre vs A)(X:A.length<=AA)(hr:gY k callerA)(F:∀base:A6,K.In base->base.Ns mainGlobals mg->sW P w K mg base CX k fa fd [x] sp)(a8:∀(s:A2) (u:A0),BindsTo s fd ⟨[u],[]⟩ [(x,u)])(a7:∀H:Hp,CO H->nF K H a (A.map V.int)->sp [.ref a] H (λv _=>v=.bl true) λ_ _ _=>False)(a2:∀H e s',CX [] H c (λ_ _ _=>False) e s'->False)(T:QK K c.heap f):
  AF (A8 P w) callerA (.call (.ref fa) ⟨[.ref a],[]⟩) (λr s'=>r=.ok (.ret (.bool true))/\OldK c.heap s'.heap/\s'.os=c.os/\AllBare s'.gens) c:=by
 have L:=qU hi;have b0:=hi.length;have M:f.lookup a=O:=by
  cases e:f.lookup a with
  |none=>rfl
  |some ps=>
   have q:=(T.ok a ps e).2.1;rw[t]at q;cases q
 have tok:∀(H:Hp) (b:A1) (ps:Array A0),f.lookup b=Z ps->gq P w H c.heap b (.DX ps):=λH b ps e=>by
  obtain⟨_,g,_,z⟩:=T.ok b ps e;refine⟨#[],by rw[z];exact g,?_,λpos cv q=>?_⟩
  ·rw[z];simp[TriplesOk]
  ·rw[z]at q;cases q
 have N:∀H:Hp,CO H->nF K H a (A.map V.int)->vR P w H c.heap->(∀b,H b≠O->b=a\/∃ps,f.lookup b=Z ps)->(∀b ps,f.lookup b=Z ps->H b=Z (.DX ps))->(H a≠O->K.lookup a=O) →
   AF (A8 P w) callerA (.call (.ref fa) ⟨[.ref a],[]⟩) (λr s'=>r=.ok (.ret (.bool true))/\OldK c.heap s'.heap/\s'.os=c.os/\AllBare s'.gens) c:=by
  intro H Q hS E B a3 hK;have G:∀{b:A1} {o:AE},c.heap.get? b=Z o->H b=O->(DY c.heap H).get? b=Z o:=λe n=>Qm e n;have Vd:∀{b:A1} {o:AE} {es:Array DictEntry} {ep:Nat},c.heap.get? b=Z o->o.data=.dict es ep->H b=O:=λ{b o es ep} e d=>by
   cases q:H b with
   |none=>rfl
   |some u=>
    rcases B b (by rw[q];simp)with e'|⟨ps,e'⟩
    ·subst e';rw[t]at e;cases e;have d':Data.seq vs.toArray _=Data.dict es ep:=d;cases d'
    ·rw[(T.ok b ps e').2.1]at e;cases e;cases d
  have C:∀{b:A1} {m:AJ->S A0},c.heap.Ns b m->(DY c.heap H).Ns b m:=λ{b m} ⟨o,es,ep,e,d,r⟩=>⟨o,es,ep,G e (Vd e d),d,r⟩;have a0:K.In (DY c.heap H):=λb o e=>G (I b o e) (by
   cases q:H b with
   |none=>rfl
   |some u=>
    rcases B b (by rw[q];simp)with e'|⟨ps,e'⟩
    ·subst e';rw[hK (by rw[q];simp)]at e;cases e
    ·rw[(T.ok b ps e').1]at e;cases e)
  have hM:Mod K mg (DY c.heap H):=⟨a0,C U,⟨D,C i,a5⟩,let ⟨mc,h1,h2⟩:=a9;⟨mc,C h1,h2⟩,let ⟨p,j,b1,b2,b3,b4,b5,b6⟩:=b7;⟨p,j,b1,b2,G b3 (by
   cases q:H p with
   |none=>rfl
   |some u=>
    rcases B p (by rw[q];simp)with e'|⟨ps,e'⟩
    ·subst e';rw[t]at b3;cases b3;injection b4 with z;exact absurd z ()
    ·rw[(T.ok p ps e').2.1]at b3;cases b3;cases b4),b4,b5,b6⟩⟩
  have e0:Vb P w K mg (DY c.heap H) callerA [] c H:=⟨rfl,hM,λb o e=>UL e,bo (N7 _ _),trivial,λb i=>absurd (show b∈([]:Y A1) from i) (by simp),E,.of_eq hg,λP q k=>by
   obtain⟨ps,l,r⟩:=T.all P q k;exact⟨ps,a3 P ps l,r⟩⟩
  refine codeAny_mono ((F _ a0 (C U)).run callerA [] c H ⟨[.ref a],[]⟩ [.ref a] [.ref a] _ _ hr e0 (a8 c (.ref a)) (.cons Y3 .nil) (a7 H Q hS)) λr s' h=>?_;cases r with
  |error e=>exact(a2 H e s' h).elim
  |ok fl=>
   cases fl with
   |next=>exact False.elim h
   |brk=>exact False.elim h
   |cont=>exact False.elim h
   |ret u=>
    obtain⟨v,H',os,a6,un,W,r',q⟩:=h;have q':v=.bl true:=q;subst q';obtain rfl:u=Value.bool true:=r';have J:∀b o,c.heap.get? b=Z o->s'.heap.get? b=Z o\/(isCodeTable c.heap b/\o.cls=.none/\∃vs a1,o.data=.fields vs/\s'.heap.get? b=Z { o with data:=.fields (vs++a1) }):=λb o e=>by
     cases q:H b with
     |none=>exact .inl (un.keep b o e q (by intro z;exact absurd (show b∈([]:Y A1) from z) (by simp)) (by simp))
     |some u=>
      rcases Q b with z|⟨j,xs,z⟩|⟨ps,z⟩
      ·rw[q]at z;cases z
      ·have z2:=un.yh b j _ z;obtain⟨e1,_⟩:=E b _ z;obtain⟨e2,_⟩:=W b _ z2;rw[e]at e1;cases e1;exact .inl e2
      ·rcases B b (by rw[q];simp)with e'|⟨a4,e'⟩
       ·subst e';obtain⟨a1,g,_⟩:=E b _ z;rw[t]at g;cases g
       ·obtain⟨_,g,ct,_⟩:=T.ok b a4 e';rw[e]at g;cases g;obtain⟨m1,z2⟩:=un.sV b ps z;obtain⟨m2,g2,_⟩:=W b _ z2;exact .inr ⟨ct,rfl,#[],_,rfl,by rw[g2,Array.empty_append]⟩
    refine⟨rfl,⟨λb o e=>(J b o e).imp id .inl,λb o e=>?_⟩,os,a6⟩;rcases J b o e with z|⟨_,_,_,_,_,z⟩<;>exact⟨_,z⟩
 cases hk:K.lookup a with
 |some o=>
  have e:=I a o hk;rw[t]at e;cases e;refine N (λb=>(f.lookup b).map .DX) (λb=>?_) (.inr ⟨_,vs.toArray,_,hk,rfl,rfl,rfl,by rw[zk,b0];exact X,by simpa using L⟩) (λb u z=>?_) (λb z=>?_) (λb ps e=>by show(f.lookup b).map _=_;rw[e];rfl) λz=>absurd (by show(f.lookup a).map _=O;rw[M];rfl) z
  ·cases e:f.lookup b with
   |none=>exact .inl (by show(f.lookup b).map HO.DX=O;rw[e];rfl)
   |some ps=>exact .inr (.inr ⟨ps,by show(f.lookup b).map HO.DX=_;rw[e];rfl⟩)
  ·have z:(f.lookup b).map HO.DX=Z u:=z;cases e:f.lookup b with
   |none=>rw[e]at z;cases z
   |some ps=>rw[e]at z;cases z;exact tok _ b ps e
  ·cases e:f.lookup b with
   |none=>exact absurd (by show(f.lookup b).map HO.DX=O;rw[e];rfl) z
   |some ps=>exact .inr ⟨ps,rfl⟩
 |none=>
  refine N (λb=>if b=a then Z (.j7 { cls:=.type "list",data:=.seq vs.toArray } (.lst (A.map V.int)))else(f.lookup b).map .DX) (λb=>?_) (.inl (.inr ⟨{ cls:=.type "list",data:=.seq vs.toArray },zh rfl⟩)) (λb u z=>?_) (λb z=>?_) (λb ps e=>?_) λ_=>hk
  ·by_cases i:b=a
   ·exact .inr (.inl ⟨_,_,zh i⟩)
   ·cases e:f.lookup b with
    |none=>exact .inl ((zr i).trans (by rw[e];rfl))
    |some ps=>exact .inr (.inr ⟨ps,(zr i).trans (by rw[e];rfl)⟩)
  ·by_cases i:b=a
   ·have y:=(zh i).symm.trans z;cases y;subst i;exact⟨t,by rw[zg];exact X,vs,_,L,t⟩
   ·have y:=(zr i).symm.trans z;cases e:f.lookup b with
    |none=>rw[e]at y;cases y
    |some ps=>rw[e]at y;cases y;exact tok _ b ps e
  ·by_cases i:b=a
   ·exact .inl i
   ·cases e:f.lookup b with
    |none=>exact absurd ((zr i).trans (by rw[e];rfl)) z
    |some ps=>exact .inr ⟨ps,rfl⟩
  ·have i:b≠a:=λz=>by rw[z,M]at e;cases e
   exact(zr i).trans (by rw[e];rfl)
end L2
namespace L2
theorem Vt{l:PySem.W.OpenLaw}{q:A3}{loose:Au}{d:DefRec}{K:Params->B6}{CX:A4->Qh}{sp:A4->Sp}(M:l.most=Z n)(U:n<=AA)(a0:d.params.defaults=[])(I:gY k callerA)(P:∀(w:A4) (h:A6),YP w h->(K w.params).In h)(F:∀(w:A4) (mg:AJ->S A0) (fa:A1) (h:A6),(K w.params).In h->h.Ns mainGlobals mg->mg d.name=Z (.ref fa) →
   ∃fd:FuncData,(∀(s:A2) (u:A0),BindsTo s fd ⟨[u],[]⟩ [(x,u)]) ∧
    ∀base:A6,(K w.params).In base->base.Ns mainGlobals mg->sW l.prog w (K w.params) mg base (CX w) k fa fd [x] (sp w))(L:∀(w:A4) (H:Hp) (a:A1) (c:List Int),c.length<=n->CO H->nF (K w.params) H a (c.map V.int)->sp w [.ref a] H (λv _=>v=.bl true) λ_ _ _=>False)(C:∀(w:A4) (H:Hp) (s:A2) (e:A0) (s':A2),CX w [] H s (λ_ _ _=>False) e s'->False)(X:∀(w:A4) (h:A6) (mg j:AJ->S A0) (z:ExcName->S A0) (t:Au),(K w.params).In h->Top q t z mg j h->∃m,QK (K w.params) h m):
  PySem.W.WalkO q loose XP YP l.row.toRowW d [] (λf vs=>PySem.call f vs):=by
 refine Att.Hi M a0 λw a1 N mg j fa o pm cd a2 a vs c G Y ho hd a3 y Q A p J=>?_;have i:=P w _ Y;obtain⟨fd,E,B⟩:=F w mg fa _ i G.T.g y;obtain⟨m,tl⟩:=X w _ _ _ _ _ i G.T;exact QL i G.T.g G.T.b G.T.builtins G.T.nolimit G.T.bmain J Q A (zi p U) I B E (λH D hS=>L w H a c p D hS) (λH e s'=>C w H N e s') tl
theorem QM{l:PySem.W.OpenLaw}{q:A3}{loose:Au}{d:DefRec}{K:Params->B6}{CX:Qh}{sp:B6->Sp}(p:l.most=Z n)(B:n<=AA)(m:d.params.defaults=[])(t:gY k callerA)(z:∀(w:A4) (h:A6),YP w h->(K w.params).In h)(F:∀(w:A4) (mg:AJ->S A0) (fa:A1) (h:A6),(K w.params).In h->h.Ns mainGlobals mg->mg d.name=Z (.ref fa) →
   ∃fd:FuncData,(∀(s:A2) (u:A0),BindsTo s fd ⟨[u],[]⟩ [(x,u)]) ∧
    ∀base:A6,(K w.params).In base->base.Ns mainGlobals mg->sW l.prog w (K w.params) mg base CX k fa fd [x] (sp (K w.params)))(o:∀(K:B6) (H:Hp) (a:A1) (b:Y Int),b.length<=n->CO H->nF K H a (b.map V.int)->sp K [.ref a] H (λv _=>v=.bl true) λ_ _ _=>False)(C:∀(H:Hp) (s:A2) (e:A0) (s':A2),CX [] H s (λ_ _ _=>False) e s'->False)(i:∀(w:A4) (h:A6) (mg c:AJ->S A0) (y:ExcName->S A0) (g:Au),(K w.params).In h->Top q g y mg c h->∃A,QK (K w.params) h A):
  PySem.W.WalkO q loose XP YP l.row.toRowW d [] (λf vs=>PySem.call f vs):=
 Vt (K:=K) (CX:=λ_=>CX) (sp:=λw=>sp (K w.params)) p B m t z F (λw H a b h1 h2 j=>o (K w.params) H a b h1 h2 j) (λ_ H s e s'=>C H s e s') i
end L2
namespace L2
def oA(s:AB):Arguments:=match s with
 |.FunctionDef _ a _ _ _ _ _ _ _ _=>a
 |_=>{ posonlyargs:=[],args:=[],vararg:=O,kwonlyargs:=[],kw_defaults:=[],kwarg:=O,defaults:=[] }
def gF(s:AB):Y AB:=match s with
 |.FunctionDef _ _ b _ _ _ _ _ _ _=>b
 |_=>[]
def aQ(s:AB):Scope:=match s with
 |.FunctionDef _ _ _ _ _ _ a _ _ _=>a
 |_=>{ kind:=.function,names:=[],isGenerator:=false,isCoroutine:=false }
abbrev Hj:Qh:=λ_ _ _ _ _ _=>False
abbrev E0:XK:=λ_ _ _=>False
theorem He{X:Cx}:CA Hj X E0:=λ_ _ _ _ _ _ _ h=>h.elim
structure Uy (K:B6) (x qual:Str) (st:Stmt) (f:Addr) (fd:FuncData):Prop where
 ex:∃(oc:Value) (od:Option Addr) (kV doc pm:Value) (an:Option Addr) (cdv ct:Value) (osl:Array (Option Value)),
  fd=fnOf x qual (oA st) (gF st) (aQ st) .none kV doc pm an cdv ct/\K.lookup f=some ⟨oc,od,.func fd,osl⟩/\codeIn K cdv qual=true
 kp:keepIn K (.ref f)=true
theorem Uy.ok{f:A1}{sp:Sp}(F:Uy K x qual st f fd)(S:cj N ps (aQ st))(len:∀vs H Q E,sp vs H Q E->vs.length=ps.length)(e:∀(a:A0) (A:A5) (outer:Y Env) (s:A2) (H:Hp) (vs:Y V) (Q:VK) (E:XK),gY k (A.deeper (AK qual (aQ st) s.heap.objs.size f a))->sp vs H Q E →
   ∃t,JZ (zm Hj P w K mg base N qual (aQ st) f a A outer s H E).Ux (gF st) t/\t { nx:=λ_ H'=>Q .non H',rt:=Q } (start N vs) H):sW P w K mg base Hj (k+1) f fd ps sp:=by
 obtain⟨j,l,kV,m,pm,i,a,ct,osl,rfl,g,b⟩:=F.ex;refine Xx g b S len λA outer s H vs Q E d c=>?_;obtain⟨t,h,q⟩:=e a A outer s H vs Q E d c;exact⟨t,h.Ux,q⟩
theorem Uy.binds{f:A1}(F:Uy K x qual st f fd)(h:∀(kV c pm:A0) (a:S A1) (b ct:A0) (us:Y A0),us.length=ps.length->bindArgs (fnOf x qual (oA st) (gF st) (aQ st) .none kV c pm a b ct) ⟨us,[]⟩=pure (ps.zip us)):BN K fd ps []:=by
 obtain⟨e,g,kV,c,pm,a,b,ct,osl,rfl,i,d⟩:=F.ex;exact .all (h kV c pm a b ct)
theorem QS{f:A1}{e:A0}{g b:S A1}{kV d pm a ct:A0}(l:K.lookup f=Z ⟨e,g,.func (fnOf x qual (oA st) (gF st) (aQ st) .none kV d pm b a ct),osl⟩)(c:codeIn K a qual=true)(k:keepIn K (.ref f)=true):Uy K x qual st f (fnOf x qual (oA st) (gF st) (aQ st) .none kV d pm b a ct):=⟨⟨e,g,kV,d,pm,b,a,ct,osl,rfl,l,c⟩,k⟩
section
variable{X:Cx}
theorem pv(i:Nat)(a:X.N[i]?=Z x:=by rfl)(b:Uv X.env.scope x:=by first|exact Kb rfl|exact ke (Kb Y3)|exact ke (ke Y3))(hd:fT x:=by decide)(c:(x==("__classdict__":AJ))=false:=by decide):PE X (.Name x pos) (G2 i):=za a b hd c
end
def AV(H H':Hp):Prop:=∀b o,H b=Z o->H' b=Z o
theorem AV.refl(H:Hp):AV H H:=λ_ _ h=>h
theorem AV.trans{H H1 H2:Hp}(a:AV H H1)(b:AV H1 H2):AV H H2:=λc o h=>b c o (a c o h)
theorem AV.free{H H':Hp}(e:AV H H')(h:H' l=Option.none):H l=Option.none:=by
 cases q:H l with
 |none=>rfl
 |some o=>
  rw[e l o q]at h;cases h
theorem AV.seq{H H':Hp}{xs:Y V}(e:AV H H')(h:nF K H a xs):nF K H' a xs:=by
 rcases h with (h|⟨o,h⟩)|h
 ·exact .inl (.inl (e _ _ h))
 ·exact .inl (.inr ⟨o,e _ _ h⟩)
 ·exact .inr h
end L2
variable{xs:Y L2.V}{H:L2.Hp}{o:L2.HO}{X:L2.Cx}{σ:L2.St}{ta te:L2.TE}{J:L2.It}{vs:Y L2.V}{sp:L2.Sp}{ks:Y (L2.AY×L2.V)}{H0 Hs:L2.Hp}{bZ:Y (Y L2.AY)}
namespace P1
open L2
inductive Dt where
 |non|bl (b:Bool)|int (i:Int)|str (x:Str)|tup (xs:List Dt)|lst (xs:List Dt)|emp
inductive Bx where
 |z (d:Dt)|l (ds:List Dt)|o (ds:List Dt)|n (AO:List (AY×Dt))|m (AO:List (AY×Dt)) (w:Option Addr)
abbrev Ev:=Y (S Bx)
def DT(K:B6)(H:Hp)(a:A1)(xs:Y V):Prop:=
 (∃o,H a=Z (.j7 o (.lst xs))) ∨
  ∃(o:AE) (AQ:Array A0) (n:Nat),K.lookup a=Z o/\o.cls=.type "list" ∧ o.dict=O/\o.data=.seq AQ n/\AQ.size<=AA/\AX xs AQ.toList
theorem DT.sq(h:DT K H a xs):nF K H a xs:=by
 rcases h with h|h
 ·exact .inl (.inr h)
 ·exact .inr h
mutual
def AW(K:B6)(H:Hp):Dt->V->Prop
 |.non,v=>v=.non
 |.bl b,v=>v=.bl b
 |.int i,v=>v=.int i
 |.str x,v=>v=.str x/\x.length<=AA
 |.tup ds,v=>∃a vs,v=.ref a/\qj K H a vs/\aF K H ds vs
 |.lst ds,v=>∃a vs,v=.ref a/\DT K H a vs/\aF K H ds vs
 |.emp,v=>∃a o,v=.ref a/\H a=Z (.j7 o (.dK []))
def aF(K:B6)(H:Hp):Y Dt->Y V->Prop
 |[],vs=>vs=[]
 |d::ds,vs=>∃v r,vs=v::r/\AW K H d v/\aF K H ds r
end
structure Kp (H H':Hp):Prop where
 t:∀a xs,H a=some (.tup xs)->H' a=some (.tup xs)
 f:∀a o u,H a=some (.j7 o u)->H' a=some (.j7 o u)
theorem Kp.of{H':Hp}(s:AV H H'):Kp H H':=⟨λa _ h=>s a _ h,λa _ _ h=>s a _ h⟩
theorem Kp.sqT{H':Hp}(k:Kp H H')(h:qj K H a xs):qj K H' a xs:=by
 rcases h with (h|⟨o,h⟩)|h
 ·exact .inl (.inl (k.t _ _ h))
 ·exact .inl (.inr ⟨o,k.f _ _ _ h⟩)
 ·exact .inr h
theorem Kp.fzL{H':Hp}(k:Kp H H')(h:DT K H a xs):DT K H' a xs:=by
 rcases h with⟨o,h⟩|h
 ·exact .inl ⟨o,k.f _ _ _ h⟩
 ·exact .inr h
theorem Kp.lst(h:H a=Z (.lst xs)):Kp H (B7 H a o):=by
 refine⟨λb ys e=>?_,λb c u e=>?_⟩
 ·rw[aO (xg e h (by intro z;cases z))];exact e
 ·rw[aO (xg e h (by intro z;cases z))];exact e
mutual
theorem AW.kp{K:B6}{H H':Hp}(k:Kp H H'):∀{d:Dt} {v:V},AW K H d v->AW K H' d v
 |.non,_,h=>by simpa only[AW]using h
 |.bl _,_,h=>by simpa only[AW]using h
 |.int _,_,h=>by simpa only[AW]using h
 |.str _,_,h=>by simpa only[AW]using h
 |.tup ds,_,h=>by
  simp only[AW]at h ⊢;obtain⟨a,vs,e,q,r⟩:=h;exact⟨a,vs,e,k.sqT q,aF.kp k r⟩
 |.lst ds,_,h=>by
  simp only[AW]at h ⊢;obtain⟨a,vs,e,q,r⟩:=h;exact⟨a,vs,e,k.fzL q,aF.kp k r⟩
 |.emp,_,h=>by
  simp only[AW]at h ⊢;obtain⟨a,o,e,q⟩:=h;exact⟨a,o,e,k.f _ _ _ q⟩
theorem aF.kp{K:B6}{H H':Hp}(k:Kp H H'):∀{ds:Y Dt} {vs:Y V},aF K H ds vs->aF K H' ds vs
 |[],_,h=>by simpa only[aF]using h
 |d::ds,_,h=>by
  simp only[aF]at h ⊢;obtain⟨v,r,e,q,t⟩:=h;exact⟨v,r,e,AW.kp k q,aF.kp k t⟩
end
theorem aF.length{K:B6}{H:Hp}:∀{ds:Y Dt} {vs:Y V},aF K H ds vs->vs.length=ds.length
 |[],_,h=>by simp only[aF]at h;subst h;rfl
 |d::ds,_,h=>by
  simp only[aF]at h;obtain⟨v,r,rfl,_,t⟩:=h;simp[aF.length t]
theorem aF.nil:aF K H [] []:=by simp only[aF]
theorem aF.cons{K:B6}{H:Hp}{d:Dt}{v:V}{ds:Y Dt}{vs:Y V}(h:AW K H d v)(t:aF K H ds vs):aF K H (d::ds) (v::vs):=by
 simp only[aF];exact⟨v,vs,rfl,h,t⟩
theorem aF.append{K:B6}{H:Hp}:∀{ds es:Y Dt} {vs us:Y V},aF K H ds vs->aF K H es us->aF K H (ds++es) (vs++us)
 |[],_,_,_,h,t=>by simp only[aF]at h;subst h;exact t
 |d::ds,_,_,_,h,t=>by
  simp only[aF]at h;obtain⟨v,r,rfl,q,h⟩:=h;exact aF.cons q (aF.append h t)
theorem aF.drop{K:B6}{H:Hp}:∀(n:Nat) {ds:Y Dt} {vs:Y V},aF K H ds vs->aF K H (ds.drop n) (vs.drop n)
 |0,_,_,h=>h
 |n+1,[],_,h=>by simp only[aF]at h;subst h;exact aF.nil
 |n+1,d::ds,_,h=>by
  simp only[aF]at h;obtain⟨v,r,rfl,q,h⟩:=h;exact aF.drop n h
theorem aF.take{K:B6}{H:Hp}:∀(n:Nat) {ds:Y Dt} {vs:Y V},aF K H ds vs->aF K H (ds.take n) (vs.take n)
 |0,_,_,_=>aF.nil
 |n+1,[],_,h=>by simp only[aF]at h;subst h;exact aF.nil
 |n+1,d::ds,_,h=>by
  simp only[aF]at h;obtain⟨v,r,rfl,q,h⟩:=h;exact aF.cons q (aF.take n h)
theorem aF.get{K:B6}{H:Hp}:∀{ds:Y Dt} {vs:Y V} {i:Nat} {d:Dt},aF K H ds vs->ds[i]?=Z d->∃v,vs[i]?=Z v/\AW K H d v
 |[],_,_,_,_,e=>by simp at e
 |d::ds,_,0,_,h,e=>by
  simp only[aF]at h;obtain⟨v,r,rfl,q,h⟩:=h;simp at e;subst e;exact⟨v,rfl,q⟩
 |d::ds,_,i+1,_,h,e=>by
  simp only[aF]at h;obtain⟨v,r,rfl,q,h⟩:=h;obtain⟨u,e1,e2⟩:=aF.get h (i:=i) (by simpa using e);exact⟨u,by simpa using e1,e2⟩
def DE:AY->Prop
 |.inl _=>True
 |.inr x=>x.length<=AA
def fX(K:B6)(H:Hp)(AO:Y (AY×Dt))(ks:Y (AY×V)):Prop:=ks.map (·.1)=AO.map (·.1)/\aF K H (AO.map (·.2)) (ks.map (·.2))/\∀p∈AO,DE p.1
theorem fX.kp{K:B6}{H H':Hp}{AO:Y (AY×Dt)}{ks:Y (AY×V)}(h:fX K H AO ks)(k:Kp H H'):fX K H' AO ks:=⟨h.1,h.2.1.kp k,h.2.2⟩
def aW(K:B6)(H:Hp):Bx->V->Prop
 |.z d,v=>AW K H d v
 |.l ds,v=>∃a vs,v=.ref a/\Rd H a (.lst vs)/\aF K H ds vs
 |.o ds,v=>∃a vs,v=.ref a/\H a=Z (.lst vs)/\aF K H ds vs
 |.n AO,v=>∃a ks,v=.ref a/\Rd H a (.dK ks)/\fX K H AO ks
 |.m AO w,v=>∃a ks,v=.ref a/\H a=Z (.dK ks)/\fX K H AO ks/\∀b,w=Z b->b=a
theorem aW.same{H':Hp}(s:AV H H'){b:Bx}{v:V}(h:aW K H b v):aW K H' b v:=by
 cases b with
 |z d=>exact AW.kp (.of s) h
 |l ds=>
  obtain⟨a,vs,e,q,r⟩:=h;refine⟨a,vs,e,?_,r.kp (.of s)⟩;rcases q with q|⟨o,q⟩
  ·exact .inl (s _ _ q)
  ·exact .inr ⟨o,s _ _ q⟩
 |o ds=>
  obtain⟨a,vs,e,q,r⟩:=h;exact⟨a,vs,e,s _ _ q,r.kp (.of s)⟩
 |n AO=>
  obtain⟨a,vs,e,q,r⟩:=h;refine⟨a,vs,e,?_,r.kp (.of s)⟩;rcases q with q|⟨o,q⟩
  ·exact .inl (s _ _ q)
  ·exact .inr ⟨o,s _ _ q⟩
 |m AO _=>
  obtain⟨a,vs,e,q,r⟩:=h;exact⟨a,vs,e,s _ _ q,r.1.kp (.of s),r.2⟩
def lX:Bx->S (Y Dt)
 |.z (.lst ds)=>Z ds
 |.l ds=>Z ds
 |.o ds=>Z ds
 |_=>O
theorem aW.zB{b:Bx}{v:V}{ds:Y Dt}(h:aW K H b v)(e:lX b=Z ds):∃a vs,v=.ref a/\nF K H a vs/\aF K H ds vs:=by
 cases b with
 |z d=>
  cases d<;>first|(cases e;done)|skip;cases e;simp only[aW,AW]at h;obtain⟨a,vs,e,q,r⟩:=h;exact⟨a,vs,e,q.sq,r⟩
 |l c=>
  cases e;obtain⟨a,vs,e,q,r⟩:=h;exact⟨a,vs,e,.inl q,r⟩
 |o c=>
  cases e;obtain⟨a,vs,e,q,r⟩:=h;exact⟨a,vs,e,.inl (.inl q),r⟩
 |n _=>cases e
 |m _ _=>cases e
abbrev rZ(K:B6)(H:Hp):Y Bx->Y V->Prop:=AI (aW K H)
def Nw(H:Hp):Bx->V->Prop
 |.o _,v=>∀a,v=.ref a->H a=O
 |.m _ _,v=>∀a,v=.ref a->H a=O
 |_,_=>True
theorem Nw.old{H1:Hp}(s:AV H H1){b:Bx}{v:V}(h:Nw H1 b v):Nw H b v:=by
 cases b with
 |o ds=>exact λa e=>s.free (h a e)
 |m ds _=>exact λa e=>s.free (h a e)
 |_=>trivial
def loose:Bx->Bool
 |.z _=>false
 |_=>true
def sX:Bx->Bool
 |.o _=>true
 |.m _ _=>true
 |_=>false
structure bN (K:B6) (H0 H:Hp) (σ:L2.St) (ρ:Ev):Prop where
 len:σ.length=ρ.length
 val:∀(i:Nat) b,ρ[i]?=some (some b)->∃v,σ[i]?=some (some v)/\aW K H b v
 own:∀(i j:Nat) c a b,ρ[i]?=some (some c)->sX c=true->σ[i]?=some (some (.ref a))->ρ[j]?=some (some b)->loose b=true->σ[j]?=some (some (.ref a))->i=j
 base:AV H0 H
 new:∀(i:Nat) c a,ρ[i]?=some (some c)->sX c=true->σ[i]?=some (some (.ref a))->H0 a=none
theorem bN.grow{H':Hp}{ρ:Ev}(r:bN K H0 H σ ρ)(s:AV H H'):bN K H0 H' σ ρ:=
 ⟨r.len,λi b e=>let ⟨v,e1,h⟩:=r.val i b e;⟨v,e1,h.same s⟩,r.own,r.base.trans s,r.new⟩
def tF(K:B6)(f:Ev->S Bx):TE:=λσ H Q=>∃H0 ρ b,bN K H0 H σ ρ/\f ρ=Z b/\∀v H',AV H H'->Nw H b v->aW K H' b v->Q v H'
def GN(K:B6)(f:Ev->S (Y Bx)):TA:=λσ H Q=>∃H0 ρ bs,bN K H0 H σ ρ/\f ρ=Z bs/\∀vs H',AV H H'->rZ K H' bs vs->Q vs H'
def DF(K:B6)(f:Ev->S Bool):TT:=λσ H Q=>∃H0 ρ b,bN K H0 H σ ρ/\f ρ=Z b/\∀H',AV H H'->Q b H'
def PV(X:Cx)(e:Expr)(f:Ev->S Bx):Prop:=PE X e (tF X.K f)
structure QV (X:Cx) (e:Expr) (f:Ev->Option Bx):Prop where
 run:PV X e f
def DL(X:Cx)(es:Y Expr)(f:Ev->S (Y Bx)):Prop:=PA X es (GN X.K f)
structure Lz (X:Cx) (es:List Expr) (f:Ev->Option (List Bx)):Prop where
 run:DL X es f
def PB(X:Cx)(e:Expr)(f:Ev->S Bool):Prop:=PT X e (DF X.K f)
structure QB (X:Cx) (e:Expr) (f:Ev->Option Bool):Prop where
 run:PB X e f
theorem Hl{t t':TE}(h:PE X e t)(m:∀ σ H Q,t' σ H Q->t σ H Q):PE X e t':=λAN s σ H Q I q=>h AN s σ H Q I (m σ H Q q)
theorem G0{e:Y Expr}{t t':TA}(h:PA X e t)(m:∀ σ H Q,t' σ H Q->t σ H Q):PA X e t':=λpos AN s σ H Q I q=>h pos AN s σ H Q I (m σ H Q q)
theorem F1{t t':TT}(h:PT X e t)(m:∀ σ H Q,t' σ H Q->t σ H Q):PT X e t':=λAN s σ H Q I q=>h AN s σ H Q I (m σ H Q q)
theorem OZ{t t':TT}(h:PW X e t)(m:∀ σ H Q,t' σ H Q->t σ H Q):PW X e t':=λa AN s σ H Q I q=>h a AN s σ H Q I (m σ H Q q)
theorem Vu{e:AB}{t t':TS}(h:PS X e t)(m:∀D σ H,t' D σ H->t D σ H):PS X e t':=λAN s σ H D I q=>h AN s σ H D I (m D σ H q)
theorem Zy{e:Y AB}{t t':TS}(h:JZ X e t)(m:∀D σ H,t' D σ H->t D σ H):JZ X e t':=λAN s σ H D I q=>h AN s σ H D I (m D σ H q)
def rF(K:B6)(g:Bx->Bx->S Bx):R2:=λx y H Q=>∃a b c,aW K H a x/\aW K H b y/\g a b=Z c/\∀w H',AV H H'->Nw H c w->aW K H' c w->Q w H'
def Fs(K:B6)(g:Bx->S Bx):V->Hp->VK->Prop:=λx H Q=>∃a c,aW K H a x/\g a=Z c/\∀w H',AV H H'->Nw H c w->aW K H' c w->Q w H'
def Fk(K:B6)(g:Y Bx->S Bx):Y V->Hp->VK->Prop:=λxs H Q=>∃bs c,rZ K H bs xs/\g bs=Z c/\∀w H',AV H H'->Nw H c w->aW K H' c w->Q w H'
abbrev Eo(X:Cx)(f:A0->A0->Sem A0)(g:Bx->Bx->S Bx):Prop:=vU X f (rF X.K g)
abbrev GU(X:Cx)(f:A0->Sem A0)(g:Bx->S Bx):Prop:=Xv X f (Fs X.K g)
abbrev p8(X:Cx)(f:A0)(g:Y Bx->S Bx):Prop:=gW X f (Fk X.K g)
theorem vU.imp{X:Cx}{f:A0->A0->Sem A0}{r a:R2}(h:vU X f r)(m:∀x y H Q,a x y H Q->r x y H Q):vU X f a:=λAN s σ H x y v u Q I c b q=>h AN s σ H x y v u Q I c b (m x y H Q q)
theorem Xv.imp{X:Cx}{f:A0->Sem A0}{r a:V->Hp->VK->Prop}(h:Xv X f r)(m:∀x H Q,a x H Q->r x H Q):Xv X f a:=λAN s σ H x v Q I b q=>h AN s σ H x v Q I b (m x H Q q)
theorem gW.imp{X:Cx}{f:A0}{r a:Y V->Hp->VK->Prop}(h:gW X f r)(m:∀x H Q,a x H Q->r x H Q):gW X f a:=λAN s σ H xs us Q I b q=>h AN s σ H xs us Q I b (m xs H Q q)
def b2(g:Bx->Bx->S Bx)(fa fb:Ev->S Bx):Ev->S Bx:=λρ=>(fa ρ).bind λx=>(fb ρ).bind λy=>g x y
def b1(g:Bx->S Bx)(fa:Ev->S Bx):Ev->S Bx:=λρ=>(fa ρ).bind g
def cT(g:Y Bx->S Bx)(fs:Ev->S (Y Bx)):Ev->S Bx:=λρ=>(fs ρ).bind g
theorem AT{o:S α}{f:α->S β}{b:β}(h:o.bind f=Z b):∃a,o=Z a/\f a=Z b:=by
 cases o with
 |none=>cases h
 |some a=>exact⟨a,rfl,h⟩
theorem QT{g:Bx->Bx->S Bx}{fa fb:Ev->S Bx}(σ:L2.St)(H:Hp)(Q:VK)(h:tF K (b2 g fa fb) σ H Q):DJ (rF K g) (tF K fa) (tF K fb) σ H Q:=by
 obtain⟨H0,ρ,c,E,e,q⟩:=h;obtain⟨a,ea,e⟩:=AT e;obtain⟨b,eb,e⟩:=AT e;refine⟨H0,ρ,a,E,ea,λv H1 d p l=>⟨H0,ρ,b,E.grow d,eb,λu H2 f o m=>?_⟩⟩;exact⟨a,b,c,l.same f,m,e,λw i j k n=>q w i ((d.trans f).trans j) (k.old (d.trans f)) n⟩
theorem MI{g:Bx->S Bx}{fa:Ev->S Bx}(σ:L2.St)(H:Hp)(Q:VK)(h:tF K (b1 g fa) σ H Q):Ff (Fs K g) (tF K fa) σ H Q:=by
 obtain⟨H0,ρ,c,E,e,q⟩:=h;obtain⟨a,ea,e⟩:=AT e;exact⟨H0,ρ,a,E,ea,λv H1 b l j=>⟨a,c,j,e,λw d f i k=>q w d (b.trans f) (i.old b) k⟩⟩
theorem Cf{g:Y Bx->S Bx}{fs:Ev->S (Y Bx)}(σ:L2.St)(H:Hp)(Q:VK)(h:tF K (cT g fs) σ H Q):EW (Fk K g) (GN K fs) σ H Q:=by
 obtain⟨H0,ρ,c,E,e,q⟩:=h;obtain⟨a,ea,e⟩:=AT e;exact⟨H0,ρ,a,E,ea,λv H1 b j=>⟨a,c,j,e,λw d f i k=>q w d (b.trans f) (i.old b) k⟩⟩
section
variable{a b:Expr}{fa fb fc f:Ev->S Bx}{fs:Ev->S (Y Bx)}
theorem aX{op:Operator}{g:Bx->Bx->S Bx}(e:Eo X (binaryOp op) g)(c:QV X a fa)(d:QV X b fb):QV X (.BinOp a op b pos) (b2 g fa fb):=⟨have c:=c.run;have d:=d.run;Hl (HQ e c d) QT⟩
theorem LC{op:UnaryOp}{g:Bx->S Bx}(c:GU X (unaryOp op) g)(b:QV X a fa):QV X (.UnaryOp op a pos) (b1 g fa):=⟨have b:=b.run;Hl (Mk c b) MI⟩
theorem fY{g:Bx->Bx->S Bx}(f:Eo X (AG op) g)(c:QV X a fa)(d:QV X b fb)(e:behindInMarks op b=false):QV X (.Compare a [op] [b] pos) (b2 g fa fb):=⟨have c:=c.run;have d:=d.run;Hl (U9 f c d e) QT⟩
def zF:Bx->S Bool
 |.z (.bl b)=>Z b
 |_=>O
theorem uI{b:Bx}{v:V}{k:Bool}(h:aW K H b v)(e:zF b=Z k):v=.bl k:=by
 cases b with
 |z d=>
  cases d<;>first|(cases e;done)|skip;cases e;simpa only[aW,AW]using h
 |_=>cases e
theorem N3(σ:L2.St)(H:Hp)(Q:Bool->Hp->Prop)(h:DF K (λρ=>(f ρ).bind zF) σ H Q):tF K f σ H (λx H'=>∃k,x=.bl k/\Q k H'):=by
 obtain⟨H0,ρ,k,E,e,q⟩:=h;obtain⟨b,eb,e⟩:=AT e;exact⟨H0,ρ,b,E,eb,λv H1 c d a=>⟨k,uI a e,q H1 c⟩⟩
theorem cU{g:Bx->Bx->S Bx}(f:Eo X (AG op) g)(c:QV X a fa)(d:QV X b fb)(e:behindInMarks op b=false):QB X (.Compare a [op] [b] pos) (λρ=>(b2 g fa fb ρ).bind zF):=⟨have c:=c.run;have d:=d.run;F1 (Va f c d e) λσ H Q h=>QT σ H _ (N3 σ H Q h)⟩
def DO(g g':Bx->Bx->S Bx)(fa fb fc:Ev->S Bx):Ev->S Bx:=λρ=>(fa ρ).bind λx=>(fb ρ).bind λy=>(g x y).bind λr=>(zF r).bind λk=>if k=true then(fc ρ).bind λw=>g' y w else Z (.z (.bl false))
theorem HC{g g':Bx->Bx->S Bx}(σ:L2.St)(H:Hp)(Q:VK)(h:tF K (DO g g' fa fb fc) σ H Q):Qu (rF K g) (rF K g') (tF K fa) (tF K fb) (tF K fc) σ H Q:=by
 obtain⟨H0,ρ,d,E,e,q⟩:=h;obtain⟨a,ea,e⟩:=AT e;obtain⟨b,eb,e⟩:=AT e;obtain⟨r,er,e⟩:=AT e;obtain⟨k,ek,e⟩:=AT e;refine⟨H0,ρ,a,E,ea,λv H1 l L A=>⟨H0,ρ,b,E.grow l,eb,λu H2 m J n=>?_⟩⟩;refine⟨a,b,r,A.same m,n,er,λw C i I B=>⟨k,uI B ek,?_⟩⟩;have c:=(l.trans m).trans i;cases k with
 |false=>
  rw[zr ZO]at e ⊢;cases e;exact q _ C c trivial (by simp only[aW,AW])
 |true=>
  rw[zh rfl]at e ⊢;obtain⟨j,t,e⟩:=AT e;refine⟨H0,ρ,j,E.grow c,t,λx F f G z=>?_⟩;exact⟨b,j,d,(n.same i).same f,z,e,λy D s o p=>q y D ((c.trans f).trans s) (o.old (c.trans f)) p⟩
theorem QW{f:CmpOp}{g g':Bx->Bx->S Bx}(j:Eo X (AG op) g)(k:Eo X (AG f) g')(d:QV X a fa)(e:QV X b fb)(h:QV X c fc)(i:lastMarks [op,f] [b,c]=false:=by with_unfolding_all rfl):QV X (.Compare a [op,f] [b,c] pos) (DO g g' fa fb fc):=⟨have d:=d.run;have e:=e.run;have h:=h.run;Hl (Qv j k d e h i) HC⟩
def uJ(ρ:Ev)(i:Nat):S Bx:=match ρ[i]? with
 |some (Z (.o ds))=>Z (.l ds)
 |some (Z (.m AO _))=>Z (.n AO)
 |some (Z b)=>Z b
 |_=>O
theorem Ho{ρ:Ev}{b:Bx}(E:bN K H0 H σ ρ)(e:uJ ρ i=Z b):∃v,σ[i]?=Z (Z v)/\aW K H b v:=by
 unfold uJ at e;split at e
 ·rename_i ds h;cases e;obtain⟨v,e1,a,vs,e2,q,r⟩:=E.val i _ h;exact⟨v,e1,a,vs,e2,.inl q,r⟩
 ·rename_i ds h;cases e;obtain⟨v,e1,a,vs,e2,q,r⟩:=E.val i _ h;exact⟨v,e1,a,vs,e2,.inl q,r.1⟩
 ·rename_i c h;cases e;exact E.val i _ h
 ·cases e
theorem yD{ρ:Ev}{b:Bx}(e:uJ ρ i=Z b):sX b=false:=by
 unfold uJ at e;split at e
 ·cases e;rfl
 ·cases e;rfl
 ·rename_i c h1 h2 a;cases e;cases b with
  |o ds=>exact absurd Y3 (h1 ds)
  |m ds _=>exact absurd Y3 (h2 ds _)
  |_=>rfl
 ·cases e
theorem ak(i:Nat)(a:X.N[i]?=Z x:=by rfl)(c:Uv X.env.scope x:=by first|exact Kb rfl|exact ke (Kb Y3)|exact ke (ke Y3))(hd:fT x:=by decide)(d:(x==("__classdict__":AJ))=false:=by decide):QV X (.Name x pos) (λρ=>uJ ρ i):=⟨Hl (za a c hd d) λσ H Q h=>by
 obtain⟨H0,ρ,b,E,e,q⟩:=h;obtain⟨v,e1,r⟩:=Ho E e;refine⟨v,e1,q v H (AV.refl H) ?_ r⟩;cases b with
 |o ds=>have:=yD e;cases this
 |m ds _=>have:=yD e;cases this
 |_=>trivial⟩
def cB(d:Dt):Ev->S Bx:=λ_=>Z (.z d)
theorem Vv{v:V}{d:Dt}(h:PE X e (tC v))(r:∀H,AW X.K H d v):PV X e (cB d):=Hl h λσ H Q q=>by
 obtain⟨H0,ρ,b,E,e,q⟩:=q;cases e;exact q v H (AV.refl H) trivial (r H)
theorem aC{i j}:QV X (.Constant (.int i) j pos) (cB (.int i)):=⟨Vv YH λH=>by simp only[AW]⟩
theorem uK{i j}:QV X (.Constant (.bool i) j pos) (cB (.bl i)):=⟨Vv Hn λH=>by simp only[AW]⟩
theorem oF{j}:QV X (.Constant .none j pos) (cB .non):=⟨Vv YJ λH=>by simp only[AW]⟩
theorem QX{j}(hx:x.length<=AA:=by decide):PV X (.Constant (.str x) j pos) (cB (.str x)):=Vv YK λH=>by unfold AW;exact⟨rfl,hx⟩
def Vw:Bx->S Bool
 |.z .non=>Z false
 |.z (.bl b)=>Z b
 |.z (.int i)=>Z (i != 0)
 |.z (.str x)=>Z ((x.length:Int) != 0)
 |.z (.tup ds)=>Z (!ds.isEmpty)
 |.z (.lst ds)=>Z (!ds.isEmpty)
 |.l ds=>Z (!ds.isEmpty)
 |.o ds=>Z (!ds.isEmpty)
 |.z .emp=>O
 |.n _=>O
 |.m _ _=>O
theorem aF.isEmpty{ds:Y Dt}(h:aF K H ds vs):(!ds.isEmpty)=!vs.isEmpty:=by
 have:=h.length;cases ds<;>cases vs<;>simp_all
theorem Vx{b:Bx}{v:V}{k:Bool}(r:aW K H b v)(e:Vw b=Z k):Zg K v H k:=by
 cases b with
 |z d=>
  cases d with
  |non=>cases e;simp only[aW,AW]at r;subst r;rfl
  |bl b=>cases e;simp only[aW,AW]at r;subst r;rfl
  |int b=>cases e;simp only[aW,AW]at r;subst r;rfl
  |str x=>cases e;simp only[aW,AW]at r;obtain⟨rfl,h⟩:=r;exact⟨h,rfl⟩
  |tup ds=>
   cases e;simp only[aW,AW]at r;obtain⟨a,vs,rfl,q,r⟩:=r;exact .inr (.inl ⟨vs,q,r.isEmpty⟩)
  |lst ds=>
   cases e;obtain⟨a,vs,rfl,q,r⟩:=r.zB rfl;exact .inl ⟨vs,q,r.isEmpty⟩
  |emp=>cases e
 |l ds=>
  cases e;obtain⟨a,vs,rfl,q,r⟩:=r.zB rfl;exact .inl ⟨vs,q,r.isEmpty⟩
 |o ds=>
  cases e;obtain⟨a,vs,rfl,q,r⟩:=r.zB rfl;exact .inl ⟨vs,q,r.isEmpty⟩
 |n _=>cases e
 |m _ _=>cases e
theorem qu(h:QV X e f)(d:∀a,isTrue e X.env a=(do let v <-a;standAt e.pos;holding [v] (truthy v)):=by intro _;rfl):QB X e (λρ=>(f ρ).bind Vw):=⟨have h:=h.run;F1 (Qw h d) λσ H Q q=>by
 obtain⟨H0,ρ,k,E,e,q⟩:=q;obtain⟨b,eb,e⟩:=AT e;exact⟨H0,ρ,b,E,eb,λv H1 c i g=>⟨k,Vx g e,q H1 c⟩⟩⟩
def Uz(p q:Ev->S Bool):Ev->S Bool:=λρ=>(p ρ).bind λc=>if c=true then Z true else q ρ
def BL(p:Ev->S Bool):Ev->S Bool:=λρ=>(p ρ).bind λc=>Z (!c)
def L8(X:Cx)(e:Expr)(f:Ev->S Bool):Prop:=PW X e (DF X.K f)
structure E6 (X:Cx) (e:Expr) (f:Ev->Option Bool):Prop where
 run:L8 X e f
variable{p q:Ev->S Bool}{AS:Y Expr}
theorem qW(b:QB X a p):E6 X (.BoolOp .Or [a] pos) p:=⟨have b:=b.run;YL b⟩
theorem ZC(σ:L2.St)(H:Hp)(Q:Bool->Hp->Prop)(h:DF K (Uz p q) σ H Q):GI (DF K p) (DF K q) σ H Q:=by
 obtain⟨H0,ρ,k,E,e,w⟩:=h;obtain⟨c,d,e⟩:=AT e;refine⟨H0,ρ,c,E,d,λH1 a=>?_⟩;cases c with
 |true=>rw[zh rfl]at e ⊢;cases e;exact w H1 a
 |false=>rw[zr ZO]at e ⊢;exact⟨H0,ρ,k,E.grow a,e,λH2 b=>w H2 (a.trans b)⟩
theorem wg(c:QB X a p)(d:E6 X (.BoolOp .Or (b::AS) pos) q):E6 X (.BoolOp .Or (a::b::AS) pos) (Uz p q):=⟨have c:=c.run;have d:=d.run;OZ (OC c d) ZC⟩
theorem Oo(h:E6 X e p):QB X e p:=⟨have h:=h.run;h.pt⟩
theorem sY(b:QB X a p):QB X (.UnaryOp .Not a pos) (BL p):=⟨have b:=b.run;F1 (YM b) λσ H Q h=>by
 obtain⟨H0,ρ,k,E,e,w⟩:=h;obtain⟨c,d,e⟩:=AT e;cases e;exact⟨H0,ρ,c,E,d,λH1 f=>w H1 f⟩⟩
def zG(fa fb:Ev->S Bx):Ev->S Bx:=λρ=>((fa ρ).bind zF).bind λc=>if c=true then fb ρ else Z (.z (.bl false))
def Vy(fa:Ev->S Bx):Ev->S Bx:=λρ=>((fa ρ).bind zF).bind λc=>Z (.z (.bl (!c)))
theorem wj{op}(h:QV X a fa):QV X (.BoolOp op [a] pos) fa:=⟨have h:=h.run;YQ h⟩
theorem qw(f:QV X a fa)(i:QV X (.BoolOp .And (b::AS) pos) fb):QV X (.BoolOp .And (a::b::AS) pos) (zG fa fb):=⟨have f:=f.run;have i:=i.run;Hl (YS f i) λσ H Q h=>by
 obtain⟨H0,ρ,k,E,e,w⟩:=h;obtain⟨c,g,e⟩:=AT e;obtain⟨x,ex,g⟩:=AT g;refine⟨H0,ρ,x,E,ex,λv H1 d o m=>⟨c,uI m g,?_⟩⟩;cases c with
 |true=>rw[zh rfl]at e ⊢;exact⟨H0,ρ,k,E.grow d,e,λv H2 l j n=>w v H2 (d.trans l) (j.old d) n⟩
 |false=>rw[zr ZO]at e ⊢;cases e;exact w _ H1 d trivial (by simp only[aW,AW])⟩
theorem ZD(b:QV X a fa):QV X (.UnaryOp .Not a pos) (Vy fa):=⟨have b:=b.run;Hl (YT b) λσ H Q h=>by
 obtain⟨H0,ρ,k,E,e,w⟩:=h;obtain⟨c,d,e⟩:=AT e;obtain⟨x,ex,d⟩:=AT d;cases e;exact⟨H0,ρ,x,E,ex,λv H1 f i g=>⟨c,uI g d,w _ H1 f trivial (by simp only[aW,AW])⟩⟩⟩
theorem LQ:DL X [] (λ_=>Z []):=G0 zj λσ H Q h=>by
 obtain⟨H0,ρ,bs,E,e,q⟩:=h;cases e;exact q [] H (AV.refl H) .nil
def ao(f:Ev->S Bx)(fs:Ev->S (Y Bx)):Ev->S (Y Bx):=λρ=>(f ρ).bind λb=>(fs ρ).bind λbs=>Z (b::bs)
theorem Hq(h1:PV X e f)(h2:DL X es fs)(hs:A9 (e::es) X.env=(false,eval e X.env)::A9 es X.env:=by rfl):DL X (e::es) (ao f fs):=G0 (uF h1 h2 hs) λσ H Q h=>by
 obtain⟨H0,ρ,bs,E,e,q⟩:=h;obtain⟨b,eb,e⟩:=AT e;obtain⟨d,i,e⟩:=AT e;cases e;refine⟨H0,ρ,b,E,eb,λv H1 a k g=>⟨H0,ρ,d,E.grow a,i,λvs H2 c j=>?_⟩⟩;exact q (v::vs) H2 (a.trans c) (.cons (g.same c) j)
def uL:Bx->S Bx
 |.z d=>Z (.z d)
 |.o ds=>Z (.z (.lst ds))
 |.l _=>O
 |.n _=>O
 |.m _ _=>O
theorem J9{a:A1}(I:L2.AU X AN σ H s)(h:H a=Z (.lst vs)):∃o,L2.AU X AN σ (B7 H a (.j7 o (.lst vs))) s:=by
 obtain⟨z,AQ,n,r,e⟩:=I.hok a _ h;refine⟨{ cls:=.type "list",data:=.seq AQ.toArray n },⟨I.ok,I.os,I.bare,⟨I.base.keep,I.base.slot,λb d q1 q2 q3=>?_,I.base.there,λb xs q=>?_,λb d u q=>?_,λb ps q=>?_⟩,I.loc,I.cell,?_,λx c q=>?_,λp hp=>?_,?_,I.len⟩⟩
 ·have:=I.base.free b d q1 q2 q3;rw[aO (bW h this).symm];exact this
 ·have:=I.base.tups b xs q;rw[aO (xg this h (by intro z;cases z))];exact this
 ·have:=I.base.yh b d u q;rw[aO (xg this h (by intro z;cases z))];exact this
 ·obtain⟨m,this⟩:=I.base.sV b ps q;rw[aO (xg this h (by intro z;cases z))];exact⟨m,this⟩
 ·rw[aO (bW h I.free).symm];exact I.free
 ·rw[aO (bW h (I.mD x c q)).symm];exact I.mD x c q
 ·obtain⟨q1,q2,q3⟩:=I.pin p hp;refine⟨q1,?_,q3⟩;rw[aO (bW h q2).symm];exact q2
 ·intro b u q;by_cases f:b=a
  ·subst f;rw[bh]at q;cases q;exact⟨e,z,AQ,n,r,e⟩
  ·rw[aO f]at q;refine(I.hok b u q).stay (λc v _ w=>w) (λc w=>?_) (λc xs w=>?_) λc o' g w=>?_
   ·rw[aO (xg w h (by intro z;cases z))];exact w
   ·rw[aO (xg w h (by intro z;cases z))];exact w
   ·rw[aO (xg w h (by intro z;cases z))];exact w
theorem gA(h:QV X e f):QV X e (b1 uL f):=⟨by
 have h:=h.run;intro AN s σ H Q I q;obtain⟨H0,ρ,b,E,e,q⟩:=q;obtain⟨x,ex,e⟩:=AT e;cases x with
 |z d=>
  cases e;exact h AN s σ H Q I ⟨H0,ρ,_,E,ex,λv H' s' i g=>q v H' s' trivial g⟩
 |l ds=>cases e
 |n ds=>cases e
 |m ds _=>cases e
 |o ds=>
  cases e;refine gU (h AN s σ H (λv H'=>AV H H'/\Nw H (.o ds) v/\aW X.K H' (.o ds) v) I ⟨H0,ρ,_,E,ex,λv H' s' i g=>⟨s',i,g⟩⟩) λu C p=>?_;obtain⟨v,H1,B,y,s',i,g⟩:=p;obtain⟨a,vs,rfl,j,t⟩:=g;obtain⟨o,A⟩:=J9 B j;refine⟨.ref a,_,A,y,q _ _ (λc w k=>?_) trivial ?_⟩
  ·rw[aO (bW k (i a Y3))];exact s' c w k
  ·simp only[aW,AW];exact⟨a,vs,rfl,.inl ⟨o,bh⟩,t.kp (.lst j)⟩⟩
def Ep:Y Bx->S (Y Dt)
 |[]=>Z []
 |.z d::r=>(Ep r).bind λds=>Z (d::ds)
 |_=>O
theorem zH{K:B6}{H:Hp}:∀{bs:Y Bx} {vs:Y V} {ds:Y Dt},rZ K H bs vs->Ep bs=Z ds->aF K H ds vs
 |_,_,_,.nil,e=>by cases e;exact aF.nil
 |b::bs,_,_,.cons h t,e=>by
  cases b with
  |z d=>
   simp only[Ep]at e;obtain⟨a,e1,e2⟩:=AT e;cases e2;exact aF.cons h (zH t e1)
  |_=>cases e
theorem zJ:∀{bs:Y Bx} {ds:Y Dt},Ep bs=Z ds->ds.length=bs.length
 |[],_,e=>by cases e;rfl
 |.z d::r,_,e=>by
  simp only[Ep]at e;obtain⟨a,e1,e2⟩:=AT e;cases e2;simp[zJ e1]
 |.l _::_,_,e=>by cases e
 |.o _::_,_,e=>by cases e
 |.n _::_,_,e=>by cases e
 |.m _ _::_,_,e=>by cases e
def fD(bs:Y Bx):S Bx:=if bs.length<=1000 then(Ep bs).bind λds=>Z (.z (.tup ds))else O
def rO(bs:Y Bx):S Bx:=if bs.length<=1000 then(Ep bs).bind λds=>Z (.o ds)else O
theorem bO{p:A1}(h:H p=O):AV H (B7 H p o):=λb u e=>by rw[aO (bW e h)];exact e
theorem XC(h:n<=1000):n<=AA:=zi h ()
theorem cQ{x1}(h:Lz X es fs):QV X (.Tuple es x1 pos) (cT fD fs):=⟨have h:=h.run;Hl (Zi h) λσ H Q q=>by
 obtain⟨H0,ρ,c,E,e,q⟩:=q;obtain⟨bs,g,e⟩:=AT e;refine⟨H0,ρ,bs,E,g,λvs H1 b f=>?_⟩;unfold fD at e;split at e
 ·rename_i d;obtain⟨ds,e1,e⟩:=AT e;cases e;have a:=zH f e1;refine⟨XC (by rw[a.length,zJ e1];exact d),λp hp=>q _ _ (b.trans (bO hp)) trivial ?_⟩;simp only[aW,AW];exact⟨p,vs,rfl,.inl (.inl bh),a.kp (.of (bO hp))⟩
 ·cases e⟩
theorem lG(h:Lz X es fs):QV X (.List es pos) (cT rO fs):=⟨have h:=h.run;Hl (Zj h) λσ H Q q=>by
 obtain⟨H0,ρ,c,E,e,q⟩:=q;obtain⟨bs,i,e⟩:=AT e;refine⟨H0,ρ,bs,E,i,λvs H1 b g=>?_⟩;unfold rO at e;split at e
 ·rename_i f;obtain⟨ds,e1,e⟩:=AT e;cases e;have d:=zH g e1;refine⟨XC (by rw[d.length,zJ e1];exact f),λp hp=>q _ _ (b.trans (bO hp)) (λa ea=>by cases ea;exact b.free hp) ?_⟩;exact⟨p,vs,rfl,bh,d.kp (.of (bO hp))⟩
 ·cases e⟩
theorem bY{id:String}{g:Y Bx->S Bx}{p:Pos}(h:p8 X (.builtin id) g)(f:Gl X x)(c:X.mg x=O)(b:AH x=Z (.builtin id))(a:Lz X (e::es) fs)(i:x ≠ "__name__":=by decide)(k:fT x:=by decide)(j:A9 (e::es) X.env=(false,eval e X.env)::A9 es X.env:=by rfl)(d:(AD pos (A9 es X.env)).any (·.1)=false:=by rfl):QV X (.Call (.Name x p) (e::es) [] pos) (cT g fs):=⟨have a:=a.run;Hl (Qy h f c b a i k j d) Cf⟩
theorem jB{T:String}{g:Y Bx->S Bx}{p:Pos}(h:p8 X (.type T) g)(f:Gl X x)(c:X.mg x=O)(b:AH x=Z (.type T))(a:Lz X (e::es) fs)(i:x ≠ "__name__":=by decide)(k:fT x:=by decide)(j:A9 (e::es) X.env=(false,eval e X.env)::A9 es X.env:=by rfl)(d:(AD pos (A9 es X.env)).any (·.1)=false:=by rfl):QV X (.Call (.Name x p) (e::es) [] pos) (cT g fs):=⟨have a:=a.run;Hl (Oh h f c b a i k j d) Cf⟩
end
inductive An where
 |nx (ρ:Ev)|rt (b:Bx)|bk (ρ:Ev)|ct (ρ:Ev)
def QZ(K:B6)(H0:Hp)(D:C8):An->Prop
 |.nx ρ=>∀ σ H,bN K H0 H σ ρ->D.nx σ H
 |.rt b=>∀v H,AV H0 H->Nw H0 b v->aW K H b v->D.rt v H
 |.bk ρ=>∀ σ H,bN K H0 H σ ρ->D.bk σ H
 |.ct ρ=>∀ σ H,bN K H0 H σ ρ->D.ct σ H
def tG(K:B6)(g:Ev->S An):TS:=λD σ H=>∃H0 ρ r,bN K H0 H σ ρ/\g ρ=Z r/\QZ K H0 D r
def GL(X:Cx)(st:AB)(g:Ev->S An):Prop:=PS X st (tG X.K g)
structure Q0 (X:Cx) (st:Stmt) (g:Ev->Option An):Prop where
 run:GL X st g
def Qq(X:Cx)(st:Y AB)(g:Ev->S An):Prop:=JZ X st (tG X.K g)
structure Q5 (X:Cx) (st:List Stmt) (g:Ev->Option An):Prop where
 run:Qq X st g
def aJ(g1 g2:Ev->S An):Ev->S An:=λρ=>(g1 ρ).bind λr=>match r with
 |.nx a=>g2 a
 |r=>Z r
section
variable{a b:Expr}{fa fb fc f:Ev->S Bx}{fs:Ev->S (Y Bx)}{AS:Y AB}{g g1 g2:Ev->S An}
theorem aP  :Q5 X [] (λρ=>Z (.nx ρ)):=⟨Zy U5 λD σ H h=>by
 obtain⟨H0,ρ,r,E,e,q⟩:=h;cases e;exact q σ H E⟩
theorem aA(h1:Q0 X st g1)(h2:Q5 X AS g2):Q5 X (st::AS) (aJ g1 g2):=⟨have h1:=h1.run;have h2:=h2.run;Zy (Qo h1 h2) λD σ H h=>by
 obtain⟨H0,ρ,r,E,e,q⟩:=h;obtain⟨c,e1,e⟩:=AT e;refine⟨H0,ρ,c,E,e1,?_⟩;cases c with
 |nx a=>exact λσ' H' d=>⟨H0,a,r,d,e,q⟩
 |rt b=>cases e;exact q
 |bk a=>cases e;exact q
 |ct a=>cases e;exact q⟩
def Q6:Bx->S An
 |.l _=>O
 |.n _=>O
 |b=>Z (.rt b)
theorem cF(h:QV X e f):Q0 X (.Return (Z e) pos) (λρ=>(f ρ).bind Q6):=⟨have h:=h.run;Vu (Qp h) λD σ H h=>by
 obtain⟨H0,ρ,r,E,e,q⟩:=h;obtain⟨b,eb,e⟩:=AT e;refine⟨H0,ρ,b,E,eb,λv H1 c g a=>?_⟩;cases b with
 |l ds=>cases e
 |z d=>cases e;exact q v H1 (E.base.trans c) trivial a
 |o ds=>cases e;exact q v H1 (E.base.trans c) (g.old E.base) a
 |n ds=>cases e
 |m ds _=>cases e;exact q v H1 (E.base.trans c) (g.old E.base) a⟩
def Er(i:Nat)(ρ:Ev):S An:=match ρ[i]? with
 |some (Z b)=>Q6 b
 |_=>O
theorem LR(i:Nat){p:Pos}(k:X.N[i]?=Z x:=by rfl)(g:Uv X.env.scope x:=by first|exact Kb rfl|exact ke (Kb Y3)|exact ke (ke Y3))(hd:fT x:=by decide)(j:(x==("__classdict__":AJ))=false:=by decide):Q0 X (.Return (Z (.Name x p)) pos) (Er i):=⟨Vu (Qp (za k g hd j)) λD σ H h=>by
 obtain⟨H0,ρ,r,E,e,q⟩:=h;unfold Er at e;split at e
 ·rename_i b c;obtain⟨v,e1,f⟩:=E.val i b c;refine⟨v,e1,?_⟩;cases b with
  |l ds=>cases e
  |z d=>cases e;exact q v H E.base trivial f
  |o ds=>cases e;exact q v H E.base (λa ea=>E.new i _ a c Y3 (by rw[e1,ea])) f
  |n ds=>cases e
  |m ds _=>cases e;exact q v H E.base (λa ea=>E.new i _ a c Y3 (by rw[e1,ea])) f
 ·cases e⟩
def xG(p:Ev->S Bool)(g1 g2:Ev->S An):Ev->S An:=λρ=>(p ρ).bind λk=>if k=true then g1 ρ else g2 ρ
theorem iV{p:Ev->S Bool}{u v:Y AB}(a:QB X c p)(b:Q5 X u g1)(d:Q5 X v g2):Q0 X (.If c u v pos) (xG p g1 g2):=⟨have a:=a.run;have b:=b.run;have d:=d.run;Vu (My a b d) λD σ H h=>by
 obtain⟨H0,ρ,r,E,e,q⟩:=h;obtain⟨k,ek,e⟩:=AT e;refine⟨H0,ρ,k,E,ek,λH1 f=>?_⟩;cases k with
 |true=>rw[zh rfl]at e ⊢;exact⟨H0,ρ,r,E.grow f,e,q⟩
 |false=>rw[zr ZO]at e ⊢;exact⟨H0,ρ,r,E.grow f,e,q⟩⟩
theorem BG{l:Y α}{x y:α}(h:(l.set i x)[j]?=Z y):(j=i/\y=x/\i<l.length)\/(j≠i/\l[j]?=Z y):=by
 rw[yn]at h;by_cases e:i=j
 ·subst e;rw[zh rfl]at h;split at h
  ·cases h;exact .inl ⟨rfl,rfl,by assumption⟩
  ·cases h
 ·rw[zr e]at h;exact .inr ⟨λz=>e z.symm,h⟩
theorem Es{l:Y α}(x:α)(h:i<l.length):(l.set i x)[i]?=Z x:=by
 rw[yn,zh rfl,zh h]
theorem zK{l:Y α}(x:α)(h:j≠i):(l.set i x)[j]?=l[j]?:=by
 rw[yn,zr (kC h)]
theorem bN.set{H1:Hp}{ρ:Ev}{b:Bx}{v:V}(E:bN K H0 H σ ρ)(s:AV H H1)(r:aW K H1 b v)(u:sX b=true\/loose b=false)(n:Nw H b v):bN K H0 H1 (σ.set i (Z v)) (ρ.set i (Z b)):=by
 have C:=E.grow s;have D:∀(j:Nat) (g:Bx) (a:A1),ρ[j]?=Z (Z g)->loose g=true->σ[j]?=Z (Z (.ref a))->H a≠O:=λj g a e1 e2 e3 z=>by
  obtain⟨I,h,x⟩:=E.val j g e1;rw[e3]at h;cases h;cases g with
  |z d=>cases e2
  |l ds=>
   obtain⟨B,vs,f,q,_⟩:=x;cases f;rcases q with q|⟨o,q⟩<;>(rw[z]at q;cases q)
  |o ds=>
   obtain⟨B,vs,f,q,_⟩:=x;cases f;rw[z]at q;cases q
  |n ds=>
   obtain⟨B,vs,f,q,_⟩:=x;cases f;rcases q with q|⟨o,q⟩<;>(rw[z]at q;cases q)
  |m ds _=>
   obtain⟨B,vs,f,q,_⟩:=x;cases f;rw[z]at q;cases q
 have A:sX b=true->∀a,v=.ref a->H a=O:=λG=>by
  cases b with
  |o ds=>exact n
  |m ds _=>exact n
  |_=>cases G
 refine⟨by rw[KI,KI];exact E.len,λj g e=>?_,λj k c a g e1 t e2 e3 h f=>?_,C.base,λj c a e1 t e2=>?_⟩
 ·rcases BG e with⟨rfl,e',hi⟩|⟨w,e'⟩
  ·cases e';exact⟨v,Es _ (by rw[E.len];exact hi),r⟩
  ·rw[zK _ w];exact C.val j g e'
 ·rcases BG e1 with⟨rfl,e',hi⟩|⟨w,e'⟩
  ·cases e';rw[Es _ (by rw[E.len];exact hi)]at e2;cases e2;rcases BG e3 with⟨rfl,p,_⟩|⟨y,p⟩
   ·rfl
   ·rw[zK _ y]at f;exact absurd (A t a Y3) (D k g a p h f)
  ·rw[zK _ w]at e2;rcases BG e3 with⟨rfl,p,hi⟩|⟨y,p⟩
   ·cases p;rw[Es _ (by rw[E.len];exact hi)]at f;cases f;have F:loose c=true:=by cases c<;>first|rfl|cases t
    rcases u with u|u
    ·exact absurd (A u a Y3) (D j _ a e' F e2)
    ·rw[u]at h;cases h
   ·rw[zK _ y]at f;exact E.own j k c a g e' t e2 p h f
 ·rcases BG e1 with⟨rfl,e',hi⟩|⟨w,e'⟩
  ·cases e';rw[Es _ (by rw[E.len];exact hi)]at e2;cases e2;exact E.base.free (A t a Y3)
  ·rw[zK _ w]at e2;exact E.new j c a e' t e2
def Q7(ρ:Ev)(i:Nat):Bx->S Ev
 |.l _=>O
 |.n _=>O
 |b=>Z (ρ.set i (Z b))
theorem Vz{H1:Hp}{ρ ρ':Ev}{b:Bx}{v:V}(E:bN K H0 H σ ρ)(s:AV H H1)(r:aW K H1 b v)(n:Nw H b v)(e:Q7 ρ i b=Z ρ'):bN K H0 H1 (σ.set i (Z v)) ρ':=by
 cases b with
 |l ds=>cases e
 |z d=>cases e;exact E.set s r (.inr Y3) n
 |o d=>cases e;exact E.set s r (.inl Y3) n
 |n ds=>cases e
 |m d _=>cases e;exact E.set s r (.inl Y3) n
theorem bC(i:Nat){p:Pos}(k:X.N.Nodup)(a:QV X e f)(hi:X.N[i]?=Z x:=by rfl)(hx:D8 X.env.scope x:=by first|exact Kb rfl|exact ke Y3)(hs:swapsWith e (Z (.Name x p)) pos.line X.env=pure false:=by rfl)(d:X.fn x=true\/X.env.scope.names.lookup x=Z .local:=by first|exact .inl rfl|exact .inr Y3):Q0 X (.Assign [.Name x p] e pos) (λρ=>(f ρ).bind λb=>(Q7 ρ i b).bind λρ'=>Z (.nx ρ')):=⟨have a:=a.run;Vu (Y0 k hi hx a hs d) λD σ H h=>by
 obtain⟨H0,ρ,r,E,e,q⟩:=h;obtain⟨b,eb,e⟩:=AT e;obtain⟨ρ',j,e⟩:=AT e;cases e;exact⟨H0,ρ,b,E,eb,λv H1 c g l=>q _ _ (Vz E c l g j)⟩⟩
def Lo(σ:L2.St)(ρ:Ev)(σ':L2.St)(ρ':Ev):Prop:=∀(j:Nat) b,loose b=true->ρ'[j]?=Z (Z b)->ρ[j]?=Z (Z b)/\σ'[j]?=σ[j]?
theorem Lo.refl{σ:L2.St}{ρ:Ev}:Lo σ ρ σ ρ:=λ_ _ _ e=>⟨e,rfl⟩
theorem Lo.trans{σ f h:L2.St}{ρ g d:Ev}(a:Lo σ ρ f g)(b:Lo f g h d):Lo σ ρ h d:=λj c l e=>by
 obtain⟨e1,e2⟩:=b j c l e;obtain⟨e3,i⟩:=a j c l e1;exact⟨e3,e2.trans i⟩
theorem Lo.set{ρ:Ev}(i:Nat)(v:V)(d:Dt):Lo σ ρ (σ.set i (Z v)) (ρ.set i (Z (.z d))):=λj b l e=>by
 rcases BG e with⟨rfl,e',_⟩|⟨a,e'⟩
 ·cases e';cases l
 ·exact⟨e',zK _ a⟩
def FO(K:B6)(g:Dt->Ev->S Ev):TG:=λv σ H Q=>∃H0 ρ d a,bN K H0 H σ ρ/\AW K H d v/\g d ρ=Z a/\∀ σ',bN K H0 H σ' a->Lo σ ρ σ' a->Q σ' H
def DU(X:Cx)(t:Expr)(g:Dt->Ev->S Ev):Prop:=PG X t (FO X.K g)
structure UG (X:Cx) (t:Expr) (g:Dt->Ev->Option Ev):Prop where
 run:DU X t g
theorem aR(i:Nat)(c:X.N.Nodup)(hi:X.N[i]?=Z x:=by rfl)(hx:D8 X.env.scope x:=by first|exact Kb rfl|exact ke Y3)(f:X.fn x=true\/X.env.scope.names.lookup x=Z .local:=by first|exact .inl rfl|exact .inr Y3):UG X (.Name x pos) (λd ρ=>Z (ρ.set i (Z (.z d)))):=⟨λAN s σ H v u Q I r h=>by
 obtain⟨H0,ρ,d,g,E,a,e,q⟩:=h;cases e;exact Lr c hi hx f AN s σ H v u Q I r (q _ (E.set (b:=.z d) (AV.refl H) a (.inr Y3) trivial) (Lo.set i v d))⟩
theorem f7(i:Nat)(c:X.N.Nodup:=by show List.Nodup (_++_);decide +kernel)(hi:X.N[i]?=Z x:=by rfl)(hx:D8 X.env.scope x:=by first|exact Kb rfl|exact ke Y3)(f:X.fn x=true\/X.env.scope.names.lookup x=Z .local:=by first|exact .inl rfl|exact .inr Y3):UG X (.Name x pos) (λd ρ=>Z (ρ.set i (Z (.z d)))):=aR i c hi hx f
def O3(K:B6)(g:Y Dt->Ev->S Ev):Xr:=λvs σ H Q=>∃H0 ρ ds a,bN K H0 H σ ρ/\aF K H ds vs/\g ds ρ=Z a/\∀ σ',bN K H0 H σ' a->Lo σ ρ σ' a->Q σ' H
def MU(X:Cx)(t:Y Expr)(g:Y Dt->Ev->S Ev):Prop:=L2.Qq X t (O3 X.K g)
structure VB (X:Cx) (t:List Expr) (g:List Dt->Ev->Option Ev):Prop where
 run:MU X t g
def qx:Y Dt->Ev->S Ev
 |[],ρ=>Z ρ
 |_,_=>O
def cY(g:Dt->Ev->S Ev)(gs:Y Dt->Ev->S Ev):Y Dt->Ev->S Ev
 |d::ds,ρ=>(g d ρ).bind (gs ds)
 |_,_=>O
theorem kj  :VB X [] qx:=⟨λAN s σ H vs us Q I r h=>by
 obtain⟨H0,ρ,ds,b,E,a,e,q⟩:=h;cases ds with
 |nil=>cases e;unfold aF at a;exact U6 AN s σ H vs us Q I r ⟨a,q _ E Lo.refl⟩
 |cons d ds=>cases e⟩
theorem cH{t:Expr}{ts:Y Expr}{gt:Dt->Ev->S Ev}{gs:Y Dt->Ev->S Ev}(h1:UG X t gt)(h2:VB X ts gs)(hs:(assignEach (t::ts) X.env).map (·.2)=assign t X.env::(assignEach ts X.env).map (·.2):=by rfl):VB X (t::ts) (cY gt gs):=⟨have h1:=h1.run;have h2:=h2.run;λAN s σ H vs us Q I r h=>by
 obtain⟨H0,ρ,ds,c,E,b,e,q⟩:=h;cases ds with
 |nil=>cases e
 |cons d ds=>
  unfold aF at b;obtain⟨v,j,rfl,l,m⟩:=b;simp only[cY]at e;obtain⟨a,e1,e⟩:=AT e;exact Qs h1 h2 hs AN s σ H _ us Q I r ⟨v,j,rfl,H0,ρ,d,a,E,l,e1,λo f g=>⟨H0,a,ds,c,f,m,e,λn k i=>q n k (g.trans i)⟩⟩⟩
def nJ(n:Nat)(gs:Y Dt->Ev->S Ev):Dt->Ev->S Ev
 |.tup ds,ρ=>if ds.length=n then gs ds ρ else O
 |_,_=>O
theorem oG{ts:Y Expr}{gs:Y Dt->Ev->S Ev}(l:X.calm=true)(h:VB X ts gs)(j:(assignEach ts X.env).length=n:=by rfl)(o:(assignEach ts X.env).findIdx? (·.1)=O:=by rfl):UG X (.Tuple ts k pos) (nJ n gs):=⟨have h:=h.run;λAN s σ H v u Q I r i=>by
 obtain⟨H0,ρ,d,g,E,c,e,q⟩:=i;cases d with
 |tup ds=>
  simp only[nJ]at e;split at e
  ·rename_i m;unfold AW at c;obtain⟨a,vs,rfl,f,b⟩:=c;exact YX l h j o AN s σ H _ u Q I r ⟨a,vs,rfl,f,by rw[b.length];exact m,H0,ρ,ds,g,E,b,e,q⟩
  ·cases e
 |_=>cases e⟩
theorem Et{gt:Dt->Ev->S Ev}(c:QV X e f)(a:UG X tg gt)(hs:swapsWithSole [tg] e pos.line X.env=pure false:=by rfl)(i:swappedStores [tg] e X.env=pure O:=by rfl)(h1:(assignEach [tg] X.env).map (·.2)=[assign tg X.env]:=by rfl):Q0 X (.Assign [tg] e pos) (λρ=>(f ρ).bind λb=>match b with|.z d=>(gt d ρ).bind λρ'=>Z (.nx ρ')|_=>O):=⟨have c:=c.run;have a:=a.run;Vu (YZ c a hs i h1) λD σ H h=>by
 obtain⟨H0,ρ,r,E,e,q⟩:=h;obtain⟨b,eb,e⟩:=AT e;refine⟨H0,ρ,b,E,eb,λv H1 g m l=>?_⟩;cases b with
 |z d=>
  obtain⟨ρ',k,e⟩:=AT e;cases e;exact⟨H0,ρ,d,ρ',E.grow g,l,k,λσ' j _=>q _ _ j⟩
 |_=>cases e⟩
def VD(i j:Nat)(ρ:Ev):Y Bx->S An
 |[.z d,.z d']=>Z (.nx ((ρ.set i (Z (.z d))).set j (Z (.z d'))))
 |_=>O
theorem ZG(i j:Nat){px py pt:Pos}{kt k2 Y5}(m:X.calm=true)(o:X.N.Nodup)(c:Lz X [a,b] fs)(hi:X.N[i]?=Z x:=by rfl)(v:X.N[j]?=Z y:=by rfl)(g:i≠j:=by decide)(hx:X.env.scope.names.lookup x=Z .local:=by rfl)(n:X.env.scope.names.lookup y=Z .local:=by rfl)(l:swappedStores [.Tuple [.Name x px,.Name y py] kt pt] (.Tuple [a,b] k2 Y5) X.env=pure (Z [x,y]):=by rfl)(hs:swapsWithSole [.Tuple [.Name x px,.Name y py] kt pt] (.Tuple [a,b] k2 Y5) pos.line X.env=pure false:=by rfl):Q0 X (.Assign [.Tuple [.Name x px,.Name y py] kt pt] (.Tuple [a,b] k2 Y5) pos) (λρ=>(fs ρ).bind (VD i j ρ)):=⟨have c:=c.run;Vu (Y4 m o hi v g hx n c l hs) λD σ H h=>by
 obtain⟨H0,ρ,r,E,e,q⟩:=h;obtain⟨bs,eb,e⟩:=AT e;refine⟨H0,ρ,bs,E,eb,λvs H1 k s=>?_⟩;unfold VD at e;split at e
 ·rename_i d u;cases e;cases s with
  |cons p t=>
   cases t with
   |cons p' f=>
    cases f;refine⟨_,_,rfl,q _ _ ?_⟩;exact((E.grow k).set (b:=.z d) (AV.refl H1) p (.inr Y3) trivial).set (b:=.z u) (AV.refl H1) p' (.inr Y3) trivial
 ·cases e⟩
def VF(ρ:Ev)(i:Nat):Bx->S An
 |.z d=>match ρ[i]? with
  |some (Z (.o ds))=>if ds.length<AA then Z (.nx (ρ.set i (Z (.o (ds++[d])))))else O
  |_=>O
 |_=>O
theorem bN.aeU{ρ:Ev}{t c1:Bx}{a:A1}{u:HO}(E:bN K H0 H σ ρ)(h:ρ[i]?=Z (Z t))(w:sX t=true)(hs:σ[i]?=Z (Z (.ref a)))(k:Kp H (B7 H a u))(r:aW K (B7 H a u) c1 (.ref a)):
  bN K H0 (B7 H a u) σ (ρ.set i (Z c1)):=by
 have hi:i<ρ.length:=(ae.mp h).1;have J:H0 a=O:=E.new i t a h w hs;have lo:∀c,sX c=true->loose c=true:=λc L=>by cases c<;>first|rfl|cases L
 refine⟨by rw[KI];exact E.len,λj y e=>?_,λj F c f y e1 B e2 e3 N P=>?_,λc o e=>?_,λj c f e1 B e2=>?_⟩
 ·rcases BG e with⟨rfl,e',_⟩|⟨D,e'⟩
  ·cases e';exact⟨_,hs,r⟩
  ·obtain⟨v,e1,x⟩:=E.val j y e';refine⟨v,e1,?_⟩;have A:∀f,v=.ref f->loose y=true->f≠a:=λf ev Q z=>by
    subst z;exact D (E.own i j t _ _ h w hs e' Q (by rw[e1,ev])).symm
   cases y with
   |z d=>exact AW.kp k x
   |l C=>
    obtain⟨f,s,rfl,q,p⟩:=x;refine⟨f,s,rfl,?_,p.kp k⟩;have g:=A f Y3 rfl;rcases q with q|⟨o,q⟩
    ·exact .inl (by rw[aO g];exact q)
    ·exact .inr ⟨o,by rw[aO g];exact q⟩
   |o C=>
    obtain⟨f,s,rfl,q,p⟩:=x;have g:=A f Y3 rfl;exact⟨f,s,rfl,by rw[aO g];exact q,p.kp k⟩
   |n C=>
    obtain⟨f,s,rfl,q,p⟩:=x;refine⟨f,s,rfl,?_,p.kp k⟩;have g:=A f Y3 rfl;rcases q with q|⟨o,q⟩
    ·exact .inl (by rw[aO g];exact q)
    ·exact .inr ⟨o,by rw[aO g];exact q⟩
   |m C=>
    obtain⟨f,s,rfl,q,p⟩:=x;have g:=A f Y3 rfl;exact⟨f,s,rfl,by rw[aO g];exact q,p.1.kp k,p.2⟩
 ·have G:∀(m:Nat) (b:Bx),(ρ.set i (Z c1))[m]?=Z (Z b)->loose b=true->∃b0,ρ[m]?=Z (Z b0)/\loose b0=true/\(sX b=true->sX b0=true):=λm b e l=>by
   rcases BG e with⟨rfl,e',_⟩|⟨D,e'⟩
   ·exact⟨_,h,lo _ w,λ_=>w⟩
   ·exact⟨b,e',l,λz=>z⟩
  obtain⟨b0,q1,q2,q3⟩:=G j _ e1 (lo _ B);obtain⟨b1,M,I,_⟩:=G F _ e3 N;exact E.own j F b0 f b1 q1 (q3 B) e2 M I P
 ·rw[aO (bW e J)];exact E.base c o e
 ·rcases BG e1 with⟨rfl,e',_⟩|⟨D,e'⟩
  ·exact E.new _ t f h w e2
  ·exact E.new j c f e' B e2
theorem bN.QF{ρ:Ev}{ds es:Y Dt}{a:A1}{us:Y V}(E:bN K H0 H σ ρ)(h:ρ[i]?=Z (Z (.o ds)))(hs:σ[i]?=Z (Z (.ref a)))(b:H a=Z (.lst vs))(r:aF K H es us):
  bN K H0 (B7 H a (.lst us)) σ (ρ.set i (Z (.o es))):=E.aeU h Y3 hs (.lst b) ⟨a,us,rfl,bh,r.kp (.lst b)⟩
theorem Eu(i:Nat){p:Pos}(j:QV X e f)(B:X.N[i]?=Z x:=by rfl)(o:Uv X.env.scope x:=by first|exact Kb rfl|exact ke (Kb Y3)|exact ke (ke Y3))(hd:fT x:=by decide)(s:(x==("__classdict__":AJ))=false:=by decide)(l:A9 [e] X.env=[(false,eval e X.env)]:=by rfl)(t:attributeBase (.Name x p) "append" X.env (eval (.Name x p) X.env)=eval (.Name x p) X.env:=by rfl)(w:((AD cpos (A9 [e] X.env)).all (λx=>!x.1)&&(backToKw cpos (keywordEach [] X.env)).all (λx=>x.1.isSome)&&decide ([e].length+([]:Y AC).length+(if([]:Y AC).isEmpty then 0 else 1)<30))=true:=by rfl)(y:(apos.endLine==cpos.line)=true:=by rfl)(hs:swapsWith (.Call (.Attribute (.Name x p) "append" apos) [e] [] cpos) O pos.line X.env=pure false:=by rfl):Q0 X (.Expr (.Call (.Attribute (.Name x p) "append" apos) [e] [] cpos) pos) (λρ=>(f ρ).bind (VF ρ i)):=⟨have j:=j.run;Vu (Lq (QD PySem.F.plainAttrs_list PySem.F.slot_list_append PySem.F.type_list_append CG (za (i:=i) B o hd s) (uF j zj (by rw[l]<;>rfl)) t w y (by rw[l]<;>rfl) Y3) hs) λD σ H h=>by
  obtain⟨H0,ρ,r,E,e,q⟩:=h;obtain⟨b,eb,e⟩:=AT e;cases b with
  |z d=>
   simp only[VF]at e;split at e
   ·rename_i ds m;split at e
    ·rename_i A;cases e;obtain⟨v,e1,a,vs,rfl,g,k⟩:=E.val i _ m;refine⟨_,e1,.inl ⟨rfl,vs,.inl (.inl g)⟩,H0,ρ,_,E,eb,λu H1 c G C=>?_⟩;have n:=E.grow c;refine⟨a,vs,u,rfl,rfl,c _ _ g,by rw[k.length];exact A,q _ _ ?_⟩;exact n.QF m e1 (c _ _ g) ((k.kp (.of c)).append (aF.cons C aF.nil))
    ·cases e
   ·cases e
  |_=>cases e⟩
end
def Ee(x:AJ):It:=⟨λi _=>i<x.cps.size,λi H v H'=>H'=H/\∃c,x.cps[i]?=Z c/\v=.str ⟨#[c]⟩,λi _=>x.cps.size<=i⟩
def NA(h:A6)(it:A1)(x:AJ)(i:Nat):Prop:=∃t,h.IsStrIter it "str_ascii_iterator" x t i\/h.IsStrIter it "str_iterator" x t i
theorem Hr(it:A1)(x:AJ):C9 P w K tg (Ee x) [it] it (λi h=>NA h it x i) where
 mem:=by simp
 obj:=λi h st b a=>by
  have e:b=it:=by simpa using a
  subst e;obtain⟨t,⟨o,e,c,d⟩|⟨o,e,c,d⟩⟩:=st
  ·exact⟨o,e,λv z=>by rw[d]at z;cases z⟩
  ·exact⟨o,e,λv z=>by rw[d]at z;cases z⟩
 keep:=λi h h' st k=>by
  obtain⟨t,⟨o,e,c⟩|⟨o,e,c⟩⟩:=st
  ·exact⟨t,.inl ⟨o,k it (by simp) o e,c⟩⟩
  ·exact⟨t,.inr ⟨o,k it (by simp) o e,c⟩⟩
 item:=by
  intro X A q u n i AN s σ H E I f st m;subst A q u;obtain⟨f0,f1,f2,f3,j,l⟩:=f it (by simp);have hi:i<x.cps.size:=m;have hx:x.cps[i]?=Z x.cps[i]:=by simp[hi]
  obtain⟨t,st|st⟩:=st
  ·refine wpAny_pyNext_ascii_item st hx λh' g p=>?_;have y:L2.AU X AN σ H { s with heap:=h',toks:=s.toks+1 }:=I.turned (λb o a e=>(p.2 b a).trans e) f0 f1 f3 j l;obtain⟨o,e,c,d⟩:=id g;exact⟨_,rfl,G7 (s:={ s with heap:=h',toks:=s.toks+1 }) e c d () ⟨.str ⟨#[x.cps[i]]⟩,H,y,⟨_,rfl⟩,⟨rfl,_,hx,rfl⟩,⟨t,.inl g⟩,λb a=>(f b a).1⟩⟩
  ·refine wpAny_pyNext_wide_item st hx λh' g p=>?_;have y:L2.AU X AN σ H { s with heap:=h',toks:=s.toks+1 }:=I.turned (λb o a e=>(p.2 b a).trans e) f0 f1 f3 j l;obtain⟨o,e,c,d⟩:=id g;exact⟨_,rfl,G7 (s:={ s with heap:=h',toks:=s.toks+1 }) e c d () ⟨.str ⟨#[x.cps[i]]⟩,H,y,⟨_,rfl⟩,⟨rfl,_,hx,rfl⟩,⟨t,.inr g⟩,λb a=>(f b a).1⟩⟩
 done:=by
  intro X A q u n i AN s σ H E I f st m;subst A q u;obtain⟨f0,f1,f2,f3,j,l⟩:=f it (by simp);have hx:x.cps[i]?=O:=by have:x.cps.size<=i:=m;simp[this]
  obtain⟨t,st|st⟩:=st
  ·exact wpAny_pyNext_ascii_end (I.ok.hd n) st hx λh' eb=>⟨rfl,I.turned (t':=s.toks) (λb o a e=>eb b o a e) f0 f1 f3 j l⟩
  ·exact wpAny_pyNext_wide_end (I.ok.hd n) st hx λh' eb=>⟨rfl,I.turned (t':=s.toks) (λb o a e=>eb b o a e) f0 f1 f3 j l⟩
 self:=λ_ _ _ _ _ st h=>by
  obtain⟨t,st|st⟩:=st
  ·exact wpAny_pyIter_striter_ascii st h
  ·exact wpAny_pyIter_striter_wide st h
def LJ(K:B6)(tl:TE):TI:=λσ H R=>tl σ H λx H1=>(∃a,x=.ref a/\(∃xs,nF K H1 a xs)/\R (FA K a) H1)\/(∃a,x=.ref a/\(∃xs,qj K H1 a xs)/\R (EQ K a) H1)\/∃y,x=.str y/\R (Ee y) H1
theorem Q8{l:Expr}{tl:TE}(j:PE X l tl):PI X tg l (LJ X.K tl):=by
 intro AN s σ H R I h;refine gU (j AN s σ H _ I h) λv s1 ⟨x,H1,I1,r1,q1⟩=>?_;have c:∀(o:AE) (b:A1),b∈[s1.heap.objs.size]->nG X AN H1 b:=λo b i=>by
  have e:b=s1.heap.objs.size:=by simpa using i
  subst e;exact I1.Ef (zl _) (I1.hok.fresh (zl _))
 rcases q1 with⟨a,e,⟨xs,d⟩,q⟩|⟨a,e,⟨xs,d⟩,q⟩|⟨y,e,q⟩
 ·subst e;cases r1;obtain⟨AQ,k,p,g⟩:=I1.list d;refine ye p.isList ?_;exact⟨s1.heap.objs.size,[s1.heap.objs.size],_,_,H1,rfl,I1.kept (t':=s1.toks) λb o e=>ze _ e,Oa a _,⟨_,zz _ rfl,rfl,rfl⟩,c default,q⟩
 ·subst e;cases r1;obtain⟨AQ,k,p,g⟩:=I1.tuple d;refine K2 (show s1.heap.IsTuple a AQ.toArray from p) ?_;exact⟨s1.heap.objs.size,[s1.heap.objs.size],_,_,H1,rfl,I1.kept (t':=s1.toks) λb o e=>ze _ e,J0 a _,⟨_,zz _ rfl,rfl,rfl⟩,c default,q⟩
 ·subst e;obtain⟨t,rfl⟩:=r1;cases f:y.cps.all (· < 128)with
  |true=>
   refine wpAny_pyIter_ascii f ?_;exact⟨s1.heap.objs.size,[s1.heap.objs.size],_,_,H1,rfl,I1.kept (t':=s1.toks) λb o e=>ze _ e,Hr _ y,⟨t,.inl ⟨_,zz _ rfl,rfl,rfl⟩⟩,c default,q⟩
  |false=>
   refine wpAny_pyIter_wide f ?_;exact⟨s1.heap.objs.size,[s1.heap.objs.size],_,_,H1,rfl,I1.kept (t':=s1.toks) λb o e=>ze _ e,Hr _ y,⟨t,.inr ⟨_,zz _ rfl,rfl,rfl⟩⟩,c default,q⟩
def B4(K:B6)(J:It)(ds:Y Dt)(Hs:Hp):Prop:=∀(i:Nat) (H:Hp),AV Hs H →
 (∀d,ds[i]?=Z d->J.go i H/\∀x H',J.yld i H x H'->AV H H'/\AW K H' d x)/\(ds.length<=i->J.stop i H)
theorem B4.of{ds:Y Dt}(h:∀(i:Nat) (H:Hp),AV Hs H →
  (∀d,ds[i]?=Z d->J.go i H/\∀x H',J.yld i H x H'->H'=H/\AW K H d x)/\(ds.length<=i->J.stop i H)):B4 K J ds Hs:=λi H s=>
 ⟨λd e=>⟨((h i H s).1 d e).1,λx H' y=>by
  obtain⟨rfl,r⟩:=((h i H s).1 d e).2 x H' y;exact⟨AV.refl _,r⟩⟩,(h i H s).2⟩
def By(x:AJ):Y Dt:=x.cps.toList.map λc=>.str ⟨#[c]⟩
theorem B4.list{ds:Y Dt}(h:nF K Hs a vs)(r:aF K Hs ds vs):B4 K (FA K a) ds Hs:=.of λi H s=>by
 have h':=s.seq h;have c:=r.kp (.of s);refine⟨λd e=>?_,λe=>⟨vs,h',by rw[r.length];exact e⟩⟩;obtain⟨v,ev,b⟩:=c.get e;refine⟨⟨vs,v,h',ev⟩,λx H' y=>?_⟩;obtain⟨y1,y2⟩:=y;have:=y2 vs h';rw[ev]at this;cases this;exact⟨y1,b⟩
theorem B4.tup{ds:Y Dt}(h:qj K Hs a vs)(r:aF K Hs ds vs):B4 K (EQ K a) ds Hs:=.of λi H s=>by
 have h':=(Kp.of s).sqT h;have c:=r.kp (.of s);refine⟨λd e=>?_,λe=>⟨vs,h',by rw[r.length];exact e⟩⟩;obtain⟨v,ev,b⟩:=c.get e;refine⟨⟨vs,v,h',ev⟩,λx H' y=>?_⟩;obtain⟨y1,y2⟩:=y;have:=y2 vs h';rw[ev]at this;cases this;exact⟨y1,b⟩
theorem B4.str(x:AJ):B4 K (Ee x) (By x) Hs:=.of λi H s=>by
 refine⟨λd e=>?_,λe=>?_⟩
 ·unfold By at e;rw[qv]at e;cases h:x.cps.toList[i]? with
  |none=>rw[h]at e;cases e
  |some c=>
   rw[h]at e;cases e;have b:x.cps[i]?=Z c:=by simpa using h
   have hi:i<x.cps.size:=by
    have:=(ae.mp h).1;simpa using this
   refine⟨hi,λv H' y=>?_⟩;obtain⟨y1,c',a,rfl⟩:=y;rw[b]at a;cases a;refine⟨y1,?_⟩;unfold AW;exact⟨rfl,by show(1:Nat)<=AA;decide⟩
 ·have:(By x).length=x.cps.size:=by simp[By]
  show x.cps.size<=i;omega
def zL(lo:Int)(n:Nat):Y Dt:=(av n).map λk=>.int (lo+(k:Nat))
theorem B4.rng(lo:Int)(n:Nat):B4 K (DM lo n) (zL lo n) Hs:=.of λi H s=>by
 refine⟨λd e=>?_,λe=>?_⟩
 ·unfold zL at e;rw[qv]at e;by_cases hi:i<n
  ·rw[ej hi]at e;cases e;refine⟨hi,λv H' y=>?_⟩;obtain⟨y1,y2⟩:=y;refine⟨y1,?_⟩;unfold AW;exact y2
  ·rw[bi (by simp;omega)]at e;cases e
 ·have:(zL lo n).length=n:=by simp[zL]
  show n<=i;omega
def iF(K:B6)(f:Ev->S (Y Dt)):TI:=λσ H R=>∃H0 ρ ds,bN K H0 H σ ρ/\f ρ=Z ds/\∀J H',AV H H' →
 (∀Hs,AV Hs H'->(∀a,H a=O->Hs a=H' a)->(∀a o u,H' a=Z (.j7 o u)->Hs a=H' a)->(∀a vs,H' a=Z (.tup vs)->Hs a=H' a)->B4 K J ds Hs)->R J H'
def FK(X:Cx)(tg iter:Expr)(f:Ev->S (Y Dt)):Prop:=PI X tg iter (iF X.K f)
structure Ch (X:Cx) (tg iter:Expr) (f:Ev->Option (List Dt)):Prop where
 run:FK X tg iter f
def VG:Bx->S (Y Dt)
 |.z (.lst ds)=>Z ds
 |.z (.tup ds)=>Z ds
 |.z (.str x)=>Z (By x)
 |.o ds=>Z ds
 |_=>O
section
variable{f:Ev->S Bx}{fs:Ev->S (Y Bx)}
mutual
theorem AW.part{K:B6}{H Hs:Hp}(b:∀a o u,H a=Z (.j7 o u)->Hs a=H a)(c:∀a vs,H a=Z (.tup vs)->Hs a=H a):∀{d:Dt} {v:V},AW K H d v->AW K Hs d v
 |.non,_,h=>by simpa only[AW]using h
 |.bl _,_,h=>by simpa only[AW]using h
 |.int _,_,h=>by simpa only[AW]using h
 |.str _,_,h=>by simpa only[AW]using h
 |.tup ds,_,h=>by
  simp only[AW]at h ⊢;obtain⟨a,vs,e,q,r⟩:=h;refine⟨a,vs,e,?_,aF.part b c r⟩;rcases q with (q|⟨o,q⟩)|q
  ·exact .inl (.inl ((c _ _ q).trans q))
  ·exact .inl (.inr ⟨o,(b _ _ _ q).trans q⟩)
  ·exact .inr q
 |.lst ds,_,h=>by
  simp only[AW]at h ⊢;obtain⟨a,vs,e,q,r⟩:=h;refine⟨a,vs,e,?_,aF.part b c r⟩;rcases q with⟨o,q⟩|q
  ·exact .inl ⟨o,(b _ _ _ q).trans q⟩
  ·exact .inr q
 |.emp,_,h=>by
  simp only[AW]at h ⊢;obtain⟨a,o,e,q⟩:=h;exact⟨a,o,e,(b _ _ _ q).trans q⟩
theorem aF.part{K:B6}{H Hs:Hp}(c:∀a o u,H a=Z (.j7 o u)->Hs a=H a)(b:∀a vs,H a=Z (.tup vs)->Hs a=H a):∀{ds:Y Dt} {vs:Y V},aF K H ds vs->aF K Hs ds vs
 |[],_,h=>by simpa only[aF]using h
 |d::ds,_,h=>by
  simp only[aF]at h ⊢;obtain⟨v,r,e,q,t⟩:=h;exact⟨v,r,e,AW.part c b q,aF.part c b t⟩
end
theorem Ew(h:QV X e f):Ch X tg e (λρ=>(f ρ).bind VG):=⟨have h:=h.run;λAN s σ H R I q=>by
 refine Q8 h AN s σ H R I ?_;obtain⟨H0,ρ,ds,E,e,q⟩:=q;obtain⟨b,eb,e⟩:=AT e;refine⟨H0,ρ,b,E,eb,λv H1 t y i=>?_⟩;cases b with
 |z d=>
  cases d with
  |tup p=>
   cases e;simp only[aW,AW]at i;obtain⟨a,vs,rfl,c,k⟩:=i;refine .inr (.inl ⟨a,rfl,⟨vs,c⟩,q _ _ t λHs w u g j=>.tup ?_ (k.part g j)⟩);rcases c with (c|⟨o,c⟩)|c
   ·exact .inl (.inl ((j _ _ c).trans c))
   ·exact .inl (.inr ⟨o,(g _ _ _ c).trans c⟩)
   ·exact .inr c
  |lst p=>
   cases e;simp only[aW,AW]at i;obtain⟨a,vs,rfl,c,k⟩:=i;refine .inl ⟨a,rfl,⟨vs,c.sq⟩,q _ _ t λHs w u g j=>.list ?_ (k.part g j)⟩;rcases c with⟨o,c⟩|c
   ·exact .inl (.inr ⟨o,(g _ _ _ c).trans c⟩)
   ·exact .inr c
  |str x=>
   cases e;simp only[aW,AW]at i;obtain⟨rfl,_⟩:=i;exact .inr (.inr ⟨x,rfl,q _ _ t λHs w u g j=>.str x⟩)
  |_=>cases e
 |l p=>cases e
 |n p=>cases e
 |m p=>cases e
 |o p=>
  cases e;obtain⟨a,vs,rfl,c,k⟩:=i;refine .inl ⟨a,rfl,⟨vs,.inl (.inl c)⟩,q _ _ t λHs w u g j=>.list (.inl (.inl ((u a (y a Y3)).trans c))) (k.part g j)⟩⟩
def ZJ:Y Bx->S (Y Dt)
 |[.z (.int j)]=>if -(2 ^ 62)<=j/\j<2 ^ 62 then Z (zL 0 j.toNat)else O
 |_=>O
def ZK:Y Bx->S (Y Dt)
 |[.z (.int i),.z (.int j)]=>if(-(2 ^ 62)<=i/\i<2 ^ 62) ∧ -(2 ^ 62)<=j/\j<2 ^ 62 then Z (zL i (j-i).toNat)else O
 |_=>O
theorem jf{p:Pos}(f:Gl X "range")(c:X.mg "range"=O)(a:Lz X [e] fs)(hs:A9 [e] X.env=[(false,eval e X.env)]:=by rfl):Ch X tg (.Call (.Name "range" p) [e] [] pos) (λρ=>(fs ρ).bind ZJ):=⟨have a:=a.run;λAN s σ H R I q=>by
 refine Ob f c a hs AN s σ H R I ?_;obtain⟨H0,ρ,ds,E,e,q⟩:=q;obtain⟨bs,eb,e⟩:=AT e;refine⟨H0,ρ,bs,E,eb,λvs H1 d g=>?_⟩;unfold ZJ at e;split at e
 ·rename_i j;split at e
  ·rename_i b;cases e;cases g with
   |cons p t=>
    cases t;simp only[aW,AW]at p;subst p;exact⟨j,rfl,b.1,b.2,q _ _ d λHs _ _ _ _=>.rng 0 _⟩
  ·cases e
 ·cases e⟩
theorem Q9{e':Expr}{p:Pos}(f:Gl X "range")(c:X.mg "range"=O)(b:Lz X [e,e'] fs)(hs:A9 [e,e'] X.env=[(false,eval e X.env),(false,eval e' X.env)]:=by rfl)(g:A9 [e'] X.env=[(false,eval e' X.env)]:=by rfl):Ch X tg (.Call (.Name "range" p) [e,e'] [] pos) (λρ=>(fs ρ).bind ZK):=⟨have b:=b.run;λAN s σ H R I q=>by
 refine Oc f c b hs g AN s σ H R I ?_;obtain⟨H0,ρ,ds,E,e,q⟩:=q;obtain⟨bs,eb,e⟩:=AT e;refine⟨H0,ρ,bs,E,eb,λvs H1 d k=>?_⟩;unfold ZK at e;split at e
 ·rename_i i j;split at e
  ·rename_i a;cases e;cases k with
   |cons p t=>
    cases t with
    |cons p' h=>
     cases h;simp only[aW,AW]at p p';subst p p';exact⟨i,j,rfl,⟨a.1.1,a.1.2,a.2.1,a.2.2⟩,q _ _ d λHs _ _ _ _=>.rng i _⟩
  ·cases e
 ·cases e⟩
def yq(gt:Dt->Ev->S Ev)(gb:Ev->S An):Y Dt->Ev->S An
 |[],ρ=>Z (.nx ρ)
 |d::ds,ρ=>(gt d ρ).bind λc=>(gb c).bind λr=>match r with
  |.nx a=>yq gt gb ds a
  |.ct a=>yq gt gb ds a
  |.bk a=>Z (.nx a)
  |.rt b=>Z (.rt b)
noncomputable def jg(H:Hp)(σ:L2.St)(ρ:Ev):Hp:=λa=>@ite _ (∃(i:Nat) (c:Bx),ρ[i]?=Z (Z c)/\sX c=true/\σ[i]?=Z (Z (.ref a))) (Classical.propDecidable _) O (H a)
theorem uM{ρ:Ev}:AV (jg H σ ρ) H:=λa o e=>by
 unfold jg at e;split at e
 ·cases e
 ·exact e
theorem bN.rebase{ρ:Ev}(E:bN K Hs H σ ρ)(s:AV H0 Hs):bN K H0 H σ ρ:=⟨E.len,E.val,E.own,s.trans E.base,λi c a e1 b e2=>s.free (E.new i c a e1 b e2)⟩
theorem bN.sans{ρ:Ev}(E:bN K H0 H σ ρ):bN K (jg H σ ρ) H σ ρ:=⟨E.len,E.val,E.own,uM,λi c a e1 b e2=>by
 unfold jg;rw[zh ⟨i,c,e1,b,e2⟩]⟩
theorem bN.sub{ρ:Ev}(E:bN K H0 H σ ρ):AV H0 (jg H σ ρ):=λa o e=>by
 unfold jg;split
 ·rename_i h;obtain⟨i,c,e1,b,e2⟩:=h;rw[E.new i c a e1 b e2]at e;cases e
 ·exact E.base a o e
theorem uN{ρ:Ev}(E:bN K H0 H σ ρ)(h:∀vs,H a≠Z (.lst vs))(h2:∀vs,H a≠Z (.dK vs)):jg H σ ρ a=H a:=by
 unfold jg;split
 ·rename_i e;obtain⟨i,c,e1,g,e2⟩:=e;obtain⟨v,e3,d⟩:=E.val i _ e1;rw[e2]at e3;cases e3;cases c with
  |o ds=>obtain⟨f,vs,b,q,_⟩:=d;cases b;exact absurd q (h vs)
  |m ds _=>obtain⟨f,vs,b,q,_⟩:=d;cases b;exact absurd q (h2 vs)
  |_=>cases g
 ·rfl
theorem QZ.rebase{K:B6}{H0 Hs:Hp}{D:C8}{r:An}(s:AV H0 Hs)(h:QZ K H0 D r):QZ K Hs D r:=by
 cases r with
 |nx ρ=>exact λσ H E=>h σ H (E.rebase s)
 |bk ρ=>exact λσ H E=>h σ H (E.rebase s)
 |ct ρ=>exact λσ H E=>h σ H (E.rebase s)
 |rt b=>exact λv H s' n r=>h v H (s.trans s') (n.old s) r
theorem Ra{gt:Dt->Ev->S Ev}{gb:Ev->S An}{ds:List Dt}{H1:Hp}{ρ:Ev}{D:C8}{r:An}(p:bN X.K H0 H1 σ ρ)(Y:B4 X.K J ds (jg H1 σ ρ))(e:yq gt gb ds ρ=Z r)(q:QZ X.K H0 D r):
  ∃W:Nat->Nat->L2.St->Hp->Prop,(∃m,W 0 m σ H1)/\∀i m σ H,W i m σ H →
   (J.stop i H/\D.nx σ H)\/(J.go i H/\∃N:L2.St->Hp->Prop,(∀ σ' H',N σ' H'->∃s,s<m/\W (i+1) s σ' H')/\∀x H',J.yld i H x H'->FO X.K gt x σ H' λc H2=>tG X.K gb { D with nx:=N,ct:=N,bk:=D.nx } c H2):=by
 have n:=p.sans;have q2:=q.rebase p.sub;generalize jg H1 σ ρ=Hs at Y n q2;refine⟨λi m σ' H'=>m=ds.length-i/\i<=ds.length/\∃d,bN X.K Hs H' σ' d/\yq gt gb (ds.drop i) d=Z r,⟨ds.length,by simp,qi _,ρ,n,by simpa using e⟩,?_⟩;rintro i m σ' H' ⟨rfl,A,d,g,e'⟩;obtain⟨y1,y2⟩:=Y i H' g.base;by_cases h:i<ds.length
 ·right;have hd:ds[i]?=Z ds[i]:=by simp[h]
  obtain⟨go,t⟩:=y1 _ hd;rw[yb h]at e';simp only[yq]at e';obtain⟨k,e1,e'⟩:=AT e';obtain⟨o,e2,e'⟩:=AT e';refine⟨go,λc H2=>∃a,bN X.K Hs H2 c a/\yq gt gb (ds.drop (i+1)) a=Z r,λc H2 ⟨a,f,e3⟩=>⟨ds.length-(i+1),by omega,rfl,h,a,f,e3⟩,λx H2 u=>?_⟩;obtain⟨w,v⟩:=t x H2 u;refine⟨Hs,d,ds[i],k,g.grow w,v,e1,λz f _=>⟨Hs,k,o,f,e2,?_⟩⟩;cases o with
  |nx a=>exact λc y j=>⟨a,j,e'⟩
  |ct a=>exact λc y j=>⟨a,j,e'⟩
  |bk a=>cases e';exact q2
  |rt b=>cases e';exact q2
 ·left;have l:ds.length<=i:=by omega
  refine⟨y2 l,?_⟩;rw[kX l]at e';cases e';exact q2 σ' H' g
theorem m5{fi:Ev->S (Y Dt)}{gt:Dt->Ev->S Ev}{gb:Ev->S An}(hp:PassesOwn (f6 X) X.A X.env X.xe)(l:X.calm=true)(hi:Ch X tg iter fi)(f:UG X tg gt)(g:Q5 X body gb)(hs:∀x,foldedSetIterable iter X.env x=pure x:=by intro _;rfl):Q0 X (.For tg iter body [] pos) (λρ=>(fi ρ).bind λds=>yq gt gb ds ρ):=⟨have hi:=hi.run;have f:=f.run;have g:=g.run;Vu (Y6 hp l hi f g hs) λD σ H h=>by
 obtain⟨H0,ρ,r,E,e,q⟩:=h;obtain⟨ds,t,e⟩:=AT e;refine⟨H0,ρ,ds,E,t,λJ H1 n y=>?_⟩;have d:=E.grow n;refine Ra d ?_ e q;refine y _ uM (λa b=>?_) (λa o u b=>uN d (λvs z=>by rw[b]at z;cases z) (λvs z=>by rw[b]at z;cases z)) λa vs b=>uN d (λvs z=>by rw[b]at z;cases z) (λvs z=>by rw[b]at z;cases z);unfold jg;split
 ·rename_i p;obtain⟨i,c,e1,B,e2⟩:=p;obtain⟨v,e3,k⟩:=E.val i _ e1;rw[e2]at e3;cases e3;cases c with
  |o ds=>obtain⟨s,vs,j,q,_⟩:=k;cases j;rw[b]at q;cases q
  |m ds _=>obtain⟨s,vs,j,q,_⟩:=k;cases j;rw[b]at q;cases q
  |_=>cases B
 ·rfl⟩
end
def C5(a:Y (AJ×A1)):Y (AJ×A1)->Prop
 |[]=>True
 |(n,c)::r=>a.lookup n=Z c/\C5 a r
theorem C5.get{a:Y (AJ×A1)}:∀{cl:Y (AJ×A1)},C5 a cl->∀{x:AJ} {c:A1},cl.lookup x=Z c->a.lookup x=Z c
 |[],_,_,_,e=>by cases e
 |(n,d)::r,h,x,c,e=>by
  rw[y0]at e;by_cases hx:x==n
  ·simp only[hx]at e;cases e;have:x=n:=by simpa using hx
   rw[this];exact h.1
  ·have hx:(x==n)=false:=by simpa using hx
   simp only[hx]at e;exact C5.get h.2 e
structure FY (X:Cx) (scope:Scope) (cl:List (Str×Addr)) (x:Str) (i:Nat):Prop where
 n:X.N[i]?=some x
 k:X.env.kindOf x=some .cell\/X.env.kindOf x=some .free
 k':(relabel scope X.env).names.lookup x=some .cell\/(relabel scope X.env).names.lookup x=some .free
 c:∃c,cl.lookup x=some c
def BP(X:Cx)(scope:Scope)(cl:Y (AJ×A1)):Au->Y Nat->Prop
 |[],[]=>True
 |x::xs,i::is=>FY X scope cl x i/\BP X scope cl xs is
 |_,_=>False
theorem BP.get{X:Cx}{scope:Scope}{cl:Y (AJ×A1)}:∀{xs:Au} {is:Y Nat},BP X scope cl xs is->xs.length=is.length/\∀(j:Nat) (x:AJ),xs[j]?=Z x->∃i,is[j]?=Z i/\FY X scope cl x i
 |[],[],_=>⟨rfl,λj x e=>by simp at e⟩
 |x::xs,i::is,h=>by
  obtain⟨h1,h2⟩:=h;obtain⟨l,g⟩:=BP.get h2;refine⟨by simp[l],λj y e=>?_⟩;cases j with
  |zero=>simp at e;subst e;exact⟨i,rfl,h1⟩
  |succ j=>obtain⟨k,e1,e2⟩:=g j y (by simpa using e);exact⟨k,by simpa using e1,e2⟩
 |[],_::_,h=>h.elim
 |_::_,[],h=>h.elim
def ZL(a:Y (AJ×NameKind))(x:AJ):Bool:=match a.lookup x with
 |some .cell=>true
 |_=>false
def xH(X:Cx)(a:Au)(scope:Scope)(cl:Y (AJ×A1))(C:A1)(s₀:A2)(H₀:Hp)(fp:Y A1):Cx:=
 { X with N:=a,s₀:=s₀,H₀:=H₀,env:=compEnvC scope (cellsFrom (C+1) scope.names cl) C X.env,outer:=X.stack,ex:=fp,fn:=ZL scope.names,pn:=[],xe:=λ_ _=>False }
structure ZM (h:Heap) (cs:List (Str×Addr)):Prop where
 inj:∀x y c,cs.lookup x=some c->cs.lookup y=some c->x=y
 cell:∀x c,cs.lookup x=some c->∃v,h.IsCell c v
theorem iW{n:AJ}{a:α}{l:Y (AJ×α)}(h:x≠n):((n,a)::l).lookup x=l.lookup x:=by
 rw[y0,beq_eq_false_iff_ne.mpr h]
theorem Rb:∀(f:Y (AJ×NameKind)) (h:A6) (acc:Y (AJ×A1)),ZM h acc->ZM (pushCells h f) (cellsFrom h.objs.size f acc)
 |[],_,_,x=>x
 |(n,k)::r,h,acc,x=>by
  unfold pushCells cellsFrom;split
  ·have g:∀y c,acc.lookup y=Z c->c≠h.objs.size:=λy c e=>let ⟨_,q⟩:=x.cell y c e;z4 q.lt;have:=Rb r (h.push { cls:=.type "cell",data:=.cell O }) ((n,h.objs.size)::acc) ⟨λy z c e1 e2=>?_,λy c e=>?_⟩
   ·rwa [kq]at this
   ·by_cases a:y=n<;>by_cases d:z=n
    ·rw[a,d]
    ·subst a;rw[kl]at e1;rw[iW d]at e2;cases e1;exact absurd Y3 (g _ _ e2)
    ·subst d;rw[kl]at e2;rw[iW a]at e1;cases e2;exact absurd Y3 (g _ _ e1)
    ·rw[iW a]at e1;rw[iW d]at e2;exact x.inj y z c e1 e2
   ·by_cases a:y=n
    ·subst a;rw[kl]at e;cases e;exact⟨O,_,zz _ rfl,rfl⟩
    ·rw[iW a]at e;obtain⟨v,q⟩:=x.cell y c e;exact⟨v,q.keeps λb o e=>ze _ e⟩
  ·exact Rb r h acc x
theorem uO:∀(a:Y (AJ×NameKind)) (n:Nat) (acc:Y (AJ×A1)) (x:AJ) (c:A1),(cellsFrom n a acc).lookup x=Z c->acc.lookup x=Z c\/n<=c
 |[],_,_,_,_,e=>.inl e
 |(m,k)::r,n,acc,x,c,e=>by
  unfold cellsFrom at e;split at e
  ·rcases uO r _ _ x c e with h|h
   ·by_cases hx:x=m
    ·subst hx;rw[kl]at h;cases h;exact .inr (zl _)
    ·rw[iW hx]at h;exact .inl h
   ·exact .inr ()
  ·exact uO r _ _ x c e
theorem Ey:∀(a:Y (AJ×NameKind)) (n:Nat) (acc:Y (AJ×A1)) (x:AJ),(x,NameKind.cell)∉a->(cellsFrom n a acc).lookup x=acc.lookup x
 |[],_,_,_,_=>rfl
 |(m,k)::r,n,acc,x,h=>by
  unfold cellsFrom;have b:(x,NameKind.cell)∉r:=λz=>h (zo _ z);split
  ·rename_i hk;rw[Ey r _ _ x b,iW λz=>h (by rw[z,<-beq_iff_eq.mp hk];exact zt ..)]
  ·exact Ey r _ _ x b
theorem Ka:∀(a:Y (AJ×NameKind)) (n:Nat) (acc:Y (AJ×A1)) (x:AJ),((x,NameKind.cell)∈a\/∃c,acc.lookup x=Z c)->∃c,(cellsFrom n a acc).lookup x=Z c
 |[],_,_,_,h=>h.elim (λz=>by simp at z) λz=>z
 |(m,k)::r,n,acc,x,h=>by
  unfold cellsFrom;split
  ·refine Ka r _ _ x ?_;by_cases hx:x=m
   ·exact .inr ⟨n,by rw[hx,kl]⟩
   ·rw[iW hx];exact h.imp_left λz=>(List.mem_cons.mp z).elim (λz=>absurd (congrArg Prod.fst z) hx) λz=>z
  ·rename_i hk;exact Ka r _ _ x (h.imp_left λz=>(List.mem_cons.mp z).elim (λz=>by cases z;exact absurd Y3 hk) λz=>z)
theorem Oq{g:A1}{Q:Env->A2->Prop}(h:Q (newEnv scope s.heap.objs.size g (cellsFrom (s.heap.objs.size+1) scope.names cl) qual O .none (Z env) builtinsNs) { s with heap:=pushCells (s.heap.push { cls:=.type "dict",data:=.dict #[] }) scope.names }):
  A7 M A (newFunctionEnv scope g cl [] qual O .none (Z env)) Q E s:=by
 simp only[newFunctionEnv,ca,QU];refine zb (wpAny_alloc ?_);refine zb (wpAny_layCells _ (λname a b=>by cases a==NameKind.cell<;>simp) _ _ _ _ ?_);rw[show({ s with heap:=s.heap.push { cls:=.type "dict",data:=.dict #[] } }:A2).heap.objs.size=s.heap.objs.size+1 from kq ..];rw[List.forIn_nil];exact zb (zd (zd h))
structure qy (X:Cx) (scope:Scope) (cl:List (Str×Addr)) (xs:Au) (is:List Nat):Prop where
 clos:closureFor scope X.env=pure cl
 kind:scope.kind=.function
 cell:∀y∈scope.names,y.2=.cell->cl.lookup y.1=none
 names:∀y∈scope.names,y.2=.local->scope.names.lookup y.1=some .local
 sub:C5 X.env.cells cl
 has:∀x,((relabel scope X.env).names.lookup x=some .cell\/(relabel scope X.env).names.lookup x=some .free)->(x,NameKind.cell)∈scope.names\/∃c,cl.lookup x=some c
 cap:BP X scope cl xs is
def oH(is:Y Nat)(σ:L2.St):L2.St:=is.map λi=>(σ[i]?).bind λv=>v
def gZ(is:Y Nat)(ρ:Ev):Ev:=is.map λi=>uJ ρ i
def Qi(n m:Nat)(g:Dt->Ev->S Ev):Prop:=∀d ρ a,g d ρ=Z a->a.length=ρ.length/\∀j,j<n\/m<=j->a[j]?=ρ[j]?
def VH(n m:Nat)(g:Y Dt->Ev->S Ev):Prop:=∀d ρ a,g d ρ=Z a->a.length=ρ.length/\∀j,j<n\/m<=j->a[j]?=ρ[j]?
theorem cu(h:n<=i:=by decide)(h':i<m:=by decide):Qi n m (λd ρ=>Z (ρ.set i (Z (.z d)))):=λd ρ a e=>by
 cases e;exact⟨by rw[KI],λj b=>zK _ ()⟩
theorem yE:VH n m qx:=λd ρ a e=>by
 cases d with
 |nil=>cases e;exact⟨rfl,λ_ _=>Y3⟩
 |cons=>cases e
theorem jX{g:Dt->Ev->S Ev}{gs:Y Dt->Ev->S Ev}(h:Qi n m g)(hs:VH n m gs):VH n m (cY g gs):=λd ρ k e=>by
 cases d with
 |nil=>cases e
 |cons d ds=>
  simp only[cY]at e;obtain⟨l,e1,e⟩:=AT e;obtain⟨a,b⟩:=h _ _ _ e1;obtain⟨f,i⟩:=hs _ _ _ e;exact⟨f.trans a,λj c=>(i j c).trans (b j c)⟩
theorem Ez{gs:Y Dt->Ev->S Ev}(hs:VH n m gs):Qi n m (nJ k gs):=λd ρ a e=>by
 cases d with
 |tup ds=>
  simp only[nJ]at e;split at e
  ·exact hs _ _ _ e
  ·cases e
 |_=>cases e
def wk(gt:Dt->Ev->S Ev)(p:Ev->S Bool)(fs:Ev->S (Y Dt))(ρ:Ev):Y Dt->S (Y Dt)
 |[]=>Z []
 |d::ds=>(gt d ρ).bind λa=>(p a).bind λk=>if k=true then(fs a).bind λys=>(wk gt p fs ρ ds).bind λzs=>Z (ys++zs)else wk gt p fs ρ ds
def ZP:Bx->S (Y Dt)
 |.z y=>Z [y]
 |_=>O
def CK(gt:Dt->Ev->S Ev)(p:Ev->S Bool)(fe:Ev->S Bx)(ρ:Ev):Y Dt->S (Y Dt):=wk gt p (λρ=>(fe ρ).bind ZP) ρ
theorem CN{b:Bx}{ys:Y Dt}(h:ZP b=Z ys):∃y,b=.z y/\ys=[y]:=by
 cases b<;>cases h;exact⟨_,rfl,rfl⟩
theorem wz{gt:Dt->Ev->S Ev}{p:Ev->S Bool}{fe:Ev->S Bx}{ρ:Ev}:∀{ds out:Y Dt},CK gt p fe ρ ds=Z out->out.length<=ds.length
 |[],_,e=>by cases e;exact zl _
 |d::ds,out,e=>by
  simp only[CK,wk]at e;obtain⟨f,_,e⟩:=AT e;obtain⟨k,_,e⟩:=AT e;cases k with
  |false=>
   rw[zr ZO]at e;exact zi (wz (gt:=gt) (p:=p) (fe:=fe) e) (by simp)
  |true=>
   rw[zh rfl]at e;obtain⟨ys,a,e⟩:=AT e;obtain⟨zs,c,e⟩:=AT e;obtain⟨b,_,a⟩:=AT a;obtain⟨y,_,rfl⟩:=CN a;cases e;simpa using wz (gt:=gt) (p:=p) (fe:=fe) c
def C6(X:Cx)(ifs:Y Expr)(p:Ev->S Bool):Prop:=(ifs=[]/\p=λ_=>Z true)\/∃c,ifs=[c]/\PB X c p
structure sZ (X:Cx) (ifs:List Expr) (p:Ev->Option Bool):Prop where
 run:C6 X ifs p
section
variable{xs:Au}{gt:Dt->Ev->S Ev}{p:Ev->S Bool}{fe:Ev->S Bx}{fi:Ev->S (Y Dt)}
theorem Rc{s:Hp}{d:A2}(a:L2.AU X AN σ s d)(O:qy X scope cl xs is)(t:∀b∈fp,nG X AN s b)(D:∀b∈fp,b<d.heap.objs.size):
  L2.AU (xH X (xs++ts) scope cl d.heap.objs.size d s fp) [] (oH is σ++aa ts.length none) s { d with heap:=pushCells (d.heap.push { cls:=.type "dict",data:=.dict #[] }) scope.names }:=by
 obtain⟨P,G⟩:=O.cap.get;have g:=O.sub;have Q:(d.heap.push { cls:=.type "dict",data:=.dict #[] }).objs.size=d.heap.objs.size+1:=kq ..;have hk:∀b o,d.heap.get? b=Z o->(pushCells (d.heap.push { cls:=.type "dict",data:=.dict #[] }) scope.names).get? b=Z o:=λb o e=>pushCells_keeps _ _ b o (ze _ e);have C:ZM (pushCells (d.heap.push { cls:=.type "dict",data:=.dict #[] }) scope.names) (cellsFrom (d.heap.objs.size+1) scope.names cl):=by
  rw[<-Q];refine Rb _ _ _ ⟨λx y c e1 e2=>a.ok.inj x y c (g.get e1) (g.get e2),λx c e=>?_⟩;obtain⟨v,q⟩:=a.cell x c (g.get e);exact⟨v,q.keeps λb o e=>ze _ e⟩
 have A:∀x c,(cellsFrom (d.heap.objs.size+1) scope.names cl).lookup x=Z c->X.env.cells.lookup x=Z c\/d.heap.objs.size<c:=λx c e=>(uO _ _ _ x c e).imp_left g.get;refine⟨⟨a.ok.mod,O.kind,a.ok.glob,a.ok.blt,zl _,C.inj,λx hx=>Ka _ _ _ x (O.has x hx),λx c hx e=>?_,a.ok.hd,a.ok.frames,.inl rfl,λb f=>⟨z4 (D b f),λx c e=>?_⟩,a.bs,zi a.ok.Uw a.sz,λb o e f=>?_,λb f K=>?_,a.stack,a.Eb,a.ok.tabs.go a.base.sV⟩,
  rfl,a.bare,Un.kept hk,⟨_,(Heap.Ns.new d.heap (.type "dict")).keeps (pushCells_keeps _ _),λj x v e1 e2 _=>?_⟩,C.cell,a.hok.fresh (zl _),λx c e=>(A x c e).elim (a.mD x c) λh=>a.hok.fresh (qo h),λq I=>absurd (show q∈([]:Y (A1×AE)) from I) (by simp),a.hok.kept hk,?_⟩
 ·refine(uO _ _ _ x c e).elim (λh=>?_) λh=>qo h;have hx:(x,NameKind.cell)∈scope.names:=by
   have hx:ZL scope.names x=true:=hx;unfold ZL at hx;split at hx
   ·rename_i q;exact mem_of_lookup q
   ·cases hx
  rw[O.cell _ hx rfl]at h;cases h
 ·rcases A x c e with h|h
  ·exact(t b f).2.2.2.2.1 x c h
  ·exact kF (cy (D b f) h)
 ·obtain⟨_,_,_,z,_⟩:=t b f;rcases z with z|z
  ·exact a.ok.Qn b o e z
  ·exact absurd (Zp (zw e) (zi a.ok.Uw z)) (kK _)
 ·obtain⟨_,L,J,_⟩:=t b f;rcases List.mem_cons.mp (a.Ea b K)with z|z
  ·exact L z
  ·exact J z
 ·have B:j<is.length:=by
   by_cases B:j<is.length
   ·exact B
   ·rw[QA (by simp[oH];omega)]at e2;rw[js]at e2;split at e2<;>cases e2
  have F:xs[j]?=Z x:=by
   have e1:(xs++ts)[j]?=Z x:=e1;rw[ZN ()]at e1;exact e1
  obtain⟨i,M,m⟩:=G j x F;have e3:σ[i]?=Z (Z v):=by
   rw[ZN (by simp[oH];omega)]at e2;unfold oH at e2;rw[qv,M]at e2;cases q:σ[i]? with
   |none=>rw[bp,q]at e2;cases e2
   |some o=>
    rw[bp,q]at e2;have:o=Z v:=by simpa using e2
    rw[this]
  have E:Uv X.env.scope x:=by
   rcases m.k with k|k
   ·exact .inr (.inl k)
   ·exact .inr (.inr k)
  obtain⟨m',a0,U⟩:=a.loc;obtain⟨u,r,l⟩:=U i x v m.n e3 E;refine⟨u,r,?_⟩;rcases l with⟨k,_⟩|⟨k,c,W,N⟩
  ·rcases m.k with w|w<;>(rw[k]at w;cases w)
  ·obtain⟨c',p⟩:=m.c;have:=g.get p;rw[W]at this;cases this;refine .inr ⟨m.k',c,(Ey _ _ _ x λz=>by rw[O.cell _ z rfl]at p;cases p).trans p,?_⟩;obtain⟨o,H,hd⟩:=N;exact⟨o,hk c o H,hd⟩
 ·show(oH is σ++aa ts.length none).length=(xs++ts).length;simp[oH,P]
theorem bN.caps{ρ:Ev}(E:bN K H0 H σ ρ)(is:Y Nat)(n:Nat):bN K H H (oH is σ++aa n O) (gZ is ρ++aa n O):=by
 have f:∀(j:Nat) c,(gZ is ρ++aa n O)[j]?=Z (Z c)->sX c=false:=λj c e=>by
  by_cases g:j<is.length
  ·rw[ZN (by simp[gZ];omega)]at e;unfold gZ at e;rw[qv]at e;cases q:is[j]? with
   |none=>rw[q]at e;cases e
   |some i=>
    rw[q]at e;have:uJ ρ i=Z c:=by simpa using e
    exact yD this
  ·rw[QA (by simp[gZ];omega),js]at e;split at e<;>cases e
 refine⟨by simp[oH,gZ],λj b e=>?_,λj k c a b e d=>absurd d (by rw[f j c e];exact ZO),AV.refl H,λj c a e d=>absurd d (by rw[f j c e];exact ZO)⟩;by_cases g:j<is.length
 ·rw[ZN (by simp[gZ];omega)]at e;rw[ZN (by simp[oH];omega)];unfold gZ at e;unfold oH;rw[qv]at e ⊢;cases q:is[j]? with
  |none=>rw[q]at e;cases e
  |some i=>
   rw[q]at e;have:uJ ρ i=Z b:=by simpa using e
   obtain⟨v,e1,r⟩:=Ho E this;exact⟨v,by simp[e1],r⟩
 ·rw[QA (by simp[gZ];omega),js]at e;split at e<;>cases e
theorem bN.forget{ρ ρ':Ev}(E:bN K H0 H σ ρ')(f:ρ'.length=ρ.length)(h:∀(j:Nat) b,ρ[j]?=Z (Z b)->ρ'[j]?=Z (Z b)):bN K H0 H σ ρ:=
 ⟨E.len.trans f,λj b e=>E.val j b (h j b e),λi j c a b e1 d e2 e3 k g=>E.own i j c a b (h _ _ e1) d e2 (h _ _ e3) k g,E.base,λi c a e1 d e2=>E.new i c a (h _ _ e1) d e2⟩
structure VJ (Hb:Hp) (σ:L2.St) (ρ:Ev) (n:Nat):Prop where
 own:∀(j:Nat) c,ρ[j]?=some (some c)->sX c=false
 lt:∀(j:Nat) b,ρ[j]?=some (some b)->j<n
 old:∀(j:Nat) c a,ρ[j]?=some (some c)->loose c=true->σ[j]?=some (some (.ref a))->Hb a≠none
def Fx(σ σ':L2.St)(ρ:Ev):Prop:=∀(j:Nat) c,loose c=true->ρ[j]?=Z (Z c)->σ'[j]?=σ[j]?
theorem VJ.fx{d:Hp}{σ':L2.St}{ρ:Ev}(P:VJ d σ ρ n)(f:Fx σ σ' ρ):VJ d σ' ρ n:=⟨P.own,P.lt,λj c a e b ea=>P.old j c a e b (by rw[<-f j c b e];exact ea)⟩
theorem DS{ρ:Ev}(E:bN K H0 H σ ρ)(j:Nat)(c:Bx)(a:A1)(e:ρ[j]?=Z (Z c))(h:loose c=true)(ea:σ[j]?=Z (Z (.ref a))):H a≠O:=λz=>by
 obtain⟨v,e1,b⟩:=E.val j _ e;rw[ea]at e1;cases e1;cases c with
 |z d=>cases h
 |l f=>
  obtain⟨g,vs,e2,q,_⟩:=b;cases e2;rcases q with q|⟨o,q⟩<;>(rw[z]at q;cases q)
 |n f=>
  obtain⟨g,vs,e2,q,_⟩:=b;cases e2;rcases q with q|⟨o,q⟩<;>(rw[z]at q;cases q)
 |o f=>
  obtain⟨g,vs,e2,q,_⟩:=b;cases e2;rw[z]at q;cases q
 |m f _=>
  obtain⟨g,vs,e2,q,_⟩:=b;cases e2;rw[z]at q;cases q
theorem bN.grown{g:Hp}{ρ:Ev}(E:bN K g H σ ρ)(P:VJ g σ ρ n)(i:g D=O)(kp:Kp H (B7 H D o)):bN K g (B7 H D o) σ ρ:=by
 refine⟨E.len,λj b e=>?_,λj k c a b e s=>absurd s (by rw[P.own j c e];exact ZO),λc o e=>?_,λj c a e s=>absurd s (by rw[P.own j c e];exact ZO)⟩
 ·obtain⟨v,ev,h⟩:=E.val j b e;refine⟨v,ev,?_⟩;cases b with
  |z d=>exact AW.kp kp h
  |o p=>have:=P.own j _ e;cases this
  |m p _=>have:=P.own j _ e;cases this
  |n p=>
   obtain⟨a,vs,rfl,q,t⟩:=h;refine⟨a,vs,rfl,?_,t.kp kp⟩;have f:a≠D:=λz=>P.old j _ _ e Y3 ev (by rw[z];exact i);exact q.imp (λq=>by rw[aO f];exact q) λ⟨o,q⟩=>⟨o,by rw[aO f];exact q⟩
  |l p=>
   obtain⟨a,vs,rfl,q,t⟩:=h;refine⟨a,vs,rfl,?_,t.kp kp⟩;have f:a≠D:=λz=>P.old j _ _ e Y3 ev (by rw[z];exact i);exact q.imp (λq=>by rw[aO f];exact q) λ⟨o,q⟩=>⟨o,by rw[aO f];exact q⟩
 ·rw[aO (bW e i)];exact E.base c o e
def Ot(X:Cx)(el:A1->Env->Sem Unit)(fs:Ev->S (Y Dt))(Ac:A1->Hp->Y Dt->HO->Prop)(N n:Nat):Prop:=∀(AN:Y (A1×AE)) (s:A2) (σ:L2.St) (H a:Hp) (ρ:Ev) (D:A1) (o:HO) (b ys:Y Dt),L2.AU X AN σ H s->bN X.K a H σ ρ->VJ a σ ρ n->a D=O->fs ρ=Z ys->H D=Z o->Ac D H b o->b.length+ys.length<=N →
 A7 (f6 X) X.A (el D X.env) (λ_ s'=>∃ σ' H' o',L2.AU X AN σ' H' s'/\bN X.K a H' σ' ρ/\Fx σ σ' ρ/\H' D=Z o'/\Ac D H' (b++ys) o') X.xe s
theorem ZQ{fs:Ev->S (Y Dt)}{Ac:A1->Hp->Y Dt->HO->Prop}{N:Nat}(h:∀(AN:Y (A1×AE)) (s:A2) (σ:L2.St) (H c:Hp) (ρ:Ev) (D:A1) (o:HO) (b ys:Y Dt),L2.AU X AN σ H s->bN X.K c H σ ρ->fs ρ=Z ys->H D=Z o->Ac D H b o->b.length+ys.length<=N →
  A7 (f6 X) X.A (el D X.env) (λ_ s'=>∃a o',L2.AU X AN σ (B7 a D o') s'/\AV H a/\Kp a (B7 a D o')/\Ac D (B7 a D o') (b++ys) o') X.xe s):Ot X el fs Ac N n:=λAN s σ H c ρ D o b ys I E P d e1 e2 a1 l=>by
 refine qB (h AN s σ H c ρ D o b ys I E e1 e2 a1 l) (λ_ s' ⟨a,o',I',s9,kp,a'⟩=>?_) λ_ _ z=>z;exact⟨σ,_,o',I',(E.grow s9).grown P d kp,λ_ _ _ _=>Y3,bh,a'⟩
structure Ma (B:Around->Bool->Prop) (P:Program) (w:World) (K:B6) (tg:Expr) (J:It) (fp:List Addr) (it:Addr) (tn:Nat->Heap->Prop):Prop where
 obj:∀i h,tn i h->∀b∈fp,∃o,h.get? b=some o/\∀v,o.data≠.cell v
 keep:∀i h h',tn i h->(∀b∈fp,∀o,h.get? b=some o->h'.get? b=some o)->tn i h'
 item:∀(X:Cx),X.prog=P->X.w=w->X.K=K->B X.A X.calm->∀(i:Nat) (AN:List (Addr×Obj)) (s:Shared) (σ:L2.St) (H:Hp) (E:BF),L2.AU X AN σ H s->(∀b∈fp,nG X AN H b)->tn i s.heap->J.go i H →
  wpAny (model P w) X.A (pyNext (.ref it)) (λr s1=>∃u,r=some u ∧
   wpAny (model P w) X.A (letOwnedTupleGo tg (.ref it) u) (λ_ s2=>∃x H',L2.AU X AN σ H' s2/\At x u/\J.yld i H x H'/\tn (i+1) s2.heap/\∀b∈fp,H' b=none) E s1) E s
 done:∀(X:Cx),X.prog=P->X.w=w->X.K=K->B X.A X.calm->∀(i:Nat) (AN:List (Addr×Obj)) (s:Shared) (σ:L2.St) (H:Hp) (E:BF),L2.AU X AN σ H s->(∀b∈fp,nG X AN H b)->tn i s.heap->J.stop i H →
  wpAny (model P w) X.A (pyNext (.ref it)) (λr s1=>r=none/\L2.AU X AN σ H s1) E s
 self:∀(A:Around) (i:Nat) (s:Shared) (Q:BF) (E:BF),tn i s.heap->Q (.ref it) s->wpAny (model P w) A (pyIter (.ref it)) Q E s
abbrev Ht:A5->Bool->Prop:=λ_ c=>c=true
theorem Mf(T:C9 P w K tg J fp it tn):Ma Ht P w K tg J fp it tn:=⟨T.obj,T.keep,T.item,T.done,T.self⟩
theorem CP{comp:Expr}{d:Nat}{c9:Pos}{Ac:A1->Hp->List Dt->HO->Prop}{fs:Ev->S (List Dt)}{N:Nat}{l:Hp}{ds o0 out:List Dt}{ρ:Ev}{R:Result->A2->Prop}(b0:B X.A X.calm)(hx:X.xe=λ_ _=>False)(Kc:DU X tgt gt)(d3:C6 X ifs p)(c6:Ot X el fs Ac N m)(b6:Qi n m gt)(d1:n<=m)(I:L2.AU X AN σ H s)(E:bN X.K l H σ ρ)(P:VJ l σ ρ n)(hD:l D=O)(c5:H D=Z o)(hA:Ac D H o0 o)(T:Ma B X.prog X.w X.K tgt J fp it tn)(st:tn 0 s.heap)(hf:∀b∈fp,nG X AN H b)(Y:B4 X.K J ds l)(b7:wk gt p fs ρ ds=Z out)(hN:o0.length+out.length<=N)(XD:∀{D:A1} {H H':Hp} {C:List Dt} {o:HO},Kp H H'->Ac D H C o->Ac D H' C o)(c8:∀(it:A0) (D:A1) (env:Env),compTurn comp d it (.ref D) env=(standAt c9 >>= λ_=>pyNext it >>= λr=>match r with
   |none=>pure (.done .next)
   |some v=>letOwnedTupleGo tgt it v >>= λ_=>assign tgt env v >>= λ_=>(forIn ifs true λc r=>if r=true then isTrue c env (eval c env) >>= λok=>pure (ForInStep.yield ok)else pure (ForInStep.yield r)) >>= λok=>if ok=true then el D env >>= λ_=>again (.compLoop comp d it (.ref D) env)else again (.compLoop comp d it (.ref D) env)))(c7:∀{it acc:A0} {env:Env} {Q:Fin->A2->Prop} {E:BF} {s:A2},A7 (f6 X) X.A ((compTurn comp d it acc env).onRaise (λx=>noteFrame x env >>= λ_=>theTreesLotGoes x)) Q E s->A7 (f6 X) (X.A.under (.compLoop comp d it acc env)) ((f6 X).den (.compLoop comp d it acc env)) Q E s)(hR:∀s' σ' H' o',L2.AU X AN σ' H' s'->bN X.K l H' σ' ρ->Fx σ σ' ρ->H' D=Z o'->Ac D H' (o0++out) o'->R (.ok .next) s'):
  AF (f6 X) X.A (.compLoop comp d (.ref it) (.ref D) X.env) R s:=by
 have a4:∀{H':Hp},(∀b∈fp,H' b=O)->∀b∈fp,nG X AN H' b:=λ{H'} hn b y=>⟨hn b y,(hf b y).2⟩;refine codeAny_loop Y3 (λk s'=>∃(i:Nat) (σ':L2.St) (H':Hp) (C o2:List Dt) (o:HO),k=ds.length-i/\i<=ds.length/\L2.AU X AN σ' H' s'/\tn i s'.heap/\(∀b∈fp,H' b=O)/\bN X.K l H' σ' ρ/\Fx σ σ' ρ/\H' D=Z o/\Ac D H' C o/\wk gt p fs ρ (ds.drop i)=Z o2/\C++o2=o0++out) ?_ ds.length
  ⟨0,σ,H,o0,out,o,by simp,qi _,I,st,λb y=>(hf b y).1,E,λ_ _ _ _=>Y3,c5,hA,by simpa using b7,rfl⟩
 rintro k s4 ⟨i,W,H4,C,o2,o,rfl,hi,I4,a9,b3,E4,F4,a1,r4,g,ho⟩;have P4:=P.fx F4;refine c7 (wpAny_noted ?_);rw[c8];obtain⟨y1,y2⟩:=Y i H4 E4.base;by_cases a3:i<ds.length
 ·have hd:ds[i]?=Z ds[i]:=by simp[a3]
  obtain⟨go,yl⟩:=y1 _ hd;rw[yb a3]at g;simp only[wk]at g;obtain⟨t,e1,g⟩:=AT g;obtain⟨k,ek,g⟩:=AT g;obtain⟨b8,a6⟩:=b6 _ _ _ e1;have a7:∀{a2:L2.St} {H5:Hp},bN X.K l H5 a2 t->bN X.K l H5 a2 ρ:=λE5=>E5.forget b8 λj b e=>by rw[a6 j (.inl (P.lt j b e))];exact e
  refine zb (ki (zb ?_));refine gU (T.item X Y3 Y3 Y3 b0 i AN s4 W H4 _ I4 (a4 b3) a9 go) λr s5 ⟨u,hr,h5⟩=>?_;subst hr;refine zb (gU h5 λ_ s6 ⟨x,H6,I6,r6,y6,DI,fr6⟩=>?_);obtain⟨sm,rx⟩:=yl x H6 y6;have E4:=E4.grow sm;have a1:=sm _ _ a1;have r4:=XD (.of sm) r4;have d2:=I6.pinned (a4 fr6) (T.obj _ _ DI);have ha:=Kc _ s6 W H6 x u (λσ' H'=>H'=H6/\bN X.K l H6 σ' t/\Lo W ρ σ' t) d2 r6 ⟨l,ρ,ds[i],t,E4,rx,e1,λσ' E' L'=>⟨rfl,E',L'⟩⟩;rw[hx]at ha;refine zb (qB ha (λ_ s7 h7=>?_) λ_ _ z=>z.elim);obtain⟨G,H7,I7,rfl,E7,L7⟩:=h7;have P7:VJ l G t m:=by
   refine⟨λj c e=>?_,λj c e=>?_,λj c a e F ea=>?_⟩
   ·cases c with
    |o ds=>exact P.own j _ (L7 j _ Y3 e).1
    |m ds _=>exact P.own j _ (L7 j _ Y3 e).1
    |_=>rfl
   ·refine Nat.lt_of_not_le λh=>?_;rw[a6 j (.inr h)]at e;exact absurd (Zp (P.lt j c e) d1) (dQ.mpr h)
   ·obtain⟨e',ee⟩:=L7 j c F e;exact P4.old j c a e' F (by rw[<-ee];exact ea)
  have XF:∀{a2:L2.St},Fx G a2 t->Fx σ a2 ρ:=λf j c F e=>by
   have e':t[j]?=Z (Z c):=by rw[a6 j (.inl (P.lt j c e))];exact e
   exact(f j c F e').trans ((L7 j c F e').2.trans (F4 j c F e))
  have ht:A7 (f6 X) X.A (forIn ifs true λc r=>if r=true then do let ok <-isTrue c X.env (eval c X.env);pure (ForInStep.yield ok)else pure (ForInStep.yield r))
    (λok M=>ok=k/\∃q,L2.AU X (AN++vX fp s6.heap) G q M/\AV H7 q) (notedBy (f6 X) X.A X.env λe s'=>R (.error e) s') s7:=by
   rcases d3 with⟨rfl,rfl⟩|⟨c,rfl,hc⟩
   ·cases ek;exact wpAny_tests_nil ⟨rfl,H7,I7,AV.refl H7⟩
   ·refine wpAny_tests_one ?_;have:=hc _ s7 G H7 (λb q=>b=k/\AV H7 q) I7 ⟨l,t,k,E7,ek,λq M=>⟨rfl,M⟩⟩;rw[hx]at this;exact qB this (λb M ⟨q,I8,eb,s8'⟩=>⟨eb,q,I8,s8'⟩) λ_ _ z=>z.elim
  refine zb (qB ht (λok M h8=>?_) λ_ _ z=>z);obtain⟨rfl,q,I8,U⟩:=h8;have Rf:∀{a0:L2.St} {L:Hp} {s9:A2},L2.AU X (AN++vX fp s6.heap) a0 L s9->L2.AU X AN a0 L s9/\tn (i+1) s9.heap/\∀b∈fp,L b=O:=λ{a0 L s9} I9=>by
   refine⟨I9.qt,T.keep _ _ _ DI λb y o e=>(I9.pin (b,o) (qf _ (qf _ (ou y e)))).1,λb y=>?_⟩;obtain⟨o,e,d⟩:=T.obj _ _ DI b y;exact(I9.pin (b,o) (qf _ (qf _ (ou y e)))).2.1
  cases ok with
  |false=>
   rw[zr ZO]at g;obtain⟨I9,c4,b4⟩:=Rf I8;exact zd ⟨rfl,ds.length-(i+1),by omega,i+1,G,q,C,o2,o,rfl,a3,I9,c4,b4,a7 (E7.grow U),XF (λ_ _ _ _=>Y3),U _ _ a1,XD (.of U) r4,g,ho⟩
  |true=>
   rw[zh rfl]at g;obtain⟨ys,eb,g⟩:=AT g;obtain⟨zs,e5,g⟩:=AT g;cases g;have F:=congrArg dq ho;simp only[zC]at F;have he:=c6 _ M G q l t D o C ys I8 (E7.grow U) P7 hD eb (U _ _ a1) (XD (.of U) r4) ();rw[hx]at he;refine zb (qB he (λ_ d6 d5=>?_) λ_ _ z=>z.elim);obtain⟨a0,L,o',d4,E9,F9,b9,a5⟩:=d5;obtain⟨d0,b5,c0⟩:=Rf d4;exact zd ⟨rfl,ds.length-(i+1),by omega,i+1,a0,L,C++ys,zs,o',rfl,a3,d0,b5,c0,a7 E9,XF F9,b9,a5,e5,by rw[ZE];exact ho⟩
 ·have a8:ds.length<=i:=by omega
  rw[kX a8]at g;cases g;refine zb (ki (zb ?_));refine gU (T.done X Y3 Y3 Y3 b0 i AN s4 W H4 _ I4 (a4 b3) a9 (y2 a8)) λr s5 ⟨hr,I5⟩=>?_;subst hr;rw[qa]at ho;exact zd (hR s5 W H4 o I5 E4 F4 a1 (by rw[<-ho];exact r4))
theorem CQ{R:Result->A2->Prop}{d:Nat}{f:Expr}{it acc:A0}(c:(clausesOf e)[d]?=Z ⟨f,iter,ifs,0⟩)(hd:∀{Q:Fin->A2->Prop} {E:BF},A7 (A8 prog w) A ((compStart e d it acc env).onRaise (λx=>do noteFrame x env;standAt theWindowsPlace)) Q E s->A7 (A8 prog w) (A.under (.compStart e d it acc env)) ((A8 prog w).den (.compStart e d it acc env)) Q E s)(a:Code.quiet (.compLoop e d it acc env)=true:=by rfl)(g:AF (A8 prog w) A (.compLoop e d it acc env) R s)(h:A7 (A8 prog w) A (pyIter it) (λb s'=>AF (A8 prog w) A (.compLoop e d b acc env) R s') (notedBy (A8 prog w) A env λx s'=>R (.error x) s') s):
  AF (A8 prog w) A (.compStart e d it acc env) R s:=by
 refine codeAny_of_tree (hd ?_);refine wpAny_notedAt ?_;unfold compStart;rw[c];show A7 _ _ (ask >>= _) _ _ s;refine zb (wpAny_askSetting (wpAny_ite ?_));split
 ·exact zd (And.intro a g)
 ·refine zb (QI ?_);show A7 _ _ (standAt iter.pos >>= _) _ _ s;exact zb (ki (zb (qB h (λb s' h'=>zd (And.intro a h')) λ_ _ x=>x)))
def xJ(H:Hp)(D:A1):Hp:=λb=>if b=D then O else H b
theorem qz{b:A1}(h:b≠D):xJ H D b=H b:=zr h
theorem zM:AV (xJ H D) H:=λb o e=>by
 by_cases h:b=D
 ·rw[xJ,zh h]at e;cases e
 ·rw[qz h]at e;exact e
theorem bN.onto{d b:Hp}{ρ:Ev}(E:bN K d H σ ρ)(P:∀(j:Nat) c,ρ[j]?=Z (Z c)->sX c=false)(s:AV b H):bN K b H σ ρ:=
 ⟨E.len,E.val,E.own,s,λj c a e f=>absurd f (by rw[P j c e];exact ZO)⟩
def CY(fi:Ev->S (Y Dt))(gt:Dt->Ev->S Ev)(p:Ev->S Bool)(fs:Ev->S (Y Dt)):Ev->S (Y Dt):=λρ=>(fi ρ).bind λds=>wk gt p fs ρ ds
theorem Hu{comp:Expr}{d:Nat}{Ac:A1->Hp->List Dt->HO->Prop}{fs:Ev->S (List Dt)}{N:Nat}(a5:X.calm=true)(hx:X.xe=λ_ _=>False)(hi:FK X tgt iter fi)(Kc:DU X tgt gt)(a0:C6 X ifs p)(a2:Ot X el fs Ac N m)(a6:Qi n m gt)(W:n<=m)(M:∀{D:A1} {H H':Hp} {f:List Dt} {o:HO},Kp H H'->Ac D H f o->Ac D H' f o)(q:∀{D:A1} {H:Hp} {f:List Dt} {o:HO},Ac D H f o->(∀C u,o≠.j7 C u)/\∀vs,o≠.tup vs)(hs:∀x,foldedSetIterable iter X.env x=pure x)(a9:∀(it:A0) (D:A1) (env:Env),compTurn comp d it (.ref D) env=(standAt iter.pos >>= λ_=>pyNext it >>= λr=>match r with
   |none=>pure (.done .next)
   |some v=>letOwnedTupleGo tgt it v >>= λ_=>assign tgt env v >>= λ_=>(forIn ifs true λc r=>if r=true then isTrue c env (eval c env) >>= λok=>pure (ForInStep.yield ok)else pure (ForInStep.yield r)) >>= λok=>if ok=true then el D env >>= λ_=>again (.compLoop comp d it (.ref D) env)else again (.compLoop comp d it (.ref D) env)))(a8:∀{it acc:A0} {env:Env} {R:Result->A2->Prop} {s:A2},AF (f6 X) X.A (.compLoop comp d it acc env) R s->A7 (f6 X) X.A (pyIter it) (λa7 s'=>AF (f6 X) X.A (.compLoop comp d a7 acc env) R s') (notedBy (f6 X) X.A env λx s'=>R (.error x) s') s->AF (f6 X) X.A (.compStart comp d it acc env) R s)(a3:∀{it acc:A0} {env:Env} {Q:Fin->A2->Prop} {E:BF} {s:A2},A7 (f6 X) X.A ((compTurn comp d it acc env).onRaise (λx=>noteFrame x env >>= λ_=>theTreesLotGoes x)) Q E s->A7 (f6 X) (X.A.under (.compLoop comp d it acc env)) ((f6 X).den (.compLoop comp d it acc env)) Q E s):
  Ot X (λD env=>do let x <-eval iter env;standAt iter.pos;let x <-foldedSetIterable iter env x;let _ <-runOwn (.compStart comp d (<-holding [x] (pyIter x)) (.ref D) env) env) (CY fi gt p fs) Ac N n:=by
 intro AN s σ H L ρ D o f ys I E P hD e G l k;obtain⟨ds,ed,e⟩:=AT e;refine zb (qB (hi AN s σ H (λJ H'=>AV H H'/\∀Hs,AV Hs H'->(∀a,H a=O->Hs a=H' a)->(∀a o u,H' a=Z (.j7 o u)->Hs a=H' a)->(∀a vs,H' a=Z (.tup vs)->Hs a=H' a)->B4 X.K J ds Hs) I ⟨L,ρ,ds,E,ed,λJ H' s' y=>⟨s',y⟩⟩) (λv s1 h1=>?_) λ_ _ z=>z);refine zb (ki (zb (wpAny_of_eq (hs v) (zb (Q4 (qB h1 (λb0 s2 h2=>?_) λ_ _ z=>z))))));obtain⟨it,fp,tn,J,H2,rfl,I2,T,st,hf,g,Y⟩:=h2;have i:=g _ _ G;have a4:=M (.of g) l;have Yb:B4 X.K J ds (xJ H2 D):=Y _ zM (λa b=>qz λz=>by rw[z,G]at b;cases b) (λa C u b=>qz λz=>by rw[z,i]at b;cases b;exact(q l).1 _ _ Y3) λa vs b=>qz λz=>by rw[z,i]at b;cases b;exact(q l).2 _ rfl
 have F:AV L (xJ H2 D):=λa u ea=>by rw[qz (bW ea hD)];exact g _ _ (E.base _ _ ea)
 have E2:bN X.K (xJ H2 D) H2 σ ρ:=(E.grow g).onto P.own zM;have P2:VJ (xJ H2 D) σ ρ n:=⟨P.own,P.lt,λj c a ec k ea z=>P.old j c a ec k ea (F.free z)⟩;have lp:∀{R:Result->A2->Prop},(∀s' σ' H' o',L2.AU X AN σ' H' s'->bN X.K (xJ H2 D) H' σ' ρ->Fx σ σ' ρ->H' D=Z o'->Ac D H' (f++ys) o'->R (.ok .next) s')->AF (f6 X) X.A (.compStart comp d (.ref it) (.ref D) X.env) R s2:=λhR=>
  have h:=CP (B:=Ht) a5 hx Kc a0 a2 a6 W I2 E2 P2 (zh Y3) i a4 (Mf T) st hf Yb e k M a9 a3 hR
  a8 h (T.self _ 0 _ _ _ st h)
 exact zb (wpAny_runOwn (lp λs' σ' H' o' I' t U a1 a'=>zd ⟨σ',H',o',I',t.onto P.own (F.trans t.base),U,a1,a'⟩))
theorem CT{comp:Expr}{mk:Sem A0}{o0:AE}{O0:HO}{Ac:A1->Hp->List Dt->HO->Prop}{fs:Ev->S (List Dt)}{N:Nat}{H2:Hp}{a:A2}{ds out:List Dt}{ρ:Ev}(O:qy X scope cl xs is)(b4:B X.A X.calm)(Kc:∀C l k fp,DU (xH X (xs++ts) scope cl C l k fp) tgt gt)(a3:∀C l k fp,C6 (xH X (xs++ts) scope cl C l k fp) ifs p)(b0:∀C l k fp,Ot (xH X (xs++ts) scope cl C l k fp) el fs Ac N m)(b5:Qi is.length m gt)(a2:is.length<=m)(U:L2.AU X AN σ H2 a)(G:bN X.K H2 H2 (oH is σ++aa ts.length none) (gZ is ρ++aa ts.length none))(T:Ma B X.prog X.w X.K tgt J fp it tn)(st:tn 0 a.heap)(I:∀b∈fp,nG X AN H2 b)(Y:B4 X.K J ds H2)(b6:wk gt p fs (gZ is ρ++aa ts.length none) ds=Z out)(c5:out.length<=N)(c4:∀(D C:A1) (s':A2) (H':Hp) (o:HO),H2 D=none->L2.AU X AN σ H' s'->nG X AN H' C->(∃m,s'.heap.Ns C m)->AV H2 H'->H' D=Z o->Ac D H' out o->RR (.ref D) C (.ok .next) s')(b8:∀{Q:BF},Q (.ref a.heap.objs.size) { a with heap:=a.heap.push o0 }->A7 (f6 X) X.A mk Q E a)(a9:∀H,gq X.prog X.w H (a.heap.push o0) a.heap.objs.size O0)(a7:∀H,Ac a.heap.objs.size H [] O0)(XD:∀{D:A1} {H H':Hp} {o1:List Dt} {o:HO},Kp H H'->Ac D H o1 o->Ac D H' o1 o)(c7:∀(it:A0) (D:A1) (env:Env),compTurn comp 0 it (.ref D) env=(standAt iter.pos >>= λ_=>pyNext it >>= λr=>match r with
   |none=>pure (.done .next)
   |some v=>letOwnedTupleGo tgt it v >>= λ_=>assign tgt env v >>= λ_=>(forIn ifs true λc r=>if r=true then isTrue c env (eval c env) >>= λok=>pure (ForInStep.yield ok)else pure (ForInStep.yield r)) >>= λok=>if ok=true then el D env >>= λ_=>again (.compLoop comp 0 it (.ref D) env)else again (.compLoop comp 0 it (.ref D) env)))(c6:∀{it acc:A0} {env:Env} {R:Result->A2->Prop} {s:A2},AF (f6 X) X.A (.compLoop comp 0 it acc env) R s->A7 (f6 X) X.A (pyIter it) (λb9 s'=>AF (f6 X) X.A (.compLoop comp 0 b9 acc env) R s') (notedBy (f6 X) X.A env λx s'=>R (.error x) s') s->AF (f6 X) X.A (.compStart comp 0 it acc env) R s)(a8:∀{it acc:A0} {env:Env} {Q:Fin->A2->Prop} {E:BF} {s:A2},A7 (f6 X) X.A ((compTurn comp 0 it acc env).onRaise (λx=>noteFrame x env >>= λ_=>theTreesLotGoes x)) Q E s->A7 (f6 X) (X.A.under (.compLoop comp 0 it acc env)) ((f6 X).den (.compLoop comp 0 it acc env)) Q E s):
  A7 (f6 X) X.A mk (λacc c0=>A7 (f6 X) X.A (newFunctionEnv scope X.env.globals cl [] X.env.qual none .none (Z X.env)) (λW a4=>
   AF (f6 X) X.A (.compStart comp 0 (.ref it) acc { W with scope:=relabel scope X.env }) (RR acc W.locals) a4) E c0) E a:=by
 refine b8 (Oq ?_);have u:H2 a.heap.objs.size=none:=U.hok.fresh (zl _);have t:L2.AU X AN σ (B7 H2 a.heap.objs.size O0) { a with heap:=a.heap.push o0 }:=
  U.laid (t':=a.toks) (λb o e=>ze _ e) (zl _) (a9 _)
 have L:∀b∈fp,b<a.heap.objs.size:=λb d=>let ⟨o,e,_⟩:=T.obj 0 _ st b d;zw e;have y:∀b∈fp,nG X AN (B7 H2 a.heap.objs.size O0) b:=λb d=>⟨by rw[aO (z4 (L b d))];exact(I b d).1,(I b d).2⟩;have a0:tn 0 (a.heap.push o0):=T.keep 0 _ _ st λb d o e=>ze _ e;have n:∀b∈fp,b<(a.heap.push o0).objs.size:=λb d=>by rw[kq];exact cm (L b d)
 generalize b7:({ a with heap:=a.heap.push o0 }:A2)=s3 at *
 have b3:s3.heap=a.heap.push o0:=by rw[<-b7]
 rw[<-b3]at a0 n;have IC:=Rc (ts:=ts) t O y n;have a1:tn 0 (pushCells (s3.heap.push { cls:=.type "dict",data:=.dict #[] }) scope.names):=T.keep 0 _ _ a0 λb d o e=>pushCells_keeps _ _ b o (ze _ e);have a6:∀b∈fp,nG (xH X (xs++ts) scope cl s3.heap.objs.size s3 (B7 H2 a.heap.objs.size O0) fp) [] (B7 H2 a.heap.objs.size O0) b:=λb d=>by
  obtain⟨f0,f1,f2,f3,F,M⟩:=y b d;refine⟨f0,z4 (n b d),λz=>?_,.inl d,λx c e z=>?_,λq hq=>absurd (show q∈([]:List (A1×AE)) from hq) (by simp)⟩
  ·rcases List.mem_cons.mp (t.Ea b z)with q|q
   ·exact f1 q
   ·exact f2 q
  ·rcases uO _ _ _ x c e with h|h
   ·exact F x c (O.sub.get h) z
   ·rw[z]at h;exact absurd (Zp (n b d) (Nat.le_of_succ_le h)) (kK _)
 have P0:VJ H2 (oH is σ++aa ts.length none) (gZ is ρ++aa ts.length none) is.length:=by
  have g:∀(j:Nat) c,(gZ is ρ++aa ts.length none)[j]?=Z (Z c)->j<is.length/\sX c=false:=λj c e=>by
   by_cases hj:j<is.length
   ·refine⟨hj,?_⟩;rw[ZN (by simp[gZ];omega)]at e;unfold gZ at e;rw[qv]at e;cases q:is[j]? with
    |none=>rw[q]at e;cases e
    |some i=>rw[q]at e;exact yD (by simpa using e)
   ·rw[QA (by simp[gZ];omega),js]at e;split at e<;>cases e
  exact⟨λj c e=>(g j c e).2,λj c e=>(g j c e).1,DS G⟩
 have h:=CP (B:=B) (X:=xH X (xs++ts) scope cl s3.heap.objs.size s3 (B7 H2 a.heap.objs.size O0) fp) (R:=RR (.ref a.heap.objs.size) s3.heap.objs.size) (o0:=[]) b4 Y3 (Kc _ _ _ _) (a3 _ _ _ _) (b0 _ _ _ _) b5 a2 IC (G.grow (bO u)) P0 u bh (a7 _) T a1 a6 Y b6 (by simpa using c5) XD c7 a8 λP c9 H5 o5 f E5 _ c8 a5=>by
  have IB:L2.AU X AN σ H5 P:=t.call' (ch:=fp) f.os f.base f.hok f.bare λb d=>by
   obtain⟨f0,f1,f2,f3,F,M⟩:=y b d;exact⟨f3,f1,F,M⟩
  obtain⟨m,hn,_⟩:=f.loc;exact c4 _ _ P H5 o5 u IB (t.Ef (zl _) f.free) ⟨m,hn⟩ E5.base c8 a5
 exact c6 h (T.self _ 0 _ _ _ a1 h)
def Mh(K:B6)(_:A1)(H:Hp)(a:Y Dt)(o:HO):Prop:=∃us,o=.lst us/\aF K H a us
theorem Mh.kp{K:B6}{D:A1}{H H':Hp}{a:Y Dt}{o:HO}(k:Kp H H'):Mh K D H a o->Mh K D H' a o:=λ⟨us,e,r⟩=>⟨us,e,r.kp k⟩
def VN(fe:Ev->S Bx):Ev->S (Y Dt):=λρ=>(fe ρ).bind ZP
theorem Mi(h:PV X elt fe):Ot X (λD env=>do let _ <-call (.builtin "list.append") [.ref D,<-eval elt env]) (VN fe) (Mh X.K) 100000 n:=by
 refine ZQ λAN s σ H Hb ρ D o o1 ys I En g hD ⟨us,e,r4⟩ hl=>?_;subst e;obtain⟨b,eb,g⟩:=AT g;obtain⟨y,rfl,rfl⟩:=CN g;refine zb (qB (h AN s σ H (λv a=>AV H a/\AW X.K a y v) I ⟨Hb,ρ,_,En,eb,λv a f _ d=>⟨f,d⟩⟩) (λv f p=>?_) λ_ _ z=>z);obtain⟨c,a,t,l,i,d⟩:=p;have j:=i _ _ hD;refine zb (qB ((CG (X:=X)) _ f σ a (.ref D) [c] (.ref D) [v] (λw k=>k=B7 a D (.lst (us++[c]))) t Y3 (.cons l .nil) ⟨_,us,c,rfl,rfl,j,by rw[r4.length];have A:(100000:Nat)<AA:=();simp at hl;omega,rfl⟩) (λw x q=>?_) λ_ _ z=>z);obtain⟨u,k,m,_,rfl⟩:=q;have kp:Kp a (B7 a D (.lst (us++[c]))):=.lst j;exact zd ⟨a,_,m,i,kp,us++[c],rfl,((r4.kp (.of i)).append (aF.cons d aF.nil)).kp kp⟩
theorem Hv{H2:Hp}{k:A2}{ds out:List Dt}{ρ:Ev}(O:qy X scope cl xs is)(G:B X.A X.calm)(s:∀C j i fp,DU (xH X (xs++ts) scope cl C j i fp) tgt gt)(v:∀C j i fp,C6 (xH X (xs++ts) scope cl C j i fp) ifs p)(y:∀C j i fp,PV (xH X (xs++ts) scope cl C j i fp) elt fe)(H:Qi is.length (is.length+ts.length) gt)(z:L2.AU X AN σ H2 k)(q:bN X.K H2 H2 (oH is σ++aa ts.length none) (gZ is ρ++aa ts.length none))(T:Ma B X.prog X.w X.K tgt J fp it tn)(st:tn 0 k.heap)(u:∀b∈fp,nG X AN H2 b)(Y:B4 X.K J ds H2)(x:ds.length<=100000)(n:CK gt p fe (gZ is ρ++aa ts.length none) ds=Z out)(t:∀(D C:A1) (s':A2) (H':Hp) (us:List V),H2 D=none->L2.AU X AN σ H' s'->nG X AN H' C->(∃m,s'.heap.Ns C m)->AV H2 H'->H' D=Z (.lst us)->aF X.K H' out us->RR (.ref D) C (.ok .next) s'):
  A7 (f6 X) X.A (newList []) (λacc I=>A7 (f6 X) X.A (newFunctionEnv scope X.env.globals cl [] X.env.qual none .none (Z X.env)) (λl F=>
   AF (f6 X) X.A (.compStart (.ListComp elt [⟨tgt,iter,ifs,0⟩] scope pos) 0 (.ref it) acc { l with scope:=relabel scope X.env }) (RR acc l.locals) F) E I) E k:=
 CT (B:=B) (Ac:=Mh X.K) (O0:=.lst []) (N:=100000) O G s v (λC j i fp=>Mi (y C j i fp)) H (Nat.le_add_right ..) z q T st u Y n (zi (wz n) x) (λD C s' H' o a b c d e f g=>by obtain⟨us,rfl,r⟩:=g;exact t D C s' H' us a b c d e f r)
  qr (λ_=>⟨qi _,[],0,.nil,zz _ rfl⟩) (λ_=>⟨[],rfl,aF.nil⟩) Mh.kp (λ_ _ _=>Y3) codeAny_compStart_list λh=>h
end
def iC(K:B6)(f:Ev->S (Y Dt)):TI:=λσ H R=>∃H0 ρ ds,bN K H0 H σ ρ/\f ρ=Z ds/\∀J H',AV H H'->B4 K J ds H'->R J H'
def FV(X:Cx)(tg iter:Expr)(f:Ev->S (Y Dt)):Prop:=PI X tg iter (iC X.K f)
structure DA (X:Cx) (tg iter:Expr) (f:Ev->Option (List Dt)):Prop where
 run:FV X tg iter f
def VP:Bx->S (Y Dt)
 |.z (.lst ds)=>Z ds
 |.z (.tup ds)=>Z ds
 |.z (.str x)=>Z (By x)
 |.o ds=>Z ds
 |.l ds=>Z ds
 |_=>O
section
variable{f:Ev->S Bx}{fs:Ev->S (Y Bx)}{xs:Au}{gt:Dt->Ev->S Ev}{p:Ev->S Bool}{fe:Ev->S Bx}{fi:Ev->S (Y Dt)}
theorem Rh(h:Ch X tgt iter fi):DA X tgt iter fi:=⟨have h:=h.run;λAN s σ H R I q=>by
 obtain⟨H0,ρ,ds,E,e,q⟩:=q;exact h AN s σ H R I ⟨H0,ρ,ds,E,e,λJ H' s' y=>q J H' s' (y H' (AV.refl H') (λ_ _=>Y3) (λ_ _ _ _=>Y3) λ_ _ _=>Y3)⟩⟩
theorem dD(h:QV X e f):DA X tgt e (λρ=>(f ρ).bind VP):=⟨have h:=h.run;λAN s σ H R I q=>by
 refine Q8 h AN s σ H R I ?_;obtain⟨H0,ρ,ds,E,e,q⟩:=q;obtain⟨b,eb,e⟩:=AT e;refine⟨H0,ρ,b,E,eb,λv H1 j p i=>?_⟩;cases b with
 |z d=>
  cases d with
  |tup k=>
   cases e;simp only[aW,AW]at i;obtain⟨a,vs,rfl,c,g⟩:=i;exact .inr (.inl ⟨a,rfl,⟨vs,c⟩,q _ _ j (.tup c g)⟩)
  |lst k=>
   cases e;obtain⟨a,vs,rfl,c,g⟩:=i.zB rfl;exact .inl ⟨a,rfl,⟨vs,c⟩,q _ _ j (.list c g)⟩
  |str x=>
   cases e;simp only[aW,AW]at i;obtain⟨rfl,_⟩:=i;exact .inr (.inr ⟨x,rfl,q _ _ j (.str x)⟩)
  |_=>cases e
 |l k=>
  cases e;obtain⟨a,vs,rfl,c,g⟩:=i.zB rfl;exact .inl ⟨a,rfl,⟨vs,c⟩,q _ _ j (.list c g)⟩
 |o k=>
  cases e;obtain⟨a,vs,rfl,c,g⟩:=i.zB rfl;exact .inl ⟨a,rfl,⟨vs,c⟩,q _ _ j (.list c g)⟩
 |n _=>cases e
 |m _ _=>cases e⟩
def dR(fi:Ev->S (Y Dt))(gt:Dt->Ev->S Ev)(p:Ev->S Bool)(fe:Ev->S Bx)(is:Y Nat)(n:Nat):Ev->S Bx:=λρ=>(fi ρ).bind λds=>
 if ds.length<=100000 then(CK gt p fe (gZ is ρ++aa n O) ds).bind λout=>Z (.o out)else O
theorem d7(ts:Au)(O:qy X scope cl xs is)(G:X.calm=true)(hi:DA X tgt iter fi)(i:∀C d c fp,UG (xH X (xs++ts) scope cl C d c fp) tgt gt)(f:∀C d c fp,sZ (xH X (xs++ts) scope cl C d c fp) ifs p)(g:∀C d c fp,QV (xH X (xs++ts) scope cl C d c fp) elt fe)(L:Qi is.length (is.length+ts.length) gt)(hs:∀x,foldedSetIterable iter X.env x=pure x:=by intro _;rfl):QV X (.ListComp elt [⟨tgt,iter,ifs,0⟩] scope pos) (dR fi gt p fe is ts.length):=⟨have hi:=hi.run;have i:=λC d c fp=>(i C d c fp).run;have f:=λC d c fp=>(f C d c fp).run;have g:=λC d c fp=>(g C d c fp).run;λAN s σ H Q I h=>by
 obtain⟨H0,ρ,b,E,e,q⟩:=h;obtain⟨ds,t,e⟩:=AT e;split at e
 ·rename_i W;obtain⟨out,P,e⟩:=AT e;cases e;rw[eval_ListComp];refine yA (use:=none) Y3 hs O.clos O.kind O.names ?_;refine gU (hi AN s σ H (λJ H'=>AV H H'/\B4 X.K J ds H') I ⟨H0,ρ,ds,E,t,λJ H' s' y=>⟨s',y⟩⟩) λv s1 h1=>gU h1 λa0 s2 h2=>?_;obtain⟨it,fp,tn,J,H2,rfl,F,T,st,l,j,Y⟩:=h2;refine Hv (B:=Ht) (RR:=λu C=>compPost (f6 X) X.A X.xe none (EP X AN σ Q) u C) (ts:=ts) (xs:=xs) O G i f g L F ((E.grow j).caps is ts.length) (Mf T) st l Y W P ?_;intro D C s' H' us M k fC ⟨m,hn⟩ s2' hD' r';refine⟨m,hn,λh' N=>⟨.ref D,H',?_,rfl,q _ _ (j.trans s2') (λa ea=>by cases ea;exact j.free M) ⟨D,us,rfl,hD',r'⟩⟩⟩;obtain⟨f0,f1,f2,f3,U,n⟩:=fC;exact k.turned (t':=s'.toks) (λb o z e=>(N.2 b z).trans e) f0 f1 f3 U n
 ·cases e⟩
theorem EY(i:Nat){py spos:Pos}(ts:Au)(O:qy X scope cl xs is)(a2:X.calm=true)(hN:X.N.Nodup)(hi:DA X tgt iter fi)(n:∀C d c fp,UG (xH X (xs++ts) scope cl C d c fp) tgt gt)(k:∀C d c fp,sZ (xH X (xs++ts) scope cl C d c fp) ifs p)(l:∀C d c fp,QV (xH X (xs++ts) scope cl C d c fp) elt fe)(a3:Qi is.length (is.length+ts.length) gt)(L:swapsWith (.ListComp elt [⟨tgt,iter,ifs,0⟩] scope pos) (Z (.Name y py)) spos.line X.env=pure true:=by with_unfolding_all rfl)(hy:X.N[i]?=Z y:=by rfl)(hx:D8 X.env.scope y:=by first|exact Kb rfl|exact ke Y3)(M:X.fn y=true\/X.env.scope.names.lookup y=Z .local:=by first|exact .inl rfl|exact .inr Y3)(hs:∀x,foldedSetIterable iter X.env x=pure x:=by intro _;rfl):Q0 X (.Assign [.Name y py] (.ListComp elt [⟨tgt,iter,ifs,0⟩] scope pos) spos) (λρ=>(dR fi gt p fe is ts.length ρ).bind λb=>(Q7 ρ i b).bind λρ'=>Z (.nx ρ')):=⟨have hi:=hi.run;have n:=λC d c fp=>(n C d c fp).run;have k:=λC d c fp=>(k C d c fp).run;have l:=λC d c fp=>(l C d c fp).run;λAN s σ H D I h=>by
 obtain⟨H0,ρ,r,E,e,q⟩:=h;obtain⟨b,eb,e⟩:=AT e;obtain⟨ds,ed,eb⟩:=AT eb;split at eb
 ·rename_i a4;obtain⟨out,eo,eb⟩:=AT eb;cases eb;cases e;rw[exec_Assign_Name_used _ _ _ _ L];refine zb (ki (zb ?_));show A7 _ X.A (do let _ <-comprehension (.ListComp elt [⟨tgt,iter,ifs,0⟩] scope pos) scope X.env _ (newList []) false (eval iter X.env) (Z (assign (.Name y py) X.env))) _ _ s;refine zb (qB (yA (use:=Z (assign (.Name y py) X.env)) (Q:=λ_ s'=>SP X AN D .next s') Y3 hs O.clos O.kind O.names ?_) (λ_ s' hq=>zd (zd hq)) λ_ _ e=>e);refine gU (hi AN s σ H (λJ H'=>AV H H'/\B4 X.K J ds H') I ⟨H0,ρ,ds,E,ed,λJ H' s' y=>⟨s',y⟩⟩) λv s1 h1=>gU h1 λa6 s2 h2=>?_;obtain⟨it,fp,tn,J,H2,rfl,I2,T,st,W,t,Y⟩:=h2;refine Hv (B:=Ht) (RR:=λa1 C=>compPost (f6 X) X.A X.xe (Z (assign (.Name y py) X.env)) (λ_ s'=>SP X AN D .next s') a1 C) (ts:=ts) (xs:=xs) O a2 n k l a3 I2 ((E.grow t).caps is ts.length) (Mf T) st W Y a4 eo ?_;intro f C s' H' us hD u fC ⟨m,hn⟩ s2' hD' r';show A7 _ X.A (assign (.Name y py) X.env (.ref f)) _ _ s';obtain⟨f0,f1,f2,f3,f4,f5⟩:=fC;obtain⟨g,a0,ep,a5,F,U⟩:=id hn;have P:L2.AU X (AN++[(C,g)]) σ H' s':=u.Ed λpp hp=>by
   rcases ah.mp hp with z|z
   ·exact u.pin pp (qf _ z)
   ·have:pp=(C,g):=by simpa using z
    subst this;exact⟨a5,f0,f1,f2,λv z=>by rw[F]at z;cases z⟩
  refine gU (L2.Lr hN hy hx M (AN++[(C,g)]) s' σ H' (.ref f) (.ref f) (λσ' j=>σ'=σ.set i (Z (.ref f))/\j=H') P Y3 ⟨rfl,rfl⟩) λ_ s'' ⟨σ',j,J',e1,e2⟩=>?_;subst e1 e2;have G:=(J'.pin (C,g) (by simp)).1;refine⟨m,⟨g,a0,ep,G,F,U⟩,λh' sb=>?_⟩;refine⟨σ.set i (Z (.ref f)),j,J'.qt.turned (t':=s''.toks) (λb o hb e=>(sb.2 b hb).trans e) f0 f1 f3 f4 f5,q _ _ ?_⟩;exact E.set (t.trans s2') (b:=.o out) ⟨f,us,rfl,hD',r'⟩ (.inl Y3) λa ea=>by cases ea;exact t.free hD
 ·cases eb⟩
def BA:Bx->Bx
 |.o ds=>.l ds
 |.m ds _=>.n ds
 |b=>b
def Os:Bx->Bool
 |.o _=>true
 |.m _ _=>true
 |_=>false
def Ri(K:B6)(n:Nat)(F:Y Bx->S Bx):Sp:=λvs H Q _=>vs.length=n/\∃bs r,rZ K H bs vs/\bs.all (λb=>!Os b)=true/\F bs=Z r/\∀v H',AV H H'->Nw H r v->aW K H' r v->Q v H'
def eZ(n:Nat)(g:Ev->S An):Y Bx->S Bx:=λbs=>(g (bs.map Z++aa (n-bs.length) O)).bind λr=>match r with
 |.rt b=>Z b
 |.nx _=>Z (.z .non)
 |_=>O
theorem bN.start{K:B6}{H:Hp}{N:Au}{bs:Y Bx}{vs:Y V}(r:rZ K H bs vs)(k:bs.all (λb=>!Os b)=true):bN K H H (L2.start N vs) (bs.map Z++aa (N.length-bs.length) O):=by
 have h:bs.length=vs.length:=Paired.length r;have get:∀(i:Nat) b,(bs.map Z++aa (N.length-bs.length) O)[i]?=Z (Z b)->bs[i]?=Z b:=λi b e=>by
  by_cases hi:i<bs.length
  ·rw[ZN (by simpa using hi),qv]at e;cases q:bs[i]? with
   |none=>rw[q]at e;cases e
   |some l=>rw[q]at e;simpa using e
  ·rw[QA (by simp;omega),js]at e;split at e<;>cases e
 have f:∀(i:Nat) c,(bs.map Z++aa (N.length-bs.length) O)[i]?=Z (Z c)->sX c=true->False:=λi c e d=>by
  have:=List.all_eq_true.mp k _ (KA (get i _ e));cases c with
  |o ds=>cases this
  |m ds _=>cases this
  |_=>cases d
 refine⟨?_,λi b e=>?_,λi j c a b e d=>(f i c e d).elim,AV.refl H,λi c a e d=>(f i c e d).elim⟩
 ·unfold L2.start;simp[h]
 ·have e':=get i b e;have hi:i<bs.length:=(ae.mp e').1;have:∀{bs:Y Bx} {vs:Y V} {i:Nat} {b:Bx},AI (aW K H) bs vs->bs[i]?=Z b->∃v,vs[i]?=Z v/\aW K H b v:=by
   intro bs vs i b r
   induction r generalizing i with
   |nil=>intro e;simp at e
   |cons p t g=>
    intro e;cases i with
    |zero=>simp at e;subst e;exact⟨_,rfl,p⟩
    |succ i=>obtain⟨v,e1,e2⟩:=g (i:=i) (by simpa using e);exact⟨v,by simpa using e1,e2⟩
  obtain⟨v,e1,e2⟩:=this r e';refine⟨v,?_,e2⟩;unfold L2.start;rw[ZN (by simp;omega),qv,e1];rfl
end
theorem OF{f:A1}{g:Ev->Option An}(F:Uy K x qual st f fd)(S:cj N ps (aQ st))(n:∀(c:A0) (A:A5) (outer:Y Env) (s:A2) (H:Hp) (E:XK),gY k (A.deeper (AK qual (aQ st) s.heap.objs.size f c))->Qq (zm Hj P w K mg base N qual (aQ st) f c A outer s H E).Ux (gF st) g):
  sW P w K mg base Hj (k+1) f fd ps (Ri K ps.length (eZ N.length g)):=by
 refine F.ok S (λvs H Q E h=>h.1) λc A outer s H vs Q E j h=>?_;obtain⟨o,bs,r,d,i,e,q⟩:=h;refine⟨_,n c A outer s H E j,?_⟩;obtain⟨a,er,e⟩:=AT e;refine⟨H,_,a,bN.start d i,er,?_⟩;cases a with
 |rt b=>cases e;exact λv H' s' m a=>q v H' s' m a
 |nx ρ=>cases e;exact λσ H' l=>q _ H' l.base trivial (by unfold aW AW;rfl)
 |bk ρ=>cases e
 |ct ρ=>cases e
section
variable{f:A1}{F:Y Bx->S Bx}{p:Pos}{fs:Ev->S (Y Bx)}
theorem Hw{K:B6}{H:Hp}:∀{bs:Y Bx} {vs:Y V},rZ K H bs vs->rZ K H (bs.map BA) vs
 |_,_,.nil=>.nil
 |b::bs,_,.cons h t=>by
  refine .cons ?_ (Hw t);cases b with
  |z d=>exact h
  |l ds=>exact h
  |o ds=>obtain⟨a,vs,e,q,r⟩:=h;exact⟨a,vs,e,.inl q,r⟩
  |n ds=>exact h
  |m ds _=>obtain⟨a,vs,e,q,r⟩:=h;exact⟨a,vs,e,.inl q,r.1⟩
theorem Mj:∀bs:Y Bx,(bs.map BA).all (λb=>!Os b)=true
 |[]=>rfl
 |b::bs=>by
  rw[zv,eg,Mj bs];cases b<;>rfl
def bU(n:Nat)(F:Y Bx->S Bx)(fs:Ev->S (Y Bx)):Ev->S Bx:=λρ=>(fs ρ).bind λbs=>if bs.length=n then F (bs.map BA)else O
theorem VR(G:sW X.prog X.w X.K X.mg X.base Hj k f fd ps (Ri X.K n F))(o:gY k X.A)(j:Gl X x)(d:X.mg x=Z (.ref f))(hk:keepIn X.K (.ref f)=true)(i:BN X.K fd ps [])(a:Lz X (e::es) fs)(t:fT x:=by decide)(s:A9 (e::es) X.env=(false,eval e X.env)::A9 es X.env:=by rfl)(g:(AD pos (A9 es X.env)).any (·.1)=false:=by rfl):QV X (.Call (.Name x p) (e::es) [] pos) (bU n F fs):=⟨have a:=a.run;Hl (Vc G o j d hk i .nil (He) a t s g) λσ H Q h=>by
 obtain⟨H0,ρ,r,E,e,q⟩:=h;obtain⟨bs,eb,e⟩:=AT e;refine⟨H0,ρ,bs,E,eb,λvs H1 b c=>?_⟩;split at e
 ·rename_i m;rw[qa];exact⟨by rw[<-Paired.length c];exact m,_,r,Hw c,Mj bs,e,λv H2 u l y=>q v H2 (b.trans u) (l.old b) y⟩
 ·cases e⟩
end
end P1
variable{b:P1.Bx}{d:P1.Dt}{q:P1.Ev->S Bool}{F:Y P1.Bx->S P1.Bx}{f:P1.Ev->S P1.Bx}{g:P1.Ev->S P1.An}{p:P1.Ev->S Bool}{AO:Y (L2.AY×P1.Dt)}{ds:Y P1.Dt}{fa:P1.Ev->S P1.Bx}{ρ:P1.Ev}{fb fc:P1.Ev->S P1.Bx}{g1 g2:P1.Ev->S P1.An}{gt:P1.Dt->P1.Ev->S P1.Ev}{gb:P1.Ev->S P1.An}{fi:P1.Ev->S (Y P1.Dt)}{fe:P1.Ev->S P1.Bx}{Ac:A1->L2.Hp->Y P1.Dt->L2.HO->Prop}{fk:P1.Dt->S P1.Bx}{fo fv:P1.Ev->S P1.Bx}{fr:P1.Ev->S (Y (AJ×P1.Dt))}{f1:P1.Ev->S P1.Bx}{gx:P1.Ev->S P1.Dt}{kf:Y P1.Dt->S (Y (Y L2.AY))}{jT:P1.Bx}
namespace P1
open L2 SeqAt
open AutoSeq1 (wpAny_loadPart')
def BR(h:A6)(a:A1):Prop:=∃o ep,h.get? a=Z o/\o.ExactDict/\o.data=.dict #[] ep
section
variable{b:A1}
theorem uP{AO:Y (AY×V)}{vs:Y (AY×A0)}(q:AO=[])(r:KV AO vs)(d:h.DictOf (d8 P w) a vs):BR h a:=by
 subst q;cases r;obtain⟨o,es,ep,h1,h2,c,_,b,_⟩:=d;have:es=#[]:=by
  have:=b.length;apply Array.eq_empty_of_size_eq_zero;simpa using this
 subst this;exact⟨o,ep,h1,h2,c⟩
theorem BR.dict(P:A3)(w:A4)(x:BR h a):h.DictOf (strKind P w) a []:=by
 obtain⟨o,ep,h1,h2,c⟩:=x;exact⟨o,#[],ep,h1,h2,c,λe b=>by simp at b,.nil,List.nodup_nil⟩
theorem XH(c:(a==sysModules)=false)(e:(b==sysModules)=false)(f:BR s.heap a)(d:BR s.heap b)(g:A.units<cLine):RcAt A s (.ref a) (.ref b) true:=λprog w E Q h=>
 PySem.W.keq_eq (knd:=strKind prog w) c e (f.dict prog w) (d.dict prog w) g (λ_=>.nil) h
theorem LZ(c:(a==sysModules)=false)(e:(b==sysModules)=false)(f:BR s.heap a)(d:BR s.heap b)(g:A.units<cLine):RcNeAt A s (.ref a) (.ref b) false:=λprog w E Q h=>
 PySem.W.keq_ne (r:=true) (knd:=strKind prog w) c e (f.dict prog w) (d.dict prog w) g (λ_=>.nil) h
theorem Hx(o:AE)(b:AJ)(u:Tok):Meets (Builtin.«dict.__eq__» ⟨[.ref a,.str b u],[]⟩) (λ_ R s=>(s.heap.get? a=Z o/\o.cls=.type "dict")/\R (.ok (.ret .notImplemented)) s):=
 .of_wp λprog w A R s h=>by
  have c:s.TypeIs (.ref a) "dict":=⟨o,h.1.1,h.1.2⟩;show A7 _ _ (Builtin.Dict.dictSlotArgs "__eq__" ⟨[.ref a,.str b u],[]⟩ >>= _) _ _ s;refine zb ?_;unfold Builtin.Dict.dictSlotArgs;refine zb (wpAny_notOrdered_dict c ?_);show A7 _ _ (pure (Value.ref a,Value.str b u)) _ _ s;refine zd ?_;refine zb (wpAny_isInstance (T :="str") (typeIs_str s b u) PySem.F.sub_str_dict ?_);simp only[bP,QU];refine zb (QI ?_);exact zd ⟨_,rfl,h.2⟩
theorem Hy(b:AJ)(u:Tok)(es:Array DictEntry)(ep:Nat)(e:S A1)(sl:Array (S A0)):Meets (Builtin.«str.__eq__» ⟨[.str b u,.ref a],[]⟩) (λ_ R s=>s.heap.get? a=Z { cls:=.type "dict",dict:=e,data:=.dict es ep,slots:=sl }/\R (.ok (.ret .notImplemented)) s):=
 .of_wp λprog w A R s h=>by obtain⟨hp,g,d,tk,os⟩:=s;obtain⟨c,h⟩:=h;wp_walk using wpAny_loadPart' c,wpAny_load c;exact⟨_,rfl,h⟩
theorem CV(x:AJ)(t:Tok)(d:BR s.heap a)(i:A.units<cLine):RcAt A s (.str x t) (.ref a) false:=λprog w E Q h=>by
 obtain⟨⟨l,g,j,sl⟩,ep,c,⟨e,hd,m⟩,f⟩:=d;simp only at e f;subst e f;exact rc_eq_decline_or (k:=false) (typeIs_str s x t) ⟨_,c,rfl⟩ () PySem.F.sub_dict_str PySem.F.slot_str_eq PySem.F.slot_dict_eq_refl
  (λ_ b=>call_meets PySem.F.slot_str_eq (typeIs_str s x t) PySem.F.entry_str_eq (PySem.F.args_str_eq_2 _ _) (Hy x t #[] ep g sl) ⟨c,b⟩)
  (λ_ b=>call_meets PySem.F.slot_dict_eq_refl ⟨_,c,rfl⟩ PySem.F.entry_dict_eq (PySem.F.args_dict_eq_2 _ _) (Hx _ x t) ⟨⟨c,rfl⟩,b⟩)
  (λ_ b=>wpAny_of_eq (rfl:isSame (.str x t) (.ref a)=pure false) b) (.inr i) h
theorem Hz(o:AE)(b:AJ)(u:Tok):Meets (Builtin.«dict.__ne__» ⟨[.ref a,.str b u],[]⟩) (λ_ R s=>(s.heap.get? a=Z o/\o.cls=.type "dict")/\R (.ok (.ret .notImplemented)) s):=
 .of_wp λprog w A R s h=>by
  have c:s.TypeIs (.ref a) "dict":=⟨o,h.1.1,h.1.2⟩;show A7 _ _ (Builtin.Dict.dictSlotArgs "__ne__" ⟨[.ref a,.str b u],[]⟩ >>= _) _ _ s;refine zb ?_;unfold Builtin.Dict.dictSlotArgs;refine zb (wpAny_notOrdered_dict c ?_);show A7 _ _ (pure (Value.ref a,Value.str b u)) _ _ s;refine zd ?_;refine zb (wpAny_isInstance (T :="str") (typeIs_str s b u) PySem.F.sub_str_dict ?_);simp only[bP,QU];refine zb (QI ?_);exact zd ⟨_,rfl,h.2⟩
theorem HB(b:AJ)(u:Tok)(es:Array DictEntry)(ep:Nat)(e:S A1)(sl:Array (S A0)):Meets (Builtin.«str.__ne__» ⟨[.str b u,.ref a],[]⟩) (λ_ R s=>s.heap.get? a=Z { cls:=.type "dict",dict:=e,data:=.dict es ep,slots:=sl }/\R (.ok (.ret .notImplemented)) s):=
 .of_wp λprog w A R s h=>by obtain⟨hp,g,d,tk,os⟩:=s;obtain⟨c,h⟩:=h;wp_walk using wpAny_loadPart' c,wpAny_load c;exact⟨_,rfl,h⟩
theorem Ou(x:AJ)(t:Tok)(d:BR s.heap a)(i:A.units<cLine):RcNeAt A s (.str x t) (.ref a) true:=λprog w E Q h=>by
 obtain⟨⟨l,g,j,sl⟩,ep,c,⟨e,hd,m⟩,f⟩:=d;simp only at e f;subst e f;exact rc_ne_decline_or (k:=false) (typeIs_str s x t) ⟨_,c,rfl⟩ () PySem.F.sub_dict_str PySem.F.slot_str_ne PySem.F.slot_dict_ne_refl
  (λ_ b=>call_meets PySem.F.slot_str_ne (typeIs_str s x t) PySem.F.entry_str_ne (PySem.F.args_str_ne_2 _ _) (HB x t #[] ep g sl) ⟨c,b⟩)
  (λ_ b=>call_meets PySem.F.slot_dict_ne_refl ⟨_,c,rfl⟩ PySem.F.entry_dict_ne (PySem.F.args_dict_ne_2 _ _) (Hz _ x t) ⟨⟨c,rfl⟩,b⟩)
  (λ_ b=>wpAny_of_eq (rfl:isSame (.str x t) (.ref a)=pure false) b) (.inr i) h
theorem Ov(x:AJ)(t:Tok)(d:BR s.heap a)(c:A.units<cLine):EqAt A s (.str x t) (.ref a) false:=λprog w E Q h=>by
 unfold eqBool;refine Q4 ?_;refine wpAny_ite_split (λb=>absurd (eq_of_beq b) nofun) (λ_=>?_);exact zb (CV x t d c prog w E _ (QP h))
end
mutual
def rP:Dt->Nat
 |.tup xs=>uQ xs+1
 |.lst xs=>uQ xs+1
 |_=>1
def uQ:Y Dt->Nat
 |[]=>0
 |d::ds=>max (rP d) (uQ ds)
end
mutual
def uy:Dt->Dt->S Bool
 |.non,.non=>Z true
 |.non,.bl _=>Z false|.non,.int _=>Z false|.non,.str _=>Z false|.non,.tup _=>Z false|.non,.lst _=>Z false
 |.bl a,.bl b=>Z (a==b)
 |.bl a,.int b=>Z ((if a then 1 else 0)==b)
 |.bl _,.non=>Z false|.bl _,.str _=>Z false|.bl _,.tup _=>Z false|.bl _,.lst _=>Z false
 |.int a,.int b=>Z (a==b)
 |.int a,.bl b=>Z (a==(if b then 1 else 0))
 |.int _,.non=>Z false|.int _,.str _=>Z false|.int _,.tup _=>Z false|.int _,.lst _=>Z false
 |.str a,.str b=>Z (a==b)
 |.str _,.non=>Z false|.str _,.bl _=>Z false|.str _,.int _=>Z false|.str _,.tup _=>Z false|.str _,.lst _=>Z false|.str _,.emp=>Z false
 |.tup xs,.tup ys=>jC xs ys
 |.tup _,.non=>Z false|.tup _,.bl _=>Z false|.tup _,.int _=>Z false|.tup _,.str _=>Z false|.tup _,.lst _=>Z false
 |.lst xs,.lst ys=>jC xs ys
 |.emp,.emp=>Z true
 |.lst _,.non=>Z false|.lst _,.bl _=>Z false|.lst _,.int _=>Z false|.lst _,.str _=>Z false|.lst _,.tup _=>Z false
 |_,_=>O
def jC:Y Dt->Y Dt->S Bool
 |[],[]=>Z true
 |[],_::_=>Z false
 |_::_,[]=>Z false
 |x::xs,y::ys=>match uy x y with
  |some b=>match jC xs ys with
   |some c=>Z (b&&c)
   |none=>O
  |none=>O
end
mutual
theorem HD:∀{d:Dt} {k:Bool},uy d d=Z k->k=true
 |.non,_,e=>by cases e;rfl
 |.bl b,_,e=>by cases e;simp
 |.int b,_,e=>by cases e;simp
 |.str b,_,e=>by cases e;simp
 |.tup xs,_,e=>wA (ds:=xs) e
 |.lst xs,_,e=>wA (ds:=xs) e
 |.emp,_,e=>by cases e;rfl
theorem wA:∀{ds:Y Dt} {k:Bool},jC ds ds=Z k->k=true
 |[],_,e=>by simp only[jC]at e;cases e;rfl
 |d::ds,_,e=>by
  simp only[jC]at e;cases h:uy d d with
  |none=>rw[h]at e;cases e
  |some b=>
   rw[h]at e;simp only at e;cases h2:jC ds ds with
   |none=>rw[h2]at e;cases e
   |some c=>
    rw[h2]at e;cases e;rw[HD h,wA h2];rfl
end
theorem yF(xs ys:Y Dt):uy (.tup xs) (.tup ys)=jC xs ys:=rfl
theorem qC:∀{xs ys:Y Dt} {k:Bool},jC xs ys=Z k->∃e:Nat->Bool,(∀(j:Nat) x y,xs[j]?=Z x->ys[j]?=Z y->uy x y=Z (e j))/\k=((av (min xs.length ys.length)).all e&&xs.length==ys.length)
 |[],[],k,h=>by simp only[jC]at h;cases h;exact⟨λ_=>true,λj x y e=>by simp at e,by simp⟩
 |[],y::ys,k,h=>by simp only[jC]at h;cases h;exact⟨λ_=>true,λj x y e=>by simp at e,by simp⟩
 |x::xs,[],k,h=>by simp only[jC]at h;cases h;exact⟨λ_=>true,λj x y _ e=>by simp at e,by simp⟩
 |x::xs,y::ys,k,h=>by
  simp only[jC]at h;cases h1:uy x y with
  |none=>rw[h1]at h;cases h
  |some b=>
   rw[h1]at h;simp only at h;cases h2:jC xs ys with
   |none=>rw[h2]at h;cases h
   |some c=>
    rw[h2]at h;cases h;obtain⟨e,g,d⟩:=qC h2;refine⟨λj=>match j with|0=>b|j+1=>e j,λj u v a ev=>?_,?_⟩
    ·cases j with
     |zero=>simp at a ev;subst a ev;exact h1
     |succ j=>exact g j u v (by simpa using a) (by simpa using ev)
    ·have:min (x::xs).length (y::ys).length=min xs.length ys.length+1:=by simp only[Z3];omega
     rw[this,be,eg,cE,d];have f:((x::xs).length==(y::ys).length)=(xs.length==ys.length):=by
      rw[jI];simp
     rw[f,Bool.and_assoc];rfl
theorem qD:∀{ds:Y Dt} {j:Nat} {d:Dt},ds[j]?=Z d->rP d<=uQ ds
 |[],_,_,e=>by simp at e
 |d::ds,0,_,e=>by simp at e;subst e;simp only[uQ];exact Nat.le_max_left _ _
 |d::ds,j+1,_,e=>by
  simp only[uQ];exact zi (qD (ds:=ds) (j:=j) (by simpa using e)) (Nat.le_max_right _ _)
theorem yG(I:L2.AU X AN σ H s)(h:qj X.K H a vs):∃b,s.heap.get? a=Z b/\b.cls=.type "tuple":=by
 obtain⟨AQ,_,⟨b,e,c,_⟩,_⟩:=I.tuple h;exact⟨b,e,c⟩
theorem yH(I:L2.AU X AN σ H s)(h:nF X.K H a vs):∃b,s.heap.get? a=Z b/\b.cls=.type "list":=by
 obtain⟨AQ,_,⟨b,n,e,c,_⟩,_⟩:=I.list h;exact⟨b,e,c⟩
theorem yI(I:L2.AU X AN σ H s){o:AE}(h:H a=Z (.j7 o (.dK []))):∃b,s.heap.get? a=Z b/\b.cls=.type "dict":=by
 obtain⟨e,_,_,vs,_,b,es,ep,e2,ex,_⟩:=I.hok a _ h;exact⟨b,e2,ex.1⟩
theorem wB{n m:String}(h:∃b,s.heap.get? a=Z b/\b.cls=.type n)(q:∃b,s.heap.get? a=Z b/\b.cls=.type m)(d:n≠m):False:=by
 obtain⟨o,e,c⟩:=h;obtain⟨o',e',c'⟩:=q;rw[e]at e';cases e';rw[c]at c';exact d (by injection c')
mutual
theorem AW.inj(I:L2.AU X AN σ H s):∀{d e:Dt} {v:V},AW X.K H d v->AW X.K H e v->d=e
 |.non,e,v,h,q=>by
  simp only[AW]at h;subst h;cases e<;>simp only[AW]at q<;>first|rfl|(cases q;done)|(obtain⟨a,b,z,_⟩:=q;cases z;done)|(obtain⟨z,_⟩:=q;cases z;done)
 |.bl _,e,v,h,q=>by
  simp only[AW]at h;subst h;cases e<;>simp only[AW]at q<;>first|(cases q;rfl)|(cases q;done)|(obtain⟨a,b,z,_⟩:=q;cases z;done)|(obtain⟨z,_⟩:=q;cases z;done)
 |.int _,e,v,h,q=>by
  simp only[AW]at h;subst h;cases e<;>simp only[AW]at q<;>first|(cases q;rfl)|(cases q;done)|(obtain⟨a,b,z,_⟩:=q;cases z;done)|(obtain⟨z,_⟩:=q;cases z;done)
 |.str x,e,v,h,q=>by
  simp only[AW]at h;have g:v=.str x:=h.1;subst g;cases e with
  |str y=>
   simp only[AW]at q;have z:V.str x=V.str y:=q.1;injection z with z;rw[z]
  |tup es=>simp only[AW]at q;obtain⟨a,b,z,_⟩:=q;cases z
  |lst es=>simp only[AW]at q;obtain⟨a,b,z,_⟩:=q;cases z
  |emp=>simp only[AW]at q;obtain⟨a,b,z,_⟩:=q;cases z
  |_=>simp only[AW]at q;cases q
 |.tup ds,e,v,h,q=>by
  simp only[AW]at h;obtain⟨a,vs,rfl,sq,r⟩:=h;cases e with
  |tup es=>
   simp only[AW]at q;obtain⟨b,us,z,c,f⟩:=q;cases z;have:=I.vW sq c;subst this;rw[aF.inj I r f]
  |lst es=>
   simp only[AW]at q;obtain⟨b,us,z,c,f⟩:=q;cases z;exact(wB (yG I sq) (yH I c.sq) ()).elim
  |emp=>
   simp only[AW]at q;obtain⟨b,o,z,c⟩:=q;cases z;exact(wB (yG I sq) (yI I c) ()).elim
  |str x=>simp only[AW]at q;have z:=q.1;cases z
  |_=>simp only[AW]at q;cases q
 |.lst ds,e,v,h,q=>by
  simp only[AW]at h;obtain⟨a,vs,rfl,sq,r⟩:=h;cases e with
  |lst es=>
   simp only[AW]at q;obtain⟨b,us,z,c,f⟩:=q;cases z;have:=I.zc sq.sq c.sq;subst this;rw[aF.inj I r f]
  |tup es=>
   simp only[AW]at q;obtain⟨b,us,z,c,f⟩:=q;cases z;exact(wB (yH I sq.sq) (yG I c) ()).elim
  |emp=>
   simp only[AW]at q;obtain⟨b,o,z,c⟩:=q;cases z;exact(wB (yH I sq.sq) (yI I c) ()).elim
  |str x=>simp only[AW]at q;have z:=q.1;cases z
  |_=>simp only[AW]at q;cases q
 |.emp,e,v,h,q=>by
  simp only[AW]at h;obtain⟨a,o,rfl,sq⟩:=h;cases e with
  |emp=>rfl
  |tup es=>
   simp only[AW]at q;obtain⟨b,us,z,c,f⟩:=q;cases z;exact(wB (yI I sq) (yG I c) ()).elim
  |lst es=>
   simp only[AW]at q;obtain⟨b,us,z,c,f⟩:=q;cases z;exact(wB (yI I sq) (yH I c.sq) ()).elim
  |str x=>simp only[AW]at q;have z:=q.1;cases z
  |_=>simp only[AW]at q;cases q
theorem aF.inj(I:L2.AU X AN σ H s):∀{ds es:Y Dt} {vs:Y V},aF X.K H ds vs->aF X.K H es vs->ds=es
 |[],es,vs,h,q=>by
  simp only[aF]at h;subst h;cases es with
  |nil=>rfl
  |cons e es=>simp only[aF]at q;obtain⟨_,_,z,_⟩:=q;cases z
 |d::ds,es,vs,h,q=>by
  simp only[aF]at h;obtain⟨v,r,rfl,h1,h2⟩:=h;cases es with
  |nil=>simp only[aF]at q;cases q
  |cons e es=>
   simp only[aF]at q;obtain⟨a,b,z,q1,q2⟩:=q;cases z;rw[AW.inj I h1 q1,aF.inj I h2 q2]
end
theorem XJ(I:L2.AU X AN σ H s):∀(n:Nat) {A:A5} {d e:Dt} {x y:V} {u v:A0} {k:Bool},min (rP d) (rP e)<=n->A.units+n<cLine->AW X.K H d x->AW X.K H e y->At x u->At y v->uy d e=Z k->EqAt A s u v k:=by
 intro n
 induction n with
 |zero=>
  intro A d e x y u v k N;have h1:1<=rP d:=by cases d<;>simp only[rP]<;>omega
  have h2:1<=rP e:=by cases e<;>simp only[rP]<;>omega
  omega
 |succ n ih=>
  intro A d e x y u v k N hA m c w g ek;have h:A.units<cLine:=by omega
  by_cases G:u=v/\∃a,u=.ref a
  ·obtain⟨rfl,a,rfl⟩:=G;have hx:x=.ref a:=by have:=w.abs;simpa[YW]using this.symm
   have hy:y=.ref a:=by have:=g.abs;simpa[YW]using this.symm
   subst hx hy;have:=AW.inj I m c;subst this;rw[HD ek];exact EqAt.same _
  ·have items:∀{ds es:Y Dt} {vs us:Y V} {AQ l:Y A0} {f:Nat->Bool},min (uQ ds) (uQ es)<=n->aF X.K H ds vs->aF X.K H es us->AX vs AQ->AX us l->(∀(j:Nat) x y,ds[j]?=Z x->es[j]?=Z y->uy x y=Z (f j)) →
     ∀j (h1:j<AQ.toArray.size) (h2:j<l.toArray.size),EqAt A.in1 s AQ.toArray[j] l.toArray[j] (f j):=by
    intro ds es vs us AQ l f hm r1 r2 U w2 D j h1 h2;have l1:=U.length;have l2:=w2.length;have l3:=r1.length;have l4:=r2.length;have j1:j<AQ.length:=by simpa using h1
    have j2:j<l.length:=by simpa using h2
    have Q:ds[j]?=Z ds[j]:=by simp
    have d2:es[j]?=Z es[j]:=by simp
    obtain⟨a,ea,B⟩:=r1.get Q;obtain⟨b,eb,C⟩:=r2.get d2;obtain⟨p,ep,rp⟩:=U.get ea;obtain⟨q,eq,rq⟩:=w2.get eb;have e1:AQ.toArray[j]=p:=by simpa[j1]using ep
    have e2:l.toArray[j]=q:=by simpa[j2]using eq
    rw[e1,e2];have W:=qD Q;have m2:=qD d2;exact ih () (by rw[units_in1];omega) B C rp rq (D j _ _ Q d2)
   cases d with
   |non=>
    cases m;cases w;cases e with
    |non=>cases c;cases g;cases ek;exact EqAt.same _
    |bl b=>cases c;cases g;cases ek;exact EqAt.none_bool b
    |int b=>cases c;obtain⟨t,rfl⟩:=g;cases ek;exact EqAt.none_int b t
    |str b=>obtain⟨rfl,_⟩:=c;obtain⟨t,rfl⟩:=g;cases ek;exact EqAt.none_str b t
    |tup es=>obtain⟨b,us,rfl,sq,_⟩:=c;cases g;cases ek;obtain⟨_,_,p,_⟩:=I.tuple sq;exact EqAt.none_tuple p h
    |lst es=>obtain⟨b,us,rfl,sq,_⟩:=c;cases g;cases ek;obtain⟨_,_,p,_⟩:=I.list sq.sq;exact EqAt.none_list p.isList h
    |emp=>cases ek
   |bl a=>
    cases m;cases w;cases e with
    |non=>cases c;cases g;cases ek;exact EqAt.bool_none a
    |bl b=>cases c;cases g;cases ek;exact EqAt.bool_bool a b
    |int b=>cases c;obtain⟨t,rfl⟩:=g;cases ek;exact EqAt.bool_int a b t
    |str b=>obtain⟨rfl,_⟩:=c;obtain⟨t,rfl⟩:=g;cases ek;exact EqAt.bool_str a b t
    |tup es=>obtain⟨b,us,rfl,sq,_⟩:=c;cases g;cases ek;obtain⟨_,_,p,_⟩:=I.tuple sq;exact EqAt.bool_tuple a p h
    |lst es=>obtain⟨b,us,rfl,sq,_⟩:=c;cases g;cases ek;obtain⟨_,_,p,_⟩:=I.list sq.sq;exact EqAt.bool_list a p.isList h
    |emp=>cases ek
   |int a=>
    cases m;obtain⟨i,rfl⟩:=w;cases e with
    |non=>cases c;cases g;cases ek;exact EqAt.int_none a i
    |bl b=>cases c;cases g;cases ek;exact EqAt.int_bool a i b
    |int b=>cases c;obtain⟨t,rfl⟩:=g;cases ek;exact EqAt.int_int a i b t
    |str b=>obtain⟨rfl,_⟩:=c;obtain⟨t,rfl⟩:=g;cases ek;exact EqAt.int_str a i b t
    |tup es=>obtain⟨b,us,rfl,sq,_⟩:=c;cases g;cases ek;obtain⟨_,_,p,_⟩:=I.tuple sq;exact EqAt.int_tuple a i p h
    |lst es=>obtain⟨b,us,rfl,sq,_⟩:=c;cases g;cases ek;obtain⟨_,_,p,_⟩:=I.list sq.sq;exact EqAt.int_list a i p.isList h
    |emp=>cases ek
   |str a=>
    obtain⟨rfl,_⟩:=m;obtain⟨i,rfl⟩:=w;cases e with
    |non=>cases c;cases g;cases ek;exact EqAt.str_none a i
    |bl b=>cases c;cases g;cases ek;exact EqAt.str_bool a i b
    |int b=>cases c;obtain⟨t,rfl⟩:=g;cases ek;exact EqAt.str_int a i b t
    |str b=>obtain⟨rfl,_⟩:=c;obtain⟨t,rfl⟩:=g;cases ek;exact EqAt.str_str a i b t
    |tup es=>obtain⟨b,us,rfl,sq,_⟩:=c;cases g;cases ek;obtain⟨_,_,p,_⟩:=I.tuple sq;exact EqAt.str_tuple a i p h
    |lst es=>obtain⟨b,us,rfl,sq,_⟩:=c;cases g;cases ek;obtain⟨_,_,p,_⟩:=I.list sq.sq;exact EqAt.str_list a i p.isList h
    |emp=>
     simp only[AW]at c;obtain⟨p,o,rfl,e⟩:=c;cases g;cases ek;obtain⟨_,_,vs,r,q⟩:=xu I.hok (.inr ⟨o,e⟩);exact Ov a i (uP Y3 r q) h
   |tup ds=>
    obtain⟨a,vs,rfl,M,B⟩:=m;cases w;obtain⟨AQ,F,p,_⟩:=I.tuple M;cases e with
    |non=>cases c;cases g;cases ek;exact EqAt.tuple_none p h
    |bl b=>cases c;cases g;cases ek;exact EqAt.tuple_bool b p h
    |int b=>cases c;obtain⟨t,rfl⟩:=g;cases ek;exact EqAt.tuple_int b t p h
    |str b=>obtain⟨rfl,_⟩:=c;obtain⟨t,rfl⟩:=g;cases ek;exact EqAt.tuple_str b t p h
    |lst es=>obtain⟨b,us,rfl,sq,_⟩:=c;cases g;cases ek;obtain⟨_,_,p2,_⟩:=I.list sq.sq;exact EqAt.tuple_list p p2.isList h
    |tup es=>
     obtain⟨b,us,rfl,P,C⟩:=c;cases g;obtain⟨l,E,p2,_⟩:=I.tuple P;change jC _ _=Z _ at ek;obtain⟨f,D,rfl⟩:=qC ek;have L:a≠b:=λz=>G ⟨by rw[z],a,rfl⟩;have z:=EqAt.of_refs L (RcAt.tuples (A:=A) (e:=f) p p2 h (items (by simp only[rP]at N;omega) B C F E D));have q1:AQ.toArray.size=ds.length:=by rw[zk,<-F.length,B.length]
     have q2:l.toArray.size=es.length:=by rw[zk,<-E.length,C.length]
     rw[q1,q2]at z;exact z
    |emp=>cases ek
   |lst ds=>
    obtain⟨a,vs,rfl,M,B⟩:=m;cases w;obtain⟨AQ,F,p,_⟩:=I.list M.sq;cases e with
    |non=>cases c;cases g;cases ek;exact EqAt.list_none p.isList h
    |bl b=>cases c;cases g;cases ek;exact EqAt.list_bool b p.isList h
    |int b=>cases c;obtain⟨t,rfl⟩:=g;cases ek;exact EqAt.list_int b t p.isList h
    |str b=>obtain⟨rfl,_⟩:=c;obtain⟨t,rfl⟩:=g;cases ek;exact EqAt.list_str b t p.isList h
    |tup es=>obtain⟨b,us,rfl,sq,_⟩:=c;cases g;cases ek;obtain⟨_,_,p2,_⟩:=I.tuple sq;exact EqAt.list_tuple p.isList p2 h
    |lst es=>
     obtain⟨b,us,rfl,P,C⟩:=c;cases g;obtain⟨l,E,p2,_⟩:=I.list P.sq;change jC _ _=Z _ at ek;obtain⟨f,D,rfl⟩:=qC ek;have L:a≠b:=λz=>G ⟨by rw[z],a,rfl⟩;have q1:AQ.toArray.size=ds.length:=by rw[zk,<-F.length,B.length]
     have q2:l.toArray.size=es.length:=by rw[zk,<-E.length,C.length]
     by_cases a0:AQ.toArray.size=l.toArray.size
     ·have z:=EqAt.of_refs L (RcAt.lists (A:=A) (e:=f) p.isList p2.isList a0 h (items (by simp only[rP]at N;omega) B C F E D));have J:ds.length=es.length:=by omega
      rw[q1]at z;rw[J,cI,beq_self_eq_true,Kn,<-J];exact z
     ·have J:(ds.length==es.length)=false:=by rw[beq_eq_false_iff_ne];omega
      rw[J,bI];exact EqAt.of_refs L (RcAt.lists_lengths p.isList p2.isList (by simpa using a0) h)
    |emp=>cases ek
   |emp=>
    cases e<;>first|(cases ek;done)|skip;simp only[AW]at m c;obtain⟨a,o,rfl,e1⟩:=m;obtain⟨b,o',rfl,e2⟩:=c;cases w;cases g;cases ek;obtain⟨_,W,vs,r,q⟩:=xu I.hok (.inr ⟨o,e1⟩);obtain⟨_,m2,a1,r',q'⟩:=xu I.hok (.inr ⟨o',e2⟩);exact EqAt.of_refs (λz=>G ⟨by rw[z],a,rfl⟩) (XH W m2 (uP Y3 r q) (uP Y3 r' q') h)
theorem HF(I:L2.AU X AN σ H s){es:Y Dt}{us:Y V}{c:Y A0}{f:Nat->Bool}(F:min (uQ ds) (uQ es)<=n)(G:A.units+n+1<cLine)(h:aF X.K H ds vs)(i:aF X.K H es us)(e:AX vs AQ)(g:AX us c)(l:∀(j:Nat) x y,ds[j]?=Z x->es[j]?=Z y->uy x y=Z (f j)):∀j (h1:j<AQ.toArray.size) (h2:j<c.toArray.size),EqAt A.in1 s AQ.toArray[j] c.toArray[j] (f j):=by
 intro j h1 h2;have B:=e.length;have C:=g.length;have E:=h.length;have z:=i.length;have u:j<AQ.length:=by simpa using h1
 have m:j<c.length:=by simpa using h2
 have d:ds[j]?=Z (ds[j]'()):=by simp
 have d2:es[j]?=Z (es[j]'()):=by simp
 obtain⟨a,ea,k⟩:=h.get d;obtain⟨b,eb,v⟩:=i.get d2;obtain⟨p,ep,t⟩:=e.get ea;obtain⟨q,w,o⟩:=g.get eb;have e1:AQ.toArray[j]=p:=by simpa[u]using ep
 have e2:c.toArray[j]=q:=by simpa[m]using w
 rw[e1,e2];have D:=qD d;have m2:=qD d2;exact XJ I n () (by rw[units_in1];omega) k v t o (l j _ _ d d2)
def Rj(K:B6)(H:Hp):Dt->V->Prop
 |.lst ds,v=>∃a vs,v=.ref a/\nF K H a vs/\aF K H ds vs
 |d,v=>AW K H d v
def oJ:Bx->Bool
 |.n _=>true
 |.m _ _=>true
 |_=>false
def toD:Bx->Dt
 |.z d=>d
 |.l ds=>.lst ds
 |.o ds=>.lst ds
 |.n _=>.non
 |.m _ _=>.non
theorem aW.toD{v:V}(h:aW K H b v)(a:oJ b=false):Rj K H (toD b) v:=by
 cases b with
 |z d=>
  cases d with
  |lst ds=>exact h.zB rfl
  |_=>exact h
 |l ds=>exact h.zB rfl
 |o ds=>exact h.zB rfl
 |n _=>cases a
 |m _ _=>cases a
theorem Ml(I:L2.AU X AN σ H s){e:Dt}{x y:V}{v:A0}{k:Bool}(P:min (rP d) (rP e)<=100)(hA:X.A.units+100<cLine)(z:Rj X.K H d x)(h:Rj X.K H e y)(B:At x u)(i:At y v)(ek:uy d e=Z k):RcAt X.A s u v k/\RcNeAt X.A s u v (!k):=by
 have g:X.A.units<cLine:=by omega
 cases d with
 |non=>
  cases z;cases B;cases e with
  |non=>
   cases h;cases i;cases ek;exact⟨.none_none,.none_none⟩
  |bl c=>
   cases h;cases i;cases ek;exact⟨.none_bool c,.none_bool c⟩
  |int c=>
   cases h;obtain⟨t2,rfl⟩:=i;cases ek;exact⟨.none_int c t2,.none_int c t2⟩
  |str c=>
   obtain⟨rfl,_⟩:=h;obtain⟨t2,rfl⟩:=i;cases ek;exact⟨.none_str c t2,.none_str c t2⟩
  |tup c=>
   obtain⟨a2,w,rfl,j,l⟩:=h;cases i;obtain⟨t,m,p2,_⟩:=I.tuple j;cases ek;exact⟨.none_tuple p2 g,.none_tuple p2 g⟩
  |lst c=>
   obtain⟨a2,w,rfl,j,l⟩:=h;cases i;obtain⟨t,m,p2,_⟩:=I.list j;cases ek;exact⟨.none_list p2.isList g,.none_list p2.isList g⟩
  |emp=>cases ek
 |bl x1=>
  cases z;cases B;cases e with
  |non=>
   cases h;cases i;cases ek;exact⟨.bool_none x1,.bool_none x1⟩
  |bl c=>
   cases h;cases i;cases ek;exact⟨.bool_bool x1 c,.bool_bool x1 c⟩
  |int c=>
   cases h;obtain⟨t2,rfl⟩:=i;cases ek;exact⟨.bool_int x1 c t2,.bool_int x1 c t2⟩
  |str c=>
   obtain⟨rfl,_⟩:=h;obtain⟨t2,rfl⟩:=i;cases ek;exact⟨.bool_str x1 c t2,.bool_str x1 c t2⟩
  |tup c=>
   obtain⟨a2,w,rfl,j,l⟩:=h;cases i;obtain⟨t,m,p2,_⟩:=I.tuple j;cases ek;exact⟨.bool_tuple x1 p2 g,.bool_tuple x1 p2 g⟩
  |lst c=>
   obtain⟨a2,w,rfl,j,l⟩:=h;cases i;obtain⟨t,m,p2,_⟩:=I.list j;cases ek;exact⟨.bool_list x1 p2.isList g,.bool_list x1 p2.isList g⟩
  |emp=>cases ek
 |int x1=>
  cases z;obtain⟨t1,rfl⟩:=B;cases e with
  |non=>
   cases h;cases i;cases ek;exact⟨.int_none x1 t1,.int_none x1 t1⟩
  |bl c=>
   cases h;cases i;cases ek;exact⟨.int_bool x1 t1 c,.int_bool x1 t1 c⟩
  |int c=>
   cases h;obtain⟨t2,rfl⟩:=i;cases ek;exact⟨.int_int x1 t1 c t2,.int_int x1 t1 c t2⟩
  |str c=>
   obtain⟨rfl,_⟩:=h;obtain⟨t2,rfl⟩:=i;cases ek;exact⟨.int_str x1 t1 c t2,.int_str x1 t1 c t2⟩
  |tup c=>
   obtain⟨a2,w,rfl,j,l⟩:=h;cases i;obtain⟨t,m,p2,_⟩:=I.tuple j;cases ek;exact⟨.int_tuple x1 t1 p2 g,.int_tuple x1 t1 p2 g⟩
  |lst c=>
   obtain⟨a2,w,rfl,j,l⟩:=h;cases i;obtain⟨t,m,p2,_⟩:=I.list j;cases ek;exact⟨.int_list x1 t1 p2.isList g,.int_list x1 t1 p2.isList g⟩
  |emp=>cases ek
 |str x1=>
  obtain⟨rfl,_⟩:=z;obtain⟨t1,rfl⟩:=B;cases e with
  |non=>
   cases h;cases i;cases ek;exact⟨.str_none x1 t1,.str_none x1 t1⟩
  |bl c=>
   cases h;cases i;cases ek;exact⟨.str_bool x1 t1 c,.str_bool x1 t1 c⟩
  |int c=>
   cases h;obtain⟨t2,rfl⟩:=i;cases ek;exact⟨.str_int x1 t1 c t2,.str_int x1 t1 c t2⟩
  |str c=>
   obtain⟨rfl,_⟩:=h;obtain⟨t2,rfl⟩:=i;cases ek;exact⟨.str_str x1 t1 c t2,.str_str x1 t1 c t2⟩
  |tup c=>
   obtain⟨a2,w,rfl,j,l⟩:=h;cases i;obtain⟨t,m,p2,_⟩:=I.tuple j;cases ek;exact⟨.str_tuple x1 t1 p2 g,.str_tuple x1 t1 p2 g⟩
  |lst c=>
   obtain⟨a2,w,rfl,j,l⟩:=h;cases i;obtain⟨t,m,p2,_⟩:=I.list j;cases ek;exact⟨.str_list x1 t1 p2.isList g,.str_list x1 t1 p2.isList g⟩
  |emp=>
   simp only[Rj,AW]at h;obtain⟨p,o,rfl,e⟩:=h;cases i;cases ek;obtain⟨_,_,vs,r,q⟩:=xu I.hok (.inr ⟨o,e⟩);exact⟨CV x1 t1 (uP Y3 r q) g,Ou x1 t1 (uP Y3 r q) g⟩
 |tup x1=>
  obtain⟨a1,U,rfl,L,D⟩:=z;cases B;obtain⟨G,C,p1,_⟩:=I.tuple L;cases e with
  |non=>
   cases h;cases i;cases ek;exact⟨.tuple_none p1 g,.tuple_none p1 g⟩
  |bl c=>
   cases h;cases i;cases ek;exact⟨.tuple_bool c p1 g,.tuple_bool c p1 g⟩
  |int c=>
   cases h;obtain⟨t2,rfl⟩:=i;cases ek;exact⟨.tuple_int c t2 p1 g,.tuple_int c t2 p1 g⟩
  |str c=>
   obtain⟨rfl,_⟩:=h;obtain⟨t2,rfl⟩:=i;cases ek;exact⟨.tuple_str c t2 p1 g,.tuple_str c t2 p1 g⟩
  |tup c=>
   obtain⟨a2,w,rfl,j,l⟩:=h;cases i;obtain⟨t,m,p2,_⟩:=I.tuple j;change jC _ _=Z _ at ek;obtain⟨f,J,rfl⟩:=qC ek;have q1:G.toArray.size=x1.length:=by rw[zk,<-C.length,D.length]
   have q2:t.toArray.size=c.length:=by rw[zk,<-m.length,l.length]
   have it:=HF I (n:=99) (A:=X.A) (by simp only[rP]at P;omega) () D l C m J;rw[<-q1,<-q2];exact⟨.tuples p1 p2 g it,.tuples p1 p2 g it⟩
  |lst c=>
   obtain⟨a2,w,rfl,j,l⟩:=h;cases i;obtain⟨t,m,p2,_⟩:=I.list j;cases ek;exact⟨.tuple_list p1 p2.isList g,.tuple_list p1 p2.isList g⟩
  |emp=>cases ek
 |lst x1=>
  obtain⟨a1,U,rfl,L,D⟩:=z;cases B;obtain⟨G,C,p1,_⟩:=I.list L;cases e with
  |non=>
   cases h;cases i;cases ek;exact⟨.list_none p1.isList g,.list_none p1.isList g⟩
  |bl c=>
   cases h;cases i;cases ek;exact⟨.list_bool c p1.isList g,.list_bool c p1.isList g⟩
  |int c=>
   cases h;obtain⟨t2,rfl⟩:=i;cases ek;exact⟨.list_int c t2 p1.isList g,.list_int c t2 p1.isList g⟩
  |str c=>
   obtain⟨rfl,_⟩:=h;obtain⟨t2,rfl⟩:=i;cases ek;exact⟨.list_str c t2 p1.isList g,.list_str c t2 p1.isList g⟩
  |tup c=>
   obtain⟨a2,w,rfl,j,l⟩:=h;cases i;obtain⟨t,m,p2,_⟩:=I.tuple j;cases ek;exact⟨.list_tuple p1.isList p2 g,.list_tuple p1.isList p2 g⟩
  |lst c=>
   obtain⟨a2,w,rfl,j,l⟩:=h;cases i;obtain⟨t,m,p2,_⟩:=I.list j;change jC _ _=Z _ at ek;obtain⟨f,J,rfl⟩:=qC ek;have q1:G.toArray.size=x1.length:=by rw[zk,<-C.length,D.length]
   have q2:t.toArray.size=c.length:=by rw[zk,<-m.length,l.length]
   have it:=HF I (n:=99) (A:=X.A) (by simp only[rP]at P;omega) () D l C m J;by_cases F:G.toArray.size=t.toArray.size
   ·have E:x1.length=c.length:=by omega
    rw[E,cI,beq_self_eq_true,Kn,<-E,<-q1];exact⟨.lists p1.isList p2.isList F g it,.lists p1.isList p2.isList F g it⟩
   ·have E:(x1.length==c.length)=false:=by rw[beq_eq_false_iff_ne];omega
    rw[E,bI];exact⟨.lists_lengths p1.isList p2.isList (by simpa using F) g,.lists_lengths p1.isList p2.isList (by simpa using F) g⟩
  |emp=>cases ek
 |emp=>
  cases e<;>first|(cases ek;done)|skip;simp only[Rj,AW]at z h;obtain⟨a,o,rfl,e1⟩:=z;obtain⟨b,o',rfl,e2⟩:=h;cases B;cases i;cases ek;obtain⟨_,M,vs,r,q⟩:=xu I.hok (.inr ⟨o,e1⟩);obtain⟨_,m2,W,N,Q⟩:=xu I.hok (.inr ⟨o',e2⟩);exact⟨XH M m2 (uP Y3 r q) (uP Y3 N Q) g,LZ M m2 (uP Y3 r q) (uP Y3 N Q) g⟩
def BM(a b:Bx):S Bx:=if oJ a=true\/oJ b=true then O else if min (rP (toD a)) (rP (toD b))<=100 then(uy (toD a) (toD b)).bind λk=>Z (.z (.bl k))else O
def Kf(a b:Bx):S Bx:=if oJ a=true\/oJ b=true then O else if min (rP (toD a)) (rP (toD b))<=100 then(uy (toD a) (toD b)).bind λk=>Z (.z (.bl (!k)))else O
theorem of_eq(o:X.A.units+100<cLine):Eo X (AG .Eq) BM:=by
 intro AN s σ H x y v u Q I n f h;obtain⟨a,b,c,l,i,e,q⟩:=h;unfold BM at e;split at e
 ·cases e
 rename_i d;have g:oJ a=false:=by cases h:oJ a with|false=>rfl|true=>exact absurd (.inl h) d
 have m:oJ b=false:=by cases h:oJ b with|false=>rfl|true=>exact absurd (.inr h) d
 split at e
 ·rename_i j;obtain⟨k,ek,e⟩:=AT e;cases e;exact(Ml I j o (l.toD g) (i.toD m) n f ek).1 X.prog X.w X.xe _ ⟨.bl k,H,I,rfl,q _ H (AV.refl H) trivial (by unfold aW AW;rfl)⟩
 ·cases e
theorem zN(o:X.A.units+100<cLine):Eo X (AG .NotEq) Kf:=by
 intro AN s σ H x y v u Q I n f h;obtain⟨a,b,c,l,i,e,q⟩:=h;unfold Kf at e;split at e
 ·cases e
 rename_i d;have g:oJ a=false:=by cases h:oJ a with|false=>rfl|true=>exact absurd (.inl h) d
 have m:oJ b=false:=by cases h:oJ b with|false=>rfl|true=>exact absurd (.inr h) d
 split at e
 ·rename_i j;obtain⟨k,ek,e⟩:=AT e;cases e;exact(Ml I j o (l.toD g) (i.toD m) n f ek).2 X.prog X.w X.xe _ ⟨.bl (!k),H,I,rfl,q _ H (AV.refl H) trivial (by unfold aW AW;rfl)⟩
 ·cases e
theorem BW{i:Int}:aW K H (.z (.int i)) (.int i):=by unfold aW AW;rfl
theorem V1{b:Bool}:aW K H (.z (.bl b)) (.bl b):=by unfold aW AW;rfl
theorem V2(h:x.length<=AA):aW K H (.z (.str x)) (.str x):=by unfold aW AW;exact⟨rfl,h⟩
theorem HJ{i:Int}{v:V}(h:aW K H (.z (.int i)) v):v=.int i:=by simpa only[aW,AW]using h
theorem V3{v:V}(h:aW K H (.z (.str x)) v):v=.str x/\x.length<=AA:=by simpa only[aW,AW]using h
theorem EA{v:V}(h:aW K H (.z (.tup ds)) v):∃a vs,v=.ref a/\qj K H a vs/\aF K H ds vs:=by simpa only[aW,AW]using h
def i2(g:Int->Int->S Dt):Bx->Bx->S Bx
 |.z (.int i),.z (.int j)=>(g i j).bind λd=>Z (.z d)
 |_,_=>O
theorem HN{f:A0->A0->Sem A0}{r:R2}{g:Int->Int->S Dt}(n:vU X f r)(h:∀i j d H Q,g i j=Z d->(∀v,AW X.K H d v->Q v H)->r (.int i) (.int j) H Q):Eo X f (i2 g):=vU.imp n λx y H Q q=>by
 obtain⟨a,b,c,k,l,e,q⟩:=q;unfold i2 at e;split at e
 ·rename_i i j;obtain⟨d,o,e⟩:=AT e;cases e;rw[HJ k,HJ l];exact h i j d H Q o λv m=>q v H (AV.refl H) trivial m
 ·cases e
theorem FD{i:Int}:AW K H (.int i) (.int i):=by unfold AW;rfl
theorem EH{b:Bool}:AW K H (.bl b) (.bl b):=by unfold AW;rfl
abbrev ED:=i2 λi j=>Z (.bl (decide (j<i)))
abbrev ZR:=i2 λi j=>Z (.bl (decide (j<=i)))
abbrev qF:=i2 λi j=>if 0<j/\j<1073741824 then Z (.int (i / j))else O
abbrev jh:=i2 λi j=>if 0<j then Z (.int (i%j))else O
abbrev ZS:=i2 λi j=>if 0<=j/\j<=1000/\i.natAbs<2 ^ 64 then Z (.int (i ^ j.toNat))else O
theorem XM:Eo X (AG .Gt) ED:=HN MM λi j d H Q e q=>by cases e;exact⟨i,j,rfl,rfl,q _ EH⟩
theorem HS:Eo X (AG .GtE) ZR:=HN LH λi j d H Q e q=>by cases e;exact⟨i,j,rfl,rfl,q _ EH⟩
theorem mF:Eo X (binaryOp .FloorDiv) qF:=HN U7 λi j d H Q e q=>by
 split at e
 ·rename_i h;cases e;exact⟨i,j,rfl,rfl,h,q _ FD⟩
 ·cases e
theorem dj:Eo X (binaryOp .Mod) jh:=HN Zc λi j d H Q e q=>by
 split at e
 ·rename_i h;cases e;exact⟨i,j,rfl,rfl,h,q _ FD⟩
 ·cases e
theorem ZV:Eo X (binaryOp .Pow) ZS:=HN Zd λi j d H Q e q=>by
 split at e
 ·rename_i h;cases e;exact⟨i,j,rfl,rfl,⟨h.1,by omega,h.2.2⟩,q _ FD⟩
 ·cases e
def BX:Bx->S Bx
 |.z (.int i)=>Z (.z (.int (-i)))
 |_=>O
theorem Fe:GU X (unaryOp .USub) BX:=Xv.imp Ze λx H Q q=>by
 obtain⟨a,c,b,e,q⟩:=q;unfold BX at e;split at e
 ·rename_i i;cases e;exact⟨i,HJ b,q _ H (AV.refl H) trivial BW⟩
 ·cases e
def Kg:Nat:=1000000
theorem V5:Kg<=AA:=by decide
theorem ZW{b:A1}{us:Y V}{Q:VK}(I:L2.AU X AN σ H s)(n:nF X.K H l vs)(j:nF X.K H b us)(i:vs.length+us.length<=AA)(q:∀p,H p=O->Q (.ref p) (B7 H p (.lst (vs++us)))):
  A7 (f6 X) X.A (binaryOp .Add (.ref l) (.ref b)) (EP X AN σ Q) X.xe s:=by
 obtain⟨AQ,d,⟨⟨C,v,D,sl⟩,m,e1,c1,g,c⟩,z1⟩:=I.list n;obtain⟨a,h,⟨⟨cls2,B,z,t⟩,k,e2,c2,d2,f⟩,z2⟩:=I.list j;simp only at c1 g c c2 d2 f;subst c1 g c c2 d2 f;have u:=d.length;have y:=h.length;have e:AQ.toArray++a.toArray=(AQ++a).toArray:=by simp
 refine concat_meets ⟨_,e1,rfl⟩ ⟨_,e2,rfl⟩ noFill_list_add seq_list_add PySem.F.slot_list_add PySem.F.entry_list_add (PySem.F.args_list_add_2 _ _) (list_addW l b AQ.toArray a.toArray m k O O sl t (by rw[zk,zk];omega)) ⟨e1,e2,?_⟩;rw[e];exact⟨.ref s.heap.objs.size,_,I.laid (t':=s.toks) (o:=.lst (vs++us)) (λb x q=>ze _ q) (zl _) ⟨by rw[zC];exact i,_,0,d.append h,zz _ rfl⟩,rfl,q _ (I.hok.fresh (zl _))⟩
theorem ZX{b:A1}{us:Y V}{Q:VK}(I:L2.AU X AN σ H s)(e:qj X.K H l vs)(d:qj X.K H b us)(h:vs.length+us.length<=AA)(q0:vs=[]->Q (.ref b) H)(q1:us=[]->Q (.ref l) H)(q2:∀p,H p=O->Q (.ref p) (B7 H p (.tup (vs++us)))):
  A7 (f6 X) X.A (binaryOp .Add (.ref l) (.ref b)) (EP X AN σ Q) X.xe s:=by
 by_cases a:vs=[]
 ·obtain⟨AQ,o,⟨⟨u,g,t,sl⟩,e1,c1,m,c⟩,z1⟩:=I.tuple e;obtain⟨n,v,⟨⟨cls2,i,q,k⟩,e2,c2,j,f⟩,z2⟩:=I.tuple d;simp only at c1 c c2 f;subst c1 c c2 f;have:AQ=[]:=o.yC.mpr a;exact concat_meets ⟨_,e1,rfl⟩ ⟨_,e2,rfl⟩ noFill_tuple_add seq_tuple_add PySem.F.slot_tuple_add y7 (yB _ _)
   (tuple_addW0 l b AQ.toArray n.toArray m j g i sl k (by simp[this])) ⟨e1,e2,⟨.ref b,H,I,rfl,q0 a⟩⟩
 ·exact Vi AN s σ H (.ref l) (.ref b) (.ref l) (.ref b) Q I Y3 Y3 ⟨l,b,vs,us,rfl,rfl,e,d,a,h,q1,λ_=>q2⟩
def fG:Bx->Bx->S Bx
 |.z (.int i),.z (.int j)=>Z (.z (.int (i+j)))
 |.z (.str i),.z (.str j)=>if i.length+j.length<=Kg then Z (.z (.str (i++j)))else O
 |.z (.tup xs),.z (.tup ys)=>if xs.length+ys.length<=Kg then Z (.z (.tup (xs++ys)))else O
 |a,b=>(lX a).bind λxs=>(lX b).bind λys=>if xs.length+ys.length<=Kg then Z (.o (xs++ys))else O
theorem Cb(i j:AJ):(i++j).length=i.length+j.length:=by
 show(i.cps++j.cps).size=_;rw[ko];rfl
theorem cV:Eo X (binaryOp .Add) fG:=by
 intro AN s σ H x y v u Q I o n h;obtain⟨a,b,c,g,k,e,q⟩:=h;have A:=V5;unfold fG at e;split at e
 ·rename_i i j;cases e;exact Za AN s σ H x y v u Q I o n ⟨i,j,HJ g,HJ k,q _ H (AV.refl H) trivial BW⟩
 ·rename_i i j;split at e
  ·rename_i w;cases e;exact J6 AN s σ H x y v u Q I o n ⟨i,j,(V3 g).1,(V3 k).1,by omega,q _ H (AV.refl H) trivial (V2 (by rw[Cb];omega))⟩
  ·cases e
 ·rename_i xs ys;split at e
  ·rename_i w;cases e;obtain⟨l,vs,rfl,sl,d⟩:=EA g;obtain⟨m,us,rfl,t,f⟩:=EA k;cases o;cases n;have h1:=d.length;have h2:=f.length;refine ZX I sl t () (λz=>q _ H (AV.refl H) trivial ?_) (λz=>q _ H (AV.refl H) trivial ?_) λp hp=>q _ _ (bO hp) trivial ?_
   ·unfold aW AW;refine⟨m,us,rfl,t,?_⟩;have:xs=[]:=by subst z;exact ja (by simpa using h1.symm)
    rw[this,KG];exact f
   ·unfold aW AW;refine⟨l,vs,rfl,sl,?_⟩;have:ys=[]:=by subst z;exact ja (by simpa using h2.symm)
    rw[this,qa];exact d
   ·unfold aW AW;exact⟨p,_,rfl,.inl (.inl bh),(d.append f).kp (.of (bO hp))⟩
  ·cases e
 ·obtain⟨xs,ea,e⟩:=AT e;obtain⟨ys,eb,e⟩:=AT e;split at e
  ·rename_i w;cases e;obtain⟨l,vs,rfl,sl,d⟩:=g.zB ea;obtain⟨m,us,rfl,t,f⟩:=k.zB eb;cases o;cases n;have h1:=d.length;have h2:=f.length;refine ZW I sl t () λp hp=>q _ _ (bO hp) (λa ea=>by cases ea;exact hp) ⟨p,_,rfl,bh,(d.append f).kp (.of (bO hp))⟩
  ·cases e
def tu:Bx->Bx->S Bx
 |.z (.int i),.z (.int j)=>if(-(2 ^ 64)<i/\i<2 ^ 64)\/(-(2 ^ 64)<j/\j<2 ^ 64)then Z (.z (.int (i*j)))else O
 |.z (.str x),.z (.int n)=>if n<=1000 ∧ -1000<=n/\x.length<=1000 then Z (.z (.str (Txt.mul x n)))else O
 |_,_=>O
theorem su(x:Array Nat):∀(n:Nat) (acc:Array Nat),((aa n x).foldl (·++·) acc).size=acc.size+n*x.size
 |0,acc=>by simp
 |n+1,acc=>by
  rw[eu,kg,su x n,ko,KU];omega
theorem Fg(x:AJ)(n:Int):(Txt.mul x n).length<=n.toNat*x.length+x.length:=by
 unfold Txt.mul;split
 ·exact qi _
 ·split
  ·exact Nat.le_add_left _ _
  ·show((aa n.toNat x.cps).foldl (·++·) #[]).size<=_;rw[su];show(#[]:Array Nat).size+n.toNat*x.cps.size<=n.toNat*x.cps.size+x.cps.size;simp
theorem oK:Eo X (binaryOp .Mult) tu:=by
 intro AN s σ H x y v u Q I o m h;obtain⟨a,b,c,g,l,e,q⟩:=h;unfold tu at e;split at e
 ·rename_i i j;split at e
  ·rename_i d;cases e;exact Zb AN s σ H x y v u Q I o m ⟨i,j,HJ g,HJ l,d,q _ H (AV.refl H) trivial BW⟩
  ·cases e
 ·rename_i f n;split at e
  ·rename_i d;cases e;obtain⟨rfl,hx⟩:=V3 g;have w:=HJ l;subst w;obtain⟨t,rfl⟩:=o;obtain⟨z,rfl⟩:=m;have B:AA=16777216:=sizeLine_eq;have A:n.toNat*f.length<=1000*1000:=bS () d.2.2;refine SB.mul ⟨?_,λh1 h2=>?_,λh1 h2=>?_⟩ λz k=>⟨.str _,H,I.tok _,⟨_,rfl⟩,q _ H (AV.refl H) trivial (V2 (zi (Fg f n) ()))⟩
   ·have e1:decide (n < -(2 ^ 63:Int))=false:=zI ();have e2:decide (n>=2 ^ 63)=false:=zI ();rw[e1,e2];rfl
   ·have p:0<n:=by omega
    have:(1000:Int)<=(2 ^ 63-1) / n:=(Int.le_ediv_iff_mul_le p).mpr ();omega
   ·show decide (f.length*n.toNat>AA)=false;rw[Nat.mul_comm];exact zI ()
  ·cases e
 ·cases e
def L9(i j:AJ):Bool:=!(Builtin.Str.occurrences j i 0 j.length 1).isEmpty
def Rm:Dt->Bool
 |.non=>true
 |.bl _=>true
 |.int _=>true
 |.str _=>true
 |_=>false
def Eg(x:Dt)(ys:Y Dt):S Bool:=if Rm x=true/\ys.all Rm=true then Z (ys.any λy=>match uy y x with|some true=>true|_=>false)else O
def qG:Bx->S (Y Dt)
 |.z (.lst ds)=>Z ds
 |.z (.tup ds)=>Z ds
 |.l ds=>Z ds
 |.o ds=>Z ds
 |_=>O
def Lm:Bx->Bx->S Bool
 |.z (.str i),.z (.str j)=>Z (L9 i j)
 |.z d,b=>(qG b).bind λys=>Eg d ys
 |_,_=>O
def inF(a b:Bx):S Bx:=(Lm a b).bind λk=>Z (.z (.bl k))
theorem zO{v:V}(h:aW K H b v)(e:qG b=Z ds):∃a vs,v=.ref a/\(nF K H a vs\/qj K H a vs)/\aF K H ds vs:=by
 cases b with
 |z d=>
  cases d<;>first|(cases e;done)|skip
  ·cases e;obtain⟨a,vs,e,q,r⟩:=EA h;exact⟨a,vs,e,.inr q,r⟩
  ·cases e;obtain⟨a,vs,e,q,r⟩:=h.zB rfl;exact⟨a,vs,e,.inl q,r⟩
 |l c=>
  cases e;obtain⟨a,vs,e,q,r⟩:=h.zB rfl;exact⟨a,vs,e,.inl q,r⟩
 |o c=>
  cases e;obtain⟨a,vs,e,q,r⟩:=h.zB rfl;exact⟨a,vs,e,.inl q,r⟩
 |n _=>cases e
 |m _ _=>cases e
def zP:Bx->Bool
 |.z .non=>true
 |_=>false
theorem CW{v:V}(h:aW K H b v):decide (v=.non)=zP b:=by
 cases b with
 |z d=>
  cases d<;>simp only[aW,AW]at h
  ·subst h;rfl
  ·subst h;rfl
  ·subst h;rfl
  ·obtain⟨rfl,_⟩:=h;rfl
  ·obtain⟨_,_,rfl,_⟩:=h;rfl
  ·obtain⟨_,_,rfl,_⟩:=h;rfl
  ·obtain⟨_,_,rfl,_⟩:=h;rfl
 |l ds=>obtain⟨_,_,rfl,_⟩:=h;rfl
 |o ds=>obtain⟨_,_,rfl,_⟩:=h;rfl
 |n ds=>obtain⟨_,_,rfl,_⟩:=h;rfl
 |m ds _=>obtain⟨_,_,rfl,_⟩:=h;rfl
def Z0(a:Bx):Bx->S Bx
 |.z .non=>Z (.z (.bl (zP a)))
 |_=>O
def xK(a:Bx):Bx->S Bx
 |.z .non=>Z (.z (.bl (!zP a)))
 |_=>O
theorem CU:Eo X (AG .Is) Z0:=vU.imp Zf λx y H Q q=>by
 obtain⟨a,b,c,f,d,e,q⟩:=q;unfold Z0 at e;split at e
 ·cases e;simp only[aW,AW]at d;exact⟨d,by rw[CW f];exact q _ H (AV.refl H) trivial V1⟩
 ·cases e
theorem yJ:Eo X (AG .IsNot) xK:=vU.imp U8 λx y H Q q=>by
 obtain⟨a,b,c,f,d,e,q⟩:=q;unfold xK at e;split at e
 ·cases e;simp only[aW,AW]at d;exact⟨d,by rw[CW f];exact q _ H (AV.refl H) trivial V1⟩
 ·cases e
def fH:Bx->Bx->S Bx
 |.z (.str x),.z (.int i)=>(zq x.cps.toList i).bind λc=>Z (.z (.str ⟨#[c]⟩))
 |b,.z (.int i)=>(qG b).bind λds=>(zq ds i).bind λd=>Z (.z d)
 |_,_=>O
theorem V6{i:Int}(r:aF K H ds vs)(e:zq ds i=Z d):∃v,zq vs i=Z v/\AW K H d v:=by
 unfold zq at e ⊢;rw[r.length];obtain⟨j,a,e⟩:=AT e;rw[a];exact r.get e
theorem bx{a b:Expr}(j:QV X a fa)(k:QV X b fb)(hs:Lx b:=by intro _ _;with_unfolding_all rfl):QV X (.Subscript a b pos) (b2 fH fa fb):=⟨have j:=j.run;have k:=k.run;Hl (Md Zu j k hs) λσ H Q h=>by
 obtain⟨H0,ρ,c,E,e,q⟩:=h;obtain⟨a,ea,e⟩:=AT e;obtain⟨b,eb,e⟩:=AT e;refine⟨H0,ρ,a,E,ea,λv H1 f C y=>⟨H0,ρ,b,E.grow f,eb,λu H2 g B m=>?_⟩⟩;have l:=y.same g;unfold fH at e;split at e
 ·rename_i x i;obtain⟨c',A,e⟩:=AT e;cases e;exact .inr (.inr ⟨_,_,c',(V3 l).1,HJ m,(V3 l).2,A,q _ _ (f.trans g) trivial (V2 (by show(1:Nat)<=AA;decide))⟩)
 ·obtain⟨ds,z,e⟩:=AT e;obtain⟨d,t,e⟩:=AT e;cases e;obtain⟨p,vs,rfl,sq,s⟩:=zO l z;obtain⟨w,o,n⟩:=V6 s t;have hi:=HJ m;rcases sq with sq|sq
  ·exact .inl ⟨p,vs,_,w,rfl,hi,sq,o,q _ _ (f.trans g) trivial n⟩
  ·exact .inr (.inl ⟨p,vs,_,w,rfl,hi,sq,o,q _ _ (f.trans g) trivial n⟩)
 ·cases e⟩
theorem Z1:AH "int"=Z (.type "int"):=by decide +kernel
theorem qH:AH "tuple"=Z (.type "tuple"):=by decide +kernel
theorem V7:AH "dict"=Z (.type "dict"):=by decide +kernel
theorem oM:AH "len"=Z (.builtin "len"):=by decide +kernel
theorem Z2:AH "abs"=Z (.builtin "abs"):=by decide +kernel
theorem zQ:AH "all"=Z (.builtin "all"):=by decide +kernel
theorem Z4:AH "any"=Z (.builtin "any"):=by decide +kernel
theorem Z5:AH "min"=Z (.builtin "min"):=by decide +kernel
theorem gG:AH "sorted"=Z (.builtin "sorted"):=by decide +kernel
def OB(K:B6)(f:Ev->S (S Int)):TO:=λσ H Q=>∃H0 ρ o,bN K H0 H σ ρ/\f ρ=Z o/\∀H',AV H H'->Q o H'
def L3(X:Cx)(e:S Expr)(f:Ev->S (S Int)):Prop:=PO X e (OB X.K f)
structure EK (X:Cx) (e:Option Expr) (f:Ev->Option (Option Int)):Prop where
 run:L3 X e f
theorem FX{e:S Expr}{t t':TO}(h:PO X e t)(m:∀ σ H Q,t' σ H Q->t σ H Q):PO X e t':=λAN s σ H Q I q=>h AN s σ H Q I (m σ H Q q)
def jD:Ev->S (S Int):=λ_=>Z O
theorem gB  :EK X O jD:=⟨FX Vg λσ H Q h=>by
 obtain⟨H0,ρ,o,E,e,q⟩:=h;cases e;exact q H (AV.refl H)⟩
def Z6:Bx->S (S Int)
 |.z (.int i)=>Z (Z i)
 |_=>O
def iY(f:Ev->S Bx):Ev->S (S Int):=λρ=>(f ρ).bind Z6
theorem cZ(h:QV X e f):EK X (Z e) (iY f):=⟨have h:=h.run;FX (Vh h) λσ H Q q=>by
 obtain⟨H0,ρ,o,E,e,q⟩:=q;obtain⟨b,eb,e⟩:=AT e;refine⟨H0,ρ,b,E,eb,λv H1 c d a=>?_⟩;unfold Z6 at e;split at e
 ·rename_i i;cases e;exact⟨i,HJ a,q H1 c⟩
 ·cases e⟩
def C1(xs:Y Dt)(lo hi:S Int):Y Dt:=(xs.drop (HT.gw xs.length 0 lo)).take (HT.gw xs.length xs.length hi-HT.gw xs.length 0 lo)
theorem HW(r:aF K H ds vs)(lo hi:S Int):aF K H (C1 ds lo hi) (Hf vs lo hi):=by
 unfold C1 Hf;rw[r.length];exact(r.drop _).take _
theorem Ro(ds:Y Dt)(h1:HT.gw ds.length 0 lo=0)(h2:HT.gw ds.length ds.length hi=ds.length):C1 ds lo hi=ds:=by
 unfold C1;rw[h1,h2];simp
theorem uR{t sl:A1}{c b:A0}(a:IsTup s.heap t items)(hs:s.heap.IsSliceOf sl c b .none)(pl:IsPart c lo)(e:IsPart b hi)(h1:HT.gw items.size 0 lo=0)(h2:HT.gw items.size items.size hi=items.size)(h:Q (.ref t) s):A7 (A8 prog w) A (getItem (.ref t) (.ref sl)) Q E s:=by
 obtain⟨os,d,f,j⟩:=id hs;have i:s.TypeIs (.ref sl) "slice":=⟨os,d,f⟩;unfold getItem
 try with_reducible refine Q4 ?_
 first|refine zb (zd ?_)|skip
 refine zb (wpAny_sequenceKey a.typeIs () ?_);refine zb (QO (name:=Str.ofString "__getitem__") a.typeIs PyProof.Rows.slot_tuple_getitem
  (Jn PyProof.Rows.slot_tuple_getitem a.typeIs entry_tuple_getitem ?_ (args_tuple_getitem _ _)))
 show A7 _ _ (Builtin.Tuple.tupleItemsOf (.ref t) >>= _) _ _ s;refine zb (tupleItemsOf_ a ?_);refine zb (Q2 i ?_);rw[zh ()];refine zb (HT.nH hs pl e ?_);have g:(((HT.gw items.size 0 lo:Nat):Int)==0&&(1:Int)==1&&(HT.gw items.size items.size hi-HT.gw items.size 0 lo)==items.size)=true:=by
  rw[h1,h2];simp
 show A7 _ _ (if(((HT.gw items.size 0 lo:Nat):Int)==0&&(1:Int)==1&&(HT.gw items.size items.size hi-HT.gw items.size 0 lo)==items.size)=true then _ else _) _ _ s;rw[zh g]
 first
  |refine zb (zb (Q2 a.typeIs (zd ?_)))
  |refine zb (Q2 a.typeIs (zb (zd ?_)))
  |refine zb (Q2 a.typeIs ?_)
 rw[zh ()]
 first
  |exact zb (QI (zd ⟨_,rfl,zd h⟩))
  |exact zb (QI (zb (zd (zd ⟨_,rfl,zd h⟩))))
def Z7(b:Bx)(lo hi:S Int):S Bx:=match b with
 |.z (.str x)=>Z (.z (.str (Txt.slice x lo hi)))
 |.z (.tup ds)=>Z (.z (.tup (C1 ds lo hi)))
 |b=>(lX b).bind λds=>Z (.o (C1 ds lo hi))
def ID(K:B6):V->S Int->S Int->Hp->VK->Prop:=λx lo hi H Q=>∃b c,aW K H b x/\Z7 b lo hi=Z c/\∀w H',AV H H'->Nw H c w->aW K H' c w->Q w H'
theorem Z8:EE X (ID X.K):=by
 intro AN s σ H x v G D lo hi sl Q I z A pl g h;obtain⟨b,c,n,e,q⟩:=h;unfold Z7 at e;split at e
 ·rename_i y;cases e;obtain⟨rfl,m⟩:=V3 n;obtain⟨t,rfl⟩:=z;refine⟨"str", _,F.slot_str_getitem.lookup,typeIs_str _ _ _,?_⟩;obtain⟨o,e1,e2,e3⟩:=A;have w:∀C k,EP X AN σ Q (.str (Txt.slice y lo hi) C) { s with toks:=k }:=λC k=>⟨.str _,H,I.tok _,⟨_,rfl⟩,q _ H (AV.refl H) trivial (V2 (zi (Txt.slice_le y _ _) m))⟩;cases pl with
  |none=>
   cases g with
   |none=>exact kQ (l:=O) (u:=O) (st:=O) ⟨o,e1,e2,e3⟩ Y3 (post_val_or_str ⟨zi (Txt.slice_le y _ _) m,w⟩)
   |int j B=>exact kQ (l:=O) (u:=Z (j,B)) (st:=O) ⟨o,e1,e2,e3⟩ Y3 (post_val_or_str ⟨zi (Txt.slice_le y _ _) m,w⟩)
  |int i J=>
   cases g with
   |none=>exact kQ (l:=Z (i,J)) (u:=O) (st:=O) ⟨o,e1,e2,e3⟩ Y3 (post_val_or_str ⟨zi (Txt.slice_le y _ _) m,w⟩)
   |int j B=>exact kQ (l:=Z (i,J)) (u:=Z (j,B)) (st:=O) ⟨o,e1,e2,e3⟩ Y3 (post_val_or_str ⟨zi (Txt.slice_le y _ _) m,w⟩)
 ·rename_i ds;cases e;obtain⟨a,vs,rfl,sq,d⟩:=EA n;by_cases f:HT.gw vs.length 0 lo=0/\HT.gw vs.length vs.length hi=vs.length
  ·cases z;obtain⟨AQ,r,L,N⟩:=I.tuple sq;have E:AQ.toArray.size=vs.length:=by rw[zk];exact r.length.symm
   refine⟨"tuple", _,PyProof.Rows.slot_tuple_getitem.lookup,L.typeIs,uR L A pl g (by rw[E];exact f.1) (by rw[E];exact f.2) ⟨.ref a,H,I,rfl,q _ H (AV.refl H) trivial ?_⟩⟩;rw[Ro ds (by rw[<-d.length];exact f.1) (by rw[<-d.length];exact f.2)];exact n
  ·refine Zo AN s σ H _ v G D lo hi sl Q I z A pl g ⟨a,vs,rfl,sq,f,λp hp=>q _ _ (bO hp) trivial ?_⟩;unfold aW AW;exact⟨p,_,rfl,.inl (.inl bh),(HW d lo hi).kp (.of (bO hp))⟩
 ·obtain⟨ds,M,e⟩:=AT e;cases e;obtain⟨a,vs,rfl,sq,d⟩:=n.zB M;exact Vn AN s σ H _ v G D lo hi sl Q I z A pl g ⟨a,vs,rfl,sq,λp hp=>q _ _ (bO hp) (λa ea=>by cases ea;exact hp) ⟨p,_,rfl,bh,(HW d lo hi).kp (.of (bO hp))⟩⟩
def zR(f:Ev->S Bx)(fl fh:Ev->S (S Int)):Ev->S Bx:=λρ=>(f ρ).bind λb=>(fl ρ).bind λlo=>(fh ρ).bind λhi=>Z7 b lo hi
theorem mG{lo hi:S Expr}{fl fh:Ev->S (S Int)}(i:QV X e f)(d:EK X lo fl)(g:EK X hi fh):QV X (.Subscript e (.Slice lo hi O p2) pos) (zR f fl fh):=⟨have i:=i.run;have d:=d.run;have g:=g.run;Hl (QC Z8 i d g) λσ H Q h=>by
 obtain⟨H0,ρ,c,E,e,q⟩:=h;obtain⟨b,eb,e⟩:=AT e;obtain⟨lo,el,e⟩:=AT e;obtain⟨hi,p,e⟩:=AT e;refine⟨H0,ρ,b,E,eb,λv H1 a x t=>⟨H0,ρ,lo,E.grow a,el,λH2 j=>⟨H0,ρ,hi,E.grow (a.trans j),p,λu k=>?_⟩⟩⟩;have l:=(a.trans j).trans k;exact⟨b,c,(t.same j).same k,e,λw o s m n=>q w o (l.trans s) (m.old l) n⟩⟩
def rQ:Y Bx->S Bx
 |[.z (.str x)]=>Z (.z (.int x.length))
 |[b]=>(qG b).bind λds=>Z (.z (.int ds.length))
 |_=>O
theorem BH(r:rZ K H [b] vs):∃v,vs=[v]/\aW K H b v:=by
 cases r with
 |cons p t=>cases t;exact⟨_,rfl,p⟩
theorem Do{c:Bx}(r:rZ K H [b,c] vs):∃v u,vs=[v,u]/\aW K H b v/\aW K H c u:=by
 cases r with
 |cons p t=>
  cases t with
  |cons p' a=>cases a;exact⟨_,_,rfl,p,p'⟩
theorem oN:p8 X (.builtin "len") rQ:=gW.imp (Ek.or El) λxs H Q q=>by
 obtain⟨bs,c,b,e,q⟩:=q;unfold rQ at e;split at e
 ·rename_i x;cases e;obtain⟨v,rfl,a⟩:=BH b;obtain⟨rfl,hx⟩:=V3 a;exact .inr ⟨x,rfl,hx,q _ H (AV.refl H) trivial BW⟩
 ·obtain⟨ds,f,e⟩:=AT e;cases e;obtain⟨v,rfl,a⟩:=BH b;obtain⟨p,vs,rfl,sq,d⟩:=zO a f;exact .inl ⟨p,vs,rfl,sq,by rw[d.length];exact q _ H (AV.refl H) trivial BW⟩
 ·cases e
def Rp:Y Bx->S Bx
 |[.z (.int i)]=>Z (.z (.int (if i<0 then -i else i)))
 |_=>O
theorem Z9:p8 X (.builtin "abs") Rp:=gW.imp Qx λxs H Q q=>by
 obtain⟨bs,c,a,e,q⟩:=q;unfold Rp at e;split at e
 ·rename_i i;cases e;obtain⟨v,rfl,b⟩:=BH a;have:=HJ b;subst this;exact⟨i,rfl,q _ H (AV.refl H) trivial BW⟩
 ·cases e
def Rq:Y Bx->S Bx
 |[.z (.int i)]=>Z (.z (.int i))
 |[.z (.bl k)]=>Z (.z (.int (if k then 1 else 0)))
 |_=>O
theorem LS:p8 X (.type "int") Rq:=gW.imp Oe λxs H Q q=>by
 obtain⟨bs,c,b,e,q⟩:=q;unfold Rq at e;split at e
 ·rename_i i;cases e;obtain⟨v,rfl,a⟩:=BH b;have:=HJ a;subst this;exact .inl ⟨i,rfl,q _ H (AV.refl H) trivial BW⟩
 ·rename_i k;cases e;obtain⟨v,rfl,a⟩:=BH b;simp only[aW,AW]at a;subst a;exact .inr ⟨k,rfl,q _ H (AV.refl H) trivial BW⟩
 ·cases e
def oO:Y Bx->S Bx
 |[b]=>(qG b).bind λds=>Z (.z (.tup ds))
 |_=>O
theorem qI:p8 X (.type "tuple") oO:=gW.imp BJ λxs H Q q=>by
 obtain⟨bs,c,d,e,q⟩:=q;unfold oO at e;split at e
 ·obtain⟨ds,g,e⟩:=AT e;cases e;obtain⟨v,rfl,f⟩:=BH d;obtain⟨p,vs,rfl,sq,a⟩:=zO f g;refine⟨p,vs,rfl,?_⟩;rcases sq with sq|sq
  ·refine .inl ⟨sq,λl b=>q _ _ (bO b) trivial ?_⟩;unfold aW AW;exact⟨l,vs,rfl,.inl (.inl bh),a.kp (.of (bO b))⟩
  ·refine .inr ⟨sq,q _ H (AV.refl H) trivial ?_⟩;unfold aW AW;exact⟨p,vs,rfl,sq,a⟩
 ·cases e
def zT:Y Dt->S (Y Bool)
 |[]=>Z []
 |.bl b::ds=>(zT ds).bind λbs=>Z (b::bs)
 |_=>O
theorem tB{K:B6}{H:Hp}:∀{ds:Y Dt} {bs:Y Bool} {vs:Y V} {us:Y A0},zT ds=Z bs->aF K H ds vs->AX vs us->us=bs.map Value.bool
 |[],_,_,_,e,r,w=>by
  cases e;simp only[aF]at r;subst r;cases w;rfl
 |d::ds,_,_,_,e,r,w=>by
  simp only[aF]at r;obtain⟨v,a,rfl,h1,h2⟩:=r;cases d<;>first|(cases e;done)|skip;simp only[zT]at e;obtain⟨bs,e1,e⟩:=AT e;cases e;simp only[AW]at h1;subst h1;cases w with
  |cons p t=>
   cases p;rw[tB e1 h2 t];rfl
theorem CD(bs:Y Bool):((av bs.length).all λi=>bs.getD i false)=bs.all id:=by
 rw[jI,qk,qk];constructor
 ·intro h b a;obtain⟨i,hi,rfl⟩:=ap.mp a;have:=h i (by simpa using hi);simpa[List.getD,hi]using this
 ·intro h i hi;have hi:i<bs.length:=by simpa using hi
  have:=h bs[i] (Kj hi);simpa[List.getD,hi]using this
theorem CC(bs:Y Bool):((av bs.length).any λi=>bs.getD i false)=bs.any id:=by
 rw[jI,kc,kc];constructor
 ·rintro⟨i,hi,h⟩;have hi:i<bs.length:=by simpa using hi
  exact⟨bs[i],Kj hi,by simpa[List.getD,hi]using h⟩
 ·rintro⟨b,a,h⟩;obtain⟨i,hi,rfl⟩:=ap.mp a;exact⟨i,by simpa using hi,by simpa[List.getD,hi]using h⟩
def C2:Y Bx->S Bx
 |[b]=>(lX b).bind λds=>(zT ds).bind λbs=>Z (.z (.bl (bs.all id)))
 |_=>O
def CH:Y Bx->S Bx
 |[b]=>(lX b).bind λds=>(zT ds).bind λbs=>Z (.z (.bl (bs.any id)))
 |_=>O
theorem xM(bs:Y Bool):TruthOf prog w A (λi v=>(bs.map Value.bool).toArray[i]?=Z v) λi=>bs.getD i false:=λi v s Q E h q=>by
 have h':(bs.map Value.bool)[i]?=Z v:=by simpa using h
 rw[qv]at h';cases e:bs[i]? with
 |none=>rw[e]at h';cases h'
 |some b=>
  rw[e]at h';cases h';have:bs.getD i false=b:=by simp[List.getD,e]
  have a:Q b s:=by rw[<-this];exact q
  exact QP a
theorem zU(l:X.calm=true):p8 X (.builtin "all") C2:=by
 intro AN s σ H xs us Q I r h;obtain⟨bs,c,f,e,q⟩:=h;unfold C2 at e;split at e
 ·obtain⟨ds,C,e⟩:=AT e;obtain⟨ks,ek,e⟩:=AT e;cases e;obtain⟨v,rfl,B⟩:=BH f;obtain⟨a,vs,rfl,sq,g⟩:=B.zB C;obtain⟨u,rfl,x⟩:=BC r;cases x;obtain⟨AQ,w,pl,D⟩:=I.list sq;have d:=tB ek g w;have y:a<s.heap.objs.size:=by obtain⟨o,n,e,_⟩:=pl;exact zw e
  refine call_all_walk (ye pl.isList ?_);refine⟨s.heap.objs.size,_,_,_,_,_,λi=>ks.getD i false,rfl,Walks.list (by show X.A.handled=O;exact I.ok.hd l) s.heap.objs.size a (z4 y) AQ.toArray,⟨⟨_,zz _ rfl,rfl,rfl⟩,pl.isList.push _⟩,?_,λh' tk k=>?_⟩
  ·rw[d];exact xM ks
  ·have m:AQ.toArray.size=ks.length:=by rw[d];simp
   rw[m,CD];have t:L2.AU X AN σ H { s with heap:=s.heap.push { cls:=.type "list_iterator",data:=.fields #[.ref a,.int 0 0] } }:=I.kept (t':=s.toks) λb o e=>ze _ e;refine⟨.bl _,H,?_,rfl,q _ H (AV.refl H) trivial V1⟩;obtain⟨f0,f1,f2,f3,p,z⟩:=I.Ef (b:=s.heap.objs.size) (H':=H) (zl _) (I.hok.fresh (zl _));exact t.turned (it:=s.heap.objs.size) (λb o j e=>k b o (by simpa using j) e) f0 f1 f3 p z
 ·cases e
theorem IQ(l:X.calm=true):p8 X (.builtin "any") CH:=by
 intro AN s σ H xs us Q I r h;obtain⟨bs,c,f,e,q⟩:=h;unfold CH at e;split at e
 ·obtain⟨ds,C,e⟩:=AT e;obtain⟨ks,ek,e⟩:=AT e;cases e;obtain⟨v,rfl,B⟩:=BH f;obtain⟨a,vs,rfl,sq,g⟩:=B.zB C;obtain⟨u,rfl,x⟩:=BC r;cases x;obtain⟨AQ,w,pl,D⟩:=I.list sq;have d:=tB ek g w;have y:a<s.heap.objs.size:=by obtain⟨o,n,e,_⟩:=pl;exact zw e
  refine call_any_walk (ye pl.isList ?_);refine⟨s.heap.objs.size,_,_,_,_,_,λi=>ks.getD i false,rfl,Walks.list (by show X.A.handled=O;exact I.ok.hd l) s.heap.objs.size a (z4 y) AQ.toArray,⟨⟨_,zz _ rfl,rfl,rfl⟩,pl.isList.push _⟩,?_,λh' tk k=>?_⟩
  ·rw[d];exact xM ks
  ·have m:AQ.toArray.size=ks.length:=by rw[d];simp
   rw[m,CC];have t:L2.AU X AN σ H { s with heap:=s.heap.push { cls:=.type "list_iterator",data:=.fields #[.ref a,.int 0 0] } }:=I.kept (t':=s.toks) λb o e=>ze _ e;refine⟨.bl _,H,?_,rfl,q _ H (AV.refl H) trivial V1⟩;obtain⟨f0,f1,f2,f3,p,z⟩:=I.Ef (b:=s.heap.objs.size) (H':=H) (zl _) (I.hok.fresh (zl _));exact t.turned (it:=s.heap.objs.size) (λb o j e=>k b o (by simpa using j) e) f0 f1 f3 p z
 ·cases e
end P1
namespace P1
open L2
def gv(i:Nat):Ev->S Bx:=λρ=>uJ ρ i
def uT(g:Bx->Bx->S Bx)(fa fb:Ev->S Bx):Ev->S Bool:=λρ=>(b2 g fa fb ρ).bind zF
def tV(f:Ev->S Bx):Ev->S Bool:=λρ=>(f ρ).bind Vw
def aH:Ev->S (Y Bx):=λ_=>Z []
def gn:Ev->S An:=λρ=>Z (.nx ρ)
def fZ(f:Ev->S Bx):Ev->S An:=λρ=>(f ρ).bind Q6
def B0(i:Nat)(f:Ev->S Bx):Ev->S An:=λρ=>(f ρ).bind λb=>(Q7 ρ i b).bind λa=>Z (.nx a)
def Ow(gt:Dt->Ev->S Ev)(f:Ev->S Bx):Ev->S An:=λρ=>(f ρ).bind λb=>match b with|.z d=>(gt d ρ).bind λa=>Z (.nx a)|_=>O
def EU(i j:Nat)(fs:Ev->S (Y Bx)):Ev->S An:=λρ=>(fs ρ).bind (VD i j ρ)
def Ox(i:Nat)(f:Ev->S Bx):Ev->S An:=λρ=>(f ρ).bind (VF ρ i)
def nM(fi:Ev->S (Y Dt))(gt:Dt->Ev->S Ev)(gb:Ev->S An):Ev->S An:=λρ=>(fi ρ).bind λds=>yq gt gb ds ρ
def C'(f:Ev->S Bx):Ev->S (Y Dt):=λρ=>(f ρ).bind VG
def zV(f:Ev->S Bx):Ev->S (Y Dt):=λρ=>(f ρ).bind VP
def JX(fs:Ev->S (Y Bx)):Ev->S (Y Dt):=λρ=>(fs ρ).bind ZJ
def F5(fs:Ev->S (Y Bx)):Ev->S (Y Dt):=λρ=>(fs ρ).bind ZK
def jY(i:Nat):Dt->Ev->S Ev:=λd ρ=>Z (ρ.set i (Z (.z d)))
def m7:Ev->S Bool:=λ_=>Z true
theorem cN:sZ X [] m7:=⟨.inl ⟨rfl,rfl⟩⟩
theorem fL(h:QB X c p):sZ X [c] p:=⟨have h:=h.run;.inr ⟨c,rfl,h⟩⟩
theorem N4:BP X scope cl [] []:=trivial
theorem V8{xs:Au}(n:X.N[i]?=Z x)(k:X.env.kindOf x=Z .cell\/X.env.kindOf x=Z .free)(a:(relabel scope X.env).names.lookup x=Z .cell\/(relabel scope X.env).names.lookup x=Z .free)(c:∃c,cl.lookup x=Z c)(r:BP X scope cl xs is):BP X scope cl (x::xs) (i::is):=⟨⟨n,k,a,c⟩,r⟩
theorem mem_of_lookup{a:Y (AJ×NameKind)}{x:AJ}{k:NameKind}:a.lookup x=Z k->(x,k)∈a:=QQ
theorem ML{xs:Au}(clos:closureFor scope X.env=pure cl)(kind:scope.kind=.function)(cell:scope.names.all (λy=>decide (y.2≠.cell)||(cl.lookup y.1).isNone)=true)(names:scope.names.all (λy=>decide (y.2=.local->scope.names.lookup y.1=Z .local))=true)(sub:C5 X.env.cells cl)(has:(relabel scope X.env).names.all (λy=>!(y.2==.cell||y.2==.free)||(cl.lookup y.1).isSome||scope.names.contains (y.1,.cell))=true)(cap:BP X scope cl xs is):qy X scope cl xs is where
 clos:=clos
 kind:=kind
 cell:=λy a b=>by
  have:=List.all_eq_true.mp cell y a;simp only[b,ne_eq,not_true_eq_false,decide_false,eh,cw]at this;exact this
 names:=λy a=>km (List.all_eq_true.mp names y a)
 sub:=sub
 has:=λx hx=>by
  have h:∃k,(relabel scope X.env).names.lookup x=Z k/\(k==NameKind.cell||k==NameKind.free)=true:=by
   rcases hx with hx|hx
   ·exact⟨_,hx,rfl⟩
   ·exact⟨_,hx,rfl⟩
  obtain⟨k,e,hk⟩:=h;have:=List.all_eq_true.mp has _ (mem_of_lookup e);simp only[hk,Bool.not_true,eh,JJ]at this;rcases this with h|h
  ·exact .inr (aE.mp h)
  ·exact .inl (bj.mp h)
 cap:=cap
theorem Mq(r:gY k A):A.units+100<cLine:=by have:=r.un;omega
theorem MZ(h:∀b:Y Int,b.length<=63->F [.z (.lst (b.map .int))]=Z (.z (.bl true)))(j:∀b:Y Int,b.length<=63->F [.l (b.map .int)]=Z (.z (.bl true)))(K:B6)(H:Hp)(a:A1)(b:Y Int)(f:b.length<=63)(_:CO H)(d:nF K H a (b.map V.int)):
  Ri K 1 F [.ref a] H (λv _=>v=.bl true) λ_ _ _=>False:=by
 have e:∀c:Y Int,aF K H (c.map Dt.int) (c.map V.int):=λc=>by
  induction c with
  |nil=>exact aF.nil
  |cons m c i=>exact aF.cons (by unfold AW;rfl) i
 have g:∀v (H':Hp),AV H H'->Nw H (.z (.bl true)) v->aW K H' (.z (.bl true)) v->v=.bl true:=λv H' _ _ r=>by simpa only[aW,AW]using r
 rcases d with d|d
 ·exact⟨rfl,[.l (b.map .int)],_,.cons ⟨a,_,rfl,d,e b⟩ .nil,rfl,j b f,g⟩
 ·refine⟨rfl,[.z (.lst (b.map .int))],_,.cons ?_ .nil,rfl,h b f,g⟩;unfold aW AW;exact⟨a,_,rfl,.inr d,e b⟩
theorem NF{f:A1}(F:Uy K x qual st f fd)(S:cj N ps (aQ st))(b:N.length=n)(d:ps.length=m)(c:∀(a:A0) (A:A5) (outer:Y Env) (s:A2) (H:Hp) (E:XK),gY k (A.deeper (AK qual (aQ st) s.heap.objs.size f a))->Qq (zm Hj P w K mg base N qual (aQ st) f a A outer s H E).Ux (gF st) g):
  sW P w K mg base Hj (k+1) f fd ps (Ri K m (eZ n g)):=by
 subst b d;exact OF F S c
section
variable{st:Expr}{fs:Ev->S Bx}
theorem Kh(n:Nat):Builtin.Slice.slicePlaces ((n:Int)-1) (-1) (-1)=n:=by
 unfold Builtin.Slice.slicePlaces;simp only[show ¬ ((-1:Int)>0) by decide,qV,show -(-1:Int)=1 by decide,Int.ediv_one];split<;>omega
theorem wC{sl:A1}{u:Tok}{Q:Int×Int×Nat->A2->Prop}(hs:s.heap.IsSliceOf sl .none .none (.int (-1) u))(h:Q ((n:Int)-1,-1,n) s):A7 (A8 prog w) A (Builtin.Slice.sliceApplied (.ref sl) (pure (n:Int))) Q E s:=by
 obtain⟨os,a,c,b⟩:=id hs;unfold Builtin.Slice.sliceApplied Builtin.Slice.sliceFields;refine zb (zb (QE a b (x:=.none) Y3 (zb (QE a b (x:=.none) Y3 (zb (QE a b (x:=.int (-1) u) Y3 (zd ?_)))))));refine zb (HT.lD (.int (-1) u) ?_);show A7 _ _ (if((-1:Int)==0)=true then _ else _) _ _ s;rw[zr ()];refine zb (HT.lD .none (zb (HT.lD .none (zb (zd ?_)))));show A7 _ _ (pure ((n:Int)-1,(-1:Int),Builtin.Slice.slicePlaces ((n:Int)-1) (-1) (-1))) _ _ s;rw[Kh];exact zd h
theorem Fi{α β:Type}{f:α->S β}{g:α->β}:∀l:Y α,(∀a∈l,f a=Z (g a))->l.filterMap f=l.map g
 |[],_=>rfl
 |a::l,h=>by
  rw[kH,h a (zt ..),zv,Fi l λb c=>h b (zo _ c)]
theorem Rr(xs:Array A0):((av xs.size).filterMap λ(m:Nat)=>xs[(((xs.size:Nat):Int)-1+(m:Int)*(-1)).toNat]?).toArray=xs.toList.reverse.toArray:=by
 congr 1;rw[Fi (g:=λm=>xs.toList.getD (xs.size-1-m) .none)]
 ·apply List.ext_getElem
  ·simp
  ·intro k h1 h2;have hk:k<xs.size:=by simpa using h1
   rw[ka,List.getElem_range,List.getElem_reverse,ci,Zs (by simp;omega)];simp
 ·intro m b;have b:=aI.mp b;have e:(((xs.size:Nat):Int)-1+(m:Int)*(-1)).toNat=xs.size-1-m:=by omega
  have a:xs.size-1-m<xs.size:=by omega
  rw[e,Array.getElem?_eq_getElem a,ci,Zs (by simpa using a)];simp
theorem uU{t sl:A1}{u:Tok}(b:IsTup s.heap t items)(hs:s.heap.IsSliceOf sl .none .none (.int (-1) u))(h:Q (.ref s.heap.objs.size) { s with heap:=s.heap.push { cls:=.type "tuple",data:=.seq items.toList.reverse.toArray } })(d:items.size<=AA):A7 (A8 prog w) A (getItem (.ref t) (.ref sl)) Q E s:=by
 have a:sizeOk (.seq items.toList.reverse.toArray):=by
  show items.toList.reverse.toArray.size<=AA;rw[zk,ew,ZI];exact d
 obtain⟨os,c,e,i⟩:=id hs;have f:s.TypeIs (.ref sl) "slice":=⟨os,c,e⟩;unfold getItem
 try with_reducible refine Q4 ?_
 first|refine zb (zd ?_)|skip
 refine zb (wpAny_sequenceKey b.typeIs () ?_);refine zb (QO (name:=Str.ofString "__getitem__") b.typeIs PyProof.Rows.slot_tuple_getitem
  (Jn PyProof.Rows.slot_tuple_getitem b.typeIs entry_tuple_getitem ?_ (args_tuple_getitem _ _)))
 show A7 _ _ (Builtin.Tuple.tupleItemsOf (.ref t) >>= _) _ _ s;refine zb (tupleItemsOf_ b ?_);refine zb (Q2 f ?_);rw[zh ()];refine zb (wC hs ?_);have g:¬ ((((items.size:Int)-1)==0&&(-1:Int)==1&&items.size==items.size)=true):=by
  rw[show((-1:Int)==1)=false from rfl,bI,bE];exact ZO
 show A7 _ _ (if(((items.size:Int)-1)==0&&(-1:Int)==1&&items.size==items.size)=true then _ else _) _ _ s;rw[zr g,Rr]
 first
  |exact zb (m:=Builtin.Tuple.tupleExact _) (qr (zd ⟨_,rfl,zd h⟩) a)
  |exact zb (m:=Builtin.Tuple.tupleExact _) (qr (zb (zd (zd ⟨_,rfl,zd h⟩))) a)
  |exact zb (zb (m:=Builtin.Tuple.tupleExact _) (qr (zd (zd ⟨_,rfl,zd h⟩)) a))
  |exact zb (zb (m:=Builtin.Tuple.tupleExact _) (qr (zd ⟨_,rfl,zd h⟩) a))
def Oz:Bx->Bx->S Bx
 |.z (.tup ds),.z (.int i)=>if i = -1 then Z (.z (.tup ds.reverse))else O
 |_,_=>O
theorem aF.rev{K:B6}{H:Hp}:∀{ds:Y Dt} {vs:Y V},aF K H ds vs->aF K H ds.reverse vs.reverse
 |[],_,h=>by simp only[aF]at h;subst h;exact aF.nil
 |d::ds,_,h=>by
  simp only[aF]at h;obtain⟨v,r,rfl,hd,a⟩:=h;rw[ym,ym];exact aF.append (aF.rev a) (aF.cons hd aF.nil)
theorem OD{a c:Bx}(h:Oz a b=Z c):∃ds,a=.z (.tup ds)/\b=.z (.int (-1))/\c=.z (.tup ds.reverse):=by
 unfold Oz at h;split at h
 ·rename_i ds i;split at h
  ·rename_i hi;subst hi;cases h;exact⟨ds,rfl,rfl,rfl⟩
  ·cases h
 ·cases h
theorem MD(m:QV X e f)(l:QV X st fs)(C:∀v i:A0,subscripted (.Slice O O (Z st) p2) false v i=operate [v,i] (getItem v i):=by intro _ _;with_unfolding_all rfl):QV X (.Subscript e (.Slice O O (Z st) p2) pos) (b2 Oz f fs):=⟨by
 have m:=m.run;have l:=l.run;intro AN s σ H Q I h;obtain⟨H0,ρ,c,E,g,q⟩:=h;obtain⟨a,ea,g⟩:=AT g;obtain⟨b,eb,g⟩:=AT g;refine Subscript_ (gU (m AN s σ H (λx H1=>AV H H1/\aW X.K H1 a x) I ⟨H0,ρ,a,E,ea,λv H1 k J n=>⟨k,n⟩⟩) λv k ⟨x,H1,I1,n,V9,BH⟩=>?_);refine wpAny_Slice ?_;rw[evalPart_none];refine zd ?_;refine zd ?_;rw[evalPart_some];refine gU (l AN k σ H1 (λy H2=>AV H1 H2/\aW X.K H2 b y) I1 ⟨H0,ρ,b,E.grow V9,eb,λv H2 d G t=>⟨d,t⟩⟩) λvk d ⟨y,H2,I2,t,Mr,Do⟩=>?_;obtain⟨ds,rfl,rfl,rfl⟩:=OD g;have F:y=.int (-1):=by simpa only[aW,AW]using Do
 subst F;obtain⟨tk,rfl⟩:=t;obtain⟨p,vs,rfl,sq,B⟩:∃p vs,x=.ref p/\qj X.K H2 p vs/\aF X.K H2 ds vs:=by
  have:=BH.same Mr;simpa only[aW,AW]using this
 cases n;have j:L2.AU X AN σ H2 { d with heap:=d.heap.push { cls:=.type "slice",data:=.fields #[.none,.none,.int (-1) tk] } }:=I2.kept (t':=d.toks) λb D q=>ze _ q;obtain⟨AQ,r,u,z⟩:=j.tuple sq;show A7 (f6 X) X.A (subscriptTail e (.Slice O O (Z st) p2) (.ref p) (.ref d.heap.objs.size)) (EP X AN σ Q) X.xe { d with heap:=d.heap.push { cls:=.type "slice",data:=.fields #[.none,.none,.int (-1) tk] } };refine tail_any (ops:=[.ref p,.ref d.heap.objs.size]) u.typeIs PyProof.Rows.slot_tuple_getitem.lookup (uU u (Heap.IsSliceOf.new ..) ?_ (by rw[zk,<-r.length];exact z)) (C _ _);refine⟨.ref _,_,j.laid (t':=d.toks) (o:=.tup vs.reverse) (λb D q=>ze _ q) (zl _) ?_,rfl,q _ _ ((V9.trans Mr).trans (bO (j.hok.fresh (zl _)))) trivial ?_⟩
 ·exact⟨by rw[ew];exact z,_,r.reverse,gR.new _ _⟩
 ·simp only[aW,AW];exact⟨_,_,rfl,.inl (.inl bh),(aF.rev B).kp (.of (bO (j.hok.fresh (zl _))))⟩⟩
end
def DC:Bx->Bx->S Bx
 |.z (.int i),.z (.int j)=>Z (.z (.bl (decide (i<j))))
 |.z (.str x),.z (.str y)=>Z (.z (.bl (decide (x.cps.toList<y.cps.toList))))
 |_,_=>O
theorem Ru:Eo X (AG .Lt) DC:=by
 intro AN s σ H x y v u Q I k d h;obtain⟨a,b,c,g,f,e,q⟩:=h;unfold DC at e;split at e
 ·rename_i i j;cases e;exact HV AN s σ H x y v u Q I k d ⟨i,j,HJ g,HJ f,q _ H (AV.refl H) trivial (by unfold aW;exact EH)⟩
 ·rename_i i j;cases e;obtain⟨rfl,_⟩:=V3 g;obtain⟨rfl,_⟩:=V3 f;obtain⟨t,rfl⟩:=k;obtain⟨l,rfl⟩:=d;exact PySem.P.lt_str ⟨.bl _,H,I,rfl,q _ H (AV.refl H) trivial (by unfold aW;exact EH)⟩
 ·cases e
def zW:Y Dt->S Au
 |[]=>Z []
 |.str x::r=>(zW r).bind λys=>Z (x::ys)
 |_=>O
theorem wD{K:B6}{H:Hp}:∀{ds:Y Dt} {vs:Y V} {ys:Au},aF K H ds vs->zW ds=Z ys->vs=ys.map V.str/\∀y∈ys,y.length<=AA
 |[],_,_,h,e=>by cases e;simp only[aF]at h;subst h;exact⟨rfl,λy a=>by cases a⟩
 |.str x::ds,_,_,h,e=>by
  simp only[zW]at e;obtain⟨ys,e1,e2⟩:=AT e;cases e2;simp only[aF]at h;obtain⟨v,r,rfl,hd,b⟩:=h;obtain⟨rfl,hx⟩:v=.str x/\x.length<=AA:=by simpa only[AW]using hd
  obtain⟨rfl,h2⟩:=wD b e1;refine⟨rfl,λy a=>?_⟩;rcases List.mem_cons.mp a with rfl|a
  ·exact hx
  ·exact h2 y a
 |.non::_,_,_,_,e=>by cases e
 |.bl _::_,_,_,_,e=>by cases e
 |.int _::_,_,_,_,e=>by cases e
 |.tup _::_,_,_,_,e=>by cases e
 |.lst _::_,_,_,_,e=>by cases e
 |.emp::_,_,_,_,e=>by cases e
theorem HX{K:B6}{H:Hp}:∀{ys:Au},(∀y∈ys,y.length<=AA)->aF K H (ys.map Dt.str) (ys.map V.str)
 |[],_=>aF.nil
 |y::ys,h=>aF.cons (by unfold AW;exact⟨rfl,h y (zt ..)⟩) (HX λz a=>h z (zo _ a))
theorem tD:∀{ys:Au} {AQ:Y A0},AX (ys.map V.str) AQ->StrsAre AQ ys
 |[],_,h=>by cases h;exact .nil
 |y::ys,_,h=>by
  cases h with
  |cons r t=>
   obtain⟨tk,rfl⟩:=r;exact .cons y tk (tD t)
theorem CZ:∀{AQ:Y A0} {ys:Au},StrsAre AQ ys->AX (ys.map V.str) AQ
 |_,_,.nil=>.nil
 |_,_,.cons y t h=>.cons ⟨t,rfl⟩ (CZ h)
theorem Fj:gW X (.builtin "sorted") (λxs H Q=>∃p ys,xs=[.ref p]/\nF X.K H p (ys.map V.str)/\ys.length<64/\∀l zs,H l=O->zs.Perm ys->sortedS zs=true->Q (.ref l) (B7 H l (.lst (zs.map V.str)))):=by
 intro AN s σ H xs us Q I r h;obtain⟨p,ys,rfl,f,t,q⟩:=h;obtain⟨u,rfl,i⟩:=BC r;cases i;obtain⟨AQ,c,pl,d⟩:=I.list f;have g:=c.length;rw[zg]at g d;refine sorted_strs pl.isList (tD c) () λout zs m hp j=>?_;obtain⟨n,k⟩:=sortedAll_at s.heap AQ out;refine⟨.ref (s.heap.objs.size+1),_,I.laid (t':=s.toks) (a:=s.heap.objs.size+1) (o:=.lst (zs.map V.str)) (λb o e=>sortedAll_old e) (Kt _) ?_,rfl,q _ zs (I.hok.fresh (Kt _)) hp j⟩;refine⟨by rw[zg,hp.length_eq];exact d,out.toList,n,CZ m,?_⟩;rw[k]
def Bu(a b:AJ):Prop:=ltCps b.cps.toList a.cps.toList=false
theorem uV:∀(p:AJ) (l:Au),risingS p l=true->(p::l).Pairwise Bu
 |p,[],_=>by simp
 |p,x::r,h=>by
  have h':(!ltCps x.cps.toList p.cps.toList&&risingS x r)=true:=h;rw[ZH]at h';have c:=uV x r h'.2;have hx:Bu p x:=by simpa[Bu]using h'.1
  refine am.mpr ⟨λy b=>?_,c⟩;rcases List.mem_cons.mp b with rfl|b
  ·exact hx
  ·have a:Bu x y:=JA c b;unfold Bu at hx a ⊢;rw[ltCps_eq]at hx a ⊢;simp only[Qr]at hx a ⊢;exact List.le_trans (α:=Nat) hx a
theorem Fl{l:Au}(h:sortedS l=true):l.Pairwise Bu:=by
 cases l with
 |nil=>exact .nil
 |cons p l=>exact uV p l h
theorem HY{a b:AJ}(h:Bu a b)(h':Bu b a):a=b:=by
 unfold Bu at h h';rw[ltCps_eq]at h h';simp only[Qr]at h h';have:=e9 (as:=a.cps.toList) (bs:=b.cps.toList) h h';cases a;cases b;simp only[Str.mk.injEq];exact cJ.mp this
theorem Fo:∀{l c:Au},l.Perm c->l.Pairwise Bu->c.Pairwise Bu->l=c
 |[],c,h,_,_=>by rw[List.nil_perm.mp h]
 |a::l,[],h,_,_=>by cases List.perm_nil.mp h
 |a::l,b::c,h,p,p'=>by
  have e:a=b:=by
   have d:a∈b::c:=h.mem_iff.mp (zt ..);have f:b∈a::l:=h.mem_iff.mpr (zt ..);rcases List.mem_cons.mp d with h1|h1
   ·exact h1
   ·rcases List.mem_cons.mp f with h2|h2
    ·exact h2.symm
    ·exact HY (JA p h2) (JA p' h1)
  subst e;rw[Fo ((dv a).mp h) (am.mp p).2 (am.mp p').2]
def OJ(a b:AJ):Bool:=!ltCps b.cps.toList a.cps.toList
def xO(ys:Au):Au:=ys.mergeSort OJ
theorem tH(ys:Au):(xO ys).Perm ys:=QR ys OJ
theorem zX(ys:Au):(xO ys).Pairwise Bu:=by
 have h:=jn (le:=OJ) (λa b c h1 h2=>by
  unfold OJ at *
  rw[ltCps_eq]at *
  simp only[qA,Qr]at *
  exact List.le_trans (α:=Nat) h1 h2) (λa b=>by
  unfold OJ;rw[ltCps_eq,ltCps_eq];simp only[JJ,qA,Qr];exact List.le_total a.cps.toList b.cps.toList) ys
 exact h.imp λ{a b} hh=>by simpa[OJ,Bu]using hh
theorem Rv{ys zs:Au}(hp:zs.Perm ys)(hs:sortedS zs=true):zs=xO ys:=Fo (hp.trans (tH ys).symm) (Fl hs) (zX ys)
def Ia:Y Bx->S Bx
 |[b]=>(lX b).bind λds=>(zW ds).bind λys=>if ys.length<64 then Z (.o ((xO ys).map Dt.str))else O
 |_=>O
theorem O1:p8 X (.builtin "sorted") Ia:=gW.imp Fj λxs H Q q=>by
 obtain⟨bs,c,f,e,q⟩:=q;unfold Ia at e;split at e
 ·rename_i b;obtain⟨ds,n,e⟩:=AT e;obtain⟨ys,j,e⟩:=AT e;split at e
  ·rename_i i;cases e;obtain⟨v,rfl,m⟩:=BH f;obtain⟨p,vs,rfl,sq,g⟩:=m.zB n;obtain⟨rfl,k⟩:=wD g j;refine⟨p,ys,rfl,sq,i,λl zs d hp o=>?_⟩;rw[Rv hp o];refine q _ _ (bO d) (λa ea=>by cases ea;exact d) ⟨l,_,rfl,bh,HX λy h=>k y ((tH ys).mem_iff.mp h)⟩
  ·cases e
 ·cases e
def Ib(x:AJ)(b:Bx):S Bx:=(lX b).bind λds=>(zW ds).bind λys=>if(ys.map (·.length)).sum+ys.length*x.length<=100000 then Z (.z (.str (Txt.join x ys)))else O
theorem Wa:FS X "str.join" (λx xs H Q=>∃y p ys,x=.str y/\xs=[.ref p]/\nF X.K H p (ys.map V.str)/\(ys.map (·.length)).sum+ys.length*y.length<=100000/\Q (.str (Txt.join y ys)) H):=by
 intro AN s σ H x xs v us Q I c a h;obtain⟨y,p,ys,rfl,rfl,sq,f,q⟩:=h;obtain⟨t,rfl⟩:=c;obtain⟨u,rfl,d⟩:=BC a;cases d;obtain⟨AQ,b,pl,e⟩:=I.list sq;exact join_list pl.isList (tD b) () λg k=>⟨.str _,H,I.tok _,⟨_,rfl⟩,q⟩
theorem Wb{p1:Pos}(h:QV X e f)(hx:x.length<=AA:=by decide)(i:attributeBase (.Constant (.str x) j p1) "join" X.env (eval (.Constant (.str x) j p1) X.env)=eval (.Constant (.str x) j p1) X.env:=by rfl)(l:((AD cpos (A9 [e] X.env)).all (λx=>!x.1)&&(backToKw cpos (keywordEach [] X.env)).all (λx=>x.1.isSome)&&decide ([e].length+([]:Y AC).length+(if([]:Y AC).isEmpty then 0 else 1)<30))=true:=by rfl)(m:(apos.endLine==cpos.line)=true:=by rfl)(hs:A9 [e] X.env=(false,eval e X.env)::A9 [] X.env:=by rfl):QV X (.Call (.Attribute (.Constant (.str x) j p1) "join" apos) [e] [] cpos) (b1 (Ib x) f):=⟨have h:=h.run;Hl (QD (T :="str") F.plainAttrs_str F.slot_str_join F.type_str_join Wa (QX (hx:=hx)) (Hq h LQ hs) i l m hs Y3) λσ H Q q=>by
  obtain⟨H0,ρ,c,E,e,q⟩:=q;obtain⟨a,ea,e⟩:=AT e;refine⟨H0,ρ,_,E,rfl,λv H1 b z t=>?_⟩;obtain⟨rfl,B⟩:v=.str x/\x.length<=AA:=by simpa only[aW,AW]using t
  refine⟨rfl,H0,ρ,[a],E.grow b,by simp only[ao,ea,fg],λvs H2 s n=>?_⟩;obtain⟨w,rfl,u⟩:=BH n;unfold Ib at e;obtain⟨ds,g,e⟩:=AT e;obtain⟨ys,o,e⟩:=AT e;split at e
  ·rename_i k;cases e;obtain⟨p,y,rfl,sq,d⟩:=u.zB g;obtain⟨rfl,A⟩:=wD d o;refine⟨x,p,ys,rfl,rfl,sq,k,q _ _ (b.trans s) trivial ?_⟩;unfold aW AW;exact⟨rfl,joinOk_length (joinOk_of ())⟩
  ·cases e⟩
def Rw:Y Bx->S Bx
 |[.z (.int a),.z (.int b)]=>Z (.z (.int (if b<a then b else a)))
 |_=>O
theorem HG{a:Bx}(h:rZ K H [a,b] vs):∃v w,vs=[v,w]/\aW K H a v/\aW K H b w:=by
 cases h with
 |cons p t=>
  cases t with
  |cons p' c=>cases c;exact⟨_,_,rfl,p,p'⟩
theorem OX(k:X.calm=true):p8 X (.builtin "min") Rw:=by
 intro AN s σ H xs us Q I r h;obtain⟨bs,c,f,e,q⟩:=h;unfold Rw at e;split at e
 ·rename_i a b;cases e;obtain⟨v,w,rfl,m,n⟩:=HG f;have g:=HJ m;have j:=HJ n;subst g j;obtain⟨u,o,rfl,l,i⟩:=AX.two r;obtain⟨t,rfl⟩:=l;obtain⟨p,rfl⟩:=i;refine min_two_ints (I.ok.hd k) λh' tk kp=>?_;by_cases d:b<a
  ·rw[zh d]at q ⊢;exact⟨.int b,H,I.kept kp,⟨_,rfl⟩,q _ H (AV.refl H) trivial BW⟩
  ·rw[zr d]at q ⊢;exact⟨.int a,H,I.kept kp,⟨_,rfl⟩,q _ H (AV.refl H) trivial BW⟩
 ·cases e
def zY(AO:Y (AY×Dt))(x:AY):S Dt:=(AO.find? λa=>decide (a.1=x)).map (·.2)
def Ie(AO:Y (AY×Dt))(x:AY)(d:Dt):Y (AY×Dt):=
 if(AO.any λa=>decide (a.1=x))=true then AO.map (λa=>if a.1=x then(a.1,d)else a)else AO++[(x,d)]
theorem fX.nil:fX K H [] []:=⟨rfl,aF.nil,λp hp=>by cases hp⟩
theorem fX.inv{p:AY×Dt}(h:fX K H (p::AO) ks):∃v r,ks=(p.1,v)::r/\AW K H p.2 v/\DE p.1/\fX K H AO r:=by
 obtain⟨h1,h2,a⟩:=h;cases ks with
 |nil=>simp at h1
 |cons q r=>
  simp only[zv,KM]at h1;obtain⟨e,h1⟩:=h1;simp only[zv,aF]at h2;obtain⟨v,d,e2,b,c⟩:=h2;simp only[KM]at e2;obtain⟨rfl,rfl⟩:=e2;exact⟨q.2,r,by rw[<-e],b,a p (zt ..),h1,c,λx hx=>a x (zo _ hx)⟩
theorem fX.cons{p:AY×Dt}{AO:Y (AY×Dt)}{v:V}{r:Y (AY×V)}(a:AW K H p.2 v)(hp:DE p.1)(h:fX K H AO r):fX K H (p::AO) ((p.1,v)::r):=
 ⟨by simp[h.1],aF.cons a h.2.1,λx hx=>by
  rcases List.mem_cons.mp hx with rfl|hx
  ·exact hp
  ·exact h.2.2 x hx⟩
theorem fX.append{AO:Y (AY×Dt)}{ks:Y (AY×V)}{x:AY}{d:Dt}{v:V}(h:fX K H AO ks)(a:AW K H d v)(hx:DE x):fX K H (AO++[(x,d)]) (ks++[(x,v)]):=
 ⟨by simp[h.1],by rw[ZT,ZT];exact aF.append h.2.1 (aF.cons a aF.nil),λp hp=>by
  rcases ah.mp hp with hp|hp
  ·exact h.2.2 p hp
  ·cases af.mp hp;exact hx⟩
theorem fX.len(h:fX K H AO ks):ks.length=AO.length:=by
 have:=congrArg dq h.1;simpa using this
theorem fX.look:∀{AO:Y (AY×Dt)} {ks:Y (AY×V)} {x:AY} {d:Dt},fX K H AO ks->zY AO x=Z d->∃v,BK ks x=Z v/\AW K H d v
 |[],_,_,_,_,e=>by cases e
 |p::AO,_,x,d,h,e=>by
  obtain⟨v,r,rfl,a,c,b⟩:=h.inv;unfold zY at e;by_cases hp:p.1=x
  ·rw[List.find?_cons_of_pos (by simpa using hp)]at e;cases e;exact⟨v,zu (by rw[hp]),a⟩
  ·rw[List.find?_cons_of_neg (by simpa using hp)]at e;obtain⟨w,e1,e2⟩:=fX.look b e;exact⟨w,(zA (by simpa using hp)).trans e1,e2⟩
theorem fX.any:∀{AO:Y (AY×Dt)} {ks:Y (AY×V)} {x:AY},fX K H AO ks->(ks.any λa=>decide (a.1=x))=AO.any λa=>decide (a.1=x)
 |[],ks,_,h=>by
  have:=h.len;cases ks with
  |nil=>rfl
  |cons _ _=>simp at this
 |p::AO,_,x,h=>by
  obtain⟨v,r,rfl,c,d,b⟩:=h.inv;rw[cf,cf,fX.any b]
theorem fX.Rx:∀{AO:Y (AY×Dt)} {ks:Y (AY×V)} {x:AY} {d:Dt} {v:V},fX K H AO ks->AW K H d v->fX K H (AO.map λa=>if a.1=x then(a.1,d)else a) (ks.map λa=>if a.1=x then(a.1,v)else a)
 |[],ks,_,_,_,h,_=>by
  have:=h.len;cases ks with
  |nil=>exact fX.nil
  |cons _ _=>simp at this
 |p::AO,_,x,d,v,h,hd=>by
  obtain⟨w,r,rfl,e,c,f⟩:=h.inv;rw[zv,zv];have b:=fX.Rx (x:=x) f hd;by_cases hp:p.1=x
  ·rw[zh hp,zh (by simp[hp])];exact fX.cons (p:=(p.1,d)) hd c b
  ·rw[zr hp,zr (by simpa using hp)];exact fX.cons e c b
theorem fX.put{x:AY}{v:V}(h:fX K H AO ks)(a:AW K H d v)(hx:DE x):fX K H (Ie AO x d) (BY ks x v):=by
 unfold Ie BY;rw[h.any];split
 ·exact h.Rx a
 ·exact h.append a hx
section
variable{ek o:Expr}{fk:Ev->S Bx}{pos':Pos}
def DV:Bx->S AY
 |.z (.str x)=>Z (.inr x)
 |.z (.int i)=>Z (.inl i)
 |_=>O
theorem Wc{k:AY}{v:V}(e:DV b=Z k)(r:aW K H b v):v=kV k/\DE k:=by
 unfold DV at e;split at e
 ·cases e;simp only[aW,AW]at r;exact r
 ·cases e;simp only[aW,AW]at r;exact⟨r,trivial⟩
 ·cases e
def uW:Bx->Bx->S Bx
 |.n AO,b=>(DV b).bind λk=>(zY AO k).bind λd=>Z (.z d)
 |_,_=>O
theorem Kl{a c:Bx}(h:uW a b=Z c):∃AO k d,a=.n AO/\DV b=Z k/\zY AO k=Z d/\c=.z d:=by
 unfold uW at h;split at h
 ·obtain⟨k,ek,h⟩:=AT h;obtain⟨d,e,h⟩:=AT h;cases h;exact⟨_,k,d,rfl,ek,e,rfl⟩
 ·cases h
theorem yK(B:X.A.units+100<cLine)(f:QV X o fo)(hk:QV X ek fk)(hs:Zx ek:=by intro _ _;rfl):QV X (.Subscript o ek pos) (b2 uW fo fk):=⟨have f:=f.run;have hk:=hk.run;Hl (Vs () f hk hs) λσ H Q h=>by
 obtain⟨H0,ρ,c,E,e,q⟩:=h;obtain⟨a,ea,e⟩:=AT e;obtain⟨b,eb,e⟩:=AT e;refine⟨H0,ρ,a,E,ea,λv H1 g z s=>⟨H0,ρ,b,E.grow g,eb,λw H2 i y u=>?_⟩⟩;obtain⟨AO,x,d,rfl,l,t,rfl⟩:=Kl e;obtain⟨p,ks,rfl,m,j⟩:=s.same i;obtain⟨n,ev,k⟩:=j.look t;obtain⟨rfl,_⟩:=Wc l u;exact⟨p,n,rfl,.inl ⟨ks,x,m,rfl,ev.symm⟩,q _ _ (g.trans i) trivial k⟩⟩
end
section
variable{a b:Expr}{fs:Ev->S (Y Bx)}
theorem bL{j}(hx:x.length<=AA:=by decide):QV X (.Constant (.str x) j pos) (cB (.str x)):=⟨P1.QX (hx:=hx)⟩
end
section
variable{a b:Expr}{fs:Ev->S (Y Bx)}
variable{AS:Y Expr}
theorem aj(h1:QV X e f)(h2:Lz X es fs)(hs:A9 (e::es) X.env=(false,eval e X.env)::A9 es X.env:=by rfl):Lz X (e::es) (ao f fs):=⟨P1.Hq (h1:=h1.run) (h2:=h2.run) (hs:=hs)⟩
theorem au  :Lz X [] (λ_=>Z []):=⟨P1.LQ ⟩
end
theorem L6{f:A1}(F:Uy K x qual st f fd)(S:cj N ps (aQ st))(c:N.length=n)(b:ps.length=m)(e:∀(a:A0) (A:A5) (outer:Y Env) (s:A2) (H:Hp) (E:XK),gY k (A.deeper (AK qual (aQ st) s.heap.objs.size f a))->Q5 (zm Hj P w K mg base N qual (aQ st) f a A outer s H E).Ux (gF st) g):
  sW P w K mg base Hj (k+1) f fd ps (Ri K m (eZ n g)):=NF F S c b λa A outer s H E d=>(e a A outer s H E d).run
theorem bN.acO(E:bN K H0 H σ ρ)(i:Nat):bN K H0 H σ (ρ.set i O):=by
 have d:∀(j:Nat) (b:Bx),(ρ.set i O)[j]?=Z (Z b)->ρ[j]?=Z (Z b):=λj b e=>by
  rw[yn]at e;split at e
  ·split at e<;>cases e
  ·exact e
 refine⟨by rw[KI];exact E.len,λj b e=>E.val j b (d j b e),λj k c a b e1 f e2 e3 h g=>E.own j k c a b (d _ _ e1) f e2 (d _ _ e3) h g,E.base,λj c a e1 f e2=>E.new j c a (d _ _ e1) f e2⟩
def kill(is:Y Nat)(ρ:Ev):Ev:=is.foldl (λρ i=>ρ.set i O) ρ
theorem bN.kill{K:B6}{H0 H:Hp}{σ:L2.St}:∀(is:Y Nat) {ρ:Ev},bN K H0 H σ ρ->bN K H0 H σ (P1.kill is ρ)
 |[],_,E=>E
 |i::is,_,E=>bN.kill is (E.acO i)
def ji(is:Y Nat):Ev->S An:=λρ=>Z (.nx (kill is ρ))
theorem Ry{c:Y AB}(is:Y Nat)(h:Qq X c g):Qq X c (aJ g (ji is)):=Zy h λD σ H q=>by
 obtain⟨H0,ρ,r,E,e,q⟩:=q;obtain⟨a,e1,e⟩:=AT e;refine⟨H0,ρ,a,E,e1,?_⟩;cases a with
 |nx f=>cases e;exact λσ' H' d=>q σ' H' (d.kill is)
 |rt b=>cases e;exact q
 |bk b=>cases e;exact q
 |ct b=>cases e;exact q
theorem dw{a:Y AB}(is:Y Nat)(h:Q5 X a g):Q5 X a (aJ g (ji is)):=⟨Ry is h.run⟩
end P1
namespace S1
section
variable(rk:A0->Nat)
def at_(xs:Array Keyed)(i:Nat):Nat:=match xs[i]? with
 |some p=>rk p.1
 |none=>0
def Up(xs:Array Keyed)(k:Nat):Prop:=∀i j,i<=j->j<k->at_ rk xs i<=at_ rk xs j
structure Bs (kd:SortKind) (b:Array Keyed) (st:SortSt):Prop where
 pm:(arrOf st).Perm b
 kd:kindOf st=kd
 fl:failedOf st=none
 pd:pendingOf st=#[]
variable{rk}{b:Array Keyed}
theorem Bs.sz{st:SortSt}(h:Bs kd b st):(AM st).size=b.size:=h.pm.size_eq
theorem qJ{xs ys:Array Keyed}(h:xs[i]?=ys[j]?):at_ rk xs i=at_ rk ys j:=by unfold at_;rw[h]
theorem MX{xs:Array Keyed}{p d:Nat}(hs:p<xs.size)(hd:d<=p)(k:Nat):at_ rk (bubble xs p d) k=if k=p-d then at_ rk xs p else if p-d<k/\k<=p then at_ rk xs (k-1)else at_ rk xs k:=by
 have e:=getElem?_bubble hs d hd k;by_cases q:k=p-d
 ·simp only[zh q]at e ⊢;exact qJ e
 ·simp only[zr q]at e ⊢;by_cases q2:p-d<k/\k<=p
  ·simp only[zh q2]at e ⊢;exact qJ e
  ·simp only[zr q2]at e ⊢;exact qJ e
theorem Iq{xs:Array Keyed}(a:j<=xs.size)(k:Nat):at_ rk (mirror xs i j ((j-i) / 2)) k=if i<=k/\k<j then at_ rk xs (i+j-1-k)else at_ rk xs k:=by
 have e:=getElem?_mirror_all (i:=i) a k;by_cases q:i<=k/\k<j
 ·simp only[zh q]at e ⊢;exact qJ e
 ·simp only[zr q]at e ⊢;exact qJ e
end
section
variable{b:Array Keyed}
def Fp(prog:A3)(w:A4)(A:A5)(s:A2)(kd:SortKind)(rk:A0->Nat)(b:Array Keyed):Prop:=
 ∀(E:BF) (p q:Keyed) (Q:Bool->A2->Prop),p∈b.toList->q∈b.toList->Q (decide (rk p.1<rk q.1)) s->A7 (A8 prog w) A (keyLt' kd p.1 q.1) Q E s
def Rn(prog:A3)(w:A4)(A:A5)(kd:SortKind)(rk:A0->Nat)(b:Array Keyed):Prop:=∀(E:BF) (s:A2) (st:SortSt) (Q:Unit->SortSt->Prop),Fp prog w A s kd rk b->Bs kd b st->2<=b.size →
 (∀t,(AM t).Perm b->failedOf t=O->Up rk (AM t) b.size->Q f8 t)->wpS (A8 prog w) A E s sortRuns' Q st
def EI(a:A1)(s s':A2):Prop:=∀c o,c≠a->s.heap.get? c=Z o->s'.heap.get? c=Z o
theorem OR{vs:Y A0}{P:Fin->A2->Prop}(d:s.heap.get? a=Z (seqObj "list" vs.toArray n))(u:2<=vs.length->∀s',EI a s s'->∀Q:SortKind->A2->Prop,Q kd s'->A7 (A8 prog w) A (keyKind' vs.toArray) Q E s')(v:∀s',EI a s s'->Fp prog w A s' kd rk (pairsOf vs))(l:vs.length<=AA)(x:Rn prog w A kd rk (pairsOf vs))(h:∀st:SortSt,(AM st).Perm (pairsOf vs)->Up rk (AM st) (pairsOf vs).size->P (.done (.ret .none)) { s with heap:=sortedHeap s.heap a vs ((AM st).map (·.2)) }):
  A7 (A8 prog w) A (Builtin.«list.sort» ⟨[.ref a],[]⟩) P E s:=by
 rw[list_sort_plain];have k:=zw d;refine zb (listItems_at d Y3 (zb (listUpdate_at d Y3 ?_)));obtain⟨e1,g1⟩:∃e1,(s.heap.update a (Obj.mapSeq λ_=>#[])).get? a=Z (seqObj "list" #[] e1):=⟨_,get?_update_seq d λ_=>#[]⟩;refine zb (seqEpoch_at g1 Y3 (zb (wpAny_newTuple (zb (yo (Q4 ?_))))));have z1:(s.heap.update a (Obj.mapSeq λ_=>#[])).objs.size=s.heap.objs.size:=fm ..;have keep:∀c,c<s.heap.objs.size->(((s.heap.update a (Obj.mapSeq λ_=>#[])).push (seqObj "tuple" vs.toArray 0)).push (seqObj "list" #[] 0)).get? c=(s.heap.update a (Obj.mapSeq λ_=>#[])).get? c:=λc b=>by
  rw[eM _ _ _ (by rw[size_push',z1];exact z4 (cm b)),eM _ _ _ (by rw[z1];exact z4 b)]
 have f:=(keep a k).trans g1;have old:EI a s { s with heap:=((s.heap.update a (Obj.mapSeq λ_=>#[])).push (seqObj "tuple" vs.toArray 0)).push (seqObj "list" #[] 0) }:=λc o b e=>by
  show(((s.heap.update a (Obj.mapSeq λ_=>#[])).push (seqObj "tuple" vs.toArray 0)).push (seqObj "list" #[] 0)).get? c=Z o;rw[keep c (zw e),ey _ _ _ _ b];exact e
 show A7 _ _ _ _ _ { s with heap:=((s.heap.update a (Obj.mapSeq λ_=>#[])).push (seqObj "tuple" vs.toArray 0)).push (seqObj "list" #[] 0) };have B:vs.toArray.size=vs.length:=by simp
 have g:∀st:SortSt,(AM st).Perm (pairsOf vs)->((AM st).map (·.2)).size<=AA+1:=λst hp=>by
  have q:((AM st).map (·.2)).size=vs.length:=(Array.size_map ..).trans (hp.size_eq.trans (pairsOf_size _));rw[q];exact eN l
 by_cases h2:vs.toArray.size<2
 ·simp only[zh h2];refine zb (zd ?_);rw[StateT.run_pure];refine zb (zd (zb (seqEpoch_at f Y3 (zb (listUpdate_at f Y3 ?_ (hsz2:=g (SortSt.mk' general' (pairsOf vs) #[] 7 O) (KO _)))))));simp only[bne_self_eq_false,zS,qV];refine zd (h (SortSt.mk' general' (pairsOf vs) #[] 7 O) (KO _) λi j z y=>?_);rw[pairsOf_size]at y;rw[show i=j by omega];exact zl _
 ·simp only[zr h2];refine zb (u () _ old _ ?_);refine zb (qB (x _ _ (SortSt.mk' kd (pairsOf vs) #[] 7 O) (λ_ t=>(AM t).Perm (pairsOf vs)/\failedOf t=O/\Up rk (AM t) (pairsOf vs).size) (v _ old) ⟨KO _,rfl,rfl,rfl⟩ (by rw[pairsOf_size];omega) λt q1 q2 q3=>⟨q1,q2,q3⟩) ?_ λ_ _ q=>q);rintro⟨⟨⟩,t⟩ s' ⟨rfl,hp,p,m⟩;dsimp only;refine zb (seqEpoch_at f Y3 (zb (listUpdate_at f Y3 ?_ (hsz2:=g t hp))));rw[p];simp only[bne_self_eq_false,zS,qV];exact zd (h t hp m)
theorem Km{x:A0}{vs:Y A0}(j:∀(d:BF) (g:Y A0->A2->Prop),(∀h' tk,s.heap.objs.size<=h'.objs.size->(∀c o,s.heap.get? c=Z o->h'.get? c=Z o)->g vs { s with heap:=h',toks:=tk })->A7 (A8 prog w) A.in1 (collect x) g d s)(k:2<=vs.length->∀(d:BF) (a:A5) (s':A2),(∀c o,s.heap.get? c=Z o->s'.heap.get? c=Z o)->∀Q:SortKind->A2->Prop,Q kd s'->A7 (A8 prog w) a (keyKind' vs.toArray) Q d s')(p:∀(a:A5) (s':A2),(∀c o,s.heap.get? c=Z o->s'.heap.get? c=Z o)->Fp prog w a s' kd rk (pairsOf vs))(i:vs.length<=AA)(t:∀a:A5,Rn prog w a kd rk (pairsOf vs))(h:∀(l:A1) (h':A6) (tk n:Nat) (st:SortSt),(AM st).Perm (pairsOf vs)->Up rk (AM st) (pairsOf vs).size->s.heap.objs.size<=l->(∀c o,s.heap.get? c=Z o->h'.get? c=Z o)->h'.get? l=Z (seqObj "list" ((AM st).map (·.2)) n)->Q (.ref l) { s with heap:=h',toks:=tk }):
  A7 (A8 prog w) A (call (.builtin "sorted") [x]) Q E s:=by
 refine Calls.call_function_entry kind_sorted plain_sorted entry_sorted (args_sorted1 _) ?_;unfold Builtin.«sorted»;refine zb (m:=checkCount "sorted" 1 1 _) (zd (zb (j _ _ λh1 tk u ext=>zb (yo ?_))));have b:(h1.push (seqObj "list" vs.toArray 0)).get? h1.objs.size=Z (seqObj "list" vs.toArray 0):=zz _ rfl;have old:∀s':A2,EI h1.objs.size { s with heap:=h1.push (seqObj "list" vs.toArray 0),toks:=tk } s'->∀c o,s.heap.get? c=Z o->s'.heap.get? c=Z o:=λs' q c o e=>
  q c o (z4 (zw (ext c o e))) (ze _ (ext c o e))
 refine zb (Q4 (Jn slot_list_sort ⟨_,b,rfl⟩ entry_list_sort (OR b (λq s' o=>k q _ _ s' (old s' o)) (λs' o=>p _ s' (old s' o)) i (t _) λst q1 q2=>⟨_,rfl,zd ⟨_,rfl,?_⟩⟩) (args_list_sort _)));obtain⟨n,v⟩:=sortedHeap_at (out:=(AM st).map (·.2)) b;refine h h1.objs.size _ tk n st q1 q2 u (λc o e=>?_) v;have f:=zw (ext c o e);rw[sortedHeap_old (z4 f) (by rw[kq];exact cm f)];exact ze _ (ext c o e)
end
end S1
namespace S1
open L2
theorem O2(fb:Bool)(x y:A0):keyLt' (tuples' fb) x y=(do
  let xs <-Builtin.List.listItems x
  let ys <-Builtin.List.listItems y
  for ((p,q),i) in (xs.toList.zip ys.toList).zipIdx do
   if !(<-eqBool p q)then return <-oneLt' (fb&&i==0) p q
  return decide (xs.size<ys.size)):=rfl
def Ms:AY->AY->Bool
 |.inl a,.inl b=>decide (a<b)
 |.inr x,.inr y=>decide (x.cps.toList<y.cps.toList)
 |.inl _,.inr _=>true
 |.inr _,.inl _=>false
def Mt:AY->AY->Bool
 |.inl _,.inl _=>true
 |.inr _,.inr _=>true
 |_,_=>false
def g8:Y AY->Y AY->Bool
 |[],[]=>false
 |[],_::_=>true
 |_::_,[]=>false
 |x::xs,y::ys=>if x=y then g8 xs ys else Ms x y
def Wf:Y AY->Y AY->Prop
 |x::xs,y::ys=>Mt x y=true/\Wf xs ys
 |_,_=>True
theorem D3{x y:AY}{p q:A0}{Q:Bool->A2->Prop}(hp:jW x p=true)(c:jW y q=true)(h:Q (decide (x=y)) s):A7 (A8 prog w) A (eqBool p q) Q E s:=
 (d8 prog w).eqBool (a:=x) (b:=y) hp c h
theorem Lc{fb:Bool}{x y:AY}{p q:A0}{Q:Bool->A2->Prop}(hs:Mt x y=true)(hp:jW x p=true)(a:jW y q=true)(h:Q (Ms x y) s):A7 (A8 prog w) A (oneLt' fb p q) Q E s:=by
 rcases bT hp with⟨i,t,rfl,rfl⟩|⟨z,t,rfl,rfl⟩
 ·rcases bT a with⟨j,u,rfl,rfl⟩|⟨z,u,rfl,rfl⟩
  ·cases fb with
   |true=>exact oneLt_int h
   |false=>
    rw[oneLt'_eq];simp only[zS,qV];refine zb (show A7 _ _ (AG .Lt (.int i t) (.int j u)) _ _ _ from lt_int ?_);exact QP h
  ·cases hs
 ·rcases bT a with⟨j,u,rfl,rfl⟩|⟨b,u,rfl,rfl⟩
  ·cases hs
  ·cases fb with
   |true=>exact oneLt_str h
   |false=>
    rw[oneLt'_eq];simp only[zS,qV];refine zb (show A7 _ _ (AG .Lt (.str z t) (.str b u)) _ _ _ from PySem.P.lt_str ?_);exact QP h
def Ks(ks:Y AY)(AQ:Y A0):Prop:=AI (λk v=>jW k v=true) ks AQ
def Ct:Y AY->Y AY->S Bool
 |x::xs,y::ys=>if x=y then Ct xs ys else Z (Ms x y)
 |_,_=>O
theorem Rz:∀ks a:Y AY,g8 ks a=match Ct ks a with|some r=>r|none=>decide (ks.length<a.length)
 |[],[]=>rfl
 |[],_::_=>by simp[g8,Ct]
 |_::_,[]=>rfl
 |x::xs,y::ys=>by
  simp only[g8,Ct];by_cases e:x=y
  ·rw[zh e,zh e,Rz xs ys];simp only[Z3,Nat.add_lt_add_iff_right]
  ·rw[zr e,zr e]
def turn(fb:Bool):(A0×A0)×Nat->S Bool×Unit->Sem (ForInStep (S Bool×Unit)):=λx _=>match x with
 |((p,q),i)=>do
  let e <-eqBool p q
  if(!e)=true then do
    let r <-oneLt' (fb&&i==0) p q
    pure (ForInStep.done (Z r,f8))
   else pure (ForInStep.yield (O,f8))
theorem EO(fb:Bool):∀(ks b:Y AY) (AQ a:Y A0) (i:Nat) (R:S Bool×Unit->A2->Prop),Ks ks AQ->Ks b a->Wf ks b->R (Ct ks b,f8) s->A7 (A8 prog w) A (forIn ((AQ.zip a).zipIdx i) ((O,f8):S Bool×Unit) (turn fb)) R E s:=by
 intro ks
 induction ks with
 |nil=>intro b AQ a i R h _ _ h1;cases h;exact zd h1
 |cons x xs f=>
  intro b AQ a i R h h' d h1;cases h with
  |@cons _ p _ AQ hp hk=>
   cases h' with
   |nil=>exact zd h1
   |@cons y q ys a c g=>
    rw[Q1,fq,List.forIn_cons];refine zb ?_;show A7 _ _ (eqBool p q >>= _) _ _ _;refine zb (D3 hp c ?_);by_cases e:x=y
    ·simp only[e,decide_true,Bool.not_true,zS,qV];refine zd (f ys AQ a (i+1) R hk g d.2 ?_);simp only[Ct,zh e]at h1;exact h1
    ·simp only[e,decide_false,bP,QU];refine zb (Lc d.1 hp c (zd (zd ?_)));simp only[Ct,zr e]at h1;exact h1
theorem NR{fb:Bool}{c:A1}{oa g:AE}{d:Y A0}{ks b:Y AY}{Q:Bool->A2->Prop}(i:s.heap.get? a=Z oa)(l:oa.data=.seq AQ.toArray n)(k:s.heap.get? c=Z g)(o:g.data=.seq d.toArray m)(hk:Ks ks AQ)(f:Ks b d)(hs:Wf ks b)(h:Q (g8 ks b) s):A7 (A8 prog w) A (keyLt' (tuples' fb) (.ref a) (.ref c)) Q E s:=by
 rw[O2];refine zb (listItems_at i l (zb (listItems_at k o ?_)));have j:AQ.length=ks.length:=(Paired.length hk).symm;have p:d.length=b.length:=(Paired.length f).symm;refine zb (EO fb ks b AQ d 0 _ hk f hs ?_);rw[Rz]at h;cases e:Ct ks b with
 |some r=>rw[e]at h;exact zd h
 |none=>
  rw[e]at h;refine zd ?_;simpa[j,p]using h
theorem Wg(x:AY):Ms x x=false:=by
 cases x with
 |inl a=>simp[Ms]
 |inr a=>simp[Ms]
theorem O4{x y z:AY}(h:Ms x y=true)(h':Ms y z=true):Ms x z=true:=by
 cases x<;>cases y<;>cases z<;>simp only[Ms,ZA,zS,reduceCtorEq]at h h' ⊢
 ·omega
 ·exact List.lt_trans h h'
theorem Wh{x y:AY}(h:Ms x y=false)(h':Ms y x=false):x=y:=by
 cases x<;>cases y<;>simp only[Ms,Qr,Bool.true_eq_false,reduceCtorEq]at h h'
 ·congr 1;omega
 ·rename_i a b;have:=e9 (as:=a.cps.toList) (bs:=b.cps.toList) h' h;cases a;cases b;simp only at this;rw[cJ.mp this]
theorem zZ:∀xs:Y AY,g8 xs xs=false
 |[]=>rfl
 |x::xs=>by simp only[g8,QU];exact zZ xs
theorem lH:∀{xs ys zs:Y AY},g8 xs ys=true->g8 ys zs=true->g8 xs zs=true
 |[],[],_,h,_=>by cases h
 |[],_::_,[],_,h'=>by cases h'
 |[],_::_,_::_,_,_=>rfl
 |_::_,[],_,h,_=>by cases h
 |_::_,_::_,[],_,h'=>by cases h'
 |x::xs,y::ys,z::zs,h,h'=>by
  simp only[g8]at h h' ⊢;by_cases e1:x=y
  ·subst e1;rw[zh rfl]at h;by_cases e2:x=z
   ·subst e2;rw[zh rfl]at h' ⊢;exact lH h h'
   ·rw[zr e2]at h' ⊢;exact h'
  ·rw[zr e1]at h;by_cases e2:y=z
   ·subst e2;rw[zr e1];exact h
   ·rw[zr e2]at h';have:=O4 h h';rw[zr (λe=>by subst e;rw[Wg]at this;cases this)];exact this
theorem uX:∀{xs ys:Y AY},g8 xs ys=false->g8 ys xs=false->xs=ys
 |[],[],_,_=>rfl
 |[],_::_,h,_=>by cases h
 |_::_,[],_,h'=>by cases h'
 |x::xs,y::ys,h,h'=>by
  simp only[g8]at h h';by_cases e:x=y
  ·subst e;rw[zh rfl]at h h';rw[uX h h']
  ·rw[zr e]at h;rw[zr (kC e)]at h';exact absurd (Wh h h') e
def m9(xs ys:Y AY):Bool:=!g8 ys xs
theorem lJ(a b c:Y AY)(h:m9 a b=true)(h':m9 b c=true):m9 a c=true:=by
 unfold m9 at *
 simp only[qA]at *
 cases f:g8 c a with
 |false=>rfl
 |true=>
  cases d:g8 a b with
  |true=>rw[lH f d]at h';cases h'
  |false=>
   have e:=uX d h;subst e;rw[f]at h';cases h'
theorem lK(a b:Y AY):(m9 a b||m9 b a)=true:=by
 unfold m9;cases h:g8 b a with
 |false=>rfl
 |true=>
  cases h':g8 a b with
  |false=>rfl
  |true=>have:=lH h h';rw[zZ]at this;cases this
theorem qX{a b:Y AY}(h:m9 a b=true)(h':m9 b a=true):a=b:=by
 unfold m9 at *
 simp only[qA]at *
 exact uX h' h
theorem qK{α:Type}{le:α->α->Prop}(d:∀a b,le a b->le b a->a=b):∀{l c:Y α},l.Perm c->l.Pairwise le->c.Pairwise le->l=c
 |[],c,h,_,_=>by rw[List.nil_perm.mp h]
 |a::l,[],h,_,_=>by cases List.perm_nil.mp h
 |a::l,b::c,h,p,p'=>by
  have e:a=b:=by
   have f:a∈b::c:=h.mem_iff.mp (zt ..);have g:b∈a::l:=h.mem_iff.mpr (zt ..);rcases List.mem_cons.mp f with h1|h1
   ·exact h1
   ·rcases List.mem_cons.mp g with h2|h2
    ·exact h2.symm
    ·exact d a b (JA p h2) (JA p' h1)
  subst e;rw[qK d ((dv a).mp h) (am.mp p).2 (am.mp p').2]
def tK(bZ:Y (Y AY)):Y (Y AY):=bZ.mergeSort m9
theorem xP(bZ:Y (Y AY)):(tK bZ).Perm bZ:=QR ..
theorem Ig(bZ:Y (Y AY)):(tK bZ).Pairwise (λa b=>m9 a b=true):=jn lJ lK bZ
theorem Dc{out:Y (Y AY)}(hp:out.Perm bZ)(hs:out.Pairwise (λa b=>m9 a b=true)):out=tK bZ:=qK (λ_ _=>qX) (hp.trans (xP bZ).symm) hs (Ig bZ)
def C4(bZ:Y (Y AY))(k:Y AY):Nat:=bZ.countP λu=>g8 u k
theorem Dd{α:Type}{p q:α->Bool}:∀{l:Y α},(∀x∈l,p x=true->q x=true)->(∃x∈l,p x=false/\q x=true)->l.countP p<l.countP q
 |[],_,⟨x,hx,_⟩=>by cases hx
 |a::l,h,⟨x,hx,h1,h2⟩=>by
  have le:l.countP p<=l.countP q:=dy λy b=>h y (zo _ b);rw[ft,ft];rcases List.mem_cons.mp hx with rfl|hx
  ·rw[h1,h2];simp;omega
  ·have:=Dd (λy b=>h y (zo _ b)) ⟨x,hx,h1,h2⟩;have c:=h a (zt ..);cases hp:p a with
   |true=>rw[c hp];simp;omega
   |false=>simp;omega
theorem yL{a b:Y AY}(e:a∈bZ):decide (C4 bZ a<C4 bZ b)=g8 a b:=by
 cases h:g8 a b with
 |true=>
  refine z5 (Dd (λu _ c=>lH c h) ⟨a,e,zZ a,h⟩)
 |false=>
  refine zI (dQ.mpr (dy λu _ c=>?_));cases d:g8 b a with
  |true=>exact lH c d
  |false=>rw[uX h d];exact c
def lY(h:A6)(ks:Y AY)(v:A0):Prop:=∃(a:A1) (o:AE) (AQ:Y A0) (n:Nat),v=.ref a/\h.get? a=Z o/\o.cls=.type "tuple" ∧ o.data=.seq AQ.toArray n/\Ks ks AQ
theorem lY.keep{h':A6}{ks:Y AY}{v:A0}(q:lY h ks v)(k:∀c o,h.get? c=Z o->h'.get? c=Z o):lY h' ks v:=by
 obtain⟨a,o,AQ,n,e,g,c,d,p⟩:=q;exact⟨a,o,AQ,n,e,k _ _ g,c,d,p⟩
theorem Wi{k l:AY}{v:A0}(h:jW k v=true)(h':jW l v=true):k=l:=by
 rcases bT h with⟨i,t,rfl,rfl⟩|⟨x,t,rfl,rfl⟩
 ·rcases bT h' with⟨j,u,rfl,e⟩|⟨y,u,rfl,e⟩
  ·cases e;rfl
  ·cases e
 ·rcases bT h' with⟨j,u,rfl,e⟩|⟨y,u,rfl,e⟩
  ·cases e
  ·cases e;rfl
theorem Ks.inj:∀{ks a:Y AY} {AQ:Y A0},Ks ks AQ->Ks a AQ->ks=a
 |_,_,[],h,h'=>by cases h;cases h';rfl
 |_,_,v::AQ,h,h'=>by
  cases h with
  |cons p t=>cases h' with
   |cons p' t'=>rw[Wi p p',Ks.inj t t']
theorem lY.inj{h:A6}{ks b:Y AY}{v:A0}(q:lY h ks v)(k:lY h b v):ks=b:=by
 obtain⟨a,o,AQ,n,rfl,g,c,d,p⟩:=q;obtain⟨l,o',j,m,e,f,c',i,p'⟩:=k;cases e;rw[g]at f;cases f;rw[d]at i;injection i with e1 e2;have e3:AQ=j:=by simpa using congrArg eA e1
 subst e3;exact p.inj p'
theorem Mu{f:α->Sem β}:∀(xs:Y α) (ys:Y β) (Q:Y β->A2->Prop),AI (λx y=>∀(c:BF) (a:β->A2->Prop),a y s->A7 (A8 prog w) A (f x) a c s) xs ys->Q ys s->A7 (A8 prog w) A (xs.mapM f) Q E s:=by
 intro xs
 induction xs with
 |nil=>intro ys Q p h;cases p;rw[List.mapM_nil];exact zd h
 |cons x xs b=>
  intro ys Q p q;cases p with
  |cons h t=>
   rw[List.mapM_cons];exact zb (h _ _ (zb (b _ _ t (zd q))))
theorem RB(v:A0):firstOfTuple' v=(do
  if(<-typeOf v) != .type "tuple" then return O
  return (<-Builtin.List.listItems v)[0]?):=rfl
theorem O5{k:AY}{ks:Y AY}{v:A0}(q:lY s.heap (k::ks) v):∃u,jW k u=true/\∀(e:BF) (b:S A0->A2->Prop),b (Z u) s->A7 (A8 prog w) A (firstOfTuple' v) b e s:=by
 obtain⟨a,o,AQ,n,rfl,g,c,d,p⟩:=q;cases p with
 |@cons _ u _ AQ hp t=>
  refine⟨u,hp,λe b h=>?_⟩;rw[RB];refine zb (Q2 (T :="tuple") ⟨o,g,c⟩ ?_);rw[zr ()];exact zb (listItems_at g d (zd h))
theorem RD{k:AY}(h:jW k u=true)(b:BF)(a:BF)(q:a (.type (if k.isLeft then "int" else "str")) s):A7 (A8 prog w) A (typeOf u) a b s:=by
 rcases bT h with⟨i,t,rfl,rfl⟩|⟨x,t,rfl,rfl⟩
 ·exact Q2 (typeIs_int s i t) q
 ·exact Q2 (typeIs_str s x t) q
theorem Dg{vs:Y A0}{Q:SortKind->A2->Prop}(i:AI (lY s.heap) bZ vs)(g:∀k∈bZ,k≠[])(y:∀k∈bZ,∀l∈bZ,Wf k l)(h2:1<=vs.length)(h:Q (tuples' true) s):A7 (A8 prog w) A (keyKind' vs.toArray) Q E s:=by
 have step:∀(bZ:Y (Y AY)) (vs:Y A0),AI (lY s.heap) bZ vs->(∀k∈bZ,k≠[])->∃us:Y A0,AI (λv u=>∀(c:BF) (a:S A0->A2->Prop),a (Z u) s->A7 (A8 prog w) A (firstOfTuple' v) a c s) vs us/\AI (λ(k:Y AY) u=>∃x r,k=x::r/\jW x u=true) bZ us:=by
  intro bZ vs i
  induction i with
  |nil=>intro _;exact⟨[],.nil,.nil⟩
  |@cons k v bZ vs q t d=>
   intro g;obtain⟨us,p1,p2⟩:=d λk hk=>g k (zo _ hk);cases k with
   |nil=>exact absurd Y3 (g _ (zt ..))
   |cons x r=>
    obtain⟨u,f,D⟩:=O5 (prog:=prog) (w:=w) (A:=A) q;exact⟨u::us,.cons D p1,.cons ⟨x,r,rfl,f⟩ p2⟩
 obtain⟨us,p1,p2⟩:=step bZ vs i g;have F:us.length=vs.length:=(Paired.length p1).symm;have o:∀{l:Y A0} {n:Y A0},AI (λv u=>∀(c:BF) (a:S A0->A2->Prop),a (Z u) s->A7 (A8 prog w) A (firstOfTuple' v) a c s) l n->AI (λv u=>∀(c:BF) (a:S A0->A2->Prop),a u s->A7 (A8 prog w) A (firstOfTuple' v) a c s) l (n.map Z):=λh=>by
  induction h with
  |nil=>exact .nil
  |cons q t d=>exact .cons q d
 rw[keyKind'_eq,eP,map_eq_pure_bind];refine zb (zb (Mu vs (us.map Z) _ (o p1) (zd ?_)));have z:(us.map Z).toArray.all (·.isSome)=true:=by simp
 rw[zh z];refine zb (QI ?_);have p:(us.map Z).toArray.filterMap id=us.toArray:=by simp
 rw[p,oneTypeOnly'_eq,eP,map_eq_pure_bind];have ty:∀(bZ:Y (Y AY)) (us:Y A0),AI (λ(k:Y AY) u=>∃x r,k=x::r/\jW x u=true) bZ us->∃ts:Y A0,AI (λu t=>∀(c:BF) (a:BF),a t s->A7 (A8 prog w) A (typeOf u) a c s) us ts/\AI (λ(k:Y AY) t=>∃x r,k=x::r/\t=.type (if x.isLeft then "int" else "str")) bZ ts:=by
  intro bZ us hp
  induction hp with
  |nil=>exact⟨[],.nil,.nil⟩
  |@cons k u bZ us q t d=>
   obtain⟨ts,q1,q2⟩:=d;obtain⟨x,r,rfl,hx⟩:=q;exact⟨_::ts,.cons (λc a h=>RD hx c a h) q1,.cons ⟨x,r,rfl,rfl⟩ q2⟩
 obtain⟨ts,q1,q2⟩:=ty bZ us p2;refine zb (zb (zb (Mu us ts _ q1 (zd ?_))));have lt:ts.length=vs.length:=by rw[<-Paired.length q1,F]
 cases q2 with
 |nil=>simp at lt;omega
 |@cons I H J j B G=>
  obtain⟨b,r,rfl,rfl⟩:=B;have same:∀t∈j,t=Value.type (if b.isLeft then "int" else "str"):=by
   have C:∀(bZ:Y (Y AY)) (ts:Y A0),AI (λ(k:Y AY) t=>∃x r,k=x::r/\t=Value.type (if x.isLeft then "int" else "str")) bZ ts->(∀k∈bZ,Wf (b::r) k)->∀t∈ts,t=Value.type (if b.isLeft then "int" else "str"):=by
    intro bZ ts hp
    induction hp with
    |nil=>intro _ t e;cases e
    |@cons k t bZ ts q _ d=>
     intro m u f;rcases List.mem_cons.mp f with rfl|f
     ·obtain⟨x,K,rfl,rfl⟩:=q;have:=(m _ (zt ..)).1;cases b<;>cases x<;>first|rfl|cases this
     ·exact d (λk hk=>m k (zo _ hk)) u f
   exact C _ _ G λk hk=>y _ (zt ..) k (zo _ hk)
  have e0:(Value.type (if b.isLeft then "int" else "str")::j).toArray[0]?=Z (Value.type (if b.isLeft then "int" else "str")):=by simp
  have e1:((Value.type (if b.isLeft then "int" else "str")::j).toArray.all λx=>x==Value.type (if b.isLeft then "int" else "str"))=true:=by
   simp only[List.all_toArray,qk];intro t e;rcases List.mem_cons.mp e with rfl|e
   ·simp
   ·rw[same t e];simp
  rw[e0];simp only[e1,QU];refine zd (zd ?_);have e2:((Z (Value.type (if b.isLeft then "int" else "str"))).any λx=>x !=Value.type "tuple")=true:=by
   cases b with
   |inl _=>exact(by decide:((Z (Value.type "int")).any λx=>x !=Value.type "tuple")=true)
   |inr _=>exact(by decide:((Z (Value.type "str")).any λx=>x !=Value.type "tuple")=true)
  rw[e2];exact h
def BO(bZ:Y (Y AY))(vs:Y A0)(v:A0):Y AY:=match (vs.zip bZ).find? (λp=>p.1==v)with
 |some p=>p.2
 |none=>[]
theorem jE{h:A6}:∀{bZ:Y (Y AY)} {vs:Y A0},AI (lY h) bZ vs->∀v∈vs,BO bZ vs v∈bZ/\lY h (BO bZ vs v) v
 |_,_,.nil,v,hv=>by cases hv
 |k::bZ,u::vs,.cons q t,v,hv=>by
  unfold BO;rw[Q1,jv];by_cases e:u=v
  ·subst e;simp only[beq_self_eq_true];exact⟨zt ..,q⟩
  ·have e':(u==v)=false:=by simpa using e
   simp only[e'];have b:v∈vs:=by
    rcases List.mem_cons.mp hv with h|h
    ·exact absurd h.symm e
    ·exact h
   have a:=jE t v b;exact⟨zo _ a.1,a.2⟩
theorem qL{h:A6}:∀{bZ:Y (Y AY)} {vs:Y A0},AI (lY h) bZ vs->∀(K:A0->Y AY),(∀v∈vs,lY h (K v) v)->vs.map K=bZ
 |_,_,.nil,_,_=>rfl
 |k::bZ,v::vs,.cons q t,K,hK=>by
  rw[zv,(hK v (zt ..)).inj q,qL t K λu a=>hK u (zo _ a)]
theorem z6{h:A6}:∀{vs:Y A0} {K:A0->Y AY},(∀v∈vs,lY h (K v) v)->AI (lY h) (vs.map K) vs
 |[],_,_=>.nil
 |v::vs,K,hK=>.cons (hK v (zt ..)) (z6 λu a=>hK u (zo _ a))
theorem Ih{vs:Y A0}(f:AI (lY s.heap) bZ vs)(j:∀k∈bZ,∀l∈bZ,Wf k l):Fp prog w A s (tuples' true) (λv=>C4 bZ (BO bZ vs v)) (pairsOf vs):=by
 intro E p q Q hp b h;rw[pairsOf_toList]at hp b;obtain⟨i,t1⟩:=jE f p.1 (mem_zip_self hp).2;obtain⟨m2,t2⟩:=jE f q.1 (mem_zip_self b).2;rw[yL i]at h;have u:=j _ i _ m2;obtain⟨a,o,AQ,n,e,g,c,d,k⟩:=t1;obtain⟨z,o',y,B,e',m,c',x,t⟩:=t2;rw[e,e'];exact NR g d m x k t u h
theorem RG{vs:Y A0}(a:AI (lY h) bZ vs){xs:Array Keyed}(hp:xs.Perm (pairsOf vs))(k:Up (λv=>C4 bZ (BO bZ vs v)) xs (pairsOf vs).size):AI (lY h) (tK bZ) (xs.map (·.2)).toList:=by
 have c:xs.toList.Perm (vs.zip vs):=by rw[<-pairsOf_toList];exact aw.mp hp
 have b:∀p∈xs.toList,p.1=p.2/\p.1∈vs:=λp q=>mem_zip_self (c.mem_iff.mp q);have e:(xs.map (·.2)).toList=xs.toList.map (·.1):=by
  rw[cK];exact KP λp q=>(b p q).1.symm
 have pv:(xs.toList.map (·.1)).Perm vs:=by
  have:=c.map Prod.fst;rwa [fz (zl _)]at this
 have f:tK bZ=(xs.toList.map (·.1)).map (BO bZ vs):=by
  refine(Dc ?_ ?_).symm
  ·have:=pv.map (BO bZ vs);rwa [qL a _ λv q=>(jE a v q).2]at this
  ·rw[az];intro i j hi l g;have m:i<xs.size:=by simpa using hi
   have d:j<xs.size:=by simpa using l
   have u:=k i j (qo g) (by rw[<-hp.size_eq];exact d);unfold at_ at u;rw[getElem?_pos xs i m,getElem?_pos xs j d]at u;have m2:=(jE a xs[j].1 (b xs[j] (by simp)).2).1;simp only[ka,kA];unfold m9;rw[<-yL m2,zI (dQ.mpr u)];rfl
 rw[f,e];refine z6 λv q=>(jE a v ?_).2;exact pv.mem_iff.mp q
end S1
namespace P1
open L2 S1
theorem z7{o:AE}{T:String}{vs:Y A0}{Q:Y A0->A2->Prop}(d:s.heap.get? l=Z o)(b:o.cls=.type T)(a:T ="list" ∨ T ="tuple")(hd:o.data=.seq vs.toArray n)(g:vs.length<=AA)(h:∀h' tk,s.heap.objs.size<=h'.objs.size->(∀c o,s.heap.get? c=Z o->h'.get? c=Z o)->Q vs { s with heap:=h',toks:=tk }):A7 (A8 prog w) A (collect (.ref l)) Q E s:=by
 unfold collect;refine zb (wpAny_runValue (codeAny_builtin entry_proto_collect' ?_));show A7 _ _ (newList [] >>= λq=>again (.builtin "list.__iadd__" ⟨[q,.ref l],[]⟩)) _ _ s;refine zb (yo (zd ⟨Code.quiet_builtin _ (by decide +kernel),codeAny_builtin entry_list_iadd' ?_⟩));show A7 _ _ (Builtin.List.listExtendWith (.ref s.heap.objs.size) (.ref l) (.ref s.heap.objs.size)) _ _ _;unfold Builtin.List.listExtendWith;have g1:(s.heap.push (seqObj "list" #[] 0)).get? l=Z o:=ze _ d;refine zb (Q2 (T:=T) ⟨o,g1,b⟩ ?_);have f:(Value.type T==Value.type "list" || Value.type T==Value.type "tuple")=true:=by rcases a with rfl|rfl<;>decide
 rw[zh (by rw[Bool.or_assoc,f];simp)];refine zb (listItems_at g1 hd (zb (listItems_at (xs:=#[]) (n:=0) (zz _ Y3) Y3 ?_)));rw[zr (by simp)];have g2:(s.heap.push (seqObj "list" #[] 0)).get? s.heap.objs.size=Z (seqObj "list" #[] 0):=zz _ rfl;refine zb (listUpdate_at (xs:=#[]) (n:=0) g2 Y3 (zd ?_) (qi _) (by show(#[]++vs.toArray).size<=AA+1;simp only[ko,zk,dk];omega));show A7 (A8 prog w) A (load s.heap.objs.size >>= _) Q E _;refine zb (wpAny_load (get?_update_seq g2 _) ?_);show A7 _ _ (pure ((#[]:Array A0)++vs.toArray).toList) Q E _;rw[show((#[]:Array A0)++vs.toArray).toList=vs by simp];refine zd (h _ s.toks ?_ λc i e=>?_)
 ·rw[fm,size_push'];exact Kt _
 ·rw[ey _ _ _ _ (z4 (zw e))];exact ze _ e
def F2:Dt->S AY
 |.int i=>Z (.inl i)
 |.str x=>Z (.inr x)
 |_=>O
def Dh:Y Dt->S (Y AY)
 |[]=>Z []
 |d::ds=>(F2 d).bind λk=>(Dh ds).bind λks=>Z (k::ks)
def Di:Dt->S (Y AY)
 |.tup ds=>Dh ds
 |_=>O
def tL:Y Dt->S (Y (Y AY))
 |[]=>Z []
 |d::ds=>(Di d).bind λk=>(tL ds).bind λks=>Z (k::ks)
def dK:AY->Dt
 |.inl i=>.int i
 |.inr x=>.str x
def BV(ks:Y AY):Dt:=.tup (ks.map dK)
theorem Wj{k:AY}(h:F2 d=Z k):d=dK k:=by
 cases d<;>cases h<;>rfl
theorem Ii:∀{ds:Y Dt} {ks:Y AY},Dh ds=Z ks->ds=ks.map dK
 |[],_,h=>by cases h;rfl
 |d::ds,_,h=>by
  obtain⟨k,e1,h⟩:=AT h;obtain⟨ks,e2,h⟩:=AT h;cases h;rw[zv,Wj e1,Ii e2]
theorem Ij{ks:Y AY}(h:Di d=Z ks):d=BV ks:=by
 cases d with
 |tup ds=>exact congrArg Dt.tup (Ii h)
 |_=>cases h
theorem qY:∀{ds:Y Dt} {bZ:Y (Y AY)},tL ds=Z bZ->ds=bZ.map BV
 |[],_,h=>by cases h;rfl
 |d::ds,_,h=>by
  obtain⟨k,e1,h⟩:=AT h;obtain⟨ks,e2,h⟩:=AT h;cases h;rw[zv,Ij e1,qY e2]
theorem Wk{k:AY}{v:V}(h:AW K H (dK k) v):v=kV k:=by
 cases k with
 |inl i=>exact(show v=.int i by simpa only[dK,AW]using h)
 |inr x=>exact(show v=.str x/\x.length<=AA by simpa only[dK,AW]using h).1
theorem Dj{K:B6}{H:Hp}:∀{ks:Y AY} {vs:Y V},aF K H (ks.map dK) vs->vs=ks.map kV
 |[],_,h=>by simp only[Q3,aF]at h;exact h
 |k::ks,_,h=>by
  simp only[zv,aF]at h;obtain⟨v,r,rfl,h1,h2⟩:=h;rw[Wk h1,Dj h2,zv]
theorem Iy(X:Cx){ks:Y AY}:∀{us:Y A0},AX (ks.map kV) us->Ks ks us:=by
 induction ks with
 |nil=>intro us h;cases h;exact .nil
 |cons k ks a=>
  intro us h;cases h with
  |cons r t=>exact .cons (Ly (P:=X.prog) (w:=X.w) r) (a t)
theorem yM{AN:Y (A1×AE)}{σ:L2.St}{H:Hp}{s:A2}(I:AU X AN σ H s):∀{bZ:Y (Y AY)} {vs:Y V} {AQ:Y A0},aF X.K H (bZ.map BV) vs->AX vs AQ->AI (lY s.heap) bZ AQ
 |[],_,_,h,r=>by
  simp only[Q3,aF]at h;subst h;cases r;exact .nil
 |k::bZ,_,_,h,r=>by
  simp only[zv,aF]at h;obtain⟨v,vs,rfl,h1,h2⟩:=h;cases r with
  |cons f i=>
   refine .cons ?_ (yM I h2 i);simp only[BV,AW]at h1;obtain⟨a,j,rfl,sq,e⟩:=h1;obtain⟨AQ,b,⟨o,g,c,n,d⟩,_⟩:=I.tuple sq;cases f;rw[Dj e]at b;exact⟨a,o,AQ,n,rfl,g,c,d,Iy X b⟩
theorem Dk{AN:Y (A1×AE)}{σ:L2.St}{H:Hp}{s:A2}(I:AU X AN σ H s){bZ:Y (Y AY)}{vs:Y V}{AQ:Y A0}(h:aF X.K H (bZ.map BV) vs)(r:AX vs AQ):∀{c:Y (Y AY)} {out:Y A0},AI (lY s.heap) c out->(∀u∈out,u∈AQ)->∃zs,AX zs out/\aF X.K H (c.map BV) zs
 |_,_,.nil,_=>⟨[],.nil,aF.nil⟩
 |l::c,u::out,.cons q t,hm=>by
  obtain⟨zs,z1,z2⟩:=Dk I h r t λx hx=>hm x (zo _ hx);have g:∀(bZ:Y (Y AY)) (vs:Y V) (AQ:Y A0),aF X.K H (bZ.map BV) vs->AX vs AQ->u∈AQ->∃v,At v u/\AW X.K H (BV l) v:=by
   intro bZ
   induction bZ with
   |nil=>
    intro vs AQ h r a;simp only[Q3,aF]at h;subst h;cases r;cases a
   |cons k bZ d=>
    intro vs AQ h r a;simp only[zv,aF]at h;obtain⟨v,vs,rfl,h1,h2⟩:=h;cases r with
    |@cons _ j _ _ b i=>
     rcases List.mem_cons.mp a with rfl|a
     ·have e:k=l:=by
       have:=yM I (bZ:=[k]) (vs:=[v]) (AQ:=[u]) (by simp only[zv,Q3];exact aF.cons h1 aF.nil) (.cons b .nil);cases this with
       |cons f _=>exact f.inj q
      subst e;exact⟨v,b,h1⟩
     ·exact d vs _ h2 i a
  obtain⟨v,b,h1⟩:=g bZ vs AQ h r (hm u (zt ..));exact⟨v::zs,.cons b z1,by rw[zv];exact aF.cons h1 z2⟩
def Ik(k l:Y AY):Bool:=((k.zip l).all λp=>Mt p.1 p.2)
theorem z8:∀{k l:Y AY},Ik k l=true->Wf k l
 |[],_,_=>by simp[Wf]
 |_::_,[],_=>by simp[Wf]
 |x::k,y::l,h=>by
  unfold Ik at h;rw[Q1,eg,ZH]at h;exact⟨h.1,z8 h.2⟩
theorem yN{v:V}(h:aW K H b v)(e:qG b=Z ds):∃a vs,v=.ref a/\(nF K H a vs\/qj K H a vs)/\aF K H ds vs:=by
 cases b with
 |z d=>
  cases d<;>first|(cases e;done)|skip
  ·cases e;simp only[aW,AW]at h;obtain⟨a,vs,e,q,r⟩:=h;exact⟨a,vs,e,.inr q,r⟩
  ·cases e;simp only[aW,AW]at h;obtain⟨a,vs,e,q,r⟩:=h;exact⟨a,vs,e,.inl q.sq,r⟩
 |l c=>cases e;obtain⟨a,vs,e,q,r⟩:=h;exact⟨a,vs,e,.inl (.inl q),r⟩
 |o c=>cases e;obtain⟨a,vs,e,q,r⟩:=h;exact⟨a,vs,e,.inl (.inl (.inl q)),r⟩
 |n _=>cases e
 |m _ _=>cases e
end P1
namespace S6
def Mn(xs:Array Nat):Prop:=∀i j,i<j->j<xs.size->xs.getD i 0<xs.getD j 0
def It(h:A6)(it a:A1)(first:A0)(i n ep:Nat):Prop:=∃o,h.get? it=Z o/\o.cls=.type "set_iterator" ∧ o.data=.fields #[first,.int (i:Int) 0,.ref a,.int (n:Int) 0,.int (ep:Int) 0]
section
variable{ep:Nat}{es:Array (Int×A0)}{t:SetTable}
end
end S6
namespace S6
open P1
section
variable{ep:Nat}{es:Array (Int×A0)}{t:SetTable}
end
section
variable{R:Result->A2->Prop}{I:A1}{wr:Y A1}{P:Nat->A0->Prop}{St:Nat->A2->Prop}{C:A6->Y κ->Prop}{val:Nat->κ}
end
end S6
namespace S6
open PySem
structure Tb (t:SetTable):Prop where
 mask:t.mask=7\/t.mask=31\/t.mask=127
 dum:t.dummies=#[]
 rise:Mn t.place
 bd:∀j:Nat,j∈t.place->j<=t.mask
 full:t.place.size<=t.mask
def MC(a:Nat)(p:SetTable.Probe):SetTable.Probe:=
 if p.more>0 then { p with j:=p.j+1,more:=p.more-1 }else
 { p with j:=(aS a p.i p.perturb).1,more:=fR a (aS a p.i p.perturb).1-(aS a p.i p.perturb).1,i:=(aS a p.i p.perturb).1,perturb:=(aS a p.i p.perturb).2 }
def L4(a i perturb:Nat):SetTable.Probe:={ j:=i,more:=fR a i-i,i,perturb,dummy:=O }
def FE(a:Nat)(h:Int):Nat->SetTable.Probe
 |0=>L4 a (ck h%(a+1)) (ck h)
 |n+1=>MC a (FE a h n)
def nx(M i:Nat):Nat:=(i*5+1)%M
def lp(a:Nat)(h:Int):Nat->Nat×Nat
 |0=>(ck h%(a+1),ck h)
 |l+1=>aS a (lp a h l).1 (lp a h l).2
structure Tok (t:SetTable) (es:Array (Int×Value)):Prop extends Tb t where
 size:t.place.size=es.size
 reach:∀(i j:Nat) e,t.place[i]?=some j->es[i]?=some e->∃n,n<10*SetTable.turns t.mask/\(FE t.mask e.1 n).j=j/\∀m,m<n->(FE t.mask e.1 m).j∈t.place
theorem Fi{α β:Type}{f:α->S β}{g:α->β}:∀{xs:Y α},(∀x∈xs,f x=Z (g x))->xs.filterMap f=xs.map g
 |[],_=>rfl
 |x::xs,h=>by
  rw[kH,h x (zt ..),zv,Fi λy a=>h y (zo _ a)]
end S6
namespace S6
open P1 L2
abbrev MS(prog:A3)(w:A4)(ks:Y AY):Int:=tupleKeyHash (d8 prog w) ks
def TE(prog:A3)(w:A4)(h:A6)(z:Y AY×A1)(e:Int×A0):Prop:=e=(MS prog w z.1,.ref z.2)/\IsTupleKey (d8 prog w) h z.1 z.2
end S6
namespace S1
open L2
end S1
namespace S6
end S6
namespace S1
def EC:Bool->Keyed->Array Keyed->Nat->Nat->Nat->StateT SortSt Sem (S Nat):=sortPriv% PySem.Builtin.gallop
def GM:Array Keyed->Array Keyed->StateT SortSt Sem (Array Keyed):=sortPriv% PySem.Builtin.mergeLo
def GE:Array Keyed->Array Keyed->StateT SortSt Sem (Array Keyed):=sortPriv% PySem.Builtin.mergeHi
def B0:Nat->StateT SortSt Sem Unit:=sortPriv% PySem.Builtin.setMinGallop
section
variable{b:Array Keyed}
theorem Il{p q:Keyed}{st:SortSt}{Q:S Bool->SortSt->Prop}(c:Fp prog w A s kd rk b)(hk:kindOf st=kd)(d:p∈b.toList)(a:q∈b.toList)(h:Q (Z (decide (rk p.1<rk q.1))) st):wpS (A8 prog w) A E s (lt' p q) Q st:=by
 rw[lt'_eq];refine AL (wpS_get ?_);rw[hk];exact AL (wpS_lift (wpAny_attempt (c _ p q _ d a ⟨rfl,wpS_pure h⟩)))
theorem uY{xs:Array Keyed}{st:SortSt}{Q:Keyed->SortSt->Prop}{p:Keyed}(e:xs[i]?=Z p)(h:Q p st):wpS (A8 prog w) A E s (elem' xs i) Q st:=by
 rw[elem'_eq,e];exact wpS_pure h
theorem Mv{lo hi:Nat}{P:Nat->Prop}[DecidablePred P]{st:SortSt}{f:Nat->S β×Nat×Nat->StateT SortSt Sem (ForInStep (S β×Nat×Nat))}{Q:S β×Nat×Nat->SortSt->Prop}(mono:∀i j,i<=j->j<n->P j->P i)(l:∀x lo hi,lo<=hi->hi<=n->∀a:ForInStep (S β×Nat×Nat)->SortSt->Prop,(lo>=hi->a (.done (O,lo,hi)) st)->(lo<hi->P (lo+(hi-lo) / 2)->a (.yield (O,lo+(hi-lo) / 2+1,hi)) st)->(lo<hi->¬ P (lo+(hi-lo) / 2)->a (.yield (O,lo,lo+(hi-lo) / 2)) st)->wpS (A8 prog w) A E s (f x (O,lo,hi)) a st)(h1:lo<=hi)(h2:hi<=n)(g:∀i,i<lo->P i)(o:∀i,hi<=i->i<n->¬ P i)(h:∀k,k<=n->(∀i,i<k->P i)->(∀i,k<=i->i<n->¬ P i)->Q (O,k,k) st):wpS (A8 prog w) A E s (forIn [0:n] (O,lo,hi) f) Q st:=by
 refine wpS_forRange (I:=λx c t=>t=st/\∃lo hi,c=(O,lo,hi)/\lo<=hi/\hi<=n/\hi-lo<=n-x/\(∀i,i<lo->P i)/\∀i,hi<=i->i<n->¬ P i) ?_ ?_ ⟨rfl,lo,hi,rfl,h1,h2,by omega,g,o⟩
 ·rintro x c t _ hx ⟨rfl,lo,hi,rfl,a1,a2,m,d,b⟩;refine l x lo hi a1 a2 _ (λu=>?_) (λlt p=>?_) λlt p=>?_
  ·have e:hi=lo:=by omega
   subst e;exact h hi a2 d b
  ·exact⟨rfl,_,_,rfl,by omega,a2,by omega,λi q=>mono i _ () () p,b⟩
  ·exact⟨rfl,_,_,rfl,by omega,by omega,by omega,d,λi q1 q2 z=>p (mono _ i q1 q2 z)⟩
 ·rintro c t ⟨rfl,lo,hi,rfl,a1,a2,m,d,b⟩;have e:hi=lo:=by omega
  subst e;exact h hi a2 d b
theorem RJ{left:Bool}{d:Keyed}{xs:Array Keyed}{base a:Nat}{st:SortSt}{Q:S Nat->SortSt->Prop}(D:Fp prog w A s kd rk b)(hk:kindOf st=kd)(mk:d∈b.toList)(L:∀i,i<n->∃p,xs[base+i]?=Z p/\p∈b.toList)(H:a<n)(G:∀i j,i<=j->j<n->at_ rk xs (base+i)<=at_ rk xs (base+j))(h:∀k,k<=n->(∀i,i<k->if left=true then at_ rk xs (base+i)<rk d.1 else at_ rk xs (base+i)<=rk d.1)->(∀i,k<=i->i<n->if left=true then rk d.1<=at_ rk xs (base+i)else rk d.1<at_ rk xs (base+i))->Q (Z k) st):wpS (A8 prog w) A E s (EC left d xs base n a) Q st:=by
 let P:Nat->Prop:=λi=>if left=true then at_ rk xs (base+i)<rk d.1 else at_ rk xs (base+i)<=rk d.1
 have M:∀i,Decidable (P i):=λi=>by
  show Decidable (if left=true then _ else _);cases left
  ·exact Nat.decLe _ _
  ·exact Nat.decLt _ _
 have mono:∀i j,i<=j->j<n->P j->P i:=λi j F K p=>by
  have:=G i j F K;cases left
  ·have p:at_ rk xs (base+j)<=rk d.1:=p;show at_ rk xs (base+i)<=rk d.1;omega
  ·have p:at_ rk xs (base+j)<rk d.1:=p;show at_ rk xs (base+i)<rk d.1;omega
 have u:∀{i:Nat} {Q:S Bool->SortSt->Prop},i<n->Q (Z (decide (P i))) st->wpS (A8 prog w) A E s (do let x <-elem' xs (base+i);if left=true then lt' x d else do let z <-lt' d x;pure (z.map (!·))) Q st:=λ{i Q} hi hq=>by
  obtain⟨p,e,m⟩:=L i hi;have ea:at_ rk xs (base+i)=rk p.1:=by unfold at_;rw[e]
  refine AL (uY e ?_);cases left
  ·rw[zr ()];refine AL (Il D hk mk m (wpS_pure ?_));have:(Option.map (λx=>!x) (Z (decide (rk d.1<rk p.1))))=Z (decide (P i)):=by
    show Z (!decide _)=_;refine congrArg Z ?_;rw[<-decide_not];exact decide_eq_decide.mpr (by show _↔at_ rk xs (base+i)<=rk d.1;omega)
   rw[this];exact hq
  ·rw[zh rfl];refine Il D hk m mk ?_;have:decide (rk p.1<rk d.1)=decide (P i):=decide_eq_decide.mpr (by show _↔at_ rk xs (base+i)<rk d.1;rw[ea]);rw[this];exact hq
 have C:∀k,k<=n->(∀i,i<k->P i)->(∀i,k<=i->i<n->¬ P i)->Q (Z k) st:=λk y B v=>h k y B λi q1 q2=>by
  have:=v i q1 q2;cases left
  ·have this:¬ at_ rk xs (base+i)<=rk d.1:=this;show rk d.1<at_ rk xs (base+i);omega
  ·have this:¬ at_ rk xs (base+i)<rk d.1:=this;show rk d.1<=at_ rk xs (base+i);omega
 clear h;unfold EC;refine AL (u H ?_);dsimp only;by_cases p0:P a
 ·rw[z5 p0,zh rfl];refine AL (wpS_mono (wpS_forRange (I:=λx c t=>t=st/\∃l o,c=(O,l,o)/\x+1<=o/\l<o/\a+l<n/\P (a+l)) (Q:=λc t=>t=st/\∃l o,c=(O,l,o)/\a+l+1<=a+min o (n-a)/\a+min o (n-a)<=n/\(∀i,i<a+l+1->P i)/\∀i,a+min o (n-a)<=i->i<n->¬ P i) ?_ ?_ ⟨rfl,0,1,rfl,by omega,by omega,by omega,p0⟩) ?_)
  ·rintro x c t _ hx ⟨rfl,l,o,rfl,a1,a2,q,g⟩;dsimp only;by_cases f:o>=n-a
   ·rw[zh f];exact wpS_pure ⟨rfl,l,o,rfl,by omega,by omega,λi hi=>mono i _ () q g,λi q1 q2=>by omega⟩
   ·rw[zr f];refine AL (u () ?_);dsimp only;by_cases p:P (a+o)
    ·rw[z5 p,zr ()];exact wpS_pure ⟨rfl,o,2*o+1,rfl,by omega,by omega,by omega,p⟩
    ·rw[zI p,zh ()];exact wpS_pure ⟨rfl,l,o,rfl,by omega,by omega,λi hi=>mono i _ () q g,λi q1 q2 z=>p (mono _ i () q2 z)⟩
  ·rintro c t ⟨rfl,l,o,rfl,a1,a2,q,g⟩;exact⟨rfl,l,o,rfl,by omega,by omega,λi hi=>mono i _ () q g,λi q1 q2=>by omega⟩
  rintro c t ⟨rfl,l,o,rfl,a1,a2,q,g⟩;dsimp only;refine AL (Mv mono ?_ a1 a2 q g λk y B v=>wpS_pure (C k y B v));intro x lo hi b1 b2 J g1 g2 g3;dsimp only;by_cases f:lo>=hi
  ·rw[zh f];exact wpS_pure (g1 f)
  ·rw[zr f];refine AL (u () ?_);dsimp only;by_cases p:P (lo+(hi-lo) / 2)
   ·rw[z5 p,zh rfl];exact wpS_pure (g2 () p)
   ·rw[zI p,zr ()];exact wpS_pure (g3 () p)
 ·rw[zI p0,zr ()];refine AL (wpS_mono (wpS_forRange (I:=λx c t=>t=st/\∃l o,c=(O,l,o)/\x+1<=o/\l<o/\l<=a/\¬ P (a-l)) (Q:=λc t=>t=st/\∃l o,c=(O,l,o)/\a+1-min o (a+1)<=a-l/\a-l<=n/\(∀i,i<a+1-min o (a+1)->P i)/\∀i,a-l<=i->i<n->¬ P i) ?_ ?_ ⟨rfl,0,1,rfl,by omega,by omega,by omega,p0⟩) ?_)
  ·rintro x c t _ hx ⟨rfl,l,o,rfl,a1,a2,q,g⟩;dsimp only;by_cases f:o>=a+1
   ·rw[zh f];exact wpS_pure ⟨rfl,l,o,rfl,by omega,by omega,λi hi=>by omega,λi q1 q2 z=>g (mono _ i q1 q2 z)⟩
   ·rw[zr f];refine AL (u () ?_);dsimp only;by_cases p:P (a-o)
    ·rw[z5 p,zh rfl];exact wpS_pure ⟨rfl,l,o,rfl,by omega,by omega,λi hi=>mono i _ () () p,λi q1 q2 z=>g (mono _ i q1 q2 z)⟩
    ·rw[zI p,zr ()];exact wpS_pure ⟨rfl,o,2*o+1,rfl,by omega,by omega,by omega,p⟩
  ·rintro c t ⟨rfl,l,o,rfl,a1,a2,q,g⟩;exact⟨rfl,l,o,rfl,by omega,by omega,λi hi=>by omega,λi q1 q2 z=>g (mono _ i q1 q2 z)⟩
  rintro c t ⟨rfl,l,o,rfl,a1,a2,q,g⟩;dsimp only;refine AL (Mv mono ?_ a1 a2 q g λk y B v=>wpS_pure (C k y B v));intro x lo hi b1 b2 J g1 g2 g3;dsimp only;by_cases f:lo>=hi
  ·rw[zh f];exact wpS_pure (g1 f)
  ·rw[zr f];refine AL (u () ?_);dsimp only;by_cases p:P (lo+(hi-lo) / 2)
   ·rw[z5 p,zh rfl];exact wpS_pure (g2 () p)
   ·rw[zI p,zr ()];exact wpS_pure (g3 () p)
end
section
variable(le:Keyed->Keyed->Prop)
structure Mg (W out xs ys:List Keyed):Prop where
 pm:(out++xs++ys).Perm W
 so:out.Pairwise le
 lo:∀x∈out,∀y∈xs++ys,le x y
 sx:xs.Pairwise le
 sy:ys.Pairwise le
variable{le}{W out xs ys:Y Keyed}
theorem Mg.RK{x:Keyed}(h:Mg le W out (x::xs) ys)(l:∀y∈ys,le x y):Mg le W (out++[x]) xs ys:=by
 have e:=am.mp h.sx;refine⟨by have:=h.pm;simpa using this,ai.mpr ⟨h.so,df ..,λa d c b=>?_⟩,λa d c b=>?_,e.2,h.sy⟩
 ·rw[af.mp b];exact h.lo a d x (by simp)
 ·rcases ah.mp d with q|q
  ·exact h.lo a q c (by simp at b ⊢;rcases b with z|z<;>simp[z])
  ·rw[af.mp q];rcases ah.mp b with z|z
   ·exact e.1 c z
   ·exact l c z
theorem Mg.RM{y:Keyed}(h:Mg le W out xs (y::ys))(l:∀x∈xs,le y x):Mg le W (out++[y]) xs ys:=by
 have e:=am.mp h.sy;refine⟨List.Perm.trans ?_ h.pm,ai.mpr ⟨h.so,df ..,λa d c b=>?_⟩,λa d c b=>?_,h.sx,e.2⟩
 ·rw[ZE,ZE,ZE];refine List.Perm.append_left _ ?_;show(y::(xs++ys)).Perm (xs++y::ys);exact fA.symm
 ·rw[af.mp b];exact h.lo a d y (by simp)
 ·rcases ah.mp d with q|q
  ·exact h.lo a q c (by simp at b ⊢;rcases b with z|z<;>simp[z])
  ·rw[af.mp q];rcases ah.mp b with z|z
   ·exact l c z
   ·exact e.1 c z
theorem Mg.Fq:∀{zs out:Y Keyed},Mg le W out (zs++xs) ys->(∀z∈zs,∀y∈ys,le z y)->Mg le W (out++zs) xs ys
 |[],out,h,_=>by rw[qa];exact h
 |z::zs,out,h,l=>by
  have:=Mg.Fq (h.RK (xs:=zs++xs) (l z (by simp))) λa b=>l a (by simp[b]);rwa [ZE]at this
theorem Mg.Ft:∀{zs out:Y Keyed},Mg le W out xs (zs++ys)->(∀z∈zs,∀x∈xs,le z x)->Mg le W (out++zs) xs ys
 |[],out,h,_=>by rw[qa];exact h
 |z::zs,out,h,l=>by
  have:=Mg.Ft (h.RM (ys:=zs++ys) (l z (by simp))) λa b=>l a (by simp[b]);rwa [ZE]at this
theorem Mg.aar(h:Mg le W out xs []):(out++xs).Perm W/\(out++xs).Pairwise le:=
 ⟨by have:=h.pm;simpa using this,ai.mpr ⟨h.so,h.sx,λa d c b=>h.lo a d c (by simpa using b)⟩⟩
theorem Mg.aas(h:Mg le W out [] ys):(out++ys).Perm W/\(out++ys).Pairwise le:=
 ⟨by have:=h.pm;simpa using this,ai.mpr ⟨h.so,h.sy,λa d c b=>h.lo a d c (by simpa using b)⟩⟩
theorem Mg.acS(h:Mg le W out xs ys)(l:∀y∈ys,∀x∈xs,le y x):(out++ys++xs).Perm W/\(out++ys++xs).Pairwise le:=by
 have h2:Mg le W (out++ys) xs []:=Mg.Ft (zs:=ys) (ys:=[]) (by rw[qa];exact h) l;exact h2.aar
end
abbrev Sm(st t:SortSt):Prop:=kindOf t=kindOf st/\failedOf t=failedOf st/\AM t=AM st/\pendingOf t=pendingOf st
theorem nO{x:Array Keyed}(h:z∈x.toList.drop i):∃j,i<=j/\∃h:j<x.size,x[j]=z:=by
 obtain⟨n,a,e⟩:=Qb h;rw[JP]at e;rw[QY]at a;exact⟨i+n,by omega,by simp at a;omega,e⟩
theorem z9(x:Array Keyed)(i k:Nat):(x.extract i (i+k)).toList=(x.toList.drop i).take k:=by
 rw[ky,JE,dg]
theorem qZ(x:Array Keyed)(i:Nat):(x.extract i).toList=x.toList.drop i:=by
 rw[ky,JE,ZY (by simp)]
theorem Mw{x:Array Keyed}(h:z∈(x.extract i (i+k)).toList):∃j,i<=j/\j<i+k/\∃h:j<x.size,x[j]=z:=by
 rw[z9]at h;obtain⟨n,a,e⟩:=Qb h;rw[JO,JP]at e;rw[ZZ,QY]at a;exact⟨i+n,by omega,by omega,by simp at a;omega,e⟩
theorem Bz{x:Array Keyed}(h:i<x.size):x.toList.drop i=x[i]::x.toList.drop (i+1):=yb (by simpa using h)
theorem Im(x:Array Keyed)(i k:Nat):x.toList.drop i=(x.extract i (i+k)).toList++x.toList.drop (i+k):=by
 rw[z9,<-List.drop_drop,qc]
theorem xQ{x:Array Keyed}(h:i<x.size):at_ rk x i=rk x[i].1:=by unfold at_;rw[getElem?_pos x i h]
section
variable{b:Array Keyed}
abbrev Le(rk:A0->Nat):Keyed->Keyed->Prop:=λp q=>rk p.1<=rk q.1
abbrev Rt(rk:A0->Nat)(W:Y Keyed)(r:Array Keyed):Prop:=r.toList.Perm W/\r.toList.Pairwise (Le rk)
theorem sE{x:Array Keyed}(h:x.toList.Pairwise (Le rk))(b:i<=j)(a:j<x.size):rk x[i].1<=rk x[j].1:=by
 by_cases e:i=j
 ·subst e;exact zl _
 ·have:=az.mp h i j (by simp;omega) (by simpa using a) ();simpa using this
section
variable{W:Y Keyed}{x y:Array Keyed}
abbrev Mo(rk:A0->Nat)(W:Y Keyed)(x y out:Array Keyed)(i j:Nat):Prop:=Mg (Le rk) W out.toList (x.toList.drop i) (y.toList.drop j)
theorem Mo.pX(h:Mo rk W x y out i j)(hi:i<x.size)(l:∀k (q:k<y.size),j<=k->rk x[i].1<=rk y[k].1):Mo rk W x y (out.push x[i]) (i+1) j:=by
 unfold Mo at *
 rw[Bz hi]at h;rw[kU];exact h.RK λz b=>by
  obtain⟨k,a,c,rfl⟩:=nO b;exact l k c a
theorem Mo.pY(h:Mo rk W x y out i j)(a:j<y.size)(l:∀k (q:k<x.size),i<=k->rk y[j].1<=rk x[k].1):Mo rk W x y (out.push y[j]) i (j+1):=by
 unfold Mo at *
 rw[Bz a]at h;rw[kU];exact h.RM λz c=>by
  obtain⟨k,b,d,rfl⟩:=nO c;exact l k d b
theorem Mo.pXs(h:Mo rk W x y out i j)(l:∀a (p:a<x.size),i<=a->a<i+n->∀k (q:k<y.size),j<=k->rk x[a].1<=rk y[k].1):Mo rk W x y (out++x.extract i (i+n)) (i+n) j:=by
 unfold Mo at *
 rw[Im x i n]at h;rw[Zl];exact h.Fq λz b c d=>by
  obtain⟨a,a1,a2,e,rfl⟩:=Mw b;obtain⟨k,f,g,rfl⟩:=nO d;exact l a e a1 a2 k g f
theorem Mo.pYs(h:Mo rk W x y out i j)(l:∀a (p:a<y.size),j<=a->a<j+n->∀k (q:k<x.size),i<=k->rk y[a].1<=rk x[k].1):Mo rk W x y (out++y.extract j (j+n)) i (j+n):=by
 unfold Mo at *
 rw[Im y j n]at h;rw[Zl];exact h.Ft λz b c d=>by
  obtain⟨a,a1,a2,e,rfl⟩:=Mw b;obtain⟨k,f,g,rfl⟩:=nO d;exact l a e a1 a2 k g f
theorem Mo.uZ(h:Mo rk W x y out i j)(e:(j==y.size)=true):Rt rk W (out++x.extract i++y.extract j):=by
 have e:j=y.size:=by simpa using e
 have a:y.toList.drop j=[]:=kX (by simp;omega);unfold Mo at h;rw[a]at h;unfold Rt;rw[Zl,Zl,qZ,qZ,a,qa];exact h.aar
theorem Mo.RN(h:Mo rk W x y out i j)(e:(i==x.size)=true):Rt rk W (out++x.extract i++y.extract j):=by
 have e:i=x.size:=by simpa using e
 have a:x.toList.drop i=[]:=kX (by simp;omega);unfold Mo at h;rw[a]at h;unfold Rt;rw[Zl,Zl,qZ,qZ,a,qa];exact h.aas
theorem Mo.last(h:Mo rk W x y out i j)(e:(i+1==x.size)=true)(l:∀k (q:k<y.size) (z:x.size-1<x.size),rk y[k].1<=rk x[x.size-1].1):Rt rk W (out++y.extract j++x.extract i):=by
 have e:i+1=x.size:=by simpa using e
 unfold Rt;rw[Zl,Zl,qZ,qZ];refine Mg.acS h λc b z d=>?_;obtain⟨k,g,f,rfl⟩:=nO b;obtain⟨a,a1,a2,rfl⟩:=nO d;have:a=x.size-1:=by omega
 subst this;exact l k f a2
theorem Fv{g:Nat}{Q:Unit->SortSt->Prop}(h:∀t',Sm t t'->Q ⟨⟩ t'):wpS (A8 prog w) A E s (B0 g) Q t:=by
 unfold B0;exact wpS_modify (h _ ⟨rfl,rfl,rfl,rfl⟩)
theorem Sm.tr{u v:SortSt}(h:Sm t u)(h':Sm u v):Sm t v:=⟨h'.1.trans h.1,h'.2.1.trans h.2.1,h'.2.2.1.trans h.2.2.1,h'.2.2.2.trans h.2.2.2⟩
theorem yO{left:Bool}{d:Keyed}{z:Array Keyed}{e:Nat}{Q:S Nat->SortSt->Prop}(l:Fp prog w A s kd rk b)(hk:kindOf t=kd)(mk:d∈b.toList)(g:∀p∈z.toList,p∈b.toList)(sz:z.toList.Pairwise (Le rk))(v:i+n<=z.size)(j:e<n)(h:∀k,k<=n->(∀a (q:a<z.size),i<=a->a<i+k->if left=true then rk z[a].1<rk d.1 else rk z[a].1<=rk d.1)->(∀a (q:a<z.size),i+k<=a->a<i+n->if left=true then rk d.1<=rk z[a].1 else rk d.1<rk z[a].1)->Q (Z k) t):wpS (A8 prog w) A E s (EC left d z i n e) Q t:=by
 refine RJ (rk:=rk) l hk mk (λa u=>⟨z[i+a]'(),getElem?_pos z _ (),g _ (by simp)⟩) j (λa c y x=>?_) λk m o f=>h k m (λa q q1 q2=>?_) λa q q1 q2=>?_
 ·rw[xQ (show i+a<z.size by omega),xQ (show i+c<z.size by omega)];exact sE sz () _
 ·have:=o (a-i) ();rw[show i+(a-i)=a by omega,xQ q]at this;exact this
 ·have:=f (a-i) () ();rw[show i+(a-i)=a by omega,xQ q]at this;exact this
theorem Ic{st:SortSt}{Q:Array Keyed->SortSt->Prop}(J:Fp prog w A s kd rk b)(hk:kindOf st=kd)(mx:∀p∈x.toList,p∈b.toList)(my:∀p∈y.toList,p∈b.toList)(F:x.toList.Pairwise (Le rk))(H:y.toList.Pairwise (Le rk))(hx:0<x.size)(hy:0<y.size)
  (first:∀k (q:k<x.size),rk y[0].1<=rk x[k].1) (last:∀k (q:k<y.size) (z:x.size-1<x.size),rk y[k].1<=rk x[x.size-1].1)
  (h:∀r t,Sm st t->Rt rk (x.toList++y.toList) r->Q r t):wpS (A8 prog w) A E s (GM x y) Q st:=by
 have ex:∀{i:Nat} {t:SortSt} {Q:Keyed->SortSt->Prop} (hi:i<x.size),Q x[i] t->wpS (A8 prog w) A E s (elem' x i) Q t:=λhi U=>uY (getElem?_pos x _ hi) U;have D:∀{i:Nat} {t:SortSt} {Q:Keyed->SortSt->Prop} (hi:i<y.size),Q y[i] t->wpS (A8 prog w) A E s (elem' y i) Q t:=λhi U=>uY (getElem?_pos y _ hi) U;have a3:∀{i:Nat} (hi:i<x.size),x[i]∈b.toList:=λhi=>mx _ (by simp);have a2:∀{i:Nat} (hi:i<y.size),y[i]∈b.toList:=λhi=>my _ (by simp);have a6:∀r t,Sm st t->Rt rk (x.toList++y.toList) r->Q r t:=h;unfold GM;refine AL (wpS_lift (QI ⟨rfl,?_⟩));dsimp only;refine AL (D hy ?_);have M0:Mo rk (x.toList++y.toList) x y #[] 0 0:=⟨by simp,by simp,λa C=>(by cases C),F,H⟩;have M1:=M0.pY hy λk q _=>first k q;rw[show(#[]:Array Keyed).push y[0]=#[y[0]] from rfl]at M1;by_cases c1:(1==y.size)=true
 ·rw[zh c1];exact wpS_pure (h _ _ ⟨rfl,rfl,rfl,rfl⟩ (M1.uZ c1))
 rw[zr c1];by_cases c2:(0+1==x.size)=true
 ·rw[zh c2];exact wpS_pure (h _ _ ⟨rfl,rfl,rfl,rfl⟩ (M1.last c2 last))
 rw[zr c2];have n1:1<y.size:=by
  have:¬ 1=y.size:=by simpa using c1
  omega
 have n2:0+1<x.size:=by
  have:¬ 0+1=x.size:=by simpa using c2
  omega
 refine AL (wpS_get ?_);refine AL (wpS_mono (wpS_forRange (I:=λn c t=>Sm st t/\∃out i j g,c=(O,out,i,j,g)/\Mo rk (x.toList++y.toList) x y out i j/\i+1<x.size/\j<y.size/\n+1<=i+j) (Q:=λc t=>Sm st t/\∃r c',c=(Z r,c')/\Rt rk (x.toList++y.toList) r) ?_ ?_ ⟨⟨rfl,rfl,rfl,rfl⟩,_,0,1,_,rfl,M1,n2,n1,by omega⟩) ?_)
 ·rintro n c t _ hn ⟨S,out,i,j,g,rfl,M,hi,l,m⟩;dsimp only;refine AL (wpS_mono (wpS_forRange (I:=λn c t=>Sm st t/\∃out i' f p q,c=(O,out,i',f,p,q)/\Mo rk (x.toList++y.toList) x y out i' f/\i'+1<x.size/\f<y.size/\i+j+n<=i'+f)
   (Q:=λc t=>Sm st t/\((∃r c',c=(Z r,c')/\Rt rk (x.toList++y.toList) r)\/∃out i' f p q,c=(O,out,i',f,p,q)/\Mo rk (x.toList++y.toList) x y out i' f/\i'+1<x.size/\f<y.size/\i+j+1<=i'+f)) ?_ ?_ ⟨S,_,i,j,0,0,rfl,M,hi,l,by omega⟩) ?_)
  ·rintro n' c t _ a5 ⟨S,out,i',f,p,q,rfl,M,hi,l,B⟩;dsimp only;refine AL (D l (AL (ex (cq hi) (AL (Il J (S.1.trans hk) (a2 l) (a3 _) ?_)))));dsimp only;by_cases c:rk y[f].1<rk x[i'].1
   ·rw[z5 c,zh rfl];refine AL (D l ?_);have v:=M.pY l λk z hk=>zi (qo c) (sE F hk z);by_cases d:(f+1==y.size)=true
    ·rw[zh d];exact wpS_pure ⟨S,.inl ⟨_,_,rfl,v.uZ d⟩⟩
    ·rw[zr d];have a0:f+1<y.size:=by
      have:¬ f+1=y.size:=by simpa using d
      omega
     split
     ·exact wpS_pure ⟨S,.inr ⟨_,_,_,_,_,rfl,v,hi,a0,by omega⟩⟩
     ·exact wpS_pure ⟨S,_,_,_,_,_,rfl,v,hi,a0,by omega⟩
   ·rw[zI c,zr ()];refine AL (ex (cq hi) ?_);have v:=M.pX (cq hi) λk z hk=>zi (cz c) (sE H hk z);by_cases d:(i'+1+1==x.size)=true
    ·rw[zh d];exact wpS_pure ⟨S,.inl ⟨_,_,rfl,v.last d last⟩⟩
    ·rw[zr d];have a1:i'+1+1<x.size:=by
      have:¬ i'+1+1=x.size:=by simpa using d
      omega
     split
     ·exact wpS_pure ⟨S,.inr ⟨_,_,_,_,_,rfl,v,a1,l,by omega⟩⟩
     ·exact wpS_pure ⟨S,_,_,_,_,_,rfl,v,a1,l,by omega⟩
  ·rintro c t ⟨S,out,i',f,p,q,rfl,M,hi,l,B⟩;exact⟨S,.inr ⟨_,_,_,_,_,rfl,M,hi,l,by omega⟩⟩
  rintro c t ⟨S,⟨r,c',rfl,R⟩|⟨out,i',f,p,q,rfl,M,hi,l,B⟩⟩
  ·exact wpS_pure ⟨S,r,_,rfl,R⟩
  dsimp only;refine AL (wpS_lift (QI ⟨rfl,?_⟩));refine AL (wpS_mono (wpS_forRange (I:=λn c t=>Sm st t/\∃out i' f g p q,c=(O,out,i',f,g,p,q)/\Mo rk (x.toList++y.toList) x y out i' f/\i'+1<x.size/\f<y.size/\i+j+1<=i'+f)
   (Q:=λc t=>Sm st t/\((∃r c',c=(Z r,c')/\Rt rk (x.toList++y.toList) r)\/∃out i' f g p q,c=(O,out,i',f,g,p,q)/\Mo rk (x.toList++y.toList) x y out i' f/\i'+1<x.size/\f<y.size/\i+j+1<=i'+f)) ?_ ?_ ⟨S,_,i',f,_,p,q,rfl,M,hi,l,B⟩) ?_)
  ·rintro n' c t _ a5 ⟨S,out,i',f,g,p,q,rfl,M,hi,l,B⟩;dsimp only;by_cases gz:g>1
   all_goals first
    |rw[zh gz]
    |rw[zr gz]
   all_goals
    refine AL (Fv λt' o=>?_)
    replace o:=Sm.tr S o
    refine AL (D l (AL (yO (rk:=rk) J (o.1.trans hk) (a2 l) mx F () () λk k1 k2 K=>?_)));simp only[zS,qV]at k2 K;dsimp only;by_cases kz:k>0
    case' pos=>
     rw[zh kz];have M1:=M.pXs (n:=k) λa p q1 q2 c z L=>zi (k2 a p q1 q2) (sE H L z);by_cases d:(i'+k+1==x.size)=true
     ·rw[zh d];exact wpS_pure ⟨o,.inl ⟨_,_,rfl,M1.last d last⟩⟩
     rw[zr d];by_cases e:(i'+k==x.size)=true
     ·rw[zh e];exact wpS_pure ⟨o,.inl ⟨_,_,rfl,M1.RN e⟩⟩
     rw[zr e];have a8:i'+k+1<x.size:=by
      have:¬ i'+k+1=x.size:=by simpa using d
      have:¬ i'+k=x.size:=by simpa using e
      omega
     have l1:∀a (q:a<x.size),i'+k<=a->rk y[f].1<rk x[a].1:=λa q q1=>K a q q1 ();have m1:i+j+1<=i'+k+f:=by omega
     generalize out++x.extract i' (i'+k)=o1 at *
     generalize i'+k=i1 at *
    case' neg=>
     rw[zr kz];have M1:=M;have a8:=hi;have m1:=B;have l1:∀a (q:a<x.size),i'<=a->rk y[f].1<rk x[a].1:=λa q q1=>K a q () ();generalize out=o1 at *
     generalize i'=i1 at *
    all_goals
     refine AL (D l ?_);have M2:=M1.pY l λa z C=>qo (l1 a z C);by_cases d:(f+1==y.size)=true
     ·rw[zh d];exact wpS_pure ⟨o,.inl ⟨_,_,rfl,M2.uZ d⟩⟩
     rw[zr d];have a7:f+1<y.size:=by
      have:¬ f+1=y.size:=by simpa using d
      omega
     have G:i1<x.size:=by omega
     refine AL (ex G (AL (yO (rk:=rk) J (o.1.trans hk) (a3 G) my H () () λu u1 u2 N=>?_)));simp only[QU]at u2 N;dsimp only;by_cases uz:u>0
     case' pos=>
      rw[zh uz];have X:=M2.pYs (n:=u) λa p q1 q2 c z L=>zi (qo (u2 a p q1 q2)) (sE F L z);by_cases d:(f+1+u==y.size)=true
      ·rw[zh d];exact wpS_pure ⟨o,.inl ⟨_,_,rfl,X.uZ d⟩⟩
      rw[zr d];have W:f+1+u<y.size:=by
       have:¬ f+1+u=y.size:=by simpa using d
       omega
      have l3:∀a (q:a<y.size),f+1+u<=a->rk x[i1].1<=rk y[a].1:=λa q q1=>N a q q1 ();have m3:i+j+1<=i1+(f+1+u):=by omega
      generalize o1.push y[f]++y.extract (f+1) (f+1+u)=o3 at *
      generalize f+1+u=j3 at *
     case' neg=>
      rw[zr uz];have X:=M2;have W:=a7;have l3:∀a (q:a<y.size),f+1<=a->rk x[i1].1<=rk y[a].1:=λa q q1=>N a q () ();have m3:i+j+1<=i1+(f+1):=by omega
      generalize o1.push y[f]=o3 at *
      generalize f+1=j3 at *
     all_goals
      refine AL (ex G ?_);have P:=X.pX G λa z C=>l3 a z C;by_cases d:(i1+1+1==x.size)=true
      ·rw[zh d];exact wpS_pure ⟨o,.inl ⟨_,_,rfl,P.last d last⟩⟩
      rw[zr d];have a4:i1+1+1<x.size:=by
       have:¬ i1+1+1=x.size:=by simpa using d
       omega
      split
      ·exact wpS_pure ⟨o,.inr ⟨_,_,_,_,_,_,rfl,P,a4,W,by omega⟩⟩
      ·exact wpS_pure ⟨o,_,_,_,_,_,_,rfl,P,a4,W,by omega⟩
  ·rintro c t z;exact⟨z.1,.inr z.2⟩
  rintro c t ⟨S,⟨r,c',rfl,R⟩|⟨out,i',f,g,p,q,rfl,M,hi,l,B⟩⟩
  ·exact wpS_pure ⟨S,r,_,rfl,R⟩
  dsimp only;refine AL (wpS_modify (wpS_pure ⟨S,_,_,_,_,rfl,M,hi,l,by omega⟩))
 ·rintro c t ⟨S,out,i,j,g,rfl,M,hi,l,m⟩;omega
 ·rintro c t ⟨S,r,c',rfl,R⟩;exact wpS_pure (a6 r t S R)
end
end
theorem Mg.acW{le:Keyed->Keyed->Prop}{W out xs ys:Y Keyed}(h:Mg le W out xs ys)(l:∀x∈xs,∀y∈ys,le x y):(out++xs++ys).Perm W/\(out++xs++ys).Pairwise le:=by
 have h2:Mg le W (out++xs) [] ys:=Mg.Fq (zs:=xs) (xs:=[]) (by rw[qa];exact h) l;exact h2.aas
theorem nQ{x:Array Keyed}(h:z∈(x.toList.take i).reverse):∃j,j<i/\∃h:j<x.size,x[j]=z:=by
 obtain⟨n,a,e⟩:=Qb (cS.mp h);rw[JO]at e;rw[ZZ]at a;exact⟨n,by omega,by simp at a;omega,e⟩
theorem nR(x:Array Keyed)(i:Nat):(x.extract 0 i).toList=x.toList.take i:=by
 rw[ky,JE,Nat.sub_zero,List.drop_zero]
theorem Fw(x:Array Keyed){a:Nat}(h:a<=i):(x.extract a i).toList=(x.toList.take i).drop a:=by
 rw[ky,JE,List.drop_take]
theorem CB{x:Array Keyed}{a:Nat}(h:z∈(x.extract a i).toList):∃j,a<=j/\j<i/\∃h:j<x.size,x[j]=z:=by
 by_cases c:a<=i
 ·rw[Fw x c]at h;obtain⟨n,b,e⟩:=Qb h;rw[JP,JO]at e;rw[QY,ZZ]at b;exact⟨a+n,by omega,by omega,by simp at b;omega,e⟩
 ·rw[ky,JE,show i-a=0 by omega]at h;cases h
section
variable{b:Array Keyed}
abbrev Ge(rk:A0->Nat):Keyed->Keyed->Prop:=λp q=>rk q.1<=rk p.1
variable{W:Y Keyed}{x y:Array Keyed}
abbrev Mp(rk:A0->Nat)(W:Y Keyed)(x y out:Array Keyed)(i j:Nat):Prop:=Mg (Ge rk) W out.toList (x.toList.take i).reverse (y.toList.take j).reverse
theorem C0(a:0<i)(h:i-1<x.size):(x.toList.take i).reverse=x[i-1]::(x.toList.take (i-1)).reverse:=by
 have:=JU (l:=x.toList) (i:=i-1) (by simpa using h);rw[show i-1+1=i by omega]at this;rw[this,JY];rfl
theorem Mp.pX(h:Mp rk W x y out i j)(c:0<i)(hi:i-1<x.size)(l:∀k (q:k<y.size),k<j->rk y[k].1<=rk x[i-1].1):Mp rk W x y (out.push x[i-1]) (i-1) j:=by
 unfold Mp at *
 rw[C0 c hi]at h;rw[kU];exact h.RK λz a=>by
  obtain⟨k,b,d,rfl⟩:=nQ a;exact l k d b
theorem Mp.pY(h:Mp rk W x y out i j)(d:0<j)(e:j-1<y.size)(l:∀k (q:k<x.size),k<i->rk x[k].1<=rk y[j-1].1):Mp rk W x y (out.push y[j-1]) i (j-1):=by
 unfold Mp at *
 rw[C0 d e]at h;rw[kU];exact h.RM λz a=>by
  obtain⟨k,b,c,rfl⟩:=nQ a;exact l k c b
theorem Io(x:Array Keyed){a:Nat}(h:a<=i):(x.toList.take i).reverse=(x.extract a i).toList.reverse++(x.toList.take a).reverse:=by
 rw[Fw x h,<-JY]
 conv=>lhs;rw[<-qc a (x.toList.take i)]
 rw[dz,bq h]
theorem Mp.pXs{a:Nat}(h:Mp rk W x y out i j)(b:a<=i)(l:∀c (p:c<x.size),a<=c->c<i->∀k (q:k<y.size),k<j->rk y[k].1<=rk x[c].1):Mp rk W x y (out++(x.extract a i).reverse) a j:=by
 unfold Mp at *
 rw[Io x b]at h;rw[Zl,ku];exact h.Fq λz e c f=>by
  obtain⟨d,a1,a2,g,rfl⟩:=CB (cS.mp e);obtain⟨k,m,n,rfl⟩:=nQ f;exact l d g a1 a2 k n m
theorem Mp.pYs{a:Nat}(h:Mp rk W x y out i j)(b:a<=j)(l:∀c (p:c<y.size),a<=c->c<j->∀k (q:k<x.size),k<i->rk x[k].1<=rk y[c].1):Mp rk W x y (out++(y.extract a j).reverse) i a:=by
 unfold Mp at *
 rw[Io y b]at h;rw[Zl,ku];exact h.Ft λz e c f=>by
  obtain⟨d,a1,a2,g,rfl⟩:=CB (cS.mp e);obtain⟨k,m,n,rfl⟩:=nQ f;exact l d g a1 a2 k n m
theorem Fy{l r:Y Keyed}(e:r=l.reverse)(h:l.Perm W/\l.Pairwise (Ge rk)):r.Perm W/\r.Pairwise (Le rk):=by
 subst e;exact⟨(yk _).trans h.1,bn.mpr h.2⟩
theorem Mp.uZ(h:Mp rk W x y out i j)(e:(i==0)=true):Rt rk W (x.extract 0 i++y.extract 0 j++out.reverse):=by
 have e:i=0:=by simpa using e
 subst e;refine Fy ?_ (Mg.aas h);rw[Zl,Zl,ku,nR,nR,JY,Kx];rfl
theorem Mp.RN(h:Mp rk W x y out i j)(e:(j==0)=true):Rt rk W (x.extract 0 i++y.extract 0 j++out.reverse):=by
 have e:j=0:=by simpa using e
 subst e;refine Fy ?_ (Mg.aar h);rw[Zl,Zl,ku,nR,nR,JY,Kx,dA,qa]
theorem Mp.first(h:Mp rk W x y out i j)(e:(j==1)=true)(l:∀k (q:k<x.size) (z:0<y.size),rk y[0].1<=rk x[k].1):Rt rk W (y.extract 0 j++x.extract 0 i++out.reverse):=by
 have e:j=1:=by simpa using e
 subst e;refine Fy ?_ (Mg.acW h λc b z d=>?_)
 ·rw[Zl,Zl,ku,nR,nR,JY,JY,Kx,Kx,ZE]
 ·obtain⟨k,g,f,rfl⟩:=nQ b;obtain⟨a,a1,a2,rfl⟩:=nQ d;have:a=0:=by omega
  subst this;exact l k f a2
theorem HH{st:SortSt}{Q:Array Keyed->SortSt->Prop}(hC:Fp prog w A s kd rk b)(hk:kindOf st=kd)(mx:∀p∈x.toList,p∈b.toList)(my:∀p∈y.toList,p∈b.toList)(P:x.toList.Pairwise (Le rk))(sy:y.toList.Pairwise (Le rk))(hx:0<x.size)(hy:0<y.size)
  (first:∀k (q:k<x.size) (z:0<y.size),rk y[0].1<=rk x[k].1) (last:∀k (q:k<y.size) (z:x.size-1<x.size),rk y[k].1<=rk x[x.size-1].1)
  (h:∀r t,Sm st t->Rt rk (x.toList++y.toList) r->Q r t):wpS (A8 prog w) A E s (GE x y) Q st:=by
 have ex:∀{i:Nat} {t:SortSt} {Q:Keyed->SortSt->Prop} (hi:i<x.size),Q x[i] t->wpS (A8 prog w) A E s (elem' x i) Q t:=λhi hq=>uY (getElem?_pos x _ hi) hq;have W:∀{i:Nat} {t:SortSt} {Q:Keyed->SortSt->Prop} (hi:i<y.size),Q y[i] t->wpS (A8 prog w) A E s (elem' y i) Q t:=λhi hq=>uY (getElem?_pos y _ hi) hq;have a5:∀{i:Nat} (hi:i<x.size),x[i]∈b.toList:=λhi=>mx _ (by simp);have a4:∀{i:Nat} (hi:i<y.size),y[i]∈b.toList:=λhi=>my _ (by simp);unfold GE;refine AL (wpS_lift (QI ⟨rfl,?_⟩));dsimp only;have a1:x.size-1<x.size:=by omega
 refine AL (ex a1 ?_);have M0:Mp rk (x.toList++y.toList) x y #[] x.size y.size:=⟨by
  rw[ZY (by simp),ZY (by simp)];exact(yk _).append (yk _),by simp,λa J=>(by cases J),by rw[ZY (by simp)];exact bn.mpr P,by rw[ZY (by simp)];exact bn.mpr sy⟩
 have M1:=M0.pX hx a1 λk q _=>last k q a1;rw[show(#[]:Array Keyed).push x[x.size-1]=#[x[x.size-1]] from rfl]at M1;by_cases c1:(x.size-1==0)=true
 ·rw[zh c1];exact wpS_pure (h _ _ ⟨rfl,rfl,rfl,rfl⟩ (M1.uZ c1))
 rw[zr c1];by_cases c2:(y.size==1)=true
 ·rw[zh c2];exact wpS_pure (h _ _ ⟨rfl,rfl,rfl,rfl⟩ (M1.first c2 first))
 rw[zr c2];have n1:0<x.size-1:=by
  have:¬ x.size-1=0:=by simpa using c1
  omega
 have n2:1<y.size:=by
  have:¬ y.size=1:=by simpa using c2
  omega
 refine AL (wpS_get ?_);refine AL (wpS_mono (wpS_forRange (I:=λn c t=>Sm st t/\∃out i j g,c=(O,i,j,out,g)/\Mp rk (x.toList++y.toList) x y out i j/\0<i/\i<=x.size/\1<j/\j<=y.size/\i+j+n+1<=x.size+y.size) (Q:=λc t=>Sm st t/\∃r c',c=(Z r,c')/\Rt rk (x.toList++y.toList) r) ?_ ?_ ?_) ?_)
 ·rintro n c t _ hn ⟨S,out,i,j,g,rfl,M,hi,o,v,B,m⟩;dsimp only;refine AL (wpS_mono (wpS_forRange (I:=λn c t=>Sm st t/\∃out i' f p q,c=(O,i',f,out,p,q)/\Mp rk (x.toList++y.toList) x y out i' f/\0<i'/\i'<=x.size/\1<f/\f<=y.size/\i'+f+n<=i+j)
   (Q:=λc t=>Sm st t/\((∃r c',c=(Z r,c')/\Rt rk (x.toList++y.toList) r)\/∃out i' f p q,c=(O,i',f,out,p,q)/\Mp rk (x.toList++y.toList) x y out i' f/\0<i'/\i'<=x.size/\1<f/\f<=y.size/\i'+f+1<=i+j)) ?_ ?_ ⟨S,_,i,j,0,0,rfl,M,hi,o,v,B,by omega⟩) ?_)
  ·rintro n' c t _ a7 ⟨S,out,i',f,p,q,rfl,M,hi,o,v,B,G⟩;dsimp only;have C:i'-1<x.size:=by omega
   have D:f-1<y.size:=by omega
   refine AL (W D (AL (ex C (AL (Il hC (S.1.trans hk) (a4 D) (a5 C) ?_)))));dsimp only;by_cases c:rk y[f-1].1<rk x[i'-1].1
   ·rw[z5 c,zh rfl];refine AL (ex C ?_);have F:=M.pX hi C λk z hk=>zi (sE sy (show k<=f-1 by omega) D) (qo c);by_cases d:(i'-1==0)=true
    ·rw[zh d];exact wpS_pure ⟨S,.inl ⟨_,_,rfl,F.uZ d⟩⟩
    ·rw[zr d];have a3:0<i'-1:=by
      have:¬ i'-1=0:=by simpa using d
      omega
     split
     ·exact wpS_pure ⟨S,.inr ⟨_,_,_,_,_,rfl,F,a3,by omega,v,B,by omega⟩⟩
     ·exact wpS_pure ⟨S,_,_,_,_,_,rfl,F,a3,by omega,v,B,by omega⟩
   ·rw[zI c,zr ()];refine AL (W D ?_);have F:=M.pY () D λk z hk=>zi (sE P (show k<=i'-1 by omega) C) (cz c);by_cases d:(f-1==1)=true
    ·rw[zh d];exact wpS_pure ⟨S,.inl ⟨_,_,rfl,F.first d first⟩⟩
    ·rw[zr d];have a2:1<f-1:=by
      have:¬ f-1=1:=by simpa using d
      omega
     split
     ·exact wpS_pure ⟨S,.inr ⟨_,_,_,_,_,rfl,F,hi,o,a2,by omega,by omega⟩⟩
     ·exact wpS_pure ⟨S,_,_,_,_,_,rfl,F,hi,o,a2,by omega,by omega⟩
  ·rintro c t ⟨S,out,i',f,p,q,rfl,M,hi,o,v,B,G⟩;exact⟨S,.inr ⟨_,_,_,_,_,rfl,M,hi,o,v,B,by omega⟩⟩
  rintro c t ⟨S,⟨r,c',rfl,R⟩|⟨out,i',f,p,q,rfl,M,hi,o,v,B,G⟩⟩
  ·exact wpS_pure ⟨S,r,_,rfl,R⟩
  dsimp only;refine AL (wpS_lift (QI ⟨rfl,?_⟩));refine AL (wpS_mono (wpS_forRange (I:=λn c t=>Sm st t/\∃out i' f g p q,c=(O,i',f,out,g,p,q)/\Mp rk (x.toList++y.toList) x y out i' f/\0<i'/\i'<=x.size/\1<f/\f<=y.size/\i'+f+1<=i+j)
   (Q:=λc t=>Sm st t/\((∃r c',c=(Z r,c')/\Rt rk (x.toList++y.toList) r)\/∃out i' f g p q,c=(O,i',f,out,g,p,q)/\Mp rk (x.toList++y.toList) x y out i' f/\0<i'/\i'<=x.size/\1<f/\f<=y.size/\i'+f+1<=i+j)) ?_ ?_ ⟨S,_,i',f,_,p,q,rfl,M,hi,o,v,B,G⟩) ?_)
  ·rintro n' c t _ a7 ⟨S,out,i',f,g,p,q,rfl,M,hi,o,v,B,G⟩;dsimp only;by_cases gz:g>1
   all_goals first
    |rw[zh gz]
    |rw[zr gz]
   all_goals
    refine AL (Fv λt' l=>?_)
    replace l:=Sm.tr S l
    have D:f-1<y.size:=by omega
    refine AL (W D (AL (yO (rk:=rk) hC (l.1.trans hk) (a4 D) mx P () () λk k1 k2 k3=>?_)));simp only[zS,qV,kD]at k2 k3;dsimp only;by_cases kz:i'-k>0
    case' pos=>
     rw[zh kz];have M1:=M.pXs (a:=k) k1 λc p q1 q2 e z he=>zi (sE sy (show e<=f-1 by omega) D) (qo (k3 c p q1 q2));by_cases d:(k==0)=true
     ·rw[zh d];exact wpS_pure ⟨l,.inl ⟨_,_,rfl,M1.uZ d⟩⟩
     rw[zr d];have X:0<k:=by
      have:¬ k=0:=by simpa using d
      omega
     have a0:k<=x.size:=by omega
     have N:∀a (q:a<x.size),a<k->rk x[a].1<=rk y[f-1].1:=λa q q1=>k2 a q (qi _) q1;have m1:k+f+1<=i+j:=by omega
     generalize out++(x.extract k i').reverse=o1 at *
     generalize k=i1 at X a0 N m1 M1 ⊢
    case' neg=>
     rw[zr kz];have M1:=M;have X:=hi;have a0:=o;have m1:=G;have N:∀a (q:a<x.size),a<i'->rk x[a].1<=rk y[f-1].1:=λa q q1=>k2 a q (qi _) ();generalize out=o1 at *
     generalize i'=i1 at X a0 N m1 M1 ⊢
    all_goals
     refine AL (W D ?_);have M2:=M1.pY () D λa z J=>N a z J;by_cases d:(f-1==1)=true
     ·rw[zh d];exact wpS_pure ⟨l,.inl ⟨_,_,rfl,M2.first d first⟩⟩
     rw[zr d];have a8:1<f-1:=by
      have:¬ f-1=1:=by simpa using d
      omega
     have C:i1-1<x.size:=by omega
     refine AL (ex C (AL (yO (rk:=rk) hC (l.1.trans hk) (a5 C) my sy () () λu u1 u2 u3=>?_)));simp only[QU,kD]at u2 u3;dsimp only;by_cases uz:f-1-u>0
     case' pos=>
      rw[zh uz];have H:=M2.pYs (a:=u) u1 λc p q1 q2 e z he=>zi (sE P (show e<=i1-1 by omega) C) (u3 c p q1 q2);by_cases d:(u==1)=true
      ·rw[zh d];exact wpS_pure ⟨l,.inl ⟨_,_,rfl,H.first d first⟩⟩
      rw[zr d];by_cases e:(u==0)=true
      ·rw[zh e];exact wpS_pure ⟨l,.inl ⟨_,_,rfl,H.RN e⟩⟩
      rw[zr e];have K:1<u:=by
       have:¬ u=1:=by simpa using d
       have:¬ u=0:=by simpa using e
       omega
      have L:u<=y.size:=by omega
      have U:∀a (q:a<y.size),a<u->rk y[a].1<=rk x[i1-1].1:=λa q q1=>qo (u2 a q (qi _) q1);have m3:i1+u+1<=i+j:=by omega
      generalize o1.push y[f-1]++(y.extract u (f-1)).reverse=o3 at *
      generalize u=j3 at K L U m3 H ⊢
     case' neg=>
      rw[zr uz];have H:=M2;have K:=a8;have L:f-1<=y.size:=by omega
      have U:∀a (q:a<y.size),a<f-1->rk y[a].1<=rk x[i1-1].1:=λa q q1=>qo (u2 a q (qi _) ());have m3:i1+(f-1)+1<=i+j:=by omega
      generalize o1.push y[f-1]=o3 at *
      generalize f-1=j3 at K L U m3 H ⊢
     all_goals
      refine AL (ex C ?_);have M4:=H.pX X C λa z J=>U a z J;by_cases d:(i1-1==0)=true
      ·rw[zh d];exact wpS_pure ⟨l,.inl ⟨_,_,rfl,M4.uZ d⟩⟩
      rw[zr d];have a6:0<i1-1:=by
       have:¬ i1-1=0:=by simpa using d
       omega
      split
      ·exact wpS_pure ⟨l,.inr ⟨_,_,_,_,_,_,rfl,M4,a6,by omega,K,L,by omega⟩⟩
      ·exact wpS_pure ⟨l,_,_,_,_,_,_,rfl,M4,a6,by omega,K,L,by omega⟩
  ·rintro c t z;exact⟨z.1,.inr z.2⟩
  rintro c t ⟨S,⟨r,c',rfl,R⟩|⟨out,i',f,g,p,q,rfl,M,hi,o,v,B,G⟩⟩
  ·exact wpS_pure ⟨S,r,_,rfl,R⟩
  dsimp only;refine AL (Fv λt' l=>wpS_pure ⟨Sm.tr S l,_,_,_,_,rfl,M,hi,o,v,B,by omega⟩)
 ·rintro c t ⟨S,out,i,j,g,rfl,M,hi,o,v,B,m⟩;omega
 ·exact⟨⟨rfl,rfl,rfl,rfl⟩,_,x.size-1,y.size,_,rfl,M1,n1,by omega,n2,zl _,by omega⟩
 ·rintro c t ⟨S,r,c',rfl,R⟩;exact wpS_pure (h r t S R)
end
def ET:Nat->StateT SortSt Sem Bool:=sortPriv% PySem.Builtin.mergeAt
theorem Ip{f:Array Keyed->Keyed×Nat->Array Keyed}{d:Nat}(g:∀a p j,f a (p,j)=a.setIfInBounds (d+j) p):∀(M:Y Keyed) (a:Array Keyed) (b:Nat) (U c V:Y Keyed),a.toList=U++c++V->U.length=d+b->c.length=M.length->((M.zipIdx b).foldl f a).toList=U++M++V
 |[],a,b,U,c,V,e,_,h=>by
  have:c=[]:=ja h;subst this;exact e
 |p::M,a,b,U,[],V,_,_,h=>by cases h
 |p::M,a,b,U,z::c,V,e,hu,h=>by
  rw[fq,kg,g];have:=Ip g M (a.setIfInBounds (d+b) p) (b+1) (U++[p]) c V (by
   rw[Array.toList_setIfInBounds,e,<-hu,ZE,List.set_append_right _ _ (zl _),Nat.sub_self];simp) (by rw[zC,hu];rfl) (by simpa using h)
  rw[this];simp
section
variable{b:Array Keyed}
theorem Fz{g:Y Keyed}{V:Y Keyed}{a:Array Keyed}(e:a.toList=U++g++V)(hi:i<g.length):a[U.length+i]?=Z g[i]:=by
 rw[<-k9,e,ZE,QA (),dg,ZN hi,Zs hi]
theorem FJ{g:Y Keyed}{V:Y Keyed}{a:Array Keyed}(e:a.toList=U++g++V)(hi:i<g.length):at_ rk a (U.length+i)=rk g[i].1:=by unfold at_;rw[Fz e hi]
theorem RQ{g:Y Keyed}(h:g.Pairwise (Le rk))(b:i<=j)(a:j<g.length):rk g[i].1<=rk g[j].1:=by
 by_cases e:i=j
 ·subst e;exact zl _
 ·exact az.mp h i j () a ()
theorem Mx{left:Bool}{c:Keyed}{a:Array Keyed}{g V:Y Keyed}{base f:Nat}{Q:S Nat->SortSt->Prop}(x:Fp prog w A s kd rk b)(hk:kindOf t=kd)(mk:c∈b.toList)(B:∀p∈g,p∈b.toList)(e:a.toList=U++g++V)(o:base=U.length)(q:n=g.length)(u:g.Pairwise (Le rk))(v:f<n)(h:∀k,k<=g.length->(∀p∈g.take k,if left=true then rk p.1<rk c.1 else rk p.1<=rk c.1)->(∀p∈g.drop k,if left=true then rk c.1<=rk p.1 else rk c.1<rk p.1)->Q (Z k) t):wpS (A8 prog w) A E s (EC left c a base n f) Q t:=by
 subst o q;refine RJ (rk:=rk) x hk mk (λi hi=>⟨g[i],Fz e hi,B _ (by simp)⟩) v (λi j l d=>?_) λk y z m=>h k y (λp hp=>?_) λp hp=>?_
 ·rw[FJ e (show i<g.length by omega),FJ e d];exact RQ u l d
 ·obtain⟨i,hi,rfl⟩:=Qb hp;rw[ZZ]at hi;rw[JO];have:=z i ();rw[FJ e (show i<g.length by omega)]at this;exact this
 ·obtain⟨i,hi,rfl⟩:=Qb hp;rw[QY]at hi;rw[JP];have:=m (k+i) () ();rw[FJ e (show k+i<g.length by omega)]at this;exact this
theorem Wm{σ:Type}{t t':σ}{Q:PUnit->σ->Prop}(h:Q ⟨⟩ t'):wpS M A E s (set t':StateT σ Sem PUnit) Q t:=by
 unfold wpS;rw[StateT.run_set];exact zd ⟨rfl,h⟩
theorem IX{st:SortSt}{o B p l M q:Nat}{Q:Bool->SortSt->Prop}{g g' V:Y Keyed}(K:Fp prog w A s kd rk b)(hk:kindOf st=kd)(J:failedOf st=O)(hm:∀z∈(AM st).toList,z∈b.toList)(e:(AM st).toList=U++(g++g')++V)(p1:(pendingOf st)[i]?=Z (o,B,p))(p2:(pendingOf st)[i+1]?=Z (l,M,q))(ea:o=U.length)(en:B=g.length)(eb:l=o+B)(em:M=g'.length)(hg:g≠[])(a3:g'≠[])(F:g.Pairwise (Le rk))(D:g'.Pairwise (Le rk))(h:∀t m,kindOf t=kd->failedOf t=O->pendingOf t=((pendingOf st).setIfInBounds i (o,B+M,p)).eraseIdxIfInBounds (i+1)->m.Perm (g++g')->m.Pairwise (Le rk)->(AM t).toList=U++m++V->Q true t):wpS (A8 prog w) A E s (ET i) Q st:=by
 have hx:0<g.length:=aT.mpr hg;have v:0<g'.length:=aT.mpr a3;have e1:(AM st).toList=U++g++(g'++V):=by rw[e];simp
 have e2:(AM st).toList=(U++g)++g'++V:=by rw[e];simp
 have N:l=(U++g).length:=by rw[zC,eb,ea,en]
 have mg:∀z∈g,z∈b.toList:=λz C=>hm z (by rw[e];simp[C]);have W:∀z∈g',z∈b.toList:=λz C=>hm z (by rw[e];simp[C]);have g0:∀z∈g',rk g'[0].1<=rk z.1:=λz C=>by
  obtain⟨j,hj,rfl⟩:=Qb C;exact RQ D (qi _) hj
 have gl:∀z∈g,rk z.1<=rk (g[g.length-1]'()).1:=λz C=>by
  obtain⟨j,hj,rfl⟩:=Qb C;exact RQ F () ()
 unfold ET;refine AL (wpS_get ?_);rw[p1,p2];dsimp only;refine AL (Wm ?_);refine AL (uY (p:=g'[0]) (by rw[N];exact Fz e2 v) ?_);refine AL (Mx (rk:=rk) K hk (W _ (by simp)) mg e1 ea en F () λk k1 L k3=>?_);simp only[zS,qV]at L k3;dsimp only;by_cases c:(B-k==0)=true
 ·rw[zh c];have c:B-k=0:=by simpa using c
  rw[ZY ()]at L;exact wpS_pure (h _ (g++g') hk J Y3 (K0 _) (ai.mpr ⟨F,D,λx hx y v=>zi (L x hx) (g0 y v)⟩) e)
 rw[zr c];have c:¬ B-k=0:=by simpa using c
 have ix:o+k+(B-k)-1=U.length+(g.length-1):=by omega
 rw[ix];refine AL (uY (Fz e1 (show g.length-1<g.length by omega)) ?_);refine AL (Mx (rk:=rk) K hk (mg _ (by simp)) W e2 N em D () λn n1 n2 P=>?_);simp only[QU]at n2 P;dsimp only;by_cases d:(n==0)=true
 ·rw[zh d];have d:n=0:=by simpa using d
  subst d;exact wpS_pure (h _ (g++g') hk J Y3 (K0 _) (ai.mpr ⟨F,D,λx hx y v=>zi (gl x hx) (P y v)⟩) e)
 rw[zr d];have d:¬ n=0:=by simpa using d
 have ex:((AM st).extract (o+k) l).toList=g.drop k:=by
  rw[Fw _ (),e2,ZE,bv (),ZY (),ea,<-List.drop_drop,List.drop_left]
 have G:((AM st).extract l (l+n)).toList=g'.take n:=by
  rw[z9,e2,N,ZE,List.drop_left,bv n1]
 have zx:((AM st).extract (o+k) l).size=g.length-k:=by rw[<-ZI,ex,QY]
 have zy:((AM st).extract l (l+n)).size=n:=by rw[<-ZI,G,ZZ];omega
 have gx:∀{j:Nat} (q:j<((AM st).extract (o+k) l).size),((AM st).extract (o+k) l)[j]=g[k+j]'():=λ{j} q=>by
  rw[<-kA];simp only[ex,JP]
 have gy:∀{j:Nat} (q:j<((AM st).extract l (l+n)).size),((AM st).extract l (l+n))[j]=g'[j]'():=λ{j} q=>by
  rw[<-kA];simp only[G,JO]
 have first:∀j (q:j<((AM st).extract (o+k) l).size) (z:0<((AM st).extract l (l+n)).size),rk ((AM st).extract l (l+n))[0].1<=rk ((AM st).extract (o+k) l)[j].1:=λj q z=>by
  have m:((AM st).extract (o+k) l)[j]∈g.drop k:=by rw[<-ex];exact dS.mpr (eQ _)
  rw[gy];exact qo (k3 _ m)
 have last:∀j (q:j<((AM st).extract l (l+n)).size) (z:((AM st).extract (o+k) l).size-1<((AM st).extract (o+k) l).size),rk ((AM st).extract l (l+n))[j].1<=rk (((AM st).extract (o+k) l)[((AM st).extract (o+k) l).size-1]).1:=λj q z=>by
  have m:((AM st).extract l (l+n))[j]∈g'.take n:=by rw[<-G];exact dS.mpr (eQ _)
  rw[gx];have:k+(((AM st).extract (o+k) l).size-1)=g.length-1:=by omega
  simp only[this];exact qo (n2 _ m)
 have X:∀p∈((AM st).extract (o+k) l).toList,p∈b.toList:=λp hp=>mg p (by rw[ex]at hp;exact br hp);have my:∀p∈((AM st).extract l (l+n)).toList,p∈b.toList:=λp hp=>W p (by rw[G]at hp;exact dV hp);have sx:((AM st).extract (o+k) l).toList.Pairwise (Le rk):=by rw[ex];exact F.sublist (eR _ _)
 have sy:((AM st).extract l (l+n)).toList.Pairwise (Le rk):=by rw[G];exact D.sublist (yi _ _)
 have a0:∀(t:SortSt) (r:Array Keyed) (u:SortSt),Sm t u->kindOf t=kd->failedOf t=O->AM t=AM st->pendingOf t=((pendingOf st).setIfInBounds i (o,B+M,p)).eraseIdxIfInBounds (i+1)->Rt rk (((AM st).extract (o+k) l).toList++((AM st).extract l (l+n)).toList) r →
   ∀(f:Array Keyed->Keyed×Nat->Array Keyed),(∀a p j,f a (p,j)=a.setIfInBounds (o+k+j) p)->Q (failedOf u).isNone (SortSt.mk' (kindOf u) (r.toList.zipIdx.foldl f (AM u)) (pendingOf u) (gallopOf u) (failedOf u)):=λt r u S tk tf ta tp R f a4=>by
  rw[S.2.1,tf];rw[ex,G]at R;have hr:r.toList.length=(g.drop k++g'.take n).length:=R.1.length_eq;have fs:=Ip a4 r.toList (AM u) 0 (U++g.take k) (g.drop k++g'.take n) (g'.drop n++V) (by
   rw[S.2.2.1,ta,e]
   conv=>lhs;rw[<-qc k g,<-qc n g']
   simp only[ZE]) (by rw[zC,ZZ];omega) hr.symm
  refine h _ (g.take k++r.toList++g'.drop n) (S.1.trans tk) Y3 (S.2.2.2.trans tp) ?_ ?_ ?_
  ·refine(((R.1.append_left _).append_right _).trans (List.Perm.of_eq ?_))
   conv=>rhs;rw[<-qc k g,<-qc n g']
   simp only[ZE]
  ·have H:=F;have I:=D;rw[<-qc k g]at H;rw[<-qc n g']at I;have H:=ai.mp H;have I:=ai.mp I;have a1:∀x∈g.take k,∀y∈g',Le rk x y:=λx hx y v=>zi (L x hx) (g0 y v);have a2:∀x∈g,∀y∈g'.drop n,Le rk x y:=λx hx y v=>zi (gl x hx) (P y v);refine ai.mpr ⟨ai.mpr ⟨H.1,R.2,λx hx y v=>?_⟩,I.2.1,λx hx y v=>?_⟩
   ·rcases ah.mp (R.1.mem_iff.mp v)with q|q
    ·exact H.2.2 x hx y q
    ·exact a1 x hx y (dV q)
   ·rcases ah.mp hx with q|q
    ·exact a1 x q y (br v)
    ·rcases ah.mp (R.1.mem_iff.mp q)with q|q
     ·exact a2 x (br q) y v
     ·exact I.2.2 x q y v
  ·show(r.toList.zipIdx.foldl f (AM u)).toList=_;rw[fs];simp
 have px:0<((AM st).extract (o+k) l).size:=by omega
 have py:0<((AM st).extract l (l+n)).size:=by omega
 split
 ·exact AL (Ic (rk:=rk) K hk X my sx sy px py (λj q=>first j q py) last λr u S R=>AL (wpS_modify (AL (wpS_get (wpS_pure (a0 _ r u S hk J Y3 Y3 R _ λ_ _ _=>Y3))))))
 ·exact AL (HH (rk:=rk) K hk X my sx sy px py first last λr u S R=>AL (wpS_modify (AL (wpS_get (wpS_pure (a0 _ r u S hk J Y3 Y3 R _ λ_ _ _=>Y3))))))
end
section
variable(rk:A0->Nat)(lo:Nat)
abbrev al(xs:Array Keyed)(i:Nat):Nat:=at_ rk xs (lo+i)
def UJ(xs:Array Keyed)(k:Nat):Prop:=∀i j,i<=j->j<k->al rk lo xs i<=al rk lo xs j
def D4(xs:Array Keyed)(k:Nat):Prop:=∀i j,i<=j->j<k->al rk lo xs j<=al rk lo xs i
structure Bo (b:Array Keyed) (u st:SortSt):Prop where
 pm:(arrOf st).Perm b
 kd:kindOf st=kindOf u
 fl:failedOf st=failedOf u
 pd:pendingOf st=pendingOf u
 ot:∀k,k<lo->(arrOf st)[k]?=(arrOf u)[k]?
end
section
variable{b:Array Keyed}{lo:Nat}{u:SortSt}
theorem Bo.sz(h:Bo lo b u t):(AM t).size=b.size:=h.pm.size_eq
theorem Bo.mir(h:Bo lo b u t)(hi:lo<=i)(a:j<=b.size):Bo lo b u (PyProof.Rows.setArr t (mirror (AM t) i j ((j-i) / 2))):=⟨(mirror_perm _ _ _ _).trans h.pm,h.kd,h.fl,h.pd,λk hk=>by
 show(mirror (AM t) i j ((j-i) / 2))[k]?=_;rw[getElem?_mirror_all (by rw[h.sz];exact a),zr ()];exact h.ot k hk⟩
theorem Mz{Q:S Bool->SortSt->Prop}(d:Fp prog w A s (kindOf u) rk b)(B:Bo lo b u t)(hi:i<b.size)(e:j<b.size)(h:Q (Z (decide (at_ rk (AM t) i<at_ rk (AM t) j))) t):wpS (A8 prog w) A E s (ltAt' i j) Q t:=by
 have get:∀k,k<b.size->∃p,(AM t)[k]?=Z p/\p∈b.toList:=λk hk=>by
  have c:k<(AM t).size:=by rw[B.sz];exact hk
  exact⟨(AM t)[k],getElem?_pos _ k c,(aw.mp B.pm).mem_iff.mp (by simp)⟩
 obtain⟨p,e1,a⟩:=get i hi;obtain⟨q,e2,m2⟩:=get j e;have h:Q (Z (decide (rk p.1<rk q.1))) t:=by unfold at_ at h;rw[e1,e2]at h;exact h
 rw[ltAt'_eq];exact AL (wpS_get (AL (uY e1 (AL (uY e2 (Il d B.kd a m2 h))))))
theorem GO{f:Nat->S β×Nat->StateT SortSt Sem (ForInStep (S β×Nat))}{a:Nat}{Q:S β×Nat->SortSt->Prop}(l:∀x m,∀d:ForInStep (S β×Nat)->SortSt->Prop,1<=m->m<n->(al rk lo (AM t) m<al rk lo (AM t) (m-1)->d (.done (O,m)) t)->(¬ al rk lo (AM t) m<al rk lo (AM t) (m-1)->d (.yield (O,m+1)) t)->wpS (A8 prog w) A E s (f x (O,m)) d t)(v:1<=a)(u:a<=n)(b:UJ rk lo (AM t) a)(h:∀m,a<=m->m<=n->UJ rk lo (AM t) m->(m=n\/al rk lo (AM t) m<al rk lo (AM t) (m-1))->Q (O,m) t):wpS (A8 prog w) A E s (forIn [a:n] (O,a) f) Q t:=by
 refine wpS_forRange (I:=λx c g=>g=t/\c=(O,x)/\UJ rk lo (AM t) x) ?_ ?_ ⟨rfl,rfl,b⟩
 ·rintro x c g p o ⟨rfl,rfl,b⟩;refine l x x _ () o (λq=>h x p () b (.inr q)) λq=>⟨rfl,rfl,λi j k y=>?_⟩;by_cases hx:j<x
  ·exact b i j k hx
  ·have e:j=x:=by omega
   subst e;by_cases hi:i=j
   ·rw[hi];exact zl _
   ·have:=b i (j-1) () ();omega
 ·rintro c g ⟨rfl,rfl,b⟩;rw[show max a n=n by omega]at b ⊢;exact h n u (zl _) b (.inl Y3)
theorem RT{xs:Array Keyed}(a:lo+j<=xs.size)(k:Nat):al rk lo (mirror xs (lo+i) (lo+j) ((lo+j-(lo+i)) / 2)) k=if i<=k/\k<j then al rk lo xs (i+j-1-k)else al rk lo xs k:=by
 unfold al;rw[Iq a];by_cases q:i<=k/\k<j
 ·rw[zh q,zh ⟨by omega,by omega⟩];congr 1;omega
 ·rw[zr q,zr ()]
theorem FN{xs:Array Keyed}(b:lo+j<=xs.size)(a:∀k,i<=k->k<j->al rk lo xs k=al rk lo xs (j-1))(k:Nat):al rk lo (mirror xs (lo+i) (lo+j) ((lo+j-(lo+i)) / 2)) k=al rk lo xs k:=by
 rw[RT b];by_cases q:i<=k/\k<j
 ·rw[zh q,a (i+j-1-k) () (),a k q.1 q.2]
 ·rw[zr q]
theorem grow{xs ys:Array Keyed}{x:Nat}(dn:D4 rk lo xs x)(hk:∀k,al rk lo ys k=al rk lo xs k)(a:1<=x->al rk lo xs x<=al rk lo xs (x-1)):D4 rk lo ys (x+1):=λi j b d=>by
 rw[hk,hk];by_cases hx:j<x
 ·exact dn i j b hx
 ·have c:j=x:=by omega
  subst c;by_cases hi:i=j
  ·rw[hi];exact zl _
  ·have:=dn i (j-1) () ();have:=a ();omega
theorem Hd{Q:S Nat->SortSt->Prop}(L:Fp prog w A s (kindOf u) rk b)(hn:lo+n<=b.size)(h1:1<=n)(B:Bo lo b u t)(h:∀k t,Bo lo b u t->1<=k->k<=n->UJ rk lo (AM t) k->Q (Z k) t):wpS (A8 prog w) A E s (countRun' lo n) Q t:=by
 rw[countRun'_eq];have K:∀{t:SortSt},Bo lo b u t->∀m,∀g:S Bool->SortSt->Prop,1<=m->m<n->g (Z (decide (al rk lo (AM t) m<al rk lo (AM t) (m-1)))) t->wpS (A8 prog w) A E s (ltAt' (lo+m) (lo+m-1)) g t:=λ{t} B m g q1 q2 hq=>by
  refine Mz L B () () ?_;rw[show lo+m-1=lo+(m-1) by omega];exact hq
 refine AL (GO (rk:=rk) (lo:=lo) (λx m g q1 q2 g1 g2=>?_) (zl 1) h1 (λi j y l=>by rw[show i=j by omega];exact zl _) λm U m2 C or=>?_)
 ·refine AL (K B m _ q1 q2 ?_);dsimp only;by_cases c:al rk lo (AM t) m<al rk lo (AM t) (m-1)
  ·rw[z5 c,zh rfl];exact wpS_pure (g1 c)
  ·rw[zI c,zr ()];exact wpS_pure (g2 c)
 dsimp only;by_cases N:m=n
 ·rw[zh (show(m==n)=true by simpa using N)];exact wpS_pure (h m t B U m2 C)
 rw[zr (show ¬ (m==n)=true by simpa using N)];have lt:=or.resolve_left N;have J:lo+m<=(AM t).size:=by rw[B.sz];omega
 by_cases g1:m>1
 case' pos=>
  rw[zh g1];refine AL (Mz L B () () ?_);dsimp only;by_cases q:at_ rk (AM t) lo<at_ rk (AM t) (lo+m-1)
  ·rw[z5 q,zh rfl];exact wpS_pure (h m t B U m2 C)
  rw[zI q,zr ()];have all:∀k,0<=k->k<m->al rk lo (AM t) k=al rk lo (AM t) (m-1):=λk _ hk=>by
   have a1:=C 0 k () hk;have a2:=C k (m-1) () ();have q:¬ al rk lo (AM t) 0<al rk lo (AM t) (m-1):=by
    show ¬ at_ rk (AM t) (lo+0)<at_ rk (AM t) (lo+(m-1));rw[da,show lo+(m-1)=lo+m-1 by omega];exact q
   omega
  have e:=FN (rk:=rk) (i:=0) J all;rw[da]at e;have H:=B.mir (zl lo) (show lo+m<=b.size by omega);refine AL (wpS_reverse ?_);have G:D4 rk lo (AM (PyProof.Rows.setArr t (mirror (AM t) lo (lo+m) ((lo+m-lo) / 2)))) (m+1):=grow (xs:=AM t) (λi j y l=>by rw[all i () (),all j () ()];exact zl _) e λ_=>qo lt;generalize PyProof.Rows.setArr t (mirror (AM t) lo (lo+m) ((lo+m-lo) / 2))=t1 at H G ⊢
 case' neg=>
  rw[zr g1];have e1:m=1:=by omega
  have H:=B;have G:D4 rk lo (AM t) (m+1):=grow (xs:=AM t) (λi j y l=>by rw[show i=j by omega];exact zl _) (λ_=>Y3) λ_=>qo lt;generalize t=t1 at H G ⊢
 all_goals
  refine AL (wpS_lift (QI ⟨rfl,?_⟩));refine AL (wpS_mono (wpS_forRange (I:=λx c t=>∃e,c=(O,x,e)/\Bo lo b u t/\D4 rk lo (AM t) x/\e+1<=x/\∀i,x-(e+1)<=i->i<x->al rk lo (AM t) i=al rk lo (AM t) (x-1))
   (Q:=λc t=>∃k e,c=(O,k,e)/\m+1<=k/\k<=n/\Bo lo b u t/\D4 rk lo (AM t) k/\e+1<=k/\∀i,k-(e+1)<=i->i<k->al rk lo (AM t) i=al rk lo (AM t) (k-1)) ?_ ?_ ⟨0,rfl,H,G,by omega,λi q1 q2=>by rw[show i=m+1-1 by omega]⟩) ?_)
  ·rintro x c a a0 a4 ⟨e,rfl,d,dn,z,f⟩;have J:lo+x<=(AM a).size:=by rw[d.sz];omega
   dsimp only;refine AL (K d x _ () a4 ?_);dsimp only;by_cases q:al rk lo (AM a) x<al rk lo (AM a) (x-1)
   ·rw[z5 q,zh rfl];by_cases o:e>0
    ·rw[zh o];refine AL (wpS_reverse (wpS_pure ?_));have F:=FN (rk:=rk) J f;rw[show lo+x-(e+1)=lo+(x-(e+1)) by omega];exact⟨0,rfl,d.mir () (),grow dn F λ_=>by omega,by omega,λi q1 q2=>by rw[show i=x+1-1 by omega]⟩
    ·rw[zr o];exact wpS_pure ⟨0,rfl,d,grow dn (λ_=>Y3) λ_=>by omega,by omega,λi q1 q2=>by rw[show i=x+1-1 by omega]⟩
   ·rw[zI q,zr ()];refine AL (Mz L d () () ?_);dsimp only;rw[show lo+x-1=lo+(x-1) by omega];by_cases q2:al rk lo (AM a) (x-1)<al rk lo (AM a) x
    ·rw[z5 q2,zh rfl];exact wpS_pure ⟨x,e,rfl,a0,by omega,d,dn,z,f⟩
    ·rw[zI q2,zr ()];refine wpS_pure ⟨e+1,rfl,d,grow dn (λ_=>Y3) λ_=>by omega,by omega,λi q3 q4=>?_⟩;rw[show x+1-1=x by omega];by_cases hi:i=x
     ·rw[hi]
     ·rw[f i () ()];omega
  ·rintro c a ⟨e,rfl,d,dn,z,f⟩;rw[show max (m+1) n=n by omega]at dn z f ⊢;exact⟨n,e,rfl,by omega,zl _,d,dn,z,f⟩
  rintro c a ⟨k,e,rfl,k1,k2,d,dn,z,f⟩;have a3:lo+k<=(AM a).size:=by rw[d.sz];omega
  dsimp only;by_cases o:e>0
  case' pos=>
   rw[zh o];refine AL (wpS_reverse ?_);have F:=FN (rk:=rk) a3 f;rw[show lo+k-(e+1)=lo+(k-(e+1)) by omega];have p:=d.mir (show lo<=lo+(k-(e+1)) by omega) (show lo+k<=b.size by omega);have D:D4 rk lo (AM (PyProof.Rows.setArr a (mirror (AM a) (lo+(k-(e+1))) (lo+k) ((lo+k-(lo+(k-(e+1)))) / 2)))) k:=λi j y l=>by
    show al rk lo (mirror (AM a) _ _ _) j<=al rk lo (mirror (AM a) _ _ _) i;rw[F,F];exact dn i j y l
   generalize PyProof.Rows.setArr a (mirror (AM a) (lo+(k-(e+1))) (lo+k) ((lo+k-(lo+(k-(e+1)))) / 2))=t2 at p D ⊢
  case' neg=>
   rw[zr o];have p:=d;have D:=dn;generalize a=t2 at p D ⊢
  all_goals
   refine AL (wpS_reverse ?_);have W:lo+k<=(AM t2).size:=by rw[p.sz];omega
   have M:=p.mir (zl lo) (show lo+k<=b.size by omega);have P:UJ rk lo (AM (PyProof.Rows.setArr t2 (mirror (AM t2) lo (lo+k) ((lo+k-lo) / 2)))) k:=λi j y l=>by
    have e:=RT (rk:=rk) (i:=0) W;rw[da]at e;show al rk lo (mirror (AM t2) _ _ _) i<=al rk lo (mirror (AM t2) _ _ _) j;rw[e,e,zh ⟨by omega,by omega⟩,zh ⟨by omega,by omega⟩];exact D _ _ () ()
   generalize PyProof.Rows.setArr t2 (mirror (AM t2) lo (lo+k) ((lo+k-lo) / 2))=t3 at M P ⊢;refine AL (GO (rk:=rk) (lo:=lo) (λx v g q1 q2 g1 g2=>?_) (show 1<=k by omega) k2 P λv p1 p2 X _=>wpS_pure (h v t3 M () p2 X));refine AL (K M v _ q1 q2 ?_);dsimp only;by_cases c:al rk lo (AM t3) v<al rk lo (AM t3) (v-1)
   ·rw[z5 c,zh rfl];exact wpS_pure (g1 c)
   ·rw[zI c,zr ()];exact wpS_pure (g2 c)
theorem RV{xs:Array Keyed}{p d:Nat}(hs:lo+p<xs.size)(hd:d<=p)(k:Nat):al rk lo (bubble xs (lo+p) d) k=if k=p-d then al rk lo xs p else if p-d<k/\k<=p then al rk lo xs (k-1)else al rk lo xs k:=by
 unfold al;rw[MX hs ()];by_cases q:k=p-d
 ·rw[zh q,zh ()]
 ·rw[zr q,zr ()];by_cases q2:p-d<k/\k<=p
  ·rw[zh q2,zh ⟨by omega,by omega⟩];congr 1;omega
  ·rw[zr q2,zr ()]
theorem IH{m:Nat}{Q:Bool->SortSt->Prop}(F:Fp prog w A s (kindOf u) rk b)(K:lo+n<=b.size)(N:m<=n)(B:Bo lo b u t)(hs:UJ rk lo (AM t) m)(h:∀t,Bo lo b u t->UJ rk lo (AM t) n->Q true t):wpS (A8 prog w) A E s (binarySort' lo n m) Q t:=by
 rw[binarySort'_eq];refine AL (wpS_mono (wpS_forRange (I:=λk c t=>c=(O,f8)/\Bo lo b u t/\UJ rk lo (AM t) (min k n)) (Q:=λc t=>c=(O,f8)/\Bo lo b u t/\UJ rk lo (AM t) n) ?_ ?_ ?_) ?_)
 ·rintro k c t L J ⟨rfl,d,f⟩;rw[show min k n=k by omega]at f;refine AL (wpS_mono (wpS_forRange (I:=λx c a=>a=t/\∃l r,c=(O,l,r)/\l<=r/\r<=k/\r-l<=k-x/\(∀i,i<l->al rk lo (AM t) i<=al rk lo (AM t) k)/\(∀i,r<=i->i<k->al rk lo (AM t) k<al rk lo (AM t) i))
   (Q:=λc a=>a=t/\∃l r,c=(O,l,r)/\l<=k/\(∀i,i<l->al rk lo (AM t) i<=al rk lo (AM t) k)/\(∀i,l<=i->i<k->al rk lo (AM t) k<al rk lo (AM t) i)) ?_ ?_ ?_) ?_)
  ·rintro x c a _ hx ⟨rfl,l,r,rfl,D,v,H,g,hi⟩;dsimp only;by_cases C:l>=r
   ·rw[zh C];have e:l=r:=by omega
    subst e;exact wpS_pure ⟨rfl,l,l,rfl,v,g,hi⟩
   ·rw[zr C];refine AL (Mz F d () () ?_);dsimp only;by_cases q:al rk lo (AM a) k<al rk lo (AM a) ((l+r) / 2)
    ·rw[z5 q,zh rfl];refine wpS_pure ⟨rfl,l,(l+r) / 2,rfl,by omega,by omega,by omega,g,λi q1 q2=>?_⟩;have:=f ((l+r) / 2) i q1 q2;omega
    ·rw[zI q,zr ()];refine wpS_pure ⟨rfl,(l+r) / 2+1,r,rfl,by omega,by omega,by omega,λi q1=>?_,hi⟩;have:=f i ((l+r) / 2) () ();omega
  ·rintro c a ⟨rfl,l,r,rfl,D,v,H,g,hi⟩;have e:l=r:=by omega
   subst e;exact⟨rfl,l,l,rfl,v,g,hi⟩
  ·exact⟨rfl,0,k,rfl,by omega,by omega,by omega,λi hi=>by omega,λi q1 q2=>by omega⟩
  ·rintro c a ⟨rfl,l,r,rfl,M,g,hi⟩;show wpS _ _ _ _ (moveDown' (lo+k) (lo+l) >>= λ_=>pure (ForInStep.yield (O,f8))) _ _;rw[moveDown'_eq];have o:lo+k<(AM a).size:=by rw[d.sz];omega
   refine AL (wpS_modify (wpS_pure ⟨rfl,⟨(bubble_perm _ _ _).trans d.pm,d.kd,d.fl,d.pd,λj p=>?_⟩,?_⟩))
   ·show(bubble (AM a) (lo+k) (lo+k-(lo+l)))[j]?=_;rw[getElem?_bubble o _ (),zr (),zr ()];exact d.ot j p
   rw[show min (k+1) n=k+1 by omega];intro i j y p;show al rk lo (bubble (AM a) (lo+k) (lo+k-(lo+l))) i<=al rk lo (bubble (AM a) (lo+k) (lo+k-(lo+l))) j;rw[show lo+k-(lo+l)=k-l by omega,RV o (),RV o (),show k-(k-l)=l by omega]
   repeat' split
   all_goals first
    |(exfalso;omega)
    |exact zl _
    |exact g _ ()
    |exact qo (hi _ () ())
    |exact f _ _ () ()
 ·rintro c t ⟨G,d,f⟩;refine⟨G,d,?_⟩;rwa [show min (max (max m 1) n) n=n by omega]at f
 ·refine⟨rfl,B,λi j y p=>?_⟩;by_cases z:m=0
  ·rw[show i=j by omega];exact zl _
  ·exact hs i j y ()
 ·rintro c t ⟨rfl,d,f⟩;exact wpS_pure (h t d f)
end
section
variable(rk:A0->Nat)
def Ds:Nat->Y (Y Keyed)->Y (Nat×Nat×Nat)->Prop
 |_,[],[]=>True
 |lo,g::gs,(a,n,_)::ps=>a=lo/\n=g.length/\g≠[]/\g.Pairwise (Le rk)/\Ds (lo+g.length) gs ps
 |_,_,_=>False
variable{rk}
theorem Ds.len:∀{gs:Y (Y Keyed)} {ps:Y (Nat×Nat×Nat)} {lo:Nat},Ds rk lo gs ps->gs.length=ps.length
 |[],[],_,_=>rfl
 |g::gs,(a,n,q)::ps,lo,h=>congrArg (·+1) (Ds.len h.2.2.2.2)
 |[],_::_,_,h=>h.elim
 |_::_,[],_,h=>h.elim
theorem Ds.snoc:∀{gs:Y (Y Keyed)} {ps:Y (Nat×Nat×Nat)} {lo:Nat} {g:Y Keyed} {q:Nat},Ds rk lo gs ps->g≠[]->g.Pairwise (Le rk)->Ds rk lo (gs++[g]) (ps++[(lo+gs.flatten.length,g.length,q)])
 |[],[],_,g,q,_,h1,h2=>⟨rfl,rfl,h1,h2,trivial⟩
 |f::gs,(a,n,r)::ps,lo,g,q,h,h1,h2=>by
  have b:=Ds.snoc (q:=q) h.2.2.2.2 h1 h2;rw[Nat.add_assoc,<-zC,<-cr]at b;exact⟨h.1,h.2.1,h.2.2.1,h.2.2.2.1,b⟩
 |[],_::_,_,_,_,h,_,_=>h.elim
 |_::_,[],_,_,_,h,_,_=>h.elim
theorem Ds.pw{f:Nat×Nat×Nat->Nat×Nat×Nat}(b:∀a n q,∃r,f (a,n,q)=(a,n,r)):∀{gs:Y (Y Keyed)} {ps:Y (Nat×Nat×Nat)} {lo i:Nat},Ds rk lo gs ps->Ds rk lo gs (ps.modify i f)
 |[],[],_,i,_=>by cases i<;>trivial
 |g::gs,(a,n,q)::ps,lo,0,h=>by
  obtain⟨r,e⟩:=b a n q;show Ds rk lo (g::gs) (f (a,n,q)::ps);rw[e];exact h
 |g::gs,(a,n,q)::ps,lo,i+1,h=>⟨h.1,h.2.1,h.2.2.1,h.2.2.2.1,Ds.pw b h.2.2.2.2⟩
 |[],_::_,_,_,h=>h.elim
 |_::_,[],_,_,h=>h.elim
theorem Ds.two:∀{i:Nat} {gs:Y (Y Keyed)} {ps:Y (Nat×Nat×Nat)} {lo:Nat},Ds rk lo gs ps->i+1<ps.length->∃G g g' c p q,gs=G++g::g'::c/\ps[i]?=Z (lo+G.flatten.length,g.length,p)/\ps[i+1]?=Z (lo+G.flatten.length+g.length,g'.length,q)/\g≠[]/\g'≠[]/\g.Pairwise (Le rk)/\g'.Pairwise (Le rk) ∧
   ∀m:Y Keyed,m.length=g.length+g'.length->m.Pairwise (Le rk)->Ds rk lo (G++m::c) ((ps.set i (lo+G.flatten.length,g.length+g'.length,p)).eraseIdx (i+1))
 |0,g::g'::c,(a,n,p)::(a',n',q)::ps,lo,h,_=>by
  obtain⟨rfl,rfl,h1,h2,rfl,rfl,f,l,d⟩:=h;refine⟨[],g,g',c,p,q,rfl,rfl,rfl,h1,f,h2,l,λm b j=>⟨rfl,b.symm,?_,j,?_⟩⟩
  ·intro e;rw[e]at b;have:=aT.mpr h1;simp at b;omega
  ·rw[b,<-Nat.add_assoc];exact d
 |i+1,g::gs,(a,n,p)::ps,lo,h,hi=>by
  obtain⟨G,k,s,c,p',o,e,e1,e2,h1,h2,f,l,d⟩:=Ds.two (i:=i) h.2.2.2.2 (by simpa using hi);have ex:lo+g.length+G.flatten.length=lo+(g::G).flatten.length:=by rw[cr,zC];omega
  rw[ex]at e1 e2 d;exact⟨g::G,k,s,c,p',o,by rw[e];rfl,e1,e2,h1,h2,f,l,λm b j=>⟨h.1,h.2.1,h.2.2.1,h.2.2.2.1,d m b j⟩⟩
 |_,[],[],_,_,hi=>by cases hi
 |0,_,[_],_,_,hi=>by simp at hi
 |_,[],_::_,_,h,_=>h.elim
 |_,_::_,[],_,h,_=>h.elim
 |0,[_],_::_::_,_,h,_=>h.2.2.2.2.elim
end
section
variable{b:Array Keyed}
structure St (rk:Value->Nat) (kd:SortKind) (b:Array Keyed) (R:List Keyed) (gs:List (List Keyed)) (t:SortSt):Prop where
 kd:kindOf t=kd
 fl:failedOf t=none
 pm:(arrOf t).Perm b
 ar:(arrOf t).toList=gs.flatten++R
 ds:Ds rk 0 gs (pendingOf t).toList
theorem RW{R:Y Keyed}{gs:Y (Y Keyed)}{Q:Bool->SortSt->Prop}(y:Fp prog w A s kd rk b)(S:St rk kd b R gs t)(hi:i+1<(pendingOf t).size)(h:∀a t',St rk kd b R a t'->a.flatten.length=gs.flatten.length->a.length+1=gs.length->Q true t'):wpS (A8 prog w) A E s (ET i) Q t:=by
 obtain⟨G,g,c,n,p,q,e,e1,e2,h1,h2,o,D,f⟩:=Ds.two S.ds (i:=i) (by simpa using hi);rw[kD]at e1 e2 f;rw[k9]at e1 e2;have d:(AM t).toList=G.flatten++(g++c)++(n.flatten++R):=by rw[S.ar,e];simp
 have x:∀z∈(AM t).toList,z∈b.toList:=λz v=>(aw.mp S.pm).mem_iff.mp v;refine IX (rk:=rk) y S.kd S.fl x d e1 e2 Y3 Y3 Y3 Y3 h1 h2 o D λt' m B C u l F j=>?_;have k:m.length=g.length+c.length:=by rw[l.length_eq,zC]
 refine h (G++m::n) t' ⟨B,C,?_,by rw[j];simp,?_⟩ (by rw[e];simp[k];omega) (by rw[e];simp only[zC,Z3];omega)
 ·refine Array.Perm.trans ?_ S.pm;rw[aw,j,d];exact(l.append_left _).append_right _
 ·rw[u];have:=f m k F;simpa using this
theorem Ir{st:SortSt}{Q:Unit->SortSt->Prop}(H:Fp prog w A s kd rk b)(B:Bs kd b st)(h2:2<=b.size)
  (h:∀t,(AM t).Perm b->failedOf t=O->Up rk (AM t) b.size->Q f8 t):wpS (A8 prog w) A E s sortRuns' Q st:=by
 rw[sortRuns'_eq];refine AL (wpS_get ?_);rw[B.sz];generalize minRun' b.size b.size 0=mr;dsimp only;refine AL (wpS_mono (wpS_forRange (I:=λx c t=>∃gs R,c=(O,gs.flatten.length)/\St rk kd b R gs t/\x<=gs.flatten.length) (Q:=λc t=>c.1=O/\∃gs,St rk kd b [] gs t) ?_ ?_ ⟨[],(AM st).toList,rfl,⟨B.kd,B.fl,B.pm,rfl,by rw[B.pd];trivial⟩,qi _⟩) ?_)
 ·rintro x c t _ hx ⟨gs,R,rfl,S,F⟩;have sz:gs.flatten.length+R.length=b.size:=by
   rw[<-zC,<-S.ar,ZI];exact S.pm.size_eq
  dsimp only;by_cases ge:gs.flatten.length>=b.size
  ·rw[zh ge];have:R=[]:=ja ();subst this;exact wpS_pure ⟨rfl,gs,S⟩
  rw[zr ge];refine AL (Hd (rk:=rk) (u:=t) (lo:=gs.flatten.length) (by rw[S.kd];exact H) () () ⟨S.pm,rfl,rfl,rfl,λ_ _=>Y3⟩ λn t' B' n1 n2 G=>?_);have body:∀(t1:SortSt) (m:Nat),Bo gs.flatten.length b t t1->1<=m->m<=b.size-gs.flatten.length->UJ rk gs.flatten.length (AM t1) m->∃g v,g.length=m/\g≠[]/\g.Pairwise (Le rk)/\St rk kd b (g++v) gs t1:=λt1 m l K m2 G=>by
   have z1:(AM t1).toList.length=b.size:=by rw[ZI];exact l.sz
   have e:(AM t1).toList.take gs.flatten.length=gs.flatten:=by
    apply List.ext_getElem?;intro k;by_cases hk:k<gs.flatten.length
    ·rw[cx hk,k9,l.ot k hk,<-k9,S.ar,ZN hk]
    ·rw[bi (by rw[ZZ];omega),bi ()]
   have o:(((AM t1).toList.drop gs.flatten.length).take m).length=m:=by rw[ZZ,QY,z1];omega
   refine⟨((AM t1).toList.drop gs.flatten.length).take m,((AM t1).toList.drop gs.flatten.length).drop m,o,λz=>by rw[z]at o;simp at o;omega,az.mpr λi j hi N a1=>?_,⟨l.kd.trans S.kd,l.fl.trans S.fl,l.pm,?_,by rw[l.pd];exact S.ds⟩⟩
   ·rw[o]at hi N;have:=G i j () N;unfold al at this;rw[xQ (show gs.flatten.length+i<(AM t1).size by rw[l.sz];omega),xQ (show gs.flatten.length+j<(AM t1).size by rw[l.sz];omega)]at this;rw[JO,JO,JP,JP];exact this
   ·rw[qc]
    conv=>rhs;lhs;rw[<-e]
    exact(qc _ _).symm
  have C:Fp prog w A s (kindOf t) rk b:=by rw[S.kd];exact H
  dsimp only;have e0:minRun' b.size b.size 0=minRun' b.size b.size 0:=rfl;generalize a3:minRun' b.size b.size 0=mr;by_cases c:n<mr
  case' pos=>
   rw[zh c];refine AL (wpS_lift (QI ⟨rfl,AL (IH (rk:=rk) (u:=t) C () () B' G λt1 l J=>?_)⟩));rw[zr ()];have K:1<=min (b.size-gs.flatten.length) mr:=by omega
   have m2:min (b.size-gs.flatten.length) mr<=b.size-gs.flatten.length:=by omega
   generalize min (b.size-gs.flatten.length) mr=m at *
  case' neg=>
   rw[zr c];have l:=B';have J:=G;have K:=n1;have m2:=n2;generalize t'=t1 at l J ⊢;generalize n=m at K m2 J ⊢
  all_goals
   obtain⟨g,v,o,hg,L,W⟩:=body t1 m l K m2 J;have a0:∀d t2,St rk kd b (g++v) d t2->d.flatten.length=gs.flatten.length->∃P a2,((O:Option Unit),gs.flatten.length+m)=(O,P.flatten.length)/\St rk kd b a2 P (setPending t2 ((pendingOf t2).push (gs.flatten.length,m,0)))/\x+1<=P.flatten.length:=λd t2 f e2=>by
    have X:(d++[g]).flatten.length=gs.flatten.length+m:=by simp[<-e2,o]
    refine⟨d++[g],v,by rw[X],⟨f.kd,f.fl,f.pm,?_,?_⟩,by rw[X];omega⟩
    ·show(AM t2).toList=_;rw[f.ar];simp
    ·have:=f.ds.snoc (q:=0) hg L;rw[kD,e2,o]at this;show Ds rk 0 _ ((pendingOf t2).push _).toList;rw[kU];exact this
   refine AL (wpS_get ?_);split
   ·refine AL (wpS_mono (wpS_forRange (I:=λx c t=>c=(O,f8)/\∃d,St rk kd b (g++v) d t/\d.flatten.length=gs.flatten.length) (Q:=λc t=>c=(O,f8)/\∃d,St rk kd b (g++v) d t/\d.flatten.length=gs.flatten.length) ?_ (λ_ _ q=>q) ⟨rfl,gs,W,rfl⟩) ?_)
    ·rintro y c t2 _ _ ⟨rfl,d,f,e2⟩;refine AL (wpS_get ?_);by_cases z:(pendingOf t2).size>1
     ·rw[zh z];split
      ·split
       ·exact wpS_pure ⟨rfl,d,f,e2⟩
       ·refine AL (RW H f () λU t3 M e3 _=>?_);rw[zr ()];exact wpS_pure ⟨rfl,U,M,e3.trans e2⟩
      ·exact wpS_pure ⟨rfl,d,f,e2⟩
     ·rw[zr z];exact wpS_pure ⟨rfl,d,f,e2⟩
    ·rintro c t2 ⟨rfl,d,f,e2⟩;dsimp only;refine AL (wpS_modify (AL (wpS_modify (wpS_pure ?_))));refine a0 d _ ⟨f.kd,f.fl,f.pm,f.ar,?_⟩ e2;show Ds rk 0 _ ((pendingOf t2).modify _ _).toList;rw[Array.toList_modify];exact f.ds.pw λa n q=>⟨_,rfl⟩
   ·exact AL (wpS_modify (wpS_pure (a0 gs t1 W Y3)))
 ·rintro c t ⟨gs,R,rfl,S,F⟩;have sz:gs.flatten.length+R.length=b.size:=by
   rw[<-zC,<-S.ar,ZI];exact S.pm.size_eq
  have:R=[]:=ja ();subst this;exact⟨rfl,gs,S⟩
 rintro⟨c,lo⟩ t ⟨hc,gs,S⟩;simp only at hc;subst hc;dsimp only;refine AL (wpS_mono (wpS_forRange (I:=λx c t=>c=(O,f8)/\∃gs,St rk kd b [] gs t/\(gs.length+x<=b.size\/gs.length<=1)) (Q:=λc t=>c=(O,f8)/\∃gs,St rk kd b [] gs t/\gs.length<=1) ?_ ?_ ⟨rfl,gs,S,.inl ?_⟩) ?_)
 ·rintro x c t _ hx ⟨rfl,gs,S,F⟩;have lp:gs.length=(pendingOf t).size:=by rw[S.ds.len,ZI]
  refine AL (wpS_get ?_);by_cases z:(pendingOf t).size<=1
  ·rw[zh z];exact wpS_pure ⟨rfl,gs,S,by omega⟩
  rw[zr z];have le:∀(p:Prop) [Decidable p] (a:Nat),(if p then a-1 else a)<=a:=λp _ a=>by split<;>omega
  refine AL (RW H S (cb (yY (le _ _)) ()) λU t3 M e3 l3=>?_);rw[zr ()];exact wpS_pure ⟨rfl,U,M,by omega⟩
 ·rintro c t ⟨rfl,gs,S,F⟩;exact⟨rfl,gs,S,by omega⟩
 ·have:∀{gs:Y (Y Keyed)} {ps:Y (Nat×Nat×Nat)} {lo:Nat},Ds rk lo gs ps->gs.length<=gs.flatten.length:=by
   intro gs
   induction gs with
   |nil=>intro ps lo _;exact zl _
   |cons g gs ih=>
    intro ps lo h;cases ps with
    |nil=>exact h.elim
    |cons p ps=>
     obtain⟨a,n,q⟩:=p;have:=ih h.2.2.2.2;have:=aT.mpr h.2.2.1;rw[cr,zC,Z3];omega
  have:=this S.ds;have sz:gs.flatten.length=b.size:=by
   have:=congrArg dq S.ar;rw[qa,ZI]at this;exact this.symm.trans S.pm.size_eq
  omega
 ·rintro c t ⟨rfl,gs,S,F⟩;refine wpS_pure (h t S.pm S.fl ?_);have D:=S.ar;have ds:=S.ds;have sz:=S.pm.size_eq
  match gs,F,D,ds with
  |[],_,D,ds=>
   have:(AM t).size=0:=by rw[<-ZI,D];rfl
   omega
  |[g],_,D,ds=>
   generalize (pendingOf t).toList=ps at ds
   match ps,ds with
   |(a,n,q)::_,ds=>
    have L:=ds.2.2.2.1;have e:(AM t).toList=g:=by rw[D];simp
    rw[<-e]at L;intro i j a1 N;rw[xQ (show i<(AM t).size by omega),xQ (show j<(AM t).size by omega)];exact sE L a1 ()
end
theorem Hm{b:Array Keyed}:Rn prog w A kd rk b:=λ_ _ _ _ a B h2 q=>Ir a B h2 q
end S1
namespace P1
open L2 S6
section
variable{fs:Ev->S Au}{p:Pos}
end
section
variable{xs:Au}
end
section
variable{xs:Au}
variable{fs:Ev->S Au}{p':Pos}
end
end P1
namespace P1
open L2 S1 S6
section
variable [DecidableEq α]
end
section
def Wn(ks:Y AY):Bool:=ks.any λk=>k.isRight
variable{fs:Ev->S (Y (Y AY))}{p:Pos}
end
end P1
namespace P1
open L2
section
variable{kx vx:Expr}{xs:Au}{fk:Ev->S Bx}
end
section
variable{o:AE}
end
section
variable{fd:Ev->S Bx}{xs:Au}
end
def two(a b:AJ)(i:Nat):AJ:=if i=0 then a else b
theorem Ko{R:α->β->Prop}:∀{xs:Y α} {ys:Y β},AI R xs ys->∀{i:Nat} {x:α},xs[i]?=Z x->∃y,ys[i]?=Z y/\R x y:=by
 intro xs ys h
 induction h with
 |nil=>intro i x q;simp at q
 |cons r _ a=>
  intro i x q;cases i with
  |zero=>simp at q;subst q;exact⟨_,rfl,r⟩
  |succ i=>
   rw[y8]at q;obtain⟨y,y1,y2⟩:=a q;exact⟨y,by rw[y8];exact y1,y2⟩
section
variable{fs:Ev->S (Y Bx)}{p px spos:Pos}{f:A1}{G:A1->Y (AY×Dt)->Y Bx->S (Y (AY×Dt))}
end
def XQ:S Bool->Bool
 |some true=>true
 |_=>false
def RX(x:Dt)(ys:Y Dt):S Bool:=if(ys.all λy=>(uy y x).isSome&&decide (min (rP y) (rP x)<=60))=true then Z (ys.any λy=>XQ (uy y x))else O
def Cs(a b:Bx):S Bx:=match a with
 |.z d=>(qG b).bind λys=>(RX d ys).bind λk=>Z (.z (.bl k))
 |_=>O
theorem RZ(I:L2.AU X AN σ H s)(G:X.A.units+100<cLine){x:V}(z:AW X.K H d x)(C:At x u){ys:Y Dt}(rs:aF X.K H ys vs)(l:AX vs AQ){k:Bool}(hk:RX d ys=Z k):
  ∃e:A0->Bool,(∀y,y∈AQ->SeqAt.EqAt X.A.in1 s y u (e y))/\AQ.any e=k:=by
 unfold RX at hk;split at hk
 ·rename_i o;injection hk with hk;rw[qk]at o;have at_:∀(i:Nat) y,AQ[i]?=Z y->∃c,ys[i]?=Z c/\SeqAt.EqAt X.A.in1 s y u (XQ (uy c d)):=λi y g=>by
   have w:=l.length;have B:=rs.length;have hi:i<AQ.length:=(ae.mp g).1;have a:i<ys.length:=by omega
   obtain⟨v,ev,D⟩:=rs.get (show ys[i]?=Z ys[i] by simp[a]);obtain⟨F,p,E⟩:=l.get ev;rw[g]at p;cases p;refine⟨ys[i],by simp[a],?_⟩;have j:=o ys[i] (Kj a);rw[ZH]at j;obtain⟨b,n⟩:=aE.mp j.1;have:=XJ I 60 (A:=X.A.in1) (km j.2) (by rw[units_in1];omega) D z E C n;rw[n];cases b<;>exact this
  classical
  refine⟨λy=>decide (∃(i:Nat) (c:Dt),AQ[i]?=Z y/\ys[i]?=Z c/\XQ (uy c d)=true),λy g=>?_,?_⟩
  ·dsimp only;by_cases q:∃(i:Nat) (c:Dt),AQ[i]?=Z y/\ys[i]?=Z c/\XQ (uy c d)=true
   ·rw[z5 q];obtain⟨i,c,h1,h2,f⟩:=q;obtain⟨c',e1,e2⟩:=at_ i y h1;rw[h2]at e1;cases e1;rw[f]at e2;exact e2
   ·rw[zI q];obtain⟨i,hi,m⟩:=Qb g;have h1:AQ[i]?=Z y:=by rw[Zs hi,m]
    obtain⟨c,e1,e2⟩:=at_ i y h1;have:XQ (uy c d)=false:=by
     cases t:XQ (uy c d)with
     |false=>rfl
     |true=>exact absurd ⟨i,c,h1,e1,t⟩ q
    rw[this]at e2;exact e2
  ·rw[<-hk,jI,kc,kc];constructor
   ·rintro⟨y,g,h⟩;obtain⟨i,c,h1,h2,f⟩:=km h;exact⟨c,KA h2,f⟩
   ·rintro⟨c,j,f⟩;obtain⟨i,hi,m⟩:=Qb j;have w:=l.length;have B:=rs.length;have a:i<AQ.length:=by omega
    exact⟨AQ[i],Kj a,z5 ⟨i,c,by simp[a],by rw[Zs hi,m],f⟩⟩
 ·cases hk
theorem FP(n:X.A.units+100<cLine):Eo X (AG .In) Cs:=by
 intro AN s σ H x y v u Q I m t h;obtain⟨a,b,c,j,o,e,q⟩:=h;unfold Cs at e;split at e
 ·rename_i d;obtain⟨ys,B,e⟩:=AT e;obtain⟨k,ek,e⟩:=AT e;cases e;obtain⟨p,vs,rfl,sq,l⟩:=yN o B;cases t;rcases sq with sq|sq
  ·obtain⟨AQ,g,pl,z⟩:=I.list sq;obtain⟨f,f1,f2⟩:=RZ I n j m l g ek;refine SeqAt.in_listAt f pl.isList (λw i=>f1 w (by simpa using i)) ⟨.bl k,H,I,by rw[show AQ.toArray.any f=AQ.any f by simp,f2];rfl,q _ H (AV.refl H) trivial (by simp only[aW,AW])⟩
  ·obtain⟨AQ,g,pl,z⟩:=I.tuple sq;obtain⟨f,f1,f2⟩:=RZ I n j m l g ek;refine SeqAt.in_tupleAt f pl (λw i=>f1 w (by simpa using i)) ⟨.bl k,H,I,by rw[show AQ.toArray.any f=AQ.any f by simp,f2];rfl,q _ H (AV.refl H) trivial (by simp only[aW,AW])⟩
 ·cases e
section
variable{st:Y AB}
end
open AutoSeq1 (wpAny_loadPart')
open SeqAt
theorem N1(I:L2.AU X AN σ H s)(h:qj X.K H a xs):∃AQ:Y A0,AX xs AQ/\gR s.heap a AQ.toArray:=by
 rcases h with h|⟨o,AQ,n,hk,b,c,d,r⟩
 ·obtain⟨z,AQ,r,p⟩:=h.ok I.hok;exact⟨AQ,r,p⟩
 ·exact⟨AQ.toList,r,o,I.U4 a o hk,b.1,⟨n,by simpa using c⟩,b.2⟩
section
variable{o:Expr}{fx:Ev->S Bx}
end
section
variable{t:Ev->S Bool}
end
section
variable{h':A6}
theorem MF{t':Nat}{e:A1}(I:L2.AU X AN σ H s)(k:∀b o,b≠e->b≠it->s.heap.get? b=Z o->h'.get? b=Z o)(fe:nG X AN H e)(fi:nG X AN H it)(p:∃o,h'.get? e=Z o)(hi:∃o,h'.get? it=Z o)(new:gq X.prog X.w (B7 H s.heap.objs.size (.tup xs)) h' s.heap.objs.size (.tup xs)):L2.AU X AN σ (B7 H s.heap.objs.size (.tup xs)) { s with heap:=h',toks:=t' }:=by
 have j:H s.heap.objs.size=O:=I.hok.fresh (zl _);have f:∀b u,H b=Z u->b≠s.heap.objs.size:=λb u q z=>by rw[z,j]at q;cases q
 have h:∀b u,H b=Z u->b≠e/\b≠it:=λb u q=>⟨λz=>(by rw[z,fe.1]at q;cases q),λz=>(by rw[z,fi.1]at q;cases q)⟩;have g:∀b,b∉[e,it]->b≠e/\b≠it:=λb d=>⟨λz=>d (by simp[z]),λz=>d (by simp[z])⟩;refine I.step (g':=s.gens) (d':=s.drawn) (ch:=[e,it]) (λb d=>?_) (λb o _ _ a q _=>k b o (g b a).1 (g b a).2 q) (λb o _ _ a q _=>⟨o.slots,k b o (g b a).1 (g b a).2 q⟩) (λb o _ q n=>?_)
  (λb o a q=>⟨o,k b o (g b a).1 (g b a).2 q⟩) (λb ys q=>?_) (λb o u q=>?_) (λb ps q=>⟨#[],?_⟩) (λm i=>?_) (λb u q=>?_) I.bare
 ·rcases List.mem_cons.mp d with rfl|d
  ·exact⟨fe.2.2.2.1,fe.2.1,fe.2.2.2.2.1,fe.2.2.2.2.2⟩
  ·cases af.mp d;exact⟨fi.2.2.2.1,fi.2.1,fi.2.2.2.2.1,fi.2.2.2.2.2⟩
 ·rw[aO (z4 (zw q))];exact n
 ·rw[aO (f b _ q)];exact q
 ·rw[aO (f b _ q)];exact q
 ·rw[aO (f b _ q),q];simp
 ·obtain⟨o,es,ep,l,r⟩:=i;exact⟨o,es,ep,k _ o (kC fe.2.1) (kC fi.2.1) l,r⟩
 ·by_cases d:b=s.heap.objs.size
  ·subst d;rw[bh]at q;cases q;exact new
  ·rw[aO d]at q;refine(I.hok b u q).stay (λc v a w=>k c v ?_ ?_ w) (λc w=>?_) (λc ys w=>?_) λc o' t w=>?_
   ·rcases a with rfl|z
    ·exact(h _ _ q).1
    ·exact(h _ _ z).1
   ·rcases a with rfl|z
    ·exact(h _ _ q).2
    ·exact(h _ _ z).2
   ·rw[aO (f c _ w)];exact w
   ·rw[aO (f c _ w)];exact w
   ·rw[aO (f c _ w)];exact w
end
def EX(K:B6)(l:A1):It:=
 ⟨λi H=>∃xs x,nF K H l xs/\xs[i]?=Z x,λi H v H'=>∃p x,H p=O/\(∀xs,nF K H l xs->xs[i]?=Z x)/\v=.ref p/\H'=B7 H p (.tup [.int i,x]),λi H=>∃xs,nF K H l xs/\xs.length<=i⟩
theorem O6(l e it:A1)(D:e≠it):
  C9 P w K (.Tuple elts x1 tpos) (EX K l) [e,it] e (λi h=>(∃old,IsEnum h e it i old)/\h.IsListIter it l i) where
 mem:=by simp
 obj:=λi h st b a=>by
  obtain⟨⟨old,h1⟩,o,h2,_,G⟩:=st;rcases List.mem_cons.mp a with rfl|a
  ·exact⟨_,h1,λv z=>by cases z⟩
  ·cases af.mp a;exact⟨o,h2,λv z=>by rw[G]at z;cases z⟩
 keep:=λi h h' st k=>by
  obtain⟨⟨old,h1⟩,h2⟩:=st;exact⟨⟨old,k e (by simp) _ h1⟩,h2.at λo q=>k it (by simp) o q⟩
 item:=by
  intro X m t j y i AN s σ H E I c st n;subst m t j;obtain⟨⟨old,h1⟩,h2⟩:=st;obtain⟨xs,x,d,hx⟩:=n;obtain⟨AQ,f,p,J⟩:=I.list d;obtain⟨u,hu,N⟩:=f.get hx;have fe:=c e (by simp);have fi:=c it (by simp);refine wpAny_pyNext_enum_item h1 h2 p.isList (x:=u) (by simpa using hu) D λa1 U L hT a2 hk=>⟨_,rfl,?_⟩;refine wpAny_letOwnedTupleGo_enum U λB F g=>?_;have elt:e<s.heap.objs.size:=zw h1;have a0:it<s.heap.objs.size:=by obtain⟨_,q,_⟩:=h2;exact zw q
  have M:B.get? s.heap.objs.size=Z { cls:=.type "tuple",data:=.seq #[.int i s.toks,u] }:=(g.2 _ (kF elt)).trans hT;have A:B.IsListIter it l (i+1):=L.at λo q=>(g.2 it (kC D)).trans q;refine⟨.ref s.heap.objs.size,B7 H s.heap.objs.size (.tup [.int i,x]),MF (t':=s.toks+1) I (λb o C W q=>(g.2 b C).trans (hk b o C W q)) fe fi ⟨_,F⟩ (by obtain⟨o,q,_⟩:=A;exact⟨o,q⟩) ?_,rfl,⟨_,x,I.hok.fresh (zl _),λys hy=>by rw[I.zc hy d];exact hx,rfl,rfl⟩,⟨⟨_,by simpa using F⟩,A⟩,λb a=>?_⟩
  ·exact⟨by show 2<=AA;decide,[.int i s.toks,u],.cons ⟨_,rfl⟩ (.cons N .nil),_,M,rfl,⟨_,rfl⟩,rfl⟩
  ·rcases List.mem_cons.mp a with rfl|a
   ·rw[aO (z4 elt)];exact fe.1
   ·cases af.mp a;rw[aO (z4 a0)];exact fi.1
 done:=by
  intro X m t j y i AN s σ H E I c st n;subst m t j;obtain⟨⟨old,h1⟩,h2⟩:=st;obtain⟨xs,d,hx⟩:=n;obtain⟨AQ,f,p,J⟩:=I.list d;obtain⟨f0,f1,f2,f3,f4,Q⟩:=c it (by simp);have hl:=f.length;exact wpAny_pyNext_enum_end (I.ok.hd y) h1 h2 p.isList (by simp;omega) λh' eb=>⟨rfl,I.turned (t':=s.toks) (λb o a e=>eb b o a e) f0 f1 f3 f4 Q⟩
 self:=λ_ _ _ _ _ st h=>by
  obtain⟨⟨old,h1⟩,_⟩:=st;exact yf h1 h
def xR(ds:Y Dt):Y Dt:=(av ds.length).zipWith (λk d=>.tup [.int (k:Nat),d]) ds
theorem Dl(ds:Y Dt):(xR ds).length=ds.length:=by simp[xR]
theorem O7(h:(xR ds)[i]?=Z d):∃c,ds[i]?=Z c/\d=.tup [.int (i:Nat),c]:=by
 have hi:i<ds.length:=by
  have:=(ae.mp h).1;rwa [Dl]at this
 refine⟨ds[i],by simp[hi],?_⟩;unfold xR at h;rw[dC]at h;simp[hi]at h;exact h.symm
theorem B4.enum(h:nF K Hs l vs)(r:aF K Hs ds vs):B4 K (EX K l) (xR ds) Hs:=λi H s=>by
 have h':=s.seq h;have g:=r.kp (.of s);refine⟨λd e=>?_,λe=>⟨vs,h',by rw[Dl]at e;rw[r.length];exact e⟩⟩;obtain⟨c,k,rfl⟩:=O7 e;obtain⟨v,ev,j⟩:=g.get k;refine⟨⟨vs,v,h',ev⟩,λx H' y=>?_⟩;obtain⟨p,m,hp,f,rfl,rfl⟩:=y;have:=f vs h';rw[ev]at this;cases this;have a:AV H (B7 H p (.tup [.int (i:Nat),v])):=λb o q=>by rw[aO (bW q hp)];exact q
 refine⟨a,?_⟩;simp only[AW];exact⟨p,_,rfl,.inl (.inl bh),aF.cons (by simp only[AW]) (aF.cons (AW.kp (.of a) j) aF.nil)⟩
section
variable{p:Pos}{fs:Ev->S (Y Bx)}
def LW(K:B6)(ta:TA):TI:=λσ H R=>ta σ H λvs H1=>∃l,vs=[.ref l]/\(∃xs,nF K H1 l xs)/\R (EX K l) H1
theorem Wo{ta:TA}(i:Gl X "enumerate")(g:X.mg "enumerate"=O)(f:PA X [e] ta)(hs:A9 [e] X.env=[(false,eval e X.env)]:=by rfl):PI X (.Tuple elts x1 tpos) (.Call (.Name "enumerate" p) [e] [] pos) (LW X.K ta):=by
 intro AN s σ H R I h;refine Call_ (qm I i g boot_enumerate (PyProof.Rows.callWith_type1 (gU (f pos AN s σ H _ I h) λus s1 ⟨vs,H1,I1,r1,q1⟩=>?_) hs Y3));obtain⟨l,rfl,⟨xs,d⟩,q⟩:=q1;obtain⟨u,rfl,k⟩:=BC r1;cases k;obtain⟨AQ,n,p,m⟩:=I1.list d;refine call_enumerate_list p.isList λh' c j o hk=>?_;refine yf c ?_;refine⟨s1.heap.objs.size+1,[s1.heap.objs.size+1,s1.heap.objs.size],_,_,H1,rfl,I1.kept (t':=s1.toks) hk,O6 l _ _ (kF (Nat.lt_succ_self _)),⟨⟨_,c⟩,j⟩,λb a=>?_,q⟩;rcases List.mem_cons.mp a with rfl|a
 ·exact I1.Ef (Kt _) (I1.hok.fresh (Kt _))
 ·cases af.mp a;exact I1.Ef (zl _) (I1.hok.fresh (zl _))
def Iu:Y Bx->S (Y Dt)
 |[b]=>(lX b).bind λds=>Z (xR ds)
 |_=>O
theorem R3(h:Gl X "enumerate")(g:X.mg "enumerate"=O)(c:DL X [e] fs)(hs:A9 [e] X.env=[(false,eval e X.env)]:=by rfl):FV X (.Tuple elts x1 tpos) (.Call (.Name "enumerate" p) [e] [] pos) (λρ=>(fs ρ).bind Iu):=λAN s σ H R I q=>by
 refine Wo h g c hs AN s σ H R I ?_;obtain⟨H0,ρ,ds,E,e,q⟩:=q;obtain⟨bs,eb,e⟩:=AT e;refine⟨H0,ρ,bs,E,eb,λvs H1 i k=>?_⟩;unfold Iu at e;split at e
 ·rename_i b;obtain⟨m,l,e⟩:=AT e;cases e;obtain⟨v,rfl,d⟩:=BH k;obtain⟨a,j,rfl,sq,f⟩:=d.zB l;exact⟨a,rfl,⟨j,sq⟩,q _ _ i (.enum sq f)⟩
 ·cases e
theorem R5(c:Gl X "enumerate")(b:X.mg "enumerate"=O)(a:Lz X [e] fs)(hs:A9 [e] X.env=[(false,eval e X.env)]:=by rfl):DA X (.Tuple elts x1 tpos) (.Call (.Name "enumerate" p) [e] [] pos) (λρ=>(fs ρ).bind Iu):=⟨R3 c b a.run hs⟩
end
def Wq(ρ:Ev)(i:Nat):Bx->S An
 |.o zs=>match ρ[i]? with
  |some (Z (.o ds))=>if ds.length+zs.length<=AA then Z (.nx (ρ.set i (Z (.o (ds++zs)))))else O
  |_=>O
 |_=>O
def R6(i:Nat)(f:Ev->S Bx):Ev->S An:=λρ=>(f ρ).bind (Wq ρ i)
theorem NM(i:Nat){p:Pos}(G:PV X e f)(I:X.N[i]?=Z x:=by rfl)(m:Uv X.env.scope x:=by first|exact Kb rfl|exact ke (Kb Y3)|exact ke (ke Y3))(hd:fT x:=by decide)(y:(x==("__classdict__":AJ))=false:=by decide)(g:A9 [e] X.env=[(false,eval e X.env)]:=by rfl)(s:attributeBase (.Name x p) "extend" X.env (eval (.Name x p) X.env)=eval (.Name x p) X.env:=by rfl)(z:((AD cpos (A9 [e] X.env)).all (λx=>!x.1)&&(backToKw cpos (keywordEach [] X.env)).all (λx=>x.1.isSome)
   && decide ([e].length+([]:Y AC).length+(if([]:Y AC).isEmpty then 0 else 1)<30))=true:=by rfl)(A:(apos.endLine==cpos.line)=true:=by rfl)(hs:swapsWith (.Call (.Attribute (.Name x p) "extend" apos) [e] [] cpos) O pos.line X.env=pure false:=by rfl):
  GL X (.Expr (.Call (.Attribute (.Name x p) "extend" apos) [e] [] cpos) pos) (R6 i f):=
 Vu (Lq (QD PySem.F.plainAttrs_list PySem.F.slot_list_extend PySem.F.type_list_extend Oi (za (i:=i) I m hd y) (uF G zj (by rw[g]<;>rfl)) s z A (by rw[g]<;>rfl) Y3) hs) λD σ H h=>by
  obtain⟨H0,ρ,r,E,e,q⟩:=h;obtain⟨b,eb,e⟩:=AT e;cases b with
  |o zs=>
   simp only[Wq]at e;split at e
   ·rename_i ds j;split at e
    ·rename_i B;cases e;obtain⟨v,e1,a,vs,rfl,d,l⟩:=E.val i _ j;refine⟨_,e1,.inl ⟨rfl,vs,.inl (.inl d)⟩,H0,ρ,_,E,eb,λu H1 c J t=>?_⟩;have w:=E.grow c;obtain⟨b,C,rfl,n,k⟩:=t;refine⟨a,b,vs,C,rfl,rfl,c _ _ d,n,by rw[l.length,k.length];exact B,q _ _ ?_⟩;exact w.QF j e1 (c _ _ d) ((l.kp (.of c)).append k)
    ·cases e
   ·cases e
  |_=>cases e
theorem IL(i:Nat){p:Pos}(j:QV X e f)(k:X.N[i]?=Z x:=by rfl)(a:Uv X.env.scope x:=by first|exact Kb rfl|exact ke (Kb Y3)|exact ke (ke Y3))(hd:fT x:=by decide)(b:(x==("__classdict__":AJ))=false:=by decide)(h:A9 [e] X.env=[(false,eval e X.env)]:=by rfl)(c:attributeBase (.Name x p) "extend" X.env (eval (.Name x p) X.env)=eval (.Name x p) X.env:=by rfl)(d:((AD cpos (A9 [e] X.env)).all (λx=>!x.1)&&(backToKw cpos (keywordEach [] X.env)).all (λx=>x.1.isSome)
   && decide ([e].length+([]:Y AC).length+(if([]:Y AC).isEmpty then 0 else 1)<30))=true:=by rfl)(g:(apos.endLine==cpos.line)=true:=by rfl)(hs:swapsWith (.Call (.Attribute (.Name x p) "extend" apos) [e] [] cpos) O pos.line X.env=pure false:=by rfl):
  Q0 X (.Expr (.Call (.Attribute (.Name x p) "extend" apos) [e] [] cpos) pos) (R6 i f):=⟨NM i j.run k a hd b h c d g hs⟩
section
variable{ek ev:Expr}{fk:Ev->S Bx}
end
section
variable{st:Expr}{fs:Ev->S Bx}
end
theorem OY{t:A1}{xs:Array A0}{x:A0}(hi:s.heap.IsTupleIter it t i)(e:s.heap.IsTuple t xs)(hx:xs[i]?=Z x)(b:∀h',h'.IsTupleIter it t (i+1)->Heap.SameBut it s.heap h'->Q x { s with heap:=h' }):A7 (A8 prog w) A (Builtin.SmallTypes.nextOf (.ref it)) Q E s:=by
 obtain⟨o,a,c,hd⟩:=id hi;obtain⟨p,hp,_,n,d⟩:=e;unfold Builtin.SmallTypes.nextOf;refine zb (QO (name:=Str.ofString "__next__") hi.typeIs kB (Jn kB hi.typeIs F.entry_tuple_iterator_next ?_ (F.args_tuple_iterator_next_1 _)));show A7 _ _ (field (.ref it) 0 >>= _) _ _ s;refine zb (QE a hd (x:=.ref t) Y3 ?_);show A7 _ _ (if(Value.ref t==Value.none)=true then _ else _) _ _ s;rw[zr (show ¬ ((Value.ref t==Value.none)=true) from ZO)];show A7 _ _ (field (.ref it) 1 >>= _) _ _ s;refine zb (QE a hd (x:=.int i 0) Y3 ?_);show A7 _ _ (seqItems? (.ref t) >>= _) _ _ s;refine zb (wpAny_seqItems hp d ?_);simp only[JS,hx];refine zb (wpAny_setField a hd (by simp) (zd ⟨x,rfl,zd (b _ ?_ (jS ..))⟩));exact⟨_,Heap.get?_update_self _ a (Obj.isFreed_of_fields (Obj.data_mapFields hd _)),(Obj.cls_mapFields ..).trans c,by rw[Obj.data_mapFields hd];simp[rawInt]⟩
theorem Kq{t:A1}{xs:Array A0}(c:A.handled=O)(hi:s.heap.IsTupleIter it t i)(g:s.heap.IsTuple t xs)(hx:xs[i]?=O)(d:∀h' e,Heap.ExtBut it s.heap h'->(∃o,h'.get? e=Z o/\o.cls=.type "StopIteration")->E (.ref e) { s with heap:=h' }):A7 (A8 prog w) A (Builtin.SmallTypes.nextOf (.ref it)) Q E s:=by
 obtain⟨o,b,h,hd⟩:=id hi;obtain⟨p,hp,_,n,f⟩:=g;unfold Builtin.SmallTypes.nextOf;refine zb (QO (name:=Str.ofString "__next__") hi.typeIs kB (Jn kB hi.typeIs F.entry_tuple_iterator_next ?_ (F.args_tuple_iterator_next_1 _)));show A7 _ _ (field (.ref it) 0 >>= _) _ _ s;refine zb (QE b hd (x:=.ref t) Y3 ?_);show A7 _ _ (if(Value.ref t==Value.none)=true then _ else _) _ _ s;rw[zr (show ¬ ((Value.ref t==Value.none)=true) from ZO)];show A7 _ _ (field (.ref it) 1 >>= _) _ _ s;refine zb (QE b hd (x:=.int i 0) Y3 ?_);show A7 _ _ (seqItems? (.ref t) >>= _) _ _ s;refine zb (wpAny_seqItems hp f ?_);simp only[JS,hx];refine zb (QI (zb (wpAny_setField b hd (by simp) ?_)));show A7 _ _ (newExc (.type "StopIteration") [] >>= _) _ _ _;refine zb ?_;simp only[newExc,newTuple];refine zb (qr ?_ (by size_fits));refine zb (m:=firstArgMember _ _) (wpAny_of_eq (a:=Value.none) (by first|rfl|(simp only[firstArgMember];rfl)) ?_);refine qr ?_ (by size_fits);simp only[raiseNew];refine zb (wpAny_handled ?_)
 first|rw[show A.in1.handled=O from c]|rw[c]
 refine zb (zd (wpAny_throw ?_));exact d _ _ (((jS ..).extBut.push _).push _) ⟨_,zz _ rfl,rfl⟩
theorem ad{a b:Nat}(h:a≠b):@Ne A1 a b:=h
theorem Dm:entryFor table "dict.update.loop"=Z Builtin.«dict.update.loop»:=entryFor_of_tree (by kernel_rfl)
section
variable{K:Type} [DecidableEq K] {knd:KeyKind prog w K}
end
def R7(ps:Y (AJ×Dt)):Y (AY×Dt):=ps.foldl (λa p=>Ie a (.inr p.1) p.2) []
theorem Dn{K:B6}{H:Hp}:∀{ps:Y (AJ×Dt)} {us:Y V} {acc:Y (AY×Dt)} {ks:Y (AY×V)},fX K H acc ks->aF K H (ps.map (·.2)) us->(∀p∈ps,p.1.length<=AA)->fX K H (ps.foldl (λacc p=>Ie acc (.inr p.1) p.2) acc) (vZ ks ((ps.map λp=>(Sum.inr p.1:AY)).zip us))
 |[],us,acc,ks,h,r,_=>by simpa[vZ]using h
 |p::ps,us,acc,ks,h,r,hl=>by
  obtain⟨u,c,rfl,d,b⟩:∃v r,us=v::r/\AW K H p.2 v/\aF K H (ps.map (·.2)) r:=by simpa only[zv,aF]using r
  exact Dn (ps:=ps) (us:=c) (acc:=Ie acc (.inr p.1) p.2) (ks:=BY ks (Sum.inr p.1) u) (h.put (x:=Sum.inr p.1) d (hl p (zt ..))) b λq a=>hl q (zo _ a)
section
variable{ea eb:Expr}{p1 pos1 pos2:Pos}
end
theorem lZ(xs:Au)(is:Y Nat)(a:closureFor scope X.env=pure cl:=by with_unfolding_all rfl)(b:scope.kind=.function:=by rfl)(c:scope.names.all (λy=>decide (y.2≠.cell)||(cl.lookup y.1).isNone)=true:=by rfl)(d:scope.names.all (λy=>decide (y.2=.local->scope.names.lookup y.1=Z .local))=true:=by decide +kernel)(sub:C5 X.env.cells cl:=by repeat (first|exact trivial|refine⟨rfl,?_⟩))(has:(relabel scope X.env).names.all (λy=>!(y.2==.cell||y.2==.free)||(cl.lookup y.1).isSome||scope.names.contains (y.1,.cell))=true:=by rfl)(e:BP X scope cl xs is:=by repeat (first|exact N4|refine V8 Y3 (by first|exact .inl rfl|exact .inr Y3) (by first|exact .inl rfl|exact .inr Y3) ⟨_,rfl⟩ ?_)):qy X scope cl xs is:=ML a b c d sub has e
theorem oR{a:Scope}(h1:a.kind=.function:=by rfl)(h2:a.isCoroutine=false:=by rfl)(c:a.isGenerator=false:=by rfl)(f:N.Nodup:=by decide +kernel)(e:N.take ps.length=ps:=by rfl)(d:∀x∈ps,a.names.lookup x=Z .local\/a.names.lookup x=Z .cell:=by decide +kernel)(b:∀y∈a.names,y.2≠.free:=by decide +kernel):cj N ps a:=⟨h1,h2,c,f,e,d,b⟩
instance:Inhabited Dt:=⟨.non⟩
theorem Ap(a:α)(f:α->S β):(Z a).bind f=f a:=(fg a f).trans (Eq.refl _)
def B5:S Prop->Prop
 |none=>True
 |some p=>p
def bf:S Prop->S Prop->S Prop
 |none,q=>q
 |some p,O=>Z p
 |some p,Z q=>Z (p/\q)
def yt(c:Prop):S Prop->S Prop
 |none=>O
 |some p=>Z (c->p)
theorem aB{p q:S Prop}(h:B5 (bf p q)):B5 p/\B5 q:=by
 cases p with
 |none=>exact⟨trivial,h⟩
 |some p=>cases q with
  |none=>exact⟨h,trivial⟩
  |some q=>exact h
theorem jj{c:Prop}{p:S Prop}(h:B5 (yt c p))(a:c):B5 p:=by
 cases p with
 |none=>trivial
 |some p=>exact h a
structure R {α β:Type} (f:Ev->Option β) (ρ:Ev) (c:α->β) where
 v:α
 D:Option Prop
 ok:B5 D->f ρ=some (c v)
abbrev zE(e:α->Dt):α->Bx:=λa=>.z (e a)
abbrev oE(e:α->Dt):Y α->Bx:=λxs=>.o (xs.map e)
abbrev lE(e:α->Dt):Y α->Bx:=λxs=>.l (xs.map e)
abbrev tE:Bool->Bool:=λb=>b
abbrev iE(e:α->Dt):Y α->Y Dt:=λxs=>xs.map e
abbrev eI:Int->Dt:=Dt.int
abbrev eB:Bool->Dt:=Dt.bl
abbrev eS:AJ->Dt:=Dt.str
abbrev eD:Dt->Dt:=λd=>d
abbrev eL(e:α->Dt):Y α->Dt:=λxs=>.lst (xs.map e)
abbrev eT(e:α->Dt):Y α->Dt:=λxs=>.tup (xs.map e)
abbrev eO(e:α->Dt):S α->Dt:=λo=>match o with|none=>.non|some a=>e a
abbrev FH(a:α->Dt):α->Dt:=λx=>.tup [a x]
abbrev yP(a:α->Dt)(b:β->Dt):α×β->Dt:=λx=>.tup [a x.1,b x.2]
abbrev Wr(a:α->Dt)(b:β->Dt)(c:γ->Dt):α×β×γ->Dt:=λx=>.tup [a x.1,b x.2.1,c x.2.2]
abbrev Ws(a:α->Dt)(b:β->Dt)(c:γ->Dt)(d:δ->Dt):α×β×γ×δ->Dt:=λx=>.tup [a x.1,b x.2.1,c x.2.2.1,d x.2.2.2]
structure RL {α:Type} (f:Ev->Option Bx) (ρ:Ev) (e:α->Dt) where
 v:List α
 D:Option Prop
 b:Bx
 lk:lX b=some (v.map e)
 ok:B5 D->f ρ=some b
section
variable{fs:Ev->S (Y Bx)}{e:α->Dt}{e':β->Dt}
def jk(a:R f ρ (oE e)):RL f ρ e:=⟨a.v,a.D,_,rfl,a.ok⟩
def jt(a:R f ρ (lE e)):RL f ρ e:=⟨a.v,a.D,_,rfl,a.ok⟩
def Aa(a:R f ρ (zE (eL e))):RL f ρ e:=⟨a.v,a.D,_,rfl,a.ok⟩
def Lp(b:Bx)(ds:Y Dt):Prop:=b=.z (.lst ds)\/b=.l ds
theorem Lp.zB(h:Lp b ds):lX b=Z ds:=by rcases h with rfl|rfl<;>rfl
theorem Lp.get{b:Bx}{ds:Y Dt}{i:Nat}(h:Lp b ds)(hi:ρ[i]?=Z (Z b)):uJ ρ i=Z b:=by
 rcases h with rfl|rfl<;>(unfold uJ;rw[hi])
theorem Ab(h:lX b=Z ds):Lp (P1.BA b) ds:=by
 cases b with
 |z d=>cases d<;>cases h;exact .inl rfl
 |l d=>cases h;exact .inr rfl
 |o d=>cases h;exact .inr rfl
 |n d=>cases h
 |m d _=>cases h
def aq(i:Nat)(c:α->Bx)(a:α)(h:uJ ρ i=Z (c a)):R (gv i) ρ c:=⟨a,O,λ_=>h⟩
def jZ(i:Nat)(e:α->Dt)(a:Y α)(h:Lp b (a.map e))(hi:ρ[i]?=Z (Z b)):RL (gv i) ρ e:=⟨a,O,b,h.zB,λ_=>h.get hi⟩
def qb(d:Dt)(e:α->Dt)(a:α)(h:d=e a):R (cB d) ρ (zE e):=⟨a,O,λ_=>by rw[h];rfl⟩
def gC(a:R f ρ (zE e)):R f ρ (zE eD):=⟨e a.v,a.D,a.ok⟩
def Kr(a:R f ρ (zE e)):R f ρ (zE (eO e)):=⟨Z a.v,a.D,a.ok⟩
def N0:R (cB .non) ρ (zE (eO e)):=⟨O,O,λ_=>Y3⟩
def jw[Inhabited α](a:R f ρ (zE (eO e))):R f ρ (zE e):=⟨a.v.getD default,bf a.D (Z (a.v.isSome=true)),λh=>by
 obtain⟨h1,h2⟩:=aB h;rw[a.ok h1];have h2:a.v.isSome=true:=h2;cases b:a.v with
 |none=>rw[b]at h2;cases h2
 |some x=>rfl⟩
def NX(a:R f ρ (oE e)):R (b1 uL f) ρ (zE (eL e)):=⟨a.v,a.D,λh=>by simp only[b1,a.ok h,Ap,uL]⟩
def jx(a:R f ρ (zE e)):R (b1 uL f) ρ (zE e):=⟨a.v,a.D,λh=>by simp only[b1,a.ok h,Ap,uL]⟩
def R8(a:R f ρ (zE eI)):R (b1 BX f) ρ (zE eI):=⟨-a.v,a.D,λh=>by simp only[b1,a.ok h,Ap,BX]⟩
def jy(a:R fa ρ (zE eI))(b:R fb ρ (zE eI)):R (b2 fG fa fb) ρ (zE eI):=⟨a.v+b.v,bf a.D b.D,λh=>by
 obtain⟨h1,h2⟩:=aB h;simp only[b2,a.ok h1,b.ok h2,Ap,fG]⟩
def EF(a b:Int):Prop:=(-18446744073709551616<a/\a<18446744073709551616)\/(-18446744073709551616<b/\b<18446744073709551616)
def XR(a:R fa ρ (zE eI))(b:R fb ρ (zE eI)):R (b2 tu fa fb) ρ (zE eI):=⟨a.v*b.v,bf (bf a.D b.D) (Z (EF a.v b.v)),λh=>by
 obtain⟨h,c⟩:=aB h;obtain⟨h1,h2⟩:=aB h;simp only[b2,a.ok h1,b.ok h2,Ap];exact zh c⟩
def FQ(n:Int)(a : -18446744073709551616<n/\n<18446744073709551616)(b:R fb ρ (zE eI)):R (b2 tu (cB (.int n)) fb) ρ (zE eI):=⟨n*b.v,b.D,λh=>by
 simp only[b2,b.ok h,Ap,cB];exact zh (.inl a)⟩
def MJ(a:R fa ρ (zE eI))(n:Int)(b : -18446744073709551616<n/\n<18446744073709551616):R (b2 tu fa (cB (.int n))) ρ (zE eI):=⟨a.v*n,a.D,λh=>by
 simp only[b2,a.ok h,Ap,cB];exact zh (.inr b)⟩
def OV(a:R fa ρ (zE eI))(b:R fb ρ (zE eI)):R (b2 qF fa fb) ρ (zE eI):=⟨a.v / b.v,bf (bf a.D b.D) (Z (0<b.v/\b.v<1073741824)),λh=>by
 obtain⟨h,c⟩:=aB h;obtain⟨h1,h2⟩:=aB h;have c:0<b.v/\b.v<1073741824:=c;simp only[b2,a.ok h1,b.ok h2,Ap,i2,zh c]⟩
def oU(a:R fa ρ (zE eI))(n:Int)(b:0<n/\n<1073741824):R (b2 qF fa (cB (.int n))) ρ (zE eI):=⟨a.v / n,a.D,λh=>by
 simp only[b2,a.ok h,Ap,i2,cB,zh b]⟩
def LF(a:R fa ρ (zE eI))(b:R fb ρ (zE eI)):R (b2 jh fa fb) ρ (zE eI):=⟨a.v%b.v,bf (bf a.D b.D) (Z (0<b.v)),λh=>by
 obtain⟨h,c⟩:=aB h;obtain⟨h1,h2⟩:=aB h;have c:0<b.v:=c;simp only[b2,a.ok h1,b.ok h2,Ap,i2,zh c]⟩
def dF(a:R fa ρ (zE eI))(n:Int)(b:0<n):R (b2 jh fa (cB (.int n))) ρ (zE eI):=⟨a.v%n,a.D,λh=>by
 simp only[b2,a.ok h,Ap,i2,cB,zh b]⟩
def IG(a b:Int)(n:Nat)(h:0<=b/\b<=1000/\a.natAbs<18446744073709551616)(c:b.toNat=n):R (b2 ZS (cB (.int a)) (cB (.int b))) ρ (zE eI):=⟨a ^ n,O,λ_=>by
 simp only[b2,Ap,cB];show((if 0<=b/\b<=1000/\a.natAbs<2 ^ 64 then Z (Dt.int (a ^ b.toNat))else O).bind λd=>Z (Bx.z d))=_;rw[zh h,c];rfl⟩
def GH(a:R fa ρ (zE eI))(b:R fb ρ (zE eI)):R (b2 ED fa fb) ρ (zE eB):=⟨decide (b.v<a.v),bf a.D b.D,λh=>by
 obtain⟨h1,h2⟩:=aB h;simp only[b2,a.ok h1,b.ok h2,Ap,i2]⟩
def CL(a:R fa ρ (zE eI))(b:R fb ρ (zE eI)):R (b2 ZR fa fb) ρ (zE eB):=⟨decide (b.v<=a.v),bf a.D b.D,λh=>by
 obtain⟨h1,h2⟩:=aB h;simp only[b2,a.ok h1,b.ok h2,Ap,i2]⟩
def XS(a:R fa ρ (zE eI))(b:R fb ρ (zE eI)):R (b2 DC fa fb) ρ (zE eB):=⟨decide (a.v<b.v),bf a.D b.D,λh=>by
 obtain⟨h1,h2⟩:=aB h;simp only[b2,a.ok h1,b.ok h2,Ap,DC]⟩
def Wt(x y:AJ):Bool:=decide (x.cps.toList<y.cps.toList)
end
class BB {α:Type} [DecidableEq α] (e:α->Dt) (n:outParam Nat):Prop where
 eq:∀a b,uy (e a) (e b)=some (decide (a=b))
 dp:∀a,rP (e a)<=n
class CF {α:Type} (e:α->Dt):Prop where
 l:∀a,uy .non (e a)=some false
 r:∀a,uy (e a) .non=some false
instance:BB eI 1:=⟨λa b=>rfl,λa=>by simp[rP]⟩
instance:BB eB 1:=⟨λa b=>rfl,λa=>by simp[rP]⟩
instance:BB eS 1:=⟨λa b=>rfl,λa=>by simp[rP]⟩
instance:CF eI:=⟨λa=>rfl,λa=>rfl⟩
instance:CF eB:=⟨λa=>rfl,λa=>rfl⟩
instance:CF eS:=⟨λa=>rfl,λa=>rfl⟩
section
variable [DecidableEq α] [DecidableEq β] [DecidableEq γ] [DecidableEq δ] {e:α->Dt}{e':β->Dt}{e'':γ->Dt}{e3:δ->Dt}{l:Nat}
theorem Ad[BB e n]:∀xs ys:Y α,jC (xs.map e) (ys.map e)=Z (decide (xs=ys))
 |[],[]=>by simp[jC]
 |[],y::ys=>by simp[jC]
 |x::xs,[]=>by simp[jC]
 |x::xs,y::ys=>by
  simp only[zv,jC,BB.eq,Ad xs ys];congr 1;by_cases h:x=y<;>by_cases h':xs=ys<;>simp[h,h']
theorem Ae[BB e n]:∀xs:Y α,uQ (xs.map e)<=n
 |[]=>by simp[uQ]
 |x::xs=>by
  have:=BB.dp (e:=e) x;have:=Ae xs;simp only[zv,uQ];omega
instance [BB e n]:BB (eL e) (n+1):=⟨λa b=>Ad a b,λa=>by simp only[rP];have:=Ae (e:=e) a;omega⟩
instance [BB e n]:BB (eT e) (n+1):=⟨λa b=>Ad a b,λa=>by simp only[rP];have:=Ae (e:=e) a;omega⟩
instance:CF (eL e):=⟨λa=>rfl,λa=>rfl⟩
instance:CF (eT e):=⟨λa=>rfl,λa=>rfl⟩
instance:CF (FH e):=⟨λa=>rfl,λa=>rfl⟩
instance:CF (yP e e'):=⟨λa=>rfl,λa=>rfl⟩
instance:CF (Wr e e' e''):=⟨λa=>rfl,λa=>rfl⟩
instance:CF (Ws e e' e'' e3):=⟨λa=>rfl,λa=>rfl⟩
instance [BB e n]:BB (FH e) (n+1):=⟨λa b=>by
 simp only[yF,jC,BB.eq,Kn],λa=>by
 have:=BB.dp (e:=e) a;simp only[rP,uQ];omega⟩
theorem D9{a b:Nat}(h:a<=n)(h':b<=m):max a b<=max n m:=Nat.max_le.mpr ⟨zi h (Nat.le_max_left ..),zi h' (Nat.le_max_right ..)⟩
theorem FB{a:Nat}(h:a<=n):max a 0<=n:=Nat.max_le.mpr ⟨h,qi _⟩
instance [BB e n] [BB e' m]:BB (yP e e') (max n m+1):=⟨λa b=>by
 obtain⟨a,a'⟩:=a;obtain⟨b,b'⟩:=b;simp only[yF,jC,BB.eq,yv,dl,Kn],λa=>yY (D9 (BB.dp (e:=e) a.1) (FB (BB.dp (e:=e') a.2)))⟩
instance [BB e n] [BB e' m] [BB e'' k]:BB (Wr e e' e'') (max n (max m k)+1):=⟨λa b=>by
 obtain⟨a,a',a2⟩:=a;obtain⟨b,b',b2⟩:=b;simp only[yF,jC,BB.eq,yv,dl,Kn],λa=>yY (D9 (BB.dp (e:=e) a.1) (D9 (BB.dp (e:=e') a.2.1) (FB (BB.dp (e:=e'') a.2.2))))⟩
instance [BB e n] [BB e' m] [BB e'' k] [BB e3 l]:BB (Ws e e' e'' e3) (max n (max m (max k l))+1):=⟨λa b=>by
 obtain⟨a,a',a2,a3⟩:=a;obtain⟨b,b',b2,b3⟩:=b;simp only[yF,jC,BB.eq,yv,dl,Kn],λa=>yY (D9 (BB.dp (e:=e) a.1) (D9 (BB.dp (e:=e') a.2.1) (D9 (BB.dp (e:=e'') a.2.2.1) (FB (BB.dp (e:=e3) a.2.2.2)))))⟩
instance [BB e n] [CF e]:BB (eO e) (n+1):=⟨λa b=>by
 cases a with
 |none=>cases b with
  |none=>exact rfl
  |some b=>exact(CF.l (e:=e) b).trans (by simp)
 |some a=>cases b with
  |none=>exact(CF.r (e:=e) a).trans (by simp)
  |some b=>exact(BB.eq (e:=e) a b).trans (by simp),λa=>by
 cases a with
 |none=>show rP .non<=n+1;simp[rP]
 |some a=>exact eN (BB.dp (e:=e) a)⟩
end
section
variable{fs:Ev->S (Y Bx)}{e:α->Dt}{e':β->Dt}
def BT[DecidableEq α][BB e n](c:n<=100)(a:R fa ρ (zE e))(b:R fb ρ (zE e)):R (b2 BM fa fb) ρ (zE eB):=⟨decide (a.v=b.v),bf a.D b.D,λh=>by
 obtain⟨h1,h2⟩:=aB h;have:=BB.dp (e:=e) a.v;simp only[b2,a.ok h1,b.ok h2,Ap,BM,oJ,toD,zS,or_self,qV,BB.eq];rw[zh ()]⟩
def GV[DecidableEq α][BB e n](c:n<=100)(a:R fa ρ (zE e))(b:R fb ρ (zE e)):R (b2 Kf fa fb) ρ (zE eB):=⟨!decide (a.v=b.v),bf a.D b.D,λh=>by
 obtain⟨h1,h2⟩:=aB h;have:=BB.dp (e:=e) a.v;simp only[b2,a.ok h1,b.ok h2,Ap,Kf,oJ,toD,zS,or_self,qV,BB.eq];rw[zh ()]⟩
theorem yQ(h:lX b=Z ds):toD b=.lst ds/\oJ b=false:=by
 cases b with
 |z d=>cases d<;>cases h;exact⟨rfl,rfl⟩
 |l d=>cases h;exact⟨rfl,rfl⟩
 |o d=>cases h;exact⟨rfl,rfl⟩
 |n d=>cases h
 |m d _=>cases h
def IY[DecidableEq α][BB e n](c:n+1<=100)(a:RL fa ρ e)(b:RL fb ρ e):R (b2 BM fa fb) ρ (zE eB):=⟨decide (a.v=b.v),bf a.D b.D,λh=>by
 obtain⟨h1,h2⟩:=aB h;have:=BB.dp (e:=eL e) a.v;simp only[b2,a.ok h1,b.ok h2,Ap,BM,(yQ a.lk).1,(yQ a.lk).2,(yQ b.lk).1,(yQ b.lk).2,zS,or_self,qV];have e1:=BB.eq (e:=eL e) a.v b.v;rw[zh (zi (Nat.min_le_left _ _) (zi (BB.dp (e:=eL e) a.v) c)),e1,Ap]⟩
def tM(a b:Dt):Bool:=(uy a b).getD false
def MK(a b:Dt):Prop:=(uy a b).isSome=true/\min (rP a) (rP b)<=100
def Dp(a:R fa ρ (zE eD))(b:R fb ρ (zE eD)):R (b2 BM fa fb) ρ (zE eB):=⟨tM a.v b.v,bf (bf a.D b.D) (Z (MK a.v b.v)),λh=>by
 obtain⟨h,c⟩:=aB h;obtain⟨h1,h2⟩:=aB h;obtain⟨c,d⟩:MK a.v b.v:=c;simp only[b2,a.ok h1,b.ok h2,Ap,BM,oJ,toD,zS,or_self,qV,zh d];cases hd:uy a.v b.v with
 |none=>rw[hd]at c;cases c
 |some k=>simp only[tM,hd,Ap,db];exact zh d⟩
def NU(a:R fa ρ (zE eD))(b:R fb ρ (zE eD)):R (b2 Kf fa fb) ρ (zE eB):=⟨!tM a.v b.v,bf (bf a.D b.D) (Z (MK a.v b.v)),λh=>by
 obtain⟨h,c⟩:=aB h;obtain⟨h1,h2⟩:=aB h;obtain⟨c,d⟩:MK a.v b.v:=c;simp only[b2,a.ok h1,b.ok h2,Ap,Kf,oJ,toD,zS,or_self,qV,zh d];cases hd:uy a.v b.v with
 |none=>rw[hd]at c;cases c
 |some k=>simp only[tM,hd,Ap,db];exact zh d⟩
def R9(a:R fa ρ (zE (eO e)))(b:∀x,zP (.z (e x))=false):R (b2 Z0 fa (cB .non)) ρ (zE eB):=⟨a.v.isNone,a.D,λh=>by
 simp only[b2,a.ok h,Ap,cB,Z0];cases c:a.v with
 |none=>rfl
 |some x=>simp only[Option.isNone_some,b]⟩
def yR(a:R fa ρ (zE (eO e)))(b:∀x,zP (.z (e x))=false):R (b2 xK fa (cB .non)) ρ (zE eB):=⟨a.v.isSome,a.D,λh=>by
 simp only[b2,a.ok h,Ap,cB,xK];cases c:a.v with
 |none=>rfl
 |some x=>simp only[ca,b,bP]⟩
def xT(a:R fa ρ (zE eB))(b:R fb ρ (zE eB)):R (zG fa fb) ρ (zE eB):=⟨a.v&&b.v,bf a.D (yt (a.v=true) b.D),λh=>by
 obtain⟨h1,h2⟩:=aB h;simp only[zG,a.ok h1,Ap,zF];cases c:a.v with
 |true=>simp only[QU,ei];exact b.ok (jj h2 c)
 |false=>simp only[zS,qV,bE]⟩
def Lu(a:R fa ρ (zE eB)):R (Vy fa) ρ (zE eB):=⟨!a.v,a.D,λh=>by simp only[Vy,a.ok h,Ap,zF]⟩
def Iv(a:R fa ρ (zE eB)):R (tV fa) ρ tE:=⟨a.v,a.D,λh=>by simp only[tV,a.ok h,Ap,Vw]⟩
def fj{g:Bx->Bx->S Bx}(a:R (b2 g fa fb) ρ (zE eB)):R (uT g fa fb) ρ tE:=⟨a.v,a.D,λh=>by simp only[uT,a.ok h,Ap,zF]⟩
def O8(a:R p ρ tE)(b:R q ρ tE):R (Uz p q) ρ tE:=⟨a.v||b.v,bf a.D (yt (a.v=false) b.D),λh=>by
 obtain⟨h1,h2⟩:=aB h;simp only[Uz,a.ok h1,Ap];cases c:a.v with
 |true=>simp only[QU,Bool.true_or]
 |false=>simp only[zS,qV,eh];exact b.ok (jj h2 c)⟩
def Af(a:R p ρ tE):R (BL p) ρ tE:=⟨!a.v,a.D,λh=>by simp only[BL,a.ok h,Ap]⟩
def NS{g g':Bx->Bx->S Bx}(a:R (b2 g fa fb) ρ (zE eB))(b:R (b2 g' fb fc) ρ (zE eB)):R (DO g g' fa fb fc) ρ (zE eB):=⟨a.v&&b.v,bf a.D (yt (a.v=true) b.D),λh=>by
 obtain⟨h1,e⟩:=aB h;have e1:=a.ok h1;simp only[b2]at e1;obtain⟨x,ex,e1⟩:=AT e1;obtain⟨y,c,e1⟩:=AT e1;simp only[DO,ex,c,Ap,e1,zF];cases d:a.v with
 |true=>
  have e2:=b.ok (jj e d);simp only[b2,c,Ap]at e2;simp only[QU,ei];exact e2
 |false=>simp only[zS,qV,bE]⟩
end
section
variable{ε:Type}{fd:Ev->S Bx}{fs:Ev->S (Y Bx)}{e:α->Dt}{e':β->Dt}{e'':γ->Dt}{e3:δ->Dt}
def HZ(e:α->Dt):R (cT fD aH) ρ (zE (eT e)):=⟨[],O,λ_=>Y3⟩
def HI(a:R fa ρ (zE e)):R (cT fD (ao fa aH)) ρ (zE (FH e)):=⟨a.v,a.D,λh=>by
 simp only[cT,ao,aH,a.ok h,Ap];rfl⟩
def tO(a:R fa ρ (zE e))(b:R fb ρ (zE e')):R (cT fD (ao fa (ao fb aH))) ρ (zE (yP e e')):=⟨(a.v,b.v),bf a.D b.D,λh=>by
 obtain⟨h1,h2⟩:=aB h;simp only[cT,ao,aH,a.ok h1,b.ok h2,Ap];rfl⟩
def FT(a:R fa ρ (zE e))(b:R fb ρ (zE e'))(c:R fc ρ (zE e'')):R (cT fD (ao fa (ao fb (ao fc aH)))) ρ (zE (Wr e e' e'')):=⟨(a.v,b.v,c.v),bf a.D (bf b.D c.D),λh=>by
 obtain⟨h1,h⟩:=aB h;obtain⟨h2,d⟩:=aB h;simp only[cT,ao,aH,a.ok h1,b.ok h2,c.ok d,Ap];rfl⟩
def FW(a:R fa ρ (zE e))(b:R fb ρ (zE e'))(c:R fc ρ (zE e''))(d:R fd ρ (zE e3)):R (cT fD (ao fa (ao fb (ao fc (ao fd aH))))) ρ (zE (Ws e e' e'' e3)):=⟨(a.v,b.v,c.v,d.v),bf a.D (bf b.D (bf c.D d.D)),λh=>by
 obtain⟨h1,h⟩:=aB h;obtain⟨h2,h⟩:=aB h;obtain⟨g,f⟩:=aB h;simp only[cT,ao,aH,a.ok h1,b.ok h2,c.ok g,d.ok f,Ap];rfl⟩
def dU(e:α->Dt):R aH ρ (λxs:Y α=>xs.map (zE e)):=⟨[],O,λ_=>Y3⟩
def aK(a:R fa ρ (zE e))(t:R fs ρ (λxs:Y α=>xs.map (zE e))):R (ao fa fs) ρ (λxs:Y α=>xs.map (zE e)):=⟨a.v::t.v,bf a.D t.D,λh=>by
 obtain⟨h1,h2⟩:=aB h;simp only[ao,a.ok h1,t.ok h2,Ap,zv]⟩
theorem u0:∀xs:Y α,Ep (xs.map (zE e))=Z (xs.map e)
 |[]=>rfl
 |x::xs=>by simp only[zv,Ep,u0 xs,Ap]
def qM(t:R fs ρ (λxs:Y α=>xs.map (zE e)))(a:t.v.length<=1000):R (cT rO fs) ρ (oE e):=⟨t.v,t.D,λh=>by
 simp only[cT,t.ok h,Ap,rO,zg,zh a,u0]⟩
def HR(t:R fs ρ (λxs:Y α=>xs.map (zE e)))(a:t.v.length<=1000):R (cT fD fs) ρ (zE (eT e)):=⟨t.v,t.D,λh=>by
 simp only[cT,t.ok h,Ap,fD,zg,zh a,u0]⟩
def lM(t:R fs ρ (λxs:Y Dt=>xs.map (zE eD)))(a:t.v.length<=1000):R (cT fD fs) ρ (zE eD):=⟨.tup t.v,t.D,λh=>by
 simp only[cT,t.ok h,Ap,fD,zg,zh a,u0,List.map_id_fun',id]⟩
def As[Inhabited α](xs:Y α)(i:Int):α:=(zq xs i).getD default
def In(n:Nat)(i:Int):Prop:=-(n:Int)<=i/\i<n
theorem q8{xs:Y α}{i:Int}(h:In xs.length i):∃x,zq xs i=Z x:=by
 obtain⟨h1,h2⟩:=h;unfold zq Zq;by_cases a:0<=i
 ·rw[zh a,zh h2];exact⟨xs[i.toNat]'(),Zs ()⟩
 ·rw[zr a,zh h1];exact⟨xs[(i+xs.length).toNat]'(),Zs ()⟩
theorem NN{xs:Y α}{i:Int}{x:α}(h:zq xs i=Z x):zq (xs.map e) i=Z (e x):=by
 unfold zq at h ⊢;rw[zg];obtain⟨j,a,h⟩:=AT h;rw[a,Ap,qv,h];rfl
theorem Sd[Inhabited α]{xs:Y α}{i:Int}(h:In xs.length i):zq (xs.map e) i=Z (e (As xs i)):=by
 obtain⟨x,hx⟩:=q8 h;rw[NN hx];unfold As;rw[hx];rfl
theorem Wu{i:Int}(h:lX b=Z ds):fH b (.z (.int i))=(zq ds i).bind λd=>Z (.z d):=by
 cases b with
 |z d=>cases d<;>cases h;rfl
 |l d=>cases h;rfl
 |o d=>cases h;rfl
 |n d=>cases h
 |m d _=>cases h
def j8[Inhabited α](a:RL fa ρ e)(b:R fb ρ (zE eI)):R (b2 fH fa fb) ρ (zE e):=⟨As a.v b.v,bf (bf a.D b.D) (Z (In a.v.length b.v)),λh=>by
 obtain⟨h,c⟩:=aB h;obtain⟨h1,h2⟩:=aB h;simp only[b2,a.ok h1,b.ok h2,Ap,Wu a.lk,Sd (show In a.v.length b.v from c)]⟩
def Iw[Inhabited α](a:R fa ρ (zE (eT e)))(b:R fb ρ (zE eI)):R (b2 fH fa fb) ρ (zE e):=⟨As a.v b.v,bf (bf a.D b.D) (Z (In a.v.length b.v)),λh=>by
 obtain⟨h,c⟩:=aB h;obtain⟨h1,h2⟩:=aB h;simp only[b2,a.ok h1,b.ok h2,Ap,fH,qG,Sd (show In a.v.length b.v from c)]⟩
def ch(x:AJ)(i:Int):AJ:=⟨#[(zq x.cps.toList i).getD 0]⟩
def MN(a:R fa ρ (zE eS))(b:R fb ρ (zE eI)):R (b2 fH fa fb) ρ (zE eS):=⟨ch a.v b.v,bf (bf a.D b.D) (Z (In a.v.length b.v)),λh=>by
 obtain⟨h,c⟩:=aB h;obtain⟨h1,h2⟩:=aB h;obtain⟨x,hx⟩:=q8 (xs:=a.v.cps.toList) (i:=b.v) (show In a.v.length b.v from c);simp only[b2,a.ok h1,b.ok h2,Ap,fH,hx,ch,db]⟩
def f9(d:Dt)(i:Int):Dt:=match fH (.z d) (.z (.int i))with|some (.z y)=>y|_=>.non
def Bv(d:Dt)(i:Int):Prop:=match d with
 |.tup ds=>In ds.length i
 |.lst ds=>In ds.length i
 |.str x=>In x.length i
 |_=>False
def mH(a:R fa ρ (zE eD))(b:R fb ρ (zE eI)):R (b2 fH fa fb) ρ (zE eD):=⟨f9 a.v b.v,bf (bf a.D b.D) (Z (Bv a.v b.v)),λh=>by
 obtain⟨h,d⟩:=aB h;obtain⟨h1,h2⟩:=aB h;have d:Bv a.v b.v:=d;simp only[b2,a.ok h1,b.ok h2,Ap];show fH (.z a.v) (.z (.int b.v))=Z (.z (f9 a.v b.v));unfold f9;cases e:a.v with
 |tup ds=>
  rw[e]at d;obtain⟨x,hx⟩:=q8 (show In ds.length b.v from d);simp only[fH,qG,Ap,hx]
 |lst ds=>
  rw[e]at d;obtain⟨x,hx⟩:=q8 (show In ds.length b.v from d);simp only[fH,qG,Ap,hx]
 |str x=>
  rw[e]at d;obtain⟨c,hx⟩:=q8 (xs:=x.cps.toList) (show In x.length b.v from d);simp only[fH,Ap,hx]
 |non=>rw[e]at d;exact absurd d id
 |bl _=>rw[e]at d;exact absurd d id
 |int _=>rw[e]at d;exact absurd d id
 |emp=>rw[e]at d;exact absurd d id⟩
def lN(a:R fa ρ (zE e))(g:α->β)(e':β->Dt)(i:Int)(h:∀x,fH (.z (e x)) (.z (.int i))=Z (.z (e' (g x)))):R (b2 fH fa (cB (.int i))) ρ (zE e'):=⟨g a.v,a.D,λhd=>by
 simp only[b2,a.ok hd,Ap,cB,h]⟩
def BE(xs:Y α)(lo hi:S Int):Y α:=(xs.drop (HT.gw xs.length 0 lo)).take (HT.gw xs.length xs.length hi-HT.gw xs.length 0 lo)
theorem MP(xs:Y α)(lo hi:S Int):C1 (xs.map e) lo hi=(BE xs lo hi).map e:=by
 unfold C1 BE;rw[zg,List.map_take,List.map_drop]
abbrev pE:S Int->S Int:=λo=>o
def Ag:R jD ρ pE:=⟨O,O,λ_=>Y3⟩
def Ah(a:R fa ρ (zE eI)):R (iY fa) ρ pE:=⟨Z a.v,a.D,λh=>by simp only[iY,a.ok h,Ap,Z6]⟩
variable{fl fh:Ev->S (S Int)}
theorem Wv(h:lX b=Z ds):Z7 b lo hi=Z (.o (C1 ds lo hi)):=by
 cases b with
 |z d=>cases d<;>cases h;rfl
 |l d=>cases h;rfl
 |o d=>cases h;rfl
 |n d=>cases h
 |m d _=>cases h
def GT(a:RL fa ρ e)(l:R fl ρ pE)(u:R fh ρ pE):R (zR fa fl fh) ρ (oE e):=⟨BE a.v l.v u.v,bf a.D (bf l.D u.D),λh=>by
 obtain⟨h1,h⟩:=aB h;obtain⟨h2,b⟩:=aB h;simp only[zR,a.ok h1,l.ok h2,u.ok b,Ap,Wv a.lk,MP]⟩
def Iz(a:R fa ρ (zE (eT e)))(l:R fl ρ pE)(u:R fh ρ pE):R (zR fa fl fh) ρ (zE (eT e)):=⟨BE a.v l.v u.v,bf a.D (bf l.D u.D),λh=>by
 obtain⟨h1,h⟩:=aB h;obtain⟨h2,b⟩:=aB h;simp only[zR,a.ok h1,l.ok h2,u.ok b,Ap,Z7,MP]⟩
def M5(a:R fa ρ (zE eS))(l:R fl ρ pE)(u:R fh ρ pE):R (zR fa fl fh) ρ (zE eS):=⟨Txt.slice a.v l.v u.v,bf a.D (bf l.D u.D),λh=>by
 obtain⟨h1,h⟩:=aB h;obtain⟨h2,b⟩:=aB h;simp only[zR,a.ok h1,l.ok h2,u.ok b,Ap,Z7]⟩
def Nl(a:R fa ρ (zE (eT e))):R (b2 Oz fa (b1 BX (cB (.int 1)))) ρ (zE (eT e)):=⟨a.v.reverse,a.D,λh=>by
 simp only[b2,b1,a.ok h,Ap,cB,BX,Oz,QU,zE,eT,List.map_reverse]⟩
def BZ(n:Nat):Prop:=n<=1000000
def FZ(a:R fa ρ (zE eS))(b:R fb ρ (zE eS)):R (b2 fG fa fb) ρ (zE eS):=⟨a.v++b.v,bf (bf a.D b.D) (Z (BZ (a.v.length+b.v.length))),λh=>by
 obtain⟨h,c⟩:=aB h;obtain⟨h1,h2⟩:=aB h;simp only[b2,a.ok h1,b.ok h2,Ap,fG,zh (show a.v.length+b.v.length<=Kg from c)]⟩
def Sg(a:R fa ρ (zE (eT e)))(b:R fb ρ (zE (eT e))):R (b2 fG fa fb) ρ (zE (eT e)):=⟨a.v++b.v,bf (bf a.D b.D) (Z (BZ (a.v.length+b.v.length))),λh=>by
 obtain⟨h,c⟩:=aB h;obtain⟨h1,h2⟩:=aB h;simp only[b2,a.ok h1,b.ok h2,Ap,fG,zg,zh (show a.v.length+b.v.length<=Kg from c),zE,eT,ZT]⟩
theorem Sh{e:Bx}{f:Y Dt}(h:lX b=Z ds)(h':lX e=Z f)(c:ds.length+f.length<=Kg):fG b e=Z (.o (ds++f)):=by
 cases b with
 |z d=>
  cases d<;>cases h;cases e with
  |z a=>cases a<;>cases h';exact zh c
  |l a=>cases h';exact zh c
  |o a=>cases h';exact zh c
  |n a=>cases h'
  |m a=>cases h'
 |l d=>
  cases h;cases e with
  |z a=>cases a<;>cases h';exact zh c
  |l a=>cases h';exact zh c
  |o a=>cases h';exact zh c
  |n a=>cases h'
  |m a=>cases h'
 |o d=>
  cases h;cases e with
  |z a=>cases a<;>cases h';exact zh c
  |l a=>cases h';exact zh c
  |o a=>cases h';exact zh c
  |n a=>cases h'
  |m a=>cases h'
 |n d=>cases h
 |m d _=>cases h
def Ku(a:RL fa ρ e)(b:RL fb ρ e):R (b2 fG fa fb) ρ (oE e):=⟨a.v++b.v,bf (bf a.D b.D) (Z (BZ (a.v.length+b.v.length))),λh=>by
 obtain⟨h,c⟩:=aB h;obtain⟨h1,h2⟩:=aB h;simp only[b2,a.ok h1,b.ok h2,Ap];rw[Sh a.lk b.lk (by rw[zg,zg];exact c)];simp only[oE,ZT]⟩
def Ll(a:R fa ρ (zE eS))(b:R fb ρ (zE eI)):R (b2 tu fa fb) ρ (zE eS):=⟨Txt.mul a.v b.v,bf (bf a.D b.D) (Z (b.v<=1000 ∧ -1000<=b.v/\a.v.length<=1000)),λh=>by
 obtain⟨h,c⟩:=aB h;obtain⟨h1,h2⟩:=aB h;simp only[b2,a.ok h1,b.ok h2,Ap];exact zh c⟩
theorem Sq(h:lX b=Z ds):rQ [b]=Z (.z (.int ds.length)):=by
 cases b with
 |z d=>cases d<;>cases h;rfl
 |l d=>cases h;rfl
 |o d=>cases h;rfl
 |n d=>cases h
 |m d _=>cases h
theorem Ss(h:lX b=Z ds):qG b=Z ds:=by
 cases b with
 |z d=>cases d<;>cases h;rfl
 |l d=>cases h;rfl
 |o d=>cases h;rfl
 |n d=>cases h
 |m d _=>cases h
def Co(a:RL fa ρ e):R (cT rQ (ao fa aH)) ρ (zE eI):=⟨(a.v.length:Int),a.D,λh=>by
 simp only[cT,ao,aH,a.ok h,Ap,Sq a.lk,zg]⟩
def tU(a:R fa ρ (zE eS)):R (cT rQ (ao fa aH)) ρ (zE eI):=⟨(a.v.length:Int),a.D,λh=>by
 simp only[cT,ao,aH,a.ok h,Ap,rQ]⟩
def u5(a:RL fa ρ e):R (cT oO (ao fa aH)) ρ (zE (eT e)):=⟨a.v,a.D,λh=>by
 simp only[cT,ao,aH,a.ok h,Ap,oO,Ss a.lk]⟩
def LP(a:R fa ρ (zE eI)):R (cT Rp (ao fa aH)) ρ (zE eI):=⟨if a.v<0 then -a.v else a.v,a.D,λh=>by
 simp only[cT,ao,aH,a.ok h,Ap,Rp]⟩
def Na(a:R fa ρ (zE eB)):R (cT Rq (ao fa aH)) ρ (zE eI):=⟨if a.v=true then 1 else 0,a.D,λh=>by
 simp only[cT,ao,aH,a.ok h,Ap,Rq]⟩
theorem wF:∀l:Y Bool,zT (l.map eB)=Z l
 |[]=>rfl
 |a::l=>by simp only[zv,zT,wF l,Ap]
def IK(a:RL fa ρ eB):R (cT C2 (ao fa aH)) ρ (zE eB):=⟨a.v.all id,a.D,λh=>by
 simp only[cT,ao,aH,a.ok h,Ap,C2,a.lk,wF]⟩
def N2(a:RL fa ρ eB):R (cT CH (ao fa aH)) ρ (zE eB):=⟨a.v.any id,a.D,λh=>by
 simp only[cT,ao,aH,a.ok h,Ap,CH,a.lk,wF]⟩
def Nd(a:R fa ρ (zE eI))(b:R fb ρ (zE eI)):R (cT Rw (ao fa (ao fb aH))) ρ (zE eI):=⟨if b.v<a.v then b.v else a.v,bf a.D b.D,λh=>by
 obtain⟨h1,h2⟩:=aB h;simp only[cT,ao,aH,a.ok h1,b.ok h2,Ap,Rw]⟩
theorem Bi:∀l:Au,zW (l.map eS)=Z l
 |[]=>rfl
 |a::l=>by simp only[zv,zW,Bi l,Ap]
def Lv(s:AJ)(a:RL fa ρ eS):R (b1 (Ib s) fa) ρ (zE eS):=⟨Txt.join s a.v,bf a.D (Z ((a.v.map (·.length)).sum+a.v.length*s.length<=100000)),λh=>by
 obtain⟨h,b⟩:=aB h;simp only[b1,a.ok h,Ap,Ib,a.lk,Bi];exact zh b⟩
def Ww(a:RL fa ρ eS):R (cT Ia (ao fa aH)) ρ (oE eS):=⟨xO a.v,bf a.D (Z (a.v.length<64)),λh=>by
 obtain⟨h,b⟩:=aB h;simp only[cT,ao,aH,a.ok h,Ap,Ia,a.lk,Bi];exact zh b⟩
def IV(a:R fa ρ (zE e))(g:α->β)(e':β->Dt)(lo hi:S Int)(b:fl ρ=Z lo)(c:fh ρ=Z hi)(h:∀x,Z7 (.z (e x)) lo hi=Z (.z (e' (g x)))):R (zR fa fl fh) ρ (zE e'):=⟨g a.v,a.D,λhd=>by
 simp only[zR,a.ok hd,b,c,Ap,h]⟩
def Kv(a:R f ρ (zE e))(g:α->β)(e':β->Dt)(h:∀x,e x=e' (g x)):R f ρ (zE e'):=⟨g a.v,a.D,λhd=>by rw[a.ok hd];exact congrArg (λd=>Z (Bx.z d)) (h a.v)⟩
def O9:Dt->Int
 |.int i=>i
 |_=>0
def Ca:Dt->AJ
 |.str x=>x
 |_=>⟨#[]⟩
def oV(a:R f ρ (zE eD))(g:Dt->α)(e:α->Dt):R f ρ (zE e):=⟨g a.v,bf a.D (Z (a.v=e (g a.v))),λhd=>by
 obtain⟨h1,h2⟩:=aB hd;have h2:a.v=e (g a.v):=h2;rw[a.ok h1];show Z (Bx.z a.v)=Z (Bx.z (e (g a.v)));rw[<-h2]⟩
class D6 {α:Type} (e:α->Dt):Prop where
 f:∀a,Rm (e a)=true
instance:D6 eI:=⟨λ_=>rfl⟩
instance:D6 eB:=⟨λ_=>rfl⟩
instance:D6 eS:=⟨λ_=>rfl⟩
end
structure AR {γ:Type} (cA:γ->List Bx->Prop) (fs:Ev->Option (List Bx)) (ρ:Ev) where
 v:γ
 D:Option Prop
 bs:List Bx
 h:cA v bs
 ok:B5 D->fs ρ=some bs
section
variable{ε σ:Type}{fd:Ev->S Bx}{fs:Ev->S (Y Bx)}{e:α->Dt}{e':β->Dt}{e'':γ->Dt}{e3:δ->Dt}
def aN:Unit->Y Bx->Prop:=λ_ bs=>bs=[]
def aZ(e:α->Dt)(t:γ->Y Bx->Prop):α×γ->Y Bx->Prop:=λx bs=>∃r,bs=.z (e x.1)::r/\t x.2 r
def aL(e:α->Dt)(t:γ->Y Bx->Prop):Y α×γ->Y Bx->Prop:=λx bs=>∃b r,bs=b::r/\lX b=Z (x.1.map e)/\t x.2 r
def bA:AR aN aH ρ:=⟨f8,O,[],rfl,λ_=>Y3⟩
def bw{t:γ->Y Bx->Prop}(a:R fa ρ (zE e))(r:AR t fs ρ):AR (aZ e t) (ao fa fs) ρ:=⟨(a.v,r.v),bf a.D r.D,_,⟨_,rfl,r.h⟩,λh=>by
 obtain⟨h1,h2⟩:=aB h;simp only[ao,a.ok h1,r.ok h2,Ap]⟩
def IW{t:γ->Y Bx->Prop}(a:RL fa ρ e)(r:AR t fs ρ):AR (aL e t) (ao fa fs) ρ:=⟨(a.v,r.v),bf a.D r.D,_,⟨_,_,rfl,a.lk,r.h⟩,λh=>by
 obtain⟨h1,h2⟩:=aB h;simp only[ao,a.ok h1,r.ok h2,Ap]⟩
def AZ{b:γ->Y Bx->Prop}{c:α->Bx}{T:γ->α}{d:γ->Option Prop}(S:∀v bs,b v bs->bs.length=n/\(B5 (d v)->F (bs.map BA)=Z (c (T v))))(a:AR b fs ρ):R (bU n F fs) ρ c:=⟨T a.v,bf a.D (d a.v),λh=>by
 obtain⟨h1,h2⟩:=aB h;obtain⟨f,e⟩:=S a.v a.bs a.h;simp only[bU,a.ok h1,Ap,zh f,e h2]⟩
theorem OG{bs:Y Bx}{c:α->Bx}(x:R g (bs.map Z++aa (n-bs.length) O) (λr=>An.rt (c r)))(h:B5 x.D):eZ n g bs=Z (c x.v):=by
 unfold eZ;rw[x.ok h];rfl
def Sv(xs:Y α)(P:α->S Prop):S Prop:=Z (∀x∈xs,B5 (P x))
theorem u6{fs:Ev->S (Y Dt)}{c:Ev}{g:α->Y Dt}{π:α->Bool}:∀xs:Y α,(∀x∈xs,∃a,gt (e x) c=Z a/\p a=Z (π x)/\(π x=true->fs a=Z (g x)))->wk gt p fs c (xs.map e)=Z ((xs.filter π).flatMap g)
 |[],_=>rfl
 |x::xs,h=>by
  obtain⟨a,h1,h2,d⟩:=h x (zt ..);have b:=u6 (g:=g) (π:=π) xs λy f=>h y (zo _ f);cases hp:π x with
  |true=>simp only[zv,wk,h1,Ap,h2,hp,QU,d hp,b,kb,jb]
  |false=>simp only[zv,wk,h1,Ap,h2,hp,b,kb,zS,qV]
theorem Ja{g:α->β}:∀xs:Y α,xs.flatMap (λx=>[e' (g x)])=(xs.map g).map e'
 |[]=>rfl
 |x::xs=>by rw[jb,Ja xs];rfl
theorem u9{b:Ev}{g:α->β}{π:α->Bool}(xs:Y α)(h:∀x∈xs,∃a,gt (e x) b=Z a/\p a=Z (π x)/\(π x=true->fe a=Z (.z (e' (g x))))):CK gt p fe b (xs.map e)=Z (((xs.filter π).map g).map e'):=by
 rw[<-Ja];exact u6 xs λx hx=>let ⟨a,h1,h2,h3⟩:=h x hx;⟨a,h1,h2,λhp=>by rw[h3 hp];rfl⟩
theorem C7{b:Ev}{g:α->β}(xs:Y α)(h:∀x∈xs,∃a,gt (e x) b=Z a/\fe a=Z (.z (e' (g x)))):CK gt m7 fe b (xs.map e)=Z ((xs.map g).map e'):=
 (u9 (π:=λ_=>true) xs λx hx=>let ⟨a,h1,h2⟩:=h x hx;⟨a,h1,rfl,λ_=>h2⟩).trans (by rw[ba.mpr λ_ _=>Y3])
def oW(it:R fi ρ (iE e))(a:α->Ev)(d:∀x,gt (e x) (gZ is ρ++aa n O)=Z (a x))(b:∀x,R fe (a x) (zE e')):R (dR fi gt m7 fe is n) ρ (oE e'):=⟨it.v.map λx=>(b x).v,bf (bf it.D (Z (it.v.length<=100000))) (Sv it.v λx=>(b x).D),λh=>by
 obtain⟨h,c⟩:=aB h;obtain⟨h1,h2⟩:=aB h;have c:∀x∈it.v,B5 (b x).D:=c;simp only[dR,it.ok h1,Ap,zg,zh (show it.v.length<=100000 from h2),C7 it.v λx hx=>⟨a x,d x,(b x).ok (c x hx)⟩]⟩
def yS(it:R fi ρ (iE e))(a:α->Ev)(c:∀x,gt (e x) (gZ is ρ++aa n O)=Z (a x))(b:∀x,R fe (a x) (zE e'))(d:∀x,(b x).D=O):R (dR fi gt m7 fe is n) ρ (oE e'):=⟨it.v.map λx=>(b x).v,bf it.D (Z (it.v.length<=100000)),λh=>by
 obtain⟨h1,h2⟩:=aB h;simp only[dR,it.ok h1,Ap,zg,zh (show it.v.length<=100000 from h2),C7 it.v λx hx=>⟨a x,c x,(b x).ok (by rw[d x];trivial)⟩]⟩
def q9(it:R fi ρ (iE e))(a:α->Ev)(d:∀x,gt (e x) (gZ is ρ++aa n O)=Z (a x))(t:∀x,R p (a x) tE)(b:∀x,R fe (a x) (zE e')):R (dR fi gt p fe is n) ρ (oE e'):=⟨(it.v.filter λx=>(t x).v).map λx=>(b x).v,bf (bf it.D (Z (it.v.length<=100000))) (Sv it.v λx=>bf (t x).D (yt ((t x).v=true) (b x).D)),λh=>by
 obtain⟨h,c⟩:=aB h;obtain⟨h1,h2⟩:=aB h;have c:∀x∈it.v,B5 (bf (t x).D (yt ((t x).v=true) (b x).D)):=c;simp only[dR,it.ok h1,Ap,zg,zh (show it.v.length<=100000 from h2),u9 it.v λx hx=>⟨a x,d x,(t x).ok (aB (c x hx)).1,λf=>(b x).ok (jj (aB (c x hx)).2 f)⟩]⟩
def Jb(it:R fi ρ (iE e))(a:α->Ev)(d:∀x,gt (e x) (gZ is ρ++aa n O)=Z (a x))(t:∀x,R p (a x) tE)(b:∀x,R fe (a x) (zE e'))(f:∀x,(t x).D=O)(c:∀x,(b x).D=O):R (dR fi gt p fe is n) ρ (oE e'):=⟨(it.v.filter λx=>(t x).v).map λx=>(b x).v,bf it.D (Z (it.v.length<=100000)),λh=>by
 obtain⟨h1,h2⟩:=aB h;simp only[dR,it.ok h1,Ap,zg,zh (show it.v.length<=100000 from h2),u9 it.v λx hx=>⟨a x,d x,(t x).ok (by rw[f x];trivial),λ_=>(b x).ok (by rw[c x];trivial)⟩]⟩
def Cd(a:RL fa ρ e):R (zV fa) ρ (iE e):=⟨a.v,a.D,λh=>by
 have:VP a.b=Z (a.v.map e):=by
  have:=a.lk
  revert this
  generalize a.b=b;generalize a.v.map e=ds;intro this;cases b with
  |z d=>cases d<;>cases this;rfl
  |l d=>cases this;rfl
  |o d=>cases this;rfl
  |n d=>cases this
  |m d _=>cases this
 simp only[zV,a.ok h,Ap,this]⟩
def Ga(a:R fa ρ (zE (eT e))):R (zV fa) ρ (iE e):=⟨a.v,a.D,λh=>by simp only[zV,a.ok h,Ap,VP]⟩
def GB(a:R fa ρ (oE e)):R (C' fa) ρ (iE e):=⟨a.v,a.D,λh=>by simp only[C',a.ok h,Ap,VG]⟩
def Mm(a:R fa ρ (zE (eT e))):R (C' fa) ρ (iE e):=⟨a.v,a.D,λh=>by simp only[C',a.ok h,Ap,VG]⟩
def rng(i:Int)(n:Nat):Y Int:=(av n).map λk:Nat=>i+(k:Int)
theorem Gb(i:Int)(n:Nat):zL i n=(rng i n).map eI:=by
 unfold zL rng;rw[ZU];rfl
def Rg(j:Int):Prop:=-4611686018427387904<=j/\j<4611686018427387904
def Ai(a:R fa ρ (zE eI)):R (JX (ao fa aH)) ρ (iE eI):=⟨rng 0 a.v.toNat,bf a.D (Z (Rg a.v)),λh=>by
 obtain⟨h,b⟩:=aB h;simp only[JX,ao,aH,a.ok h,Ap];show(if -(2 ^ 62)<=a.v/\a.v<2 ^ 62 then Z (zL 0 a.v.toNat)else O)=_;exact(zh b).trans (by rw[Gb])⟩
def MT(n:Int)(m:Nat)(b:n.toNat=m)(a:Rg n):R (JX (ao (cB (.int n)) aH)) ρ (iE eI):=⟨rng 0 m,O,λ_=>by
 simp only[JX,ao,aH,Ap,cB];show(if -(2 ^ 62)<=n/\n<2 ^ 62 then Z (zL 0 n.toNat)else O)=_;exact(zh a).trans (by rw[Gb,b])⟩
def K'(a:R fa ρ (zE eI))(b:R fb ρ (zE eI)):R (F5 (ao fa (ao fb aH))) ρ (iE eI):=⟨rng a.v (b.v-a.v).toNat,bf (bf a.D b.D) (Z (Rg a.v/\Rg b.v)),λh=>by
 obtain⟨h,c⟩:=aB h;obtain⟨h1,h2⟩:=aB h;simp only[F5,ao,aH,a.ok h1,b.ok h2,Ap];show(if(-(2 ^ 62)<=a.v/\a.v<2 ^ 62) ∧ -(2 ^ 62)<=b.v/\b.v<2 ^ 62 then Z (zL a.v (b.v-a.v).toNat)else O)=_;exact(zh c).trans (by rw[Gb])⟩
end
section
variable{ε σ:Type}{fd:Ev->S Bx}{fs:Ev->S (Y Bx)}{e:α->Dt}{e':β->Dt}{k:Ev->S An}{cO:γ->An}
theorem oX{ρ':Ev}(h:g1 ρ=Z (.nx ρ')):aJ g1 k ρ=k ρ':=by
 unfold aJ;rw[h];rfl
def cM(x:R (aJ g (aJ g1 k)) ρ cO):R (aJ (aJ g g1) k) ρ cO:=⟨x.v,x.D,λh=>by
 rw[<-x.ok h];unfold aJ;cases g ρ with
 |none=>rfl
 |some o=>cases o<;>rfl⟩
def dB(x:R k ρ cO):R (aJ gn k) ρ cO:=⟨x.v,x.D,λh=>x.ok h⟩
def eV(x:γ)(h:cO x=.nx (kill is ρ)):R (ji is) ρ cO:=⟨x,O,λ_=>by rw[h];rfl⟩
def dh{c:α->Bx}(inj:α->γ)(a:R f ρ c)(h:∀x,cO (inj x)=.rt (c x))(b:∀x,Q6 (c x)=Z (.rt (c x))):R (aJ (fZ f) k) ρ cO:=⟨inj a.v,a.D,λhd=>by
 have:fZ f ρ=Z (.rt (c a.v)):=by unfold fZ;rw[a.ok hd,Ap,b]
 unfold aJ;rw[this,h];rfl⟩
def Sw{c:α->Bx}(i:Nat)(inj:α->γ)(a:α)(hi:ρ[i]?=Z (Z (c a)))(h:∀x,cO (inj x)=.rt (c x))(b:∀x,Q6 (c x)=Z (.rt (c x))):R (aJ (Er i) k) ρ cO:=⟨inj a,O,λhd=>by
 have:Er i ρ=Z (.rt (c a)):=by unfold Er;rw[hi];exact b a
 unfold aJ;rw[this,h];rfl⟩
def cg{c:α->Bx}(i:Nat)(a:R f ρ c)(b:∀x,Q7 ρ i (c x)=Z (ρ.set i (Z (c x))))(K:∀x,R k (ρ.set i (Z (c x))) cO):R (aJ (B0 i f) k) ρ cO:=⟨(K a.v).v,bf a.D (K a.v).D,λhd=>by
 obtain⟨h1,h2⟩:=aB hd;rw[oX (ρ':=ρ.set i (Z (c a.v))) (by unfold B0;rw[a.ok h1,Ap,b,Ap])];exact(K a.v).ok h2⟩
def M6(a:R f ρ (zE e))(b:α->Ev)(c:∀x,gt (e x) ρ=Z (b x))(K:∀x,R k (b x) cO):R (aJ (Ow gt f) k) ρ cO:=⟨(K a.v).v,bf a.D (K a.v).D,λhd=>by
 obtain⟨h1,h2⟩:=aB hd;rw[oX (ρ':=b a.v) (by unfold Ow;rw[a.ok h1,Ap];simp only[c,Ap])];exact(K a.v).ok h2⟩
def NG(i j:Nat)(a:R fa ρ (zE e))(b:R fb ρ (zE e'))(K:∀x y,R k ((ρ.set i (Z (.z (e x)))).set j (Z (.z (e' y)))) cO):R (aJ (EU i j (ao fa (ao fb aH))) k) ρ cO:=⟨(K a.v b.v).v,bf (bf a.D b.D) (K a.v b.v).D,λhd=>by
 obtain⟨h1,c⟩:=aB hd;obtain⟨h1,h2⟩:=aB h1;rw[oX (ρ':=(ρ.set i (Z (.z (e a.v)))).set j (Z (.z (e' b.v)))) (by unfold EU;simp only[ao,aH,a.ok h1,b.ok h2,Ap,VD])];exact(K a.v b.v).ok c⟩
def M7(i:Nat)(xs:Y α)(hi:ρ[i]?=Z (Z (.o (xs.map e))))(a:R f ρ (zE e))(K:∀ys:Y α,R k (ρ.set i (Z (.o (ys.map e)))) cO):R (aJ (Ox i f) k) ρ cO:=⟨(K (xs++[a.v])).v,bf (bf a.D (Z (BZ xs.length))) (K (xs++[a.v])).D,λhd=>by
 obtain⟨h1,b⟩:=aB hd;obtain⟨h1,h2⟩:=aB h1;have h2:xs.length<=1000000:=h2;rw[oX (ρ':=ρ.set i (Z (.o ((xs++[a.v]).map e)))) (by
  unfold Ox;rw[a.ok h1,Ap];simp only[VF,hi,zg,ZT,zv,Q3];rw[zh (cb h2 ())])]
 exact(K _).ok b⟩
def j4(t:R p ρ tE)(a:R (aJ g1 k) ρ cO)(b:R (aJ g2 k) ρ cO):R (aJ (xG p g1 g2) k) ρ cO:=⟨if t.v=true then a.v else b.v,bf t.D (bf (yt (t.v=true) a.D) (yt (t.v=false) b.D)),λhd=>by
 obtain⟨h1,h2⟩:=aB hd;obtain⟨h2,f⟩:=aB h2;have e1:∀c,t.v=c->aJ (xG p g1 g2) k ρ=aJ (if c=true then g1 else g2) k ρ:=λc e=>by
  unfold aJ xG;rw[t.ok h1,Ap,e];cases c<;>rfl
 cases d:t.v with
 |true=>rw[e1 true d];simp only[QU];exact a.ok (jj h2 d)
 |false=>rw[e1 false d];simp only[zS,qV];exact b.ok (jj f d)⟩
def Sx(E:σ->Ev)(t:R p ρ tE)(a:R g1 ρ (λs=>An.nx (E s)))(b:R g2 ρ (λs=>An.nx (E s)))(K:∀s,R k (E s) cO):R (aJ (xG p g1 g2) k) ρ cO:=⟨(K (if t.v=true then a.v else b.v)).v,bf (bf t.D (bf (yt (t.v=true) a.D) (yt (t.v=false) b.D))) (K (if t.v=true then a.v else b.v)).D,λhd=>by
 obtain⟨h,d⟩:=aB hd;obtain⟨h1,h2⟩:=aB h;obtain⟨h2,e⟩:=aB h2;rw[oX (ρ':=E (if t.v=true then a.v else b.v)) (by
  unfold xG;rw[t.ok h1,Ap];cases c:t.v with
  |true=>simp only[QU];exact a.ok (jj h2 c)
  |false=>simp only[zS,qV];exact b.ok (jj e c))]
 exact(K _).ok d⟩
def wG(step:σ->α->σ)(P:σ->α->S Prop):Y α->σ->Prop
 |[],_=>True
 |x::xs,s=>B5 (P s x)/\wG step P xs (step s x)
theorem Aj{gb:Ev->S An}(E:σ->Ev)(a:σ->α->Ev)(b:∀s x,gt (e x) (E s)=Z (a s x))(body:∀s x,R gb (a s x) (λs=>An.nx (E s))):∀(xs:Y α) (s:σ),wG (λs x=>(body s x).v) (λs x=>(body s x).D) xs s->yq gt gb (xs.map e) (E s)=Z (.nx (E (xs.foldl (λs x=>(body s x).v) s)))
 |[],s,_=>rfl
 |x::xs,s,h=>by
  simp only[zv,yq,b,Ap,(body s x).ok h.1,kg];exact Aj E a b body xs _ h.2
def Dq(E:σ->Ev)(a:σ)(c:ρ=E a)(it:R fi ρ (iE e))(b:σ->α->Ev)(d:∀s x,gt (e x) (E s)=Z (b s x))(body:∀s x,R gb (b s x) (λs=>An.nx (E s)))(K:∀s,R k (E s) cO):R (aJ (nM fi gt gb) k) ρ cO:=⟨(K (it.v.foldl (λs x=>(body s x).v) a)).v,bf (bf it.D (Z (wG (λs x=>(body s x).v) (λs x=>(body s x).D) it.v a))) (K (it.v.foldl (λs x=>(body s x).v) a)).D,λhd=>by
 obtain⟨h,f⟩:=aB hd;obtain⟨h1,h2⟩:=aB h;rw[oX (ρ':=E (it.v.foldl (λs x=>(body s x).v) a)) (by
  unfold nM;rw[it.ok h1,Ap];subst c;exact Aj E b d body it.v a h2)]
 exact(K _).ok f⟩
def HP(E:σ->Ev)(a:σ)(c:ρ=E a)(it:R fi ρ (iE e))(b:σ->α->Ev)(g:∀s x,gt (e x) (E s)=Z (b s x))(body:∀s x,R gb (b s x) (λs=>An.nx (E s)))(f:∀s x,(body s x).D=O)(K:∀s,R k (E s) cO):R (aJ (nM fi gt gb) k) ρ cO:=⟨(K (it.v.foldl (λs x=>(body s x).v) a)).v,bf it.D (K (it.v.foldl (λs x=>(body s x).v) a)).D,λhd=>by
 obtain⟨h1,h⟩:=aB hd;have h2:∀(xs:Y α) (s:σ),wG (λs x=>(body s x).v) (λs x=>(body s x).D) xs s:=λxs=>by
  induction xs with
  |nil=>intro s;trivial
  |cons x xs d=>intro s;exact⟨by show B5 (body s x).D;rw[f s x];trivial,d _⟩
 rw[oX (ρ':=E (it.v.foldl (λs x=>(body s x).v) a)) (by
  unfold nM;rw[it.ok h1,Ap];subst c;exact Aj E b g body it.v a (h2 _ _))]
 exact(K _).ok h⟩
inductive oh (σ τ:Type) where
 |nx (s:σ)|rt (r:τ)|bk (s:σ)|ct (s:σ)
def cC(E:σ->Ev)(c:τ->Bx):oh σ τ->An
 |.nx s=>.nx (E s)
 |.rt r=>.rt (c r)
 |.bk s=>.bk (E s)
 |.ct s=>.ct (E s)
def ju(step:σ->α->oh σ τ):Y α->σ->oh σ τ
 |[],s=>.nx s
 |x::xs,s=>match step s x with
  |.nx s'=>ju step xs s'
  |.ct s'=>ju step xs s'
  |.bk s'=>.nx s'
  |.rt r=>.rt r
def nT(step:σ->α->oh σ τ)(P:σ->α->S Prop):Y α->σ->Prop
 |[],_=>True
 |x::xs,s=>B5 (P s x)/\match step s x with
  |.nx s'=>nT step P xs s'
  |.ct s'=>nT step P xs s'
  |.bk _=>True
  |.rt _=>True
theorem Gd{c:τ->Bx}(E:σ->Ev)(a:σ->α->Ev)(b:∀s x,gt (e x) (E s)=Z (a s x))(body:∀s x,R gb (a s x) (cC E c)):∀(xs:Y α) (s:σ),nT (λs x=>(body s x).v) (λs x=>(body s x).D) xs s->yq gt gb (xs.map e) (E s)=Z (cC E c (ju (λs x=>(body s x).v) xs s))
 |[],s,_=>rfl
 |x::xs,s,h=>by
  obtain⟨h1,h2⟩:=h;dsimp only at h2;simp only[zv,yq,b,Ap,(body s x).ok h1,ju]
  revert h2
  cases(body s x).v with
  |nx s'=>intro h2;exact Gd E a b body xs s' h2
  |ct s'=>intro h2;exact Gd E a b body xs s' h2
  |bk s'=>intro _;rfl
  |rt r=>intro _;rfl
theorem Ak(step:σ->α->oh σ τ):∀(xs:Y α) (s:σ),(∃s',ju step xs s=.nx s')\/∃r,ju step xs s=.rt r
 |[],s=>.inl ⟨s,rfl⟩
 |x::xs,s=>by
  unfold ju;cases step s x with
  |nx s'=>exact Ak step xs s'
  |ct s'=>exact Ak step xs s'
  |bk s'=>exact .inl ⟨s',rfl⟩
  |rt r=>exact .inr ⟨r,rfl⟩
def C3(r:oh σ τ)(inj:τ->γ)(K:σ->γ):γ:=match r with
 |.rt r=>inj r
 |.nx s=>K s
 |.bk s=>K s
 |.ct s=>K s
def yU(r:oh σ τ)(K:σ->Prop):Prop:=match r with
 |.rt _=>True
 |.nx s=>K s
 |.bk s=>K s
 |.ct s=>K s
def Wx(r:oh σ τ)(K:σ->S Prop):S Prop:=Z (yU r λs=>B5 (K s))
def Kw{c:τ->Bx}(E:σ->Ev)(a:σ)(f:ρ=E a)(it:R fi ρ (iE e))(b:σ->α->Ev)(g:∀s x,gt (e x) (E s)=Z (b s x))(body:∀s x,R gb (b s x) (cC E c))(inj:τ->γ)(i:∀r,cO (inj r)=.rt (c r))(K:∀s,R k (E s) cO):R (aJ (nM fi gt gb) k) ρ cO:=⟨C3 (ju (λs x=>(body s x).v) it.v a) inj λs=>(K s).v,bf (bf it.D (Z (nT (λs x=>(body s x).v) (λs x=>(body s x).D) it.v a))) (Wx (ju (λs x=>(body s x).v) it.v a) λs=>(K s).D),λhd=>by
 obtain⟨h,d⟩:=aB hd;obtain⟨h1,h2⟩:=aB h;have e1:nM fi gt gb ρ=Z (cC E c (ju (λs x=>(body s x).v) it.v a)):=by
  unfold nM;rw[it.ok h1,Ap];subst f;exact Gd E b g body it.v a h2
 rcases Ak (λs x=>(body s x).v) it.v a with⟨s',es⟩|⟨r,es⟩
 ·rw[es]at e1 d ⊢;rw[oX e1];exact(K s').ok d
 ·rw[es]at e1 ⊢;show aJ (nM fi gt gb) k ρ=Z (cO (inj r));unfold aJ;rw[e1,i];rfl⟩
class Ky {κ:Type} (c:κ->AY):Prop where
 inj:∀a b,c a=c b->a=b
abbrev kS:AJ->AY:=Sum.inr
abbrev kI:Int->AY:=Sum.inl
instance:Ky kS:=⟨λ_ _ h=>by cases h;rfl⟩
instance:Ky kI:=⟨λ_ _ h=>by cases h;rfl⟩
abbrev mE(e:α->Dt):Y (AJ×α)->Bx:=λm=>.m (m.map λq=>(kS q.1,e q.2)) O
abbrev nE(e:α->Dt):Y (AJ×α)->Bx:=λm=>.n (m.map λq=>(kS q.1,e q.2))
section
variable [DecidableEq κ] {c:κ->AY}
def look[Inhabited α](m:Y (κ×α))(x:κ):α:=((m.find? λq=>decide (q.1=x)).map (·.2)).getD default
def has(m:Y (κ×α))(x:κ):Bool:=m.any λq=>decide (q.1=x)
def put(m:Y (κ×α))(x:κ)(a:α):Y (κ×α):=if has m x=true then m.map (λq=>if q.1=x then(q.1,a)else q)else m++[(x,a)]
theorem X3[Ky c](a b:κ):decide (c a=c b)=decide (a=b):=by
 by_cases h:a=b
 ·rw[h];simp
 ·rw[zI h,zI λz=>h (Ky.inj (c:=c) _ _ z)]
theorem Sy[Ky c](m:Y (κ×α))(x:κ):zY (m.map λq=>(c q.1,e q.2)) (c x)=((m.find? λq=>decide (q.1=x)).map (·.2)).map e:=by
 unfold zY;rw[List.find?_map];simp only[Option.map_map,Function.comp_def,X3]
theorem SJ[Ky c][Inhabited α]{m:Y (κ×α)}{x:κ}(h:has m x=true):zY (m.map λq=>(c q.1,e q.2)) (c x)=Z (e (look m x)):=by
 rw[Sy];unfold look;unfold has at h;rw[kc]at h;obtain⟨q,a,hx⟩:=h;cases b:m.find? λq=>decide (q.1=x)with
 |none=>exact absurd hx (by simpa using List.find?_eq_none.mp b q a)
 |some q=>rfl
theorem Wy[Ky c](m:Y (κ×α))(x:κ)(a:α):Ie (m.map λq=>(c q.1,e q.2)) (c x) (e a)=(put m x a).map λq=>(c q.1,e q.2):=by
 unfold Ie put has;rw[eC];simp only[Function.comp_def,X3];by_cases h:(m.any λq=>decide (q.1=x))=true
 ·rw[zh h,zh h];rw[ZU,ZU];refine KP λq _=>?_;simp only[Function.comp];by_cases b:q.1=x
  ·simp[b]
  ·have h':¬ c q.1=c x:=λz=>b (Ky.inj (c:=c) _ _ z);simp[b,h']
 ·rw[zr h,zr h];simp
end
def Gf[Inhabited α](a:R fa ρ (nE e))(b:R fb ρ (zE eS)):R (b2 uW fa fb) ρ (zE e):=⟨look a.v b.v,bf (bf a.D b.D) (Z (has a.v b.v=true)),λh=>by
 obtain⟨h,d⟩:=aB h;obtain⟨h1,h2⟩:=aB h;simp only[b2,a.ok h1,b.ok h2,Ap,uW,DV,SJ (c:=kS) (show has a.v b.v=true from d)]⟩
end
section
variable{fs:Ev->S Au}{e:α->Dt}
theorem Gg(h:lX b=Z ds):qG b=Z ds:=by
 cases b with
 |z d=>cases d<;>first|exact h|(cases h;done)
 |l _=>exact h
 |o _=>exact h
 |n _=>cases h
 |m _ _=>cases h
theorem X4(n:Nat):∃m,m=n:=⟨n,rfl⟩
noncomputable def kN(n:Nat):Nat:=Classical.choose (X4 n)
theorem SM(n:Nat):kN n=n:=Classical.choose_spec (X4 n)
noncomputable def SN(n:Int)(m:Nat)(b:n.toNat=m)(a:Rg n):R (JX (ao (cB (.int n)) aH)) ρ (iE eI):=⟨rng 0 (kN m),O,λh=>by rw[SM];exact(MT n m b a).ok h⟩
end
end P1
namespace P1
open L2 S1 S6
class mJ {α:Type} (e:α->Dt) where
 k:α->AY
 ok:∀a,F2 (e a)=some (k a)
 inj:∀a b,k a=k b->a=b
 same:∀a b,Mt (k a) (k b)=true
instance:mJ eI:=⟨λi=>.inl i,λ_=>rfl,λa b h=>by cases h;rfl,λ_ _=>rfl⟩
instance:mJ eS:=⟨λi=>.inr i,λ_=>rfl,λa b h=>by cases h;rfl,λ_ _=>rfl⟩
class mj {α:Type} (e:α->Dt) where
 k:α->List AY
 ok:∀a,Di (e a)=some (k a)
 inj:∀a b,k a=k b->a=b
 shp:∀a b,Ik (k a) (k b)=true
 ne:∀a,(k a).isEmpty=false
class FC {α:Type} (e:α->Dt) [mj e]:Prop where
 tx:∀a,Wn (mj.k e a)=true
section
variable{e:α->Dt}{e':β->Dt}{e'':γ->Dt}{e3:δ->Dt}
instance [mJ e] [mJ e']:mj (yP e e'):=⟨λq=>[mJ.k e q.1,mJ.k e' q.2],λq=>by simp only[Di,Dh,mJ.ok,Ap],λa b h=>by
 simp only[KM,and_true]at h;exact yT (mJ.inj _ _ h.1) (mJ.inj _ _ h.2),λa b=>by simp[Ik,mJ.same],λ_=>rfl⟩
instance [mJ e] [mJ e'] [mJ e'']:mj (Wr e e' e''):=⟨λq=>[mJ.k e q.1,mJ.k e' q.2.1,mJ.k e'' q.2.2],λq=>by simp only[Di,Dh,mJ.ok,Ap],λa b h=>by
 simp only[KM,and_true]at h;exact yT (mJ.inj _ _ h.1) (yT (mJ.inj _ _ h.2.1) (mJ.inj _ _ h.2.2)),λa b=>by simp[Ik,mJ.same],λ_=>rfl⟩
instance [mJ e] [mJ e'] [mJ e''] [mJ e3]:mj (Ws e e' e'' e3):=⟨λq=>[mJ.k e q.1,mJ.k e' q.2.1,mJ.k e'' q.2.2.1,mJ.k e3 q.2.2.2],λq=>by simp only[Di,Dh,mJ.ok,Ap],λa b h=>by
 simp only[KM,and_true]at h;exact yT (mJ.inj _ _ h.1) (yT (mJ.inj _ _ h.2.1) (yT (mJ.inj _ _ h.2.2.1) (mJ.inj _ _ h.2.2.2))),λa b=>by simp[Ik,mJ.same],λ_=>rfl⟩
instance [mJ e]:FC (yP e eS):=⟨λa=>by simp[mj.k,Wn,mJ.k]⟩
instance [mJ e] [mJ e']:FC (Wr e eS e'):=⟨λa=>by simp[mj.k,Wn,mJ.k]⟩
instance [mJ e] [mJ e'] [mJ e'']:FC (Ws e eS e' e''):=⟨λa=>by simp[mj.k,Wn,mJ.k]⟩
variable{fs:Ev->S (Y (Y AY))}
theorem oY[mj e]:∀xs:Y α,tL (xs.map e)=Z (xs.map (mj.k e))
 |[]=>rfl
 |x::xs=>by simp only[zv,tL,mj.ok,Ap,oY xs]
def Wz(e:α->Dt)[mj e](a b:α):Bool:=m9 (mj.k e a) (mj.k e b)
def gk(e:α->Dt)[mj e](xs:Y α):Y α:=xs.mergeSort (Wz e)
theorem jF[mj e](xs:Y α):(gk e xs).Perm xs:=QR ..
theorem tW[mj e](xs:Y α):(gk e xs).Pairwise (λa b=>Wz e a b=true):=jn (le:=Wz e) (λa b c=>lJ (mj.k e a) (mj.k e b) (mj.k e c)) (λa b=>lK (mj.k e a) (mj.k e b)) xs
theorem SQ[mj e]{a b:α}(h:Wz e a b=true)(h':Wz e b a=true):a=b:=mj.inj _ _ (qX h h')
theorem Jc[mj e]{xs out:Y α}(hp:out.Perm xs)(hs:out.Pairwise (λa b=>Wz e a b=true)):out=gk e xs:=qK (λ_ _=>SQ) (hp.trans (jF xs).symm) hs (tW xs)
theorem Pa[mj e](xs:Y α):tK (xs.map (mj.k e))=(gk e xs).map (mj.k e):=by
 refine(Dc ((jF xs).map _) (ay.mpr (tW xs))).symm
theorem LG[mj e](xs:Y α):(xs.map (mj.k e)).map BV=xs.map e:=by
 rw[ZU];exact KP λa _=>(Ij (mj.ok a)).symm
end
end P1
namespace P1
open L2
section
variable{fd fk:Ev->S Bx}{fs:Ev->S (Y Bx)}{e:α->Dt}{e':β->Dt}{k:Ev->S An}{cO:γ->An}
end
section
variable{e:α->Dt}
def kE[DecidableEq α](x:α)(ys:Y α):Bool:=decide (x∈ys)
theorem vA[DecidableEq α]{x:α}{ys:Y α}:kE x ys=true↔x∈ys:=by unfold kE;rw[ZA]
theorem SX[DecidableEq α][BB e n](b:n<=60)(x:α)(ys:Y α):RX (e x) (ys.map e)=Z (decide (x∈ys)):=by
 unfold RX;rw[zh]
 ·congr 1;rw[eC,jI,kc,ZA];constructor
  ·rintro⟨y,a,h⟩;simp only[Function.comp,BB.eq]at h;by_cases q:y=x
   ·exact q▸a
   ·simp[q,XQ]at h
  ·intro h;exact⟨x,h,by simp[Function.comp,BB.eq,XQ]⟩
 ·rw[cE,qk];intro y _;have:=BB.dp (e:=e) y;simp only[Function.comp,BB.eq,ca,ei,ZA];omega
def M8[DecidableEq α][BB e n](c:n<=60)(a:R fa ρ (zE e))(b:RL fb ρ e):R (b2 Cs fa fb) ρ (zE eB):=⟨kE a.v b.v,bf a.D b.D,λh=>by
 obtain⟨h1,h2⟩:=aB h;simp only[b2,a.ok h1,b.ok h2,Ap,Cs,Gg b.lk,SX c,kE]⟩
end
end P1
namespace P1
open L2 S1 S6
def kT(xs:Au):Y AY:=xs.map Sum.inr
def Hc(a b:Au):Bool:=m9 (kT a) (kT b)
section
variable{e:α->Dt}
theorem map_some(e:α->Dt)(xs:Y α):(xs.map Z).map (eO e)=xs.map e:=by rw[ZU];rfl
end
end P1
namespace P1
open L2
section
variable{k:Ev->S An}{cO:α->An}
end
section
variable{e:α->Dt}
end
section
variable{σ:Type}{k:Ev->S An}{cO:γ->An}
end
section
variable{e:α->Dt}
def F8(fs:Ev->S (Y Bx)):Ev->S (Y Dt):=λρ=>(fs ρ).bind Iu
def xU(xs:Y α):Y (Int×α):=(av xs.length).zipWith (λ(k:Nat) x=>((k:Int),x)) xs
theorem Pb(xs:Y α):xR (xs.map e)=(xU xs).map (yP eI e):=by
 unfold xR xU;rw[zg,dr,fE]
def WD(a:RL fa ρ e):R (F8 (ao fa aH)) ρ (iE (yP eI e)):=⟨xU a.v,a.D,λh=>by
 simp only[F8,ao,aH,a.ok h,Ap,Iu,a.lk,Pb]⟩
end
section
variable{σ:Type}
theorem M9{step:σ->α->σ}{P:σ->α->S Prop}(I:Nat->σ->Prop):∀(xs:Y α) (m:Nat) (a:σ),I m a->(∀k x s,xs[k]?=Z x->I (m+k) s->B5 (P s x)/\I (m+k+1) (step s x))->wG step P xs a/\I (m+xs.length) (xs.foldl step a)
 |[],m,a,h0,_=>⟨trivial,h0⟩
 |x::xs,m,a,h0,hs=>by
  obtain⟨h1,h2⟩:=hs 0 x a Y3 h0;have:=M9 I xs (m+1) (step a x) h2 λk y s e h=>by
   have:=hs (k+1) y s (by simpa using e) (by rw[show m+(k+1)=m+1+k by omega];exact h);rw[show m+(k+1)+1=m+1+k+1 by omega]at this;exact this
  refine⟨⟨h1,this.1⟩,?_⟩;rw[Z3,show m+(xs.length+1)=m+1+xs.length by omega];exact this.2
theorem WK{i:Int}{x:Int}(h:(rng i n)[k]?=Z x):x=i+k/\k<n:=by
 unfold rng at h;rw[qv]at h;cases hk:(av n)[k]? with
 |none=>rw[hk]at h;cases h
 |some j=>
  rw[hk]at h;have a:k<n:=by simpa using(ae.mp hk).1
  have:j=k:=by
   rw[ej a]at hk;cases hk;rfl
  subst this;cases h;exact⟨rfl,a⟩
theorem kJ(i:Int)(n:Nat):(rng i n).length=n:=by unfold rng;simp
theorem Nb{i:Int}{x:Int}(h:x∈rng i n):i<=x/\x<i+n:=by
 unfold rng at h;obtain⟨k,hk,rfl⟩:=ag.mp h;have:=aI.mp hk;omega
theorem nU{step:σ->Int->σ}{P:σ->Int->S Prop}(I:Nat->σ->Prop)(n:Nat)(a:σ)(b:I 0 a)(hs:∀(k:Nat) s,k<n->I k s->B5 (P s k)/\I (k+1) (step s k)):wG step P (rng 0 n) a/\I n ((rng 0 n).foldl step a):=by
 have:=M9 (P:=P) I (rng 0 n) 0 a b λk x s e h=>by
  obtain⟨rfl,hk⟩:=WK e;rw[kD]at h ⊢;rw[dc];exact hs k s hk h
 rw[kJ,kD]at this;exact this
theorem Jd{step:Unit->α->oh Unit Bool}{P:Unit->α->S Prop}:∀xs:Y α,(∀x∈xs,B5 (P f8 x)/\(step f8 x=.nx f8\/step f8 x=.ct f8))->ju step xs f8=.nx f8/\nT step P xs f8
 |[],_=>⟨rfl,trivial⟩
 |x::xs,h=>by
  obtain⟨h1,h2⟩:=h x (zt ..);have a:=Jd (P:=P) xs λy b=>h y (zo _ b);rcases h2 with h2|h2
  ·exact⟨by unfold ju;rw[h2];exact a.1,h1,by rw[h2];exact a.2⟩
  ·exact⟨by unfold ju;rw[h2];exact a.1,h1,by rw[h2];exact a.2⟩
theorem wH[Inhabited α]{xs:Y α}{i:Int}(h:In xs.length i):As xs i∈xs:=by
 obtain⟨x,hx⟩:=q8 h;unfold As;rw[hx];unfold zq at hx;obtain⟨j,_,hx⟩:=AT hx;exact KA hx
theorem MW[Inhabited α]{xs:Y α}{x:α}(h:xs[k]?=Z x):As xs (k:Int)=x:=by
 have a:k<xs.length:=(ae.mp h).1;unfold As zq Zq;rw[zh (),zh (),Ap,JS,h];rfl
theorem wI[Inhabited α](xs:Y α)(k:Nat)(h:k<xs.length):As xs (k:Int)=xs[k]:=MW (Zs h)
theorem B8{i:Int}(a:0<=i)(h1:i<n):In n i:=⟨by omega,h1⟩
theorem IF(h:k<n):In n (k:Int):=⟨by omega,by omega⟩
theorem qN{x m:Int}(a:0<m)(h:m<=n):In n (x%m):=B8 (Int.emod_nonneg _ ()) (Int.lt_of_lt_of_le (eG _ a) h)
theorem sG(x:Int){m:Int}(a:0<m):0<=x%m/\x%m<m:=⟨Int.emod_nonneg _ (),eG _ a⟩
theorem vB{j:Int}(a:0<=j)(h1:j<=1000000):Rg j:=⟨by omega,by omega⟩
theorem X5{a b:Int}(c:0<=a)(h1:a<18446744073709551616):EF a b:=.inl ⟨by omega,h1⟩
theorem Je{xs:Y α}(h:k<=xs.length):BE xs (Z (k:Int)) O=xs.drop k:=by
 unfold BE;rw[HT.Eh,HT.zp,bq h,ZY (by simp)]
theorem LB{xs:Y α}(h:k<=xs.length):BE xs O (Z (k:Int))=xs.take k:=by
 unfold BE;rw[HT.Eh,HT.zp,bq h,Nat.sub_zero,List.drop_zero]
theorem mK(x y:AJ):(x++y).length=x.length+y.length:=by
 show(x.cps++y.cps).size=_;rw[ko];rfl
theorem wJ(x:AJ)(i:Int):(ch x i).length=1:=rfl
theorem slice_le(x:AJ)(l u:S Int):(Txt.slice x l u).length<=x.length:=PyProof.Txt.length_slice_le x l u
end
section
variable [Inhabited α] {e:α->Dt}{k:Ev->S An}{cO:γ->An}
end
section
variable{e:α->Dt}{k:Ev->S An}{cO:γ->An}
def HM(i:Nat)(xs:Y α)(hi:ρ[i]?=Z (Z (.o (xs.map e))))(a:R f ρ (oE e))(K:∀ys:Y α,R k (ρ.set i (Z (.o (ys.map e)))) cO):R (aJ (R6 i f) k) ρ cO:=⟨(K (xs++a.v)).v,bf (bf a.D (Z (BZ (xs.length+a.v.length)))) (K (xs++a.v)).D,λhd=>by
 obtain⟨h1,b⟩:=aB hd;obtain⟨h1,h2⟩:=aB h1;have h2:xs.length+a.v.length<=1000000:=h2;rw[oX (ρ':=ρ.set i (Z (.o ((xs++a.v).map e)))) (by
  unfold R6;rw[a.ok h1,Ap];show Wq ρ i (.o (a.v.map e))=_;simp only[Wq,hi,zg,ZT];rw[zh (zi h2 ())])]
 exact(K _).ok b⟩
end
section
variable{e:α->Dt}{k:Ev->S An}{cO:γ->An}
end
section
variable{e:α->Dt}
end
section
variable{e:α->Dt}{e':β->Dt}
def X6(ps:Y (AJ×α)):Y (AJ×α):=ps.foldl (λa p=>put a p.1 p.2) []
theorem Pg(ps:Y (AJ×α)):R7 (ps.map λp=>(p.1,e p.2))=(X6 ps).map λp=>(kS p.1,e p.2):=by
 unfold R7 X6;have:∀(ps a:Y (AJ×α)),(ps.map λp=>(p.1,e p.2)).foldl (λa p=>Ie a (kS p.1) p.2) (a.map λp=>(kS p.1,e p.2))=(ps.foldl (λa p=>put a p.1 p.2) a).map λp=>(kS p.1,e p.2):=by
  intro ps
  induction ps with
  |nil=>intro a;rfl
  |cons p ps b=>
   intro a;simp only[zv,kg];rw[Wy (c:=kS),b]
 exact this ps []
def OH{e3:γ->Dt}(a:R fa ρ (zE e))(b:R fb ρ (zE e'))(g:α->β->γ)(h:∀x y,fG (.z (e x)) (.z (e' y))=Z (.z (e3 (g x y)))):R (b2 fG fa fb) ρ (zE e3):=⟨g a.v b.v,bf a.D b.D,λhd=>by
 obtain⟨h1,h2⟩:=aB hd;simp only[b2,a.ok h1,b.ok h2,Ap,zE,h]⟩
end
def RP(f:Ev->S β)(ρ:Ev)(c:α->β)(v:α)(D:S Prop):Prop:=B5 D->f ρ=Z (c v)
theorem R.tp{f:Ev->S β}{c:α->β}{a:α}{b:S Prop}(x:R f ρ c)(d:x.v=a:=by kernel_rfl)(e:x.D=b:=by kernel_rfl):RP f ρ c a b:=λh=>by
 subst d e;exact x.ok h
def RP.r{f:Ev->S β}{c:α->β}{v:α}{D:S Prop}(h:RP f ρ c v D):R f ρ c:=⟨v,D,h⟩
theorem EV{p:Y α->Prop}(h:∀a,p [a]):∀us:Y α,us.length=1->p us
 |[a],_=>h a
theorem F0{p:Y α->Prop}(h:∀a b,p [a,b]):∀us:Y α,us.length=2->p us
 |[a,b],_=>h a b
theorem NY{p:Y α->Prop}(h:∀a b c,p [a,b,c]):∀us:Y α,us.length=3->p us
 |[a,b,c],_=>h a b c
theorem IN{p:Y α->Prop}(h:∀a b c d,p [a,b,c,d]):∀us:Y α,us.length=4->p us
 |[a,b,c,d],_=>h a b c d
theorem OW{p:Y α->Prop}(h:∀a b c d e,p [a,b,c,d,e]):∀us:Y α,us.length=5->p us
 |[a,b,c,d,e],_=>h a b c d e
end P1
namespace P1
open L2 S1
end P1
namespace P1
open L2
section
variable{fs:Ev->S (Y Bx)}
end
section
variable{AS:Y AB}
end
section
variable{ks:Y V}{o:AE}
theorem IZ(j:∀f u,X.H₀ a≠Z (.j7 f u))(I:L2.AU X AN σ H s)(e:H a=Z (.j7 o (.lst ks))):L2.AU X AN σ (B7 H a (.lst ks)) s:=by
 have g:∀{b:A1} {u:HO},H b=Z u->u≠.j7 o (.lst ks)->b≠a:=λq n z=>by subst z;rw[e]at q;cases q;exact n rfl
 have h:∀{b:A1},H b=O->b≠a:=λq z=>by subst z;rw[e]at q;cases q
 refine⟨I.ok,I.os,I.bare,⟨I.base.keep,I.base.slot,λb f q n hx=>?_,I.base.there,λb xs q=>?_,λb f u q=>?_,λb ps q=>?_⟩,I.loc,I.cell,?_,λx c q=>?_,λp hp=>?_,λb f q=>?_,I.len⟩
 ·have:=I.base.free b f q n hx;rw[aO (h this)];exact this
 ·have:=I.base.tups b xs q;rw[aO (g this λz=>by cases z)];exact this
 ·have:=I.base.yh b f u q;rw[aO (λz=>by subst z;exact j _ _ q)];exact this
 ·obtain⟨m,this⟩:=I.base.sV b ps q;exact⟨m,by rw[aO (g this λz=>by cases z)];exact this⟩
 ·have:=I.free;rw[aO (h this)];exact this
 ·have:=I.mD x c q;rw[aO (h this)];exact this
 ·obtain⟨p1,p2,p3⟩:=I.pin p hp;exact⟨p1,by rw[aO (h p2)];exact p2,p3⟩
 ·have st:∀{c:A1} {w:HO},gq X.prog X.w H s.heap c w->gq X.prog X.w (B7 H a (.lst ks)) s.heap c w:=λx=>
   x.stay (λ_ _ _ r=>r) (λd r=>by rw[aO (g r λz=>by cases z)];exact r) (λd xs r=>by rw[aO (g r λz=>by cases z)];exact r) λd o' k r=>by rw[aO (g r λz=>by cases z)];exact r
  by_cases i:b=a
  ·subst i;rw[bh]at q;cases q;exact st (I.hok _ _ e).2
  ·rw[aO i]at q;exact st (I.hok _ _ q)
end
section
variable{M0 M1 M2 er:Expr}{f0 f2:Ev->S Bx}{d0 d2:Dt}{z0 z1 z2 z3:Pos}
end
section
variable{st:Y AB}{fr:Ev->S Bx}{i':Nat}{W:Y Nat}{z:Pos}
end
section
variable{a b c:Ev->S An}
end
end P1
namespace P1
open L2 S6
section
variable{kx vx t1 i1 t2 i2:Expr}{f1 f2:Y Expr}{xs:Au}{g1 g2:Dt->Ev->S Ev}{p1 p2:Ev->S Bool}{fk:Ev->S Bx}{fi1 fi2:Ev->S (Y Dt)}{fs:Ev->S (Y Dt)}{N:Nat}
def cls2(fi:Ev->S (Y Dt))(gt:Dt->Ev->S Ev)(p:Ev->S Bool)(fs:Ev->S (Y Dt))(is:Y Nat)(n:Nat):Ev->S (Y Dt):=λρ=>(fi ρ).bind λds=>wk gt p fs (gZ is ρ++aa n O) ds
def Gh(fi:Ev->S (Y Dt))(gt:Dt->Ev->S Ev)(p:Ev->S Bool)(fs:Ev->S (Y Dt))(is:Y Nat)(n:Nat):Ev->S Bx:=λρ=>(cls2 fi gt p fs is n ρ).bind λout=>if out.length<=100000 then Z (.o out)else O
theorem Mh.no{b:Y Dt}:Mh K D H b o->(∀a u,o≠.j7 a u)/\∀vs,o≠.tup vs:=λ⟨_,e,_⟩=>by subst e;exact⟨λ_ _ z=>(by cases z),λ_ z=>(by cases z)⟩
end
end P1
namespace P1
open L2
section
variable{e:α->Dt}{e':β->Dt}{fs:Ev->S (Y Dt)}
theorem Al{g:α->Y β}:∀xs:Y α,(xs.flatMap g).map e'=xs.flatMap λx=>(g x).map e'
 |[]=>rfl
 |x::xs=>by rw[jb,ZT,Al xs];rfl
def LV(it:R fi ρ (iE e))(a:α->Ev)(c:∀x,gt (e x) (gZ is ρ++aa n O)=Z (a x))(b:∀x,R fs (a x) (iE e')):R (cls2 fi gt m7 fs is n) ρ (iE e'):=⟨it.v.flatMap λx=>(b x).v,bf it.D (Sv it.v λx=>(b x).D),λh=>by
 obtain⟨h1,h2⟩:=aB h;have h2:∀x∈it.v,B5 (b x).D:=h2;simp only[cls2,it.ok h1,Ap];rw[u6 (π:=λ_=>true) (g:=λx=>(b x).v.map e') it.v λx hx=>⟨a x,c x,rfl,λ_=>(b x).ok (h2 x hx)⟩,ba.mpr λ_ _=>Y3];rw[iE,Al]⟩
def NI(it:R fi ρ (iE e))(a:α->Ev)(c:∀x,gt (e x) ρ=Z (a x))(t:∀x,R p (a x) tE)(b:∀x,R fe (a x) (zE e')):R (CY fi gt p (VN fe)) ρ (iE e'):=⟨(it.v.filter λx=>(t x).v).map λx=>(b x).v,bf it.D (Sv it.v λx=>bf (t x).D (yt ((t x).v=true) (b x).D)),λh=>by
 obtain⟨h1,h2⟩:=aB h;have h2:∀x∈it.v,B5 (bf (t x).D (yt ((t x).v=true) (b x).D)):=h2;simp only[CY,it.ok h1,Ap];exact u9 it.v λx hx=>⟨a x,c x,(t x).ok (aB (h2 x hx)).1,λd=>(b x).ok (jj (aB (h2 x hx)).2 d)⟩⟩
def WL(a:R (cls2 fi gt p fs is n) ρ (iE e)):R (Gh fi gt p fs is n) ρ (oE e):=⟨a.v,bf a.D (Z (a.v.length<=100000)),λh=>by
 obtain⟨h1,h2⟩:=aB h;simp only[Gh,a.ok h1,Ap,zg,zh (show a.v.length<=100000 from h2)]⟩
end
def hx(h:A6)(a:A1):HO:=.ext λh'=>h'.get? a=h.get? a
section
variable{H2:Hp}{as:Y A1}
end
section
variable{gs:Y (Int×A1×Y Dt)}{k:Int}{x:Dt}{u:V}
end
section
variable{e1 e2 ev:Expr}{f2:Ev->S Bx}{w:AJ}{pw py py2 py3 px p1 p3 p4 pl a1 a2 c1 c2:Pos}
end
end P1
namespace P1
open L2 S6
section
variable{kx vx t1 i1 t2 i2:Expr}{f1 f2:Y Expr}{xs:Au}{g1 g2:Dt->Ev->S Ev}{p1 p2:Ev->S Bool}{fk:Ev->S Bx}{fi1 fi2:Ev->S (Y Dt)}
end
end P1
namespace P1
open L2
section
variable{e:α->Dt}{e0:β->Dt}{fd f2:Ev->S Bx}{kk:Ev->S An}{cO:γ->An}
end
section
variable{e:α->Dt}{fs:Ev->S (Y Dt)}
end
section
variable{a:Expr}
end
theorem dG{bs:Y Bx}{c:α->Bx}{v:α}{D:S Prop}(x:RP g (bs.map Z++aa (n-bs.length) O) (λr=>An.rt (c r)) v D)(h:B5 D):eZ n g bs=Z (c v):=OG x.r h
section
variable{e:α->Dt}
end
open PySem.Builtin PySem.Builtin.Str
section
variable{o:Expr}{fx:Ev->S Bx}
end
section
variable{g:Ev->S AJ}
end
section
variable{e1 e2 e3:Expr}{gr:Ev->S An}{fx:Ev->S Dt}{tR tQ:TS}{xr xj y1 y2:AJ}{AS no:Y AB}{kk:Nat}{p0 p00 p01 p02 q1 q2 pt pj pa px pb pif pf2 px3 a1 c1 pe1 pr a2 pj2 c2 pe2:Pos}
end
section
variable{e:α->Dt}{ea:β->Dt}{eb:δ->Dt}{kk:Ev->S An}{cO:γ->An}
end
end P1
namespace P1
open L2 S1
section
variable{f:A1}{p:Pos}
end
end P1
namespace P1
open L2 S1 S6
theorem F3{p:Y α->Prop}(h:p []):∀us:Y α,us.length=0->p us
 |[],_=>h
section
variable{e:α->Dt}{g:Ev->S Bx}{c:α->Bx}
end
def Bn(d:Dt):R (cB d) ρ (zE eD):=qb d eD d rfl
def B9(i:Int):R (cB (.int i)) ρ (zE eI):=qb (.int i) eI i rfl
def yV(s:AJ):R (cB (.str s)) ρ (zE eS):=qb (.str s) eS s rfl
abbrev Nn(K:B6)(n:AJ)(f:A1):Prop:=nsIn K mainGlobals n=Z (Z (.ref f))
abbrev Lk(K:B6)(f:A1)(n:AJ)(st:AB)(b:A0)(e:S A1)(sl:Array (S A0))(kV d pm:A0)(a:S A1)(c ct:A0):Prop:=K.lookup f=Z ⟨b,e,.func (fnOf n n (oA st) (gF st) (aQ st) .none kV d pm a c ct),sl⟩
end P1
namespace P1
open L2
section
variable{e:α->Dt}
end
section
variable{Ex:BF}{outer:Y Env}{L e T:A1}{C fl:A0}{dx:S A1}{Q:Unit->A2->Prop}
end
section
variable{H':Hp}{h':A6}{ch:Y A1}
end
section
variable{g:Array GenState}{d:Drawn}{t:Nat}{fI e:A1}{AS:Y A0}{B:String}
end
section
variable{g:Array GenState}{d:Drawn}{t:Nat}{e:A1}
end
section
variable{g:Array GenState}{d:Drawn}{t:Nat}{e dx:A1}{v:A0}{vs:Array A0}{m:AJ->S A0}
end
section
variable{o value:Expr}{tv:TE}{f:AJ}{pos' p:Pos}{B:String}{t:TA}
end
section
variable{f:AJ}{p:Pos}{B:String}
end
section
variable{E:XK}
end
section
variable{Cn f:A1}{iv iy:Nat}{n cn:AJ}{np hp p py pa:Pos}{b0:AB}{suite:Y AB}{ts:A1->TS}{tf:TE}{t:TA}
end
section
variable{d:A1}{fs:Y (AJ×V)}{f:AJ}{o:Expr}
end
section
variable{f:AJ}{E:XK}{gy:Ev->S Dt}{p:Pos}{AS a b:Y AB}{B:String}{pc:Ev->S Bool}
end
section
variable{f h:A1}{fs:Ev->S (Y Bx)}{p q:Pos}
end
end P1
namespace P1
open L2 S6
section
variable{xs:Au}
end
section
variable{e2 se:Expr}{fS:Ev->S Au}{fx:Ev->S Dt}{no AS:Y AB}{tR tQ:TS}{p0 p02 px pb pif pk:Pos}{f:AJ}{E:XK}
end
end P1
namespace P1
open L2
section
variable{e1 e2 e3:Expr}{gr:Ev->S An}{xr xj y1 y2:AJ}{AS no:Y AB}{kk:Nat}{p0 p00 p01 p02 q1 q2 pt pj pa px pb pif pf2 px3 a1 c1 pe1 pr a2 pj2 c2 pe2:Pos}{fx:Ev->S Dt}{f:AJ}{E:XK}
end
section
variable{Cn f:A1}{iv:Nat}{n cn:AJ}{np hp p pa:Pos}{b0:AB}{suite:Y AB}{ts:A1->TS}{tf:TE}{t:TA}
end
section
variable{fx:Ev->S Bx}
end
section
variable{xs:Array A0}
end
theorem qU:∀{AQ:Y A0} {a:Y Int},IntsAre AQ a->AX (a.map V.int) AQ
 |_,_,.nil=>.nil
 |_,_,.cons y t h=>.cons ⟨t,rfl⟩ (qU h)
section
variable{e:α->Dt}
end
section
variable{e:α->Dt}{ea:β->Dt}{eb:δ->Dt}{fx:Ev->S Dt}
end
section
variable{e:α->Dt}{g:Ev->S β}{c:γ->β}
end
section
variable{E:XK}
end
section
variable{f:AJ}{E:XK}{fs:Ev->S (Y Bx)}{gy:Ev->S Dt}{p p1 epos:Pos}{AS:Y AB}
end
section
variable{o:Expr}
def S5:Dt->Bool
 |.non=>true
 |.tup _=>true
 |_=>false
def Fu:Dt->Bool
 |.non=>true
 |_=>false
end
section
variable{o l:Expr}{fs:Ev->S (Y Bx)}{z:AJ}
end
instance {σ τ:Type} [Inhabited σ]:Inhabited (oh σ τ):=⟨.nx default⟩
section
variable{e:α->Dt}
theorem Kz(a:∀x,∃ds,e x=.tup ds)(ys:Y (S α)):(ys.map (eO e)).all S5=true/\(Fu ∘ eO e)=Option.isNone:=by
 refine⟨?_,?_⟩
 ·rw[qk];intro d hd;obtain⟨o,_,rfl⟩:=ag.mp hd;cases o with
  |none=>rfl
  |some x=>obtain⟨ds,q⟩:=a x;show S5 (e x)=true;rw[q];rfl
 ·funext o;cases o with
  |none=>rfl
  |some x=>obtain⟨ds,q⟩:=a x;show Fu (e x)=false;rw[q];rfl
end
section
variable{o e2:Expr}{fx fy:Ev->S Bx}
end
section
variable{f:AJ}{E:XK}{gy:Ev->S Dt}{sts AS:Y AB}{p0 p00 p01 p02:Pos}
end
structure DQ (K:B6) (mg:Str->Option Value) (x:Str) (st:Stmt) (ps:Au) where
 f:Addr
 fd:FuncData
 F:Uy K x x st f fd
 b:BN K fd ps []
 m:mg x=some (.ref f)
 k:keepIn K (.ref f)=true
def oZ{f:A1}{m b:S A1}{g kV j pm d ct:A0}(X:K.In h)(G:h.Ns mainGlobals mg)(a:Nn K x f)(l:Lk K f x st g m sl kV j pm b d ct)(c:codeIn K d x=true)(k:keepIn K (.ref f)=true)(e:∀(kV n pm:A0) (b:S A1) (i ct:A0) (us:Y A0),us.length=ps.length->bindArgs (fnOf x x (oA st) (gF st) (aQ st) .none kV n pm b i ct) ⟨us,[]⟩=pure (ps.zip us):=by intro _ _ _ _ _ _;first|exact P1.EV λ_=>Y3|exact P1.F0 λ_ _=>Y3|exact P1.NY λ_ _ _=>Y3|exact P1.IN λ_ _ _ _=>Y3|exact P1.OW λ_ _ _ _ _=>Y3|exact P1.F3 Y3):DQ K mg x st ps:=
 ⟨f,_,QS l c k,(QS l c k).binds e,mg_of X G a,k⟩
abbrev Ok(P:A3)(w:A4)(base:A6)(d:DQ K mg x st ps)(k n:Nat)(F:Y Bx->S Bx):Prop:=sW P w K mg base Hj k d.f d.fd ps (Ri K n F)
theorem GR(d:DQ K mg x st ps)(S:cj N ps (aQ st))(h:∀(a:A0) (A:A5) (outer:Y Env) (s:A2) (H:Hp) (E:XK),gY k (A.deeper (AK x (aQ st) s.heap.objs.size d.f a))->(A.deeper (AK x (aQ st) s.heap.objs.size d.f a)).units+100<cLine->N.Nodup->Q5 (zm Hj P w K mg base N x (aQ st) d.f a A outer s H E).Ux (gF st) g)(e:N.length=n:=by rfl)(c:ps.length=m:=by rfl):Ok P w base d (k+1) m (eZ n g):=L6 d.F S e c λa A outer s H E b=>h a A outer s H E b (Mq b) S.nd
section
variable{fs:Ev->S (Y Bx)}{p:Pos}
theorem cD(d:DQ X.K X.mg x st ps)(G:Ok X.prog X.w X.base d k n F)(h:gY m X.A)(a:Lz X (e::es) fs)(f:Gl X x:=by rfl)(g:k<=m:=by decide)(j:fT x:=by decide)(i:A9 (e::es) X.env=(false,eval e X.env)::A9 es X.env:=by rfl)(c:(AD pos (A9 es X.env)).any (·.1)=false:=by rfl):QV X (.Call (.Name x p) (e::es) [] pos) (bU n F fs):=
 VR G (h.mono g) f d.m d.k d.b a j i c
end
theorem Db{l:PySem.W.OpenLaw}{q:A3}{loose:Au}{d:DefRec}{K:Params->B6}{T:B6->(AJ->S A0)->Type}{F_law:Y Bx->S Bx}(c:∀{K mg},T K mg->DQ K mg "law" st [x])(hk:gY k callerA)(hd:d.name ="law")(G:∀(w:A4) (mg:AJ->S A0) (base:A6) (t:T (K w.params) mg),Ok l.prog w base (c t) k 1 F_law)(C:l.most=Z 63)(J:d.params.defaults=[])(h1:∀b:Y Int,b.length<=63->F_law [.z (.lst (b.map .int))]=Z (.z (.bl true)))(h2:∀b:Y Int,b.length<=63->F_law [.l (b.map .int)]=Z (.z (.bl true)))(A:∀(kV i pm:A0) (g:S A1) (j ct u:A0),bindArgs (fnOf "law" "law" (oA st) (gF st) (aQ st) .none kV i pm g j ct) ⟨[u],[]⟩=pure [(x,u)])(D:∀(w:A4) (h:A6),YP w h->(K w.params).In h)(I:∀(w:A4) (h:A6) (mg o:AJ->S A0) (v:ExcName->S A0) (p:Au),(K w.params).In h->Top q p v mg o h->∃E,L2.QK (K w.params) h E)(F:∀(w:A4) (mg:AJ->S A0) (h:A6),(K w.params).In h->h.Ns mainGlobals mg->T (K w.params) mg):
  PySem.W.WalkO q loose XP YP l.row.toRowW d [] (λf vs=>PySem.call f vs):=
 L2.QM (n:=63) (k:=k) (x:=x) (CX:=Hj) (sp:=λK=>Ri K 1 F_law) C () J hk D (λw mg fa h X N e=>by
  have t:=F w mg h X N;have B:=(c t).m;rw[hd,B]at e;cases e;refine⟨(c t).fd,λs u=>?_,λbase _ _=>G w mg base t⟩;obtain⟨U,od,kV,i,pm,g,j,ct,osl,e,P,Q⟩:=(c t).F.ex;rw[e];exact .of_eq (A kV i pm g j ct u)) (λK H a b L y M=>MZ h1 h2 K H a b L y M) (λ_ _ _ _ z=>z) I
section
variable{f:A1}{sp:A1->Y V->Hp->VK->Prop}{p:Pos}{t:TA}
end
section
variable{p0 p1:Pos}{xs:Au}{e:A1}{a:Expr}{ta:TA}
end
section
variable{f:AJ}{E:XK}{fs:Ev->S (Y Bx)}{p:Pos}
end
section
variable{g:Array GenState}{d:Drawn}{t:Nat}{AS:Y A0}{B:String}
end
section
variable{E:XK}{p:Pos}{B:String}{t:TA}
end
def D5(j:Int)(ds:Y Dt):Y Dt:=(av ds.length).zipWith (λk d=>.tup [.int (j+(k:Nat)),d]) ds
theorem Nf(j:Int)(ds:Y Dt):(D5 j ds).length=ds.length:=by simp[D5]
section
variable{p kp cp:Pos}{fs:Ev->S (Y Bx)}{j:Int}{kk:Nat}
end
section
variable{e:α->Dt}
def jz(j:Int)(xs:Y α):Y (Int×α):=(av xs.length).zipWith (λ(k:Nat) x=>(j+(k:Int),x)) xs
end
section
variable{g:Ev->S AJ}
variable{e:α->Dt}
end
section
variable{e:α->Dt}{σ':Type}
def qE(e:α->Dt):S (Y α)->Bx
 |none=>.z .non
 |some l=>.o (l.map e)
def EJ(e:α->Dt):S (Y α)->Bx
 |none=>.z .non
 |some l=>.l (l.map e)
def WM:R (cB .non) ρ (qE e):=⟨O,O,λ_=>Y3⟩
def vC(a:R fa ρ (oE e)):R fa ρ (qE e):=⟨Z a.v,a.D,λh=>a.ok h⟩
theorem ND{v:S (Y α)}(h:ρ[i]?=Z (Z (qE e v))):uJ ρ i=Z (EJ e v):=by
 unfold uJ;rw[h];cases v<;>rfl
def Gi(i:Nat)(e:α->Dt)(v:S (Y α))(h:ρ[i]?=Z (Z (qE e v))):R (gv i) ρ (EJ e):=⟨v,O,λ_=>ND h⟩
class S7 (c:Option (List α)->Bx) (e:outParam (α->Dt)):Prop where
 d:∀v,toD (c v)=eO (eL e) v/\oJ (c v)=false
instance:S7 (qE e) e:=⟨λv=>by cases v<;>exact⟨rfl,rfl⟩⟩
instance:S7 (EJ e) e:=⟨λv=>by cases v<;>exact⟨rfl,rfl⟩⟩
instance:S7 (zE (eO (eL e))) e:=⟨λv=>⟨rfl,rfl⟩⟩
def OE[DecidableEq α][BB (eO (eL e)) n]{f g:S (Y α)->Bx}[S7 f e][S7 g e](k:n<=100)(a:R fa ρ f)(b:R fb ρ g):R (b2 BM fa fb) ρ (zE eB):=⟨decide (a.v=b.v),bf a.D b.D,λh=>by
 obtain⟨h1,h2⟩:=aB h;have:=BB.dp (e:=eO (eL e)) a.v;obtain⟨j,i⟩:=S7.d (c:=f) (e:=e) a.v;obtain⟨d2,m2⟩:=S7.d (c:=g) (e:=e) b.v;simp only[b2,a.ok h1,b.ok h2,Ap,BM,j,d2,i,m2,zS,or_self,qV,BB.eq];rw[zh ()]⟩
def Ng[DecidableEq α][BB (eO (eL e)) n]{f g:S (Y α)->Bx}[S7 f e][S7 g e](k:n<=100)(a:R fa ρ f)(b:R fb ρ g):R (b2 Kf fa fb) ρ (zE eB):=⟨!decide (a.v=b.v),bf a.D b.D,λh=>by
 obtain⟨h1,h2⟩:=aB h;have:=BB.dp (e:=eO (eL e)) a.v;obtain⟨j,i⟩:=S7.d (c:=f) (e:=e) a.v;obtain⟨d2,m2⟩:=S7.d (c:=g) (e:=e) b.v;simp only[b2,a.ok h1,b.ok h2,Ap,Kf,j,d2,i,m2,zS,or_self,qV,BB.eq];rw[zh ()]⟩
end
theorem Ph(l:A1)(items:Array A0)(n:Nat)(a:S A1)(sl:Array (S A0)):
  Meets (Builtin.«enumerate.__new__» ⟨[.type "enumerate", .ref l],[]⟩) (λ_ R s=>s.heap.get? l=Z ⟨.type "tuple",a,.seq items n,sl⟩ ∧
   R (.ok (.ret (.ref (s.heap.push { cls:=.type "tuple_iterator",data:=.fields #[.ref l,.int 0 0] }).objs.size)))
    { s with heap:=(s.heap.push { cls:=.type "tuple_iterator",data:=.fields #[.ref l,.int 0 0] }).push { cls:=.type "enumerate",data:=.fields #[.none,.bool false,.ref s.heap.objs.size,rawInt 0,.none,.none] } }):=
 .of_wp λprog w A R s ⟨hl,h⟩=>by
  obtain⟨hp,g,d,tk,os⟩:=s;have b:=sub_enumerate;have m2:Heap.IsTuple (Shared.heap ⟨hp,g,d,tk,os⟩) l items:=⟨_,hl,rfl,n,rfl⟩
  wp_walk using AutoSeq1.wpAny_loadPart' hl
  refine wpAny_stack_any λst=>zd ?_;split
  ·rename_i c _ _ _ _ _;cases(c==Value.type "enumerate")
   ·wp_walk using AutoSeq1.wpAny_loadPart' hl,K2 m2
    exact⟨_,rfl,h⟩
   ·wp_walk using AutoSeq1.wpAny_loadPart' hl,K2 m2
    exact⟨_,rfl,h⟩
  ·wp_walk using AutoSeq1.wpAny_loadPart' hl,K2 m2
   exact⟨_,rfl,h⟩
theorem S8(i:s.heap.IsTuple l items)(h:∀h',IsEnum h' (s.heap.objs.size+1) s.heap.objs.size 0 .none->h'.IsTupleIter s.heap.objs.size l 0->(∀b o,s.heap.get? b=Z o->h'.get? b=Z o)->Q (.ref (s.heap.objs.size+1)) { s with heap:=h' }):
  A7 (A8 prog w) A (call (.type "enumerate") [.ref l]) Q E s:=by
 obtain⟨⟨c,g,k,sl⟩,f,e,n,hd⟩:=i;cases e;cases hd;refine callType_new F.called_enumerate () (F.typeCall_enumerate_1 _) (F.newCall_enumerate_1 _) (λj=>F.args_object_init_2 j _) F.entry_enumerate_new (Ph l items n g sl) ⟨f,?_⟩;have d:(s.heap.push { cls:=.type "tuple_iterator",data:=.fields #[.ref l,.int 0 0] }).objs.size=s.heap.objs.size+1:=kq ..;show _/\_;rw[d];have a:=zz (s.heap.push { cls:=.type "tuple_iterator",data:=.fields #[.ref l,.int 0 0] }) (o:={ cls:=.type "enumerate",data:=.fields #[.none,.bool false,.ref s.heap.objs.size,rawInt 0,.none,.none] }) rfl;rw[d]at a;exact⟨⟨_,a,rfl⟩,h _ a ⟨_,ze _ (zz _ Y3),rfl,rfl⟩ λb o x=>ze _ (ze _ x)⟩
theorem S9{e:A1}{j:Int}{x old:A0}(y:IsEnum s.heap e it j old)(N:s.heap.IsTupleIter it l i)(M:s.heap.IsTuple l items)(hx:items[i]?=Z x)(D:e≠it)(q:∀h',IsEnumOut h' e it (j+1) x s.heap.objs.size->h'.IsTupleIter it l (i+1)->h'.get? s.heap.objs.size=Z { cls:=.type "tuple",data:=.seq #[.int j s.toks,x] }->(∀b o,b≠e->b≠it->s.heap.get? b=Z o->h'.get? b=Z o)->Q (.ref s.heap.objs.size) { s with heap:=h',toks:=s.toks+1 }):
  A7 (A8 prog w) A (Builtin.«enumerate.__next__» ⟨[.ref e],[]⟩) (λH s'=>∃v,H=.done (.ret v)/\Q v s') E s:=by
 obtain⟨c,g,d,tk,os⟩:=s;have f:it≠e:=kC D;show A7 _ _ (field (.ref e) 2 >>= _) _ _ _;refine zb (QE y Y3 (x:=.ref it) Y3 (zb (OY N M hx λa1 it1 (n:Heap.SameBut it c a1)=>?_)));have e1:IsEnum a1 e it j old:=(n.2 e D).trans y;show A7 _ _ (field (.ref e) 3 >>= _) _ _ ⟨a1,g,d,tk,os⟩;refine zb (QE e1 Y3 (x:=rawInt j) Y3 ?_);show A7 _ _ (field (.ref e) 4 >>= _) _ _ ⟨a1,g,d,tk,os⟩;refine zb (QE e1 Y3 (x:=.none) Y3 ?_);show A7 _ _ (mkInt j >>= _) _ _ ⟨a1,g,d,tk,os⟩;refine zb (wpAny_mkInt ?_);show A7 _ _ (setField (.ref e) 3 (rawInt (j+1)) >>= _) _ _ ⟨a1,g,d,tk+1,os⟩;refine zb (kM e1 (by simp) λa2 e2 (p:Heap.SameBut e a1 a2)=>?_);have e2:IsEnum a2 e it (j+1) old:=e2;show A7 _ _ (setField (.ref e) 4 .none >>= _) _ _ ⟨a2,g,d,tk+1,os⟩;refine zb (kM e2 (by simp) λa3 e3 (h:Heap.SameBut e a2 a3)=>?_);have e3:IsEnum a3 e it (j+1) old:=e3;have z3:a3.objs.size=c.objs.size:=by rw[h.1,p.1,n.1]
 show A7 _ _ (newTuple [.int j tk,x] >>= _) _ _ ⟨a3,g,d,tk+1,os⟩;refine zb (wpAny_newTuple ?_);have le:e<c.objs.size:=zw y;obtain⟨a,L,t,G,J,K⟩:∃a,a3.push { cls:=.type "tuple",data:=.seq #[.int j tk,x] }=a/\IsEnum a e it (j+1) old/\a.get? c.objs.size=Z { cls:=.type "tuple",data:=.seq #[.int j tk,x] }/\(∀b o,b≠e->b≠it->c.get? b=Z o->a.get? b=Z o)/\a.IsTupleIter it l (i+1):=by
  refine⟨_,rfl,ze _ e3,by rw[<-z3];exact zz _ rfl,λb o b1 b2 z=>ze _ (h.extBut b o b1 (p.extBut b o b1 (n.extBut b o b2 z))),?_⟩;obtain⟨o,I,r⟩:=(it1.extBut p.extBut f).extBut h.extBut f;exact⟨o,ze _ I,r⟩
 rw[show({ heap:=a3,gens:=g,drawn:=d,toks:=tk+1,os:=os }:A2).heap.push { cls:=.type "tuple",data:=.seq #[.int j tk,x] }=a from L,show({ heap:=a3,gens:=g,drawn:=d,toks:=tk+1,os:=os }:A2).heap.objs.size=c.objs.size from z3];show A7 _ _ (Builtin.SmallTypes.ownedTupleIsFree (.ref e) >>= _) _ _ ⟨a,g,d,tk+1,os⟩;refine zb ?_;unfold Builtin.SmallTypes.ownedTupleIsFree;refine zb (QE t Y3 (x:=.none) Y3 (zd ?_));simp only[QU];refine zb (QI (zb (QE t Y3 (x:=old) Y3 (zb (kM t (by simp) λa5 u (B:Heap.SameBut e a a5)=>?_)))));have u:IsEnum a5 e it (j+1) x:=u;show A7 _ _ (Builtin.SmallTypes.ownedTupleHandOut (.ref e) (.ref c.objs.size) >>= _) _ _ ⟨a5,g,d,tk+1,os⟩;refine zb ?_;unfold Builtin.SmallTypes.ownedTupleHandOut;refine zb (kM u (by simp) λa6 m (C:Heap.SameBut e a5 a6)=>?_);have m:IsEnumOut a6 e it (j+1) x c.objs.size:=m;refine kM m (by simp) λa7 e7 (F:Heap.SameBut e a6 a7)=>?_;have kk:∀b o,b≠e->a.get? b=Z o->a7.get? b=Z o:=λb o k z=>F.extBut b o k (C.extBut b o k (B.extBut b o k z));exact zb (wpAny_letGo (zd ⟨_,rfl,q a7 e7 (((K.extBut B.extBut f).extBut C.extBut f).extBut F.extBut f) (kk _ _ (kF le) G) λb o b1 b2 z=>kk b o b1 (J b o b1 b2 z)⟩))
theorem Tc{e:A1}{j:Int}{x old:A0}{Q:S A0->A2->Prop}(f:IsEnum s.heap e it j old)(h:s.heap.IsTupleIter it l i)(g:s.heap.IsTuple l items)(hx:items[i]?=Z x)(m:e≠it)(q:∀h',IsEnumOut h' e it (j+1) x s.heap.objs.size->h'.IsTupleIter it l (i+1)->h'.get? s.heap.objs.size=Z { cls:=.type "tuple",data:=.seq #[.int j s.toks,x] }->(∀b o,b≠e->b≠it->s.heap.get? b=Z o->h'.get? b=Z o)->Q (Z (.ref s.heap.objs.size)) { s with heap:=h',toks:=s.toks+1 }):
  A7 (A8 prog w) A (pyNext (.ref e)) Q E s:=by
 have d:s.TypeIs (.ref e) "enumerate":=⟨_,f,rfl⟩;unfold pyNext;exact zb (wpAny_attempt (QO (name:=Str.ofString "__next__") d k8 (Jn k8 d F.entry_enumerate_next (S9 f h g hx m λh' a b c k=>zd (q h' a b c k)) (F.args_enumerate_next_1 _))))
theorem WQ{e:A1}{j:Int}{old:A0}{Q:S A0->A2->Prop}(f:A.handled=O)(c:IsEnum s.heap e it j old)(g:s.heap.IsTupleIter it l i)(d:s.heap.IsTuple l items)(hx:items[i]?=O)(q:∀h',Heap.ExtBut it s.heap h'->Q O { s with heap:=h' }):A7 (A8 prog w) A (pyNext (.ref e)) Q E s:=by
 have a:s.TypeIs (.ref e) "enumerate":=⟨_,c,rfl⟩;unfold pyNext;refine zb (wpAny_attempt (QO (name:=Str.ofString "__next__") a k8 (Jn k8 a F.entry_enumerate_next ?_ (F.args_enumerate_next_1 _))));show A7 _ _ (field (.ref e) 2 >>= _) _ _ _;refine zb (QE c Y3 (x:=.ref it) Y3 (zb (Kq f g d hx λh' x he' ⟨o,ho,hc⟩=>?_)));exact zb (wpAny_isInstance (T :="StopIteration") (b:=true) ⟨o,ho,hc⟩ isSubtype_stop (zd (q _ he')))
def FF(K:B6)(l:A1)(j:Int):It:=
 ⟨λi H=>∃xs x,qj K H l xs/\xs[i]?=Z x,λi H v H'=>∃p x,H p=O/\(∀xs,qj K H l xs->xs[i]?=Z x)/\v=.ref p/\H'=B7 H p (.tup [.int (j+i),x]),λi H=>∃xs,qj K H l xs/\xs.length<=i⟩
theorem Td(l e it:A1)(j:Int)(F:e≠it):
  C9 P w K (.Tuple elts x1 tpos) (FF K l j) [e,it] e (λi h=>(∃old,IsEnum h e it (j+(i:Nat)) old)/\h.IsTupleIter it l i) where
 mem:=by simp
 obj:=λi h st b a=>by
  obtain⟨⟨old,h1⟩,o,h2,_,J⟩:=st;rcases List.mem_cons.mp a with rfl|a
  ·exact⟨_,h1,λv z=>by cases z⟩
  ·cases af.mp a;exact⟨o,h2,λv z=>by rw[J]at z;cases z⟩
 keep:=λi h h' st k=>by
  obtain⟨⟨old,h1⟩,h2⟩:=st;exact⟨⟨old,k e (by simp) _ h1⟩,h2.at λo q=>k it (by simp) o q⟩
 item:=by
  intro X n y m A i AN s σ H E I c st t;subst n y m;obtain⟨⟨old,h1⟩,h2⟩:=st;obtain⟨xs,x,d,hx⟩:=t;obtain⟨AQ,f,p,L⟩:=I.tuple d;obtain⟨u,hu,U⟩:=f.get hx;have fe:=c e (by simp);have fi:=c it (by simp);refine Tc h1 h2 (show s.heap.IsTuple l AQ.toArray from p) (x:=u) (by simpa using hu) F λa1 ho M hT hk=>⟨_,rfl,?_⟩;refine wpAny_letOwnedTupleGo_enum ho λC G g=>?_;have elt:e<s.heap.objs.size:=zw h1;have a0:it<s.heap.objs.size:=by obtain⟨_,q,_⟩:=h2;exact zw q
  have N:C.get? s.heap.objs.size=Z { cls:=.type "tuple",data:=.seq #[.int (j+(i:Nat)) s.toks,u] }:=(g.2 _ (kF elt)).trans hT;have B:C.IsTupleIter it l (i+1):=M.at λo q=>(g.2 it (kC F)).trans q;have Q:j+(i:Nat)+1=j+((i+1:Nat):Int):=by omega
  refine⟨.ref s.heap.objs.size,B7 H s.heap.objs.size (.tup [.int (j+i),x]),MF (t':=s.toks+1) I (λb o D n2 q=>(g.2 b D).trans (hk b o D n2 q)) fe fi ⟨_,G⟩ (by obtain⟨o,q,_⟩:=B;exact⟨o,q⟩) ?_,rfl,⟨_,x,I.hok.fresh (zl _),λys hy=>by rw[I.vW hy d];exact hx,rfl,rfl⟩,⟨⟨_,by rw[<-Q];exact G⟩,B⟩,λb a=>?_⟩
  ·exact⟨by show 2<=AA;decide,[.int (j+(i:Nat)) s.toks,u],.cons ⟨_,rfl⟩ (.cons U .nil),_,N,rfl,⟨_,rfl⟩,rfl⟩
  ·rcases List.mem_cons.mp a with rfl|a
   ·rw[aO (z4 elt)];exact fe.1
   ·cases af.mp a;rw[aO (z4 a0)];exact fi.1
 done:=by
  intro X n y m A i AN s σ H E I c st t;subst n y m;obtain⟨⟨old,h1⟩,h2⟩:=st;obtain⟨xs,d,hx⟩:=t;obtain⟨AQ,f,p,L⟩:=I.tuple d;obtain⟨f0,f1,f2,f3,f4,W⟩:=c it (by simp);have hl:=f.length;exact WQ (I.ok.hd A) h1 h2 (show s.heap.IsTuple l AQ.toArray from p) (by simp;omega) λh' eb=>⟨rfl,I.turned (t':=s.toks) (λb o a e=>eb b o a e) f0 f1 f3 f4 W⟩
 self:=λ_ _ _ _ _ st h=>by
  obtain⟨⟨old,h1⟩,_⟩:=st;exact yf h1 h
theorem B4.enT(j:Int)(h:qj K Hs l vs)(r:aF K Hs ds vs):B4 K (FF K l j) (P1.D5 j ds) Hs:=λi H s=>by
 have h':=Kp.sqT (.of s) h;have f:=r.kp (.of s);refine⟨λd e=>?_,λe=>⟨vs,h',by rw[Nf]at e;rw[r.length];exact e⟩⟩;have hi:i<ds.length:=by
  have:=(ae.mp e).1;rwa [Nf]at this
 have k:ds[i]?=Z ds[i]:=by simp[hi]
 unfold P1.D5 at e;rw[dC]at e;simp[hi]at e;subst e;obtain⟨v,ev,g⟩:=f.get k;refine⟨⟨vs,v,h',ev⟩,λx H' y=>?_⟩;obtain⟨p,m,hp,c,rfl,rfl⟩:=y;have:=c vs h';rw[ev]at this;cases this;have a:AV H (B7 H p (.tup [.int (j+i),v])):=λb o q=>by rw[aO (bW q hp)];exact q
 refine⟨a,?_⟩;simp only[AW];exact⟨p,_,rfl,.inl (.inl bh),aF.cons (by simp only[AW]) (aF.cons (AW.kp (.of a) g) aF.nil)⟩
section
variable{p:Pos}{fs:Ev->S (Y Bx)}
def IE(K:B6)(ta:TA):TI:=λσ H R=>ta σ H λvs H1=>∃l,vs=[.ref l]/\(∃xs,qj K H1 l xs)/\R (FF K l 0) H1
theorem NV{ta:TA}(i:Gl X "enumerate")(g:X.mg "enumerate"=O)(f:PA X [e] ta)(hs:A9 [e] X.env=[(false,eval e X.env)]:=by rfl):PI X (.Tuple elts x1 tpos) (.Call (.Name "enumerate" p) [e] [] pos) (IE X.K ta):=by
 intro AN s σ H R I h;refine Call_ (qm I i g boot_enumerate (PyProof.Rows.callWith_type1 (gU (f pos AN s σ H _ I h) λus s1 ⟨vs,H1,I1,r1,q1⟩=>?_) hs Y3));obtain⟨l,rfl,⟨xs,d⟩,q⟩:=q1;obtain⟨u,rfl,k⟩:=BC r1;cases k;obtain⟨AQ,n,p,m⟩:=I1.tuple d;refine S8 (show s1.heap.IsTuple l AQ.toArray from p) λh' c j hk=>?_;refine yf c ?_;refine⟨s1.heap.objs.size+1,[s1.heap.objs.size+1,s1.heap.objs.size],_,_,H1,rfl,I1.kept (t':=s1.toks) hk,Td l _ _ 0 (kF (Nat.lt_succ_self _)),⟨⟨_,by rw[show(0:Int)+((0:Nat):Int)=0 by simp];exact c⟩,j⟩,λb a=>?_,q⟩;rcases List.mem_cons.mp a with rfl|a
 ·exact I1.Ef (Kt _) (I1.hok.fresh (Kt _))
 ·cases af.mp a;exact I1.Ef (zl _) (I1.hok.fresh (zl _))
def WR:Y Bx->S (Y Dt)
 |[.z (.tup ds)]=>Z (D5 0 ds)
 |_=>O
theorem WT(j:Gl X "enumerate")(i:X.mg "enumerate"=O)(g:Lz X [e] fs)(hs:A9 [e] X.env=[(false,eval e X.env)]:=by rfl):Ch X (.Tuple elts x1 tpos) (.Call (.Name "enumerate" p) [e] [] pos) (λρ=>(fs ρ).bind WR):=⟨λAN s σ H R I q=>by
 refine NV j i g.run hs AN s σ H R I ?_;obtain⟨H0,ρ,ds,E,e,q⟩:=q;obtain⟨bs,eb,e⟩:=AT e;refine⟨H0,ρ,bs,E,eb,λvs H1 k m=>?_⟩;unfold WR at e;split at e
 ·rename_i t;cases e;obtain⟨v,rfl,c⟩:=BH m;simp only[aW,AW]at c;obtain⟨a,l,rfl,b,h⟩:=c;refine⟨a,rfl,⟨l,b⟩,q _ _ k λHs hs n d f=>.enT 0 ?_ (h.part d f)⟩;rcases b with (b|⟨o,b⟩)|b
  ·exact .inl (.inl ((f _ _ b).trans b))
  ·exact .inl (.inr ⟨o,(d _ _ _ b).trans b⟩)
  ·exact .inr b
 ·cases e⟩
end
section
variable{e:α->Dt}
def F6(fs:Ev->S (Y Bx)):Ev->S (Y Dt):=λρ=>(fs ρ).bind WR
def NO(a:R fa ρ (zE (eT e))):R (F6 (ao fa aH)) ρ (iE (yP eI e)):=⟨jz 0 a.v,a.D,λh=>by
 have b:D5 0 (a.v.map e)=(jz 0 a.v).map (yP eI e):=by
  unfold D5 jz;rw[zg,dr,fE]
 simp only[F6,ao,aH,a.ok h,Ap,zE,eT,WR,b]⟩
end
section
variable{e:α->Dt}
end
section
variable{AS:Y AB}{ga:Ev->S An}
end
section
variable{f:A1}{Fa Fb:Y Bx->S Bx}{p spos:Pos}{fs:Ev->S (Y Bx)}
end
section
variable{e:α->Dt}
end
end P1
namespace P1
open L2 S1 S6
section
variable{e:α->Dt}
def X7(a:R fa ρ (EJ e)):R fa ρ (lE e):=⟨a.v.getD [],bf a.D (Z (a.v.isSome=true)),λh=>by
 obtain⟨h1,h2⟩:=aB h;have h2:a.v.isSome=true:=h2;rw[a.ok h1];cases z:a.v with
 |none=>rw[z]at h2;cases h2
 |some l=>rfl⟩
end
end P1
namespace P1
open L2
section
variable{e:α->Dt}
def Jf(a:R fa ρ (qE e)):R (b1 uL fa) ρ (zE (eO (eL e))):=⟨a.v,a.D,λh=>by
 unfold b1;rw[a.ok h];cases a.v<;>rfl⟩
end
section
variable{R:Result->A2->Prop}{I:A1}{wr:Y A1}{P:Nat->A0->Prop}{St:Nat->A6->Prop}
end
section
variable{e:α->Dt}
end
def DI{α:Type}:Y α->Y α
 |[]=>[]
 |x::xs=>x::DI (xs.drop 5)
termination_by l=>l.length
decreasing_by simp;omega
section
variable{st:Expr}{fs:Ev->S Bx}
end
section
variable{e:α->Dt}
end
section
variable{AS:Y AB}{W:Y Nat}
end
section
variable{e:α->Dt}
end
section
variable{st:Y AB}{fr:Ev->S Bx}{W:Y Nat}{z:Pos}{Φ:Hp->Hp->L2.St->Ev->Prop}
end
section
variable{AS:Y AB}
end
end P1
namespace P1
open L2 S6
section
variable{p p' pos':Pos}
end
end P1
namespace P1
open L2 S1
section
variable{T:Y AY->A0->Prop}(inj:∀ k l v,T k v->T l v->k=l)
include inj
end
end P1
namespace P1
open L2 S1 S6
section
variable{e:α->Dt}{e':β->Dt}
end
end P1
namespace P1
open L2
theorem KC{pos':Pos}{c f:A0}(l:Y A0)(h:TriplesOk l)(d:codeAmong pos' (l++[rawInt pos.line,rawInt pos.col,c])=Z f):codeAmong pos' l=Z f\/f=c:=by
 fun_induction TriplesOk l with
 |case1=>
  simp only[KG,codeAmong,rawInt]at d;split at d
  ·cases d;exact .inr rfl
  ·cases d
 |case2 a t b u x AS g=>
  simp only[List.cons_append,codeAmong]at d ⊢;split at d
  ·rename_i e;rw[zh e];exact .inl d
  ·rename_i e;rw[zr e];exact g h d
 |case3 l h1 h2=>exact h.elim
def KD(K:B6)(c P:A1)(q:AJ):Prop:=∃o vs a tf b tg inF d tt x t,K.lookup c=Z o/\o.cls=.type "code" ∧ o.data=.fields vs/\vs[11]?=Z (.ref P)/\vs.getD 11 .none=.ref P/\vs.getD 18 .none=.str a tf ∧
 vs.getD 7 .none=.int b tg/\vs.getD 9 .none=.bool inF/\vs.getD 10 .none=.int d tt/\c≠P/\vs[1]?=Z (.str x t)/\x∈Ql/\q=x++(".<locals>.<lambda>":AJ)
theorem KD.tab{c P:A1}{q:AJ}(h:KD K c P q):YC K P q:=by
 obtain⟨o,vs,_,_,_,_,_,_,_,x,t,a,_,d,e,_,_,_,_,_,_,f,g,i⟩:=h;exact⟨c,o,vs,x,t,a,d,f,g,e,i⟩
theorem KD.hd{c P:A1}{q:AJ}(h:KD K c P q){hp:A6}(k:K.In hp):PySem.W.CodeHd hp c P:=by
 obtain⟨o,vs,a1,a2,i,p,m,n,j,x,t,a,b,d,e,e1,e2,e3,l,f,g,_⟩:=h;exact⟨o,vs,a1,a2,i,p,m,n,j,k _ _ a,b,d,e,e1,e2,e3,l,f,g⟩
abbrev yu:HO:=.ext λ_=>True
structure Jg (H:Hp) (f:Addr) (q:Str) (params:Arguments) (body:Expr) (scope:Scope) (clos:List (Str×Addr)) (pm:Value):Prop where
 at_:∃c' ctv oc vs t,H f=some (.j7 (kla_obj "<lambda>" q params body scope clos pm c' ctv) yu)/\H c'=some (.j7 oc yu)/\oc.data=.fields vs/\vs[1]?=some (.str q t)
theorem Jg.same{H':Hp}{f:A1}{q:AJ}{body:Expr}{d:Y (AJ×A1)}{pm:A0}(h:Jg H f q params body scope d pm)(s:AV H H'):Jg H' f q params body scope d pm:=by
 obtain⟨c',g,e,vs,t,a,b,c⟩:=h.at_;exact⟨c',g,e,vs,t,s _ _ a,s _ _ b,c⟩
theorem Gj{o:AE}(e:h.get? a=Z o):gq P w H h a (.j7 o yu):=⟨e,trivial,⟨o,e⟩,λ_ _ _ _=>trivial⟩
theorem Te{c P:A1}{q:AJ}{body:Expr}{y:Y (AJ×A1)}{R:BF}(I:L2.AU X AN σ H s)(hK:KD X.K c P q)(a4:X.env.code=.ref c)(hq:X.env.qual++("<lambda>":AJ)=q)(b8:defaultsOf params X.env=([],[]))(a1:closureFor scope X.env=pure y)(h:∀f H' s',L2.AU X AN σ H' s'->AV H H'->H f=O->Jg H' f q params body scope y ((X.mg "__name__").getD .none)->R (.ref f) s'):A7 M A (eval (.Lambda params body scope pos) X.env) R E s:=by
 refine PySem.W.kla_eval b8 ?_;rw[show X.env.qual++("<lambda>":AJ)=q from hq];obtain⟨ps,F,a0,c6⟩:=(I.ok.tabs.go I.base.sV) P q hK.tab;obtain⟨a5,B,x,a2⟩:=I.hok P _ F;have D:s.heap.Ns mainGlobals X.mg:=I.mod.glob.keeps I.bk;have C:=hK.hd I.U4;obtain⟨U,Q,b1,b2,b3,b4,b5,N⟩:=I.mod.bmain;have a7:mainGlobals≠P:=λz=>by
  obtain⟨o,es,ep,e,hd,_⟩:=D;rw[z,B]at e;cases e;cases hd
 have l:=I.bk _ _ b3;have G:U≠P:=λz=>by rw[z,B]at l;cases l;cases b4
 have b7:U≠mainGlobals:=λz=>by
  obtain⟨o,es,ep,e,hd,_⟩:=D;rw[z,e]at l;cases l;rw[hd]at N;cases N
 have hB:s.heap.BuiltinsAt X.mg P:=⟨U,Q,b1,b2,b7,G,l,b4,b5,N⟩;cases L:codeAmong pos (tr ps++a5).toList with
 |some cv=>
  obtain⟨c',a,vs,t,rfl,g1,g2,g3⟩:=a2 pos cv L;refine PySem.W.kla_makeFunctionHit (mg:=X.mg) a1 I.ok.glob D a4 C B x L hB λj h' tk hk c7=>?_;have p:L2.AU X AN σ H { s with heap:=h',toks:=tk }:=I.kept hk;have i:H h'.objs.size=O:=p.hok.fresh (zl _);have m:AV H (B7 H h'.objs.size (.j7 (kla_obj "<lambda>" q params body scope y ((X.mg "__name__").getD .none) c' j) yu)):=bO i;refine h h'.objs.size _ _ (p.laid (t':=tk) (λb u e=>ze _ e) (zl _) (Gj (zz _ Y3))) m i ⟨c',j,a,vs,t,bh,m _ _ g1,g2,?_⟩;rw[a0]at g3;exact g3
 |none=>
  refine PySem.W.kla_makeFunction (mg:=X.mg) a1 I.ok.glob D a4 C B x L a7 hB λc' j h' tk hx a3 a9 c0 J=>?_;obtain⟨c4,a,vs,t,e2,b9,hd,hv⟩:=c0;cases e2;have a8:H c'=O:=I.hok.fresh a3;have nP:∀b,H b=O->b≠P:=λb n z=>by rw[z,F]at n;cases n
  have c5:=J;have g:AV H (B7 H c' (.j7 a yu)):=bO a8;have u:Un X.fs [] H (B7 H c' (.j7 a yu)) s.heap h':=by
   refine⟨λb o e n _ _=>hx b o (nP b n) e,λb o e n _ _=>⟨o.slots,hx b o (nP b n) e⟩,λb o e n _=>?_,λb o e _=>?_,λb xs e=>g _ _ e,λb o u e=>g _ _ e,λb ps e=>⟨#[],by rw[g _ _ e];simp⟩⟩
   ·rw[aO (z4 (Zp (zw e) a3))];exact n
   ·by_cases k:b=P
    ·subst k;exact⟨_,J⟩
    ·exact⟨o,hx b o k e⟩
  have a6:vR X.prog X.w (B7 H c' (.j7 a yu)) h':=λb Q e=>by
   by_cases k:b=c'
   ·subst k;rw[bh]at e;cases e;exact Gj b9
   ·rw[aO k]at e;by_cases G:b=P
    ·subst G;rw[F]at e;cases e;refine⟨a5++#[rawInt pos.line,rawInt pos.col,.ref c'],?_,?_,λpos' cv z=>?_⟩
     ·rw[<-ya];exact J
     ·rw[<-ya,Zl];exact TriplesOk_snoc _ _ _ _ x
     ·rw[<-ya,Zl]at z;rcases KC _ x z with z|z
      ·obtain⟨d,od,ws,t',e1,e2,e3,e4⟩:=a2 pos' cv z;exact⟨d,od,ws,t',e1,g _ _ e2,e3,e4⟩
      ·exact⟨c',a,vs,t,z,bh,hd,by rw[a0];exact hv⟩
    ·refine(I.hok b Q e).stay (λd v hd q'=>hx d v (λz=>?_) q') (λd z=>g _ _ z) (λd xs z=>g _ _ z) λd o φ z=>g _ _ z;subst z;rcases hd with z|z
     ·exact G z.symm
     ·rw[F]at z;cases z
  have p:L2.AU X AN σ (B7 H c' (.j7 a yu)) { s with heap:=h',toks:=tk }:=I.un u a6;have i:(B7 H c' (.j7 a yu)) h'.objs.size=O:=p.hok.fresh (zl _);have b0:H h'.objs.size=O:=by rw[aO (kF a9)]at i;exact i
  have m:AV (B7 H c' (.j7 a yu)) (B7 (B7 H c' (.j7 a yu)) h'.objs.size (.j7 (kla_obj "<lambda>" q params body scope y ((X.mg "__name__").getD .none) c' j) yu)):=bO i;exact h h'.objs.size _ _ (p.laid (t':=tk) (λb u e=>ze _ e) (zl _) (Gj (zz _ Y3))) (g.trans m) b0 ⟨c',j,a,vs,t,bh,m _ _ bh,hd,hv⟩
def Dr(X:Cx)(scope:Scope)(cl:Y (AJ×A1)):Au->Y Nat->Prop
 |[],[]=>True
 |x::xs,i::is=>(X.N[i]?=Z x/\(X.env.kindOf x=Z .cell\/X.env.kindOf x=Z .free)/\scope.names.lookup x=Z .free/\∃c,cl.lookup x=Z c)/\Dr X scope cl xs is
 |_,_=>False
theorem Dr.get{X:Cx}{scope:Scope}{cl:Y (AJ×A1)}:∀{xs:Au} {is:Y Nat},Dr X scope cl xs is->xs.length=is.length/\∀(j:Nat) (x:AJ),xs[j]?=Z x->∃i,is[j]?=Z i/\X.N[i]?=Z x/\(X.env.kindOf x=Z .cell\/X.env.kindOf x=Z .free)/\scope.names.lookup x=Z .free/\∃c,cl.lookup x=Z c
 |[],[],_=>⟨rfl,λj x e=>by simp at e⟩
 |x::xs,i::is,h=>by
  obtain⟨h1,h2⟩:=h;obtain⟨l,g⟩:=Dr.get h2;refine⟨by simp[l],λj y e=>?_⟩;cases j with
  |zero=>simp at e;subst e;exact⟨i,rfl,h1⟩
  |succ j=>obtain⟨k,e1,e2⟩:=g j y (by simpa using e);exact⟨k,by simpa using e1,e2⟩
 |[],_::_,h=>h.elim
 |_::_,[],h=>h.elim
structure Nh (X:Cx) (scope:Scope) (cl:List (Str×Addr)) (x:Str) (xs:Au) (is:List Nat):Prop where
 clos:closureFor scope X.env=pure cl
 kind:scope.kind=.function
 co:scope.isCoroutine=false
 gen:scope.isGenerator=false
 Yc:∀y∈scope.names,y.2≠.cell
 par:scope.names.lookup x=some .local
 sub:C5 X.env.cells cl
 has:∀y∈scope.names,y.2=.free->∃c,cl.lookup y.1=some c
 cap:Dr X scope cl xs is
def EG(X:Cx)(A:A5)(a:Au)(env:Env)(s₀:A2)(H₀:Hp):Cx:=
 { X with A:=A.deeper env,N:=a,s₀:=s₀,H₀:=H₀,env:=env,outer:=X.stack,stack:=env::X.stack,ex:=[],calm:=true,fn:=λ_=>false,pn:=[],xe:=λ_ _=>False }
section
variable{q:AJ}{body:Expr}{xs:Au}{f c':A1}{pm:A0}
theorem WW{h1:A6}{t1:Nat}{v:V}(I:L2.AU X AN σ H s)(O:Nh X scope cl x xs is)(Q:A.frames=Z X.stack)(L:A.handled=none)(r:At v u)(K:h1.Ns s.heap.objs.size (λy=>[(x,u)].reverse.lookup y))(hk:∀b o,s.heap.get? b=Z o->h1.get? b=Z o):
  L2.AU (EG X A (x::xs) (envX q scope s.heap.objs.size f (.ref c') cl) s H) [] (Z v::oH is σ) H { s with heap:=h1,toks:=t1 }:=by
 obtain⟨P,D⟩:=O.cap.get;have m:∀b:A1,b∉(EG X A (x::xs) (envX q scope s.heap.objs.size f (.ref c') cl) s H).ex:=λb z=>absurd (show b∈([]:Y A1) from z) (by simp);have d:∀y c,cl.lookup y=Z c->X.env.cells.lookup y=Z c:=λy c e=>O.sub.get e;refine⟨⟨I.ok.mod,O.kind,rfl,rfl,zl _,λy z c e1 e2=>I.ok.inj y z c (d _ _ e1) (d _ _ e2),λy a=>?_,λy c h _=>absurd h (by show ¬ (false=true);simp),λ_=>L,Around.frames_deeper Q,.inr ⟨rfl,rfl⟩,λb z=>absurd z (m b),I.bs,zi I.ok.Uw I.sz,λb _ _=>m b,λb z=>absurd z (m b),I.stack,I.Eb,I.ok.tabs.go I.base.sV⟩,
  rfl,I.bare,Un.kept hk,⟨_,K,λj y w e1 e2 _=>?_⟩,λy c e=>?_,I.hok.fresh (zl _),λy c e=>I.mD y c (d _ _ e),λp hp=>absurd (show p∈([]:Y (A1×AE)) from hp) (by simp),I.hok.kept hk,?_⟩
 ·have a:scope.names.lookup y=Z .cell\/scope.names.lookup y=Z .free:=a;rcases a with a|a
  ·exact absurd Y3 (O.Yc _ (QQ a))
  ·exact O.has _ (QQ a) rfl
 ·cases j with
  |zero=>
   have e1:Z x=Z y:=e1;have e2:Z (Z v)=Z (Z w):=e2;cases e1;cases e2;exact⟨u,r,.inl ⟨O.par,by simp⟩⟩
  |succ j=>
   have e1:xs[j]?=Z y:=e1;have e2:(oH is σ)[j]?=Z (Z w):=e2;obtain⟨i,M,n,k,C,c,t⟩:=D j y e1;have e3:σ[i]?=Z (Z w):=by
    unfold oH at e2;rw[qv,M]at e2;cases q:σ[i]? with
    |none=>rw[bp,q]at e2;cases e2
    |some o=>
     rw[bp,q]at e2;have:o=Z w:=by simpa using e2
     rw[this]
   have B:Uv X.env.scope y:=by
    rcases k with k|k
    ·exact .inr (.inl k)
    ·exact .inr (.inr k)
   obtain⟨m',a0,U⟩:=I.loc;obtain⟨E,J,l⟩:=U i y w n e3 B;refine⟨E,J,?_⟩;rcases l with⟨G,_⟩|⟨_,c2,F,N⟩
   ·rcases k with k|k<;>(rw[G]at k;cases k)
   ·have:=d _ _ t;rw[F]at this;cases this;obtain⟨o,g,hd⟩:=N;exact .inr ⟨.inr C,_,t,o,hk _ o g,hd⟩
 ·obtain⟨W,o,g,hd⟩:=I.cell y c (d _ _ e);exact⟨W,o,hk _ _ g,hd⟩
 ·show(Z v::oH is σ).length=(x::xs).length;simp[oH,P]
theorem WX{y:Bx}{v:V}(I:L2.AU X AN σ H s)(O:Nh X scope cl x xs is)(hA:A.frames=Z X.stack)(hh:A.handled=none)(P:A.depth<recursionLimit)(L:Jg H f q params body scope cl pm)(a8:∀a0 ct u,bindArgs (kla_fn "<lambda>" q params body scope cl pm a0 ct) ⟨[u],[]⟩=pure [(x,u)])(hb:∀f c' s H,PV (EG X A (x::xs) (envX q scope s.heap.objs.size f (.ref c') cl) s H) body fb)(E:bN X.K H0 H σ ρ)(r:At v u)(rd:AW X.K H d v)(e:fb (Z (.z d)::gZ is ρ)=Z y):
  A7 (f6 X) A (call (.ref f) [u]) (λD s'=>∃g H',L2.AU X AN σ H' s'/\At g D/\AV H H'/\Nw H y g/\aW X.K H' y g) (λ_ _=>False) s:=by
 obtain⟨c',a9,oc,vs,t,a1,a2,a3,a4⟩:=L.at_;have M:=(I.hok _ _ a1).1;have hc:=(I.hok _ _ a2).1;refine wpAny_call (PySem.W.kla_callFunE P M Y3 O.co O.gen Y3 ⟨c',oc,vs,t,rfl,hc,a3,a4⟩ ?_);rw[a8];refine zd (wpAny_newFunctionEnv O.Yc (λz G=>by rw[af.mp G];exact O.par) (λa7 U C=>⟨(I.nolimit).fresh _ C,?_⟩) O.kind);show AF _ _ (.expr body (envX q scope s.heap.objs.size f (.ref c') cl)) _ _;have a6:∀b o,s.heap.get? b=Z o->a7.get? b=Z o:=λb o e=>C.extBut b o (z4 (zw e)) (ze _ e);have J:=WW (t1:=s.toks+1) (c':=c') (f:=f) (q:=q) I O hA hh r U a6;have E0:=E.caps is 0;have E1:bN X.K H H (Z v::oH is σ) (Z (.z d)::gZ is ρ):=by
  have F:=E0.len;simp only[List.replicate_zero,qa]at E0 F;refine⟨by simpa using F,λi b e=>?_,λi j c a b e h=>?_,AV.refl H,λi c a e h=>?_⟩
  ·cases i with
   |zero=>cases e;exact⟨v,rfl,rd⟩
   |succ i=>exact E0.val i b (by simpa using e)
  ·cases i with
   |zero=>cases e;cases h
   |succ i=>
    intro h1 h2 B h4;cases j with
    |zero=>cases h2;cases B
    |succ j=>rw[E0.own i j c a b (by simpa using e) h (by simpa using h1) (by simpa using h2) B (by simpa using h4)]
  ·cases i with
   |zero=>cases e;cases h
   |succ i=>intro h1;exact E0.new i c a (by simpa using e) h (by simpa using h1)
 refine PySem.W.kla_codeExpr (qB (hb f c' s H [] _ _ _ (λg H'=>AV H H'/\Nw H y g/\aW X.K H' y g) J ⟨H,_,y,E1,e,λg H' p m n=>⟨p,m,n⟩⟩) (λD s' l=>?_) λe s' l=>l.elim);obtain⟨g,H',k,N,p,m,n⟩:=l;obtain⟨v2,H2,I2,a5,s2,n2,r2⟩:=I.after (Q:=λg H'=>AV H H'/\Nw H y g/\aW X.K H' y g) ⟨g,H',k.os,k.bare,k.base,k.hok,N,p,m,n⟩;exact⟨v2,H2,I2,a5,s2,n2,r2⟩
end
end P1
namespace P1
open L2 S1
def BI(Tf:Dt->Bool)(fk:Dt->S Bx):Y Dt->S (Y (Dt×Dt))
 |[]=>Z []
 |d::ds=>match fk d with
  |some (.z k)=>if Tf k=true then(BI Tf fk ds).bind λr=>Z ((d,k)::r)else O
  |_=>O
theorem nW{H1:Hp}{S:A1}(s:AV H1 H)(h:H1 S=O):AV H1 (B7 H S o):=λa u e=>by
 rw[aO (bW e h)];exact s a u e
theorem KH{Tf:Dt->Bool}{r:Y (Dt×Dt)}(h:BI Tf fk (d::ds)=Z r):∃k a,fk d=Z (.z k)/\Tf k=true/\BI Tf fk ds=Z a/\r=(d,k)::a:=by
 simp only[BI]at h;split at h
 ·rename_i k hk;split at h
  ·rename_i ok;obtain⟨a,e,h⟩:=AT h;cases h;exact⟨k,a,hk,ok,e,rfl⟩
  ·cases h
 ·cases h
theorem Tg{H':Hp}(h:nF K H a xs)(s:AV H H'):nF K H' a xs:=by
 rcases h with (h|⟨o,h⟩)|h
 ·exact .inl (.inl (s _ _ h))
 ·exact .inl (.inr ⟨o,s _ _ h⟩)
 ·exact .inr h
section
variable{R:Result->A2->Prop}
end
section
variable{body:Expr}{aa0 p kpos:Pos}{xs:Au}{c P:A1}{q:AJ}{bt:Dt->Dt->Bool}{Tf:Dt->Bool}
end
end P1
namespace P1
open L2
section
variable{o:Expr}
end
end P1
namespace P1
open L2 S1
end P1
namespace P1
open L2 S1 S6
section
variable{e:α->Dt}{e':β->Dt}
theorem Du{Tf:Dt->Bool}{fk:Dt->S Bx}{g:α->β}(a:∀y,Tf (e' y)=true):∀{xs:Y α},(∀x∈xs,fk (e x)=Z (.z (e' (g x))))->BI Tf fk (xs.map e)=Z (xs.map λx=>(e x,e' (g x)))
 |[],_=>rfl
 |x::xs,h=>by
  rw[zv,BI,h x (zt ..)];simp only[a,QU];rw[Du a λz b=>h z (zo _ b),Ap];rfl
def hk(q:AJ×β):Y AY:=[.inr q.1]
end
end P1
namespace P1
open L2
section
variable [Inhabited α] {e:α->Dt}{k:Ev->S An}{cO:γ->An}
end
theorem IT{f c:A1}(F:Uy K x qual st f fd)(d:fd.code=.ref c)(S:cj N ps (aQ st))(o:N.length=n)(j:ps.length=m)(B:∀(A:A5) (outer:Y Env) (s:A2) (H:Hp) (E:XK),gY k (A.deeper (AK qual (aQ st) s.heap.objs.size f (.ref c)))->Q5 (zm Hj P w K mg base N qual (aQ st) f (.ref c) A outer s H E).Ux (gF st) g):
  sW P w K mg base Hj (k+1) f fd ps (Ri K m (eZ n g)):=by
 subst o j;obtain⟨I,J,kV,L,pm,D,u,ct,osl,rfl,C,l⟩:=F.ex;have d:u=.ref c:=d;subst d;refine Xx C l S (λvs H Q E h=>h.1) λA outer s H vs Q E p h=>?_;refine⟨_,JZ.Ux (B A outer s H E p).run,?_⟩;obtain⟨G,bs,r,i,t,e,q⟩:=h;obtain⟨a,er,e⟩:=AT e;refine⟨H,_,a,bN.start i t,er,?_⟩;cases a with
 |rt b=>cases e;exact λv H' s' z a=>q v H' s' z a
 |nx ρ=>cases e;exact λσ H' y=>q _ H' y.base trivial (by unfold aW AW;rfl)
 |bk ρ=>cases e
 |ct ρ=>cases e
section
variable{f:A1}{p:Pos}{fs:Ev->S (Y Bx)}
end
end P1
namespace P1
open PySem PySem.Spec PySem.Calls PyProof.Rows L2
def Oy(f:A1)(v:A0):Bool:=match v with
 |.ref g=>g==f
 |_=>false
section
variable{D:Y (AJ×A1)}{k:AJ}{tk:Tok}
end
section
variable{D:Y (AJ×A1)}{tab:Y (AJ×(Y Bx->S Bx))}{dn:AJ}{ek:Expr}{p0 p1 p3 q0 q1 q2 q3:Pos}{AS:Y AB}{fh:Ev->S Bx}
end
end P1
namespace P1
open L2
def qO(o:AE):S (AJ×A1):=match o.data with
 |.fields vs=>match vs[1]?,vs[11]? with
  |some (Value.str x _),Z (Value.ref P)=>if Ql.contains x=true then Z (x,P)else O
  |_,_=>O
 |_=>O
def TN(K:B6):Y (A1×AJ):=K.filterMap λp=>(qO p.2).map λq=>(q.2,q.1)
def Gc(x:AJ):Array A0:=#[.str (x++(".<locals>.<lambda>":AJ)) 0]
def ER(K:B6):Y (A1×Array A0):=(TN K).map λp=>(p.1,Gc p.2)
def CM(K:B6)(x:AJ):S A1:=match nsIn K mainGlobals x with
 |some (Z (.ref f))=>match K.lookup f with
  |some a=>match a.data with
   |.func fd=>match fd.code with
    |.ref c=>Z c
    |_=>O
   |_=>O
  |none=>O
 |_=>O
def yW(p:A3)(K:B6)(c:A1)(x:AJ)(P:A1):Bool:=(recsOf p).any (λd=>d.name==x)&&CM K x==Z c&&(K.lookup c).bind qO==Z (x,P)&&(K.lookup P).isNone&&(TN K).lookup P==Z x
def WY(p:A3)(K:B6):Bool:=K.all λr=>match qO r.2 with
 |none=>true
 |some (x,P)=>yW p K r.1 x P
theorem tX{α β γ:Type}[BEq α]{a:α}(f:β->γ):∀l:Y (α×β),(l.map λp=>(p.1,f p.2)).lookup a=(l.lookup a).map f
 |[]=>rfl
 |(b,c)::l=>by
  simp only[zv,y0];split
  ·rfl
  ·exact tX f l
theorem wK{α β:Type}[BEq α][LawfulBEq α]{a:α}{b:β}:∀{l:Y (α×β)},l.lookup a=Z b->(a,b)∈l
 |[],h=>by cases h
 |(c,d)::l,h=>by
  rw[y0]at h;split at h
  ·rename_i e;cases h;rw[eq_of_beq e];exact zt ..
  ·exact zo _ (wK h)
theorem Pj{o:AE}{P:A1}(h:qO o=Z (x,P)):∃vs t,o.data=.fields vs/\vs[1]?=Z (.str x t)/\vs[11]?=Z (.ref P):=by
 unfold qO at h;cases hd:o.data with
 |fields vs=>
  rw[hd]at h;dsimp only at h;split at h
  ·rename_i y t Q e1 e2;split at h
   ·cases h;exact⟨vs,t,rfl,e1,e2⟩
   ·cases h
  ·cases h
 |_=>rw[hd]at h;cases h
theorem Cc{p:A3}{u:AJ->S A0}{A:ExcName->S A0}{w:Au}(g:WY p K=true)(X:K.In h)(T:Top p w A mg u h):L2.QK K h (ER K):=by
 have n:∀c o x P,(c,o)∈K->qO o=Z (x,P)->yW p K c x P=true:=λc o x P m e=>by
  have:=List.all_eq_true.mp g _ m;simp only[e]at this;exact this
 refine⟨λP q k=>?_,λP ps e=>?_⟩
 ·obtain⟨c,o,vs,x,t,e,d,v,m,f,j⟩:=k;subst j;have er:qO o=Z (x,P):=by
   unfold qO;simp only[d,v,f];rw[zh (bj.mpr m)]
  have z:=n c o x P (wK e) er;simp only[yW,ZH,beq_iff_eq]at z;refine⟨Gc x,?_,rfl,Nat.zero_lt_one⟩;unfold ER;rw[tX,z.2];rfl
 ·unfold ER at e;rw[tX]at e;obtain⟨x,ex,rfl⟩:=bc.mp e;have m:=wK ex;obtain⟨⟨c,o⟩,M,i⟩:=bX.mp m;obtain⟨⟨H,E⟩,i,j⟩:=bc.mp i;obtain⟨q1,q2⟩:=Prod.mk.inj j;have q1:E=P:=q1;have q2:H=x:=q2;rw[q1,q2]at i;have z:=n c o x P M i;simp only[yW,ZH,beq_iff_eq,kc,cw]at z;obtain⟨⟨⟨⟨⟨d,hd,hx⟩,b⟩,N⟩,F⟩,_⟩:=z;obtain⟨a,o1,fd,c1,L,t1,t2,I,D,_,l⟩:=T.tab d hd;rw[hx]at t1;obtain⟨o',G,B⟩:=Option.bind_eq_some_iff.mp N;obtain⟨vs,t,C,_,Q⟩:=Pj B;have U:c1=c:=by
   unfold CM at b;split at b
   ·rename_i f y;have:=mg_of X T.g y;rw[t1]at this;cases this;split at b
    ·rename_i ob J;have:=X _ _ J;rw[t2]at this;cases this;split at b
     ·rename_i a0 s;rw[I]at s;cases s;rw[D]at b;cases b;rfl
     ·cases b
    ·cases b
   ·cases b
  subst U;have pp:L=P:=by
   obtain⟨⟨W,ws,e1,_,e2,e3⟩,_⟩:=l;rw[X _ _ G]at e1;cases e1;rw[C]at e2;cases e2;rw[Q]at e3;cases e3;rfl
  subst pp;exact⟨F,l.2,l.isCodeTable,rfl⟩
def EZ(K:B6)(fd:FuncData)(q:AJ):Bool:=match fd.code with
 |.ref c=>match K.lookup c with
  |some o=>match o.data with
   |.fields vs=>o.cls==.type "code" && (match vs[11]?,vs[1]?,vs.getD 18 .none,vs.getD 7 .none,vs.getD 9 .none,vs.getD 10 .none with
    |some (Value.ref P),Z (Value.str x _),Value.str _ _,Value.int _ _,Value.bool _,Value.int _ _=>!(c==P)&&Ql.contains x&&q==x++(".<locals>.<lambda>":AJ)
    |_,_,_,_,_,_=>false)
   |_=>false
  |none=>false
 |_=>false
theorem W0{q:AJ}(h:EZ K fd q=true):∃c P,fd.code=.ref c/\KD K c P q:=by
 unfold EZ at h;split at h;rotate_left
 ·cases h
 rename_i c g;split at h;rotate_left
 ·cases h
 rename_i o l;split at h;rotate_left
 ·cases h
 rename_i vs hd;rw[ZH]at h;obtain⟨h1,h⟩:=h;split at h;rotate_left
 ·cases h
 rename_i P x t f tf i u b j k a e1 d m n p;simp only[ZH,qA,beq_eq_false_iff_ne,ne_eq,beq_iff_eq]at h;obtain⟨⟨h2,e⟩,s⟩:=h;exact⟨c,P,g,o,vs,f,tf,i,u,b,j,k,x,t,l,eq_of_beq h1,hd,a,by rw[Array.getD_eq_getD_getElem?,a];rfl,d,m,n,p,h2,e1,bj.mp e,s⟩
theorem Ix{xs:Au}(c:closureFor scope X.env=pure cl)(d:scope.kind=.function)(f:scope.isCoroutine=false)(b:scope.isGenerator=false)(g:(scope.names.all λy=>!(y.2==.cell))=true)(i:scope.names.lookup x=Z .local)(sub:C5 X.env.cells cl)(has:(scope.names.all λy=>!(y.2==.free)||(cl.lookup y.1).isSome)=true)(h:Dr X scope cl xs is):Nh X scope cl x xs is:=by
 refine⟨c,d,f,b,λy a e=>?_,i,sub,λy a e=>?_,h⟩
 ·have:=List.all_eq_true.mp g y a;rw[e]at this;simp at this
 ·have:=List.all_eq_true.mp has y a;rw[e]at this;exact aE.mp (by simpa using this)
section
variable{e:α->Dt}{c:β->Bx}{fh:Ev->S Bx}{k:Ev->S An}{cO:γ->An}{tab:Y (AJ×(Y Bx->S Bx))}{tt:Y (AJ×(Y α->β)×(Y α->S Prop))}
end
end P1
namespace P1
open PySem PySem.Spec PySem.Calls PyProof.Rows L2 S1
section
variable{R:Result->A2->Prop}{I:A1}{wr:Y A1}{P:Nat->A0->Prop}{St:Nat->A6->Prop}
end
theorem wL{h':A6}{AQ:Array A0}(t:gR h a AQ)(k:∀o,h.get? a=Z o->h'.get? a=Z o):gR h' a AQ:=let ⟨o,e,r⟩:=t;⟨o,k _ e,r⟩
end P1
namespace P1
open L2
section
variable{K:Type} [DecidableEq K] {knd:KeyKind prog w K}
theorem Jh{p:A1}{x y:A0}{Q:Y A0->A2->Prop}(hp:gR s.heap p #[x,y])(h:Q [x,y] s):A7 (A8 prog w) A (Builtin.Dict.pairItems (.ref p)) Q E s:=by
 obtain⟨o,a,b,⟨n,hd⟩,_⟩:=hp;unfold Builtin.Dict.pairItems;refine zb (Q2 (T :="tuple") ⟨_,a,b⟩ ?_);rw[zh ()];exact zb (wpAny_seqItems a hd (zd h))
end
def uc:Y Dt->S (Y (AJ×Dt))
 |[]=>Z []
 |.tup [.str x,d]::ds=>(uc ds).bind λr=>Z ((x,d)::r)
 |_=>O
theorem Am(I:L2.AU X AN σ H s):∀{ds:Y Dt} {ps:Y (AJ×Dt)} {vs:Y V} {AQ:Y A0},uc ds=Z ps->aF X.K H ds vs->AX vs AQ →
  ∃(us:Y V) (b:Y A0),us.length=ps.length/\b.length=ps.length/\AQ.length=ps.length/\AX us b/\aF X.K H (ps.map (·.2)) us/\(∀p∈ps,p.1.length<=AA) ∧
   ∀(j:Nat) (k:AY) (v:A0),((ps.map λp=>(Sum.inr p.1:AY)).zip b)[j]?=Z (k,v)->∃a x,AQ[j]?=Z (.ref a)/\gR s.heap a #[x,v]/\(d8 X.prog X.w).is k x=true
 |[],ps,vs,AQ,e,r,w=>by
  cases e;simp only[aF]at r;subst r;cases w;exact⟨[],[],rfl,rfl,rfl,.nil,aF.nil,λp h=>(by cases h),λj k v h=>by simp at h⟩
 |d::ds,ps,vs,AQ,e,r,w=>by
  unfold uc at e;split at e
  ·cases ‹_::_=([]:Y Dt)›
  ·rename_i x d0 U A;cases A;obtain⟨Q,e1,e2⟩:=AT e;cases e2;obtain⟨v,N,rfl,f,m⟩:∃v r,vs=v::r/\AW X.K H (.tup [.str x,d0]) v/\aF X.K H ds r:=by simpa only[aF]using r
   simp only[AW]at f;obtain⟨p,W,rfl,sq,i⟩:=f;simp only[aF]at i;obtain⟨kx,AS,rfl,hk,t,P,rfl,L,rfl⟩:=i;simp only[AW]at hk;obtain⟨rfl,n⟩:=hk;cases w with
   |cons l rw=>
    cases l;obtain⟨us,b,q,u,C,D,G,J,g⟩:=Am I e1 m rw;obtain⟨M,E,t1⟩:=N1 I sq;cases E with
    |cons q1 q2=>cases q2 with
     |cons q3 B=>
      cases B;rename_i F o;refine⟨t::us,o::b,by simp[q],by simp[u],by simp[C],.cons q3 D,aF.cons L G,λz c=>?_,λj k v h=>?_⟩
      ·rcases List.mem_cons.mp c with rfl|c
       ·exact n
       ·exact J z c
      ·cases j with
       |zero=>
        simp only[zv,Q1,List.getElem?_cons_zero,Option.some.injEq,yv]at h;obtain⟨rfl,rfl⟩:=h;exact⟨p,F,rfl,t1,Ly (k:=Sum.inr x) q1⟩
       |succ j=>
        simp only[zv,Q1,y8]at h;obtain⟨a,y,g1,g2⟩:=g j k v h;exact⟨a,y,by simpa using g1,g2⟩
  ·cases e
theorem Ni:∀{ks:Y AY} {us:Y V} {a:Y A0},AX us a->KV (ks.zip us) (ks.zip a)
 |[],_,_,_=>by simp;exact .nil
 |k::ks,_,_,.nil=>by simp;exact .nil
 |k::ks,_,_,.cons r t=>.cons ⟨rfl,r⟩ (Ni t)
end P1
namespace L2
end L2
namespace P1
open L2
section
variable{a b:Expr}{fs:Ev->S (Y Bx)}
end
end P1
namespace P1
open L2 S1 S6
section
variable{e:α->Dt}{e':β->Dt}{e3:γ->Dt}{k:Ev->S An}{cO:δ->An}
theorem Ao:∀xs:Y (AJ×α),uc (xs.map (yP eS e))=Z (xs.map λp=>(p.1,e p.2))
 |[]=>rfl
 |x::xs=>by
  simp only[zv,yP,eS,uc];rw[show uc (xs.map λq=>Dt.tup [.str q.1,e q.2])=_ from Ao xs,Ap]
end
end P1
namespace P1
open L2
section
variable{o f k v:Expr}{ff fk:Ev->S Bx}{keys:Y (S Expr)}{values:Y Expr}
end
section
variable{e:α->Dt}{fk:Ev->S Bx}
end
end P1
namespace P1
open L2 S1
def W2(bZ:Y (Y AY)):Bool:=decide (bZ.length<=100000)&&(bZ.all (λk=>!k.isEmpty)&&bZ.all λk=>bZ.all λl=>Ik k l)
def ni:Y Bx->S Bx
 |[b]=>(qG b).bind λds=>(tL ds).bind λbZ=>if W2 bZ=true then Z (.o ((tK bZ).map BV))else O
 |_=>O
theorem nY:p8 X (.builtin "sorted") ni:=by
 intro AN s σ H xs us Q I E h;obtain⟨bs,c,rb,e,q⟩:=h;unfold ni at e;split at e
 ·rename_i b;obtain⟨ds,K,e⟩:=AT e;obtain⟨bZ,ek,e⟩:=AT e;split at e
  ·rename_i B;cases e;simp only[W2,ZH,ZA,qk,qA]at B;obtain⟨A,a4,y⟩:=B;obtain⟨v,rfl,r1⟩:=BH rb;obtain⟨p,vs,rfl,sq,x⟩:=yN r1 K;obtain⟨u,rfl,J⟩:=BC E;cases J;have L:=qY ek;subst L;have W:∃(AQ:Y A0) (o:AE) (T:String) (n:Nat),AX vs AQ/\s.heap.get? p=Z o/\o.cls=.type T/\(T ="list" ∨ T ="tuple")/\o.data=.seq AQ.toArray n/\vs.length<=AA:=by
    rcases sq with sq|sq
    ·obtain⟨AQ,f,pl,j⟩:=I.list sq;obtain⟨o,g,c,n,d⟩:=pl.isList;exact⟨AQ,o,_,n,f,g,c,.inl rfl,d,j⟩
    ·obtain⟨AQ,f,⟨o,g,c,n,d⟩,j⟩:=I.tuple sq;exact⟨AQ,o,_,n,f,g,c,.inr rfl,d,j⟩
   obtain⟨AQ,o,T,n,f,g,N,hT,hd,j⟩:=W;have a1:AQ.length=bZ.length:=by rw[<-f.length,x.length,zg]
   have tv:=yM I x f;refine Km (kd:=tuples' true) (rk:=λv=>C4 bZ (BO bZ AQ v)) (vs:=AQ) (λG F w=>z7 g N hT hd (by rw[<-f.length];exact j) w)
    (λh2 G U s' k F w=>Dg (Paired.imp' (λ_ _ z=>lY.keep z k) tv) (λk hk=>by have:=a4 k hk;cases k with|nil=>cases this|cons _ _=>exact fF _ _) (λk hk l i=>z8 (y k hk l i)) () w)
    (λU s' k=>Ih (Paired.imp' (λ_ _ z=>lY.keep z k) tv) λk hk l i=>z8 (y k hk l i)) (by rw[a1];exact zi A ()) (λ_=>Hm) λl h' tk m st hp D i ext P=>?_
   have out:=RG tv hp D;have M:∀u∈((AM st).map (·.2)).toList,u∈AQ:=λu C=>by
    rw[cK]at C;obtain⟨pr,a2,rfl⟩:=ag.mp C;have a0:pr∈AQ.zip AQ:=by rw[<-pairsOf_toList];exact(aw.mp hp).mem_iff.mp a2
    have:=mem_zip_self a0;rw[<-this.1];exact this.2
   obtain⟨zs,z1,z2⟩:=Dk I x f out M;have a3:zs.length=bZ.length:=by rw[z2.length,zg,(xP bZ).length_eq]
   have t:H l=O:=I.hok.fresh i;refine⟨.ref l,_,I.laid (t':=tk) (a:=l) (o:=.lst zs) ext i ⟨by rw[a3];exact zi A (),_,m,z1,?_⟩,rfl,q _ _ (bO t) (λa ea=>by cases ea;exact t) ⟨l,zs,rfl,bh,z2.kp (.of (bO t))⟩⟩;rw[P]
  ·cases e
 ·cases e
def W3(X:Cx)(A:A5)(σ:L2.St)(H1:Hp)(f:A1)(fk:Dt->S Bx):Prop:=∀(AN:Y (A1×AE)) (s:A2) (H:Hp) (d k:Dt) (v:V) (u:A0),L2.AU X AN σ H s->AV H1 H->At v u->AW X.K H d v->fk d=Z (.z k) →
 A7 (f6 X) A (call (.ref f) [u]) (λb s'=>∃a H',L2.AU X AN σ H' s'/\At a b/\AV H H'/\AW X.K H' k a) (λ_ _=>False) s
def qP(X:Cx)(kf:Y Dt->S (Y (Y AY))):Prop:=∀(AN:Y (A1×AE)) (σ:L2.St) (H:Hp) (s:A2) (ks:Y Dt) (vs:Y V) (us:Y A0) (bZ:Y (Y AY)),L2.AU X AN σ H s->aF X.K H ks vs->AX vs us->kf ks=Z bZ →
 ∃(kd:SortKind) (K:A0->Y AY),us.map K=bZ/\(2<=us.length->∀(A:A5) (E:BF) (Q:SortKind->A2->Prop),Q kd s->A7 (f6 X) A (keyKind' us.toArray) Q E s)/\∀A:A5,Fp X.prog X.w A s kd (λv=>C4 bZ (K v)) (pairsOf us)
def vD(ds:Y Dt)(bZ:Y (Y AY)):Bool:=decide bZ.Nodup||(match tL ds with|some a=>(a.zip bZ).all λp=>(a.zip bZ).all λq=>!decide (p.2=q.2)||decide (p.1=q.1)|none=>false)
def D0(a b:Dt×Y AY):Bool:=m9 a.2 b.2
def Dv(ds:Y Dt)(bZ:Y (Y AY)):Y Dt:=((ds.zip bZ).mergeSort D0).map (·.1)
def nj(kf:Y Dt->S (Y (Y AY)))(fe:Ev->S Bx)(fk:Ev->Dt->S Bx):Ev->S Bx:=λρ=>(fe ρ).bind λb=>(qG b).bind λds=>(BI (λ_=>true) (fk ρ) ds).bind λr=>(kf (r.map (·.2))).bind λbZ=>if(decide (ds.length<=100000)&&vD ds bZ)=true then Z (.o (Dv ds bZ))else O
theorem wM{fk:Dt->S Bx}:∀{ds:Y Dt} {r:Y (Dt×Dt)},BI (λ_=>true) fk ds=Z r->r.length=ds.length/\∀(i:Nat) (d:Dt),ds[i]?=Z d->∃k:Dt,r[i]?=Z (d,k)/\fk d=Z (.z k)
 |[],r,h=>by cases h;exact⟨rfl,λi d e=>by cases e⟩
 |d::ds,r,h=>by
  obtain⟨k,b,h1,_,h2,rfl⟩:=KH h;obtain⟨l,m⟩:=wM h2;refine⟨congrArg (·+1) l,λi a e=>?_⟩;cases i with
  |zero=>cases e;exact⟨k,rfl,h1⟩
  |succ i=>exact m i a e
theorem vG{α:Type}{le:α->α->Prop}:∀{l c:Y α},(∀a∈l,∀b∈l,le a b->le b a->a=b)->l.Perm c->l.Pairwise le->c.Pairwise le->l=c
 |[],c,_,h,_,_=>h.nil_eq
 |x::l,c,anti,h,p,p'=>by
  cases c with
  |nil=>exact absurd h.length_eq (by simp)
  |cons y c=>
   have e:x=y:=by
    have hx:x∈y::c:=h.mem_iff.mp zt;have d:y∈x::l:=h.mem_iff.mpr zt;rcases List.mem_cons.mp hx with e|hx
    ·exact e
    rcases List.mem_cons.mp d with e|d
    ·exact e.symm
    exact anti x zt y (zo _ d) ((am.mp p).1 y d) ((am.mp p').1 x hx)
   subst e;rw[vG (λa f b g=>anti a (zo _ f) b (zo _ g)) ((dv x).mp h) (am.mp p).2 (am.mp p').2]
theorem Ti(l:ds.length=bZ.length)(h:vD ds bZ=true):∀p∈ds.zip bZ,∀q∈ds.zip bZ,p.2=q.2->p.1=q.1:=by
 unfold vD at h;rw[JJ]at h;intro p hp q a e;rcases h with h|h
 ·have d:bZ.Nodup:=km h;obtain⟨i,hi,c⟩:=ap.mp hp;obtain⟨j,n,b⟩:=ap.mp a;rw[fJ]at c b;subst c b;have:=(Kk d).mp e;subst this;rfl
 ·split at h
  ·rename_i m hd;have e0:=qY hd;subst e0;simp only[qk,JJ,qA,Qr,ZA]at h;rw[List.zip_map_left]at hp a;obtain⟨p',g,rfl⟩:=ag.mp hp;obtain⟨f,k,rfl⟩:=ag.mp a;rcases h p' g f k with h|h
   ·exact absurd e h
   ·exact congrArg BV h
  ·cases h
theorem Pk{R:α->β->Prop}{ys b:Y β}(p:ys.Perm b):∀{xs:Y α},AI R xs ys->∃a,xs.Perm a/\AI R a b:=by
 induction p with
 |nil=>intro xs h;cases h;exact⟨[],.refl _,.nil⟩
 |cons y _ e=>
  intro xs h;cases h with
  |cons h t=>obtain⟨a,p',g⟩:=e t;exact⟨_::a,p'.cons _,.cons h g⟩
 |swap y z l=>
  intro xs h;cases h with
  |cons h1 t=>cases t with
   |cons h2 t=>exact⟨_::_::_,.swap _ _ _,.cons h2 (.cons h1 t)⟩
 |trans _ _ c f=>
  intro xs h;obtain⟨x1,p1,t1⟩:=c h;obtain⟨d,p2,t2⟩:=f t1;exact⟨d,p1.trans p2,t2⟩
section
variable{kS:A1}{vs:Y A0}{keys:Array A0}{e e1:Nat}{P:PySem.Fin->A2->Prop}
theorem W4(B:s.heap.get? kS=Z (seqObj "list" keys e))(u:s.heap.get? a=Z (seqObj "list" #[] e1))(o:kS≠a)(z:keys.size=vs.length)(D:vs.length<=AA)
  (x:2<=keys.size->∀Q:SortKind->A2->Prop,Q kd s->A7 (A8 prog w) A (keyKind' keys) Q E s) (n:Fp prog w A s kd rk (keys.zip vs.toArray))
  (h:∀(st:SortSt) (c:Nat),(AM st).Perm (keys.zip vs.toArray)->Up rk (AM st) (AM st).size->((s.heap.update kS (Obj.mapSeq λ_=>(#[]:Array A0))).update a (Obj.mapSeq λ_=>(AM st).map (·.2))).get? a=Z (seqObj "list" ((AM st).map (·.2)) c) →
   P (.done (.ret .none)) { s with heap:=(s.heap.update kS (Obj.mapSeq λ_=>(#[]:Array A0))).update a (Obj.mapSeq λ_=>(AM st).map (·.2)) }):
  A7 (A8 prog w) A (ksk_end a false vs.toArray e1 (.ref kS) keys) P E s:=by
 have l:(keys.zip vs.toArray).size=vs.length:=by rw[Array.size_zip,z,zk,cI]
 have y:=jS s.heap kS (Obj.mapSeq λ_=>(#[]:Array A0));have f:(s.heap.update kS (Obj.mapSeq λ_=>(#[]:Array A0))).get? a=Z (seqObj "list" #[] e1):=(y.2 a o.symm).trans u;have m:∀st:SortSt,(AM st).Perm (keys.zip vs.toArray)->failedOf st=O->Up rk (AM st) (AM st).size->A7 (A8 prog w) A (ksk_tail a false e1 (.ref kS) st) P E s:=λst hp k g=>by
  have G:((AM st).map (·.2)).size=vs.length:=by rw[Array.size_map,hp.size_eq,l]
  obtain⟨c,v⟩:∃c,((s.heap.update kS (Obj.mapSeq λ_=>(#[]:Array A0))).update a (Obj.mapSeq λ_=>(AM st).map (·.2))).get? a=Z (seqObj "list" ((AM st).map (·.2)) c):=⟨_,get?_update_seq f λ_=>(AM st).map (·.2)⟩;unfold ksk_tail
  try dsimp only
  refine zb (listUpdate_at B Y3 ?_ () (qi _));refine zb (wpAny_letGo ?_);refine zb (seqEpoch_at f Y3 ?_);refine zb (listUpdate_at f Y3 ?_ (qi _) (by simp only[zS,qV];omega));rw[k];simp only[bne_self_eq_false,zS,qV];exact zd (h st c hp g v)
 unfold ksk_end
 try dsimp only
 rw[zr (by simp)];by_cases h2:vs.toArray.size<2
 ·rw[zh h2,zh h2];refine zb (zd ?_);rw[StateT.run_pure];refine zb (zd ?_)
  try dsimp only
  refine m (SortSt.mk' general' (if false=true then(keys.zip vs.toArray).reverse else keys.zip vs.toArray) #[] 7 O) (KO _) Y3 λi j F p=>?_;have C:j<(keys.zip vs.toArray).size:=p;rw[l]at C;rw[zk]at h2;have:i=j:=by omega
  subst this;exact zl _
 ·rw[zr h2,zr h2];rw[zk]at h2;refine zb (x () _ ?_);refine zb (qB (Ir (b:=keys.zip vs.toArray) (st:=SortSt.mk' kd (if false=true then(keys.zip vs.toArray).reverse else keys.zip vs.toArray) #[] 7 O) (Q:=λ_ d=>(AM d).Perm (keys.zip vs.toArray)/\failedOf d=O/\Up rk (AM d) (keys.zip vs.toArray).size) n ⟨KO _,rfl,rfl,rfl⟩ () λt q1 q2 q3=>⟨q1,q2,q3⟩) ?_ λ_ _ q=>q);rintro⟨⟨⟩,d⟩ s' ⟨rfl,hp,k,g⟩
  try dsimp only
  exact m d hp k (by rw[hp.size_eq];exact g)
end
theorem Tj{f kS:A1}{r:Y (Dt×Dt)}{oa:AE}{e1:Nat}{P:PySem.Fin->A2->Prop}(hT:W3 X A σ H0 f fk)(hk:BI (λ_=>true) fk ds=Z r)(F:aF X.K H0 ds vs)(C:AX vs AQ)(hz:AQ.length<=AA)(I:L2.AU X AN σ H s)(sm:AV H0 H)(h0:H0 kS=O)(hS:H kS=Z (.lst []))(M:H a=Z (.j7 oa (.lst [])))(h:∀H' s' AO c n,L2.AU X AN σ H' s'->AV H0 H'->H' kS=Z (.lst AO)->H' a=Z (.j7 oa (.lst []))->aF X.K H' (r.map (·.2)) AO->AX AO c->s'.heap.get? kS=Z (seqObj "list" c.toArray n)->A7 (f6 X) A (ksk_end a false AQ.toArray e1 (.ref kS) c.toArray) P E s'):
  A7 (f6 X) A (ksk_rest a (.ref f) false AQ.toArray e1 (.ref kS)) P E s:=by
 obtain⟨a6,a3⟩:=wM hk;have a5:AQ.length=ds.length:=by rw[<-C.length,F.length]
 unfold ksk_rest;refine zb (QI ?_)
 first
  |rw[List.forIn_toArray]
  |(rw[<-eJ];simp only[bz])
  |rw[<-eJ]
 refine zb (ksk_fold (λi s'=>∃H' AO,L2.AU X AN σ H' s'/\AV H0 H'/\H' kS=Z (.lst AO)/\H' a=Z (.j7 oa (.lst []))/\aF X.K H' ((r.take i).map (·.2)) AO) AQ 0 s ⟨H,[],I,sm,hS,M,by rw[dA];exact aF.nil⟩ ?step ?done)
 case step=>
  rintro j x s' hx ⟨H',AO,q,m,l,o,rk⟩;simp only[kD]at rk ⊢;have hj:j<AQ.length:=(ae.mp hx).1;obtain⟨d,hd⟩:∃d,ds[j]?=Z d:=⟨_,Zs ()⟩;obtain⟨k,a0,a1⟩:=a3 j d hd;obtain⟨v,N,rd⟩:=F.get hd;obtain⟨u,L,W⟩:=C.get N;rw[hx]at L;cases L;have Q:AO.length<=j:=by rw[rk.length,zg,ZZ];omega
  refine zb (wpAny_attempt (qB (hT AN s' H' d k v x q m W (rd.kp (.of m)) a1) (λg p he=>?_) λ_ _ U=>U.elim));obtain⟨J,H2,G,a2,t,a4⟩:=he
  try dsimp only
  have B:=t _ _ l;obtain⟨_,c,n,y,_,eS⟩:=G.QG B;have a7:c.length<=j:=by rw[<-y.length];exact Q
  have s1:=jS p.heap kS (Obj.mapSeq (·.push g));obtain⟨c2,D⟩:∃c2,(p.heap.update kS (Obj.mapSeq (·.push g))).get? kS=Z (seqObj "list" (c.toArray.push g) c2):=⟨_,get?_update_seq eS (·.push g)⟩;have ea:c.toArray.push g=(c++[g]).toArray:=by simp
  have I3:L2.AU X AN σ (B7 H2 kS (.lst (AO++[J]))) { p with heap:=p.heap.update kS (Obj.mapSeq (·.push g)) }:=G.write (t':=p.toks) (by rw[B];trivial) (.inl Y3) (λb u hb e=>(s1.2 b hb).trans e) ⟨_,D⟩ ⟨by rw[zC];simp;omega,c++[g],c2,y.append (.cons a2 .nil),by rw[<-ea];exact D⟩;refine zb (listUpdate_at eS Y3 ?_ (by rw[zk];omega) (zi (bo (Array.size_push ..)) (by rw[zk];omega)));refine zd ⟨rfl,_,AO++[J],I3,nW (m.trans t) h0,bh,?_,?_⟩
  ·have ne:a≠kS:=λz=>by rw[z,l]at o;cases o
   rw[aO ne];exact t _ _ o
  ·have et:(r.take (j+1)).map (·.2)=(r.take j).map (·.2)++[k]:=by rw[List.take_add_one,a0,ZT];rfl
   rw[et];exact((rk.kp (.of t)).append (aF.cons a4 aF.nil)).kp (Kp.lst B)
 case done=>
  rintro s' ⟨H',AO,q,m,l,o,rk⟩;rw[show r.take (0+AQ.length)=r from ZY ()]at rk;obtain⟨_,c,n,y,_,eS⟩:=q.QG l
  try dsimp only
  refine zb (listItems_at eS Y3 ?_);exact h H' s' AO c n q m l o rk y eS
theorem Ji{x:Keyed}(h:x∈us.zip us):x∈(pairsOf us).toList:=by rw[pairsOf_toList];exact h
theorem Aq{f p:A1}{r:Y (Dt×Dt)}(hF:qP X kf)(I:L2.AU X AN σ H s)(hT:W3 X A.in1.in1 σ H f fk)(sq:nF X.K H p vs\/qj X.K H p vs)(a3:aF X.K H ds vs)(hk:BI (λ_=>true) fk ds=Z r)(c6:kf (r.map (·.2))=Z bZ)(hl:ds.length<=100000)(h1:vD ds bZ=true)(hQ:∀H' s' l zs,L2.AU X AN σ H' s'->AV H H'->H l=O->H' l=Z (.lst zs)->aF X.K H' (Dv ds bZ) zs->Q (.ref l) s'):
  A7 (f6 X) A (call (.builtin "sorted") [.ref p] [(Str.ofString "key", .ref f)]) Q E s:=by
 have c8:∃(AQ:Y A0) (o:AE) (T:String) (n:Nat),AX vs AQ/\s.heap.get? p=Z o/\o.cls=.type T/\(T ="list" ∨ T ="tuple")/\o.data=.seq AQ.toArray n/\vs.length<=AA:=by
  rcases sq with sq|sq
  ·obtain⟨AQ,r',pl,G⟩:=I.list sq;obtain⟨o,g,c,n,d⟩:=pl.isList;exact⟨AQ,o,_,n,r',g,c,.inl rfl,d,G⟩
  ·obtain⟨AQ,r',⟨o,g,c,n,d⟩,G⟩:=I.tuple sq;exact⟨AQ,o,_,n,r',g,c,.inr rfl,d,G⟩
 obtain⟨AQ,o,T,n,W,g,M,c9,hd,G⟩:=c8;have J:AQ.length<=AA:=by rw[<-W.length];exact G
 have b3:AQ.length=ds.length:=by rw[<-W.length,a3.length]
 refine call_function_entry_kw kind_sorted plain_sorted entry_sorted (ksk_s1 _ _) ?_;unfold Builtin.«sorted»;refine zb (m:=checkCount "sorted" 1 1 _) (zd ?_);refine zb (z7 g M c9 hd J λhp tk c7 ext=>zb (yo ?_));generalize a9:hp.objs.size=l;have a0:(hp.push (seqObj "list" AQ.toArray 0)).get? l=Z (seqObj "list" AQ.toArray 0):=by rw[<-a9];exact zz _ rfl
 have a4:s.heap.objs.size<=l:=by rw[<-a9];exact c7
 refine zb (Q4 (wpAny_call_entry_kw slot_list_sort ⟨_,a0,rfl⟩ entry_list_sort ?_ (ksk_l1 _ _)));show A7 (f6 X) A.in1.in1 (Builtin.«list.sort» ⟨[.ref l],[(Str.ofString "key", .ref f)]⟩) _ _ _;rw[ksk_t1];obtain⟨e1,a6⟩:∃e1,((hp.push (seqObj "list" AQ.toArray 0)).update l (Obj.mapSeq λ_=>(#[]:Array A0))).get? l=Z (seqObj "list" #[] e1):=⟨_,get?_update_seq a0 λ_=>#[]⟩;unfold ksk_tree;refine zb (listItems_at a0 Y3 ?_);refine zb (listUpdate_at a0 Y3 ?_ (by rw[zk];omega) (qi _));refine zb (seqEpoch_at a6 Y3 ?_);refine zb (wpAny_newTuple ?_ (by show AQ.length<=_;exact J));refine zb (yo ?_ (qi _));refine Q4 ?_;have s0:=jS (hp.push (seqObj "list" AQ.toArray 0)) l (Obj.mapSeq λ_=>(#[]:Array A0));have fl:H l=O:=I.hok.fresh a4;have d2:∀b u,s.heap.get? b=Z u->((hp.push (seqObj "list" AQ.toArray 0)).update l (Obj.mapSeq λ_=>(#[]:Array A0))).get? b=Z u:=λb u e=>
  (s0.2 b (z4 (Zp (zw e) a4))).trans (ze _ (ext b u e))
 have I1:L2.AU X AN σ (B7 H l (.j7 (seqObj "list" #[] e1) (.lst []))) { s with heap:=(hp.push (seqObj "list" AQ.toArray 0)).update l (Obj.mapSeq λ_=>(#[]:Array A0)),toks:=tk }:=
  I.laid (t':=tk) d2 a4 ⟨a6,qi _,[],e1,.nil,a6⟩
 generalize d6:(hp.push (seqObj "list" AQ.toArray 0)).update l (Obj.mapSeq λ_=>(#[]:Array A0))=h2 at *
 have I2:L2.AU X AN σ (B7 H l (.j7 (seqObj "list" #[] e1) (.lst []))) { s with heap:=h2.push (seqObj "tuple" AQ.toArray 0),toks:=tk }:=I1.kept (t':=tk) λb u e=>ze _ e;generalize e5:h2.push (seqObj "tuple" AQ.toArray 0)=h3 at *
 have I3:L2.AU X AN σ (B7 (B7 H l (.j7 (seqObj "list" #[] e1) (.lst []))) h3.objs.size (.lst [])) { s with heap:=h3.push (seqObj "list" #[] 0),toks:=tk }:=
  I2.laid (t':=tk) (λb u e=>ze _ e) (zl _) ⟨qi _,[],0,.nil,zz _ rfl⟩
 have P:(B7 H l (.j7 (seqObj "list" #[] e1) (.lst []))) h3.objs.size=O:=I2.hok.fresh (zl _);have N:l≠h3.objs.size:=λz=>by rw[<-z,bh]at P;cases P
 have a8:H h3.objs.size=O:=by rw[aO N.symm]at P;exact P
 have c4:AV H (B7 (B7 H l (.j7 (seqObj "list" #[] e1) (.lst []))) h3.objs.size (.lst [])):=nW (bO fl) a8;have c5:∀ob u,X.H₀ l≠Z (.j7 ob u):=λob u e=>by have:=I.base.yh l ob u e;rw[fl]at this;cases this
 show A7 _ A.in1.in1 (ksk_rest l (.ref f) false AQ.toArray e1 (.ref h3.objs.size)) _ _ { s with heap:=h3.push (seqObj "list" #[] 0),toks:=tk };refine Tj (H0:=H) (oa:=seqObj "list" #[] e1) hT hk a3 W J I3 c4 a8 bh (by rw[aO N,bh]) λH' s' AO B m I' b8 d0 b7 rk b5 eS=>?_;have a7:B.length=AQ.length:=by rw[<-b5.length,rk.length,zg,(wM hk).1,b3]
 obtain⟨kd,K,hK,kk,cc⟩:=hF AN σ H' s' _ AO B bZ I' rk b5 c6;have c0:bZ.length=ds.length:=by rw[<-hK,zg,a7,b3]
 have na:s'.heap.get? l=Z (seqObj "list" #[] e1):=(I'.hok _ _ b7).1;refine W4 (kd:=kd) (rk:=λv=>C4 bZ (K v)) eS na N.symm (by rw[zk];exact a7) J (λh2 Q' U=>kk (by rw[zk]at h2;exact h2) _ _ _ U) (λE' p q Q' hp U hh=>?_) λst c hp up M=>?_
 ·rw[ksk_zip,bz]at hp U;have m1:=(KF hp).1;have m2:=(KF U).1;have z:∀{x:A0},x∈B->(x,x)∈(pairsOf B).toList:=λ{x} hx=>Ji (by
   obtain⟨i,hi,e⟩:=ap.mp hx;exact ap.mpr ⟨i,by rw[List.length_zip];omega,by rw[fJ,e]⟩)
  exact cc _ E' (p.1,p.1) (q.1,q.1) Q' (z m1) (z m2) hh
 ·have d1:(B.zip AQ).Perm (AM st).toList:=by
   have:=aw.mp hp;rw[ksk_zip,bz]at this;exact this.symm
  have pr:AI (λ(x:(Dt×Y AY)×V) (y:Keyed)=>x.1.2=K y.1/\At x.2 y.2/\AW X.K H x.1.1 x.2/\y.1∈B) ((ds.zip bZ).zip vs) (B.zip AQ):=by
   have F:∀(C:Y A0),(∀x∈C,x∈B)->∀(ds:Y Dt) (bZ:Y (Y AY)) (vs:Y V) (AQ:Y A0),C.map K=bZ->aF X.K H ds vs->AX vs AQ->AI (λ(x:(Dt×Y AY)×V) (y:Keyed)=>x.1.2=K y.1/\At x.2 y.2/\AW X.K H x.1.1 x.2/\y.1∈B) ((ds.zip bZ).zip vs) (C.zip AQ):=by
    intro C
    induction C with
    |nil=>intro _ ds bZ vs AQ e _ _;subst e;rw[Q3,ce,eU,eU];exact .nil
    |cons k C L=>
     intro hm ds bZ vs AQ e r t;subst e;cases t with
     |nil=>rw[ce,ce];exact .nil
     |@cons v u vs AQ t1 t2=>
      cases ds with
      |nil=>simp only[aF]at r;cases r
      |cons d ds=>
       simp only[aF]at r;obtain⟨v',e4,e,r1,r2⟩:=r;cases e;rw[zv,Q1,Q1,Q1];exact .cons ⟨rfl,t1,r1,hm k zt⟩ (L (λx hx=>hm x (zo _ hx)) ds _ vs AQ Y3 r2 t2)
   exact F B (λ_ h=>h) ds bZ vs AQ hK a3 W
  obtain⟨xs,px,pa⟩:=Pk d1 pr;have gx:∀{i:Nat} {x:(Dt×Y AY)×V} {y:Keyed},xs[i]?=Z x->(AM st).toList[i]?=Z y->x.1.2=K y.1/\At x.2 y.2/\AW X.K H x.1.1 x.2/\y.1∈B:=λ{i x y} e1 e2=>by
   obtain⟨y',e3,q⟩:=Ko pa e1;rw[e2]at e3;cases e3;exact q
  have lx:xs.length=(AM st).size:=by rw[pa.length,ZI]
  have Yd:xs.map (·.1.1)=Dv ds bZ:=by
   have e0:xs.map (·.1)=(ds.zip bZ).mergeSort D0:=by
    have pz:(xs.map (·.1)).Perm (ds.zip bZ):=by
     have h:=px.symm.map Prod.fst;rwa [fz (by rw[List.length_zip,a3.length];omega)]at h
    refine vG (le:=λa b=>D0 a b=true) (λa ha b D d5 b9=>?_) (pz.trans (QR ..).symm) ?_ (jn (le:=D0) (λa b c=>lJ a.2 b.2 c.2) (λa b=>lK a.2 b.2) _)
    ·have e2:a.2=b.2:=qX d5 b9;have:=Ti c0.symm h1 a (pz.mem_iff.mp ha) b (pz.mem_iff.mp D) e2;exact yT this e2
    ·rw[az];intro i j hi hj d3;rw[zg]at hi hj;simp only[ka];have b6:i<(AM st).size:=by omega
     have a5:j<(AM st).size:=by omega
     obtain⟨a1,_,_,m1⟩:=gx (i:=i) (x:=xs[i]) (y:=(AM st)[i]) (Zs hi) (by rw[Zs (by rw[ZI];exact b6),kA]);obtain⟨a2,_,_,m2⟩:=gx (i:=j) (x:=xs[j]) (y:=(AM st)[j]) (Zs hj) (by rw[Zs (by rw[ZI];exact a5),kA]);have u:=up i j (qo d3) a5;unfold at_ at u;rw[getElem?_pos _ i b6,getElem?_pos _ j a5]at u;show m9 _ _=true;unfold m9;rw[a1,a2,<-yL (show K (AM st)[j].1∈bZ by rw[<-hK];exact kG m2),zI (dQ.mpr u)];rfl
   have:xs.map (·.1.1)=(xs.map (·.1)).map (·.1):=by rw[ZU];rfl
   rw[this,e0];rfl
  have rz:aF X.K H (Dv ds bZ) (xs.map (·.2)):=by
   rw[<-Yd];have F:∀{xs:Y ((Dt×Y AY)×V)} {ys:Y Keyed},AI (λx (y:Keyed)=>x.1.2=K y.1/\At x.2 y.2/\AW X.K H x.1.1 x.2/\y.1∈B) xs ys->aF X.K H (xs.map (·.1.1)) (xs.map (·.2)):=by
    intro xs ys h
    induction h with
    |nil=>exact aF.nil
    |cons h _ L=>rw[zv,zv];exact aF.cons h.2.2.1 L
   exact F pa
  have vz:AX (xs.map (·.2)) ((AM st).map (·.2)).toList:=by
   rw[cK];have F:∀{xs:Y ((Dt×Y AY)×V)} {ys:Y Keyed},AI (λx (y:Keyed)=>x.1.2=K y.1/\At x.2 y.2/\AW X.K H x.1.1 x.2/\y.1∈B) xs ys->AX (xs.map (·.2)) (ys.map (·.2)):=by
    intro xs ys h
    induction h with
    |nil=>exact .nil
    |cons h _ L=>exact .cons h.2.1 L
   exact F pa
  have d4:(xs.map (·.2)).length<=AA:=by rw[rz.length,<-Yd,zg,lx,hp.size_eq,Array.size_zip,zk,zk,a7,cI];exact J
  have t1:=jS s'.heap h3.objs.size (Obj.mapSeq λ_=>(#[]:Array A0));obtain⟨c1,b0⟩:∃c1,(s'.heap.update h3.objs.size (Obj.mapSeq λ_=>(#[]:Array A0))).get? h3.objs.size=Z { cls:=.type "list",data:=.seq #[] c1 }:=⟨_,get?_update_seq eS λ_=>#[]⟩;have J1:L2.AU X AN σ (B7 H' h3.objs.size (.lst [])) { s' with heap:=s'.heap.update h3.objs.size (Obj.mapSeq λ_=>(#[]:Array A0)) }:=I'.write (t':=s'.toks) (by rw[d0];trivial) (.inl Y3) (λb u D e=>(t1.2 b D).trans e) ⟨_,b0⟩ ⟨qi _,[],c1,.nil,b0⟩;have J2:=IZ c5 J1 (show(B7 H' h3.objs.size (.lst [])) l=Z (.j7 (seqObj "list" #[] e1) (.lst [])) by rw[aO N];exact b7);have t2:=jS (s'.heap.update h3.objs.size (Obj.mapSeq λ_=>(#[]:Array A0))) l (Obj.mapSeq λ_=>(AM st).map (·.2));have J3:L2.AU X AN σ (B7 (B7 (B7 H' h3.objs.size (.lst [])) l (.lst [])) l (.lst (xs.map (·.2)))) { s' with heap:=(s'.heap.update h3.objs.size (Obj.mapSeq λ_=>(#[]:Array A0))).update l (Obj.mapSeq λ_=>(AM st).map (·.2)) }:=
   J2.write (t':=s'.toks) (by rw[bh];trivial) (.inl Y3) (λb u D e=>(t2.2 b D).trans e) ⟨_,M⟩ ⟨d4,((AM st).map (·.2)).toList,c,vz,by rw[M]⟩
  have b4:AV H (B7 (B7 (B7 H' h3.objs.size (.lst [])) l (.lst [])) l (.lst (xs.map (·.2)))):=nW (nW (nW b8 a8) fl) fl;exact⟨_,rfl,zd ⟨_,rfl,hQ _ _ l _ J3 b4 fl bh (rz.kp (.of b4))⟩⟩
end P1
namespace P1
open L2 S6
section
variable{t1 i1 tY i2 tZ i3:Expr}{f1 f2 f3:Y Expr}{xs:Au}{g1 g2 g3:Dt->Ev->S Ev}{p1 p2 p3:Ev->S Bool}{fi1 fi2 fi3:Ev->S (Y Dt)}{m2:Nat}
structure GY (X:Cx) (ts:Au) (m m2:Nat) (scope:Scope) (cl:List (Str×Addr)) (xs:Au) (is:List Nat) (t1 i1:Expr) (f1:List Expr) (tY i2:Expr) (f2:List Expr) (tZ i3:Expr) (f3:List Expr) (fi1 fi2 fi3:Ev->Option (List Dt)) (g1 g2 g3:Dt->Ev->Option Ev) (p1 p2 p3:Ev->Option Bool):Prop where
 ok:qy X scope cl xs is
 calm:X.calm=true
 it1:DA X t1 i1 fi1
 tg1:∀C s₀ H₀ fp,UG (xH X (xs++ts) scope cl C s₀ H₀ fp) t1 g1
 c1:∀C s₀ H₀ fp,sZ (xH X (xs++ts) scope cl C s₀ H₀ fp) f1 p1
 k1:Qi is.length m g1
 it2:∀C s₀ H₀ fp,Ch (xH X (xs++ts) scope cl C s₀ H₀ fp) tY i2 fi2
 tg2:∀C s₀ H₀ fp,UG (xH X (xs++ts) scope cl C s₀ H₀ fp) tY g2
 c2:∀C s₀ H₀ fp,sZ (xH X (xs++ts) scope cl C s₀ H₀ fp) f2 p2
 k2:Qi m m2 g2
 it3:∀C s₀ H₀ fp,Ch (xH X (xs++ts) scope cl C s₀ H₀ fp) tZ i3 fi3
 tg3:∀C s₀ H₀ fp,UG (xH X (xs++ts) scope cl C s₀ H₀ fp) tZ g3
 c3:∀C s₀ H₀ fp,sZ (xH X (xs++ts) scope cl C s₀ H₀ fp) f3 p3
 k3:Qi m2 (is.length+ts.length) g3
 hm:is.length<=m:=by decide
 hm2:m<=m2:=by decide
 hm3:m2<=is.length+ts.length:=by decide
 hs:∀x,foldedSetIterable i1 X.env x=pure x:=by intro _;rfl
 hs2:∀C x,foldedSetIterable i2 (compEnvC scope (cellsFrom (C+1) scope.names cl) C X.env) x=pure x:=by intro _ _;rfl
 hs3:∀C x,foldedSetIterable i3 (compEnvC scope (cellsFrom (C+1) scope.names cl) C X.env) x=pure x:=by intro _ _;rfl
theorem Tn(ts:Au)(W:GY X ts m m2 scope cl xs is t1 i1 f1 tY i2 f2 tZ i3 f3 fi1 fi2 fi3 g1 g2 g3 p1 p2 p3)(he:∀C f c fp,QV (xH X (xs++ts) scope cl C f c fp) elt fe):
  QV X (.ListComp elt [⟨t1,i1,f1,0⟩,⟨tY,i2,f2,0⟩,⟨tZ,i3,f3,0⟩] scope pos) (Gh fi1 g1 p1 (CY fi2 g2 p2 (CY fi3 g3 p3 (VN fe))) is ts.length):=⟨λAN s σ H Q I h=>by
 obtain⟨H0,ρ,b,E,e,q⟩:=h;obtain⟨out,g,e⟩:=AT e;obtain⟨ds,p,g⟩:=AT g;split at e
 ·rename_i U;cases e;rw[eval_ListComp];refine yA (use:=O) Y3 W.hs W.ok.clos W.ok.kind W.ok.names ?_;refine gU (W.it1.run AN s σ H (λJ H'=>AV H H'/\B4 X.K J ds H') I ⟨H0,ρ,ds,E,p,λJ H' s' y=>⟨s',y⟩⟩) λv s1 h1=>gU h1 λa0 s2 h2=>?_;obtain⟨it,fp,tn,J,H2,rfl,z,T,st,k,i,Y⟩:=h2;refine CT (B:=Ht) (Ac:=Mh X.K) (O0:=.lst []) (N:=100000) (RR:=λu C=>compPost (f6 X) X.A X.xe O (EP X AN σ Q) u C) (ts:=ts) (xs:=xs) W.ok W.calm (λC f c fp=>(W.tg1 C f c fp).run) (λC f c fp=>(W.c1 C f c fp).run)
   (λC f c fp=>Hu (X:=xH X (xs++ts) scope cl C f c fp) (comp:=.ListComp elt [⟨t1,i1,f1,0⟩,⟨tY,i2,f2,0⟩,⟨tZ,i3,f3,0⟩] scope pos) (d:=1) W.calm Y3 (W.it2 C f c fp).run (W.tg2 C f c fp).run (W.c2 C f c fp).run
    (Hu (X:=xH X (xs++ts) scope cl C f c fp) (comp:=.ListComp elt [⟨t1,i1,f1,0⟩,⟨tY,i2,f2,0⟩,⟨tZ,i3,f3,0⟩] scope pos) (d:=2) W.calm Y3 (W.it3 C f c fp).run (W.tg3 C f c fp).run (W.c3 C f c fp).run (Mi (he C f c fp).run) W.k3 W.hm3 Mh.kp Mh.no (W.hs3 C) (λ_ _ _=>Y3) (CQ Y3 λh=>h) λh=>h)
    W.k2 W.hm2 Mh.kp Mh.no (W.hs2 C) (λ_ _ _=>by simp only[bind_assoc,pure_bind];rfl) (CQ Y3 λh=>h) λh=>h)
   W.k1 W.hm z ((E.grow i).caps is ts.length) (Mf T) st k Y g U ?_
   qr (λ_=>⟨qi _,[],0,.nil,zz _ rfl⟩) (λ_=>⟨[],rfl,aF.nil⟩) Mh.kp (λ_ _ _=>by simp only[bind_assoc,pure_bind];rfl) codeAny_compStart_list λh=>h
  rintro D C s' H' o F j fC ⟨m,L⟩ t l ⟨us,rfl,G⟩;refine⟨m,L,λh' M=>⟨.ref D,H',?_,rfl,q _ _ (i.trans t) (λa ea=>by cases ea;exact i.free F) ⟨D,us,rfl,l,G⟩⟩⟩;obtain⟨f0,f1,f2,f3,P,n⟩:=fC;exact j.turned (t':=s'.toks) (λb o x e=>(M.2 b x).trans e) f0 f1 f3 P n
 ·cases e⟩
section
variable{e:α->Dt}{e':β->Dt}{fs:Ev->S (Y Dt)}
end
end
end P1
namespace P1
open L2 S1
def De(ks:Y Dt):S (Y (Y AY)):=(tL ks).bind λbZ=>if(bZ.all (λk=>!k.isEmpty)&&bZ.all λk=>bZ.all λl=>Ik k l)=true then Z bZ else O
def Ye:Y Dt->S (Y (Y AY))
 |[]=>Z []
 |.str x::ds=>(Ye ds).bind λr=>Z ([.inr x]::r)
 |_=>O
theorem NB:qP X De:=by
 intro AN σ H s ks vs us bZ I f h e;unfold De at e;obtain⟨j,ek,e⟩:=AT e;split at e
 ·rename_i c;cases e;simp only[ZH,qk,qA]at c;obtain⟨i,b⟩:=c;have g:=qY ek;subst g;have tv:=yM I f h;refine⟨tuples' true,BO bZ us,qL tv _ λv q=>(jE tv v q).2,λh2 A E Q d=>Dg tv (λk hk=>by have:=i k hk;cases k with|nil=>cases this|cons _ _=>exact fF _ _) (λk hk l a=>z8 (b k hk l a)) () d,λA=>Ih tv λk hk l a=>z8 (b k hk l a)⟩
 ·cases e
def Pn:A0->Y AY
 |.str x _=>[.inr x]
 |_=>[]
theorem Tp:∀{ks:Y Dt} {bZ:Y (Y AY)},Ye ks=Z bZ->∃xs:Au,ks=xs.map Dt.str/\bZ=xs.map λx=>[.inr x]
 |[],_,h=>by cases h;exact⟨[],rfl,rfl⟩
 |d::ks,bZ,h=>by
  cases d<;>first|(cases h;done)|skip;rename_i x;unfold Ye at h;obtain⟨r,e,h⟩:=AT h;cases h;obtain⟨xs,rfl,rfl⟩:=Tp e;exact⟨x::xs,rfl,rfl⟩
theorem Dw{K:B6}{H:Hp}:∀{xs:Au} {vs:Y V} {us:Y A0},aF K H (xs.map Dt.str) vs->AX vs us->StrsAre us xs
 |[],_,_,h,r=>by
  simp only[Q3,aF]at h;subst h;cases r;exact .nil
 |x::xs,_,_,h,r=>by
  simp only[zv,aF]at h;obtain⟨v,vs,rfl,h1,h2⟩:=h;cases r with
  |cons a b=>
   obtain⟨e,_⟩:v=.str x/\x.length<=AA:=by simpa only[AW]using h1
   subst e;obtain⟨t,rfl⟩:=a;exact .cons _ _ (Dw h2 b)
theorem OI:qP X Ye:=by
 intro AN σ H s ks vs us bZ I i k e;obtain⟨xs,rfl,rfl⟩:=Tp e;have a:=Dw i k;have j:∀{us:Y A0} {xs:Au},StrsAre us xs->us.map Pn=xs.map λx=>[.inr x]:=by
  intro us xs h
  induction h with
  |nil=>rfl
  |cons _ _ _ f=>rw[zv,zv,f];rfl
 have g:∀{us:Y A0} {xs:Au},StrsAre us xs->∀u∈us,∃x t,u=.str x t/\x∈xs:=by
  intro us xs h
  induction h with
  |nil=>intro u b;cases b
  |cons x t _ f=>
   intro u b;rcases List.mem_cons.mp b with rfl|b
   ·exact⟨x,t,rfl,zt⟩
   ·obtain⟨y,d,e,m⟩:=f u b;exact⟨y,d,e,zo _ m⟩
 refine⟨oneType',Pn,j a,λh2 A E Q c=>?_,λA E p q Q hp c h=>?_⟩
 ·match us,h2,a with
  |v1::v2::us,_,a=>exact wpAny_of_eq (keyKind_strs a) c
 ·rw[pairsOf_toList]at hp c;obtain⟨x,t,e1,l⟩:=g a p.1 (mem_zip_self hp).2;obtain⟨y,d,e2,m2⟩:=g a q.1 (mem_zip_self c).2;rw[e1,e2]at h ⊢;rw[keyLt'_oneType];have:decide (C4 (xs.map λx=>[.inr x]) (Pn (.str x t))<C4 (xs.map λx=>[.inr x]) (Pn (.str y d)))=decide (x.cps.toList<y.cps.toList):=by
   rw[show Pn (.str x t)=[.inr x] from rfl,show Pn (.str y d)=[.inr y] from rfl,yL (ag.mpr ⟨x,l,rfl⟩)];unfold g8;split
   ·rename_i e;cases e;simp[g8,KW]
   ·rfl
  rw[this]at h;exact oneLt_str h
theorem Tq{H':Hp}(h:qj K H a xs)(s:AV H H'):qj K H' a xs:=by
 rcases h with (h|⟨o,h⟩)|h
 ·exact .inl (.inl (s _ _ h))
 ·exact .inl (.inr ⟨o,s _ _ h⟩)
 ·exact .inr h
theorem Tr(r:gY (k+1) A):gY k A.in1.in1:=
 ⟨r.hd,by have:=r.dp;show A.depth+3*k+5<_;omega,by have:=r.un;show A.units+1+1+16*k+200<_;omega⟩
section
variable{f:A1}
theorem W5{H1:Hp}(G:sW X.prog X.w X.K X.mg X.base Hj k f fd ps (Ri X.K 1 F))(n:gY k A)(o:A.frames=Z X.stack)(i:BN X.K fd ps []):W3 X A σ H1 f λd=>F [.z d]:=by
 intro AN s H d kk v u I t l p e;have Ev:=I.env0;have h:Ri X.K 1 F ([v]++[]) H (λb H'=>AV H H'/\AW X.K H' kk b) E0:=⟨rfl,[.z d],.z kk,.cons p .nil,rfl,e,λb H' s' _ c=>⟨s',c⟩⟩;have j:([u]++[]:Y A0).length=ps.length:=by
  have:=G.len _ _ _ _ h;exact this
 refine wpAny_call (codeAny_mono (G.run A X.stack s H ⟨[u],[]⟩ ([u]++[]) ([v]++[]) _ _ n ⟨o,Ev.mod,Ev.bs,Ev.Uw,Ev.yj,Ev.YF,Ev.hok,Ev.bare,Ev.tabs⟩ (i s [u] I.U4 j) (.cons l .nil) h) λr s' a=>?_);cases r with
 |error e=>exact a.elim
 |ok fl=>
  cases fl with
  |ret q=>
   obtain⟨b,H',g,c,s',m⟩:=I.after a;exact⟨b,H',g,c,s',m⟩
  |next=>exact False.elim a
  |brk=>exact False.elim a
  |cont=>exact False.elim a
end
section
variable{p kp kpos:Pos}{f:A1}
theorem Tt(y:qP X kf)(hg:Gl X "sorted")(hm:X.mg "sorted"=O)(n:AH "sorted"=Z (.builtin "sorted"))(G:sW X.prog X.w X.K X.mg X.base Hj k f fd ps (Ri X.K 1 F))(M:gY (k+1) X.A)(t:Gl X x)(P:X.mg x=Z (.ref f))(J:BN X.K fd ps [])(he:QV X e fe)
  (hs:A9 [e] X.env=(false,eval e X.env)::A9 [] X.env:=by rfl) (h1:AD pos (A9 [e] X.env)=(false,eval e X.env)::AD pos (A9 [] X.env):=by rfl) (h2:(AD pos (A9 [e] X.env)).any (·.1)=false:=by rfl) (hn:("sorted":AJ) ≠ "__name__":=by decide) (B:(("sorted":AJ)==("__debug__":AJ))=false:=by decide) (a1:fT x:=by decide):
  QV X (.Call (.Name "sorted" p) [e] [⟨Z "key", .Name x kp,kpos⟩] pos) (nj kf fe λ_ d=>F [.z d]):=⟨λAN s σ H Q I h=>by
 obtain⟨H0,ρ,b,E,c,qq⟩:=h;unfold nj at c;obtain⟨b1,e1,c⟩:=AT c;obtain⟨ds,D,c⟩:=AT c;obtain⟨kr,ek,c⟩:=AT c;obtain⟨bZ,a0,c⟩:=AT c;split at c
 ·rename_i g;cases c;rw[ZH,ZA]at g;refine kP (qm I hg hm n ?_ hn B);refine callWith_kw (gU (uF he.run zj hs pos AN s σ H (λvs H1=>∃v,vs=[v]/\AV H H1/\aW X.K H1 b1 v) I ⟨H0,ρ,b1,E,e1,λv H' N _ i=>⟨v,rfl,N,i⟩⟩) λus s1 hu=>?_) h1 h2 Y3 rfl;obtain⟨vs,H1,j,r1,v,rfl,m,i⟩:=hu;obtain⟨u,rfl,C⟩:=BC r1;obtain⟨a,ws,rfl,sq,W⟩:=yN i D;cases C;show A7 _ _ (evalAll [do let v <-eval (.Name x kp) X.env;standAt pos;pure v]) _ _ s1;refine wpAny_evalAll_cons (zb (Ln j t P ?_ a1));refine zb (ki (zd (wpAny_evalAll_nil ?_)));show A7 _ _ (call (.builtin "sorted") [.ref a] [(Str.ofString "key", .ref f)]) _ _ _;refine Aq y j (W5 G (Tr M) (show X.A.in1.in1.frames=Z X.stack from j.ok.frames) J) sq W ek a0 g.1 g.2 λH' s' l zs o L hl U q=>⟨.ref l,H',o,rfl,qq (.ref l) H' (m.trans L) (λa ea=>by cases ea;exact m.free hl) ⟨l,zs,rfl,U,q⟩⟩
 ·cases c⟩
end
section
variable{body:Expr}{aa0 p kpos:Pos}{xs:Au}{c P:A1}{q:AJ}
theorem Tv(a0:X.calm=true)(hd:X.A.depth<recursionLimit)(D:qP X kf)(hg:Gl X "sorted")(hm:X.mg "sorted"=none)(y:AH "sorted"=Z (.builtin "sorted"))(O:Nh X scope cl x xs is)(U:KD X.K c P q)(a4:X.env.code=.ref c)(hq:X.env.qual++("<lambda>":AJ)=q)
  (a1:defaultsOf params X.env=([],[])) (a6:∀pm a3 ct u,bindArgs (kla_fn "<lambda>" q params body scope cl pm a3 ct) ⟨[u],[]⟩=pure [(x,u)]) (he:QV X e fe)
  (M:∀f c' s H,QV (EG X X.A.in1.in1 (x::xs) (envX q scope s.heap.objs.size f (.ref c') cl) s H) body fb)
  (hs:A9 [e] X.env=(false,eval e X.env)::A9 [] X.env:=by rfl) (h1:AD pos (A9 [e] X.env)=(false,eval e X.env)::AD pos (A9 [] X.env):=by rfl) (h2:(AD pos (A9 [e] X.env)).any (·.1)=false:=by rfl) (hn:("sorted":AJ) ≠ "__name__":=by decide) (F:(("sorted":AJ)==("__debug__":AJ))=false:=by decide):
  QV X (.Call (.Name "sorted" p) [e] [⟨Z "key", .Lambda params body scope aa0,kpos⟩] pos) (nj kf fe λρ d=>fb (Z (.z d)::gZ is ρ)):=⟨λAN s σ H Q I h=>by
 obtain⟨H0,ρ,b,E,g,qq⟩:=h;unfold nj at g;obtain⟨b1,e1,g⟩:=AT g;obtain⟨ds,J,g⟩:=AT g;obtain⟨kr,ek,g⟩:=AT g;obtain⟨bZ,a5,g⟩:=AT g;split at g
 ·rename_i n;cases g;rw[ZH,ZA]at n;refine kP (qm I hg hm y ?_ hn F);refine callWith_kw (gU (uF he.run zj hs pos AN s σ H (λvs H1=>∃v,vs=[v]/\AV H H1/\aW X.K H1 b1 v) I ⟨H0,ρ,b1,E,e1,λv H' j _ t=>⟨v,rfl,j,t⟩⟩) λus s1 hu=>?_) h1 h2 Y3 rfl;obtain⟨vs,H1,I1,r1,v,rfl,o,t⟩:=hu;obtain⟨u,rfl,G⟩:=BC r1;obtain⟨a,w,rfl,sq,rs⟩:=yN t J;cases G;show A7 _ _ (evalAll [do let v <-eval (.Lambda params body scope aa0) X.env;standAt pos;pure v]) _ _ s1;refine wpAny_evalAll_cons (zb (Te I1 U a4 hq a1 O.clos λf H2 s2 W i hf L=>zb (ki (zd (wpAny_evalAll_nil ?_)))));show A7 _ _ (call (.builtin "sorted") [.ref a] [(Str.ofString "key", .ref f)]) _ _ _;have hT:W3 X X.A.in1.in1 σ H2 f λd=>fb (Z (.z d)::gZ is ρ):=λAN s H' d k v u I j B rd e=>
   qB (WX I O (show X.A.in1.in1.frames=Z X.stack from I.ok.frames) (show X.A.in1.in1.handled=none from I.ok.hd a0) (show X.A.in1.in1.depth<recursionLimit from hd) (L.same j) (a6 _) (λf c' s H=>(M f c' s H).run) (((E.grow o).grow i).grow j) B rd e)
    (λu' s' ⟨v',H'',m,r',s'',_,r''⟩=>⟨v',H'',m,r',s'',r''⟩) λ_ _ h=>h
  have yr:nF X.K H2 a w\/qj X.K H2 a w:=by
   rcases sq with sq|sq
   ·exact .inl (Tg sq i)
   ·exact .inr (Tq sq i)
  refine Aq D W hT yr (rs.kp (.of i)) ek a5 n.1 n.2 λH' s' l zs m N hl a2 C=>⟨.ref l,H',m,rfl,qq (.ref l) H' ((o.trans i).trans N) (λa ea=>by cases ea;exact(o.trans i).free hl) ⟨l,zs,rfl,a2,C⟩⟩
 ·cases g⟩
end
end P1
namespace P1
open L2
theorem Pq:typeLookup (.type "list") "keys"=pure O:=by rw[typeLookup_type,builtinLookup_eq_fast];kernel_rfl
theorem Pr:typeLookup (.type "list") "__getattr__"=pure O:=by rw[typeLookup_type,builtinLookup_eq_fast];kernel_rfl
def W6(h:A6)(t:A1)(AQ:Array A0)(n:Nat)(sl:Array (S A0)):Prop:=h.get? t=Z { cls:=.type "list",dict:=O,data:=.seq AQ n,slots:=sl }
section
theorem W7{t:A1}{AQ:Array A0}{u:Tok}:Meets (Builtin.«object.__getattribute__» ⟨[.ref t,.str "keys" u],[]⟩) (λA R s=>W6 s.heap t AQ n sl/\raisesAttr (.ref t) "keys" A R s):=
 Meets.of_wp λprog w A R s a=>by
  obtain⟨hp,g,d,tk,os⟩:=s;obtain⟨b,a⟩:=a;have c:(⟨hp,g,d,tk,os⟩:A2).TypeIs (.ref t) "list":=⟨_,b,rfl⟩;have hk:=Pq;unfold W6 at b;unfold Builtin.«object.__getattribute__»
  repeat (any_goals (first|assumption|wp_step))
  exact wpAny_raiseAttrError a.1 a.2 (attrMsg_fits (by decide +kernel) (by decide +kernel))
theorem W8{t:A1}{AQ:Array A0}{Q:S A0->A2->Prop}(j:A.handled=O)(a:W6 s.heap t AQ n sl)(h:∀h' tk,(∀b o,s.heap.get? b=Z o->h'.get? b=Z o)->Q O { s with heap:=h',toks:=tk }):A7 (A8 prog w) A (getAttr? (.ref t) "keys") Q E s:=by
 obtain⟨hp,g,d,tk,os⟩:=s;have i:=a;have c:∀f:Nat,(⟨hp,g,d,f,os⟩:A2).TypeIs (.ref t) "list":= λ_=>⟨_,a,rfl⟩;have v:=sub_AttributeError;have f3:=F.slot_list_getattribute.lookup;have p:=F.slot_list_getattribute.bind (.ref t);have u:=Pr;unfold W6 at a;unfold getAttr? getAttrBy? getAttrBy
 repeat (any_goals (first|assumption|exact c _|((with_reducible show A7 _ _ (call (Value.builtin "list.__getattribute__") _ _) _ _ _);refine call_meets F.slot_list_getattribute (c _) F.entry_list_ga (F.args_list_getattribute_2 _ _) (W7 (AQ:=AQ) (n:=n) (sl:=sl)) ⟨i,j,λh' m e hx=>?_⟩)|wp_step))
 obtain⟨f,q,k⟩:=hx.there;have l:∀t2:Nat,(⟨h',g,d,t2,os⟩:A2).TypeIs (.ref e) "AttributeError":= λ_=>⟨_,k,rfl⟩;show A7 _ _ (getattributeRaised _ _ _ _ _ _ _) _ _ _;unfold getattributeRaised
 repeat (any_goals (first|assumption|exact l _|wp_step))
 exact h _ _ hx.keeps
variable{K:Type} [DecidableEq K] {knd:KeyKind prog w K}
theorem Nj{it t d:A1}{xs:Array A0}{Q:A2->Prop}(n:A.handled=O)(h:t≠it)(f:d≠it)(F:t≠d)(hs:xs.size<=1000):
  ∀(m k:Nat) (s:A2) (AO AS:Y (K×A0)),m=xs.size-k->k<=xs.size->AS.length=m->AO.length<=k->(∀(j:Nat) (b:K×A0),AS[j]?=Z b->∃p x,xs[k+j]?=Z (.ref p)/\p≠it/\p≠d/\gR s.heap p #[x,b.2]/\knd.is b.1 x=true) →
   s.heap.IsListIter it t k->s.heap.IsList t xs->s.heap.DictOf knd d AO →
   (∀h' tk,h'.DictOf knd d (merged AO AS)->(∀(c:A1) o,c≠it->c≠d->s.heap.get? c=Z o->h'.get? c=Z o)->Q { s with heap:=h',toks:=tk }) →
   AF (A8 prog w) A (.builtin "dict.update.loop" ⟨[.ref d,.ref it,rawInt k,.none],[]⟩) (wants (λr H=>r=.none/\Q H) E) s
 |0,k,s,AO,AS,hm,hk,hr,hkl,hrest,hi,ht,hd,hQ=>by
  have e:AS=[]:=List.length_eq_zero_iff.mp hr;subst e;have W:=Walks.list (prog:=prog) (w:=w) (A:=A.in1) n it t h xs;refine codeAny_builtin Dm ?_;show A7 _ _ (pyNext (.ref it) >>= _) _ _ _;have P:k=xs.size:=by omega
  refine zb (W.done s _ _ ⟨P▸hi,ht⟩ λh' tk kp=>?_);show A7 _ _ (Builtin.Dict.addKeywords d [] >>= _) _ _ _;have a:∀(c:A1) o,c≠it->s.heap.get? c=Z o->h'.get? c=Z o:=λc o c1 q=>kp c o (by simpa using c1) q;have a6:h'.DictOf knd d AO:=let ⟨o,es,ep,g,r⟩:=hd;⟨o,es,ep,a d o f g,r⟩;exact zb (zd (zd ⟨rfl,hQ h' tk a6 λc o c1 _ q=>a c o c1 q⟩))
 |m+1,k,s,AO,AS,hm,hk,hr,hkl,hrest,hi,ht,hd,hQ=>by
  cases AS with
  |nil=>cases hr
  |cons b AS=>
   obtain⟨p,x,hx,I,a7,hp,J⟩:=hrest 0 b rfl;rw[da]at hx;have B:k<xs.size:=(Array.getElem?_eq_some_iff.mp hx).1;have W:=Walks.list (prog:=prog) (w:=w) (A:=A.in1) n it t h xs;refine codeAny_builtin Dm ?_;show A7 _ _ (pyNext (.ref it) >>= _) _ _ _;refine zb (W.item k s _ _ B ⟨hi,ht⟩ λv u tk y G kp=>?_);rw[hx]at y;cases y;have a:∀(c:A1) o,c≠it->s.heap.get? c=Z o->u.get? c=Z o:=λc o c1 q=>kp c o (by simpa using c1) q;have M:u.DictOf knd d AO:=let ⟨o,es,ep,g,r⟩:=hd;⟨o,es,ep,a d o f g,r⟩;refine zb (Q4 (zb (wpAny_tryCatch (Jh (wL hp λo q=>a p o I q) ?_))));refine Q4 (wpAny_dictSet_pairs J M (λl a0 L=>?_) (by have:=sizeLine_eq;omega));have i:∀(c:A1) o,c≠d->u.get? c=Z o->l.get? c=Z o:=λc o c1 q=>L.extBut _ _ (ad c1) q;have C:∀(c:A1) o,c≠it->c≠d->s.heap.get? c=Z o->l.get? c=Z o:=λc o c1 c2 q=>i c o c2 (a c o c1 q);refine zd ⟨Code.quiet_builtin _ (by decide +kernel),?_⟩;have:=Nj n h f F hs m (k+1) { s with heap:=l,toks:=tk+1 } (stored AO b.1 b.2) AS () B (by simpa using hr) ?_ (λj q U=>?_) (G.1.at λo q=>i _ o (kC f) q) (G.2.at λo q=>i _ o F q) a0 λh' tk d' a=>hQ h' tk d' λc o c1 c2 q=>a c o c1 c2 (C c o c1 c2 q)
   ·have e:(rawInt ((k+1:Nat):Int))=rawInt ((k:Int)+1):=by push_cast;rfl
    rw[e]at this;exact this
   ·unfold stored;split<;>simp<;>omega
   ·obtain⟨p',X,a1,a2,D,N,a5⟩:=hrest (j+1) q (by simpa using U);exact⟨p',X,by rw[show k+1+j=k+(j+1) by omega];exact a1,a2,D,wL N λo z=>C p' o a2 D z,a5⟩
theorem Tw{t:A1}{xs:Array A0}{rs:Y (K×A0)}(B:A.handled=O)(hs:xs.size<=1000)(N:rs.length=xs.size)(M:∀(j:Nat) (f:K×A0),rs[j]?=Z f->∃p x,xs[j]?=Z (.ref p)/\gR s.heap p #[x,f.2]/\knd.is f.1 x=true)(H:PlainL s.heap t xs)(h:∀h' tk,h'.DictOf knd s.heap.objs.size (merged [] rs)->(∀(c:A1) o,s.heap.get? c=Z o->h'.get? c=Z o)->Q (.ref s.heap.objs.size) { s with heap:=h',toks:=tk }):
  A7 (A8 prog w) A (call (.type "dict") [.ref t]) Q E s:=by
 refine callType_codes (Q₁:=λD C=>D=.ref s.heap.objs.size/\C={ s with heap:=s.heap.push { cls:=.type "dict",data:=.dict #[] } }) F.kt_called_dict (F.kt_typeCall_dict_1 _) F.entry_dict_init (kt_code_dict_new _ ⟨rfl,rfl⟩) ?_;rintro D C ⟨rfl,rfl⟩;have b:(s.heap.push { cls:=.type "dict",data:=.dict #[] }).DictOf knd s.heap.objs.size []:=Heap.DictOf.new s.heap;have lo:∀{c:A1} {o:AE},s.heap.get? c=Z o->c<s.heap.objs.size:=λe=>zw e;have G:t<s.heap.objs.size:=by obtain⟨o,n,e,_⟩:=H;exact lo e
 have k:∀(c:A1) o,s.heap.get? c=Z o->(s.heap.push { cls:=.type "dict",data:=.dict #[] }).get? c=Z o:=λc o q=>ze _ q;refine⟨b.typeIs,F.args_dict_init_2 _ _,?_⟩;unfold Builtin.«dict.__init__»;refine zb ?_;unfold Builtin.Dict.selfAndRest;refine zb (wpAny_notOrdered_dict b.typeIs ?_);show A7 _ _ (pure (s.heap.objs.size,[Value.ref t])) _ _ _;refine zd ?_;show A7 _ _ (Builtin.Dict.updateFrom "dict.__init__" s.heap.objs.size (.ref t) [] .none) _ _ _;obtain⟨⟨cls,dd,data,sl⟩,n,a,v,m,hd⟩:=H
 replace a:=k t _ a
 simp only at v hd m;subst v hd m;generalize U:s.heap.push { cls:=.type "dict",data:=.dict #[] }=h1 at b a k ⊢;have a0:h1.objs.size=s.heap.objs.size+1:=by rw[<-U];exact kq ..
 unfold Builtin.Dict.updateFrom;refine zb (Q2 (T :="list") ⟨_,a,rfl⟩ ?_);rw[zh ()];refine zb (W8 B a λh2 tk kp=>?_);rw[zh (show(O:S A0).isNone=true from Y3)];have l:h2.IsList t xs:=⟨_,kp _ _ a,rfl,n,rfl⟩;have y:∀(c:A1) o,s.heap.get? c=Z o->h2.get? c=Z o:=λc o q=>kp c o (k c o q);have i:s.heap.objs.size<h2.objs.size:=let ⟨o,es,ep,g,r⟩:=b;zw (kp _ _ g);refine zb (QI (zb (ye l (zd ⟨Code.quiet_builtin _ (by decide +kernel),?_⟩))));have u:∀(c:A1) o,s.heap.get? c=Z o->(h2.push { cls:=.type "list_iterator",data:=.fields #[.ref t,.int 0 0] }).get? c=Z o:=λc o q=>ze _ (y c o q);have W:∀{c:A1} {o:AE},s.heap.get? c=Z o->c<h2.objs.size:=λe=>zw (y _ _ e);have lp:=Nj (A:=A.in1) (E:=E) (it:=h2.objs.size) (t:=t) (d:=s.heap.objs.size) (xs:=xs) (Q:=λJ=>Q (.ref s.heap.objs.size) J) B (z4 (cy G i)) (z4 i) (z4 G) hs xs.size 0 { s with heap:=h2.push { cls:=.type "list_iterator",data:=.fields #[.ref t,.int 0 0] },toks:=tk } [] rs Y3 (qi _) N (zl _) (λj f q=>by
  obtain⟨p,x,a1,a2,L⟩:=M j f q;have pl:p<s.heap.objs.size:=by obtain⟨o,e,_⟩:=a2;exact lo e
  exact⟨p,x,by rw[kD];exact a1,z4 (cy pl i),z4 pl,wL a2 λo z=>u p o z,L⟩) ⟨_,zz _ rfl,rfl,rfl⟩ (l.push _) (let ⟨o,es,ep,g,r⟩:=b;⟨o,es,ep,ze _ (kp _ _ g),r⟩) λh' P X I=>h h' P X λc o q=>I c o (z4 (W q)) (z4 (lo q)) (u c o q)
 exact lp
end
def Jj:Y Bx->S Bx
 |[b]=>(lX b).bind λds=>if ds.length<=1000 then(uc ds).bind λps=>Z (.m (R7 ps) O)else O
 |_=>O
theorem Tz(D:X.calm=true):p8 X (.type "dict") Jj:=by
 intro AN s σ H xs us Q I r h;obtain⟨bs,c,N,e,q⟩:=h;unfold Jj at e;split at e;rotate_left
 ·cases e
 rename_i b;obtain⟨ds,C,e⟩:=AT e;split at e;rotate_left
 ·cases e
 rename_i W;obtain⟨ps,ep,e⟩:=AT e;cases e;obtain⟨v,rfl,L⟩:=BH N;obtain⟨t,vt,rfl,sq,rt⟩:=L.zB C;obtain⟨u,rfl,y⟩:=BC r;cases y;obtain⟨k,l,tt,_⟩:=I.list sq;obtain⟨d,m,U,l2,l3,J,M,G,g⟩:=Am I ep rt l;have P:k.length=ds.length:=by rw[<-l.length];exact rt.length
 have f:KV ((ps.map λp=>(Sum.inr p.1:AY)).zip d) ((ps.map λp=>(Sum.inr p.1:AY)).zip m):=Ni J;refine Tw (K:=AY) (knd:=d8 X.prog X.w) (xs:=k.toArray) (rs:=(ps.map λp=>(Sum.inr p.1:AY)).zip m) (I.ok.hd D) (by simp;omega) (by simp;omega) (λj f A=>?_) tt λh' tk B n=>?_
 ·obtain⟨a,x,a1,a2,E⟩:=g j f.1 f.2 A;exact⟨a,x,by simpa using a1,a2,E⟩
 ·have sz:((ps.map λp=>(Sum.inr p.1:AY)).zip d).length<=1000:=by simp;omega
  have F:=rY ((ps.map λp=>(Sum.inr p.1:AY)).zip d) [];rw[dk]at F;have a0:(1000:Nat)<=AA:=by decide
  have i:H s.heap.objs.size=O:=I.hok.fresh (zl _);refine⟨.ref s.heap.objs.size,B7 H s.heap.objs.size (.dK (vZ [] ((ps.map λp=>(Sum.inr p.1:AY)).zip d))),I.laid (a:=s.heap.objs.size) (t':=tk) (h':=h') (λb o e=>n b o e) (zl _) ⟨by omega,?_,_,KV.merge f .nil,B⟩,rfl,q _ _ (bO i) (λa z=>by cases z;exact i) ⟨s.heap.objs.size,_,rfl,bh,(Dn fX.nil M G).kp (.of (bO i)),λb z=>by cases z⟩⟩;have:=I.big;exact beq_eq_false_iff_ne.mpr (kC (z4 this))
end P1
namespace P1
open L2 S1 S6
section
variable{e:α->Dt}{e':β->Dt}
theorem TF[mj e](xs:Y α)(h:xs.length<=100000):W2 (xs.map (mj.k e))=true:=by
 simp only[W2,ZH,ZA,qk,qA,zg,ag,forall_exists_index,and_imp,forall_apply_eq_imp_iff₂];exact⟨h,λa _=>mj.ne a,λa _ b _=>mj.shp a b⟩
def wN[mj e](a:RL fa ρ e):R (cT ni (ao fa aH)) ρ (oE e):=⟨gk e a.v,bf a.D (Z (a.v.length<=100000)),λh=>by
 obtain⟨h,b⟩:=aB h;simp only[cT,ao,aH,a.ok h,Ap,ni,Gg a.lk,oY,TF a.v b,QU,Pa,LG]⟩
class wO {β:Type} (e':β->Dt) (kf:outParam (List Dt->Option (List (List AY)))) where
 kk:β->List AY
 ok:∀xs:List β,kf (xs.map e')=some (xs.map kk)
 inj:∀a b,kk a=kk b->a=b
instance [mj e']:wO e' De:=⟨mj.k e',λxs=>by
 unfold De;rw[oY,Ap,zh];simp only[ZH,qk,qA,ag,forall_exists_index,and_imp,forall_apply_eq_imp_iff₂];exact⟨λa _=>mj.ne a,λa _ b _=>mj.shp a b⟩,mj.inj⟩
theorem Nk:∀xs:Au,Ye (xs.map eS)=Z (xs.map λx=>[.inr x])
 |[]=>rfl
 |x::xs=>by
  rw[zv,eS,Ye,Nk xs,Ap];rfl
instance:wO eS Ye:=⟨λx=>[.inr x],Nk,λa b h=>by cases h;rfl⟩
def Yg(e':β->Dt)[wO e' kf](κ:α->β)(a b:α):Bool:=m9 (wO.kk e' (κ a)) (wO.kk e' (κ b))
def qd(e':β->Dt)[wO e' kf](κ:α->β)(xs:Y α):Y α:=xs.mergeSort (Yg e' κ)
section
variable [wO e' kf] {κ:α->β}
theorem o7(xs:Y α):(qd e' κ xs).Perm xs:=QR ..
theorem o8(xs:Y α):(qd e' κ xs).Pairwise (λa b=>Yg e' κ a b=true):=jn (le:=Yg e' κ) (λa b c=>lJ _ _ _) (λa b=>lK _ _) xs
theorem Jk{a b:α}(h:Yg e' κ a b=true)(h':Yg e' κ b a=true):κ a=κ b:=wO.inj (e':=e') _ _ (qX h h')
theorem TJ{xs out:Y α}(hi:∀a∈xs,∀b∈xs,κ a=κ b->a=b)(hp:out.Perm xs)(hs:out.Pairwise (λa b=>Yg e' κ a b=true)):out=qd e' κ xs:=
 vG (λa c b d h h'=>hi a (hp.mem_iff.mp c) b (hp.mem_iff.mp d) (Jk h h')) (hp.trans (o7 xs).symm) hs (o8 xs)
theorem Pu{xs:Y α}(hi:∀a∈xs,∀b∈xs,κ a=κ b->a=b):Dv (xs.map e) (xs.map λx=>wO.kk e' (κ x))=(qd e' κ xs).map e:=by
 unfold Dv;have i:(xs.map e).zip (xs.map λx=>wO.kk e' (κ x))=xs.map λx=>(e x,wO.kk e' (κ x)):=by
  rw[List.zip_map',]
 have f:(xs.map λx=>(e x,wO.kk e' (κ x))).mergeSort D0=(qd e' κ xs).map λx=>(e x,wO.kk e' (κ x)):=by
  refine vG (le:=λa b=>D0 a b=true) (λa d b g h h'=>?_) ((QR ..).trans ((o7 xs).map _).symm) (jn (le:=D0) (λa b c=>lJ a.2 b.2 c.2) (λa b=>lK a.2 b.2) _) (ay.mpr (o8 xs));obtain⟨x,hx,rfl⟩:=ag.mp ((QR ..).mem_iff.mp d);obtain⟨y,j,rfl⟩:=ag.mp ((QR ..).mem_iff.mp g);rw[hi x hx y j (Jk h h')]
 rw[i,f,ZU];rfl
structure SR (fe:Ev->Option Bx) (ρ:Ev) (e:α->Dt) where
 v:List α
 D:Option Prop
 ok:B5 D->∃b,fe ρ=some b/\qG b=some (v.map e)
def IJ(a:RL fa ρ e):SR fa ρ e:=⟨a.v,a.D,λh=>⟨_,a.ok h,Gg a.lk⟩⟩
def IA(a:R fa ρ (zE (eT e))):SR fa ρ e:=⟨a.v,a.D,λh=>⟨_,a.ok h,rfl⟩⟩
theorem Ar{fk:Ev->Dt->S Bx}{xs:Y α}(f:fe ρ=Z b)(hs:qG b=Z (xs.map e))(hk:∀x∈xs,fk ρ (e x)=Z (.z (e' (κ x))))(c:xs.length<=100000)(hi:∀a∈xs,∀b∈xs,κ a=κ b->a=b)(h1:vD (xs.map e) (xs.map λx=>wO.kk e' (κ x))=true):
  nj kf fe fk ρ=Z (.o ((qd e' κ xs).map e)):=by
 have h2:=Du (Tf:=λ_=>true) (e:=e) (e':=e') (fk:=fk ρ) (g:=κ) (λ_=>Y3) hk;have d:kf ((xs.map λx=>(e x,e' (κ x))).map (·.2))=Z (xs.map λx=>wO.kk e' (κ x)):=by
  rw[ZU];have:=wO.ok (e':=e') (xs.map κ);rw[ZU,ZU]at this;exact this
 unfold nj;rw[f,Ap,hs,Ap,h2,Ap,d,Ap,zh (by rw[ZH,ZA,zg];exact⟨c,h1⟩),Pu hi]
theorem Nm{xs:Y α}(h:(xs.map κ).Nodup):(∀a∈xs,∀b∈xs,κ a=κ b->a=b)/\vD (xs.map e) (xs.map λx=>wO.kk e' (κ x))=true:=by
 constructor
 ·intro a c b f e;obtain⟨i,hi,rfl⟩:=ap.mp c;obtain⟨j,d,rfl⟩:=ap.mp f;have:=(Kk (i:=i) (j:=j) (h₀:=by rw[zg];exact hi) (h₁:=by rw[zg];exact d) h).mp (by rw[ka,ka];exact e);subst this;rfl
 ·unfold vD;rw[JJ];refine .inl (z5 ?_);have:(xs.map λx=>wO.kk e' (κ x))=(xs.map κ).map (wO.kk e'):=by rw[ZU];rfl
  rw[this];exact ay.mpr (kR (λg q=>g (wO.inj (e':=e') _ _ q)) h)
theorem W9[mj e]{xs:Y α}(h:∀a∈xs,∀b∈xs,κ a=κ b->a=b):vD (xs.map e) (xs.map λx=>wO.kk e' (κ x))=true:=by
 unfold vD;rw[JJ];refine .inr ?_;rw[oY];simp only[List.zip_map',qk,ag,forall_exists_index,and_imp,forall_apply_eq_imp_iff₂,JJ,qA,Qr,ZA];intro a c b d;by_cases q:wO.kk e' (κ a)=wO.kk e' (κ b)
 ·exact .inr (by rw[h a c b d (wO.inj (e':=e') _ _ q)])
 ·exact .inl q
end
def TQ[mj e][wO e' kf]{T:α×Unit->β}{f:α×Unit->Option Prop}(S:∀v bs,aZ e aN v bs->bs.length=1/\(B5 (f v)->F (bs.map BA)=Z (zE e' (T v))))(a:SR fa ρ e):R (nj kf fa λ_ d=>F [.z d]) ρ (oE e):=
 ⟨qd e' (λx=>T (x,f8)) a.v,bf a.D (Z ((∀x∈a.v,B5 (f (x,f8)))/\a.v.length<=100000/\∀x∈a.v,∀y∈a.v,T (x,f8)=T (y,f8)->x=y)),λh=>by
 obtain⟨h1,h2,g,c⟩:=aB h;obtain⟨b,i,j⟩:=a.ok h1;exact Ar (e':=e') (κ:=λx=>T (x,f8)) i j (λx hx=>(S (x,f8) [.z (e x)] ⟨_,rfl,rfl⟩).2 (h2 x hx)) g c (W9 (e':=e') c)⟩
def TV[wO e' kf](a:SR fa ρ e)(k:∀x:α,R fb (Z (.z (e x))::gZ is ρ) (zE e')):R (nj kf fa λρ d=>fb (Z (.z d)::gZ is ρ)) ρ (oE e):=
 ⟨qd e' (λx=>(k x).v) a.v,bf a.D (Z ((∀x∈a.v,B5 (k x).D)/\a.v.length<=100000/\(a.v.map λx=>(k x).v).Nodup)),λh=>by
 obtain⟨h1,h2,f,c⟩:=aB h;obtain⟨b,g,i⟩:=a.ok h1;exact Ar (e':=e') (κ:=λx=>(k x).v) g i (λx hx=>(k x).ok (h2 x hx)) f (Nm (e:=e) (e':=e') c).1 (Nm (e:=e) (e':=e') c).2⟩
end
section
variable{e:α->Dt}{e':β->Dt}{fs:Ev->S (Y Dt)}
def II(it:R fi ρ (iE e))(a:α->Ev)(c:∀x,gt (e x) ρ=Z (a x))(b:∀x,R fs (a x) (iE e')):R (CY fi gt m7 fs) ρ (iE e'):=⟨it.v.flatMap λx=>(b x).v,bf it.D (Sv it.v λx=>(b x).D),λh=>by
 obtain⟨h1,h2⟩:=aB h;have h2:∀x∈it.v,B5 (b x).D:=h2;simp only[CY,it.ok h1,Ap];rw[u6 (π:=λ_=>true) (g:=λx=>(b x).v.map e') it.v λx hx=>⟨a x,c x,rfl,λ_=>(b x).ok (h2 x hx)⟩,ba.mpr λ_ _=>Y3];rw[iE,Al]⟩
end
section
variable{e:α->Dt}
def Xa(a:RL fa ρ (yP eS e)):R (cT Jj (ao fa aH)) ρ (mE e):=⟨X6 a.v,bf a.D (Z (a.v.length<=1000)),λh=>by
 obtain⟨h1,h2⟩:=aB h;have h2:a.v.length<=1000:=h2;have b:(a.v.map (yP eS e)).length<=1000:=by rw[zg];exact h2
 simp only[cT,ao,aH,a.ok h1,Ap,Jj,a.lk,zh b,Ao,Pg]⟩
end
end P1
namespace L2
end L2
namespace P1
open L2
section
variable{e1 e2:Expr}{fs:Ev->S (Y Bx)}
variable{e:α->Dt}{k:Ev->S An}{cO:γ->An}
end
theorem dH(x y:AJ):tM (.str x) (.str y)=(x==y):=by
 rfl
theorem gH(x y:AJ):MK (.str x) (.str y):=⟨by rfl,by simp[rP]⟩
theorem Gk(h:ds[k]?=Z d):f9 (.tup ds) (k:Int)=d:=by
 have a:k<ds.length:=(ae.mp h).1;have:zq ds (k:Int)=Z d:=by
  unfold zq Zq;rw[zh (),zh (),Ap,JS,h]
 unfold f9;simp only[fH,qG,Ap,this]
theorem qe(a:Dt)(r:Y Dt):f9 (.tup (a::r)) 0=a:=Gk (k:=0) rfl
theorem xV(a b:Dt)(r:Y Dt):f9 (.tup (a::b::r)) 1=b:=Gk (k:=1) rfl
theorem Np(a b c:Dt)(r:Y Dt):f9 (.tup (a::b::c::r)) 2=c:=Gk (k:=2) rfl
theorem CS(a b:AJ):Wt a b=true↔Bu a b/\a≠b:=by
 unfold Wt Bu;rw[ltCps_eq];simp only[ZA,Qr];constructor
 ·intro h;exact⟨List.lt_asymm h,λe=>by subst e;exact KW _ h⟩
 ·intro⟨h,hn⟩;by_cases q:a.cps.toList<b.cps.toList
  ·exact q
  ·exact absurd (HY (a:=a) (b:=b) (by unfold Bu;rw[ltCps_eq];simpa using h) (by unfold Bu;rw[ltCps_eq];simpa using q)) hn
theorem Xb{i:Int}(h:i∈rng 0 n):∃k:Nat,k<n/\i=(k:Int):=by
 unfold rng at h;obtain⟨k,hk,rfl⟩:=ag.mp h;exact⟨k,aI.mp hk,by omega⟩
end P1
namespace P1
open L2 S1 S6
structure Wd (U:Au) (w:List Au):Prop where
 ne:∀s∈w,s≠[]
 so:∀s∈w,s.Pairwise Bu
 nd:w.flatten.Nodup
 sub:∀x∈w.flatten,x∈U
 st:w.Pairwise (λa b=>Hc a b=true)
def same(w:Y Au)(x y:AJ):Prop:=∃s∈w,x∈s/\y∈s
end P1
section
set_option maxHeartbeats 1000000
namespace P1
open L2
open PySem.Builtin PySem.Builtin.Str
abbrev cs(s:AJ):Y Nat:=s.cps.toList
theorem TX{a b:AJ}(h:cs a=cs b):a=b:=Str.ext' (cJ.mp h)
theorem TY(a:AJ):a.length=(cs a).length:=by simp[Str.length]
theorem vH(h:n<=x.length):cs (Txt.slice x O (Z (n:Int)))=(cs x).take n:=by
 have:=slice_closes_to (x:=x) (j:=(n:Int)) ⟨by omega,by rw[show x.cps.toList.length=x.length by simp[Str.length]];omega⟩;rw[eq_of_beq this];show((cs x).drop 0).take _=_;simp
end P1
end
section
set_option maxHeartbeats 1000000
namespace P1
open L2 S1 S6
section
variable [Inhabited α]
end
section
variable{e:α->Dt} [mj e]
end
end P1
end
namespace P1
open L2
open PySem.Builtin PySem.Builtin.Str
end P1
section
set_option maxHeartbeats 1000000
namespace P1
open L2
open PySem.Builtin PySem.Builtin.Str
end P1
end
section
set_option synthInstance.maxSize 100000
namespace G76
open L2 P1
noncomputable section
abbrev DB:=Y P1.Dt
abbrev bF:Type:=AJ×AJ
abbrev aV:bF->Dt:=yP eS eS
abbrev bG:Type:=AJ×(Y bF)
abbrev aU:bG->Dt:=yP eS (eT aV)
abbrev ES:Type:=Int×bG
abbrev Px:Type:=Int×Dt
abbrev mC:Type:=AJ×AJ×Int
abbrev dI:mC->Dt:=Wr eS eS eI
abbrev vI:Type:=Dt×mC
abbrev Xc:vI->Dt:=yP eD dI
abbrev iD:Type:=Int×AJ×AJ×Int
abbrev iG:iD->Dt:=Ws eI eS eS eI
abbrev FI:Type:=AJ×AJ×Int×Int
abbrev iH:FI->Dt:=Ws eS eS eI eI
abbrev GA:Type:=AJ×AJ×AJ×Int
abbrev iI:GA->Dt:=Ws eS eS eS eI
abbrev Xd:Type:=mC×FI×bF×GA
abbrev Av:Xd->Dt:=Ws dI iH aV iI
abbrev Yh:Type:=Au×(Y iD)×(Y mC)
abbrev Yi:Yh->Dt:=Wr (eT eS) (eT iG) (eT dI)
def top(i:Nat):AB:=PySem.Challenge.pw_onefolk_k76_whole_rules_and_rules.main.body.getD i (.Pass ⟨0,0,0,0⟩)
abbrev Aw:AB:=top 13
abbrev sH:AB:=top 14
abbrev xW:AB:=top 15
abbrev Ax:AB:=top 16
abbrev Dy:AB:=top 17
abbrev Ay:AB:=top 18
abbrev Dz:AB:=top 1
abbrev xX:AB:=top 4
abbrev sI:AB:=top 6
abbrev vJ:AB:=top 5
abbrev Nq:AB:=top 3
abbrev DG:AB:=top 11
abbrev Az:AB:=top 8
abbrev Ba:AB:=top 9
abbrev xY:AB:=top 10
abbrev xZ:AB:=top 21
abbrev lO:AB:=top 22
abbrev nZ:AB:=top 23
abbrev s_law:AB:=top 24
def sJ:Ev->S An:=(aJ (aJ (B0 2 (b2 jh (b2 fG (b2 tu (gv 2) (cB (.int 69621))) (gv 3)) (cB (.int 2147483647)))) gn) (ji [3]))
def o9:Ev->S An:=(aJ (xG (uT DC (gv 1) (cT rQ (ao (gv 0) aH))) (aJ (fZ (b2 fH (gv 0) (gv 1))) gn) gn) (aJ (B0 2 (b2 jh (b2 tu (cB (.int 48271)) (b2 fG (b2 fG (b2 tu (gv 1) (gv 1)) (b2 tu (cB (.int 7)) (gv 1))) (cB (.int 11)))) (cB (.int 2147483647)))) (aJ (nM (C' (zR (gv 0) jD (iY (cB (.int 3))))) (jY 3) sJ) (aJ (fZ (gv 2)) gn))))
def iJ:Y Bx->S Bx:=eZ 4 o9
def jG:Ev->S An:=(aJ (aJ (B0 3 (b2 jh (b2 fG (b2 fG (b2 tu (gv 3) (b2 fG (b2 jh (gv 3) (cB (.int 65521))) (cB (.int 40487)))) (b2 tu (cB (.int 7)) (gv 5))) (cB (.int 5))) (cB (.int 1999999973)))) (aJ (Ox 2 (b2 fH (cT rO (ao (gv 3) (ao (b2 jh (gv 4) (cB (.int 1000000))) aH))) (cT Rq (ao (b2 ED (gv 4) (cB (.int 0))) aH)))) (aJ (B0 4 (b2 qF (gv 4) (cB (.int 1000000)))) gn))) (ji [5]))
def jN:Ev->S An:=(aJ (B0 2 (cT rO aH)) (aJ (B0 3 (b2 jh (b2 tu (b2 fG (b2 jh (gv 0) (cB (.int 1999999973))) (cB (.int 31))) (cB (.int 765432101))) (cB (.int 1999999973)))) (aJ (B0 4 (cB (.int 0))) (aJ (xG (Uz (uT DC (gv 0) (cB (.int 0))) (uT ZR (gv 0) (b2 ZS (cB (.int 10)) (cB (.int 18))))) (aJ (aJ (B0 4 (cT Rp (ao (gv 0) aH))) gn) (ji [])) (aJ gn (ji []))) (aJ (nM (JX (ao (gv 1) aH)) (jY 5) jG) (aJ (Er 2) gn))))))
def eF:Y Bx->S Bx:=eZ 6 jN
def lQ:Ev->S An:=(aJ (aJ (B0 7 (b2 fH (gv 2) (b2 jh (b2 fG (gv 6) (b2 fH (gv 0) (cB (.int 2)))) (cB (.int 15))))) (aJ (B0 8 (b2 fG (b2 fG (zR (gv 3) jD (iY (gv 4))) (gv 7)) (zR (gv 3) (iY (gv 4)) jD))) (aJ (xG (uT BM (b2 jh (b2 fH (gv 0) (cB (.int 3))) (cB (.int 3))) (cB (.int 1))) (aJ (aJ (B0 8 (b2 tu (b2 fH (gv 2) (b2 qF (gv 6) (cB (.int 8)))) (b2 fG (cB (.int 1)) (b2 jh (gv 6) (cB (.int 8)))))) gn) (ji [])) (aJ gn (ji []))) (aJ (Ox 5 (gv 8)) gn)))) (ji [6,7,8]))
def mL:Ev->S An:=(aJ (B0 2 (cB (.str "abcdefghijklmnopqrstuvwxyz"))) (aJ (B0 3 (b1 (Ib "") (dR (JX (ao (b2 jh (b2 fH (gv 0) (cB (.int 0))) (cB (.int 6))) aH)) (jY 2) m7 (b2 fH (gv 0) (b2 jh (b2 qF (b2 fH (gv 1) (gv 2)) (cB (.int 40))) (cB (.int 26)))) [2,0] 1))) (aJ (B0 4 (b2 jh (b2 fH (gv 0) (cB (.int 1))) (b2 fG (cT rQ (ao (gv 3) aH)) (cB (.int 1))))) (aJ (B0 5 (cT rO aH)) (aJ (nM (JX (ao (gv 1) aH)) (jY 6) lQ) (aJ (Er 5) gn))))))
def mO:Y Bx->S Bx:=eZ 9 mL
def sO:Ev->S An:=(aJ (aJ (B0 1 (b2 fG (gv 1) (b2 fH (cB (.str "ab1")) (b2 jh (b2 qF (b2 qF (gv 0) (cB (.int 16))) (b2 fH (cT rO (ao (cB (.int 1)) (ao (cB (.int 3)) (ao (cB (.int 9)) (ao (cB (.int 27)) aH))))) (gv 2))) (cB (.int 3)))))) gn) (ji [2]))
def pq:Ev->S An:=(aJ (xG (uT BM (b2 jh (gv 0) (cB (.int 4))) (cB (.int 0))) (aJ (fZ (b2 fH (cT rO (ao (cB (.str "a")) (ao (cB (.str "ab")) (ao (cB (.str "abc")) (ao (cB (.str "b")) (ao (cB (.str "1")) (ao (cB (.str "12")) (ao (cB (.str "a1")) aH)))))))) (b2 jh (b2 qF (gv 0) (cB (.int 4))) (cB (.int 7))))) gn) gn) (aJ (B0 1 (cB (.str ""))) (aJ (nM (JX (ao (b2 fG (cB (.int 1)) (b2 jh (b2 qF (gv 0) (cB (.int 4))) (cB (.int 4)))) aH)) (jY 2) sO) (aJ (fZ (gv 1)) gn))))
def pA:Y Bx->S Bx:=eZ 3 pq
def vK:Ev->S An:=(aJ (aJ (xG (uT ED (b2 jh (b2 fH (gv 1) (gv 4)) (cB (.int 4))) (cB (.int 0))) (aJ (aJ (Ox 3 (cT fD (ao (b2 fH (gv 2) (gv 4)) (ao (b1 uL (bU 1 pA (ao (b2 qF (b2 fH (gv 1) (gv 4)) (cB (.int 4))) aH))) aH)))) gn) (ji [])) (aJ gn (ji []))) gn) (ji [4]))
def rA:Ev->S An:=(aJ (B0 2 (cT rO (ao (cB (.str "day")) (ao (cB (.str "name")) (ao (b1 uL (b2 fG (cB (.str "name")) (cB (.str "s")))) (ao (cB (.str "p")) aH)))))) (aJ (B0 3 (cT rO aH)) (aJ (nM (JX (ao (cB (.int 4)) aH)) (jY 4) vK) (aJ (fZ (cT fD (ao (gv 0) (ao (cT oO (ao (gv 3) aH)) aH)))) gn))))
def rB:Y Bx->S Bx:=eZ 5 rA
def sS:Ev->S An:=(aJ (aJ (Ox 5 (b1 uL (bU 2 rB (ao (b2 fH (gv 3) (b2 jh (b2 fG (b2 tu (cB (.int 4)) (gv 6)) (b2 fH (gv 2) (cB (.int 7)))) (cB (.int 15)))) (ao (b1 uL (bU 2 eF (ao (b1 uL (bU 2 iJ (ao (gv 0) (ao (b1 uL (b2 fG (cB (.int 1)) (gv 6))) aH)))) (ao (cB (.int 4)) aH)))) aH))))) gn) (ji [6]))
def pB:Ev->S An:=(aJ (B0 2 (bU 2 eF (ao (b1 uL (bU 2 iJ (ao (gv 0) (ao (cB (.int 0)) aH)))) (ao (cB (.int 9)) aH)))) (aJ (B0 3 (bU 2 mO (ao (gv 2) (ao (cB (.int 15)) aH)))) (aJ (B0 4 (b2 fH (cT rO (ao (cB (.int 1)) (ao (cB (.int 2)) (ao (cB (.int 5)) (ao (cB (.int 8)) (ao (gv 1) (ao (gv 1) aH))))))) (b2 jh (b2 fH (gv 2) (cB (.int 6))) (cB (.int 6))))) (aJ (B0 5 (cT rO aH)) (aJ (nM (JX (ao (gv 4) aH)) (jY 6) sS) (aJ (fZ (cT oO (ao (gv 5) aH))) gn))))))
def pC:Y Bx->S Bx:=eZ 7 pB
def vL:Ev->S An:=(aJ (aJ (xG (uT BM (gv 2) (gv 1)) (aJ (fZ (gv 3)) gn) gn) gn) (ji [2,3]))
def rC:Ev->S An:=(aJ (nM (C' (b2 fH (gv 0) (cB (.int 1)))) (nJ 2 (cY (jY 2) (cY (jY 3) qx))) vL) (aJ (fZ (cB .non)) gn))
def cW:Y Bx->S Bx:=eZ 4 rC
def mQ:Ev->S An:=(aJ (B0 3 (bU 2 cW (ao (gv 0) (ao (gv 2) aH)))) (aJ (fZ (zG (b2 xK (gv 3) (cB .non)) (b2 BM (gv 3) (bU 2 cW (ao (gv 1) (ao (gv 2) aH)))))) gn))
def iZ:Y Bx->S Bx:=eZ 4 mQ
def jO:Ev->S An:=(aJ (B0 4 (bU 2 cW (ao (gv 0) (ao (gv 2) aH)))) (aJ (B0 5 (bU 2 cW (ao (gv 1) (ao (gv 2) aH)))) (aJ (xG (Uz (uT Z0 (gv 4) (cB .non)) (uT Z0 (gv 5) (cB .non))) (aJ (fZ (cB (.bl false))) gn) gn) (aJ (fZ (zG (b2 ZR (cT rQ (ao (gv 4) aH)) (gv 3)) (zG (b2 ZR (cT rQ (ao (gv 5) aH)) (gv 3)) (b2 BM (zR (gv 4) jD (iY (gv 3))) (zR (gv 5) jD (iY (gv 3))))))) gn))))
def jP:Y Bx->S Bx:=eZ 6 jO
def kO:Ev->S An:=(aJ (B0 3 (bU 2 cW (ao (gv 0) (ao (gv 2) aH)))) (aJ (B0 4 (bU 2 cW (ao (gv 1) (ao (gv 2) aH)))) (aJ (fZ (zG (b2 xK (gv 3) (cB .non)) (zG (b2 xK (gv 4) (cB .non)) (b2 Kf (gv 3) (gv 4))))) gn)))
def kW:Y Bx->S Bx:=eZ 5 kO
def yX:Ev->S An:=(aJ (xG (uT BM (b2 fH (gv 0) (cB (.int 0))) (cB (.str "same"))) (aJ (fZ (bU 3 iZ (ao (gv 1) (ao (gv 2) (ao (b2 fH (gv 0) (cB (.int 1))) aH))))) gn) gn) (aJ (xG (uT BM (b2 fH (gv 0) (cB (.int 0))) (cB (.str "begin"))) (aJ (fZ (bU 4 jP (ao (gv 1) (ao (gv 2) (ao (b2 fH (gv 0) (cB (.int 1))) (ao (b2 fH (gv 0) (cB (.int 2))) aH)))))) gn) gn) (aJ (xG (uT BM (b2 fH (gv 0) (cB (.int 0))) (cB (.str "both"))) (aJ (fZ (zG (bU 3 iZ (ao (gv 1) (ao (gv 2) (ao (b2 fH (gv 0) (cB (.int 1))) aH)))) (bU 3 iZ (ao (gv 1) (ao (gv 2) (ao (b2 fH (gv 0) (cB (.int 2))) aH)))))) gn) gn) (aJ (fZ (bU 3 kW (ao (gv 1) (ao (gv 2) (ao (b2 fH (gv 0) (cB (.int 1))) aH))))) gn))))
def pD:Y Bx->S Bx:=eZ 3 yX
def rD:Ev->S An:=(aJ (fZ (Gh (F8 (ao (gv 0) aH)) (nJ 2 (cY (jY 2) (cY (jY 3) qx))) m7 (CY (C' (zR (gv 0) (iY (b2 fG (gv 2) (cB (.int 1)))) jD)) (jY 4) m7 (CY (F6 (ao (gv 1) aH)) (nJ 2 (cY (jY 5) (cY (jY 6) qx))) (tV (bU 3 pD (ao (gv 6) (ao (gv 3) (ao (gv 4) aH))))) (VN (cT fD (ao (gv 6) (ao (cT fD (ao (b2 fH (gv 3) (cB (.int 0))) (ao (b2 fH (gv 4) (cB (.int 0))) (ao (gv 5) aH)))) aH)))))) [0,1] 5)) gn)
def rE:Y Bx->S Bx:=eZ 2 rD
def pF:Ev->S An:=(aJ (Ow (nJ 4 (cY (jY 1) (cY (jY 2) (cY (jY 3) (cY (jY 4) qx))))) (gv 0)) (aJ (fZ (cT fD (ao (b1 BX (gv 1)) (ao (gv 2) (ao (gv 3) (ao (gv 4) aH)))))) gn))
def pG:Y Bx->S Bx:=eZ 5 pF
def pH:Ev->S An:=(aJ (fZ (nj De (gv 0) λ_ d=>pG [.z d])) gn)
def pI:Y Bx->S Bx:=eZ 1 pH
def mR:Ev->S An:=(aJ (B0 2 (nj Ye (gv 0) λρ d=>(b2 fH (gv 0) (cB (.int 0))) (Z (.z d)::gZ [] ρ))) (aJ (B0 3 (bU 2 rE (ao (gv 2) (ao (gv 1) aH)))) (aJ (B0 4 (dR (zV (gv 3)) (nJ 2 (cY (jY 0) (cY (jY 1) qx))) (uT Kf (b2 fH (gv 0) (cB (.int 0))) (cB (.str "never"))) (b1 uL (b2 fG (cT fD (ao (b2 fH (gv 0) (b1 BX (cB (.int 1)))) aH)) (gv 1))) [] 2)) (aJ (B0 5 (dR (zV (gv 3)) (nJ 2 (cY (jY 0) (cY (jY 1) qx))) (uT BM (b2 fH (gv 0) (cB (.int 0))) (cB (.str "never"))) (gv 1) [] 2)) (aJ (fZ (cT fD (ao (cT oO (ao (dR (zV (gv 2)) (jY 0) m7 (b2 fH (gv 0) (cB (.int 0))) [] 1) aH)) (ao (cT oO (ao (bU 1 pI (ao (gv 4) aH)) aH)) (ao (cT oO (ao (cT ni (ao (gv 5) aH)) aH)) aH))))) gn)))))
def d9:Y Bx->S Bx:=eZ 6 mR
def mU:Ev->S An:=(aJ (Ow (nJ 3 (cY (jY 2) (cY (jY 3) (cY (jY 4) qx)))) (bU 2 d9 (ao (gv 0) (ao (cT fD (ao (gv 1) aH)) aH)))) (aJ (xG (uT BM (b2 fH (gv 1) (cB (.int 0))) (cB (.str "never"))) (aJ (fZ (cT ni (ao (b2 fG (dR (zV (gv 4)) (jY 0) m7 (b1 uL (zR (gv 0) jD (iY (cB (.int 2))))) [] 1) (dR (zV (gv 3)) (jY 0) m7 (b1 uL (zR (gv 0) (iY (cB (.int 1))) (iY (cB (.int 3))))) [] 1)) aH))) gn) gn) (aJ (xG (Uz (uT Kf (gv 4) (cT fD aH)) (BL (tV (cT C2 (ao (dR (zV (gv 3)) (jY 1) m7 (zG (b2 BM (b2 fH (gv 1) (cB (.int 0))) (b2 fH (gv 0) (b1 BX (cB (.int 1))))) (b2 BM (b2 fH (gv 1) (cB (.int 3))) (cB (.int 0)))) [1] 1) aH))))) (aJ (fZ (cB .non)) gn) gn) (aJ (fZ (cT ni (ao (dR (zV (gv 3)) (jY 0) m7 (b1 uL (zR (gv 0) (iY (cB (.int 1))) (iY (cB (.int 3))))) [] 1) aH))) gn))))
def bQ:Y Bx->S Bx:=eZ 5 mU
def jA:Ev->S An:=(aJ (aJ (B0 7 (b1 uL (bU 2 bQ (ao (gv 0) (ao (cT fD (ao (cB (.str "begin")) (ao (gv 1) (ao (gv 6) (ao (gv 2) aH))))) aH))))) (aJ (xG (Uz (uT Z0 (gv 7) (cB .non)) (BL (tV (cT C2 (ao (dR (zV (gv 7)) (jY 1) m7 (b2 Cs (gv 1) (gv 0)) [5] 1) aH))))) (aJ (fZ (cB (.bl false))) gn) gn) (aJ (B0 8 (dR (zV (gv 4)) (jY 2) (uT ZR (cT rQ (ao (b2 uW (gv 1) (b2 fH (gv 2) (cB (.int 0)))) aH)) (gv 0)) (gv 2) [6,3] 1)) (aJ (xG (BL (tV (cT C2 (ao (dR (zV (gv 8)) (jY 1) m7 (b2 Cs (gv 1) (gv 0)) [7] 1) aH)))) (aJ (fZ (cB (.bl false))) gn) gn) (aJ (xG (BL (tV (cT C2 (ao (dR (zV (gv 7)) (jY 2) m7 (b2 ZR (cT Rw (ao (cT rQ (ao (b2 uW (gv 1) (b2 fH (gv 2) (cB (.int 0)))) aH)) (ao (cT rQ (ao (b2 uW (gv 1) (b2 fH (gv 2) (cB (.int 1)))) aH)) aH))) (gv 0)) [6,3] 1) aH)))) (aJ (fZ (cB (.bl false))) gn) gn) (aJ (B0 5 (gv 7)) gn)))))) (ji [6,7,8]))
def fM:Ev->S An:=(aJ (B0 3 (cT Jj (ao (dR (zV (gv 0)) (jY 1) m7 (cT fD (ao (b2 fH (gv 1) (cB (.int 0))) (ao (b1 uL (bU 2 cW (ao (gv 1) (ao (gv 0) aH)))) aH))) [1] 1) aH))) (aJ (B0 4 (b1 uL (bU 2 bQ (ao (gv 0) (ao (cT fD (ao (cB (.str "same")) (ao (gv 1) (ao (gv 2) aH)))) aH))))) (aJ (B0 5 (b1 uL (bU 2 bQ (ao (gv 0) (ao (cT fD (ao (cB (.str "begin")) (ao (gv 1) (ao (cB (.int 1)) (ao (gv 2) aH))))) aH))))) (aJ (nM (F5 (ao (cB (.int 1)) (ao (cB (.int 6)) aH))) (jY 6) jA) (aJ (fZ (b2 BM (bU 2 bQ (ao (gv 0) (ao (cT fD (ao (cB (.str "begin")) (ao (gv 1) (ao (cB (.int 12)) (ao (gv 2) aH))))) aH))) (dR (zV (gv 4)) (jY 1) (uT BM (cT rQ (ao (b2 uW (gv 0) (b2 fH (gv 1) (cB (.int 0)))) aH)) (cB (.int 12))) (gv 1) [3] 1))) gn)))))
def fO:Y Bx->S Bx:=eZ 9 fM
def j9:Ev->S An:=(aJ (aJ (R6 8 (dR (JX (ao (gv 9) aH)) (jY 2) m7 (cT fD (ao (b2 fH (gv 0) (gv 2)) (ao (b2 fH (gv 0) (gv 1)) aH))) [7,9] 1)) gn) (ji [9]))
def gJ:Ev->S An:=(aJ (Ow (nJ 2 (cY (jY 4) (cY (jY 5) qx))) (cT fD (ao (b1 uL (bU 2 bQ (ao (gv 0) (ao (cT fD (ao (cB (.str "same")) (ao (gv 1) (ao (gv 3) aH)))) aH)))) (ao (b1 uL (bU 2 bQ (ao (gv 0) (ao (cT fD (ao (cB (.str "same")) (ao (gv 2) (ao (gv 3) aH)))) aH)))) aH)))) (aJ (B0 6 (bU 2 bQ (ao (gv 0) (ao (cT fD (ao (cB (.str "both")) (ao (gv 1) (ao (gv 2) (ao (gv 3) aH))))) aH)))) (aJ (xG (Uz (uT Kf (gv 6) (dR (zV (gv 4)) (jY 1) (uT Cs (gv 1) (gv 0)) (gv 1) [5] 1)) (uT Kf (bU 2 bQ (ao (gv 0) (ao (cT fD (ao (cB (.str "both")) (ao (gv 2) (ao (gv 1) (ao (cB (.int 1)) aH))))) aH))) (gv 6))) (aJ (fZ (cB (.bl false))) gn) gn) (aJ (B0 7 (cT Ia (ao (dR (zV (gv 0)) (jY 1) (uT xK (bU 2 cW (ao (gv 1) (ao (gv 0) aH))) (cB .non)) (b2 fH (gv 1) (cB (.int 0))) [1] 1) aH))) (aJ (B0 8 (cT rO aH)) (aJ (nM (JX (ao (cT rQ (ao (gv 7) aH)) aH)) (jY 9) j9) (aJ (B0 10 (bU 2 bQ (ao (gv 0) (ao (cT fD (ao (cB (.str "never")) (ao (gv 1) aH))) aH)))) (aJ (fZ (zG (b2 BM (cT ni (ao (gv 8) aH)) (cT ni (ao (b2 fG (gv 4) (gv 10)) aH))) (Vy (cT CH (ao (dR (zV (gv 10)) (jY 1) m7 (b2 Cs (gv 1) (gv 0)) [4] 1) aH))))) gn))))))))
def gK:Y Bx->S Bx:=eZ 11 gJ
def Jl:Ev->S An:=(aJ (aJ (B0 12 (b2 fG (dR (zV (gv 9)) (jY 1) (uT BM (b2 fH (gv 1) (cB (.int 3))) (gv 0)) (b1 uL (zR (gv 1) (iY (cB (.int 1))) (iY (cB (.int 3))))) [11] 1) (dR (zV (gv 10)) (jY 1) (uT BM (b2 fH (gv 1) (cB (.int 2))) (gv 0)) (b1 uL (zR (gv 1) jD (iY (cB (.int 2))))) [11] 1))) (aJ (xG (uT Kf (cT ni (ao (gv 12) aH)) (bU 2 bQ (ao (gv 1) (ao (b2 fH (gv 7) (gv 11)) aH)))) (aJ (fZ (cB (.bl false))) gn) gn) (aJ (xG (BL (tV (cT C2 (ao (dR (zV (gv 1)) (jY 3) m7 (b2 BM (bU 3 pD (ao (b2 fH (gv 0) (gv 1)) (ao (b2 fH (gv 2) (cB (.int 0))) (ao (gv 3) aH)))) (bU 3 pD (ao (b2 fH (gv 0) (gv 1)) (ao (gv 3) (ao (b2 fH (gv 2) (cB (.int 0))) aH))))) [7,11,1] 1) aH)))) (aJ (fZ (cB (.bl false))) gn) gn) gn))) (ji [11,12]))
def Nr:Ev->S An:=(aJ (B0 1 (bU 2 pC (ao (gv 0) (ao (cB (.int 14)) aH)))) (aJ (B0 2 (bU 2 eF (ao (b1 uL (bU 2 iJ (ao (gv 0) (ao (cB (.int 16)) aH)))) (ao (cB (.int 5)) aH)))) (aJ (B0 3 (cT rO (ao (cB (.str "day")) (ao (cB (.str "name")) (ao (cB (.str "names")) (ao (cB (.str "p")) (ao (cB (.str "zzz")) aH))))))) (aJ (EU 4 5 (ao (b2 fH (gv 3) (b2 jh (b2 fH (gv 2) (cB (.int 0))) (cB (.int 5)))) (ao (b2 fH (gv 3) (b2 jh (b2 fG (b2 fG (b2 fH (gv 2) (cB (.int 0))) (cB (.int 1))) (b2 jh (b2 fH (gv 2) (cB (.int 1))) (cB (.int 4)))) (cB (.int 5)))) aH))) (aJ (B0 6 (b2 fG (cB (.int 1)) (b2 jh (b2 fH (gv 2) (cB (.int 2))) (cB (.int 1000))))) (aJ (xG (Uz (BL (tV (bU 3 fO (ao (gv 1) (ao (gv 4) (ao (gv 6) aH)))))) (BL (tV (bU 4 gK (ao (gv 1) (ao (gv 4) (ao (gv 5) (ao (gv 6) aH)))))))) (aJ (fZ (cB (.bl false))) gn) gn) (aJ (xG (uT Kf (bU 2 bQ (ao (gv 1) (ao (cT fD (ao (cB (.str "same")) (ao (gv 4) (ao (cB (.int 1)) aH)))) aH))) (bU 2 bQ (ao (gv 1) (ao (cT fD (ao (cB (.str "same")) (ao (gv 4) (ao (gv 6) aH)))) aH)))) (aJ (fZ (cB (.bl false))) gn) gn) (aJ (B0 7 (cT fD (ao (cT fD (ao (cB (.str "same")) (ao (gv 4) (ao (gv 6) aH)))) (ao (cT fD (ao (cB (.str "begin")) (ao (gv 5) (ao (b1 uL (b2 fG (cB (.int 1)) (b2 jh (b2 fH (gv 2) (cB (.int 3))) (cB (.int 4))))) (ao (cB (.int 2)) aH))))) (ao (cT fD (ao (cB (.str "never")) (ao (gv 5) aH))) (ao (cT fD (ao (cB (.str "both")) (ao (gv 4) (ao (gv 5) (ao (cB (.int 3)) aH))))) aH)))))) (aJ (B0 1 (zR (gv 1) jD (iY (cB (.int 11))))) (aJ (Ow (nJ 3 (cY (jY 8) (cY (jY 9) (cY (jY 10) qx)))) (bU 2 d9 (ao (gv 1) (ao (gv 7) aH)))) (aJ (nM (JX (ao (cB (.int 4)) aH)) (jY 11) Jl) (aJ (fZ (DO BM BM (bU 2 d9 (ao (b1 uL (b2 Oz (gv 1) (b1 BX (cB (.int 1))))) (ao (gv 7) aH))) (bU 2 d9 (ao (b1 uL (b2 fG (zR (gv 1) (iY (cB (.int 1))) jD) (zR (gv 1) jD (iY (cB (.int 1)))))) (ao (gv 7) aH))) (cT fD (ao (gv 8) (ao (gv 9) (ao (gv 10) aH)))))) gn))))))))))))
def F_law:Y Bx->S Bx:=eZ 13 Nr
end
end G76
end
section
set_option synthInstance.maxSize 100000
namespace G76
open L2 P1
set_option genInjectivity false
set_option genSizeOf false
structure T (K:B6) (mg:Str->Option Value) where
 iK:DQ K mg "_law_cell" Aw ["_law_script","_law_k"]
 eH:DQ K mg "_law_numbers" sH ["_law_cell_here","_law_many"]
 mV:DQ K mg "_law_names" xW ["_law_xs","_law_many"]
 pJ:DQ K mg "_law_word" Ax ["_law_x"]
 rG:DQ K mg "_law_row" Dy ["_law_name","_law_xs"]
 pK:DQ K mg "_law_book" Ay ["_law_script","_law_most"]
 cX:DQ K mg "word_of" Dz ["row","field"]
 jc:DQ K mg "are_alike" xX ["row","other","field"]
 jQ:DQ K mg "begin_alike" sI ["row","other","field","many"]
 kY:DQ K mg "are_unlike" vJ ["row","other","field"]
 pL:DQ K mg "tells" Nq ["rule","row","other"]
 rH:DQ K mg "told_of" DG ["rows","rules"]
 lR:DQ K mg "place_of" Az ["reason"]
 pN:DQ K mg "in_order" Ba ["reasons"]
 eE:DQ K mg "ground_of" xY ["book","rules"]
 bR:DQ K mg "_law_pairs" xZ ["_law_book_here","_law_rule"]
 fP:DQ K mg "_law_begins_right" lO ["_law_book_here","_law_field","_law_weight"]
 gM:DQ K mg "_law_both_right" nZ ["_law_book_here","_law_field","_law_other","_law_weight"]
 x_law:DQ K mg "law" s_law ["_law_script"]
 adB:mg "abs"=none
 Jm:mg "all"=none
 adC:mg "any"=none
 abb:mg "dict"=none
 yc:mg "enumerate"=none
 adD:mg "int"=none
 vM:mg "len"=none
 adE:mg "min"=none
 jR:mg "range"=none
 jl:mg "sorted"=none
 vN:mg "tuple"=none
 Ce:EZ K eE.fd "ground_of.<locals>.<lambda>"=true
section
variable(t:T K mg)
theorem Jo:cj ["_law_script","_law_k","_law_state","_law_cell_here"] ["_law_script","_law_k"] (aQ Aw):=oR
theorem Jp:Ok P w base t.iK 1 2 iJ:=GR (g:=o9) t.iK Jo λ_ _ _ _ _ _ b c a=>(aA (iV (cU Ru (ak 1) (bY oN Y3 t.vM oM (aj (ak 0) au)) (bK _)) (aA (cF (bx (ak 0) (ak 1))) aP) aP) (aA (bC 2 a (aX dj (aX oK aC (aX cV (aX cV (aX oK (ak 1) (ak 1)) (aX oK aC (ak 1))) aC)) aC)) (aA (m5 PassesOwn.never Y3 (Ew (mG (ak 0) gB (cZ aC))) (aR 3 a) (dw [3] (aA (bC 2 a (aX dj (aX cV (aX oK (ak 2) aC) (ak 3)) aC)) aP))) (aA (cF (ak 2)) aP))))
theorem Bb:cj ["_law_cell_here","_law_many","_law_found","_law_state","_law_digits","_law_k"] ["_law_cell_here","_law_many"] (aQ sH):=oR
theorem Bc:Ok P w base t.eH 1 2 eF:=GR (g:=jN) t.eH Bb λ_ _ _ _ _ _ b c a=>(aA (bC 2 a (lG au)) (aA (bC 3 a (aX dj (aX oK (aX cV (aX dj (ak 0) aC) aC) aC) aC)) (aA (bC 4 a aC) (aA (iV (Oo (wg (cU Ru (ak 0) aC (bK _)) (qW (cU HS (ak 0) (aX ZV aC aC) (bK _))))) (dw [] (aA (bC 4 a (bY Z9 Y3 t.adB Z2 (aj (ak 0) au))) aP)) (dw [] aP)) (aA (m5 PassesOwn.never Y3 (jf Y3 t.jR (aj (ak 1) au)) (aR 5 a) (dw [5] (aA (bC 3 a (aX dj (aX cV (aX cV (aX oK (ak 3) (aX cV (aX dj (ak 3) aC) aC)) (aX oK aC (ak 5))) aC) aC)) (aA (Eu 2 (bx (lG (aj (ak 3) (aj (aX dj (ak 4) aC) au))) (jB LS Y3 t.adD Z1 (aj (fY XM (ak 4) aC (bK _)) au)))) (aA (bC 4 a (aX mF (ak 4) aC)) aP))))) (aA (LR 2) aP))))))
theorem Gm:cj ["_law_xs","_law_many","_law_letters","_law_stem","_law_at","_law_found","_law_k","_law_mark","_law_name"] ["_law_xs","_law_many"] (aQ xW):=oR
theorem Gn:Ok P w base t.mV 1 2 mO:=GR (g:=mL) t.mV Gm λ_ _ _ _ _ _ c b a=>(aA (bC 2 a bL) (aA (bC 3 a (Wb (d7 ["_law_k"] (lZ ["_law_letters","_law_xs"] [2,0]) Y3 (Rh (jf Y3 t.jR (aj (aX dj (bx (ak 0) aC) aC) au))) (λ_ _ _ _=>(f7 2)) (λ_ _ _ _=>cN) (λ_ _ _ _=>(bx (ak 0) (aX dj (aX mF (bx (ak 1) (ak 2)) aC) aC))) (cu)))) (aA (bC 4 a (aX dj (bx (ak 0) aC) (aX cV (bY oN Y3 t.vM oM (aj (ak 3) au)) aC))) (aA (bC 5 a (lG au)) (aA (m5 PassesOwn.never Y3 (jf Y3 t.jR (aj (ak 1) au)) (aR 6 a) (dw [6,7,8] (aA (bC 7 a (bx (ak 2) (aX dj (aX cV (ak 6) (bx (ak 0) aC)) aC))) (aA (bC 8 a (aX cV (aX cV (mG (ak 3) gB (cZ (ak 4))) (ak 7)) (mG (ak 3) (cZ (ak 4)) gB))) (aA (iV (cU (of_eq b) (aX dj (bx (ak 0) aC) aC) aC (bK _)) (dw [] (aA (bC 8 a (aX oK (bx (ak 2) (aX mF (ak 6) aC)) (aX cV aC (aX dj (ak 6) aC)))) aP)) (dw [] aP)) (aA (Eu 5 (ak 8)) aP)))))) (aA (LR 5) aP))))))
theorem Jq:cj ["_law_x","_law_found","_law_j"] ["_law_x"] (aQ Ax):=oR
theorem Jr:Ok P w base t.pJ 1 1 pA:=GR (g:=pq) t.pJ Jq λ_ _ _ _ _ _ c b a=>(aA (iV (cU (of_eq b) (aX dj (ak 0) aC) aC (bK _)) (aA (cF (bx (lG (aj bL (aj bL (aj bL (aj bL (aj bL (aj bL (aj bL au)))))))) (aX dj (aX mF (ak 0) aC) aC))) aP) aP) (aA (bC 1 a bL) (aA (m5 PassesOwn.never Y3 (jf Y3 t.jR (aj (aX cV aC (aX dj (aX mF (ak 0) aC) aC)) au)) (aR 2 a) (dw [2] (aA (bC 1 a (aX cV (ak 1) (bx bL (aX dj (aX mF (aX mF (ak 0) aC) (bx (lG (aj aC (aj aC (aj aC (aj aC au))))) (ak 2))) aC)))) aP))) (aA (cF (ak 1)) aP))))
theorem KJ:cj ["_law_name","_law_xs","_law_fields","_law_words","_law_k"] ["_law_name","_law_xs"] (aQ Dy):=oR
theorem KN(c:Ok P w base t.pJ 1 1 pA):Ok P w base t.rG 2 2 rB:=GR (g:=rA) t.rG KJ λ_ _ _ _ _ _ b d a=>(aA (bC 2 a (lG (aj bL (aj bL (aj (gA (aX cV bL bL)) (aj bL au)))))) (aA (bC 3 a (lG au)) (aA (m5 PassesOwn.never Y3 (jf Y3 t.jR (aj aC au)) (aR 4 a) (dw [4] (aA (iV (cU XM (aX dj (bx (ak 1) (ak 4)) aC) aC (bK _)) (dw [] (aA (Eu 3 (cQ (aj (bx (ak 2) (ak 4)) (aj (gA (cD t.pJ c b (aj (aX mF (bx (ak 1) (ak 4)) aC) au))) au)))) aP)) (dw [] aP)) aP))) (aA (cF (cQ (aj (ak 0) (aj (jB qI Y3 t.vN qH (aj (ak 3) au)) au)))) aP))))
theorem Js:cj ["_law_script","_law_most","_law_head","_law_names_here","_law_many","_law_rows","_law_k"] ["_law_script","_law_most"] (aQ Ay):=oR
theorem Jt(d:Ok P w base t.iK 1 2 iJ)(f:Ok P w base t.mV 1 2 mO)(c:Ok P w base t.eH 1 2 eF)(e:Ok P w base t.rG 2 2 rB):Ok P w base t.pK 3 2 pC:=GR (g:=pB) t.pK Js λ_ _ _ _ _ _ a h b=>(aA (bC 2 b (cD t.eH c a (aj (gA (cD t.iK d a (aj (ak 0) (aj aC au)))) (aj aC au)))) (aA (bC 3 b (cD t.mV f a (aj (ak 2) (aj aC au)))) (aA (bC 4 b (bx (lG (aj aC (aj aC (aj aC (aj aC (aj (ak 1) (aj (ak 1) au))))))) (aX dj (bx (ak 2) aC) aC))) (aA (bC 5 b (lG au)) (aA (m5 PassesOwn.never Y3 (jf Y3 t.jR (aj (ak 4) au)) (aR 6 b) (dw [6] (aA (Eu 5 (gA (cD t.rG e a (aj (bx (ak 3) (aX dj (aX cV (aX oK aC (ak 6)) (bx (ak 2) aC)) aC)) (aj (gA (cD t.eH c a (aj (gA (cD t.iK d a (aj (ak 0) (aj (gA (aX cV aC (ak 6))) au)))) (aj aC au)))) au))))) aP))) (aA (cF (jB qI Y3 t.vN qH (aj (ak 5) au))) aP))))))
theorem KQ:cj ["row","field","own_field","word"] ["row","field"] (aQ Dz):=oR
theorem KR:Ok P w base t.cX 1 2 cW:=GR (g:=rC) t.cX KQ λ_ _ _ _ _ _ c b a=>(aA (m5 PassesOwn.never Y3 (Ew (bx (ak 0) aC)) (oG Y3 (cH (aR 2 a) (cH (aR 3 a) kj))) (dw [2,3] (aA (iV (cU (of_eq b) (ak 2) (ak 1) (bK _)) (aA (cF (ak 3)) aP) aP) aP))) (aA (cF oF) aP))
theorem Gp:cj ["row","other","field","word"] ["row","other","field"] (aQ xX):=oR
theorem Gq(a:Ok P w base t.cX 1 2 cW):Ok P w base t.jc 2 3 iZ:=GR (g:=mQ) t.jc Gp λ_ _ _ _ _ _ b d c=>(aA (bC 3 c (cD t.cX a b (aj (ak 0) (aj (ak 2) au)))) (aA (cF (qw (fY yJ (ak 3) oF (bK _)) (wj (fY (of_eq d) (ak 3) (cD t.cX a b (aj (ak 1) (aj (ak 2) au))) (bK _))))) aP))
theorem Bd:cj ["row","other","field","many","word","other_word"] ["row","other","field","many"] (aQ sI):=oR
theorem Bf(b:Ok P w base t.cX 1 2 cW):Ok P w base t.jQ 2 4 jP:=GR (g:=jO) t.jQ Bd λ_ _ _ _ _ _ c d a=>(aA (bC 4 a (cD t.cX b c (aj (ak 0) (aj (ak 2) au)))) (aA (bC 5 a (cD t.cX b c (aj (ak 1) (aj (ak 2) au)))) (aA (iV (Oo (wg (cU CU (ak 4) oF (bK _)) (qW (cU CU (ak 5) oF (bK _))))) (aA (cF uK) aP) aP) (aA (cF (qw (fY HS (bY oN Y3 t.vM oM (aj (ak 4) au)) (ak 3) (bK _)) (qw (fY HS (bY oN Y3 t.vM oM (aj (ak 5) au)) (ak 3) (bK _)) (wj (fY (of_eq d) (mG (ak 4) gB (cZ (ak 3))) (mG (ak 5) gB (cZ (ak 3))) (bK _)))))) aP))))
theorem Cg:cj ["row","other","field","word","other_word"] ["row","other","field"] (aQ vJ):=oR
theorem Ci(b:Ok P w base t.cX 1 2 cW):Ok P w base t.kY 2 3 kW:=GR (g:=kO) t.kY Cg λ_ _ _ _ _ _ c d a=>(aA (bC 3 a (cD t.cX b c (aj (ak 0) (aj (ak 2) au)))) (aA (bC 4 a (cD t.cX b c (aj (ak 1) (aj (ak 2) au)))) (aA (cF (qw (fY yJ (ak 3) oF (bK _)) (qw (fY yJ (ak 4) oF (bK _)) (wj (fY (zN d) (ak 3) (ak 4) (bK _)))))) aP)))
theorem T3:cj ["rule","row","other"] ["rule","row","other"] (aQ Nq):=oR
theorem T4(c:Ok P w base t.jc 2 3 iZ)(e:Ok P w base t.kY 2 3 kW)(d:Ok P w base t.jQ 2 4 jP):Ok P w base t.pL 3 3 pD:=GR (g:=yX) t.pL T3 λ_ _ _ _ _ _ a b f=>(aA (iV (cU (of_eq b) (bx (ak 0) aC) bL (bK _)) (aA (cF (cD t.jc c a (aj (ak 1) (aj (ak 2) (aj (bx (ak 0) aC) au))))) aP) aP) (aA (iV (cU (of_eq b) (bx (ak 0) aC) bL (bK _)) (aA (cF (cD t.jQ d a (aj (ak 1) (aj (ak 2) (aj (bx (ak 0) aC) (aj (bx (ak 0) aC) au)))))) aP) aP) (aA (iV (cU (of_eq b) (bx (ak 0) aC) bL (bK _)) (aA (cF (qw (cD t.jc c a (aj (ak 1) (aj (ak 2) (aj (bx (ak 0) aC) au)))) (wj (cD t.jc c a (aj (ak 1) (aj (ak 2) (aj (bx (ak 0) aC) au))))))) aP) aP) (aA (cF (cD t.kY e a (aj (ak 1) (aj (ak 2) (aj (bx (ak 0) aC) au))))) aP))))
theorem KY:cj ["rows","rules"] ["rows","rules"] (aQ DG):=oR
theorem KZ(a:Ok P w base t.pL 3 3 pD):Ok P w base t.rH 4 2 rE:=GR (g:=rD) t.rH KY λ_ _ _ _ _ _ b d c=>(aA (cF (Tn ["at","row","other","number","rule"] (GY.mk (m:=4) (m2:=5) (lZ ["rows","rules"] [0,1]) Y3 (R5 Y3 t.yc (aj (ak 0) au)) (λ_ _ _ _=>(oG Y3 (cH (f7 2) (cH (f7 3) kj)))) (λ_ _ _ _=>cN) (Ez (jX (cu) (jX (cu) yE))) (λ_ _ _ _=>(Ew (mG (ak 0) (cZ (aX cV (ak 2) aC)) gB))) (λ_ _ _ _=>(f7 4)) (λ_ _ _ _=>cN) (cu) (λ_ _ _ _=>(WT Y3 t.yc (aj (ak 1) au))) (λ_ _ _ _=>(oG Y3 (cH (f7 5) (cH (f7 6) kj)))) (λ_ _ _ _=>(fL (qu (cD t.pL a b (aj (ak 6) (aj (ak 3) (aj (ak 4) au))))))) (Ez (jX (cu) (jX (cu) yE)))) (λ_ _ _ _=>(cQ (aj (ak 6) (aj (cQ (aj (bx (ak 3) aC) (aj (bx (ak 4) aC) (aj (ak 5) au)))) au)))))) aP)
theorem Ju:cj ["reason","weight","one","other","number"] ["reason"] (aQ Az):=oR
theorem Jv:Ok P w base t.lR 1 1 pG:=GR (g:=pF) t.lR Ju λ_ _ _ _ _ _ b c a=>(aA (Et (ak 0) (oG Y3 (cH (aR 1 a) (cH (aR 2 a) (cH (aR 3 a) (cH (aR 4 a) kj)))))) (aA (cF (cQ (aj (LC Fe (ak 1)) (aj (ak 2) (aj (ak 3) (aj (ak 4) au)))))) aP))
theorem Jw:cj ["reasons"] ["reasons"] (aQ Ba):=oR
theorem Jx(c:Ok P w base t.lR 1 1 pG):Ok P w base t.pN 3 1 pI:=GR (g:=pH) t.pN Jw λ_ _ _ _ _ _ a e d=>(aA (cF (Tt NB Y3 t.jl gG c (a.mono ()) Y3 t.lR.m t.lR.b (ak 0))) aP)
theorem vO:cj ["book","rules","rows","told","reasons","bars"] ["book","rules"] (aQ xY):=oR
theorem Gr(d:Ok P w base t.pN 3 1 pI)(e:Ok P w base t.rH 4 2 rE):Ok P w base t.eE 5 2 d9:=by
 unfold d9;obtain⟨l,i,f,h⟩:=W0 t.Ce;refine IT (k:=4) (g:=mR) t.eE.F f vO Y3 Y3 λA outer s H E b=>?_;have c:=Mq b;have a:=vO.nd;exact(aA (bC 2 a (Tv (x :="each") (xs:=[]) (is:=[]) (cl:=[]) Y3 b.depth OI Y3 t.jl gG (Ix Y3 Y3 Y3 Y3 Y3 Y3 trivial Y3 trivial) h Y3 Y3 Y3 (λ_ _ _ _=>Y3) (ak 0) λj c' s' H'=>(bx (ak 0) aC))) (aA (bC 3 a (cD t.rH e b (aj (ak 2) (aj (ak 1) au)))) (aA (EY 4 ["rule","pair"] (lZ [] []) Y3 a (dD (ak 3)) (λ_ _ _ _=>(oG Y3 (cH (f7 0) (cH (f7 1) kj)))) (λ_ _ _ _=>(fL (cU (zN c) (bx (ak 0) aC) bL (bK _)))) (λ_ _ _ _=>(gA (aX cV (cQ (aj (bx (ak 0) (LC Fe aC)) au)) (ak 1)))) (Ez (jX (cu) (jX (cu) yE)))) (aA (EY 5 ["rule","pair"] (lZ [] []) Y3 a (dD (ak 3)) (λ_ _ _ _=>(oG Y3 (cH (f7 0) (cH (f7 1) kj)))) (λ_ _ _ _=>(fL (cU (of_eq c) (bx (ak 0) aC) bL (bK _)))) (λ_ _ _ _=>(ak 1)) (Ez (jX (cu) (jX (cu) yE)))) (aA (cF (cQ (aj (jB qI Y3 t.vN qH (aj (d7 ["row"] (lZ [] []) Y3 (dD (ak 2)) (λ_ _ _ _=>(f7 0)) (λ_ _ _ _=>cN) (λ_ _ _ _=>(bx (ak 0) aC)) (cu)) au)) (aj (jB qI Y3 t.vN qH (aj (cD t.pN d b (aj (ak 4) au)) au)) (aj (jB qI Y3 t.vN qH (aj (bY nY Y3 t.jl gG (aj (ak 5) au)) au)) au))))) aP)))))
theorem Gs:cj ["_law_book_here","_law_rule","_law_names_here","_law_reasons","_law_bars"] ["_law_book_here","_law_rule"] (aQ xZ):=oR
theorem Gu(d:Ok P w base t.eE 5 2 d9):Ok P w base t.bR 6 2 bQ:=GR (g:=mU) t.bR Gs λ_ _ _ _ _ _ c a b=>(aA (Et (cD t.eE d c (aj (ak 0) (aj (cQ (aj (ak 1) au)) au))) (oG Y3 (cH (aR 2 b) (cH (aR 3 b) (cH (aR 4 b) kj))))) (aA (iV (cU (of_eq a) (bx (ak 1) aC) bL (bK _)) (aA (cF (bY nY Y3 t.jl gG (aj (aX cV (d7 ["_law_bar"] (lZ [] []) Y3 (dD (ak 4)) (λ_ _ _ _=>(f7 0)) (λ_ _ _ _=>cN) (λ_ _ _ _=>(gA (mG (ak 0) gB (cZ aC)))) (cu)) (d7 ["_law_reason"] (lZ [] []) Y3 (dD (ak 3)) (λ_ _ _ _=>(f7 0)) (λ_ _ _ _=>cN) (λ_ _ _ _=>(gA (mG (ak 0) (cZ aC) (cZ aC)))) (cu))) au))) aP) aP) (aA (iV (Oo (wg (cU (zN a) (ak 4) (cQ au) (bK _)) (qW (sY (qu (bY (zU Y3) Y3 t.Jm zQ (aj (d7 ["_law_reason"] (lZ ["_law_rule"] [1]) Y3 (dD (ak 3)) (λ_ _ _ _=>(f7 1)) (λ_ _ _ _=>cN) (λ_ _ _ _=>(qw (fY (of_eq a) (bx (ak 1) aC) (bx (ak 0) (LC Fe aC)) (bK _)) (wj (fY (of_eq a) (bx (ak 1) aC) aC (bK _))))) (cu)) au))))))) (aA (cF oF) aP) aP) (aA (cF (bY nY Y3 t.jl gG (aj (d7 ["_law_reason"] (lZ [] []) Y3 (dD (ak 3)) (λ_ _ _ _=>(f7 0)) (λ_ _ _ _=>cN) (λ_ _ _ _=>(gA (mG (ak 0) (cZ aC) (cZ aC)))) (cu)) au))) aP))))
theorem rR:cj ["_law_book_here","_law_field","_law_weight","_law_words","_law_same","_law_ahead","_law_signs","_law_here","_law_long_ones"] ["_law_book_here","_law_field","_law_weight"] (aQ lO):=oR
theorem rT(d:Ok P w base t.bR 6 2 bQ)(e:Ok P w base t.cX 1 2 cW):Ok P w base t.fP 7 3 fO:=GR (g:=fM) t.fP rR λ_ _ _ _ _ _ c a b=>(aA (bC 3 b (jB (Tz Y3) Y3 t.abb V7 (aj (d7 ["_law_row_here"] (lZ ["_law_field"] [1]) Y3 (dD (ak 0)) (λ_ _ _ _=>(f7 1)) (λ_ _ _ _=>cN) (λ_ _ _ _=>(cQ (aj (bx (ak 1) aC) (aj (gA (cD t.cX e c (aj (ak 1) (aj (ak 0) au)))) au)))) (cu)) au))) (aA (bC 4 b (gA (cD t.bR d c (aj (ak 0) (aj (cQ (aj bL (aj (ak 1) (aj (ak 2) au)))) au))))) (aA (bC 5 b (gA (cD t.bR d c (aj (ak 0) (aj (cQ (aj bL (aj (ak 1) (aj aC (aj (ak 2) au))))) au))))) (aA (m5 PassesOwn.never Y3 (Q9 Y3 t.jR (aj aC (aj aC au))) (aR 6 b) (dw [6,7,8] (aA (bC 7 b (gA (cD t.bR d c (aj (ak 0) (aj (cQ (aj bL (aj (ak 1) (aj (ak 6) (aj (ak 2) au))))) au))))) (aA (iV (Oo (wg (cU CU (ak 7) oF (bK _)) (qW (sY (qu (bY (zU Y3) Y3 t.Jm zQ (aj (d7 ["_law_pair"] (lZ ["_law_ahead"] [5]) Y3 (dD (ak 7)) (λ_ _ _ _=>(f7 1)) (λ_ _ _ _=>cN) (λ_ _ _ _=>(fY (FP a) (ak 1) (ak 0) (by with_unfolding_all rfl))) (cu)) au))))))) (aA (cF uK) aP) aP) (aA (EY 8 ["_law_pair"] (lZ ["_law_signs","_law_words"] [6,3]) Y3 b (dD (ak 4)) (λ_ _ _ _=>(f7 2)) (λ_ _ _ _=>(fL (cU HS (bY oN Y3 t.vM oM (aj (yK a (ak 1) (bx (ak 2) aC)) au)) (ak 0) (bK _)))) (λ_ _ _ _=>(ak 2)) (cu)) (aA (iV (sY (qu (bY (zU Y3) Y3 t.Jm zQ (aj (d7 ["_law_pair"] (lZ ["_law_here"] [7]) Y3 (dD (ak 8)) (λ_ _ _ _=>(f7 1)) (λ_ _ _ _=>cN) (λ_ _ _ _=>(fY (FP a) (ak 1) (ak 0) (by with_unfolding_all rfl))) (cu)) au)))) (aA (cF uK) aP) aP) (aA (iV (sY (qu (bY (zU Y3) Y3 t.Jm zQ (aj (d7 ["_law_pair"] (lZ ["_law_signs","_law_words"] [6,3]) Y3 (dD (ak 7)) (λ_ _ _ _=>(f7 2)) (λ_ _ _ _=>cN) (λ_ _ _ _=>(fY HS (bY (OX Y3) Y3 t.adE Z5 (aj (bY oN Y3 t.vM oM (aj (yK a (ak 1) (bx (ak 2) aC)) au)) (aj (bY oN Y3 t.vM oM (aj (yK a (ak 1) (bx (ak 2) aC)) au)) au))) (ak 0) (bK _))) (cu)) au)))) (aA (cF uK) aP) aP) (aA (bC 5 b (ak 7)) aP)))))))) (aA (cF (fY (of_eq a) (cD t.bR d c (aj (ak 0) (aj (cQ (aj bL (aj (ak 1) (aj aC (aj (ak 2) au))))) au))) (d7 ["_law_pair"] (lZ ["_law_words"] [3]) Y3 (dD (ak 4)) (λ_ _ _ _=>(f7 1)) (λ_ _ _ _=>(fL (cU (of_eq a) (bY oN Y3 t.vM oM (aj (yK a (ak 0) (bx (ak 1) aC)) au)) aC (bK _)))) (λ_ _ _ _=>(ak 1)) (cu)) (bK _))) aP)))))
theorem vP:cj ["_law_book_here","_law_field","_law_other","_law_weight","_law_one","_law_two","_law_both","_law_having","_law_pairs_here","_law_k","_law_never"] ["_law_book_here","_law_field","_law_other","_law_weight"] (aQ nZ):=oR
theorem vQ(c:Ok P w base t.bR 6 2 bQ)(e:Ok P w base t.cX 1 2 cW):Ok P w base t.gM 7 4 gK:=GR (g:=gJ) t.gM vP λ_ _ _ _ _ _ b d a=>(aA (Et (cQ (aj (gA (cD t.bR c b (aj (ak 0) (aj (cQ (aj bL (aj (ak 1) (aj (ak 3) au)))) au)))) (aj (gA (cD t.bR c b (aj (ak 0) (aj (cQ (aj bL (aj (ak 2) (aj (ak 3) au)))) au)))) au))) (oG Y3 (cH (aR 4 a) (cH (aR 5 a) kj)))) (aA (bC 6 a (cD t.bR c b (aj (ak 0) (aj (cQ (aj bL (aj (ak 1) (aj (ak 2) (aj (ak 3) au))))) au)))) (aA (iV (Oo (wg (cU (zN d) (ak 6) (d7 ["_law_pair"] (lZ ["_law_two"] [5]) Y3 (dD (ak 4)) (λ_ _ _ _=>(f7 1)) (λ_ _ _ _=>(fL (cU (FP d) (ak 1) (ak 0) (by with_unfolding_all rfl)))) (λ_ _ _ _=>(ak 1)) (cu)) (bK _)) (qW (cU (zN d) (cD t.bR c b (aj (ak 0) (aj (cQ (aj bL (aj (ak 2) (aj (ak 1) (aj aC au))))) au))) (ak 6) (bK _))))) (aA (cF uK) aP) aP) (aA (bC 7 a (bY O1 Y3 t.jl gG (aj (d7 ["_law_row_here"] (lZ ["_law_field"] [1]) Y3 (dD (ak 0)) (λ_ _ _ _=>(f7 1)) (λ_ _ _ _=>(fL (cU yJ (cD t.cX e b (aj (ak 1) (aj (ak 0) au))) oF (bK _)))) (λ_ _ _ _=>(bx (ak 1) aC)) (cu)) au))) (aA (bC 8 a (lG au)) (aA (m5 PassesOwn.never Y3 (jf Y3 t.jR (aj (bY oN Y3 t.vM oM (aj (ak 7) au)) au)) (aR 9 a) (dw [9] (aA (IL 8 (d7 ["_law_j"] (lZ ["_law_having","_law_k"] [7,9]) Y3 (Rh (jf Y3 t.jR (aj (ak 9) au))) (λ_ _ _ _=>(f7 2)) (λ_ _ _ _=>cN) (λ_ _ _ _=>(cQ (aj (bx (ak 0) (ak 2)) (aj (bx (ak 0) (ak 1)) au)))) (cu))) aP))) (aA (bC 10 a (cD t.bR c b (aj (ak 0) (aj (cQ (aj bL (aj (ak 1) au))) au)))) (aA (cF (qw (fY (of_eq d) (bY nY Y3 t.jl gG (aj (ak 8) au)) (bY nY Y3 t.jl gG (aj (aX cV (ak 4) (ak 10)) au)) (bK _)) (wj (ZD (bY (IQ Y3) Y3 t.adC Z4 (aj (d7 ["_law_pair"] (lZ ["_law_one"] [4]) Y3 (dD (ak 10)) (λ_ _ _ _=>(f7 1)) (λ_ _ _ _=>cN) (λ_ _ _ _=>(fY (FP d) (ak 1) (ak 0) (by with_unfolding_all rfl))) (cu)) au)))))) aP))))))))
theorem LM:cj ["_law_script","_law_book_here","_law_xs","_law_fields","_law_field","_law_other","_law_weight","_law_rules","_law_names_here","_law_reasons","_law_bars","_law_k","_law_here"] ["_law_script"] (aQ s_law):=oR
theorem NE(l:Ok P w base t.fP 7 3 fO)(k:Ok P w base t.pK 3 2 pC)(i:Ok P w base t.gM 7 4 gK)(j:Ok P w base t.iK 1 2 iJ)(h:Ok P w base t.eH 1 2 eF)(d:Ok P w base t.bR 6 2 bQ)(e:Ok P w base t.eE 5 2 d9)(f:Ok P w base t.pL 3 3 pD):Ok P w base t.x_law 8 1 F_law:=GR (g:=Nr) t.x_law LM λ_ _ _ _ _ _ a c b=>(aA (bC 1 b (cD t.pK k a (aj (ak 0) (aj aC au)))) (aA (bC 2 b (cD t.eH h a (aj (gA (cD t.iK j a (aj (ak 0) (aj aC au)))) (aj aC au)))) (aA (bC 3 b (lG (aj bL (aj bL (aj bL (aj bL (aj bL au))))))) (aA (ZG 4 5 Y3 b (aj (bx (ak 3) (aX dj (bx (ak 2) aC) aC)) (aj (bx (ak 3) (aX dj (aX cV (aX cV (bx (ak 2) aC) aC) (aX dj (bx (ak 2) aC) aC)) aC)) au))) (aA (bC 6 b (aX cV aC (aX dj (bx (ak 2) aC) aC))) (aA (iV (Oo (wg (sY (qu (cD t.fP l a (aj (ak 1) (aj (ak 4) (aj (ak 6) au)))))) (qW (sY (qu (cD t.gM i a (aj (ak 1) (aj (ak 4) (aj (ak 5) (aj (ak 6) au)))))))))) (aA (cF uK) aP) aP) (aA (iV (cU (zN c) (cD t.bR d a (aj (ak 1) (aj (cQ (aj bL (aj (ak 4) (aj aC au)))) au))) (cD t.bR d a (aj (ak 1) (aj (cQ (aj bL (aj (ak 4) (aj (ak 6) au)))) au))) (bK _)) (aA (cF uK) aP) aP) (aA (bC 7 b (cQ (aj (cQ (aj bL (aj (ak 4) (aj (ak 6) au)))) (aj (cQ (aj bL (aj (ak 5) (aj (gA (aX cV aC (aX dj (bx (ak 2) aC) aC))) (aj aC au))))) (aj (cQ (aj bL (aj (ak 5) au))) (aj (cQ (aj bL (aj (ak 4) (aj (ak 5) (aj aC au))))) au)))))) (aA (bC 1 b (mG (ak 1) gB (cZ aC))) (aA (Et (cD t.eE e a (aj (ak 1) (aj (ak 7) au))) (oG Y3 (cH (aR 8 b) (cH (aR 9 b) (cH (aR 10 b) kj))))) (aA (m5 PassesOwn.never Y3 (jf Y3 t.jR (aj aC au)) (aR 11 b) (dw [11,12] (aA (bC 12 b (aX cV (d7 ["_law_reason"] (lZ ["_law_k"] [11]) Y3 (dD (ak 9)) (λ_ _ _ _=>(f7 1)) (λ_ _ _ _=>(fL (cU (of_eq c) (bx (ak 1) aC) (ak 0) (bK _)))) (λ_ _ _ _=>(gA (mG (ak 1) (cZ aC) (cZ aC)))) (cu)) (d7 ["_law_bar"] (lZ ["_law_k"] [11]) Y3 (dD (ak 10)) (λ_ _ _ _=>(f7 1)) (λ_ _ _ _=>(fL (cU (of_eq c) (bx (ak 1) aC) (ak 0) (bK _)))) (λ_ _ _ _=>(gA (mG (ak 1) gB (cZ aC)))) (cu)))) (aA (iV (cU (zN c) (bY nY Y3 t.jl gG (aj (ak 12) au)) (cD t.bR d a (aj (ak 1) (aj (bx (ak 7) (ak 11)) au))) (bK _)) (aA (cF uK) aP) aP) (aA (iV (sY (qu (bY (zU Y3) Y3 t.Jm zQ (aj (d7 ["_law_row_here"] (lZ ["_law_rules","_law_k","_law_book_here"] [7,11,1]) Y3 (dD (ak 1)) (λ_ _ _ _=>(f7 3)) (λ_ _ _ _=>cN) (λ_ _ _ _=>(fY (of_eq c) (cD t.pL f a (aj (bx (ak 0) (ak 1)) (aj (bx (ak 2) aC) (aj (ak 3) au)))) (cD t.pL f a (aj (bx (ak 0) (ak 1)) (aj (ak 3) (aj (bx (ak 2) aC) au)))) (bK _))) (cu)) au)))) (aA (cF uK) aP) aP) aP))))) (aA (cF (QW (of_eq c) (of_eq c) (cD t.eE e a (aj (gA (MD (ak 1) (LC Fe aC))) (aj (ak 7) au))) (cD t.eE e a (aj (gA (aX cV (mG (ak 1) (cZ aC) gB) (mG (ak 1) gB (cZ aC)))) (aj (ak 7) au))) (cQ (aj (ak 8) (aj (ak 9) (aj (ak 10) au)))))) aP))))))))))))
theorem D7:Ok P w base t.x_law 8 1 F_law:=by
 have c:=Jp (P:=P) (w:=w) (base:=base) t;have f:=Bc (P:=P) (w:=w) (base:=base) t;have k:=Gn (P:=P) (w:=w) (base:=base) t;have n:=Jr (P:=P) (w:=w) (base:=base) t;have s:=KN (P:=P) (w:=w) (base:=base) t n;have i:=Jt (P:=P) (w:=w) (base:=base) t c k f s;have a:=KR (P:=P) (w:=w) (base:=base) t;have o:=Gq (P:=P) (w:=w) (base:=base) t a;have q:=Bf (P:=P) (w:=w) (base:=base) t a;have u:=Ci (P:=P) (w:=w) (base:=base) t a;have d:=T4 (P:=P) (w:=w) (base:=base) t o u q;have g:=KZ (P:=P) (w:=w) (base:=base) t d;have l:=Jv (P:=P) (w:=w) (base:=base) t;have m:=Jx (P:=P) (w:=w) (base:=base) t l;have e:=Gr (P:=P) (w:=w) (base:=base) t m g;have b:=Gu (P:=P) (w:=w) (base:=base) t e;have j:=rT (P:=P) (w:=w) (base:=base) t b a;have h:=vQ (P:=P) (w:=w) (base:=base) t b a;have p:=NE (P:=P) (w:=w) (base:=base) t j i h c f b e d;exact p
end
end G76
end
section
set_option synthInstance.maxSize 100000
namespace G76
open L2 P1
noncomputable section
def sU(a:Int)(b:Int):Int:=(let a:=(((a*69621)+b)%2147483647);a)
theorem Cj(d:BD)(e:Lp jT (d.map eI))(c:Int)(a:Int)(b:Int):RP sJ [Z jT,Z (zE eI c),Z (zE eI a),Z (zE eI b)] (λs=>An.nx ((λa:Int=>[Z jT,Z (zE eI c),Z (zE eI a),O]) s)) (sU  a b) (O):=R.tp (cM (cg 2 (dF (jy (MJ (aq 2 (zE eI) a Y3) 69621 ()) (aq 3 (zE eI) b Y3)) 2147483647 ()) (λ_=>Y3) λa=>(dB (eV a Y3))))
def bM(c:BD)(b:Int):Int:=(if(decide (b<(c.length:Int)))=true then(As c b)else(let a:=((48271*(((b*b)+(7*b))+11))%2147483647);(let a:Int:=((BE c O (Z 3)).foldl (λ(a:Int) (d:Int)=>(sU  a d)) a);a)))
def iR(b:BD)(a:Int):Prop:=(((decide (a<(b.length:Int)))=true->In b.length a)/\((decide (a<(b.length:Int)))=false->EF a a))
theorem K1(b:BD)(d:Lp jT (b.map eI))(a:Int):RP o9 [Z jT,Z (zE eI a),O,O] (λr=>An.rt (zE eI r)) (bM b a) (Z (iR b a)):=R.tp (j4 (fj (XS (aq 1 (zE eI) a Y3) (Co (jZ 0 eI b d Y3)))) (cM (dh (λr=>r) (j8 (jZ 0 eI b d Y3) (aq 1 (zE eI) a Y3)) (λ_=>Y3) λ_=>Y3)) (dB (cg 2 (dF (FQ 48271 () (jy (jy (XR (aq 1 (zE eI) a Y3) (aq 1 (zE eI) a Y3)) (FQ 7 () (aq 1 (zE eI) a Y3))) (B9 11))) 2147483647 ()) (λ_=>Y3) λc=>(HP (λc:Int=>[Z jT,Z (zE eI a),Z (zE eI c),O]) c Y3 (GB (GT (jZ 0 eI b d Y3) Ag (Ah (B9 3)))) _ (λ_ _=>Y3) (λ(c:Int) (e:Int)=>(Cj b d a c e).r) (λ_ _=>Y3) λc=>(dh (λr=>r) (aq 2 (zE eI) c Y3) (λ_=>Y3) λ_=>Y3)))))
theorem um:∀v bs,(aL eI (aZ eI aN)) v bs->bs.length=2/\(B5 (Z (iR v.1 v.2.1))->iJ (bs.map BA)=Z ((zE eI) (bM v.1 v.2.1))):=by
 rintro⟨b,a,_⟩ _ ⟨jT,_,rfl,c,⟨_,rfl,rfl⟩⟩;exact⟨rfl,λh=>dG (g:=o9) (n:=4) (bs:=[BA jT,.z (eI a)]) (K1 b (Ab c) a) h⟩
def cG(a:Int×BD×Int)(e:Int):Int×BD×Int:=(let b:=((((a.1*((a.1%65521)+40487))+(7*e))+5)%1999999973);(let d:=a.2.1++[(As [b,(a.2.2%1000000)] (if(decide ((0:Int)<a.2.2))=true then(1:Int)else 0))];(let c:=(a.2.2 / (1000000:Int));(b,d,c))))
def gO(a:Int×BD×Int)(c:Int):Prop:=(EF a.1 ((a.1%65521)+40487)/\(let b:=((((a.1*((a.1%65521)+40487))+(7*c))+5)%1999999973);(In [b,(a.2.2%1000000)].length (if(decide ((0:Int)<a.2.2))=true then(1:Int)else 0)/\BZ a.2.1.length)))
theorem wU(e:Int)(d:Int)(a:Int×BD×Int)(b:Int):RP jG [Z (zE eI e),Z (zE eI d),Z ((oE eI) a.2.1),Z ((zE eI) a.1),Z ((zE eI) a.2.2),Z (zE eI b)] (λs=>An.nx ((λa:Int×BD×Int=>[Z (zE eI e),Z (zE eI d),Z ((oE eI) a.2.1),Z ((zE eI) a.1),Z ((zE eI) a.2.2),O]) s)) (cG  a b) (Z (gO  a b)):=R.tp (cM (cg 3 (dF (jy (jy (XR (aq 3 (zE eI) a.1 Y3) (jy (dF (aq 3 (zE eI) a.1 Y3) 65521 ()) (B9 40487))) (FQ 7 () (aq 5 (zE eI) b Y3))) (B9 5)) 1999999973 ()) (λ_=>Y3) λc=>(cM (M7 2 a.2.1 Y3 (j8 (jk (qM (aK (aq 3 (zE eI) c Y3) (aK (dF (aq 4 (zE eI) a.2.2 Y3) 1000000 ()) (dU eI))) (zD Y3))) (Na (GH (aq 4 (zE eI) a.2.2 Y3) (B9 0)))) λg=>(cM (cg 4 (oU (aq 4 (zE eI) a.2.2 Y3) 1000000 ()) (λ_=>Y3) λf=>(dB (eV (c,g,f) Y3))))))))
def gP(g:Int)(e:Int)(d:BD)(c:Int)(b:Int):BD:=(let a:Int×BD×Int:=((rng 0 e.toNat).foldl (λ(a:Int×BD×Int) (f:Int)=>(cG  a f)) (c,d,b));a.2.1)
def jJ(g:Int)(c:Int)(f:BD)(e:Int)(d:Int):Prop:=(Rg c/\wG (λ(a:Int×BD×Int) (b:Int)=>(cG  a b)) (λ(a:Int×BD×Int) (b:Int)=>Z (gO  a b)) (rng 0 c.toNat) (e,f,d))
def wV:Ev->S An:=(aJ (nM (JX (ao (gv 1) aH)) (jY 5) jG) (aJ (Er 2) gn))
theorem wW(c:Int)(b:Int)(f:BD)(e:Int)(d:Int):RP wV [Z (zE eI c),Z (zE eI b),Z (oE eI f),Z (zE eI e),Z (zE eI d),O] (λr=>An.rt (oE eI r)) (gP c b f e d) (Z (jJ c b f e d)):=R.tp (Dq (λa:Int×BD×Int=>[Z (zE eI c),Z (zE eI b),Z ((oE eI) a.2.1),Z ((zE eI) a.1),Z ((zE eI) a.2.2),O]) (e,f,d) Y3 (Ai (aq 1 (zE eI) b Y3)) _ (λ_ _=>Y3) (λ(a:Int×BD×Int) (g:Int)=>(wU c b a g).r) λa=>(Sw 2 (λr=>r) a.2.1 Y3 (λ_=>Y3) λ_=>Y3))
def bD(a:Int)(e:Int):BD:=(let d:=([]:Y Int);(let c:=((((a%1999999973)+31)*765432101)%1999999973);(let b:=(0:Int);(let b:Int:=(if((decide (a<0))||(decide (((10:Int) ^ 18)<=a)))=true then(let b:=(if a<0 then -a else a);b)else b);(gP a e d c b)))))
def fV(a:Int)(e:Int):Prop:=(let d:=([]:Y Int);(let c:=((((a%1999999973)+31)*765432101)%1999999973);(let b:=(0:Int);(let b:Int:=(if((decide (a<0))||(decide (((10:Int) ^ 18)<=a)))=true then(let b:=(if a<0 then -a else a);b)else b);(jJ a e d c b)))))
theorem Ck(a:Int)(c:Int):RP jN [Z (zE eI a),Z (zE eI c),O,O,O,O] (λr=>An.rt (oE eI r)) (bD a c) (Z (fV a c)):=R.tp (cg 2 (qM (dU eI) (zD Y3)) (λ_=>Y3) λe=>(cg 3 (dF (MJ (jy (dF (aq 0 (zE eI) a Y3) 1999999973 ()) (B9 31)) 765432101 ()) 1999999973 ()) (λ_=>Y3) λd=>(cg 4 (B9 0) (λ_=>Y3) λb=>(Sx (λb:Int=>[Z (zE eI a),Z (zE eI c),Z (oE eI e),Z (zE eI d),Z (zE eI b),O]) (O8 (fj (XS (aq 0 (zE eI) a Y3) (B9 0))) (fj (CL (aq 0 (zE eI) a Y3) (IG 10 18 18 () Y3)))) (cM (cg 4 (LP (aq 0 (zE eI) a Y3)) (λ_=>Y3) λb=>(dB (eV b Y3)))) (dB (eV b Y3)) λb=>(wW a c e d b).r))))
theorem nu:∀v bs,(aZ eI (aZ eI aN)) v bs->bs.length=2/\(B5 (Z (fV v.1 v.2.1))->eF (bs.map BA)=Z ((oE eI) (bD v.1 v.2.1))):=by
 rintro⟨b,a,_⟩ _ ⟨_,rfl,⟨_,rfl,rfl⟩⟩;exact⟨rfl,λh=>dG (g:=jN) (n:=6) (bs:=[.z (eI b),.z (eI a)]) (Ck b a) h⟩
def dW(e:BD)(f:AJ)(g:AJ)(d:Int)(b:Au)(c:Int):Au:=(let h:=(ch f ((c+(As e 2))%15));(let a:=(((Txt.slice g O (Z d))++h)++(Txt.slice g (Z d) O));(let a:AJ:=(if(decide (((As e 3)%3)=1))=true then(let a:=(Txt.mul (ch f (c / (8:Int))) (1+(c%8)));a)else a);(let b:=b++[a];b))))
def jm(b:BD)(d:AJ)(e:AJ)(c:Int)(h:Au)(a:Int):Prop:=((In b.length 2/\In d.length ((a+(As b 2))%15))/\(let g:=(ch d ((a+(As b 2))%15));((BZ ((Txt.slice e O (Z c)).length+g.length)/\BZ (((Txt.slice e O (Z c))++g).length+(Txt.slice e (Z c) O).length))/\(let f:=(((Txt.slice e O (Z c))++g)++(Txt.slice e (Z c) O));((In b.length 3/\((decide (((As b 3)%3)=1))=true->(In d.length (a / (8:Int))/\((1+(a%8))<=1000 ∧ -1000<=(1+(a%8))/\(ch d (a / (8:Int))).length<=1000))))/\(let f:AJ:=(if(decide (((As b 3)%3)=1))=true then(let f:=(Txt.mul (ch d (a / (8:Int))) (1+(a%8)));f)else f);BZ h.length))))))
theorem Bg(g:BD)(j:Lp jT (g.map eI))(h:Int)(c:AJ)(f:AJ)(b:Int)(a:Au)(e:Int):RP lQ [Z jT,Z (zE eI h),Z (zE eS c),Z (zE eS f),Z (zE eI b),Z (oE eS a),Z (zE eI e),O,O] (λs=>An.nx ((λa:Au=>[Z jT,Z (zE eI h),Z (zE eS c),Z (zE eS f),Z (zE eI b),Z (oE eS a),O,O,O]) s)) (dW g c f b a e) (Z (jm g c f b a e)):=R.tp (cM (cg 7 (MN (aq 2 (zE eS) c Y3) (dF (jy (aq 6 (zE eI) e Y3) (j8 (jZ 0 eI g j Y3) (B9 2))) 15 ())) (λ_=>Y3) λi=>(cM (cg 8 (FZ (FZ (M5 (aq 3 (zE eS) f Y3) Ag (Ah (aq 4 (zE eI) b Y3))) (aq 7 (zE eS) i Y3)) (M5 (aq 3 (zE eS) f Y3) (Ah (aq 4 (zE eI) b Y3)) Ag)) (λ_=>Y3) λd=>(cM (Sx (λd:AJ=>[Z jT,Z (zE eI h),Z (zE eS c),Z (zE eS f),Z (zE eI b),Z (oE eS a),Z (zE eI e),Z (zE eS i),Z (zE eS d)]) (fj (BT () (dF (j8 (jZ 0 eI g j Y3) (B9 3)) 3 ()) (B9 1))) (cM (cg 8 (Ll (MN (aq 2 (zE eS) c Y3) (oU (aq 6 (zE eI) e Y3) 8 ())) (jy (B9 1) (dF (aq 6 (zE eI) e Y3) 8 ()))) (λ_=>Y3) λd=>(dB (eV d Y3)))) (dB (eV d Y3)) λd=>(cM (M7 5 a Y3 (aq 8 (zE eS) d Y3) λa=>(dB (eV a Y3))))))))))
def jo(c:BD)(f:Int)(e:AJ)(b:AJ):Au:=(let d:=((As c 1)%((b.length:Int)+1));(let a:=([]:Au);(let a:Au:=((rng 0 f.toNat).foldl (λ(a:Au) (g:Int)=>(dW c e b d a g)) a);a)))
def lU(c:BD)(g:Int)(f:AJ)(b:AJ):Prop:=((In c.length 1/\0<((b.length:Int)+1))/\(let e:=((As c 1)%((b.length:Int)+1));(let a:=([]:Au);(Rg g/\wG (λ(a:Au) (d:Int)=>(dW c f b e a d)) (λ(a:Au) (d:Int)=>Z (jm c f b e a d)) (rng 0 g.toNat) a))))
def Bh:Ev->S An:=(aJ (B0 4 (b2 jh (b2 fH (gv 0) (cB (.int 1))) (b2 fG (cT rQ (ao (gv 3) aH)) (cB (.int 1))))) (aJ (B0 5 (cT rO aH)) (aJ (nM (JX (ao (gv 1) aH)) (jY 6) lQ) (aJ (Er 5) gn))))
theorem Bj(d:BD)(g:Lp jT (d.map eI))(b:Int)(e:AJ)(c:AJ):RP Bh [Z jT,Z (zE eI b),Z (zE eS e),Z (zE eS c),O,O,O,O,O] (λr=>An.rt (oE eS r)) (jo d b e c) (Z (lU d b e c)):=R.tp (cg 4 (LF (j8 (jZ 0 eI d g Y3) (B9 1)) (jy (tU (aq 3 (zE eS) c Y3)) (B9 1))) (λ_=>Y3) λf=>(cg 5 (qM (dU eS) (zD Y3)) (λ_=>Y3) λa=>(Dq (λa:Au=>[Z jT,Z (zE eI b),Z (zE eS e),Z (zE eS c),Z (zE eI f),Z (oE eS a),O,O,O]) a Y3 (Ai (aq 1 (zE eI) b Y3)) _ (λ_ _=>Y3) (λ(a:Au) (h:Int)=>(Bg d g b e c f a h).r) λa=>(Sw 5 (λr=>r) a Y3 (λ_=>Y3) λ_=>Y3))))
def dJ(a:BD)(d:Int):Au:=(let b:=("abcdefghijklmnopqrstuvwxyz":AJ);(let c:=(Txt.join "" ((rng 0 ((As a 0)%6).toNat).map λe:Int=>(ch b (((As a e) / (40:Int))%26))));(jo a d b c)))
def mX(a:BD)(e:Int):Prop:=(let c:=("abcdefghijklmnopqrstuvwxyz":AJ);(((((In a.length 0/\Rg ((As a 0)%6))/\(rng 0 ((As a 0)%6).toNat).length<=100000)/\(∀b∈(rng 0 ((As a 0)%6).toNat),(In a.length b/\In c.length (((As a b) / (40:Int))%26))))/\(((rng 0 ((As a 0)%6).toNat).map λb:Int=>(ch c (((As a b) / (40:Int))%26))).map (·.length)).sum+((rng 0 ((As a 0)%6).toNat).map λb:Int=>(ch c (((As a b) / (40:Int))%26))).length*("":AJ).length<=100000)/\(let d:=(Txt.join "" ((rng 0 ((As a 0)%6).toNat).map λb:Int=>(ch c (((As a b) / (40:Int))%26))));(lU a e c d))))
theorem Jy(a:BD)(c:Lp jT (a.map eI))(b:Int):RP mL [Z jT,Z (zE eI b),O,O,O,O,O,O,O] (λr=>An.rt (oE eS r)) (dJ a b) (Z (mX a b)):=R.tp (cg 2 (yV "abcdefghijklmnopqrstuvwxyz") (λ_=>Y3) λd=>(cg 3 (Lv "" (jk (oW (Ai (dF (j8 (jZ 0 eI a c Y3) (B9 0)) 6 ())) _ (λ_=>Y3) (λf:Int=>(MN (aq 0 (zE eS) d Y3) (dF (oU (j8 (jZ 1 eI a c (congrArg Z (c.get Y3))) (aq 2 (zE eI) f Y3)) 40 ()) 26 ())))))) (λ_=>Y3) λe=>(Bj a c b d e).r))
theorem Jz:∀v bs,(aL eI (aZ eI aN)) v bs->bs.length=2/\(B5 (Z (mX v.1 v.2.1))->mO (bs.map BA)=Z ((oE eS) (dJ v.1 v.2.1))):=by
 rintro⟨b,a,_⟩ _ ⟨jT,_,rfl,c,⟨_,rfl,rfl⟩⟩;exact⟨rfl,λh=>dG (g:=mL) (n:=9) (bs:=[BA jT,.z (eI a)]) (Jy b (Ab c) a) h⟩
def ig(b:Int)(a:AJ)(c:Int):AJ:=(let a:=(a++(ch ("ab1":AJ) (((b / (16:Int)) / (As [(1:Int),(3:Int),(9:Int),(27:Int)] c))%3)));a)
def jU(b:Int)(c:AJ)(a:Int):Prop:=(((In [(1:Int),(3:Int),(9:Int),(27:Int)].length a/\(0<(As [(1:Int),(3:Int),(9:Int),(27:Int)] a)/\(As [(1:Int),(3:Int),(9:Int),(27:Int)] a)<1073741824))/\In ("ab1":AJ).length (((b / (16:Int)) / (As [(1:Int),(3:Int),(9:Int),(27:Int)] a))%3))/\BZ (c.length+(ch ("ab1":AJ) (((b / (16:Int)) / (As [(1:Int),(3:Int),(9:Int),(27:Int)] a))%3)).length))
theorem Cm(b:Int)(a:AJ)(c:Int):RP sO [Z (zE eI b),Z (zE eS a),Z (zE eI c)] (λs=>An.nx ((λa:AJ=>[Z (zE eI b),Z (zE eS a),O]) s)) (ig b a c) (Z (jU b a c)):=R.tp (cM (cg 1 (FZ (aq 1 (zE eS) a Y3) (MN (yV "ab1") (dF (OV (oU (aq 0 (zE eI) b Y3) 16 ()) (j8 (jk (qM (aK (B9 1) (aK (B9 3) (aK (B9 9) (aK (B9 27) (dU eI))))) (zD Y3))) (aq 2 (zE eI) c Y3))) 3 ()))) (λ_=>Y3) λa=>(dB (eV a Y3))))
def lV(b:Int):AJ:=(if(decide ((b%4)=0))=true then(As [("a":AJ),("ab":AJ),("abc":AJ),("b":AJ),("1":AJ),("12":AJ),("a1":AJ)] ((b / (4:Int))%7))else(let a:=("":AJ);(let a:AJ:=((rng 0 (1+((b / (4:Int))%4)).toNat).foldl (λ(a:AJ) (c:Int)=>(ig b a c)) a);a)))
def pQ(a:Int):Prop:=(((decide ((a%4)=0))=true->In [("a":AJ),("ab":AJ),("abc":AJ),("b":AJ),("1":AJ),("12":AJ),("a1":AJ)].length ((a / (4:Int))%7))/\((decide ((a%4)=0))=false->(let b:=("":AJ);(Rg (1+((a / (4:Int))%4))/\wG (λ(b:AJ) (c:Int)=>(ig a b c)) (λ(b:AJ) (c:Int)=>Z (jU a b c)) (rng 0 (1+((a / (4:Int))%4)).toNat) b))))
theorem K3(a:Int):RP pq [Z (zE eI a),O,O] (λr=>An.rt (zE eS r)) (lV a) (Z (pQ a)):=R.tp (j4 (fj (BT () (dF (aq 0 (zE eI) a Y3) 4 ()) (B9 0))) (cM (dh (λr=>r) (j8 (jk (qM (aK (yV "a") (aK (yV "ab") (aK (yV "abc") (aK (yV "b") (aK (yV "1") (aK (yV "12") (aK (yV "a1") (dU eS)))))))) (zD Y3))) (dF (oU (aq 0 (zE eI) a Y3) 4 ()) 7 ())) (λ_=>Y3) λ_=>Y3)) (dB (cg 1 (yV "") (λ_=>Y3) λb=>(Dq (λb:AJ=>[Z (zE eI a),Z (zE eS b),O]) b Y3 (Ai (jy (B9 1) (dF (oU (aq 0 (zE eI) a Y3) 4 ()) 4 ()))) _ (λ_ _=>Y3) (λ(b:AJ) (c:Int)=>(Cm a b c).r) λb=>(dh (λr=>r) (aq 1 (zE eS) b Y3) (λ_=>Y3) λ_=>Y3)))))
theorem K4:∀v bs,(aZ eI aN) v bs->bs.length=1/\(B5 (Z (pQ v.1))->pA (bs.map BA)=Z ((zE eS) (lV v.1))):=by
 rintro⟨a,_⟩ _ ⟨_,rfl,rfl⟩;exact⟨rfl,λh=>dG (g:=pq) (n:=3) (bs:=[.z (eI a)]) (K3 a) h⟩
def fQ(c:BD)(d:Au)(a:Y bF)(b:Int):(Y bF):=(let a:(Y bF):=(if(decide ((0:Int)<((As c b)%4)))=true then(let a:=a++[((As d b),(lV ((As c b) / (4:Int))))];a)else a);a)
def kZ(b:BD)(d:Au)(c:Y bF)(a:Int):Prop:=(In b.length a/\((decide ((0:Int)<((As b a)%4)))=true->((In d.length a/\(In b.length a/\(pQ ((As b a) / (4:Int)))))/\BZ c.length)))
theorem Gv(f:AJ)(d:BD){e:Bx}(g:Lp e (d.map eI))(c:Au)(a:Y bF)(b:Int):RP vK [Z (zE eS f),Z e,Z (oE eS c),Z (oE aV a),Z (zE eI b)] (λs=>An.nx ((λa:(Y bF)=>[Z (zE eS f),Z e,Z (oE eS c),Z (oE aV a),O]) s)) (fQ d c a b) (Z (kZ d c a b)):=R.tp (cM (Sx (λa:(Y bF)=>[Z (zE eS f),Z e,Z (oE eS c),Z (oE aV a),Z (zE eI b)]) (fj (GH (dF (j8 (jZ 1 eI d g Y3) (aq 4 (zE eI) b Y3)) 4 ()) (B9 0))) (cM (M7 3 a Y3 (tO (j8 (jt (aq 2 (lE eS) c Y3)) (aq 4 (zE eI) b Y3)) (jx (AZ K4 (bw (oU (j8 (jZ 1 eI d g Y3) (aq 4 (zE eI) b Y3)) 4 ()) bA)))) λa=>(dB (eV a Y3)))) (dB (eV a Y3)) λa=>(dB (eV a Y3))))
def jK(c:AJ)(e:BD):bG:=(let b:=[("day":AJ),("name":AJ),(("name":AJ)++("s":AJ)),("p":AJ)];(let a:=([]:Y bF);(let a:(Y bF):=((rng 0 (kN 4)).foldl (λ(a:Y bF) (d:Int)=>(fQ e b a d)) a);(c,a))))
def n6(e:AJ)(c:BD):Prop:=(BZ (("name":AJ).length+("s":AJ).length)/\(let d:=[("day":AJ),("name":AJ),(("name":AJ)++("s":AJ)),("p":AJ)];(let a:=([]:Y bF);wG (λ(a:Y bF) (b:Int)=>(fQ c d a b)) (λ(a:Y bF) (b:Int)=>Z (kZ c d a b)) (rng 0 (kN 4)) a)))
theorem Py(b:AJ)(c:BD){d:Bx}(f:Lp d (c.map eI)):RP rA [Z (zE eS b),Z d,O,O,O] (λr=>An.rt (zE aU r)) (jK b c) (Z (n6 b c)):=R.tp (cg 2 (qM (aK (yV "day") (aK (yV "name") (aK (jx (FZ (yV "name") (yV "s"))) (aK (yV "p") (dU eS))))) (zD Y3)) (λ_=>Y3) λe=>(cg 3 (qM (dU aV) (zD Y3)) (λ_=>Y3) λa=>(Dq (λa:(Y bF)=>[Z (zE eS b),Z d,Z (oE eS e),Z (oE aV a),O]) a Y3 (SN 4 4 Y3 (by unfold Rg;decide)) _ (λ_ _=>Y3) (λ(a:Y bF) (g:Int)=>(Gv b c f e a g).r) λa=>(dh (λr=>r) (tO (aq 0 (zE eS) b Y3) (u5 (jt (aq 3 (lE aV) a Y3)))) (λ_=>Y3) λ_=>Y3))))
theorem Pz:∀v bs,(aZ eS (aL eI aN)) v bs->bs.length=2/\(B5 (Z (n6 v.1 v.2.1))->rB (bs.map BA)=Z ((zE aU) (jK v.1 v.2.1))):=by
 rintro⟨a,c,_⟩ _ ⟨_,rfl,⟨b,_,rfl,d,rfl⟩⟩;exact⟨rfl,λh=>dG (g:=rA) (n:=5) (bs:=[.z (eS a),BA b]) (Py a c (Ab d)) h⟩
def jV(d:BD)(c:BD)(e:Au)(a:Y bG)(b:Int):(Y bG):=(let a:=a++[(jK (As e (((4*b)+(As c 7))%15)) (bD (bM d (1+b)) 4))];a)
def nA(c:BD)(b:BD)(d:Au)(e:Y bG)(a:Int):Prop:=((((In b.length 7/\In d.length (((4*a)+(As b 7))%15))/\((iR c (1+a))/\(fV (bM c (1+a)) 4)))/\(n6 (As d (((4*a)+(As b 7))%15)) (bD (bM c (1+a)) 4)))/\BZ e.length)
theorem Cp(e:BD)(h:Lp jT (e.map eI))(f:Int)(b:BD)(c:Au)(g:Int)(a:Y bG)(d:Int):RP sS [Z jT,Z (zE eI f),Z (oE eI b),Z (oE eS c),Z (zE eI g),Z (oE aU a),Z (zE eI d)] (λs=>An.nx ((λa:(Y bG)=>[Z jT,Z (zE eI f),Z (oE eI b),Z (oE eS c),Z (zE eI g),Z (oE aU a),O]) s)) (jV e b c a d) (Z (nA e b c a d)):=R.tp (cM (M7 5 a Y3 (jx (AZ Pz (bw (j8 (jt (aq 3 (lE eS) c Y3)) (dF (jy (FQ 4 () (aq 6 (zE eI) d Y3)) (j8 (jt (aq 2 (lE eI) b Y3)) (B9 7))) 15 ())) (IW (Aa (NX (AZ nu (bw (jx (AZ um (IW (jZ 0 eI e h Y3) (bw (jx (jy (B9 1) (aq 6 (zE eI) d Y3))) bA)))) (bw (B9 4) bA))))) bA)))) λa=>(dB (eV a Y3))))
def dX(d:BD)(c:Int):(Y bG):=(let b:=(bD (bM d 0) 9);(let e:=(dJ b 15);(let f:=(As [(1:Int),(2:Int),(5:Int),(8:Int),c,c] ((As b 6)%6));(let a:=([]:Y bG);(let a:(Y bG):=((rng 0 f.toNat).foldl (λ(a:Y bG) (g:Int)=>(jV d b e a g)) a);a)))))
def pR(b:BD)(d:Int):Prop:=(((iR b 0)/\(fV (bM b 0) 9))/\(let a:=(bD (bM b 0) 9);((mX a 15)/\(let f:=(dJ a 15);((In a.length 6/\In [(1:Int),(2:Int),(5:Int),(8:Int),d,d].length ((As a 6)%6))/\(let g:=(As [(1:Int),(2:Int),(5:Int),(8:Int),d,d] ((As a 6)%6));(let c:=([]:Y bG);(Rg g/\wG (λ(c:Y bG) (e:Int)=>(jV b a f c e)) (λ(c:Y bG) (e:Int)=>Z (nA b a f c e)) (rng 0 g.toNat) c))))))))
theorem K5(c:BD)(g:Lp jT (c.map eI))(a:Int):RP pB [Z jT,Z (zE eI a),O,O,O,O,O] (λr=>An.rt ((zE (eT aU)) r)) (dX c a) (Z (pR c a)):=R.tp (cg 2 (AZ nu (bw (jx (AZ um (IW (jZ 0 eI c g Y3) (bw (B9 0) bA)))) (bw (B9 9) bA))) (λ_=>Y3) λd=>(cg 3 (AZ Jz (IW (jt (aq 2 (lE eI) d Y3)) (bw (B9 15) bA))) (λ_=>Y3) λf=>(cg 4 (j8 (jk (qM (aK (B9 1) (aK (B9 2) (aK (B9 5) (aK (B9 8) (aK (aq 1 (zE eI) a Y3) (aK (aq 1 (zE eI) a Y3) (dU eI))))))) (zD Y3))) (dF (j8 (jt (aq 2 (lE eI) d Y3)) (B9 6)) 6 ())) (λ_=>Y3) λe=>(cg 5 (qM (dU aU) (zD Y3)) (λ_=>Y3) λb=>(Dq (λb:(Y bG)=>[Z jT,Z (zE eI a),Z (oE eI d),Z (oE eS f),Z (zE eI e),Z (oE aU b),O]) b Y3 (Ai (aq 4 (zE eI) e Y3)) _ (λ_ _=>Y3) (λ(b:Y bG) (h:Int)=>(Cp c g a d f e b h).r) λb=>(dh (λr=>r) (u5 (jt (aq 5 (lE aU) b Y3))) (λ_=>Y3) λ_=>Y3))))))
theorem K6:∀v bs,(aL eI (aZ eI aN)) v bs->bs.length=2/\(B5 (Z (pR v.1 v.2.1))->pC (bs.map BA)=Z ((zE (eT aU)) (dX v.1 v.2.1))):=by
 rintro⟨b,a,_⟩ _ ⟨jT,_,rfl,c,⟨_,rfl,rfl⟩⟩;exact⟨rfl,λh=>dG (g:=pB) (n:=7) (bs:=[BA jT,.z (eI a)]) (K5 b (Ab c) a) h⟩
def gQ(a:AJ)(b:Unit)(q2:bF):oh (Unit) (S AJ):=(if(decide (q2.1=a))=true then(oh.rt (Z q2.2))else(oh.nx f8))
theorem Gw(c:bG)(a:AJ)(b:Unit)(q2:bF):RP vL [Z (zE aU c),Z (zE eS a),Z ((zE eS) q2.1),Z ((zE eS) q2.2)] (cC (λb:Unit=>[Z (zE aU c),Z (zE eS a),O,O]) (zE (eO eS))) (gQ a b q2) (O):=R.tp (cM (j4 (fj (BT () (aq 2 (zE eS) q2.1 Y3) (aq 1 (zE eS) a Y3))) (cM (dh .rt (Kr (aq 3 (zE eS) q2.2 Y3)) (λ_=>Y3) λ_=>Y3)) (dB (dB (eV (.nx f8) Y3)))))
def bH(b:bG)(c:AJ):(S AJ):=(C3 (ju (λ(a:Unit) (q2:bF)=>((gQ c a q2):oh (Unit) (S AJ))) b.2 f8) (λr=>r) λa:Unit=>O)
def fu(b:bG)(c:AJ):Prop:=(nT (λ(a:Unit) (q2:bF)=>((gQ c a q2):oh (Unit) (S AJ))) (λ(a:Unit) (q2:bF)=>O) b.2 f8/\(yU (ju (λ(a:Unit) (q2:bF)=>((gQ c a q2):oh (Unit) (S AJ))) b.2 f8) λa:Unit=>True))
theorem PJ(a:bG)(b:AJ):RP rC [Z (zE aU a),Z (zE eS b),O,O] (λr=>An.rt ((zE (eO eS)) r)) (bH a b) (Z (fu a b)):=R.tp (Kw (λc:Unit=>[Z (zE aU a),Z (zE eS b),O,O]) f8 Y3 (Mm (lN (aq 0 (zE aU) a Y3) (λq=>q.2) (eT aV) 1 λ_=>Y3)) _ (λ_ _=>Y3) (λ(c:Unit) (q2:bF)=>((Gw a b c q2).r:R _ _ (cC (λc:Unit=>[Z (zE aU a),Z (zE eS b),O,O]) (zE (eO eS))))) (λr=>r) (λ_=>Y3) λc=>(dh (λr=>r) N0 (λ_=>Y3) λ_=>Y3))
theorem jd:∀v bs,(aZ aU (aZ eS aN)) v bs->bs.length=2/\(B5 (Z (fu v.1 v.2.1))->cW (bs.map BA)=Z ((zE (eO eS)) (bH v.1 v.2.1))):=by
 rintro⟨a,b,_⟩ _ ⟨_,rfl,⟨_,rfl,rfl⟩⟩;exact⟨rfl,λh=>dG (g:=rC) (n:=4) (bs:=[.z (aU a),.z (eS b)]) (PJ a b) h⟩
def dM(d:bG)(c:bG)(b:AJ):Bool:=(let a:=(bH d b);(a.isSome&&(decide (a=(bH c b)))))
def je(b:bG)(d:bG)(a:AJ):Prop:=((fu b a)/\(let c:=(bH b a);(c.isSome=true->(fu d a))))
theorem JB(c:bG)(b:bG)(a:AJ):RP mQ [Z (zE aU c),Z (zE aU b),Z (zE eS a),O] (λr=>An.rt (zE eB r)) (dM c b a) (Z (je c b a)):=R.tp (cg 3 (AZ jd (bw (aq 0 (zE aU) c Y3) (bw (aq 2 (zE eS) a Y3) bA))) (λ_=>Y3) λd=>(dh (λr=>r) (xT (yR (aq 3 (zE (eO eS)) d Y3) λ_=>Y3) (BT () (aq 3 (zE (eO eS)) d Y3) (AZ jd (bw (aq 1 (zE aU) b Y3) (bw (aq 2 (zE eS) a Y3) bA))))) (λ_=>Y3) λ_=>Y3))
theorem qR:∀v bs,(aZ aU (aZ aU (aZ eS aN))) v bs->bs.length=3/\(B5 (Z (je v.1 v.2.1 v.2.2.1))->iZ (bs.map BA)=Z ((zE eB) (dM v.1 v.2.1 v.2.2.1))):=by
 rintro⟨b,a,c,_⟩ _ ⟨_,rfl,⟨_,rfl,⟨_,rfl,rfl⟩⟩⟩;exact⟨rfl,λh=>dG (g:=mQ) (n:=4) (bs:=[.z (aU b),.z (aU a),.z (eS c)]) (JB b a c) h⟩
def iu(f:bG)(e:bG)(d:AJ)(a:Int):Bool:=(let b:=(bH f d);(let c:=(bH e d);(if(b.isNone||c.isNone)=true then false else((decide (a<=((b.getD default).length:Int)))&&((decide (a<=((c.getD default).length:Int)))&&(decide ((Z (Txt.slice (b.getD default) O (Z a)))=(Z (Txt.slice (c.getD default) O (Z a))))))))))
def iw(f:bG)(d:bG)(b:AJ)(e:Int):Prop:=((fu f b)/\(let a:=(bH f b);((fu d b)/\(let c:=(bH d b);((a.isNone||c.isNone)=false->(a.isSome=true/\((decide (e<=((a.getD default).length:Int)))=true->(c.isSome=true/\((decide (e<=((c.getD default).length:Int)))=true->(a.isSome=true/\c.isSome=true))))))))))
theorem Cq(d:bG)(c:bG)(b:AJ)(a:Int):RP jO [Z (zE aU d),Z (zE aU c),Z (zE eS b),Z (zE eI a),O,O] (λr=>An.rt (zE eB r)) (iu d c b a) (Z (iw d c b a)):=R.tp (cg 4 (AZ jd (bw (aq 0 (zE aU) d Y3) (bw (aq 2 (zE eS) b Y3) bA))) (λ_=>Y3) λe=>(cg 5 (AZ jd (bw (aq 1 (zE aU) c Y3) (bw (aq 2 (zE eS) b Y3) bA))) (λ_=>Y3) λf=>(j4 (O8 (fj (R9 (aq 4 (zE (eO eS)) e Y3) λ_=>Y3)) (fj (R9 (aq 5 (zE (eO eS)) f Y3) λ_=>Y3))) (cM (dh (λr=>r) (qb (.bl false) eB false Y3) (λ_=>Y3) λ_=>Y3)) (dB (dh (λr=>r) (xT (CL (tU (jw (aq 4 (zE (eO eS)) e Y3))) (aq 3 (zE eI) a Y3)) (xT (CL (tU (jw (aq 5 (zE (eO eS)) f Y3))) (aq 3 (zE eI) a Y3)) (BT () (Kr (M5 (jw (aq 4 (zE (eO eS)) e Y3)) Ag (Ah (aq 3 (zE eI) a Y3)))) (Kr (M5 (jw (aq 5 (zE (eO eS)) f Y3)) Ag (Ah (aq 3 (zE eI) a Y3))))))) (λ_=>Y3) λ_=>Y3)))))
theorem Cr:∀v bs,(aZ aU (aZ aU (aZ eS (aZ eI aN)))) v bs->bs.length=4/\(B5 (Z (iw v.1 v.2.1 v.2.2.1 v.2.2.2.1))->jP (bs.map BA)=Z ((zE eB) (iu v.1 v.2.1 v.2.2.1 v.2.2.2.1))):=by
 rintro⟨c,a,d,b,_⟩ _ ⟨_,rfl,⟨_,rfl,⟨_,rfl,⟨_,rfl,rfl⟩⟩⟩⟩;exact⟨rfl,λh=>dG (g:=jO) (n:=6) (bs:=[.z (aU c),.z (aU a),.z (eS d),.z (eI b)]) (Cq c a d b) h⟩
def jq(e:bG)(d:bG)(b:AJ):Bool:=(let a:=(bH e b);(let c:=(bH d b);(a.isSome&&(c.isSome&&(!decide (a=c))))))
def lq(b:bG)(c:bG)(a:AJ):Prop:=((fu b a)/\(let d:=(bH b a);(fu c a)))
theorem Gx(c:bG)(b:bG)(a:AJ):RP kO [Z (zE aU c),Z (zE aU b),Z (zE eS a),O,O] (λr=>An.rt (zE eB r)) (jq c b a) (Z (lq c b a)):=R.tp (cg 3 (AZ jd (bw (aq 0 (zE aU) c Y3) (bw (aq 2 (zE eS) a Y3) bA))) (λ_=>Y3) λd=>(cg 4 (AZ jd (bw (aq 1 (zE aU) b Y3) (bw (aq 2 (zE eS) a Y3) bA))) (λ_=>Y3) λe=>(dh (λr=>r) (xT (yR (aq 3 (zE (eO eS)) d Y3) λ_=>Y3) (xT (yR (aq 4 (zE (eO eS)) e Y3) λ_=>Y3) (GV () (aq 3 (zE (eO eS)) d Y3) (aq 4 (zE (eO eS)) e Y3)))) (λ_=>Y3) λ_=>Y3)))
theorem Gy:∀v bs,(aZ aU (aZ aU (aZ eS aN))) v bs->bs.length=3/\(B5 (Z (lq v.1 v.2.1 v.2.2.1))->kW (bs.map BA)=Z ((zE eB) (jq v.1 v.2.1 v.2.2.1))):=by
 rintro⟨b,a,c,_⟩ _ ⟨_,rfl,⟨_,rfl,⟨_,rfl,rfl⟩⟩⟩;exact⟨rfl,λh=>dG (g:=kO) (n:=5) (bs:=[.z (aU b),.z (aU a),.z (eS c)]) (Gx b a c) h⟩
def aM(a:Dt)(b:bG)(c:bG):Bool:=(if(tM (f9 a 0) (Dt.str "same"))=true then(dM b c (Ca (f9 a 1)))else(if(tM (f9 a 0) (Dt.str "begin"))=true then(iu b c (Ca (f9 a 1)) (O9 (f9 a 2)))else(if(tM (f9 a 0) (Dt.str "both"))=true then((dM b c (Ca (f9 a 1)))&&(dM b c (Ca (f9 a 2))))else(jq b c (Ca (f9 a 1))))))
def pU(a:Dt)(b:bG)(c:bG):Prop:=((Bv a (0:Int)/\MK (f9 a 0) (Dt.str "same"))/\(((tM (f9 a 0) (Dt.str "same"))=true->((Bv a (1:Int)/\(f9 a 1)=eS (Ca (f9 a 1)))/\(je b c (Ca (f9 a 1)))))/\((tM (f9 a 0) (Dt.str "same"))=false->((Bv a (0:Int)/\MK (f9 a 0) (Dt.str "begin"))/\(((tM (f9 a 0) (Dt.str "begin"))=true->(((Bv a (1:Int)/\(f9 a 1)=eS (Ca (f9 a 1)))/\(Bv a (2:Int)/\(f9 a 2)=eI (O9 (f9 a 2))))/\(iw b c (Ca (f9 a 1)) (O9 (f9 a 2)))))/\((tM (f9 a 0) (Dt.str "begin"))=false->((Bv a (0:Int)/\MK (f9 a 0) (Dt.str "both"))/\(((tM (f9 a 0) (Dt.str "both"))=true->(((Bv a (1:Int)/\(f9 a 1)=eS (Ca (f9 a 1)))/\(je b c (Ca (f9 a 1))))/\((dM b c (Ca (f9 a 1)))=true->((Bv a (2:Int)/\(f9 a 2)=eS (Ca (f9 a 2)))/\(je b c (Ca (f9 a 2)))))))/\((tM (f9 a 0) (Dt.str "both"))=false->((Bv a (1:Int)/\(f9 a 1)=eS (Ca (f9 a 1)))/\(lq b c (Ca (f9 a 1)))))))))))))
theorem Xe(a:Dt)(c:bG)(b:bG):RP yX [Z (zE eD a),Z (zE aU c),Z (zE aU b)] (λr=>An.rt (zE eB r)) (aM a c b) (Z (pU a c b)):=R.tp (j4 (fj (Dp (mH (aq 0 (zE eD) a Y3) (B9 0)) (Bn (.str "same")))) (cM (dh (λr=>r) (AZ qR (bw (aq 1 (zE aU) c Y3) (bw (aq 2 (zE aU) b Y3) (bw (oV (mH (aq 0 (zE eD) a Y3) (B9 1)) Ca eS) bA)))) (λ_=>Y3) λ_=>Y3)) (dB (j4 (fj (Dp (mH (aq 0 (zE eD) a Y3) (B9 0)) (Bn (.str "begin")))) (cM (dh (λr=>r) (AZ Cr (bw (aq 1 (zE aU) c Y3) (bw (aq 2 (zE aU) b Y3) (bw (oV (mH (aq 0 (zE eD) a Y3) (B9 1)) Ca eS) (bw (oV (mH (aq 0 (zE eD) a Y3) (B9 2)) O9 eI) bA))))) (λ_=>Y3) λ_=>Y3)) (dB (j4 (fj (Dp (mH (aq 0 (zE eD) a Y3) (B9 0)) (Bn (.str "both")))) (cM (dh (λr=>r) (xT (AZ qR (bw (aq 1 (zE aU) c Y3) (bw (aq 2 (zE aU) b Y3) (bw (oV (mH (aq 0 (zE eD) a Y3) (B9 1)) Ca eS) bA)))) (AZ qR (bw (aq 1 (zE aU) c Y3) (bw (aq 2 (zE aU) b Y3) (bw (oV (mH (aq 0 (zE eD) a Y3) (B9 2)) Ca eS) bA))))) (λ_=>Y3) λ_=>Y3)) (dB (dh (λr=>r) (AZ Gy (bw (aq 1 (zE aU) c Y3) (bw (aq 2 (zE aU) b Y3) (bw (oV (mH (aq 0 (zE eD) a Y3) (B9 1)) Ca eS) bA)))) (λ_=>Y3) λ_=>Y3)))))))
theorem Gz:∀v bs,(aZ eD (aZ aU (aZ aU aN))) v bs->bs.length=3/\(B5 (Z (pU v.1 v.2.1 v.2.2.1))->pD (bs.map BA)=Z ((zE eB) (aM v.1 v.2.1 v.2.2.1))):=by
 rintro⟨c,b,a,_⟩ _ ⟨_,rfl,⟨_,rfl,⟨_,rfl,rfl⟩⟩⟩;exact⟨rfl,λh=>dG (g:=yX) (n:=3) (bs:=[.z (eD c),.z (aU b),.z (aU a)]) (Xe c b a) h⟩
def fW(a:Y bG)(c:DB):(Y vI):=((xU a).flatMap λq1:ES=>((BE a (Z (q1.1+1)) O).flatMap λb:bG=>(((jz 0 c).filter λq2:Px=>(aM q2.2 q1.2 b)).map λq2:Px=>(q2.2,(q1.2.1,b.1,q2.1)))))
def rJ(a:Y bG)(c:DB):Prop:=((∀q1∈(xU a),(∀b∈(BE a (Z (q1.1+1)) O),(∀q2∈(jz 0 c),(pU q2.2 q1.2 b))))/\((xU a).flatMap λq1:ES=>((BE a (Z (q1.1+1)) O).flatMap λb:bG=>(((jz 0 c).filter λq2:Px=>(aM q2.2 q1.2 b)).map λq2:Px=>(q2.2,(q1.2.1,b.1,q2.1))))).length<=100000)
theorem PK(a:Y bG)(c:Lp jT (a.map aU))(b:DB):RP rD [Z jT,Z ((zE (eT eD)) b)] (λr=>An.rt (oE Xc r)) (fW a b) (Z (rJ a b)):=R.tp (dh (λr=>r) (WL (LV (WD (jZ 0 aU a c Y3)) _ (λ_=>Y3) (λq1:ES=>(II (GB (GT (jZ 0 aU a c (congrArg Z (c.get Y3))) (Ah (jy (aq 2 (zE eI) q1.1 Y3) (B9 1))) Ag)) _ (λ_=>Y3) (λd:bG=>(NI (NO (aq 1 (zE (eT eD)) b Y3)) _ (λ_=>Y3) (λq2:Px=>(Iv (AZ Gz (bw (aq 6 (zE eD) q2.2 Y3) (bw (aq 3 (zE aU) q1.2 Y3) (bw (aq 4 (zE aU) d Y3) bA)))))) (λq2:Px=>(tO (aq 6 (zE eD) q2.2 Y3) (FT (lN (aq 3 (zE aU) q1.2 Y3) (λq=>q.1) eS 0 λ_=>Y3) (lN (aq 4 (zE aU) d Y3) (λq=>q.1) eS 0 λ_=>Y3) (aq 5 (zE eI) q2.1 Y3)))))))))) (λ_=>Y3) λ_=>Y3)
theorem PL:∀v bs,(aL aU (aZ (eT eD) aN)) v bs->bs.length=2/\(B5 (Z (rJ v.1 v.2.1))->rE (bs.map BA)=Z ((oE Xc) (fW v.1 v.2.1))):=by
 rintro⟨b,a,_⟩ _ ⟨jT,_,rfl,c,⟨_,rfl,rfl⟩⟩;exact⟨rfl,λh=>dG (g:=rD) (n:=2) (bs:=[BA jT,.z (eT eD a)]) (PK b (Ab c) a) h⟩
def gD(a:iD):iD:=(let q1:=a;((-q1.1),q1.2.1,q1.2.2.1,q1.2.2.2))
theorem K7(a:iD):RP pF [Z (zE iG a),O,O,O,O] (λr=>An.rt (zE iG r)) (gD a) O:=R.tp (M6 (aq 0 (zE iG) a Y3) _ (λ_=>Y3) λq1=>(dh (λr=>r) (FW (R8 (aq 1 (zE eI) q1.1 Y3)) (aq 2 (zE eS) q1.2.1 Y3) (aq 3 (zE eS) q1.2.2.1 Y3) (aq 4 (zE eI) q1.2.2.2 Y3)) (λ_=>Y3) λ_=>Y3))
theorem K8:∀v bs,(aZ iG aN) v bs->bs.length=1/\(B5 (O)->pG (bs.map BA)=Z ((zE iG) (gD v.1))):=by
 rintro⟨a,_⟩ _ ⟨_,rfl,rfl⟩;exact⟨rfl,λh=>dG (g:=pF) (n:=5) (bs:=[.z (iG a)]) (K7 a) h⟩
def jL(a:Y iD):(Y iD):=(qd iG (λx:iD=>gD x) a)
def pW(a:Y iD):Prop:=((∀x∈a,True)/\a.length<=100000/\∀x∈a,∀y∈a,gD x=gD y->x=y)
theorem K9(a:Y iD)(b:Lp jT (a.map iG)):RP pH [Z jT] (λr=>An.rt (oE iG r)) (jL a) (Z (pW a)):=R.tp (dh (λr=>r) (TQ (e':=iG) K8 (IJ (jZ 0 iG a b Y3))) (λ_=>Y3) λ_=>Y3)
theorem La:∀v bs,(aL iG aN) v bs->bs.length=1/\(B5 (Z (pW v.1))->pI (bs.map BA)=Z ((oE iG) (jL v.1))):=by
 rintro⟨a,_⟩ _ ⟨jT,_,rfl,b,rfl⟩;exact⟨rfl,λh=>dG (g:=pH) (n:=1) (bs:=[BA jT]) (K9 a (Ab b)) h⟩
def aD(c:Y bG)(d:DB):Yh:=(let b:=(qd eS (λvx:bG=>vx.1) c);(let a:=(fW b d);(let e:=((a.filter λq1:vI=>(!tM (f9 q1.1 0) (Dt.str "never"))).map λq1:vI=>((O9 (f9 q1.1 (-(1:Int)))),q1.2.1,q1.2.2.1,q1.2.2.2));(let g:=((a.filter λq2:vI=>(tM (f9 q2.1 0) (Dt.str "never"))).map λq2:vI=>q2.2);((b.map λf:bG=>f.1),(jL e),(gk dI g))))))
def dN(b:Y bG)(d:DB):Prop:=(((∀vx∈b,True)/\b.length<=100000/\(b.map λvx:bG=>vx.1).Nodup)/\(let c:=(qd eS (λvx:bG=>vx.1) b);((rJ c d)/\(let a:=(fW c d);((a.length<=100000/\(∀q1∈a,((Bv q1.1 (0:Int)/\MK (f9 q1.1 0) (Dt.str "never"))/\((!tM (f9 q1.1 0) (Dt.str "never"))=true->(Bv q1.1 (-(1:Int))/\(f9 q1.1 (-(1:Int)))=eI (O9 (f9 q1.1 (-(1:Int)))))))))/\(let e:=((a.filter λq1:vI=>(!tM (f9 q1.1 0) (Dt.str "never"))).map λq1:vI=>((O9 (f9 q1.1 (-(1:Int)))),q1.2.1,q1.2.2.1,q1.2.2.2));((a.length<=100000/\(∀q2∈a,(Bv q2.1 (0:Int)/\MK (f9 q2.1 0) (Dt.str "never"))))/\(let f:=((a.filter λq2:vI=>(tM (f9 q2.1 0) (Dt.str "never"))).map λq2:vI=>q2.2);(c.length<=100000/\((pW e)/\f.length<=100000))))))))))
theorem JC(a:Y bG)(b:DB):RP mR [Z ((zE (eT aU)) a),Z ((zE (eT eD)) b),O,O,O,O] (λr=>An.rt (zE Yi r)) (aD a b) (Z (dN a b)):=R.tp (cg 2 (TV (e':=eS) (IA (aq 0 (zE (eT aU)) a Y3)) (λvx:bG=>(lN (aq 0 (zE aU) vx Y3) (λq=>q.1) eS 0 λ_=>Y3))) (λ_=>Y3) λd=>(cg 3 (AZ PL (IW (jt (aq 2 (lE aU) d Y3)) (bw (aq 1 (zE (eT eD)) b Y3) bA))) (λ_=>Y3) λc=>(cg 4 (q9 (Cd (jt (aq 3 (lE Xc) c Y3))) _ (λ_=>Y3) (λq1:vI=>(fj (NU (mH (aq 0 (zE eD) q1.1 Y3) (B9 0)) (Bn (.str "never"))))) (λq1:vI=>(jx (OH (e3:=iG) (HI (oV (mH (aq 0 (zE eD) q1.1 Y3) (R8 (B9 1))) O9 eI)) (aq 1 (zE dI) q1.2 Y3) (λx y=>(x,y.1,y.2.1,y.2.2)) λ_ _=>Y3)))) (λ_=>Y3) λe=>(cg 5 (q9 (Cd (jt (aq 3 (lE Xc) c Y3))) _ (λ_=>Y3) (λq2:vI=>(fj (Dp (mH (aq 0 (zE eD) q2.1 Y3) (B9 0)) (Bn (.str "never"))))) (λq2:vI=>(aq 1 (zE dI) q2.2 Y3))) (λ_=>Y3) λg=>(dh (λr=>r) (FT (u5 (jk (yS (Cd (jt (aq 2 (lE aU) d Y3))) _ (λ_=>Y3) (λf:bG=>(lN (aq 0 (zE aU) f Y3) (λq=>q.1) eS 0 λ_=>Y3)) λ_=>Y3))) (u5 (jk (AZ La (IW (jt (aq 4 (lE iG) e Y3)) bA)))) (u5 (jk (wN (jt (aq 5 (lE dI) g Y3)))))) (λ_=>Y3) λ_=>Y3)))))
theorem j6:∀v bs,(aZ (eT aU) (aZ (eT eD) aN)) v bs->bs.length=2/\(B5 (Z (dN v.1 v.2.1))->d9 (bs.map BA)=Z ((zE Yi) (aD v.1 v.2.1))):=by
 rintro⟨a,b,_⟩ _ ⟨_,rfl,⟨_,rfl,rfl⟩⟩;exact⟨rfl,λh=>dG (g:=mR) (n:=6) (bs:=[.z (eT aU a),.z (eT eD b)]) (JC a b) h⟩
def aG(d:Y bG)(b:Dt):(S (Y bF)):=(let q1:=(aD d [b]);(if(tM (f9 b 0) (Dt.str "never"))=true then(Z (gk aV ((q1.2.2.map λc:mC=>(c.1,c.2.1))++(q1.2.1.map λa:iD=>(a.2.1,a.2.2.1)))))else(if((!decide (q1.2.2=([]:Y mC)))||(!((q1.2.1.map λa:iD=>((tM (eI a.1) (f9 b (-(1:Int))))&&(decide (a.2.2.2=0)))).all id)))=true then O else(Z (gk aV (q1.2.1.map λa:iD=>(a.2.1,a.2.2.1)))))))
def bV(d:Y bG)(b:Dt):Prop:=((dN d [b])/\(let q1:=(aD d [b]);((Bv b (0:Int)/\MK (f9 b 0) (Dt.str "never"))/\(((tM (f9 b 0) (Dt.str "never"))=true->(((q1.2.2.length<=100000/\q1.2.1.length<=100000)/\BZ ((q1.2.2.map λc:mC=>(c.1,c.2.1)).length+(q1.2.1.map λa:iD=>(a.2.1,a.2.2.1)).length))/\((q1.2.2.map λc:mC=>(c.1,c.2.1))++(q1.2.1.map λa:iD=>(a.2.1,a.2.2.1))).length<=100000))/\((tM (f9 b 0) (Dt.str "never"))=false->(((!decide (q1.2.2=([]:Y mC)))=false->(q1.2.1.length<=100000/\(∀a∈q1.2.1,(Bv b (-(1:Int))/\MK (eI a.1) (f9 b (-(1:Int)))))))/\(((!decide (q1.2.2=([]:Y mC)))||(!((q1.2.1.map λa:iD=>((tM (eI a.1) (f9 b (-(1:Int))))&&(decide (a.2.2.2=0)))).all id)))=false->(q1.2.1.length<=100000/\(q1.2.1.map λa:iD=>(a.2.1,a.2.2.1)).length<=100000))))))))
theorem JD(c:Y bG)(b:Dt):RP mU [Z ((zE (eT aU)) c),Z (zE eD b),O,O,O] (λr=>An.rt (qE aV r)) (aG c b) (Z (bV c b)):=R.tp (M6 (AZ j6 (bw (aq 0 (zE (eT aU)) c Y3) (bw (HR (aK (aq 1 (zE eD) b Y3) (dU eD)) (zD Y3)) bA))) _ (λ_=>Y3) λq1=>(j4 (fj (Dp (mH (aq 1 (zE eD) b Y3) (B9 0)) (Bn (.str "never")))) (cM (dh (λr=>r) (vC (wN (jk (Ku (jk (yS (Ga (aq 4 (zE (eT dI)) q1.2.2 Y3)) _ (λ_=>Y3) (λd:mC=>(jx (IV (aq 0 (zE dI) d Y3) (λq=>(q.1,q.2.1)) aV O (Z 2) Y3 Y3 λ_=>Y3))) λ_=>Y3)) (jk (yS (Ga (aq 3 (zE (eT iG)) q1.2.1 Y3)) _ (λ_=>Y3) (λa:iD=>(jx (IV (aq 0 (zE iG) a Y3) (λq=>(q.2.1,q.2.2.1)) aV (Z 1) (Z 3) Y3 Y3 λ_=>Y3))) λ_=>Y3)))))) (λ_=>Y3) (λv=>by cases v<;>rfl))) (dB (j4 (O8 (fj (GV () (aq 4 (zE (eT dI)) q1.2.2 Y3) (HZ dI))) (Af (Iv (IK (jk (oW (Ga (aq 3 (zE (eT iG)) q1.2.1 Y3)) _ (λ_=>Y3) (λa:iD=>(xT (Dp (gC (lN (aq 1 (zE iG) a Y3) (λq=>q.1) eI 0 λ_=>Y3)) (mH (aq 0 (zE eD) b Y3) (R8 (B9 1)))) (BT () (lN (aq 1 (zE iG) a Y3) (λq=>q.2.2.2) eI 3 λ_=>Y3) (B9 0)))))))))) (cM (dh (λr=>r) (WM (e:=aV)) (λ_=>Y3) (λv=>by cases v<;>rfl))) (dB (dh (λr=>r) (vC (wN (jk (yS (Ga (aq 3 (zE (eT iG)) q1.2.1 Y3)) _ (λ_=>Y3) (λa:iD=>(jx (IV (aq 0 (zE iG) a Y3) (λq=>(q.2.1,q.2.2.1)) aV (Z 1) (Z 3) Y3 Y3 λ_=>Y3))) λ_=>Y3)))) (λ_=>Y3) (λv=>by cases v<;>rfl)))))))
theorem cR:∀v bs,(aZ (eT aU) (aZ eD aN)) v bs->bs.length=2/\(B5 (Z (bV v.1 v.2.1))->bQ (bs.map BA)=Z ((qE aV) (aG v.1 v.2.1))):=by
 rintro⟨b,a,_⟩ _ ⟨_,rfl,⟨_,rfl,rfl⟩⟩;exact⟨rfl,λh=>dG (g:=mU) (n:=5) (bs:=[.z (eT aU b),.z (eD a)]) (JD b a) h⟩
def bB(i:Y bG)(g:AJ)(h:Int)(c:(Y (AJ×(S AJ))))(vs:(S (Y bF)))(d:(S (Y bF)))(e:Int):oh ((S (Y bF))) Bool:=(let b:=(aG i (Dt.tup [(Dt.str "begin"),(eS g),(eI e),(eI h)]));(if(b.isNone||(!(((b.getD default).map λa:bF=>(kE a (d.getD default))).all id)))=true then(oh.rt false)else(let f:=(((vs.getD default).filter λa:bF=>(decide (e<=(((look c a.1).getD default).length:Int)))).map λa:bF=>a);(if(!((f.map λa:bF=>(kE a (b.getD default))).all id))=true then(oh.rt false)else(if(!(((b.getD default).map λa:bF=>(decide (e<=(if(((look c a.2).getD default).length:Int)<(((look c a.1).getD default).length:Int)then(((look c a.2).getD default).length:Int)else(((look c a.1).getD default).length:Int))))).all id))=true then(oh.rt false)else(let d:=b;(oh.nx d)))))))
def cL(i:Y bG)(g:AJ)(h:Int)(c:(Y (AJ×(S AJ))))(vs:(S (Y bF)))(f:(S (Y bF)))(e:Int):Prop:=((bV i (Dt.tup [(Dt.str "begin"),(eS g),(eI e),(eI h)]))/\(let b:=(aG i (Dt.tup [(Dt.str "begin"),(eS g),(eI e),(eI h)]));((b.isNone=false->((b.isSome=true/\(b.getD default).length<=100000)/\(∀a∈(b.getD default),f.isSome=true)))/\((b.isNone||(!(((b.getD default).map λa:bF=>(kE a (f.getD default))).all id)))=false->(((vs.isSome=true/\(vs.getD default).length<=100000)/\(∀a∈(vs.getD default),(has c a.1=true/\(look c a.1).isSome=true)))/\(let d:=(((vs.getD default).filter λa:bF=>(decide (e<=(((look c a.1).getD default).length:Int)))).map λa:bF=>a);((d.length<=100000/\(∀a∈d,b.isSome=true))/\((!((d.map λa:bF=>(kE a (b.getD default))).all id))=false->((b.isSome=true/\(b.getD default).length<=100000)/\(∀a∈(b.getD default),((has c a.1=true/\(look c a.1).isSome=true)/\(has c a.2=true/\(look c a.2).isSome=true))))))))))))
theorem ql(h:Y bG)(f:AJ)(g:Int)(c:(Y (AJ×(S AJ))))(vs:(S (Y bF)))(b:(S (Y bF)))(d:Int):RP jA [Z ((zE (eT aU)) h),Z (zE eS f),Z (zE eI g),Z ((mE (eO eS)) c),Z ((zE (eO (eL aV))) vs),Z ((zE (eO (eL aV))) b),Z (zE eI d),O,O] (cC (λb:(S (Y bF))=>[Z ((zE (eT aU)) h),Z (zE eS f),Z (zE eI g),Z ((mE (eO eS)) c),Z ((zE (eO (eL aV))) vs),Z ((zE (eO (eL aV))) b),O,O,O]) (zE eB)) (bB h f g c vs b d) (Z (cL h f g c vs b d)):=R.tp (cM (cg 7 (Jf (AZ cR (bw (aq 0 (zE (eT aU)) h Y3) (bw (lM (aK (Bn (.str "begin")) (aK (gC (aq 1 (zE eS) f Y3)) (aK (gC (aq 6 (zE eI) d Y3)) (aK (gC (aq 2 (zE eI) g Y3)) (dU eD))))) (zD Y3)) bA)))) (λ_=>Y3) λe=>(cM (j4 (O8 (fj (R9 (aq 7 (zE (eO (eL aV))) e Y3) λ_=>Y3)) (Af (Iv (IK (jk (oW (Cd (Aa (jw (aq 7 (zE (eO (eL aV))) e Y3)))) _ (λ_=>Y3) (λa:bF=>(M8 () (aq 1 (zE aV) a Y3) (Aa (jw (aq 0 (zE (eO (eL aV))) b Y3))))))))))) (cM (dh .rt (qb (.bl false) eB false Y3) (λ_=>Y3) λ_=>Y3)) (dB (cM (cg 8 (q9 (Cd (Aa (jw (aq 4 (zE (eO (eL aV))) vs Y3)))) _ (λ_=>Y3) (λa:bF=>(fj (CL (tU (jw (Gf (aq 1 (nE (eO eS)) c Y3) (lN (aq 2 (zE aV) a Y3) (λq=>q.1) eS 0 λ_=>Y3)))) (aq 0 (zE eI) d Y3)))) (λa:bF=>(aq 2 (zE aV) a Y3))) (λ_=>Y3) λi=>(cM (j4 (Af (Iv (IK (jk (oW (Cd (jt (aq 8 (lE aV) i Y3))) _ (λ_=>Y3) (λa:bF=>(M8 () (aq 1 (zE aV) a Y3) (Aa (jw (aq 0 (zE (eO (eL aV))) e Y3)))))))))) (cM (dh .rt (qb (.bl false) eB false Y3) (λ_=>Y3) λ_=>Y3)) (dB (cM (j4 (Af (Iv (IK (jk (oW (Cd (Aa (jw (aq 7 (zE (eO (eL aV))) e Y3)))) _ (λ_=>Y3) (λa:bF=>(CL (Nd (tU (jw (Gf (aq 1 (nE (eO eS)) c Y3) (lN (aq 2 (zE aV) a Y3) (λq=>q.1) eS 0 λ_=>Y3)))) (tU (jw (Gf (aq 1 (nE (eO eS)) c Y3) (lN (aq 2 (zE aV) a Y3) (λq=>q.2) eS 1 λ_=>Y3))))) (aq 0 (zE eI) d Y3)))))))) (cM (dh .rt (qb (.bl false) eB false Y3) (λ_=>Y3) λ_=>Y3)) (dB (cM (cg 5 (aq 7 (zE (eO (eL aV))) e Y3) (λ_=>Y3) λb=>(dB (eV (.nx b) Y3)))))))))))))))))
def cP(b:Y bG)(a:AJ)(d:Int):Bool:=(let g:=(X6 (b.map λf:bG=>(f.1,(bH f a))));(let vs:=(aG b (Dt.tup [(Dt.str "same"),(eS a),(eI d)]));(let c:=(aG b (Dt.tup [(Dt.str "begin"),(eS a),(Dt.int 1),(eI d)]));(C3 (ju (λ(c:(S (Y bF))) (h:Int)=>((bB b a d g vs c h):oh ((S (Y bF))) Bool)) (rng 1 ((6:Int)-1).toNat) c) (λr=>r) λc:(S (Y bF))=>(decide ((aG b (Dt.tup [(Dt.str "begin"),(eS a),(Dt.int 12),(eI d)]))=(Z (((vs.getD default).filter λe:bF=>(decide ((((look g e.1).getD default).length:Int)=12))).map λe:bF=>e))))))))
def dY(a:Y bG)(b:AJ)(d:Int):Prop:=(((a.length<=100000/\(∀e∈a,(fu e b)))/\(a.map λe:bG=>(e.1,(bH e b))).length<=1000)/\(let g:=(X6 (a.map λe:bG=>(e.1,(bH e b))));((bV a (Dt.tup [(Dt.str "same"),(eS b),(eI d)]))/\(let vs:=(aG a (Dt.tup [(Dt.str "same"),(eS b),(eI d)]));((bV a (Dt.tup [(Dt.str "begin"),(eS b),(Dt.int 1),(eI d)]))/\(let c:=(aG a (Dt.tup [(Dt.str "begin"),(eS b),(Dt.int 1),(eI d)]));(((Rg (1:Int)/\Rg 6)/\nT (λ(c:(S (Y bF))) (f:Int)=>((bB a b d g vs c f):oh ((S (Y bF))) Bool)) (λ(c:(S (Y bF))) (f:Int)=>Z (cL a b d g vs c f)) (rng 1 ((6:Int)-1).toNat) c)/\(yU (ju (λ(c:(S (Y bF))) (f:Int)=>((bB a b d g vs c f):oh ((S (Y bF))) Bool)) (rng 1 ((6:Int)-1).toNat) c) λc:(S (Y bF))=>((bV a (Dt.tup [(Dt.str "begin"),(eS b),(Dt.int 12),(eI d)]))/\((vs.isSome=true/\(vs.getD default).length<=100000)/\(∀h∈(vs.getD default),(has g h.1=true/\(look g h.1).isSome=true))))))))))))
theorem uo(b:Y bG)(a:AJ)(c:Int):RP fM [Z ((zE (eT aU)) b),Z (zE eS a),Z (zE eI c),O,O,O,O,O,O] (λr=>An.rt (zE eB r)) (cP b a c) (Z (dY b a c)):=R.tp (cg 3 (Xa (jk (oW (Ga (aq 0 (zE (eT aU)) b Y3)) _ (λ_=>Y3) (λh:bG=>(tO (lN (aq 1 (zE aU) h Y3) (λq=>q.1) eS 0 λ_=>Y3) (jx (AZ jd (bw (aq 1 (zE aU) h Y3) (bw (aq 0 (zE eS) a Y3) bA))))))))) (λ_=>Y3) λf=>(cg 4 (Jf (AZ cR (bw (aq 0 (zE (eT aU)) b Y3) (bw (lM (aK (Bn (.str "same")) (aK (gC (aq 1 (zE eS) a Y3)) (aK (gC (aq 2 (zE eI) c Y3)) (dU eD)))) (zD Y3)) bA)))) (λ_=>Y3) λvs=>(cg 5 (Jf (AZ cR (bw (aq 0 (zE (eT aU)) b Y3) (bw (lM (aK (Bn (.str "begin")) (aK (gC (aq 1 (zE eS) a Y3)) (aK (Bn (.int 1)) (aK (gC (aq 2 (zE eI) c Y3)) (dU eD))))) (zD Y3)) bA)))) (λ_=>Y3) λd=>(Kw (λd:(S (Y bF))=>[Z ((zE (eT aU)) b),Z (zE eS a),Z (zE eI c),Z ((mE (eO eS)) f),Z ((zE (eO (eL aV))) vs),Z ((zE (eO (eL aV))) d),O,O,O]) d Y3 (K' (B9 1) (B9 6)) _ (λ_ _=>Y3) (λ(d:(S (Y bF))) (i:Int)=>((ql b a c f vs d i).r:R _ _ (cC (λd:(S (Y bF))=>[Z ((zE (eT aU)) b),Z (zE eS a),Z (zE eI c),Z ((mE (eO eS)) f),Z ((zE (eO (eL aV))) vs),Z ((zE (eO (eL aV))) d),O,O,O]) (zE eB)))) (λr=>r) (λ_=>Y3) λd=>(dh (λr=>r) (OE (e:=aV) () (AZ cR (bw (aq 0 (zE (eT aU)) b Y3) (bw (lM (aK (Bn (.str "begin")) (aK (gC (aq 1 (zE eS) a Y3)) (aK (Bn (.int 12)) (aK (gC (aq 2 (zE eI) c Y3)) (dU eD))))) (zD Y3)) bA))) (vC (q9 (Cd (Aa (jw (aq 4 (zE (eO (eL aV))) vs Y3)))) _ (λ_=>Y3) (λg:bF=>(fj (BT () (tU (jw (Gf (aq 0 (nE (eO eS)) f Y3) (lN (aq 1 (zE aV) g Y3) (λq=>q.1) eS 0 λ_=>Y3)))) (B9 12)))) (λg:bF=>(aq 1 (zE aV) g Y3))))) (λ_=>Y3) λ_=>Y3)))))
theorem uq:∀v bs,(aZ (eT aU) (aZ eS (aZ eI aN))) v bs->bs.length=3/\(B5 (Z (dY v.1 v.2.1 v.2.2.1))->fO (bs.map BA)=Z ((zE eB) (cP v.1 v.2.1 v.2.2.1))):=by
 rintro⟨c,a,b,_⟩ _ ⟨_,rfl,⟨_,rfl,⟨_,rfl,rfl⟩⟩⟩;exact⟨rfl,λh=>dG (g:=fM) (n:=9) (bs:=[.z (eT aU c),.z (eS a),.z (eI b)]) (uo c a b) h⟩
def bJ(c:Au)(a:Y bF)(b:Int):(Y bF):=(let a:=a++((rng 0 b.toNat).map λd:Int=>((As c d),(As c b)));a)
def eY(b:Au)(d:Y bF)(a:Int):Prop:=(((Rg a/\(rng 0 a.toNat).length<=100000)/\(∀c∈(rng 0 a.toNat),(In b.length c/\In b.length a)))/\BZ (d.length+((rng 0 a.toNat).map λc:Int=>((As b c),(As b a))).length))
theorem rW(e:Y bG)(h:AJ)(d:AJ)(i:Int)(j:(S (Y bF)))(f:(S (Y bF)))(g:(S (Y bF)))(b:Au)(a:Y bF)(c:Int):RP j9 [Z ((zE (eT aU)) e),Z (zE eS h),Z (zE eS d),Z (zE eI i),Z ((zE (eO (eL aV))) j),Z ((zE (eO (eL aV))) f),Z (qE aV g),Z (oE eS b),Z (oE aV a),Z (zE eI c),O] (λs=>An.nx ((λa:(Y bF)=>[Z ((zE (eT aU)) e),Z (zE eS h),Z (zE eS d),Z (zE eI i),Z ((zE (eO (eL aV))) j),Z ((zE (eO (eL aV))) f),Z (qE aV g),Z (oE eS b),Z (oE aV a),O,O]) s)) (bJ b a c) (Z (eY b a c)):=R.tp (cM (HM 8 a Y3 (oW (Ai (aq 9 (zE eI) c Y3)) _ (λ_=>Y3) (λk:Int=>(tO (j8 (jt (aq 0 (lE eS) b Y3)) (aq 2 (zE eI) k Y3)) (j8 (jt (aq 0 (lE eS) b Y3)) (aq 1 (zE eI) c Y3))))) λa=>(dB (eV a Y3))))
def dO(a:Y bG)(c:AJ)(e:AJ)(g:Int):Bool:=(let q1:=((aG a (Dt.tup [(Dt.str "same"),(eS c),(eI g)])),(aG a (Dt.tup [(Dt.str "same"),(eS e),(eI g)])));(let h:=(aG a (Dt.tup [(Dt.str "both"),(eS c),(eS e),(eI g)]));(if((!decide (h=(Z (((q1.1.getD default).filter λd:bF=>(kE d (q1.2.getD default))).map λd:bF=>d))))||(!decide ((aG a (Dt.tup [(Dt.str "both"),(eS e),(eS c),(Dt.int 1)]))=h)))=true then false else(let i:=(xO ((a.filter λf:bG=>(bH f c).isSome).map λf:bG=>f.1));(let b:=([]:Y bF);(let b:(Y bF):=((rng 0 (i.length:Int).toNat).foldl (λ(b:Y bF) (k:Int)=>(bJ i b k)) b);(let j:=(aG a (Dt.tup [(Dt.str "never"),(eS c)]));((decide ((gk aV b)=(gk aV ((q1.1.getD default)++(j.getD [])))))&&(!(((j.getD []).map λd:bF=>(kE d (q1.1.getD default))).any id))))))))))
def fB(a:Y bG)(c:AJ)(g:AJ)(h:Int):Prop:=(((bV a (Dt.tup [(Dt.str "same"),(eS c),(eI h)]))/\(bV a (Dt.tup [(Dt.str "same"),(eS g),(eI h)])))/\(let q1:=((aG a (Dt.tup [(Dt.str "same"),(eS c),(eI h)])),(aG a (Dt.tup [(Dt.str "same"),(eS g),(eI h)])));((bV a (Dt.tup [(Dt.str "both"),(eS c),(eS g),(eI h)]))/\(let k:=(aG a (Dt.tup [(Dt.str "both"),(eS c),(eS g),(eI h)]));((((q1.1.isSome=true/\(q1.1.getD default).length<=100000)/\(∀e∈(q1.1.getD default),q1.2.isSome=true))/\((!decide (k=(Z (((q1.1.getD default).filter λe:bF=>(kE e (q1.2.getD default))).map λe:bF=>e))))=false->(bV a (Dt.tup [(Dt.str "both"),(eS g),(eS c),(Dt.int 1)]))))/\(((!decide (k=(Z (((q1.1.getD default).filter λe:bF=>(kE e (q1.2.getD default))).map λe:bF=>e))))||(!decide ((aG a (Dt.tup [(Dt.str "both"),(eS g),(eS c),(Dt.int 1)]))=k)))=false->(((a.length<=100000/\(∀d∈a,(fu d c)))/\((a.filter λd:bG=>(bH d c).isSome).map λd:bG=>d.1).length<64)/\(let i:=(xO ((a.filter λd:bG=>(bH d c).isSome).map λd:bG=>d.1));(let b:=([]:Y bF);((Rg (i.length:Int)/\wG (λ(b:Y bF) (j:Int)=>(bJ i b j)) (λ(b:Y bF) (j:Int)=>Z (eY i b j)) (rng 0 (i.length:Int).toNat) b)/\(let b:(Y bF):=((rng 0 (i.length:Int).toNat).foldl (λ(b:Y bF) (j:Int)=>(bJ i b j)) b);((bV a (Dt.tup [(Dt.str "never"),(eS c)]))/\(let f:=(aG a (Dt.tup [(Dt.str "never"),(eS c)]));((b.length<=100000/\(((q1.1.isSome=true/\f.isSome=true)/\BZ ((q1.1.getD default).length+(f.getD []).length))/\((q1.1.getD default)++(f.getD [])).length<=100000))/\((decide ((gk aV b)=(gk aV ((q1.1.getD default)++(f.getD [])))))=true->((f.isSome=true/\(f.getD []).length<=100000)/\(∀e∈(f.getD []),q1.1.isSome=true)))))))))))))))))
theorem wY(a:Y bG)(b:AJ)(c:AJ)(d:Int):RP gJ [Z ((zE (eT aU)) a),Z (zE eS b),Z (zE eS c),Z (zE eI d),O,O,O,O,O,O,O] (λr=>An.rt (zE eB r)) (dO a b c d) (Z (fB a b c d)):=R.tp (M6 (tO (Jf (AZ cR (bw (aq 0 (zE (eT aU)) a Y3) (bw (lM (aK (Bn (.str "same")) (aK (gC (aq 1 (zE eS) b Y3)) (aK (gC (aq 3 (zE eI) d Y3)) (dU eD)))) (zD Y3)) bA)))) (Jf (AZ cR (bw (aq 0 (zE (eT aU)) a Y3) (bw (lM (aK (Bn (.str "same")) (aK (gC (aq 2 (zE eS) c Y3)) (aK (gC (aq 3 (zE eI) d Y3)) (dU eD)))) (zD Y3)) bA))))) _ (λ_=>Y3) λq1=>(cg 6 (AZ cR (bw (aq 0 (zE (eT aU)) a Y3) (bw (lM (aK (Bn (.str "both")) (aK (gC (aq 1 (zE eS) b Y3)) (aK (gC (aq 2 (zE eS) c Y3)) (aK (gC (aq 3 (zE eI) d Y3)) (dU eD))))) (zD Y3)) bA))) (λv=>by cases v<;>rfl) λh=>(j4 (O8 (fj (Ng (e:=aV) () (Gi 6 aV h Y3) (vC (q9 (Cd (Aa (jw (aq 4 (zE (eO (eL aV))) q1.1 Y3)))) _ (λ_=>Y3) (λg:bF=>(fj (M8 () (aq 1 (zE aV) g Y3) (Aa (jw (aq 0 (zE (eO (eL aV))) q1.2 Y3)))))) (λg:bF=>(aq 1 (zE aV) g Y3)))))) (fj (Ng (e:=aV) () (AZ cR (bw (aq 0 (zE (eT aU)) a Y3) (bw (lM (aK (Bn (.str "both")) (aK (gC (aq 2 (zE eS) c Y3)) (aK (gC (aq 1 (zE eS) b Y3)) (aK (Bn (.int 1)) (dU eD))))) (zD Y3)) bA))) (Gi 6 aV h Y3)))) (cM (dh (λr=>r) (qb (.bl false) eB false Y3) (λ_=>Y3) λ_=>Y3)) (dB (cg 7 (Ww (jk (q9 (Ga (aq 0 (zE (eT aU)) a Y3)) _ (λ_=>Y3) (λi:bG=>(fj (yR (AZ jd (bw (aq 1 (zE aU) i Y3) (bw (aq 0 (zE eS) b Y3) bA))) λ_=>Y3))) (λi:bG=>(lN (aq 1 (zE aU) i Y3) (λq=>q.1) eS 0 λ_=>Y3))))) (λ_=>Y3) λj=>(cg 8 (qM (dU aV) (zD Y3)) (λ_=>Y3) λf=>(Dq (λf:(Y bF)=>[Z ((zE (eT aU)) a),Z (zE eS b),Z (zE eS c),Z (zE eI d),Z ((zE (eO (eL aV))) q1.1),Z ((zE (eO (eL aV))) q1.2),Z (qE aV h),Z (oE eS j),Z (oE aV f),O,O]) f Y3 (Ai (Co (jt (aq 7 (lE eS) j Y3)))) _ (λ_ _=>Y3) (λ(f:Y bF) (l:Int)=>(rW a b c d q1.1 q1.2 h j f l).r) λf=>(cg 10 (AZ cR (bw (aq 0 (zE (eT aU)) a Y3) (bw (lM (aK (Bn (.str "never")) (aK (gC (aq 1 (zE eS) b Y3)) (dU eD))) (zD Y3)) bA))) (λv=>by cases v<;>rfl) λk=>(dh (λr=>r) (xT (IY () (jk (wN (jt (aq 8 (lE aV) f Y3)))) (jk (wN (jk (Ku (Aa (jw (aq 4 (zE (eO (eL aV))) q1.1 Y3))) (jt (X7 (Gi 10 aV k Y3)))))))) (Lu (N2 (jk (oW (Cd (jt (X7 (Gi 10 aV k Y3)))) _ (λ_=>Y3) (λg:bF=>(M8 () (aq 1 (zE aV) g Y3) (Aa (jw (aq 0 (zE (eO (eL aV))) q1.1 Y3)))))))))) (λ_=>Y3) λ_=>Y3)))))))))
theorem wZ:∀v bs,(aZ (eT aU) (aZ eS (aZ eS (aZ eI aN)))) v bs->bs.length=4/\(B5 (Z (fB v.1 v.2.1 v.2.2.1 v.2.2.2.1))->gK (bs.map BA)=Z ((zE eB) (dO v.1 v.2.1 v.2.2.1 v.2.2.2.1))):=by
 rintro⟨d,a,b,c,_⟩ _ ⟨_,rfl,⟨_,rfl,⟨_,rfl,⟨_,rfl,rfl⟩⟩⟩⟩;exact⟨rfl,λh=>dG (g:=gJ) (n:=11) (bs:=[.z (eT aU d),.z (eS a),.z (eS b),.z (eI c)]) (wY d a b c) h⟩
def jr(e:Y bG)(a:Xd)(val:Y iD)(h:Y mC)(i:Unit)(b:Int):oh (Unit) Bool:=(let g:=(((val.filter λd:iD=>(decide (d.2.2.2=b))).map λd:iD=>(d.2.1,d.2.2.1))++((h.filter λc:mC=>(decide (c.2.2=b))).map λc:mC=>(c.1,c.2.1)));(if(!decide ((Z (gk aV g))=(aG e (As [dI a.1,iH a.2.1,aV a.2.2.1,iI a.2.2.2] b))))=true then(oh.rt false)else(if(!((e.map λf:bG=>(decide ((aM (As [dI a.1,iH a.2.1,aV a.2.2.1,iI a.2.2.2] b) (As e 0) f)=(aM (As [dI a.1,iH a.2.1,aV a.2.2.1,iI a.2.2.2] b) f (As e 0))))).all id))=true then(oh.rt false)else(oh.nx f8))))
def qT(e:Y bG)(a:Xd)(val:Y iD)(f:Y mC)(i:Unit)(b:Int):Prop:=(((val.length<=100000/\f.length<=100000)/\BZ (((val.filter λd:iD=>(decide (d.2.2.2=b))).map λd:iD=>(d.2.1,d.2.2.1)).length+((f.filter λc:mC=>(decide (c.2.2=b))).map λc:mC=>(c.1,c.2.1)).length))/\(let h:=(((val.filter λd:iD=>(decide (d.2.2.2=b))).map λd:iD=>(d.2.1,d.2.2.1))++((f.filter λc:mC=>(decide (c.2.2=b))).map λc:mC=>(c.1,c.2.1)));((h.length<=100000/\(In [dI a.1,iH a.2.1,aV a.2.2.1,iI a.2.2.2].length b/\(bV e (As [dI a.1,iH a.2.1,aV a.2.2.1,iI a.2.2.2] b))))/\((!decide ((Z (gk aV h))=(aG e (As [dI a.1,iH a.2.1,aV a.2.2.1,iI a.2.2.2] b))))=false->(e.length<=100000/\(∀g∈e,(((In [dI a.1,iH a.2.1,aV a.2.2.1,iI a.2.2.2].length b/\In e.length 0)/\(pU (As [dI a.1,iH a.2.1,aV a.2.2.1,iI a.2.2.2] b) (As e 0) g))/\((In [dI a.1,iH a.2.1,aV a.2.2.1,iI a.2.2.2].length b/\In e.length 0)/\(pU (As [dI a.1,iH a.2.1,aV a.2.2.1,iI a.2.2.2] b) g (As e 0))))))))))
theorem T6(s:BD)(t:Lp jT (s.map eI))(b:Y bG)(k:BD)(l:Au)(m:AJ)(j:AJ)(o:Int)(c:Xd)(n:Au)(val:Y iD)(d:Y mC)(h:Unit)(a:Int):RP Jl [Z jT,Z ((zE (eT aU)) b),Z (oE eI k),Z (oE eS l),Z (zE eS m),Z (zE eS j),Z (zE eI o),Z (zE Av c),Z ((zE (eT eS)) n),Z ((zE (eT iG)) val),Z ((zE (eT dI)) d),Z (zE eI a),O] (cC (λh:Unit=>[Z jT,Z ((zE (eT aU)) b),Z (oE eI k),Z (oE eS l),Z (zE eS m),Z (zE eS j),Z (zE eI o),Z (zE Av c),Z ((zE (eT eS)) n),Z ((zE (eT iG)) val),Z ((zE (eT dI)) d),O,O]) (zE eB)) (jr b c val d h a) (Z (qT b c val d h a)):=R.tp (cM (cg 12 (Ku (jk (Jb (Ga (aq 9 (zE (eT iG)) val Y3)) _ (λ_=>Y3) (λg:iD=>(fj (BT () (lN (aq 1 (zE iG) g Y3) (λq=>q.2.2.2) eI 3 λ_=>Y3) (aq 0 (zE eI) a Y3)))) (λg:iD=>(jx (IV (aq 1 (zE iG) g Y3) (λq=>(q.2.1,q.2.2.1)) aV (Z 1) (Z 3) Y3 Y3 λ_=>Y3))) (λ_=>Y3) λ_=>Y3)) (jk (Jb (Ga (aq 10 (zE (eT dI)) d Y3)) _ (λ_=>Y3) (λf:mC=>(fj (BT () (lN (aq 1 (zE dI) f Y3) (λq=>q.2.2) eI 2 λ_=>Y3) (aq 0 (zE eI) a Y3)))) (λf:mC=>(jx (IV (aq 1 (zE dI) f Y3) (λq=>(q.1,q.2.1)) aV O (Z 2) Y3 Y3 λ_=>Y3))) (λ_=>Y3) λ_=>Y3))) (λ_=>Y3) λp=>(cM (j4 (fj (Ng (e:=aV) () (vC (wN (jt (aq 12 (lE aV) p Y3)))) (AZ cR (bw (aq 1 (zE (eT aU)) b Y3) (bw (Iw (Kv (aq 7 (zE Av) c Y3) (λq=>[dI q.1,iH q.2.1,aV q.2.2.1,iI q.2.2.2]) (eT eD) λ_=>Y3) (aq 11 (zE eI) a Y3)) bA))))) (cM (dh .rt (qb (.bl false) eB false Y3) (λ_=>Y3) λ_=>Y3)) (dB (cM (j4 (Af (Iv (IK (jk (oW (Ga (aq 1 (zE (eT aU)) b Y3)) _ (λ_=>Y3) (λi:bG=>(BT () (AZ Gz (bw (Iw (Kv (aq 0 (zE Av) c Y3) (λq=>[dI q.1,iH q.2.1,aV q.2.2.1,iI q.2.2.2]) (eT eD) λ_=>Y3) (aq 1 (zE eI) a Y3)) (bw (Iw (aq 2 (zE (eT aU)) b Y3) (B9 0)) (bw (aq 3 (zE aU) i Y3) bA)))) (AZ Gz (bw (Iw (Kv (aq 0 (zE Av) c Y3) (λq=>[dI q.1,iH q.2.1,aV q.2.2.1,iI q.2.2.2]) (eT eD) λ_=>Y3) (aq 1 (zE eI) a Y3)) (bw (aq 3 (zE aU) i Y3) (bw (Iw (aq 2 (zE (eT aU)) b Y3) (B9 0)) bA))))))))))) (cM (dh .rt (qb (.bl false) eB false Y3) (λ_=>Y3) λ_=>Y3)) (dB (dB (eV (.nx f8) Y3))))))))))
def JF(h:BD):Bool:=(let b:=(dX h 14);(let d:=(bD (bM h 16) 5);(let g:=[("day":AJ),("name":AJ),("names":AJ),("p":AJ),("zzz":AJ)];(let k:=(As g ((As d 0)%5));let j:=(As g ((((As d 0)+1)+((As d 1)%4))%5));let c:=k;let e:=j;(let f:=(1+((As d 2)%1000));(if((!(cP b c f))||(!(dO b c e f)))=true then false else(if(!decide ((aG b (Dt.tup [(Dt.str "same"),(eS c),(Dt.int 1)]))=(aG b (Dt.tup [(Dt.str "same"),(eS c),(eI f)]))))=true then false else(let a:=((("same":AJ),c,f),(("begin":AJ),e,(1+((As d 3)%4)),(2:Int)),(("never":AJ),e),(("both":AJ),c,e,(3:Int)));(let b:=(BE b O (Z 11));(let q1:=(aD b [dI a.1,iH a.2.1,aV a.2.2.1,iI a.2.2.2]);(C3 (ju (λ(i:Unit) (l:Int)=>((jr b a q1.2.1 q1.2.2 i l):oh (Unit) Bool)) (rng 0 (kN 4)) f8) (λr=>r) λi:Unit=>((decide ((aD b.reverse [dI a.1,iH a.2.1,aV a.2.2.1,iI a.2.2.2])=(aD ((BE b (Z 1) O)++(BE b O (Z 1))) [dI a.1,iH a.2.1,aV a.2.2.1,iI a.2.2.2])))&&(decide ((aD ((BE b (Z 1) O)++(BE b O (Z 1))) [dI a.1,iH a.2.1,aV a.2.2.1,iI a.2.2.2])=(q1.1,q1.2.1,q1.2.2)))))))))))))))
def JG(h:BD):Prop:=((pR h 14)/\(let b:=(dX h 14);(((iR h 16)/\(fV (bM h 16) 5))/\(let c:=(bD (bM h 16) 5);(let j:=[("day":AJ),("name":AJ),("names":AJ),("p":AJ),("zzz":AJ)];(((In c.length 0/\In j.length ((As c 0)%5))/\((In c.length 0/\In c.length 1)/\In j.length ((((As c 0)+1)+((As c 1)%4))%5)))/\(let l:=(As j ((As c 0)%5));let k:=(As j ((((As c 0)+1)+((As c 1)%4))%5));let d:=l;let g:=k;(In c.length 2/\(let e:=(1+((As c 2)%1000));(((dY b d e)/\((!(cP b d e))=false->(fB b d g e)))/\(((!(cP b d e))||(!(dO b d g e)))=false->(((bV b (Dt.tup [(Dt.str "same"),(eS d),(Dt.int 1)]))/\(bV b (Dt.tup [(Dt.str "same"),(eS d),(eI e)])))/\((!decide ((aG b (Dt.tup [(Dt.str "same"),(eS d),(Dt.int 1)]))=(aG b (Dt.tup [(Dt.str "same"),(eS d),(eI e)]))))=false->(In c.length 3/\(let a:=((("same":AJ),d,e),(("begin":AJ),g,(1+((As c 3)%4)),(2:Int)),(("never":AJ),g),(("both":AJ),d,g,(3:Int)));(let b:=(BE b O (Z 11));((dN b [dI a.1,iH a.2.1,aV a.2.2.1,iI a.2.2.2])/\(let q1:=(aD b [dI a.1,iH a.2.1,aV a.2.2.1,iI a.2.2.2]);(nT (λ(f:Unit) (i:Int)=>((jr b a q1.2.1 q1.2.2 f i):oh (Unit) Bool)) (λ(f:Unit) (i:Int)=>Z (qT b a q1.2.1 q1.2.2 f i)) (rng 0 (kN 4)) f8/\(yU (ju (λ(f:Unit) (i:Int)=>((jr b a q1.2.1 q1.2.2 f i):oh (Unit) Bool)) (rng 0 (kN 4)) f8) λf:Unit=>(((dN b.reverse [dI a.1,iH a.2.1,aV a.2.2.1,iI a.2.2.2])/\(BZ ((BE b (Z 1) O).length+(BE b O (Z 1)).length)/\(dN ((BE b (Z 1) O)++(BE b O (Z 1))) [dI a.1,iH a.2.1,aV a.2.2.1,iI a.2.2.2])))/\((decide ((aD b.reverse [dI a.1,iH a.2.1,aV a.2.2.1,iI a.2.2.2])=(aD ((BE b (Z 1) O)++(BE b O (Z 1))) [dI a.1,iH a.2.1,aV a.2.2.1,iI a.2.2.2])))=true->(BZ ((BE b (Z 1) O).length+(BE b O (Z 1)).length)/\(dN ((BE b (Z 1) O)++(BE b O (Z 1))) [dI a.1,iH a.2.1,aV a.2.2.1,iI a.2.2.2]))))))))))))))))))))))))
theorem Hk(h:BD)(k:Lp jT (h.map eI)):RP Nr [Z jT,O,O,O,O,O,O,O,O,O,O,O,O] (λr=>An.rt (zE eB r)) (JF h) (Z (JG h)):=R.tp (cg 1 (AZ K6 (IW (jZ 0 eI h k Y3) (bw (B9 14) bA))) (λ_=>Y3) λa=>(cg 2 (AZ nu (bw (jx (AZ um (IW (jZ 0 eI h k Y3) (bw (B9 16) bA)))) (bw (B9 5) bA))) (λ_=>Y3) λc=>(cg 3 (qM (aK (yV "day") (aK (yV "name") (aK (yV "names") (aK (yV "p") (aK (yV "zzz") (dU eS)))))) (zD Y3)) (λ_=>Y3) λi=>(NG 4 5 (j8 (jt (aq 3 (lE eS) i Y3)) (dF (j8 (jt (aq 2 (lE eI) c Y3)) (B9 0)) 5 ())) (j8 (jt (aq 3 (lE eS) i Y3)) (dF (jy (jy (j8 (jt (aq 2 (lE eI) c Y3)) (B9 0)) (B9 1)) (dF (j8 (jt (aq 2 (lE eI) c Y3)) (B9 1)) 4 ())) 5 ())) λb d=>(cg 6 (jy (B9 1) (dF (j8 (jt (aq 2 (lE eI) c Y3)) (B9 2)) 1000 ())) (λ_=>Y3) λg=>(j4 (O8 (Af (Iv (AZ uq (bw (aq 1 (zE (eT aU)) a Y3) (bw (aq 4 (zE eS) b Y3) (bw (aq 6 (zE eI) g Y3) bA)))))) (Af (Iv (AZ wZ (bw (aq 1 (zE (eT aU)) a Y3) (bw (aq 4 (zE eS) b Y3) (bw (aq 5 (zE eS) d Y3) (bw (aq 6 (zE eI) g Y3) bA)))))))) (cM (dh (λr=>r) (qb (.bl false) eB false Y3) (λ_=>Y3) λ_=>Y3)) (dB (j4 (fj (Ng (e:=aV) () (AZ cR (bw (aq 1 (zE (eT aU)) a Y3) (bw (lM (aK (Bn (.str "same")) (aK (gC (aq 4 (zE eS) b Y3)) (aK (Bn (.int 1)) (dU eD)))) (zD Y3)) bA))) (AZ cR (bw (aq 1 (zE (eT aU)) a Y3) (bw (lM (aK (Bn (.str "same")) (aK (gC (aq 4 (zE eS) b Y3)) (aK (gC (aq 6 (zE eI) g Y3)) (dU eD)))) (zD Y3)) bA))))) (cM (dh (λr=>r) (qb (.bl false) eB false Y3) (λ_=>Y3) λ_=>Y3)) (dB (cg 7 (FW (FT (yV "same") (aq 4 (zE eS) b Y3) (aq 6 (zE eI) g Y3)) (FW (yV "begin") (aq 5 (zE eS) d Y3) (jx (jy (B9 1) (dF (j8 (jt (aq 2 (lE eI) c Y3)) (B9 3)) 4 ()))) (B9 2)) (tO (yV "never") (aq 5 (zE eS) d Y3)) (FW (yV "both") (aq 4 (zE eS) b Y3) (aq 5 (zE eS) d Y3) (B9 3))) (λ_=>Y3) λf=>(cg 1 (Iz (aq 1 (zE (eT aU)) a Y3) Ag (Ah (B9 11))) (λ_=>Y3) λa=>(M6 (AZ j6 (bw (aq 1 (zE (eT aU)) a Y3) (bw (Kv (aq 7 (zE Av) f Y3) (λq=>[dI q.1,iH q.2.1,aV q.2.2.1,iI q.2.2.2]) (eT eD) λ_=>Y3) bA))) _ (λ_=>Y3) λq1=>(Kw (λj:Unit=>[Z jT,Z ((zE (eT aU)) a),Z (oE eI c),Z (oE eS i),Z (zE eS b),Z (zE eS d),Z (zE eI g),Z (zE Av f),Z ((zE (eT eS)) q1.1),Z ((zE (eT iG)) q1.2.1),Z ((zE (eT dI)) q1.2.2),O,O]) f8 Y3 (SN 4 4 Y3 (by unfold Rg;decide)) _ (λ_ _=>Y3) (λ(j:Unit) (l:Int)=>((T6 h k a c i b d g f q1.1 q1.2.1 q1.2.2 j l).r:R _ _ (cC (λj:Unit=>[Z jT,Z ((zE (eT aU)) a),Z (oE eI c),Z (oE eS i),Z (zE eS b),Z (zE eS d),Z (zE eI g),Z (zE Av f),Z ((zE (eT eS)) q1.1),Z ((zE (eT iG)) q1.2.1),Z ((zE (eT dI)) q1.2.2),O,O]) (zE eB)))) (λr=>r) (λ_=>Y3) λj=>(dh (λr=>r) (NS (BT () (AZ j6 (bw (jx (Nl (aq 1 (zE (eT aU)) a Y3))) (bw (Kv (aq 7 (zE Av) f Y3) (λq=>[dI q.1,iH q.2.1,aV q.2.2.1,iI q.2.2.2]) (eT eD) λ_=>Y3) bA))) (AZ j6 (bw (jx (Sg (Iz (aq 1 (zE (eT aU)) a Y3) (Ah (B9 1)) Ag) (Iz (aq 1 (zE (eT aU)) a Y3) Ag (Ah (B9 1))))) (bw (Kv (aq 7 (zE Av) f Y3) (λq=>[dI q.1,iH q.2.1,aV q.2.2.1,iI q.2.2.2]) (eT eD) λ_=>Y3) bA)))) (BT () (AZ j6 (bw (jx (Sg (Iz (aq 1 (zE (eT aU)) a Y3) (Ah (B9 1)) Ag) (Iz (aq 1 (zE (eT aU)) a Y3) Ag (Ah (B9 1))))) (bw (Kv (aq 7 (zE Av) f Y3) (λq=>[dI q.1,iH q.2.1,aV q.2.2.1,iI q.2.2.2]) (eT eD) λ_=>Y3) bA))) (FT (aq 8 (zE (eT eS)) q1.1 Y3) (aq 9 (zE (eT iG)) q1.2.1 Y3) (aq 10 (zE (eT dI)) q1.2.2 Y3)))) (λ_=>Y3) λ_=>Y3))))))))))))))
theorem Yk:∀v bs,(aL eI aN) v bs->bs.length=1/\(B5 (Z (JG v.1))->F_law (bs.map BA)=Z ((zE eB) (JF v.1))):=by
 rintro⟨a,_⟩ _ ⟨jT,_,rfl,b,rfl⟩;exact⟨rfl,λh=>dG (g:=Nr) (n:=13) (bs:=[BA jT]) (Hk a (Ab b)) h⟩
theorem Yl(h:∀a:Y Int,a.length<=63->JG a/\JF a=true):(∀a:Y Int,a.length<=63->F_law [.z (.lst (a.map .int))]=Z (.z (.bl true)))/\∀a:Y Int,a.length<=63->F_law [.l (a.map .int)]=Z (.z (.bl true)):=
 ⟨λa b=>((Yk (a,f8) [.z (.lst (a.map .int))] ⟨_,_,rfl,rfl,rfl⟩).2 (h a b).1).trans (by rw[(h a b).2]),λa b=>((Yk (a,f8) [.l (a.map .int)] ⟨_,_,rfl,rfl,rfl⟩).2 (h a b).1).trans (by rw[(h a b).2])⟩
end
end G76
end
section
set_option synthInstance.maxSize 100000
namespace G76
open L2 P1
theorem Lb(b:Y Int)(k:Int)(a:0<=k)(h1:k<=1000):iR b k:=by
 unfold iR;exact⟨λh=>B8 a (by simpa using h),λ_=>X5 a ()⟩
theorem T7(k:Nat)(s:Int×Y Int×Int)(hk:k<1000)(h:(0<=s.1/\s.1<1999999973)/\s.2.1.length=k/\(∀x∈s.2.1,0<=x)/\0<=s.2.2):gO s k/\(0<=(cG s k).1/\(cG s k).1<1999999973)/\(cG s k).2.1.length=k+1/\(∀x∈(cG s k).2.1,0<=x)/\0<=(cG s k).2.2:=by
 obtain⟨h1,h2,b,c⟩:=h;have a:In 2 (if(decide ((0:Int)<s.2.2))=true then(1:Int)else 0):=by split<;>exact B8 () ()
 refine⟨⟨X5 h1.1 (),a,?_⟩,sG _ (),?_,?_,Int.ediv_nonneg c ()⟩
 ·show s.2.1.length<=1000000;omega
 ·show(s.2.1++[_]).length=k+1;rw[zC,h2];rfl
 ·intro x hx;rcases ah.mp hx with hx|hx
  ·exact b x hx
  ·cases af.mp hx;have:=wH (xs:=[((((s.1*((s.1%65521)+40487))+(7*k))+5)%1999999973),(s.2.2%1000000)]) a;simp only[yz,Ki,or_false]at this;rcases this with e|e<;>rw[e]
   ·exact(sG _ ()).1
   ·exact(sG _ ()).1
theorem GD(c m:Int)(d:0<=m)(h1:m<=1000):fV c m/\(bD c m).length=m.toNat/\∀x∈bD c m,0<=x:=by
 have b:∀st a:Int,(0<=st/\st<1999999973)->0<=a->jJ c m [] st a/\(gP c m [] st a).length=m.toNat/\∀x∈gP c m [] st a,0<=x:=λst a e hd=>by
  have:=nU (P:=λs k=>Z (gO s k)) (λk s=>(0<=s.1/\s.1<1999999973)/\s.2.1.length=k/\(∀x∈s.2.1,0<=x)/\0<=s.2.2) (step:=λs k=>cG s k) m.toNat (st,[],a) ⟨e,rfl,λx h=>(by cases h),hd⟩ λk s hk h=>T7 k s () h;exact⟨⟨vB d (),this.1⟩,this.2.2.1,this.2.2.2.1⟩
 refine b _ _ (sG _ ()) ?_;dsimp only;split<;>(try split)<;>omega
open S1 S6
abbrev aY:=AJ×Y (AJ×AJ)
theorem DK{α τ:Type}{p:α->Bool}{g:α->τ}{step:Unit->α->oh Unit τ}(hs:∀s x,step s x=if p x=true then .rt (g x)else .nx f8):∀(xs:Y α),ju step xs f8=(match xs.find? p with|some x=>.rt (g x)|none=>.nx f8)/\nT step (λ_ _=>O) xs f8
 |[]=>⟨rfl,trivial⟩
 |x::xs=>by
  obtain⟨h1,h2⟩:=DK hs xs;unfold ju nT;rw[hs,jv];cases p x with
  |true=>exact⟨rfl,trivial,trivial⟩
  |false=>exact⟨h1,trivial,h2⟩
def fw(a:Y (AJ×AJ))(f:AJ):S AJ:=(a.find? λq=>decide (q.1=f)).map (·.2)
theorem iz(r:aY)(f:AJ):fu r f/\bH r f=fw r.2 f:=by
 obtain⟨h1,h2⟩:=DK (p:=λq:AJ×AJ=>decide (q.1=f)) (g:=λq:AJ×AJ=>Z q.2) (step:=λs q=>gQ f s q) (λ_ _=>Y3) r.2;refine⟨⟨h2,?_⟩,?_⟩
 ·cases ju (λ(a:Unit) (q2:AJ×AJ)=>((gQ f a q2):oh Unit (S AJ))) r.2 f8<;>trivial
 ·unfold bH fw;rw[h1];cases r.2.find? λq=>decide (q.1=f)<;>rfl
theorem BU{α:Type}(c:Array α):∀(n:Nat) (a:Array α),((aa n c).foldl (·++·) a).size=a.size+n*c.size
 |0,a=>by simp
 |n+1,a=>by
  rw[eu,kg,BU c n,ko,KU];omega
theorem Fg(x:AJ)(k:Int):(Txt.mul x k).length<=x.length*k.toNat:=by
 unfold Txt.mul;split
 ·exact qi _
 split
 ·rename_i a h;simp only[JJ,beq_iff_eq]at h;rcases h with h|h
  ·subst h;simp
  ·rw[h];simp
 ·show(Array.size _)<=_;rw[BU];have:x.cps.size=x.length:=rfl;rw[this,Nat.mul_comm];simp
def LT:AJ:=("abcdefghijklmnopqrstuvwxyz":AJ)
theorem Ld:LT.length=26:=by decide +kernel
theorem uw(h:n<=1000):BZ n:=zi h ()
theorem Lf(xs:Y Int)(g:6<=xs.length)(b:AJ)(hs:b.length<=5)(at_:Int)(k:Nat)(a:Au)(hk:k<200)(h:a.length=k/\∀n∈a,n.length<=12):jm xs LT b at_ a k/\(dW xs LT b at_ a k).length=k+1/\∀n∈dW xs LT b at_ a k,n.length<=12:=by
 have f:=zi (slice_le b O (Z at_)) hs;have j:=zi (slice_le b (Z at_) O) hs;have c1:=wJ LT ((↑k+As xs 2)%15);have i:=sG (k:Int) (m:=8) ();have hd:(0:Int)<=(k:Int) / 8/\(k:Int) / 8<26:=by omega
 refine⟨⟨⟨B8 () (),qN () (by rw[Ld];decide)⟩,⟨uw (),uw (by rw[mK];omega)⟩,⟨B8 () (),λ_=>⟨B8 hd.1 (by rw[Ld];exact hd.2),by omega,by omega,by rw[wJ];decide⟩⟩,uw ()⟩,?_⟩;have d:∀n:AJ,n.length<=12->(a++[n]).length=k+1/\∀m∈a++[n],m.length<=12:=λn e=>⟨by simp[h.1],λm c=>by
  rcases ah.mp c with c|c
  ·exact h.2 m c
  ·cases af.mp c;exact e⟩
 unfold dW;dsimp only;split
 ·exact d _ (by have:=Fg (ch LT ((k:Int) / 8)) (1+(k:Int)%8);rw[wJ]at this;exact zi this ())
 ·exact d _ (by rw[mK,mK,c1];omega)
theorem OP(xs:Au)(n:Nat)(h:∀x∈xs,x.length<=n):(Txt.join "" xs).length<=xs.length*n:=by
 have h1:=StrLaws.join_length_le ("":AJ) xs;rw[<-StrLaws.glued_eq_join]at h1;have h2:(xs.map (·.length)).sum<=xs.length*n:=by
  clear h1
  induction xs with
  |nil=>simp
  |cons a l c=>
   have:=c λx hx=>h x (zo _ hx);have:=h a (zt ..);simp only[zv,List.sum_cons,Z3,KU];omega
 have b:("":AJ).length=0:=rfl;rw[b,Nat.mul_zero]at h1;exact zi h1 ()
theorem N9(xs:Au)(h:∀x∈xs,x.length=1):(xs.map (·.length)).sum=xs.length:=by
 induction xs with
 |nil=>rfl
 |cons a l b=>
  have:=b λx hx=>h x (zo _ hx);have:=h a (zt ..);simp only[zv,List.sum_cons,Z3];omega
theorem T8(xs:Y Int)(e:6<=xs.length)(a:Int)(i:0<=a)(h1:a<=200):mX xs a/\(dJ xs a).length=a.toNat/\∀n∈dJ xs a,n.length<=12:=by
 have g:=sG (As xs 0) (m:=6) ();have st:∀b:AJ,b.length<=5->lU xs a LT b/\(jo xs a LT b).length=a.toNat/\∀n∈jo xs a LT b,n.length<=12:=λb l=>by
  have:=nU (P:=λf k=>Z (jm xs LT b (As xs 1%((b.length:Int)+1)) f k)) (step:=λf k=>dW xs LT b (As xs 1%((b.length:Int)+1)) f k) (λk s=>s.length=k/\∀n∈s,n.length<=12) a.toNat [] ⟨rfl,λn h=>(by cases h)⟩ λk s hk h=>Lf xs e b l _ k s () h;exact⟨⟨⟨B8 () (),by omega⟩,vB i (),this.1⟩,this.2⟩
 have c1:∀x∈((rng 0 (As xs 0%6).toNat).map λc:Int=>ch LT (As xs c / 40%26)),x.length=1:=λx hx=>by
  obtain⟨k,_,rfl⟩:=ag.mp hx;exact wJ _ _
 have:=st (Txt.join "" ((rng 0 (As xs 0%6).toNat).map λc:Int=>ch LT (As xs c / 40%26))) (by
  have:=OP _ 1 λx hx=>bo (c1 x hx);rw[zg,kJ]at this;omega)
 refine⟨⟨⟨⟨⟨⟨B8 () (),vB g.1 ()⟩,by rw[kJ];omega⟩,λk hk=>?_⟩,?_⟩,this.1⟩,this.2⟩
 ·obtain⟨j,o,rfl⟩:=Xb hk;exact⟨B8 () (),qN () (by rw[show("abcdefghijklmnopqrstuvwxyz":AJ)=LT from rfl,Ld];decide)⟩
 ·rw[show("abcdefghijklmnopqrstuvwxyz":AJ)=LT from rfl,N9 _ c1,zg,kJ];have d:("":AJ).length=0:=rfl;rw[d];omega
def DZ(xs:Y Int)(a:AJ)(at_:Int)(k:Int):AJ:=if(decide (((As xs 3)%3)=1))=true then(Txt.mul (ch LT (k / (8:Int))) (1+(k%8)))else(((Txt.slice a O (Z at_))++(ch LT ((k+(As xs 2))%15)))++(Txt.slice a (Z at_) O))
theorem Bl{α β:Type}(g:β->α):∀(l:Y β) (f:Y α),l.foldl (λf k=>f++[g k]) f=f++l.map g
 |[],f=>by simp
 |k::l,f=>by rw[kg,Bl g l];simp
theorem T9(xs:Y Int)(a:Int):∃b at_,dJ xs a=(rng 0 a.toNat).map (DZ xs b at_):=by
 refine⟨_,_,(Bl (DZ xs _ _) _ []).trans (KG _)⟩
theorem Lg{a b m c:AJ}(h:(a++m)++b=(a++c)++b):m=c:=by
 have h:=congrArg (λs:AJ=>s.cps.toList) h;have h:((a.cps++m.cps)++b.cps).toList=((a.cps++c.cps)++b.cps).toList:=h;simp only[Zl]at h;have:=List.append_cancel_left (List.append_cancel_right h);cases m;cases c;congr 1;exact Array.ext' this
theorem LU:∀i:Fin 30,∀j:Fin 30,Txt.mul (ch LT ((i.val:Int) / 8)) (1+(i.val:Int)%8)=Txt.mul (ch LT ((j.val:Int) / 8)) (1+(j.val:Int)%8)->i=j:=by decide +kernel
theorem OQ:∀i:Fin 15,∀j:Fin 15,ch LT (i.val:Int)=ch LT (j.val:Int)->i=j:=by decide +kernel
theorem NH{x y:Int}(hx:0<=x/\x<15)(a:0<=y/\y<15)(h:ch LT x=ch LT y):x=y:=by
 have:=OQ ⟨x.toNat,by omega⟩ ⟨y.toNat,by omega⟩ (by
  show ch LT ((x.toNat:Nat):Int)=ch LT ((y.toNat:Nat):Int);rw[KS hx.1,KS a.1];exact h)
 have:=congrArg Fin.val this;have:x.toNat=y.toNat:=this;omega
theorem Nc{xs:Y Int}{a:AJ}{at_:Int}(hi:i<15)(b:j<15)(h:DZ xs a at_ i=DZ xs a at_ j):i=j:=by
 unfold DZ at h;by_cases e:(decide (((As xs 3)%3)=1))=true
 ·rw[zh e,zh e]at h;exact congrArg Fin.val (LU ⟨i,by omega⟩ ⟨j,by omega⟩ h)
 ·rw[zr e,zr e]at h;have:=NH (sG _ ()) (sG _ ()) (Lg h);omega
theorem Kz{g:Int->AJ}(h:∀i j:Nat,i<n->j<n->g i=g j->i=j):((rng 0 n).map g).Nodup:=by
 unfold rng;rw[ZU];unfold List.Nodup;rw[ay];refine List.Pairwise.imp_of_mem ?_ (List.nodup_range (n:=n));intro a b c d f e;refine f (h a b (aI.mp c) (aI.mp d) ?_);have e:g (0+(a:Int))=g (0+(b:Int)):=e;rwa [dc,dc]at e
theorem Ua(xs:Y Int)(a:Int)(h:a<=15):(dJ xs a).Nodup:=by
 obtain⟨b,at_,e⟩:=T9 xs a;rw[e];exact Kz λi j hi c=>Nc () ()
abbrev Wd(w:AJ):Prop:=w.length<=12
def FL:Au:=[("day":AJ),("name":AJ),(("name":AJ)++("s":AJ)),("p":AJ)]
abbrev Fd(r:aY):Prop:=(r.2.map (·.1)).Sublist FL/\∀q∈r.2,Wd q.2
structure Bk (B:List aY):Prop where
 nd:(B.map (·.1)).Nodup
 ln:B.length<=40
 fd:∀r∈B,Fd r
theorem Xf:("ab1":AJ).length=3:=by decide +kernel
theorem MA(x:Int)(k:Nat)(s:AJ)(hk:k<4)(h:s.length=k):jU x s k/\(ig x s k).length=k+1:=by
 have hi:In [(1:Int),(3:Int),(9:Int),(27:Int)].length (k:Int):=B8 () (by show(k:Int)<4;omega);have hp:(0<(As [(1:Int),(3:Int),(9:Int),(27:Int)] (k:Int))/\(As [(1:Int),(3:Int),(9:Int),(27:Int)] (k:Int))<1073741824):=by
  have:=wH hi;simp only[yz,Ki,or_false]at this;rcases this with e|e|e|e<;>rw[e]<;>decide
 refine⟨⟨⟨⟨hi,hp⟩,qN () (by rw[Xf];decide)⟩,uw (by rw[wJ];omega)⟩,?_⟩;show(s++ch _ _).length=k+1;rw[mK,wJ,h]
theorem LO:∀w∈[("a":AJ),("ab":AJ),("abc":AJ),("b":AJ),("1":AJ),("12":AJ),("a1":AJ)],Wd w:=by decide +kernel
theorem Ub(x:Int):pQ x/\Wd (lV x):=by
 have b:=sG (x / 4) (m:=4) ();have lp:=nU (P:=λf k=>Z (jU x f k)) (step:=λf k=>ig x f k) (λk (s:AJ)=>s.length=k) (1+x / 4%4).toNat ("":AJ) Y3 λk s hk h=>MA x k s () h;have a:In [("a":AJ),("ab":AJ),("abc":AJ),("b":AJ),("1":AJ),("12":AJ),("a1":AJ)].length (x / 4%7):=qN () ();refine⟨⟨λ_=>a,λ_=>⟨vB () (),lp.1⟩⟩,?_⟩;unfold lV;split
 ·exact LO _ (wH a)
 ·refine zi (bo lp.2) ()
theorem Mb(xs:Y Int)(g:xs.length=4)(k:Nat)(b:Y (AJ×AJ))(hk:k<4)(h:(b.map (·.1)).Sublist (FL.take k)/\∀q∈b,Wd q.2):kZ xs FL b k/\((fQ xs FL b k).map (·.1)).Sublist (FL.take (k+1))/\∀q∈fQ xs FL b k,Wd q.2:=by
 have c:=h.2
 replace h:=h.1
 have e:=h.length_le;rw[zg,ZZ]at e;have i:FL.length=4:=rfl;have hi:In xs.length (k:Int):=B8 () ();have f:In FL.length (k:Int):=B8 () ();have d:As FL (k:Int)=FL[k]'():=wI _ _ _;refine⟨⟨hi,λ_=>⟨⟨f,hi,(Ub _).1⟩,uw ()⟩⟩,?_⟩;unfold fQ;dsimp only;rw[JU ()];split
 ·rw[ZT,d];refine⟨h.append (List.Sublist.refl _),λq a=>?_⟩;rcases ah.mp a with a|a
  ·exact c q a
  ·rw[af.mp a];exact(Ub _).2
 ·exact⟨h.trans (List.sublist_append_left _ _),c⟩
theorem OA(n:AJ)(xs:Y Int)(c:xs.length=4):n6 n xs/\(jK n xs).1=n/\Fd (jK n xs):=by
 have lp:=nU (P:=λf k=>Z (kZ xs FL f k)) (step:=λf k=>fQ xs FL f k) (λk (a:Y (AJ×AJ))=>(a.map λq:AJ×AJ=>q.1).Sublist (FL.take k)/\∀q∈a,Wd q.2) (kN 4) [] ⟨List.nil_sublist _,λq h=>by cases h⟩ λk s hk h=>Mb xs c k s (by rw[show kN 4=4 from SM 4]at hk;exact hk) h;have h2:((jK n xs).2.map (·.1)).Sublist (FL.take (kN 4)):=lp.2.1;have b:=h2.trans (yi _ _);exact⟨⟨uw (by decide +kernel),lp.1⟩,rfl,b,lp.2.2⟩
theorem MG{xs:Au}(a:xs.Nodup){i j:Int}(hi:0<=i/\i<xs.length)(b:0<=j/\j<xs.length)(h:As xs i=As xs j):i=j:=by
 rw[show i=((i.toNat:Nat):Int) by omega,show j=((j.toNat:Nat):Int) by omega,wI _ _ (),wI _ _ ()]at h;have:=(Kk a).mp h;omega
theorem Xg(a:Y Int)(m:Int)(y:1<=m)(h1:m<=14)(x:a.length<=63):pR a m/\Bk (dX a m)/\1<=(dX a m).length/\(dX a m).length<=14:=by
 have o:=GD (bM a 0) 9 () ();obtain⟨t,g,q⟩:=o;have g:(bD (bM a 0) 9).length=9:=g;generalize e3:bD (bM a 0) 9=hd at *
 obtain⟨q1,q2,q3⟩:=T8 hd () 15 () ();have u:=Ua hd 15 ();have q2:(dJ hd 15).length=15:=q2;generalize d:dJ hd 15=na at *
 have n:In [(1:Int),(2:Int),(5:Int),(8:Int),m,m].length (As hd 6%6):=qN () (eX 6);have w:1<=As [(1:Int),(2:Int),(5:Int),(8:Int),m,m] (As hd 6%6)/\As [(1:Int),(2:Int),(5:Int),(8:Int),m,m] (As hd 6%6)<=14:=by
  have:=wH n;simp only[yz,Ki,or_false]at this;rcases this with e|e|e|e|e|e<;>rw[e]<;>omega
 generalize l:As [(1:Int),(2:Int),(5:Int),(8:Int),m,m] (As hd 6%6)=mn at *
 have v:0<=As hd 7:=q _ (wH (B8 () ()))
 let nm:=λk:Int=>As na ((4*k+As hd 7)%15)
 let b:=λk:Int=>jK (nm k) (bD (bM a (1+k)) 4)
 have c:∀k:Int,n6 (nm k) (bD (bM a (1+k)) 4)/\(b k).1=nm k/\Fd (b k):=λk=>OA _ _ (GD (bM a (1+k)) 4 () ()).2.1;have lp:=nU (P:=λf k=>Z (nA a hd na f k)) (step:=λf k=>jV a hd na f k) (λk (s:Y aY)=>s=(rng 0 k).map b) mn.toNat [] Y3 λk s hk h=>by
  refine⟨⟨⟨⟨⟨B8 () (),qN () (by rw[q2];decide)⟩,Lb a _ () (),(GD _ 4 () ()).1⟩,(c k).1⟩,uw (by rw[h,zg,kJ];omega)⟩,?_⟩;show s++[b k]=_;rw[h];unfold rng;rw[List.range_succ,ZT,ZT];simp
 have eB:dX a m=(rng 0 mn.toNat).map b:=by
  unfold dX;dsimp only;rw[e3,d,l];exact lp.2
 refine⟨⟨⟨Lb a 0 () (),t⟩,?_⟩,?_,?_,?_⟩
 ·dsimp only;rw[e3];refine⟨q1,?_⟩;rw[d];refine⟨⟨B8 () (),n⟩,?_⟩;rw[l];exact⟨vB () (),lp.1⟩
 ·rw[eB];refine⟨?_,by rw[zg,kJ];omega,λr p=>?_⟩
  ·rw[ZU];refine Kz λi j hi z h=>?_;have h:(b (i:Int)).1=(b (j:Int)).1:=h;rw[(c i).2.1,(c j).2.1]at h;have:=MG u (by rw[q2];exact⟨by omega,by omega⟩) (by rw[q2];exact⟨by omega,by omega⟩) h;omega
  ·obtain⟨k,_,rfl⟩:=ag.mp p;exact(c k).2.2
 ·rw[eB,zg,kJ];omega
 ·rw[eB,zg,kJ];omega
open S1 S6
theorem DD{f:α->β->γ}{a c:α}{b d:β}(h:a=c)(h':b=d):f a b=f c d:=by rw[h,h']
abbrev PR:=aY×aY
def BQ:Y aY->Y PR
 |[]=>[]
 |x::xs=>xs.map (λy=>(x,y))++BQ xs
theorem jM(j:Int)(x:α)(xs:Y α):jz j (x::xs)=(j,x)::jz (j+1) xs:=by
 unfold jz;rw[Z3,be,List.zipWith_cons_cons,List.zipWith_map_left];refine DD (f:=List.cons) (by simp) (congrArg (λg=>List.zipWith g (av xs.length) xs) ?_);funext k z;show(j+((k+1:Nat):Int),z)=(j+1+(k:Int),z);rw[show j+((k+1:Nat):Int)=j+1+(k:Int) by omega]
theorem Xh(xs:Y α):xU xs=jz 0 xs:=by
 unfold xU jz;refine congrArg (λg=>List.zipWith g (av xs.length) xs) ?_;funext k z;simp
theorem DN{α:Type}:∀(xs:Y α) (j:Int),(jz j xs).length=xs.length
 |[],j=>rfl
 |x::xs,j=>by rw[jM,Z3,DN xs,Z3]
theorem rM{α:Type}:∀(xs:Y α) (j:Int) (q:Int×α),q∈jz j xs->q.2∈xs/\j<=q.1
 |x::xs,j,q,h=>by
  rw[jM]at h;rcases List.mem_cons.mp h with rfl|h
  ·exact⟨zt,eX _⟩
  ·have:=rM xs (j+1) q h;exact⟨zo _ this.1,by omega⟩
def tl(R:Y Dt)(q:PR):Y (Dt×AJ×AJ×Int):=((jz 0 R).filter λz:Int×Dt=>aM z.2 q.1 q.2).map λz:Int×Dt=>(z.2,(q.1.1,q.2.1,z.1))
theorem GF(w:Y aY)(R:Y Dt):fW w R=(BQ w).flatMap (tl R):=by
 have b:∀(xs a:Y aY),a++xs=w->((jz (a.length:Int) xs).flatMap λq1:Int×aY=>((BE w (Z (q1.1+1)) O).flatMap λd:aY=>tl R (q1.2,d)))=(BQ xs).flatMap (tl R):=by
  intro xs
  induction xs with
  |nil=>intro a _;rfl
  |cons x xs c=>
   intro a e;have h1:=c (a++[x]) (by rw[ZE];exact e);rw[zC,du]at h1;rw[jM,jb,show((a.length:Int)+1)=((a.length+1:Nat):Int) by omega,h1];have f:BE w (Z ((a.length+1:Nat):Int)) O=xs:=by
    rw[Je (by rw[<-e,zC,Z3];omega),<-e,show a++x::xs=(a++[x])++xs by simp,List.drop_left' (by simp)]
   show(BE w (Z ((a.length:Int)+1)) O).flatMap _++_=_;rw[show((a.length:Int)+1)=((a.length+1:Nat):Int) by omega,f];show _=(xs.map (λy=>(x,y))++BQ xs).flatMap (tl R);rw[List.flatMap_append,List.flatMap_map]
 have:=b w [] rfl;unfold fW;rw[Xh];exact this
theorem pZ:∀{w:Y aY} {q:PR},q∈BQ w->q.1∈w/\q.2∈w
 |x::xs,q,h=>by
  rcases ah.mp h with h|h
  ·obtain⟨y,a,rfl⟩:=ag.mp h;exact⟨zt,zo _ a⟩
  ·exact⟨zo _ (pZ h).1,zo _ (pZ h).2⟩
theorem GJ:∀w:Y aY,(BQ w).length<=w.length*w.length
 |[]=>zl _
 |x::xs=>by
  have:=GJ xs;show(xs.map (λy=>(x,y))++BQ xs).length<=_;rw[zC,zg,Z3,KU,Nat.mul_succ];omega
theorem JH{α β:Type}{g:α->Y β}{k:Nat}(h:∀x,(g x).length<=k):∀xs:Y α,(xs.flatMap g).length<=xs.length*k
 |[]=>by simp
 |x::xs=>by
  have:=JH h xs;have:=h x;rw[jb,zC,Z3,KU];omega
theorem MR(R:Y Dt)(q:PR):(tl R q).length<=R.length:=by
 unfold tl;rw[zg];exact zi (qh _ _) (bo (DN R 0))
def Rl(r:Dt):Prop:=(∃f w,r=.tup [.str "same", .str f,.int w])\/(∃f n w,r=.tup [.str "begin", .str f,.int n,.int w])\/(∃f g w,r=.tup [.str "both", .str f,.str g,.int w])\/∃f,r=.tup [.str "never", .str f]
def JK(x y:aY)(f:AJ):Bool:=(fw x.2 f).isSome&&decide (fw x.2 f=fw y.2 f)
theorem w5(x y:aY)(f:AJ):je x y f/\dM x y f=JK x y f:=by
 obtain⟨h1,h2⟩:=iz x f;obtain⟨b,a⟩:=iz y f;refine⟨⟨h1,λ_=>b⟩,?_⟩;unfold dM JK;dsimp only;rw[h2,a]
def Uc(x y:aY)(f:AJ)(n:Int):Bool:=match fw x.2 f,fw y.2 f with
 |some a,Z b=>decide (n<=(a.length:Int))&&(decide (n<=(b.length:Int))&&decide (Txt.slice a O (Z n)=Txt.slice b O (Z n)))
 |_,_=>false
theorem Ud(x y:aY)(f:AJ)(n:Int):iw x y f n/\iu x y f n=Uc x y f n:=by
 obtain⟨h1,h2⟩:=iz x f;obtain⟨c,d⟩:=iz y f;unfold iw iu Uc;dsimp only;rw[h2,d];cases fw x.2 f with
 |none=>exact⟨⟨h1,c,λz=>by cases z⟩,by simp⟩
 |some a=>
  cases fw y.2 f with
  |none=>exact⟨⟨h1,c,λz=>by cases z⟩,by simp⟩
  |some b=>
   refine⟨⟨h1,c,λ_=>⟨rfl,λ_=>⟨rfl,λ_=>⟨rfl,rfl⟩⟩⟩⟩,?_⟩;simp
def Ym(x y:aY)(f:AJ):Bool:=(fw x.2 f).isSome&&((fw y.2 f).isSome&&!decide (fw x.2 f=fw y.2 f))
theorem Ue(x y:aY)(f:AJ):lq x y f/\jq x y f=Ym x y f:=by
 obtain⟨h1,h2⟩:=iz x f;obtain⟨b,a⟩:=iz y f;refine⟨⟨h1,b⟩,?_⟩;unfold jq Ym;dsimp only;rw[h2,a]
theorem Yn:(("same":AJ)==("same":AJ))=true:=by decide
theorem Yo:(("begin":AJ)==("same":AJ))=false:=by decide
theorem Yp:(("begin":AJ)==("begin":AJ))=true:=by decide
theorem Yq:(("both":AJ)==("same":AJ))=false:=by decide
theorem Yr:(("both":AJ)==("begin":AJ))=false:=by decide
theorem Ys:(("both":AJ)==("both":AJ))=true:=by decide
theorem Yt:(("never":AJ)==("same":AJ))=false:=by decide
theorem Yu:(("never":AJ)==("begin":AJ))=false:=by decide
theorem Yv:(("never":AJ)==("both":AJ))=false:=by decide
theorem MO:(("never":AJ)==("never":AJ))=true:=by decide
theorem dZ(f:AJ)(w:Int)(x y:aY):aM (.tup [.str "same", .str f,.int w]) x y=JK x y f:=by
 unfold aM;rw[qe,xV,dH,Yn,zh rfl];exact(w5 x y f).2
theorem fK(f:AJ)(n w:Int)(x y:aY):aM (.tup [.str "begin", .str f,.int n,.int w]) x y=Uc x y f n:=by
 unfold aM;rw[qe,xV,Np,dH,dH,Yo,Yp,zr (),zh rfl];exact(Ud x y f n).2
theorem lW(f g:AJ)(w:Int)(x y:aY):aM (.tup [.str "both", .str f,.str g,.int w]) x y=(JK x y f&&JK x y g):=by
 unfold aM;rw[qe,xV,Np,dH,dH,dH,Yq,Yr,Ys,zr (),zr (),zh rfl];show(dM x y f&&dM x y g)=_;rw[(w5 x y f).2,(w5 x y g).2]
theorem mY(f:AJ)(x y:aY):aM (.tup [.str "never", .str f]) x y=Ym x y f:=by
 unfold aM;rw[qe,xV,dH,dH,dH,Yt,Yu,Yv,zr (),zr (),zr ()];exact(Ue x y f).2
theorem PX(a:Dt)(r:Y Dt):Bv (.tup (a::r)) (0:Int):=by
 show In (r.length+1) 0;exact B8 () ()
theorem E8(a b:Dt)(r:Y Dt):Bv (.tup (a::b::r)) (1:Int):=by
 show In (r.length+1+1) 1;exact B8 () ()
theorem GG(a b c:Dt)(r:Y Dt):Bv (.tup (a::b::c::r)) (2:Int):=by
 show In (r.length+1+1+1) 2;exact B8 () ()
theorem FG(a:Dt)(r:Y Dt):Bv (.tup (a::r)) (-(1:Int)):=by
 show In (r.length+1) (-1);exact⟨by omega,by omega⟩
theorem GK{r:Dt}(h:Rl r)(x y:aY):pU r x y:=by
 unfold pU;rcases h with⟨f,w,rfl⟩|⟨f,n,w,rfl⟩|⟨f,g,w,rfl⟩|⟨f,rfl⟩
 ·rw[qe,xV,dH,Yn];exact⟨⟨PX _ _,gH _ _⟩,λ_=>⟨⟨E8 _ _ _,rfl⟩,(w5 x y f).1⟩,λz=>by cases z⟩
 ·rw[qe,xV,Np,dH,dH,Yo,Yp];exact⟨⟨PX _ _,gH _ _⟩,(λz=>by cases z),λ_=>⟨⟨PX _ _,gH _ _⟩,λ_=>⟨⟨⟨E8 _ _ _,rfl⟩,GG _ _ _ _,rfl⟩,(Ud x y f n).1⟩,λz=>by cases z⟩⟩
 ·rw[qe,xV,Np,dH,dH,dH,Yq,Yr,Ys];exact⟨⟨PX _ _,gH _ _⟩,(λz=>by cases z),λ_=>⟨⟨PX _ _,gH _ _⟩,(λz=>by cases z),λ_=>⟨⟨PX _ _,gH _ _⟩,
   λ_=>⟨⟨⟨E8 _ _ _,rfl⟩,(w5 x y f).1⟩,λ_=>⟨⟨GG _ _ _ _,rfl⟩,(w5 x y g).1⟩⟩,λz=>by cases z⟩⟩⟩
 ·rw[qe,xV,dH,dH,dH,Yt,Yu,Yv];exact⟨⟨PX _ _,gH _ _⟩,(λz=>by cases z),λ_=>⟨⟨PX _ _,gH _ _⟩,(λz=>by cases z),λ_=>⟨⟨PX _ _,gH _ _⟩,(λz=>by cases z),λ_=>⟨⟨E8 _ _ _,rfl⟩,(Ue x y f).1⟩⟩⟩⟩
def Xi(r:Dt):Bool:=tM (f9 r 0) (Dt.str "never")
theorem yZ{r:Dt}(h:Rl r):(Bv r (0:Int)/\MK (f9 r 0) (Dt.str "never"))/\(Xi r=false->Bv r (-(1:Int))/\f9 r (-(1:Int))=eI (O9 (f9 r (-(1:Int))))):=by
 unfold Xi;rcases h with⟨f,w,rfl⟩|⟨f,n,w,rfl⟩|⟨f,g,w,rfl⟩|⟨f,rfl⟩
 ·rw[qe];exact⟨⟨PX _ _,gH _ _⟩,λ_=>⟨FG _ _,rfl⟩⟩
 ·rw[qe];exact⟨⟨PX _ _,gH _ _⟩,λ_=>⟨FG _ _,rfl⟩⟩
 ·rw[qe];exact⟨⟨PX _ _,gH _ _⟩,λ_=>⟨FG _ _,rfl⟩⟩
 ·rw[qe,dH,MO];exact⟨⟨PX _ _,gH _ _⟩,λz=>by cases z⟩
def qg(v:Y aY):Y aY:=qd eS (λx:aY=>x.1) v
theorem Ug(x:AJ):wO.kk eS x=[.inr x]:=rfl
theorem LI(a b:aY):Yg eS (λx:aY=>x.1) a b=true↔Bu a.1 b.1:=by
 unfold Yg;rw[Ug,Ug];show(!g8 [.inr b.1] [.inr a.1])=true↔ltCps b.1.cps.toList a.1.cps.toList=false;rw[qA,ltCps_eq];unfold g8 g8;split
 ·rename_i e;rw[Sum.inr.inj e];simp[KW]
 ·exact Iff.rfl
theorem iB(v:Y aY):(qg v).Perm v:=o7 v
theorem Nu{v:Y aY}(c:(v.map (·.1)).Nodup):(qg v).Pairwise λa b=>Wt a.1 b.1=true:=by
 have h1:(qg v).Pairwise λa b=>Bu a.1 b.1:=kR (λh=>(LI _ _).mp h) (o8 (e':=eS) (κ:=λx:aY=>x.1) v);have h2:((qg v).map (·.1)).Nodup:=((iB v).map _).nodup_iff.mpr c;have h2:(qg v).Pairwise λa b=>a.1≠b.1:=ay.mp h2;exact kR (λ⟨a,b⟩=>(CS _ _).mpr ⟨a,b⟩) (h1.and h2)
theorem GP{v:Y aY}(d:(v.map (·.1)).Nodup){a b:aY}(c:a∈v)(f:b∈v)(e:a.1=b.1):a=b:=by
 obtain⟨i,hi,rfl⟩:=ap.mp c;obtain⟨j,g,rfl⟩:=ap.mp f;have:=(Kk (i:=i) (j:=j) (h₀:=by rw[zg];exact hi) (h₁:=by rw[zg];exact g) d).mp (by rw[ka,ka];exact e);subst this;rfl
theorem LA{v c:Y aY}(f:(v.map (·.1)).Nodup)(p:v.Perm c):qg v=qg c:=
 TJ (e':=eS) (κ:=λx:aY=>x.1) (λa d b g e=>GP f (p.mem_iff.mpr d) (p.mem_iff.mpr g) e) ((iB v).trans p) (o8 v)
def Qa(v:Y aY)(R:Y Dt):Y (Dt×AJ×AJ×Int):=(BQ (qg v)).flatMap (tl R)
theorem Nv{v:Y aY}{R:Y Dt}(h1:v.length<=40)(h2:R.length<=20):(Qa v R).length<=32000:=by
 have a:=JH (MR R) (BQ (qg v));have b:=GJ (qg v);rw[(iB v).length_eq]at b;have c:v.length*v.length<=40*40:=bS h1 h1;have d:(BQ (qg v)).length*R.length<=1600*20:=bS () h2;unfold Qa;omega
theorem Nx{v:Y aY}{R:Y Dt}{q:Dt×AJ×AJ×Int}(h:q∈Qa v R):q.1∈R:=by
 obtain⟨p,_,a⟩:=fN.mp h;obtain⟨z,b,rfl⟩:=ag.mp a;exact(rM R 0 z (ax.mp b).1).1
def Dx(T:Y (Dt×AJ×AJ×Int)):Y (Int×AJ×AJ×Int):=(T.filter λq=>!Xi q.1).map λq=>(O9 (f9 q.1 (-(1:Int))),q.2.1,q.2.2.1,q.2.2.2)
def EL(T:Y (Dt×AJ×AJ×Int)):Y (AJ×AJ×Int):=(T.filter λq=>Xi q.1).map λq=>q.2
theorem Qc(x y:Int×AJ×AJ×Int)(h:gD x=gD y):x=y:=by
 obtain⟨a,b,c,d⟩:=x;obtain⟨f,i,c',j⟩:=y;unfold gD at h;dsimp only at h;simp only[yv]at h;obtain⟨h1,h2,e,g⟩:=h;rw[show a=f by omega,h2,e,g]
theorem NC{xs:Y (Int×AJ×AJ×Int)}(h:xs.length<=100000):pW xs:=⟨λ_ _=>trivial,h,λx _ y _ e=>Qc x y e⟩
theorem Bm(xs:Y (Int×AJ×AJ×Int)):(jL xs).Perm xs:=o7 xs
theorem lC(v:Y aY)(R:Y Dt):aD v R=((qg v).map (·.1),jL (Dx (Qa v R)),gk (Wr eS eS eI) (EL (Qa v R))):=by
 unfold aD;dsimp only;rw[GF];rfl
theorem JL{v:Y aY}{R:Y Dt}(g:(v.map (·.1)).Nodup)(h1:v.length<=40)(h2:R.length<=20)(d:∀r∈R,Rl r):dN v R:=by
 have e:=Nv h1 h2;have i:(qg v).length=v.length:=(iB v).length_eq;unfold dN;refine⟨⟨λ_ _=>trivial,by omega,g⟩,?_⟩;have td:rJ (qg v) R:=⟨λq1 _ h _ q2 a=>GK (d _ (rM R 0 q2 a).1) _ _,by
  have:=GF (qg v) R;unfold fW at this;rw[this];exact zi e ()⟩
 have f:fW (qg v) R=Qa v R:=GF _ _;have c:∀q∈fW (qg v) R,Rl q.1:=λq a=>d _ (Nx (by rw[<-f];exact a));have b:(fW (qg v) R).length<=100000:=by rw[f];exact zi e ()
 refine⟨td,⟨b,λq a=>⟨(yZ (c q a)).1,λz=>(yZ (c q a)).2 (by simpa[Xi]using z)⟩⟩,⟨b,λq a=>(yZ (c q a)).1⟩,?_,NC ?_,?_⟩
 ·show(qg v).length<=_;omega
 ·rw[zg];exact zi (qh _ _) b
 ·rw[zg];exact zi (qh _ _) b
def pr(v:Y aY)(r:Dt):Y (AJ×AJ):=((BQ (qg v)).filter λq=>aM r q.1 q.2).map λq=>(q.1.1,q.2.1)
theorem Uh{a b c d:AJ}(h:Wt a c=true\/(a=c/\Wt b d=true)):Wz (yP eS eS) (a,b) (c,d)=true:=by
 unfold Wz m9;rw[qA];show g8 [.inr c,.inr d] [.inr a,.inr b]=false;have lt:∀{x y:AJ},Wt x y=true->Ms (.inr y) (.inr x)=false/\x≠y:=λ{x y} h=>by
  unfold Wt at h;have h:=km h;refine⟨?_,λe=>by subst e;exact KW _ h⟩;show decide (y.cps.toList<x.cps.toList)=false;exact zI λh'=>KW _ (List.lt_trans h h')
 rcases h with h|⟨rfl,h⟩
 ·obtain⟨h1,h2⟩:=lt h;unfold g8;rw[zr (λe=>h2 (by cases e;rfl)),h1]
 ·obtain⟨h1,h2⟩:=lt h;unfold g8;rw[zh rfl];unfold g8;rw[zr (λe=>h2 (by cases e;rfl)),h1]
theorem Ny:∀{w:Y aY},w.Pairwise (λa b=>Wt a.1 b.1=true)->(BQ w).Pairwise λp q=>Wz (yP eS eS) (p.1.1,p.2.1) (q.1.1,q.2.1)=true
 |[],_=>List.Pairwise.nil
 |x::xs,h=>by
  obtain⟨h1,h2⟩:=am.mp h;show(xs.map (λy=>(x,y))++BQ xs).Pairwise _;refine ai.mpr ⟨ay.mpr (kR (λd=>Uh (.inr ⟨rfl,d⟩)) h2),Ny h2,λp hp q c=>?_⟩;obtain⟨y,_,rfl⟩:=ag.mp hp;exact Uh (.inl (h1 _ (pZ c).1))
theorem Nz{v:Y aY}(a:(v.map (·.1)).Nodup)(r:Dt):gk (yP eS eS) (pr v r)=pr v r:=
 (Jc (K0 _) (ay.mpr (List.Pairwise.sublist ez (Ny (Nu a))))).symm
theorem nC{e:α->Dt}[mj e]{xs ys:Y α}(h:xs.Perm ys):gk e xs=gk e ys:=Jc ((jF xs).trans h) (tW xs)
theorem Lh(p:α->Bool)(xs:Y α):((xs.filter λx=>!p x)++xs.filter p).Perm xs:=dE.trans (di p xs)
theorem NK:∀(R:Y Dt) (j:Int) (k:Nat) (r:Dt),R[k]?=Z r->(jz j R).filter (λz=>decide (z.1=j+k))=[(j+k,r)]
 |x::R,j,0,r,h=>by
  cases h;rw[jM,kb,zh (by simp)];have:(jz (j+1) R).filter (λz=>decide (z.1=j+(0:Nat)))=[]:=dt.mpr λz b=>by
   have:=(rM R (j+1) z b).2;simp only[ZA];omega
  rw[this];simp
 |x::R,j,k+1,r,h=>by
  have a:=NK R (j+1) k r h;rw[jM,kb,zr (by simp only[ZA];omega)];rw[show j+((k+1:Nat):Int)=j+1+(k:Int) by omega];exact a
theorem yd{α β:Type}(p:β->Bool)(g:α->Y β):∀xs:Y α,(xs.flatMap g).filter p=xs.flatMap λx=>(g x).filter p
 |[]=>rfl
 |x::xs=>by rw[jb,eK,yd p g xs,jb]
theorem NP{α β:Type}(c:α->Bool)(f:α->β):∀xs:Y α,(xs.flatMap λx=>if c x=true then[f x]else[])=(xs.filter c).map f
 |[]=>rfl
 |x::xs=>by
  rw[jb,NP c f xs,kb];cases c x<;>rfl
theorem NJ{v:Y aY}{R:Y Dt}{r:Dt}(h:R[k]?=Z r):((Qa v R).filter λq=>decide (q.2.2.2=(k:Int))).map (λq=>(q.2.1,q.2.2.1))=pr v r:=by
 unfold Qa pr;rw[yd];have e:∀q:PR,(tl R q).filter (λq=>decide (q.2.2.2=(k:Int)))=if aM r q.1 q.2=true then[(r,(q.1.1,q.2.1,(k:Int)))]else[]:=λq=>by
  unfold tl;rw[KL,QN];have:(λz:Int×Dt=>((λq:Dt×AJ×AJ×Int=>decide (q.2.2.2=(k:Int))) ∘ λz:Int×Dt=>(z.2,(q.1.1,q.2.1,z.1))) z&&aM z.2 q.1 q.2)=λz=>aM z.2 q.1 q.2&&decide (z.1=0+(k:Int)):=by
   funext z;show(decide (z.1=(k:Int))&&_)=_;rw[kL,dc]
  rw[this,<-QN,NK R 0 k r h,kb];show bg _ (if aM r q.1 q.2=true then _ else _)=_;split
  ·simp
  ·rfl
 rw[show((BQ (qg v)).flatMap λq=>(tl R q).filter λq=>decide (q.2.2.2=(k:Int)))=(BQ (qg v)).flatMap (λq=>if aM r q.1 q.2=true then[(r,(q.1.1,q.2.1,(k:Int)))]else[]) from congrArg (λg=>(BQ (qg v)).flatMap g) (funext e)];rw[NP (λq:PR=>aM r q.1 q.2) (λq=>(r,(q.1.1,q.2.1,(k:Int)))),ZU];rfl
theorem DP{v:Y aY}{R:Y Dt}{r:Dt}(h:R[k]?=Z r):((((aD v R).2.1.filter λq=>decide (q.2.2.2=(k:Int))).map λq=>(q.2.1,q.2.2.1))++(((aD v R).2.2.filter λq=>decide (q.2.2=(k:Int))).map λq=>(q.1,q.2.1))).Perm (pr v r):=by
 rw[lC,<-NJ (v:=v) h];have a:=((((Bm (Dx (Qa v R))).filter λq=>decide (q.2.2.2=(k:Int))).map λq=>(q.2.1,q.2.2.1)).append (((jF (e:=Wr eS eS eI) (EL (Qa v R))).filter λq=>decide (q.2.2=(k:Int))).map λq=>(q.1,q.2.1)));refine a.trans ?_;unfold Dx EL;rw[KL,KL,ZU,ZU];generalize Qa v R=T;have b:=Lh (λq:Dt×AJ×AJ×Int=>Xi q.1) (T.filter λq=>decide (q.2.2.2=(k:Int)));have c:=b.map λq=>(q.2.1,q.2.2.1);rw[ZT,QN,QN]at c;refine List.Perm.trans (List.Perm.of_eq ?_) c;rw[QN,QN];refine DD (f:=λx y=>x++y) (congrArg (bg _) (congrArg (λf=>e6 f T) (funext λq=>?_))) (congrArg (bg _) (congrArg (λf=>e6 f T) (funext λq=>?_)))
 ·exact kL _ _
 ·exact kL _ _
open S1 S6
theorem FU{v:Y aY}{r:Dt}{q:Dt×AJ×AJ×Int}(h:q∈Qa v [r]):q.1=r/\q.2.2.2=0:=by
 refine⟨af.mp (Nx h),?_⟩;obtain⟨p,_,a⟩:=fN.mp h;obtain⟨z,b,rfl⟩:=ag.mp a;have:z∈jz 0 [r]:=(ax.mp b).1;rw[jM]at this;rcases List.mem_cons.mp this with rfl|h
 ·rfl
 ·cases h
theorem Fc{v:Y aY}{r:Dt}{q:Int×AJ×AJ×Int}(h:q∈(aD v [r]).2.1):q.1=O9 (f9 r (-(1:Int)))/\q.2.2.2=0/\Xi r=false:=by
 rw[lC]at h;have h:=(Bm _).mem_iff.mp h;obtain⟨z,a,rfl⟩:=ag.mp h;obtain⟨h1,h2⟩:=ax.mp a;obtain⟨e1,e2⟩:=FU h1;rw[e1]at h2;exact⟨by dsimp only;rw[e1],e2,by simpa using h2⟩
theorem Go{v:Y aY}{r:Dt}{q:AJ×AJ×Int}(h:q∈(aD v [r]).2.2):q.2.2=0/\Xi r=true:=by
 rw[lC]at h;have h:=(jF _).mem_iff.mp h;obtain⟨z,a,rfl⟩:=ag.mp h;obtain⟨h1,h2⟩:=ax.mp a;obtain⟨e1,e2⟩:=FU h1;rw[e1]at h2;exact⟨e2,h2⟩
theorem Yw{v:Y aY}{R:Y Dt}(h1:v.length<=40)(h2:R.length<=20):(aD v R).2.1.length<=32000/\(aD v R).2.2.length<=32000:=by
 have:=Nv h1 h2;rw[lC];constructor
 ·show(jL _).length<=_;rw[(Bm _).length_eq];unfold Dx;rw[zg];exact zi (qh _ _) this
 ·show(gk _ _).length<=_;rw[(jF _).length_eq];unfold EL;rw[zg];exact zi (qh _ _) this
theorem JM{p:α->Bool}{xs:Y α}(h:∀x∈xs,p x=true):xs.filter p=xs:=ba.mpr h
theorem Xj(v:Y aY)(r:Dt):(((aD v [r]).2.1.map λq=>(q.2.1,q.2.2.1))++((aD v [r]).2.2.map λq=>(q.1,q.2.1))).Perm (pr v r):=by
 have h:=DP (v:=v) (R:=[r]) (k:=0) (r:=r) rfl;have a1:((aD v [r]).2.1.filter λq=>decide (q.2.2.2=((0:Nat):Int)))=(aD v [r]).2.1:=JM λq a=>z5 (Fc a).2.1;have a2:((aD v [r]).2.2.filter λq=>decide (q.2.2=((0:Nat):Int)))=(aD v [r]).2.2:=JM λq a=>z5 (Go a).1;rw[a1,a2]at h;exact h
theorem Xk(a b:Int):tM (.int a) (.int b)=decide (a=b):=by
 show(uy (.int a) (.int b)).getD false=_;by_cases h:a=b
 ·subst h;simp[uy]
 ·simp[uy,h]
theorem Xl(a b:Int):MK (.int a) (.int b):=⟨by rfl,by simp[rP]⟩
theorem fU{v:Y aY}{r:Dt}(k:(v.map (·.1)).Nodup)(h1:v.length<=40)(i:Rl r):bV v r/\aG v r=Z (pr v r):=by
 have o:=JL k h1 (R:=[r]) (by simp) λq c=>by rw[af.mp c];exact i
 obtain⟨t,u⟩:=Yw h1 (R:=[r]) (by simp);have d:=Xj v r;obtain⟨⟨e1,e2⟩,e3⟩:=yZ i;have g:=λq=>Fc (v:=v) (r:=r) (q:=q);have j:=λq=>Go (v:=v) (r:=r) (q:=q);generalize s:aD v [r]=G at *
 obtain⟨N,p,y⟩:=G;dsimp only at t u d g j;have l:∀{xs:Y (AJ×AJ)},xs.Perm (pr v r)->gk (yP eS eS) xs=pr v r:=λh=>(nC h).trans (Nz k r);unfold bV aG;rw[s];dsimp only;cases e:Xi r with
 |true=>
  have f:tM (f9 r 0) (Dt.str "never")=true:=e;have:p=[]:=bu.mpr λq c=>by have:=(g q c).2.2;rw[e]at this;cases this
  subst this;rw[f,zh rfl];refine⟨⟨o,⟨e1,e2⟩,λ_=>⟨⟨⟨by omega,by simp⟩,zi (show _<=100000 by rw[zg,zg];simp;omega) ()⟩,by rw[zC,zg,zg];simp;omega⟩,λz=>by cases z⟩,?_⟩;rw[Q3,qa];rw[Q3,KG]at d;exact congrArg Z (l d)
 |false=>
  have f:tM (f9 r 0) (Dt.str "never")=false:=e;have:y=[]:=bu.mpr λq c=>by have:=(j q c).2;rw[e]at this;cases this
  subst this;obtain⟨x,n⟩:=e3 e;have w:(p.map λm:Int×AJ×AJ×Int=>((tM (eI m.1) (f9 r (-(1:Int))))&&(decide (m.2.2.2=0)))).all id=true:=by
   rw[cE,qk];intro q c;obtain⟨a,b,_⟩:=g q c;show(tM (eI q.1) (f9 r (-(1:Int)))&&decide (q.2.2.2=0))=true;rw[a,b,n];show(tM (.int (O9 (f9 r (-(1:Int))))) (.int (O9 (f9 r (-(1:Int)))))&&_)=true;rw[Xk];simp
  have hd:(!decide (([]:Y (AJ×AJ×Int))=[]))=false:=by simp
  rw[f,zr (),w,hd];refine⟨⟨o,⟨e1,e2⟩,(λz=>by cases z),λ_=>⟨λ_=>⟨by omega,λq c=>⟨x,by rw[n];exact Xl _ _⟩⟩,λ_=>⟨by omega,by rw[zg];omega⟩⟩⟩,?_⟩;rw[zr ()];rw[Q3,qa]at d;exact congrArg Z (l d)
theorem GQ{v:Y aY}{r:Dt}(b:(v.map (·.1)).Nodup){q:PR}(h:q∈BQ (qg v)):(q.1.1,q.2.1)∈pr v r↔aM r q.1 q.2=true:=by
 constructor
 ·intro c;obtain⟨z,d,e⟩:=ag.mp c;obtain⟨h1,h2⟩:=ax.mp d;obtain⟨a1,a2⟩:=pZ h1;obtain⟨b1,b2⟩:=pZ h;have a:=λ{x:aY} (hx:x∈qg v)=>(iB v).mem_iff.mp hx;have f1:=GP b (a a1) (a b1) (congrArg (λz:AJ×AJ=>z.1) e);have f2:=GP b (a a2) (a b2) (congrArg (λz:AJ×AJ=>z.2) e);rw[<-f1,<-f2];exact h2
 ·exact λf=>ag.mpr ⟨q,ax.mpr ⟨h,f⟩,rfl⟩
theorem JN{v:Y aY}{r:Dt}{x:AJ×AJ}(h:x∈pr v r):∃q∈BQ (qg v),aM r q.1 q.2=true/\x=(q.1.1,q.2.1):=by
 obtain⟨z,a,e⟩:=ag.mp h;obtain⟨h1,h2⟩:=ax.mp a;exact⟨z,h1,h2,e.symm⟩
theorem w6{v:Y aY}{q:PR}(h:q∈BQ (qg v)):q.1∈v/\q.2∈v:=⟨(iB v).mem_iff.mp (pZ h).1,(iB v).mem_iff.mp (pZ h).2⟩
theorem Bp{v:Y aY}(h1:v.length<=40)(r:Dt):(pr v r).length<=1600:=by
 unfold pr;rw[zg];have b:=GJ (qg v);rw[(iB v).length_eq]at b;have c:v.length*v.length<=40*40:=bS h1 h1;exact zi (qh _ _) ()
theorem DR{v:Y aY}{r a:Dt}{p:AJ×AJ->Bool}(h:∀q∈BQ (qg v),aM a q.1 q.2=(aM r q.1 q.2&&p (q.1.1,q.2.1))):pr v a=(pr v r).filter p:=by
 unfold pr;rw[KL,QN];refine congrArg (bg _) (kn λq b=>?_);rw[h q b,kL];rfl
theorem LX{b:Y (AJ×α)}(g:(b.map (·.1)).Nodup):X6 b=b:=by
 unfold X6;have:∀(ps a:Y (AJ×α)),((a++ps).map (·.1)).Nodup->ps.foldl (λa p=>put a p.1 p.2) a=a++ps:=by
  intro ps
  induction ps with
  |nil=>intro a _;rw[qa];rfl
  |cons q ps d=>
   intro a h;have c:has a q.1=false:=by
    unfold has;rw[eW];intro z f;rw[ZA];intro e;rw[ZT,List.nodup_append]at h;exact h.2.2 _ (kG f) _ (kG (zt ..)) e
   have hp:put a q.1 q.2=a++[q]:=by unfold put;rw[c,zr ()]
   rw[kg,hp,d _ (by rw[ZE];exact h),ZE];rfl
 exact(this b [] g).trans (KG _)
theorem Ui[Inhabited α]{b:Y (AJ×α)}(c:(b.map (·.1)).Nodup){q:AJ×α}(h:q∈b):has b q.1=true/\look b q.1=q.2:=by
 refine⟨List.any_eq_true.mpr ⟨q,h,by simp⟩,?_⟩;unfold look;have:b.find? (λz=>decide (z.1=q.1))=Z q:=by
  induction b with
  |nil=>cases h
  |cons a b d=>
   rw[zv,bb]at c;rw[jv];rcases List.mem_cons.mp h with e|e
   ·subst e;simp
   ·have:a.1≠q.1:=λz=>c.1 (by rw[z];exact kG e);rw[zI this];exact d c.2 e
 rw[this];rfl
theorem Uj(a:Int)(n:Nat):rng a (n+1)=a::rng (a+1) n:=by
 unfold rng;rw[be,zv,ZU];refine DD (f:=List.cons) (by simp) (KP λk _=>?_);show a+((k+1:Nat):Int)=a+1+(k:Int);omega
theorem Bq{σ τ:Type}{step:σ->Int->oh σ τ}{P:σ->Int->S Prop}(g:Int->σ):∀(n:Nat) (a:Int),(∀k:Int,a<=k->k<a+n->B5 (P (g k) k)/\step (g k) k=.nx (g (k+1)))->ju step (rng a n) (g a)=.nx (g (a+n))/\nT step P (rng a n) (g a)
 |0,a,_=>⟨by simp[rng,ju],trivial⟩
 |n+1,a,h=>by
  obtain⟨h1,h2⟩:=h a (eX _) ();obtain⟨i1,i2⟩:=Bq g n (a+1) λk b c=>h k () ();rw[Uj];unfold ju nT;rw[h2];refine⟨?_,h1,i2⟩;rw[show a+((n+1:Nat):Int)=a+1+(n:Int) by omega];exact i1
open S1 S6
abbrev nD(f:AJ)(w:Int):Dt:=Dt.tup [(Dt.str "same"),(eS f),(eI w)]
abbrev rN(f:AJ)(n w:Int):Dt:=Dt.tup [(Dt.str "begin"),(eS f),(eI n),(eI w)]
abbrev NQ(f g:AJ)(w:Int):Dt:=Dt.tup [(Dt.str "both"),(eS f),(eS g),(eI w)]
abbrev Qk(f:AJ):Dt:=Dt.tup [(Dt.str "never"),(eS f)]
theorem Qd(f:AJ)(w:Int):Rl (nD f w):=.inl ⟨f,w,rfl⟩
theorem Xm(f:AJ)(n w:Int):Rl (rN f n w):=.inr (.inl ⟨f,n,w,rfl⟩)
theorem jk(f g:AJ)(w:Int):Rl (NQ f g w):=.inr (.inr (.inl ⟨f,g,w,rfl⟩))
theorem GS(f:AJ):Rl (Qk f):=.inr (.inr (.inr ⟨f,rfl⟩))
theorem mZ(x y:aY)(f:AJ)(n:Nat):Uc x y f (n:Int)=true↔∃a b,fw x.2 f=Z a/\fw y.2 f=Z b/\n<=a.length/\n<=b.length/\(cs a).take n=(cs b).take n:=by
 unfold Uc;cases fw x.2 f with
 |none=>simp
 |some a=>
  cases fw y.2 f with
  |none=>simp
  |some b=>
   simp only[ZH,ZA,Option.some.injEq];constructor
   ·rintro⟨h1,h2,c⟩;have h1:n<=a.length:=by omega
    have h2:n<=b.length:=by omega
    exact⟨a,b,rfl,rfl,h1,h2,by rw[<-vH h1,<-vH h2,c]⟩
   ·rintro⟨d,e,rfl,rfl,h1,h2,c⟩;exact⟨by omega,by omega,TX (by rw[vH h1,vH h2,c])⟩
theorem Uk{x y:aY}{f:AJ}(h:m<=n)(d:Uc x y f (n:Int)=true):Uc x y f (m:Int)=true:=by
 obtain⟨a,b,e1,e2,h1,h2,c⟩:=(mZ x y f n).mp d;refine(mZ x y f m).mpr ⟨a,b,e1,e2,by omega,by omega,?_⟩;have:=congrArg (List.take m) c;rwa [dz,dz,bq h]at this
theorem p7(x y:aY)(f:AJ):JK x y f=true↔∃a,fw x.2 f=Z a/\fw y.2 f=Z a:=by
 unfold JK;cases fw x.2 f with
 |none=>simp
 |some a=>simp[eq_comm]
theorem Xn{x y:aY}{f a:AJ}(h:JK x y f=true)(c:fw x.2 f=Z a)(b:n<=a.length):Uc x y f (n:Int)=true:=by
 obtain⟨d,e1,e2⟩:=(p7 x y f).mp h;rw[c]at e1;cases e1;exact(mZ x y f n).mpr ⟨a,a,c,e2,b,b,rfl⟩
theorem Br(x y:aY)(f:AJ):JK x y f=JK y x f:=by
 rw[jI,p7,p7];exact⟨λ⟨a,h1,h2⟩=>⟨a,h2,h1⟩,λ⟨a,h1,h2⟩=>⟨a,h2,h1⟩⟩
theorem Ul(x y:aY)(f:AJ)(n:Nat):Uc x y f (n:Int)=Uc y x f (n:Int):=by
 rw[jI,mZ,mZ];exact⟨λ⟨a,b,h1,h2,h3,h4,h5⟩=>⟨b,a,h2,h1,h4,h3,h5.symm⟩,λ⟨a,b,h1,h2,h3,h4,h5⟩=>⟨b,a,h2,h1,h4,h3,h5.symm⟩⟩
theorem Um(x y:aY)(f:AJ):Ym x y f=Ym y x f:=by
 unfold Ym;cases fw x.2 f<;>cases fw y.2 f<;>simp[eq_comm]
structure Vk (v:List aY):Prop where
 nd:(v.map (·.1)).Nodup
 ln:v.length<=40
 wd:∀x∈v,∀q∈x.2,q.2.length<=12
theorem MY{b:Y (AJ×AJ)}{f a:AJ}(h:fw b f=Z a):∃q∈b,q.2=a:=by
 unfold fw at h;cases e:b.find? λq=>decide (q.1=f)with
 |none=>rw[e]at h;cases h
 |some q=>rw[e]at h;cases h;exact⟨q,List.mem_of_find?_eq_some e,rfl⟩
theorem Vk.len{v:Y aY}(V:Vk v){x:aY}(h:x∈v){f a:AJ}(e:fw x.2 f=Z a):a.length<=12:=by
 obtain⟨q,b,rfl⟩:=MY e;exact V.wd x h q b
theorem HK{v:Y aY}(V:Vk v){x y:aY}(hx:x∈v)(d:y∈v)(f:AJ):Uc x y f 12=(JK x y f&&decide ((((fw x.2 f).getD default).length:Int)=12)):=by
 rw[jI,show(12:Int)=((12:Nat):Int) from rfl,mZ,ZH,p7,ZA];constructor
 ·rintro⟨a,b,e1,e2,h1,h2,c⟩;have g:=V.len hx e1;have e:=V.len d e2;rw[ZY (by rw[<-TY];omega),ZY (by rw[<-TY];omega)]at c;have:=TX c;subst this;exact⟨⟨a,e1,e2⟩,by rw[e1];show(a.length:Int)=_;omega⟩
 ·rintro⟨⟨a,e1,e2⟩,h⟩;rw[e1]at h;have h:(a.length:Int)=((12:Nat):Int):=h;exact⟨a,a,e1,e2,by omega,by omega,rfl⟩
abbrev LK(v:Y aY)(f:AJ):Y (AJ×S AJ):=X6 (v.map λa:aY=>(a.1,(bH a f)))
theorem JQ{v:Y aY}(V:Vk v)(f:AJ){x:aY}(h:x∈v):has (LK v f) x.1=true/\look (LK v f) x.1=fw x.2 f:=by
 have b:((v.map λa:aY=>(a.1,(bH a f))).map (·.1)).Nodup:=by rw[ZU];exact V.nd
 unfold LK;rw[LX b];have:=Ui b (kG (f:=λa:aY=>(a.1,(bH a f))) h);exact⟨this.1,this.2.trans (iz x f).2⟩
theorem ux{v:Y aY}(V:Vk v){f:AJ}{r:Dt}(d:∀x y,aM r x y=true->(fw x.2 f).isSome=true/\(fw y.2 f).isSome=true){c:AJ×AJ}(h:c∈pr v r):(has (LK v f) c.1=true/\(look (LK v f) c.1).isSome=true)/\has (LK v f) c.2=true/\(look (LK v f) c.2).isSome=true:=by
 obtain⟨q,h1,h2,rfl⟩:=JN h;obtain⟨a1,a2⟩:=w6 h1;obtain⟨b1,b2⟩:=JQ V f a1;obtain⟨b,a⟩:=JQ V f a2;have:=d _ _ h2;exact⟨⟨b1,by rw[b2];exact this.1⟩,b,by rw[a];exact this.2⟩
theorem JR(f:AJ)(w:Int)(x y:aY)(h:aM (nD f w) x y=true):(fw x.2 f).isSome=true/\(fw y.2 f).isSome=true:=by
 rw[show aM (nD f w) x y=_ from dZ f w x y]at h;obtain⟨a,e1,e2⟩:=(p7 x y f).mp h;rw[e1,e2];exact⟨rfl,rfl⟩
theorem Uo(f:AJ)(n:Nat)(w:Int)(x y:aY)(h:aM (rN f n w) x y=true):(fw x.2 f).isSome=true/\(fw y.2 f).isSome=true:=by
 rw[show aM (rN f n w) x y=_ from fK f n w x y]at h;obtain⟨a,b,e1,e2,_⟩:=(mZ x y f n).mp h;rw[e1,e2];exact⟨rfl,rfl⟩
theorem all_map{α:Type}{p:α->Bool}{xs:Y α}(h:∀x∈xs,p x=true):(xs.map p).all id=true:=by
 rw[cE,qk];exact h
theorem Li{v:Y aY}(V:Vk v)(f:AJ)(w:Int)(h1:m<=k):cL v f w (LK v f) (Z (pr v (nD f w))) (Z (pr v (rN f m w))) (k:Int) ∧
  bB v f w (LK v f) (Z (pr v (nD f w))) (Z (pr v (rN f m w))) (k:Int)=.nx (Z (pr v (rN f k w))):=by
 obtain⟨p1,p2⟩:=fU V.nd V.ln (Xm f k w);have i:=Bp V.ln (rN f k w);have g:=Bp V.ln (nD f w);have a1:((pr v (rN f k w)).map λd:AJ×AJ=>(kE d (pr v (rN f m w)))).all id=true:=all_map λc e=>by
  obtain⟨q,q1,q2,rfl⟩:=JN e;rw[vA,GQ V.nd q1,show aM (rN f m w) q.1 q.2=_ from fK f m w _ _];rw[show aM (rN f k w) q.1 q.2=_ from fK f k w _ _]at q2;exact Uk h1 q2
 have j:∀{q:PR},q∈BQ (qg v)->look (LK v f) q.1.1=fw q.1.2 f/\look (LK v f) q.2.1=fw q.2.2 f:=λh=>⟨(JQ V f (w6 h).1).2,(JQ V f (w6 h).2).2⟩;have a2:((((pr v (nD f w)).filter λd:AJ×AJ=>(decide ((k:Int)<=(((look (LK v f) d.1).getD default).length:Int)))).map λd:AJ×AJ=>d).map λd:AJ×AJ=>(kE d (pr v (rN f k w)))).all id=true:=all_map λc e=>by
  rw[de]at e;obtain⟨e,hk⟩:=ax.mp e;obtain⟨q,q1,q2,rfl⟩:=JN e;rw[show aM (nD f w) q.1 q.2=_ from dZ f w _ _]at q2;rw[vA,GQ V.nd q1,show aM (rN f k w) q.1 q.2=_ from fK f k w _ _];rw[(j q1).1]at hk;obtain⟨a,e1,e2⟩:=(p7 _ _ f).mp q2;rw[e1]at hk;have hk:(k:Int)<=(a.length:Int):=km hk;exact Xn q2 e1 ()
 have l:((pr v (rN f k w)).map λd:AJ×AJ=>(decide ((k:Int)<=(if(((look (LK v f) d.2).getD default).length:Int)<(((look (LK v f) d.1).getD default).length:Int)then(((look (LK v f) d.2).getD default).length:Int)else(((look (LK v f) d.1).getD default).length:Int))))).all id=true:=all_map λc e=>by
  obtain⟨q,q1,q2,rfl⟩:=JN e;rw[show aM (rN f k w) q.1 q.2=_ from fK f k w _ _]at q2;obtain⟨a,b,e1,e2,h1,h2,_⟩:=(mZ _ _ f k).mp q2;rw[(j q1).1,(j q1).2,e1,e2];show decide ((k:Int)<=(if(b.length:Int)<(a.length:Int)then(b.length:Int)else(a.length:Int)))=true;rw[ZA];split<;>omega
 unfold cL bB;dsimp only;rw[show aG v (Dt.tup [(Dt.str "begin"),(eS f),(eI (k:Int)),(eI w)])=_ from p2];have c1:((Z (pr v (rN f k w))).isNone||(!((((Z (pr v (rN f k w))).getD default).map λd:AJ×AJ=>(kE d ((Z (pr v (rN f m w))).getD default))).all id)))=false:=by
  show(false||!(((pr v (rN f k w)).map λd:AJ×AJ=>(kE d (pr v (rN f m w)))).all id))=false;rw[a1];rfl
 have c2:(!((((((Z (pr v (nD f w))).getD default).filter λd:AJ×AJ=>(decide ((k:Int)<=(((look (LK v f) d.1).getD default).length:Int)))).map λd:AJ×AJ=>d).map λd:AJ×AJ=>(kE d ((Z (pr v (rN f k w))).getD default))).all id))=false:=by
  show(!(((((pr v (nD f w)).filter λd:AJ×AJ=>(decide ((k:Int)<=(((look (LK v f) d.1).getD default).length:Int)))).map λd:AJ×AJ=>d).map λd:AJ×AJ=>(kE d (pr v (rN f k w)))).all id))=false;rw[a2];rfl
 have n:(!((((Z (pr v (rN f k w))).getD default).map λd:AJ×AJ=>(decide ((k:Int)<=(if(((look (LK v f) d.2).getD default).length:Int)<(((look (LK v f) d.1).getD default).length:Int)then(((look (LK v f) d.2).getD default).length:Int)else(((look (LK v f) d.1).getD default).length:Int))))).all id))=false:=by
  show(!(((pr v (rN f k w)).map λd:AJ×AJ=>(decide ((k:Int)<=(if(((look (LK v f) d.2).getD default).length:Int)<(((look (LK v f) d.1).getD default).length:Int)then(((look (LK v f) d.2).getD default).length:Int)else(((look (LK v f) d.1).getD default).length:Int))))).all id))=false;rw[l];rfl
 rw[c1,c2,n];have i:((Z (pr v (rN f k w))).getD default).length<=100000:=zi i ();have g:((Z (pr v (nD f w))).getD default).length<=100000:=zi g ();refine⟨⟨p1,λ_=>⟨⟨rfl,i⟩,λ_ _=>Y3⟩,λ_=>⟨⟨⟨rfl,g⟩,λc e=>(ux V (JR f w) e).1⟩,⟨?_,λ_ _=>Y3⟩,λ_=>⟨⟨rfl,i⟩,λc e=>ux V (Uo f k w) e⟩⟩⟩,?_⟩
 ·rw[de];exact zi (qh _ _) g
 ·rfl
theorem yx{v:Y aY}(V:Vk v)(f:AJ)(w:Int):dY v f w/\cP v f w=true:=by
 obtain⟨i,n⟩:=fU V.nd V.ln (Qd f w);obtain⟨b1,b2⟩:=fU V.nd V.ln (Xm f 1 w);obtain⟨c1,c2⟩:=fU V.nd V.ln (Xm f 12 w);have t:=V.ln;have o:=Bp V.ln (nD f w);obtain⟨d,g⟩:=Bq (step:=λ(a:(S (Y (AJ×AJ)))) (b:Int)=>((bB v f w (LK v f) (Z (pr v (nD f w))) a b):oh ((S (Y (AJ×AJ)))) Bool)) (P:=λ(a:(S (Y (AJ×AJ)))) (b:Int)=>Z (cL v f w (LK v f) (Z (pr v (nD f w))) a b))
  (λk=>Z (pr v (rN f ((max 1 (k.toNat-1):Nat):Int) w))) 5 1 λk p s=>by
   have:=Li V f w (m:=max 1 (k.toNat-1)) (k:=k.toNat) ();rw[KS ()]at this;rw[show max 1 ((k+1).toNat-1)=k.toNat by omega,KS ()];exact this
 have l:pr v (rN f 12 w)=((pr v (nD f w)).filter λh:AJ×AJ=>(decide ((((look (LK v f) h.1).getD default).length:Int)=12))).map λh:AJ×AJ=>h:=by
  rw[de];refine DR λq e=>?_;rw[show aM (rN f 12 w) q.1 q.2=_ from fK f 12 w _ _,show aM (nD f w) q.1 q.2=_ from dZ f w _ _,HK V (w6 e).1 (w6 e).2 f,(JQ V f (w6 e).1).2]
 unfold dY cP;dsimp only;rw[show aG v (Dt.tup [(Dt.str "same"),(eS f),(eI w)])=_ from n,show aG v (Dt.tup [(Dt.str "begin"),(eS f),(Dt.int 1),(eI w)])=_ from b2,show aG v (Dt.tup [(Dt.str "begin"),(eS f),(Dt.int 12),(eI w)])=_ from c2];have d:ju (λ(a:(S (Y (AJ×AJ)))) (b:Int)=>((bB v f w (LK v f) (Z (pr v (nD f w))) a b):oh ((S (Y (AJ×AJ)))) Bool)) (rng 1 ((6:Int)-1).toNat) (Z (pr v (rN f 1 w)))=_:=d;have g:nT (λ(a:(S (Y (AJ×AJ)))) (b:Int)=>((bB v f w (LK v f) (Z (pr v (nD f w))) a b):oh ((S (Y (AJ×AJ)))) Bool)) (λ(a:(S (Y (AJ×AJ)))) (b:Int)=>Z (cL v f w (LK v f) (Z (pr v (nD f w))) a b)) (rng 1 ((6:Int)-1).toNat) (Z (pr v (rN f 1 w))):=g;constructor
 ·refine⟨⟨⟨by omega,λx _=>(iz x f).1⟩,by rw[zg];omega⟩,i,b1,⟨⟨vB () (),vB () ()⟩,g⟩,?_⟩;rw[d];exact⟨c1,⟨rfl,by show(pr v (nD f w)).length<=_;omega⟩,λc j=>(ux V (JR f w) j).1⟩
 ·rw[d];show decide (Z (pr v (rN f 12 w))=Z _)=true;rw[l];exact z5 rfl
open S1 S6
theorem Xo{v:Y aY}(V:Vk v)(f g:AJ)(w:Int):pr v (NQ f g w)=((pr v (nD f w)).filter λc:AJ×AJ=>(kE c (pr v (nD g w)))).map λc:AJ×AJ=>c:=by
 rw[de];refine DR λq d=>?_;rw[show aM (NQ f g w) q.1 q.2=_ from lW f g w _ _,show aM (nD f w) q.1 q.2=_ from dZ f w _ _];refine DD (f:=λa b=>a&&b) Y3 ?_;rw[jI,vA,GQ V.nd d,show aM (nD g w) q.1 q.2=_ from dZ g w _ _]
theorem JT{v:Y aY}{r a:Dt}(h:∀x y,aM r x y=aM a x y):pr v r=pr v a:=by
 unfold pr;exact congrArg (bg _) (kn λq _=>h _ _)
theorem Qe(v:Y aY)(f g:AJ)(w:Int):pr v (NQ g f 1)=pr v (NQ f g w):=JT λx y=>by
 rw[show aM (NQ g f 1) x y=_ from lW g f 1 x y,show aM (NQ f g w) x y=_ from lW f g w x y,kL]
theorem Uq(v:Y aY)(f:AJ)(w:Int):pr v (nD f 1)=pr v (nD f w):=JT λx y=>by
 rw[show aM (nD f 1) x y=_ from dZ f 1 x y,show aM (nD f w) x y=_ from dZ f w x y]
def pp:Au->Y (AJ×AJ)
 |[]=>[]
 |x::xs=>xs.map (λy=>(x,y))++pp xs
theorem NT(z:AJ):∀L:Au,(pp (L++[z])).Perm (pp L++L.map λy=>(y,z))
 |[]=>K0 _
 |x::xs=>by
  show((xs++[z]).map (λy=>(x,y))++pp (xs++[z])).Perm ((xs.map (λy=>(x,y))++pp xs)++((x,z)::xs.map λy=>(y,z)));rw[ZT,ZE,ZE];refine List.Perm.append_left _ ?_;show((x,z)::pp (xs++[z])).Perm _;exact((NT z xs).cons _).trans fA.symm
theorem Ur(n:Nat):rng 0 (n+1)=rng 0 n++[(n:Int)]:=by
 unfold rng;rw[List.range_succ,ZT];simp
theorem JV(L:Au):∀n:Nat,n<=L.length->(rng 0 n).map (As L)=L.take n
 |0,_=>by simp[rng]
 |n+1,h=>by
  rw[Ur,ZT,JV L n (),List.map_singleton,wI L n (),JU ()]
theorem No(L:Au)(d:L.length<=40):wG (λ(a:(Y (AJ×AJ))) (b:Int)=>(bJ L a b)) (λ(a:(Y (AJ×AJ))) (b:Int)=>Z (eY L a b)) (rng 0 (L.length:Int).toNat) [] ∧
  ((rng 0 (L.length:Int).toNat).foldl (λ(a:(Y (AJ×AJ))) (b:Int)=>(bJ L a b)) []).Perm (pp L)/\((rng 0 (L.length:Int).toNat).foldl (λ(a:(Y (AJ×AJ))) (b:Int)=>(bJ L a b)) []).length<=1600:=by
 rw[JS];have lp:=nU (P:=λf k=>Z (eY L f k)) (step:=λf k=>bJ L f k) (λk (s:Y (AJ×AJ))=>s.Perm (pp (L.take k))/\s.length<=k*40) L.length [] ⟨by rw[dA];exact K0 _,by simp⟩ λk s hk h=>by
  obtain⟨h1,h2⟩:=h;have e:(rng 0 (k:Int).toNat).map (λg:Int=>((As L g),(As L (k:Int))))=(L.take k).map λy=>(y,L[k]):=by
   rw[JS,<-JV L k (),ZU,wI L k hk];rfl
  have c:((L.take k).map λy=>(y,L[k])).length<=40:=by rw[zg,ZZ];omega
  have i:s.length<=1600:=by have:k*40<=40*40:=ef 40 ();omega
  refine⟨⟨⟨⟨vB () (),by rw[kJ];omega⟩,λl c=>?_⟩,?_⟩,?_,?_⟩
  ·have:=Nb c;exact⟨B8 this.1 (),B8 () ()⟩
  ·rw[e];exact zi (show _<=2000 by omega) ()
  ·show(s++_).Perm _;rw[e,JU hk];exact(h1.append_right _).trans (NT _ _).symm
  ·show(s++_).length<=_;rw[e,zC,KU];omega
 refine⟨lp.1,?_,?_⟩
 ·have:=lp.2.1;rwa [List.take_length]at this
 ·have:=lp.2.2;have h:L.length*40<=40*40:=ef 40 d;exact zi this h
theorem Bt(p:aY->Bool):∀w:Y aY,BQ (w.filter p)=(BQ w).filter λq=>p q.1&&p q.2
 |[]=>rfl
 |x::xs=>by
  show BQ (e6 p (x::xs))=(xs.map (λy=>(x,y))++BQ xs).filter _;rw[eK,<-Bt p xs,KL,kb];cases hx:p x with
  |true=>
   rw[zh rfl];show(xs.filter p).map (λy=>(x,y))++BQ (xs.filter p)=_;refine DD (f:=λa b=>a++b) (congrArg (bg _) (kn λy _=>?_)) rfl;show p y=(p x&&p y);rw[hx];rfl
  |false=>
   rw[zr ()];have:(xs.filter ((λq:PR=>p q.1&&p q.2) ∘ λy=>(x,y)))=[]:=dt.mpr λy _=>by
    show ¬ (p x&&p y)=true;rw[hx];simp
   rw[this];rfl
theorem Us:∀w:Y aY,pp (w.map (·.1))=(BQ w).map λq=>(q.1.1,q.2.1)
 |[]=>rfl
 |x::xs=>by
  show(xs.map (·.1)).map (λy=>(x.1,y))++pp (xs.map (·.1))=(xs.map (λy=>(x,y))++BQ xs).map _;rw[Us xs,ZT,ZU,ZU];rfl
theorem DW(x y:aY)(f:AJ):Ym x y f=(((fw x.2 f).isSome&&(fw y.2 f).isSome)&&!JK x y f):=by
 unfold Ym JK;cases fw x.2 f<;>cases fw y.2 f<;>simp
theorem Qf(x y:aY)(f:AJ):JK x y f=(((fw x.2 f).isSome&&(fw y.2 f).isSome)&&JK x y f):=by
 cases e:JK x y f with
 |false=>simp
 |true=>
  obtain⟨a,e1,e2⟩:=(p7 x y f).mp e;rw[e1,e2];rfl
theorem Qg{v:Y aY}(V:Vk v)(f:AJ):xO ((v.filter λc:aY=>(bH c f).isSome).map λc:aY=>c.1)=((qg v).filter λx=>(fw x.2 f).isSome).map (·.1):=by
 rw[show(v.filter λc:aY=>(bH c f).isSome)=v.filter λx=>(fw x.2 f).isSome from kn λx _=>by rw[(iz x f).2]];have h1:(qg v).Pairwise λa b:aY=>Bu a.1 b.1:=kR (R:=λa b:aY=>Wt a.1 b.1=true) (λh=>((CS _ _).mp h).1) (Nu V.nd);have h2:(((qg v).filter λx=>(fw x.2 f).isSome).map (·.1)).Pairwise Bu:=ay.mpr (List.Pairwise.sublist ez h1);exact(Fo ((((iB v).filter _).map _).trans (tH _).symm) h2 (zX _)).symm
theorem Lj{v:Y aY}(V:Vk v)(f:AJ)(w:Int):(pp (((qg v).filter λx=>(fw x.2 f).isSome).map (·.1))).Perm (pr v (nD f w)++pr v (Qk f)):=by
 rw[Us,Bt];have h:=(di (λq:PR=>JK q.1 q.2 f) ((BQ (qg v)).filter λq=>(fw q.1.2 f).isSome&&(fw q.2.2 f).isSome)).symm.map λq=>(q.1.1,q.2.1);rw[ZT,QN,QN]at h;refine h.trans (List.Perm.of_eq ?_);unfold pr;refine DD (f:=λa b=>a++b) (congrArg (bg _) (kn λq _=>?_)) (congrArg (bg _) (kn λq _=>?_))
 ·rw[show aM (nD f w) q.1 q.2=_ from dZ f w _ _,kL];exact(Qf _ _ f).symm
 ·rw[show aM (Qk f) q.1 q.2=_ from mY f _ _,kL];exact(DW _ _ f).symm
theorem Cu{v:Y aY}(V:Vk v)(f g:AJ)(w:Int):fB v f g w/\dO v f g w=true:=by
 obtain⟨j,u⟩:=fU V.nd V.ln (Qd f w);obtain⟨t1,t2⟩:=fU V.nd V.ln (Qd g w);obtain⟨b1,b2⟩:=fU V.nd V.ln (jk f g w);obtain⟨c1,c2⟩:=fU V.nd V.ln (jk g f 1);obtain⟨p,l⟩:=fU V.nd V.ln (GS f);have s:=V.ln;have d:=Bp V.ln (nD f w);have t:=Bp V.ln (Qk f);have e:=Qg V f;have n:(((qg v).filter λx=>(fw x.2 f).isSome).map (·.1)).length<=40:=by
  rw[zg];exact zi (qh _ _) (by rw[(iB v).length_eq];exact s)
 obtain⟨g1,g2,g3⟩:=No _ n;have m:=g2.trans (Lj V f w);have b:(!decide ((Z (pr v (NQ f g w)))=(Z (((pr v (nD f w)).filter λa:AJ×AJ=>(kE a (pr v (nD g w)))).map λa:AJ×AJ=>a))))=false:=by
  rw[<-Xo V f g w,z5 rfl];rfl
 have d2:(!decide ((Z (pr v (NQ g f 1)))=(Z (pr v (NQ f g w)))))=false:=by
  rw[Qe v f g w,z5 rfl];rfl
 have no:(((pr v (Qk f)).map λa:AJ×AJ=>(kE a (pr v (nD f w)))).any id)=false:=by
  rw[eC,eW];intro c k;obtain⟨q,q1,q2,rfl⟩:=JN k;show ¬ kE _ _=true;rw[vA,GQ V.nd q1,show aM (nD f w) q.1 q.2=_ from dZ f w _ _];rw[show aM (Qk f) q.1 q.2=_ from mY f _ _,DW]at q2;intro h;rw[h]at q2;simp at q2
 unfold fB dO;dsimp only;rw[show aG v (Dt.tup [(Dt.str "same"),(eS f),(eI w)])=_ from u,show aG v (Dt.tup [(Dt.str "same"),(eS g),(eI w)])=_ from t2,show aG v (Dt.tup [(Dt.str "both"),(eS f),(eS g),(eI w)])=_ from b2,show aG v (Dt.tup [(Dt.str "both"),(eS g),(eS f),(Dt.int 1)])=_ from c2,show aG v (Dt.tup [(Dt.str "never"),(eS f)])=_ from l,e];have b:(!decide ((Z (pr v (NQ f g w)))=(Z ((((Z (pr v (nD f w))).getD default).filter λa:AJ×AJ=>(kE a ((Z (pr v (nD g w))).getD default))).map λa:AJ×AJ=>a))))=false:=b;rw[b,d2];have o:gk (yP eS eS) ((rng 0 ((((qg v).filter λx=>(fw x.2 f).isSome).map (·.1)).length:Int).toNat).foldl (λ(i:(Y (AJ×AJ))) (y:Int)=>(bJ (((qg v).filter λx=>(fw x.2 f).isSome).map (·.1)) i y)) [])=gk (yP eS eS) (((Z (pr v (nD f w))).getD default)++((Z (pr v (Qk f))).getD [])):=nC m;have z:((Z (pr v (nD f w))).getD default).length<=1600:=d;have A:((Z (pr v (Qk f))).getD []).length<=1600:=t;constructor
 ·refine⟨⟨j,t1⟩,b1,⟨⟨⟨rfl,by omega⟩,λ_ _=>Y3⟩,λ_=>c1⟩,λ_=>⟨⟨⟨by omega,λx _=>(iz x f).1⟩,?_⟩,⟨vB () (),g1⟩,p,⟨zi g3 (),⟨⟨rfl,rfl⟩,zi (show _<=4000 by omega) ()⟩,by rw[zC];omega⟩,λ_=>⟨⟨rfl,by omega⟩,λ_ _=>Y3⟩⟩⟩;rw[zg];exact cb (qh _ _) ()
 ·rw[show(false||false)=false from rfl,zr ()];rw[o,z5 rfl];show(true&&!(((pr v (Qk f)).map λa:AJ×AJ=>(kE a (pr v (nD f w)))).any id))=true;rw[no];rfl
open S1 S6
theorem Ut(xs:Y α)(lo hi:S Int):(BE xs lo hi).Sublist xs:=(yi _ _).trans (eR _ _)
theorem Vk.sub{v a:Y aY}(V:Vk v)(s:a.Sublist v):Vk a:=⟨V.nd.sublist (s.map _),zi s.length_le V.ln,λx hx=>V.wd x (s.subset hx)⟩
theorem yg{v a:Y aY}(b:(v.map (·.1)).Nodup)(p:v.Perm a)(R:Y Dt):aD v R=aD a R:=by
 rw[lC,lC];unfold Qa;rw[LA b p]
abbrev R4(f g:AJ)(w:Int)(n:Nat):Y Dt:=[nD f w,rN g n 2,Qk g,NQ f g 3]
theorem NZ{f g:AJ}{w:Int}:∀r∈R4 f g w n,Rl r:=λr h=>by
 simp only[yz,Ki,or_false]at h;rcases h with rfl|rfl|rfl|rfl
 ·exact Qd _ _
 ·exact Xm _ _ _
 ·exact GS _
 ·exact jk _ _ _
theorem Me{f g:AJ}{w:Int}(x y:aY):∀r∈R4 f g w n,aM r x y=aM r y x:=λr h=>by
 simp only[yz,Ki,or_false]at h;rcases h with rfl|rfl|rfl|rfl
 ·rw[show aM (nD f w) x y=_ from dZ f w x y,show aM (nD f w) y x=_ from dZ f w y x,Br]
 ·rw[show aM (rN g n 2) x y=_ from fK g n 2 x y,show aM (rN g n 2) y x=_ from fK g n 2 y x,Ul]
 ·rw[show aM (Qk g) x y=_ from mY g x y,show aM (Qk g) y x=_ from mY g y x,Um]
 ·rw[show aM (NQ f g 3) x y=_ from lW f g 3 x y,show aM (NQ f g 3) y x=_ from lW f g 3 y x,Br x y f,Br x y g]
abbrev V4(f g:AJ)(w:Int)(n:Nat):(AJ×AJ×Int)×(AJ×AJ×Int×Int)×(AJ×AJ)×(AJ×AJ×AJ×Int):=((("same":AJ),f,w),(("begin":AJ),g,(n:Int),(2:Int)),(("never":AJ),g),(("both":AJ),f,g,(3:Int)))
theorem JW{v:Y aY}(V:Vk v)(h1:1<=v.length)(f g:AJ)(w:Int)(n:Nat)(k:Int)(hk:k∈rng 0 (kN 4)):
  qT v (V4 f g w n) (aD v (R4 f g w n)).2.1 (aD v (R4 f g w n)).2.2 f8 k/\jr v (V4 f g w n) (aD v (R4 f g w n)).2.1 (aD v (R4 f g w n)).2.2 f8 k=.nx f8:=by
 have hk:=Nb hk;rw[show kN 4=4 from SM 4]at hk;obtain⟨j,rfl⟩:∃j:Nat,k=(j:Int):=⟨k.toNat,by omega⟩;have d:j<(R4 f g w n).length:=by show j<4;omega
 have t:(R4 f g w n)[j]?=Z (R4 f g w n)[j]:=Zs d;have i:As (R4 f g w n) (j:Int)=(R4 f g w n)[j]:=wI _ _ d;have c:(R4 f g w n)[j]∈R4 f g w n:=Kj d;generalize u:(R4 f g w n)[j]=r at *
 obtain⟨p1,p2⟩:=fU V.nd V.ln (NZ r c);obtain⟨q,o⟩:=Yw V.ln (R:=R4 f g w n) (by show 4<=20;decide);have s:=DP (v:=v) t;generalize aD v (R4 f g w n)=G at *
 obtain⟨N,l,h⟩:=G;dsimp only at q o s ⊢;have a1:=qh (λb:Int×AJ×AJ×Int=>(decide (b.2.2.2=(j:Int)))) l;have a2:=qh (λa:AJ×AJ×Int=>(decide (a.2.2=(j:Int)))) h;have e1:gk (yP eS eS) (((l.filter λb:Int×AJ×AJ×Int=>(decide (b.2.2.2=(j:Int)))).map λb:Int×AJ×AJ×Int=>(b.2.1,b.2.2.1))++((h.filter λa:AJ×AJ×Int=>(decide (a.2.2=(j:Int)))).map λa:AJ×AJ×Int=>(a.1,a.2.1)))=pr v r:=(nC s).trans (Nz V.nd r);have i:As [dI (V4 f g w n).1,iH (V4 f g w n).2.1,aV (V4 f g w n).2.2.1,iI (V4 f g w n).2.2.2] (j:Int)=r:=i;have e:In [dI (V4 f g w n).1,iH (V4 f g w n).2.1,aV (V4 f g w n).2.2.1,iI (V4 f g w n).2.2.2].length (j:Int):=IF d;have y:=V.ln;have e2:(!decide ((Z (gk (yP eS eS) (((l.filter λb:Int×AJ×AJ×Int=>(decide (b.2.2.2=(j:Int)))).map λb:Int×AJ×AJ×Int=>(b.2.1,b.2.2.1))++((h.filter λa:AJ×AJ×Int=>(decide (a.2.2=(j:Int)))).map λa:AJ×AJ×Int=>(a.1,a.2.1)))))=(aG v r)))=false:=by
  rw[e1,p2,z5 rfl];rfl
 have e3:(!((v.map λm:aY=>(decide ((aM r (As v 0) m)=(aM r m (As v 0))))).all id))=false:=by
  rw[all_map λx _=>z5 (Me _ _ r c)];rfl
 unfold qT jr;dsimp only;rw[i];have p:=Nat.add_le_add (zi a1 q) (zi a2 o);refine⟨⟨⟨⟨by omega,by omega⟩,by rw[zg,zg];exact zi p ()⟩,⟨by rw[zC,zg,zg];exact zi p (),e,p1⟩,λ_=>⟨by omega,λx _=>⟨⟨⟨e,B8 () ()⟩,GK (NZ r c) _ _⟩,⟨e,B8 () ()⟩,GK (NZ r c) _ _⟩⟩⟩,?_⟩;rw[e2,zr (),e3,zr ()]
theorem Uu:∀a:Y Int,a.length<=63->JG a/\JF a=true:=λa C=>by
 obtain⟨b1,b2,N,M⟩:=Xg a 14 () () C;have V:Vk (dX a 14):=⟨b2.nd,by omega,λx hx q H=>(b2.fd x hx).2 q H⟩;obtain⟨I,z,E⟩:=GD (bM a 16) 5 () ();have z:(bD (bM a 16) 5).length=5:=z;generalize eB:dX a 14=v at *
 generalize A:bD (bM a 16) 5=xs at *
 have hx:∀i:Int,0<=i->i<5->0<=As xs i:=λi o h1=>E _ (wH (B8 o ()));have hi:∀i:Int,0<=i->i<5->In xs.length i:=λi o h1=>B8 o ();generalize K:As [("day":AJ),("name":AJ),("names":AJ),("p":AJ),("zzz":AJ)] (As xs 0%5)=f;generalize B:As [("day":AJ),("name":AJ),("names":AJ),("p":AJ),("zzz":AJ)] ((As xs 0+1+As xs 1%4)%5)=g;generalize F:1+As xs 2%1000=w;obtain⟨n,G⟩:∃n:Nat,1+As xs 3%4=(n:Int):=⟨(1+As xs 3%4).toNat,by have:=sG (As xs 3) (m:=4) ();omega⟩;have W:=V.sub (Ut v O (Z 11));have j:1<=(BE v O (Z 11)).length:=by
  unfold BE;rw[show(11:Int)=((11:Nat):Int) from rfl,HT.Eh,HT.zp,ZZ,QY];omega
 obtain⟨p1,p2⟩:=yx V f w;obtain⟨q1,q2⟩:=Cu V f g w;obtain⟨J,b⟩:=fU V.nd V.ln (Qd f 1);obtain⟨t1,t2⟩:=fU V.nd V.ln (Qd f w);have l:∀{u:Y aY},Vk u->dN u (R4 f g w n):=λU=>JL U.nd U.ln (by show 4<=20;decide) NZ;generalize L:BE v O (Z 11)=u at *
 obtain⟨d,D⟩:=Jd (step:=λ(b:Unit) (c:Int)=>((jr u (V4 f g w n) (aD u (R4 f g w n)).2.1 (aD u (R4 f g w n)).2.2 b c):oh (Unit) Bool)) (P:=λ(b:Unit) (c:Int)=>Z (qT u (V4 f g w n) (aD u (R4 f g w n)).2.1 (aD u (R4 f g w n)).2.2 b c)) (rng 0 (kN 4)) λk hk=>⟨(JW W j f g w n k hk).1,.inl (JW W j f g w n k hk).2⟩;have s:u.reverse.Perm u:=yk u;have c1:BE u (Z 1) O=u.drop 1:=Je (k:=1) j;have c2:BE u O (Z 1)=u.take 1:=LB (k:=1) j;have h:((BE u (Z 1) O)++(BE u O (Z 1))).Perm u:=by
  rw[c1,c2];exact dE.trans (List.Perm.of_eq (qc 1 u))
 have e:∀{t:Y aY},t.Perm u->Vk t:=λp=>⟨(p.map _).nodup_iff.mpr W.nd,by rw[p.length_eq];exact W.ln,λx hx=>W.wd x (p.mem_iff.mp hx)⟩;have g1:aD u.reverse (R4 f g w n)=aD u (R4 f g w n):=yg (e s).nd s _;have g2:aD ((BE u (Z 1) O)++(BE u O (Z 1))) (R4 f g w n)=aD u (R4 f g w n):=yg (e h).nd h _;have y:BZ ((BE u (Z 1) O).length+(BE u O (Z 1)).length):=by
  have:=h.length_eq;rw[zC]at this;have:=W.ln;exact zi (show _<=40 by omega) ()
 have sp:(!decide ((aG v (Dt.tup [(Dt.str "same"),(eS f),(Dt.int 1)]))=(aG v (Dt.tup [(Dt.str "same"),(eS f),(eI w)]))))=false:=by
  rw[show aG v (Dt.tup [(Dt.str "same"),(eS f),(Dt.int 1)])=_ from b,show aG v (Dt.tup [(Dt.str "same"),(eS f),(eI w)])=_ from t2,Uq v f w,z5 rfl];rfl
 unfold JG JF;dsimp only;rw[eB,A,K,B,F,G,p2,q2,sp,L];constructor
 ·refine⟨b1,⟨Lb a 16 () (),I⟩,⟨⟨hi 0 () (),qN () ()⟩,⟨hi 0 () (),hi 1 () ()⟩,qN () ()⟩,hi 2 () (),⟨p1,λ_=>q1⟩,λ_=>⟨⟨J,t1⟩,λ_=>⟨hi 3 () (),l W,D,?_⟩⟩⟩;have d:ju (λ(b:Unit) (c:Int)=>((jr u (V4 f g w n) (aD u (R4 f g w n)).2.1 (aD u (R4 f g w n)).2.2 b c):oh (Unit) Bool)) (rng 0 (kN 4)) f8=_:=d;rw[d];exact⟨⟨l (e s),y,l (e h)⟩,λ_=>⟨y,l (e h)⟩⟩
 ·rw[show((!true)||(!true))=false from rfl,zr (),zr ()];have d:ju (λ(b:Unit) (c:Int)=>((jr u (V4 f g w n) (aD u (R4 f g w n)).2.1 (aD u (R4 f g w n)).2.2 b c):oh (Unit) Bool)) (rng 0 (kN 4)) f8=_:=d;rw[d];show(decide (aD u.reverse (R4 f g w n)=aD ((BE u (Z 1) O)++(BE u O (Z 1))) (R4 f g w n))&&decide (aD ((BE u (Z 1) O)++(BE u O (Z 1))) (R4 f g w n)=aD u (R4 f g w n)))=true;rw[g1,g2,z5 rfl];rfl
theorem H1:∀a:Y Int,a.length<=63->F_law [.z (.lst (a.map .int))]=Z (.z (.bl true)):=(Yl Uu).1
theorem H2:∀a:Y Int,a.length<=63->F_law [.l (a.map .int)]=Z (.z (.bl true)):=(Yl Uu).2
end G76
end
open PySem PySem.W PyProof.Rows
namespace PySem.W.Fast
def tw1203684751097314373:=0
def tw2929874152824314409:=0
def tw7943925200018021495:=0
def tw6593996323141490168:=0
def tw16646255775880429317:=0
def tw6804046835387103144:=0
def tw16732704945072650417:=0
def tw4886891183433327244:=0
def tw679835440137637387:=0
def tw16838700718060035817:=0
def tw18290742017229833228:=0
def tw1113046582744613390:=0
def tw8500065639159313290:=0
def tw4951099934128157021:=0
def tw4102223075519521234:=0
def tw8772291355771527752:=0
def tw7392523840068711328:=0
def tw13689069364404093664:=0
def tw13080714444739925313:=0
def tw7530576160866325847:=0
def tw12349505490425533812:=0
def tw5817021770441995665:=0
def tw10534285906310713864:=0
def tw12428816584996892670:=0
def tw9685137230375789586:=0
def tw8085528967106417901:=0
def tw5393468803760738348:=0
def tw13519112973045598961:=0
def tw5842681554311005900:=0
def tw6276199250934500606:=0
def tw4512755212017109794:=0
def tw10213411389447128474:=0
def tw11781858554904000654:=0
def tw5538665656437388837:=0
def tw12636170711380176217:=0
def tw1021814490850122980:=0
def tw15165930309662768846:=0
def tw9121206505138950631:=0
def tw2808667596705466653:=0
def tw1423112056617933475:=0
def tw1230260466635551196:=0
def tw3427987342786192997:=0
def tw2992923711666010093:=0
def tw11812678385691525696:=0
def tw5112957238327735841:=0
def tw3570532882458970967:=0
def tw11491130495557588961:=0
def tw6840775657342674293:=0
def tw2281790981693356737:=0
def tw11738180629862293916:=0
def tw9707456939158092838:=0
def tw6631981973763518601:=0
def tw12474599583244055747:=0
def tw18017360671097397765:=0
def tw995943326329842275:=0
def tw15002614269290364367:=0
def tw8391592815942857280:=0
def tw4466906201037528770:=0
def tw18287806555807489966:=0
def tw17714688736931161017:=0
end PySem.W.Fast
set_option maxRecDepth 100000 in
set_option maxHeartbeats 0 in
theorem PySem.Challenge.cw_onefolk_k76_whole_rules_and_rules_holds : PySem.Challenge.rw_onefolk_k76_whole_rules_and_rules.Holds := by
 w_on;refine PySem.W.holds_law (by decide +kernel) λsaid=>?_
 k_head;(case hw=>w_witness2)
 k_fill
 refine P1.Db (l:=PySem.Challenge.rw_onefolk_k76_whole_rules_and_rules) (T:=G76.T) (k:=8) (x := "_law_script") (st:=G76.s_law) (F_law:=G76.F_law) (λt=>t.x_law) ⟨rfl,by decide,by decide⟩ rfl (λw mg base t=>G76.D7 t) rfl rfl G76.H1 G76.H2 (λ_ _ _ _ _ _ _=>rfl) (λw h Y=>PySem.W.km_in_of Y) (λw h _ _ _ _ X T=>⟨_,P1.Cc (by kernel_rfl) X T⟩) ?F
 case F=>
  intro w mg h KX G
  refine' ⟨P1.oZ KX G _ _ _ _,P1.oZ KX G _ _ _ _,P1.oZ KX G _ _ _ _,P1.oZ KX G _ _ _ _,P1.oZ KX G _ _ _ _,P1.oZ KX G _ _ _ _,P1.oZ KX G _ _ _ _,P1.oZ KX G _ _ _ _,P1.oZ KX G _ _ _ _,P1.oZ KX G _ _ _ _,P1.oZ KX G _ _ _ _,P1.oZ KX G _ _ _ _,P1.oZ KX G _ _ _ _,P1.oZ KX G _ _ _ _,P1.oZ KX G _ _ _ _,P1.oZ KX G _ _ _ _,P1.oZ KX G _ _ _ _,P1.oZ KX G _ _ _ _,P1.oZ KX G _ _ _ _,qS KX G _,qS KX G _,qS KX G _,qS KX G _,qS KX G _,qS KX G _,qS KX G _,qS KX G _,qS KX G _,qS KX G _,qS KX G _,_⟩
  all_goals try (show _=_;k_is)
  all_goals try kernel_rfl
