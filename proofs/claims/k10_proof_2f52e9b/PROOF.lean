import PyProof.Rows.All
import Wide.All
import OpenK.AllK
import Wide.FinOn
import Lean
import PySem.Challenge.RW_onefolk_k10_grounds_told
open List renaming length_map->ze,size_toArray->zh,mem_cons_of_mem->zl,length_append->zr,mem_cons_self->zt,map_cons->zw,append_assoc->ZE,flatMap_cons->ZN,length_take->ZT,map_map->ZU,take_of_length_le->ZY,getElem?_append_left->ZZ,length_cons->Z3,getElem?_eq_getElem->qa,length_drop->qc,take_append_drop->qi,mem_append_right->qk,getElem?_map->qB,all_eq_true->Qb,append_nil->Qr,getElem?_append_right->QI,take_succ_eq_append_getElem->QY,mergeSort_perm->Q2,getElem_of_mem->Q3,rel_of_pairwise_cons->Q4,extract_eq_take_drop->ja,length_filter_le->jb,getElem_map->js,eq_nil_of_length_eq_zero->jv,pairwise_mergeSort->jI,getElem?_replicate->jS,map_append->JA,zip_cons_cons->JO,getElem_take->JU,getElem_drop->JY,all_cons->kc,reverse_append->ke,map_congr_left->kg,foldl_cons->ki,lookup_cons_self->km,reverse_cons->kn,mem_of_mem_drop->kv,mem_of_getElem?->ky,map_nil->kF,toList_toArray->kG,mem_map_of_mem->kH,flatMap_append->kK,filterMap_cons->kL,length_set->kP,drop_eq_nil_of_le->Kb,filter_cons->Kn,reverse_reverse->KA,mem_of_mem_take->KB,of_mem_zip->KG,replicate_succ->KL,length_reverse->KM,drop_eq_getElem_cons->K2,reverse_perm->yb,getElem?_set->ye,not_mem_nil->yv,map_flatMap->yz,lookup_cons->yA,getElem_inj->yB,mem_cons->bc,replicate->bj,mem_map->bC,getElem?_eq_some_iff->ca,mem_append->cb,mem_singleton->cf,pairwise_map->cm,pairwise_cons->cq,pairwise_append->cw,mem_iff_getElem->cx,range->da,pairwise_iff_getElem->dc,mem_filter->de,nodup_cons->df,mem_range->dg,length_pos_iff->dk,filter_sublist->dm,range_succ_eq_map->dr,filter_eq_nil_iff->dt,mem_flatMap->du,length_replicate->dv,getElem?_eq_none->dy,contains_iff_mem->dz,pairwise_reverse->dA,nil_append->dP,flatMap->dV,take_append_of_le_length->ef,filter_eq_self->eg,nodup_nil->ei,lt_irrefl->eu,mem_filterMap->ey,getElem_range->ez,zip_nil_right->eC,any_cons->eG,getD_eq_getElem?_getD->eJ,take_sublist->eM,flatten_cons->eR,getElem?_take_of_lt->eV,ext_getElem->fg,mem_reverse->ft,take_length->fA,pairwise_singleton->fE,getElem?_cons_succ->fL,find?_cons->fR,cons->f6,getElem?_set_self->f7,zipWith_map_right->gc,drop_of_length_le->gf,length_singleton->gg,perm_cons->gi,countP_mono_left->gj,getElem?_zipWith->gm,pairwise_flatMap->gp,perm_append_comm->gq,mem_append_left->gu,getElem?_set_ne->gD,getElem?_range->gS,filter_filter->hE,mapM_toArray->hI,zip_nil_left->hL,filter_congr->hO,length->hP,le_antisymm->hV,zipIdx_cons->hY,countP_cons->hZ,map_fst_zip->h6,perm_middle->h9,map_id_fun'->ia,map_reverse->ib,any_eq_true->ic,map_zipWith->ie,cons_ne_nil->ig,getElem_zip->ij,nodup_range->ik,flatMap_map->il
open PySem.Heap renaming get?_push_of_some->zg,lt_size->zI,get?_push_size->zS,size_push->k9,get?_update_ne->gT,get?_push_ne->hG,size_update->hX
open Nat renaming le_refl->zi,le_trans->zo,le_of_ble_eq_true->zC,lt_of_lt_of_le->ZH,ne_of_lt->ZI,zero_le->qr,le_of_lt->qv,zero_add->JJ,ne_of_gt->kD,lt_irrefl->kM,le_succ->Kx,le_of_eq->KO,mul_le_mul->KP,succ_le_succ->yo,min_self->dE,succ_mul->dQ,lt_succ_of_lt->eP,lt_of_succ_lt->eQ,le_of_not_lt->eW,add_sub_cancel_left->fF,min_eq_left->fT,not_lt->gE,add_zero->g5,lt_of_le_of_lt->g6,le_succ_of_le->hH
open Bool renaming false_eq_true->zD,and_eq_true->Zs,false_ne_true->ZA,not_eq_true'->qS,or_eq_true->JE,and_true->Kt,not_false->KS,false_and->KU,not_true->eH,eq_iff_iff->fN,decide_and->f5,and_false->gh,false_or->gL,true_and->gN
open Array renaming toList_append->Zp,length_toList->ZO,toList_extract->ka,toList_push->ko,size_append->kq,toList_reverse->kA,getElem_toList->kB,getElem?_toList->Kk,append_assoc->K0,perm_iff_toList_perm->cz,toList_inj->fm,toList_map->fq,mem_toList_iff->gI,toList->gX,forIn_toList->g9,getElem_mem->hJ
open Int renaming toNat_natCast->QU,zero_add->dS,toNat_of_nonneg->eh,le_refl->ew,lt_of_lt_of_le->eA,emod_lt_of_pos->g7
open Or renaming inr->Jn,inl->ku
open Prod renaming ext->k8
open PySem.SetTable renaming leap->di,bits->eK,runEnd->ip
open Unit renaming unit->dl
local macro_rules|`(())=>`(by first|omega|decide)
open Option renaming isSome_iff_exists->dq,map_some->dC,isNone_iff_eq_none->eU,getD_some->fz,map_eq_some_iff->gd,isSome_some->g4,getD_none->hU,bind_some->hW
open Option renaming some->Z,none->O
abbrev Y:=List
abbrev Y3:=Option
theorem Y2{α:Sort u}{a:α}:a=a:=rfl
open PySem renaming Value->A0,Addr->A1,Shared->A2,Program->A3,World->A4,Around->A5,Heap->A6,wpAny->A7,model->A8,starEach->A9,sizeLine->AA,Stmt->AB,Keyword->AC,backTo->AD,Obj->AE,codeAny->AF,compareOp->AG,bootBuiltins->AH,Paired->AI,Str->AJ
abbrev ad(x:AJ):=(x==("__debug__":AJ))=false
open PyProof.Rows renaming envOfC->AK,wpS_bind->AL,arrOf->AM
open PySem.W (methodObj keepIn cellsFrom_some fnOf codeIn nsIn mg_of kla_obj envX kla_fn)
set_option maxRecDepth 100000
set_option maxHeartbeats 4000000
set_option linter.all false
set_option Elab.async false
open PySem PySem.Spec PyProof.Rows
variable{w:A4}{i:Nat}{t:SortSt}{x:AJ}{a:A1}{prog:A3}{us:Y A0}{κ:Type}{h:A6}{items:Array A0}{u:A0}{P:A3}{α β:Type}{k:Nat}{e:Expr}{n:Nat}{mg:AJ->Y3 A0}{base:A6}{l:A1}{env:Env}{m:Nat}{AN:Y (A1×AE)}{s:A2}{it:A1}{j:Nat}{M:Model}{A:A5}{hi:Y3 Int}{D:A1}{es:Y Expr}{st:AB}{pos:Pos}{y:AJ}{c tg:Expr}{fp:Y A1}{iter:Expr}{lo:Y3 Int}{body:Y AB}{C:A1}{op:CmpOp}{AQ:Y A0}{name:AJ}{tpos:Pos}{fd:FuncData}{apos:Pos}{qual:AJ}{scope:Scope}{params:Arguments}{osl:Array (Y3 A0)}{p2 cpos:Pos}{XP:(AJ->Y3 A0)->A6->Prop}{YP:A4->A6->Prop}{cl:Y (AJ×A1)}{is:Y Nat}{ifs:Y Expr}{elt tgt:Expr}{el:A1->Env->Sem Unit}{B:A5->Bool->Prop}{out:Array Keyed}{RR:A0->A1->Result->A2->Prop}{rk:A0->Nat}{kd:SortKind}{z:Keyed}{U:Y Keyed}{elts:Y Expr}{x1:Nat}{γ δ:Type}{os:OsState}{bmB:Y A0}{newId initId:String}
abbrev At:=Y PySem.Str
abbrev BG:=PySem.Value->PySem.Shared->Prop
abbrev B8:=PySem.W.Frag
abbrev BC:=Y Int
abbrev zb:=@wpAny_bind
abbrev zd:=@wpAny_pure
abbrev zk:=@if_pos
abbrev zv:=@if_neg
abbrev zz:=@decide_eq_true
abbrev Zl:=@decide_eq_false
abbrev qf:=@decide_eq_true_eq
abbrev qh:=@List.Pairwise.imp
abbrev qo:=@if_false
abbrev qA:=@wpAny_newObj_type
abbrev qV:=@PySem.W.mg_none_of
abbrev QA:=@decide_eq_false_iff_not
abbrev QE:=@wpAny_mono
abbrev QN:=@wpAny_field
abbrev QO:=@if_true
abbrev QP:=@wpAny_rule
abbrev QQ:=@wpAny_callSpecial?_slot
abbrev QR:=@wpAny_truthy_bool
abbrev Q1:=@PySem.mem_of_lookup
abbrev jn:=@wpAny_call_entry
abbrev JI:=@Heap.SameBut.update
abbrev JP:=@Option.some.inj
abbrev JS:=@wpAny_typeOf
abbrev kb:=@wpAny_holding
abbrev kl:=@wpAny_standAt
abbrev kC:=@F.slot_tuple_iterator_next
abbrev kQ:=@wpAny_setField_rec
abbrev kR:=@wpAny_Call_Name_kw
abbrev kU:=@wpAny_getItem_str_slice
abbrev kX:=@Ne.symm
abbrev Ki:=@List.Pairwise.sublist
abbrev Kj:=@F.slot_enumerate_next
abbrev KF:=@wpAny_passesOwn
abbrev KI:=@Array.Perm.refl
abbrev KW:=@wpAny_pyIter_tuple
abbrev ya:=@wpAny_pyIter_enum
abbrev yf:=@wpAny_newList
abbrev yi:=@Prod.mk.injEq
abbrev yk:=@wpAny_comprehension_free
abbrev ym:=@PySem.F.args_tuple_add_2
abbrev yn:=@wpAny_isInstance
abbrev yT:=@PySem.F.plainAttrs_list
abbrev yY:=@PySem.F.entry_tuple_add
variable{ps:At}{K:B8}{N:At}{E Q:BG}{ts:At}
namespace L2
abbrev AY:=Sum Int AJ
def lA:AY->A0->Bool
 |.inl k,v=>Value.isInt k v
 |.inr x,v=>Value.isStrOf x v
def Sj(w:A4):AY->Int
 |.inl k=>hashInt k
 |.inr x=>hashStr w x
theorem bR:∀{k:AY} {v:A0},lA k v=true->(∃i t,k=Sum.inl i/\v=Value.int i t)\/(∃x t,k=Sum.inr x/\v=Value.str x t)
 |.inl i,v,h=>by
  obtain⟨t,e⟩:=Value.isInt_shape (k:=i) (v:=v) h;exact .inl ⟨i,t,rfl,e⟩
 |.inr x,v,h=>by
  obtain⟨t,e⟩:=Value.isStrOf_shape (x:=x) (v:=v) h;exact .inr ⟨x,t,rfl,e⟩
theorem Vi(i:Int)(t:Tok):lA (.inl i) (.int i t)=true:=by simp[lA,Value.isInt]
theorem Vj(x:AJ)(t:Tok):lA (.inr x) (.str x t)=true:=by simp[lA,Value.isStrOf]
theorem Uf(a b:Int):decide ((Sum.inl a:AY)=Sum.inl b)=(a==b):=by
 by_cases e:a=b
 ·subst e;simp
 ·have h:¬ (Sum.inl a:AY)=Sum.inl b:=λq=>e (Sum.inl.inj q);rw[Zl h];exact(beq_eq_false_iff_ne.mpr e).symm
theorem So(a b:AJ):decide ((Sum.inr a:AY)=Sum.inr b)=decide (a=b):=by
 by_cases e:a=b
 ·subst e;simp
 ·have h:¬ (Sum.inr a:AY)=Sum.inr b:=λq=>e (Sum.inr.inj q);rw[Zl h,Zl e]
theorem Me(a:Int)(b:AJ):decide ((Sum.inl a:AY)=Sum.inr b)=false:=Zl (λq=>nomatch q)
theorem UX(a:AJ)(b:Int):decide ((Sum.inr a:AY)=Sum.inl b)=false:=Zl (λq=>nomatch q)
def lB(prog:A3)(w:A4):PySem.KeyKind prog w AY where
 is:=lA
 hash:=Sj w
 inj:=λv a b f d=>by
  rcases bR f with⟨i,t,rfl,rfl⟩|⟨x,t,rfl,rfl⟩
  ·rcases bR d with⟨j,u,rfl,e⟩|⟨y,u,rfl,e⟩
   ·injection e with e1 _;rw[e1]
   ·exact nomatch e
  ·rcases bR d with⟨j,u,rfl,e⟩|⟨y,u,rfl,e⟩
   ·exact nomatch e
   ·injection e with e1 _;rw[e1]
 byValue:=λk v h=>by
  rcases bR h with⟨i,t,rfl,rfl⟩|⟨x,t,rfl,rfl⟩<;>rfl
 pyHash:=λc h=>by
  rcases bR c with⟨i,t,rfl,rfl⟩|⟨x,t,rfl,rfl⟩
  ·exact wpAny_pyHash_int h
  ·exact wpAny_pyHash_str h
 eqBool:=λg c h=>by
  rcases bR g with⟨i,t,rfl,rfl⟩|⟨x,t,rfl,rfl⟩
  ·rcases bR c with⟨j,u,rfl,rfl⟩|⟨y,u,rfl,rfl⟩
   ·rw[Uf]at h;exact wpAny_eqBool_int h
   ·rw[Me]at h;exact SeqAt.EqAt.int_str i t y u _ _ _ _ h
  ·rcases bR c with⟨j,u,rfl,rfl⟩|⟨y,u,rfl,rfl⟩
   ·rw[UX]at h;exact SeqAt.EqAt.str_int x t j u _ _ _ _ h
   ·rw[So]at h;exact wpAny_eqBool_str h
 «strs»:=λk x t v h=>by
  rcases bR h with⟨i,u,rfl,e⟩|⟨y,u,rfl,e⟩
  ·exact nomatch e
  ·injection e with e1 _;subst e1;cases v<;>rfl
theorem Np(prog:A3)(w:A4)(i:Int)(t:Tok):(lB prog w).is (.inl i) (.int i t)=true:=Vi i t
theorem Nq(prog:A3)(w:A4)(x:AJ)(t:Tok):(lB prog w).is (.inr x) (.str x t)=true:=Vj x t
end L2
namespace L2
inductive V where
 |non|bl (b:Bool)|int (i:Int)|str (x:Str)|byt (b:Array UInt8)|flt (b:UInt64)|ref (a:Addr)|ty (n:String)
 deriving DecidableEq
def B0:V->A0->Prop
 |.non,u=>u=Value.none
 |.bl b,u=>u=Value.bool b
 |.int i,u=>∃t,u=Value.int i t
 |.str x,u=>∃t,u=Value.str x t
 |.byt b,u=>∃t,u=Value.bytes b t
 |.flt b,u=>∃t,u=Value.float b t
 |.ref a,u=>u=Value.ref a
 |.ty n,u=>u=Value.type n
abbrev AX:Y V->Y A0->Prop:=AI B0
theorem AX.length{xs:Y V}{us:Y A0}(r:AX xs us):xs.length=us.length:=Paired.length r
theorem AX.get:∀{xs:Y V} {us:Y A0} {i:Nat} {x:V},AX xs us->xs[i]?=Z x->∃u,us[i]?=Z u/\B0 x u
 |_,_,_,_,.nil,e=>by simp at e
 |_,_,0,_,.cons r _,e=>by simp at e;subst e;exact⟨_,rfl,r⟩
 |_,_,i+1,x,.cons _ t,e=>by
  obtain⟨u,h1,h2⟩:=AX.get (i:=i) (x:=x) t (by simpa using e);exact⟨u,by simpa using h1,h2⟩
theorem AX.append:∀{xs ys:Y V} {us a:Y A0},AX xs us->AX ys a->AX (xs++ys) (us++a)
 |_,_,_,_,.nil,s=>s
 |_,_,_,_,.cons r t,s=>.cons r (AX.append t s)
theorem AX.take:∀{xs:Y V} {us:Y A0} (n:Nat),AX xs us->AX (xs.take n) (us.take n)
 |_,_,0,_=>.nil
 |_,_,_+1,.nil=>.nil
 |_,_,n+1,.cons r t=>.cons r (AX.take n t)
theorem AX.drop:∀{xs:Y V} {us:Y A0} (n:Nat),AX xs us->AX (xs.drop n) (us.drop n)
 |_,_,0,r=>r
 |_,_,_+1,.nil=>.nil
 |_,_,n+1,.cons _ t=>AX.drop n t
def IZ:Y3 V->Y3 A0->Prop
 |some v,Z u=>B0 v u
 |none,O=>True
 |_,_=>False
def KV:Y (κ×V)->Y (κ×A0)->Prop:=AI λ(p:κ×V) (q:κ×A0)=>p.1=q.1/\B0 p.2 q.2
def kV:AY->V
 |.inl i=>.int i
 |.inr x=>.str x
inductive HO where
 |lst (xs:List V)
 |tup (xs:List V)
 |dK (AO:List (AY×V))|dT (AO:List (List AY×V))
 |set (S:Int->Bool) (n:Nat)
 |ins (C dx:Addr) (fs:List (Str×V))
 |own (x:Addr)
 |xd (fs:List (Str×V))
 |met (f x:Addr)
 |rng (lo hi:Int)
 |oJ (o:Obj) (u:HO)
 |JV (ps:Array Value)
 |ext (φ:Heap->Prop)
abbrev Hp:=A1->Y3 HO
def BA(H:Hp)(a:A1)(o:HO):Hp:=λb=>if b=a then Z o else H b
theorem bH{H:Hp}{o:HO}:BA H a o a=Z o:=by unfold BA;rw[zk rfl]
theorem aM{H:Hp}{b:A1}{o:HO}(h:b≠a):BA H a o b=H b:=by unfold BA;rw[zv h]
def oK(h:A6)(a:A1)(items:Array A0):Prop:=∃o,h.get? a=Z o/\o.cls=.type "tuple" ∧ (∃n,o.data=.seq items n)/\o.dict=O
theorem oK.weak(x:oK h a items):IsTup h a items:=let ⟨o,e,c,d,_⟩:=x;⟨o,e,c,d⟩
theorem oK.new(h:A6)(items:Array A0):oK (h.push { cls:=.type "tuple",data:=.seq items }) h.objs.size items:=⟨_,zS _ rfl,rfl,⟨_,rfl⟩,rfl⟩
theorem Cp{H:Hp}{b:A1}{o u:HO}(h:H a=Z o)(h':H b=Z u)(d:o≠u):a≠b:=by
 intro e;subst e;rw[h]at h';exact d (JP h')
theorem cH{H:Hp}{b:A1}{o:HO}(h:H a=Z o)(h':H b=O):a≠b:=by
 intro e;subst e;rw[h]at h';cases h'
def tq(ps:Array A0):AJ:=match ps[0]? with
 |some (Value.str q _)=>q
 |_ => ""
def tr(ps:Array A0):Array A0:=ps.extract 1 ps.size
def W8:At:=["most_word","longest_word","ground_of","least_for","nearest_pair"]
def GO(K:B8)(P:A1)(q:AJ):Prop:=∃c o vs x t,K.lookup c=Z o/\o.data=.fields vs/\vs[1]?=Z (.str x t)/\x∈W8/\vs[11]?=Z (.ref P)/\q=x++(".<locals>.<lambda>":AJ)
def ck(o:AE):Bool:=match o.data with
 |.fields vs=>match vs[1]? with
  |some (Value.str x _)=>!W8.contains x
  |_=>true
 |_=>true
def C1(K:B8)(H:Hp):Prop:=∀P q,GO K P q->∃ps,H P=Z (.JV ps)/\tq ps=q/\0<ps.size
theorem C1.go{H H':Hp}(x:C1 K H)(u:∀b ps,H b=Z (.JV ps)->∃a,H' b=Z (.JV (ps++a))):C1 K H':=λP q k=>by
 obtain⟨ps,e,h,z⟩:=x P q k;obtain⟨a,e'⟩:=u P ps e;refine⟨_,e',?_,by rw[kq];omega⟩;rw[<-h];unfold tq;rw[Array.getElem?_append_left z]
section
variable(P:A3)(w:A4)
def jB(H:Hp)(h:A6)(a:A1):HO->Prop
 |.lst xs=>xs.length<=AA/\∃(AQ:Y A0) (n:Nat),AX xs AQ/\h.get? a=Z { cls:=.type "list",data:=.seq AQ.toArray n }
 |.tup xs=>xs.length<=AA/\∃AQ:Y A0,AX xs AQ/\oK h a AQ.toArray
 |.dK AO=>AO.length<=AA/\(a==sysModules)=false/\∃vs,KV AO vs/\h.DictOf (lB P w) a vs
 |.dT AO=>AO.length<=AA/\(a==sysModules)=false/\∃xs:Y (Y AY×A1×A0),
   AI (λ(p:Y AY×V) (q:Y AY×A1×A0)=>p.1=q.1/\H q.2.1=Z (.tup (p.1.map kV))/\B0 p.2 q.2.2) AO xs ∧
   ∃o es ep,h.get? a=Z o/\o.ExactDict/\o.data=.dict es ep/\es.toList=xs.map (entryOfKey (tupleKind (lB P w)))/\(xs.map (·.1)).Nodup
 |.set S n=>h.SetOf (intKind P w) a S n
 |.ins C dx fs=>H dx=Z (.own a)/\fs.length<=1000/\dx≠a/\h.get? a=Z (PySem.W.instObj C dx) ∧
   ∃mA,h.Ns1 dx mA/\(∀f,IZ (fs.lookup f) (mA f))/\PySem.Within mA (fs.map (·.1))
 |.own _=>∃o,h.get? a=Z o
 |.xd fs=>∃mA,h.Ns1 a mA/\∀f,IZ (fs.lookup f) (mA f)
 |.rng lo hi=>∃t u v,h.get? a=Z { cls:=.type "range",data:=.fields #[.int lo t,.int hi u,.int 1 v] }
 |.oJ o u=>h.get? a=Z o/\jB H h a u
 |.JV ps=>∃d,h.get? a=Z { cls:=.none,data:=.fields (tr ps++d) }/\TriplesOk (tr ps++d).toList ∧
   ∀pos e,codeAmong pos (tr ps++d).toList=Z e->∃c g vs t,e=.ref c/\H c=Z (.oJ g (.ext λ_=>True))/\g.data=.fields vs/\vs[1]?=Z (.str (tq ps) t)
 |.met f x=>h.get? a=Z (methodObj (.ref f) (.ref x))
 |.ext b=>b h/\(∃o,h.get? a=Z o)/\∀h1 h2:A6,b h1->(∀o,h1.get? a=Z o->h2.get? a=Z o)->b h2
def Cq(H:Hp)(h:A6):Prop:=∀a o,H a=Z o->jB P w H h a o
end
section
variable{H H':Hp}{h':A6}{o:HO}
theorem jB.lt(x:jB P w H h a o):a<h.objs.size:=by
 cases o with
 |lst xs=>obtain⟨_,_,_,_,e⟩:=x;exact zI e
 |tup xs=>obtain⟨_,_,_,p⟩:=x;exact p.weak.lt
 |dK AO=>obtain⟨_,_,_,_,o,_,_,e,_⟩:=x;exact zI e
 |dT AO=>obtain⟨_,_,_,_,o,_,_,e,_⟩:=x;exact zI e
 |set S n=>obtain⟨o,_,_,_,e,_⟩:=x;exact zI e
 |ins C dx fs=>obtain⟨_,_,_,e,_⟩:=x;exact zI e
 |own y=>obtain⟨_,e⟩:=x;exact zI e
 |xd fs=>obtain⟨_,⟨_,_,_,e,_⟩,_⟩:=x;exact zI e
 |rng lo hi=>obtain⟨_,_,_,e⟩:=x;exact zI e
 |oJ b u=>obtain⟨e,_⟩:=x;exact zI e
 |JV ps=>obtain⟨_,e,_⟩:=x;exact zI e
 |met f y=>exact zI (show h.get? a=Z _ from x)
 |ext c=>obtain⟨_,⟨_,e⟩,_⟩:=x;exact zI e
theorem Paired.adH{α β:Type}{F G:α->β->Prop}:∀{l₁:Y α} {c:Y β},AI F l₁ c->(∀a b,F a b->G a b)->AI G l₁ c
 |_,_,.nil,_=>.nil
 |_,_,.cons r t,f=>.cons (f _ _ r) (Paired.adH t f)
theorem Paired.imp'{F G:α->β->Prop}(f:∀a b,F a b->G a b){l₁:Y α}{c:Y β}(r:AI F l₁ c):AI G l₁ c:=Paired.adH r f
theorem jB.stay(x:jB P w H h a o)(k:∀b u,(b=a\/H b=Z (.own a))->h.get? b=Z u->h'.get? b=Z u)
  (s:∀b,H b=Z (.own a)->H' b=Z (.own a)) (F:∀b xs,H b=Z (.tup xs)->H' b=Z (.tup xs)) (A:∀b o j,H b=Z (.oJ o (.ext j))->H' b=Z (.oJ o (.ext j))):jB P w H' h' a o:=by
 induction o with
 |lst xs=>obtain⟨z,AQ,n,r,e⟩:=x;exact⟨z,AQ,n,r,k _ _ (.inl Y2) e⟩
 |tup xs=>obtain⟨z,AQ,r,i,e,c⟩:=x;exact⟨z,AQ,r,i,k _ _ (.inl Y2) e,c⟩
 |dK AO=>obtain⟨z,y,vs,r,i,es,ep,e,c⟩:=x;exact⟨z,y,vs,r,i,es,ep,k _ _ (.inl Y2) e,c⟩
 |dT AO=>
  obtain⟨z,y,xs,r,i,es,ep,e,c⟩:=x;exact⟨z,y,xs,Paired.adH r λp q z=>⟨z.1,F _ _ z.2.1,z.2.2⟩,i,es,ep,k _ _ (.inl Y2) e,c⟩
 |set S n=>obtain⟨i,es,ep,t,e,c⟩:=x;exact⟨i,es,ep,t,k _ _ (.inl Y2) e,c⟩
 |ins C dx fs=>
  obtain⟨d,z,B,e,mA,⟨l,es,ep,e2,c⟩,r⟩:=x;exact⟨s _ d,z,B,k _ _ (.inl Y2) e,mA,⟨l,es,ep,k _ _ (.inr d) e2,c⟩,r⟩
 |own y=>obtain⟨i,e⟩:=x;exact⟨i,k _ _ (.inl Y2) e⟩
 |xd fs=>obtain⟨mA,⟨l,es,ep,e,c⟩,r⟩:=x;exact⟨mA,⟨l,es,ep,k _ _ (.inl Y2) e,c⟩,r⟩
 |rng lo hi=>obtain⟨t,u,v,e⟩:=x;exact⟨t,u,v,k _ _ (.inl Y2) e⟩
 |oJ i u E=>obtain⟨e,q⟩:=x;exact⟨k _ _ (.inl Y2) e,E q⟩
 |JV ps=>
  obtain⟨D,e,G,I⟩:=x;refine⟨D,k a _ (.inl Y2) e,G,λpos J z=>?_⟩;obtain⟨c,m,vs,t,rfl,g,d,v⟩:=I pos J z;exact⟨c,m,vs,t,rfl,A c m _ g,d,v⟩
 |met f y=>
  have e:h.get? a=Z (methodObj (.ref f) (.ref y)):=x;show h'.get? a=Z (methodObj (.ref f) (.ref y));exact k a _ (.inl Y2) e
 |ext j=>obtain⟨p,⟨o,e⟩,st⟩:=x;exact⟨st _ _ p λo q=>k _ _ (.inl Y2) q,⟨o,k _ _ (.inl Y2) e⟩,st⟩
theorem Cq.lt(x:Cq P w H h)(e:H a=Z o):a<h.objs.size:=(x a o e).lt
theorem Cq.fresh(x:Cq P w H h)(e:h.objs.size<=a):H a=O:=by
 cases q:H a with
 |none=>rfl
 |some u=>exact absurd (ZH (x.lt q) e) (kM _)
theorem Cq.kept(x:Cq P w H h)(k:∀b u,h.get? b=Z u->h'.get? b=Z u):Cq P w H h':=λa o e=>
 (x a o e).stay (λb u _ q=>k b u q) (λ_ q=>q) (λ_ _ q=>q) λ_ _ _ q=>q
theorem Cq.laid(x:Cq P w H h)(k:∀b u,h.get? b=Z u->h'.get? b=Z u)(hp:h.objs.size<=a)(new:jB P w (BA H a o) h' a o):Cq P w (BA H a o) h':=λb u e=>by
 have d:=x.fresh hp;by_cases f:b=a
 ·subst f;rw[bH]at e;cases e;exact new
 ·rw[aM f]at e;exact(x b u e).stay (λc v _ q=>k c v q) (λc q=>by rw[aM (cH q d)];exact q) (λc xs q=>by rw[aM (cH q d)];exact q) λc o' g q=>by rw[aM (cH q d)];exact q
end
def Rd(H:Hp)(a:A1)(u:HO):Prop:=H a=Z u\/∃o,H a=Z (.oJ o u)
theorem Rd.ok{H:Hp}{u:HO}(r:Rd H a u)(x:Cq P w H h):jB P w H h a u:=by
 rcases r with r|⟨o,r⟩
 ·exact x a u r
 ·obtain⟨_,q⟩:=x a _ r;exact q
def FB:Y3 HO->Prop
 |some (.lst _)=>True
 |some (.dK _)=>True
 |some (.dT _)=>True
 |some (.set _ _)=>True
 |some (.ins _ _ _)=>True
 |some (.ext _)=>True
 |_=>False
section
variable{H:Hp}{h':A6}{x e:A1}{o':HO}
theorem Cq.write(ok:Cq P w H h)(a:FB (H x))(j:e=x\/H e=Z (.own x))(k:∀b u,b≠e->h.get? b=Z u->h'.get? b=Z u)(p:∃u,h'.get? e=Z u)
  (new:jB P w (BA H x o') h' x o'):Cq P w (BA H x o') h':=λb u q=>by
 have l:∀c y,H c=Z (.own y)->c≠x:=λc y r z=>by subst z;rw[r]at a;exact a
 have o:∀c xs,H c=Z (.tup xs)->c≠x:=λc xs r z=>by subst z;rw[r]at a;exact a
 have n:∀c o' i,H c=Z (.oJ o' i)->c≠x:=λc o' i r z=>by subst z;rw[r]at a;exact a
 by_cases f:b=x
 ·subst f;rw[bH]at q;cases q;exact new
 ·rw[aM f]at q;by_cases d:b=e
  ·have m:H b=Z (.own x):=by
    rcases j with z|z
    ·exact absurd (d.trans z) f
    ·rw[d];exact z
   rw[q]at m;cases m;obtain⟨v,s⟩:=p;exact⟨v,by rw[d];exact s⟩
  ·refine(ok b u q).stay (λc v g r=>k c v ?_ r) (λc r=>by rw[aM (l c b r)];exact r) (λc xs r=>by rw[aM (o c xs r)];exact r) λc o' i r=>by rw[aM (n c o' _ r)];exact r
   rcases g with rfl|g
   ·exact d
   ·rintro rfl;rcases j with z|z
    ·exact l c b g z
    ·rw[g]at z;cases z;exact f rfl
end
structure Un (fs ex:List Addr) (H H':Hp) (h h':Heap):Prop where
 keep:∀b o,h.get? b=some o->H b=none->b∉fs->b∉ex->h'.get? b=some o
 slot:∀b o,h.get? b=some o->H b=none->b∈fs->b∉ex->∃sl,h'.get? b=some { o with slots:=sl }
 free:∀b o,h.get? b=some o->H b=none->b∉ex->H' b=none
 there:∀b o,h.get? b=some o->b∉ex->∃o',h'.get? b=some o'
 tups:∀b xs,H b=some (.tup xs)->H' b=some (.tup xs)
 Du:∀b o u,H b=some (.oJ o u)->H' b=some (.oJ o u)
 yx:∀b ps,H b=some (.JV ps)->∃more,H' b=some (.JV (ps++more))
section
variable{fs fs' ex ex':Y A1}{H H1 H2:Hp}{h1 h2 h':A6}{x e:A1}{o:HO}
theorem Un.any(u:Un fs ex H H1 h h1){b:A1}{a:AE}(q:h.get? b=Z a)(n:H b=O)(hx:b∉ex):∃sl,h1.get? b=Z { a with slots:=sl }:=by
 by_cases c:b∈fs
 ·exact u.slot b a q n c hx
 ·exact⟨a.slots,u.keep b a q n c hx⟩
theorem Un.kept(k:∀b u,h.get? b=Z u->h'.get? b=Z u):Un fs ex H H h h':=
 ⟨λb a q _ _ _=>k b a q,λb a q _ _ _=>⟨a.slots,k b a q⟩,λ_ _ _ n _=>n,λb a q _=>⟨a,k b a q⟩,λ_ _ q=>q,λ_ _ _ q=>q,λ_ ps q=>⟨#[],by rw[q];simp⟩⟩
theorem Un.refl:Un fs ex H H h h:=Un.kept λ_ _ q=>q
theorem Un.laid(k:∀b u,h.get? b=Z u->h'.get? b=Z u)(hp:h.objs.size<=a)(c:H a=O):Un fs ex H (BA H a o) h h' where
 keep:=λb u q _ _ _=>k b u q
 slot:=λb u q _ _ _=>⟨u.slots,k b u q⟩
 free:=λb u q n _=>by rw[aM (ZI (ZH (zI q) hp))];exact n
 there:=λb u q _=>⟨u,k b u q⟩
 tups:=λb xs q=>by rw[aM (cH q c)];exact q
 Du:=λb u xs q=>by rw[aM (cH q c)];exact q
 yx:=λb ps q=>⟨#[],by rw[aM (cH q c),q];simp⟩
theorem Un.write(a:FB (H x))(i:e=x\/H e=Z (.own x))(k:∀b u,b≠e->h.get? b=Z u->h'.get? b=Z u)(g:∃u,h'.get? e=Z u):Un fs ex H (BA H x o) h h':=by
 have hx:∀b,H b=O->b≠x:=λb n z=>by subst z;rw[n]at a;exact a
 have f:∀b,H b=O->b≠e:=λb n z=>by
  subst z;rcases i with r|r
  ·exact hx b n r
  ·rw[n]at r;cases r
 have c:∀b u,H b=Z u->¬ FB (Z u)->b≠x:=λb u q nm z=>by subst z;rw[q]at a;exact nm a
 refine⟨λb u q n _ _=>k b u (f b n) q,λb u q n _ _=>⟨u.slots,k b u (f b n) q⟩,λb u q n _=>by rw[aM (hx b n)];exact n,λb u q _=>?_,
  λb xs q=>by rw[aM (c b _ q λz=>z)];exact q,λb u xs q=>by rw[aM (c b _ q λz=>z)];exact q,λb ps q=>⟨#[],by rw[aM (c b _ q λz=>z),q];simp⟩⟩
 by_cases d:b=e
 ·subst d;exact g
 ·exact⟨u,k b u d q⟩
end
def FU(h:A6)(H:Hp):Y A1:=(da h.objs.size).filter λa=>(H a).isSome
def JW(h:A6)(H:Hp):A6:=PySem.W.hideAll h (FU h H)
theorem Vk(h:A6)(H:Hp):(JW h H).objs.size=h.objs.size:=PySem.W.hideAll_size _ _
theorem W9{H:Hp}{b:A1}{o:AE}(e:h.get? b=Z o)(n:H b=O):(JW h H).get? b=Z o:=
 PySem.W.hideAll_get _ e λa=>by
  have q:(H b).isSome=true:=(de.mp a).2;rw[n]at q;simp at q
theorem OA{H:Hp}{b:A1}{o:AE}(e:(JW h H).get? b=Z o):h.get? b=Z o/\H b=O:=by
 have e':h.get? b=Z o:=PySem.W.of_hideAll (FU h H) e;refine⟨e',?_⟩;cases q:H b with
 |none=>rfl
 |some x=>
  have a:b∈FU h H:=de.mpr ⟨dg.mpr (zI e'),by simp[q]⟩;have z:(JW h H).get? b=O:=PySem.W.hideAll_none (FU h H) a;rw[z]at e;cases e
def R1(g h:A6)(L:A1):Y (A1×AE):=(da h.objs.size).filterMap λa=>if a=L\/(g.get? a).isSome=true then O else(h.get? a).map λo=>(a,o)
def AS(g h:A6)(L d:A1):Y (A1×AE):=(R1 g h L).filter λp=>decide (p.1≠d)
end L2
namespace L2
structure Mod (K:B8) (mg:Str->Option Value) (base:Heap):Prop where
 kin:K.In base
 glob:base.Ns mainGlobals mg
 blt:∃mb,base.Ns builtinsNs mb/\∀x:Str,x ≠ "__name__" → mb x=bootBuiltins x
 nolimit:base.NoLimit
 bmain:∃bm ob,mg "__builtins__"=some (.ref bm)/\bm≠builtinsNs/\base.get? bm=some ob/\ob.cls=.type "module" ∧ ob.dict=some builtinsNs/\ob.data=.plain
structure Cx where
 prog:Program
 w:World
 K:B8
 mg:Str->Option Value
 base:Heap
 A:Around
 N:At
 s₀:Shared
 H₀:Hp
 env:Env
 outer:List Env
 stack:List Env
 ex:List Addr
 fn:Str->Bool
 calm:Bool
 pn:List (Addr×Obj)
 xe:BG
abbrev cr(X:Cx):=A8 X.prog X.w
def Cs(l:Y Env):Y A1:=l.filterMap (·.frame)
abbrev Cx.fs(X:Cx):Y A1:=Cs X.outer
def WY(a:Scope)(x:AJ):Prop:=a.names.lookup x=Z .local\/a.names.lookup x=Z .cell\/a.names.lookup x=Z .free
def ED(a:Scope)(x:AJ):Prop:=a.names.lookup x=Z .local\/a.names.lookup x=Z .cell
def GM(env:Env)(h:A6)(m:AJ->Y3 A0)(x:AJ)(u:A0):Prop:=
 (env.kindOf x=Z .local/\m x=Z u)\/((env.kindOf x=Z .cell\/env.kindOf x=Z .free)/\∃c,env.cells.lookup x=Z c/\h.IsCell c (Z u))
structure Cx.Ok (X:Cx):Prop where
 mod:Mod X.K X.mg X.base
 kind:X.env.scope.kind=.function
 glob:X.env.globals=mainGlobals
 blt:X.env.builtins=builtinsNs
 above:X.s₀.heap.objs.size<=X.env.locals
 inj:∀x y c,X.env.cells.lookup x=some c->X.env.cells.lookup y=some c->x=y
 has:∀x,(X.env.kindOf x=some .cell\/X.env.kindOf x=some .free)->∃c,X.env.cells.lookup x=some c
 cab:∀x c,X.fn x=true->X.env.cells.lookup x=some c->X.s₀.heap.objs.size<=c
 hd:X.calm=true->X.A.handled=none
 frames:X.A.frames=some X.stack
 stk:X.stack=X.outer\/(X.stack=X.env::X.outer/\X.env.frame=some X.env.locals)
 exf:∀b∈X.ex,b≠X.env.locals/\∀x c,X.env.cells.lookup x=some c->c≠b
 bs:∀b o,X.base.get? b=some o->X.s₀.heap.get? b=some o/\X.H₀ b=none
 bsz:X.base.objs.size<=X.s₀.heap.objs.size
 Xa:∀b o,X.base.get? b=some o->b∉X.ex
 aaJ:∀b∈X.ex,b∉X.fs
 Dv:X.s₀.heap.FunFrames X.base X.outer
 frf:∀b∈X.fs,X.H₀ b=none
 tabs:C1 X.K X.H₀
structure AU (X:Cx) (AN:List (Addr×Obj)) (σ:List (Option V)) (H:Hp) (s:Shared):Prop where
 ok:X.Ok
 os:s.os=X.s₀.os
 bare:AllBare s.gens
 base:Un X.fs X.ex X.H₀ H X.s₀.heap s.heap
 loc:∃m,s.heap.Ns X.env.locals m/\∀(i:Nat) (x:Str) (v:V),X.N[i]?=some x->σ[i]?=some (some v)->WY X.env.scope x->∃u,B0 v u/\GM X.env s.heap m x u
 cell:∀x c,X.env.cells.lookup x=some c->∃v,s.heap.IsCell c v
 free:H X.env.locals=none
 qG:∀x c,X.env.cells.lookup x=some c->H c=none
 pin:∀p∈X.pn++AN,s.heap.get? p.1=some p.2/\H p.1=none/\p.1≠X.env.locals/\p.1∉X.fs/\∀v,p.2.data≠.cell v
 hok:Cq X.prog X.w H s.heap
 len:σ.length=X.N.length
section
variable{X:Cx}{σ:Y (Y3 V)}{H H':Hp}{h':A6}
theorem Cx.Ok.aiH(ok:X.Ok){b:A1}{o:AE}(e:X.base.get? b=Z o):b∉X.fs:=λa=>by
 have:=(ok.Dv.mem a).1;rw[e]at this;cases this
theorem AU.bs(I:AU X AN σ H s):∀b o,X.base.get? b=Z o->s.heap.get? b=Z o/\H b=O:=λb o e=>
 ⟨I.base.keep b o (I.ok.bs b o e).1 (I.ok.bs b o e).2 (I.ok.aiH e) (I.ok.Xa b o e),I.base.free b o (I.ok.bs b o e).1 (I.ok.bs b o e).2 (I.ok.Xa b o e)⟩
theorem AU.bk(I:AU X AN σ H s):∀b o,X.base.get? b=Z o->s.heap.get? b=Z o:=λb o e=>(I.bs b o e).1
theorem AU.mod(I:AU X AN σ H s):Mod X.K X.mg X.base:=I.ok.mod
theorem AU.kIn(I:AU X AN σ H s):X.K.In s.heap:=I.ok.mod.kin.keeps I.bk
theorem AU.nolimit(I:AU X AN σ H s):s.heap.NoLimit:=I.ok.mod.nolimit.keeps I.bk
theorem AU.lt(I:AU X AN σ H s):X.env.locals<s.heap.objs.size:=let ⟨_,hn,_⟩:=I.loc;hn.lt
theorem AU.sz(I:AU X AN σ H s):X.s₀.heap.objs.size<=s.heap.objs.size:=zo I.ok.above (qv I.lt)
theorem AU.aiI(I:AU X AN σ H s)(h:s.heap.objs.size<=a):a∉X.fs:=λb=>by
 obtain⟨_,o,c,_⟩:=I.ok.Dv.mem b;exact absurd (ZH (zI c) (zo I.sz h)) (kM _)
theorem AU.cne(I:AU X AN σ H s):∀x c,X.env.cells.lookup x=Z c->c≠X.env.locals:=λx c e z=>by
 obtain⟨v,o,a,hd⟩:=I.cell x c e;obtain⟨m,⟨o',es,ep,d,b,_⟩,_⟩:=I.loc;rw[z,d]at a;cases a;rw[b]at hd;cases hd
theorem AU.Dv(I:AU X AN σ H s):s.heap.FunFrames X.base X.outer:=by
 have all:∀(l:Y Env),(∀b∈Cs l,b∈X.fs)->X.s₀.heap.FunFrames X.base l->s.heap.FunFrames X.base l:=by
  intro l
  induction l with
  |nil=>intro _ _;trivial
  |cons env r i=>
   intro f hl;obtain⟨hk,⟨L,o,d,g,h,hd⟩,j⟩:=hl;have a:L∈X.fs:=f L (by unfold Cs;rw[kL,d];exact zt);obtain⟨sl,e⟩:=I.base.slot L o h (I.ok.frf L a) a λz=>I.ok.aaJ L z a;exact⟨hk,⟨L,_,d,g,e,hd⟩,i (λb c=>f b (by unfold Cs;rw[kL,d];exact zl _ c)) j⟩
 exact all X.outer (λ_ c=>c) I.ok.Dv
theorem AU.stack(I:AU X AN σ H s):s.heap.FunFrames X.base X.stack:=by
 rcases I.ok.stk with e|⟨e,b⟩
 ·rw[e];exact I.Dv
 ·rw[e];obtain⟨m,a,_⟩:=I.loc;refine .cons (by rw[I.ok.kind];decide) b a ?_ I.Dv;exact Heap.get?_none_of_le (zo I.ok.bsz I.ok.above)
theorem AU.JX(I:AU X AN σ H s):∀b∈Cs X.stack,b∈X.env.locals::X.fs:=λb a=>by
 rcases I.ok.stk with e|⟨e,c⟩
 ·rw[e]at a;exact zl _ a
 ·rw[e]at a;unfold Cs at a;rw[kL,c]at a;exact a
theorem AU.JZ(I:AU X AN σ H s):∀b∈Cs X.stack,H b=O:=λb a=>by
 rcases bc.mp (I.JX b a)with e|a
 ·rw[e];exact I.free
 ·obtain⟨_,o,c,_⟩:=I.ok.Dv.mem a;exact I.base.free b o c (I.ok.frf b a) λz=>I.ok.aaJ b z a
theorem AU.step{g':Array GenState}{t':Nat}{d':Drawn}{ch:Y A1}(I:AU X AN σ H s)
  (h:∀b∈ch,(b∈X.ex\/X.s₀.heap.objs.size<=b)/\b≠X.env.locals/\(∀x c,X.env.cells.lookup x=Z c->c≠b)/\∀p∈X.pn++AN,p.1≠b)
  (keep:∀b o,b≠X.env.locals->b∉X.fs->b∉ch->s.heap.get? b=Z o->H b=O->h'.get? b=Z o)
  (C:∀b o,b≠X.env.locals->b∈X.fs->b∉ch->s.heap.get? b=Z o->H b=O->∃sl,h'.get? b=Z { o with slots:=sl }) (free:∀b o,b∉ch->s.heap.get? b=Z o->H b=O->H' b=O)
  (F:∀b o,b∉ch->s.heap.get? b=Z o->∃o',h'.get? b=Z o')
  (S:∀b xs,H b=Z (.tup xs)->H' b=Z (.tup xs)) (M:∀b o u,H b=Z (.oJ o u)->H' b=Z (.oJ o u)) (E:∀b ps,H b=Z (.JV ps)->∃Q,H' b=Z (.JV (ps++Q)))
  (L:∀m,s.heap.Ns X.env.locals m->h'.Ns X.env.locals m) (P:Cq X.prog X.w H' h') (J:AllBare g'):
  AU X AN σ H' { s with heap:=h',gens:=g',drawn:=d',toks:=t' }:=by
 have t:∀b o,X.s₀.heap.get? b=Z o->b≠X.env.locals:=λb o e=>ZI (ZH (zI e) I.ok.above);have j:∀b o,X.s₀.heap.get? b=Z o->b∉X.ex->b∉ch:=λb o e hx a=>by
  rcases(h b a).1 with z|z
  ·exact hx z
  ·exact absurd (ZH (zI e) z) (kM _)
 have D:∀x c,X.env.cells.lookup x=Z c->∀v,s.heap.IsCell c v->h'.IsCell c v:=λx c e v ⟨o,f,hd⟩=>by
  have g:c∉ch:=λz=>(h c z).2.2.1 x c e rfl;by_cases B:c∈X.fs
  ·obtain⟨sl,q⟩:=C c o (I.cne x c e) B g f (I.qG x c e);exact⟨_,q,hd⟩
  ·exact⟨o,keep c o (I.cne x c e) B g f (I.qG x c e),hd⟩
 refine⟨I.ok,I.os,J,⟨λb o e n a hx=>?_,λb o e n a hx=>?_,λb o e n hx=>?_,λb o e hx=>?_,λb xs e=>S b xs (I.base.tups b xs e),λb o xs e=>M b o xs (I.base.Du b o xs e),λb ps e=>?_⟩,?_,λx c e=>?_,?_,λx c e=>?_,λp hp=>?_,P,I.len⟩
 ·exact keep b o (t b o e) a (j b o e hx) (I.base.keep b o e n a hx) (I.base.free b o e n hx)
 ·obtain⟨sl,e1⟩:=I.base.slot b o e n a hx;obtain⟨G,e2⟩:=C b _ (t b o e) a (j b o e hx) e1 (I.base.free b o e n hx);exact⟨G,e2⟩
 ·obtain⟨o',e1⟩:=I.base.there b o e hx;exact free b o' (j b o e hx) e1 (I.base.free b o e n hx)
 ·obtain⟨o',e1⟩:=I.base.there b o e hx;exact F b o' (j b o e hx) e1
 ·obtain⟨K,e1⟩:=I.base.yx b ps e;obtain⟨m2,e2⟩:=E b _ e1;exact⟨K++m2,by rw[e2,K0]⟩
 ·obtain⟨m,N,hl⟩:=I.loc;refine⟨m,L m N,λi x v e1 e2 e3=>?_⟩;obtain⟨u,r,l⟩:=hl i x v e1 e2 e3;refine⟨u,r,?_⟩;rcases l with l|⟨k,c,e,z⟩
  ·exact .inl l
  ·exact .inr ⟨k,c,e,D x c e _ z⟩
 ·obtain⟨v,z⟩:=I.cell x c e;exact⟨v,D x c e v z⟩
 ·obtain⟨m,⟨o,_,_,f,_⟩,_⟩:=I.loc;exact free _ o (λz=>(h _ z).2.1 Y2) f I.free
 ·obtain⟨v,o,f,hd⟩:=I.cell x c e;exact free c o (λz=>(h c z).2.2.1 x c e Y2) f (I.qG x c e)
 ·obtain⟨e,n,y,A,d⟩:=I.pin p hp;have g:p.1∉ch:=λz=>(h p.1 z).2.2.2 p hp rfl;exact⟨keep p.1 p.2 y A g e n,free p.1 p.2 g e n,y,A,d⟩
theorem AU.un{t':Nat}(I:AU X AN σ H s)(u:Un X.fs [] H H' s.heap h')(h:Cq X.prog X.w H' h'):AU X AN σ H' { s with heap:=h',toks:=t' }:=by
 obtain⟨m,⟨o,es,ep,c,r⟩,_⟩:=id I.loc;obtain⟨sl,f⟩:=u.any c I.free (by simp);exact I.step (g':=s.gens) (d':=s.drawn) (ch:=[]) (λ_ z=>nomatch z) (λb o _ a _ e n=>u.keep b o e n a (by simp)) (λb o _ a _ e n=>u.slot b o e n a (by simp)) (λb o _ e n=>u.free b o e n (by simp)) (λb o _ e=>u.there b o e (by simp)) u.tups u.Du u.yx (λl i=>by
  obtain⟨o',j,k,d,g⟩:=i;rw[c]at d;cases d;exact⟨_,j,k,f,g⟩) h I.bare
theorem AU.call{g':Array GenState}{t':Nat}{d':Drawn}{ch:Y A1}(I:AU X AN σ H s)(u:Un (Cs X.stack) ch H H' s.heap h')(k:Cq X.prog X.w H' h')(l:AllBare g')
  (h:∀b∈ch,(b∈X.ex\/X.s₀.heap.objs.size<=b)/\b≠X.env.locals/\(∀x c,X.env.cells.lookup x=Z c->c≠b)/\∀p∈X.pn++AN,p.1≠b):
  AU X AN σ H' { s with heap:=h',gens:=g',drawn:=d',toks:=t' }:=by
 obtain⟨m,⟨o,es,ep,f,r⟩,_⟩:=id I.loc;obtain⟨sl,d⟩:=u.any f I.free λz=>(h _ z).2.1 rfl;exact I.step (ch:=ch) h (λb o d i a e n=>u.keep b o e n (λz=>(bc.mp (I.JX b z)).elim d i) a) (λb o _ _ a e n=>u.any e n a) (λb o a e n=>u.free b o e n a) (λb o a e=>u.there b o e a) u.tups u.Du u.yx (λy q=>by
  obtain⟨o',t,v,g,j⟩:=q;rw[f]at g;cases g;exact⟨_,t,v,d,j⟩) k l
theorem AU.turned{t':Nat}(I:AU X AN σ H s)(k:∀b o,b≠it->s.heap.get? b=Z o->h'.get? b=Z o)(g:H it=O)(d:it≠X.env.locals)(h1:it∈X.ex\/X.s₀.heap.objs.size<=it)(h2:∀x c,X.env.cells.lookup x=Z c->c≠it)(j:∀p∈X.pn++AN,p.1≠it):AU X AN σ H { s with heap:=h',toks:=t' }:=by
 have f:∀b u,H b=Z u->b≠it:=λb u e z=>by rw[z,g]at e;cases e
 refine I.step (g':=s.gens) (d':=s.drawn) (ch:=[it]) (λb i=>?_) (λb o _ _ a e _=>k b o (λz=>a (by simp[z])) e) (λb o _ _ a e _=>⟨o.slots,k b o (λz=>a (by simp[z])) e⟩) (λ_ _ _ _ n=>n)
  (λb o a e=>⟨o,k b o (λz=>a (by simp[z])) e⟩) (λ_ _ e=>e) (λ_ _ _ e=>e) (λb ps e=>⟨#[],by rw[e];simp⟩) (λm l=>?_) (λb u e=>?_) I.bare
 ·have e:b=it:=by simpa using i
  subst e;exact⟨h1,d,h2,j⟩
 ·obtain⟨o,es,ep,h,r⟩:=l;exact⟨o,es,ep,k _ o (kX d) h,r⟩
 ·refine(I.hok b u e).stay (λc v a q=>k c v ?_ q) (λ_ q=>q) (λ_ _ q=>q) λ_ _ _ q=>q;rcases a with z|z
  ·rw[z];exact f b u e
  ·exact f c _ z
theorem AU.tok(I:AU X AN σ H s)(t:Nat):AU X AN σ H { s with toks:=t }:=I.un (h':=s.heap) (t':=t) Un.refl I.hok
theorem AU.kept{t':Nat}(I:AU X AN σ H s)(k:∀b u,s.heap.get? b=Z u->h'.get? b=Z u):AU X AN σ H { s with heap:=h',toks:=t' }:=I.un (Un.kept k) (I.hok.kept k)
theorem AU.laid{a:A1}{o:HO}{t':Nat}(I:AU X AN σ H s)(k:∀b u,s.heap.get? b=Z u->h'.get? b=Z u)(hp:s.heap.objs.size<=a)(new:jB X.prog X.w (BA H a o) h' a o):
  AU X AN σ (BA H a o) { s with heap:=h',toks:=t' }:=I.un (Un.laid k hp (I.hok.fresh hp)) (I.hok.laid k hp new)
theorem AU.write{x e:A1}{o:HO}{t':Nat}(I:AU X AN σ H s)(d:FB (H x))(c:e=x\/H e=Z (.own x))(k:∀b u,b≠e->s.heap.get? b=Z u->h'.get? b=Z u)(a:∃u,h'.get? e=Z u)
  (new:jB X.prog X.w (BA H x o) h' x o):AU X AN σ (BA H x o) { s with heap:=h',toks:=t' }:=I.un (Un.write d c k a) (I.hok.write d c k a new)
theorem AU.J0{a:Y (A1×AE)}(I:AU X AN σ H s)(h:∀p∈a,s.heap.get? p.1=Z p.2/\H p.1=O/\p.1≠X.env.locals/\p.1∉X.fs/\∀v,p.2.data≠.cell v):AU X a σ H s:=
 ⟨I.ok,I.os,I.bare,I.base,I.loc,I.cell,I.free,I.qG,λp hp=>(cb.mp hp).elim (λz=>I.pin p (gu _ z)) (h p),I.hok,I.len⟩
theorem Nr(c:N.Nodup)(a:N[i]?=Z x)(b:N[j]?=Z x):i=j:=by
 obtain⟨h1,e1⟩:=ca.mp a;obtain⟨h2,e2⟩:=ca.mp b;exact(yB c).mp (e1.trans e2.symm)
theorem Vl{v:V}{Q:Unit->A2->Prop}(I:AU X AN σ H s)(hN:X.N.Nodup)(hi:X.N[i]?=Z x)(hx:ED X.env.scope x)(r:B0 v u)(h:∀s',AU X AN (σ.set i (Z v)) H s'->(∃a,Heap.SameBut a s.heap s'.heap/\(a=X.env.locals\/X.env.cells.lookup x=Z a))->Q dl s')(hf:X.fn x=true\/X.env.scope.names.lookup x=Z .local:=by first|exact .inl rfl|exact .inr rfl|assumption):A7 M A (storeName X.env x u) Q E s:=by
 obtain⟨m,K,hl⟩:=id I.loc;have a6:(X.env.scope.kind==.class||(X.env.scope.kind==.module&&X.env.locals !=X.env.globals))=false:=by rw[I.ok.kind];rfl
 have a2:i<σ.length:=by rw[I.len];exact(ca.mp hi).1
 have cne:=I.cne;have S:∀{a:A1} {h':A6},(∃o,s.heap.get? a=Z o/\H a=O)->Heap.SameBut a s.heap h'->Cq X.prog X.w H h':=λ{a h'} ha f b ob e=>by
  obtain⟨_,_,P⟩:=ha;refine(I.hok b ob e).stay (λc C g q=>(f.2 c ?_).trans q) (λ_ q=>q) (λ_ _ q=>q) λ_ _ _ q=>q;rintro rfl;rcases g with rfl|g
  ·rw[P]at e;cases e
  ·rw[P]at g;cases g
 rcases hx with hk|hk
 ·refine wpAny_storeName_local hk K (λh' a4 f=>?_) a6;obtain⟨oL,_,_,a7,_⟩:=id K;refine h _ ⟨I.ok,I.os,I.bare,⟨λb o e n l hx=>?_,λb o e n l hx=>?_,I.base.free,λb o e hx=>?_,I.base.tups,I.base.Du,I.base.yx⟩,⟨_,a4,λj y L e1 e2 e3=>?_⟩,λy c e=>?_,I.free,I.qG,λp hp=>?_,S ⟨oL,a7,I.free⟩ f,by simpa using I.len⟩ ⟨_,f,.inl rfl⟩
  ·exact(f.2 b (ZI (ZH (zI e) I.ok.above))).trans (I.base.keep b o e n l hx)
  ·obtain⟨sl,e1⟩:=I.base.slot b o e n l hx;exact⟨sl,(f.2 b (ZI (ZH (zI e) I.ok.above))).trans e1⟩
  ·obtain⟨o',e1⟩:=I.base.there b o e hx;exact⟨o',(f.2 b (ZI (ZH (zI e) I.ok.above))).trans e1⟩
  ·by_cases t:j=i
   ·subst t;rw[hi]at e1;cases e1;rw[f7 a2]at e2;cases e2;exact⟨u,r,.inl ⟨hk,by simp⟩⟩
   ·rw[gD (kX t)]at e2;obtain⟨J,F,q⟩:=hl j y L e1 e2 e3;refine⟨J,F,?_⟩;rcases q with⟨k,e⟩|⟨k,c,e,z⟩
    ·refine .inl ⟨k,?_⟩;have:y≠x:=λe=>t (Nr hN e1 (e▸hi));simp[this,e]
    ·exact .inr ⟨k,c,e,z.sameBut f (cne y c e)⟩
  ·obtain⟨C,z⟩:=I.cell y c e;exact⟨C,z.sameBut f (cne y c e)⟩
  ·obtain⟨e,n,B,G,d⟩:=I.pin p hp;exact⟨(f.2 p.1 B).trans e,n,B,G,d⟩
 ·have D:X.fn x=true:=by
   rcases hf with z|z
   ·exact z
   ·rw[z]at hk;cases hk
  obtain⟨c,g⟩:=I.ok.has x (.inl hk);obtain⟨C,z⟩:=I.cell x c g;refine wpAny_storeName_cell I.ok.kind hk g z (λh' a1 f=>?_);obtain⟨U,W,a5⟩:=id z;refine h { s with heap:=h' } ⟨I.ok,I.os,I.bare,⟨λb o e n l hx=>?_,λb o e n l hx=>?_,I.base.free,λb o e hx=>?_,I.base.tups,I.base.Du,I.base.yx⟩,⟨m,K.sameBut f (kX (cne x c g)),λj y L e1 e2 e3=>?_⟩,λy c' e=>?_,I.free,I.qG,λp hp=>?_,S ⟨U,W,I.qG x c g⟩ f,by simpa using I.len⟩ ⟨c,f,.inr g⟩
  ·exact(f.2 b (ZI (ZH (zI e) (I.ok.cab x c D g)))).trans (I.base.keep b o e n l hx)
  ·obtain⟨sl,e1⟩:=I.base.slot b o e n l hx;exact⟨sl,(f.2 b (ZI (ZH (zI e) (I.ok.cab x c D g)))).trans e1⟩
  ·obtain⟨o',e1⟩:=I.base.there b o e hx;exact⟨o',(f.2 b (ZI (ZH (zI e) (I.ok.cab x c D g)))).trans e1⟩
  ·by_cases t:j=i
   ·subst t;rw[hi]at e1;cases e1;rw[f7 a2]at e2;cases e2;exact⟨u,r,.inr ⟨.inl hk,c,g,a1⟩⟩
   ·rw[gD (kX t)]at e2;obtain⟨J,F,q⟩:=hl j y L e1 e2 e3;refine⟨J,F,?_⟩;rcases q with q|⟨k,c',e,z'⟩
    ·exact .inl q
    ·refine .inr ⟨k,c',e,z'.sameBut f ?_⟩;rintro rfl;exact t (Nr hN e1 (I.ok.inj _ _ _ e g▸hi))
  ·by_cases a3:c'=c
   ·subst a3;exact⟨_,a1⟩
   ·obtain⟨w2,z2⟩:=I.cell y c' e;exact⟨w2,z2.sameBut f a3⟩
  ·obtain⟨e,n,B,G,d⟩:=I.pin p hp;refine⟨(f.2 p.1 ?_).trans e,n,B,G,d⟩;intro q;rw[q,W]at e;have q':U=p.2:=JP e;exact d C (by rw[<-q'];exact a5)
theorem zj{v:V}{Q:Unit->A2->Prop}(I:AU X AN σ H s)(a:X.N.Nodup)(hi:X.N[i]?=Z x)(hx:ED X.env.scope x)(r:B0 v u)(h:∀s',AU X AN (σ.set i (Z v)) H s'->Q dl s')(b:X.fn x=true\/X.env.scope.names.lookup x=Z .local:=by first|exact .inl rfl|exact .inr rfl|assumption):A7 M A (storeName X.env x u) Q E s:=
 Vl I a hi hx r (λs' c _=>h s' c) b
theorem AU.call'{s':A2}{ch:Y A1}(I:AU X AN σ H s)(a:s'.os=s.os)(u:Un (Cs X.stack) ch H H' s.heap s'.heap)(f:Cq X.prog X.w H' s'.heap)(d:AllBare s'.gens)
  (g:∀b∈ch,(b∈X.ex\/X.s₀.heap.objs.size<=b)/\b≠X.env.locals/\(∀x c,X.env.cells.lookup x=Z c->c≠b)/\∀p∈X.pn++AN,p.1≠b):AU X AN σ H' s':=by
 obtain⟨h',g',d',t',o'⟩:=s';have e:o'=s.os:=a;subst e;exact I.call (g':=g') (t':=t') (d':=d') u f d g
end
abbrev XK:=A0->Y3 A1->Hp->Prop
abbrev St:=Y (Y3 V)
abbrev VK:=V->Hp->Prop
abbrev TE:=St->Hp->VK->Prop
abbrev TT:=St->Hp->(Bool->Hp->Prop)->Prop
abbrev TA:=St->Hp->(Y V->Hp->Prop)->Prop
structure CA where
 nx:St->Hp->Prop
 rt:VK
 bk:St->Hp->Prop:=λ_ _=>False
 ct:St->Hp->Prop:=λ_ _=>False
abbrev TS:=CA->St->Hp->Prop
def EP(X:Cx)(AN:Y (A1×AE))(σ:St)(Q:VK)(u:A0)(s':A2):Prop:=∃v H',AU X AN σ H' s'/\B0 v u/\Q v H'
def TP(X:Cx)(AN:Y (A1×AE))(σ:St)(Q:Bool->Hp->Prop)(b:Bool)(s':A2):Prop:=∃H',AU X AN σ H' s'/\Q b H'
def AP(X:Cx)(AN:Y (A1×AE))(σ:St)(Q:Y V->Hp->Prop)(us:Y A0)(s':A2):Prop:=∃vs H',AU X AN σ H' s'/\AX vs us/\Q vs H'
def SP(X:Cx)(AN:Y (A1×AE))(D:CA)(f:Flow)(s':A2):Prop:=
 match f with
 |.next=>∃ σ' H',AU X AN σ' H' s'/\D.nx σ' H'
 |.brk=>∃ σ' H',AU X AN σ' H' s'/\D.bk σ' H'
 |.cont=>∃ σ' H',AU X AN σ' H' s'/\D.ct σ' H'
 |.ret u=>∃v σ' H',AU X AN σ' H' s'/\B0 v u/\D.rt v H'
def PE(X:Cx)(e:Expr)(t:TE):Prop:=
 ∀(AN:Y (A1×AE)) (s:A2) (σ:St) (H:Hp) (Q:VK),AU X AN σ H s->t σ H Q->A7 (cr X) X.A (eval e X.env) (EP X AN σ Q) X.xe s
def PT(X:Cx)(e:Expr)(t:TT):Prop:=
 ∀(AN:Y (A1×AE)) (s:A2) (σ:St) (H:Hp) (Q:Bool->Hp->Prop),AU X AN σ H s->t σ H Q->A7 (cr X) X.A (isTrue e X.env (eval e X.env)) (TP X AN σ Q) X.xe s
def PW(X:Cx)(e:Expr)(t:TT):Prop:=
 ∀(a:Sem A0) (AN:Y (A1×AE)) (s:A2) (σ:St) (H:Hp) (Q:Bool->Hp->Prop),AU X AN σ H s->t σ H Q->A7 (cr X) X.A (isTrue e X.env a) (TP X AN σ Q) X.xe s
theorem PW.pt{X:Cx}{t:TT}(h:PW X e t):PT X e t:=h _
def PA(X:Cx)(es:Y Expr)(t:TA):Prop:=
 ∀(pos:Pos) (AN:Y (A1×AE)) (s:A2) (σ:St) (H:Hp) (Q:Y V->Hp->Prop),AU X AN σ H s->t σ H Q->A7 (cr X) X.A (spliced (AD pos (A9 es X.env))) (AP X AN σ Q) X.xe s
def PS(X:Cx)(st:AB)(t:TS):Prop:=
 ∀(AN:Y (A1×AE)) (s:A2) (σ:St) (H:Hp) (D:CA),AU X AN σ H s->t D σ H->A7 (cr X) X.A (exec st X.env) (SP X AN D) X.xe s
def Rc(X:Cx)(st:Y AB)(t:TS):Prop:=
 ∀(AN:Y (A1×AE)) (s:A2) (σ:St) (H:Hp) (D:CA),AU X AN σ H s->t D σ H->A7 (cr X) X.A (execs st X.env) (SP X AN D) X.xe s
theorem jF{t:Sem α}{Q b:α->A2->Prop}(h:A7 M A t Q E s)(c:∀a s,Q a s->b a s):A7 M A t b E s:=QE h c λ_ _ x=>x
end L2
namespace L2
section
variable{X:Cx}
def LU(i:Nat):TE:=λσ H Q=>∃v,σ[i]?=Z (Z v)/\Q v H
def tC(v:V):TE:=λ_ H Q=>Q v H
theorem yC(j:X.N[i]?=Z x)(n:WY X.env.scope x)(hd:ad x:=by decide)(g:(x==("__classdict__":AJ))=false:=by decide):PE X (.Name x pos) (LU i):=by
 intro AN s σ H Q I h;obtain⟨v,e,h⟩:=h;obtain⟨m,f,hl⟩:=I.loc;obtain⟨u,r,l⟩:=hl i x v j e n;have a:EP X AN σ Q u s:=⟨v,H,I,r,h⟩;rcases l with⟨hk,k⟩|⟨hk,c,d,b⟩
 ·exact wpAny_Name (wpAny_loadName_local I.ok.kind hk f k a) hd
 ·rcases hk with hk|hk
  ·exact wpAny_Name (wpAny_loadName_cell I.ok.kind hk d b a) hd
  ·exact wpAny_Name (wpAny_loadName_free I.ok.kind hk d b a g) hd
theorem VV{i j pos}:PE X (.Constant (.int i) j pos) (tC (.int i)):=λ_ _ _ H _ I h=>wpAny_Constant_int ⟨.int i,H,I.tok _,⟨_,rfl⟩,h⟩
theorem WJ{b j pos}:PE X (.Constant (.bool b) j pos) (tC (.bl b)):=λ_ _ _ H _ I h=>Constant_bool ⟨.bl b,H,I,rfl,h⟩
theorem NY{j pos}:PE X (.Constant .none j pos) (tC .non):=λ_ _ _ H _ I h=>Constant_none ⟨.non,H,I,rfl,h⟩
theorem We{x j pos}:PE X (.Constant (.str x) j pos) (tC (.str x)):=λ_ _ _ H _ I h=>Calls.Constant_str ⟨.str x,H,I.tok _,⟨_,rfl⟩,h⟩
def Gl(X:Cx)(x:AJ):Prop:=X.env.kindOf x=Z .globalImplicit
theorem J4{σ:St}{H:Hp}(I:AU X AN σ H s)(b:Gl X x)(a:X.mg x=Z u)(h:Q u s)(hd:ad x:=by decide):A7 (cr X) X.A (eval (.Name x pos) X.env) Q E s:=
 Calls.Name_function_global I.ok.kind b (Calls.loadGlobal_global (by rw[I.ok.glob];exact I.mod.glob.keeps I.bk) a h) hd
theorem vH{σ:St}{H:Hp}(I:AU X AN σ H s)(b:Gl X x)(c:X.mg x=O)(d:AH x=Z u)(h:Q u s)(a:x ≠ "__name__":=by decide)(hd:ad x:=by decide):A7 (cr X) X.A (eval (.Name x pos) X.env) Q E s:=by
 obtain⟨e,h1,h2⟩:=I.mod.blt;exact Calls.Name_function_global I.ok.kind b (Calls.loadGlobal_builtin (by rw[I.ok.glob];exact I.mod.glob.keeps I.bk) c (by rw[I.ok.blt];exact h1.keeps I.bk) ((h2 x a).trans d) h) hd
theorem TJ{v:V}(b:Gl X x)(a:X.mg x=Z u)(r:B0 v u)(hd:ad x:=by decide):PE X (.Name x pos) (tC v):=
 λ_ _ _ H _ I h=>J4 I b a ⟨v,H,I,r,h⟩ hd
theorem zm{v:V}(c:Gl X x)(b:X.mg x=O)(d:AH x=Z u)(r:B0 v u)(a:x ≠ "__name__":=by decide)(hd:ad x:=by decide):PE X (.Name x pos) (tC v):=
 λ_ _ _ H _ I h=>vH I c b d ⟨v,H,I,r,h⟩ a hd
variable{a b:Expr}{ta tb:TE}
variable{tA tB':TT}{AS:Y Expr}
def LX(t u:TT):TT:=λσ H Q=>t σ H λc H1=>if c=true then u σ H1 Q else Q false H1
def L6(t u:TT):TT:=λσ H Q=>t σ H λc H1=>if c=true then Q true H1 else u σ H1 Q
def aE(t:TT):TT:=λσ H Q=>t σ H λc H1=>Q (!c) H1
theorem Sb(b:PT X a tA):PW X (.BoolOp .And [a] pos) tA:=by
 intro d AN s σ H Q I h;refine isTrue_and (jF (b AN s σ H Q I h) λc f e=>?_);cases c with
 |true=>exact isTrue_and_nil e
 |false=>exact e
theorem c8(b:PT X a tA):PW X (.BoolOp .Or [a] pos) tA:=by
 intro d AN s σ H Q I h;refine isTrue_or (jF (b AN s σ H Q I h) λc f e=>?_);cases c with
 |false=>exact isTrue_or_nil e
 |true=>exact e
theorem Sr(d:PT X a tA)(f:PW X (.BoolOp .And (b::AS) pos) tB'):PW X (.BoolOp .And (a::b::AS) pos) (LX tA tB'):=by
 intro e AN s σ H Q I h;refine isTrue_and (jF (d AN s σ H _ I h) λc s1 ⟨H1,I1,q1⟩=>?_);cases c with
 |true=>exact f e AN s1 σ H1 Q I1 q1
 |false=>exact⟨H1,I1,q1⟩
theorem Sk(d:PT X a tA)(f:PW X (.BoolOp .Or (b::AS) pos) tB'):PW X (.BoolOp .Or (a::b::AS) pos) (L6 tA tB'):=by
 intro e AN s σ H Q I h;refine isTrue_or (jF (d AN s σ H _ I h) λc s1 ⟨H1,I1,q1⟩=>?_);cases c with
 |true=>exact⟨H1,I1,q1⟩
 |false=>exact f e AN s1 σ H1 Q I1 q1
theorem W1(b:PT X a tA):PT X (.UnaryOp .Not a pos) (aE tA):=by
 intro AN s σ H Q I h;exact isTrue_not (b AN s σ H (λc H1=>Q (!c) H1) I h)
def UH(ta tb:TE):TE:=λσ H Q=>ta σ H λx H1=>∃c,x=.bl c/\if c=true then tb σ H1 Q else Q (.bl false) H1
def c9(ta:TE):TE:=λσ H Q=>ta σ H λx H1=>∃c,x=.bl c/\Q (.bl (!c)) H1
theorem RI{op}{t:TE}(h:PE X a t):PE X (.BoolOp op [a] pos) t:=λAN s σ H Q I b=>BoolOp_one (h AN s σ H Q I b)
theorem RO(d:PE X a ta)(e:PE X (.BoolOp .And (b::AS) pos) tb):PE X (.BoolOp .And (a::b::AS) pos) (UH ta tb):=by
 intro AN s σ H Q I h;refine BoolOp_and (jF (d AN s σ H _ I h) λv s1 ⟨x,H1,I1,r1,q1⟩=>?_);obtain⟨c,rfl,q1⟩:=q1;cases r1;refine QR ?_;cases c with
 |true=>exact e AN s1 σ H1 Q I1 q1
 |false=>exact⟨.bl false,H1,I1,rfl,q1⟩
theorem UN(b:PE X a ta):PE X (.UnaryOp .Not a pos) (c9 ta):=by
 intro AN s σ H Q I h;refine UnaryOp_ (jF (b AN s σ H _ I h) λv s1 ⟨x,H1,I1,r1,q1⟩=>?_);obtain⟨c,rfl,q1⟩:=q1;cases r1;exact not_of (QR ⟨.bl (!c),H1,I1,rfl,q1⟩)
end
end L2
namespace L2
def qC(K:B8)(H:Hp)(a:A1)(xs:Y V):Prop:=
 Rd H a (.lst xs) ∨
  ∃(o:AE) (AQ:Array A0) (n:Nat),K.lookup a=Z o/\o.cls=.type "list" ∧ o.dict=O/\o.data=.seq AQ n/\AQ.size<=AA/\AX xs AQ.toList
def tX(K:B8)(H:Hp)(a:A1)(xs:Y V):Prop:=
 Rd H a (.tup xs) ∨
  ∃(o:AE) (AQ:Array A0) (n:Nat),K.lookup a=Z o/\(o.cls=.type "tuple" ∧ o.dict=O)/\o.data=.seq AQ n/\AQ.size<=AA/\AX xs AQ.toList
def IE:A0->Y3 V
 |.none=>Z .non
 |.bool b=>Z (.bl b)
 |.int i _=>Z (.int i)
 |.str x _=>Z (.str x)
 |.bytes b _=>Z (.byt b)
 |.float b _=>Z (.flt b)
 |.ref a=>Z (.ref a)
 |.type n=>Z (.ty n)
 |_=>O
theorem B0.abs{x:V}(r:B0 x u):IE u=Z x:=by
 cases x with
 |non=>cases r;rfl
 |bl _=>cases r;rfl
 |int _=>obtain⟨t,rfl⟩:=r;rfl
 |str _=>obtain⟨t,rfl⟩:=r;rfl
 |byt _=>obtain⟨t,rfl⟩:=r;rfl
 |flt _=>obtain⟨t,rfl⟩:=r;rfl
 |ref _=>cases r;rfl
 |ty _=>cases r;rfl
theorem B0.inj{x y:V}{u:A0}(r:B0 x u)(q:B0 y u):x=y:=JP (r.abs.symm.trans q.abs)
theorem AX.inj:∀{xs ys:Y V} {us:Y A0},AX xs us->AX ys us->xs=ys
 |_,_,_,.nil,.nil=>rfl
 |_,_,_,.cons r t,.cons r' t'=>by rw[r.inj r',AX.inj t t']
section
variable{X:Cx}{σ:St}{H:Hp}{xs ys:Y V}
theorem AU.list(I:AU X AN σ H s)(h:qC X.K H a xs):∃AQ:Y A0,AX xs AQ/\PlainL s.heap a AQ.toArray/\xs.length<=AA:=by
 rcases h with h|⟨o,AQ,n,hk,b,hd,c,d,r⟩
 ·obtain⟨z,AQ,n,r,e⟩:=h.ok I.hok;exact⟨AQ,r,⟨_,n,e,rfl,rfl,rfl⟩,z⟩
 ·refine⟨AQ.toList,r,⟨o,n,I.kIn a o hk,b,hd,by simpa using c⟩,?_⟩;have e:=r.length;simp only[ZO]at e;omega
theorem AU.tuple(I:AU X AN σ H s)(h:tX X.K H a xs):∃AQ:Y A0,AX xs AQ/\IsTup s.heap a AQ.toArray/\xs.length<=AA:=by
 rcases h with h|⟨o,AQ,n,hk,b,c,d,r⟩
 ·obtain⟨z,AQ,r,p⟩:=h.ok I.hok;exact⟨AQ,r,p.weak,z⟩
 ·refine⟨AQ.toList,r,⟨o,I.kIn a o hk,b.1,n,by simpa using c⟩,?_⟩;have e:=r.length;simp only[ZO]at e;omega
theorem AU.Ey(I:AU X AN σ H s)(h:qC X.K H a xs)(h':qC X.K H a ys):xs=ys:=by
 obtain⟨AQ,r,⟨o,n,e,_,_,d⟩,_⟩:=I.list h;obtain⟨g,c,⟨o',i,e',_,_,b⟩,_⟩:=I.list h';rw[e]at e';cases e';rw[d]at b;injection b with f _;have:AQ=g:=by simpa using congrArg gX f
 subst this;exact r.inj c
theorem AU.Bc(I:AU X AN σ H s)(h:tX X.K H a xs)(h':tX X.K H a ys):xs=ys:=by
 obtain⟨AQ,r,⟨o,e,_,n,d⟩,_⟩:=I.tuple h;obtain⟨g,c,⟨o',e',_,i,b⟩,_⟩:=I.tuple h';rw[e]at e';cases e';rw[d]at b;injection b with f _;have:AQ=g:=by simpa using congrArg gX f
 subst this;exact r.inj c
end
abbrev Cx.wish(X:Cx)(E:BG):Cx:={ X with xe:=E }
abbrev Cx.nox(X:Cx):Cx:=X.wish λ_ _=>False
theorem Cx.Ok.wish{X:Cx}(ok:X.Ok)(E:BG):(X.wish E).Ok:=
 ⟨ok.mod,ok.kind,ok.glob,ok.blt,ok.above,ok.inj,ok.has,ok.cab,ok.hd,ok.frames,ok.stk,ok.exf,ok.bs,ok.bsz,ok.Xa,ok.aaJ,ok.Dv,ok.frf,ok.tabs⟩
theorem Cx.Ok.vI{X:Cx}(ok:(X.wish E).Ok):X.Ok:=
 ⟨ok.mod,ok.kind,ok.glob,ok.blt,ok.above,ok.inj,ok.has,ok.cab,ok.hd,ok.frames,ok.stk,ok.exf,ok.bs,ok.bsz,ok.Xa,ok.aaJ,ok.Dv,ok.frf,ok.tabs⟩
section
variable{X:Cx}{σ:St}{H:Hp}
theorem AU.wish(I:AU X AN σ H s)(E:BG):AU (X.wish E) AN σ H s:=⟨I.ok.wish E,I.os,I.bare,I.base,I.loc,I.cell,I.free,I.qG,I.pin,I.hok,I.len⟩
theorem AU.vI(I:AU (X.wish E) AN σ H s):AU X AN σ H s:=⟨I.ok.vI,I.os,I.bare,I.base,I.loc,I.cell,I.free,I.qG,I.pin,I.hok,I.len⟩
theorem SP.vI{D:CA}{f:Flow}{s':A2}(h:SP (X.wish E) AN D f s'):SP X AN D f s':=by
 cases f with
 |next=>obtain⟨σ',H',I,q⟩:=h;exact⟨σ',H',I.vI,q⟩
 |brk=>obtain⟨σ',H',I,q⟩:=h;exact⟨σ',H',I.vI,q⟩
 |cont=>obtain⟨σ',H',I,q⟩:=h;exact⟨σ',H',I.vI,q⟩
 |ret u=>obtain⟨v,σ',H',I,r,q⟩:=h;exact⟨v,σ',H',I.vI,r,q⟩
theorem Rc.nox{st:Y AB}{t:TS}(h:Rc X.nox st t):Rc X st t:=λAN s σ H D I a=>
 QE (h AN s σ H D (I.wish _) a) (λ_ _ q=>q.vI) λ_ _ z=>False.elim z
end
section
variable{X:Cx}{AS:Y AB}{t u:TS}{te:TE}
def OQ:TS:=λD σ H=>D.nx σ H
def Mm(t u:TS):TS:=λD σ H=>t { D with nx:=u D } σ H
theorem NA:Rc X [] OQ:=λ_ _ σ H _ I h=>wpAny_execs_nil ⟨σ,H,I,h⟩
theorem Xb(h1:PS X st t)(h2:Rc X AS u):Rc X (st::AS) (Mm t u):=by
 intro AN s σ H D I h;refine wpAny_execs_cons (jF (h1 AN s σ H { D with nx:=u D } I h) λf a q=>?_);cases f with
 |next=>
  obtain⟨σ',H',b,q⟩:=q;exact h2 AN a σ' H' D b q
 |ret v=>exact q
 |brk=>exact q
 |cont=>exact q
theorem AU.quiet{σ:St}{H:Hp}(I:AU X AN σ H s):interactive X.env=false:=by simp[interactive,I.ok.kind]
def OB(te:TE):TS:=λD σ H=>te σ H λ_ H1=>D.nx σ H1
theorem J5(a:PE X e te)(hs:swapsWith e O pos.line X.env=pure false:=by rfl):PS X (.Expr e pos) (OB te):=by
 intro AN s σ H D I h;exact wpAny_Expr_any (jF (a AN s σ H _ I h) λv s1 ⟨x,H1,I1,r1,q1⟩=>⟨σ,H1,I1,q1⟩) I.quiet hs
def TK(te:TE):TS:=λD σ H=>te σ H D.rt
theorem Xc(a:PE X e te):PS X (.Return (Z e) pos) (TK te):=by
 intro AN s σ H D I h;exact wpAny_Return_some (jF (a AN s σ H _ I h) λv s1 ⟨x,H1,I1,r1,q1⟩=>⟨x,σ,H1,I1,r1,q1⟩)
def aS(c:TT)(t u:TS):TS:=λD σ H=>c σ H λb H1=>if b=true then t D σ H1 else u D σ H1
theorem OO{a b:Y AB}{tc:TT}(g:PT X c tc)(e:Rc X a t)(f:Rc X b u):PS X (.If c a b pos) (aS tc t u):=by
 intro AN s σ H D I h;refine wpAny_If (jF (g AN s σ H _ I h) λd s1 ⟨H1,I1,q1⟩=>?_);cases d with
 |true=>exact e AN s1 σ H1 D I1 q1
 |false=>exact f AN s1 σ H1 D I1 q1
end
abbrev TG:=V->St->Hp->(St->Hp->Prop)->Prop
abbrev DV:=Y V->St->Hp->(St->Hp->Prop)->Prop
def PG(X:Cx)(a:Expr)(t:TG):Prop:=
 ∀(AN:Y (A1×AE)) (s:A2) (σ:St) (H:Hp) (v:V) (u:A0) (Q:St->Hp->Prop),AU X AN σ H s->B0 v u->t v σ H Q →
  A7 (cr X) X.A (assign a X.env u) (λ_ s'=>∃ σ' H',AU X AN σ' H' s'/\Q σ' H') X.xe s
def Xd(X:Cx)(ts:Y Expr)(t:DV):Prop:=
 ∀(AN:Y (A1×AE)) (s:A2) (σ:St) (H:Hp) (vs:Y V) (us:Y A0) (Q:St->Hp->Prop),AU X AN σ H s->AX vs us->t vs σ H Q →
  A7 (cr X) X.A (assignInOrder ((assignEach ts X.env).map (·.2)) us) (λ_ s'=>∃ σ' H',AU X AN σ' H' s'/\Q σ' H') X.xe s
section
variable{X:Cx}
def L3(i:Nat):TG:=λv σ H Q=>Q (σ.set i (Z v)) H
theorem TQ(a:X.N.Nodup)(hi:X.N[i]?=Z x)(hx:ED X.env.scope x)(b:X.fn x=true\/X.env.scope.names.lookup x=Z .local:=by first|exact .inl rfl|exact .inr rfl|assumption):PG X (.Name x pos) (L3 i):=by
 intro AN s σ H v u Q I r h;exact wpAny_assign_Name (zj I a hi hx r (λs' c=>⟨_,H,c,h⟩) b)
def US:DV:=λvs σ H Q=>vs=[]/\Q σ H
def OZ(t:TG)(u:DV):DV:=λvs σ H Q=>∃v r,vs=v::r/\t v σ H λσ' H'=>u r σ' H' Q
theorem RC:Xd X [] US:=by
 intro AN s σ H vs us Q I r h;obtain⟨e,h⟩:=h;subst e;cases r;exact assignInOrder_nil ⟨σ,H,I,h⟩
theorem Xe{t:TG}{u:DV}(h1:PG X e t)(h2:Xd X es u)(hs:(assignEach (e::es) X.env).map (·.2)=assign e X.env::(assignEach es X.env).map (·.2):=by rfl):Xd X (e::es) (OZ t u):=by
 intro AN s σ H vs us Q I r h;obtain⟨v,b,e1,h⟩:=h;subst e1;cases r with
 |cons r a=>
  rw[hs];refine assignInOrder_cons (jF (h1 AN s σ H _ _ _ I r h) λ_ s1 ⟨σ1,H1,I1,q1⟩=>?_);exact h2 AN s1 σ1 H1 _ _ Q I1 a q1
def P3(K:B8)(n:Nat)(t:DV):TG:=λv σ H Q=>∃a xs,v=.ref a/\tX K H a xs/\xs.length=n/\t xs σ H Q
theorem RF{t:DV}(j:X.calm=true)(h:Xd X es t)(f:(assignEach es X.env).length=n:=by rfl)(g:(assignEach es X.env).findIdx? (·.1)=O:=by rfl):PG X (.Tuple es k pos) (P3 X.K n t):=by
 intro AN s σ H v u Q I r c;obtain⟨a,xs,e1,i,hl,c⟩:=c;subst e1;cases r;obtain⟨AQ,d,m,p⟩:=I.tuple i;refine assign_Tuple_tuple (I.ok.hd j) m (by simp[f,<-hl,d.length]) g λh' hx=>?_;have l:AU X AN σ H { s with heap:=h' }:=I.kept (t':=s.toks) λb o e=>hx b o (ZI (zI e)) e;exact h AN _ σ H xs _ Q l (by simpa using d) c
def IN(te:TE)(g:TG):TS:=λD σ H=>te σ H λx H1=>g x σ H1 D.nx
theorem RA{te:TE}{g:TG}(b:PE X e te)(a:PG X tg g)(hs:swapsWithSole [tg] e pos.line X.env=pure false:=by rfl)(c:swappedStores [tg] e X.env=pure O:=by rfl)(h1:(assignEach [tg] X.env).map (·.2)=[assign tg X.env]:=by rfl):PS X (.Assign [tg] e pos) (IN te g):=by
 intro AN s σ H D I h;refine wpAny_Assign_stores (jF (b AN s σ H _ I h) λv s1 ⟨x,H1,I1,r1,q1⟩=>?_) hs c;rw[h1];exact jF (a AN s1 σ H1 x v _ I1 r1 q1) λ_ d q=>q
theorem Ps{te:TE}{pos':Pos}(b:X.N.Nodup)(hi:X.N[i]?=Z x)(hx:ED X.env.scope x)(a:PE X e te)(hs:swapsWith e (Z (.Name x pos')) pos.line X.env=pure false:=by rfl)(d:X.fn x=true\/X.env.scope.names.lookup x=Z .local:=by first|exact .inl rfl|exact .inr rfl|assumption):
  PS X (.Assign [.Name x pos'] e pos) (IN te (L3 i)):=by
 intro AN s σ H D I h;refine wpAny_Assign_Name (jF (a AN s σ H _ I h) λv s1 ⟨y,H1,I1,r1,q1⟩=>?_) hs;exact zj I1 b hi hx r1 (λf c=>⟨_,H1,c,q1⟩) d
def WZ(i j:Nat)(ta:TA):TS:=λD σ H=>ta σ H λvs H1=>∃v w,vs=[v,w]/\D.nx ((σ.set i (Z v)).set j (Z w)) H1
theorem T0{a b:Expr}{ta:TA}{px py pt:Pos}{kt k2 pt2}(z:X.calm=true)(k:X.N.Nodup)(hi:X.N[i]?=Z x)(C:X.N[j]?=Z y)(u:i≠j)(hx:X.env.scope.names.lookup x=Z .local)(f:X.env.scope.names.lookup y=Z .local)(t:PA X [a,b] ta)(l:swappedStores [.Tuple [.Name x px,.Name y py] kt pt] (.Tuple [a,b] k2 pt2) X.env=pure (Z [x,y]))(hs:swapsWithSole [.Tuple [.Name x px,.Name y py] kt pt] (.Tuple [a,b] k2 pt2) pos.line X.env=pure false:=by rfl):
  PS X (.Assign [.Tuple [.Name x px,.Name y py] kt pt] (.Tuple [a,b] k2 pt2) pos) (WZ i j ta):=by
 intro AN s σ H D I h;rw[exec_Assign_arm];refine zb (kl ?_);rw[hs];refine zb (zd ?_);rw[zv ()];refine zb (Tuple_ (jF (t _ AN s σ H _ I h) λus s1 ⟨vs,H1,I1,r1,q1⟩=>?_));obtain⟨v,w,e1,q1⟩:=q1;subst e1;obtain⟨c,d,rfl,B,E⟩:∃c d,us=[c,d]/\B0 v c/\B0 w d:=by
  cases r1 with
  |cons p q=>
   cases q with
   |cons p' m=>
    cases m;exact⟨_,_,rfl,p,p'⟩
 refine qA ?_ (by show 2<=AA;decide);have J:AU X AN σ H1 { s1 with heap:=s1.heap.push { cls:=.type "tuple",data:=.seq [c,d].toArray } }:=I1.kept (t':=s1.toks) λb o e=>zg _ e;rw[l];refine zb (zd ?_);show A7 (cr X) X.A (do rule "assign.swapped-stores"; let items <-unpackItems (.ref s1.heap.objs.size) 2 O;assignInOrder [λv=>bindName X.env y v,λv=>bindName X.env x v] items.reverse;pure Flow.next) _ _ _;refine zb (QP (zb (unpackItems_tuple (items:=#[c,d]) (I.ok.hd z) (IsTup.new s1.heap _) λh' n=>?_)));have F:=J.kept (h':=h') (t':=s1.toks) λb o e=>n b o (ZI (zI e)) e;show A7 _ _ (assignInOrder [λv=>bindName X.env y v,λv=>bindName X.env x v] [d,c] >>= λ_=>pure Flow.next) _ _ _;refine zb (assignInOrder_cons (wpAny_bindName (zj F k C (.inl f) E (λL G=>?_) (.inr f))));refine assignInOrder_cons (wpAny_bindName (zj G k hi (.inl hx) B (λK g=>assignInOrder_nil (zd ?_)) (.inr hx)));rw[List.set_comm _ _ (kX u)]at g;exact⟨_,H1,g,q1⟩
end
structure It where
 go:Nat->Hp->Prop
 yld:Nat->Hp->V->Hp->Prop
 stop:Nat->Hp->Prop
def sH(X:Cx)(AN:Y (A1×AE))(H:Hp)(b:A1):Prop:=
 H b=O/\b≠X.env.locals/\b∉X.fs/\(b∈X.ex\/X.s₀.heap.objs.size<=b)/\(∀x c,X.env.cells.lookup x=Z c->c≠b)/\∀p∈X.pn++AN,p.1≠b
theorem AU.Nt{X:Cx}{σ:St}{H H':Hp}{b:A1}(I:AU X AN σ H s)(a:s.heap.objs.size<=b)(d:H' b=O):sH X AN H' b:=by
 refine⟨d,kD (ZH I.lt a),I.aiI a,.inr (zo I.sz a),λx c e z=>?_,λp hp z=>?_⟩
 ·obtain⟨v,q⟩:=I.cell x c e;exact absurd (ZH q.lt (by rw[z];exact a)) (kM _)
 ·exact absurd (ZH (zI (I.pin p hp).1) (by rw[z];exact a)) (kM _)
structure CD (P:Program) (w:World) (K:B8) (tg:Expr) (J:It) (fp:List Addr) (it:Addr) (tn:Nat->Heap->Prop):Prop where
 mem:it∈fp
 obj:∀i h,tn i h->∀b∈fp,∃o,h.get? b=some o/\∀v,o.data≠.cell v
 keep:∀i h h',tn i h->(∀b∈fp,∀o,h.get? b=some o->h'.get? b=some o)->tn i h'
 item:∀(X:Cx),X.prog=P->X.w=w->X.K=K->X.calm=true->∀(i:Nat) (AN:List (Addr×Obj)) (s:Shared) (σ:St) (H:Hp) (E:BG),AU X AN σ H s->(∀b∈fp,sH X AN H b)->tn i s.heap->J.go i H →
  wpAny (model P w) X.A (pyNext (.ref it)) (λr s1=>∃u,r=some u ∧
   wpAny (model P w) X.A (letOwnedTupleGo tg (.ref it) u) (λ_ s2=>∃x H',AU X AN σ H' s2/\B0 x u/\J.yld i H x H'/\tn (i+1) s2.heap/\∀b∈fp,H' b=none) E s1) E s
 done:∀(X:Cx),X.prog=P->X.w=w->X.K=K->X.calm=true->∀(i:Nat) (AN:List (Addr×Obj)) (s:Shared) (σ:St) (H:Hp) (E:BG),AU X AN σ H s->(∀b∈fp,sH X AN H b)->tn i s.heap->J.stop i H →
  wpAny (model P w) X.A (pyNext (.ref it)) (λr s1=>r=none/\AU X AN σ H s1) E s
 self:∀(A:Around) (i:Nat) (s:Shared) (Q:BG) (E:BG),tn i s.heap->Q (.ref it) s->wpAny (model P w) A (pyIter (.ref it)) Q E s
abbrev TI:=St->Hp->(It->Hp->Prop)->Prop
def ME(X:Cx)(AN:Y (A1×AE))(σ:St)(tg:Expr)(R:It->Hp->Prop)(c:A0)(a:A2):Prop:=
 ∃(it:A1) (fp:Y A1) (tn:Nat->A6->Prop) (J:It) (H':Hp),c=.ref it/\AU X AN σ H' a/\CD X.prog X.w X.K tg J fp it tn/\tn 0 a.heap/\(∀b∈fp,sH X AN H' b)/\R J H'
def PI(X:Cx)(tg iter:Expr)(a:TI):Prop:=
 ∀(AN:Y (A1×AE)) (s:A2) (σ:St) (H:Hp) (R:It->Hp->Prop),AU X AN σ H s->a σ H R →
  A7 (cr X) X.A (eval iter X.env) (λv b=>A7 (cr X) X.A (pyIter v) (ME X AN σ tg R) X.xe b) X.xe s
theorem Nu{o:AE}{n:String}{vs:Array A0}{Q:Unit->A2->Prop}(d:s.heap.get? it=Z o)(c:o.cls=.type n)(hd:o.data=.fields vs)(b:["enumerate","zip","dict_itemiterator","dict_reverseitemiterator","odict_iterator","itertools.zip_longest","itertools.pairwise"].contains n=false)(a:Q dl s):A7 M A (letOwnedTupleGo tg (.ref it) u) Q E s:=by
 unfold letOwnedTupleGo;cases tg<;>first
  |exact zd a
  |(cases u<;>first
    |exact zd a
    |(refine zb (wpAny_load d ?_)
      rw[c,hd];show A7 M A (if(["enumerate","zip","dict_itemiterator","dict_reverseitemiterator","odict_iterator","itertools.zip_longest","itertools.pairwise"].contains n&&vs[0]?==Z (rawInt _))=true then _ else _) Q E s;rw[zv (by intro h;rw[b,KU]at h;cases h)];exact zd a))
def Fh(K:B8)(a:A1):It:=
 ⟨λi H=>∃xs x,qC K H a xs/\xs[i]?=Z x,λi H x H'=>H'=H/\∀xs,qC K H a xs->xs[i]?=Z x,λi H=>∃xs,qC K H a xs/\xs.length<=i⟩
def IF(K:B8)(a:A1):It:=
 ⟨λi H=>∃xs x,tX K H a xs/\xs[i]?=Z x,λi H x H'=>H'=H/\∀xs,tX K H a xs->xs[i]?=Z x,λi H=>∃xs,tX K H a xs/\xs.length<=i⟩
def F7(lo:Int)(n:Nat):It:=⟨λi _=>i<n,λi H x H'=>H'=H/\x=.int (lo+i),λi _=>n<=i⟩
theorem Vm(a it:A1):CD P w K tg (Fh K a) [it] it (λi h=>h.IsListIter it a i) where
 mem:=by simp
 obj:=λi h st b f=>by
  have e:b=it:=by simpa using f
  subst e;obtain⟨o,e,c,d⟩:=st;exact⟨o,e,λv z=>by rw[d]at z;cases z⟩
 keep:=λi h h' st k=>st.at λo e=>k it (by simp) o e
 item:=by
  intro X l m A C i AN s σ H E I g st t;subst l m A;obtain⟨xs,x,j,hx⟩:=t;obtain⟨AQ,q,p,G⟩:=I.list j;obtain⟨u,F,J⟩:=q.get hx;obtain⟨f0,f1,f2,f3,n,y⟩:=g it (by simp);refine wpAny_pyNext_list_item st p.isList (x:=u) (by simpa using F) λh' B M=>?_;have L:AU X AN σ H { s with heap:=h' }:=I.turned (t':=s.toks) (λb o f e=>(M.2 b f).trans e) f0 f1 f3 n y;obtain⟨o,e,c,d⟩:=id B;exact⟨u,rfl,Nu (s:={ s with heap:=h' }) e c d () ⟨x,H,L,J,⟨rfl,λys D=>by rw[I.Ey D j];exact hx⟩,B,λb f=>(g b f).1⟩⟩
 done:=by
  intro X l m A C i AN s σ H E I g st t;subst l m A;obtain⟨xs,j,hx⟩:=t;obtain⟨AQ,q,p,G⟩:=I.list j;obtain⟨f0,f1,f2,f3,n,y⟩:=g it (by simp);have hl:=q.length;exact wpAny_pyNext_list_end (I.ok.hd C) st p.isList (by simp;omega) λh' eb=>⟨rfl,I.turned (t':=s.toks) (λb o f e=>eb b o f e) f0 f1 f3 n y⟩
 self:=λ_ _ _ _ _ st h=>wpAny_pyIter_listiter st h
theorem Rf(a it:A1):CD P w K tg (IF K a) [it] it (λi h=>h.IsTupleIter it a i) where
 mem:=by simp
 obj:=λi h st b f=>by
  have e:b=it:=by simpa using f
  subst e;obtain⟨o,e,c,d⟩:=st;exact⟨o,e,λv z=>by rw[d]at z;cases z⟩
 keep:=λi h h' st k=>st.at λo e=>k it (by simp) o e
 item:=by
  intro X l m A C i AN s σ H E I g st t;subst l m A;obtain⟨xs,x,j,hx⟩:=t;obtain⟨AQ,q,p,G⟩:=I.tuple j;obtain⟨u,F,J⟩:=q.get hx;obtain⟨f0,f1,f2,f3,n,y⟩:=g it (by simp);refine wpAny_pyNext_tuple_item st (show s.heap.IsTuple a AQ.toArray from p) (x:=u) (by simpa using F) λh' B M=>?_;have L:AU X AN σ H { s with heap:=h' }:=I.turned (t':=s.toks) (λb o f e=>(M.2 b f).trans e) f0 f1 f3 n y;obtain⟨o,e,c,d⟩:=id B;exact⟨u,rfl,Nu (s:={ s with heap:=h' }) e c d () ⟨x,H,L,J,⟨rfl,λys D=>by rw[I.Bc D j];exact hx⟩,B,λb f=>(g b f).1⟩⟩
 done:=by
  intro X l m A C i AN s σ H E I g st t;subst l m A;obtain⟨xs,j,hx⟩:=t;obtain⟨AQ,q,p,G⟩:=I.tuple j;obtain⟨f0,f1,f2,f3,n,y⟩:=g it (by simp);have hl:=q.length;exact wpAny_pyNext_tuple_end (I.ok.hd C) st (show s.heap.IsTuple a AQ.toArray from p) (by simp;omega) λh' eb=>⟨rfl,I.turned (t':=s.toks) (λb o f e=>eb b o f e) f0 f1 f3 n y⟩
 self:=λ_ _ _ _ _ st h=>wpAny_pyIter_tupleiter st h
theorem Rh(it:A1)(lo:Int)(n:Nat):CD P w K tg (F7 lo n) [it] it (λi h=>IsRangeIter h it (lo+(i:Nat)*1) ((n:Int)-(i:Nat)) 1) where
 mem:=by simp
 obj:=λi h st b a=>by
  have e:b=it:=by simpa using a
  subst e;exact⟨_,st,λv z=>by
   have x:Data.fields _=Data.cell v:=z;cases x⟩
 keep:=λi h h' st k=>k it (by simp) _ st
 item:=by
  intro X d f p j i AN s σ H E I c st l;subst d f p;obtain⟨f0,f1,f2,f3,g,m⟩:=c it (by simp);have W:=Walks.range (prog:=X.prog) (w:=X.w) (I.ok.hd j) it lo 1 n;refine W.item i s _ _ l st λv h' tk y q kk=>?_;obtain⟨t,rfl⟩:=y;have u:AU X AN σ H { s with heap:=h',toks:=tk }:=I.turned (λb o a e=>kk b o (by simpa using a) e) f0 f1 f3 g m;refine⟨_,rfl,Nu (s:={ s with heap:=h',toks:=tk }) (n :="range_iterator") q Y2 Y2 () ⟨.int (lo+i),H,u,⟨t,?_⟩,⟨rfl,rfl⟩,q,λb a=>(c b a).1⟩⟩;rw[Int.mul_one]
 done:=by
  intro X d f p j i AN s σ H E I c st l;subst d f p;obtain⟨f0,f1,f2,f3,g,m⟩:=c it (by simp);exact wpAny_pyNext_range_end (I.ok.hd j) st (by have:n<=i:=l;omega) λh' eb=>⟨rfl,I.turned (t':=s.toks) (λb o a e=>eb b o a e) f0 f1 f3 g m⟩
 self:=λ_ _ _ _ _ st h=>wpAny_pyIter_rangeiter st h
end L2
namespace L2
section
variable{X:Cx}
theorem Xf{σ:St}{H:Hp}{R:It->Hp->Prop}{lo hi:Int}{t u v:Tok}{tk:Nat}(I:AU X AN σ H s)(h1 : -(2 ^ 62)<=lo)(h2:lo<2 ^ 62)(d : -(2 ^ 62)<=hi)(f:hi<2 ^ 62)(q:R (F7 lo (hi-lo).toNat) H):A7 (cr X) X.A (pyIter (.ref s.heap.objs.size)) (ME X AN σ tg R) E { s with heap:=s.heap.push { cls:=.type "range",data:=.fields #[.int lo t,.int hi u,.int 1 v] },toks:=tk }:=by
 refine wpAny_pyIter_range (IsRange.new ..) (small_one h1 h2 d f) ?_;have a:AU X AN σ H { s with heap:=s.heap.push { cls:=.type "range",data:=.fields #[.int lo t,.int hi u,.int 1 v] },toks:=tk }:=I.kept λb o e=>zg _ e;refine⟨(s.heap.push { cls:=.type "range",data:=.fields #[.int lo t,.int hi u,.int 1 v] }).objs.size,[(s.heap.push { cls:=.type "range",data:=.fields #[.int lo t,.int hi u,.int 1 v] }).objs.size],_,_,H,rfl,
  a.kept (t':=tk) λb o e=>zg _ e,Rh _ lo (hi-lo).toNat,?_,λb c=>?_,q⟩
 ·have e1:lo+((0:Nat):Int)*1=lo:=by simp
  have e2:(((hi-lo).toNat:Nat):Int)-((0:Nat):Int)=Builtin.Range.rangeSize lo hi 1:=by rw[rangeSize_one];split<;>omega
  show IsRangeIter _ _ (lo+((0:Nat):Int)*1) ((((hi-lo).toNat:Nat):Int)-((0:Nat):Int)) 1;rw[e1,e2];exact zS _ rfl
 ·have e:b=(s.heap.push { cls:=.type "range",data:=.fields #[.int lo t,.int hi u,.int 1 v] }).objs.size:=by simpa using c
  subst e;exact a.Nt (zi _) (a.hok.fresh (zi _))
def P6(ta:TA):TI:=λσ H R=>ta σ H λvs H1=>∃j:Int,vs=[.int j] ∧ -(2 ^ 62)<=j/\j<2 ^ 62/\R (F7 0 j.toNat) H1
theorem Vn{a:Expr}{ta:TA}{p:Pos}(d:Gl X "range")(c:X.mg "range"=O)(f:PA X [a] ta)(hs:A9 [a] X.env=[(false,eval a X.env)]:=by rfl):PI X tg (.Call (.Name "range" p) [a] [] pos) (P6 ta):=by
 intro AN s σ H R I h;refine Call_ (vH I d c boot_range (PyProof.Rows.callWith_type1 (jF (f pos AN s σ H _ I h) λus s1 ⟨vs,H1,I1,r1,q1⟩=>?_) hs Y2));obtain⟨j,e,q1,q2,q⟩:=q1;subst e;cases r1 with
 |cons r b=>
  cases b;obtain⟨t,rfl⟩:=r;exact call_range_1 (Xf I1 () () q1 q2 (by simpa using q))
def Sz(b:TI)(g:TG)(tb:TS):TS:=λD σ H=>b σ H λJ H1=>∃W:Nat->Nat->St->Hp->Prop,(∃m,W 0 m σ H1)/\∀i m σ H,W i m σ H →
 (J.stop i H/\D.nx σ H)\/(J.go i H/\∃N:St->Hp->Prop,(∀ σ' H',N σ' H'->∃a,a<m/\W (i+1) a σ' H')/\∀x H',J.yld i H x H'->g x σ H' λc H2=>tb { D with nx:=N,ct:=N,bk:=D.nx } c H2)
def Bd(fp:Y A1)(h:A6):Y (A1×AE):=fp.filterMap λb=>(h.get? b).map λo=>(b,o)
theorem uc{b:A1}{o:AE}(a:b∈fp)(e:h.get? b=Z o):(b,o)∈Bd fp h:=ey.mpr ⟨b,a,by rw[e];rfl⟩
theorem Vo{p:A1×AE}(hp:p∈Bd fp h):p.1∈fp/\h.get? p.1=Z p.2:=by
 obtain⟨b,a,e⟩:=ey.mp hp;cases q:h.get? b with
 |none=>rw[q]at e;cases e
 |some o=>
  rw[q]at e;have e':(b,o)=p:=JP e;subst e';exact⟨a,q⟩
theorem AU.pinned{σ:St}{H:Hp}(I:AU X AN σ H s)(f:∀b∈fp,sH X AN H b)(c:∀b∈fp,∃o,s.heap.get? b=Z o/\∀v,o.data≠.cell v):AU X (AN++Bd fp s.heap) σ H s:=
 I.J0 λp hp=>(cb.mp hp).elim (λz=>I.pin p (qk _ z)) λz=>by
  obtain⟨a,e⟩:=Vo z;obtain⟨f0,f1,f2,_⟩:=f p.1 a;obtain⟨o,e',d⟩:=c p.1 a;rw[e]at e';cases e';exact⟨e,f0,f1,f2,d⟩
theorem AU.vJ{pl:Y (A1×AE)}{σ:St}{H:Hp}(I:AU X (AN++pl) σ H s):AU X AN σ H s:=I.J0 λp hp=>I.pin p (qk _ (gu _ hp))
theorem Xg{C:TI}{g:TG}{tb:TS}(hp:PassesOwn (cr X) X.A X.env X.xe)(G:X.calm=true)(hi:PI X tg iter C)(hg:PG X tg g)(c:Rc X body tb)(hs:∀x,foldedSetIterable iter X.env x=pure x:=by intro _;rfl):PS X (.For tg iter body [] pos) (Sz C g tb):=by
 intro AN s σ H D I h;refine wpAny_For (jF (hi AN s σ H _ I h) λv s1 h1=>jF h1 λa2 s2 h2=>?_) hs;obtain⟨it,fp,tn,J,H2,e,I2,T,a1,f2,W,⟨m0,Q⟩,turn⟩:=h2;subst e;have y:∀{H':Hp},(∀b∈fp,H' b=O)->∀b∈fp,sH X AN H' b:=λhn b c=>⟨hn b c,(f2 b c).2⟩;refine codeAny_forLoop_any (λn s'=>∃i σ' H',AU X AN σ' H' s'/\tn i s'.heap/\(∀b∈fp,H' b=O)/\W i n σ' H') ?_ m0 ⟨0,σ,H2,I2,a1,λb c=>(f2 b c).1,Q⟩;rintro n F ⟨i,q,t,L,E,B,U⟩;rcases turn i n q t U with⟨P,qn⟩|⟨go,N,hN,step⟩
 ·refine KF hp (jF (T.done X Y2 Y2 Y2 G i AN F q t X.xe L (y B) E P) λr s4 ⟨hr,I4⟩=>?_);subst hr;exact wpAny_execs_nil ⟨q,t,I4,qn⟩
 ·refine KF hp (jF (T.item X Y2 Y2 Y2 G i AN F q t X.xe L (y B) E go) λr s4 ⟨u,hr,h4⟩=>?_);subst hr;refine KF hp (jF h4 λ_ s5 ⟨x,H5,I5,r5,y5,st5,fr5⟩=>?_);have S:=I5.pinned (y fr5) (T.obj _ _ st5);refine KF hp (jF (hg _ s5 q H5 x u _ S r5 (step x H5 y5)) λ_ s6 ⟨σ6,H6,I6,q6⟩=>?_);refine KF hp (jF (c _ s6 σ6 H6 _ I6 q6) λf z l=>?_);have K:∀{k:St} {a:Hp},AU X (AN++Bd fp s5.heap) k a z->N k a->∃m,m<n/\∃i σ' H',AU X AN σ' H' z/\tn i z.heap/\(∀b∈fp,H' b=O)/\W i m σ' H':=λ{k a} j p=>by
   obtain⟨m',hm,w7⟩:=hN k a p;refine⟨m',hm,i+1,k,a,j.vJ,T.keep _ _ _ st5 λb c o e=>(j.pin (b,o) (qk _ (qk _ (uc c e)))).1,λb c=>?_,w7⟩;obtain⟨o,e,d⟩:=T.obj _ _ st5 b c;exact(j.pin (b,o) (qk _ (qk _ (uc c e)))).2.1
  cases f with
  |next=>obtain⟨k,a,j,p⟩:=l;exact K j p
  |cont=>obtain⟨k,a,j,p⟩:=l;exact K j p
  |brk=>obtain⟨k,a,j,l⟩:=l;exact⟨k,a,j.vJ,l⟩
  |ret v=>obtain⟨x7,k,a,j,M,l⟩:=l;exact⟨x7,k,a,j.vJ,M,l⟩
end
end L2
namespace L2
abbrev R2:=V->V->Hp->VK->Prop
def xZ(X:Cx)(f:A0->A0->Sem A0)(r:R2):Prop:=
 ∀(AN:Y (A1×AE)) (s:A2) (σ:St) (H:Hp) (x y:V) (v u:A0) (Q:VK),AU X AN σ H s->B0 x v->B0 y u->r x y H Q →
  A7 (cr X) X.A (f v u) (EP X AN σ Q) X.xe s
def DM(X:Cx)(f:A0->Sem A0)(r:V->Hp->VK->Prop):Prop:=
 ∀(AN:Y (A1×AE)) (s:A2) (σ:St) (H:Hp) (x:V) (v:A0) (Q:VK),AU X AN σ H s->B0 x v->r x H Q →
  A7 (cr X) X.A (f v) (EP X AN σ Q) X.xe s
def gw(X:Cx)(f:A0)(r:Y V->Hp->VK->Prop):Prop:=
 ∀(AN:Y (A1×AE)) (s:A2) (σ:St) (H:Hp) (xs:Y V) (us:Y A0) (Q:VK),AU X AN σ H s->AX xs us->r xs H Q →
  A7 (cr X) X.A (call f us) (EP X AN σ Q) X.xe s
def Mc(X:Cx)(r:V->Hp->(Bool->Hp->Prop)->Prop):Prop:=
 ∀(AN:Y (A1×AE)) (s:A2) (σ:St) (H:Hp) (x:V) (v:A0) (Q:Bool->Hp->Prop),AU X AN σ H s->B0 x v->r x H Q →
  A7 (cr X) X.A (truthy v) (TP X AN σ Q) X.xe s
def EQ(r:R2)(ta tb:TE):TE:=λσ H Q=>ta σ H λx H1=>tb σ H1 λy H2=>r x y H2 Q
def LS(r:V->Hp->VK->Prop)(ta:TE):TE:=λσ H Q=>ta σ H λx H1=>r x H1 Q
def rI(C:Int->Int->Prop)(g:Int->Int->V):R2:=λx y H Q=>∃i j,x=.int i/\y=.int j/\C i j/\Q (g i j) H
def DJ(g:Int->Int->V):R2:=λx y H Q=>∃i j,x=.int i/\y=.int j/\Q (g i j) H
def rU(g:Int->V):V->Hp->VK->Prop:=λx H Q=>∃i,x=.int i/\Q (g i) H
section
variable{X:Cx}{a b:Expr}{ta tb tc:TE}
theorem GI(e:PE X a ta)(d:PE X b tb){σ:St}{H:Hp}{R:V->V->Hp->Prop}(I:AU X AN σ H s)(h:ta σ H λx H1=>tb σ H1 λy H2=>R x y H2){f:A0->A0->Sem A0}(j:∀v u c x y H2,AU X AN σ H2 c->B0 x v->B0 y u->R x y H2->A7 (cr X) X.A (f v u) Q X.xe c):
  A7 (cr X) X.A (eval a X.env) (λv g=>A7 (cr X) X.A (eval b X.env) (λu i=>A7 (cr X) X.A (f v u) Q X.xe i) X.xe g) X.xe s:=by
 refine jF (e AN s σ H _ I h) λv s1 ⟨x,H1,I1,r1,q1⟩=>?_;refine jF (d AN s1 σ H1 _ I1 q1) λu c ⟨y,H2,I2,r2,q2⟩=>?_;exact j v u c x y H2 I2 r1 r2 q2
theorem ag{op:Operator}{r:R2}(c:xZ X (binaryOp op) r)(g:PE X a ta)(f:PE X b tb):PE X (.BinOp a op b pos) (EQ r ta tb):=by
 intro AN s σ H Q I h;exact wpAny_BinOp (GI g f I h λv u d x y H2 i j e q=>c AN d σ H2 x y v u Q i j e q)
theorem OH{op:UnaryOp}{r:V->Hp->VK->Prop}(c:DM X (unaryOp op) r)(b:PE X a ta):PE X (.UnaryOp op a pos) (LS r ta):=by
 intro AN s σ H Q I h;exact UnaryOp_ (jF (b AN s σ H _ I h) λv s1 ⟨x,H1,I1,r1,q1⟩=>c AN s1 σ H1 x v Q I1 r1 q1)
theorem Fu{f:A0->A0->Sem A0}{C:Int->Int->Prop}{g:Int->Int->Int}
  (e:∀(i j:Int) (t u:Tok) (s:A2) (Q:BG) (E:BG),C i j->Q (.int (g i j) s.toks) { s with toks:=s.toks+1 }->A7 (cr X) X.A (f (.int i t) (.int j u)) Q E s):
  xZ X f (rI C λi j=>.int (g i j)):=by
 intro AN s σ H x y v u Q I c a h;obtain⟨i,j,rfl,rfl,b,q⟩:=h;obtain⟨t,rfl⟩:=c;obtain⟨d,rfl⟩:=a;exact e i j t d s _ _ b ⟨.int (g i j),H,I.tok _,⟨_,rfl⟩,q⟩
theorem LY{f:A0->A0->Sem A0}{g:Int->Int->Int}
  (c:∀(i j:Int) (t u:Tok) (s:A2) (Q:BG) (E:BG),Q (.int (g i j) s.toks) { s with toks:=s.toks+1 }->A7 (cr X) X.A (f (.int i t) (.int j u)) Q E s):
  xZ X f (DJ λi j=>.int (g i j)):=by
 intro AN s σ H x y v u Q I b a h;obtain⟨i,j,rfl,rfl,q⟩:=h;obtain⟨t,rfl⟩:=b;obtain⟨d,rfl⟩:=a;exact c i j t d s _ _ ⟨.int (g i j),H,I.tok _,⟨_,rfl⟩,q⟩
theorem Eg{f:A0->A0->Sem A0}{g:Int->Int->Bool}
  (c:∀(i j:Int) (t u:Tok) (s:A2) (Q:BG) (E:BG),Q (.bool (g i j)) s->A7 (cr X) X.A (f (.int i t) (.int j u)) Q E s):
  xZ X f (DJ λi j=>.bl (g i j)):=by
 intro AN s σ H x y v u Q I b a h;obtain⟨i,j,rfl,rfl,q⟩:=h;obtain⟨t,rfl⟩:=b;obtain⟨d,rfl⟩:=a;exact c i j t d s _ _ ⟨.bl (g i j),H,I,rfl,q⟩
def WI(i j:Int):Prop:=0<j/\j<1073741824
def XG(i j:Int):Prop:=0<=j/\j<=1000000/\i.natAbs<2 ^ 64
def I0(i j:Int):Prop:=(-(2 ^ 64)<i/\i<2 ^ 64)\/(-(2 ^ 64)<j/\j<2 ^ 64)
theorem I0.ok{i j:Int}(h:I0 i j):IntMulOk i j:=by
 rcases h with⟨h1,h2⟩|⟨h1,h2⟩
 ·exact .of_left (intBits_le_64 h1 h2)
 ·exact .of_right (intBits_le_64 h1 h2)
theorem T':xZ X (binaryOp .Add) (DJ λi j=>.int (i+j)):=LY λ_ _ _ _ _ _ _ q=>add_int q
theorem N0:xZ X (binaryOp .Sub) (DJ λi j=>.int (i-j)):=LY λ_ _ _ _ _ _ _ q=>sub_int q
theorem VM:xZ X (binaryOp .Mult) (rI I0 λi j=>.int (i*j)):=Fu λ_ _ _ _ _ _ _ a q=>mul_int q a.ok
theorem SW:xZ X (binaryOp .FloorDiv) (rI WI λi j=>.int (i / j)):=Fu λi j _ _ _ _ _ a q=>by
 have h1:(0:Int)<j:=a.1;have h2:j<1073741824:=a.2;exact floordiv_int () (by rw[Int.fdiv_eq_ediv_of_nonneg i ()];exact q) (.inl (PyProof.noPylong_small ()))
theorem UV:xZ X (binaryOp .Mod) (rI (λ_ j=>0<j) λi j=>.int (i%j)):=Fu λi j _ _ _ _ _ a q=>by
 have h1:(0:Int)<j:=a;exact mod_int' () (by rw[Int.fmod_eq_emod_of_nonneg i ()];exact q)
theorem SD:xZ X (binaryOp .Pow) (rI XG λi j=>.int (i ^ j.toNat)):=Fu λ_ _ _ _ _ _ _ a q=>pow_int_small a.1 a.2.1 a.2.2 q
theorem UZ{f:A0->Sem A0}{g:Int->Int}
  (b:∀(i:Int) (t:Tok) (s:A2) (Q:BG) (E:BG),Q (.int (g i) s.toks) { s with toks:=s.toks+1 }->A7 (cr X) X.A (f (.int i t)) Q E s):
  DM X f (rU λi=>.int (g i)):=by
 intro AN s σ H x v Q I a h;obtain⟨i,rfl,q⟩:=h;obtain⟨t,rfl⟩:=a;exact b i t s _ _ ⟨.int (g i),H,I.tok _,⟨_,rfl⟩,q⟩
theorem VQ:DM X (unaryOp .USub) (rU λi=>.int (-i)):=UZ λ_ _ _ _ _ q=>neg_int q
theorem Ri{σ:St}{H:Hp}{Q:VK}{k a:Bool}(I:AU X AN σ H s)(q:Q (.bl k) H)(e:k=a):EP X AN σ Q (.bool a) s:=by
 subst e;exact⟨.bl k,H,I,rfl,q⟩
theorem OK:xZ X (AG .Lt) (DJ λi j=>.bl (decide (i<j))):=Eg λ_ _ _ _ _ _ _ q=>lt_int q
theorem b9:xZ X (AG .LtE) (DJ λi j=>.bl (decide (i<=j))):=Eg λ_ _ _ _ _ _ _ q=>le_int q
theorem WC:xZ X (AG .Gt) (DJ λi j=>.bl (decide (j<i))):=Eg λ_ _ _ _ _ _ _ q=>gt_int q
theorem XU:xZ X (AG .GtE) (DJ λi j=>.bl (decide (j<=i))):=Eg λ_ _ _ _ _ _ _ q=>ge_int q
theorem Vp:xZ X (AG .In) (λx y H Q=>∃i j,x=.str i/\y=.str j/\Q (.bl (!(Builtin.Str.occurrences j i 0 j.length 1).isEmpty)) H):=by
 intro AN s σ H x y v u Q I b a h;obtain⟨i,j,rfl,rfl,q⟩:=h;obtain⟨t,rfl⟩:=b;obtain⟨c,rfl⟩:=a;exact in_str (Ri I q Y2)
theorem aa:xZ X (AG .Is) (λx y H Q=>y=.non/\Q (.bl (decide (x=.non))) H):=by
 intro AN s σ H x y v u Q I a b h;obtain⟨rfl,q⟩:=h;cases b;refine is_none_gen (Ri I q ?_);cases x<;>first
  |(cases a;rfl)
  |(obtain⟨t,rfl⟩:=a;rfl)
theorem a8:xZ X (AG .IsNot) (λx y H Q=>y=.non/\Q (.bl (!decide (x=.non))) H):=by
 intro AN s σ H x y v u Q I a b h;obtain⟨rfl,q⟩:=h;cases b;refine isnot_none_gen (Ri I q ?_);cases x<;>first
  |(cases a;rfl)
  |(obtain⟨t,rfl⟩:=a;rfl)
theorem bh(b:Expr)(h:op≠.In:=by decide)(h2:op≠.NotIn:=by decide):behindInMarks op b=false:=by
 have e1:(op==CmpOp.In)=false:=by cases op<;>first|rfl|exact absurd Y2 h
 have e2:(op==CmpOp.NotIn)=false:=by cases op<;>first|rfl|exact absurd Y2 h2
 cases b<;>simp[behindInMarks,e1,e2]
theorem Wl{r:R2}(c:xZ X (AG op) r)(g:PE X a ta)(f:PE X b tb)(k:behindInMarks op b=false):PE X (.Compare a [op] [b] pos) (EQ r ta tb):=by
 intro AN s σ H Q I h;exact wpAny_Compare1 (GI g f I h λv u d x y H2 i j e q=>c AN d σ H2 x y v u Q i j e q) k
def WG(t:TE):TT:=λσ H Q=>t σ H λx H'=>∃k,x=.bl k/\Q k H'
theorem TW{r:R2}(g:xZ X (AG op) r)(d:PE X a ta)(f:PE X b tb)(i:behindInMarks op b=false):PT X (.Compare a [op] [b] pos) (WG (EQ r ta tb)):=by
 intro AN s σ H Q I h;refine wpAny_isTrue_Compare1 (jF (d AN s σ H _ I h) λv s1 ⟨x,H1,I1,r1,q1⟩=>jF (f AN s1 σ H1 _ I1 q1) λu s2 ⟨y,H2,I2,r2,q2⟩=>
  jF (g AN s2 σ H2 x y v u _ I2 r1 r2 q2) λc s3 ⟨z,H3,I3,r3,k,e,q3⟩=>?_) i
 subst e;cases r3;exact QR ⟨H3,I3,q3⟩
def Xh(r b:R2)(ta tb tc:TE):TE:=λσ H Q=>ta σ H λx H1=>tb σ H1 λy H2=>r x y H2 λz a=>∃k,z=.bl k ∧
 (if k=true then tc σ a λc d=>b y c d Q else Q (.bl false) a)
theorem Xi{f:CmpOp}{r g:R2}(i:xZ X (AG op) r)(j:xZ X (AG f) g)(m:PE X a ta)(l:PE X b tb)(n:PE X c tc)(o:lastMarks [op,f] [b,c]=false:=by with_unfolding_all rfl):PE X (.Compare a [op,f] [b,c] pos) (Xh r g ta tb tc):=by
 intro AN s σ H Q I h;refine Compare_chain (jF (m AN s σ H _ I h) λv s1 ⟨x,H1,I1,r1,q1⟩=>chain_link (jF (l AN s1 σ H1 _ I1 q1) λu s2 ⟨y,H2,I2,r2,q2⟩=>
  jF (i AN s2 σ H2 x y v u _ I2 r1 r2 q2) λd s3 ⟨z,H3,I3,r3,k,e,q3⟩=>?_)) o
 subst e;cases r3;refine QR ?_;cases k with
 |false=>exact ite_ff ⟨.bl false,H3,I3,rfl,q3⟩
 |true=>exact ite_tt (chain_last (jF (n AN s3 σ H3 _ I3 q3) λw' s4 ⟨z',H4,I4,r4,q4⟩=>j AN s4 σ H4 y z' u w' Q I4 r2 r4 q4))
def IA(K:B8)(x:V)(H:Hp)(k:Bool):Prop:=
 match x with
 |.non=>k=false
 |.bl b=>k=b
 |.int i=>k=(i != 0)
 |.str y=>y.length<=AA/\k=((y.length:Int) != 0)
 |.byt y=>y.size<=AA/\k=((y.size:Int) != 0)
 |.ref p=>(∃xs,qC K H p xs/\k=!xs.isEmpty)\/(∃xs,tX K H p xs/\k=!xs.isEmpty)\/∃AO,H p=Z (.dK AO)/\k=!AO.isEmpty
 |_=>False
theorem Rj{AO:Y (κ×V)}{vs:Y (κ×A0)}(r:KV AO vs):(!vs.isEmpty)=!AO.isEmpty:=by
 cases r<;>rfl
theorem Ez{xs:Y V}(r:AX xs AQ):(!AQ.toArray.isEmpty)=!xs.isEmpty:=by
 cases r<;>simp
theorem Bf:(AA:Nat)<2 ^ 63:=by rw[sizeLine_eq];decide
theorem RU:Mc X (λx H Q=>∃k,IA X.K x H k/\Q k H):=by
 intro AN s σ H x v Q I a h;obtain⟨k,e,q⟩:=h;have hl:=Bf;have j:AA=16777216:=sizeLine_eq;cases x with
 |non=>
  cases a;have e':k=false:=e;subst e';exact truthy_none ⟨H,I,q⟩
 |bl b=>
  cases a;have e':k=b:=e;subst e';exact QR ⟨H,I,q⟩
 |int i=>
  obtain⟨t,rfl⟩:=a;have e':k=(i != 0):=e;subst e';exact PySem.P.truthy_int ⟨H,I,q⟩
 |str y=>
  obtain⟨t,rfl⟩:=a;obtain⟨g,e'⟩:y.length<=AA/\k=((y.length:Int) != 0):=e;subst e';exact PySem.P.truthy_str () ⟨H,I.tok _,q⟩
 |byt y=>
  obtain⟨t,rfl⟩:=a;obtain⟨g,e'⟩:y.size<=AA/\k=((y.size:Int) != 0):=e;subst e';exact PySem.W.truthy_bytes () ⟨H,I.tok _,q⟩
 |ref p=>
  cases a;have e':(∃xs,qC X.K H p xs/\k=!xs.isEmpty)\/(∃xs,tX X.K H p xs/\k=!xs.isEmpty)\/∃AO,H p=Z (.dK AO)/\k=!AO.isEmpty:=e;rcases e' with⟨xs,hx,e'⟩|⟨xs,hx,e'⟩|⟨AO,hx,e'⟩
  ·subst e';obtain⟨AQ,r,pl,d⟩:=I.list hx;have c:=r.length;exact wpAny_truthy_list pl.isList (by simp only[zh];omega) ⟨H,I.tok _,by rw[Ez r];exact q⟩
  ·subst e';obtain⟨AQ,r,pl,d⟩:=I.tuple hx;have c:=r.length;exact truthy_tuple pl (by simp only[zh];omega) ⟨H,I.tok _,by rw[Ez r];exact q⟩
  ·subst e';obtain⟨d,f,vs,r,m⟩:AO.length<=AA/\(p==sysModules)=false/\∃vs,KV AO vs/\s.heap.DictOf (lB X.prog X.w) p vs:=I.hok p _ hx;have c:AO.length=vs.length:=Paired.length r;exact wpAny_truthy_dict f m () ⟨H,I.tok _,by rw[Rj r];exact q⟩
 |_=>exact(show False from e).elim
theorem Xj(c:PE X a ta)(d:∀b,isTrue a X.env b=(do let v <-b;standAt a.pos;holding [v] (truthy v))):
  PT X a (λσ H Q=>ta σ H λx H'=>∃k,IA X.K x H' k/\Q k H'):=by
 intro AN s σ H Q I h;exact isTrue_plain (jF (c AN s σ H _ I h) λv s1 ⟨x,H1,I1,r1,q1⟩=>RU AN s1 σ H1 x v Q I1 r1 q1) (d _)
theorem Rk:xZ X (binaryOp .Add) (λx y H Q=>∃i j,x=.str i/\y=.str j/\i.length+j.length<=AA/\Q (.str (i++j)) H):=by
 intro AN s σ H x y v u Q I b a h;obtain⟨i,j,rfl,rfl,d,q⟩:=h;obtain⟨t,rfl⟩:=b;obtain⟨c,rfl⟩:=a;exact add_str (λc tk=>⟨.str (i++j),H,I.tok _,⟨_,rfl⟩,q⟩) d
theorem BE{x:V}(r:AX [x] us):∃u,us=[u]/\B0 x u:=by
 cases r with
 |cons a b=>cases b;exact⟨_,rfl,a⟩
theorem C9{x y:V}(r:AX [x,y] us):∃u a,us=[u,a]/\B0 x u/\B0 y a:=by
 cases r with
 |cons c d=>
  cases d with
  |cons e b=>cases b;exact⟨_,_,rfl,c,e⟩
theorem Xk:gw X (.builtin "abs") (λxs H Q=>∃i,xs=[.int i]/\Q (.int (if i<0 then -i else i)) H):=by
 intro AN s σ H xs us Q I r h;obtain⟨i,rfl,q⟩:=h;obtain⟨u,rfl,t,rfl⟩:=BE r;exact call_abs_int λu tk=>⟨.int (if i<0 then -i else i),H,I.tok _,⟨_,rfl⟩,q⟩
theorem Vq:gw X (.type "int") (λxs H Q=>(∃i,xs=[.int i]/\Q (.int i) H)\/∃k,xs=[.bl k]/\Q (.int (if k then 1 else 0)) H):=by
 intro AN s σ H xs us Q I r h;rcases h with⟨i,rfl,q⟩|⟨k,rfl,q⟩
 ·obtain⟨u,rfl,t,rfl⟩:=BE r;exact call_int_int ⟨.int i,H,I,⟨_,rfl⟩,q⟩
 ·obtain⟨u,rfl,a⟩:=BE r;cases a;exact call_int_bool ⟨.int (if k then 1 else 0),H,I.tok _,⟨_,rfl⟩,q⟩
end
end L2
namespace L2
section
variable{x dx f:A1}{mA:AJ->Y3 A0}{v:A0}
end
section
variable{H H':Hp}{h':A6}{dx:A1}{fs fs':Y (AJ×V)}
end
section
variable{X:Cx}{σ:St}{H:Hp}{dx:A1}{fs:Y (AJ×V)}{f:AJ}{v:V}
end
section
variable{X:Cx}{o value:Expr}{f:AJ}{pos':Pos}{ta tv:TE}
end
section
variable{X:Cx}{σ:St}{H:Hp}{c:A0}{b:Bool}
end
end L2
namespace L2
structure jG (k:Nat) (A:Around):Prop where
 hd:A.handled=none
 dp:A.depth+3*k+5<recursionLimit
 un:A.units+16*k+200<cLine
theorem jG.mono(r:jG k A)(h:j<=k):jG j A:=⟨r.hd,by have:=r.dp;omega,by have:=r.un;omega⟩
theorem jG.deeper(r:jG (k+1) A)(env:Env):jG k (A.deeper env):=
 ⟨r.hd,by have:=r.dp;show A.depth+1+3*k+5<_;omega,by have:=r.un;show A.units+3+16*k+200<_;omega⟩
theorem jG.in1(r:jG (k+1) A):jG k A.in1:=
 ⟨r.hd,by have:=r.dp;show A.depth+3*k+5<_;omega,by have:=r.un;show A.units+1+16*k+200<_;omega⟩
theorem jG.depth(r:jG k A):A.depth<recursionLimit:=by have:=r.dp;omega
def Vr:TA:=λ_ H Q=>Q [] H
def vK(ta:TE)(tr:TA):TA:=λσ H Q=>ta σ H λx H1=>tr σ H1 λxs H2=>Q (x::xs) H2
section
variable{X:Cx}{te:TE}{t:TA}
theorem ud:PA X [] Vr:=λ_ _ _ _ H Q I h=>Calls.spliced_nil ⟨[],H,I,.nil,h⟩
theorem iR(a:PE X e te)(b:PA X es t)(hs:A9 (e::es) X.env=(false,eval e X.env)::A9 es X.env:=by rfl):PA X (e::es) (vK te t):=by
 intro pos AN s σ H Q I h;rw[hs];show A7 _ _ (spliced ((false,eval e X.env)::AD pos (A9 es X.env))) _ _ s;refine Calls.spliced_cons (jF (a AN s σ H _ I h) λu s1 ⟨x,H1,I1,r1,q1⟩=>?_);exact jF (b pos AN s1 σ H1 _ I1 q1) λus s2 ⟨xs,H2,I2,r2,q2⟩=>⟨x::xs,H2,I2,.cons r1 r2,q2⟩
def VC(t:TA):TE:=λσ H Q=>t σ H λxs H1=>xs.length<=AA/\∀p,H1 p=O->Q (.ref p) (BA H1 p (.tup xs))
def To(t:TA):TE:=λσ H Q=>t σ H λxs H1=>xs.length<=AA/\∀p,H1 p=O->Q (.ref p) (BA H1 p (.lst xs))
theorem X1{x1}(h:PA X es t):PE X (.Tuple es x1 pos) (VC t):=by
 intro AN s σ H Q I c;refine wpAny_Tuple_spliced (jF (h pos AN s σ H _ I c) λus s1 ⟨xs,H1,I1,r,z,q⟩=>⟨by rw[<-r.length];exact z,?_⟩);have a:H1 s1.heap.objs.size=O:=I1.hok.fresh (zi _);refine⟨.ref s1.heap.objs.size,BA H1 s1.heap.objs.size (.tup xs),I1.laid (t':=s1.toks) (λb u e=>zg _ e) (zi _) ?_,rfl,q _ a⟩;exact⟨z,us,r,⟨_,zS _ rfl,rfl,⟨_,rfl⟩,rfl⟩⟩
theorem Sf(h:PA X es t):PE X (.List es pos) (To t):=by
 intro AN s σ H Q I c;refine wpAny_List_spliced (jF (h pos AN s σ H _ I c) λus s1 ⟨xs,H1,I1,r,z,q⟩=>⟨by rw[<-r.length];exact z,?_⟩);have a:H1 s1.heap.objs.size=O:=I1.hok.fresh (zi _);refine⟨.ref s1.heap.objs.size,BA H1 s1.heap.objs.size (.lst xs),I1.laid (t':=s1.toks) (λb u e=>zg _ e) (zi _) ?_,rfl,q _ a⟩;exact⟨z,us,0,r,zS _ rfl⟩
end
abbrev Sp:=Y V->Hp->VK->XK->Prop
abbrev W0:=Y Env->Hp->A2->XK->A0->A2->Prop
structure F3 (P:Program) (w:World) (K:B8) (mg:Str->Option Value) (base:Heap) (A:Around) (outer:List Env) (s:Shared) (H:Hp):Prop where
 frames:A.frames=some outer
 mod:Mod K mg base
 bs:∀b o,base.get? b=some o->s.heap.get? b=some o/\H b=none
 bsz:base.objs.size<=s.heap.objs.size
 Dv:s.heap.FunFrames base outer
 frf:∀b∈Cs outer,H b=none
 hok:Cq P w H s.heap
 bare:AllBare s.gens
 tabs:C1 K H
def CE(outer:Y Env)(P:A3)(w:A4)(H:Hp)(s:A2)(Q:VK)(u:A0)(s':A2):Prop:=
 ∃v H',s'.os=s.os/\AllBare s'.gens/\Un (Cs outer) [] H H' s.heap s'.heap/\Cq P w H' s'.heap/\B0 v u/\Q v H'
def CR(CX:W0)(outer:Y Env)(P:A3)(w:A4)(H:Hp)(s:A2)(Q:VK)(E:XK)(r:Result)(s':A2):Prop:=
 match r with
 |.ok (.ret u)=>CE outer P w H s Q u s'
 |.ok _=>False
 |.error e=>CX outer H s E e s'
structure yD (P:Program) (w:World) (K:B8) (mg:Str->Option Value) (base:Heap) (CX:W0) (k:Nat) (f:Addr) (fd:FuncData) (ps:At) (sp:Sp):Prop where
 len:∀vs H Q E,sp vs H Q E->vs.length=ps.length
 run:∀(A:Around) (outer:List Env) (s:Shared) (H:Hp) (args:Args) (us:List Value) (vs:List V) (Q:VK) (E:XK),jG k A->F3 P w K mg base A outer s H->BindsTo s fd args (ps.zip us)->AX vs us->sp vs H Q E →
  codeAny (model P w) A (.call (.ref f) args) (CR CX outer P w H s Q E) s
section
variable{X:Cx}{σ:St}{H:Hp}{s':A2}
theorem AU.env0(I:AU X AN σ H s):F3 X.prog X.w X.K X.mg X.base X.A X.stack s H:=
 ⟨I.ok.frames,I.ok.mod,I.bs,zo I.ok.bsz I.sz,I.stack,I.JZ,I.hok,I.bare,I.ok.tabs.go I.base.yx⟩
theorem AU.after{Q:VK}(I:AU X AN σ H s)(h:CE X.stack X.prog X.w H s Q u s'):EP X AN σ Q u s':=by
 obtain⟨v,H',os,c,un,e,r,q⟩:=h;obtain⟨a,g,d,t,f⟩:=s';obtain rfl:f=s.os:=os;exact⟨v,H',I.call (h':=a) (g':=g) (d':=d) (t':=t) (ch:=[]) un e c (λb z=>absurd z (by simp)),r,q⟩
end
def XO(sp:Sp)(dvs:Y V)(E:XK)(t:TA):TE:=λσ H Q=>t σ H λvs H1=>sp (vs++dvs) H1 Q E
def Bi(K:B8)(fd:FuncData)(ps:At)(ds:Y A0):Prop:=
 ∀(s:A2) (us:Y A0),K.In s.heap->(us++ds).length=ps.length->BindsTo s fd ⟨us,[]⟩ (ps.zip (us++ds))
theorem Bi.all(h:∀us:Y A0,us.length=ps.length->bindArgs fd ⟨us,[]⟩=pure (ps.zip us)):Bi K fd ps []:=λs us _ hl=>by
 rw[Qr]at hl ⊢;exact .of_eq (h us hl)
def CI(CX:W0)(X:Cx)(E:XK):Prop:=∀(AN:Y (A1×AE)) (σ:St) (H:Hp) (s:A2) (e:A0) (s':A2),AU X AN σ H s->CX X.stack H s E e s'->X.xe e s'
section
variable{X:Cx}{CX:W0}{f:A1}{sp:Sp}{dvs:Y V}{ds:Y A0}{E:XK}{m:AJ}{p:Pos}{o:Expr}{ta:TE}{t:TA}
theorem NO{σ:St}{H:Hp}{Q:VK}{vs:Y V}(F:yD X.prog X.w X.K X.mg X.base CX k f fd ps sp)(d:jG k X.A)(c:Bi X.K fd ps ds)(hd:AX dvs ds)(hx:CI CX X E)(I:AU X AN σ H s)(r:AX vs us)(h:sp (vs++dvs) H Q E):A7 (cr X) X.A (call (.ref f) us) (EP X AN σ Q) X.xe s:=by
 have b:AX (vs++dvs) (us++ds):=r.append hd;have hl:(us++ds).length=ps.length:=by rw[<-b.length];exact F.len _ _ _ _ h
 refine wpAny_call (codeAny_mono (F.run X.A X.stack s H ⟨us,[]⟩ (us++ds) (vs++dvs) Q E d I.env0 (c s us I.kIn hl) b h) λr s' a=>?_);cases r with
 |error e=>exact hx AN σ H s e s' I a
 |ok fl=>
  cases fl with
  |ret u=>exact I.after a
  |next=>exact False.elim a
  |brk=>exact False.elim a
  |cont=>exact False.elim a
theorem PD(F:yD X.prog X.w X.K X.mg X.base CX k f fd ps sp)(l:jG k X.A)(i:Gl X x)(j:X.mg x=Z (.ref f))(hk:keepIn X.K (.ref f)=true)(c:Bi X.K fd ps ds)(hd:AX dvs ds)(hx:CI CX X E)
  (g:PA X (e::es) t) (b:ad x:=by decide) (a:A9 (e::es) X.env=(false,eval e X.env)::A9 es X.env:=by rfl) (d:(AD pos (A9 es X.env)).any (·.1)=false:=by rfl):
  PE X (.Call (.Name x p) (e::es) [] pos) (XO sp dvs E t):=by
 intro AN s σ H Q I h;refine kR (J4 I i j ?_ b);refine PySem.W.callWith_K (h₀:=X.base) I.ok.mod.kin hk (jF (g pos AN s σ H _ I h) λus s1 ⟨vs,H1,I1,r,q⟩=>⟨I1.kIn,?_⟩) a d;exact NO F l c hd hx I1 r q
end
section
variable{X:Cx}{CX:W0}{f:A1}{ks:At}{sp:Sp}{E:XK}{m:AJ}{p kpos:Pos}{o:Expr}{kws:Y AC}{te ta:TE}{t tk:TA}{nm:Y3 AJ}
variable{g:Y A0->Y A0->Y A0}{gV:Y V->Y V->Y V}
end
structure bD (N P:At) (sc:Scope):Prop where
 kind:sc.kind=.function
 co:sc.isCoroutine=false
 gen:sc.isGenerator=false
 nd:N.Nodup
 pre:N.take P.length=P
 par:∀x∈P,sc.names.lookup x=some .local\/sc.names.lookup x=some .cell
 aed:∀y∈sc.names,y.2≠.free
theorem IK{b:AJ->Y3 NameKind}{x:AJ}:∀{binds:Y (AJ×A0)} {m:AJ->Y3 A0},(∀v,(x,v)∉binds)->bindL b binds m x=m x
 |[],_,_=>rfl
 |(n,v)::r,m,h=>by
  unfold bindL;rw[IK λw a=>h w (zl _ a)];split
  ·have:x≠n:=by rintro rfl;exact h v zt
   simp[this]
  ·rfl
theorem IV{b:AJ->Y3 NameKind}{x:AJ}:∀{binds:Y (AJ×A0)} {m:AJ->Y3 A0},(∀v,(x,v)∉binds)->bindC b binds m x=m x
 |[],_,_=>rfl
 |(n,v)::r,m,h=>by
  unfold bindC;rw[IV λw a=>h w (zl _ a)];split
  ·rfl
  ·have:x≠n:=by rintro rfl;exact h v zt
   simp[this]
theorem IW{a:AJ->Y3 NameKind}{x:AJ}{v:A0}:∀{P:At} {vs:Y A0} {i:Nat} {m:AJ->Y3 A0},P.Nodup->P[i]?=Z x->vs[i]?=Z v->a x=Z .local →
  bindL a (P.zip vs) m x=Z v
 |[],_,_,_,_,h,_,_=>by simp at h
 |_::_,[],_,_,_,_,h,_=>by simp at h
 |p::P,w::vs,0,m,nd,h1,h2,hk=>by
  simp at h1 h2;subst h1;subst h2;show bindL a ((p,w)::P.zip vs) m p=_;unfold bindL;rw[IK λv b=>(df.mp nd).1 (KG b).1,zk hk];simp
 |p::P,w::vs,i+1,m,nd,h1,h2,hk=>by
  show bindL a ((p,w)::P.zip vs) m x=_;unfold bindL;exact IW (i:=i) (df.mp nd).2 (by simpa using h1) (by simpa using h2) hk
theorem Ja{a:AJ->Y3 NameKind}{x:AJ}{v:A0}:∀{P:At} {vs:Y A0} {i:Nat} {m:AJ->Y3 A0},P.Nodup->P[i]?=Z x->vs[i]?=Z v->a x≠Z .local →
  bindC a (P.zip vs) m x=Z v
 |[],_,_,_,_,h,_,_=>by simp at h
 |_::_,[],_,_,_,_,h,_=>by simp at h
 |p::P,w::vs,0,m,nd,h1,h2,hk=>by
  simp at h1 h2;subst h1;subst h2;show bindC a ((p,w)::P.zip vs) m p=_;unfold bindC;rw[IV λv b=>(df.mp nd).1 (KG b).1,zv hk];simp
 |p::P,w::vs,i+1,m,nd,h1,h2,hk=>by
  show bindC a ((p,w)::P.zip vs) m x=_;unfold bindC;exact Ja (i:=i) (df.mp nd).2 (by simpa using h1) (by simpa using h2) hk
def start(N:At)(vs:Y V):St:=vs.map Z++bj (N.length-vs.length) O
def EY(CX:W0)(P:A3)(w:A4)(K:B8)(mg:AJ->Y3 A0)(base:A6)(N:At)(qual:AJ)(scope:Scope)(f:A1)(a:A0)(A:A5)(outer:Y Env)(s:A2)(H:Hp)(E:XK):Cx where
 prog:=P
 w:=w
 K:=K
 mg:=mg
 base:=base
 A:=A.deeper (AK qual scope s.heap.objs.size f a)
 N:=N
 s₀:=s
 H₀:=H
 env:=AK qual scope s.heap.objs.size f a
 outer:=outer
 stack:=AK qual scope s.heap.objs.size f a::outer
 ex:=[]
 calm:=true
 fn:=λ_=>true
 pn:=[]
 xe:=λe s'=>A7 (A8 P w) (A.deeper (AK qual scope s.heap.objs.size f a)) (leaving (AK qual scope s.heap.objs.size f a) e) (λ_ b=>CX outer H s E e b) (λe' b=>CX outer H s E e' b) s'
theorem Nv{a:Scope}(h:a.names.lookup x=Z .cell):∃c,(cellsFrom n a.names []).lookup x=Z c:=by
 have q:=cellsFrom_some a.names n [] (.inl h);exact dq.mp q
theorem Vs{CX:W0}{f:A1}{g:A0}{outer:Y Env}{o:A2}{H:Hp}{E:XK}{vs:Y V}(S:bD N ps scope)(hd:A.handled=O)(e0:F3 P w K mg base A outer s H)(hl:vs.length=ps.length)(r:AX vs us)(x:InCallC s s.heap.objs.size (bindL (AK qual scope s.heap.objs.size f g).kindOf (ps.zip us) λ_=>O) (cellsFrom (s.heap.objs.size+1) scope.names []) (bindC (AK qual scope s.heap.objs.size f g).kindOf (ps.zip us) λ_=>O) o):
  AU (EY CX P w K mg base N qual scope f g A outer s H E) [] (start N vs) H o:=by
 have C:ps.length<=N.length:=by have:=congrArg hP S.pre;rw[ZT]at this;omega
 obtain⟨h1,tk,rfl,hk⟩:=x.done;have j:∀b:A1,b∉(EY CX P w K mg base N qual scope f g A outer s H E).ex:=λb z=>absurd (show b∈([]:Y A1) from z) (by simp);refine⟨⟨e0.mod,S.kind,rfl,rfl,zi _,λy z c h1 h2=>?_,λy d=>?_,λy c _ h=>?_,λ_=>hd,Around.frames_deeper e0.frames,.inr ⟨rfl,rfl⟩,λb z=>absurd z (j b),e0.bs,e0.bsz,λb _ _=>j b,λb z=>absurd z (j b),e0.Dv,e0.frf,e0.tabs⟩,
  rfl,e0.bare,Un.kept hk,⟨_,x.toInCall.ns,λi y v h1 h2 D=>?_⟩,λy c h=>⟨_,x.cell y c h⟩,e0.hok.fresh (zi _),λy c h=>?_,λp hp=>absurd (show p∈([]:Y (A1×AE)) from hp) (by simp),e0.hok.kept hk,?_⟩
 ·exact name_of_addr x.apart (Q1 h1) (Q1 h2)
 ·have d:scope.names.lookup y=Z .cell\/scope.names.lookup y=Z .free:=d;rcases d with d|d
  ·exact Nv d
  ·exact absurd Y2 (S.aed _ (Q1 d))
 ·exact qv (x.above y c (Q1 h))
 ·have hi:i<vs.length:=by
   unfold start at h2;by_cases hi:i<vs.length
   ·exact hi
   ·rw[QI (by simpa using hi)]at h2;rw[jS]at h2;split at h2<;>cases h2
  have t:vs[i]?=Z v:=by
   unfold start at h2;rw[ZZ (by simpa using hi),qB]at h2;cases e:vs[i]? with
   |none=>rw[e]at h2;cases h2
   |some a=>rw[e]at h2;cases h2;rfl
  obtain⟨u,m,B⟩:=r.get t;have hp:ps[i]?=Z y:=by
   rw[<-S.pre,eV ()];exact h1
  have l:ps.Nodup:=by rw[<-S.pre];exact S.nd.sublist (eM _ _)
  refine⟨u,B,?_⟩;rcases S.par y (ky hp)with k|k
  ·exact .inl ⟨k,IW l hp m k⟩
  ·obtain⟨c,e⟩:=Nv (n:=s.heap.objs.size+1) k;refine .inr ⟨.inl k,c,e,?_⟩;have q:=x.cell y c e;rw[Ja l hp m (by show scope.names.lookup y≠_;rw[k];decide)]at q;exact q
 ·exact e0.hok.fresh (qv (x.above y c (Q1 h)))
 ·unfold start;show _=N.length;rw[zr,ze,dv];omega
theorem LA{CX:W0}{f:A1}{h kV l pm a ct B:A0}{i od:Y3 A1}{sp:Sp}(D:K.lookup f=Z ⟨B,od,.func (fnOf name qual params body scope h kV l pm i a ct),osl⟩)(a1:codeIn K a qual=true)(S:bD N ps scope)(len:∀vs H Q E,sp vs H Q E->vs.length=ps.length)(X:∀(A:A5) (outer:Y Env) (s:A2) (H:Hp) (vs:Y V) (Q:VK) (E:XK),jG k (A.deeper (AK qual scope s.heap.objs.size f a))->sp vs H Q E →
   ∃t,Rc (EY CX P w K mg base N qual scope f a A outer s H E) body t/\t { nx:=λ_ H'=>Q .non H',rt:=Q } (start N vs) H):
  yD P w K mg base CX (k+1) f (fnOf name qual params body scope h kV l pm i a ct) ps sp:=by
 refine⟨len,λA outer s H a2 us vs Q E g e0 L r m=>?_⟩;have hl:=len _ _ _ _ m;have p:K.In s.heap:=e0.mod.kin.keeps λb o e=>(e0.bs b o e).1;have U:s.heap.NoLimit:=e0.mod.nolimit.keeps λb o e=>(e0.bs b o e).1;have M:∀y∈ps.zip us,scope.names.lookup y.1=Z .local\/(scope.names.lookup y.1=Z .cell/\((cellsFrom (s.heap.objs.size+1) scope.names []).lookup y.1).isSome=true):=λ⟨n,v⟩ hy=>by
  rcases S.par n (KG hy).1 with q|q
  ·exact .inl q
  ·exact .inr ⟨q,cellsFrom_some _ _ _ (.inl q)⟩
 refine codeAny_call_function g.depth (p _ _ D) Y2 S.co S.gen Y2 (PySem.W.codeRec_of p a1) (L _ _ _ _ ?_);refine wpAny_newFunctionEnv_cells S.kind M λenv G z x=>?_;subst G;refine⟨U.keeps x.toInCall.keep,codeAny_func ?_⟩;obtain⟨t,C,F⟩:=X A outer s H vs Q E (g.deeper _) m;have I:AU (EY CX P w K mg base N qual scope f a A outer s H E) [] (start N vs) H z:=Vs S g.hd e0 hl r x;refine QE (C [] z (start N vs) H _ I F) (λfl s' c=>?_) λe s' c=>c;have j:∀{σ':St} {H':Hp} {v:V} {u:A0},AU (EY CX P w K mg base N qual scope f a A outer s H E) [] σ' H' s'->B0 v u->Q v H'->CE outer P w H s Q u s':=
  λ{σ' H' v u} J d q=>⟨v,H',J.os,J.bare,J.base,J.hok,d,q⟩
 cases fl with
 |ret u=>
  obtain⟨v,σ',H',J,d,q⟩:=c;exact j J d q
 |next=>
  obtain⟨σ',H',J,q⟩:=c;exact j (v:=V.non) (u:=Value.none) J Y2 q
 |brk=>
  obtain⟨_,_,_,q⟩:=c;exact False.elim q
 |cont=>
  obtain⟨_,_,_,q⟩:=c;exact False.elim q
end L2
namespace L2
section
variable{X:Cx}{p:Pos}{t:TA}{id T:String}{r:Y V->Hp->VK->Prop}
def HK(r:Y V->Hp->VK->Prop)(t:TA):TE:=λσ H Q=>t σ H λvs H1=>r vs H1 Q
theorem sI(g:gw X (.builtin id) r)(i:Gl X x)(j:X.mg x=O)(k:AH x=Z (.builtin id))(f:PA X (e::es) t)(a:x ≠ "__name__":=by decide)(c:ad x:=by decide)
  (b:A9 (e::es) X.env=(false,eval e X.env)::A9 es X.env:=by rfl) (d:(AD pos (A9 es X.env)).any (·.1)=false:=by rfl):PE X (.Call (.Name x p) (e::es) [] pos) (HK r t):=by
 intro AN s σ H Q I h;refine kR (vH I i j k ?_ a c);exact PyProof.Rows.callWith_builtin1 (jF (f pos AN s σ H _ I h) λus s1 ⟨vs,H1,I1,r1,q1⟩=>g AN s1 σ H1 vs us Q I1 r1 q1) b d
theorem Vt(g:gw X (.type T) r)(i:Gl X x)(j:X.mg x=O)(k:AH x=Z (.type T))(f:PA X (e::es) t)(a:x ≠ "__name__":=by decide)(c:ad x:=by decide)
  (b:A9 (e::es) X.env=(false,eval e X.env)::A9 es X.env:=by rfl) (d:(AD pos (A9 es X.env)).any (·.1)=false:=by rfl):PE X (.Call (.Name x p) (e::es) [] pos) (HK r t):=by
 intro AN s σ H Q I h;refine kR (vH I i j k ?_ a c);exact PyProof.Rows.callWith_type1 (jF (f pos AN s σ H _ I h) λus s1 ⟨vs,H1,I1,r1,q1⟩=>g AN s1 σ H1 vs us Q I1 r1 q1) b d
end
end L2
namespace HT
open PySem PyProof.Rows
section
open PySem.SeqAt
open PySem.AutoSeq1 (wpAny_loadPart')
open PySem.MeetsSeq PySem.MeetsSeq2 PySem.MeetsSeq3
end
theorem aaW{t b:A1}{vs a:Y A0}(u:IsTup s.heap t vs.toArray)(p:IsTup s.heap b a.toArray)(j:vs≠[])(h1:a=[]->Q (.ref t) s)(h2:a≠[]->Q (.ref s.heap.objs.size) { s with heap:=s.heap.push { cls:=.type "tuple",data:=.seq (vs++a).toArray } })(q:vs.length+a.length<=AA):A7 (A8 prog w) A (binaryOp .Add (.ref t) (.ref b)) Q E s:=by
 obtain⟨⟨cls,i,data,sl⟩,c,k,n,hd⟩:=id u;obtain⟨⟨cls2,l,v,o⟩,f,m,g,h⟩:=id p;simp only at k hd m h;subst k hd m h;have e:vs.toArray++a.toArray=(vs++a).toArray:=by simp
 by_cases d:a=[]
 ·exact concat_meets ⟨_,c,rfl⟩ ⟨_,f,rfl⟩ noFill_tuple_add seq_tuple_add PySem.F.slot_tuple_add yY (ym _ _)
   (tuple_addW1 t b vs.toArray a.toArray n g i l sl o (by simpa using j) (by simp[d])) ⟨c,f,h1 d⟩
 ·refine concat_meets ⟨_,c,rfl⟩ ⟨_,f,rfl⟩ noFill_tuple_add seq_tuple_add PySem.F.slot_tuple_add yY (ym _ _)
   (tuple_addW2 t b vs.toArray a.toArray n g i l sl o (by simpa using j) (by simpa using d) (by rw[zh,zh];exact q)) ⟨c,f,?_⟩
  rw[e];exact h2 d
def iV(n d:Nat):Y3 Int->Nat
 |none=>d
 |some v=>if v<0 then(v+(n:Int)).toNat else min v.toNat n
theorem Xl(n d:Nat):iV n d O=d:=rfl
theorem aaX(n d k:Nat):iV n d (Z (k:Int))=min k n:=by
 show(if(k:Int)<0 then((k:Int)+(n:Int)).toNat else min (k:Int).toNat n)=min k n;rw[zv (),QU]
theorem SS(n d:Nat)(hd:d<=n)(o:Y3 Int):iV n d o<=n:=by
 cases o with
 |none=>exact hd
 |some v=>
  show(if v<0 then(v+(n:Int)).toNat else min v.toNat n)<=n;by_cases a:v<0
  ·rw[zk a];omega
  ·rw[zv a];exact Nat.min_le_right _ _
theorem TX(v:Int)(n d:Nat):(if v<0 then max (v+(n:Int)) 0 else min v (n:Int))=((iV n d (Z v):Nat):Int):=by
 show(if v<0 then max (v+(n:Int)) 0 else min v (n:Int))=(((if v<0 then(v+(n:Int)).toNat else min v.toNat n):Nat):Int);by_cases a:v<0
 ·simp only[zk a];omega
 ·simp only[zv a];omega
theorem Rm(lo hi:Y3 Int)(n:Nat):Builtin.Slice.sliceAdjust lo hi 1 (n:Int)=(((iV n 0 lo:Nat):Int),((iV n n hi:Nat):Int)):=by
 have h1:¬ ((1:Int)<0):=by omega
 unfold Builtin.Slice.sliceAdjust;simp only[h1,qo];refine k8 ?_ ?_
 ·cases lo with
  |none=>rfl
  |some v=>exact TX v n 0
 ·cases hi with
  |none=>rfl
  |some v=>exact TX v n n
theorem Ro(i j:Nat):Builtin.Slice.slicePlaces (i:Int) (j:Int) 1=j-i:=by
 unfold Builtin.Slice.slicePlaces;have h1:(1:Int)>0:=by omega
 simp only[h1,QO,Int.ediv_one];split<;>omega
theorem pR{v:A0}{o:Y3 Int}{Q:Y3 Int->A2->Prop}(p:IsPart v o)(h:Q o s):A7 (A8 prog w) A (Builtin.Slice.slicePartIndex v) Q E s:=by
 cases p with
 |none=>exact slicePart_none h
 |int i t=>exact slicePart_int h
theorem sJ{sl:A1}{a c:A0}{Q:Int×Int×Nat->A2->Prop}(hs:s.heap.IsSliceOf sl a c .none)(pl:IsPart a lo)(e:IsPart c hi)(h:Q (((iV n 0 lo:Nat):Int),1,iV n n hi-iV n 0 lo) s):A7 (A8 prog w) A (Builtin.Slice.sliceApplied (.ref sl) (pure (n:Int))) Q E s:=by
 obtain⟨os,b,f,d⟩:=id hs;unfold Builtin.Slice.sliceApplied Builtin.Slice.sliceFields;refine zb (zb (QN b d (x:=a) Y2 (zb (QN b d (x:=c) Y2 (zb (QN b d (x:=.none) Y2 (zd ?_)))))));refine zb (slicePart_none ?_);show A7 _ _ (if((1:Int)==0)=true then _ else _) _ _ s;rw[zv ()];refine zb (pR pl (zb (pR e (zb (zd ?_)))));show A7 _ _ (match Builtin.Slice.sliceAdjust lo hi 1 (n:Int)with|(lo,hi)=>pure (lo,(1:Int),Builtin.Slice.slicePlaces lo hi 1)) _ _ s;rw[Rm lo hi n];show A7 _ _ (pure (((iV n 0 lo:Nat):Int),(1:Int),Builtin.Slice.slicePlaces ((iV n 0 lo:Nat):Int) ((iV n n hi:Nat):Int) 1)) _ _ s;rw[Ro];exact zd h
theorem Xm(xs:Array A0)(i k:Nat):((da k).filterMap λ(m:Nat)=>xs[((i:Int)+(m:Int)*1).toNat]?).toArray=((xs.toList.drop i).take k).toArray:=by
 have e:(λ(m:Nat)=>xs[((i:Int)+(m:Int)*1).toNat]?)=λm=>xs[i+m]?:=by
  funext m;have:((i:Int)+(m:Int)*1).toNat=i+m:=by omega
  rw[this]
 rw[e];have:=pick_run xs i k;rw[List.filterMap_map]at this;have e2:((λx=>xs[x]?) ∘ λx=>i+x)=λm=>xs[i+m]?:=rfl;rw[e2]at this;rw[this]
theorem zp{t sl:A1}{c d:A0}(b:IsTup s.heap t items)(hs:s.heap.IsSliceOf sl c d .none)(pl:IsPart c lo)(j:IsPart d hi)(e:¬ (iV items.size 0 lo=0/\iV items.size items.size hi=items.size))(h:Q (.ref s.heap.objs.size) { s with heap:=s.heap.push { cls:=.type "tuple",data:=.seq ((items.toList.drop (iV items.size 0 lo)).take (iV items.size items.size hi-iV items.size 0 lo)).toArray } })(l:items.size<=AA):A7 (A8 prog w) A (getItem (.ref t) (.ref sl)) Q E s:=by
 have a:sizeOk (.seq ((items.toList.drop (iV items.size 0 lo)).take (iV items.size items.size hi-iV items.size 0 lo)).toArray):=by
  show((items.toList.drop (iV items.size 0 lo)).take (iV items.size items.size hi-iV items.size 0 lo)).toArray.size<=AA;rw[zh,ZT,qc,ZO];omega
 have n:iV items.size items.size hi<=items.size:=SS _ _ (zi _) hi;obtain⟨os,g,i,o⟩:=id hs;have k:s.TypeIs (.ref sl) "slice":=⟨os,g,i⟩;unfold getItem
 try with_reducible refine kb ?_
 first|refine zb (zd ?_)|skip
 refine zb (wpAny_sequenceKey b.typeIs () ?_);refine zb (QQ (name:=Str.ofString "__getitem__") b.typeIs PyProof.Rows.slot_tuple_getitem
  (jn PyProof.Rows.slot_tuple_getitem b.typeIs entry_tuple_getitem ?_ (args_tuple_getitem _ _)))
 show A7 _ _ (Builtin.Tuple.tupleItemsOf (.ref t) >>= _) _ _ s;refine zb (tupleItemsOf_ b ?_);refine zb (JS k ?_);rw[zk ()];refine zb (sJ hs pl j ?_);have f:¬ ((((iV items.size 0 lo:Nat):Int)==0&&(1:Int)==1&&(iV items.size items.size hi-iV items.size 0 lo)==items.size)=true):=by
  intro q;rw[Zs,Zs]at q;have q1:((iV items.size 0 lo:Nat):Int)=0:=eq_of_beq q.1.1;have q2:iV items.size items.size hi-iV items.size 0 lo=items.size:=eq_of_beq q.2;exact e ⟨by omega,by omega⟩
 show A7 _ _ (if(((iV items.size 0 lo:Nat):Int)==0&&(1:Int)==1&&(iV items.size items.size hi-iV items.size 0 lo)==items.size)=true then _ else _) _ _ s;rw[zv f,Xm]
 first
  |exact zb (m:=Builtin.Tuple.tupleExact _) (qA (zd ⟨_,rfl,zd h⟩) a)
  |exact zb (m:=Builtin.Tuple.tupleExact _) (qA (zb (zd (zd ⟨_,rfl,zd h⟩))) a)
  |exact zb (zb (m:=Builtin.Tuple.tupleExact _) (qA (zd (zd ⟨_,rfl,zd h⟩)) a))
  |exact zb (zb (m:=Builtin.Tuple.tupleExact _) (qA (zd ⟨_,rfl,zd h⟩) a))
end HT
namespace L2
abbrev TO:=St->Hp->(Y3 Int->Hp->Prop)->Prop
def PO(X:Cx)(e:Y3 Expr)(t:TO):Prop:=
 ∀(AN:Y (A1×AE)) (s:A2) (σ:St) (H:Hp) (Q:Y3 Int->Hp->Prop),AU X AN σ H s->t σ H Q →
  A7 (cr X) X.A (evalPart e X.env) (λu s'=>∃o H',AU X AN σ H' s'/\IsPart u o/\Q o H') X.xe s
def XI:TO:=λ_ H Q=>Q O H
def bn(t:TE):TO:=λσ H Q=>t σ H λx H1=>∃i,x=.int i/\Q (Z i) H1
section
variable{X:Cx}{te:TE}{lo hi:Y3 Expr}{tl th:TO}
theorem XY:PO X O XI:=by
 intro AN s σ H Q I h;rw[evalPart_none];exact zd ⟨O,H,I,.none,h⟩
theorem NE(h:PE X e te):PO X (Z e) (bn te):=by
 intro AN s σ H Q I a;rw[evalPart_some];refine jF (h AN s σ H _ I a) λu s1 ⟨x,H1,I1,r1,q1⟩=>?_;obtain⟨i,rfl,q⟩:=q1;obtain⟨t,rfl⟩:=r1;exact⟨Z i,H1,I1,.int i t,q⟩
def FM(X:Cx)(r:V->Y3 Int->Y3 Int->Hp->VK->Prop):Prop:=
 ∀(AN:Y (A1×AE)) (s:A2) (σ:St) (H:Hp) (x:V) (v a b:A0) (lo hi:Y3 Int) (sl:A1) (Q:VK),AU X AN σ H s->B0 x v->s.heap.IsSliceOf sl a b .none->IsPart a lo->IsPart b hi->r x lo hi H Q →
  ∃T id,typeLookup (.type T) "__getitem__"=pure (Z (.builtin id))/\s.TypeIs v T/\A7 (cr X) X.A (getItem v (.ref sl)) (EP X AN σ Q) X.xe s
def NW(r:V->Y3 Int->Y3 Int->Hp->VK->Prop)(te:TE)(tl th:TO):TE:=λσ H Q=>te σ H λx H1=>tl σ H1 λl H2=>th σ H2 λu a=>r x l u a Q
theorem Xn{r:V->Y3 Int->Y3 Int->Hp->VK->Prop}(j:FM X r)(c:PE X e te)(hl:PO X lo tl)(d:PO X hi th):PE X (.Subscript e (.Slice lo hi O p2) pos) (NW r te tl th):=by
 intro AN s σ H Q I h;refine Subscript_ (jF (c AN s σ H _ I h) λv s1 ⟨x,H1,I1,r1,q1⟩=>?_);refine wpAny_Slice (jF (hl AN s1 σ H1 _ I1 q1) λvl s2 ⟨l,H2,I2,pl,q2⟩=>jF (d AN s2 σ H2 _ I2 q2) λvu s3 ⟨u,H3,I3,pu,q3⟩=>?_);rw[evalPart_none];refine zd ?_;have g:AU X AN σ H3 { s3 with heap:=s3.heap.push { cls:=.type "slice",data:=.fields #[vl,vu,.none] } }:=I3.kept (t':=s3.toks) λb k q=>zg _ q;obtain⟨T,id,a,i,f⟩:=j AN { s3 with heap:=s3.heap.push { cls:=.type "slice",data:=.fields #[vl,vu,.none] } } σ H3 x v vl vu l u s3.heap.objs.size Q g r1 (Heap.IsSliceOf.new ..) pl pu q3;show A7 (cr X) X.A (subscriptTail e (.Slice lo hi O p2) v (.ref s3.heap.objs.size)) (EP X AN σ Q) X.xe { s3 with heap:=s3.heap.push { cls:=.type "slice",data:=.fields #[vl,vu,.none] } };exact tail_any (ops:=[.ref s3.heap.objs.size,v]) i a f (by with_unfolding_all rfl)
def Nx(xs:Y V)(lo hi:Y3 Int):Y V:=(xs.drop (HT.iV xs.length 0 lo)).take (HT.iV xs.length xs.length hi-HT.iV xs.length 0 lo)
theorem Cr(xs:Y V)(lo hi:Y3 Int):(Nx xs lo hi).length<=xs.length:=by
 unfold Nx;rw[ZT,qc];omega
def NJ(K:B8):V->Y3 Int->Y3 Int->Hp->VK->Prop:=λx lo hi H Q=>∃a xs,x=.ref a/\tX K H a xs ∧
 ¬ (HT.iV xs.length 0 lo=0/\HT.iV xs.length xs.length hi=xs.length)/\∀p,H p=O->Q (.ref p) (BA H p (.tup (Nx xs lo hi)))
theorem Sa:FM X (NJ X.K):=by
 intro AN s σ H x v l m lo hi sl Q I i g pl j h;obtain⟨a,xs,rfl,hx,f,q⟩:=h;cases i;obtain⟨AQ,r,d,e⟩:=I.tuple hx;have c:AQ.toArray.size=xs.length:=by rw[zh];exact r.length.symm
 refine⟨"tuple", _,PyProof.Rows.slot_tuple_getitem.lookup,d.typeIs,?_⟩;refine HT.zp d g pl j (by rw[c];exact f) ?_ (by rw[c];exact e);rw[c];refine⟨.ref s.heap.objs.size,_,I.laid (t':=s.toks) (o:=.tup (Nx xs lo hi)) (λb k q=>zg _ q) (zi _) ?_,rfl,q _ (I.hok.fresh (zi _))⟩;exact⟨zo (Cr xs lo hi) e,_,(r.drop (HT.iV xs.length 0 lo)).take (HT.iV xs.length xs.length hi-HT.iV xs.length 0 lo),oK.new _ _⟩
def b8(K:B8):R2:=λx y H Q=>∃a b xs ys,x=.ref a/\y=.ref b/\tX K H a xs/\tX K H b ys/\xs≠[]/\xs.length+ys.length<=AA ∧
 (ys=[]->Q (.ref a) H)/\(ys≠[]->∀p,H p=O->Q (.ref p) (BA H p (.tup (xs++ys))))
theorem AX.Ed{xs:Y V}(r:AX xs us):us=[]↔xs=[]:=by
 cases r with
 |nil=>simp
 |cons _ _=>simp
theorem Nc:xZ X (binaryOp .Add) (b8 X.K):=by
 intro AN s σ H x y v u Q I j f h;obtain⟨a,b,xs,ys,rfl,rfl,i,g,hx,e,q1,q2⟩:=h;cases j;cases f;obtain⟨AQ,d,p1,_⟩:=I.tuple i;obtain⟨l,c,p2,_⟩:=I.tuple g;refine HT.aaW p1 p2 (λz=>hx (d.Ed.mp z)) (λz=>⟨.ref a,H,I,rfl,q1 (c.Ed.mp z)⟩) (λz=>?_) (by rw[<-d.length,<-c.length];exact e);refine⟨.ref s.heap.objs.size,_,I.laid (t':=s.toks) (o:=.tup (xs++ys)) (λb k q=>zg _ q) (zi _) ?_,rfl,q2 (λw=>z (c.Ed.mpr w)) _ (I.hok.fresh (zi _))⟩;exact⟨by rw[zr];exact e,_,d.append c,oK.new _ _⟩
end
end L2
namespace L2
def EE(n:Nat)(i:Int):Y3 Nat:=if 0<=i then(if i<n then Z i.toNat else O)else if -(n:Int)<=i then Z (i+n).toNat else O
def Fe(xs:Y α)(i:Int):Y3 α:=(EE xs.length i).bind λj=>xs[j]?
theorem VT{i:Int}(h:EE n i=Z j):seqIndex? i n=Z j/\j<n ∧ -(n:Int)<=i/\i<n:=by
 unfold EE at h;by_cases a:0<=i
 ·rw[zk a]at h;by_cases h1:i<n
  ·rw[zk h1]at h;have e:i.toNat=j:=JP h;exact⟨by rw[seqIndex_of a h1,e],by omega,by omega,h1⟩
  ·rw[zv h1]at h;cases h
 ·rw[zv a]at h;by_cases h1 : -(n:Int)<=i
  ·rw[zk h1]at h;have e:(i+n).toNat=j:=JP h;exact⟨by rw[seqIndex_neg () h1,e],by omega,h1,by omega⟩
  ·rw[zv h1]at h;cases h
theorem J6{xs:Y α}{i:Int}{v:α}(h:Fe xs i=Z v):∃j,seqIndex? i xs.length=Z j/\xs[j]?=Z v/\j<xs.length ∧ -(xs.length:Int)<=i/\i<xs.length:=by
 unfold Fe at h;cases e:EE xs.length i with
 |none=>rw[e]at h;cases h
 |some j=>
  rw[e]at h;obtain⟨h1,h2,a,b⟩:=VT e;exact⟨j,h1,h,h2,a,b⟩
def TY(b:Expr):Prop:=∀o i,subscripted b false o i=operate [o,i] (getItem o i)
def DH(X:Cx)(r:R2):Prop:=
 ∀(value a:Expr) (AN:Y (A1×AE)) (s:A2) (σ:St) (H:Hp) (x y:V) (v u:A0) (Q:VK),AU X AN σ H s->B0 x v->B0 y u->r x y H Q →
  subscripted a false v u=operate [v,u] (getItem v u)->A7 (cr X) X.A (subscriptTail value a v u) (EP X AN σ Q) X.xe s
def GL(X:Cx)(id:String)(r:V->Y V->Hp->VK->Prop):Prop:=
 ∀(AN:Y (A1×AE)) (s:A2) (σ:St) (H:Hp) (x:V) (xs:Y V) (v:A0) (us:Y A0) (Q:VK),AU X AN σ H s->B0 x v->AX xs us->r x xs H Q →
  A7 (cr X) X.A (call (.builtin id) (v::us)) (EP X AN σ Q) X.xe s
section
variable{X:Cx}{a b:Expr}{ta tb:TE}
theorem DH.or{r b:R2}(h:DH X r)(h':DH X b):DH X (λx y H Q=>r x y H Q\/b x y H Q):=by
 intro value d AN s σ H x y v u Q I e a q c;rcases q with q|q
 ·exact h value d AN s σ H x y v u Q I e a q c
 ·exact h' value d AN s σ H x y v u Q I e a q c
theorem PY{r:R2}(j:DH X r)(f:PE X a ta)(e:PE X b tb)(hs:TY b):PE X (.Subscript a b pos) (EQ r ta tb):=by
 intro AN s σ H Q I h;exact Subscript_ (GI f e I h λv u c x y H2 g i d q=>j a b AN c σ H2 x y v u Q g i d q (hs _ _))
def L9(K:B8):R2:=λx y H Q=>∃p xs i v,x=.ref p/\y=.int i/\qC K H p xs/\Fe xs i=Z v/\Q v H
def Lu(K:B8):R2:=λx y H Q=>∃p xs i v,x=.ref p/\y=.int i/\tX K H p xs/\Fe xs i=Z v/\Q v H
def LW:R2:=λx y H Q=>∃z i c,x=.str z/\y=.int i/\z.length<=AA/\Fe z.cps.toList i=Z c/\Q (.str ⟨#[c]⟩) H
theorem Xt:DH X (L9 X.K):=by
 intro value B AN s σ H x y v u Q I n g h d;obtain⟨p,xs,i,z,rfl,rfl,k,f,q⟩:=h;cases n;obtain⟨t,rfl⟩:=g;obtain⟨AQ,r,pl,D⟩:=I.list k;obtain⟨j,h1,h2,C,l,m⟩:=J6 f;obtain⟨w,b,o⟩:=r.get h2;have hl:=r.length;have A:=Bf;have c:EP X AN σ Q w s:=⟨z,H,I,o,q⟩;by_cases e:0<=i
 ·have a:i.toNat=j:=by
   rw[seqIndex_of e m]at h1;exact JP h1
  exact item_listR pl.isList e () (by rw[a];simpa using b) c d
 ·have a:(i+(AQ.toArray.size:Int)).toNat=j:=by
   rw[seqIndex_neg () l]at h1;rw[zh,<-hl];exact JP h1
  exact subscriptTail_builtinR (x:=w) pl.isList.typeIs slot_list_getitem.lookup
   (wpAny_getItem_list_neg (Q:=λr s'=>r=w/\EP X AN σ Q r s') pl.isList () (by rw[zh]<;>omega) () (by rw[a];simpa using b) ⟨rfl,c⟩) d
theorem SG:DH X (Lu X.K):=by
 intro value m AN s σ H x y v u Q I g c h f;obtain⟨p,xs,i,z,rfl,rfl,d,b,q⟩:=h;cases g;obtain⟨t,rfl⟩:=c;obtain⟨AQ,r,pl,B⟩:=I.tuple d;obtain⟨j,h1,h2,n,o,A⟩:=J6 b;obtain⟨w,a,k⟩:=r.get h2;have hl:=r.length;have l:=Bf;have e:EP X AN σ Q w s:=⟨z,H,I,k,q⟩;exact subscriptTail_builtinR (x:=w) pl.typeIs slot_tuple_getitem.lookup
  (getItem_tuple (j:=j) (Q:=λr s'=>r=w/\EP X AN σ Q r s') pl () () (by rw[zh,<-hl];exact h1) (by simpa using a) ⟨rfl,e⟩) f
theorem PF:DH X LW:=by
 intro value l AN s σ H x y v u Q I g b h d;obtain⟨z,i,c,rfl,rfl,o,a,q⟩:=h;obtain⟨t,rfl⟩:=g;obtain⟨n,rfl⟩:=b;obtain⟨j,h1,h2,m,e,f⟩:=J6 a;have hl:z.cps.toList.length=z.length:=by simp[Str.length]
 rw[hl]at h1 e f;have k:=Bf;exact tail_any (typeIs_str s z t) slot_str_getitem.lookup (getItem_str (c:=c) (by
  have e1:decide (i < -(2 ^ 63:Int))=false:=Zl ();have e2:decide (i>=2 ^ 63)=false:=Zl ();rw[e1,e2,Bool.or_false]) (by rw[h1];simpa using h2) ⟨.str ⟨#[c]⟩,H,I.tok _,⟨_,rfl⟩,q⟩) d
def SE(K:B8):R2:=λx y H Q=>L9 K x y H Q\/Lu K x y H Q\/LW x y H Q
theorem TR:DH X (SE X.K):=Xt.or (SG.or PF)
theorem AU.lst{σ:St}{H:Hp}{p:A1}{xs:Y V}(I:AU X AN σ H s)(h:H p=Z (.lst xs)):
  ∃(AQ:Y A0) (n:Nat),AX xs AQ/\s.heap.get? p=Z { cls:=.type "list",data:=.seq AQ.toArray n }/\xs.length<=AA:=by
 obtain⟨z,AQ,n,r,e⟩:=I.hok p _ h;exact⟨AQ,n,r,e,z⟩
theorem J7(lo hi:Y3 Int)(n:Nat):(sliceBounds lo hi O n).1=((HT.iV n 0 lo:Nat):Int)/\(sliceBounds lo hi O n).2.1=((HT.iV n n hi:Nat):Int)/\(sliceBounds lo hi O n).2.2=1:=by
 refine⟨?_,?_,rfl⟩
 ·cases lo with
  |none=>simp[sliceBounds,HT.iV]
  |some i=>
   simp only[sliceBounds,HT.iV,hU,show(1:Int)>0 by decide,QO];by_cases h:i<0
   ·simp only[h,QO]<;>omega
   ·simp only[h,qo]<;>omega
 ·cases hi with
  |none=>simp[sliceBounds,HT.iV]
  |some i=>
   simp only[sliceBounds,HT.iV,hU,show(1:Int)>0 by decide,QO];by_cases h:i<0
   ·simp only[h,QO]<;>omega
   ·simp only[h,qo]<;>omega
theorem Hy(AQ:Y A0)(lo hi:Y3 Int):slicePick AQ.toArray lo hi O=((AQ.drop (HT.iV AQ.length 0 lo)).take (HT.iV AQ.length AQ.length hi-HT.iV AQ.length 0 lo)).toArray:=by
 obtain⟨h1,h2,a⟩:=J7 lo hi AQ.toArray.size;unfold slicePick;rw[h1,h2,a];simp only[sliceRange_one,pick_run,zh]<;>rfl
def VS(K:B8):V->Y3 Int->Y3 Int->Hp->VK->Prop:=λx lo hi H Q=>∃a xs,x=.ref a/\qC K H a xs/\∀p,H p=O->Q (.ref p) (BA H p (.lst (Nx xs lo hi)))
theorem WV:FM X (VS X.K):=by
 intro AN s σ H x v k l lo hi sl Q I f e pl g h;obtain⟨a,xs,rfl,hx,q⟩:=h;cases f;obtain⟨AQ,r,c,i⟩:=I.list hx;have d:=r.length;refine⟨"list", _,slot_list_getitem.lookup,c.isList.typeIs,?_⟩;refine wpAny_getItem_list_slice c.isList e pl g .none (by simp) ?_ (by rw[zh]<;>omega);rw[Hy,<-d];refine⟨.ref s.heap.objs.size,_,I.laid (t':=s.toks) (o:=.lst (Nx xs lo hi)) (λb j q=>zg _ q) (zi _) ?_,rfl,q _ (I.hok.fresh (zi _))⟩;exact⟨zo (Cr xs lo hi) i,_,0,(r.drop (HT.iV xs.length 0 lo)).take (HT.iV xs.length xs.length hi-HT.iV xs.length 0 lo),zS _ rfl⟩
def uW:V->Bool
 |.non=>true
 |.bl _=>true
 |.int _=>true
 |.str _=>true
 |_=>false
def DA:V->V->Bool
 |.non,.non=>true
 |.bl a,.bl b=>a==b
 |.bl a,.int b=>(if a then 1 else 0)==b
 |.int a,.bl b=>a==(if b then 1 else 0)
 |.int a,.int b=>a==b
 |.str a,.str b=>a==b
 |_,_=>false
theorem am{y x:V}{v:A0}(e:B0 y u)(c:B0 x v)(fy:uW y=true)(fx:uW x=true):SeqAt.EqAt A s u v (DA y x):=by
 cases y with
 |non=>
  cases e;cases x with
  |non=>cases c;exact SeqAt.EqAt.same _
  |bl b=>cases c;exact SeqAt.EqAt.none_bool b
  |int b=>obtain⟨t,rfl⟩:=c;exact SeqAt.EqAt.none_int b t
  |str b=>obtain⟨t,rfl⟩:=c;exact SeqAt.EqAt.none_str b t
  |_=>exact absurd (show false=true from fx) ZA
 |bl a=>
  cases e;cases x with
  |non=>cases c;exact SeqAt.EqAt.bool_none a
  |bl b=>cases c;exact SeqAt.EqAt.bool_bool a b
  |int b=>obtain⟨t,rfl⟩:=c;exact SeqAt.EqAt.bool_int a b t
  |str b=>obtain⟨t,rfl⟩:=c;exact SeqAt.EqAt.bool_str a b t
  |_=>exact absurd (show false=true from fx) ZA
 |int a=>
  obtain⟨d,rfl⟩:=e;cases x with
  |non=>cases c;exact SeqAt.EqAt.int_none a d
  |bl b=>cases c;exact SeqAt.EqAt.int_bool a d b
  |int b=>obtain⟨t,rfl⟩:=c;exact SeqAt.EqAt.int_int a d b t
  |str b=>obtain⟨t,rfl⟩:=c;exact SeqAt.EqAt.int_str a d b t
  |_=>exact absurd (show false=true from fx) ZA
 |str a=>
  obtain⟨d,rfl⟩:=e;cases x with
  |non=>cases c;exact SeqAt.EqAt.str_none a d
  |bl b=>cases c;exact SeqAt.EqAt.str_bool a d b
  |int b=>obtain⟨t,rfl⟩:=c;exact SeqAt.EqAt.str_int a d b t
  |str b=>obtain⟨t,rfl⟩:=c;exact SeqAt.EqAt.str_str a d b t
  |_=>exact absurd (show false=true from fx) ZA
 |_=>exact absurd (show false=true from fy) ZA
def D9(x:V)(u:A0):Bool:=match u with
 |.none=>DA .non x
 |.bool b=>DA (.bl b) x
 |.int i _=>DA (.int i) x
 |.str z _=>DA (.str z) x
 |_=>false
theorem Xo{x y:V}(r:B0 y u)(f:uW y=true):D9 x u=DA y x:=by
 cases y with
 |non=>cases r;rfl
 |bl b=>cases r;rfl
 |int i=>obtain⟨t,rfl⟩:=r;rfl
 |str z=>obtain⟨t,rfl⟩:=r;rfl
 |_=>exact absurd (show false=true from f) ZA
theorem J8{x:V}:∀{xs:Y V} {us:Y A0},AX xs us->xs.all uW=true->us.any (D9 x)=xs.any λy=>DA y x
 |_,_,.nil,_=>rfl
 |y::xs,u::us,.cons r t,f=>by
  rw[kc,Zs]at f;rw[eG,eG,Xo r f.1,J8 t f.2]
theorem Fg{A:A5}{s:A2}{x:V}{v:A0}(b:B0 x v)(fx:uW x=true):∀{xs:Y V} {us:Y A0},AX xs us->xs.all uW=true->∀u∈us,SeqAt.EqAt A s u v (D9 x u)
 |_,_,.nil,_=>λu a=>by cases a
 |y::xs,u::us,.cons r t,f=>λc a=>by
  rw[kc,Zs]at f;rcases bc.mp a with rfl|a
  ·rw[Xo r f.1];exact am r b f.1 fx
  ·exact Fg b fx t f.2 c a
def Fk(x:V)(xs:Y V):Bool:=xs.any λy=>DA y x
def WH(K:B8)(a:Bool):R2:=λx y H Q=>∃p xs,y=.ref p/\(qC K H p xs\/tX K H p xs)/\uW x=true/\xs.all uW=true/\Q (.bl (if a then !Fk x xs else Fk x xs)) H
theorem Vu:xZ X (AG .In) (WH X.K false):=by
 intro AN s σ H x y v u Q I c d h;obtain⟨p,xs,rfl,a,fx,fs,q⟩:=h;cases d;rcases a with a|a
 ·obtain⟨AQ,r,pl,e⟩:=I.list a;refine SeqAt.in_listAt (D9 x) pl.isList (λw b=>Fg c fx r fs w (by simpa using b)) ⟨.bl _,H,I,rfl,?_⟩;rw[show AQ.toArray.any (D9 x)=AQ.any (D9 x) by simp,J8 r fs];exact q
 ·obtain⟨AQ,r,pl,e⟩:=I.tuple a;refine SeqAt.in_tupleAt (D9 x) pl (λw b=>Fg c fx r fs w (by simpa using b)) ⟨.bl _,H,I,rfl,?_⟩;rw[show AQ.toArray.any (D9 x)=AQ.any (D9 x) by simp,J8 r fs];exact q
theorem J9:gw X (.builtin "len") (λxs H Q=>∃p ys,xs=[.ref p]/\(qC X.K H p ys\/tX X.K H p ys)/\Q (.int ys.length) H):=by
 intro AN s σ H xs us Q I r h;obtain⟨p,ys,rfl,a,q⟩:=h;obtain⟨u,rfl,d⟩:=BE r;cases d;have f:=Bf;rcases a with a|a
 ·obtain⟨AQ,c,pl,e⟩:=I.list a;have b:=c.length;exact Calls.call_len_list pl.isList (by simp only[zh]<;>omega) ⟨.int ys.length,H,I.tok _,⟨s.toks+1,by rw[zh,b]⟩,q⟩
 ·obtain⟨AQ,c,pl,e⟩:=I.tuple a;have b:=c.length;exact len_tuple pl (by simp only[zh]<;>omega) ⟨.int ys.length,H,I.tok _,⟨s.toks+1,by rw[zh,b]⟩,q⟩
theorem Ka:gw X (.builtin "len") (λxs H Q=>∃z,xs=[.str z]/\z.length<=AA/\Q (.int z.length) H):=by
 intro AN s σ H xs us Q I r h;obtain⟨z,rfl,b,q⟩:=h;obtain⟨u,rfl,t,rfl⟩:=BE r;have a:=Bf;exact len_str () ⟨.int z.length,H,I.tok _,⟨_,rfl⟩,q⟩
theorem gw.or{f:A0}{r a:Y V->Hp->VK->Prop}(h:gw X f r)(h':gw X f a):gw X f (λxs H Q=>r xs H Q\/a xs H Q):=by
 intro AN s σ H xs us Q I b q;rcases q with q|q
 ·exact h AN s σ H xs us Q I b q
 ·exact h' AN s σ H xs us Q I b q
theorem Kc:gw X (.type "list") (λxs H Q=>∃p ys,xs=[.ref p]/\(qC X.K H p ys\/tX X.K H p ys)/\∀l,H l=O->Q (.ref l) (BA H l (.lst ys))):=by
 intro AN s σ H xs us Q I r h;obtain⟨p,ys,rfl,d,q⟩:=h;obtain⟨u,rfl,k⟩:=BE r;cases k;have i:∀(AQ:Y A0),AX ys AQ->ys.length<=AA->∀(h':A6) (c':Nat),(∀b o',s.heap.get? b=Z o'->h'.get? b=Z o') →
   h'.get? s.heap.objs.size=Z { cls:=.type "list",dict:=O,data:=.seq AQ.toArray c',slots:=#[] }->EP X AN σ Q (.ref s.heap.objs.size) { s with heap:=h' }:=λAQ a c h' c' kp e=>
  ⟨.ref s.heap.objs.size,_,I.laid (t':=s.toks) kp (zi _) (show jB X.prog X.w _ h' _ (.lst ys) from⟨c,AQ,c',a,e⟩),rfl,q _ (I.hok.fresh (zi _))⟩
 rcases d with d|d
 ·obtain⟨AQ,a,pl,c⟩:=I.list d;have j:=a.length;obtain⟨o,f,g,n,hd⟩:=pl.isList;exact call_list_seq p (.inl Y2) f g hd (λh' c' kp e=>i AQ a c h' c' kp e) (by simp only[zh]<;>omega)
 ·obtain⟨AQ,a,pl,c⟩:=I.tuple d;have j:=a.length;obtain⟨o,f,g,n,hd⟩:=pl;exact call_list_seq p (.inr Y2) f g hd (λh' c' kp e=>i AQ a c h' c' kp e) (by simp only[zh]<;>omega)
theorem Hz:gw X (.type "tuple") (λxs H Q=>∃p ys,xs=[.ref p]/\((qC X.K H p ys/\∀l,H l=O->Q (.ref l) (BA H l (.tup ys)))\/(tX X.K H p ys/\Q (.ref p) H))):=by
 intro AN s σ H xs us Q I r h;obtain⟨p,ys,rfl,h⟩:=h;obtain⟨u,rfl,i⟩:=BE r;cases i;rcases h with⟨c,q⟩|⟨c,q⟩
 ·obtain⟨AQ,a,pl,f⟩:=I.list c;have j:=a.length;refine call_tuple_list pl.isList (λh' kp=>?_) (by simp only[zh]<;>omega);have d:AU X AN σ H { s with heap:=h' }:=I.kept (t':=s.toks) kp;have g:AU X AN σ (BA H h'.objs.size (.tup ys)) { s with heap:=h'.push { cls:=.type "tuple",data:=.seq AQ.toArray } }:=
   d.laid (t':=s.toks) (λb o e=>zg _ e) (zi _) (show jB X.prog X.w _ _ _ (.tup ys) from⟨f,AQ,a,oK.new _ _⟩)
  exact⟨.ref h'.objs.size,_,g,rfl,q _ (d.hok.fresh (zi _))⟩
 ·obtain⟨AQ,a,pl,f⟩:=I.tuple c;exact call_tuple_same pl ⟨.ref p,H,I,rfl,q⟩
def Hk(K:B8)(T:String)(x:V)(H:Hp):Prop:=match x with
 |.str _=>T ="str"
 |.int _=>T ="int"
 |.ref p=>(T ="list" ∧ ∃xs,qC K H p xs)\/(T ="tuple" ∧ ∃o,K.lookup p=Z o/\o.cls=.type "tuple" ∧ o.dict=O) ∨
   (T ="dict" ∧ ((∃AO,H p=Z (.dK AO))\/∃AO,H p=Z (.dT AO)))\/(T ="set" ∧ ∃S n,H p=Z (.set S n))
 |_=>False
theorem Xp{σ:St}{H:Hp}{T:String}{x:V}{v:A0}(I:AU X AN σ H s)(r:B0 x v)(ty:Hk X.K T x H):
  s.TypeIs v T/\∀a,v=.ref a->∃b,s.heap.get? a=Z b/\b.dict=O:=by
 cases x with
 |str z=>
  obtain⟨t,rfl⟩:=r;cases(show T ="str" from ty);exact⟨typeIs_str s z t,λ_ e=>nomatch e⟩
 |int i=>
  obtain⟨t,rfl⟩:=r;cases(show T ="int" from ty);exact⟨typeIs_int s i t,λ_ e=>nomatch e⟩
 |ref p=>
  cases r;rcases ty with⟨rfl,xs,f⟩|⟨rfl,o,hk,d,hd⟩|⟨rfl,hk⟩|⟨rfl,S,n,hk⟩
  ·obtain⟨AQ,_,pl,_⟩:=I.list f;refine⟨pl.isList.typeIs,λa e=>?_⟩;cases e;obtain⟨o,n,e,c,hd,_⟩:=pl;exact⟨o,e,hd⟩
  ·refine⟨⟨o,I.kIn p o hk,d⟩,λa e=>?_⟩;cases e;exact⟨o,I.kIn _ o hk,hd⟩
  ·have z:∃o,s.heap.get? p=Z o/\o.ExactDict:=by
    rcases hk with⟨AO,hk⟩|⟨AO,hk⟩
    ·obtain⟨_,_,_,_,o,_,_,e,ex,_⟩:=I.hok p _ hk;exact⟨o,e,ex⟩
    ·obtain⟨_,_,_,_,o,_,_,e,ex,_⟩:=I.hok p _ hk;exact⟨o,e,ex⟩
   obtain⟨o,e,ex⟩:=z;refine⟨⟨o,e,ex.1⟩,λa e2=>?_⟩;cases e2;exact⟨o,e,ex.2.1⟩
  ·obtain⟨o,_,_,_,e,ex,_⟩:=I.hok p _ hk;refine⟨⟨o,e,ex.1⟩,λa e2=>?_⟩;cases e2;exact⟨o,e,ex.2.1⟩
 |_=>exact False.elim ty
def bX(K:B8)(T:String)(r:V->Y V->Hp->VK->Prop)(to:TE):TE:=λσ H Q=>to σ H λx H1=>Hk K T x H1/\r x [] H1 Q
def bq(K:B8)(T:String)(r:V->Y V->Hp->VK->Prop)(to:TE)(t:TA):TE:=λσ H Q=>to σ H λx H1=>Hk K T x H1/\t σ H1 λxs H2=>r x xs H2 Q
variable{o:Expr}{to:TE}{t:TA}{T id:String}{r:V->Y V->Hp->VK->Prop}
theorem Ya(pa:PlainAttrs T)(e:Slot T name id)(c:typeOf (.builtin id)=pure (.type "method_descriptor"))(f:GL X id r)(a:PE X o to)
  (d:attributeBase o name X.env (eval o X.env)=eval o X.env:=by rfl) (b:(apos.endLine==cpos.line)=true:=by rfl):PE X (.Call (.Attribute o name apos) [] [] cpos) (bX X.K T r to):=by
 intro AN s σ H Q I h;refine wpAny_Call_method0_late d b (jF (a AN s σ H _ I h) λv s1 ⟨x,H1,I1,r1,ty,q1⟩=>?_);obtain⟨h1,h2⟩:=Xp I1 r1 ty;exact⟨T,id,pa,e,c,h1,h2,Calls.callWith_builtin Y2 (PySem.evalArgs_none (f AN s1 σ H1 x [] v [] Q I1 r1 .nil q1))⟩
theorem Xq(pa:PlainAttrs T)(i:Slot T name id)(f:typeOf (.builtin id)=pure (.type "method_descriptor"))(k:GL X id r)(b:PE X o to)(j:PA X (e::es) t)
  (g:attributeBase o name X.env (eval o X.env)=eval o X.env:=by rfl)
  (l:((AD cpos (A9 (e::es) X.env)).all (λx=>!x.1)&&(backToKw cpos (keywordEach [] X.env)).all (λx=>x.1.isSome)
   && decide ((e::es).length+([]:Y AC).length+(if([]:Y AC).isEmpty then 0 else 1)<30))=true:=by rfl)
  (c:(apos.endLine==cpos.line)=true:=by rfl) (hs:A9 (e::es) X.env=(false,eval e X.env)::A9 es X.env:=by rfl) (d:(AD cpos (A9 es X.env)).any (·.1)=false:=by rfl):
  PE X (.Call (.Attribute o name apos) (e::es) [] cpos) (bq X.K T r to t):=by
 intro AN s σ H Q I h;refine wpAny_Call_method_late g l c Y2 (jF (b AN s σ H _ I h) λv s1 ⟨x,H1,I1,r1,ty,q1⟩=>?_);obtain⟨h1,h2⟩:=Xp I1 r1 ty;refine⟨T,id,pa,i,f,h1,h2,?_⟩;have a:=j cpos AN s1 σ H1 _ I1 q1;rw[hs]at a ⊢;refine Calls.callWith_builtin (by show(false||(AD cpos (A9 es X.env)).any (·.1))=false;rw[d]<;>rfl) (Calls.evalArgs_plain ?_);exact jF a λus s2 ⟨vs,H2,I2,r2,q2⟩=>k AN s2 σ H2 x vs v us Q I2 r1 r2 q2
end
end L2
namespace L2
def Hm(X:Cx)(id:String)(r:V->Y V->Hp->VK->Prop):Prop:=
 ∀(AN:Y (A1×AE)) (s:A2) (σ:St) (H:Hp) (x:V) (xs:Y V) (v:A0) (us:Y A0) (Q:VK),AU X AN σ H s->B0 x v->AX xs us->r x xs H Q →
  A7 (cr X) X.A (call (.builtin id) (v::us)) (EP X AN σ Q) X.xe s
theorem AX.one:∀{x:V} {us:Y A0},AX [x] us->∃u,us=[u]/\B0 x u:=λh=>by
 cases h with
 |cons r t=>cases t;exact⟨_,rfl,r⟩
theorem AX.zero:∀{us:Y A0},AX [] us->us=[]
 |_,.nil=>rfl
theorem AX.reverse{xs:Y V}(h:AX xs us):AX xs.reverse us.reverse:=by
 induction h with
 |nil=>exact .nil
 |cons r t a=>rw[kn,kn];exact AX.append a (.cons r .nil)
section
variable{X:Cx}{σ:St}{H:Hp}{b:A1}{xs ys zs:Y V}
theorem AU.Rp{its':Y A0}{f:Array A0->Array A0}{t':Nat}(I:AU X AN σ H s)(a:H l=Z (.lst xs))(e:s.heap.get? l=Z { cls:=.type "list",data:=.seq AQ.toArray n })(g:f AQ.toArray=its'.toArray)(h:AX ys its')(d:ys.length<=AA):
  AU X AN σ (BA H l (.lst ys)) { s with heap:=s.heap.update l (Obj.mapSeq f),toks:=t' }:=by
 have q:=PySem.IsL.update e f;rw[g]at q;refine I.write (x:=l) (e:=l) (by rw[a];exact trivial) (.inl Y2) (λi u b c=>(Heap.get?_update_other s.heap (Obj.mapSeq f) (kX b)).trans c) ⟨_,q⟩ ?_;exact⟨d,its',_,h,q⟩
theorem AU.Xr(I:AU X AN σ H s)(a:H l=Z (.lst xs)):xs.length<=AA/\∃(AQ:Y A0) (n:Nat),AX xs AQ/\xs.length=AQ.length/\s.heap.get? l=Z { cls:=.type "list",data:=.seq AQ.toArray n }:=by
 obtain⟨z,AQ,n,r,e⟩:=I.hok l _ a;exact⟨z,AQ,n,r,r.length,e⟩
end
section
variable{X:Cx}
def NH:V->Y V->Hp->VK->Prop:=λx vs H Q=>∃l xs y,x=.ref l/\vs=[y]/\H l=Z (.lst xs)/\xs.length<AA/\Q .non (BA H l (.lst (xs++[y])))
theorem Jb:Hm X "list.append" NH:=by
 intro AN s σ H x vs v us Q I c b h;obtain⟨l,xs,y,rfl,rfl,a,f,q⟩:=h;cases c;obtain⟨u,rfl,d⟩:=b.one;obtain⟨z,AQ,n,r,hl,e⟩:=I.Xr a;refine call_meets F.slot_list_append ⟨_,e,rfl⟩ F.entry_list_append (F.args_list_append_2 _ _) (PySem.list_append l AQ.toArray n u (by rw[zh];omega)) ⟨e,?_⟩;refine⟨.non,_,I.Rp (its':=AQ++[u]) a e (by simp) (r.append (.cons d .nil)) ?_,rfl,q⟩;rw[zr,gg];omega
def Xu:V->Y V->Hp->VK->Prop:=λx vs H Q=>∃l xs,x=.ref l/\vs=[]/\H l=Z (.lst xs)/\Q .non (BA H l (.lst xs.reverse))
theorem Rq:Hm X "list.reverse" Xu:=by
 intro AN s σ H x vs v us Q I b c h;obtain⟨l,xs,rfl,rfl,a,q⟩:=h;cases b;have d:=c.zero;subst d;obtain⟨z,AQ,n,r,hl,e⟩:=I.Xr a;refine call_meets F.slot_list_reverse ⟨_,e,rfl⟩ F.entry_list_reverse (F.args_list_reverse_1 _) (AutoSeq1.list_reverse_list_0 l AQ.toArray n (by rw[zh];omega)) ⟨e,?_⟩;refine⟨.non,_,I.Rp (its':=AQ.reverse) a e (by simp) r.reverse ?_,rfl,q⟩;rw[KM];omega
end
section
variable{X:Cx}
end
end L2
namespace L2
section
variable [DecidableEq κ]
end
theorem VZ{k:AY}(r:B0 (kV k) u):(lB P w).is k u=true:=by
 cases k with
 |inl i=>obtain⟨t,e⟩:=(show ∃t,u=Value.int i t from r);subst e;exact Np P w i t
 |inr x=>obtain⟨t,e⟩:=(show ∃t,u=Value.str x t from r);subst e;exact Nq P w x t
section
variable{H:Hp}
theorem SU{u:HO}(ok:Cq P w H h)(e:Rd H a u):jB P w H h a u:=e.ok ok
theorem Jc{AO:Y (AY×V)}(ok:Cq P w H h)(e:Rd H a (.dK AO)):AO.length<=AA/\(a==sysModules)=false/\∃vs,KV AO vs/\h.DictOf (lB P w) a vs:=
 show jB P w H h a (.dK AO) from SU ok e
end
section
variable{X:Cx}{σ:St}{H:Hp}{y v:V}{r:A0}{o:Y3 V}
end
section
variable{X:Cx}{σ:St}{H:Hp}{AO:Y (AY×V)}{k:AY}
end
section
variable{X:Cx}{o i value:Expr}{pos':Pos}{td ty tv:TE}
end
section
variable{X:Cx}
end
structure M1 (X:Cx) (o:Expr) (m:Str) (apos:Pos) (e:Expr) (cpos:Pos):Prop where
 base:attributeBase o m X.env (eval o X.env)=eval o X.env
 few:((backTo cpos (starEach [e] X.env)).all (λx=>!x.1)&&(backToKw cpos (keywordEach [] X.env)).all (λx=>x.1.isSome)
  && decide (([e]:List Expr).length+([]:List Keyword).length+(if([]:List Keyword).isEmpty then 0 else 1)<30))=true
 line:(apos.endLine==cpos.line)=true
 trees:backTo cpos (starEach [e] X.env)=[(false,eval e X.env)]
structure M2 (X:Cx) (o:Expr) (m:Str) (apos:Pos) (e f:Expr) (cpos:Pos):Prop where
 base:attributeBase o m X.env (eval o X.env)=eval o X.env
 few:((backTo cpos (starEach [e,f] X.env)).all (λx=>!x.1)&&(backToKw cpos (keywordEach [] X.env)).all (λx=>x.1.isSome)
  && decide (([e,f]:List Expr).length+([]:List Keyword).length+(if([]:List Keyword).isEmpty then 0 else 1)<30))=true
 line:(apos.endLine==cpos.line)=true
 trees:backTo cpos (starEach [e,f] X.env)=[(false,eval e X.env),(false,eval f X.env)]
section
variable{X:Cx}{σ:St}{H:Hp}{y d:V}{r:A0}{o:Y3 V}
end
section
variable{X:Cx}{o f:Expr}{td ty tx:TE}
end
section
variable{X:Cx}{σ:St}{H:Hp}{AO:Y (AY×V)}
end
section
variable{X:Cx}{σ:St}{H:Hp}{y:V}
end
end L2
namespace Att
open PySem PySem.W PySem.Calls PyProof.Rows
theorem Dw{P:Params}:∀(c:Y Int) (vs:Y A0),WellAll P h vs (c.map WData.int)->IntsAre vs c:=by
 intro c
 induction c with
 |nil=>
  intro vs w;rw[kF]at w;cases w;exact .nil
 |cons n c d=>
  intro vs w;rw[zw]at w;cases w with
  |cons a b=>
   cases a;exact .cons _ _ (d _ b)
theorem Vv{l:OpenLaw}(j:l.most=Z n){P:Params}{args:Y WData}{f:Y A0}(i:l.row.toRowW.claim.pre args=true)(o:WellAll P h f args):
  ∃a vs b,f=[Value.ref a]/\args=[WData.list (b.map WData.int)]/\h.get? a=Z { cls:=.type "list",data:=.seq vs.toArray }/\IntsAre vs b/\b.length<=n:=by
 have s:WShape.hasAll [] args [.list .int]=true:=(pre_splitW i).1;have g:l.pre.holds [] { args:=args }=true:=(pre_splitW i).2;obtain⟨d,r,rfl,h1,h2⟩:=hasAllW_cons s;obtain rfl:=hasAllW_nil h2;obtain⟨xs,rfl,v⟩:=hasW_list h1;obtain⟨b,rfl⟩:=items_int v;have p:b.length<=n:=by
  unfold OpenLaw.pre at g;have e:(WTm.not (.lt (.lit (.int (n:Int))) (.len (.arg 0)))).holds [] { args:=[.list (b.map .int)] }=true:=by
   have e:=(holds_andW g).1;rw[j]at e;exact e
  have c:=condW_of e (w_not (w_lt w_lit (w_len_list (w_arg Y2))));rw[ze]at c;refine eW λq=>?_;have u:(n:Int)<((b.length:Nat):Int):=by omega
  first
   |(rw[zz u]at c;exact absurd c ())
   |(simp at c;omega)
 cases o with
 |cons t w=>
  cases w;cases t with
  |list k m=>exact⟨_,_,b,rfl,rfl,k,Dw b _ m,p⟩
theorem Vw(l:OpenLaw)(args:Y WData):l.row.toRowW.claim.post args (.bool true) args=true:=
 postW_of (r:=l.row.toRowW) (X:=(true==true))
  (show WShape.has [] (.bool true) .bool=true by first|rfl|decide|simp[WShape.has,WShape.arms,WShape.armsAll])
  (show(WTm.eq .res (.lit (.bool true))).value [] { args:=args,res:=Z (.bool true),after:=args }=Z (.bool (true==true)) from w_eq_bool (w_res Y2) w_lit) rfl
theorem Ny{l:OpenLaw}{q:A3}{loose:At}{d:DefRec}(C:l.most=Z n)(s:d.params.defaults=[])(call:∀(w:A4) (h b:A2) (mg i:AJ->Y3 A0) (fa:A1) (o:AE) (pm c g:A0) (a:A1) (vs:List A0) (e:List Int),
   Ground q loose [] XP w h mg i b.heap->YP w b.heap →
   b.heap.get? fa=Z o->o.data=.func (docDef d.name d.params d.body d.scope pm c g)->b.heap.CodeRec c d.name->mg d.name=Z (.ref fa) →
   b.heap.get? a=Z { cls:=.type "list",data:=.seq vs.toArray }->IntsAre vs e->e.length<=n->b.gens=#[] →
   AF (A8 l.prog w) callerA (.call (.ref fa) ⟨[.ref a],[]⟩) (λr s'=>r=.ok (.ret (.bool true))/\OldK b.heap s'.heap/\s'.os=b.os/\AllBare s'.gens) b):
  WalkO q loose XP YP l.row.toRowW d [] (λf vs=>PySem.call f vs):=by
 intro w h b mg i G Y fa o pm c g k kV y hd D j p v K J as x L H m I;obtain rfl:k=.none:=Dflts.none j s;obtain rfl:kV=.none:=Dflts.noKw j;obtain⟨a,vs,e,rfl,rfl,A,t,z⟩:=Vv C x m;refine enter_call (codeAny_mono (call w h b mg i fa o pm c g a vs e G Y y (fd_plain hd) D p A t z v) λr s' u=>?_);obtain⟨rfl,h2,E,B⟩:=u;exact⟨.inl ⟨.bool true,.bool true,[],rfl,λ_=>Y2,.bool true,Vw l _,λ_=>⟨List.Pairwise.nil,λ_ F=>(nomatch F)⟩⟩,h2,E,B⟩
section
variable{K:Frag}
end
end Att
namespace L2
theorem wW:∀{vs:Y A0} {a:Y Int},IntsAre vs a->AX (a.map V.int) vs
 |_,_,.nil=>.nil
 |_,_,.cons n t h=>.cons ⟨t,rfl⟩ (wW h)
def D3(H:Hp):Prop:=∀b,H b=O\/(∃o xs,H b=Z (.oJ o (.lst xs)))\/∃ps,H b=Z (.JV ps)
structure Xv (K:B8) (h:Heap) (TL:List (Addr×Array Value)):Prop where
 all:∀P q,GO K P q->∃ps,TL.lookup P=some ps/\tq ps=q/\0<ps.size
 ok:∀P ps,TL.lookup P=some ps->K.lookup P=none/\h.get? P=some { cls:=.none,data:=.fields #[] }/\isCodeTable h P/\tr ps=#[]
theorem Xw{D:AJ->Y3 A0}{CX:W0}{fa:A1}{sp:Sp}{c:A2}{vs:Y A0}{A:Y Int}{f:Y (A1×Array A0)}(Q:K.In c.heap)(M:c.heap.Ns mainGlobals mg)(i:c.heap.Ns builtinsNs D)(a1:∀x:AJ,x ≠ "__name__" → D x=AH x)(c0:c.heap.NoLimit)(a7:∃p j,mg "__builtins__"=Z (.ref p)/\p≠builtinsNs/\c.heap.get? p=Z j/\j.cls=.type "module" ∧ j.dict=Z builtinsNs/\j.data=.plain)(hg:c.gens=#[])(t:c.heap.get? a=Z { cls:=.type "list",data:=.seq vs.toArray })(hi:IntsAre vs A)(hl:A.length<=AA)(hr:jG k callerA)(F:∀base:A6,K.In base->base.Ns mainGlobals mg->yD P w K mg base CX k fa fd [x] sp)(a5:∀(s:A2) (u:A0),BindsTo s fd ⟨[u],[]⟩ [(x,u)])(a6:∀H:Hp,D3 H->qC K H a (A.map V.int)->sp [.ref a] H (λv _=>v=.bl true) λ_ _ _=>False)(c4:∀H e s',CX [] H c (λ_ _ _=>False) e s'->False)(T:Xv K c.heap f):
  AF (A8 P w) callerA (.call (.ref fa) ⟨[.ref a],[]⟩) (λr s'=>r=.ok (.ret (.bool true))/\OldK c.heap s'.heap/\s'.os=c.os/\AllBare s'.gens) c:=by
 have N:=wW hi;have b0:=hi.length;have S:f.lookup a=O:=by
  cases e:f.lookup a with
  |none=>rfl
  |some ps=>
   have q:=(T.ok a ps e).2.1;rw[t]at q;cases q
 have tok:∀(H:Hp) (b:A1) (ps:Array A0),f.lookup b=Z ps->jB P w H c.heap b (.JV ps):=λH b ps e=>by
  obtain⟨_,g,_,z⟩:=T.ok b ps e;refine⟨#[],by rw[z];exact g,?_,λpos cv q=>?_⟩
  ·rw[z];simp[TriplesOk]
  ·rw[z]at q;cases q
 have J:∀H:Hp,D3 H->qC K H a (A.map V.int)->Cq P w H c.heap->(∀b,H b≠O->b=a\/∃ps,f.lookup b=Z ps)->(∀b ps,f.lookup b=Z ps->H b=Z (.JV ps))->(H a≠O->K.lookup a=O) →
   AF (A8 P w) callerA (.call (.ref fa) ⟨[.ref a],[]⟩) (λr s'=>r=.ok (.ret (.bool true))/\OldK c.heap s'.heap/\s'.os=c.os/\AllBare s'.gens) c:=by
  intro H L hS E B c5 hK;have G:∀{b:A1} {o:AE},c.heap.get? b=Z o->H b=O->(JW c.heap H).get? b=Z o:=λe n=>W9 e n;have a3:∀{b:A1} {o:AE} {es:Array DictEntry} {ep:Nat},c.heap.get? b=Z o->o.data=.dict es ep->H b=O:=λ{b o es ep} e d=>by
   cases q:H b with
   |none=>rfl
   |some u=>
    rcases B b (by rw[q];simp)with e'|⟨ps,e'⟩
    ·subst e';rw[t]at e;cases e;have d':Data.seq vs.toArray _=Data.dict es ep:=d;cases d'
    ·rw[(T.ok b ps e').2.1]at e;cases e;cases d
  have C:∀{b:A1} {m:AJ->Y3 A0},c.heap.Ns b m->(JW c.heap H).Ns b m:=λ{b m} ⟨o,es,ep,e,d,r⟩=>⟨o,es,ep,G e (a3 e d),d,r⟩;have U:K.In (JW c.heap H):=λb o e=>G (Q b o e) (by
   cases q:H b with
   |none=>rfl
   |some u=>
    rcases B b (by rw[q];simp)with e'|⟨ps,e'⟩
    ·subst e';rw[hK (by rw[q];simp)]at e;cases e
    ·rw[(T.ok b ps e').1]at e;cases e)
  have hM:Mod K mg (JW c.heap H):=⟨U,C M,⟨D,C i,a1⟩,let ⟨mc,h1,h2⟩:=c0;⟨mc,C h1,h2⟩,let ⟨p,j,b1,b2,b3,b4,b5,b6⟩:=a7;⟨p,j,b1,b2,G b3 (by
   cases q:H p with
   |none=>rfl
   |some u=>
    rcases B p (by rw[q];simp)with e'|⟨ps,e'⟩
    ·subst e';rw[t]at b3;cases b3;injection b4 with z;exact absurd z ()
    ·rw[(T.ok p ps e').2.1]at b3;cases b3;cases b4),b4,b5,b6⟩⟩
  have e0:F3 P w K mg (JW c.heap H) callerA [] c H:=⟨rfl,hM,λb o e=>OA e,KO (Vk _ _),trivial,λb i=>absurd (show b∈([]:Y A1) from i) (by simp),E,.of_eq hg,λP q k=>by
   obtain⟨ps,l,r⟩:=T.all P q k;exact⟨ps,c5 P ps l,r⟩⟩
  refine codeAny_mono ((F _ U (C M)).run callerA [] c H ⟨[.ref a],[]⟩ [.ref a] [.ref a] _ _ hr e0 (a5 c (.ref a)) (.cons Y2 .nil) (a6 H L hS)) λr s' h=>?_;cases r with
  |error e=>exact(c4 H e s' h).elim
  |ok fl=>
   cases fl with
   |next=>exact False.elim h
   |brk=>exact False.elim h
   |cont=>exact False.elim h
   |ret u=>
    obtain⟨v,H',os,a4,un,I,r',q⟩:=h;have q':v=.bl true:=q;subst q';obtain rfl:u=Value.bool true:=r';have W:∀b o,c.heap.get? b=Z o->s'.heap.get? b=Z o\/(isCodeTable c.heap b/\o.cls=.none/\∃vs X,o.data=.fields vs/\s'.heap.get? b=Z { o with data:=.fields (vs++X) }):=λb o e=>by
     cases q:H b with
     |none=>exact .inl (un.keep b o e q (by intro z;exact absurd (show b∈([]:Y A1) from z) (by simp)) (by simp))
     |some u=>
      rcases L b with z|⟨j,xs,z⟩|⟨ps,z⟩
      ·rw[q]at z;cases z
      ·have z2:=un.Du b j _ z;obtain⟨e1,_⟩:=E b _ z;obtain⟨e2,_⟩:=I b _ z2;rw[e]at e1;cases e1;exact .inl e2
      ·rcases B b (by rw[q];simp)with e'|⟨a2,e'⟩
       ·subst e';obtain⟨X,g,_⟩:=E b _ z;rw[t]at g;cases g
       ·obtain⟨_,g,ct,_⟩:=T.ok b a2 e';rw[e]at g;cases g;obtain⟨m1,z2⟩:=un.yx b ps z;obtain⟨m2,g2,_⟩:=I b _ z2;exact .inr ⟨ct,rfl,#[],_,rfl,by rw[g2,Array.empty_append]⟩
    refine⟨rfl,⟨λb o e=>(W b o e).imp id .inl,λb o e=>?_⟩,os,a4⟩;rcases W b o e with z|⟨_,_,_,_,_,z⟩<;>exact⟨_,z⟩
 cases hk:K.lookup a with
 |some o=>
  have e:=Q a o hk;rw[t]at e;cases e;refine J (λb=>(f.lookup b).map .JV) (λb=>?_) (.inr ⟨_,vs.toArray,_,hk,rfl,rfl,rfl,by rw[zh,b0];exact hl,by simpa using N⟩) (λb u z=>?_) (λb z=>?_) (λb ps e=>by show(f.lookup b).map _=_;rw[e];rfl) λz=>absurd (by show(f.lookup a).map _=O;rw[S];rfl) z
  ·cases e:f.lookup b with
   |none=>exact .inl (by show(f.lookup b).map HO.JV=O;rw[e];rfl)
   |some ps=>exact .inr (.inr ⟨ps,by show(f.lookup b).map HO.JV=_;rw[e];rfl⟩)
  ·have z:(f.lookup b).map HO.JV=Z u:=z;cases e:f.lookup b with
   |none=>rw[e]at z;cases z
   |some ps=>rw[e]at z;cases z;exact tok _ b ps e
  ·cases e:f.lookup b with
   |none=>exact absurd (by show(f.lookup b).map HO.JV=O;rw[e];rfl) z
   |some ps=>exact .inr ⟨ps,rfl⟩
 |none=>
  refine J (λb=>if b=a then Z (.oJ { cls:=.type "list",data:=.seq vs.toArray } (.lst (A.map V.int)))else(f.lookup b).map .JV) (λb=>?_) (.inl (.inr ⟨{ cls:=.type "list",data:=.seq vs.toArray },zk rfl⟩)) (λb u z=>?_) (λb z=>?_) (λb ps e=>?_) λ_=>hk
  ·by_cases i:b=a
   ·exact .inr (.inl ⟨_,_,zk i⟩)
   ·cases e:f.lookup b with
    |none=>exact .inl ((zv i).trans (by rw[e];rfl))
    |some ps=>exact .inr (.inr ⟨ps,(zv i).trans (by rw[e];rfl)⟩)
  ·by_cases i:b=a
   ·have y:=(zk i).symm.trans z;cases y;subst i;exact⟨t,by rw[ze];exact hl,vs,_,N,t⟩
   ·have y:=(zv i).symm.trans z;cases e:f.lookup b with
    |none=>rw[e]at y;cases y
    |some ps=>rw[e]at y;cases y;exact tok _ b ps e
  ·by_cases i:b=a
   ·exact .inl i
   ·cases e:f.lookup b with
    |none=>exact absurd ((zv i).trans (by rw[e];rfl)) z
    |some ps=>exact .inr ⟨ps,rfl⟩
  ·have i:b≠a:=λz=>by rw[z,S]at e;cases e
   exact(zv i).trans (by rw[e];rfl)
end L2
namespace L2
theorem Mk{l:PySem.W.OpenLaw}{q:A3}{loose:At}{d:DefRec}{K:Params->B8}{CX:A4->W0}{sp:A4->Sp}(Q:l.most=Z n)(y:n<=AA)(z:d.params.defaults=[])(hr:jG k callerA)(X:∀(w:A4) (h:A6),YP w h->(K w.params).In h)(F:∀(w:A4) (mg:AJ->Y3 A0) (fa:A1) (h:A6),(K w.params).In h->h.Ns mainGlobals mg->mg d.name=Z (.ref fa) →
   ∃fd:FuncData,(∀(s:A2) (u:A0),BindsTo s fd ⟨[u],[]⟩ [(x,u)]) ∧
    ∀base:A6,(K w.params).In base->base.Ns mainGlobals mg->yD l.prog w (K w.params) mg base (CX w) k fa fd [x] (sp w))(N:∀(w:A4) (H:Hp) (a:A1) (c:List Int),c.length<=n->D3 H->qC (K w.params) H a (c.map V.int)->sp w [.ref a] H (λv _=>v=.bl true) λ_ _ _=>False)(U:∀(w:A4) (H:Hp) (s:A2) (e:A0) (s':A2),CX w [] H s (λ_ _ _=>False) e s'->False)(D:∀(w:A4) (h:A6) (mg p:AJ->Y3 A0) (B:ExcName->Y3 A0) (C:At),(K w.params).In h->Top q C B mg p h->∃j,Xv (K w.params) h j):
  PySem.W.WalkO q loose XP YP l.row.toRowW d [] (λf vs=>PySem.call f vs):=by
 refine Att.Ny Q z λw a2 M mg p fa o pm cd a1 a vs c G Y ho hd a3 t P A m L=>?_;have i:=X w _ Y;obtain⟨fd,E,I⟩:=F w mg fa _ i G.T.g t;obtain⟨j,tl⟩:=D w _ _ _ _ _ i G.T;exact Xw i G.T.g G.T.b G.T.builtins G.T.nolimit G.T.bmain L P A (zo m y) hr I E (λH J S=>N w H a c m J S) (λH e s'=>U w H M e s') tl
theorem Xx{l:PySem.W.OpenLaw}{q:A3}{loose:At}{d:DefRec}{K:Params->B8}{CX:W0}{sp:B8->Sp}(c:l.most=Z n)(p:n<=AA)(t:d.params.defaults=[])(C:jG k callerA)(z:∀(w:A4) (h:A6),YP w h->(K w.params).In h)(F:∀(w:A4) (mg:AJ->Y3 A0) (fa:A1) (h:A6),(K w.params).In h->h.Ns mainGlobals mg->mg d.name=Z (.ref fa) →
   ∃fd:FuncData,(∀(s:A2) (u:A0),BindsTo s fd ⟨[u],[]⟩ [(x,u)]) ∧
    ∀base:A6,(K w.params).In base->base.Ns mainGlobals mg->yD l.prog w (K w.params) mg base CX k fa fd [x] (sp (K w.params)))(o:∀(K:B8) (H:Hp) (a:A1) (b:Y Int),b.length<=n->D3 H->qC K H a (b.map V.int)->sp K [.ref a] H (λv _=>v=.bl true) λ_ _ _=>False)(j:∀(H:Hp) (s:A2) (e:A0) (s':A2),CX [] H s (λ_ _ _=>False) e s'->False)(g:∀(w:A4) (h:A6) (mg i:AJ->Y3 A0) (A:ExcName->Y3 A0) (B:At),(K w.params).In h->Top q B A mg i h->∃m,Xv (K w.params) h m):
  PySem.W.WalkO q loose XP YP l.row.toRowW d [] (λf vs=>PySem.call f vs):=
 Mk (K:=K) (CX:=λ_=>CX) (sp:=λw=>sp (K w.params)) c p t C z F (λw H a b h1 h2 y=>o (K w.params) H a b h1 h2 y) (λ_ H s e s'=>j H s e s') g
end L2
namespace L2
def uf(s:AB):Arguments:=match s with
 |.FunctionDef _ a _ _ _ _ _ _ _ _=>a
 |_=>{ posonlyargs:=[],args:=[],vararg:=O,kwonlyargs:=[],kw_defaults:=[],kwarg:=O,defaults:=[] }
def jk(s:AB):Y AB:=match s with
 |.FunctionDef _ _ b _ _ _ _ _ _ _=>b
 |_=>[]
def aK(s:AB):Scope:=match s with
 |.FunctionDef _ _ _ _ _ _ a _ _ _=>a
 |_=>{ kind:=.function,names:=[],isGenerator:=false,isCoroutine:=false }
abbrev Nz:W0:=λ_ _ _ _ _ _=>False
abbrev E0:XK:=λ_ _ _=>False
theorem ac{X:Cx}:CI Nz X E0:=λ_ _ _ _ _ _ _ h=>h.elim
structure D4 (K:B8) (x qual:Str) (st:Stmt) (f:Addr) (fd:FuncData):Prop where
 ex:∃(oc:Value) (od:Option Addr) (kV doc pm:Value) (an:Option Addr) (cdv ct:Value) (osl:Array (Option Value)),
  fd=fnOf x qual (uf st) (jk st) (aK st) .none kV doc pm an cdv ct/\K.lookup f=some ⟨oc,od,.func fd,osl⟩/\codeIn K cdv qual=true
 kp:keepIn K (.ref f)=true
theorem D4.ok{f:A1}{sp:Sp}(F:D4 K x qual st f fd)(S:bD N ps (aK st))(len:∀vs H Q E,sp vs H Q E->vs.length=ps.length)(d:∀(a:A0) (A:A5) (outer:Y Env) (s:A2) (H:Hp) (vs:Y V) (Q:VK) (E:XK),jG k (A.deeper (AK qual (aK st) s.heap.objs.size f a))->sp vs H Q E →
   ∃t,Rc (EY Nz P w K mg base N qual (aK st) f a A outer s H E).nox (jk st) t/\t { nx:=λ_ H'=>Q .non H',rt:=Q } (start N vs) H):yD P w K mg base Nz (k+1) f fd ps sp:=by
 obtain⟨i,l,kV,m,pm,j,a,ct,osl,rfl,e,b⟩:=F.ex;refine LA e b S len λA outer s H vs Q E g c=>?_;obtain⟨t,h,q⟩:=d a A outer s H vs Q E g c;exact⟨t,h.nox,q⟩
theorem D4.binds{f:A1}(F:D4 K x qual st f fd)(h:∀(kV b pm:A0) (a:Y3 A1) (c ct:A0) (us:Y A0),us.length=ps.length->bindArgs (fnOf x qual (uf st) (jk st) (aK st) .none kV b pm a c ct) ⟨us,[]⟩=pure (ps.zip us)):Bi K fd ps []:=by
 obtain⟨e,g,kV,b,pm,a,c,ct,osl,rfl,i,d⟩:=F.ex;exact .all (h kV b pm a c ct)
theorem Xy{f:A1}{e:A0}{g b:Y3 A1}{kV d pm a ct:A0}(l:K.lookup f=Z ⟨e,g,.func (fnOf x qual (uf st) (jk st) (aK st) .none kV d pm b a ct),osl⟩)(c:codeIn K a qual=true)(k:keepIn K (.ref f)=true):D4 K x qual st f (fnOf x qual (uf st) (jk st) (aK st) .none kV d pm b a ct):=⟨⟨e,g,kV,d,pm,b,a,ct,osl,rfl,l,c⟩,k⟩
section
variable{X:Cx}
theorem pv(i:Nat)(b:X.N[i]?=Z x:=by rfl)(c:WY X.env.scope x:=by first|exact ku rfl|exact Jn (ku Y2)|exact Jn (Jn Y2))(hd:ad x:=by decide)(a:(x==("__classdict__":AJ))=false:=by decide):PE X (.Name x pos) (LU i):=yC b c hd a
end
def AV(H H':Hp):Prop:=∀b o,H b=Z o->H' b=Z o
theorem AV.refl(H:Hp):AV H H:=λ_ _ h=>h
theorem AV.trans{H H1 H2:Hp}(a:AV H H1)(b:AV H1 H2):AV H H2:=λc o h=>b c o (a c o h)
theorem AV.free{H H':Hp}(e:AV H H')(h:H' l=Option.none):H l=Option.none:=by
 cases q:H l with
 |none=>rfl
 |some o=>
  rw[e l o q]at h;cases h
theorem AV.seq{H H':Hp}{xs:Y V}(e:AV H H')(h:qC K H a xs):qC K H' a xs:=by
 rcases h with (h|⟨o,h⟩)|h
 ·exact .inl (.inl (e _ _ h))
 ·exact .inl (.inr ⟨o,e _ _ h⟩)
 ·exact .inr h
end L2
variable{xs:Y L2.V}{H:L2.Hp}{o:L2.HO}{X:L2.Cx}{σ:L2.St}{ta te:L2.TE}{J:L2.It}{vs:Y L2.V}{AO:Y (L2.AY×L2.V)}{sp:L2.Sp}{ks:Y L2.AY}{H0 Hs:L2.Hp}{cJ:Y (Y L2.AY)}
namespace P1
open L2
inductive Dt where
 |non|bl (b:Bool)|int (i:Int)|str (x:Str)|tup (xs:List Dt)|lst (xs:List Dt)|emp
inductive Bx where
 |z (d:Dt)|l (ds:List Dt)|o (ds:List Dt)|n (AO:List (AY×Dt))|m (AO:List (AY×Dt)) (w:Option Addr)
abbrev Ev:=Y (Y3 Bx)
def EM(K:B8)(H:Hp)(a:A1)(xs:Y V):Prop:=
 (∃o,H a=Z (.oJ o (.lst xs))) ∨
  ∃(o:AE) (AQ:Array A0) (n:Nat),K.lookup a=Z o/\o.cls=.type "list" ∧ o.dict=O/\o.data=.seq AQ n/\AQ.size<=AA/\AX xs AQ.toList
theorem EM.sq(h:EM K H a xs):qC K H a xs:=by
 rcases h with h|h
 ·exact .inl (.inr h)
 ·exact .inr h
mutual
def AW(K:B8)(H:Hp):Dt->V->Prop
 |.non,v=>v=.non
 |.bl b,v=>v=.bl b
 |.int i,v=>v=.int i
 |.str x,v=>v=.str x/\x.length<=AA
 |.tup ds,v=>∃a vs,v=.ref a/\tX K H a vs/\aH K H ds vs
 |.lst ds,v=>∃a vs,v=.ref a/\EM K H a vs/\aH K H ds vs
 |.emp,v=>∃a o,v=.ref a/\H a=Z (.oJ o (.dK []))
def aH(K:B8)(H:Hp):Y Dt->Y V->Prop
 |[],vs=>vs=[]
 |d::ds,vs=>∃v r,vs=v::r/\AW K H d v/\aH K H ds r
end
structure Kp (H H':Hp):Prop where
 t:∀a xs,H a=some (.tup xs)->H' a=some (.tup xs)
 f:∀a o u,H a=some (.oJ o u)->H' a=some (.oJ o u)
theorem Kp.of{H':Hp}(s:AV H H'):Kp H H':=⟨λa _ h=>s a _ h,λa _ _ h=>s a _ h⟩
theorem Kp.sqT{H':Hp}(k:Kp H H')(h:tX K H a xs):tX K H' a xs:=by
 rcases h with (h|⟨o,h⟩)|h
 ·exact .inl (.inl (k.t _ _ h))
 ·exact .inl (.inr ⟨o,k.f _ _ _ h⟩)
 ·exact .inr h
theorem Kp.fzL{H':Hp}(k:Kp H H')(h:EM K H a xs):EM K H' a xs:=by
 rcases h with⟨o,h⟩|h
 ·exact .inl ⟨o,k.f _ _ _ h⟩
 ·exact .inr h
theorem Kp.lst(h:H a=Z (.lst xs)):Kp H (BA H a o):=by
 refine⟨λb ys e=>?_,λb c u e=>?_⟩
 ·rw[aM (Cp e h (by intro z;cases z))];exact e
 ·rw[aM (Cp e h (by intro z;cases z))];exact e
mutual
theorem AW.kp{K:B8}{H H':Hp}(k:Kp H H'):∀{d:Dt} {v:V},AW K H d v->AW K H' d v
 |.non,_,h=>by simpa only[AW]using h
 |.bl _,_,h=>by simpa only[AW]using h
 |.int _,_,h=>by simpa only[AW]using h
 |.str _,_,h=>by simpa only[AW]using h
 |.tup ds,_,h=>by
  simp only[AW]at h ⊢;obtain⟨a,vs,e,q,r⟩:=h;exact⟨a,vs,e,k.sqT q,aH.kp k r⟩
 |.lst ds,_,h=>by
  simp only[AW]at h ⊢;obtain⟨a,vs,e,q,r⟩:=h;exact⟨a,vs,e,k.fzL q,aH.kp k r⟩
 |.emp,_,h=>by
  simp only[AW]at h ⊢;obtain⟨a,o,e,q⟩:=h;exact⟨a,o,e,k.f _ _ _ q⟩
theorem aH.kp{K:B8}{H H':Hp}(k:Kp H H'):∀{ds:Y Dt} {vs:Y V},aH K H ds vs->aH K H' ds vs
 |[],_,h=>by simpa only[aH]using h
 |d::ds,_,h=>by
  simp only[aH]at h ⊢;obtain⟨v,r,e,q,t⟩:=h;exact⟨v,r,e,AW.kp k q,aH.kp k t⟩
end
theorem aH.length{K:B8}{H:Hp}:∀{ds:Y Dt} {vs:Y V},aH K H ds vs->vs.length=ds.length
 |[],_,h=>by simp only[aH]at h;subst h;rfl
 |d::ds,_,h=>by
  simp only[aH]at h;obtain⟨v,r,rfl,_,t⟩:=h;simp[aH.length t]
theorem aH.nil:aH K H [] []:=by simp only[aH]
theorem aH.cons{K:B8}{H:Hp}{d:Dt}{v:V}{ds:Y Dt}{vs:Y V}(h:AW K H d v)(t:aH K H ds vs):aH K H (d::ds) (v::vs):=by
 simp only[aH];exact⟨v,vs,rfl,h,t⟩
theorem aH.append{K:B8}{H:Hp}:∀{ds es:Y Dt} {vs us:Y V},aH K H ds vs->aH K H es us->aH K H (ds++es) (vs++us)
 |[],_,_,_,h,t=>by simp only[aH]at h;subst h;exact t
 |d::ds,_,_,_,h,t=>by
  simp only[aH]at h;obtain⟨v,r,rfl,q,h⟩:=h;exact aH.cons q (aH.append h t)
theorem aH.drop{K:B8}{H:Hp}:∀(n:Nat) {ds:Y Dt} {vs:Y V},aH K H ds vs->aH K H (ds.drop n) (vs.drop n)
 |0,_,_,h=>h
 |n+1,[],_,h=>by simp only[aH]at h;subst h;exact aH.nil
 |n+1,d::ds,_,h=>by
  simp only[aH]at h;obtain⟨v,r,rfl,q,h⟩:=h;exact aH.drop n h
theorem aH.take{K:B8}{H:Hp}:∀(n:Nat) {ds:Y Dt} {vs:Y V},aH K H ds vs->aH K H (ds.take n) (vs.take n)
 |0,_,_,_=>aH.nil
 |n+1,[],_,h=>by simp only[aH]at h;subst h;exact aH.nil
 |n+1,d::ds,_,h=>by
  simp only[aH]at h;obtain⟨v,r,rfl,q,h⟩:=h;exact aH.cons q (aH.take n h)
theorem aH.get{K:B8}{H:Hp}:∀{ds:Y Dt} {vs:Y V} {i:Nat} {d:Dt},aH K H ds vs->ds[i]?=Z d->∃v,vs[i]?=Z v/\AW K H d v
 |[],_,_,_,_,e=>by simp at e
 |d::ds,_,0,_,h,e=>by
  simp only[aH]at h;obtain⟨v,r,rfl,q,h⟩:=h;simp at e;subst e;exact⟨v,rfl,q⟩
 |d::ds,_,i+1,_,h,e=>by
  simp only[aH]at h;obtain⟨v,r,rfl,q,h⟩:=h;obtain⟨u,e1,e2⟩:=aH.get h (i:=i) (by simpa using e);exact⟨u,by simpa using e1,e2⟩
def OL:AY->Prop
 |.inl _=>True
 |.inr x=>x.length<=AA
def Xz(K:B8)(H:Hp)(AO:Y (AY×Dt))(ks:Y (AY×V)):Prop:=ks.map (·.1)=AO.map (·.1)/\aH K H (AO.map (·.2)) (ks.map (·.2))/\∀p∈AO,OL p.1
theorem Xz.kp{K:B8}{H H':Hp}{AO:Y (AY×Dt)}{ks:Y (AY×V)}(h:Xz K H AO ks)(k:Kp H H'):Xz K H' AO ks:=⟨h.1,h.2.1.kp k,h.2.2⟩
def bf(K:B8)(H:Hp):Bx->V->Prop
 |.z d,v=>AW K H d v
 |.l ds,v=>∃a vs,v=.ref a/\Rd H a (.lst vs)/\aH K H ds vs
 |.o ds,v=>∃a vs,v=.ref a/\H a=Z (.lst vs)/\aH K H ds vs
 |.n AO,v=>∃a ks,v=.ref a/\Rd H a (.dK ks)/\Xz K H AO ks
 |.m AO w,v=>∃a ks,v=.ref a/\H a=Z (.dK ks)/\Xz K H AO ks/\∀b,w=Z b->b=a
theorem bf.same{H':Hp}(s:AV H H'){b:Bx}{v:V}(h:bf K H b v):bf K H' b v:=by
 cases b with
 |z d=>exact AW.kp (.of s) h
 |l ds=>
  obtain⟨a,vs,e,q,r⟩:=h;refine⟨a,vs,e,?_,r.kp (.of s)⟩;rcases q with q|⟨o,q⟩
  ·exact .inl (s _ _ q)
  ·exact .inr ⟨o,s _ _ q⟩
 |o ds=>
  obtain⟨a,vs,e,q,r⟩:=h;exact⟨a,vs,e,s _ _ q,r.kp (.of s)⟩
 |n AO=>
  obtain⟨a,vs,e,q,r⟩:=h;refine⟨a,vs,e,?_,r.kp (.of s)⟩;rcases q with q|⟨o,q⟩
  ·exact .inl (s _ _ q)
  ·exact .inr ⟨o,s _ _ q⟩
 |m AO _=>
  obtain⟨a,vs,e,q,r⟩:=h;exact⟨a,vs,e,s _ _ q,r.1.kp (.of s),r.2⟩
def sO:Bx->Y3 (Y Dt)
 |.z (.lst ds)=>Z ds
 |.l ds=>Z ds
 |.o ds=>Z ds
 |_=>O
theorem bf.HB{b:Bx}{v:V}{ds:Y Dt}(h:bf K H b v)(e:sO b=Z ds):∃a vs,v=.ref a/\qC K H a vs/\aH K H ds vs:=by
 cases b with
 |z d=>
  cases d<;>first|(cases e;done)|skip;cases e;simp only[bf,AW]at h;obtain⟨a,vs,e,q,r⟩:=h;exact⟨a,vs,e,q.sq,r⟩
 |l c=>
  cases e;obtain⟨a,vs,e,q,r⟩:=h;exact⟨a,vs,e,.inl q,r⟩
 |o c=>
  cases e;obtain⟨a,vs,e,q,r⟩:=h;exact⟨a,vs,e,.inl (.inl q),r⟩
 |n _=>cases e
 |m _ _=>cases e
abbrev zu(K:B8)(H:Hp):Y Bx->Y V->Prop:=AI (bf K H)
def Nw(H:Hp):Bx->V->Prop
 |.o _,v=>∀a,v=.ref a->H a=O
 |.m _ _,v=>∀a,v=.ref a->H a=O
 |_,_=>True
theorem Nw.old{H1:Hp}(s:AV H H1){b:Bx}{v:V}(h:Nw H1 b v):Nw H b v:=by
 cases b with
 |o ds=>exact λa e=>s.free (h a e)
 |m ds _=>exact λa e=>s.free (h a e)
 |_=>trivial
def loose:Bx->Bool
 |.z _=>false
 |_=>true
def yE:Bx->Bool
 |.o _=>true
 |.m _ _=>true
 |_=>false
structure bW (K:B8) (H0 H:Hp) (σ:L2.St) (ρ:Ev):Prop where
 len:σ.length=ρ.length
 val:∀(i:Nat) b,ρ[i]?=some (some b)->∃v,σ[i]?=some (some v)/\bf K H b v
 own:∀(i j:Nat) c a b,ρ[i]?=some (some c)->yE c=true->σ[i]?=some (some (.ref a))->ρ[j]?=some (some b)->loose b=true->σ[j]?=some (some (.ref a))->i=j
 base:AV H0 H
 new:∀(i:Nat) c a,ρ[i]?=some (some c)->yE c=true->σ[i]?=some (some (.ref a))->H0 a=none
theorem bW.grow{H':Hp}{ρ:Ev}(r:bW K H0 H σ ρ)(s:AV H H'):bW K H0 H' σ ρ:=
 ⟨r.len,λi b e=>let ⟨v,e1,h⟩:=r.val i b e;⟨v,e1,h.same s⟩,r.own,r.base.trans s,r.new⟩
def tF(K:B8)(f:Ev->Y3 Bx):TE:=λσ H Q=>∃H0 ρ b,bW K H0 H σ ρ/\f ρ=Z b/\∀v H',AV H H'->Nw H b v->bf K H' b v->Q v H'
def Ix(K:B8)(f:Ev->Y3 (Y Bx)):TA:=λσ H Q=>∃H0 ρ bs,bW K H0 H σ ρ/\f ρ=Z bs/\∀vs H',AV H H'->zu K H' bs vs->Q vs H'
def D7(K:B8)(f:Ev->Y3 Bool):TT:=λσ H Q=>∃H0 ρ b,bW K H0 H σ ρ/\f ρ=Z b/\∀H',AV H H'->Q b H'
def PV(X:Cx)(e:Expr)(f:Ev->Y3 Bx):Prop:=PE X e (tF X.K f)
structure QV (X:Cx) (e:Expr) (f:Ev->Option Bx):Prop where
 run:PV X e f
def ET(X:Cx)(es:Y Expr)(f:Ev->Y3 (Y Bx)):Prop:=PA X es (Ix X.K f)
structure T3 (X:Cx) (es:List Expr) (f:Ev->Option (List Bx)):Prop where
 run:ET X es f
def PB(X:Cx)(e:Expr)(f:Ev->Y3 Bool):Prop:=PT X e (D7 X.K f)
structure QB (X:Cx) (e:Expr) (f:Ev->Option Bool):Prop where
 run:PB X e f
theorem HD{t t':TE}(h:PE X e t)(m:∀ σ H Q,t' σ H Q->t σ H Q):PE X e t':=λAN s σ H Q I q=>h AN s σ H Q I (m σ H Q q)
theorem LG{e:Y Expr}{t t':TA}(h:PA X e t)(m:∀ σ H Q,t' σ H Q->t σ H Q):PA X e t':=λpos AN s σ H Q I q=>h pos AN s σ H Q I (m σ H Q q)
theorem Gc{t t':TT}(h:PT X e t)(m:∀ σ H Q,t' σ H Q->t σ H Q):PT X e t':=λAN s σ H Q I q=>h AN s σ H Q I (m σ H Q q)
theorem Mb{t t':TT}(h:PW X e t)(m:∀ σ H Q,t' σ H Q->t σ H Q):PW X e t':=λa AN s σ H Q I q=>h a AN s σ H Q I (m σ H Q q)
theorem XC{e:AB}{t t':TS}(h:PS X e t)(m:∀D σ H,t' D σ H->t D σ H):PS X e t':=λAN s σ H D I q=>h AN s σ H D I (m D σ H q)
theorem GY{e:Y AB}{t t':TS}(h:Rc X e t)(m:∀D σ H,t' D σ H->t D σ H):Rc X e t':=λAN s σ H D I q=>h AN s σ H D I (m D σ H q)
def rF(K:B8)(g:Bx->Bx->Y3 Bx):R2:=λx y H Q=>∃a b c,bf K H a x/\bf K H b y/\g a b=Z c/\∀w H',AV H H'->Nw H c w->bf K H' c w->Q w H'
def MO(K:B8)(g:Bx->Y3 Bx):V->Hp->VK->Prop:=λx H Q=>∃a c,bf K H a x/\g a=Z c/\∀w H',AV H H'->Nw H c w->bf K H' c w->Q w H'
def LV(K:B8)(g:Y Bx->Y3 Bx):Y V->Hp->VK->Prop:=λxs H Q=>∃bs c,zu K H bs xs/\g bs=Z c/\∀w H',AV H H'->Nw H c w->bf K H' c w->Q w H'
abbrev Cu(X:Cx)(f:A0->A0->Sem A0)(g:Bx->Bx->Y3 Bx):Prop:=xZ X f (rF X.K g)
abbrev Iy(X:Cx)(f:A0->Sem A0)(g:Bx->Y3 Bx):Prop:=DM X f (MO X.K g)
abbrev yc(X:Cx)(f:A0)(g:Y Bx->Y3 Bx):Prop:=gw X f (LV X.K g)
theorem xZ.imp{X:Cx}{f:A0->A0->Sem A0}{r a:R2}(h:xZ X f r)(m:∀x y H Q,a x y H Q->r x y H Q):xZ X f a:=λAN s σ H x y v u Q I c b q=>h AN s σ H x y v u Q I c b (m x y H Q q)
theorem DM.imp{X:Cx}{f:A0->Sem A0}{r a:V->Hp->VK->Prop}(h:DM X f r)(m:∀x H Q,a x H Q->r x H Q):DM X f a:=λAN s σ H x v Q I b q=>h AN s σ H x v Q I b (m x H Q q)
theorem gw.imp{X:Cx}{f:A0}{r a:Y V->Hp->VK->Prop}(h:gw X f r)(m:∀x H Q,a x H Q->r x H Q):gw X f a:=λAN s σ H xs us Q I b q=>h AN s σ H xs us Q I b (m xs H Q q)
def b2(g:Bx->Bx->Y3 Bx)(fa fb:Ev->Y3 Bx):Ev->Y3 Bx:=λρ=>(fa ρ).bind λx=>(fb ρ).bind λy=>g x y
def b1(g:Bx->Y3 Bx)(fa:Ev->Y3 Bx):Ev->Y3 Bx:=λρ=>(fa ρ).bind g
def cM(g:Y Bx->Y3 Bx)(fs:Ev->Y3 (Y Bx)):Ev->Y3 Bx:=λρ=>(fs ρ).bind g
theorem AT{o:Y3 α}{f:α->Y3 β}{b:β}(h:o.bind f=Z b):∃a,o=Z a/\f a=Z b:=by
 cases o with
 |none=>cases h
 |some a=>exact⟨a,rfl,h⟩
theorem XD{g:Bx->Bx->Y3 Bx}{fa fb:Ev->Y3 Bx}(σ:L2.St)(H:Hp)(Q:VK)(h:tF K (b2 g fa fb) σ H Q):EQ (rF K g) (tF K fa) (tF K fb) σ H Q:=by
 obtain⟨H0,ρ,c,E,e,q⟩:=h;obtain⟨a,ea,e⟩:=AT e;obtain⟨b,eb,e⟩:=AT e;refine⟨H0,ρ,a,E,ea,λv H1 f p k=>⟨H0,ρ,b,E.grow f,eb,λu H2 d o l=>?_⟩⟩;exact⟨a,b,c,k.same d,l,e,λw m i j n=>q w m ((f.trans d).trans i) (j.old (f.trans d)) n⟩
theorem UA{g:Bx->Y3 Bx}{fa:Ev->Y3 Bx}(σ:L2.St)(H:Hp)(Q:VK)(h:tF K (b1 g fa) σ H Q):LS (MO K g) (tF K fa) σ H Q:=by
 obtain⟨H0,ρ,c,E,e,q⟩:=h;obtain⟨a,ea,e⟩:=AT e;exact⟨H0,ρ,a,E,ea,λv H1 b l i=>⟨a,c,i,e,λw j d f k=>q w j (b.trans d) (f.old b) k⟩⟩
theorem DZ{g:Y Bx->Y3 Bx}{fs:Ev->Y3 (Y Bx)}(σ:L2.St)(H:Hp)(Q:VK)(h:tF K (cM g fs) σ H Q):HK (LV K g) (Ix K fs) σ H Q:=by
 obtain⟨H0,ρ,c,E,e,q⟩:=h;obtain⟨a,ea,e⟩:=AT e;exact⟨H0,ρ,a,E,ea,λv H1 b i=>⟨a,c,i,e,λw j d f k=>q w j (b.trans d) (f.old b) k⟩⟩
section
variable{a b:Expr}{fa fb fc f:Ev->Y3 Bx}{fs:Ev->Y3 (Y Bx)}
theorem aP{op:Operator}{g:Bx->Bx->Y3 Bx}(e:Cu X (binaryOp op) g)(c:QV X a fa)(d:QV X b fb):QV X (.BinOp a op b pos) (b2 g fa fb):=⟨have c:=c.run;have d:=d.run;HD (ag e c d) XD⟩
theorem XF{op:UnaryOp}{g:Bx->Y3 Bx}(c:Iy X (unaryOp op) g)(b:QV X a fa):QV X (.UnaryOp op a pos) (b1 g fa):=⟨have b:=b.run;HD (OH c b) UA⟩
theorem dF{g:Bx->Bx->Y3 Bx}(e:Cu X (AG op) g)(c:QV X a fa)(d:QV X b fb)(f:behindInMarks op b=false):QV X (.Compare a [op] [b] pos) (b2 g fa fb):=⟨have c:=c.run;have d:=d.run;HD (Wl e c d f) XD⟩
def Fi:Bx->Y3 Bool
 |.z (.bl b)=>Z b
 |_=>O
theorem zA{b:Bx}{v:V}{k:Bool}(h:bf K H b v)(e:Fi b=Z k):v=.bl k:=by
 cases b with
 |z d=>
  cases d<;>first|(cases e;done)|skip;cases e;simpa only[bf,AW]using h
 |_=>cases e
theorem Nd(σ:L2.St)(H:Hp)(Q:Bool->Hp->Prop)(h:D7 K (λρ=>(f ρ).bind Fi) σ H Q):tF K f σ H (λx H'=>∃k,x=.bl k/\Q k H'):=by
 obtain⟨H0,ρ,k,E,e,q⟩:=h;obtain⟨b,eb,e⟩:=AT e;exact⟨H0,ρ,b,E,eb,λv H1 c d a=>⟨k,zA a e,q H1 c⟩⟩
theorem cQ{g:Bx->Bx->Y3 Bx}(e:Cu X (AG op) g)(c:QV X a fa)(d:QV X b fb)(f:behindInMarks op b=false):QB X (.Compare a [op] [b] pos) (λρ=>(b2 g fa fb ρ).bind Fi):=⟨have c:=c.run;have d:=d.run;Gc (TW e c d f) λσ H Q h=>XD σ H _ (Nd σ H Q h)⟩
def Dx(g g':Bx->Bx->Y3 Bx)(fa fb fc:Ev->Y3 Bx):Ev->Y3 Bx:=λρ=>(fa ρ).bind λx=>(fb ρ).bind λy=>(g x y).bind λr=>(Fi r).bind λk=>if k=true then(fc ρ).bind λw=>g' y w else Z (.z (.bl false))
theorem Y1{g g':Bx->Bx->Y3 Bx}(σ:L2.St)(H:Hp)(Q:VK)(h:tF K (Dx g g' fa fb fc) σ H Q):Xh (rF K g) (rF K g') (tF K fa) (tF K fb) (tF K fc) σ H Q:=by
 obtain⟨H0,ρ,d,E,e,q⟩:=h;obtain⟨a,ea,e⟩:=AT e;obtain⟨b,eb,e⟩:=AT e;obtain⟨r,er,e⟩:=AT e;obtain⟨k,ek,e⟩:=AT e;refine⟨H0,ρ,a,E,ea,λv H1 n J C=>⟨H0,ρ,b,E.grow n,eb,λu H2 l G m=>?_⟩⟩;refine⟨a,b,r,C.same l,m,er,λw D j F p=>⟨k,zA p ek,?_⟩⟩;have c:=(n.trans l).trans j;cases k with
 |false=>
  rw[zv ZA]at e ⊢;cases e;exact q _ D c trivial (by simp only[bf,AW])
 |true=>
  rw[zk rfl]at e ⊢;obtain⟨i,B,e⟩:=AT e;refine⟨H0,ρ,i,E.grow c,B,λx I f L s=>?_⟩;exact⟨b,i,d,(m.same j).same f,s,e,λy A t o z=>q y A ((c.trans f).trans t) (o.old (c.trans f)) z⟩
theorem Fj{e:CmpOp}{g g':Bx->Bx->Y3 Bx}(i:Cu X (AG op) g)(j:Cu X (AG e) g')(f:QV X a fa)(d:QV X b fb)(h:QV X c fc)(k:lastMarks [op,e] [b,c]=false:=by with_unfolding_all rfl):QV X (.Compare a [op,e] [b,c] pos) (Dx g g' fa fb fc):=⟨have f:=f.run;have d:=d.run;have h:=h.run;HD (Xi i j f d h k) Y1⟩
def Dy(ρ:Ev)(i:Nat):Y3 Bx:=match ρ[i]? with
 |some (Z (.o ds))=>Z (.l ds)
 |some (Z (.m AO _))=>Z (.n AO)
 |some (Z b)=>Z b
 |_=>O
theorem NK{ρ:Ev}{b:Bx}(E:bW K H0 H σ ρ)(e:Dy ρ i=Z b):∃v,σ[i]?=Z (Z v)/\bf K H b v:=by
 unfold Dy at e;split at e
 ·rename_i ds h;cases e;obtain⟨v,e1,a,vs,e2,q,r⟩:=E.val i _ h;exact⟨v,e1,a,vs,e2,.inl q,r⟩
 ·rename_i ds h;cases e;obtain⟨v,e1,a,vs,e2,q,r⟩:=E.val i _ h;exact⟨v,e1,a,vs,e2,.inl q,r.1⟩
 ·rename_i c h;cases e;exact E.val i _ h
 ·cases e
theorem Ef{ρ:Ev}{b:Bx}(e:Dy ρ i=Z b):yE b=false:=by
 unfold Dy at e;split at e
 ·cases e;rfl
 ·cases e;rfl
 ·rename_i c h1 h2 a;cases e;cases b with
  |o ds=>exact absurd Y2 (h1 ds)
  |m ds _=>exact absurd Y2 (h2 ds _)
  |_=>rfl
 ·cases e
theorem ak(i:Nat)(c:X.N[i]?=Z x:=by rfl)(d:WY X.env.scope x:=by first|exact ku rfl|exact Jn (ku Y2)|exact Jn (Jn Y2))(hd:ad x:=by decide)(a:(x==("__classdict__":AJ))=false:=by decide):QV X (.Name x pos) (λρ=>Dy ρ i):=⟨HD (yC c d hd a) λσ H Q h=>by
 obtain⟨H0,ρ,b,E,e,q⟩:=h;obtain⟨v,e1,r⟩:=NK E e;refine⟨v,e1,q v H (AV.refl H) ?_ r⟩;cases b with
 |o ds=>have:=Ef e;cases this
 |m ds _=>have:=Ef e;cases this
 |_=>trivial⟩
def cB(d:Dt):Ev->Y3 Bx:=λ_=>Z (.z d)
theorem Vx{v:V}{d:Dt}(h:PE X e (tC v))(r:∀H,AW X.K H d v):PV X e (cB d):=HD h λσ H Q q=>by
 obtain⟨H0,ρ,b,E,e,q⟩:=q;cases e;exact q v H (AV.refl H) trivial (r H)
theorem aB{i j}:QV X (.Constant (.int i) j pos) (cB (.int i)):=⟨Vx VV λH=>by simp only[AW]⟩
theorem sS{i j}:QV X (.Constant (.bool i) j pos) (cB (.bl i)):=⟨Vx WJ λH=>by simp only[AW]⟩
theorem Bg{j}:QV X (.Constant .none j pos) (cB .non):=⟨Vx NY λH=>by simp only[AW]⟩
theorem XH{j}(hx:x.length<=AA:=by decide):PV X (.Constant (.str x) j pos) (cB (.str x)):=Vx We λH=>by unfold AW;exact⟨rfl,hx⟩
theorem NP{i:Int}{t:Tok}(b:Gl X x)(a:X.mg x=Z (.int i t))(hd:ad x:=by decide):QV X (.Name x pos) (cB (.int i)):=⟨Vx (TJ b a (v:=.int i) ⟨t,rfl⟩ hd) λH=>by simp only[AW]⟩
theorem XJ{t:Tok}(b:Gl X x)(a:X.mg x=Z (.str y t))(c:y.length<=AA:=by decide)(hd:ad x:=by decide):QV X (.Name x pos) (cB (.str y)):=⟨Vx (TJ b a (v:=.str y) ⟨t,rfl⟩ hd) λH=>by unfold AW;exact⟨rfl,c⟩⟩
def FX:Bx->Y3 Bool
 |.z .non=>Z false
 |.z (.bl b)=>Z b
 |.z (.int i)=>Z (i != 0)
 |.z (.str x)=>Z ((x.length:Int) != 0)
 |.z (.tup ds)=>Z (!ds.isEmpty)
 |.z (.lst ds)=>Z (!ds.isEmpty)
 |.l ds=>Z (!ds.isEmpty)
 |.o ds=>Z (!ds.isEmpty)
 |.z .emp=>O
 |.n _=>O
 |.m _ _=>O
theorem aH.isEmpty{ds:Y Dt}(h:aH K H ds vs):(!ds.isEmpty)=!vs.isEmpty:=by
 have:=h.length;cases ds<;>cases vs<;>simp_all
theorem RE{b:Bx}{v:V}{k:Bool}(r:bf K H b v)(e:FX b=Z k):IA K v H k:=by
 cases b with
 |z d=>
  cases d with
  |non=>cases e;simp only[bf,AW]at r;subst r;rfl
  |bl b=>cases e;simp only[bf,AW]at r;subst r;rfl
  |int b=>cases e;simp only[bf,AW]at r;subst r;rfl
  |str x=>cases e;simp only[bf,AW]at r;obtain⟨rfl,h⟩:=r;exact⟨h,rfl⟩
  |tup ds=>
   cases e;simp only[bf,AW]at r;obtain⟨a,vs,rfl,q,r⟩:=r;exact .inr (.inl ⟨vs,q,r.isEmpty⟩)
  |lst ds=>
   cases e;obtain⟨a,vs,rfl,q,r⟩:=r.HB rfl;exact .inl ⟨vs,q,r.isEmpty⟩
  |emp=>cases e
 |l ds=>
  cases e;obtain⟨a,vs,rfl,q,r⟩:=r.HB rfl;exact .inl ⟨vs,q,r.isEmpty⟩
 |o ds=>
  cases e;obtain⟨a,vs,rfl,q,r⟩:=r.HB rfl;exact .inl ⟨vs,q,r.isEmpty⟩
 |n _=>cases e
 |m _ _=>cases e
theorem pU(h:QV X e f)(c:∀a,isTrue e X.env a=(do let v <-a;standAt e.pos;holding [v] (truthy v)):=by intro _;rfl):QB X e (λρ=>(f ρ).bind FX):=⟨have h:=h.run;Gc (Xj h c) λσ H Q q=>by
 obtain⟨H0,ρ,k,E,e,q⟩:=q;obtain⟨b,eb,e⟩:=AT e;exact⟨H0,ρ,b,E,eb,λv H1 g i d=>⟨k,RE d e,q H1 g⟩⟩⟩
def XM(p q:Ev->Y3 Bool):Ev->Y3 Bool:=λρ=>(p ρ).bind λc=>if c=true then q ρ else Z false
def Rr(p q:Ev->Y3 Bool):Ev->Y3 Bool:=λρ=>(p ρ).bind λc=>if c=true then Z true else q ρ
def Dz(p:Ev->Y3 Bool):Ev->Y3 Bool:=λρ=>(p ρ).bind λc=>Z (!c)
def N1(X:Cx)(e:Expr)(f:Ev->Y3 Bool):Prop:=PW X e (D7 X.K f)
structure EF (X:Cx) (e:Expr) (f:Ev->Option Bool):Prop where
 run:N1 X e f
variable{p q:Ev->Y3 Bool}{AS:Y Expr}
theorem XQ(b:QB X a p):EF X (.BoolOp .And [a] pos) p:=⟨have b:=b.run;Sb b⟩
theorem oZ(b:QB X a p):EF X (.BoolOp .Or [a] pos) p:=⟨have b:=b.run;c8 b⟩
theorem Md(σ:L2.St)(H:Hp)(Q:Bool->Hp->Prop)(h:D7 K (XM p q) σ H Q):LX (D7 K p) (D7 K q) σ H Q:=by
 obtain⟨H0,ρ,k,E,e,w⟩:=h;obtain⟨c,d,e⟩:=AT e;refine⟨H0,ρ,c,E,d,λH1 a=>?_⟩;cases c with
 |true=>rw[zk rfl]at e ⊢;exact⟨H0,ρ,k,E.grow a,e,λH2 b=>w H2 (a.trans b)⟩
 |false=>rw[zv ZA]at e ⊢;cases e;exact w H1 a
theorem OW(σ:L2.St)(H:Hp)(Q:Bool->Hp->Prop)(h:D7 K (Rr p q) σ H Q):L6 (D7 K p) (D7 K q) σ H Q:=by
 obtain⟨H0,ρ,k,E,e,w⟩:=h;obtain⟨c,d,e⟩:=AT e;refine⟨H0,ρ,c,E,d,λH1 a=>?_⟩;cases c with
 |true=>rw[zk rfl]at e ⊢;cases e;exact w H1 a
 |false=>rw[zv ZA]at e ⊢;exact⟨H0,ρ,k,E.grow a,e,λH2 b=>w H2 (a.trans b)⟩
theorem OU(c:QB X a p)(d:EF X (.BoolOp .And (b::AS) pos) q):EF X (.BoolOp .And (a::b::AS) pos) (XM p q):=⟨have c:=c.run;have d:=d.run;Mb (Sr c d) Md⟩
theorem pW(c:QB X a p)(d:EF X (.BoolOp .Or (b::AS) pos) q):EF X (.BoolOp .Or (a::b::AS) pos) (Rr p q):=⟨have c:=c.run;have d:=d.run;Mb (Sk c d) OW⟩
theorem HF(h:EF X e p):QB X e p:=⟨have h:=h.run;h.pt⟩
theorem ug(b:QB X a p):QB X (.UnaryOp .Not a pos) (Dz p):=⟨have b:=b.run;Gc (W1 b) λσ H Q h=>by
 obtain⟨H0,ρ,k,E,e,w⟩:=h;obtain⟨c,d,e⟩:=AT e;cases e;exact⟨H0,ρ,c,E,d,λH1 f=>w H1 f⟩⟩
def jH(fa fb:Ev->Y3 Bx):Ev->Y3 Bx:=λρ=>((fa ρ).bind Fi).bind λc=>if c=true then fb ρ else Z (.z (.bl false))
def Fc(fa:Ev->Y3 Bx):Ev->Y3 Bx:=λρ=>((fa ρ).bind Fi).bind λc=>Z (.z (.bl (!c)))
theorem iM{op}(h:QV X a fa):QV X (.BoolOp op [a] pos) fa:=⟨have h:=h.run;RI h⟩
theorem dh(i:QV X a fa)(g:QV X (.BoolOp .And (b::AS) pos) fb):QV X (.BoolOp .And (a::b::AS) pos) (jH fa fb):=⟨have i:=i.run;have g:=g.run;HD (RO i g) λσ H Q h=>by
 obtain⟨H0,ρ,k,E,e,w⟩:=h;obtain⟨c,f,e⟩:=AT e;obtain⟨x,ex,f⟩:=AT f;refine⟨H0,ρ,x,E,ex,λv H1 d o m=>⟨c,zA m f,?_⟩⟩;cases c with
 |true=>rw[zk rfl]at e ⊢;exact⟨H0,ρ,k,E.grow d,e,λv H2 j l n=>w v H2 (d.trans j) (l.old d) n⟩
 |false=>rw[zv ZA]at e ⊢;cases e;exact w _ H1 d trivial (by simp only[bf,AW])⟩
theorem aw(d:QV X a fa):QV X (.UnaryOp .Not a pos) (Fc fa):=⟨have d:=d.run;HD (UN d) λσ H Q h=>by
 obtain⟨H0,ρ,k,E,e,w⟩:=h;obtain⟨c,b,e⟩:=AT e;obtain⟨x,ex,b⟩:=AT b;cases e;exact⟨H0,ρ,x,E,ex,λv H1 g i f=>⟨c,zA f b,w _ H1 g trivial (by simp only[bf,AW])⟩⟩⟩
theorem T4:ET X [] (λ_=>Z []):=LG ud λσ H Q h=>by
 obtain⟨H0,ρ,bs,E,e,q⟩:=h;cases e;exact q [] H (AV.refl H) .nil
def ao(f:Ev->Y3 Bx)(fs:Ev->Y3 (Y Bx)):Ev->Y3 (Y Bx):=λρ=>(f ρ).bind λb=>(fs ρ).bind λbs=>Z (b::bs)
theorem NQ(h1:PV X e f)(h2:ET X es fs)(hs:A9 (e::es) X.env=(false,eval e X.env)::A9 es X.env:=by rfl):ET X (e::es) (ao f fs):=LG (iR h1 h2 hs) λσ H Q h=>by
 obtain⟨H0,ρ,bs,E,e,q⟩:=h;obtain⟨b,eb,e⟩:=AT e;obtain⟨d,g,e⟩:=AT e;cases e;refine⟨H0,ρ,b,E,eb,λv H1 c k i=>⟨H0,ρ,d,E.grow c,g,λvs H2 a j=>?_⟩⟩;exact q (v::vs) H2 (c.trans a) (.cons (i.same a) j)
def xX:Bx->Y3 Bx
 |.z d=>Z (.z d)
 |.o ds=>Z (.z (.lst ds))
 |.l _=>O
 |.n _=>O
 |.m _ _=>O
theorem Ru{a:A1}(I:L2.AU X AN σ H s)(h:H a=Z (.lst vs)):∃o,L2.AU X AN σ (BA H a (.oJ o (.lst vs))) s:=by
 obtain⟨z,AQ,n,r,e⟩:=I.hok a _ h;refine⟨{ cls:=.type "list",data:=.seq AQ.toArray n },⟨I.ok,I.os,I.bare,⟨I.base.keep,I.base.slot,λb d q1 q2 q3=>?_,I.base.there,λb xs q=>?_,λb d u q=>?_,λb ps q=>?_⟩,I.loc,I.cell,?_,λx c q=>?_,λp hp=>?_,?_,I.len⟩⟩
 ·have:=I.base.free b d q1 q2 q3;rw[aM (cH h this).symm];exact this
 ·have:=I.base.tups b xs q;rw[aM (Cp this h (by intro z;cases z))];exact this
 ·have:=I.base.Du b d u q;rw[aM (Cp this h (by intro z;cases z))];exact this
 ·obtain⟨m,this⟩:=I.base.yx b ps q;rw[aM (Cp this h (by intro z;cases z))];exact⟨m,this⟩
 ·rw[aM (cH h I.free).symm];exact I.free
 ·rw[aM (cH h (I.qG x c q)).symm];exact I.qG x c q
 ·obtain⟨q1,q2,q3⟩:=I.pin p hp;refine⟨q1,?_,q3⟩;rw[aM (cH h q2).symm];exact q2
 ·intro b u q;by_cases f:b=a
  ·subst f;rw[bH]at q;cases q;exact⟨e,z,AQ,n,r,e⟩
  ·rw[aM f]at q;refine(I.hok b u q).stay (λc v _ w=>w) (λc w=>?_) (λc xs w=>?_) λc o' g w=>?_
   ·rw[aM (Cp w h (by intro z;cases z))];exact w
   ·rw[aM (Cp w h (by intro z;cases z))];exact w
   ·rw[aM (Cp w h (by intro z;cases z))];exact w
theorem gA(h:QV X e f):QV X e (b1 xX f):=⟨by
 have h:=h.run;intro AN s σ H Q I q;obtain⟨H0,ρ,b,E,e,q⟩:=q;obtain⟨x,ex,e⟩:=AT e;cases x with
 |z d=>
  cases e;exact h AN s σ H Q I ⟨H0,ρ,_,E,ex,λv H' s' i g=>q v H' s' trivial g⟩
 |l ds=>cases e
 |n ds=>cases e
 |m ds _=>cases e
 |o ds=>
  cases e;refine jF (h AN s σ H (λv H'=>AV H H'/\Nw H (.o ds) v/\bf X.K H' (.o ds) v) I ⟨H0,ρ,_,E,ex,λv H' s' i g=>⟨s',i,g⟩⟩) λu C B=>?_;obtain⟨v,H1,y,w,s',i,g⟩:=B;obtain⟨a,vs,rfl,j,t⟩:=g;obtain⟨o,A⟩:=Ru y j;refine⟨.ref a,_,A,w,q _ _ (λc p k=>?_) trivial ?_⟩
  ·rw[aM (cH k (i a Y2))];exact s' c p k
  ·simp only[bf,AW];exact⟨a,vs,rfl,.inl ⟨o,bH⟩,t.kp (.lst j)⟩⟩
def Ke:Y Bx->Y3 (Y Dt)
 |[]=>Z []
 |.z d::r=>(Ke r).bind λds=>Z (d::ds)
 |_=>O
theorem Fl{K:B8}{H:Hp}:∀{bs:Y Bx} {vs:Y V} {ds:Y Dt},zu K H bs vs->Ke bs=Z ds->aH K H ds vs
 |_,_,_,.nil,e=>by cases e;exact aH.nil
 |b::bs,_,_,.cons h t,e=>by
  cases b with
  |z d=>
   simp only[Ke]at e;obtain⟨a,e1,e2⟩:=AT e;cases e2;exact aH.cons h (Fl t e1)
  |_=>cases e
theorem Fo:∀{bs:Y Bx} {ds:Y Dt},Ke bs=Z ds->ds.length=bs.length
 |[],_,e=>by cases e;rfl
 |.z d::r,_,e=>by
  simp only[Ke]at e;obtain⟨a,e1,e2⟩:=AT e;cases e2;simp[Fo e1]
 |.l _::_,_,e=>by cases e
 |.o _::_,_,e=>by cases e
 |.n _::_,_,e=>by cases e
 |.m _ _::_,_,e=>by cases e
def fu(bs:Y Bx):Y3 Bx:=if bs.length<=1000 then(Ke bs).bind λds=>Z (.z (.tup ds))else O
def o7(bs:Y Bx):Y3 Bx:=if bs.length<=1000 then(Ke bs).bind λds=>Z (.o ds)else O
theorem cg{p:A1}(h:H p=O):AV H (BA H p o):=λb u e=>by rw[aM (cH e h)];exact e
theorem LI(h:n<=1000):n<=AA:=zo h ()
theorem cD{x1}(h:T3 X es fs):QV X (.Tuple es x1 pos) (cM fu fs):=⟨have h:=h.run;HD (X1 h) λσ H Q q=>by
 obtain⟨H0,ρ,c,E,e,q⟩:=q;obtain⟨bs,d,e⟩:=AT e;refine⟨H0,ρ,bs,E,d,λvs H1 f b=>?_⟩;unfold fu at e;split at e
 ·rename_i hl;obtain⟨ds,e1,e⟩:=AT e;cases e;have a:=Fl b e1;refine⟨LI (by rw[a.length,Fo e1];exact hl),λp hp=>q _ _ (f.trans (cg hp)) trivial ?_⟩;simp only[bf,AW];exact⟨p,vs,rfl,.inl (.inl bH),a.kp (.of (cg hp))⟩
 ·cases e⟩
theorem g8(h:T3 X es fs):QV X (.List es pos) (cM o7 fs):=⟨have h:=h.run;HD (Sf h) λσ H Q q=>by
 obtain⟨H0,ρ,c,E,e,q⟩:=q;obtain⟨bs,g,e⟩:=AT e;refine⟨H0,ρ,bs,E,g,λvs H1 d f=>?_⟩;unfold o7 at e;split at e
 ·rename_i hl;obtain⟨ds,e1,e⟩:=AT e;cases e;have b:=Fl f e1;refine⟨LI (by rw[b.length,Fo e1];exact hl),λp hp=>q _ _ (d.trans (cg hp)) (λa ea=>by cases ea;exact d.free hp) ?_⟩;exact⟨p,vs,rfl,bH,b.kp (.of (cg hp))⟩
 ·cases e⟩
theorem bT{id:String}{g:Y Bx->Y3 Bx}{p:Pos}(h:yc X (.builtin id) g)(i:Gl X x)(j:X.mg x=O)(k:AH x=Z (.builtin id))(a:T3 X (e::es) fs)(b:x ≠ "__name__":=by decide)(d:ad x:=by decide)(c:A9 (e::es) X.env=(false,eval e X.env)::A9 es X.env:=by rfl)(f:(AD pos (A9 es X.env)).any (·.1)=false:=by rfl):QV X (.Call (.Name x p) (e::es) [] pos) (cM g fs):=⟨have a:=a.run;HD (sI h i j k a b d c f) DZ⟩
theorem cU{T:String}{g:Y Bx->Y3 Bx}{p:Pos}(h:yc X (.type T) g)(i:Gl X x)(j:X.mg x=O)(k:AH x=Z (.type T))(a:T3 X (e::es) fs)(b:x ≠ "__name__":=by decide)(d:ad x:=by decide)(c:A9 (e::es) X.env=(false,eval e X.env)::A9 es X.env:=by rfl)(f:(AD pos (A9 es X.env)).any (·.1)=false:=by rfl):QV X (.Call (.Name x p) (e::es) [] pos) (cM g fs):=⟨have a:=a.run;HD (Vt h i j k a b d c f) DZ⟩
end
inductive Ap where
 |nx (ρ:Ev)|rt (b:Bx)|bk (ρ:Ev)|ct (ρ:Ev)
def XR(K:B8)(H0:Hp)(D:CA):Ap->Prop
 |.nx ρ=>∀ σ H,bW K H0 H σ ρ->D.nx σ H
 |.rt b=>∀v H,AV H0 H->Nw H0 b v->bf K H b v->D.rt v H
 |.bk ρ=>∀ σ H,bW K H0 H σ ρ->D.bk σ H
 |.ct ρ=>∀ σ H,bW K H0 H σ ρ->D.ct σ H
def tG(K:B8)(g:Ev->Y3 Ap):TS:=λD σ H=>∃H0 ρ r,bW K H0 H σ ρ/\g ρ=Z r/\XR K H0 D r
def Lc(X:Cx)(st:AB)(g:Ev->Y3 Ap):Prop:=PS X st (tG X.K g)
structure Vy (X:Cx) (st:Stmt) (g:Ev->Option Ap):Prop where
 run:Lc X st g
def Xd(X:Cx)(st:Y AB)(g:Ev->Y3 Ap):Prop:=Rc X st (tG X.K g)
structure W2 (X:Cx) (st:List Stmt) (g:Ev->Option Ap):Prop where
 run:Xd X st g
def aF(g1 g2:Ev->Y3 Ap):Ev->Y3 Ap:=λρ=>(g1 ρ).bind λr=>match r with
 |.nx a=>g2 a
 |r=>Z r
section
variable{a b:Expr}{fa fb fc f:Ev->Y3 Bx}{fs:Ev->Y3 (Y Bx)}{AS:Y AB}{g g1 g2:Ev->Y3 Ap}
theorem aG  :W2 X [] (λρ=>Z (.nx ρ)):=⟨GY NA λD σ H h=>by
 obtain⟨H0,ρ,r,E,e,q⟩:=h;cases e;exact q σ H E⟩
theorem aA(h1:Vy X st g1)(h2:W2 X AS g2):W2 X (st::AS) (aF g1 g2):=⟨have h1:=h1.run;have h2:=h2.run;GY (Xb h1 h2) λD σ H h=>by
 obtain⟨H0,ρ,r,E,e,q⟩:=h;obtain⟨c,e1,e⟩:=AT e;refine⟨H0,ρ,c,E,e1,?_⟩;cases c with
 |nx a=>exact λσ' H' d=>⟨H0,a,r,d,e,q⟩
 |rt b=>cases e;exact q
 |bk a=>cases e;exact q
 |ct a=>cases e;exact q⟩
def XS:Bx->Y3 Ap
 |.l _=>O
 |.n _=>O
 |b=>Z (.rt b)
theorem bI(h:QV X e f):Vy X (.Return (Z e) pos) (λρ=>(f ρ).bind XS):=⟨have h:=h.run;XC (Xc h) λD σ H h=>by
 obtain⟨H0,ρ,r,E,e,q⟩:=h;obtain⟨b,eb,e⟩:=AT e;refine⟨H0,ρ,b,E,eb,λv H1 c g a=>?_⟩;cases b with
 |l ds=>cases e
 |z d=>cases e;exact q v H1 (E.base.trans c) trivial a
 |o ds=>cases e;exact q v H1 (E.base.trans c) (g.old E.base) a
 |n ds=>cases e
 |m ds _=>cases e;exact q v H1 (E.base.trans c) (g.old E.base) a⟩
def HJ(i:Nat)(ρ:Ev):Y3 Ap:=match ρ[i]? with
 |some (Z b)=>XS b
 |_=>O
theorem Kf(i:Nat){p:Pos}(j:X.N[i]?=Z x:=by rfl)(k:WY X.env.scope x:=by first|exact ku rfl|exact Jn (ku Y2)|exact Jn (Jn Y2))(hd:ad x:=by decide)(g:(x==("__classdict__":AJ))=false:=by decide):Vy X (.Return (Z (.Name x p)) pos) (HJ i):=⟨XC (Xc (yC j k hd g)) λD σ H h=>by
 obtain⟨H0,ρ,r,E,e,q⟩:=h;unfold HJ at e;split at e
 ·rename_i b c;obtain⟨v,e1,f⟩:=E.val i b c;refine⟨v,e1,?_⟩;cases b with
  |l ds=>cases e
  |z d=>cases e;exact q v H E.base trivial f
  |o ds=>cases e;exact q v H E.base (λa ea=>E.new i _ a c Y2 (by rw[e1,ea])) f
  |n ds=>cases e
  |m ds _=>cases e;exact q v H E.base (λa ea=>E.new i _ a c Y2 (by rw[e1,ea])) f
 ·cases e⟩
def vL(p:Ev->Y3 Bool)(g1 g2:Ev->Y3 Ap):Ev->Y3 Ap:=λρ=>(p ρ).bind λk=>if k=true then g1 ρ else g2 ρ
theorem fM{p:Ev->Y3 Bool}{u v:Y AB}(b:QB X c p)(a:W2 X u g1)(d:W2 X v g2):Vy X (.If c u v pos) (vL p g1 g2):=⟨have b:=b.run;have a:=a.run;have d:=d.run;XC (OO b a d) λD σ H h=>by
 obtain⟨H0,ρ,r,E,e,q⟩:=h;obtain⟨k,ek,e⟩:=AT e;refine⟨H0,ρ,k,E,ek,λH1 f=>?_⟩;cases k with
 |true=>rw[zk rfl]at e ⊢;exact⟨H0,ρ,r,E.grow f,e,q⟩
 |false=>rw[zv ZA]at e ⊢;exact⟨H0,ρ,r,E.grow f,e,q⟩⟩
theorem BF{l:Y α}{x y:α}(h:(l.set i x)[j]?=Z y):(j=i/\y=x/\i<l.length)\/(j≠i/\l[j]?=Z y):=by
 rw[ye]at h;by_cases e:i=j
 ·subst e;rw[zk rfl]at h;split at h
  ·cases h;exact .inl ⟨rfl,rfl,by assumption⟩
  ·cases h
 ·rw[zv e]at h;exact .inr ⟨λz=>e z.symm,h⟩
theorem Fp{l:Y α}(x:α)(h:i<l.length):(l.set i x)[i]?=Z x:=by
 rw[ye,zk rfl,zk h]
theorem Fq{l:Y α}(x:α)(h:j≠i):(l.set i x)[j]?=l[j]?:=by
 rw[ye,zv (kX h)]
theorem bW.set{H1:Hp}{ρ:Ev}{b:Bx}{v:V}(E:bW K H0 H σ ρ)(s:AV H H1)(r:bf K H1 b v)(hl:yE b=true\/loose b=false)(n:Nw H b v):bW K H0 H1 (σ.set i (Z v)) (ρ.set i (Z b)):=by
 have C:=E.grow s;have B:∀(j:Nat) (g:Bx) (a:A1),ρ[j]?=Z (Z g)->loose g=true->σ[j]?=Z (Z (.ref a))->H a≠O:=λj g a e1 e2 e3 z=>by
  obtain⟨G,h,w⟩:=E.val j g e1;rw[e3]at h;cases h;cases g with
  |z d=>cases e2
  |l ds=>
   obtain⟨y,vs,f,q,_⟩:=w;cases f;rcases q with q|⟨o,q⟩<;>(rw[z]at q;cases q)
  |o ds=>
   obtain⟨y,vs,f,q,_⟩:=w;cases f;rw[z]at q;cases q
  |n ds=>
   obtain⟨y,vs,f,q,_⟩:=w;cases f;rcases q with q|⟨o,q⟩<;>(rw[z]at q;cases q)
  |m ds _=>
   obtain⟨y,vs,f,q,_⟩:=w;cases f;rw[z]at q;cases q
 have x:yE b=true->∀a,v=.ref a->H a=O:=λD=>by
  cases b with
  |o ds=>exact n
  |m ds _=>exact n
  |_=>cases D
 refine⟨by rw[kP,kP];exact E.len,λj g e=>?_,λj k c a g e1 p e2 e3 h f=>?_,C.base,λj c a e1 p e2=>?_⟩
 ·rcases BF e with⟨rfl,e',hi⟩|⟨u,e'⟩
  ·cases e';exact⟨v,Fp _ (by rw[E.len];exact hi),r⟩
  ·rw[Fq _ u];exact C.val j g e'
 ·rcases BF e1 with⟨rfl,e',hi⟩|⟨u,e'⟩
  ·cases e';rw[Fp _ (by rw[E.len];exact hi)]at e2;cases e2;rcases BF e3 with⟨rfl,t,_⟩|⟨A,t⟩
   ·rfl
   ·rw[Fq _ A]at f;exact absurd (x p a Y2) (B k g a t h f)
  ·rw[Fq _ u]at e2;rcases BF e3 with⟨rfl,t,hi⟩|⟨A,t⟩
   ·cases t;rw[Fp _ (by rw[E.len];exact hi)]at f;cases f;have F:loose c=true:=by cases c<;>first|rfl|cases p
    rcases hl with hl|hl
    ·exact absurd (x hl a Y2) (B j _ a e' F e2)
    ·rw[hl]at h;cases h
   ·rw[Fq _ A]at f;exact E.own j k c a g e' p e2 t h f
 ·rcases BF e1 with⟨rfl,e',hi⟩|⟨u,e'⟩
  ·cases e';rw[Fp _ (by rw[E.len];exact hi)]at e2;cases e2;exact E.base.free (x p a Y2)
  ·rw[Fq _ u]at e2;exact E.new j c a e' p e2
def X3(ρ:Ev)(i:Nat):Bx->Y3 Ev
 |.l _=>O
 |.n _=>O
 |b=>Z (ρ.set i (Z b))
theorem SC{H1:Hp}{ρ ρ':Ev}{b:Bx}{v:V}(E:bW K H0 H σ ρ)(s:AV H H1)(r:bf K H1 b v)(n:Nw H b v)(e:X3 ρ i b=Z ρ'):bW K H0 H1 (σ.set i (Z v)) ρ':=by
 cases b with
 |l ds=>cases e
 |z d=>cases e;exact E.set s r (.inr Y2) n
 |o d=>cases e;exact E.set s r (.inl Y2) n
 |n ds=>cases e
 |m d _=>cases e;exact E.set s r (.inl Y2) n
theorem bF(i:Nat){p:Pos}(d:X.N.Nodup)(a:QV X e f)(hi:X.N[i]?=Z x:=by rfl)(hx:ED X.env.scope x:=by first|exact ku rfl|exact Jn Y2)(hs:swapsWith e (Z (.Name x p)) pos.line X.env=pure false:=by rfl)(l:X.fn x=true\/X.env.scope.names.lookup x=Z .local:=by first|exact .inl rfl|exact .inr Y2):Vy X (.Assign [.Name x p] e pos) (λρ=>(f ρ).bind λb=>(X3 ρ i b).bind λρ'=>Z (.nx ρ')):=⟨have a:=a.run;XC (Ps d hi hx a hs l) λD σ H h=>by
 obtain⟨H0,ρ,r,E,e,q⟩:=h;obtain⟨b,eb,e⟩:=AT e;obtain⟨ρ',g,e⟩:=AT e;cases e;exact⟨H0,ρ,b,E,eb,λv H1 k c j=>q _ _ (SC E k j c g)⟩⟩
def Lo(σ:L2.St)(ρ:Ev)(σ':L2.St)(ρ':Ev):Prop:=∀(j:Nat) b,loose b=true->ρ'[j]?=Z (Z b)->ρ[j]?=Z (Z b)/\σ'[j]?=σ[j]?
theorem Lo.refl{σ:L2.St}{ρ:Ev}:Lo σ ρ σ ρ:=λ_ _ _ e=>⟨e,rfl⟩
theorem Lo.trans{σ f h:L2.St}{ρ d g:Ev}(a:Lo σ ρ f d)(b:Lo f d h g):Lo σ ρ h g:=λj c l e=>by
 obtain⟨e1,e2⟩:=b j c l e;obtain⟨e3,i⟩:=a j c l e1;exact⟨e3,e2.trans i⟩
theorem Lo.set{ρ:Ev}(i:Nat)(v:V)(d:Dt):Lo σ ρ (σ.set i (Z v)) (ρ.set i (Z (.z d))):=λj b l e=>by
 rcases BF e with⟨rfl,e',_⟩|⟨a,e'⟩
 ·cases e';cases l
 ·exact⟨e',Fq _ a⟩
def L5(K:B8)(g:Dt->Ev->Y3 Ev):TG:=λv σ H Q=>∃H0 ρ d a,bW K H0 H σ ρ/\AW K H d v/\g d ρ=Z a/\∀ σ',bW K H0 H σ' a->Lo σ ρ σ' a->Q σ' H
def EW(X:Cx)(t:Expr)(g:Dt->Ev->Y3 Ev):Prop:=PG X t (L5 X.K g)
structure X4 (X:Cx) (t:Expr) (g:Dt->Ev->Option Ev):Prop where
 run:EW X t g
theorem aR(i:Nat)(f:X.N.Nodup)(hi:X.N[i]?=Z x:=by rfl)(hx:ED X.env.scope x:=by first|exact ku rfl|exact Jn Y2)(c:X.fn x=true\/X.env.scope.names.lookup x=Z .local:=by first|exact .inl rfl|exact .inr Y2):X4 X (.Name x pos) (λd ρ=>Z (ρ.set i (Z (.z d)))):=⟨λAN s σ H v u Q I r h=>by
 obtain⟨H0,ρ,d,g,E,a,e,q⟩:=h;cases e;exact TQ f hi hx c AN s σ H v u Q I r (q _ (E.set (b:=.z d) (AV.refl H) a (.inr Y2) trivial) (Lo.set i v d))⟩
theorem db(i:Nat)(f:X.N.Nodup:=by show List.Nodup (_++_);decide +kernel)(hi:X.N[i]?=Z x:=by rfl)(hx:ED X.env.scope x:=by first|exact ku rfl|exact Jn Y2)(c:X.fn x=true\/X.env.scope.names.lookup x=Z .local:=by first|exact .inl rfl|exact .inr Y2):X4 X (.Name x pos) (λd ρ=>Z (ρ.set i (Z (.z d)))):=aR i f hi hx c
def Sl(K:B8)(g:Y Dt->Ev->Y3 Ev):DV:=λvs σ H Q=>∃H0 ρ ds a,bW K H0 H σ ρ/\aH K H ds vs/\g ds ρ=Z a/\∀ σ',bW K H0 H σ' a->Lo σ ρ σ' a->Q σ' H
def UI(X:Cx)(t:Y Expr)(g:Y Dt->Ev->Y3 Ev):Prop:=L2.Xd X t (Sl X.K g)
structure FH (X:Cx) (t:List Expr) (g:List Dt->Ev->Option Ev):Prop where
 run:UI X t g
def uX:Y Dt->Ev->Y3 Ev
 |[],ρ=>Z ρ
 |_,_=>O
def cY(g:Dt->Ev->Y3 Ev)(gs:Y Dt->Ev->Y3 Ev):Y Dt->Ev->Y3 Ev
 |d::ds,ρ=>(g d ρ).bind (gs ds)
 |_,_=>O
theorem nD  :FH X [] uX:=⟨λAN s σ H vs us Q I r h=>by
 obtain⟨H0,ρ,ds,b,E,a,e,q⟩:=h;cases ds with
 |nil=>cases e;unfold aH at a;exact RC AN s σ H vs us Q I r ⟨a,q _ E Lo.refl⟩
 |cons d ds=>cases e⟩
theorem cj{t:Expr}{ts:Y Expr}{gt:Dt->Ev->Y3 Ev}{gs:Y Dt->Ev->Y3 Ev}(h1:X4 X t gt)(h2:FH X ts gs)(hs:(assignEach (t::ts) X.env).map (·.2)=assign t X.env::(assignEach ts X.env).map (·.2):=by rfl):FH X (t::ts) (cY gt gs):=⟨have h1:=h1.run;have h2:=h2.run;λAN s σ H vs us Q I r h=>by
 obtain⟨H0,ρ,ds,n,E,b,e,q⟩:=h;cases ds with
 |nil=>cases e
 |cons d ds=>
  unfold aH at b;obtain⟨v,c,rfl,k,l⟩:=b;simp only[cY]at e;obtain⟨a,e1,e⟩:=AT e;exact Xe h1 h2 hs AN s σ H _ us Q I r ⟨v,c,rfl,H0,ρ,d,a,E,k,e1,λo m g=>⟨H0,a,ds,n,m,l,e,λj i f=>q j i (g.trans f)⟩⟩⟩
def qH(n:Nat)(gs:Y Dt->Ev->Y3 Ev):Dt->Ev->Y3 Ev
 |.tup ds,ρ=>if ds.length=n then gs ds ρ else O
 |_,_=>O
theorem rQ{ts:Y Expr}{gs:Y Dt->Ev->Y3 Ev}(j:X.calm=true)(h:FH X ts gs)(f:(assignEach ts X.env).length=n:=by rfl)(g:(assignEach ts X.env).findIdx? (·.1)=O:=by rfl):X4 X (.Tuple ts k pos) (qH n gs):=⟨have h:=h.run;λAN s σ H v u Q I r i=>by
 obtain⟨H0,ρ,d,m,E,c,e,q⟩:=i;cases d with
 |tup ds=>
  simp only[qH]at e;split at e
  ·rename_i hl;unfold AW at c;obtain⟨a,vs,rfl,l,b⟩:=c;exact RF j h f g AN s σ H _ u Q I r ⟨a,vs,rfl,l,by rw[b.length];exact hl,H0,ρ,ds,m,E,b,e,q⟩
  ·cases e
 |_=>cases e⟩
theorem Rv{gt:Dt->Ev->Y3 Ev}(a:QV X e f)(c:X4 X tg gt)(hs:swapsWithSole [tg] e pos.line X.env=pure false:=by rfl)(g:swappedStores [tg] e X.env=pure O:=by rfl)(h1:(assignEach [tg] X.env).map (·.2)=[assign tg X.env]:=by rfl):Vy X (.Assign [tg] e pos) (λρ=>(f ρ).bind λb=>match b with|.z d=>(gt d ρ).bind λρ'=>Z (.nx ρ')|_=>O):=⟨have a:=a.run;have c:=c.run;XC (RA a c hs g h1) λD σ H h=>by
 obtain⟨H0,ρ,r,E,e,q⟩:=h;obtain⟨b,eb,e⟩:=AT e;refine⟨H0,ρ,b,E,eb,λv H1 k m j=>?_⟩;cases b with
 |z d=>
  obtain⟨ρ',i,e⟩:=AT e;cases e;exact⟨H0,ρ,d,ρ',E.grow k,j,i,λσ' l _=>q _ _ l⟩
 |_=>cases e⟩
def FR(i j:Nat)(ρ:Ev):Y Bx->Y3 Ap
 |[.z d,.z d']=>Z (.nx ((ρ.set i (Z (.z d))).set j (Z (.z d'))))
 |_=>O
theorem X5(i j:Nat){px py pt:Pos}{kt k2 pt2}(m:X.calm=true)(n:X.N.Nodup)(c:T3 X [a,b] fs)(hi:X.N[i]?=Z x:=by rfl)(v:X.N[j]?=Z y:=by rfl)(l:i≠j:=by decide)(hx:X.env.scope.names.lookup x=Z .local:=by rfl)(f:X.env.scope.names.lookup y=Z .local:=by rfl)(g:swappedStores [.Tuple [.Name x px,.Name y py] kt pt] (.Tuple [a,b] k2 pt2) X.env=pure (Z [x,y]):=by rfl)(hs:swapsWithSole [.Tuple [.Name x px,.Name y py] kt pt] (.Tuple [a,b] k2 pt2) pos.line X.env=pure false:=by rfl):Vy X (.Assign [.Tuple [.Name x px,.Name y py] kt pt] (.Tuple [a,b] k2 pt2) pos) (λρ=>(fs ρ).bind (FR i j ρ)):=⟨have c:=c.run;XC (T0 m n hi v l hx f c g hs) λD σ H h=>by
 obtain⟨H0,ρ,r,E,e,q⟩:=h;obtain⟨bs,eb,e⟩:=AT e;refine⟨H0,ρ,bs,E,eb,λvs H1 s o=>?_⟩;unfold FR at e;split at e
 ·rename_i d k;cases e;cases o with
  |cons p t=>
   cases t with
   |cons p' u=>
    cases u;refine⟨_,_,rfl,q _ _ ?_⟩;exact((E.grow s).set (b:=.z d) (AV.refl H1) p (.inr Y2) trivial).set (b:=.z k) (AV.refl H1) p' (.inr Y2) trivial
 ·cases e⟩
def Fs(ρ:Ev)(i:Nat):Bx->Y3 Ap
 |.z d=>match ρ[i]? with
  |some (Z (.o ds))=>if ds.length<AA then Z (.nx (ρ.set i (Z (.o (ds++[d])))))else O
  |_=>O
 |_=>O
theorem bW.aja{ρ:Ev}{w c1:Bx}{a:A1}{u:HO}(E:bW K H0 H σ ρ)(h:ρ[i]?=Z (Z w))(x:yE w=true)(hs:σ[i]?=Z (Z (.ref a)))(k:Kp H (BA H a u))(r:bf K (BA H a u) c1 (.ref a)):
  bW K H0 (BA H a u) σ (ρ.set i (Z c1)):=by
 have hi:i<ρ.length:=(ca.mp h).1;have L:H0 a=O:=E.new i w a h x hs;have lo:∀c,yE c=true->loose c=true:=λc M=>by cases c<;>first|rfl|cases M
 refine⟨by rw[kP];exact E.len,λj y e=>?_,λj G c f y e1 A e2 e3 I J=>?_,λc o e=>?_,λj c f e1 A e2=>?_⟩
 ·rcases BF e with⟨rfl,e',_⟩|⟨D,e'⟩
  ·cases e';exact⟨_,hs,r⟩
  ·obtain⟨v,e1,t⟩:=E.val j y e';refine⟨v,e1,?_⟩;have B:∀f,v=.ref f->loose y=true->f≠a:=λf ev hl z=>by
    subst z;exact D (E.own i j w _ _ h x hs e' hl (by rw[e1,ev])).symm
   cases y with
   |z d=>exact AW.kp k t
   |l C=>
    obtain⟨f,s,rfl,q,p⟩:=t;refine⟨f,s,rfl,?_,p.kp k⟩;have g:=B f Y2 rfl;rcases q with q|⟨o,q⟩
    ·exact .inl (by rw[aM g];exact q)
    ·exact .inr ⟨o,by rw[aM g];exact q⟩
   |o C=>
    obtain⟨f,s,rfl,q,p⟩:=t;have g:=B f Y2 rfl;exact⟨f,s,rfl,by rw[aM g];exact q,p.kp k⟩
   |n C=>
    obtain⟨f,s,rfl,q,p⟩:=t;refine⟨f,s,rfl,?_,p.kp k⟩;have g:=B f Y2 rfl;rcases q with q|⟨o,q⟩
    ·exact .inl (by rw[aM g];exact q)
    ·exact .inr ⟨o,by rw[aM g];exact q⟩
   |m C=>
    obtain⟨f,s,rfl,q,p⟩:=t;have g:=B f Y2 rfl;exact⟨f,s,rfl,by rw[aM g];exact q,p.1.kp k,p.2⟩
 ·have F:∀(m:Nat) (b:Bx),(ρ.set i (Z c1))[m]?=Z (Z b)->loose b=true->∃b0,ρ[m]?=Z (Z b0)/\loose b0=true/\(yE b=true->yE b0=true):=λm b e l=>by
   rcases BF e with⟨rfl,e',_⟩|⟨D,e'⟩
   ·exact⟨_,h,lo _ x,λ_=>x⟩
   ·exact⟨b,e',l,λz=>z⟩
  obtain⟨b0,q1,q2,q3⟩:=F j _ e1 (lo _ A);obtain⟨b1,N,P,_⟩:=F G _ e3 I;exact E.own j G b0 f b1 q1 (q3 A) e2 N P J
 ·rw[aM (cH e L)];exact E.base c o e
 ·rcases BF e1 with⟨rfl,e',_⟩|⟨D,e'⟩
  ·exact E.new _ w f h x e2
  ·exact E.new j c f e' A e2
theorem bW.Rp{ρ:Ev}{ds es:Y Dt}{a:A1}{us:Y V}(E:bW K H0 H σ ρ)(h:ρ[i]?=Z (Z (.o ds)))(hs:σ[i]?=Z (Z (.ref a)))(b:H a=Z (.lst vs))(r:aH K H es us):
  bW K H0 (BA H a (.lst us)) σ (ρ.set i (Z (.o es))):=E.aja h Y2 hs (.lst b) ⟨a,us,rfl,bH,r.kp (.lst b)⟩
theorem pZ(i:Nat){p:Pos}(g:QV X e f)(t:X.N[i]?=Z x:=by rfl)(B:WY X.env.scope x:=by first|exact ku rfl|exact Jn (ku Y2)|exact Jn (Jn Y2))(hd:ad x:=by decide)(o:(x==("__classdict__":AJ))=false:=by decide)(k:A9 [e] X.env=[(false,eval e X.env)]:=by rfl)(s:attributeBase (.Name x p) "append" X.env (eval (.Name x p) X.env)=eval (.Name x p) X.env:=by rfl)(A:((AD cpos (A9 [e] X.env)).all (λx=>!x.1)&&(backToKw cpos (keywordEach [] X.env)).all (λx=>x.1.isSome)&&decide ([e].length+([]:Y AC).length+(if([]:Y AC).isEmpty then 0 else 1)<30))=true:=by rfl)(n:(apos.endLine==cpos.line)=true:=by rfl)(hs:swapsWith (.Call (.Attribute (.Name x p) "append" apos) [e] [] cpos) O pos.line X.env=pure false:=by rfl):Vy X (.Expr (.Call (.Attribute (.Name x p) "append" apos) [e] [] cpos) pos) (λρ=>(f ρ).bind (Fs ρ i)):=⟨have g:=g.run;XC (J5 (Xq yT PySem.F.slot_list_append PySem.F.type_list_append Jb (yC (i:=i) t B hd o) (iR g ud (by rw[k]<;>rfl)) s A n (by rw[k]<;>rfl) Y2) hs) λD σ H h=>by
  obtain⟨H0,ρ,r,E,e,q⟩:=h;obtain⟨b,eb,e⟩:=AT e;cases b with
  |z d=>
   simp only[Fs]at e;split at e
   ·rename_i ds m;split at e
    ·rename_i hl;cases e;obtain⟨v,e1,a,vs,rfl,j,l⟩:=E.val i _ m;refine⟨_,e1,.inl ⟨rfl,vs,.inl (.inl j)⟩,H0,ρ,_,E,eb,λu H1 c C w=>?_⟩;have y:=E.grow c;refine⟨a,vs,u,rfl,rfl,c _ _ j,by rw[l.length];exact hl,q _ _ ?_⟩;exact y.Rp m e1 (c _ _ j) ((l.kp (.of c)).append (aH.cons w aH.nil))
    ·cases e
   ·cases e
  |_=>cases e⟩
end
def HQ(x:AJ):It:=⟨λi _=>i<x.cps.size,λi H v H'=>H'=H/\∃c,x.cps[i]?=Z c/\v=.str ⟨#[c]⟩,λi _=>x.cps.size<=i⟩
def OC(h:A6)(it:A1)(x:AJ)(i:Nat):Prop:=∃t,h.IsStrIter it "str_ascii_iterator" x t i\/h.IsStrIter it "str_iterator" x t i
theorem NT(it:A1)(x:AJ):CD P w K tg (HQ x) [it] it (λi h=>OC h it x i) where
 mem:=by simp
 obj:=λi h st b a=>by
  have e:b=it:=by simpa using a
  subst e;obtain⟨t,⟨o,e,c,d⟩|⟨o,e,c,d⟩⟩:=st
  ·exact⟨o,e,λv z=>by rw[d]at z;cases z⟩
  ·exact⟨o,e,λv z=>by rw[d]at z;cases z⟩
 keep:=λi h h' st k=>by
  obtain⟨t,⟨o,e,c⟩|⟨o,e,c⟩⟩:=st
  ·exact⟨t,.inl ⟨o,k it (by simp) o e,c⟩⟩
  ·exact⟨t,.inr ⟨o,k it (by simp) o e,c⟩⟩
 item:=by
  intro X m n y p i AN s σ H E I l st q;subst m n y;obtain⟨f0,f1,f2,f3,g,j⟩:=l it (by simp);have hi:i<x.cps.size:=q;have hx:x.cps[i]?=Z x.cps[i]:=by simp[hi]
  obtain⟨t,st|st⟩:=st
  ·refine wpAny_pyNext_ascii_item st hx λh' f A=>?_;have u:L2.AU X AN σ H { s with heap:=h',toks:=s.toks+1 }:=I.turned (λb o a e=>(A.2 b a).trans e) f0 f1 f3 g j;obtain⟨o,e,c,d⟩:=id f;exact⟨_,rfl,Nu (s:={ s with heap:=h',toks:=s.toks+1 }) e c d () ⟨.str ⟨#[x.cps[i]]⟩,H,u,⟨_,rfl⟩,⟨rfl,_,hx,rfl⟩,⟨t,.inl f⟩,λb a=>(l b a).1⟩⟩
  ·refine wpAny_pyNext_wide_item st hx λh' f A=>?_;have u:L2.AU X AN σ H { s with heap:=h',toks:=s.toks+1 }:=I.turned (λb o a e=>(A.2 b a).trans e) f0 f1 f3 g j;obtain⟨o,e,c,d⟩:=id f;exact⟨_,rfl,Nu (s:={ s with heap:=h',toks:=s.toks+1 }) e c d () ⟨.str ⟨#[x.cps[i]]⟩,H,u,⟨_,rfl⟩,⟨rfl,_,hx,rfl⟩,⟨t,.inr f⟩,λb a=>(l b a).1⟩⟩
 done:=by
  intro X m n y p i AN s σ H E I l st q;subst m n y;obtain⟨f0,f1,f2,f3,g,j⟩:=l it (by simp);have hx:x.cps[i]?=O:=by have:x.cps.size<=i:=q;simp[this]
  obtain⟨t,st|st⟩:=st
  ·exact wpAny_pyNext_ascii_end (I.ok.hd p) st hx λh' eb=>⟨rfl,I.turned (t':=s.toks) (λb o a e=>eb b o a e) f0 f1 f3 g j⟩
  ·exact wpAny_pyNext_wide_end (I.ok.hd p) st hx λh' eb=>⟨rfl,I.turned (t':=s.toks) (λb o a e=>eb b o a e) f0 f1 f3 g j⟩
 self:=λ_ _ _ _ _ st h=>by
  obtain⟨t,st|st⟩:=st
  ·exact wpAny_pyIter_striter_ascii st h
  ·exact wpAny_pyIter_striter_wide st h
def NC(K:B8)(tl:TE):TI:=λσ H R=>tl σ H λx H1=>(∃a,x=.ref a/\(∃xs,qC K H1 a xs)/\R (Fh K a) H1)\/(∃a,x=.ref a/\(∃xs,tX K H1 a xs)/\R (IF K a) H1)\/∃y,x=.str y/\R (HQ y) H1
theorem Rw{l:Expr}{tl:TE}(hl:PE X l tl):PI X tg l (NC X.K tl):=by
 intro AN s σ H R I h;refine jF (hl AN s σ H _ I h) λv s1 ⟨x,H1,I1,r1,q1⟩=>?_;have c:∀(o:AE) (b:A1),b∈[s1.heap.objs.size]->sH X AN H1 b:=λo b g=>by
  have e:b=s1.heap.objs.size:=by simpa using g
  subst e;exact I1.Nt (zi _) (I1.hok.fresh (zi _))
 rcases q1 with⟨a,e,⟨xs,d⟩,q⟩|⟨a,e,⟨xs,d⟩,q⟩|⟨y,e,q⟩
 ·subst e;cases r1;obtain⟨AQ,j,p,i⟩:=I1.list d;refine wpAny_pyIter_list p.isList ?_;exact⟨s1.heap.objs.size,[s1.heap.objs.size],_,_,H1,rfl,I1.kept (t':=s1.toks) λb o e=>zg _ e,Vm a _,⟨_,zS _ rfl,rfl,rfl⟩,c default,q⟩
 ·subst e;cases r1;obtain⟨AQ,j,p,i⟩:=I1.tuple d;refine KW (show s1.heap.IsTuple a AQ.toArray from p) ?_;exact⟨s1.heap.objs.size,[s1.heap.objs.size],_,_,H1,rfl,I1.kept (t':=s1.toks) λb o e=>zg _ e,Rf a _,⟨_,zS _ rfl,rfl,rfl⟩,c default,q⟩
 ·subst e;obtain⟨t,rfl⟩:=r1;cases f:y.cps.all (· < 128)with
  |true=>
   refine wpAny_pyIter_ascii f ?_;exact⟨s1.heap.objs.size,[s1.heap.objs.size],_,_,H1,rfl,I1.kept (t':=s1.toks) λb o e=>zg _ e,NT _ y,⟨t,.inl ⟨_,zS _ rfl,rfl,rfl⟩⟩,c default,q⟩
  |false=>
   refine wpAny_pyIter_wide f ?_;exact⟨s1.heap.objs.size,[s1.heap.objs.size],_,_,H1,rfl,I1.kept (t':=s1.toks) λb o e=>zg _ e,NT _ y,⟨t,.inr ⟨_,zS _ rfl,rfl,rfl⟩⟩,c default,q⟩
def B7(K:B8)(J:It)(ds:Y Dt)(Hs:Hp):Prop:=∀(i:Nat) (H:Hp),AV Hs H →
 (∀d,ds[i]?=Z d->J.go i H/\∀x H',J.yld i H x H'->AV H H'/\AW K H' d x)/\(ds.length<=i->J.stop i H)
theorem B7.of{ds:Y Dt}(h:∀(i:Nat) (H:Hp),AV Hs H →
  (∀d,ds[i]?=Z d->J.go i H/\∀x H',J.yld i H x H'->H'=H/\AW K H d x)/\(ds.length<=i->J.stop i H)):B7 K J ds Hs:=λi H s=>
 ⟨λd e=>⟨((h i H s).1 d e).1,λx H' y=>by
  obtain⟨rfl,r⟩:=((h i H s).1 d e).2 x H' y;exact⟨AV.refl _,r⟩⟩,(h i H s).2⟩
def BI(x:AJ):Y Dt:=x.cps.toList.map λc=>.str ⟨#[c]⟩
theorem B7.list{ds:Y Dt}(h:qC K Hs a vs)(r:aH K Hs ds vs):B7 K (Fh K a) ds Hs:=.of λi H s=>by
 have h':=s.seq h;have c:=r.kp (.of s);refine⟨λd e=>?_,λe=>⟨vs,h',by rw[r.length];exact e⟩⟩;obtain⟨v,ev,b⟩:=c.get e;refine⟨⟨vs,v,h',ev⟩,λx H' y=>?_⟩;obtain⟨y1,y2⟩:=y;have:=y2 vs h';rw[ev]at this;cases this;exact⟨y1,b⟩
theorem B7.tup{ds:Y Dt}(h:tX K Hs a vs)(r:aH K Hs ds vs):B7 K (IF K a) ds Hs:=.of λi H s=>by
 have h':=(Kp.of s).sqT h;have c:=r.kp (.of s);refine⟨λd e=>?_,λe=>⟨vs,h',by rw[r.length];exact e⟩⟩;obtain⟨v,ev,b⟩:=c.get e;refine⟨⟨vs,v,h',ev⟩,λx H' y=>?_⟩;obtain⟨y1,y2⟩:=y;have:=y2 vs h';rw[ev]at this;cases this;exact⟨y1,b⟩
theorem B7.str(x:AJ):B7 K (HQ x) (BI x) Hs:=.of λi H s=>by
 refine⟨λd e=>?_,λe=>?_⟩
 ·unfold BI at e;rw[qB]at e;cases h:x.cps.toList[i]? with
  |none=>rw[h]at e;cases e
  |some c=>
   rw[h]at e;cases e;have b:x.cps[i]?=Z c:=by simpa using h
   have hi:i<x.cps.size:=by
    have:=(ca.mp h).1;simpa using this
   refine⟨hi,λv H' y=>?_⟩;obtain⟨y1,c',a,rfl⟩:=y;rw[b]at a;cases a;refine⟨y1,?_⟩;unfold AW;exact⟨rfl,by show(1:Nat)<=AA;decide⟩
 ·have:(BI x).length=x.cps.size:=by simp[BI]
  show x.cps.size<=i;omega
def Kg(lo:Int)(n:Nat):Y Dt:=(da n).map λk=>.int (lo+(k:Nat))
theorem B7.rng(lo:Int)(n:Nat):B7 K (F7 lo n) (Kg lo n) Hs:=.of λi H s=>by
 refine⟨λd e=>?_,λe=>?_⟩
 ·unfold Kg at e;rw[qB]at e;by_cases hi:i<n
  ·rw[gS hi]at e;cases e;refine⟨hi,λv H' y=>?_⟩;obtain⟨y1,y2⟩:=y;refine⟨y1,?_⟩;unfold AW;exact y2
  ·rw[dy (by simp;omega)]at e;cases e
 ·have:(Kg lo n).length=n:=by simp[Kg]
  show n<=i;omega
def iF(K:B8)(f:Ev->Y3 (Y Dt)):TI:=λσ H R=>∃H0 ρ ds,bW K H0 H σ ρ/\f ρ=Z ds/\∀J H',AV H H' →
 (∀Hs,AV Hs H'->(∀a,H a=O->Hs a=H' a)->(∀a o u,H' a=Z (.oJ o u)->Hs a=H' a)->(∀a vs,H' a=Z (.tup vs)->Hs a=H' a)->B7 K J ds Hs)->R J H'
def IX(X:Cx)(tg iter:Expr)(f:Ev->Y3 (Y Dt)):Prop:=PI X tg iter (iF X.K f)
structure EA (X:Cx) (tg iter:Expr) (f:Ev->Option (List Dt)):Prop where
 run:IX X tg iter f
def X6:Bx->Y3 (Y Dt)
 |.z (.lst ds)=>Z ds
 |.z (.tup ds)=>Z ds
 |.z (.str x)=>Z (BI x)
 |.o ds=>Z ds
 |_=>O
section
variable{f:Ev->Y3 Bx}{fs:Ev->Y3 (Y Bx)}
mutual
theorem AW.part{K:B8}{H Hs:Hp}(b:∀a o u,H a=Z (.oJ o u)->Hs a=H a)(c:∀a vs,H a=Z (.tup vs)->Hs a=H a):∀{d:Dt} {v:V},AW K H d v->AW K Hs d v
 |.non,_,h=>by simpa only[AW]using h
 |.bl _,_,h=>by simpa only[AW]using h
 |.int _,_,h=>by simpa only[AW]using h
 |.str _,_,h=>by simpa only[AW]using h
 |.tup ds,_,h=>by
  simp only[AW]at h ⊢;obtain⟨a,vs,e,q,r⟩:=h;refine⟨a,vs,e,?_,aH.part b c r⟩;rcases q with (q|⟨o,q⟩)|q
  ·exact .inl (.inl ((c _ _ q).trans q))
  ·exact .inl (.inr ⟨o,(b _ _ _ q).trans q⟩)
  ·exact .inr q
 |.lst ds,_,h=>by
  simp only[AW]at h ⊢;obtain⟨a,vs,e,q,r⟩:=h;refine⟨a,vs,e,?_,aH.part b c r⟩;rcases q with⟨o,q⟩|q
  ·exact .inl ⟨o,(b _ _ _ q).trans q⟩
  ·exact .inr q
 |.emp,_,h=>by
  simp only[AW]at h ⊢;obtain⟨a,o,e,q⟩:=h;exact⟨a,o,e,(b _ _ _ q).trans q⟩
theorem aH.part{K:B8}{H Hs:Hp}(b:∀a o u,H a=Z (.oJ o u)->Hs a=H a)(c:∀a vs,H a=Z (.tup vs)->Hs a=H a):∀{ds:Y Dt} {vs:Y V},aH K H ds vs->aH K Hs ds vs
 |[],_,h=>by simpa only[aH]using h
 |d::ds,_,h=>by
  simp only[aH]at h ⊢;obtain⟨v,r,e,q,t⟩:=h;exact⟨v,r,e,AW.part b c q,aH.part b c t⟩
end
theorem Kh(h:QV X e f):EA X tg e (λρ=>(f ρ).bind X6):=⟨have h:=h.run;λAN s σ H R I q=>by
 refine Rw h AN s σ H R I ?_;obtain⟨H0,ρ,ds,E,e,q⟩:=q;obtain⟨b,eb,e⟩:=AT e;refine⟨H0,ρ,b,E,eb,λv H1 u y i=>?_⟩;cases b with
 |z d=>
  cases d with
  |tup p=>
   cases e;simp only[bf,AW]at i;obtain⟨a,vs,rfl,c,k⟩:=i;refine .inr (.inl ⟨a,rfl,⟨vs,c⟩,q _ _ u λHs w t g j=>.tup ?_ (k.part g j)⟩);rcases c with (c|⟨o,c⟩)|c
   ·exact .inl (.inl ((j _ _ c).trans c))
   ·exact .inl (.inr ⟨o,(g _ _ _ c).trans c⟩)
   ·exact .inr c
  |lst p=>
   cases e;simp only[bf,AW]at i;obtain⟨a,vs,rfl,c,k⟩:=i;refine .inl ⟨a,rfl,⟨vs,c.sq⟩,q _ _ u λHs w t g j=>.list ?_ (k.part g j)⟩;rcases c with⟨o,c⟩|c
   ·exact .inl (.inr ⟨o,(g _ _ _ c).trans c⟩)
   ·exact .inr c
  |str x=>
   cases e;simp only[bf,AW]at i;obtain⟨rfl,_⟩:=i;exact .inr (.inr ⟨x,rfl,q _ _ u λHs w t g j=>.str x⟩)
  |_=>cases e
 |l p=>cases e
 |n p=>cases e
 |m p=>cases e
 |o p=>
  cases e;obtain⟨a,vs,rfl,c,k⟩:=i;refine .inl ⟨a,rfl,⟨vs,.inl (.inl c)⟩,q _ _ u λHs w t g j=>.list (.inl (.inl ((t a (y a Y2)).trans c))) (k.part g j)⟩⟩
def IH:Y Bx->Y3 (Y Dt)
 |[.z (.int j)]=>if -(2 ^ 62)<=j/\j<2 ^ 62 then Z (Kg 0 j.toNat)else O
 |_=>O
theorem jJ{p:Pos}(c:Gl X "range")(g:X.mg "range"=O)(a:T3 X [e] fs)(hs:A9 [e] X.env=[(false,eval e X.env)]:=by rfl):EA X tg (.Call (.Name "range" p) [e] [] pos) (λρ=>(fs ρ).bind IH):=⟨have a:=a.run;λAN s σ H R I q=>by
 refine Vn c g a hs AN s σ H R I ?_;obtain⟨H0,ρ,ds,E,e,q⟩:=q;obtain⟨bs,eb,e⟩:=AT e;refine⟨H0,ρ,bs,E,eb,λvs H1 f d=>?_⟩;unfold IH at e;split at e
 ·rename_i j;split at e
  ·rename_i b;cases e;cases d with
   |cons p t=>
    cases t;simp only[bf,AW]at p;subst p;exact⟨j,rfl,b.1,b.2,q _ _ f λHs _ _ _ _=>.rng 0 _⟩
  ·cases e
 ·cases e⟩
def vM(gt:Dt->Ev->Y3 Ev)(gb:Ev->Y3 Ap):Y Dt->Ev->Y3 Ap
 |[],ρ=>Z (.nx ρ)
 |d::ds,ρ=>(gt d ρ).bind λc=>(gb c).bind λr=>match r with
  |.nx a=>vM gt gb ds a
  |.ct a=>vM gt gb ds a
  |.bk a=>Z (.nx a)
  |.rt b=>Z (.rt b)
noncomputable def gF(H:Hp)(σ:L2.St)(ρ:Ev):Hp:=λa=>@ite _ (∃(i:Nat) (c:Bx),ρ[i]?=Z (Z c)/\yE c=true/\σ[i]?=Z (Z (.ref a))) (Classical.propDecidable _) O (H a)
theorem zB{ρ:Ev}:AV (gF H σ ρ) H:=λa o e=>by
 unfold gF at e;split at e
 ·cases e
 ·exact e
theorem bW.rebase{ρ:Ev}(E:bW K Hs H σ ρ)(s:AV H0 Hs):bW K H0 H σ ρ:=⟨E.len,E.val,E.own,s.trans E.base,λi c a e1 b e2=>s.free (E.new i c a e1 b e2)⟩
theorem bW.sans{ρ:Ev}(E:bW K H0 H σ ρ):bW K (gF H σ ρ) H σ ρ:=⟨E.len,E.val,E.own,zB,λi c a e1 b e2=>by
 unfold gF;rw[zk ⟨i,c,e1,b,e2⟩]⟩
theorem bW.sub{ρ:Ev}(E:bW K H0 H σ ρ):AV H0 (gF H σ ρ):=λa o e=>by
 unfold gF;split
 ·rename_i h;obtain⟨i,c,e1,b,e2⟩:=h;rw[E.new i c a e1 b e2]at e;cases e
 ·exact E.base a o e
theorem jl{ρ:Ev}(E:bW K H0 H σ ρ)(h:∀vs,H a≠Z (.lst vs))(h2:∀vs,H a≠Z (.dK vs)):gF H σ ρ a=H a:=by
 unfold gF;split
 ·rename_i f;obtain⟨i,c,e1,e,e2⟩:=f;obtain⟨v,e3,d⟩:=E.val i _ e1;rw[e2]at e3;cases e3;cases c with
  |o ds=>obtain⟨g,vs,b,q,_⟩:=d;cases b;exact absurd q (h vs)
  |m ds _=>obtain⟨g,vs,b,q,_⟩:=d;cases b;exact absurd q (h2 vs)
  |_=>cases e
 ·rfl
theorem XR.rebase{K:B8}{H0 Hs:Hp}{D:CA}{r:Ap}(s:AV H0 Hs)(h:XR K H0 D r):XR K Hs D r:=by
 cases r with
 |nx ρ=>exact λσ H E=>h σ H (E.rebase s)
 |bk ρ=>exact λσ H E=>h σ H (E.rebase s)
 |ct ρ=>exact λσ H E=>h σ H (E.rebase s)
 |rt b=>exact λv H s' n r=>h v H (s.trans s') (n.old s) r
theorem sU{gt:Dt->Ev->Y3 Ev}{gb:Ev->Y3 Ap}{ds:List Dt}{H1:Hp}{ρ:Ev}{D:CA}{r:Ap}(k:bW X.K H0 H1 σ ρ)(Y:B7 X.K J ds (gF H1 σ ρ))(e:vM gt gb ds ρ=Z r)(q:XR X.K H0 D r):
  ∃W:Nat->Nat->L2.St->Hp->Prop,(∃m,W 0 m σ H1)/\∀i m σ H,W i m σ H →
   (J.stop i H/\D.nx σ H)\/(J.go i H/\∃N:L2.St->Hp->Prop,(∀ σ' H',N σ' H'->∃o,o<m/\W (i+1) o σ' H')/\∀x H',J.yld i H x H'->L5 X.K gt x σ H' λc H2=>tG X.K gb { D with nx:=N,ct:=N,bk:=D.nx } c H2):=by
 have p:=k.sans;have q2:=q.rebase k.sub;generalize gF H1 σ ρ=Hs at Y p q2;refine⟨λi m σ' H'=>m=ds.length-i/\i<=ds.length/\∃d,bW X.K Hs H' σ' d/\vM gt gb (ds.drop i) d=Z r,⟨ds.length,by simp,qr _,ρ,p,by simpa using e⟩,?_⟩;rintro i m σ' H' ⟨rfl,A,d,g,e'⟩;obtain⟨y1,y2⟩:=Y i H' g.base;by_cases f:i<ds.length
 ·right;have hd:ds[i]?=Z ds[i]:=by simp[f]
  obtain⟨go,v⟩:=y1 _ hd;rw[K2 f]at e';simp only[vM]at e';obtain⟨l,e1,e'⟩:=AT e';obtain⟨s,e2,e'⟩:=AT e';refine⟨go,λc H2=>∃a,bW X.K Hs H2 c a/\vM gt gb (ds.drop (i+1)) a=Z r,λc H2 ⟨a,h,e3⟩=>⟨ds.length-(i+1),by omega,rfl,f,a,h,e3⟩,λx H2 w=>?_⟩;obtain⟨t,u⟩:=v x H2 w;refine⟨Hs,d,ds[i],l,g.grow t,u,e1,λz h _=>⟨Hs,l,s,h,e2,?_⟩⟩;cases s with
  |nx a=>exact λc y j=>⟨a,j,e'⟩
  |ct a=>exact λc y j=>⟨a,j,e'⟩
  |bk a=>cases e';exact q2
  |rt b=>cases e';exact q2
 ·left;have n:ds.length<=i:=by omega
  refine⟨y2 n,?_⟩;rw[Kb n]at e';cases e';exact q2 σ' H' g
theorem rR{fi:Ev->Y3 (Y Dt)}{gt:Dt->Ev->Y3 Ev}{gb:Ev->Y3 Ap}(hp:PassesOwn (cr X) X.A X.env X.xe)(t:X.calm=true)(hi:EA X tg iter fi)(g:X4 X tg gt)(f:W2 X body gb)(hs:∀x,foldedSetIterable iter X.env x=pure x:=by intro _;rfl):Vy X (.For tg iter body [] pos) (λρ=>(fi ρ).bind λds=>vM gt gb ds ρ):=⟨have hi:=hi.run;have g:=g.run;have f:=f.run;XC (Xg hp t hi g f hs) λD σ H h=>by
 obtain⟨H0,ρ,r,E,e,q⟩:=h;obtain⟨ds,s,e⟩:=AT e;refine⟨H0,ρ,ds,E,s,λJ H1 B y=>?_⟩;have j:=E.grow B;refine sU j ?_ e q;refine y _ zB (λa b=>?_) (λa o u b=>jl j (λvs z=>by rw[b]at z;cases z) (λvs z=>by rw[b]at z;cases z)) λa vs b=>jl j (λvs z=>by rw[b]at z;cases z) (λvs z=>by rw[b]at z;cases z);unfold gF;split
 ·rename_i n;obtain⟨i,c,e1,l,e2⟩:=n;obtain⟨v,e3,k⟩:=E.val i _ e1;rw[e2]at e3;cases e3;cases c with
  |o ds=>obtain⟨p,vs,d,q,_⟩:=k;cases d;rw[b]at q;cases q
  |m ds _=>obtain⟨p,vs,d,q,_⟩:=k;cases d;rw[b]at q;cases q
  |_=>cases l
 ·rfl⟩
theorem bW.lend{ρ:Ev}{ds:Y Dt}(E:bW K H0 H σ ρ)(h:ρ[i]?=Z (Z (.o ds))):bW K H0 H σ (ρ.set i (Z (.l ds))):=by
 have g:∀(j:Nat) (b:Bx),(ρ.set i (Z (.l ds)))[j]?=Z (Z b)->(j=i/\b=.l ds)\/(j≠i/\ρ[j]?=Z (Z b)):=λj b e=>by
  rcases BF e with⟨rfl,e',_⟩|⟨f,e'⟩
  ·cases e';exact .inl ⟨rfl,rfl⟩
  ·exact .inr ⟨f,e'⟩
 refine⟨by rw[kP];exact E.len,λj b e=>?_,λj k c a b e1 d e2 e3 n m=>?_,E.base,λj c a e1 d e2=>?_⟩
 ·rcases g j b e with⟨rfl,rfl⟩|⟨f,e'⟩
  ·obtain⟨v,e1,a,vs,e2,q,r⟩:=E.val _ _ h;exact⟨v,e1,a,vs,e2,.inl q,r⟩
  ·exact E.val j b e'
 ·rcases g j _ e1 with⟨rfl,z⟩|⟨f,e'⟩
  ·subst z;cases d
  ·rcases g k _ e3 with⟨rfl,z⟩|⟨s,p⟩
   ·exact E.own j _ c a _ e' d e2 h Y2 m
   ·exact E.own j k c a b e' d e2 p n m
 ·rcases g j _ e1 with⟨rfl,z⟩|⟨f,e'⟩
  ·subst z;cases d
  ·exact E.new j c a e' d e2
def NZ(i:Nat)(gt:Dt->Ev->Y3 Ev)(gb:Ev->Y3 Ap)(ρ:Ev):Y3 Ap:=match ρ[i]? with
 |some (Z (.o ds))=>vM gt gb ds (ρ.set i (Z (.l ds)))
 |some (Z (.l ds))=>vM gt gb ds ρ
 |some (Z b)=>(X6 b).bind λds=>vM gt gb ds ρ
 |_=>O
theorem X7{ρ:Ev}{ds:Y Dt}(E:bW X.K H0 H σ ρ)(h:ρ[i]?=Z (Z (.l ds))):∃a vs,σ[i]?=Z (Z (.ref a))/\qC X.K H a vs/\B7 X.K (Fh X.K a) ds (gF H σ ρ):=by
 obtain⟨v,e1,a,vs,rfl,q,r⟩:=E.val i _ h;have hk:gF H σ ρ a=H a:=by
  unfold gF;split
  ·rename_i f;obtain⟨j,c,e2,e,e3⟩:=f;have:=E.own j i c a _ e2 e e3 h Y2 e1;subst this;rw[h]at e2;cases e2;cases e
  ·rfl
 refine⟨a,vs,e1,.inl q,.list (.inl ?_) (r.part (λb o u d=>jl E (λvs z=>by rw[d]at z;cases z) (λvs z=>by rw[d]at z;cases z)) λb g d=>jl E (λvs z=>by rw[d]at z;cases z) (λvs z=>by rw[d]at z;cases z))⟩;rcases q with q|⟨o,q⟩
 ·exact .inl (hk.trans q)
 ·exact .inr ⟨o,hk.trans q⟩
theorem T5(i:Nat){p:Pos}{gt:Dt->Ev->Y3 Ev}{gb:Ev->Y3 Ap}(hp:PassesOwn (cr X) X.A X.env X.xe)(M:X.calm=true)(C:X4 X tg gt)(f:W2 X body gb)(P:X.N[i]?=Z x:=by rfl)(K:WY X.env.scope x:=by first|exact ku rfl|exact Jn (ku Y2)|exact Jn (Jn Y2))(hd:ad x:=by decide)(J:(x==("__classdict__":AJ))=false:=by decide)(hs:∀y,foldedSetIterable (.Name x p) X.env y=pure y:=by intro _;rfl):Vy X (.For tg (.Name x p) body [] pos) (NZ i gt gb):=⟨have C:=C.run;have f:=f.run;XC (Xg hp M (Rw (yC (i:=i) P K hd J)) C f hs) λD σ H h=>by
 obtain⟨H0,ρ,r,E,e,q⟩:=h;unfold NZ at e;split at e
 ·rename_i ds k;have I:=E.lend k;have hi:i<ρ.length:=(ca.mp k).1;obtain⟨a,vs,e1,sq,Y⟩:=X7 I (Fp _ hi);exact⟨_,e1,.inl ⟨a,rfl,⟨vs,sq⟩,sU I Y e q⟩⟩
 ·rename_i ds k;obtain⟨a,vs,e1,sq,Y⟩:=X7 E k;exact⟨_,e1,.inl ⟨a,rfl,⟨vs,sq⟩,sU E Y e q⟩⟩
 ·rename_i b L Q k;obtain⟨ds,g,e⟩:=AT e;obtain⟨v,e1,s⟩:=E.val i _ k;have t:∀b o u,H b=Z (.oJ o u)->gF H σ ρ b=H b:=λb o u f=>jl E (λvs z=>by rw[f]at z;cases z) (λvs z=>by rw[f]at z;cases z);have F:∀b G,H b=Z (.tup G)->gF H σ ρ b=H b:=λb G f=>jl E (λvs z=>by rw[f]at z;cases z) (λvs z=>by rw[f]at z;cases z);cases b with
  |z d=>
   cases d with
   |tup j=>
    cases g;simp only[bf,AW]at s;obtain⟨a,vs,rfl,c,B⟩:=s;refine⟨_,e1,.inr (.inl ⟨a,rfl,⟨vs,c⟩,sU E (.tup ?_ (B.part t F)) e q⟩)⟩;rcases c with (c|⟨o,c⟩)|c
    ·exact .inl (.inl ((F _ _ c).trans c))
    ·exact .inl (.inr ⟨o,(t _ _ _ c).trans c⟩)
    ·exact .inr c
   |lst j=>
    cases g;simp only[bf,AW]at s;obtain⟨a,vs,rfl,c,B⟩:=s;refine⟨_,e1,.inl ⟨a,rfl,⟨vs,c.sq⟩,sU E (.list ?_ (B.part t F)) e q⟩⟩;rcases c with⟨o,c⟩|c
    ·exact .inl (.inr ⟨o,(t _ _ _ c).trans c⟩)
    ·exact .inr c
   |str x=>
    cases g;simp only[bf,AW]at s;obtain⟨rfl,_⟩:=s;exact⟨_,e1,.inr (.inr ⟨x,rfl,sU E (.str x) e q⟩)⟩
   |_=>cases g
  |l j=>cases g
  |o j=>exact absurd Y2 (L j)
  |n j=>cases g
  |m j=>cases g
 ·cases e⟩
end
def C7(a:Y (AJ×A1)):Y (AJ×A1)->Prop
 |[]=>True
 |(n,c)::r=>a.lookup n=Z c/\C7 a r
theorem C7.get{a:Y (AJ×A1)}:∀{cl:Y (AJ×A1)},C7 a cl->∀{x:AJ} {c:A1},cl.lookup x=Z c->a.lookup x=Z c
 |[],_,_,_,e=>by cases e
 |(n,d)::r,h,x,c,e=>by
  rw[yA]at e;by_cases hx:x==n
  ·simp only[hx]at e;cases e;have:x=n:=by simpa using hx
   rw[this];exact h.1
  ·have hx:(x==n)=false:=by simpa using hx
   simp only[hx]at e;exact C7.get h.2 e
structure MC (X:Cx) (scope:Scope) (cl:List (Str×Addr)) (x:Str) (i:Nat):Prop where
 n:X.N[i]?=some x
 k:X.env.kindOf x=some .cell\/X.env.kindOf x=some .free
 k':(relabel scope X.env).names.lookup x=some .cell\/(relabel scope X.env).names.lookup x=some .free
 c:∃c,cl.lookup x=some c
def HN(X:Cx)(scope:Scope)(cl:Y (AJ×A1)):At->Y Nat->Prop
 |[],[]=>True
 |x::xs,i::is=>MC X scope cl x i/\HN X scope cl xs is
 |_,_=>False
theorem HN.get{X:Cx}{scope:Scope}{cl:Y (AJ×A1)}:∀{xs:At} {is:Y Nat},HN X scope cl xs is->xs.length=is.length/\∀(j:Nat) (x:AJ),xs[j]?=Z x->∃i,is[j]?=Z i/\MC X scope cl x i
 |[],[],_=>⟨rfl,λj x e=>by simp at e⟩
 |x::xs,i::is,h=>by
  obtain⟨h1,h2⟩:=h;obtain⟨l,g⟩:=HN.get h2;refine⟨by simp[l],λj y e=>?_⟩;cases j with
  |zero=>simp at e;subst e;exact⟨i,rfl,h1⟩
  |succ j=>obtain⟨k,e1,e2⟩:=g j y (by simpa using e);exact⟨k,by simpa using e1,e2⟩
 |[],_::_,h=>h.elim
 |_::_,[],h=>h.elim
def HU(a:Y (AJ×NameKind))(x:AJ):Bool:=match a.lookup x with
 |some .cell=>true
 |_=>false
def Cv(X:Cx)(a:At)(scope:Scope)(cl:Y (AJ×A1))(C:A1)(s₀:A2)(H₀:Hp)(fp:Y A1):Cx:=
 { X with N:=a,s₀:=s₀,H₀:=H₀,env:=compEnvC scope (cellsFrom (C+1) scope.names cl) C X.env,outer:=X.stack,ex:=fp,fn:=HU scope.names,pn:=[],xe:=λ_ _=>False }
structure He (h:Heap) (cs:List (Str×Addr)):Prop where
 inj:∀x y c,cs.lookup x=some c->cs.lookup y=some c->x=y
 cell:∀x c,cs.lookup x=some c->∃v,h.IsCell c v
theorem kh{n:AJ}{a:α}{l:Y (AJ×α)}(h:x≠n):((n,a)::l).lookup x=l.lookup x:=by
 rw[yA,beq_eq_false_iff_ne.mpr h]
theorem X8:∀(i:Y (AJ×NameKind)) (h:A6) (d:Y (AJ×A1)),He h d->He (pushCells h i) (cellsFrom h.objs.size i d)
 |[],_,_,x=>x
 |(n,k)::r,h,d,x=>by
  unfold pushCells cellsFrom;split
  ·have g:∀y c,d.lookup y=Z c->c≠h.objs.size:=λy c e=>let ⟨_,q⟩:=x.cell y c e;ZI q.lt;have:=X8 r (h.push { cls:=.type "cell",data:=.cell O }) ((n,h.objs.size)::d) ⟨λy z c e1 e2=>?_,λy c e=>?_⟩
   ·rwa [k9]at this
   ·by_cases a:y=n<;>by_cases f:z=n
    ·rw[a,f]
    ·subst a;rw[km]at e1;rw[kh f]at e2;cases e1;exact absurd Y2 (g _ _ e2)
    ·subst f;rw[km]at e2;rw[kh a]at e1;cases e2;exact absurd Y2 (g _ _ e1)
    ·rw[kh a]at e1;rw[kh f]at e2;exact x.inj y z c e1 e2
   ·by_cases a:y=n
    ·subst a;rw[km]at e;cases e;exact⟨O,_,zS _ rfl,rfl⟩
    ·rw[kh a]at e;obtain⟨v,q⟩:=x.cell y c e;exact⟨v,q.keeps λb o e=>zg _ e⟩
  ·exact X8 r h d x
theorem zF:∀(b:Y (AJ×NameKind)) (n:Nat) (a:Y (AJ×A1)) (x:AJ) (c:A1),(cellsFrom n b a).lookup x=Z c->a.lookup x=Z c\/n<=c
 |[],_,_,_,_,e=>.inl e
 |(m,k)::r,n,a,x,c,e=>by
  unfold cellsFrom at e;split at e
  ·rcases zF r _ _ x c e with h|h
   ·by_cases hx:x=m
    ·subst hx;rw[km]at h;cases h;exact .inr (zi _)
    ·rw[kh hx]at h;exact .inl h
   ·exact .inr ()
  ·exact zF r _ _ x c e
theorem Kl:∀(b:Y (AJ×NameKind)) (n:Nat) (a:Y (AJ×A1)) (x:AJ),(x,NameKind.cell)∉b->(cellsFrom n b a).lookup x=a.lookup x
 |[],_,_,_,_=>rfl
 |(m,k)::r,n,a,x,h=>by
  unfold cellsFrom;have c:(x,NameKind.cell)∉r:=λz=>h (zl _ z);split
  ·rename_i hk;rw[Kl r _ _ x c,kh λz=>h (by rw[z,<-beq_iff_eq.mp hk];exact zt ..)]
  ·exact Kl r _ _ x c
theorem Rx:∀(b:Y (AJ×NameKind)) (n:Nat) (a:Y (AJ×A1)) (x:AJ),((x,NameKind.cell)∈b\/∃c,a.lookup x=Z c)->∃c,(cellsFrom n b a).lookup x=Z c
 |[],_,_,_,h=>h.elim (λz=>by simp at z) λz=>z
 |(m,k)::r,n,a,x,h=>by
  unfold cellsFrom;split
  ·refine Rx r _ _ x ?_;by_cases hx:x=m
   ·exact .inr ⟨n,by rw[hx,km]⟩
   ·rw[kh hx];exact h.imp_left λz=>(bc.mp z).elim (λz=>absurd (congrArg Prod.fst z) hx) λz=>z
  ·rename_i hk;exact Rx r _ _ x (h.imp_left λz=>(bc.mp z).elim (λz=>by cases z;exact absurd Y2 hk) λz=>z)
theorem Vz{g:A1}{Q:Env->A2->Prop}(h:Q (newEnv scope s.heap.objs.size g (cellsFrom (s.heap.objs.size+1) scope.names cl) qual O .none (Z env) builtinsNs) { s with heap:=pushCells (s.heap.push { cls:=.type "dict",data:=.dict #[] }) scope.names }):
  A7 M A (newFunctionEnv scope g cl [] qual O .none (Z env)) Q E s:=by
 simp only[newFunctionEnv,g4,QO];refine zb (wpAny_alloc ?_);refine zb (wpAny_layCells _ (λname a b=>by cases a==NameKind.cell<;>simp) _ _ _ _ ?_);rw[show({ s with heap:=s.heap.push { cls:=.type "dict",data:=.dict #[] } }:A2).heap.objs.size=s.heap.objs.size+1 from k9 ..];rw[List.forIn_nil];exact zb (zd (zd h))
structure vN (X:Cx) (scope:Scope) (cl:List (Str×Addr)) (xs:At) (is:List Nat):Prop where
 clos:closureFor scope X.env=pure cl
 kind:scope.kind=.function
 cell:∀y∈scope.names,y.2=.cell->cl.lookup y.1=none
 names:∀y∈scope.names,y.2=.local->scope.names.lookup y.1=some .local
 sub:C7 X.env.cells cl
 has:∀x,((relabel scope X.env).names.lookup x=some .cell\/(relabel scope X.env).names.lookup x=some .free)->(x,NameKind.cell)∈scope.names\/∃c,cl.lookup x=some c
 cap:HN X scope cl xs is
def uh(is:Y Nat)(σ:L2.St):L2.St:=is.map λi=>(σ[i]?).bind λv=>v
def jK(is:Y Nat)(ρ:Ev):Ev:=is.map λi=>Dy ρ i
def W3(n m:Nat)(g:Dt->Ev->Y3 Ev):Prop:=∀d ρ a,g d ρ=Z a->a.length=ρ.length/\∀j,j<n\/m<=j->a[j]?=ρ[j]?
def FO(n m:Nat)(g:Y Dt->Ev->Y3 Ev):Prop:=∀d ρ a,g d ρ=Z a->a.length=ρ.length/\∀j,j<n\/m<=j->a[j]?=ρ[j]?
theorem cI(h:n<=i:=by decide)(h':i<m:=by decide):W3 n m (λd ρ=>Z (ρ.set i (Z (.z d)))):=λd ρ b e=>by
 cases e;exact⟨by rw[kP],λj a=>Fq _ ()⟩
theorem wX:FO n m uX:=λd ρ a e=>by
 cases d with
 |nil=>cases e;exact⟨rfl,λ_ _=>Y2⟩
 |cons=>cases e
theorem fO{g:Dt->Ev->Y3 Ev}{gs:Y Dt->Ev->Y3 Ev}(h:W3 n m g)(hs:FO n m gs):FO n m (cY g gs):=λd ρ l e=>by
 cases d with
 |nil=>cases e
 |cons d ds=>
  simp only[cY]at e;obtain⟨k,e1,e⟩:=AT e;obtain⟨a,b⟩:=h _ _ _ e1;obtain⟨f,i⟩:=hs _ _ _ e;exact⟨f.trans a,λj c=>(i j c).trans (b j c)⟩
theorem Bh{gs:Y Dt->Ev->Y3 Ev}(hs:FO n m gs):W3 n m (qH k gs):=λd ρ a e=>by
 cases d with
 |tup ds=>
  simp only[qH]at e;split at e
  ·exact hs _ _ _ e
  ·cases e
 |_=>cases e
def Bj(gt:Dt->Ev->Y3 Ev)(p:Ev->Y3 Bool)(fs:Ev->Y3 (Y Dt))(ρ:Ev):Y Dt->Y3 (Y Dt)
 |[]=>Z []
 |d::ds=>(gt d ρ).bind λa=>(p a).bind λk=>if k=true then(fs a).bind λys=>(Bj gt p fs ρ ds).bind λzs=>Z (ys++zs)else Bj gt p fs ρ ds
def Ha:Bx->Y3 (Y Dt)
 |.z y=>Z [y]
 |_=>O
def Jd(gt:Dt->Ev->Y3 Ev)(p:Ev->Y3 Bool)(fe:Ev->Y3 Bx)(ρ:Ev):Y Dt->Y3 (Y Dt):=Bj gt p (λρ=>(fe ρ).bind Ha) ρ
theorem Je{b:Bx}{ys:Y Dt}(h:Ha b=Z ys):∃y,b=.z y/\ys=[y]:=by
 cases b<;>cases h;exact⟨_,rfl,rfl⟩
theorem Bk{gt:Dt->Ev->Y3 Ev}{p:Ev->Y3 Bool}{fe:Ev->Y3 Bx}{ρ:Ev}:∀{ds out:Y Dt},Jd gt p fe ρ ds=Z out->out.length<=ds.length
 |[],_,e=>by cases e;exact zi _
 |d::ds,out,e=>by
  simp only[Jd,Bj]at e;obtain⟨f,_,e⟩:=AT e;obtain⟨k,_,e⟩:=AT e;cases k with
  |false=>
   rw[zv ZA]at e;exact zo (Bk (gt:=gt) (p:=p) (fe:=fe) e) (by simp)
  |true=>
   rw[zk rfl]at e;obtain⟨ys,a,e⟩:=AT e;obtain⟨zs,c,e⟩:=AT e;obtain⟨b,_,a⟩:=AT a;obtain⟨y,_,rfl⟩:=Je a;cases e;simpa using Bk (gt:=gt) (p:=p) (fe:=fe) c
def CB(X:Cx)(ifs:Y Expr)(p:Ev->Y3 Bool):Prop:=(ifs=[]/\p=λ_=>Z true)\/∃c,ifs=[c]/\PB X c p
structure yF (X:Cx) (ifs:List Expr) (p:Ev->Option Bool):Prop where
 run:CB X ifs p
section
variable{xs:At}{gt:Dt->Ev->Y3 Ev}{p:Ev->Y3 Bool}{fe:Ev->Y3 Bx}{fi:Ev->Y3 (Y Dt)}
theorem Yc{s:Hp}{d:A2}(a:L2.AU X AN σ s d)(O:vN X scope cl xs is)(t:∀b∈fp,sH X AN s b)(B:∀b∈fp,b<d.heap.objs.size):
  L2.AU (Cv X (xs++ts) scope cl d.heap.objs.size d s fp) [] (uh is σ++bj ts.length none) s { d with heap:=pushCells (d.heap.push { cls:=.type "dict",data:=.dict #[] }) scope.names }:=by
 obtain⟨hl,P⟩:=O.cap.get;have g:=O.sub;have G:(d.heap.push { cls:=.type "dict",data:=.dict #[] }).objs.size=d.heap.objs.size+1:=k9 ..;have hk:∀b o,d.heap.get? b=Z o->(pushCells (d.heap.push { cls:=.type "dict",data:=.dict #[] }) scope.names).get? b=Z o:=λb o e=>pushCells_keeps _ _ b o (zg _ e);have D:He (pushCells (d.heap.push { cls:=.type "dict",data:=.dict #[] }) scope.names) (cellsFrom (d.heap.objs.size+1) scope.names cl):=by
  rw[<-G];refine X8 _ _ _ ⟨λx y c e1 e2=>a.ok.inj x y c (g.get e1) (g.get e2),λx c e=>?_⟩;obtain⟨v,q⟩:=a.cell x c (g.get e);exact⟨v,q.keeps λb o e=>zg _ e⟩
 have A:∀x c,(cellsFrom (d.heap.objs.size+1) scope.names cl).lookup x=Z c->X.env.cells.lookup x=Z c\/d.heap.objs.size<c:=λx c e=>(zF _ _ _ x c e).imp_left g.get;refine⟨⟨a.ok.mod,O.kind,a.ok.glob,a.ok.blt,zi _,D.inj,λx hx=>Rx _ _ _ x (O.has x hx),λx c hx e=>?_,a.ok.hd,a.ok.frames,.inl rfl,λb f=>⟨ZI (B b f),λx c e=>?_⟩,a.bs,zo a.ok.bsz a.sz,λb o e f=>?_,λb f K=>?_,a.stack,a.JZ,a.ok.tabs.go a.base.yx⟩,
  rfl,a.bare,Un.kept hk,⟨_,(Heap.Ns.new d.heap (.type "dict")).keeps (pushCells_keeps _ _),λj x v e1 e2 _=>?_⟩,D.cell,a.hok.fresh (zi _),λx c e=>(A x c e).elim (a.qG x c) λh=>a.hok.fresh (qv h),λq H=>absurd (show q∈([]:Y (A1×AE)) from H) (by simp),a.hok.kept hk,?_⟩
 ·refine(zF _ _ _ x c e).elim (λh=>?_) λh=>qv h;have hx:(x,NameKind.cell)∈scope.names:=by
   have hx:HU scope.names x=true:=hx;unfold HU at hx;split at hx
   ·rename_i q;exact mem_of_lookup q
   ·cases hx
  rw[O.cell _ hx rfl]at h;cases h
 ·rcases A x c e with h|h
  ·exact(t b f).2.2.2.2.1 x c h
  ·exact kD (Nat.lt_trans (B b f) h)
 ·obtain⟨_,_,_,z,_⟩:=t b f;rcases z with z|z
  ·exact a.ok.Xa b o e z
  ·exact absurd (ZH (zI e) (zo a.ok.bsz z)) (kM _)
 ·obtain⟨_,S,M,_⟩:=t b f;rcases bc.mp (a.JX b K)with z|z
  ·exact S z
  ·exact M z
 ·have C:j<is.length:=by
   by_cases C:j<is.length
   ·exact C
   ·rw[QI (by simp[uh];omega)]at e2;rw[jS]at e2;split at e2<;>cases e2
  have J:xs[j]?=Z x:=by
   have e1:(xs++ts)[j]?=Z x:=e1;rw[ZZ ()]at e1;exact e1
  obtain⟨i,F,m⟩:=P j x J;have e3:σ[i]?=Z (Z v):=by
   rw[ZZ (by simp[uh];omega)]at e2;unfold uh at e2;rw[qB,F]at e2;cases q:σ[i]? with
   |none=>rw[dC,q]at e2;cases e2
   |some o=>
    rw[dC,q]at e2;have:o=Z v:=by simpa using e2
    rw[this]
  have E:WY X.env.scope x:=by
   rcases m.k with k|k
   ·exact .inr (.inl k)
   ·exact .inr (.inr k)
  obtain⟨W,U,N⟩:=a.loc;obtain⟨u,r,l⟩:=N i x v m.n e3 E;refine⟨u,r,?_⟩;rcases l with⟨k,_⟩|⟨k,c,Q,I⟩
  ·rcases m.k with w|w<;>(rw[k]at w;cases w)
  ·obtain⟨c',p⟩:=m.c;have:=g.get p;rw[Q]at this;cases this;refine .inr ⟨m.k',c,(Kl _ _ _ x λz=>by rw[O.cell _ z rfl]at p;cases p).trans p,?_⟩;obtain⟨o,L,hd⟩:=I;exact⟨o,hk c o L,hd⟩
 ·show(uh is σ++bj ts.length none).length=(xs++ts).length;simp[uh,hl]
theorem bW.caps{ρ:Ev}(E:bW K H0 H σ ρ)(is:Y Nat)(n:Nat):bW K H H (uh is σ++bj n O) (jK is ρ++bj n O):=by
 have f:∀(j:Nat) c,(jK is ρ++bj n O)[j]?=Z (Z c)->yE c=false:=λj c e=>by
  by_cases g:j<is.length
  ·rw[ZZ (by simp[jK];omega)]at e;unfold jK at e;rw[qB]at e;cases q:is[j]? with
   |none=>rw[q]at e;cases e
   |some i=>
    rw[q]at e;have:Dy ρ i=Z c:=by simpa using e
    exact Ef this
  ·rw[QI (by simp[jK];omega),jS]at e;split at e<;>cases e
 refine⟨by simp[uh,jK],λj b e=>?_,λj k c a b e d=>absurd d (by rw[f j c e];exact ZA),AV.refl H,λj c a e d=>absurd d (by rw[f j c e];exact ZA)⟩;by_cases g:j<is.length
 ·rw[ZZ (by simp[jK];omega)]at e;rw[ZZ (by simp[uh];omega)];unfold jK at e;unfold uh;rw[qB]at e ⊢;cases q:is[j]? with
  |none=>rw[q]at e;cases e
  |some i=>
   rw[q]at e;have:Dy ρ i=Z b:=by simpa using e
   obtain⟨v,e1,r⟩:=NK E this;exact⟨v,by simp[e1],r⟩
 ·rw[QI (by simp[jK];omega),jS]at e;split at e<;>cases e
theorem bW.forget{ρ ρ':Ev}(E:bW K H0 H σ ρ')(hl:ρ'.length=ρ.length)(h:∀(j:Nat) b,ρ[j]?=Z (Z b)->ρ'[j]?=Z (Z b)):bW K H0 H σ ρ:=
 ⟨E.len.trans hl,λj b e=>E.val j b (h j b e),λi j c a b e1 d e2 e3 f g=>E.own i j c a b (h _ _ e1) d e2 (h _ _ e3) f g,E.base,λi c a e1 d e2=>E.new i c a (h _ _ e1) d e2⟩
structure DB (Hb:Hp) (σ:L2.St) (ρ:Ev) (n:Nat):Prop where
 own:∀(j:Nat) c,ρ[j]?=some (some c)->yE c=false
 lt:∀(j:Nat) b,ρ[j]?=some (some b)->j<n
 old:∀(j:Nat) c a,ρ[j]?=some (some c)->loose c=true->σ[j]?=some (some (.ref a))->Hb a≠none
def Fx(σ σ':L2.St)(ρ:Ev):Prop:=∀(j:Nat) c,loose c=true->ρ[j]?=Z (Z c)->σ'[j]?=σ[j]?
theorem DB.fx{b:Hp}{σ':L2.St}{ρ:Ev}(P:DB b σ ρ n)(f:Fx σ σ' ρ):DB b σ' ρ n:=⟨P.own,P.lt,λj c a e hl ea=>P.old j c a e hl (by rw[<-f j c hl e];exact ea)⟩
theorem EV{ρ:Ev}(E:bW K H0 H σ ρ)(j:Nat)(c:Bx)(a:A1)(e:ρ[j]?=Z (Z c))(hl:loose c=true)(ea:σ[j]?=Z (Z (.ref a))):H a≠O:=λz=>by
 obtain⟨v,e1,b⟩:=E.val j _ e;rw[ea]at e1;cases e1;cases c with
 |z d=>cases hl
 |l g=>
  obtain⟨f,vs,e2,q,_⟩:=b;cases e2;rcases q with q|⟨o,q⟩<;>(rw[z]at q;cases q)
 |n g=>
  obtain⟨f,vs,e2,q,_⟩:=b;cases e2;rcases q with q|⟨o,q⟩<;>(rw[z]at q;cases q)
 |o g=>
  obtain⟨f,vs,e2,q,_⟩:=b;cases e2;rw[z]at q;cases q
 |m g _=>
  obtain⟨f,vs,e2,q,_⟩:=b;cases e2;rw[z]at q;cases q
theorem bW.grown{g:Hp}{ρ:Ev}(E:bW K g H σ ρ)(P:DB g σ ρ n)(h:g D=O)(kp:Kp H (BA H D o)):bW K g (BA H D o) σ ρ:=by
 refine⟨E.len,λj b e=>?_,λj k c a b e i=>absurd i (by rw[P.own j c e];exact ZA),λc o e=>?_,λj c a e i=>absurd i (by rw[P.own j c e];exact ZA)⟩
 ·obtain⟨v,ev,t⟩:=E.val j b e;refine⟨v,ev,?_⟩;cases b with
  |z d=>exact AW.kp kp t
  |o p=>have:=P.own j _ e;cases this
  |m p _=>have:=P.own j _ e;cases this
  |n p=>
   obtain⟨a,vs,rfl,q,s⟩:=t;refine⟨a,vs,rfl,?_,s.kp kp⟩;have f:a≠D:=λz=>P.old j _ _ e Y2 ev (by rw[z];exact h);exact q.imp (λq=>by rw[aM f];exact q) λ⟨o,q⟩=>⟨o,by rw[aM f];exact q⟩
  |l p=>
   obtain⟨a,vs,rfl,q,s⟩:=t;refine⟨a,vs,rfl,?_,s.kp kp⟩;have f:a≠D:=λz=>P.old j _ _ e Y2 ev (by rw[z];exact h);exact q.imp (λq=>by rw[aM f];exact q) λ⟨o,q⟩=>⟨o,by rw[aM f];exact q⟩
 ·rw[aM (cH e h)];exact E.base c o e
def VB(X:Cx)(el:A1->Env->Sem Unit)(fs:Ev->Y3 (Y Dt))(Ac:A1->Hp->Y Dt->HO->Prop)(N n:Nat):Prop:=∀(AN:Y (A1×AE)) (s:A2) (σ:L2.St) (H a:Hp) (ρ:Ev) (D:A1) (o:HO) (b ys:Y Dt),L2.AU X AN σ H s->bW X.K a H σ ρ->DB a σ ρ n->a D=O->fs ρ=Z ys->H D=Z o->Ac D H b o->b.length+ys.length<=N →
 A7 (cr X) X.A (el D X.env) (λ_ s'=>∃ σ' H' o',L2.AU X AN σ' H' s'/\bW X.K a H' σ' ρ/\Fx σ σ' ρ/\H' D=Z o'/\Ac D H' (b++ys) o') X.xe s
theorem TH{fs:Ev->Y3 (Y Dt)}{Ac:A1->Hp->Y Dt->HO->Prop}{N:Nat}(h:∀(AN:Y (A1×AE)) (s:A2) (σ:L2.St) (H c:Hp) (ρ:Ev) (D:A1) (o:HO) (b ys:Y Dt),L2.AU X AN σ H s->bW X.K c H σ ρ->fs ρ=Z ys->H D=Z o->Ac D H b o->b.length+ys.length<=N →
  A7 (cr X) X.A (el D X.env) (λ_ s'=>∃a o',L2.AU X AN σ (BA a D o') s'/\AV H a/\Kp a (BA a D o')/\Ac D (BA a D o') (b++ys) o') X.xe s):VB X el fs Ac N n:=λAN s σ H c ρ D o b ys I E P d e1 e2 a1 l=>by
 refine QE (h AN s σ H c ρ D o b ys I E e1 e2 a1 l) (λ_ s' ⟨a,o',I',s9,kp,a'⟩=>?_) λ_ _ z=>z;exact⟨σ,_,o',I',(E.grow s9).grown P d kp,λ_ _ _ _=>Y2,bH,a'⟩
structure T6 (B:Around->Bool->Prop) (P:Program) (w:World) (K:B8) (tg:Expr) (J:It) (fp:List Addr) (it:Addr) (tn:Nat->Heap->Prop):Prop where
 obj:∀i h,tn i h->∀b∈fp,∃o,h.get? b=some o/\∀v,o.data≠.cell v
 keep:∀i h h',tn i h->(∀b∈fp,∀o,h.get? b=some o->h'.get? b=some o)->tn i h'
 item:∀(X:Cx),X.prog=P->X.w=w->X.K=K->B X.A X.calm->∀(i:Nat) (AN:List (Addr×Obj)) (s:Shared) (σ:L2.St) (H:Hp) (E:BG),L2.AU X AN σ H s->(∀b∈fp,sH X AN H b)->tn i s.heap->J.go i H →
  wpAny (model P w) X.A (pyNext (.ref it)) (λr s1=>∃u,r=some u ∧
   wpAny (model P w) X.A (letOwnedTupleGo tg (.ref it) u) (λ_ s2=>∃x H',L2.AU X AN σ H' s2/\B0 x u/\J.yld i H x H'/\tn (i+1) s2.heap/\∀b∈fp,H' b=none) E s1) E s
 done:∀(X:Cx),X.prog=P->X.w=w->X.K=K->B X.A X.calm->∀(i:Nat) (AN:List (Addr×Obj)) (s:Shared) (σ:L2.St) (H:Hp) (E:BG),L2.AU X AN σ H s->(∀b∈fp,sH X AN H b)->tn i s.heap->J.stop i H →
  wpAny (model P w) X.A (pyNext (.ref it)) (λr s1=>r=none/\L2.AU X AN σ H s1) E s
 self:∀(A:Around) (i:Nat) (s:Shared) (Q:BG) (E:BG),tn i s.heap->Q (.ref it) s->wpAny (model P w) A (pyIter (.ref it)) Q E s
abbrev N5:A5->Bool->Prop:=λ_ c=>c=true
theorem T7{tn:Nat->A6->Prop}(T:CD P w K tg J fp it tn):T6 N5 P w K tg J fp it tn:=⟨T.obj,T.keep,T.item,T.done,T.self⟩
theorem Jf{comp:Expr}{d:Nat}{d1:Pos}{Ac:A1->Hp->List Dt->HO->Prop}{fs:Ev->Y3 (List Dt)}{N:Nat}{l:Hp}{tn:Nat->A6->Prop}{ds o0 out:List Dt}{ρ:Ev}{R:Result->A2->Prop}(b6:B X.A X.calm)(hx:X.xe=λ_ _=>False)(Ry:EW X tgt gt)(c4:CB X ifs p)(d5:VB X el fs Ac N m)(d2:W3 n m gt)(e7:n<=m)(I:L2.AU X AN σ H s)(E:bW X.K l H σ ρ)(P:DB l σ ρ n)(hD:l D=O)(d8:H D=Z o)(hA:Ac D H o0 o)(T:T6 B X.prog X.w X.K tgt J fp it tn)(st:tn 0 s.heap)(hf:∀b∈fp,sH X AN H b)(Y:B7 X.K J ds l)(e2:Bj gt p fs ρ ds=Z out)(hN:o0.length+out.length<=N)(a4:∀{D:A1} {H H':Hp} {C:List Dt} {o:HO},Kp H H'->Ac D H C o->Ac D H' C o)(d9:∀(it:A0) (D:A1) (env:Env),compTurn comp d it (.ref D) env=(standAt d1 >>= λ_=>pyNext it >>= λr=>match r with
   |none=>pure (.done .next)
   |some v=>letOwnedTupleGo tgt it v >>= λ_=>assign tgt env v >>= λ_=>(forIn ifs true λc r=>if r=true then isTrue c env (eval c env) >>= λok=>pure (ForInStep.yield ok)else pure (ForInStep.yield r)) >>= λok=>if ok=true then el D env >>= λ_=>again (.compLoop comp d it (.ref D) env)else again (.compLoop comp d it (.ref D) env)))(e9:∀{it a3:A0} {env:Env} {Q:Fin->A2->Prop} {E:BG} {s:A2},A7 (cr X) X.A ((compTurn comp d it a3 env).onRaise (λx=>noteFrame x env >>= λ_=>theTreesLotGoes x)) Q E s->A7 (cr X) (X.A.under (.compLoop comp d it a3 env)) ((cr X).den (.compLoop comp d it a3 env)) Q E s)(hR:∀s' σ' H' o',L2.AU X AN σ' H' s'->bW X.K l H' σ' ρ->Fx σ σ' ρ->H' D=Z o'->Ac D H' (o0++out) o'->R (.ok .next) s'):
  AF (cr X) X.A (.compLoop comp d (.ref it) (.ref D) X.env) R s:=by
 have a6:∀{H':Hp},(∀b∈fp,H' b=O)->∀b∈fp,sH X AN H' b:=λ{H'} hn b t=>⟨hn b t,(hf b t).2⟩;refine codeAny_loop Y2 (λk s'=>∃(i:Nat) (σ':L2.St) (H':Hp) (C o2:List Dt) (o:HO),k=ds.length-i/\i<=ds.length/\L2.AU X AN σ' H' s'/\tn i s'.heap/\(∀b∈fp,H' b=O)/\bW X.K l H' σ' ρ/\Fx σ σ' ρ/\H' D=Z o/\Ac D H' C o/\Bj gt p fs ρ (ds.drop i)=Z o2/\C++o2=o0++out) ?_ ds.length
  ⟨0,σ,H,o0,out,o,by simp,qr _,I,st,λb t=>(hf b t).1,E,λ_ _ _ _=>Y2,d8,hA,by simpa using e2,rfl⟩
 rintro k s4 ⟨i,a1,H4,C,o2,o,rfl,hi,I4,b5,c0,E4,F4,S,r4,g,ho⟩;have P4:=P.fx F4;refine e9 (wpAny_noted ?_);rw[d9];obtain⟨y1,y2⟩:=Y i H4 E4.base;by_cases a2:i<ds.length
 ·have hd:ds[i]?=Z ds[i]:=by simp[a2]
  obtain⟨go,yl⟩:=y1 _ hd;rw[K2 a2]at g;simp only[Bj]at g;obtain⟨y,e1,g⟩:=AT g;obtain⟨k,ek,g⟩:=AT g;obtain⟨d4,a7⟩:=d2 _ _ _ e1;have b0:∀{W:L2.St} {H5:Hp},bW X.K l H5 W y->bW X.K l H5 W ρ:=λE5=>E5.forget d4 λj b e=>by rw[a7 j (.inl (P.lt j b e))];exact e
  refine zb (kl (zb ?_));refine jF (T.item X Y2 Y2 Y2 b6 i AN s4 a1 H4 _ I4 (a6 c0) b5 go) λr s5 ⟨u,hr,h5⟩=>?_;subst hr;refine zb (jF h5 λ_ s6 ⟨x,H6,I6,r6,y6,ES,fr6⟩=>?_);obtain⟨sm,rx⟩:=yl x H6 y6;have E4:=E4.grow sm;have S:=sm _ _ S;have r4:=a4 (.of sm) r4;have d3:=I6.pinned (a6 fr6) (T.obj _ _ ES);have ha:=Ry _ s6 a1 H6 x u (λσ' H'=>H'=H6/\bW X.K l H6 σ' y/\Lo a1 ρ σ' y) d3 r6 ⟨l,ρ,ds[i],y,E4,rx,e1,λσ' E' L'=>⟨rfl,E',L'⟩⟩;rw[hx]at ha;refine zb (QE ha (λ_ s7 h7=>?_) λ_ _ z=>z.elim);obtain⟨M,H7,I7,rfl,E7,L7⟩:=h7;have P7:DB l M y m:=by
   refine⟨λj c e=>?_,λj c e=>?_,λj c a e hl ea=>?_⟩
   ·cases c with
    |o ds=>exact P.own j _ (L7 j _ Y2 e).1
    |m ds _=>exact P.own j _ (L7 j _ Y2 e).1
    |_=>rfl
   ·refine Nat.lt_of_not_le λh=>?_;rw[a7 j (.inr h)]at e;exact absurd (ZH (P.lt j c e) e7) (gE.mpr h)
   ·obtain⟨e',ee⟩:=L7 j c hl e;exact P4.old j c a e' hl (by rw[<-ee];exact ea)
  have b4:∀{W:L2.St},Fx M W y->Fx σ W ρ:=λf j c hl e=>by
   have e':y[j]?=Z (Z c):=by rw[a7 j (.inl (P.lt j c e))];exact e
   exact(f j c hl e').trans ((L7 j c hl e').2.trans (F4 j c hl e))
  have ht:A7 (cr X) X.A (forIn ifs true λc r=>if r=true then do let ok <-isTrue c X.env (eval c X.env);pure (ForInStep.yield ok)else pure (ForInStep.yield r))
    (λok F=>ok=k/\∃q,L2.AU X (AN++Bd fp s6.heap) M q F/\AV H7 q) (notedBy (cr X) X.A X.env λe s'=>R (.error e) s') s7:=by
   rcases c4 with⟨rfl,rfl⟩|⟨c,rfl,hc⟩
   ·cases ek;exact wpAny_tests_nil ⟨rfl,H7,I7,AV.refl H7⟩
   ·refine wpAny_tests_one ?_;have:=hc _ s7 M H7 (λb q=>b=k/\AV H7 q) I7 ⟨l,y,k,E7,ek,λq F=>⟨rfl,F⟩⟩;rw[hx]at this;exact QE this (λb F ⟨q,I8,eb,s8'⟩=>⟨eb,q,I8,s8'⟩) λ_ _ z=>z.elim
  refine zb (QE ht (λok F h8=>?_) λ_ _ z=>z);obtain⟨rfl,q,I8,G⟩:=h8;have Yd:∀{U:L2.St} {L:Hp} {s9:A2},L2.AU X (AN++Bd fp s6.heap) U L s9->L2.AU X AN U L s9/\tn (i+1) s9.heap/\∀b∈fp,L b=O:=λ{U L s9} I9=>by
   refine⟨I9.vJ,T.keep _ _ _ ES λb t o e=>(I9.pin (b,o) (qk _ (qk _ (uc t e)))).1,λb t=>?_⟩;obtain⟨o,e,d⟩:=T.obj _ _ ES b t;exact(I9.pin (b,o) (qk _ (qk _ (uc t e)))).2.1
  cases ok with
  |false=>
   rw[zv ZA]at g;obtain⟨I9,e3,d6⟩:=Yd I8;exact zd ⟨rfl,ds.length-(i+1),by omega,i+1,M,q,C,o2,o,rfl,a2,I9,e3,d6,b0 (E7.grow G),b4 (λ_ _ _ _=>Y2),G _ _ S,a4 (.of G) r4,g,ho⟩
  |true=>
   rw[zk rfl]at g;obtain⟨ys,eb,g⟩:=AT g;obtain⟨zs,e5,g⟩:=AT g;cases g;have hl:=congrArg hP ho;simp only[zr]at hl;have he:=d5 _ F M q l y D o C ys I8 (E7.grow G) P7 hD eb (G _ _ S) (a4 (.of G) r4) ();rw[hx]at he;refine zb (QE he (λ_ f1 c5=>?_) λ_ _ z=>z.elim);obtain⟨U,L,o',e8,E9,F9,f0,a5⟩:=c5;obtain⟨d0,e6,e0⟩:=Yd e8;exact zd ⟨rfl,ds.length-(i+1),by omega,i+1,U,L,C++ys,zs,o',rfl,a2,d0,e6,e0,b0 E9,b4 F9,f0,a5,e5,by rw[ZE];exact ho⟩
 ·have b3:ds.length<=i:=by omega
  rw[Kb b3]at g;cases g;refine zb (kl (zb ?_));refine jF (T.done X Y2 Y2 Y2 b6 i AN s4 a1 H4 _ I4 (a6 c0) b5 (y2 b3)) λr s5 ⟨hr,I5⟩=>?_;subst hr;rw[Qr]at ho;exact zd (hR s5 a1 H4 o I5 E4 F4 S (by rw[<-ho];exact r4))
theorem Jg{R:Result->A2->Prop}{d:Nat}{g:Expr}{it a:A0}(f:(clausesOf e)[d]?=Z ⟨g,iter,ifs,0⟩)(hd:∀{Q:Fin->A2->Prop} {E:BG},A7 (A8 prog w) A ((compStart e d it a env).onRaise (λx=>do noteFrame x env;standAt theWindowsPlace)) Q E s->A7 (A8 prog w) (A.under (.compStart e d it a env)) ((A8 prog w).den (.compStart e d it a env)) Q E s)(c:Code.quiet (.compLoop e d it a env)=true:=by rfl)(i:AF (A8 prog w) A (.compLoop e d it a env) R s)(h:A7 (A8 prog w) A (pyIter it) (λb s'=>AF (A8 prog w) A (.compLoop e d b a env) R s') (notedBy (A8 prog w) A env λx s'=>R (.error x) s') s):
  AF (A8 prog w) A (.compStart e d it a env) R s:=by
 refine codeAny_of_tree (hd ?_);refine wpAny_notedAt ?_;unfold compStart;rw[f];show A7 _ _ (ask >>= _) _ _ s;refine zb (wpAny_askSetting (wpAny_ite ?_));split
 ·exact zd (And.intro c i)
 ·refine zb (QP ?_);show A7 _ _ (standAt iter.pos >>= _) _ _ s;exact zb (kl (zb (QE h (λb s' h'=>zd (And.intro c h')) λ_ _ x=>x)))
def Cw(H:Hp)(D:A1):Hp:=λb=>if b=D then O else H b
theorem vO{b:A1}(h:b≠D):Cw H D b=H b:=zv h
theorem Ft:AV (Cw H D) H:=λb o e=>by
 by_cases h:b=D
 ·rw[Cw,zk h]at e;cases e
 ·rw[vO h]at e;exact e
theorem bW.onto{d b:Hp}{ρ:Ev}(E:bW K d H σ ρ)(P:∀(j:Nat) c,ρ[j]?=Z (Z c)->yE c=false)(s:AV b H):bW K b H σ ρ:=
 ⟨E.len,E.val,E.own,s,λj c a e f=>absurd f (by rw[P j c e];exact ZA)⟩
def DE(fi:Ev->Y3 (Y Dt))(gt:Dt->Ev->Y3 Ev)(p:Ev->Y3 Bool)(fs:Ev->Y3 (Y Dt)):Ev->Y3 (Y Dt):=λρ=>(fi ρ).bind λds=>Bj gt p fs ρ ds
theorem N6{comp:Expr}{d:Nat}{Ac:A1->Hp->List Dt->HO->Prop}{fs:Ev->Y3 (List Dt)}{N:Nat}(a6:X.calm=true)(hx:X.xe=λ_ _=>False)(hi:IX X tgt iter fi)(Ry:EW X tgt gt)(S:CB X ifs p)(b3:VB X el fs Ac N m)(b0:W3 n m gt)(a2:n<=m)(t:∀{D:A1} {H H':Hp} {g:List Dt} {o:HO},Kp H H'->Ac D H g o->Ac D H' g o)(C:∀{D:A1} {H:Hp} {g:List Dt} {o:HO},Ac D H g o->(∀q u,o≠.oJ q u)/\∀vs,o≠.tup vs)(hs:∀x,foldedSetIterable iter X.env x=pure x)(a1:∀(it:A0) (D:A1) (env:Env),compTurn comp d it (.ref D) env=(standAt iter.pos >>= λ_=>pyNext it >>= λr=>match r with
   |none=>pure (.done .next)
   |some v=>letOwnedTupleGo tgt it v >>= λ_=>assign tgt env v >>= λ_=>(forIn ifs true λc r=>if r=true then isTrue c env (eval c env) >>= λok=>pure (ForInStep.yield ok)else pure (ForInStep.yield r)) >>= λok=>if ok=true then el D env >>= λ_=>again (.compLoop comp d it (.ref D) env)else again (.compLoop comp d it (.ref D) env)))(a4:∀{it f:A0} {env:Env} {R:Result->A2->Prop} {s:A2},AF (cr X) X.A (.compLoop comp d it f env) R s->A7 (cr X) X.A (pyIter it) (λa5 s'=>AF (cr X) X.A (.compLoop comp d a5 f env) R s') (notedBy (cr X) X.A env λx s'=>R (.error x) s') s->AF (cr X) X.A (.compStart comp d it f env) R s)(a7:∀{it f:A0} {env:Env} {Q:Fin->A2->Prop} {E:BG} {s:A2},A7 (cr X) X.A ((compTurn comp d it f env).onRaise (λx=>noteFrame x env >>= λ_=>theTreesLotGoes x)) Q E s->A7 (cr X) (X.A.under (.compLoop comp d it f env)) ((cr X).den (.compLoop comp d it f env)) Q E s):
  VB X (λD env=>do let x <-eval iter env;standAt iter.pos;let x <-foldedSetIterable iter env x;let _ <-runOwn (.compStart comp d (<-holding [x] (pyIter x)) (.ref D) env) env) (DE fi gt p fs) Ac N n:=by
 intro AN s σ H M ρ D o g ys I E P hD e G k hl;obtain⟨ds,ed,e⟩:=AT e;refine zb (QE (hi AN s σ H (λJ H'=>AV H H'/\∀Hs,AV Hs H'->(∀a,H a=O->Hs a=H' a)->(∀a o u,H' a=Z (.oJ o u)->Hs a=H' a)->(∀a vs,H' a=Z (.tup vs)->Hs a=H' a)->B7 X.K J ds Hs) I ⟨M,ρ,ds,E,ed,λJ H' s' y=>⟨s',y⟩⟩) (λv s1 h1=>?_) λ_ _ z=>z);refine zb (kl (zb (wpAny_of_eq (hs v) (zb (kb (QE h1 (λb4 s2 h2=>?_) λ_ _ z=>z))))));obtain⟨it,fp,tn,J,H2,rfl,I2,T,st,hf,i,Y⟩:=h2;have l:=i _ _ G;have a3:=t (.of i) k;have Yb:B7 X.K J ds (Cw H2 D):=Y _ Ft (λa b=>vO λz=>by rw[z,G]at b;cases b) (λa q u b=>vO λz=>by rw[z,l]at b;cases b;exact(C k).1 _ _ Y2) λa vs b=>vO λz=>by rw[z,l]at b;cases b;exact(C k).2 _ rfl
 have L:AV M (Cw H2 D):=λa u ea=>by rw[vO (cH ea hD)];exact i _ _ (E.base _ _ ea)
 have E2:bW X.K (Cw H2 D) H2 σ ρ:=(E.grow i).onto P.own Ft;have P2:DB (Cw H2 D) σ ρ n:=⟨P.own,P.lt,λj c a ec hl ea z=>P.old j c a ec hl ea (L.free z)⟩;have lp:∀{R:Result->A2->Prop},(∀s' σ' H' o',L2.AU X AN σ' H' s'->bW X.K (Cw H2 D) H' σ' ρ->Fx σ σ' ρ->H' D=Z o'->Ac D H' (g++ys) o'->R (.ok .next) s')->AF (cr X) X.A (.compStart comp d (.ref it) (.ref D) X.env) R s2:=λhR=>
  have h:=Jf (B:=N5) a6 hx Ry S b3 b0 a2 I2 E2 P2 (zk Y2) l a3 (T7 T) st hf Yb e hl t a1 a7 hR
  a4 h (T.self _ 0 _ _ _ st h)
 exact zb (wpAny_runOwn (lp λs' σ' H' o' U F F' W a'=>zd ⟨σ',H',o',U,F.onto P.own (L.trans F.base),F',W,a'⟩))
theorem Jh{comp:Expr}{mk:Sem A0}{o0:AE}{O0:HO}{Ac:A1->Hp->List Dt->HO->Prop}{fs:Ev->Y3 (List Dt)}{N:Nat}{H2:Hp}{a:A2}{tn:Nat->A6->Prop}{ds out:List Dt}{ρ:Ev}(O:vN X scope cl xs is)(d1:B X.A X.calm)(Ry:∀C l n fp,EW (Cv X (xs++ts) scope cl C l n fp) tgt gt)(a2:∀C l n fp,CB (Cv X (xs++ts) scope cl C l n fp) ifs p)(d4:∀C l n fp,VB (Cv X (xs++ts) scope cl C l n fp) el fs Ac N m)(d5:W3 is.length m gt)(b6:is.length<=m)(I2:L2.AU X AN σ H2 a)(U:bW X.K H2 H2 (uh is σ++bj ts.length none) (jK is ρ++bj ts.length none))(T:T6 B X.prog X.w X.K tgt J fp it tn)(st:tn 0 a.heap)(L:∀b∈fp,sH X AN H2 b)(Y:B7 X.K J ds H2)(b0:Bj gt p fs (jK is ρ++bj ts.length none) ds=Z out)(d2:out.length<=N)(b3:∀(D C:A1) (s':A2) (H':Hp) (o:HO),H2 D=none->L2.AU X AN σ H' s'->sH X AN H' C->(∃m,s'.heap.Ns C m)->AV H2 H'->H' D=Z o->Ac D H' out o->RR (.ref D) C (.ok .next) s')(c0:∀{Q:BG},Q (.ref a.heap.objs.size) { a with heap:=a.heap.push o0 }->A7 (cr X) X.A mk Q E a)(a6:∀H,jB X.prog X.w H (a.heap.push o0) a.heap.objs.size O0)(b4:∀H,Ac a.heap.objs.size H [] O0)(a3:∀{D:A1} {H H':Hp} {o1:List Dt} {o:HO},Kp H H'->Ac D H o1 o->Ac D H' o1 o)(a4:∀(it:A0) (D:A1) (env:Env),compTurn comp 0 it (.ref D) env=(standAt iter.pos >>= λ_=>pyNext it >>= λr=>match r with
   |none=>pure (.done .next)
   |some v=>letOwnedTupleGo tgt it v >>= λ_=>assign tgt env v >>= λ_=>(forIn ifs true λc r=>if r=true then isTrue c env (eval c env) >>= λok=>pure (ForInStep.yield ok)else pure (ForInStep.yield r)) >>= λok=>if ok=true then el D env >>= λ_=>again (.compLoop comp 0 it (.ref D) env)else again (.compLoop comp 0 it (.ref D) env)))(c4:∀{it f:A0} {env:Env} {R:Result->A2->Prop} {s:A2},AF (cr X) X.A (.compLoop comp 0 it f env) R s->A7 (cr X) X.A (pyIter it) (λd0 s'=>AF (cr X) X.A (.compLoop comp 0 d0 f env) R s') (notedBy (cr X) X.A env λx s'=>R (.error x) s') s->AF (cr X) X.A (.compStart comp 0 it f env) R s)(d3:∀{it f:A0} {env:Env} {Q:Fin->A2->Prop} {E:BG} {s:A2},A7 (cr X) X.A ((compTurn comp 0 it f env).onRaise (λx=>noteFrame x env >>= λ_=>theTreesLotGoes x)) Q E s->A7 (cr X) (X.A.under (.compLoop comp 0 it f env)) ((cr X).den (.compLoop comp 0 it f env)) Q E s):
  A7 (cr X) X.A mk (λf b5=>A7 (cr X) X.A (newFunctionEnv scope X.env.globals cl [] X.env.qual none .none (Z X.env)) (λa1 c5=>
   AF (cr X) X.A (.compStart comp 0 (.ref it) f { a1 with scope:=relabel scope X.env }) (RR f a1.locals) c5) E b5) E a:=by
 refine c0 (Vz ?_);have G:H2 a.heap.objs.size=none:=I2.hok.fresh (zi _);have u:L2.AU X AN σ (BA H2 a.heap.objs.size O0) { a with heap:=a.heap.push o0 }:=
  I2.laid (t':=a.toks) (λb o e=>zg _ e) (zi _) (a6 _)
 have M:∀b∈fp,b<a.heap.objs.size:=λb d=>let ⟨o,e,_⟩:=T.obj 0 _ st b d;zI e;have F:∀b∈fp,sH X AN (BA H2 a.heap.objs.size O0) b:=λb d=>⟨by rw[aM (ZI (M b d))];exact(L b d).1,(L b d).2⟩;have W:tn 0 (a.heap.push o0):=T.keep 0 _ _ st λb d o e=>zg _ e;have t:∀b∈fp,b<(a.heap.push o0).objs.size:=λb d=>by rw[k9];exact eP (M b d)
 generalize d6:({ a with heap:=a.heap.push o0 }:A2)=s3 at *
 have d9:s3.heap=a.heap.push o0:=by rw[<-d6]
 rw[<-d9]at W t;have IC:=Yc (ts:=ts) u O F t;have P:tn 0 (pushCells (s3.heap.push { cls:=.type "dict",data:=.dict #[] }) scope.names):=T.keep 0 _ _ W λb d o e=>pushCells_keeps _ _ b o (zg _ e);have d8:∀b∈fp,sH (Cv X (xs++ts) scope cl s3.heap.objs.size s3 (BA H2 a.heap.objs.size O0) fp) [] (BA H2 a.heap.objs.size O0) b:=λb d=>by
  obtain⟨f0,f1,f2,f3,y,I⟩:=F b d;refine⟨f0,ZI (t b d),λz=>?_,.inl d,λx c e z=>?_,λq hq=>absurd (show q∈([]:List (A1×AE)) from hq) (by simp)⟩
  ·rcases bc.mp (u.JX b z)with q|q
   ·exact f1 q
   ·exact f2 q
  ·rcases zF _ _ _ x c e with h|h
   ·exact y x c (O.sub.get h) z
   ·rw[z]at h;exact absurd (ZH (t b d) (Nat.le_of_succ_le h)) (kM _)
 have P0:DB H2 (uh is σ++bj ts.length none) (jK is ρ++bj ts.length none) is.length:=by
  have g:∀(j:Nat) c,(jK is ρ++bj ts.length none)[j]?=Z (Z c)->j<is.length/\yE c=false:=λj c e=>by
   by_cases hj:j<is.length
   ·refine⟨hj,?_⟩;rw[ZZ (by simp[jK];omega)]at e;unfold jK at e;rw[qB]at e;cases q:is[j]? with
    |none=>rw[q]at e;cases e
    |some i=>rw[q]at e;exact Ef (by simpa using e)
   ·rw[QI (by simp[jK];omega),jS]at e;split at e<;>cases e
  exact⟨λj c e=>(g j c e).2,λj c e=>(g j c e).1,EV U⟩
 have h:=Jf (B:=B) (X:=Cv X (xs++ts) scope cl s3.heap.objs.size s3 (BA H2 a.heap.objs.size O0) fp) (R:=RR (.ref a.heap.objs.size) s3.heap.objs.size) (o0:=[]) d1 Y2 (Ry _ _ _ _) (a2 _ _ _ _) (d4 _ _ _ _) d5 b6 IC (U.grow (cg G)) P0 G bH (b4 _) T P d8 Y b0 (by simpa using d2) a3 a4 d3 λS e0 H5 o5 k E5 _ a7 a5=>by
  have IB:L2.AU X AN σ H5 S:=u.call' (ch:=fp) k.os k.base k.hok k.bare λb d=>by
   obtain⟨f0,f1,f2,f3,y,I⟩:=F b d;exact⟨f3,f1,y,I⟩
  obtain⟨m,hn,_⟩:=k.loc;exact b3 _ _ S H5 o5 G IB (u.Nt (zi _) k.free) ⟨m,hn⟩ E5.base a7 a5
 exact c4 h (T.self _ 0 _ _ _ P h)
def T8(K:B8)(_:A1)(H:Hp)(a:Y Dt)(o:HO):Prop:=∃us,o=.lst us/\aH K H a us
theorem T8.kp{K:B8}{D:A1}{H H':Hp}{a:Y Dt}{o:HO}(k:Kp H H'):T8 K D H a o->T8 K D H' a o:=λ⟨us,e,r⟩=>⟨us,e,r.kp k⟩
def F6(fe:Ev->Y3 Bx):Ev->Y3 (Y Dt):=λρ=>(fe ρ).bind Ha
theorem T9(h:PV X elt fe):VB X (λD env=>do let _ <-call (.builtin "list.append") [.ref D,<-eval elt env]) (F6 fe) (T8 X.K) 100000 n:=by
 refine TH λAN s σ H Hb ρ D o o1 ys I En g hD ⟨us,e,r4⟩ hl=>?_;subst e;obtain⟨b,eb,g⟩:=AT g;obtain⟨y,rfl,rfl⟩:=Je g;refine zb (QE (h AN s σ H (λv a=>AV H a/\AW X.K a y v) I ⟨Hb,ρ,_,En,eb,λv a f _ i=>⟨f,i⟩⟩) (λv f l=>?_) λ_ _ z=>z);obtain⟨c,a,q,p,d,i⟩:=l;have j:=d _ _ hD;refine zb (QE ((Jb (X:=X)) _ f σ a (.ref D) [c] (.ref D) [v] (λw k=>k=BA a D (.lst (us++[c]))) q Y2 (.cons p .nil) ⟨_,us,c,rfl,rfl,j,by rw[r4.length];have x:(100000:Nat)<AA:=();simp at hl;omega,rfl⟩) (λw u t=>?_) λ_ _ z=>z);obtain⟨A,k,m,_,rfl⟩:=t;have kp:Kp a (BA a D (.lst (us++[c]))):=.lst j;exact zd ⟨a,_,m,d,kp,us++[c],rfl,((r4.kp (.of d)).append (aH.cons i aH.nil)).kp kp⟩
theorem N7{H2:Hp}{k:A2}{tn:Nat->A6->Prop}{ds out:List Dt}{ρ:Ev}(O:vN X scope cl xs is)(v:B X.A X.calm)(G:∀C i j fp,EW (Cv X (xs++ts) scope cl C i j fp) tgt gt)(s:∀C i j fp,CB (Cv X (xs++ts) scope cl C i j fp) ifs p)(z:∀C i j fp,PV (Cv X (xs++ts) scope cl C i j fp) elt fe)(L:W3 is.length (is.length+ts.length) gt)(F:L2.AU X AN σ H2 k)(I:bW X.K H2 H2 (uh is σ++bj ts.length none) (jK is ρ++bj ts.length none))(T:T6 B X.prog X.w X.K tgt J fp it tn)(st:tn 0 k.heap)(y:∀b∈fp,sH X AN H2 b)(Y:B7 X.K J ds H2)(x:ds.length<=100000)(q:Jd gt p fe (jK is ρ++bj ts.length none) ds=Z out)(t:∀(D C:A1) (s':A2) (H':Hp) (us:List V),H2 D=none->L2.AU X AN σ H' s'->sH X AN H' C->(∃m,s'.heap.Ns C m)->AV H2 H'->H' D=Z (.lst us)->aH X.K H' out us->RR (.ref D) C (.ok .next) s'):
  A7 (cr X) X.A (newList []) (λl u=>A7 (cr X) X.A (newFunctionEnv scope X.env.globals cl [] X.env.qual none .none (Z X.env)) (λn H=>
   AF (cr X) X.A (.compStart (.ListComp elt [⟨tgt,iter,ifs,0⟩] scope pos) 0 (.ref it) l { n with scope:=relabel scope X.env }) (RR l n.locals) H) E u) E k:=
 Jh (B:=B) (Ac:=T8 X.K) (O0:=.lst []) (N:=100000) O v G s (λC i j fp=>T9 (z C i j fp)) L (Nat.le_add_right ..) F I T st y Y q (zo (Bk q) x) (λD C s' H' o a b c d e f g=>by obtain⟨us,rfl,r⟩:=g;exact t D C s' H' us a b c d e f r)
  qA (λ_=>⟨qr _,[],0,.nil,zS _ rfl⟩) (λ_=>⟨[],rfl,aH.nil⟩) T8.kp (λ_ _ _=>Y2) codeAny_compStart_list λh=>h
end
def iC(K:B8)(f:Ev->Y3 (Y Dt)):TI:=λσ H R=>∃H0 ρ ds,bW K H0 H σ ρ/\f ρ=Z ds/\∀J H',AV H H'->B7 K J ds H'->R J H'
def MH(X:Cx)(tg iter:Expr)(f:Ev->Y3 (Y Dt)):Prop:=PI X tg iter (iC X.K f)
structure EJ (X:Cx) (tg iter:Expr) (f:Ev->Option (List Dt)):Prop where
 run:MH X tg iter f
def Ye:Bx->Y3 (Y Dt)
 |.z (.lst ds)=>Z ds
 |.z (.tup ds)=>Z ds
 |.z (.str x)=>Z (BI x)
 |.o ds=>Z ds
 |.l ds=>Z ds
 |_=>O
section
variable{f:Ev->Y3 Bx}{fs:Ev->Y3 (Y Bx)}{xs:At}{gt:Dt->Ev->Y3 Ev}{p:Ev->Y3 Bool}{fe:Ev->Y3 Bx}{fi:Ev->Y3 (Y Dt)}
theorem Yg(h:EA X tgt iter fi):EJ X tgt iter fi:=⟨have h:=h.run;λAN s σ H R I q=>by
 obtain⟨H0,ρ,ds,E,e,q⟩:=q;exact h AN s σ H R I ⟨H0,ρ,ds,E,e,λJ H' s' y=>q J H' s' (y H' (AV.refl H') (λ_ _=>Y2) (λ_ _ _ _=>Y2) λ_ _ _=>Y2)⟩⟩
theorem gG(h:QV X e f):EJ X tgt e (λρ=>(f ρ).bind Ye):=⟨have h:=h.run;λAN s σ H R I q=>by
 refine Rw h AN s σ H R I ?_;obtain⟨H0,ρ,ds,E,e,q⟩:=q;obtain⟨b,eb,e⟩:=AT e;refine⟨H0,ρ,b,E,eb,λv H1 j p i=>?_⟩;cases b with
 |z d=>
  cases d with
  |tup k=>
   cases e;simp only[bf,AW]at i;obtain⟨a,vs,rfl,c,g⟩:=i;exact .inr (.inl ⟨a,rfl,⟨vs,c⟩,q _ _ j (.tup c g)⟩)
  |lst k=>
   cases e;obtain⟨a,vs,rfl,c,g⟩:=i.HB rfl;exact .inl ⟨a,rfl,⟨vs,c⟩,q _ _ j (.list c g)⟩
  |str x=>
   cases e;simp only[bf,AW]at i;obtain⟨rfl,_⟩:=i;exact .inr (.inr ⟨x,rfl,q _ _ j (.str x)⟩)
  |_=>cases e
 |l k=>
  cases e;obtain⟨a,vs,rfl,c,g⟩:=i.HB rfl;exact .inl ⟨a,rfl,⟨vs,c⟩,q _ _ j (.list c g)⟩
 |o k=>
  cases e;obtain⟨a,vs,rfl,c,g⟩:=i.HB rfl;exact .inl ⟨a,rfl,⟨vs,c⟩,q _ _ j (.list c g)⟩
 |n _=>cases e
 |m _ _=>cases e⟩
def gB(fi:Ev->Y3 (Y Dt))(gt:Dt->Ev->Y3 Ev)(p:Ev->Y3 Bool)(fe:Ev->Y3 Bx)(is:Y Nat)(n:Nat):Ev->Y3 Bx:=λρ=>(fi ρ).bind λds=>
 if ds.length<=100000 then(Jd gt p fe (jK is ρ++bj n O) ds).bind λout=>Z (.o out)else O
theorem gH(ts:At)(O:vN X scope cl xs is)(G:X.calm=true)(hi:EJ X tgt iter fi)(i:∀C c d fp,X4 (Cv X (xs++ts) scope cl C c d fp) tgt gt)(f:∀C c d fp,yF (Cv X (xs++ts) scope cl C c d fp) ifs p)(g:∀C c d fp,QV (Cv X (xs++ts) scope cl C c d fp) elt fe)(W:W3 is.length (is.length+ts.length) gt)(hs:∀x,foldedSetIterable iter X.env x=pure x:=by intro _;rfl):QV X (.ListComp elt [⟨tgt,iter,ifs,0⟩] scope pos) (gB fi gt p fe is ts.length):=⟨have hi:=hi.run;have i:=λC c d fp=>(i C c d fp).run;have f:=λC c d fp=>(f C c d fp).run;have g:=λC c d fp=>(g C c d fp).run;λAN s σ H Q I h=>by
 obtain⟨H0,ρ,b,E,e,q⟩:=h;obtain⟨ds,n,e⟩:=AT e;split at e
 ·rename_i L;obtain⟨out,P,e⟩:=AT e;cases e;rw[eval_ListComp];refine yk (use:=none) Y2 hs O.clos O.kind O.names ?_;refine jF (hi AN s σ H (λJ H'=>AV H H'/\B7 X.K J ds H') I ⟨H0,ρ,ds,E,n,λJ H' s' y=>⟨s',y⟩⟩) λv s1 h1=>jF h1 λa1 s2 h2=>?_;obtain⟨it,fp,tn,J,H2,rfl,U,T,st,u,j,Y⟩:=h2;refine N7 (B:=N5) (RR:=λS C=>compPost (cr X) X.A X.xe none (EP X AN σ Q) S C) (ts:=ts) (xs:=xs) O G i f g W U ((E.grow j).caps is ts.length) (T7 T) st u Y L P ?_;intro D C s' H' us N k z ⟨m,hn⟩ s2' hD' r';refine⟨m,hn,λh' M=>⟨.ref D,H',?_,rfl,q _ _ (j.trans s2') (λa ea=>by cases ea;exact j.free N) ⟨D,us,rfl,hD',r'⟩⟩⟩;obtain⟨f0,f1,f2,f3,l,t⟩:=z;exact k.turned (t':=s'.toks) (λb o F e=>(M.2 b F).trans e) f0 f1 f3 l t
 ·cases e⟩
theorem Ua(i:Nat){py spos:Pos}(ts:At)(O:vN X scope cl xs is)(a4:X.calm=true)(hN:X.N.Nodup)(hi:EJ X tgt iter fi)(n:∀C c d fp,X4 (Cv X (xs++ts) scope cl C c d fp) tgt gt)(j:∀C c d fp,yF (Cv X (xs++ts) scope cl C c d fp) ifs p)(l:∀C c d fp,QV (Cv X (xs++ts) scope cl C c d fp) elt fe)(a7:W3 is.length (is.length+ts.length) gt)(S:swapsWith (.ListComp elt [⟨tgt,iter,ifs,0⟩] scope pos) (Z (.Name y py)) spos.line X.env=pure true:=by with_unfolding_all rfl)(L:X.N[i]?=Z y:=by rfl)(hx:ED X.env.scope y:=by first|exact ku rfl|exact Jn Y2)(W:X.fn y=true\/X.env.scope.names.lookup y=Z .local:=by first|exact .inl rfl|exact .inr Y2)(hs:∀x,foldedSetIterable iter X.env x=pure x:=by intro _;rfl):Vy X (.Assign [.Name y py] (.ListComp elt [⟨tgt,iter,ifs,0⟩] scope pos) spos) (λρ=>(gB fi gt p fe is ts.length ρ).bind λb=>(X3 ρ i b).bind λρ'=>Z (.nx ρ')):=⟨have hi:=hi.run;have n:=λC c d fp=>(n C c d fp).run;have j:=λC c d fp=>(j C c d fp).run;have l:=λC c d fp=>(l C c d fp).run;λAN s σ H D I h=>by
 obtain⟨H0,ρ,r,E,e,q⟩:=h;obtain⟨b,eb,e⟩:=AT e;obtain⟨ds,P,eb⟩:=AT eb;split at eb
 ·rename_i a5;obtain⟨out,eo,eb⟩:=AT eb;cases eb;cases e;rw[exec_Assign_Name_used _ _ _ _ S];refine zb (kl (zb ?_));show A7 _ X.A (do let _ <-comprehension (.ListComp elt [⟨tgt,iter,ifs,0⟩] scope pos) scope X.env _ (newList []) false (eval iter X.env) (Z (assign (.Name y py) X.env))) _ _ s;refine zb (QE (yk (use:=Z (assign (.Name y py) X.env)) (Q:=λ_ s'=>SP X AN D .next s') Y2 hs O.clos O.kind O.names ?_) (λ_ s' hq=>zd (zd hq)) λ_ _ e=>e);refine jF (hi AN s σ H (λJ H'=>AV H H'/\B7 X.K J ds H') I ⟨H0,ρ,ds,E,P,λJ H' s' y=>⟨s',y⟩⟩) λv s1 h1=>jF h1 λb5 s2 h2=>?_;obtain⟨it,fp,tn,J,H2,rfl,I2,T,st,a6,t,Y⟩:=h2;refine N7 (B:=N5) (RR:=λb0 C=>compPost (cr X) X.A X.xe (Z (assign (.Name y py) X.env)) (λ_ s'=>SP X AN D .next s') b0 C) (ts:=ts) (xs:=xs) O a4 n j l a7 I2 ((E.grow t).caps is ts.length) (T7 T) st a6 Y a5 eo ?_;intro f C s' H' us hD u fC ⟨m,hn⟩ s2' hD' r';show A7 _ X.A (assign (.Name y py) X.env (.ref f)) _ _ s';obtain⟨f0,f1,f2,f3,M,U⟩:=fC;obtain⟨g,b4,ep,a3,F,a2⟩:=id hn;have a1:L2.AU X (AN++[(C,g)]) σ H' s':=u.J0 λG hp=>by
   rcases cb.mp hp with z|z
   ·exact u.pin G (qk _ z)
   ·have:G=(C,g):=by simpa using z
    subst this;exact⟨a3,f0,f1,f2,λv z=>by rw[F]at z;cases z⟩
  refine jF (L2.TQ hN L hx W (AN++[(C,g)]) s' σ H' (.ref f) (.ref f) (λσ' k=>σ'=σ.set i (Z (.ref f))/\k=H') a1 Y2 ⟨rfl,rfl⟩) λ_ s'' ⟨σ',k,J',e1,e2⟩=>?_;subst e1 e2;have b3:=(J'.pin (C,g) (by simp)).1;refine⟨m,⟨g,b4,ep,b3,F,a2⟩,λh' sb=>?_⟩;refine⟨σ.set i (Z (.ref f)),k,J'.vJ.turned (t':=s''.toks) (λb o hb e=>(sb.2 b hb).trans e) f0 f1 f3 M U,q _ _ ?_⟩;exact E.set (t.trans s2') (b:=.o out) ⟨f,us,rfl,hD',r'⟩ (.inl Y2) λa ea=>by cases ea;exact t.free hD
 ·cases eb⟩
def lend:Bx->Bx
 |.o ds=>.l ds
 |.m ds _=>.n ds
 |b=>b
def ci:Bx->Bool
 |.o _=>true
 |.m _ _=>true
 |_=>false
def Yh(K:B8)(n:Nat)(F:Y Bx->Y3 Bx):Sp:=λvs H Q _=>vs.length=n/\∃bs r,zu K H bs vs/\bs.all (λb=>!ci b)=true/\F bs=Z r/\∀v H',AV H H'->Nw H r v->bf K H' r v->Q v H'
def c7(n:Nat)(g:Ev->Y3 Ap):Y Bx->Y3 Bx:=λbs=>(g (bs.map Z++bj (n-bs.length) O)).bind λr=>match r with
 |.rt b=>Z b
 |.nx _=>Z (.z .non)
 |_=>O
theorem bW.start{K:B8}{H:Hp}{N:At}{bs:Y Bx}{vs:Y V}(r:zu K H bs vs)(g:bs.all (λb=>!ci b)=true):bW K H H (L2.start N vs) (bs.map Z++bj (N.length-bs.length) O):=by
 have hl:bs.length=vs.length:=Paired.length r;have get:∀(i:Nat) b,(bs.map Z++bj (N.length-bs.length) O)[i]?=Z (Z b)->bs[i]?=Z b:=λi b e=>by
  by_cases hi:i<bs.length
  ·rw[ZZ (by simpa using hi),qB]at e;cases q:bs[i]? with
   |none=>rw[q]at e;cases e
   |some k=>rw[q]at e;simpa using e
  ·rw[QI (by simp;omega),jS]at e;split at e<;>cases e
 have f:∀(i:Nat) c,(bs.map Z++bj (N.length-bs.length) O)[i]?=Z (Z c)->yE c=true->False:=λi c e d=>by
  have:=List.all_eq_true.mp g _ (ky (get i _ e));cases c with
  |o ds=>cases this
  |m ds _=>cases this
  |_=>cases d
 refine⟨?_,λi b e=>?_,λi j c a b e d=>(f i c e d).elim,AV.refl H,λi c a e d=>(f i c e d).elim⟩
 ·unfold L2.start;simp[hl]
 ·have e':=get i b e;have hi:i<bs.length:=(ca.mp e').1;have:∀{bs:Y Bx} {vs:Y V} {i:Nat} {b:Bx},AI (bf K H) bs vs->bs[i]?=Z b->∃v,vs[i]?=Z v/\bf K H b v:=by
   intro bs vs i b r
   induction r generalizing i with
   |nil=>intro e;simp at e
   |cons p t h=>
    intro e;cases i with
    |zero=>simp at e;subst e;exact⟨_,rfl,p⟩
    |succ i=>obtain⟨v,e1,e2⟩:=h (i:=i) (by simpa using e);exact⟨v,by simpa using e1,e2⟩
  obtain⟨v,e1,e2⟩:=this r e';refine⟨v,?_,e2⟩;unfold L2.start;rw[ZZ (by simp;omega),qB,e1];rfl
end
theorem PP{f:A1}{g:Ev->Y3 Ap}(F:D4 K x qual st f fd)(S:bD N ps (aK st))(l:∀(c:A0) (A:A5) (outer:Y Env) (s:A2) (H:Hp) (E:XK),jG k (A.deeper (AK qual (aK st) s.heap.objs.size f c))->Xd (EY Nz P w K mg base N qual (aK st) f c A outer s H E).nox (jk st) g):
  yD P w K mg base Nz (k+1) f fd ps (Yh K ps.length (c7 N.length g)):=by
 refine F.ok S (λvs H Q E h=>h.1) λc A outer s H vs Q E n h=>?_;obtain⟨hl,bs,r,m,d,e,q⟩:=h;refine⟨_,l c A outer s H E n,?_⟩;obtain⟨a,er,e⟩:=AT e;refine⟨H,_,a,bW.start m d,er,?_⟩;cases a with
 |rt b=>cases e;exact λv H' s' i a=>q v H' s' i a
 |nx ρ=>cases e;exact λσ H' j=>q _ H' j.base trivial (by unfold bf AW;rfl)
 |bk ρ=>cases e
 |ct ρ=>cases e
section
variable{f:A1}{F:Y Bx->Y3 Bx}{p:Pos}{fs:Ev->Y3 (Y Bx)}
theorem N8{K:B8}{H:Hp}:∀{bs:Y Bx} {vs:Y V},zu K H bs vs->zu K H (bs.map lend) vs
 |_,_,.nil=>.nil
 |b::bs,_,.cons h t=>by
  refine .cons ?_ (N8 t);cases b with
  |z d=>exact h
  |l ds=>exact h
  |o ds=>obtain⟨a,vs,e,q,r⟩:=h;exact⟨a,vs,e,.inl q,r⟩
  |n ds=>exact h
  |m ds _=>obtain⟨a,vs,e,q,r⟩:=h;exact⟨a,vs,e,.inl q,r.1⟩
theorem Ub:∀bs:Y Bx,(bs.map lend).all (λb=>!ci b)=true
 |[]=>rfl
 |b::bs=>by
  rw[zw,kc,Ub bs];cases b<;>rfl
def bG(n:Nat)(F:Y Bx->Y3 Bx)(fs:Ev->Y3 (Y Bx)):Ev->Y3 Bx:=λρ=>(fs ρ).bind λbs=>if bs.length=n then F (bs.map lend)else O
theorem Tu(G:yD X.prog X.w X.K X.mg X.base Nz k f fd ps (Yh X.K n F))(y:jG k X.A)(s:Gl X x)(u:X.mg x=Z (.ref f))(hk:keepIn X.K (.ref f)=true)(m:Bi X.K fd ps [])(a:T3 X (e::es) fs)(j:ad x:=by decide)(g:A9 (e::es) X.env=(false,eval e X.env)::A9 es X.env:=by rfl)(o:(AD pos (A9 es X.env)).any (·.1)=false:=by rfl):QV X (.Call (.Name x p) (e::es) [] pos) (bG n F fs):=⟨have a:=a.run;HD (PD G y s u hk m .nil (ac) a j g o) λσ H Q h=>by
 obtain⟨H0,ρ,r,E,e,q⟩:=h;obtain⟨bs,eb,e⟩:=AT e;refine⟨H0,ρ,bs,E,eb,λvs H1 c b=>?_⟩;split at e
 ·rename_i d;rw[Qr];exact⟨by rw[<-Paired.length b];exact d,_,r,N8 b,Ub bs,e,λv H2 i l t=>q v H2 (c.trans i) (l.old c) t⟩
 ·cases e⟩
end
end P1
variable{b:P1.Bx}{d:P1.Dt}{q:P1.Ev->Y3 Bool}{F:Y P1.Bx->Y3 P1.Bx}{f:P1.Ev->Y3 P1.Bx}{g:P1.Ev->Y3 P1.Ap}{p:P1.Ev->Y3 Bool}{ds:Y P1.Dt}{fa:P1.Ev->Y3 P1.Bx}{ρ:P1.Ev}{fb fc:P1.Ev->Y3 P1.Bx}{g1 g2:P1.Ev->Y3 P1.Ap}{gt:P1.Dt->P1.Ev->Y3 P1.Ev}{gb:P1.Ev->Y3 P1.Ap}{fi:P1.Ev->Y3 (Y P1.Dt)}{fe:P1.Ev->Y3 P1.Bx}{Ac:A1->L2.Hp->Y P1.Dt->L2.HO->Prop}{fk:P1.Dt->Y3 P1.Bx}{fo fv:P1.Ev->Y3 P1.Bx}{fr:P1.Ev->Y3 (Y (AJ×P1.Dt))}{f1:P1.Ev->Y3 P1.Bx}{gx:P1.Ev->Y3 P1.Dt}{kf:Y P1.Dt->Y3 (Y (Y L2.AY))}{gY b_1:P1.Bx}
namespace P1
open L2 SeqAt
open AutoSeq1 (wpAny_loadPart')
def HS(h:A6)(a:A1):Prop:=∃o ep,h.get? a=Z o/\o.ExactDict/\o.data=.dict #[] ep
section
variable{b:A1}
theorem zG{vs:Y (AY×A0)}(q:AO=[])(r:KV AO vs)(d:h.DictOf (lB P w) a vs):HS h a:=by
 subst q;cases r;obtain⟨o,es,ep,h1,h2,b,_,c,_⟩:=d;have:es=#[]:=by
  have:=c.length;apply Array.eq_empty_of_size_eq_zero;simpa using this
 subst this;exact⟨o,ep,h1,h2,b⟩
theorem HS.dict(P:A3)(w:A4)(x:HS h a):h.DictOf (strKind P w) a []:=by
 obtain⟨o,ep,h1,h2,c⟩:=x;exact⟨o,#[],ep,h1,h2,c,λe b=>by simp at b,.nil,ei⟩
theorem LN(e:(a==sysModules)=false)(c:(b==sysModules)=false)(g:HS s.heap a)(f:HS s.heap b)(d:A.units<cLine):RcAt A s (.ref a) (.ref b) true:=λprog w E Q h=>
 PySem.W.keq_eq (knd:=strKind prog w) e c (g.dict prog w) (f.dict prog w) d (λ_=>.nil) h
theorem UC(e:(a==sysModules)=false)(c:(b==sysModules)=false)(g:HS s.heap a)(f:HS s.heap b)(d:A.units<cLine):RcNeAt A s (.ref a) (.ref b) false:=λprog w E Q h=>
 PySem.W.keq_ne (r:=true) (knd:=strKind prog w) e c (g.dict prog w) (f.dict prog w) d (λ_=>.nil) h
theorem Oa(o:AE)(b:AJ)(u:Tok):Meets (Builtin.«dict.__eq__» ⟨[.ref a,.str b u],[]⟩) (λ_ R s=>(s.heap.get? a=Z o/\o.cls=.type "dict")/\R (.ok (.ret .notImplemented)) s):=
 .of_wp λprog w A R s h=>by
  have c:s.TypeIs (.ref a) "dict":=⟨o,h.1.1,h.1.2⟩;show A7 _ _ (Builtin.Dict.dictSlotArgs "__eq__" ⟨[.ref a,.str b u],[]⟩ >>= _) _ _ s;refine zb ?_;unfold Builtin.Dict.dictSlotArgs;refine zb (wpAny_notOrdered_dict c ?_);show A7 _ _ (pure (Value.ref a,Value.str b u)) _ _ s;refine zd ?_;refine zb (yn (T :="str") (typeIs_str s b u) PySem.F.sub_str_dict ?_);simp only[KS,QO];refine zb (QP ?_);exact zd ⟨_,rfl,h.2⟩
theorem Ob(b:AJ)(u:Tok)(es:Array DictEntry)(ep:Nat)(c:Y3 A1)(sl:Array (Y3 A0)):Meets (Builtin.«str.__eq__» ⟨[.str b u,.ref a],[]⟩) (λ_ R s=>s.heap.get? a=Z { cls:=.type "dict",dict:=c,data:=.dict es ep,slots:=sl }/\R (.ok (.ret .notImplemented)) s):=
 .of_wp λprog w A R s h=>by obtain⟨hp,g,d,tk,os⟩:=s;obtain⟨hl,h⟩:=h;wp_walk using wpAny_loadPart' hl,wpAny_load hl;exact⟨_,rfl,h⟩
theorem Ji(x:AJ)(t:Tok)(d:HS s.heap a)(g:A.units<cLine):RcAt A s (.str x t) (.ref a) false:=λprog w E Q h=>by
 obtain⟨⟨l,i,j,sl⟩,ep,c,⟨f,hd,m⟩,e⟩:=d;simp only at f e;subst f e;exact rc_eq_decline_or (k:=false) (typeIs_str s x t) ⟨_,c,rfl⟩ () PySem.F.sub_dict_str PySem.F.slot_str_eq PySem.F.slot_dict_eq_refl
  (λ_ b=>call_meets PySem.F.slot_str_eq (typeIs_str s x t) PySem.F.entry_str_eq (PySem.F.args_str_eq_2 _ _) (Ob x t #[] ep i sl) ⟨c,b⟩)
  (λ_ b=>call_meets PySem.F.slot_dict_eq_refl ⟨_,c,rfl⟩ PySem.F.entry_dict_eq (PySem.F.args_dict_eq_2 _ _) (Oa _ x t) ⟨⟨c,rfl⟩,b⟩)
  (λ_ b=>wpAny_of_eq (rfl:isSame (.str x t) (.ref a)=pure false) b) (.inr g) h
theorem Oc(o:AE)(b:AJ)(u:Tok):Meets (Builtin.«dict.__ne__» ⟨[.ref a,.str b u],[]⟩) (λ_ R s=>(s.heap.get? a=Z o/\o.cls=.type "dict")/\R (.ok (.ret .notImplemented)) s):=
 .of_wp λprog w A R s h=>by
  have c:s.TypeIs (.ref a) "dict":=⟨o,h.1.1,h.1.2⟩;show A7 _ _ (Builtin.Dict.dictSlotArgs "__ne__" ⟨[.ref a,.str b u],[]⟩ >>= _) _ _ s;refine zb ?_;unfold Builtin.Dict.dictSlotArgs;refine zb (wpAny_notOrdered_dict c ?_);show A7 _ _ (pure (Value.ref a,Value.str b u)) _ _ s;refine zd ?_;refine zb (yn (T :="str") (typeIs_str s b u) PySem.F.sub_str_dict ?_);simp only[KS,QO];refine zb (QP ?_);exact zd ⟨_,rfl,h.2⟩
theorem Od(b:AJ)(u:Tok)(es:Array DictEntry)(ep:Nat)(c:Y3 A1)(sl:Array (Y3 A0)):Meets (Builtin.«str.__ne__» ⟨[.str b u,.ref a],[]⟩) (λ_ R s=>s.heap.get? a=Z { cls:=.type "dict",dict:=c,data:=.dict es ep,slots:=sl }/\R (.ok (.ret .notImplemented)) s):=
 .of_wp λprog w A R s h=>by obtain⟨hp,g,d,tk,os⟩:=s;obtain⟨hl,h⟩:=h;wp_walk using wpAny_loadPart' hl,wpAny_load hl;exact⟨_,rfl,h⟩
theorem VD(x:AJ)(t:Tok)(d:HS s.heap a)(g:A.units<cLine):RcNeAt A s (.str x t) (.ref a) true:=λprog w E Q h=>by
 obtain⟨⟨l,i,j,sl⟩,ep,c,⟨f,hd,m⟩,e⟩:=d;simp only at f e;subst f e;exact rc_ne_decline_or (k:=false) (typeIs_str s x t) ⟨_,c,rfl⟩ () PySem.F.sub_dict_str PySem.F.slot_str_ne PySem.F.slot_dict_ne_refl
  (λ_ b=>call_meets PySem.F.slot_str_ne (typeIs_str s x t) PySem.F.entry_str_ne (PySem.F.args_str_ne_2 _ _) (Od x t #[] ep i sl) ⟨c,b⟩)
  (λ_ b=>call_meets PySem.F.slot_dict_ne_refl ⟨_,c,rfl⟩ PySem.F.entry_dict_ne (PySem.F.args_dict_ne_2 _ _) (Oc _ x t) ⟨⟨c,rfl⟩,b⟩)
  (λ_ b=>wpAny_of_eq (rfl:isSame (.str x t) (.ref a)=pure false) b) (.inr g) h
theorem VF(x:AJ)(t:Tok)(d:HS s.heap a)(c:A.units<cLine):EqAt A s (.str x t) (.ref a) false:=λprog w E Q h=>by
 unfold eqBool;refine kb ?_;refine wpAny_ite_split (λb=>absurd (eq_of_beq b) nofun) (λ_=>?_);exact zb (Ji x t d c prog w E _ (QR h))
end
mutual
def zf:Dt->Nat
 |.tup xs=>zH xs+1
 |.lst xs=>zH xs+1
 |_=>1
def zH:Y Dt->Nat
 |[]=>0
 |d::ds=>max (zf d) (zH ds)
end
mutual
def Hv:Dt->Dt->Y3 Bool
 |.non,.non=>Z true
 |.non,.bl _=>Z false|.non,.int _=>Z false|.non,.str _=>Z false|.non,.tup _=>Z false|.non,.lst _=>Z false
 |.bl a,.bl b=>Z (a==b)
 |.bl a,.int b=>Z ((if a then 1 else 0)==b)
 |.bl _,.non=>Z false|.bl _,.str _=>Z false|.bl _,.tup _=>Z false|.bl _,.lst _=>Z false
 |.int a,.int b=>Z (a==b)
 |.int a,.bl b=>Z (a==(if b then 1 else 0))
 |.int _,.non=>Z false|.int _,.str _=>Z false|.int _,.tup _=>Z false|.int _,.lst _=>Z false
 |.str a,.str b=>Z (a==b)
 |.str _,.non=>Z false|.str _,.bl _=>Z false|.str _,.int _=>Z false|.str _,.tup _=>Z false|.str _,.lst _=>Z false|.str _,.emp=>Z false
 |.tup xs,.tup ys=>mK xs ys
 |.tup _,.non=>Z false|.tup _,.bl _=>Z false|.tup _,.int _=>Z false|.tup _,.str _=>Z false|.tup _,.lst _=>Z false
 |.lst xs,.lst ys=>mK xs ys
 |.emp,.emp=>Z true
 |.lst _,.non=>Z false|.lst _,.bl _=>Z false|.lst _,.int _=>Z false|.lst _,.str _=>Z false|.lst _,.tup _=>Z false
 |_,_=>O
def mK:Y Dt->Y Dt->Y3 Bool
 |[],[]=>Z true
 |[],_::_=>Z false
 |_::_,[]=>Z false
 |x::xs,y::ys=>match Hv x y with
  |some b=>match mK xs ys with
   |some c=>Z (b&&c)
   |none=>O
  |none=>O
end
mutual
theorem Oe:∀{d:Dt} {k:Bool},Hv d d=Z k->k=true
 |.non,_,e=>by cases e;rfl
 |.bl b,_,e=>by cases e;simp
 |.int b,_,e=>by cases e;simp
 |.str b,_,e=>by cases e;simp
 |.tup xs,_,e=>Bl (ds:=xs) e
 |.lst xs,_,e=>Bl (ds:=xs) e
 |.emp,_,e=>by cases e;rfl
theorem Bl:∀{ds:Y Dt} {k:Bool},mK ds ds=Z k->k=true
 |[],_,e=>by simp only[mK]at e;cases e;rfl
 |d::ds,_,e=>by
  simp only[mK]at e;cases h:Hv d d with
  |none=>rw[h]at e;cases e
  |some b=>
   rw[h]at e;simp only at e;cases h2:mK ds ds with
   |none=>rw[h2]at e;cases e
   |some c=>
    rw[h2]at e;cases e;rw[Oe h,Bl h2];rfl
end
theorem Eh(xs ys:Y Dt):Hv (.tup xs) (.tup ys)=mK xs ys:=rfl
theorem vP:∀{xs ys:Y Dt} {k:Bool},mK xs ys=Z k->∃e:Nat->Bool,(∀(j:Nat) x y,xs[j]?=Z x->ys[j]?=Z y->Hv x y=Z (e j))/\k=((da (min xs.length ys.length)).all e&&xs.length==ys.length)
 |[],[],k,h=>by simp only[mK]at h;cases h;exact⟨λ_=>true,λj x y e=>by simp at e,by simp⟩
 |[],y::ys,k,h=>by simp only[mK]at h;cases h;exact⟨λ_=>true,λj x y e=>by simp at e,by simp⟩
 |x::xs,[],k,h=>by simp only[mK]at h;cases h;exact⟨λ_=>true,λj x y _ e=>by simp at e,by simp⟩
 |x::xs,y::ys,k,h=>by
  simp only[mK]at h;cases h1:Hv x y with
  |none=>rw[h1]at h;cases h
  |some b=>
   rw[h1]at h;simp only at h;cases h2:mK xs ys with
   |none=>rw[h2]at h;cases h
   |some c=>
    rw[h2]at h;cases h;obtain⟨e,g,d⟩:=vP h2;refine⟨λj=>match j with|0=>b|j+1=>e j,λj u v a ev=>?_,?_⟩
    ·cases j with
     |zero=>simp at a ev;subst a ev;exact h1
     |succ j=>exact g j u v (by simpa using a) (by simpa using ev)
    ·have:min (x::xs).length (y::ys).length=min xs.length ys.length+1:=by simp only[Z3];omega
     rw[this,dr,kc,List.all_map,d];have f:((x::xs).length==(y::ys).length)=(xs.length==ys.length):=by
      rw[fN];simp
     rw[f,Bool.and_assoc];rfl
theorem vQ:∀{ds:Y Dt} {j:Nat} {d:Dt},ds[j]?=Z d->zf d<=zH ds
 |[],_,_,e=>by simp at e
 |d::ds,0,_,e=>by simp at e;subst e;simp only[zH];exact Nat.le_max_left _ _
 |d::ds,j+1,_,e=>by
  simp only[zH];exact zo (vQ (ds:=ds) (j:=j) (by simpa using e)) (Nat.le_max_right _ _)
theorem Ei(I:L2.AU X AN σ H s)(h:tX X.K H a vs):∃b,s.heap.get? a=Z b/\b.cls=.type "tuple":=by
 obtain⟨AQ,_,⟨b,e,c,_⟩,_⟩:=I.tuple h;exact⟨b,e,c⟩
theorem Ej(I:L2.AU X AN σ H s)(h:qC X.K H a vs):∃b,s.heap.get? a=Z b/\b.cls=.type "list":=by
 obtain⟨AQ,_,⟨b,n,e,c,_⟩,_⟩:=I.list h;exact⟨b,e,c⟩
theorem o8(I:L2.AU X AN σ H s){o:AE}(h:H a=Z (.oJ o (.dK []))):∃b,s.heap.get? a=Z b/\b.cls=.type "dict":=by
 obtain⟨e,_,_,vs,_,b,es,ep,e2,ex,_⟩:=I.hok a _ h;exact⟨b,e2,ex.1⟩
theorem Bm{n m:String}(h:∃b,s.heap.get? a=Z b/\b.cls=.type n)(q:∃b,s.heap.get? a=Z b/\b.cls=.type m)(d:n≠m):False:=by
 obtain⟨o,e,c⟩:=h;obtain⟨o',e',c'⟩:=q;rw[e]at e';cases e';rw[c]at c';exact d (by injection c')
mutual
theorem AW.inj(I:L2.AU X AN σ H s):∀{d e:Dt} {v:V},AW X.K H d v->AW X.K H e v->d=e
 |.non,e,v,h,q=>by
  simp only[AW]at h;subst h;cases e<;>simp only[AW]at q<;>first|rfl|(cases q;done)|(obtain⟨a,b,z,_⟩:=q;cases z;done)|(obtain⟨z,_⟩:=q;cases z;done)
 |.bl _,e,v,h,q=>by
  simp only[AW]at h;subst h;cases e<;>simp only[AW]at q<;>first|(cases q;rfl)|(cases q;done)|(obtain⟨a,b,z,_⟩:=q;cases z;done)|(obtain⟨z,_⟩:=q;cases z;done)
 |.int _,e,v,h,q=>by
  simp only[AW]at h;subst h;cases e<;>simp only[AW]at q<;>first|(cases q;rfl)|(cases q;done)|(obtain⟨a,b,z,_⟩:=q;cases z;done)|(obtain⟨z,_⟩:=q;cases z;done)
 |.str x,e,v,h,q=>by
  simp only[AW]at h;have g:v=.str x:=h.1;subst g;cases e with
  |str y=>
   simp only[AW]at q;have z:V.str x=V.str y:=q.1;injection z with z;rw[z]
  |tup es=>simp only[AW]at q;obtain⟨a,b,z,_⟩:=q;cases z
  |lst es=>simp only[AW]at q;obtain⟨a,b,z,_⟩:=q;cases z
  |emp=>simp only[AW]at q;obtain⟨a,b,z,_⟩:=q;cases z
  |_=>simp only[AW]at q;cases q
 |.tup ds,e,v,h,q=>by
  simp only[AW]at h;obtain⟨a,vs,rfl,sq,r⟩:=h;cases e with
  |tup es=>
   simp only[AW]at q;obtain⟨b,us,z,c,f⟩:=q;cases z;have:=I.Bc sq c;subst this;rw[aH.inj I r f]
  |lst es=>
   simp only[AW]at q;obtain⟨b,us,z,c,f⟩:=q;cases z;exact(Bm (Ei I sq) (Ej I c.sq) ()).elim
  |emp=>
   simp only[AW]at q;obtain⟨b,o,z,c⟩:=q;cases z;exact(Bm (Ei I sq) (o8 I c) ()).elim
  |str x=>simp only[AW]at q;have z:=q.1;cases z
  |_=>simp only[AW]at q;cases q
 |.lst ds,e,v,h,q=>by
  simp only[AW]at h;obtain⟨a,vs,rfl,sq,r⟩:=h;cases e with
  |lst es=>
   simp only[AW]at q;obtain⟨b,us,z,c,f⟩:=q;cases z;have:=I.Ey sq.sq c.sq;subst this;rw[aH.inj I r f]
  |tup es=>
   simp only[AW]at q;obtain⟨b,us,z,c,f⟩:=q;cases z;exact(Bm (Ej I sq.sq) (Ei I c) ()).elim
  |emp=>
   simp only[AW]at q;obtain⟨b,o,z,c⟩:=q;cases z;exact(Bm (Ej I sq.sq) (o8 I c) ()).elim
  |str x=>simp only[AW]at q;have z:=q.1;cases z
  |_=>simp only[AW]at q;cases q
 |.emp,e,v,h,q=>by
  simp only[AW]at h;obtain⟨a,o,rfl,sq⟩:=h;cases e with
  |emp=>rfl
  |tup es=>
   simp only[AW]at q;obtain⟨b,us,z,c,f⟩:=q;cases z;exact(Bm (o8 I sq) (Ei I c) ()).elim
  |lst es=>
   simp only[AW]at q;obtain⟨b,us,z,c,f⟩:=q;cases z;exact(Bm (o8 I sq) (Ej I c.sq) ()).elim
  |str x=>simp only[AW]at q;have z:=q.1;cases z
  |_=>simp only[AW]at q;cases q
theorem aH.inj(I:L2.AU X AN σ H s):∀{ds es:Y Dt} {vs:Y V},aH X.K H ds vs->aH X.K H es vs->ds=es
 |[],es,vs,h,q=>by
  simp only[aH]at h;subst h;cases es with
  |nil=>rfl
  |cons e es=>simp only[aH]at q;obtain⟨_,_,z,_⟩:=q;cases z
 |d::ds,es,vs,h,q=>by
  simp only[aH]at h;obtain⟨v,r,rfl,h1,h2⟩:=h;cases es with
  |nil=>simp only[aH]at q;cases q
  |cons e es=>
   simp only[aH]at q;obtain⟨b,a,z,q1,q2⟩:=q;cases z;rw[AW.inj I h1 q1,aH.inj I h2 q2]
end
theorem XB(I:L2.AU X AN σ H s):∀(n:Nat) {A:A5} {d e:Dt} {x y:V} {u v:A0} {k:Bool},min (zf d) (zf e)<=n->A.units+n<cLine->AW X.K H d x->AW X.K H e y->B0 x u->B0 y v->Hv d e=Z k->EqAt A s u v k:=by
 intro n
 induction n with
 |zero=>
  intro A d e x y u v k N;have h1:1<=zf d:=by cases d<;>simp only[zf]<;>omega
  have h2:1<=zf e:=by cases e<;>simp only[zf]<;>omega
  omega
 |succ n ih=>
  intro A d e x y u v k N hA m c w g ek;have h:A.units<cLine:=by omega
  by_cases G:u=v/\∃a,u=.ref a
  ·obtain⟨rfl,a,rfl⟩:=G;have hx:x=.ref a:=by have:=w.abs;simpa[IE]using this.symm
   have hy:y=.ref a:=by have:=g.abs;simpa[IE]using this.symm
   subst hx hy;have:=AW.inj I m c;subst this;rw[Oe ek];exact EqAt.same _
  ·have items:∀{ds es:Y Dt} {vs us:Y V} {AQ l:Y A0} {f:Nat->Bool},min (zH ds) (zH es)<=n->aH X.K H ds vs->aH X.K H es us->AX vs AQ->AX us l->(∀(j:Nat) x y,ds[j]?=Z x->es[j]?=Z y->Hv x y=Z (f j)) →
     ∀j (h1:j<AQ.toArray.size) (h2:j<l.toArray.size),EqAt A.in1 s AQ.toArray[j] l.toArray[j] (f j):=by
    intro ds es vs us AQ l f hm r1 r2 W U D j h1 h2;have l1:=W.length;have l2:=U.length;have l3:=r1.length;have l4:=r2.length;have j1:j<AQ.length:=by simpa using h1
    have j2:j<l.length:=by simpa using h2
    have P:ds[j]?=Z ds[j]:=by simp
    have d2:es[j]?=Z es[j]:=by simp
    obtain⟨a,ea,C⟩:=r1.get P;obtain⟨b,eb,B⟩:=r2.get d2;obtain⟨p,ep,rp⟩:=W.get ea;obtain⟨q,eq,rq⟩:=U.get eb;have e1:AQ.toArray[j]=p:=by simpa[j1]using ep
    have e2:l.toArray[j]=q:=by simpa[j2]using eq
    rw[e1,e2];have S:=vQ P;have m2:=vQ d2;exact ih () (by rw[units_in1];omega) C B rp rq (D j _ _ P d2)
   cases d with
   |non=>
    cases m;cases w;cases e with
    |non=>cases c;cases g;cases ek;exact EqAt.same _
    |bl b=>cases c;cases g;cases ek;exact EqAt.none_bool b
    |int b=>cases c;obtain⟨t,rfl⟩:=g;cases ek;exact EqAt.none_int b t
    |str b=>obtain⟨rfl,_⟩:=c;obtain⟨t,rfl⟩:=g;cases ek;exact EqAt.none_str b t
    |tup es=>obtain⟨b,us,rfl,sq,_⟩:=c;cases g;cases ek;obtain⟨_,_,p,_⟩:=I.tuple sq;exact EqAt.none_tuple p h
    |lst es=>obtain⟨b,us,rfl,sq,_⟩:=c;cases g;cases ek;obtain⟨_,_,p,_⟩:=I.list sq.sq;exact EqAt.none_list p.isList h
    |emp=>cases ek
   |bl a=>
    cases m;cases w;cases e with
    |non=>cases c;cases g;cases ek;exact EqAt.bool_none a
    |bl b=>cases c;cases g;cases ek;exact EqAt.bool_bool a b
    |int b=>cases c;obtain⟨t,rfl⟩:=g;cases ek;exact EqAt.bool_int a b t
    |str b=>obtain⟨rfl,_⟩:=c;obtain⟨t,rfl⟩:=g;cases ek;exact EqAt.bool_str a b t
    |tup es=>obtain⟨b,us,rfl,sq,_⟩:=c;cases g;cases ek;obtain⟨_,_,p,_⟩:=I.tuple sq;exact EqAt.bool_tuple a p h
    |lst es=>obtain⟨b,us,rfl,sq,_⟩:=c;cases g;cases ek;obtain⟨_,_,p,_⟩:=I.list sq.sq;exact EqAt.bool_list a p.isList h
    |emp=>cases ek
   |int a=>
    cases m;obtain⟨i,rfl⟩:=w;cases e with
    |non=>cases c;cases g;cases ek;exact EqAt.int_none a i
    |bl b=>cases c;cases g;cases ek;exact EqAt.int_bool a i b
    |int b=>cases c;obtain⟨t,rfl⟩:=g;cases ek;exact EqAt.int_int a i b t
    |str b=>obtain⟨rfl,_⟩:=c;obtain⟨t,rfl⟩:=g;cases ek;exact EqAt.int_str a i b t
    |tup es=>obtain⟨b,us,rfl,sq,_⟩:=c;cases g;cases ek;obtain⟨_,_,p,_⟩:=I.tuple sq;exact EqAt.int_tuple a i p h
    |lst es=>obtain⟨b,us,rfl,sq,_⟩:=c;cases g;cases ek;obtain⟨_,_,p,_⟩:=I.list sq.sq;exact EqAt.int_list a i p.isList h
    |emp=>cases ek
   |str a=>
    obtain⟨rfl,_⟩:=m;obtain⟨i,rfl⟩:=w;cases e with
    |non=>cases c;cases g;cases ek;exact EqAt.str_none a i
    |bl b=>cases c;cases g;cases ek;exact EqAt.str_bool a i b
    |int b=>cases c;obtain⟨t,rfl⟩:=g;cases ek;exact EqAt.str_int a i b t
    |str b=>obtain⟨rfl,_⟩:=c;obtain⟨t,rfl⟩:=g;cases ek;exact EqAt.str_str a i b t
    |tup es=>obtain⟨b,us,rfl,sq,_⟩:=c;cases g;cases ek;obtain⟨_,_,p,_⟩:=I.tuple sq;exact EqAt.str_tuple a i p h
    |lst es=>obtain⟨b,us,rfl,sq,_⟩:=c;cases g;cases ek;obtain⟨_,_,p,_⟩:=I.list sq.sq;exact EqAt.str_list a i p.isList h
    |emp=>
     simp only[AW]at c;obtain⟨p,o,rfl,e⟩:=c;cases g;cases ek;obtain⟨_,_,vs,r,q⟩:=Jc I.hok (.inr ⟨o,e⟩);exact VF a i (zG Y2 r q) h
   |tup ds=>
    obtain⟨a,vs,rfl,L,C⟩:=m;cases w;obtain⟨AQ,F,p,_⟩:=I.tuple L;cases e with
    |non=>cases c;cases g;cases ek;exact EqAt.tuple_none p h
    |bl b=>cases c;cases g;cases ek;exact EqAt.tuple_bool b p h
    |int b=>cases c;obtain⟨t,rfl⟩:=g;cases ek;exact EqAt.tuple_int b t p h
    |str b=>obtain⟨rfl,_⟩:=c;obtain⟨t,rfl⟩:=g;cases ek;exact EqAt.tuple_str b t p h
    |lst es=>obtain⟨b,us,rfl,sq,_⟩:=c;cases g;cases ek;obtain⟨_,_,p2,_⟩:=I.list sq.sq;exact EqAt.tuple_list p p2.isList h
    |tup es=>
     obtain⟨b,us,rfl,M,B⟩:=c;cases g;obtain⟨l,E,p2,_⟩:=I.tuple M;change mK _ _=Z _ at ek;obtain⟨f,D,rfl⟩:=vP ek;have J:a≠b:=λz=>G ⟨by rw[z],a,rfl⟩;have z:=EqAt.of_refs J (RcAt.tuples (A:=A) (e:=f) p p2 h (items (by simp only[zf]at N;omega) C B F E D));have q1:AQ.toArray.size=ds.length:=by rw[zh,<-F.length,C.length]
     have q2:l.toArray.size=es.length:=by rw[zh,<-E.length,B.length]
     rw[q1,q2]at z;exact z
    |emp=>cases ek
   |lst ds=>
    obtain⟨a,vs,rfl,L,C⟩:=m;cases w;obtain⟨AQ,F,p,_⟩:=I.list L.sq;cases e with
    |non=>cases c;cases g;cases ek;exact EqAt.list_none p.isList h
    |bl b=>cases c;cases g;cases ek;exact EqAt.list_bool b p.isList h
    |int b=>cases c;obtain⟨t,rfl⟩:=g;cases ek;exact EqAt.list_int b t p.isList h
    |str b=>obtain⟨rfl,_⟩:=c;obtain⟨t,rfl⟩:=g;cases ek;exact EqAt.list_str b t p.isList h
    |tup es=>obtain⟨b,us,rfl,sq,_⟩:=c;cases g;cases ek;obtain⟨_,_,p2,_⟩:=I.tuple sq;exact EqAt.list_tuple p.isList p2 h
    |lst es=>
     obtain⟨b,us,rfl,M,B⟩:=c;cases g;obtain⟨l,E,p2,_⟩:=I.list M.sq;change mK _ _=Z _ at ek;obtain⟨f,D,rfl⟩:=vP ek;have J:a≠b:=λz=>G ⟨by rw[z],a,rfl⟩;have q1:AQ.toArray.size=ds.length:=by rw[zh,<-F.length,C.length]
     have q2:l.toArray.size=es.length:=by rw[zh,<-E.length,B.length]
     by_cases Q:AQ.toArray.size=l.toArray.size
     ·have z:=EqAt.of_refs J (RcAt.lists (A:=A) (e:=f) p.isList p2.isList Q h (items (by simp only[zf]at N;omega) C B F E D));have hl:ds.length=es.length:=by omega
      rw[q1]at z;rw[hl,dE,beq_self_eq_true,Kt,<-hl];exact z
     ·have hl:(ds.length==es.length)=false:=by rw[beq_eq_false_iff_ne];omega
      rw[hl,gh];exact EqAt.of_refs J (RcAt.lists_lengths p.isList p2.isList (by simpa using Q) h)
    |emp=>cases ek
   |emp=>
    cases e<;>first|(cases ek;done)|skip;simp only[AW]at m c;obtain⟨a,o,rfl,e1⟩:=m;obtain⟨b,o',rfl,e2⟩:=c;cases w;cases g;cases ek;obtain⟨_,S,vs,r,q⟩:=Jc I.hok (.inr ⟨o,e1⟩);obtain⟨_,m2,a1,r',q'⟩:=Jc I.hok (.inr ⟨o',e2⟩);exact EqAt.of_refs (λz=>G ⟨by rw[z],a,rfl⟩) (LN S m2 (zG Y2 r q) (zG Y2 r' q') h)
theorem Oh(I:L2.AU X AN σ H s){es:Y Dt}{us:Y V}{c:Y A0}{f:Nat->Bool}(G:min (zH ds) (zH es)<=n)(z:A.units+n+1<cLine)(h:aH X.K H ds vs)(i:aH X.K H es us)(g:AX vs AQ)(e:AX us c)(l:∀(j:Nat) x y,ds[j]?=Z x->es[j]?=Z y->Hv x y=Z (f j)):∀j (h1:j<AQ.toArray.size) (h2:j<c.toArray.size),EqAt A.in1 s AQ.toArray[j] c.toArray[j] (f j):=by
 intro j h1 h2;have E:=g.length;have F:=e.length;have C:=h.length;have B:=i.length;have u:j<AQ.length:=by simpa using h1
 have o:j<c.length:=by simpa using h2
 have d:ds[j]?=Z (ds[j]'()):=by simp
 have d2:es[j]?=Z (es[j]'()):=by simp
 obtain⟨a,ea,m⟩:=h.get d;obtain⟨b,eb,k⟩:=i.get d2;obtain⟨p,ep,w⟩:=g.get ea;obtain⟨q,v,t⟩:=e.get eb;have e1:AQ.toArray[j]=p:=by simpa[u]using ep
 have e2:c.toArray[j]=q:=by simpa[o]using v
 rw[e1,e2];have D:=vQ d;have m2:=vQ d2;exact XB I n () (by rw[units_in1];omega) m k w t (l j _ _ d d2)
def fK(K:B8)(H:Hp):Dt->V->Prop
 |.lst ds,v=>∃a vs,v=.ref a/\qC K H a vs/\aH K H ds vs
 |d,v=>AW K H d v
def jY:Bx->Bool
 |.n _=>true
 |.m _ _=>true
 |_=>false
def toD:Bx->Dt
 |.z d=>d
 |.l ds=>.lst ds
 |.o ds=>.lst ds
 |.n _=>.non
 |.m _ _=>.non
theorem bf.toD{v:V}(h:bf K H b v)(a:jY b=false):fK K H (toD b) v:=by
 cases b with
 |z d=>
  cases d with
  |lst ds=>exact h.HB rfl
  |_=>exact h
 |l ds=>exact h.HB rfl
 |o ds=>exact h.HB rfl
 |n _=>cases a
 |m _ _=>cases a
theorem Uc(I:L2.AU X AN σ H s){e:Dt}{x y:V}{v:A0}{k:Bool}(P:min (zf d) (zf e)<=100)(U:X.A.units+100<cLine)(z:fK X.K H d x)(h:fK X.K H e y)(B:B0 x u)(i:B0 y v)(ek:Hv d e=Z k):RcAt X.A s u v k/\RcNeAt X.A s u v (!k):=by
 have g:X.A.units<cLine:=by omega
 cases d with
 |non=>
  cases z;cases B;cases e with
  |non=>
   cases h;cases i;cases ek;exact⟨.none_none,.none_none⟩
  |bl c=>
   cases h;cases i;cases ek;exact⟨.none_bool c,.none_bool c⟩
  |int c=>
   cases h;obtain⟨t2,rfl⟩:=i;cases ek;exact⟨.none_int c t2,.none_int c t2⟩
  |str c=>
   obtain⟨rfl,_⟩:=h;obtain⟨t2,rfl⟩:=i;cases ek;exact⟨.none_str c t2,.none_str c t2⟩
  |tup c=>
   obtain⟨a2,w,rfl,j,m⟩:=h;cases i;obtain⟨t,l,p2,_⟩:=I.tuple j;cases ek;exact⟨.none_tuple p2 g,.none_tuple p2 g⟩
  |lst c=>
   obtain⟨a2,w,rfl,j,m⟩:=h;cases i;obtain⟨t,l,p2,_⟩:=I.list j;cases ek;exact⟨.none_list p2.isList g,.none_list p2.isList g⟩
  |emp=>cases ek
 |bl x1=>
  cases z;cases B;cases e with
  |non=>
   cases h;cases i;cases ek;exact⟨.bool_none x1,.bool_none x1⟩
  |bl c=>
   cases h;cases i;cases ek;exact⟨.bool_bool x1 c,.bool_bool x1 c⟩
  |int c=>
   cases h;obtain⟨t2,rfl⟩:=i;cases ek;exact⟨.bool_int x1 c t2,.bool_int x1 c t2⟩
  |str c=>
   obtain⟨rfl,_⟩:=h;obtain⟨t2,rfl⟩:=i;cases ek;exact⟨.bool_str x1 c t2,.bool_str x1 c t2⟩
  |tup c=>
   obtain⟨a2,w,rfl,j,m⟩:=h;cases i;obtain⟨t,l,p2,_⟩:=I.tuple j;cases ek;exact⟨.bool_tuple x1 p2 g,.bool_tuple x1 p2 g⟩
  |lst c=>
   obtain⟨a2,w,rfl,j,m⟩:=h;cases i;obtain⟨t,l,p2,_⟩:=I.list j;cases ek;exact⟨.bool_list x1 p2.isList g,.bool_list x1 p2.isList g⟩
  |emp=>cases ek
 |int x1=>
  cases z;obtain⟨t1,rfl⟩:=B;cases e with
  |non=>
   cases h;cases i;cases ek;exact⟨.int_none x1 t1,.int_none x1 t1⟩
  |bl c=>
   cases h;cases i;cases ek;exact⟨.int_bool x1 t1 c,.int_bool x1 t1 c⟩
  |int c=>
   cases h;obtain⟨t2,rfl⟩:=i;cases ek;exact⟨.int_int x1 t1 c t2,.int_int x1 t1 c t2⟩
  |str c=>
   obtain⟨rfl,_⟩:=h;obtain⟨t2,rfl⟩:=i;cases ek;exact⟨.int_str x1 t1 c t2,.int_str x1 t1 c t2⟩
  |tup c=>
   obtain⟨a2,w,rfl,j,m⟩:=h;cases i;obtain⟨t,l,p2,_⟩:=I.tuple j;cases ek;exact⟨.int_tuple x1 t1 p2 g,.int_tuple x1 t1 p2 g⟩
  |lst c=>
   obtain⟨a2,w,rfl,j,m⟩:=h;cases i;obtain⟨t,l,p2,_⟩:=I.list j;cases ek;exact⟨.int_list x1 t1 p2.isList g,.int_list x1 t1 p2.isList g⟩
  |emp=>cases ek
 |str x1=>
  obtain⟨rfl,_⟩:=z;obtain⟨t1,rfl⟩:=B;cases e with
  |non=>
   cases h;cases i;cases ek;exact⟨.str_none x1 t1,.str_none x1 t1⟩
  |bl c=>
   cases h;cases i;cases ek;exact⟨.str_bool x1 t1 c,.str_bool x1 t1 c⟩
  |int c=>
   cases h;obtain⟨t2,rfl⟩:=i;cases ek;exact⟨.str_int x1 t1 c t2,.str_int x1 t1 c t2⟩
  |str c=>
   obtain⟨rfl,_⟩:=h;obtain⟨t2,rfl⟩:=i;cases ek;exact⟨.str_str x1 t1 c t2,.str_str x1 t1 c t2⟩
  |tup c=>
   obtain⟨a2,w,rfl,j,m⟩:=h;cases i;obtain⟨t,l,p2,_⟩:=I.tuple j;cases ek;exact⟨.str_tuple x1 t1 p2 g,.str_tuple x1 t1 p2 g⟩
  |lst c=>
   obtain⟨a2,w,rfl,j,m⟩:=h;cases i;obtain⟨t,l,p2,_⟩:=I.list j;cases ek;exact⟨.str_list x1 t1 p2.isList g,.str_list x1 t1 p2.isList g⟩
  |emp=>
   simp only[fK,AW]at h;obtain⟨p,o,rfl,e⟩:=h;cases i;cases ek;obtain⟨_,_,vs,r,q⟩:=Jc I.hok (.inr ⟨o,e⟩);exact⟨Ji x1 t1 (zG Y2 r q) g,VD x1 t1 (zG Y2 r q) g⟩
 |tup x1=>
  obtain⟨a1,Q,rfl,G,C⟩:=z;cases B;obtain⟨E,D,p1,_⟩:=I.tuple G;cases e with
  |non=>
   cases h;cases i;cases ek;exact⟨.tuple_none p1 g,.tuple_none p1 g⟩
  |bl c=>
   cases h;cases i;cases ek;exact⟨.tuple_bool c p1 g,.tuple_bool c p1 g⟩
  |int c=>
   cases h;obtain⟨t2,rfl⟩:=i;cases ek;exact⟨.tuple_int c t2 p1 g,.tuple_int c t2 p1 g⟩
  |str c=>
   obtain⟨rfl,_⟩:=h;obtain⟨t2,rfl⟩:=i;cases ek;exact⟨.tuple_str c t2 p1 g,.tuple_str c t2 p1 g⟩
  |tup c=>
   obtain⟨a2,w,rfl,j,m⟩:=h;cases i;obtain⟨t,l,p2,_⟩:=I.tuple j;change mK _ _=Z _ at ek;obtain⟨f,J,rfl⟩:=vP ek;have q1:E.toArray.size=x1.length:=by rw[zh,<-D.length,C.length]
   have q2:t.toArray.size=c.length:=by rw[zh,<-l.length,m.length]
   have it:=Oh I (n:=99) (A:=X.A) (by simp only[zf]at P;omega) () C m D l J;rw[<-q1,<-q2];exact⟨.tuples p1 p2 g it,.tuples p1 p2 g it⟩
  |lst c=>
   obtain⟨a2,w,rfl,j,m⟩:=h;cases i;obtain⟨t,l,p2,_⟩:=I.list j;cases ek;exact⟨.tuple_list p1 p2.isList g,.tuple_list p1 p2.isList g⟩
  |emp=>cases ek
 |lst x1=>
  obtain⟨a1,Q,rfl,G,C⟩:=z;cases B;obtain⟨E,D,p1,_⟩:=I.list G;cases e with
  |non=>
   cases h;cases i;cases ek;exact⟨.list_none p1.isList g,.list_none p1.isList g⟩
  |bl c=>
   cases h;cases i;cases ek;exact⟨.list_bool c p1.isList g,.list_bool c p1.isList g⟩
  |int c=>
   cases h;obtain⟨t2,rfl⟩:=i;cases ek;exact⟨.list_int c t2 p1.isList g,.list_int c t2 p1.isList g⟩
  |str c=>
   obtain⟨rfl,_⟩:=h;obtain⟨t2,rfl⟩:=i;cases ek;exact⟨.list_str c t2 p1.isList g,.list_str c t2 p1.isList g⟩
  |tup c=>
   obtain⟨a2,w,rfl,j,m⟩:=h;cases i;obtain⟨t,l,p2,_⟩:=I.tuple j;cases ek;exact⟨.list_tuple p1.isList p2 g,.list_tuple p1.isList p2 g⟩
  |lst c=>
   obtain⟨a2,w,rfl,j,m⟩:=h;cases i;obtain⟨t,l,p2,_⟩:=I.list j;change mK _ _=Z _ at ek;obtain⟨f,J,rfl⟩:=vP ek;have q1:E.toArray.size=x1.length:=by rw[zh,<-D.length,C.length]
   have q2:t.toArray.size=c.length:=by rw[zh,<-l.length,m.length]
   have it:=Oh I (n:=99) (A:=X.A) (by simp only[zf]at P;omega) () C m D l J;by_cases F:E.toArray.size=t.toArray.size
   ·have hl:x1.length=c.length:=by omega
    rw[hl,dE,beq_self_eq_true,Kt,<-hl,<-q1];exact⟨.lists p1.isList p2.isList F g it,.lists p1.isList p2.isList F g it⟩
   ·have hl:(x1.length==c.length)=false:=by rw[beq_eq_false_iff_ne];omega
    rw[hl,gh];exact⟨.lists_lengths p1.isList p2.isList (by simpa using F) g,.lists_lengths p1.isList p2.isList (by simpa using F) g⟩
  |emp=>cases ek
 |emp=>
  cases e<;>first|(cases ek;done)|skip;simp only[fK,AW]at z h;obtain⟨a,o,rfl,e1⟩:=z;obtain⟨b,o',rfl,e2⟩:=h;cases B;cases i;cases ek;obtain⟨_,N,vs,r,q⟩:=Jc I.hok (.inr ⟨o,e1⟩);obtain⟨_,m2,S,M,L⟩:=Jc I.hok (.inr ⟨o',e2⟩);exact⟨LN N m2 (zG Y2 r q) (zG Y2 M L) g,UC N m2 (zG Y2 r q) (zG Y2 M L) g⟩
def BN(a b:Bx):Y3 Bx:=if jY a=true\/jY b=true then O else if min (zf (toD a)) (zf (toD b))<=100 then(Hv (toD a) (toD b)).bind λk=>Z (.z (.bl k))else O
def Jj(a b:Bx):Y3 Bx:=if jY a=true\/jY b=true then O else if min (zf (toD a)) (zf (toD b))<=100 then(Hv (toD a) (toD b)).bind λk=>Z (.z (.bl (!k)))else O
theorem of_eq(j:X.A.units+100<cLine):Cu X (AG .Eq) BN:=by
 intro AN s σ H x y v u Q I n g h;obtain⟨a,b,c,f,m,e,q⟩:=h;unfold BN at e;split at e
 ·cases e
 rename_i d;have l:jY a=false:=by cases h:jY a with|false=>rfl|true=>exact absurd (.inl h) d
 have i:jY b=false:=by cases h:jY b with|false=>rfl|true=>exact absurd (.inr h) d
 split at e
 ·rename_i o;obtain⟨k,ek,e⟩:=AT e;cases e;exact(Uc I o j (f.toD l) (m.toD i) n g ek).1 X.prog X.w X.xe _ ⟨.bl k,H,I,rfl,q _ H (AV.refl H) trivial (by unfold bf AW;rfl)⟩
 ·cases e
theorem uY(j:X.A.units+100<cLine):Cu X (AG .NotEq) Jj:=by
 intro AN s σ H x y v u Q I n g h;obtain⟨a,b,c,f,m,e,q⟩:=h;unfold Jj at e;split at e
 ·cases e
 rename_i d;have l:jY a=false:=by cases h:jY a with|false=>rfl|true=>exact absurd (.inl h) d
 have i:jY b=false:=by cases h:jY b with|false=>rfl|true=>exact absurd (.inr h) d
 split at e
 ·rename_i o;obtain⟨k,ek,e⟩:=AT e;cases e;exact(Uc I o j (f.toD l) (m.toD i) n g ek).2 X.prog X.w X.xe _ ⟨.bl (!k),H,I,rfl,q _ H (AV.refl H) trivial (by unfold bf AW;rfl)⟩
 ·cases e
theorem Oi{i:Int}:bf K H (.z (.int i)) (.int i):=by unfold bf AW;rfl
theorem HW{b:Bool}:bf K H (.z (.bl b)) (.bl b):=by unfold bf AW;rfl
theorem F5(h:x.length<=AA):bf K H (.z (.str x)) (.str x):=by unfold bf AW;exact⟨rfl,h⟩
theorem RB{i:Int}{v:V}(h:bf K H (.z (.int i)) v):v=.int i:=by simpa only[bf,AW]using h
theorem Yi{v:V}(h:bf K H (.z (.str x)) v):v=.str x/\x.length<=AA:=by simpa only[bf,AW]using h
theorem FK{v:V}(h:bf K H (.z (.tup ds)) v):∃a vs,v=.ref a/\tX K H a vs/\aH K H ds vs:=by simpa only[bf,AW]using h
def i2(g:Int->Int->Y3 Dt):Bx->Bx->Y3 Bx
 |.z (.int i),.z (.int j)=>(g i j).bind λd=>Z (.z d)
 |_,_=>O
theorem Fv{f:A0->A0->Sem A0}{r:R2}{g:Int->Int->Y3 Dt}(k:xZ X f r)(h:∀i j d H Q,g i j=Z d->(∀v,AW X.K H d v->Q v H)->r (.int i) (.int j) H Q):Cu X f (i2 g):=xZ.imp k λx y H Q q=>by
 obtain⟨a,b,c,l,o,e,q⟩:=q;unfold i2 at e;split at e
 ·rename_i i j;obtain⟨d,n,e⟩:=AT e;cases e;rw[RB l,RB o];exact h i j d H Q n λv m=>q v H (AV.refl H) trivial m
 ·cases e
theorem FI{i:Int}:AW K H (.int i) (.int i):=by unfold AW;rfl
theorem EX{b:Bool}:AW K H (.bl b) (.bl b):=by unfold AW;rfl
abbrev CF:=i2 λi j=>Z (.int (i-j))
abbrev EL:=i2 λi j=>Z (.bl (decide (i<=j)))
abbrev FD:=i2 λi j=>Z (.bl (decide (j<i)))
abbrev DS:=i2 λi j=>Z (.bl (decide (j<=i)))
abbrev lC:=i2 λi j=>if 0<j/\j<1073741824 then Z (.int (i / j))else O
abbrev jm:=i2 λi j=>if 0<j then Z (.int (i%j))else O
abbrev GS:=i2 λi j=>if 0<=j/\j<=1000/\i.natAbs<2 ^ 64 then Z (.int (i ^ j.toNat))else O
theorem Bp:Cu X (binaryOp .Sub) CF:=Fv N0 λi j d H Q e q=>by cases e;exact⟨i,j,rfl,rfl,q _ FI⟩
theorem CO:Cu X (AG .LtE) EL:=Fv b9 λi j d H Q e q=>by cases e;exact⟨i,j,rfl,rfl,q _ EX⟩
theorem LO:Cu X (AG .Gt) FD:=Fv WC λi j d H Q e q=>by cases e;exact⟨i,j,rfl,rfl,q _ EX⟩
theorem Jk:Cu X (AG .GtE) DS:=Fv XU λi j d H Q e q=>by cases e;exact⟨i,j,rfl,rfl,q _ EX⟩
theorem gJ:Cu X (binaryOp .FloorDiv) lC:=Fv SW λi j d H Q e q=>by
 split at e
 ·rename_i h;cases e;exact⟨i,j,rfl,rfl,h,q _ FI⟩
 ·cases e
theorem cZ:Cu X (binaryOp .Mod) jm:=Fv UV λi j d H Q e q=>by
 split at e
 ·rename_i h;cases e;exact⟨i,j,rfl,rfl,h,q _ FI⟩
 ·cases e
theorem VW:Cu X (binaryOp .Pow) GS:=Fv SD λi j d H Q e q=>by
 split at e
 ·rename_i h;cases e;exact⟨i,j,rfl,rfl,⟨h.1,by omega,h.2.2⟩,q _ FI⟩
 ·cases e
def Km:Bx->Y3 Bx
 |.z (.int i)=>Z (.z (.int (-i)))
 |_=>O
theorem RD:Iy X (unaryOp .USub) Km:=DM.imp VQ λx H Q q=>by
 obtain⟨a,c,b,e,q⟩:=q;unfold Km at e;split at e
 ·rename_i i;cases e;exact⟨i,RB b,q _ H (AV.refl H) trivial Oi⟩
 ·cases e
def RG:Nat:=1000000
theorem NV:RG<=AA:=by decide
theorem PU{b:A1}{us:Y V}{Q:VK}(I:L2.AU X AN σ H s)(hl:qC X.K H l vs)(i:qC X.K H b us)(k:vs.length+us.length<=AA)(q:∀p,H p=O->Q (.ref p) (BA H p (.lst (vs++us)))):
  A7 (cr X) X.A (binaryOp .Add (.ref l) (.ref b)) (EP X AN σ Q) X.xe s:=by
 obtain⟨AQ,f,⟨⟨y,x,z,sl⟩,n,e1,c1,d,c⟩,z1⟩:=I.list hl;obtain⟨a,g,⟨⟨cls2,u,C,j⟩,m,e2,c2,d2,h⟩,z2⟩:=I.list i;simp only at c1 d c c2 d2 h;subst c1 d c c2 d2 h;have v:=f.length;have B:=g.length;have e:AQ.toArray++a.toArray=(AQ++a).toArray:=by simp
 refine concat_meets ⟨_,e1,rfl⟩ ⟨_,e2,rfl⟩ noFill_list_add seq_list_add PySem.F.slot_list_add PySem.F.entry_list_add (PySem.F.args_list_add_2 _ _) (list_addW l b AQ.toArray a.toArray n m O O sl j (by rw[zh,zh];omega)) ⟨e1,e2,?_⟩;rw[e];exact⟨.ref s.heap.objs.size,_,I.laid (t':=s.toks) (o:=.lst (vs++us)) (λb t q=>zg _ q) (zi _) ⟨by rw[zr];exact k,_,0,f.append g,zS _ rfl⟩,rfl,q _ (I.hok.fresh (zi _))⟩
theorem UE{b:A1}{us:Y V}{Q:VK}(I:L2.AU X AN σ H s)(hl:tX X.K H l vs)(d:tX X.K H b us)(n:vs.length+us.length<=AA)(q0:vs=[]->Q (.ref b) H)(q1:us=[]->Q (.ref l) H)(q2:∀p,H p=O->Q (.ref p) (BA H p (.tup (vs++us)))):
  A7 (cr X) X.A (binaryOp .Add (.ref l) (.ref b)) (EP X AN σ Q) X.xe s:=by
 by_cases a:vs=[]
 ·obtain⟨AQ,i,⟨⟨t,g,q,sl⟩,e1,c1,h,c⟩,z1⟩:=I.tuple hl;obtain⟨k,u,⟨⟨cls2,j,o,m⟩,e2,c2,f,e⟩,z2⟩:=I.tuple d;simp only at c1 c c2 e;subst c1 c c2 e;have:AQ=[]:=i.Ed.mpr a;exact concat_meets ⟨_,e1,rfl⟩ ⟨_,e2,rfl⟩ noFill_tuple_add seq_tuple_add PySem.F.slot_tuple_add yY (ym _ _)
   (tuple_addW0 l b AQ.toArray k.toArray h f g j sl m (by simp[this])) ⟨e1,e2,⟨.ref b,H,I,rfl,q0 a⟩⟩
 ·exact Nc AN s σ H (.ref l) (.ref b) (.ref l) (.ref b) Q I Y2 Y2 ⟨l,b,vs,us,rfl,rfl,hl,d,a,n,q1,λ_=>q2⟩
def dY:Bx->Bx->Y3 Bx
 |.z (.int i),.z (.int j)=>Z (.z (.int (i+j)))
 |.z (.str i),.z (.str j)=>if i.length+j.length<=RG then Z (.z (.str (i++j)))else O
 |.z (.tup xs),.z (.tup ys)=>if xs.length+ys.length<=RG then Z (.z (.tup (xs++ys)))else O
 |a,b=>(sO a).bind λxs=>(sO b).bind λys=>if xs.length+ys.length<=RG then Z (.o (xs++ys))else O
theorem DI(i j:AJ):(i++j).length=i.length+j.length:=by
 show(i.cps++j.cps).size=_;rw[kq];rfl
theorem cN:Cu X (binaryOp .Add) dY:=by
 intro AN s σ H x y v u Q I t k h;obtain⟨a,b,c,g,o,e,q⟩:=h;have w:=NV;unfold dY at e;split at e
 ·rename_i i j;cases e;exact T' AN s σ H x y v u Q I t k ⟨i,j,RB g,RB o,q _ H (AV.refl H) trivial Oi⟩
 ·rename_i i j;split at e
  ·rename_i hl;cases e;exact Rk AN s σ H x y v u Q I t k ⟨i,j,(Yi g).1,(Yi o).1,by omega,q _ H (AV.refl H) trivial (F5 (by rw[DI];omega))⟩
  ·cases e
 ·rename_i xs ys;split at e
  ·rename_i hl;cases e;obtain⟨l,vs,rfl,sl,f⟩:=FK g;obtain⟨m,us,rfl,n,d⟩:=FK o;cases t;cases k;have h1:=f.length;have h2:=d.length;refine UE I sl n () (λz=>q _ H (AV.refl H) trivial ?_) (λz=>q _ H (AV.refl H) trivial ?_) λp hp=>q _ _ (cg hp) trivial ?_
   ·unfold bf AW;refine⟨m,us,rfl,n,?_⟩;have:xs=[]:=by subst z;exact jv (by simpa using h1.symm)
    rw[this,dP];exact d
   ·unfold bf AW;refine⟨l,vs,rfl,sl,?_⟩;have:ys=[]:=by subst z;exact jv (by simpa using h2.symm)
    rw[this,Qr];exact f
   ·unfold bf AW;exact⟨p,_,rfl,.inl (.inl bH),(f.append d).kp (.of (cg hp))⟩
  ·cases e
 ·obtain⟨xs,ea,e⟩:=AT e;obtain⟨ys,eb,e⟩:=AT e;split at e
  ·rename_i hl;cases e;obtain⟨l,vs,rfl,sl,f⟩:=g.HB ea;obtain⟨m,us,rfl,n,d⟩:=o.HB eb;cases t;cases k;have h1:=f.length;have h2:=d.length;refine PU I sl n () λp hp=>q _ _ (cg hp) (λa ea=>by cases ea;exact hp) ⟨p,_,rfl,bH,(f.append d).kp (.of (cg hp))⟩
  ·cases e
def zJ:Bx->Bx->Y3 Bx
 |.z (.int i),.z (.int j)=>if(-(2 ^ 64)<i/\i<2 ^ 64)\/(-(2 ^ 64)<j/\j<2 ^ 64)then Z (.z (.int (i*j)))else O
 |.z (.str x),.z (.int n)=>if n<=1000 ∧ -1000<=n/\x.length<=1000 then Z (.z (.str (Txt.mul x n)))else O
 |_,_=>O
theorem yd(x:Array Nat):∀(n:Nat) (a:Array Nat),((bj n x).foldl (·++·) a).size=a.size+n*x.size
 |0,a=>by simp
 |n+1,a=>by
  rw[KL,ki,yd x n,kq,dQ];omega
theorem Ko(x:AJ)(n:Int):(Txt.mul x n).length<=n.toNat*x.length+x.length:=by
 unfold Txt.mul;split
 ·exact qr _
 ·split
  ·exact Nat.le_add_left _ _
  ·show((bj n.toNat x.cps).foldl (·++·) #[]).size<=_;rw[yd];show(#[]:Array Nat).size+n.toNat*x.cps.size<=n.toNat*x.cps.size+x.cps.size;simp
theorem vR:Cu X (binaryOp .Mult) zJ:=by
 intro AN s σ H x y v u Q I m g h;obtain⟨a,b,c,f,l,e,q⟩:=h;unfold zJ at e;split at e
 ·rename_i i j;split at e
  ·rename_i hl;cases e;exact VM AN s σ H x y v u Q I m g ⟨i,j,RB f,RB l,hl,q _ H (AV.refl H) trivial Oi⟩
  ·cases e
 ·rename_i d n;split at e
  ·rename_i hl;cases e;obtain⟨rfl,hx⟩:=Yi f;have p:=RB l;subst p;obtain⟨t,rfl⟩:=m;obtain⟨w,rfl⟩:=g;have z:AA=16777216:=sizeLine_eq;have A:n.toNat*d.length<=1000*1000:=KP () hl.2.2;refine SB.mul ⟨?_,λh1 h2=>?_,λh1 h2=>?_⟩ λw k=>⟨.str _,H,I.tok _,⟨_,rfl⟩,q _ H (AV.refl H) trivial (F5 (zo (Ko d n) ()))⟩
   ·have e1:decide (n < -(2 ^ 63:Int))=false:=Zl ();have e2:decide (n>=2 ^ 63)=false:=Zl ();rw[e1,e2];rfl
   ·have o:0<n:=by omega
    have:(1000:Int)<=(2 ^ 63-1) / n:=(Int.le_ediv_iff_mul_le o).mpr ();omega
   ·show decide (d.length*n.toNat>AA)=false;rw[Nat.mul_comm];exact Zl ()
  ·cases e
 ·cases e
def Jl(i j:AJ):Bool:=!(Builtin.Str.occurrences j i 0 j.length 1).isEmpty
def zK:Dt->Bool
 |.non=>true
 |.bl _=>true
 |.int _=>true
 |.str _=>true
 |_=>false
def C'(x:Dt)(ys:Y Dt):Y3 Bool:=if zK x=true/\ys.all zK=true then Z (ys.any λy=>match Hv y x with|some true=>true|_=>false)else O
def um:Bx->Y3 (Y Dt)
 |.z (.lst ds)=>Z ds
 |.z (.tup ds)=>Z ds
 |.l ds=>Z ds
 |.o ds=>Z ds
 |_=>O
def ER:Bx->Bx->Y3 Bool
 |.z (.str i),.z (.str j)=>Z (Jl i j)
 |.z d,b=>(um b).bind λys=>C' d ys
 |_,_=>O
def inF(a b:Bx):Y3 Bx:=(ER a b).bind λk=>Z (.z (.bl k))
theorem Oj{v:V}(r:AW K H d v)(f:zK d=true):uW v=true:=by
 cases d<;>first|(cases f;done)|skip
 all_goals simp only[AW]at r
 ·subst r;rfl
 ·subst r;rfl
 ·subst r;rfl
 ·obtain⟨rfl,_⟩:=r;rfl
theorem Jm{K:B8}{H:Hp}:∀{ds:Y Dt} {vs:Y V},aH K H ds vs->ds.all zK=true->vs.all uW=true
 |[],_,h,_=>by simp only[aH]at h;subst h;rfl
 |d::ds,_,h,f=>by
  simp only[aH]at h;obtain⟨v,r,rfl,h1,h2⟩:=h;rw[kc,Zs]at f;rw[kc,Oj h1 f.1,Jm h2 f.2];rfl
theorem Kq(b:Bool):(match Z b with|some true=>true|_=>false)=b:=by cases b<;>rfl
theorem SA{e:Dt}{x y:V}(a:AW K H d x)(b:AW K H e y)(fd:zK d=true)(fe:zK e=true):DA x y=(match Hv d e with|some true=>true|_=>false):=by
 cases d<;>first|(cases fd;done)|skip
 all_goals (cases e<;>first|(cases fe;done)|skip)
 all_goals simp only[AW]at a b
 all_goals first
  |(subst a;subst b;exact(Kq _).symm)
  |(obtain⟨rfl,_⟩:=a;subst b;exact(Kq _).symm)
  |(subst a;obtain⟨rfl,_⟩:=b;exact(Kq _).symm)
  |(obtain⟨rfl,_⟩:=a;obtain⟨rfl,_⟩:=b;exact(Kq _).symm)
theorem Ud{K:B8}{H:Hp}{d:Dt}{x:V}(a:AW K H d x)(fd:zK d=true):∀{ds:Y Dt} {vs:Y V},aH K H ds vs->ds.all zK=true->Fk x vs=ds.any λy=>match Hv y d with|some true=>true|_=>false
 |[],_,h,_=>by simp only[aH]at h;subst h;rfl
 |e::ds,_,h,f=>by
  simp only[aH]at h;obtain⟨v,r,rfl,h1,h2⟩:=h;rw[kc,Zs]at f;have:=Ud a fd h2 f.2;unfold Fk at this ⊢;rw[eG,eG,SA h1 a f.1 fd,this]
theorem vU{v:V}(h:bf K H b v)(e:um b=Z ds):∃a vs,v=.ref a/\(qC K H a vs\/tX K H a vs)/\aH K H ds vs:=by
 cases b with
 |z d=>
  cases d<;>first|(cases e;done)|skip
  ·cases e;obtain⟨a,vs,e,q,r⟩:=FK h;exact⟨a,vs,e,.inr q,r⟩
  ·cases e;obtain⟨a,vs,e,q,r⟩:=h.HB rfl;exact⟨a,vs,e,.inl q,r⟩
 |l c=>
  cases e;obtain⟨a,vs,e,q,r⟩:=h.HB rfl;exact⟨a,vs,e,.inl q,r⟩
 |o c=>
  cases e;obtain⟨a,vs,e,q,r⟩:=h.HB rfl;exact⟨a,vs,e,.inl q,r⟩
 |n _=>cases e
 |m _ _=>cases e
theorem VG{a:Bx}{x y:V}{k:Bool}(f:bf X.K H a x)(l:bf X.K H b y)(e:ER a b=Z k):
  (∃i j,x=.str i/\y=.str j/\k=Jl i j)\/(∃p xs,y=.ref p/\(qC X.K H p xs\/tX X.K H p xs)/\uW x=true/\xs.all uW=true/\k=Fk x xs):=by
 unfold ER at e;split at e
 ·rename_i i j;cases e;exact .inl ⟨i,j,(Yi f).1,(Yi l).1,rfl⟩
 ·rename_i d _;obtain⟨ys,m,e⟩:=AT e;unfold C' at e;split at e
  ·rename_i c;cases e;obtain⟨p,vs,rfl,sq,g⟩:=vU l m;have h:AW X.K H d x:=f;exact .inr ⟨p,vs,rfl,sq,Oj h c.1,Jm g c.2,(Ud h c.1 g c.2).symm⟩
  ·cases e
 ·cases e
theorem Ol:Cu X (AG .In) inF:=by
 intro AN s σ H x y v u Q I f d h;obtain⟨a,b,c,g,l,e,q⟩:=h;obtain⟨k,ek,e⟩:=AT e;cases e;rcases VG g l ek with⟨i,j,rfl,rfl,rfl⟩|⟨p,xs,rfl,sq,f1,f2,rfl⟩
 ·exact Vp AN s σ H _ _ v u Q I f d ⟨i,j,rfl,rfl,q _ H (AV.refl H) trivial HW⟩
 ·exact Vu AN s σ H _ _ v u Q I f d ⟨p,xs,rfl,sq,f1,f2,q _ H (AV.refl H) trivial HW⟩
def Fw:Bx->Bool
 |.z .non=>true
 |_=>false
theorem Jo{v:V}(h:bf K H b v):decide (v=.non)=Fw b:=by
 cases b with
 |z d=>
  cases d<;>simp only[bf,AW]at h
  ·subst h;rfl
  ·subst h;rfl
  ·subst h;rfl
  ·obtain⟨rfl,_⟩:=h;rfl
  ·obtain⟨_,_,rfl,_⟩:=h;rfl
  ·obtain⟨_,_,rfl,_⟩:=h;rfl
  ·obtain⟨_,_,rfl,_⟩:=h;rfl
 |l ds=>obtain⟨_,_,rfl,_⟩:=h;rfl
 |o ds=>obtain⟨_,_,rfl,_⟩:=h;rfl
 |n ds=>obtain⟨_,_,rfl,_⟩:=h;rfl
 |m ds _=>obtain⟨_,_,rfl,_⟩:=h;rfl
def EI(a:Bx):Bx->Y3 Bx
 |.z .non=>Z (.z (.bl (Fw a)))
 |_=>O
def Fy(a:Bx):Bx->Y3 Bx
 |.z .non=>Z (.z (.bl (!Fw a)))
 |_=>O
theorem DL:Cu X (AG .Is) EI:=xZ.imp aa λx y H Q q=>by
 obtain⟨a,b,c,f,d,e,q⟩:=q;unfold EI at e;split at e
 ·cases e;simp only[bf,AW]at d;exact⟨d,by rw[Jo f];exact q _ H (AV.refl H) trivial HW⟩
 ·cases e
theorem Kr:Cu X (AG .IsNot) Fy:=xZ.imp a8 λx y H Q q=>by
 obtain⟨a,b,c,f,d,e,q⟩:=q;unfold Fy at e;split at e
 ·cases e;simp only[bf,AW]at d;exact⟨d,by rw[Jo f];exact q _ H (AV.refl H) trivial HW⟩
 ·cases e
def dX:Bx->Bx->Y3 Bx
 |.z (.str x),.z (.int i)=>(Fe x.cps.toList i).bind λc=>Z (.z (.str ⟨#[c]⟩))
 |b,.z (.int i)=>(um b).bind λds=>(Fe ds i).bind λd=>Z (.z d)
 |_,_=>O
theorem Yf{i:Int}(r:aH K H ds vs)(e:Fe ds i=Z d):∃v,Fe vs i=Z v/\AW K H d v:=by
 unfold Fe at e ⊢;rw[r.length];obtain⟨j,a,e⟩:=AT e;rw[a];exact r.get e
theorem aW{a b:Expr}(k:QV X a fa)(j:QV X b fb)(hs:TY b:=by intro _ _;with_unfolding_all rfl):QV X (.Subscript a b pos) (b2 dX fa fb):=⟨have k:=k.run;have j:=j.run;HD (PY TR k j hs) λσ H Q h=>by
 obtain⟨H0,ρ,c,E,e,q⟩:=h;obtain⟨a,ea,e⟩:=AT e;obtain⟨b,eb,e⟩:=AT e;refine⟨H0,ρ,a,E,ea,λv H1 g C A=>⟨H0,ρ,b,E.grow g,eb,λu H2 f B n=>?_⟩⟩;have l:=A.same f;unfold dX at e;split at e
 ·rename_i x i;obtain⟨c',s,e⟩:=AT e;cases e;exact .inr (.inr ⟨_,_,c',(Yi l).1,RB n,(Yi l).2,s,q _ _ (g.trans f) trivial (F5 (by show(1:Nat)<=AA;decide))⟩)
 ·obtain⟨ds,z,e⟩:=AT e;obtain⟨d,t,e⟩:=AT e;cases e;obtain⟨p,vs,rfl,sq,y⟩:=vU l z;obtain⟨w,m,o⟩:=Yf y t;have hi:=RB n;rcases sq with sq|sq
  ·exact .inl ⟨p,vs,_,w,rfl,hi,sq,m,q _ _ (g.trans f) trivial o⟩
  ·exact .inr (.inl ⟨p,vs,_,w,rfl,hi,sq,m,q _ _ (g.trans f) trivial o⟩)
 ·cases e⟩
theorem cK:AH "bool"=Z (.type "bool"):=by decide +kernel
theorem Yk:AH "int"=Z (.type "int"):=by decide +kernel
theorem P8:AH "str"=Z (.type "str"):=by decide +kernel
theorem iW:AH "tuple"=Z (.type "tuple"):=by decide +kernel
theorem uo:AH "list"=Z (.type "list"):=by decide +kernel
theorem jL:AH "isinstance"=Z (.builtin "isinstance"):=by decide +kernel
theorem jZ:AH "len"=Z (.builtin "len"):=by decide +kernel
theorem OR:AH "abs"=Z (.builtin "abs"):=by decide +kernel
theorem vV:AH "all"=Z (.builtin "all"):=by decide +kernel
theorem mL:AH "sorted"=Z (.builtin "sorted"):=by decide +kernel
def BO:Dt->Bool
 |.bl _=>true
 |_=>false
theorem Yl(I:L2.AU X AN σ H s){x:V}{v:A0}{Q:VK}(f:fK X.K H d x)(g:B0 x v)(q:Q (.bl (BO d)) H):A7 (cr X) X.A (call (.builtin "isinstance") [v,.type "bool"]) (EP X AN σ Q) X.xe s:=by
 cases d with
 |non=>simp only[fK,AW]at f;subst f;cases g;exact IsiPair.NoneType_bool ⟨.bl _,H,I.tok _,rfl,q⟩
 |bl b=>simp only[fK,AW]at f;subst f;cases g;exact IsiPair.bool_bool ⟨.bl _,H,I,rfl,q⟩
 |int b=>simp only[fK,AW]at f;subst f;obtain⟨t,rfl⟩:=g;exact IsiPair.int_bool ⟨.bl _,H,I.tok _,rfl,q⟩
 |str b=>simp only[fK,AW]at f;obtain⟨rfl,_⟩:=f;obtain⟨t,rfl⟩:=g;exact IsiPair.str_bool ⟨.bl _,H,I.tok _,rfl,q⟩
 |tup ds=>simp only[fK,AW]at f;obtain⟨a,vs,rfl,sq,_⟩:=f;cases g;obtain⟨_,_,p,_⟩:=I.tuple sq;exact IsiPair.isTuple_bool p (λ_ _ e=>e) ⟨.bl _,H,I.tok _,rfl,q⟩
 |lst ds=>simp only[fK]at f;obtain⟨a,vs,rfl,sq,_⟩:=f;cases g;obtain⟨_,_,p,_⟩:=I.list sq;exact IsiPair.isList_bool p.isList (λ_ _ e=>e) ⟨.bl _,H,I.tok _,rfl,q⟩
 |emp=>simp only[fK,AW]at f;obtain⟨a,o,rfl,sq⟩:=f;cases g;obtain⟨h,e,c⟩:=o8 I sq;exact IsiPair.dict_bool e c ⟨.bl _,H,I.tok _,rfl,q⟩
theorem Om{p:Pos}(a:QV X e f)(k:Gl X "isinstance")(w:X.mg "isinstance"=O)(n:Gl X "bool")(l:X.mg "bool"=O)(hs:A9 [e,.Name "bool" p2] X.env=[(false,eval e X.env),(false,eval (.Name "bool" p2) X.env)]:=by rfl):QV X (.Call (.Name "isinstance" p) [e,.Name "bool" p2] [] pos) (b1 (λb=>if jY b=true then O else Z (.z (.bl (BO (toD b))))) f):=⟨by
 have a:=a.run;have j:gw X (.builtin "isinstance") (λxs H Q=>∃b x,xs=[x,.ty "bool"]/\bf X.K H b x/\jY b=false/\Q (.bl (BO (toD b))) H):=by
  intro AN s σ H xs us Q I r h;obtain⟨b,x,rfl,m,g,q⟩:=h;obtain⟨u,B,rfl,d,t⟩:=C9 r;cases t;exact Yl I (m.toD g) d q
 have i:PA X [e,.Name "bool" p2] (vK (tF X.K f) (vK (tC (.ty "bool")) Vr)):=iR a (iR (zm n l (v:=.ty "bool") (u:=.type "bool") cK Y2) ud) (by rw[hs]<;>rfl);refine HD (sI j k w jL i () () (by rw[hs]<;>rfl) Y2) λσ H Q h=>?_;obtain⟨H0,ρ,c,E,e,q⟩:=h;obtain⟨b,eb,e⟩:=AT e;split at e
 ·cases e
 rename_i y;cases e;exact⟨H0,ρ,b,E,eb,λv H1 o A d=>⟨b,v,rfl,d,by simpa using y,q _ _ o trivial HW⟩⟩⟩
def Bq:Dt->Bool
 |.bl _=>true
 |.int _=>true
 |_=>false
theorem bE(I:L2.AU X AN σ H s){x:V}{v:A0}{Q:VK}(f:fK X.K H d x)(g:B0 x v)(q:Q (.bl (Bq d)) H):A7 (cr X) X.A (call (.builtin "isinstance") [v,.type "int"]) (EP X AN σ Q) X.xe s:=by
 cases d with
 |non=>simp only[fK,AW]at f;subst f;cases g;exact IsiPair.NoneType_int ⟨.bl _,H,I.tok _,rfl,q⟩
 |bl b=>simp only[fK,AW]at f;subst f;cases g;exact IsiPair.bool_int ⟨.bl _,H,I,rfl,q⟩
 |int b=>simp only[fK,AW]at f;subst f;obtain⟨t,rfl⟩:=g;exact IsiPair.int_int ⟨.bl _,H,I,rfl,q⟩
 |str b=>simp only[fK,AW]at f;obtain⟨rfl,_⟩:=f;obtain⟨t,rfl⟩:=g;exact IsiPair.str_int ⟨.bl _,H,I.tok _,rfl,q⟩
 |tup ds=>simp only[fK,AW]at f;obtain⟨a,vs,rfl,sq,_⟩:=f;cases g;obtain⟨_,_,p,_⟩:=I.tuple sq;exact IsiPair.isTuple_int p (λ_ _ e=>e) ⟨.bl _,H,I.tok _,rfl,q⟩
 |lst ds=>simp only[fK]at f;obtain⟨a,vs,rfl,sq,_⟩:=f;cases g;obtain⟨_,_,p,_⟩:=I.list sq;exact IsiPair.isList_int p.isList (λ_ _ e=>e) ⟨.bl _,H,I.tok _,rfl,q⟩
 |emp=>simp only[fK,AW]at f;obtain⟨a,o,rfl,sq⟩:=f;cases g;obtain⟨h,e,c⟩:=o8 I sq;exact IsiPair.dict_int e c ⟨.bl _,H,I.tok _,rfl,q⟩
theorem RJ{p:Pos}(a:QV X e f)(k:Gl X "isinstance")(w:X.mg "isinstance"=O)(n:Gl X "int")(l:X.mg "int"=O)(hs:A9 [e,.Name "int" p2] X.env=[(false,eval e X.env),(false,eval (.Name "int" p2) X.env)]:=by rfl):QV X (.Call (.Name "isinstance" p) [e,.Name "int" p2] [] pos) (b1 (λb=>if jY b=true then O else Z (.z (.bl (Bq (toD b))))) f):=⟨by
 have a:=a.run;have j:gw X (.builtin "isinstance") (λxs H Q=>∃b x,xs=[x,.ty "int"]/\bf X.K H b x/\jY b=false/\Q (.bl (Bq (toD b))) H):=by
  intro AN s σ H xs us Q I r h;obtain⟨b,x,rfl,m,g,q⟩:=h;obtain⟨u,B,rfl,d,t⟩:=C9 r;cases t;exact bE I (m.toD g) d q
 have i:PA X [e,.Name "int" p2] (vK (tF X.K f) (vK (tC (.ty "int")) Vr)):=iR a (iR (zm n l (v:=.ty "int") (u:=.type "int") Yk Y2) ud) (by rw[hs]<;>rfl);refine HD (sI j k w jL i () () (by rw[hs]<;>rfl) Y2) λσ H Q h=>?_;obtain⟨H0,ρ,c,E,e,q⟩:=h;obtain⟨b,eb,e⟩:=AT e;split at e
 ·cases e
 rename_i y;cases e;exact⟨H0,ρ,b,E,eb,λv H1 o A d=>⟨b,v,rfl,d,by simpa using y,q _ _ o trivial HW⟩⟩⟩
def p7:Dt->Bool
 |.str _=>true
 |_=>false
theorem Si(I:L2.AU X AN σ H s){x:V}{v:A0}{Q:VK}(f:fK X.K H d x)(g:B0 x v)(q:Q (.bl (p7 d)) H):A7 (cr X) X.A (call (.builtin "isinstance") [v,.type "str"]) (EP X AN σ Q) X.xe s:=by
 cases d with
 |non=>simp only[fK,AW]at f;subst f;cases g;exact IsiPair.NoneType_str ⟨.bl _,H,I.tok _,rfl,q⟩
 |bl b=>simp only[fK,AW]at f;subst f;cases g;exact IsiPair.bool_str ⟨.bl _,H,I.tok _,rfl,q⟩
 |int b=>simp only[fK,AW]at f;subst f;obtain⟨t,rfl⟩:=g;exact IsiPair.int_str ⟨.bl _,H,I.tok _,rfl,q⟩
 |str b=>simp only[fK,AW]at f;obtain⟨rfl,_⟩:=f;obtain⟨t,rfl⟩:=g;exact IsiPair.str_str ⟨.bl _,H,I,rfl,q⟩
 |tup ds=>simp only[fK,AW]at f;obtain⟨a,vs,rfl,sq,_⟩:=f;cases g;obtain⟨_,_,p,_⟩:=I.tuple sq;exact IsiPair.isTuple_str p (λ_ _ e=>e) ⟨.bl _,H,I.tok _,rfl,q⟩
 |lst ds=>simp only[fK]at f;obtain⟨a,vs,rfl,sq,_⟩:=f;cases g;obtain⟨_,_,p,_⟩:=I.list sq;exact IsiPair.isList_str p.isList (λ_ _ e=>e) ⟨.bl _,H,I.tok _,rfl,q⟩
 |emp=>simp only[fK,AW]at f;obtain⟨a,o,rfl,sq⟩:=f;cases g;obtain⟨h,e,c⟩:=o8 I sq;exact IsiPair.dict_str e c ⟨.bl _,H,I.tok _,rfl,q⟩
theorem RK{p:Pos}(a:QV X e f)(k:Gl X "isinstance")(w:X.mg "isinstance"=O)(n:Gl X "str")(l:X.mg "str"=O)(hs:A9 [e,.Name "str" p2] X.env=[(false,eval e X.env),(false,eval (.Name "str" p2) X.env)]:=by rfl):QV X (.Call (.Name "isinstance" p) [e,.Name "str" p2] [] pos) (b1 (λb=>if jY b=true then O else Z (.z (.bl (p7 (toD b))))) f):=⟨by
 have a:=a.run;have j:gw X (.builtin "isinstance") (λxs H Q=>∃b x,xs=[x,.ty "str"]/\bf X.K H b x/\jY b=false/\Q (.bl (p7 (toD b))) H):=by
  intro AN s σ H xs us Q I r h;obtain⟨b,x,rfl,m,g,q⟩:=h;obtain⟨u,B,rfl,d,t⟩:=C9 r;cases t;exact Si I (m.toD g) d q
 have i:PA X [e,.Name "str" p2] (vK (tF X.K f) (vK (tC (.ty "str")) Vr)):=iR a (iR (zm n l (v:=.ty "str") (u:=.type "str") P8 Y2) ud) (by rw[hs]<;>rfl);refine HD (sI j k w jL i () () (by rw[hs]<;>rfl) Y2) λσ H Q h=>?_;obtain⟨H0,ρ,c,E,e,q⟩:=h;obtain⟨b,eb,e⟩:=AT e;split at e
 ·cases e
 rename_i y;cases e;exact⟨H0,ρ,b,E,eb,λv H1 o A d=>⟨b,v,rfl,d,by simpa using y,q _ _ o trivial HW⟩⟩⟩
def An:Dt->Bool
 |.tup _=>true
 |_=>false
theorem VH(I:L2.AU X AN σ H s){x:V}{v:A0}{Q:VK}(f:fK X.K H d x)(g:B0 x v)(q:Q (.bl (An d)) H):A7 (cr X) X.A (call (.builtin "isinstance") [v,.type "tuple"]) (EP X AN σ Q) X.xe s:=by
 cases d with
 |non=>simp only[fK,AW]at f;subst f;cases g;exact IsiPair.NoneType_tuple ⟨.bl _,H,I.tok _,rfl,q⟩
 |bl b=>simp only[fK,AW]at f;subst f;cases g;exact IsiPair.bool_tuple ⟨.bl _,H,I.tok _,rfl,q⟩
 |int b=>simp only[fK,AW]at f;subst f;obtain⟨t,rfl⟩:=g;exact IsiPair.int_tuple ⟨.bl _,H,I.tok _,rfl,q⟩
 |str b=>simp only[fK,AW]at f;obtain⟨rfl,_⟩:=f;obtain⟨t,rfl⟩:=g;exact IsiPair.str_tuple ⟨.bl _,H,I.tok _,rfl,q⟩
 |tup ds=>simp only[fK,AW]at f;obtain⟨a,vs,rfl,sq,_⟩:=f;cases g;obtain⟨_,_,p,_⟩:=I.tuple sq;exact IsiPair.isTuple_tuple p (λ_ _ e=>e) ⟨.bl _,H,I,rfl,q⟩
 |lst ds=>simp only[fK]at f;obtain⟨a,vs,rfl,sq,_⟩:=f;cases g;obtain⟨_,_,p,_⟩:=I.list sq;exact IsiPair.isList_tuple p.isList (λ_ _ e=>e) ⟨.bl _,H,I.tok _,rfl,q⟩
 |emp=>simp only[fK,AW]at f;obtain⟨a,o,rfl,sq⟩:=f;cases g;obtain⟨h,e,c⟩:=o8 I sq;exact IsiPair.dict_tuple e c ⟨.bl _,H,I.tok _,rfl,q⟩
theorem lD{p:Pos}(a:QV X e f)(k:Gl X "isinstance")(w:X.mg "isinstance"=O)(n:Gl X "tuple")(l:X.mg "tuple"=O)(hs:A9 [e,.Name "tuple" p2] X.env=[(false,eval e X.env),(false,eval (.Name "tuple" p2) X.env)]:=by rfl):QV X (.Call (.Name "isinstance" p) [e,.Name "tuple" p2] [] pos) (b1 (λb=>if jY b=true then O else Z (.z (.bl (An (toD b))))) f):=⟨by
 have a:=a.run;have j:gw X (.builtin "isinstance") (λxs H Q=>∃b x,xs=[x,.ty "tuple"]/\bf X.K H b x/\jY b=false/\Q (.bl (An (toD b))) H):=by
  intro AN s σ H xs us Q I r h;obtain⟨b,x,rfl,m,g,q⟩:=h;obtain⟨u,B,rfl,d,t⟩:=C9 r;cases t;exact VH I (m.toD g) d q
 have i:PA X [e,.Name "tuple" p2] (vK (tF X.K f) (vK (tC (.ty "tuple")) Vr)):=iR a (iR (zm n l (v:=.ty "tuple") (u:=.type "tuple") iW Y2) ud) (by rw[hs]<;>rfl);refine HD (sI j k w jL i () () (by rw[hs]<;>rfl) Y2) λσ H Q h=>?_;obtain⟨H0,ρ,c,E,e,q⟩:=h;obtain⟨b,eb,e⟩:=AT e;split at e
 ·cases e
 rename_i y;cases e;exact⟨H0,ρ,b,E,eb,λv H1 o A d=>⟨b,v,rfl,d,by simpa using y,q _ _ o trivial HW⟩⟩⟩
def BU:Dt->Bool
 |.lst _=>true
 |_=>false
theorem Ym(I:L2.AU X AN σ H s){x:V}{v:A0}{Q:VK}(f:fK X.K H d x)(g:B0 x v)(q:Q (.bl (BU d)) H):A7 (cr X) X.A (call (.builtin "isinstance") [v,.type "list"]) (EP X AN σ Q) X.xe s:=by
 cases d with
 |non=>simp only[fK,AW]at f;subst f;cases g;exact IsiPair.NoneType_list ⟨.bl _,H,I.tok _,rfl,q⟩
 |bl b=>simp only[fK,AW]at f;subst f;cases g;exact IsiPair.bool_list ⟨.bl _,H,I.tok _,rfl,q⟩
 |int b=>simp only[fK,AW]at f;subst f;obtain⟨t,rfl⟩:=g;exact IsiPair.int_list ⟨.bl _,H,I.tok _,rfl,q⟩
 |str b=>simp only[fK,AW]at f;obtain⟨rfl,_⟩:=f;obtain⟨t,rfl⟩:=g;exact IsiPair.str_list ⟨.bl _,H,I.tok _,rfl,q⟩
 |tup ds=>simp only[fK,AW]at f;obtain⟨a,vs,rfl,sq,_⟩:=f;cases g;obtain⟨_,_,p,_⟩:=I.tuple sq;exact IsiPair.isTuple_list p (λ_ _ e=>e) ⟨.bl _,H,I.tok _,rfl,q⟩
 |lst ds=>simp only[fK]at f;obtain⟨a,vs,rfl,sq,_⟩:=f;cases g;obtain⟨_,_,p,_⟩:=I.list sq;exact IsiPair.isList_list p.isList (λ_ _ e=>e) ⟨.bl _,H,I,rfl,q⟩
 |emp=>simp only[fK,AW]at f;obtain⟨a,o,rfl,sq⟩:=f;cases g;obtain⟨h,e,c⟩:=o8 I sq;exact IsiPair.dict_list e c ⟨.bl _,H,I.tok _,rfl,q⟩
theorem Oo{p:Pos}(a:QV X e f)(k:Gl X "isinstance")(w:X.mg "isinstance"=O)(n:Gl X "list")(l:X.mg "list"=O)(hs:A9 [e,.Name "list" p2] X.env=[(false,eval e X.env),(false,eval (.Name "list" p2) X.env)]:=by rfl):QV X (.Call (.Name "isinstance" p) [e,.Name "list" p2] [] pos) (b1 (λb=>if jY b=true then O else Z (.z (.bl (BU (toD b))))) f):=⟨by
 have a:=a.run;have j:gw X (.builtin "isinstance") (λxs H Q=>∃b x,xs=[x,.ty "list"]/\bf X.K H b x/\jY b=false/\Q (.bl (BU (toD b))) H):=by
  intro AN s σ H xs us Q I r h;obtain⟨b,x,rfl,m,g,q⟩:=h;obtain⟨u,B,rfl,d,t⟩:=C9 r;cases t;exact Ym I (m.toD g) d q
 have i:PA X [e,.Name "list" p2] (vK (tF X.K f) (vK (tC (.ty "list")) Vr)):=iR a (iR (zm n l (v:=.ty "list") (u:=.type "list") uo Y2) ud) (by rw[hs]<;>rfl);refine HD (sI j k w jL i () () (by rw[hs]<;>rfl) Y2) λσ H Q h=>?_;obtain⟨H0,ρ,c,E,e,q⟩:=h;obtain⟨b,eb,e⟩:=AT e;split at e
 ·cases e
 rename_i y;cases e;exact⟨H0,ρ,b,E,eb,λv H1 o A d=>⟨b,v,rfl,d,by simpa using y,q _ _ o trivial HW⟩⟩⟩
def RH(K:B8)(f:Ev->Y3 (Y3 Int)):TO:=λσ H Q=>∃H0 ρ o,bW K H0 H σ ρ/\f ρ=Z o/\∀H',AV H H'->Q o H'
def Po(X:Cx)(e:Y3 Expr)(f:Ev->Y3 (Y3 Int)):Prop:=PO X e (RH X.K f)
structure Fm (X:Cx) (e:Option Expr) (f:Ev->Option (Option Int)):Prop where
 run:Po X e f
theorem ML{e:Y3 Expr}{t t':TO}(h:PO X e t)(m:∀ σ H Q,t' σ H Q->t σ H Q):PO X e t':=λAN s σ H Q I q=>h AN s σ H Q I (m σ H Q q)
def iQ:Ev->Y3 (Y3 Int):=λ_=>Z O
theorem dZ  :Fm X O iQ:=⟨ML XY λσ H Q h=>by
 obtain⟨H0,ρ,o,E,e,q⟩:=h;cases e;exact q H (AV.refl H)⟩
def GG:Bx->Y3 (Y3 Int)
 |.z (.int i)=>Z (Z i)
 |_=>O
def lG(f:Ev->Y3 Bx):Ev->Y3 (Y3 Int):=λρ=>(f ρ).bind GG
theorem d7(h:QV X e f):Fm X (Z e) (lG f):=⟨have h:=h.run;ML (NE h) λσ H Q q=>by
 obtain⟨H0,ρ,o,E,e,q⟩:=q;obtain⟨b,eb,e⟩:=AT e;refine⟨H0,ρ,b,E,eb,λv H1 c d a=>?_⟩;unfold GG at e;split at e
 ·rename_i i;cases e;exact⟨i,RB a,q H1 c⟩
 ·cases e⟩
def C6(xs:Y Dt)(lo hi:Y3 Int):Y Dt:=(xs.drop (HT.iV xs.length 0 lo)).take (HT.iV xs.length xs.length hi-HT.iV xs.length 0 lo)
theorem Oq(r:aH K H ds vs)(lo hi:Y3 Int):aH K H (C6 ds lo hi) (Nx vs lo hi):=by
 unfold C6 Nx;rw[r.length];exact(r.drop _).take _
theorem Yn(ds:Y Dt)(h1:HT.iV ds.length 0 lo=0)(h2:HT.iV ds.length ds.length hi=ds.length):C6 ds lo hi=ds:=by
 unfold C6;rw[h1,h2];simp
theorem zL{t sl:A1}{b c:A0}(a:IsTup s.heap t items)(hs:s.heap.IsSliceOf sl b c .none)(pl:IsPart b lo)(g:IsPart c hi)(h1:HT.iV items.size 0 lo=0)(h2:HT.iV items.size items.size hi=items.size)(h:Q (.ref t) s):A7 (A8 prog w) A (getItem (.ref t) (.ref sl)) Q E s:=by
 obtain⟨os,e,f,j⟩:=id hs;have i:s.TypeIs (.ref sl) "slice":=⟨os,e,f⟩;unfold getItem
 try with_reducible refine kb ?_
 first|refine zb (zd ?_)|skip
 refine zb (wpAny_sequenceKey a.typeIs () ?_);refine zb (QQ (name:=Str.ofString "__getitem__") a.typeIs PyProof.Rows.slot_tuple_getitem
  (jn PyProof.Rows.slot_tuple_getitem a.typeIs entry_tuple_getitem ?_ (args_tuple_getitem _ _)))
 show A7 _ _ (Builtin.Tuple.tupleItemsOf (.ref t) >>= _) _ _ s;refine zb (tupleItemsOf_ a ?_);refine zb (JS i ?_);rw[zk ()];refine zb (HT.sJ hs pl g ?_);have d:(((HT.iV items.size 0 lo:Nat):Int)==0&&(1:Int)==1&&(HT.iV items.size items.size hi-HT.iV items.size 0 lo)==items.size)=true:=by
  rw[h1,h2];simp
 show A7 _ _ (if(((HT.iV items.size 0 lo:Nat):Int)==0&&(1:Int)==1&&(HT.iV items.size items.size hi-HT.iV items.size 0 lo)==items.size)=true then _ else _) _ _ s;rw[zk d]
 first
  |refine zb (zb (JS a.typeIs (zd ?_)))
  |refine zb (JS a.typeIs (zb (zd ?_)))
  |refine zb (JS a.typeIs ?_)
 rw[zk ()]
 first
  |exact zb (QP (zd ⟨_,rfl,zd h⟩))
  |exact zb (QP (zb (zd (zd ⟨_,rfl,zd h⟩))))
def Db(b:Bx)(lo hi:Y3 Int):Y3 Bx:=match b with
 |.z (.str x)=>Z (.z (.str (Txt.slice x lo hi)))
 |.z (.tup ds)=>Z (.z (.tup (C6 ds lo hi)))
 |b=>(sO b).bind λds=>Z (.o (C6 ds lo hi))
def af(K:B8):V->Y3 Int->Y3 Int->Hp->VK->Prop:=λx lo hi H Q=>∃b c,bf K H b x/\Db b lo hi=Z c/\∀w H',AV H H'->Nw H c w->bf K H' c w->Q w H'
theorem NL:FM X (af X.K):=by
 intro AN s σ H x v E L lo hi sl Q I A w pl m h;obtain⟨b,c,z,e,q⟩:=h;unfold Db at e;split at e
 ·rename_i y;cases e;obtain⟨rfl,d⟩:=Yi z;obtain⟨t,rfl⟩:=A;refine⟨"str", _,F.slot_str_getitem.lookup,typeIs_str _ _ _,?_⟩;obtain⟨o,e1,e2,e3⟩:=w;have n:∀J k,EP X AN σ Q (.str (Txt.slice y lo hi) J) { s with toks:=k }:=λJ k=>⟨.str _,H,I.tok _,⟨_,rfl⟩,q _ H (AV.refl H) trivial (F5 (zo (Txt.slice_le y _ _) d))⟩;cases pl with
  |none=>
   cases m with
   |none=>exact kU (l:=O) (u:=O) (st:=O) ⟨o,e1,e2,e3⟩ Y2 (post_val_or_str ⟨zo (Txt.slice_le y _ _) d,n⟩)
   |int j B=>exact kU (l:=O) (u:=Z (j,B)) (st:=O) ⟨o,e1,e2,e3⟩ Y2 (post_val_or_str ⟨zo (Txt.slice_le y _ _) d,n⟩)
  |int i C=>
   cases m with
   |none=>exact kU (l:=Z (i,C)) (u:=O) (st:=O) ⟨o,e1,e2,e3⟩ Y2 (post_val_or_str ⟨zo (Txt.slice_le y _ _) d,n⟩)
   |int j B=>exact kU (l:=Z (i,C)) (u:=Z (j,B)) (st:=O) ⟨o,e1,e2,e3⟩ Y2 (post_val_or_str ⟨zo (Txt.slice_le y _ _) d,n⟩)
 ·rename_i ds;cases e;obtain⟨a,vs,rfl,sq,g⟩:=FK z;by_cases f:HT.iV vs.length 0 lo=0/\HT.iV vs.length vs.length hi=vs.length
  ·cases A;obtain⟨AQ,r,G,N⟩:=I.tuple sq;have D:AQ.toArray.size=vs.length:=by rw[zh];exact r.length.symm
   refine⟨"tuple", _,PyProof.Rows.slot_tuple_getitem.lookup,G.typeIs,zL G w pl m (by rw[D];exact f.1) (by rw[D];exact f.2) ⟨.ref a,H,I,rfl,q _ H (AV.refl H) trivial ?_⟩⟩;rw[Yn ds (by rw[<-g.length];exact f.1) (by rw[<-g.length];exact f.2)];exact z
  ·refine Sa AN s σ H _ v E L lo hi sl Q I A w pl m ⟨a,vs,rfl,sq,f,λp hp=>q _ _ (cg hp) trivial ?_⟩;unfold bf AW;exact⟨p,_,rfl,.inl (.inl bH),(Oq g lo hi).kp (.of (cg hp))⟩
 ·obtain⟨ds,M,e⟩:=AT e;cases e;obtain⟨a,vs,rfl,sq,g⟩:=z.HB M;exact WV AN s σ H _ v E L lo hi sl Q I A w pl m ⟨a,vs,rfl,sq,λp hp=>q _ _ (cg hp) (λa ea=>by cases ea;exact hp) ⟨p,_,rfl,bH,(Oq g lo hi).kp (.of (cg hp))⟩⟩
def Br(f:Ev->Y3 Bx)(fl fh:Ev->Y3 (Y3 Int)):Ev->Y3 Bx:=λρ=>(f ρ).bind λb=>(fl ρ).bind λlo=>(fh ρ).bind λhi=>Db b lo hi
theorem oW{lo hi:Y3 Expr}{fl fh:Ev->Y3 (Y3 Int)}(a:QV X e f)(hl:Fm X lo fl)(g:Fm X hi fh):QV X (.Subscript e (.Slice lo hi O p2) pos) (Br f fl fh):=⟨have a:=a.run;have hl:=hl.run;have g:=g.run;HD (Xn NL a hl g) λσ H Q h=>by
 obtain⟨H0,ρ,c,E,e,q⟩:=h;obtain⟨b,eb,e⟩:=AT e;obtain⟨lo,el,e⟩:=AT e;obtain⟨hi,m,e⟩:=AT e;refine⟨H0,ρ,b,E,eb,λv H1 i t p=>⟨H0,ρ,lo,E.grow i,el,λH2 d=>⟨H0,ρ,hi,E.grow (i.trans d),m,λu j=>?_⟩⟩⟩;have k:=(i.trans d).trans j;exact⟨b,c,(p.same d).same j,e,λw o s n l=>q w o (k.trans s) (n.old k) l⟩⟩
def oM:Y Bx->Y3 Bx
 |[.z (.str x)]=>Z (.z (.int x.length))
 |[b]=>(um b).bind λds=>Z (.z (.int ds.length))
 |_=>O
theorem BT(r:zu K H [b] vs):∃v,vs=[v]/\bf K H b v:=by
 cases r with
 |cons p t=>cases t;exact⟨_,rfl,p⟩
theorem EZ{c:Bx}(r:zu K H [b,c] vs):∃v u,vs=[v,u]/\bf K H b v/\bf K H c u:=by
 cases r with
 |cons p t=>
  cases t with
  |cons p' a=>cases a;exact⟨_,_,rfl,p,p'⟩
theorem j4:yc X (.builtin "len") oM:=gw.imp (J9.or Ka) λxs H Q q=>by
 obtain⟨bs,c,b,e,q⟩:=q;unfold oM at e;split at e
 ·rename_i x;cases e;obtain⟨v,rfl,a⟩:=BT b;obtain⟨rfl,hx⟩:=Yi a;exact .inr ⟨x,rfl,hx,q _ H (AV.refl H) trivial Oi⟩
 ·obtain⟨ds,d,e⟩:=AT e;cases e;obtain⟨v,rfl,a⟩:=BT b;obtain⟨p,vs,rfl,sq,f⟩:=vU a d;exact .inl ⟨p,vs,rfl,sq,by rw[f.length];exact q _ H (AV.refl H) trivial Oi⟩
 ·cases e
def Yo:Y Bx->Y3 Bx
 |[.z (.int i)]=>Z (.z (.int (if i<0 then -i else i)))
 |_=>O
theorem W':yc X (.builtin "abs") Yo:=gw.imp Xk λxs H Q q=>by
 obtain⟨bs,c,b,e,q⟩:=q;unfold Yo at e;split at e
 ·rename_i i;cases e;obtain⟨v,rfl,a⟩:=BT b;have:=RB a;subst this;exact⟨i,rfl,q _ H (AV.refl H) trivial Oi⟩
 ·cases e
def Yp:Y Bx->Y3 Bx
 |[.z (.int i)]=>Z (.z (.int i))
 |[.z (.bl k)]=>Z (.z (.int (if k then 1 else 0)))
 |_=>O
theorem Tl:yc X (.type "int") Yp:=gw.imp Vq λxs H Q q=>by
 obtain⟨bs,c,b,e,q⟩:=q;unfold Yp at e;split at e
 ·rename_i i;cases e;obtain⟨v,rfl,a⟩:=BT b;have:=RB a;subst this;exact .inl ⟨i,rfl,q _ H (AV.refl H) trivial Oi⟩
 ·rename_i k;cases e;obtain⟨v,rfl,a⟩:=BT b;simp only[bf,AW]at a;subst a;exact .inr ⟨k,rfl,q _ H (AV.refl H) trivial Oi⟩
 ·cases e
def uZ:Y Bx->Y3 Bx
 |[b]=>(um b).bind λds=>Z (.o ds)
 |_=>O
theorem wY:yc X (.type "list") uZ:=gw.imp Kc λxs H Q q=>by
 obtain⟨bs,c,f,e,q⟩:=q;unfold uZ at e;split at e
 ·obtain⟨ds,b,e⟩:=AT e;cases e;obtain⟨v,rfl,g⟩:=BT f;obtain⟨p,vs,rfl,sq,d⟩:=vU g b;exact⟨p,vs,rfl,sq,λl hl=>q _ _ (cg hl) (λa ea=>by cases ea;exact hl) ⟨l,vs,rfl,bH,d.kp (.of (cg hl))⟩⟩
 ·cases e
def lH:Y Bx->Y3 Bx
 |[b]=>(um b).bind λds=>Z (.z (.tup ds))
 |_=>O
theorem jM:yc X (.type "tuple") lH:=gw.imp Hz λxs H Q q=>by
 obtain⟨bs,c,d,e,q⟩:=q;unfold lH at e;split at e
 ·obtain⟨ds,b,e⟩:=AT e;cases e;obtain⟨v,rfl,f⟩:=BT d;obtain⟨p,vs,rfl,sq,a⟩:=vU f b;refine⟨p,vs,rfl,?_⟩;rcases sq with sq|sq
  ·refine .inl ⟨sq,λl hl=>q _ _ (cg hl) trivial ?_⟩;unfold bf AW;exact⟨l,vs,rfl,.inl (.inl bH),a.kp (.of (cg hl))⟩
  ·refine .inr ⟨sq,q _ H (AV.refl H) trivial ?_⟩;unfold bf AW;exact⟨p,vs,rfl,sq,a⟩
 ·cases e
def Jp:Y Dt->Y3 (Y Bool)
 |[]=>Z []
 |.bl b::ds=>(Jp ds).bind λbs=>Z (b::bs)
 |_=>O
theorem Fz{K:B8}{H:Hp}:∀{ds:Y Dt} {bs:Y Bool} {vs:Y V} {us:Y A0},Jp ds=Z bs->aH K H ds vs->AX vs us->us=bs.map Value.bool
 |[],_,_,_,e,r,w=>by
  cases e;simp only[aH]at r;subst r;cases w;rfl
 |d::ds,_,_,_,e,r,w=>by
  simp only[aH]at r;obtain⟨v,a,rfl,h1,h2⟩:=r;cases d<;>first|(cases e;done)|skip;simp only[Jp]at e;obtain⟨bs,e1,e⟩:=AT e;cases e;simp only[AW]at h1;subst h1;cases w with
  |cons p t=>
   cases p;rw[Fz e1 h2 t];rfl
theorem CU(bs:Y Bool):((da bs.length).all λi=>bs.getD i false)=bs.all id:=by
 rw[fN,Qb,Qb];constructor
 ·intro h b a;obtain⟨i,hi,rfl⟩:=cx.mp a;have:=h i (by simpa using hi);simpa[List.getD,hi]using this
 ·intro h i hi;have hi:i<bs.length:=by simpa using hi
  have:=h bs[i] (List.getElem_mem hi);simpa[List.getD,hi]using this
def Bn:Y Bx->Y3 Bx
 |[b]=>(sO b).bind λds=>(Jp ds).bind λbs=>Z (.z (.bl (bs.all id)))
 |_=>O
theorem Ot(bs:Y Bool):TruthOf prog w A (λi v=>(bs.map Value.bool).toArray[i]?=Z v) λi=>bs.getD i false:=λi v s Q E h q=>by
 have h':(bs.map Value.bool)[i]?=Z v:=by simpa using h
 rw[qB]at h';cases e:bs[i]? with
 |none=>rw[e]at h';cases h'
 |some b=>
  rw[e]at h';cases h';have:bs.getD i false=b:=by simp[List.getD,e]
  have a:Q b s:=by rw[<-this];exact q
  exact QR a
theorem vW(t:X.calm=true):yc X (.builtin "all") Bn:=by
 intro AN s σ H xs us Q I r h;obtain⟨bs,c,z,e,q⟩:=h;unfold Bn at e;split at e
 ·obtain⟨ds,x,e⟩:=AT e;obtain⟨ks,ek,e⟩:=AT e;cases e;obtain⟨v,rfl,y⟩:=BT z;obtain⟨a,vs,rfl,sq,p⟩:=y.HB x;obtain⟨u,rfl,C⟩:=BE r;cases C;obtain⟨AQ,w,pl,D⟩:=I.list sq;have d:=Fz ek p w;have f:a<s.heap.objs.size:=by obtain⟨o,n,e,_⟩:=pl;exact zI e
  refine call_all_walk (wpAny_pyIter_list pl.isList ?_);refine⟨s.heap.objs.size,_,_,_,_,_,λi=>ks.getD i false,rfl,Walks.list (by show X.A.handled=O;exact I.ok.hd t) s.heap.objs.size a (ZI f) AQ.toArray,⟨⟨_,zS _ rfl,rfl,rfl⟩,pl.isList.push _⟩,?_,λh' tk k=>?_⟩
  ·rw[d];exact Ot ks
  ·have g:AQ.toArray.size=ks.length:=by rw[d];simp
   rw[g,CU];have B:L2.AU X AN σ H { s with heap:=s.heap.push { cls:=.type "list_iterator",data:=.fields #[.ref a,.int 0 0] } }:=I.kept (t':=s.toks) λb o e=>zg _ e;refine⟨.bl _,H,?_,rfl,q _ H (AV.refl H) trivial HW⟩;obtain⟨f0,f1,f2,f3,m,j⟩:=I.Nt (b:=s.heap.objs.size) (H':=H) (zi _) (I.hok.fresh (zi _));exact B.turned (it:=s.heap.objs.size) (λb o l e=>k b o (by simpa using l) e) f0 f1 f3 m j
 ·cases e
end P1
namespace P1
open L2
def gv(i:Nat):Ev->Y3 Bx:=λρ=>Dy ρ i
def vD(g:Bx->Bx->Y3 Bx)(fa fb:Ev->Y3 Bx):Ev->Y3 Bool:=λρ=>(b2 g fa fb ρ).bind Fi
def tV(f:Ev->Y3 Bx):Ev->Y3 Bool:=λρ=>(f ρ).bind FX
def aD:Ev->Y3 (Y Bx):=λ_=>Z []
def sV(p:Dt->Bool)(f:Ev->Y3 Bx):Ev->Y3 Bx:=b1 (λb=>if jY b=true then O else Z (.z (.bl (p (toD b))))) f
def dR:Ev->Y3 Ap:=λρ=>Z (.nx ρ)
def dO(f:Ev->Y3 Bx):Ev->Y3 Ap:=λρ=>(f ρ).bind XS
def B5(i:Nat)(f:Ev->Y3 Bx):Ev->Y3 Ap:=λρ=>(f ρ).bind λb=>(X3 ρ i b).bind λa=>Z (.nx a)
def Yq(gt:Dt->Ev->Y3 Ev)(f:Ev->Y3 Bx):Ev->Y3 Ap:=λρ=>(f ρ).bind λb=>match b with|.z d=>(gt d ρ).bind λa=>Z (.nx a)|_=>O
def FE(i j:Nat)(fs:Ev->Y3 (Y Bx)):Ev->Y3 Ap:=λρ=>(fs ρ).bind (FR i j ρ)
def Bt(i:Nat)(f:Ev->Y3 Bx):Ev->Y3 Ap:=λρ=>(f ρ).bind (Fs ρ i)
def sW(fi:Ev->Y3 (Y Dt))(gt:Dt->Ev->Y3 Ev)(gb:Ev->Y3 Ap):Ev->Y3 Ap:=λρ=>(fi ρ).bind λds=>vM gt gb ds ρ
def EB(f:Ev->Y3 Bx):Ev->Y3 (Y Dt):=λρ=>(f ρ).bind X6
def Hw(f:Ev->Y3 Bx):Ev->Y3 (Y Dt):=λρ=>(f ρ).bind Ye
def Ou(fs:Ev->Y3 (Y Bx)):Ev->Y3 (Y Dt):=λρ=>(fs ρ).bind IH
def nF(i:Nat):Dt->Ev->Y3 Ev:=λd ρ=>Z (ρ.set i (Z (.z d)))
def p8:Ev->Y3 Bool:=λ_=>Z true
theorem cP:yF X [] p8:=⟨.inl ⟨rfl,rfl⟩⟩
theorem uq(h:QB X c p):yF X [c] p:=⟨have h:=h.run;.inr ⟨c,rfl,h⟩⟩
theorem SK:HN X scope cl [] []:=trivial
theorem Sn{xs:At}(n:X.N[i]?=Z x)(k:X.env.kindOf x=Z .cell\/X.env.kindOf x=Z .free)(a:(relabel scope X.env).names.lookup x=Z .cell\/(relabel scope X.env).names.lookup x=Z .free)(c:∃c,cl.lookup x=Z c)(r:HN X scope cl xs is):HN X scope cl (x::xs) (i::is):=⟨⟨n,k,a,c⟩,r⟩
theorem mem_of_lookup{a:Y (AJ×NameKind)}{x:AJ}{k:NameKind}:a.lookup x=Z k->(x,k)∈a:=Q1
theorem ai{xs:At}(clos:closureFor scope X.env=pure cl)(kind:scope.kind=.function)(cell:scope.names.all (λy=>decide (y.2≠.cell)||(cl.lookup y.1).isNone)=true)(names:scope.names.all (λy=>decide (y.2=.local->scope.names.lookup y.1=Z .local))=true)(sub:C7 X.env.cells cl)(has:(relabel scope X.env).names.all (λy=>!(y.2==.cell||y.2==.free)||(cl.lookup y.1).isSome||scope.names.contains (y.1,.cell))=true)(cap:HN X scope cl xs is):vN X scope cl xs is where
 clos:=clos
 kind:=kind
 cell:=λy a b=>by
  have:=List.all_eq_true.mp cell y a;simp only[b,ne_eq,not_true_eq_false,decide_false,gL,eU]at this;exact this
 names:=λy a=>of_decide_eq_true (List.all_eq_true.mp names y a)
 sub:=sub
 has:=λx hx=>by
  have h:∃k,(relabel scope X.env).names.lookup x=Z k/\(k==NameKind.cell||k==NameKind.free)=true:=by
   rcases hx with hx|hx
   ·exact⟨_,hx,rfl⟩
   ·exact⟨_,hx,rfl⟩
  obtain⟨k,e,hk⟩:=h;have:=List.all_eq_true.mp has _ (mem_of_lookup e);simp only[hk,eH,gL,JE]at this;rcases this with h|h
  ·exact .inr (dq.mp h)
  ·exact .inl (dz.mp h)
 cap:=cap
theorem Ue(r:jG k A):A.units+100<cLine:=by have:=r.un;omega
theorem YN(h:∀b:Y Int,b.length<=63->F [.z (.lst (b.map .int))]=Z (.z (.bl true)))(hl:∀b:Y Int,b.length<=63->F [.l (b.map .int)]=Z (.z (.bl true)))(K:B8)(H:Hp)(a:A1)(b:Y Int)(e:b.length<=63)(_:D3 H)(c:qC K H a (b.map V.int)):
  Yh K 1 F [.ref a] H (λv _=>v=.bl true) λ_ _ _=>False:=by
 have f:∀d:Y Int,aH K H (d.map Dt.int) (d.map V.int):=λd=>by
  induction d with
  |nil=>exact aH.nil
  |cons m d i=>exact aH.cons (by unfold AW;rfl) i
 have g:∀v (H':Hp),AV H H'->Nw H (.z (.bl true)) v->bf K H' (.z (.bl true)) v->v=.bl true:=λv H' _ _ r=>by simpa only[bf,AW]using r
 rcases c with c|c
 ·exact⟨rfl,[.l (b.map .int)],_,.cons ⟨a,_,rfl,c,f b⟩ .nil,rfl,hl b e,g⟩
 ·refine⟨rfl,[.z (.lst (b.map .int))],_,.cons ?_ .nil,rfl,h b e,g⟩;unfold bf AW;exact⟨a,_,rfl,.inr c,f b⟩
theorem XL{f:A1}(F:D4 K x qual st f fd)(S:bD N ps (aK st))(b:N.length=n)(c:ps.length=m)(d:∀(a:A0) (A:A5) (outer:Y Env) (s:A2) (H:Hp) (E:XK),jG k (A.deeper (AK qual (aK st) s.heap.objs.size f a))->Xd (EY Nz P w K mg base N qual (aK st) f a A outer s H E).nox (jk st) g):
  yD P w K mg base Nz (k+1) f fd ps (Yh K m (c7 n g)):=by
 subst b c;exact PP F S d
section
variable{st:Expr}{fs:Ev->Y3 Bx}
theorem RM(n:Nat):Builtin.Slice.slicePlaces ((n:Int)-1) (-1) (-1)=n:=by
 unfold Builtin.Slice.slicePlaces;simp only[show ¬ ((-1:Int)>0) by decide,qo,show -(-1:Int)=1 by decide,Int.ediv_one];split<;>omega
theorem Bu{sl:A1}{u:Tok}{Q:Int×Int×Nat->A2->Prop}(hs:s.heap.IsSliceOf sl .none .none (.int (-1) u))(h:Q ((n:Int)-1,-1,n) s):A7 (A8 prog w) A (Builtin.Slice.sliceApplied (.ref sl) (pure (n:Int))) Q E s:=by
 obtain⟨os,a,c,b⟩:=id hs;unfold Builtin.Slice.sliceApplied Builtin.Slice.sliceFields;refine zb (zb (QN a b (x:=.none) Y2 (zb (QN a b (x:=.none) Y2 (zb (QN a b (x:=.int (-1) u) Y2 (zd ?_)))))));refine zb (HT.pR (.int (-1) u) ?_);show A7 _ _ (if((-1:Int)==0)=true then _ else _) _ _ s;rw[zv ()];refine zb (HT.pR .none (zb (HT.pR .none (zb (zd ?_)))));show A7 _ _ (pure ((n:Int)-1,(-1:Int),Builtin.Slice.slicePlaces ((n:Int)-1) (-1) (-1))) _ _ s;rw[RM];exact zd h
theorem Ku{α β:Type}{f:α->Y3 β}{g:α->β}:∀l:Y α,(∀a∈l,f a=Z (g a))->l.filterMap f=l.map g
 |[],_=>rfl
 |a::l,h=>by
  rw[kL,h a (zt ..),zw,Ku l λb c=>h b (zl _ c)]
theorem Yr(xs:Array A0):((da xs.size).filterMap λ(m:Nat)=>xs[(((xs.size:Nat):Int)-1+(m:Int)*(-1)).toNat]?).toArray=xs.toList.reverse.toArray:=by
 congr 1;rw[Ku (g:=λm=>xs.toList.getD (xs.size-1-m) .none)]
 ·apply fg
  ·simp
  ·intro k h1 h2;have hk:k<xs.size:=by simpa using h1
   rw[js,ez,List.getElem_reverse,eJ,qa (by simp;omega)];simp
 ·intro m a;have a:=dg.mp a;have e:(((xs.size:Nat):Int)-1+(m:Int)*(-1)).toNat=xs.size-1-m:=by omega
  have hl:xs.size-1-m<xs.size:=by omega
  rw[e,Array.getElem?_eq_getElem hl,eJ,qa (by simpa using hl)];simp
theorem zM{t sl:A1}{u:Tok}(b:IsTup s.heap t items)(hs:s.heap.IsSliceOf sl .none .none (.int (-1) u))(h:Q (.ref s.heap.objs.size) { s with heap:=s.heap.push { cls:=.type "tuple",data:=.seq items.toList.reverse.toArray } })(c:items.size<=AA):A7 (A8 prog w) A (getItem (.ref t) (.ref sl)) Q E s:=by
 have a:sizeOk (.seq items.toList.reverse.toArray):=by
  show items.toList.reverse.toArray.size<=AA;rw[zh,KM,ZO];exact c
 obtain⟨os,e,f,i⟩:=id hs;have g:s.TypeIs (.ref sl) "slice":=⟨os,e,f⟩;unfold getItem
 try with_reducible refine kb ?_
 first|refine zb (zd ?_)|skip
 refine zb (wpAny_sequenceKey b.typeIs () ?_);refine zb (QQ (name:=Str.ofString "__getitem__") b.typeIs PyProof.Rows.slot_tuple_getitem
  (jn PyProof.Rows.slot_tuple_getitem b.typeIs entry_tuple_getitem ?_ (args_tuple_getitem _ _)))
 show A7 _ _ (Builtin.Tuple.tupleItemsOf (.ref t) >>= _) _ _ s;refine zb (tupleItemsOf_ b ?_);refine zb (JS g ?_);rw[zk ()];refine zb (Bu hs ?_);have d:¬ ((((items.size:Int)-1)==0&&(-1:Int)==1&&items.size==items.size)=true):=by
  rw[show((-1:Int)==1)=false from rfl,gh,KU];exact ZA
 show A7 _ _ (if(((items.size:Int)-1)==0&&(-1:Int)==1&&items.size==items.size)=true then _ else _) _ _ s;rw[zv d,Yr]
 first
  |exact zb (m:=Builtin.Tuple.tupleExact _) (qA (zd ⟨_,rfl,zd h⟩) a)
  |exact zb (m:=Builtin.Tuple.tupleExact _) (qA (zb (zd (zd ⟨_,rfl,zd h⟩))) a)
  |exact zb (zb (m:=Builtin.Tuple.tupleExact _) (qA (zd (zd ⟨_,rfl,zd h⟩)) a))
  |exact zb (zb (m:=Builtin.Tuple.tupleExact _) (qA (zd ⟨_,rfl,zd h⟩) a))
def VJ:Bx->Bx->Y3 Bx
 |.z (.tup ds),.z (.int i)=>if i = -1 then Z (.z (.tup ds.reverse))else O
 |_,_=>O
theorem aH.rev{K:B8}{H:Hp}:∀{ds:Y Dt} {vs:Y V},aH K H ds vs->aH K H ds.reverse vs.reverse
 |[],_,h=>by simp only[aH]at h;subst h;exact aH.nil
 |d::ds,_,h=>by
  simp only[aH]at h;obtain⟨v,r,rfl,hd,a⟩:=h;rw[kn,kn];exact aH.append (aH.rev a) (aH.cons hd aH.nil)
theorem VL{a c:Bx}(h:VJ a b=Z c):∃ds,a=.z (.tup ds)/\b=.z (.int (-1))/\c=.z (.tup ds.reverse):=by
 unfold VJ at h;split at h
 ·rename_i ds i;split at h
  ·rename_i hi;subst hi;cases h;exact⟨ds,rfl,rfl,rfl⟩
  ·cases h
 ·cases h
theorem UB(k:QV X e f)(l:QV X st fs)(F:∀v i:A0,subscripted (.Slice O O (Z st) p2) false v i=operate [v,i] (getItem v i):=by intro _ _;with_unfolding_all rfl):QV X (.Subscript e (.Slice O O (Z st) p2) pos) (b2 VJ f fs):=⟨by
 have k:=k.run;have l:=l.run;intro AN s σ H Q I h;obtain⟨H0,ρ,c,E,g,q⟩:=h;obtain⟨a,ea,g⟩:=AT g;obtain⟨b,eb,g⟩:=AT g;refine Subscript_ (jF (k AN s σ H (λx H1=>AV H H1/\bf X.K H1 a x) I ⟨H0,ρ,a,E,ea,λv H1 t J m=>⟨t,m⟩⟩) λv t ⟨x,H1,I1,m,sm1,BT⟩=>?_);refine wpAny_Slice ?_;rw[evalPart_none];refine zd ?_;refine zd ?_;rw[evalPart_some];refine jF (l AN t σ H1 (λy H2=>AV H1 H2/\bf X.K H2 b y) I1 ⟨H0,ρ,b,E.grow sm1,eb,λv H2 d G n=>⟨d,n⟩⟩) λvk d ⟨y,H2,I2,n,Ug,EZ⟩=>?_;obtain⟨ds,rfl,rfl,rfl⟩:=VL g;have C:y=.int (-1):=by simpa only[bf,AW]using EZ
 subst C;obtain⟨tk,rfl⟩:=n;obtain⟨p,vs,rfl,sq,D⟩:∃p vs,x=.ref p/\tX X.K H2 p vs/\aH X.K H2 ds vs:=by
  have:=BT.same Ug;simpa only[bf,AW]using this
 cases m;have j:L2.AU X AN σ H2 { d with heap:=d.heap.push { cls:=.type "slice",data:=.fields #[.none,.none,.int (-1) tk] } }:=I2.kept (t':=d.toks) λb B q=>zg _ q;obtain⟨AQ,r,u,z⟩:=j.tuple sq;show A7 (cr X) X.A (subscriptTail e (.Slice O O (Z st) p2) (.ref p) (.ref d.heap.objs.size)) (EP X AN σ Q) X.xe { d with heap:=d.heap.push { cls:=.type "slice",data:=.fields #[.none,.none,.int (-1) tk] } };refine tail_any (ops:=[.ref p,.ref d.heap.objs.size]) u.typeIs PyProof.Rows.slot_tuple_getitem.lookup (zM u (Heap.IsSliceOf.new ..) ?_ (by rw[zh,<-r.length];exact z)) (F _ _);refine⟨.ref _,_,j.laid (t':=d.toks) (o:=.tup vs.reverse) (λb B q=>zg _ q) (zi _) ?_,rfl,q _ _ ((sm1.trans Ug).trans (cg (j.hok.fresh (zi _)))) trivial ?_⟩
 ·exact⟨by rw[KM];exact z,_,r.reverse,oK.new _ _⟩
 ·simp only[bf,AW];exact⟨_,_,rfl,.inl (.inl bH),(aH.rev D).kp (.of (cg (j.hok.fresh (zi _))))⟩⟩
end
def RN:Bx->Bx->Y3 Bx
 |.z (.int i),.z (.int j)=>Z (.z (.bl (decide (i<j))))
 |.z (.str x),.z (.str y)=>Z (.z (.bl (decide (x.cps.toList<y.cps.toList))))
 |_,_=>O
theorem FJ:Cu X (AG .Lt) RN:=by
 intro AN s σ H x y v u Q I k f h;obtain⟨a,b,c,d,g,e,q⟩:=h;unfold RN at e;split at e
 ·rename_i i j;cases e;exact OK AN s σ H x y v u Q I k f ⟨i,j,RB d,RB g,q _ H (AV.refl H) trivial (by unfold bf;exact EX)⟩
 ·rename_i i j;cases e;obtain⟨rfl,_⟩:=Yi d;obtain⟨rfl,_⟩:=Yi g;obtain⟨t,rfl⟩:=k;obtain⟨l,rfl⟩:=f;exact PySem.P.lt_str ⟨.bl _,H,I,rfl,q _ H (AV.refl H) trivial (by unfold bf;exact EX)⟩
 ·cases e
def FN:Y Dt->Y3 At
 |[]=>Z []
 |.str x::r=>(FN r).bind λys=>Z (x::ys)
 |_=>O
theorem Bv{K:B8}{H:Hp}:∀{ds:Y Dt} {vs:Y V} {ys:At},aH K H ds vs->FN ds=Z ys->vs=ys.map V.str/\∀y∈ys,y.length<=AA
 |[],_,_,h,e=>by cases e;simp only[aH]at h;subst h;exact⟨rfl,λy a=>by cases a⟩
 |.str x::ds,_,_,h,e=>by
  simp only[FN]at e;obtain⟨ys,e1,e2⟩:=AT e;cases e2;simp only[aH]at h;obtain⟨v,r,rfl,hd,b⟩:=h;obtain⟨rfl,hx⟩:v=.str x/\x.length<=AA:=by simpa only[AW]using hd
  obtain⟨rfl,h2⟩:=Bv b e1;refine⟨rfl,λy a=>?_⟩;rcases bc.mp a with rfl|a
  ·exact hx
  ·exact h2 y a
 |.non::_,_,_,_,e=>by cases e
 |.bl _::_,_,_,_,e=>by cases e
 |.int _::_,_,_,_,e=>by cases e
 |.tup _::_,_,_,_,e=>by cases e
 |.lst _::_,_,_,_,e=>by cases e
 |.emp::_,_,_,_,e=>by cases e
theorem Ov{K:B8}{H:Hp}:∀{ys:At},(∀y∈ys,y.length<=AA)->aH K H (ys.map Dt.str) (ys.map V.str)
 |[],_=>aH.nil
 |y::ys,h=>aH.cons (by unfold AW;exact⟨rfl,h y (zt ..)⟩) (Ov λz a=>h z (zl _ a))
theorem yG:∀{ys:At} {AQ:Y A0},AX (ys.map V.str) AQ->StrsAre AQ ys
 |[],_,h=>by cases h;exact .nil
 |y::ys,_,h=>by
  cases h with
  |cons r t=>
   obtain⟨tk,rfl⟩:=r;exact .cons y tk (yG t)
theorem Jq:∀{AQ:Y A0} {ys:At},StrsAre AQ ys->AX (ys.map V.str) AQ
 |_,_,.nil=>.nil
 |_,_,.cons y t h=>.cons ⟨t,rfl⟩ (Jq h)
theorem Kv:gw X (.builtin "sorted") (λxs H Q=>∃p ys,xs=[.ref p]/\qC X.K H p (ys.map V.str)/\ys.length<64/\∀l zs,H l=O->zs.Perm ys->sortedS zs=true->Q (.ref l) (BA H l (.lst (zs.map V.str)))):=by
 intro AN s σ H xs us Q I r h;obtain⟨p,ys,rfl,g,t,q⟩:=h;obtain⟨u,rfl,m⟩:=BE r;cases m;obtain⟨AQ,c,pl,d⟩:=I.list g;have f:=c.length;rw[ze]at f d;refine sorted_strs pl.isList (yG c) () λout zs i hp k=>?_;obtain⟨n,j⟩:=sortedAll_at s.heap AQ out;refine⟨.ref (s.heap.objs.size+1),_,I.laid (t':=s.toks) (a:=s.heap.objs.size+1) (o:=.lst (zs.map V.str)) (λb o e=>sortedAll_old e) (Kx _) ?_,rfl,q _ zs (I.hok.fresh (Kx _)) hp k⟩;refine⟨by rw[ze,hp.length_eq];exact d,out.toList,n,Jq i,?_⟩;rw[j]
def HX(a b:AJ):Prop:=ltCps b.cps.toList a.cps.toList=false
theorem zN:∀(p:AJ) (l:At),risingS p l=true->(p::l).Pairwise HX
 |p,[],_=>by simp
 |p,x::r,h=>by
  have h':(!ltCps x.cps.toList p.cps.toList&&risingS x r)=true:=h;rw[Zs]at h';have c:=zN x r h'.2;have hx:HX p x:=by simpa[HX]using h'.1
  refine cq.mpr ⟨λy b=>?_,c⟩;rcases bc.mp b with rfl|b
  ·exact hx
  ·have a:HX x y:=Q4 c b;unfold HX at hx a ⊢;rw[ltCps_eq]at hx a ⊢;simp only[QA]at hx a ⊢;exact List.le_trans (α:=Nat) hx a
theorem Kw{l:At}(h:sortedS l=true):l.Pairwise HX:=by
 cases l with
 |nil=>exact .nil
 |cons p l=>exact zN p l h
theorem Ow{a b:AJ}(h:HX a b)(h':HX b a):a=b:=by
 unfold HX at h h';rw[ltCps_eq]at h h';simp only[QA]at h h';have:=hV (as:=a.cps.toList) (bs:=b.cps.toList) h h';cases a;cases b;simp only[Str.mk.injEq];exact fm.mp this
theorem Kz:∀{l c:At},l.Perm c->l.Pairwise HX->c.Pairwise HX->l=c
 |[],c,h,_,_=>by rw[List.nil_perm.mp h]
 |a::l,[],h,_,_=>by cases List.perm_nil.mp h
 |a::l,b::c,h,p,p'=>by
  have e:a=b:=by
   have d:a∈b::c:=h.mem_iff.mp (zt ..);have f:b∈a::l:=h.mem_iff.mpr (zt ..);rcases bc.mp d with h1|h1
   ·exact h1
   ·rcases bc.mp f with h2|h2
    ·exact h2.symm
    ·exact Ow (Q4 p h2) (Q4 p' h1)
  subst e;rw[Kz ((gi a).mp h) (cq.mp p).2 (cq.mp p').2]
def VN(a b:AJ):Bool:=!ltCps b.cps.toList a.cps.toList
def FP(ys:At):At:=ys.mergeSort VN
theorem yH(ys:At):(FP ys).Perm ys:=Q2 ys VN
theorem FQ(ys:At):(FP ys).Pairwise HX:=by
 have h:=jI (le:=VN) (λa b c h1 h2=>by
  unfold VN at *
  rw[ltCps_eq]at *
  simp only[qS,QA]at *
  exact List.le_trans (α:=Nat) h1 h2) (λa b=>by
  unfold VN;rw[ltCps_eq,ltCps_eq];simp only[JE,qS,QA];exact List.le_total a.cps.toList b.cps.toList) ys
 exact h.imp λ{a b} hh=>by simpa[VN,HX]using hh
theorem Ys{ys zs:At}(hp:zs.Perm ys)(hs:sortedS zs=true):zs=FP ys:=Kz (hp.trans (yH ys).symm) (Kw hs) (FQ ys)
def Ox:Y Bx->Y3 Bx
 |[b]=>(sO b).bind λds=>(FN ds).bind λys=>if ys.length<64 then Z (.o ((FP ys).map Dt.str))else O
 |_=>O
theorem VP:yc X (.builtin "sorted") Ox:=gw.imp Kv λxs H Q q=>by
 obtain⟨bs,c,k,e,q⟩:=q;unfold Ox at e;split at e
 ·rename_i b;obtain⟨ds,i,e⟩:=AT e;obtain⟨ys,m,e⟩:=AT e;split at e
  ·rename_i n;cases e;obtain⟨v,rfl,j⟩:=BT k;obtain⟨p,vs,rfl,sq,f⟩:=j.HB i;obtain⟨rfl,d⟩:=Bv f m;refine⟨p,ys,rfl,sq,n,λl zs hl hp g=>?_⟩;rw[Ys hp g];refine q _ _ (cg hl) (λa ea=>by cases ea;exact hl) ⟨l,_,rfl,bH,Ov λy h=>d y ((yH ys).mem_iff.mp h)⟩
  ·cases e
 ·cases e
def Oz(x:AJ)(b:Bx):Y3 Bx:=(sO b).bind λds=>(FN ds).bind λys=>if(ys.map (·.length)).sum+ys.length*x.length<=100000 then Z (.z (.str (Txt.join x ys)))else O
theorem SI:GL X "str.join" (λx xs H Q=>∃y p ys,x=.str y/\xs=[.ref p]/\qC X.K H p (ys.map V.str)/\(ys.map (·.length)).sum+ys.length*y.length<=100000/\Q (.str (Txt.join y ys)) H):=by
 intro AN s σ H x xs v us Q I c b h;obtain⟨y,p,ys,rfl,rfl,sq,e,q⟩:=h;obtain⟨t,rfl⟩:=c;obtain⟨u,rfl,d⟩:=BE b;cases d;obtain⟨AQ,a,pl,g⟩:=I.list sq;exact join_list pl.isList (yG a) () λf k=>⟨.str _,H,I.tok _,⟨_,rfl⟩,q⟩
theorem PZ{p1:Pos}(h:QV X e f)(hx:x.length<=AA:=by decide)(k:attributeBase (.Constant (.str x) j p1) "join" X.env (eval (.Constant (.str x) j p1) X.env)=eval (.Constant (.str x) j p1) X.env:=by rfl)(t:((AD cpos (A9 [e] X.env)).all (λx=>!x.1)&&(backToKw cpos (keywordEach [] X.env)).all (λx=>x.1.isSome)&&decide ([e].length+([]:Y AC).length+(if([]:Y AC).isEmpty then 0 else 1)<30))=true:=by rfl)(d:(apos.endLine==cpos.line)=true:=by rfl)(hs:A9 [e] X.env=(false,eval e X.env)::A9 [] X.env:=by rfl):QV X (.Call (.Attribute (.Constant (.str x) j p1) "join" apos) [e] [] cpos) (b1 (Oz x) f):=⟨have h:=h.run;HD (Xq (T :="str") F.plainAttrs_str F.slot_str_join F.type_str_join SI (XH (hx:=hx)) (NQ h T4 hs) k t d hs Y2) λσ H Q q=>by
  obtain⟨H0,ρ,c,E,e,q⟩:=q;obtain⟨a,ea,e⟩:=AT e;refine⟨H0,ρ,_,E,rfl,λv H1 b A n=>?_⟩;obtain⟨rfl,z⟩:v=.str x/\x.length<=AA:=by simpa only[bf,AW]using n
  refine⟨rfl,H0,ρ,[a],E.grow b,by simp only[ao,ea,hW],λvs H2 g o=>?_⟩;obtain⟨w,rfl,u⟩:=BT o;unfold Oz at e;obtain⟨ds,m,e⟩:=AT e;obtain⟨ys,s,e⟩:=AT e;split at e
  ·rename_i i;cases e;obtain⟨p,B,rfl,sq,l⟩:=u.HB m;obtain⟨rfl,y⟩:=Bv l s;refine⟨x,p,ys,rfl,rfl,sq,i,q _ _ (b.trans g) trivial ?_⟩;unfold bf AW;exact⟨rfl,joinOk_length (joinOk_of ())⟩
  ·cases e⟩
section
variable{ek o:Expr}{fk:Ev->Y3 Bx}{pos':Pos}
end
section
variable{a b:Expr}{fs:Ev->Y3 (Y Bx)}
theorem bQ{j}(hx:x.length<=AA:=by decide):QV X (.Constant (.str x) j pos) (cB (.str x)):=⟨P1.XH (hx:=hx)⟩
end
section
variable{a b:Expr}{fs:Ev->Y3 (Y Bx)}
variable{AS:Y Expr}
theorem aj(h1:QV X e f)(h2:T3 X es fs)(hs:A9 (e::es) X.env=(false,eval e X.env)::A9 es X.env:=by rfl):T3 X (e::es) (ao f fs):=⟨P1.NQ (h1:=h1.run) (h2:=h2.run) (hs:=hs)⟩
theorem au  :T3 X [] (λ_=>Z []):=⟨P1.T4 ⟩
end
theorem Pv{f:A1}(F:D4 K x qual st f fd)(S:bD N ps (aK st))(b:N.length=n)(e:ps.length=m)(d:∀(a:A0) (A:A5) (outer:Y Env) (s:A2) (H:Hp) (E:XK),jG k (A.deeper (AK qual (aK st) s.heap.objs.size f a))->W2 (EY Nz P w K mg base N qual (aK st) f a A outer s H E).nox (jk st) g):
  yD P w K mg base Nz (k+1) f fd ps (Yh K m (c7 n g)):=XL F S b e λa A outer s H E c=>(d a A outer s H E c).run
theorem bW.ahi(E:bW K H0 H σ ρ)(i:Nat):bW K H0 H σ (ρ.set i O):=by
 have d:∀(j:Nat) (b:Bx),(ρ.set i O)[j]?=Z (Z b)->ρ[j]?=Z (Z b):=λj b e=>by
  rw[ye]at e;split at e
  ·split at e<;>cases e
  ·exact e
 refine⟨by rw[kP];exact E.len,λj b e=>E.val j b (d j b e),λj k c a b e1 f e2 e3 h g=>E.own j k c a b (d _ _ e1) f e2 (d _ _ e3) h g,E.base,λj c a e1 f e2=>E.new j c a (d _ _ e1) f e2⟩
def kill(is:Y Nat)(ρ:Ev):Ev:=is.foldl (λρ i=>ρ.set i O) ρ
theorem bW.kill{K:B8}{H0 H:Hp}{σ:L2.St}:∀(is:Y Nat) {ρ:Ev},bW K H0 H σ ρ->bW K H0 H σ (P1.kill is ρ)
 |[],_,E=>E
 |i::is,_,E=>bW.kill is (E.ahi i)
def fB(is:Y Nat):Ev->Y3 Ap:=λρ=>Z (.nx (kill is ρ))
theorem Yt{a:Y AB}(is:Y Nat)(h:Xd X a g):Xd X a (aF g (fB is)):=GY h λD σ H q=>by
 obtain⟨H0,ρ,r,E,e,q⟩:=q;obtain⟨c,e1,e⟩:=AT e;refine⟨H0,ρ,c,E,e1,?_⟩;cases c with
 |nx f=>cases e;exact λσ' H' d=>q σ' H' (d.kill is)
 |rt b=>cases e;exact q
 |bk b=>cases e;exact q
 |ct b=>cases e;exact q
theorem bU{a:Y AB}(is:Y Nat)(h:W2 X a g):W2 X a (aF g (fB is)):=⟨Yt is h.run⟩
end P1
namespace S1
section
variable(rk:A0->Nat)
def at_(xs:Array Keyed)(i:Nat):Nat:=match xs[i]? with
 |some p=>rk p.1
 |none=>0
def Up(xs:Array Keyed)(k:Nat):Prop:=∀i j,i<=j->j<k->at_ rk xs i<=at_ rk xs j
structure Bs (kd:SortKind) (b:Array Keyed) (st:SortSt):Prop where
 pm:(arrOf st).Perm b
 kd:kindOf st=kd
 fl:failedOf st=none
 pd:pendingOf st=#[]
variable{rk}{b:Array Keyed}
theorem Bs.sz{st:SortSt}(h:Bs kd b st):(AM st).size=b.size:=h.pm.size_eq
theorem vX{xs ys:Array Keyed}(h:xs[i]?=ys[j]?):at_ rk xs i=at_ rk ys j:=by unfold at_;rw[h]
theorem bb{xs:Array Keyed}{p d:Nat}(hs:p<xs.size)(hd:d<=p)(k:Nat):at_ rk (bubble xs p d) k=if k=p-d then at_ rk xs p else if p-d<k/\k<=p then at_ rk xs (k-1)else at_ rk xs k:=by
 have e:=getElem?_bubble hs d hd k;by_cases q:k=p-d
 ·simp only[zk q]at e ⊢;exact vX e
 ·simp only[zv q]at e ⊢;by_cases q2:p-d<k/\k<=p
  ·simp only[zk q2]at e ⊢;exact vX e
  ·simp only[zv q2]at e ⊢;exact vX e
theorem TC{xs:Array Keyed}(a:j<=xs.size)(k:Nat):at_ rk (mirror xs i j ((j-i) / 2)) k=if i<=k/\k<j then at_ rk xs (i+j-1-k)else at_ rk xs k:=by
 have e:=getElem?_mirror_all (i:=i) a k;by_cases q:i<=k/\k<j
 ·simp only[zk q]at e ⊢;exact vX e
 ·simp only[zv q]at e ⊢;exact vX e
end
section
variable{b:Array Keyed}
def KC(prog:A3)(w:A4)(A:A5)(s:A2)(kd:SortKind)(rk:A0->Nat)(b:Array Keyed):Prop:=
 ∀(E:BG) (p q:Keyed) (Q:Bool->A2->Prop),p∈b.toList->q∈b.toList->Q (decide (rk p.1<rk q.1)) s->A7 (A8 prog w) A (keyLt' kd p.1 q.1) Q E s
def Rn(prog:A3)(w:A4)(A:A5)(kd:SortKind)(rk:A0->Nat)(b:Array Keyed):Prop:=∀(E:BG) (s:A2) (st:SortSt) (Q:Unit->SortSt->Prop),KC prog w A s kd rk b->Bs kd b st->2<=b.size →
 (∀t,(AM t).Perm b->failedOf t=O->Up rk (AM t) b.size->Q dl t)->wpS (A8 prog w) A E s sortRuns' Q st
def FV(a:A1)(s s':A2):Prop:=∀c o,c≠a->s.heap.get? c=Z o->s'.heap.get? c=Z o
theorem OS{vs:Y A0}{P:Fin->A2->Prop}(b:s.heap.get? a=Z (seqObj "list" vs.toArray n))(v:2<=vs.length->∀s',FV a s s'->∀Q:SortKind->A2->Prop,Q kd s'->A7 (A8 prog w) A (keyKind' vs.toArray) Q E s')(l:∀s',FV a s s'->KC prog w A s' kd rk (pairsOf vs))(k:vs.length<=AA)(hR:Rn prog w A kd rk (pairsOf vs))(h:∀st:SortSt,(AM st).Perm (pairsOf vs)->Up rk (AM st) (pairsOf vs).size->P (.done (.ret .none)) { s with heap:=sortedHeap s.heap a vs ((AM st).map (·.2)) }):
  A7 (A8 prog w) A (Builtin.«list.sort» ⟨[.ref a],[]⟩) P E s:=by
 rw[list_sort_plain];have m:=zI b;refine zb (listItems_at b Y2 (zb (listUpdate_at b Y2 ?_)));obtain⟨e1,g1⟩:∃e1,(s.heap.update a (Obj.mapSeq λ_=>#[])).get? a=Z (seqObj "list" #[] e1):=⟨_,get?_update_seq b λ_=>#[]⟩;refine zb (seqEpoch_at g1 Y2 (zb (wpAny_newTuple (zb (yf (kb ?_))))));have z1:(s.heap.update a (Obj.mapSeq λ_=>#[])).objs.size=s.heap.objs.size:=hX ..;have keep:∀c,c<s.heap.objs.size->(((s.heap.update a (Obj.mapSeq λ_=>#[])).push (seqObj "tuple" vs.toArray 0)).push (seqObj "list" #[] 0)).get? c=(s.heap.update a (Obj.mapSeq λ_=>#[])).get? c:=λc d=>by
  rw[hG _ _ _ (by rw[size_push',z1];exact ZI (eP d)),hG _ _ _ (by rw[z1];exact ZI d)]
 have f:=(keep a m).trans g1;have old:FV a s { s with heap:=((s.heap.update a (Obj.mapSeq λ_=>#[])).push (seqObj "tuple" vs.toArray 0)).push (seqObj "list" #[] 0) }:=λc o d e=>by
  show(((s.heap.update a (Obj.mapSeq λ_=>#[])).push (seqObj "tuple" vs.toArray 0)).push (seqObj "list" #[] 0)).get? c=Z o;rw[keep c (zI e),gT _ _ _ _ d];exact e
 show A7 _ _ _ _ _ { s with heap:=((s.heap.update a (Obj.mapSeq λ_=>#[])).push (seqObj "tuple" vs.toArray 0)).push (seqObj "list" #[] 0) };have z:vs.toArray.size=vs.length:=by simp
 have g:∀st:SortSt,(AM st).Perm (pairsOf vs)->((AM st).map (·.2)).size<=AA+1:=λst hp=>by
  have q:((AM st).map (·.2)).size=vs.length:=(Array.size_map ..).trans (hp.size_eq.trans (pairsOf_size _));rw[q];exact hH k
 by_cases h2:vs.toArray.size<2
 ·simp only[zk h2];refine zb (zd ?_);rw[StateT.run_pure];refine zb (zd (zb (seqEpoch_at f Y2 (zb (listUpdate_at f Y2 ?_ (hsz2:=g (SortSt.mk' general' (pairsOf vs) #[] 7 O) (KI _)))))));simp only[bne_self_eq_false,zD,qo];refine zd (h (SortSt.mk' general' (pairsOf vs) #[] 7 O) (KI _) λi j y u=>?_);rw[pairsOf_size]at u;rw[show i=j by omega];exact zi _
 ·simp only[zv h2];refine zb (v () _ old _ ?_);refine zb (QE (hR _ _ (SortSt.mk' kd (pairsOf vs) #[] 7 O) (λ_ t=>(AM t).Perm (pairsOf vs)/\failedOf t=O/\Up rk (AM t) (pairsOf vs).size) (l _ old) ⟨KI _,rfl,rfl,rfl⟩ (by rw[pairsOf_size];omega) λt q1 q2 q3=>⟨q1,q2,q3⟩) ?_ λ_ _ q=>q);rintro⟨⟨⟩,t⟩ s' ⟨rfl,hp,p,x⟩;dsimp only;refine zb (seqEpoch_at f Y2 (zb (listUpdate_at f Y2 ?_ (hsz2:=g t hp))));rw[p];simp only[bne_self_eq_false,zD,qo];exact zd (h t hp x)
theorem RQ{x:A0}{vs:Y A0}(t:∀(d:BG) (g:Y A0->A2->Prop),(∀h' tk,s.heap.objs.size<=h'.objs.size->(∀c o,s.heap.get? c=Z o->h'.get? c=Z o)->g vs { s with heap:=h',toks:=tk })->A7 (A8 prog w) A.in1 (collect x) g d s)(j:2<=vs.length->∀(d:BG) (a:A5) (s':A2),(∀c o,s.heap.get? c=Z o->s'.heap.get? c=Z o)->∀Q:SortKind->A2->Prop,Q kd s'->A7 (A8 prog w) a (keyKind' vs.toArray) Q d s')(k:∀(a:A5) (s':A2),(∀c o,s.heap.get? c=Z o->s'.heap.get? c=Z o)->KC prog w a s' kd rk (pairsOf vs))(i:vs.length<=AA)(hR:∀a:A5,Rn prog w a kd rk (pairsOf vs))(h:∀(l:A1) (h':A6) (tk n:Nat) (st:SortSt),(AM st).Perm (pairsOf vs)->Up rk (AM st) (pairsOf vs).size->s.heap.objs.size<=l->(∀c o,s.heap.get? c=Z o->h'.get? c=Z o)->h'.get? l=Z (seqObj "list" ((AM st).map (·.2)) n)->Q (.ref l) { s with heap:=h',toks:=tk }):
  A7 (A8 prog w) A (call (.builtin "sorted") [x]) Q E s:=by
 refine Calls.call_function_entry kind_sorted plain_sorted entry_sorted (args_sorted1 _) ?_;unfold Builtin.«sorted»;refine zb (m:=checkCount "sorted" 1 1 _) (zd (zb (t _ _ λh1 tk u ext=>zb (yf ?_))));have b:(h1.push (seqObj "list" vs.toArray 0)).get? h1.objs.size=Z (seqObj "list" vs.toArray 0):=zS _ rfl;have old:∀s':A2,FV h1.objs.size { s with heap:=h1.push (seqObj "list" vs.toArray 0),toks:=tk } s'->∀c o,s.heap.get? c=Z o->s'.heap.get? c=Z o:=λs' q c o e=>
  q c o (ZI (zI (ext c o e))) (zg _ (ext c o e))
 refine zb (kb (jn slot_list_sort ⟨_,b,rfl⟩ entry_list_sort (OS b (λq s' o=>j q _ _ s' (old s' o)) (λs' o=>k _ s' (old s' o)) i (hR _) λst q1 q2=>⟨_,rfl,zd ⟨_,rfl,?_⟩⟩) (args_list_sort _)));obtain⟨n,p⟩:=sortedHeap_at (out:=(AM st).map (·.2)) b;refine h h1.objs.size _ tk n st q1 q2 u (λc o e=>?_) p;have f:=zI (ext c o e);rw[sortedHeap_old (ZI f) (by rw[k9];exact eP f)];exact zg _ (ext c o e)
end
end S1
namespace S1
open L2
theorem VR(fb:Bool)(x y:A0):keyLt' (tuples' fb) x y=(do
  let xs <-Builtin.List.listItems x
  let ys <-Builtin.List.listItems y
  for ((p,q),i) in (xs.toList.zip ys.toList).zipIdx do
   if !(<-eqBool p q)then return <-oneLt' (fb&&i==0) p q
  return decide (xs.size<ys.size)):=rfl
def Uh:AY->AY->Bool
 |.inl a,.inl b=>decide (a<b)
 |.inr x,.inr y=>decide (x.cps.toList<y.cps.toList)
 |.inl _,.inr _=>true
 |.inr _,.inl _=>false
def OD:AY->AY->Bool
 |.inl _,.inl _=>true
 |.inr _,.inr _=>true
 |_,_=>false
def iu:Y AY->Y AY->Bool
 |[],[]=>false
 |[],_::_=>true
 |_::_,[]=>false
 |x::xs,y::ys=>if x=y then iu xs ys else Uh x y
def Yu:Y AY->Y AY->Prop
 |x::xs,y::ys=>OD x y=true/\Yu xs ys
 |_,_=>True
theorem D0{x y:AY}{p q:A0}{Q:Bool->A2->Prop}(hp:lA x p=true)(c:lA y q=true)(h:Q (decide (x=y)) s):A7 (A8 prog w) A (eqBool p q) Q E s:=
 (lB prog w).eqBool (a:=x) (b:=y) hp c h
theorem TD{fb:Bool}{x y:AY}{p q:A0}{Q:Bool->A2->Prop}(hs:OD x y=true)(hp:lA x p=true)(a:lA y q=true)(h:Q (Uh x y) s):A7 (A8 prog w) A (oneLt' fb p q) Q E s:=by
 rcases bR hp with⟨i,t,rfl,rfl⟩|⟨z,t,rfl,rfl⟩
 ·rcases bR a with⟨j,u,rfl,rfl⟩|⟨z,u,rfl,rfl⟩
  ·cases fb with
   |true=>exact oneLt_int h
   |false=>
    rw[oneLt'_eq];simp only[zD,qo];refine zb (show A7 _ _ (AG .Lt (.int i t) (.int j u)) _ _ _ from lt_int ?_);exact QR h
  ·cases hs
 ·rcases bR a with⟨j,u,rfl,rfl⟩|⟨b,u,rfl,rfl⟩
  ·cases hs
  ·cases fb with
   |true=>exact oneLt_str h
   |false=>
    rw[oneLt'_eq];simp only[zD,qo];refine zb (show A7 _ _ (AG .Lt (.str z t) (.str b u)) _ _ _ from PySem.P.lt_str ?_);exact QR h
def Ks(ks:Y AY)(AQ:Y A0):Prop:=AI (λk v=>lA k v=true) ks AQ
def DO:Y AY->Y AY->Y3 Bool
 |x::xs,y::ys=>if x=y then DO xs ys else Z (Uh x y)
 |_,_=>O
theorem Yv:∀ks a:Y AY,iu ks a=match DO ks a with|some r=>r|none=>decide (ks.length<a.length)
 |[],[]=>rfl
 |[],_::_=>by simp[iu,DO]
 |_::_,[]=>rfl
 |x::xs,y::ys=>by
  simp only[iu,DO];by_cases e:x=y
  ·rw[zk e,zk e,Yv xs ys];simp only[Z3,Nat.add_lt_add_iff_right]
  ·rw[zv e,zv e]
def turn(fb:Bool):(A0×A0)×Nat->Y3 Bool×Unit->Sem (ForInStep (Y3 Bool×Unit)):=λx _=>match x with
 |((p,q),i)=>do
  let e <-eqBool p q
  if(!e)=true then do
    let r <-oneLt' (fb&&i==0) p q
    pure (ForInStep.done (Z r,dl))
   else pure (ForInStep.yield (O,dl))
theorem IJ(fb:Bool):∀(ks b:Y AY) (AQ a:Y A0) (i:Nat) (R:Y3 Bool×Unit->A2->Prop),Ks ks AQ->Ks b a->Yu ks b->R (DO ks b,dl) s->A7 (A8 prog w) A (forIn ((AQ.zip a).zipIdx i) ((O,dl):Y3 Bool×Unit) (turn fb)) R E s:=by
 intro ks
 induction ks with
 |nil=>intro b AQ a i R h _ _ h1;cases h;exact zd h1
 |cons x xs f=>
  intro b AQ a i R h h' c h1;cases h with
  |@cons _ p _ AQ hp hk=>
   cases h' with
   |nil=>exact zd h1
   |@cons y q ys a d hl=>
    rw[JO,hY,List.forIn_cons];refine zb ?_;show A7 _ _ (eqBool p q >>= _) _ _ _;refine zb (D0 hp d ?_);by_cases e:x=y
    ·simp only[e,decide_true,eH,zD,qo];refine zd (f ys AQ a (i+1) R hk hl c.2 ?_);simp only[DO,zk e]at h1;exact h1
    ·simp only[e,decide_false,KS,QO];refine zb (TD c.1 hp d (zd (zd ?_)));simp only[DO,zv e]at h1;exact h1
theorem UP{fb:Bool}{c:A1}{oa f:AE}{d:Y A0}{b:Y AY}{Q:Bool->A2->Prop}(i:s.heap.get? a=Z oa)(l:oa.data=.seq AQ.toArray n)(j:s.heap.get? c=Z f)(o:f.data=.seq d.toArray m)(hk:Ks ks AQ)(hl:Ks b d)(hs:Yu ks b)(h:Q (iu ks b) s):A7 (A8 prog w) A (keyLt' (tuples' fb) (.ref a) (.ref c)) Q E s:=by
 rw[VR];refine zb (listItems_at i l (zb (listItems_at j o ?_)));have k:AQ.length=ks.length:=(Paired.length hk).symm;have g:d.length=b.length:=(Paired.length hl).symm;refine zb (IJ fb ks b AQ d 0 _ hk hl hs ?_);rw[Yv]at h;cases e:DO ks b with
 |some r=>rw[e]at h;exact zd h
 |none=>
  rw[e]at h;refine zd ?_;simpa[k,g]using h
theorem TZ(x:AY):Uh x x=false:=by
 cases x with
 |inl a=>simp[Uh]
 |inr a=>simp[Uh]
theorem V0{x y z:AY}(h:Uh x y=true)(h':Uh y z=true):Uh x z=true:=by
 cases x<;>cases y<;>cases z<;>simp only[Uh,qf,zD,reduceCtorEq]at h h' ⊢
 ·omega
 ·exact List.lt_trans h h'
theorem RY{x y:AY}(h:Uh x y=false)(h':Uh y x=false):x=y:=by
 cases x<;>cases y<;>simp only[Uh,QA,Bool.true_eq_false,reduceCtorEq]at h h'
 ·congr 1;omega
 ·rename_i a b;have:=hV (as:=a.cps.toList) (bs:=b.cps.toList) h' h;cases a;cases b;simp only at this;rw[fm.mp this]
theorem vY:∀xs:Y AY,iu xs xs=false
 |[]=>rfl
 |x::xs=>by simp only[iu,QO];exact vY xs
theorem j5:∀{xs ys zs:Y AY},iu xs ys=true->iu ys zs=true->iu xs zs=true
 |[],[],_,h,_=>by cases h
 |[],_::_,[],_,h'=>by cases h'
 |[],_::_,_::_,_,_=>rfl
 |_::_,[],_,h,_=>by cases h
 |_::_,_::_,[],_,h'=>by cases h'
 |x::xs,y::ys,z::zs,h,h'=>by
  simp only[iu]at h h' ⊢;by_cases e1:x=y
  ·subst e1;rw[zk rfl]at h;by_cases e2:x=z
   ·subst e2;rw[zk rfl]at h' ⊢;exact j5 h h'
   ·rw[zv e2]at h' ⊢;exact h'
  ·rw[zv e1]at h;by_cases e2:y=z
   ·subst e2;rw[zv e1];exact h
   ·rw[zv e2]at h';have:=V0 h h';rw[zv (λe=>by subst e;rw[TZ]at this;cases this)];exact this
theorem vZ:∀{xs ys:Y AY},iu xs ys=false->iu ys xs=false->xs=ys
 |[],[],_,_=>rfl
 |[],_::_,h,_=>by cases h
 |_::_,[],_,h'=>by cases h'
 |x::xs,y::ys,h,h'=>by
  simp only[iu]at h h';by_cases e:x=y
  ·subst e;rw[zk rfl]at h h';rw[vZ h h']
  ·rw[zv e]at h;rw[zv (kX e)]at h';exact absurd (RY h h') e
def rT(xs ys:Y AY):Bool:=!iu ys xs
theorem qb(a b c:Y AY)(h:rT a b=true)(h':rT b c=true):rT a c=true:=by
 unfold rT at *
 simp only[qS]at *
 cases d:iu c a with
 |false=>rfl
 |true=>
  cases f:iu a b with
  |true=>rw[j5 d f]at h';cases h'
  |false=>
   have e:=vZ f h;subst e;rw[d]at h';cases h'
theorem qd(a b:Y AY):(rT a b||rT b a)=true:=by
 unfold rT;cases h:iu b a with
 |false=>rfl
 |true=>
  cases h':iu a b with
  |false=>rfl
  |true=>have:=j5 h h';rw[vY]at this;cases this
theorem wZ{a b:Y AY}(h:rT a b=true)(h':rT b a=true):a=b:=by
 unfold rT at *
 simp only[qS]at *
 exact vZ h' h
theorem wg{α:Type}{le:α->α->Prop}(d:∀a b,le a b->le b a->a=b):∀{l c:Y α},l.Perm c->l.Pairwise le->c.Pairwise le->l=c
 |[],c,h,_,_=>by rw[List.nil_perm.mp h]
 |a::l,[],h,_,_=>by cases List.perm_nil.mp h
 |a::l,b::c,h,p,p'=>by
  have e:a=b:=by
   have f:a∈b::c:=h.mem_iff.mp (zt ..);have g:b∈a::l:=h.mem_iff.mpr (zt ..);rcases bc.mp f with h1|h1
   ·exact h1
   ·rcases bc.mp g with h2|h2
    ·exact h2.symm
    ·exact d a b (Q4 p h2) (Q4 p' h1)
  subst e;rw[wg d ((gi a).mp h) (cq.mp p).2 (cq.mp p').2]
def yI(cJ:Y (Y AY)):Y (Y AY):=cJ.mergeSort rT
theorem Cy(cJ:Y (Y AY)):(yI cJ).Perm cJ:=Q2 ..
theorem OJ(cJ:Y (Y AY)):(yI cJ).Pairwise (λa b=>rT a b=true):=jI qb qd cJ
theorem Jr{out:Y (Y AY)}(hp:out.Perm cJ)(hs:out.Pairwise (λa b=>rT a b=true)):out=yI cJ:=wg (λ_ _=>wZ) (hp.trans (Cy cJ).symm) hs (OJ cJ)
def C8(cJ:Y (Y AY))(k:Y AY):Nat:=cJ.countP λu=>iu u k
theorem Js{α:Type}{p q:α->Bool}:∀{l:Y α},(∀x∈l,p x=true->q x=true)->(∃x∈l,p x=false/\q x=true)->l.countP p<l.countP q
 |[],_,⟨x,hx,_⟩=>by cases hx
 |a::l,h,⟨x,hx,h1,h2⟩=>by
  have le:l.countP p<=l.countP q:=gj λy b=>h y (zl _ b);rw[hZ,hZ];rcases bc.mp hx with rfl|hx
  ·rw[h1,h2];simp;omega
  ·have:=Js (λy b=>h y (zl _ b)) ⟨x,hx,h1,h2⟩;have c:=h a (zt ..);cases hp:p a with
   |true=>rw[c hp];simp;omega
   |false=>simp;omega
theorem Ek{a b:Y AY}(e:a∈cJ):decide (C8 cJ a<C8 cJ b)=iu a b:=by
 cases h:iu a b with
 |true=>
  refine zz (Js (λu _ c=>j5 c h) ⟨a,e,vY a,h⟩)
 |false=>
  refine Zl (gE.mpr (gj λu _ c=>?_));cases d:iu b a with
  |true=>exact j5 c d
  |false=>rw[vZ h d];exact c
def qD(h:A6)(ks:Y AY)(v:A0):Prop:=∃(a:A1) (o:AE) (AQ:Y A0) (n:Nat),v=.ref a/\h.get? a=Z o/\o.cls=.type "tuple" ∧ o.data=.seq AQ.toArray n/\Ks ks AQ
theorem qD.keep{h':A6}{v:A0}(q:qD h ks v)(k:∀c o,h.get? c=Z o->h'.get? c=Z o):qD h' ks v:=by
 obtain⟨a,o,AQ,n,e,g,c,d,p⟩:=q;exact⟨a,o,AQ,n,e,k _ _ g,c,d,p⟩
theorem No{k l:AY}{v:A0}(h:lA k v=true)(h':lA l v=true):k=l:=by
 rcases bR h with⟨i,t,rfl,rfl⟩|⟨x,t,rfl,rfl⟩
 ·rcases bR h' with⟨j,u,rfl,e⟩|⟨y,u,rfl,e⟩
  ·cases e;rfl
  ·cases e
 ·rcases bR h' with⟨j,u,rfl,e⟩|⟨y,u,rfl,e⟩
  ·cases e
  ·cases e;rfl
theorem Ks.inj:∀{ks a:Y AY} {AQ:Y A0},Ks ks AQ->Ks a AQ->ks=a
 |_,_,[],h,h'=>by cases h;cases h';rfl
 |_,_,v::AQ,h,h'=>by
  cases h with
  |cons p t=>cases h' with
   |cons p' t'=>rw[No p p',Ks.inj t t']
theorem qD.inj{h:A6}{ks i:Y AY}{v:A0}(q:qD h ks v)(k:qD h i v):ks=i:=by
 obtain⟨a,o,AQ,n,rfl,g,c,d,p⟩:=q;obtain⟨m,o',j,l,e,f,c',b,p'⟩:=k;cases e;rw[g]at f;cases f;rw[d]at b;injection b with e1 e2;have e3:AQ=j:=by simpa using congrArg gX e1
 subst e3;exact p.inj p'
theorem Ui{f:α->Sem β}:∀(xs:Y α) (ys:Y β) (Q:Y β->A2->Prop),AI (λx y=>∀(b:BG) (a:β->A2->Prop),a y s->A7 (A8 prog w) A (f x) a b s) xs ys->Q ys s->A7 (A8 prog w) A (xs.mapM f) Q E s:=by
 intro xs
 induction xs with
 |nil=>intro ys Q p h;cases p;rw[List.mapM_nil];exact zd h
 |cons x xs c=>
  intro ys Q p q;cases p with
  |cons h t=>
   rw[List.mapM_cons];exact zb (h _ _ (zb (c _ _ t (zd q))))
theorem Yw(v:A0):firstOfTuple' v=(do
  if(<-typeOf v) != .type "tuple" then return O
  return (<-Builtin.List.listItems v)[0]?):=rfl
theorem V1{k:AY}{v:A0}(q:qD s.heap (k::ks) v):∃u,lA k u=true/\∀(e:BG) (b:Y3 A0->A2->Prop),b (Z u) s->A7 (A8 prog w) A (firstOfTuple' v) b e s:=by
 obtain⟨a,o,AQ,n,rfl,g,c,d,p⟩:=q;cases p with
 |@cons _ u _ AQ hp t=>
  refine⟨u,hp,λe b h=>?_⟩;rw[Yw];refine zb (JS (T :="tuple") ⟨o,g,c⟩ ?_);rw[zv ()];exact zb (listItems_at g d (zd h))
theorem Yx{k:AY}(h:lA k u=true)(b:BG)(a:BG)(q:a (.type (if k.isLeft then "int" else "str")) s):A7 (A8 prog w) A (typeOf u) a b s:=by
 rcases bR h with⟨i,t,rfl,rfl⟩|⟨x,t,rfl,rfl⟩
 ·exact JS (typeIs_int s i t) q
 ·exact JS (typeIs_str s x t) q
theorem Jt{vs:Y A0}{Q:SortKind->A2->Prop}(j:AI (qD s.heap) cJ vs)(g:∀k∈cJ,k≠[])(C:∀k∈cJ,∀l∈cJ,Yu k l)(h2:1<=vs.length)(h:Q (tuples' true) s):A7 (A8 prog w) A (keyKind' vs.toArray) Q E s:=by
 have step:∀(cJ:Y (Y AY)) (vs:Y A0),AI (qD s.heap) cJ vs->(∀k∈cJ,k≠[])->∃us:Y A0,AI (λv u=>∀(c:BG) (a:Y3 A0->A2->Prop),a (Z u) s->A7 (A8 prog w) A (firstOfTuple' v) a c s) vs us/\AI (λ(k:Y AY) u=>∃x r,k=x::r/\lA x u=true) cJ us:=by
  intro cJ vs j
  induction j with
  |nil=>intro _;exact⟨[],.nil,.nil⟩
  |@cons k v cJ vs q t d=>
   intro g;obtain⟨us,p1,p2⟩:=d λk hk=>g k (zl _ hk);cases k with
   |nil=>exact absurd Y2 (g _ (zt ..))
   |cons x r=>
    obtain⟨u,f,p⟩:=V1 (prog:=prog) (w:=w) (A:=A) q;exact⟨u::us,.cons p p1,.cons ⟨x,r,rfl,f⟩ p2⟩
 obtain⟨us,p1,p2⟩:=step cJ vs j g;have B:us.length=vs.length:=(Paired.length p1).symm;have z:∀{l:Y A0} {n:Y A0},AI (λv u=>∀(c:BG) (a:Y3 A0->A2->Prop),a (Z u) s->A7 (A8 prog w) A (firstOfTuple' v) a c s) l n->AI (λv u=>∀(c:BG) (a:Y3 A0->A2->Prop),a u s->A7 (A8 prog w) A (firstOfTuple' v) a c s) l (n.map Z):=λh=>by
  induction h with
  |nil=>exact .nil
  |cons q t d=>exact .cons q d
 rw[keyKind'_eq,hI,map_eq_pure_bind];refine zb (zb (Ui vs (us.map Z) _ (z p1) (zd ?_)));have o:(us.map Z).toArray.all (·.isSome)=true:=by simp
 rw[zk o];refine zb (QP ?_);have y:(us.map Z).toArray.filterMap id=us.toArray:=by simp
 rw[y,oneTypeOnly'_eq,hI,map_eq_pure_bind];have ty:∀(cJ:Y (Y AY)) (us:Y A0),AI (λ(k:Y AY) u=>∃x r,k=x::r/\lA x u=true) cJ us->∃ts:Y A0,AI (λu t=>∀(c:BG) (a:BG),a t s->A7 (A8 prog w) A (typeOf u) a c s) us ts/\AI (λ(k:Y AY) t=>∃x r,k=x::r/\t=.type (if x.isLeft then "int" else "str")) cJ ts:=by
  intro cJ us hp
  induction hp with
  |nil=>exact⟨[],.nil,.nil⟩
  |@cons k u cJ us q t d=>
   obtain⟨ts,q1,q2⟩:=d;obtain⟨x,r,rfl,hx⟩:=q;exact⟨_::ts,.cons (λc a h=>Yx hx c a h) q1,.cons ⟨x,r,rfl,rfl⟩ q2⟩
 obtain⟨ts,q1,q2⟩:=ty cJ us p2;refine zb (zb (zb (Ui us ts _ q1 (zd ?_))));have lt:ts.length=vs.length:=by rw[<-Paired.length q1,B]
 cases q2 with
 |nil=>simp at lt;omega
 |@cons H J K i F D=>
  obtain⟨b,r,rfl,rfl⟩:=F;have same:∀t∈i,t=Value.type (if b.isLeft then "int" else "str"):=by
   have G:∀(cJ:Y (Y AY)) (ts:Y A0),AI (λ(k:Y AY) t=>∃x r,k=x::r/\t=Value.type (if x.isLeft then "int" else "str")) cJ ts->(∀k∈cJ,Yu (b::r) k)->∀t∈ts,t=Value.type (if b.isLeft then "int" else "str"):=by
    intro cJ ts hp
    induction hp with
    |nil=>intro _ t e;cases e
    |@cons k t cJ ts q _ d=>
     intro m u f;rcases bc.mp f with rfl|f
     ·obtain⟨x,I,rfl,rfl⟩:=q;have:=(m _ (zt ..)).1;cases b<;>cases x<;>first|rfl|cases this
     ·exact d (λk hk=>m k (zl _ hk)) u f
   exact G _ _ D λk hk=>C _ (zt ..) k (zl _ hk)
  have e0:(Value.type (if b.isLeft then "int" else "str")::i).toArray[0]?=Z (Value.type (if b.isLeft then "int" else "str")):=by simp
  have e1:((Value.type (if b.isLeft then "int" else "str")::i).toArray.all λx=>x==Value.type (if b.isLeft then "int" else "str"))=true:=by
   simp only[List.all_toArray,Qb];intro t e;rcases bc.mp e with rfl|e
   ·simp
   ·rw[same t e];simp
  rw[e0];simp only[e1,QO];refine zd (zd ?_);have e2:((Z (Value.type (if b.isLeft then "int" else "str"))).any λx=>x !=Value.type "tuple")=true:=by
   cases b with
   |inl _=>exact(by decide:((Z (Value.type "int")).any λx=>x !=Value.type "tuple")=true)
   |inr _=>exact(by decide:((Z (Value.type "str")).any λx=>x !=Value.type "tuple")=true)
  rw[e2];exact h
def Be(cJ:Y (Y AY))(vs:Y A0)(v:A0):Y AY:=match (vs.zip cJ).find? (λp=>p.1==v)with
 |some p=>p.2
 |none=>[]
theorem mO{h:A6}:∀{cJ:Y (Y AY)} {vs:Y A0},AI (qD h) cJ vs->∀v∈vs,Be cJ vs v∈cJ/\qD h (Be cJ vs v) v
 |_,_,.nil,v,hv=>by cases hv
 |k::cJ,u::vs,.cons q t,v,hv=>by
  unfold Be;rw[JO,fR];by_cases e:u=v
  ·subst e;simp only[beq_self_eq_true];exact⟨zt ..,q⟩
  ·have e':(u==v)=false:=by simpa using e
   simp only[e'];have b:v∈vs:=by
    rcases bc.mp hv with h|h
    ·exact absurd h.symm e
    ·exact h
   have a:=mO t v b;exact⟨zl _ a.1,a.2⟩
theorem wj{h:A6}:∀{cJ:Y (Y AY)} {vs:Y A0},AI (qD h) cJ vs->∀(K:A0->Y AY),(∀v∈vs,qD h (K v) v)->vs.map K=cJ
 |_,_,.nil,_,_=>rfl
 |k::cJ,v::vs,.cons q t,K,hK=>by
  rw[zw,(hK v (zt ..)).inj q,wj t K λu a=>hK u (zl _ a)]
theorem FT{h:A6}:∀{vs:Y A0} {K:A0->Y AY},(∀v∈vs,qD h (K v) v)->AI (qD h) (vs.map K) vs
 |[],_,_=>.nil
 |v::vs,K,hK=>.cons (hK v (zt ..)) (FT λu a=>hK u (zl _ a))
theorem O1{vs:Y A0}(i:AI (qD s.heap) cJ vs)(j:∀k∈cJ,∀l∈cJ,Yu k l):KC prog w A s (tuples' true) (λv=>C8 cJ (Be cJ vs v)) (pairsOf vs):=by
 intro E p q Q hp b h;rw[pairsOf_toList]at hp b;obtain⟨f,t1⟩:=mO i p.1 (mem_zip_self hp).2;obtain⟨m2,t2⟩:=mO i q.1 (mem_zip_self b).2;rw[Ek f]at h;have u:=j _ f _ m2;obtain⟨a,o,AQ,n,e,g,c,d,k⟩:=t1;obtain⟨B,o',z,y,e',t,c',m,x⟩:=t2;rw[e,e'];exact UP g d t m k x u h
theorem Yy{vs:Y A0}(a:AI (qD h) cJ vs){xs:Array Keyed}(hp:xs.Perm (pairsOf vs))(d:Up (λv=>C8 cJ (Be cJ vs v)) xs (pairsOf vs).size):AI (qD h) (yI cJ) (xs.map (·.2)).toList:=by
 have hl:xs.toList.Perm (vs.zip vs):=by rw[<-pairsOf_toList];exact cz.mp hp
 have c:∀p∈xs.toList,p.1=p.2/\p.1∈vs:=λp q=>mem_zip_self (hl.mem_iff.mp q);have e:(xs.map (·.2)).toList=xs.toList.map (·.1):=by
  rw[fq];exact kg λp q=>(c p q).1.symm
 have pv:(xs.toList.map (·.1)).Perm vs:=by
  have:=hl.map Prod.fst;rwa [h6 (zi _)]at this
 have g:yI cJ=(xs.toList.map (·.1)).map (Be cJ vs):=by
  refine(Jr ?_ ?_).symm
  ·have:=pv.map (Be cJ vs);rwa [wj a _ λv q=>(mO a v q).2]at this
  ·rw[dc];intro i j hi l f;have k:i<xs.size:=by simpa using hi
   have b:j<xs.size:=by simpa using l
   have u:=d i j (qv f) (by rw[<-hp.size_eq];exact b);unfold at_ at u;rw[getElem?_pos xs i k,getElem?_pos xs j b]at u;have m2:=(mO a xs[j].1 (c xs[j] (by simp)).2).1;simp only[js,kB];unfold rT;rw[<-Ek m2,Zl (gE.mpr u)];rfl
 rw[g,e];refine FT λv q=>(mO a v ?_).2;exact pv.mem_iff.mp q
end S1
namespace P1
open L2 S1
theorem FW{o:AE}{T:String}{vs:Y A0}{Q:Y A0->A2->Prop}(a:s.heap.get? l=Z o)(d:o.cls=.type T)(b:T ="list" ∨ T ="tuple")(hd:o.data=.seq vs.toArray n)(i:vs.length<=AA)(h:∀h' tk,s.heap.objs.size<=h'.objs.size->(∀c o,s.heap.get? c=Z o->h'.get? c=Z o)->Q vs { s with heap:=h',toks:=tk }):A7 (A8 prog w) A (collect (.ref l)) Q E s:=by
 unfold collect;refine zb (wpAny_runValue (codeAny_builtin entry_proto_collect' ?_));show A7 _ _ (newList [] >>= λq=>again (.builtin "list.__iadd__" ⟨[q,.ref l],[]⟩)) _ _ s;refine zb (yf (zd ⟨Code.quiet_builtin _ (by decide +kernel),codeAny_builtin entry_list_iadd' ?_⟩));show A7 _ _ (Builtin.List.listExtendWith (.ref s.heap.objs.size) (.ref l) (.ref s.heap.objs.size)) _ _ _;unfold Builtin.List.listExtendWith;have g1:(s.heap.push (seqObj "list" #[] 0)).get? l=Z o:=zg _ a;refine zb (JS (T:=T) ⟨o,g1,d⟩ ?_);have f:(Value.type T==Value.type "list" || Value.type T==Value.type "tuple")=true:=by rcases b with rfl|rfl<;>decide
 rw[zk (by rw[Bool.or_assoc,f];simp)];refine zb (listItems_at g1 hd (zb (listItems_at (xs:=#[]) (n:=0) (zS _ Y2) Y2 ?_)));rw[zv (by simp)];have g2:(s.heap.push (seqObj "list" #[] 0)).get? s.heap.objs.size=Z (seqObj "list" #[] 0):=zS _ rfl;refine zb (listUpdate_at (xs:=#[]) (n:=0) g2 Y2 (zd ?_) (qr _) (by show(#[]++vs.toArray).size<=AA+1;simp only[kq,zh,List.length_nil];omega));show A7 (A8 prog w) A (load s.heap.objs.size >>= _) Q E _;refine zb (wpAny_load (get?_update_seq g2 _) ?_);show A7 _ _ (pure ((#[]:Array A0)++vs.toArray).toList) Q E _;rw[show((#[]:Array A0)++vs.toArray).toList=vs by simp];refine zd (h _ s.toks ?_ λc g e=>?_)
 ·rw[hX,size_push'];exact Kx _
 ·rw[gT _ _ _ _ (ZI (zI e))];exact zg _ e
def GN:Dt->Y3 AY
 |.int i=>Z (.inl i)
 |.str x=>Z (.inr x)
 |_=>O
def Ju:Y Dt->Y3 (Y AY)
 |[]=>Z []
 |d::ds=>(GN d).bind λk=>(Ju ds).bind λks=>Z (k::ks)
def Cz:Dt->Y3 (Y AY)
 |.tup ds=>Ju ds
 |_=>O
def yJ:Y Dt->Y3 (Y (Y AY))
 |[]=>Z []
 |d::ds=>(Cz d).bind λk=>(yJ ds).bind λks=>Z (k::ks)
def dK:AY->Dt
 |.inl i=>.int i
 |.inr x=>.str x
def Bz(ks:Y AY):Dt:=.tup (ks.map dK)
theorem ND{k:AY}(h:GN d=Z k):d=dK k:=by
 cases d<;>cases h<;>rfl
theorem O2:∀{ds:Y Dt} {ks:Y AY},Ju ds=Z ks->ds=ks.map dK
 |[],_,h=>by cases h;rfl
 |d::ds,_,h=>by
  obtain⟨k,e1,h⟩:=AT h;obtain⟨ks,e2,h⟩:=AT h;cases h;rw[zw,ND e1,O2 e2]
theorem sX(h:Cz d=Z ks):d=Bz ks:=by
 cases d with
 |tup ds=>exact congrArg Dt.tup (O2 h)
 |_=>cases h
theorem w5:∀{ds:Y Dt} {cJ:Y (Y AY)},yJ ds=Z cJ->ds=cJ.map Bz
 |[],_,h=>by cases h;rfl
 |d::ds,_,h=>by
  obtain⟨k,e1,h⟩:=AT h;obtain⟨ks,e2,h⟩:=AT h;cases h;rw[zw,sX e1,w5 e2]
theorem WU{k:AY}{v:V}(h:AW K H (dK k) v):v=kV k:=by
 cases k with
 |inl i=>exact(show v=.int i by simpa only[dK,AW]using h)
 |inr x=>exact(show v=.str x/\x.length<=AA by simpa only[dK,AW]using h).1
theorem w6{K:B8}{H:Hp}:∀{ks:Y AY} {vs:Y V},aH K H (ks.map dK) vs->vs=ks.map kV
 |[],_,h=>by simp only[kF,aH]at h;exact h
 |k::ks,_,h=>by
  simp only[zw,aH]at h;obtain⟨v,r,rfl,h1,h2⟩:=h;rw[WU h1,w6 h2,zw]
theorem Yz(X:Cx):∀{us:Y A0},AX (ks.map kV) us->Ks ks us:=by
 induction ks with
 |nil=>intro us h;cases h;exact .nil
 |cons k ks a=>
  intro us h;cases h with
  |cons r t=>exact .cons (VZ (P:=X.prog) (w:=X.w) r) (a t)
theorem El{AN:Y (A1×AE)}{σ:L2.St}{H:Hp}{s:A2}(I:AU X AN σ H s):∀{cJ:Y (Y AY)} {vs:Y V} {AQ:Y A0},aH X.K H (cJ.map Bz) vs->AX vs AQ->AI (qD s.heap) cJ AQ
 |[],_,_,h,r=>by
  simp only[kF,aH]at h;subst h;cases r;exact .nil
 |k::cJ,_,_,h,r=>by
  simp only[zw,aH]at h;obtain⟨v,vs,rfl,h1,h2⟩:=h;cases r with
  |cons f i=>
   refine .cons ?_ (El I h2 i);simp only[Bz,AW]at h1;obtain⟨a,j,rfl,sq,e⟩:=h1;obtain⟨AQ,b,⟨o,g,c,n,d⟩,_⟩:=I.tuple sq;cases f;rw[w6 e]at b;exact⟨a,o,AQ,n,rfl,g,c,d,Yz X b⟩
theorem Jv{AN:Y (A1×AE)}{σ:L2.St}{H:Hp}{s:A2}(I:AU X AN σ H s){cJ:Y (Y AY)}{vs:Y V}{AQ:Y A0}(h:aH X.K H (cJ.map Bz) vs)(r:AX vs AQ):∀{c:Y (Y AY)} {out:Y A0},AI (qD s.heap) c out->(∀u∈out,u∈AQ)->∃zs,AX zs out/\aH X.K H (c.map Bz) zs
 |_,_,.nil,_=>⟨[],.nil,aH.nil⟩
 |l::c,u::out,.cons q t,hm=>by
  obtain⟨zs,z1,z2⟩:=Jv I h r t λx hx=>hm x (zl _ hx);have d:∀(cJ:Y (Y AY)) (vs:Y V) (AQ:Y A0),aH X.K H (cJ.map Bz) vs->AX vs AQ->u∈AQ->∃v,B0 v u/\AW X.K H (Bz l) v:=by
   intro cJ
   induction cJ with
   |nil=>
    intro vs AQ h r a;simp only[kF,aH]at h;subst h;cases r;cases a
   |cons k cJ i=>
    intro vs AQ h r a;simp only[zw,aH]at h;obtain⟨v,vs,rfl,h1,h2⟩:=h;cases r with
    |@cons _ j _ _ b g=>
     rcases bc.mp a with rfl|a
     ·have e:k=l:=by
       have:=El I (cJ:=[k]) (vs:=[v]) (AQ:=[u]) (by simp only[zw,kF];exact aH.cons h1 aH.nil) (.cons b .nil);cases this with
       |cons f _=>exact f.inj q
      subst e;exact⟨v,b,h1⟩
     ·exact i vs _ h2 g a
  obtain⟨v,b,h1⟩:=d cJ vs AQ h r (hm u (zt ..));exact⟨v::zs,.cons b z1,by rw[zw];exact aH.cons h1 z2⟩
def KD(k l:Y AY):Bool:=((k.zip l).all λp=>OD p.1 p.2)
theorem Bw:∀{k l:Y AY},KD k l=true->Yu k l
 |[],_,_=>by simp[Yu]
 |_::_,[],_=>by simp[Yu]
 |x::k,y::l,h=>by
  unfold KD at h;rw[JO,kc,Zs]at h;exact⟨h.1,Bw h.2⟩
theorem KH{v:V}(h:bf K H b v)(e:um b=Z ds):∃a vs,v=.ref a/\(qC K H a vs\/tX K H a vs)/\aH K H ds vs:=by
 cases b with
 |z d=>
  cases d<;>first|(cases e;done)|skip
  ·cases e;simp only[bf,AW]at h;obtain⟨a,vs,e,q,r⟩:=h;exact⟨a,vs,e,.inr q,r⟩
  ·cases e;simp only[bf,AW]at h;obtain⟨a,vs,e,q,r⟩:=h;exact⟨a,vs,e,.inl q.sq,r⟩
 |l c=>cases e;obtain⟨a,vs,e,q,r⟩:=h;exact⟨a,vs,e,.inl (.inl q),r⟩
 |o c=>cases e;obtain⟨a,vs,e,q,r⟩:=h;exact⟨a,vs,e,.inl (.inl (.inl q)),r⟩
 |n _=>cases e
 |m _ _=>cases e
end P1
namespace S6
def Th(xs:Array Nat):Prop:=∀i j,i<j->j<xs.size->xs.getD i 0<xs.getD j 0
def It(h:A6)(it a:A1)(first:A0)(i n ep:Nat):Prop:=∃o,h.get? it=Z o/\o.cls=.type "set_iterator" ∧ o.data=.fields #[first,.int (i:Int) 0,.ref a,.int (n:Int) 0,.int (ep:Int) 0]
section
variable{ep:Nat}{es:Array (Int×A0)}{t:SetTable}
end
end S6
namespace S6
open P1
section
variable{ep:Nat}{es:Array (Int×A0)}{t:SetTable}
end
section
variable{R:Result->A2->Prop}{I:A1}{wr:Y A1}{P:Nat->A0->Prop}{St:Nat->A2->Prop}{C:A6->Y κ->Prop}{val:Nat->κ}
end
end S6
namespace S6
open PySem
structure Tb (t:SetTable):Prop where
 mask:t.mask=7\/t.mask=31\/t.mask=127
 dum:t.dummies=#[]
 rise:Th t.place
 bd:∀j:Nat,j∈t.place->j<=t.mask
 full:t.place.size<=t.mask
def Pc(a:Nat)(p:SetTable.Probe):SetTable.Probe:=
 if p.more>0 then { p with j:=p.j+1,more:=p.more-1 }else
 { p with j:=(di a p.i p.perturb).1,more:=ip a (di a p.i p.perturb).1-(di a p.i p.perturb).1,i:=(di a p.i p.perturb).1,perturb:=(di a p.i p.perturb).2 }
def XZ(a i perturb:Nat):SetTable.Probe:={ j:=i,more:=ip a i-i,i,perturb,dummy:=O }
def Hc(a:Nat)(h:Int):Nat->SetTable.Probe
 |0=>XZ a (eK h%(a+1)) (eK h)
 |n+1=>Pc a (Hc a h n)
def nx(M i:Nat):Nat:=(i*5+1)%M
def lp(a:Nat)(h:Int):Nat->Nat×Nat
 |0=>(eK h%(a+1),eK h)
 |l+1=>di a (lp a h l).1 (lp a h l).2
structure Tok (t:SetTable) (es:Array (Int×Value)):Prop extends Tb t where
 size:t.place.size=es.size
 reach:∀(i j:Nat) e,t.place[i]?=some j->es[i]?=some e->∃n,n<10*SetTable.turns t.mask/\(Hc t.mask e.1 n).j=j/\∀m,m<n->(Hc t.mask e.1 m).j∈t.place
theorem Ku{α β:Type}{f:α->Y3 β}{g:α->β}:∀{xs:Y α},(∀x∈xs,f x=Z (g x))->xs.filterMap f=xs.map g
 |[],_=>rfl
 |x::xs,h=>by
  rw[kL,h x (zt ..),zw,Ku λy a=>h y (zl _ a)]
end S6
namespace S6
open P1 L2
abbrev aT(prog:A3)(w:A4)(ks:Y AY):Int:=tupleKeyHash (lB prog w) ks
def TE(prog:A3)(w:A4)(h:A6)(z:Y AY×A1)(e:Int×A0):Prop:=e=(aT prog w z.1,.ref z.2)/\IsTupleKey (lB prog w) h z.1 z.2
end S6
namespace S1
open L2
end S1
namespace S6
end S6
namespace S1
def FC:Bool->Keyed->Array Keyed->Nat->Nat->Nat->StateT SortSt Sem (Y3 Nat):=sortPriv% PySem.Builtin.gallop
def L8:Array Keyed->Array Keyed->StateT SortSt Sem (Array Keyed):=sortPriv% PySem.Builtin.mergeLo
def IS:Array Keyed->Array Keyed->StateT SortSt Sem (Array Keyed):=sortPriv% PySem.Builtin.mergeHi
def B5:Nat->StateT SortSt Sem Unit:=sortPriv% PySem.Builtin.setMinGallop
section
variable{b:Array Keyed}
theorem O4{p q:Keyed}{st:SortSt}{Q:Y3 Bool->SortSt->Prop}(c:KC prog w A s kd rk b)(hk:kindOf st=kd)(a:p∈b.toList)(d:q∈b.toList)(h:Q (Z (decide (rk p.1<rk q.1))) st):wpS (A8 prog w) A E s (lt' p q) Q st:=by
 rw[lt'_eq];refine AL (wpS_get ?_);rw[hk];exact AL (wpS_lift (wpAny_attempt (c _ p q _ a d ⟨rfl,wpS_pure h⟩)))
theorem zO{xs:Array Keyed}{st:SortSt}{Q:Keyed->SortSt->Prop}{p:Keyed}(e:xs[i]?=Z p)(h:Q p st):wpS (A8 prog w) A E s (elem' xs i) Q st:=by
 rw[elem'_eq,e];exact wpS_pure h
theorem Uj{lo hi:Nat}{P:Nat->Prop}[DecidablePred P]{st:SortSt}{f:Nat->Y3 β×Nat×Nat->StateT SortSt Sem (ForInStep (Y3 β×Nat×Nat))}{Q:Y3 β×Nat×Nat->SortSt->Prop}(mono:∀i j,i<=j->j<n->P j->P i)(o:∀x lo hi,lo<=hi->hi<=n->∀d:ForInStep (Y3 β×Nat×Nat)->SortSt->Prop,(lo>=hi->d (.done (O,lo,hi)) st)->(lo<hi->P (lo+(hi-lo) / 2)->d (.yield (O,lo+(hi-lo) / 2+1,hi)) st)->(lo<hi->¬ P (lo+(hi-lo) / 2)->d (.yield (O,lo,lo+(hi-lo) / 2)) st)->wpS (A8 prog w) A E s (f x (O,lo,hi)) d st)(h1:lo<=hi)(h2:hi<=n)(g:∀i,i<lo->P i)(l:∀i,hi<=i->i<n->¬ P i)(h:∀k,k<=n->(∀i,i<k->P i)->(∀i,k<=i->i<n->¬ P i)->Q (O,k,k) st):wpS (A8 prog w) A E s (forIn [0:n] (O,lo,hi) f) Q st:=by
 refine wpS_forRange (I:=λx c t=>t=st/\∃lo hi,c=(O,lo,hi)/\lo<=hi/\hi<=n/\hi-lo<=n-x/\(∀i,i<lo->P i)/\∀i,hi<=i->i<n->¬ P i) ?_ ?_ ⟨rfl,lo,hi,rfl,h1,h2,by omega,g,l⟩
 ·rintro x c t _ hx ⟨rfl,lo,hi,rfl,a1,a2,m,a,b⟩;refine o x lo hi a1 a2 _ (λq=>?_) (λlt p=>?_) λlt p=>?_
  ·have e:hi=lo:=by omega
   subst e;exact h hi a2 a b
  ·exact⟨rfl,_,_,rfl,by omega,a2,by omega,λi u=>mono i _ () () p,b⟩
  ·exact⟨rfl,_,_,rfl,by omega,by omega,by omega,a,λi q1 q2 z=>p (mono _ i q1 q2 z)⟩
 ·rintro c t ⟨rfl,lo,hi,rfl,a1,a2,m,a,b⟩;have e:hi=lo:=by omega
  subst e;exact h hi a2 a b
theorem YB{left:Bool}{d:Keyed}{xs:Array Keyed}{base a:Nat}{st:SortSt}{Q:Y3 Nat->SortSt->Prop}(C:KC prog w A s kd rk b)(hk:kindOf st=kd)(mk:d∈b.toList)(J:∀i,i<n->∃p,xs[base+i]?=Z p/\p∈b.toList)(F:a<n)(L:∀i j,i<=j->j<n->at_ rk xs (base+i)<=at_ rk xs (base+j))(h:∀k,k<=n->(∀i,i<k->if left=true then at_ rk xs (base+i)<rk d.1 else at_ rk xs (base+i)<=rk d.1)->(∀i,k<=i->i<n->if left=true then rk d.1<=at_ rk xs (base+i)else rk d.1<at_ rk xs (base+i))->Q (Z k) st):wpS (A8 prog w) A E s (FC left d xs base n a) Q st:=by
 let P:Nat->Prop:=λi=>if left=true then at_ rk xs (base+i)<rk d.1 else at_ rk xs (base+i)<=rk d.1
 have M:∀i,Decidable (P i):=λi=>by
  show Decidable (if left=true then _ else _);cases left
  ·exact Nat.decLe _ _
  ·exact Nat.decLt _ _
 have mono:∀i j,i<=j->j<n->P j->P i:=λi j G K p=>by
  have:=L i j G K;cases left
  ·have p:at_ rk xs (base+j)<=rk d.1:=p;show at_ rk xs (base+i)<=rk d.1;omega
  ·have p:at_ rk xs (base+j)<rk d.1:=p;show at_ rk xs (base+i)<rk d.1;omega
 have y:∀{i:Nat} {Q:Y3 Bool->SortSt->Prop},i<n->Q (Z (decide (P i))) st->wpS (A8 prog w) A E s (do let x <-elem' xs (base+i);if left=true then lt' x d else do let z <-lt' d x;pure (z.map (!·))) Q st:=λ{i Q} hi hq=>by
  obtain⟨p,e,m⟩:=J i hi;have ea:at_ rk xs (base+i)=rk p.1:=by unfold at_;rw[e]
  refine AL (zO e ?_);cases left
  ·rw[zv ()];refine AL (O4 C hk mk m (wpS_pure ?_));have:(Option.map (λx=>!x) (Z (decide (rk d.1<rk p.1))))=Z (decide (P i)):=by
    show Z (!decide _)=_;refine congrArg Z ?_;rw[<-decide_not];exact decide_eq_decide.mpr (by show _↔at_ rk xs (base+i)<=rk d.1;omega)
   rw[this];exact hq
  ·rw[zk rfl];refine O4 C hk m mk ?_;have:decide (rk p.1<rk d.1)=decide (P i):=decide_eq_decide.mpr (by show _↔at_ rk xs (base+i)<rk d.1;rw[ea]);rw[this];exact hq
 have D:∀k,k<=n->(∀i,i<k->P i)->(∀i,k<=i->i<n->¬ P i)->Q (Z k) st:=λk v u B=>h k v u λi q1 q2=>by
  have:=B i q1 q2;cases left
  ·have this:¬ at_ rk xs (base+i)<=rk d.1:=this;show rk d.1<at_ rk xs (base+i);omega
  ·have this:¬ at_ rk xs (base+i)<rk d.1:=this;show rk d.1<=at_ rk xs (base+i);omega
 clear h;unfold FC;refine AL (y F ?_);dsimp only;by_cases p0:P a
 ·rw[zz p0,zk rfl];refine AL (wpS_mono (wpS_forRange (I:=λx c t=>t=st/\∃l o,c=(O,l,o)/\x+1<=o/\l<o/\a+l<n/\P (a+l)) (Q:=λc t=>t=st/\∃l o,c=(O,l,o)/\a+l+1<=a+min o (n-a)/\a+min o (n-a)<=n/\(∀i,i<a+l+1->P i)/\∀i,a+min o (n-a)<=i->i<n->¬ P i) ?_ ?_ ⟨rfl,0,1,rfl,by omega,by omega,by omega,p0⟩) ?_)
  ·rintro x c t _ hx ⟨rfl,l,o,rfl,a1,a2,q,f⟩;dsimp only;by_cases g:o>=n-a
   ·rw[zk g];exact wpS_pure ⟨rfl,l,o,rfl,by omega,by omega,λi hi=>mono i _ () q f,λi q1 q2=>by omega⟩
   ·rw[zv g];refine AL (y () ?_);dsimp only;by_cases p:P (a+o)
    ·rw[zz p,zv ()];exact wpS_pure ⟨rfl,o,2*o+1,rfl,by omega,by omega,by omega,p⟩
    ·rw[Zl p,zk ()];exact wpS_pure ⟨rfl,l,o,rfl,by omega,by omega,λi hi=>mono i _ () q f,λi q1 q2 z=>p (mono _ i () q2 z)⟩
  ·rintro c t ⟨rfl,l,o,rfl,a1,a2,q,f⟩;exact⟨rfl,l,o,rfl,by omega,by omega,λi hi=>mono i _ () q f,λi q1 q2=>by omega⟩
  rintro c t ⟨rfl,l,o,rfl,a1,a2,q,f⟩;dsimp only;refine AL (Uj mono ?_ a1 a2 q f λk v u B=>wpS_pure (D k v u B));intro x lo hi b1 b2 H g1 g2 g3;dsimp only;by_cases g:lo>=hi
  ·rw[zk g];exact wpS_pure (g1 g)
  ·rw[zv g];refine AL (y () ?_);dsimp only;by_cases p:P (lo+(hi-lo) / 2)
   ·rw[zz p,zk rfl];exact wpS_pure (g2 () p)
   ·rw[Zl p,zv ()];exact wpS_pure (g3 () p)
 ·rw[Zl p0,zv ()];refine AL (wpS_mono (wpS_forRange (I:=λx c t=>t=st/\∃l o,c=(O,l,o)/\x+1<=o/\l<o/\l<=a/\¬ P (a-l)) (Q:=λc t=>t=st/\∃l o,c=(O,l,o)/\a+1-min o (a+1)<=a-l/\a-l<=n/\(∀i,i<a+1-min o (a+1)->P i)/\∀i,a-l<=i->i<n->¬ P i) ?_ ?_ ⟨rfl,0,1,rfl,by omega,by omega,by omega,p0⟩) ?_)
  ·rintro x c t _ hx ⟨rfl,l,o,rfl,a1,a2,q,f⟩;dsimp only;by_cases g:o>=a+1
   ·rw[zk g];exact wpS_pure ⟨rfl,l,o,rfl,by omega,by omega,λi hi=>by omega,λi q1 q2 z=>f (mono _ i q1 q2 z)⟩
   ·rw[zv g];refine AL (y () ?_);dsimp only;by_cases p:P (a-o)
    ·rw[zz p,zk rfl];exact wpS_pure ⟨rfl,l,o,rfl,by omega,by omega,λi hi=>mono i _ () () p,λi q1 q2 z=>f (mono _ i q1 q2 z)⟩
    ·rw[Zl p,zv ()];exact wpS_pure ⟨rfl,o,2*o+1,rfl,by omega,by omega,by omega,p⟩
  ·rintro c t ⟨rfl,l,o,rfl,a1,a2,q,f⟩;exact⟨rfl,l,o,rfl,by omega,by omega,λi hi=>by omega,λi q1 q2 z=>f (mono _ i q1 q2 z)⟩
  rintro c t ⟨rfl,l,o,rfl,a1,a2,q,f⟩;dsimp only;refine AL (Uj mono ?_ a1 a2 q f λk v u B=>wpS_pure (D k v u B));intro x lo hi b1 b2 H g1 g2 g3;dsimp only;by_cases g:lo>=hi
  ·rw[zk g];exact wpS_pure (g1 g)
  ·rw[zv g];refine AL (y () ?_);dsimp only;by_cases p:P (lo+(hi-lo) / 2)
   ·rw[zz p,zk rfl];exact wpS_pure (g2 () p)
   ·rw[Zl p,zv ()];exact wpS_pure (g3 () p)
end
section
variable(le:Keyed->Keyed->Prop)
structure Mg (W out xs ys:List Keyed):Prop where
 pm:(out++xs++ys).Perm W
 so:out.Pairwise le
 lo:∀x∈out,∀y∈xs++ys,le x y
 sx:xs.Pairwise le
 sy:ys.Pairwise le
variable{le}{W out xs ys:Y Keyed}
theorem Mg.YC{x:Keyed}(h:Mg le W out (x::xs) ys)(l:∀y∈ys,le x y):Mg le W (out++[x]) xs ys:=by
 have e:=cq.mp h.sx;refine⟨by have:=h.pm;simpa using this,cw.mpr ⟨h.so,fE ..,λa d c b=>?_⟩,λa d c b=>?_,e.2,h.sy⟩
 ·rw[cf.mp b];exact h.lo a d x (by simp)
 ·rcases cb.mp d with q|q
  ·exact h.lo a q c (by simp at b ⊢;rcases b with z|z<;>simp[z])
  ·rw[cf.mp q];rcases cb.mp b with z|z
   ·exact e.1 c z
   ·exact l c z
theorem Mg.YD{y:Keyed}(h:Mg le W out xs (y::ys))(l:∀x∈xs,le y x):Mg le W (out++[y]) xs ys:=by
 have e:=cq.mp h.sy;refine⟨List.Perm.trans ?_ h.pm,cw.mpr ⟨h.so,fE ..,λa d c b=>?_⟩,λa d c b=>?_,h.sx,e.2⟩
 ·rw[ZE,ZE,ZE];refine List.Perm.append_left _ ?_;show(y::(xs++ys)).Perm (xs++y::ys);exact h9.symm
 ·rw[cf.mp b];exact h.lo a d y (by simp)
 ·rcases cb.mp d with q|q
  ·exact h.lo a q c (by simp at b ⊢;rcases b with z|z<;>simp[z])
  ·rw[cf.mp q];rcases cb.mp b with z|z
   ·exact l c z
   ·exact e.1 c z
theorem Mg.KJ:∀{zs out:Y Keyed},Mg le W out (zs++xs) ys->(∀z∈zs,∀y∈ys,le z y)->Mg le W (out++zs) xs ys
 |[],out,h,_=>by rw[Qr];exact h
 |z::zs,out,h,l=>by
  have:=Mg.KJ (h.YC (xs:=zs++xs) (l z (by simp))) λa b=>l a (by simp[b]);rwa [ZE]at this
theorem Mg.KN:∀{zs out:Y Keyed},Mg le W out xs (zs++ys)->(∀z∈zs,∀x∈xs,le z x)->Mg le W (out++zs) xs ys
 |[],out,h,_=>by rw[Qr];exact h
 |z::zs,out,h,l=>by
  have:=Mg.KN (h.YD (ys:=zs++ys) (l z (by simp))) λa b=>l a (by simp[b]);rwa [ZE]at this
theorem Mg.aeU(h:Mg le W out xs []):(out++xs).Perm W/\(out++xs).Pairwise le:=
 ⟨by have:=h.pm;simpa using this,cw.mpr ⟨h.so,h.sx,λa b c d=>h.lo a b c (by simpa using d)⟩⟩
theorem Mg.aeV(h:Mg le W out [] ys):(out++ys).Perm W/\(out++ys).Pairwise le:=
 ⟨by have:=h.pm;simpa using this,cw.mpr ⟨h.so,h.sy,λa b c d=>h.lo a b c (by simpa using d)⟩⟩
theorem Mg.ahl(h:Mg le W out xs ys)(l:∀y∈ys,∀x∈xs,le y x):(out++ys++xs).Perm W/\(out++ys++xs).Pairwise le:=by
 have h2:Mg le W (out++ys) xs []:=Mg.KN (zs:=ys) (ys:=[]) (by rw[Qr];exact h) l;exact h2.aeU
end
abbrev Sm(st t:SortSt):Prop:=kindOf t=kindOf st/\failedOf t=failedOf st/\AM t=AM st/\pendingOf t=pendingOf st
theorem sY{x:Array Keyed}(h:z∈x.toList.drop i):∃j,i<=j/\∃h:j<x.size,x[j]=z:=by
 obtain⟨n,a,e⟩:=Q3 h;rw[JY]at e;rw[qc]at a;exact⟨i+n,by omega,by simp at a;omega,e⟩
theorem FZ(x:Array Keyed)(i k:Nat):(x.extract i (i+k)).toList=(x.toList.drop i).take k:=by
 rw[ka,ja,fF]
theorem xg(x:Array Keyed)(i:Nat):(x.extract i).toList=x.toList.drop i:=by
 rw[ka,ja,ZY (by simp)]
theorem Uk{x:Array Keyed}(h:z∈(x.extract i (i+k)).toList):∃j,i<=j/\j<i+k/\∃h:j<x.size,x[j]=z:=by
 rw[FZ]at h;obtain⟨n,a,e⟩:=Q3 h;rw[JU,JY]at e;rw[ZT,qc]at a;exact⟨i+n,by omega,by omega,by simp at a;omega,e⟩
theorem C4{x:Array Keyed}(h:i<x.size):x.toList.drop i=x[i]::x.toList.drop (i+1):=K2 (by simpa using h)
theorem O5(x:Array Keyed)(i k:Nat):x.toList.drop i=(x.extract i (i+k)).toList++x.toList.drop (i+k):=by
 rw[FZ,<-List.drop_drop,qi]
theorem CG{x:Array Keyed}(h:i<x.size):at_ rk x i=rk x[i].1:=by unfold at_;rw[getElem?_pos x i h]
section
variable{b:Array Keyed}
abbrev Le(rk:A0->Nat):Keyed->Keyed->Prop:=λp q=>rk p.1<=rk q.1
abbrev Rt(rk:A0->Nat)(W:Y Keyed)(r:Array Keyed):Prop:=r.toList.Perm W/\r.toList.Pairwise (Le rk)
theorem yg{x:Array Keyed}(h:x.toList.Pairwise (Le rk))(b:i<=j)(a:j<x.size):rk x[i].1<=rk x[j].1:=by
 by_cases e:i=j
 ·subst e;exact zi _
 ·have:=dc.mp h i j (by simp;omega) (by simpa using a) ();simpa using this
section
variable{W:Y Keyed}{x y:Array Keyed}
abbrev Mo(rk:A0->Nat)(W:Y Keyed)(x y out:Array Keyed)(i j:Nat):Prop:=Mg (Le rk) W out.toList (x.toList.drop i) (y.toList.drop j)
theorem Mo.pX(h:Mo rk W x y out i j)(hi:i<x.size)(l:∀k (q:k<y.size),j<=k->rk x[i].1<=rk y[k].1):Mo rk W x y (out.push x[i]) (i+1) j:=by
 unfold Mo at *
 rw[C4 hi]at h;rw[ko];exact h.YC λz b=>by
  obtain⟨k,a,c,rfl⟩:=sY b;exact l k c a
theorem Mo.pY(h:Mo rk W x y out i j)(b:j<y.size)(l:∀k (q:k<x.size),i<=k->rk y[j].1<=rk x[k].1):Mo rk W x y (out.push y[j]) i (j+1):=by
 unfold Mo at *
 rw[C4 b]at h;rw[ko];exact h.YD λz c=>by
  obtain⟨k,a,d,rfl⟩:=sY c;exact l k d a
theorem Mo.pXs(h:Mo rk W x y out i j)(l:∀a (p:a<x.size),i<=a->a<i+n->∀k (q:k<y.size),j<=k->rk x[a].1<=rk y[k].1):Mo rk W x y (out++x.extract i (i+n)) (i+n) j:=by
 unfold Mo at *
 rw[O5 x i n]at h;rw[Zp];exact h.KJ λz g c e=>by
  obtain⟨a,a1,a2,f,rfl⟩:=Uk g;obtain⟨k,b,d,rfl⟩:=sY e;exact l a f a1 a2 k d b
theorem Mo.pYs(h:Mo rk W x y out i j)(l:∀a (p:a<y.size),j<=a->a<j+n->∀k (q:k<x.size),i<=k->rk y[a].1<=rk x[k].1):Mo rk W x y (out++y.extract j (j+n)) i (j+n):=by
 unfold Mo at *
 rw[O5 y j n]at h;rw[Zp];exact h.KN λz g c e=>by
  obtain⟨a,a1,a2,f,rfl⟩:=Uk g;obtain⟨k,b,d,rfl⟩:=sY e;exact l a f a1 a2 k d b
theorem Mo.zP(h:Mo rk W x y out i j)(e:(j==y.size)=true):Rt rk W (out++x.extract i++y.extract j):=by
 have e:j=y.size:=by simpa using e
 have a:y.toList.drop j=[]:=Kb (by simp;omega);unfold Mo at h;rw[a]at h;unfold Rt;rw[Zp,Zp,xg,xg,a,Qr];exact h.aeU
theorem Mo.YF(h:Mo rk W x y out i j)(e:(i==x.size)=true):Rt rk W (out++x.extract i++y.extract j):=by
 have e:i=x.size:=by simpa using e
 have a:x.toList.drop i=[]:=Kb (by simp;omega);unfold Mo at h;rw[a]at h;unfold Rt;rw[Zp,Zp,xg,xg,a,Qr];exact h.aeV
theorem Mo.last(h:Mo rk W x y out i j)(e:(i+1==x.size)=true)(l:∀k (q:k<y.size) (z:x.size-1<x.size),rk y[k].1<=rk x[x.size-1].1):Rt rk W (out++y.extract j++x.extract i):=by
 have e:i+1=x.size:=by simpa using e
 unfold Rt;rw[Zp,Zp,xg,xg];refine Mg.ahl h λc b z d=>?_;obtain⟨k,g,f,rfl⟩:=sY b;obtain⟨a,a1,a2,rfl⟩:=sY d;have:a=x.size-1:=by omega
 subst this;exact l k f a2
theorem KQ{g:Nat}{Q:Unit->SortSt->Prop}(h:∀t',Sm t t'->Q ⟨⟩ t'):wpS (A8 prog w) A E s (B5 g) Q t:=by
 unfold B5;exact wpS_modify (h _ ⟨rfl,rfl,rfl,rfl⟩)
theorem Sm.tr{u v:SortSt}(h:Sm t u)(h':Sm u v):Sm t v:=⟨h'.1.trans h.1,h'.2.1.trans h.2.1,h'.2.2.1.trans h.2.2.1,h'.2.2.2.trans h.2.2.2⟩
theorem Em{left:Bool}{d:Keyed}{z:Array Keyed}{e:Nat}{Q:Y3 Nat->SortSt->Prop}(l:KC prog w A s kd rk b)(hk:kindOf t=kd)(mk:d∈b.toList)(m:∀p∈z.toList,p∈b.toList)(sz:z.toList.Pairwise (Le rk))(u:i+n<=z.size)(f:e<n)(h:∀k,k<=n->(∀a (q:a<z.size),i<=a->a<i+k->if left=true then rk z[a].1<rk d.1 else rk z[a].1<=rk d.1)->(∀a (q:a<z.size),i+k<=a->a<i+n->if left=true then rk d.1<=rk z[a].1 else rk d.1<rk z[a].1)->Q (Z k) t):wpS (A8 prog w) A E s (FC left d z i n e) Q t:=by
 refine YB (rk:=rk) l hk mk (λa x=>⟨z[i+a]'(),getElem?_pos z _ (),m _ (by simp)⟩) f (λa c v y=>?_) λk g j o=>h k g (λa q q1 q2=>?_) λa q q1 q2=>?_
 ·rw[CG (show i+a<z.size by omega),CG (show i+c<z.size by omega)];exact yg sz () _
 ·have:=j (a-i) ();rw[show i+(a-i)=a by omega,CG q]at this;exact this
 ·have:=o (a-i) () ();rw[show i+(a-i)=a by omega,CG q]at this;exact this
theorem UO{st:SortSt}{Q:Array Keyed->SortSt->Prop}(J:KC prog w A s kd rk b)(hk:kindOf st=kd)(mx:∀p∈x.toList,p∈b.toList)(my:∀p∈y.toList,p∈b.toList)(F:x.toList.Pairwise (Le rk))(G:y.toList.Pairwise (Le rk))(hx:0<x.size)(hy:0<y.size)
  (first:∀k (q:k<x.size),rk y[0].1<=rk x[k].1) (last:∀k (q:k<y.size) (z:x.size-1<x.size),rk y[k].1<=rk x[x.size-1].1)
  (h:∀r t,Sm st t->Rt rk (x.toList++y.toList) r->Q r t):wpS (A8 prog w) A E s (L8 x y) Q st:=by
 have ex:∀{i:Nat} {t:SortSt} {Q:Keyed->SortSt->Prop} (hi:i<x.size),Q x[i] t->wpS (A8 prog w) A E s (elem' x i) Q t:=λhi P=>zO (getElem?_pos x _ hi) P;have D:∀{i:Nat} {t:SortSt} {Q:Keyed->SortSt->Prop} (hi:i<y.size),Q y[i] t->wpS (A8 prog w) A E s (elem' y i) Q t:=λhi P=>zO (getElem?_pos y _ hi) P;have a4:∀{i:Nat} (hi:i<x.size),x[i]∈b.toList:=λhi=>mx _ (by simp);have a1:∀{i:Nat} (hi:i<y.size),y[i]∈b.toList:=λhi=>my _ (by simp);have a6:∀r t,Sm st t->Rt rk (x.toList++y.toList) r->Q r t:=h;unfold L8;refine AL (wpS_lift (QP ⟨rfl,?_⟩));dsimp only;refine AL (D hy ?_);have M0:Mo rk (x.toList++y.toList) x y #[] 0 0:=⟨by simp,by simp,λa C=>(by cases C),F,G⟩;have M1:=M0.pY hy λk q _=>first k q;rw[show(#[]:Array Keyed).push y[0]=#[y[0]] from rfl]at M1;by_cases c1:(1==y.size)=true
 ·rw[zk c1];exact wpS_pure (h _ _ ⟨rfl,rfl,rfl,rfl⟩ (M1.zP c1))
 rw[zv c1];by_cases c2:(0+1==x.size)=true
 ·rw[zk c2];exact wpS_pure (h _ _ ⟨rfl,rfl,rfl,rfl⟩ (M1.last c2 last))
 rw[zv c2];have n1:1<y.size:=by
  have:¬ 1=y.size:=by simpa using c1
  omega
 have n2:0+1<x.size:=by
  have:¬ 0+1=x.size:=by simpa using c2
  omega
 refine AL (wpS_get ?_);refine AL (wpS_mono (wpS_forRange (I:=λn c t=>Sm st t/\∃out i j g,c=(O,out,i,j,g)/\Mo rk (x.toList++y.toList) x y out i j/\i+1<x.size/\j<y.size/\n+1<=i+j) (Q:=λc t=>Sm st t/\∃r c',c=(Z r,c')/\Rt rk (x.toList++y.toList) r) ?_ ?_ ⟨⟨rfl,rfl,rfl,rfl⟩,_,0,1,_,rfl,M1,n2,n1,by omega⟩) ?_)
 ·rintro n c t _ hn ⟨S,out,i,j,g,rfl,M,hi,l,m⟩;dsimp only;refine AL (wpS_mono (wpS_forRange (I:=λn c t=>Sm st t/\∃out i' f p q,c=(O,out,i',f,p,q)/\Mo rk (x.toList++y.toList) x y out i' f/\i'+1<x.size/\f<y.size/\i+j+n<=i'+f)
   (Q:=λc t=>Sm st t/\((∃r c',c=(Z r,c')/\Rt rk (x.toList++y.toList) r)\/∃out i' f p q,c=(O,out,i',f,p,q)/\Mo rk (x.toList++y.toList) x y out i' f/\i'+1<x.size/\f<y.size/\i+j+1<=i'+f)) ?_ ?_ ⟨S,_,i,j,0,0,rfl,M,hi,l,by omega⟩) ?_)
  ·rintro n' c t _ b0 ⟨S,out,i',f,p,q,rfl,M,hi,l,B⟩;dsimp only;refine AL (D l (AL (ex (eQ hi) (AL (O4 J (S.1.trans hk) (a1 l) (a4 _) ?_)))));dsimp only;by_cases c:rk y[f].1<rk x[i'].1
   ·rw[zz c,zk rfl];refine AL (D l ?_);have v:=M.pY l λk z hk=>zo (qv c) (yg F hk z);by_cases d:(f+1==y.size)=true
    ·rw[zk d];exact wpS_pure ⟨S,.inl ⟨_,_,rfl,v.zP d⟩⟩
    ·rw[zv d];have a3:f+1<y.size:=by
      have:¬ f+1=y.size:=by simpa using d
      omega
     split
     ·exact wpS_pure ⟨S,.inr ⟨_,_,_,_,_,rfl,v,hi,a3,by omega⟩⟩
     ·exact wpS_pure ⟨S,_,_,_,_,_,rfl,v,hi,a3,by omega⟩
   ·rw[Zl c,zv ()];refine AL (ex (eQ hi) ?_);have v:=M.pX (eQ hi) λk z hk=>zo (eW c) (yg G hk z);by_cases d:(i'+1+1==x.size)=true
    ·rw[zk d];exact wpS_pure ⟨S,.inl ⟨_,_,rfl,v.last d last⟩⟩
    ·rw[zv d];have a5:i'+1+1<x.size:=by
      have:¬ i'+1+1=x.size:=by simpa using d
      omega
     split
     ·exact wpS_pure ⟨S,.inr ⟨_,_,_,_,_,rfl,v,a5,l,by omega⟩⟩
     ·exact wpS_pure ⟨S,_,_,_,_,_,rfl,v,a5,l,by omega⟩
  ·rintro c t ⟨S,out,i',f,p,q,rfl,M,hi,l,B⟩;exact⟨S,.inr ⟨_,_,_,_,_,rfl,M,hi,l,by omega⟩⟩
  rintro c t ⟨S,⟨r,c',rfl,R⟩|⟨out,i',f,p,q,rfl,M,hi,l,B⟩⟩
  ·exact wpS_pure ⟨S,r,_,rfl,R⟩
  dsimp only;refine AL (wpS_lift (QP ⟨rfl,?_⟩));refine AL (wpS_mono (wpS_forRange (I:=λn c t=>Sm st t/\∃out i' f g p q,c=(O,out,i',f,g,p,q)/\Mo rk (x.toList++y.toList) x y out i' f/\i'+1<x.size/\f<y.size/\i+j+1<=i'+f)
   (Q:=λc t=>Sm st t/\((∃r c',c=(Z r,c')/\Rt rk (x.toList++y.toList) r)\/∃out i' f g p q,c=(O,out,i',f,g,p,q)/\Mo rk (x.toList++y.toList) x y out i' f/\i'+1<x.size/\f<y.size/\i+j+1<=i'+f)) ?_ ?_ ⟨S,_,i',f,_,p,q,rfl,M,hi,l,B⟩) ?_)
  ·rintro n' c t _ b0 ⟨S,out,i',f,g,p,q,rfl,M,hi,l,B⟩;dsimp only;by_cases gz:g>1
   all_goals first
    |rw[zk gz]
    |rw[zv gz]
   all_goals
    refine AL (KQ λt' o=>?_)
    replace o:=Sm.tr S o
    refine AL (D l (AL (Em (rk:=rk) J (o.1.trans hk) (a1 l) mx F () () λk k1 k2 L=>?_)));simp only[zD,qo]at k2 L;dsimp only;by_cases kz:k>0
    case' pos=>
     rw[zk kz];have M1:=M.pXs (n:=k) λa p q1 q2 c z X=>zo (k2 a p q1 q2) (yg G X z);by_cases d:(i'+k+1==x.size)=true
     ·rw[zk d];exact wpS_pure ⟨o,.inl ⟨_,_,rfl,M1.last d last⟩⟩
     rw[zv d];by_cases e:(i'+k==x.size)=true
     ·rw[zk e];exact wpS_pure ⟨o,.inl ⟨_,_,rfl,M1.YF e⟩⟩
     rw[zv e];have b3:i'+k+1<x.size:=by
      have:¬ i'+k+1=x.size:=by simpa using d
      have:¬ i'+k=x.size:=by simpa using e
      omega
     have l1:∀a (q:a<x.size),i'+k<=a->rk y[f].1<rk x[a].1:=λa q q1=>L a q q1 ();have m1:i+j+1<=i'+k+f:=by omega
     generalize out++x.extract i' (i'+k)=o1 at *
     generalize i'+k=i1 at *
    case' neg=>
     rw[zv kz];have M1:=M;have b3:=hi;have m1:=B;have l1:∀a (q:a<x.size),i'<=a->rk y[f].1<rk x[a].1:=λa q q1=>L a q () ();generalize out=o1 at *
     generalize i'=i1 at *
    all_goals
     refine AL (D l ?_);have M2:=M1.pY l λa z C=>qv (l1 a z C);by_cases d:(f+1==y.size)=true
     ·rw[zk d];exact wpS_pure ⟨o,.inl ⟨_,_,rfl,M2.zP d⟩⟩
     rw[zv d];have a7:f+1<y.size:=by
      have:¬ f+1=y.size:=by simpa using d
      omega
     have H:i1<x.size:=by omega
     refine AL (ex H (AL (Em (rk:=rk) J (o.1.trans hk) (a4 H) my G () () λu u1 u2 N=>?_)));simp only[QO]at u2 N;dsimp only;by_cases uz:u>0
     case' pos=>
      rw[zk uz];have W:=M2.pYs (n:=u) λa p q1 q2 c z X=>zo (qv (u2 a p q1 q2)) (yg F X z);by_cases d:(f+1+u==y.size)=true
      ·rw[zk d];exact wpS_pure ⟨o,.inl ⟨_,_,rfl,W.zP d⟩⟩
      rw[zv d];have U:f+1+u<y.size:=by
       have:¬ f+1+u=y.size:=by simpa using d
       omega
      have l3:∀a (q:a<y.size),f+1+u<=a->rk x[i1].1<=rk y[a].1:=λa q q1=>N a q q1 ();have m3:i+j+1<=i1+(f+1+u):=by omega
      generalize o1.push y[f]++y.extract (f+1) (f+1+u)=o3 at *
      generalize f+1+u=j3 at *
     case' neg=>
      rw[zv uz];have W:=M2;have U:=a7;have l3:∀a (q:a<y.size),f+1<=a->rk x[i1].1<=rk y[a].1:=λa q q1=>N a q () ();have m3:i+j+1<=i1+(f+1):=by omega
      generalize o1.push y[f]=o3 at *
      generalize f+1=j3 at *
     all_goals
      refine AL (ex H ?_);have K:=W.pX H λa z C=>l3 a z C;by_cases d:(i1+1+1==x.size)=true
      ·rw[zk d];exact wpS_pure ⟨o,.inl ⟨_,_,rfl,K.last d last⟩⟩
      rw[zv d];have a2:i1+1+1<x.size:=by
       have:¬ i1+1+1=x.size:=by simpa using d
       omega
      split
      ·exact wpS_pure ⟨o,.inr ⟨_,_,_,_,_,_,rfl,K,a2,U,by omega⟩⟩
      ·exact wpS_pure ⟨o,_,_,_,_,_,_,rfl,K,a2,U,by omega⟩
  ·rintro c t z;exact⟨z.1,.inr z.2⟩
  rintro c t ⟨S,⟨r,c',rfl,R⟩|⟨out,i',f,g,p,q,rfl,M,hi,l,B⟩⟩
  ·exact wpS_pure ⟨S,r,_,rfl,R⟩
  dsimp only;refine AL (wpS_modify (wpS_pure ⟨S,_,_,_,_,rfl,M,hi,l,by omega⟩))
 ·rintro c t ⟨S,out,i,j,g,rfl,M,hi,l,m⟩;omega
 ·rintro c t ⟨S,r,c',rfl,R⟩;exact wpS_pure (a6 r t S R)
end
end
theorem Mg.ahp{le:Keyed->Keyed->Prop}{W out xs ys:Y Keyed}(h:Mg le W out xs ys)(l:∀x∈xs,∀y∈ys,le x y):(out++xs++ys).Perm W/\(out++xs++ys).Pairwise le:=by
 have h2:Mg le W (out++xs) [] ys:=Mg.KJ (zs:=xs) (xs:=[]) (by rw[Qr];exact h) l;exact h2.aeV
theorem sZ{x:Array Keyed}(h:z∈(x.toList.take i).reverse):∃j,j<i/\∃h:j<x.size,x[j]=z:=by
 obtain⟨n,a,e⟩:=Q3 (ft.mp h);rw[JU]at e;rw[ZT]at a;exact⟨n,by omega,by simp at a;omega,e⟩
theorem tu(x:Array Keyed)(i:Nat):(x.extract 0 i).toList=x.toList.take i:=by
 rw[ka,ja,Nat.sub_zero,List.drop_zero]
theorem KR(x:Array Keyed){a:Nat}(h:a<=i):(x.extract a i).toList=(x.toList.take i).drop a:=by
 rw[ka,ja,List.drop_take]
theorem CS{x:Array Keyed}{a:Nat}(h:z∈(x.extract a i).toList):∃j,a<=j/\j<i/\∃h:j<x.size,x[j]=z:=by
 by_cases c:a<=i
 ·rw[KR x c]at h;obtain⟨n,b,e⟩:=Q3 h;rw[JY,JU]at e;rw[qc,ZT]at b;exact⟨a+n,by omega,by omega,by simp at b;omega,e⟩
 ·rw[ka,ja,show i-a=0 by omega]at h;cases h
section
variable{b:Array Keyed}
abbrev Ge(rk:A0->Nat):Keyed->Keyed->Prop:=λp q=>rk q.1<=rk p.1
variable{W:Y Keyed}{x y:Array Keyed}
abbrev Mp(rk:A0->Nat)(W:Y Keyed)(x y out:Array Keyed)(i j:Nat):Prop:=Mg (Ge rk) W out.toList (x.toList.take i).reverse (y.toList.take j).reverse
theorem C3(a:0<i)(h:i-1<x.size):(x.toList.take i).reverse=x[i-1]::(x.toList.take (i-1)).reverse:=by
 have:=QY (l:=x.toList) (i:=i-1) (by simpa using h);rw[show i-1+1=i by omega]at this;rw[this,ke];rfl
theorem Mp.pX(h:Mp rk W x y out i j)(b:0<i)(hi:i-1<x.size)(l:∀k (q:k<y.size),k<j->rk y[k].1<=rk x[i-1].1):Mp rk W x y (out.push x[i-1]) (i-1) j:=by
 unfold Mp at *
 rw[C3 b hi]at h;rw[ko];exact h.YC λz c=>by
  obtain⟨k,a,d,rfl⟩:=sZ c;exact l k d a
theorem Mp.pY(h:Mp rk W x y out i j)(c:0<j)(d:j-1<y.size)(l:∀k (q:k<x.size),k<i->rk x[k].1<=rk y[j-1].1):Mp rk W x y (out.push y[j-1]) i (j-1):=by
 unfold Mp at *
 rw[C3 c d]at h;rw[ko];exact h.YD λz e=>by
  obtain⟨k,a,b,rfl⟩:=sZ e;exact l k b a
theorem O6(x:Array Keyed){a:Nat}(h:a<=i):(x.toList.take i).reverse=(x.extract a i).toList.reverse++(x.toList.take a).reverse:=by
 rw[KR x h,<-ke]
 conv=>lhs;rw[<-qi a (x.toList.take i)]
 rw[List.take_take,fT h]
theorem Mp.pXs{a:Nat}(h:Mp rk W x y out i j)(f:a<=i)(l:∀c (p:c<x.size),a<=c->c<i->∀k (q:k<y.size),k<j->rk y[k].1<=rk x[c].1):Mp rk W x y (out++(x.extract a i).reverse) a j:=by
 unfold Mp at *
 rw[O6 x f]at h;rw[Zp,kA];exact h.KJ λz n c g=>by
  obtain⟨d,a1,a2,m,rfl⟩:=CS (ft.mp n);obtain⟨k,b,e,rfl⟩:=sZ g;exact l d m a1 a2 k e b
theorem Mp.pYs{a:Nat}(h:Mp rk W x y out i j)(f:a<=j)(l:∀c (p:c<y.size),a<=c->c<j->∀k (q:k<x.size),k<i->rk x[k].1<=rk y[c].1):Mp rk W x y (out++(y.extract a j).reverse) i a:=by
 unfold Mp at *
 rw[O6 y f]at h;rw[Zp,kA];exact h.KN λz n c g=>by
  obtain⟨d,a1,a2,m,rfl⟩:=CS (ft.mp n);obtain⟨k,b,e,rfl⟩:=sZ g;exact l d m a1 a2 k e b
theorem KY{l r:Y Keyed}(e:r=l.reverse)(h:l.Perm W/\l.Pairwise (Ge rk)):r.Perm W/\r.Pairwise (Le rk):=by
 subst e;exact⟨(yb _).trans h.1,dA.mpr h.2⟩
theorem Mp.zP(h:Mp rk W x y out i j)(e:(i==0)=true):Rt rk W (x.extract 0 i++y.extract 0 j++out.reverse):=by
 have e:i=0:=by simpa using e
 subst e;refine KY ?_ (Mg.aeV h);rw[Zp,Zp,kA,tu,tu,ke,KA];rfl
theorem Mp.YF(h:Mp rk W x y out i j)(e:(j==0)=true):Rt rk W (x.extract 0 i++y.extract 0 j++out.reverse):=by
 have e:j=0:=by simpa using e
 subst e;refine KY ?_ (Mg.aeU h);rw[Zp,Zp,kA,tu,tu,ke,KA,List.take_zero,Qr]
theorem Mp.first(h:Mp rk W x y out i j)(e:(j==1)=true)(l:∀k (q:k<x.size) (z:0<y.size),rk y[0].1<=rk x[k].1):Rt rk W (y.extract 0 j++x.extract 0 i++out.reverse):=by
 have e:j=1:=by simpa using e
 subst e;refine KY ?_ (Mg.ahp h λc b z d=>?_)
 ·rw[Zp,Zp,kA,tu,tu,ke,ke,KA,KA,ZE]
 ·obtain⟨k,g,f,rfl⟩:=sZ b;obtain⟨a,a1,a2,rfl⟩:=sZ d;have:a=0:=by omega
  subst this;exact l k f a2
theorem Pd{st:SortSt}{Q:Array Keyed->SortSt->Prop}(hC:KC prog w A s kd rk b)(hk:kindOf st=kd)(mx:∀p∈x.toList,p∈b.toList)(my:∀p∈y.toList,p∈b.toList)(P:x.toList.Pairwise (Le rk))(W:y.toList.Pairwise (Le rk))(hx:0<x.size)(hy:0<y.size)
  (first:∀k (q:k<x.size) (z:0<y.size),rk y[0].1<=rk x[k].1) (last:∀k (q:k<y.size) (z:x.size-1<x.size),rk y[k].1<=rk x[x.size-1].1)
  (h:∀r t,Sm st t->Rt rk (x.toList++y.toList) r->Q r t):wpS (A8 prog w) A E s (IS x y) Q st:=by
 have ex:∀{i:Nat} {t:SortSt} {Q:Keyed->SortSt->Prop} (hi:i<x.size),Q x[i] t->wpS (A8 prog w) A E s (elem' x i) Q t:=λhi hq=>zO (getElem?_pos x _ hi) hq;have X:∀{i:Nat} {t:SortSt} {Q:Keyed->SortSt->Prop} (hi:i<y.size),Q y[i] t->wpS (A8 prog w) A E s (elem' y i) Q t:=λhi hq=>zO (getElem?_pos y _ hi) hq;have a7:∀{i:Nat} (hi:i<x.size),x[i]∈b.toList:=λhi=>mx _ (by simp);have a4:∀{i:Nat} (hi:i<y.size),y[i]∈b.toList:=λhi=>my _ (by simp);unfold IS;refine AL (wpS_lift (QP ⟨rfl,?_⟩));dsimp only;have a2:x.size-1<x.size:=by omega
 refine AL (ex a2 ?_);have M0:Mp rk (x.toList++y.toList) x y #[] x.size y.size:=⟨by
  rw[ZY (by simp),ZY (by simp)];exact(yb _).append (yb _),by simp,λa K=>(by cases K),by rw[ZY (by simp)];exact dA.mpr P,by rw[ZY (by simp)];exact dA.mpr W⟩
 have M1:=M0.pX hx a2 λk q _=>last k q a2;rw[show(#[]:Array Keyed).push x[x.size-1]=#[x[x.size-1]] from rfl]at M1;by_cases c1:(x.size-1==0)=true
 ·rw[zk c1];exact wpS_pure (h _ _ ⟨rfl,rfl,rfl,rfl⟩ (M1.zP c1))
 rw[zv c1];by_cases c2:(y.size==1)=true
 ·rw[zk c2];exact wpS_pure (h _ _ ⟨rfl,rfl,rfl,rfl⟩ (M1.first c2 first))
 rw[zv c2];have n1:0<x.size-1:=by
  have:¬ x.size-1=0:=by simpa using c1
  omega
 have n2:1<y.size:=by
  have:¬ y.size=1:=by simpa using c2
  omega
 refine AL (wpS_get ?_);refine AL (wpS_mono (wpS_forRange (I:=λn c t=>Sm st t/\∃out i j g,c=(O,i,j,out,g)/\Mp rk (x.toList++y.toList) x y out i j/\0<i/\i<=x.size/\1<j/\j<=y.size/\i+j+n+1<=x.size+y.size) (Q:=λc t=>Sm st t/\∃r c',c=(Z r,c')/\Rt rk (x.toList++y.toList) r) ?_ ?_ ?_) ?_)
 ·rintro n c t _ hn ⟨S,out,i,j,g,rfl,M,hi,l,v,B,m⟩;dsimp only;refine AL (wpS_mono (wpS_forRange (I:=λn c t=>Sm st t/\∃out i' f p q,c=(O,i',f,out,p,q)/\Mp rk (x.toList++y.toList) x y out i' f/\0<i'/\i'<=x.size/\1<f/\f<=y.size/\i'+f+n<=i+j)
   (Q:=λc t=>Sm st t/\((∃r c',c=(Z r,c')/\Rt rk (x.toList++y.toList) r)\/∃out i' f p q,c=(O,i',f,out,p,q)/\Mp rk (x.toList++y.toList) x y out i' f/\0<i'/\i'<=x.size/\1<f/\f<=y.size/\i'+f+1<=i+j)) ?_ ?_ ⟨S,_,i,j,0,0,rfl,M,hi,l,v,B,by omega⟩) ?_)
  ·rintro n' c t _ b4 ⟨S,out,i',f,p,q,rfl,M,hi,l,v,B,H⟩;dsimp only;have C:i'-1<x.size:=by omega
   have D:f-1<y.size:=by omega
   refine AL (X D (AL (ex C (AL (O4 hC (S.1.trans hk) (a4 D) (a7 C) ?_)))));dsimp only;by_cases c:rk y[f-1].1<rk x[i'-1].1
   ·rw[zz c,zk rfl];refine AL (ex C ?_);have F:=M.pX hi C λk z hk=>zo (yg W (show k<=f-1 by omega) D) (qv c);by_cases d:(i'-1==0)=true
    ·rw[zk d];exact wpS_pure ⟨S,.inl ⟨_,_,rfl,F.zP d⟩⟩
    ·rw[zv d];have b0:0<i'-1:=by
      have:¬ i'-1=0:=by simpa using d
      omega
     split
     ·exact wpS_pure ⟨S,.inr ⟨_,_,_,_,_,rfl,F,b0,by omega,v,B,by omega⟩⟩
     ·exact wpS_pure ⟨S,_,_,_,_,_,rfl,F,b0,by omega,v,B,by omega⟩
   ·rw[Zl c,zv ()];refine AL (X D ?_);have F:=M.pY () D λk z hk=>zo (yg P (show k<=i'-1 by omega) C) (eW c);by_cases d:(f-1==1)=true
    ·rw[zk d];exact wpS_pure ⟨S,.inl ⟨_,_,rfl,F.first d first⟩⟩
    ·rw[zv d];have a6:1<f-1:=by
      have:¬ f-1=1:=by simpa using d
      omega
     split
     ·exact wpS_pure ⟨S,.inr ⟨_,_,_,_,_,rfl,F,hi,l,a6,by omega,by omega⟩⟩
     ·exact wpS_pure ⟨S,_,_,_,_,_,rfl,F,hi,l,a6,by omega,by omega⟩
  ·rintro c t ⟨S,out,i',f,p,q,rfl,M,hi,l,v,B,H⟩;exact⟨S,.inr ⟨_,_,_,_,_,rfl,M,hi,l,v,B,by omega⟩⟩
  rintro c t ⟨S,⟨r,c',rfl,R⟩|⟨out,i',f,p,q,rfl,M,hi,l,v,B,H⟩⟩
  ·exact wpS_pure ⟨S,r,_,rfl,R⟩
  dsimp only;refine AL (wpS_lift (QP ⟨rfl,?_⟩));refine AL (wpS_mono (wpS_forRange (I:=λn c t=>Sm st t/\∃out i' f g p q,c=(O,i',f,out,g,p,q)/\Mp rk (x.toList++y.toList) x y out i' f/\0<i'/\i'<=x.size/\1<f/\f<=y.size/\i'+f+1<=i+j)
   (Q:=λc t=>Sm st t/\((∃r c',c=(Z r,c')/\Rt rk (x.toList++y.toList) r)\/∃out i' f g p q,c=(O,i',f,out,g,p,q)/\Mp rk (x.toList++y.toList) x y out i' f/\0<i'/\i'<=x.size/\1<f/\f<=y.size/\i'+f+1<=i+j)) ?_ ?_ ⟨S,_,i',f,_,p,q,rfl,M,hi,l,v,B,H⟩) ?_)
  ·rintro n' c t _ b4 ⟨S,out,i',f,g,p,q,rfl,M,hi,l,v,B,H⟩;dsimp only;by_cases gz:g>1
   all_goals first
    |rw[zk gz]
    |rw[zv gz]
   all_goals
    refine AL (KQ λt' o=>?_)
    replace o:=Sm.tr S o
    have D:f-1<y.size:=by omega
    refine AL (X D (AL (Em (rk:=rk) hC (o.1.trans hk) (a4 D) mx P () () λk k1 k2 k3=>?_)));simp only[zD,qo,JJ]at k2 k3;dsimp only;by_cases kz:i'-k>0
    case' pos=>
     rw[zk kz];have M1:=M.pXs (a:=k) k1 λc p q1 q2 e z he=>zo (yg W (show e<=f-1 by omega) D) (qv (k3 c p q1 q2));by_cases d:(k==0)=true
     ·rw[zk d];exact wpS_pure ⟨o,.inl ⟨_,_,rfl,M1.zP d⟩⟩
     rw[zv d];have a1:0<k:=by
      have:¬ k=0:=by simpa using d
      omega
     have a3:k<=x.size:=by omega
     have U:∀a (q:a<x.size),a<k->rk x[a].1<=rk y[f-1].1:=λa q q1=>k2 a q (qr _) q1;have m1:k+f+1<=i+j:=by omega
     generalize out++(x.extract k i').reverse=o1 at *
     generalize k=i1 at a1 a3 U m1 M1 ⊢
    case' neg=>
     rw[zv kz];have M1:=M;have a1:=hi;have a3:=l;have m1:=H;have U:∀a (q:a<x.size),a<i'->rk x[a].1<=rk y[f-1].1:=λa q q1=>k2 a q (qr _) ();generalize out=o1 at *
     generalize i'=i1 at a1 a3 U m1 M1 ⊢
    all_goals
     refine AL (X D ?_);have M2:=M1.pY () D λa z K=>U a z K;by_cases d:(f-1==1)=true
     ·rw[zk d];exact wpS_pure ⟨o,.inl ⟨_,_,rfl,M2.first d first⟩⟩
     rw[zv d];have b3:1<f-1:=by
      have:¬ f-1=1:=by simpa using d
      omega
     have C:i1-1<x.size:=by omega
     refine AL (ex C (AL (Em (rk:=rk) hC (o.1.trans hk) (a7 C) my W () () λu u1 u2 u3=>?_)));simp only[QO,JJ]at u2 u3;dsimp only;by_cases uz:f-1-u>0
     case' pos=>
      rw[zk uz];have G:=M2.pYs (a:=u) u1 λc p q1 q2 e z he=>zo (yg P (show e<=i1-1 by omega) C) (u3 c p q1 q2);by_cases d:(u==1)=true
      ·rw[zk d];exact wpS_pure ⟨o,.inl ⟨_,_,rfl,G.first d first⟩⟩
      rw[zv d];by_cases e:(u==0)=true
      ·rw[zk e];exact wpS_pure ⟨o,.inl ⟨_,_,rfl,G.YF e⟩⟩
      rw[zv e];have J:1<u:=by
       have:¬ u=1:=by simpa using d
       have:¬ u=0:=by simpa using e
       omega
      have L:u<=y.size:=by omega
      have N:∀a (q:a<y.size),a<u->rk y[a].1<=rk x[i1-1].1:=λa q q1=>qv (u2 a q (qr _) q1);have m3:i1+u+1<=i+j:=by omega
      generalize o1.push y[f-1]++(y.extract u (f-1)).reverse=o3 at *
      generalize u=j3 at J L N m3 G ⊢
     case' neg=>
      rw[zv uz];have G:=M2;have J:=b3;have L:f-1<=y.size:=by omega
      have N:∀a (q:a<y.size),a<f-1->rk y[a].1<=rk x[i1-1].1:=λa q q1=>qv (u2 a q (qr _) ());have m3:i1+(f-1)+1<=i+j:=by omega
      generalize o1.push y[f-1]=o3 at *
      generalize f-1=j3 at J L N m3 G ⊢
     all_goals
      refine AL (ex C ?_);have M4:=G.pX a1 C λa z K=>N a z K;by_cases d:(i1-1==0)=true
      ·rw[zk d];exact wpS_pure ⟨o,.inl ⟨_,_,rfl,M4.zP d⟩⟩
      rw[zv d];have a5:0<i1-1:=by
       have:¬ i1-1=0:=by simpa using d
       omega
      split
      ·exact wpS_pure ⟨o,.inr ⟨_,_,_,_,_,_,rfl,M4,a5,by omega,J,L,by omega⟩⟩
      ·exact wpS_pure ⟨o,_,_,_,_,_,_,rfl,M4,a5,by omega,J,L,by omega⟩
  ·rintro c t z;exact⟨z.1,.inr z.2⟩
  rintro c t ⟨S,⟨r,c',rfl,R⟩|⟨out,i',f,g,p,q,rfl,M,hi,l,v,B,H⟩⟩
  ·exact wpS_pure ⟨S,r,_,rfl,R⟩
  dsimp only;refine AL (KQ λt' o=>wpS_pure ⟨Sm.tr S o,_,_,_,_,rfl,M,hi,l,v,B,by omega⟩)
 ·rintro c t ⟨S,out,i,j,g,rfl,M,hi,l,v,B,m⟩;omega
 ·exact⟨⟨rfl,rfl,rfl,rfl⟩,_,x.size-1,y.size,_,rfl,M1,n1,by omega,n2,zi _,by omega⟩
 ·rintro c t ⟨S,r,c',rfl,R⟩;exact wpS_pure (h r t S R)
end
def IG:Nat->StateT SortSt Sem Bool:=sortPriv% PySem.Builtin.mergeAt
theorem O7{f:Array Keyed->Keyed×Nat->Array Keyed}{d:Nat}(g:∀a p j,f a (p,j)=a.setIfInBounds (d+j) p):∀(M:Y Keyed) (a:Array Keyed) (b:Nat) (U c V:Y Keyed),a.toList=U++c++V->U.length=d+b->c.length=M.length->((M.zipIdx b).foldl f a).toList=U++M++V
 |[],a,b,U,c,V,e,_,h=>by
  have:c=[]:=jv h;subst this;exact e
 |p::M,a,b,U,[],V,_,_,h=>by cases h
 |p::M,a,b,U,z::c,V,e,hu,h=>by
  rw[hY,ki,g];have:=O7 g M (a.setIfInBounds (d+b) p) (b+1) (U++[p]) c V (by
   rw[Array.toList_setIfInBounds,e,<-hu,ZE,List.set_append_right _ _ (zi _),Nat.sub_self];simp) (by rw[zr,hu];rfl) (by simpa using h)
  rw[this];simp
section
variable{b:Array Keyed}
theorem KZ{g:Y Keyed}{V:Y Keyed}{a:Array Keyed}(e:a.toList=U++g++V)(hi:i<g.length):a[U.length+i]?=Z g[i]:=by
 rw[<-Kk,e,ZE,QI (),fF,ZZ hi,qa hi]
theorem K1{g:Y Keyed}{V:Y Keyed}{a:Array Keyed}(e:a.toList=U++g++V)(hi:i<g.length):at_ rk a (U.length+i)=rk g[i].1:=by unfold at_;rw[KZ e hi]
theorem YG{g:Y Keyed}(h:g.Pairwise (Le rk))(b:i<=j)(a:j<g.length):rk g[i].1<=rk g[j].1:=by
 by_cases e:i=j
 ·subst e;exact zi _
 ·exact dc.mp h i j () a ()
theorem Ul{left:Bool}{c:Keyed}{a:Array Keyed}{g V:Y Keyed}{base f:Nat}{Q:Y3 Nat->SortSt->Prop}(u:KC prog w A s kd rk b)(hk:kindOf t=kd)(mk:c∈b.toList)(B:∀p∈g,p∈b.toList)(e:a.toList=U++g++V)(v:base=U.length)(y:n=g.length)(x:g.Pairwise (Le rk))(l:f<n)(h:∀k,k<=g.length->(∀p∈g.take k,if left=true then rk p.1<rk c.1 else rk p.1<=rk c.1)->(∀p∈g.drop k,if left=true then rk c.1<=rk p.1 else rk c.1<rk p.1)->Q (Z k) t):wpS (A8 prog w) A E s (FC left c a base n f) Q t:=by
 subst v y;refine YB (rk:=rk) u hk mk (λi hi=>⟨g[i],KZ e hi,B _ (by simp)⟩) l (λi j q d=>?_) λk m o z=>h k m (λp hp=>?_) λp hp=>?_
 ·rw[K1 e (show i<g.length by omega),K1 e d];exact YG x q d
 ·obtain⟨i,hi,rfl⟩:=Q3 hp;rw[ZT]at hi;rw[JU];have:=o i ();rw[K1 e (show i<g.length by omega)]at this;exact this
 ·obtain⟨i,hi,rfl⟩:=Q3 hp;rw[qc]at hi;rw[JY];have:=z (k+i) () ();rw[K1 e (show k+i<g.length by omega)]at this;exact this
theorem SF{σ:Type}{t t':σ}{Q:PUnit->σ->Prop}(h:Q ⟨⟩ t'):wpS M A E s (set t':StateT σ Sem PUnit) Q t:=by
 unfold wpS;rw[StateT.run_set];exact zd ⟨rfl,h⟩
theorem Tk{st:SortSt}{o B p l M q:Nat}{Q:Bool->SortSt->Prop}{g g' V:Y Keyed}(K:KC prog w A s kd rk b)(hk:kindOf st=kd)(L:failedOf st=O)(hm:∀z∈(AM st).toList,z∈b.toList)(e:(AM st).toList=U++(g++g')++V)(p1:(pendingOf st)[i]?=Z (o,B,p))(p2:(pendingOf st)[i+1]?=Z (l,M,q))(ea:o=U.length)(en:B=g.length)(eb:l=o+B)(em:M=g'.length)(hg:g≠[])(a3:g'≠[])(F:g.Pairwise (Le rk))(D:g'.Pairwise (Le rk))(h:∀t m,kindOf t=kd->failedOf t=O->pendingOf t=((pendingOf st).setIfInBounds i (o,B+M,p)).eraseIdxIfInBounds (i+1)->m.Perm (g++g')->m.Pairwise (Le rk)->(AM t).toList=U++m++V->Q true t):wpS (A8 prog w) A E s (IG i) Q st:=by
 have hx:0<g.length:=dk.mpr hg;have v:0<g'.length:=dk.mpr a3;have e1:(AM st).toList=U++g++(g'++V):=by rw[e];simp
 have e2:(AM st).toList=(U++g)++g'++V:=by rw[e];simp
 have N:l=(U++g).length:=by rw[zr,eb,ea,en]
 have mg:∀z∈g,z∈b.toList:=λz C=>hm z (by rw[e];simp[C]);have W:∀z∈g',z∈b.toList:=λz C=>hm z (by rw[e];simp[C]);have g0:∀z∈g',rk g'[0].1<=rk z.1:=λz C=>by
  obtain⟨j,hj,rfl⟩:=Q3 C;exact YG D (qr _) hj
 have X:∀z∈g,rk z.1<=rk (g[g.length-1]'()).1:=λz C=>by
  obtain⟨j,hj,rfl⟩:=Q3 C;exact YG F () ()
 unfold IG;refine AL (wpS_get ?_);rw[p1,p2];dsimp only;refine AL (SF ?_);refine AL (zO (p:=g'[0]) (by rw[N];exact KZ e2 v) ?_);refine AL (Ul (rk:=rk) K hk (W _ (by simp)) mg e1 ea en F () λk k1 J k3=>?_);simp only[zD,qo]at J k3;dsimp only;by_cases c:(B-k==0)=true
 ·rw[zk c];have c:B-k=0:=by simpa using c
  rw[ZY ()]at J;exact wpS_pure (h _ (g++g') hk L Y2 (List.Perm.refl _) (cw.mpr ⟨F,D,λx hx y v=>zo (J x hx) (g0 y v)⟩) e)
 rw[zv c];have c:¬ B-k=0:=by simpa using c
 have ix:o+k+(B-k)-1=U.length+(g.length-1):=by omega
 rw[ix];refine AL (zO (KZ e1 (show g.length-1<g.length by omega)) ?_);refine AL (Ul (rk:=rk) K hk (mg _ (by simp)) W e2 N em D () λn n1 n2 P=>?_);simp only[QO]at n2 P;dsimp only;by_cases d:(n==0)=true
 ·rw[zk d];have d:n=0:=by simpa using d
  subst d;exact wpS_pure (h _ (g++g') hk L Y2 (List.Perm.refl _) (cw.mpr ⟨F,D,λx hx y v=>zo (X x hx) (P y v)⟩) e)
 rw[zv d];have d:¬ n=0:=by simpa using d
 have ex:((AM st).extract (o+k) l).toList=g.drop k:=by
  rw[KR _ (),e2,ZE,ef (),ZY (),ea,<-List.drop_drop,List.drop_left]
 have G:((AM st).extract l (l+n)).toList=g'.take n:=by
  rw[FZ,e2,N,ZE,List.drop_left,ef n1]
 have zx:((AM st).extract (o+k) l).size=g.length-k:=by rw[<-ZO,ex,qc]
 have zy:((AM st).extract l (l+n)).size=n:=by rw[<-ZO,G,ZT];omega
 have gx:∀{j:Nat} (q:j<((AM st).extract (o+k) l).size),((AM st).extract (o+k) l)[j]=g[k+j]'():=λ{j} q=>by
  rw[<-kB];simp only[ex,JY]
 have gy:∀{j:Nat} (q:j<((AM st).extract l (l+n)).size),((AM st).extract l (l+n))[j]=g'[j]'():=λ{j} q=>by
  rw[<-kB];simp only[G,JU]
 have first:∀j (q:j<((AM st).extract (o+k) l).size) (z:0<((AM st).extract l (l+n)).size),rk ((AM st).extract l (l+n))[0].1<=rk ((AM st).extract (o+k) l)[j].1:=λj q z=>by
  have m:((AM st).extract (o+k) l)[j]∈g.drop k:=by rw[<-ex];exact gI.mpr (hJ _)
  rw[gy];exact qv (k3 _ m)
 have last:∀j (q:j<((AM st).extract l (l+n)).size) (z:((AM st).extract (o+k) l).size-1<((AM st).extract (o+k) l).size),rk ((AM st).extract l (l+n))[j].1<=rk (((AM st).extract (o+k) l)[((AM st).extract (o+k) l).size-1]).1:=λj q z=>by
  have m:((AM st).extract l (l+n))[j]∈g'.take n:=by rw[<-G];exact gI.mpr (hJ _)
  rw[gx];have:k+(((AM st).extract (o+k) l).size-1)=g.length-1:=by omega
  simp only[this];exact qv (n2 _ m)
 have mx:∀p∈((AM st).extract (o+k) l).toList,p∈b.toList:=λp hp=>mg p (by rw[ex]at hp;exact kv hp);have my:∀p∈((AM st).extract l (l+n)).toList,p∈b.toList:=λp hp=>W p (by rw[G]at hp;exact KB hp);have sx:((AM st).extract (o+k) l).toList.Pairwise (Le rk):=by rw[ex];exact F.sublist (List.drop_sublist _ _)
 have sy:((AM st).extract l (l+n)).toList.Pairwise (Le rk):=by rw[G];exact D.sublist (eM _ _)
 have a1:∀(t:SortSt) (r:Array Keyed) (u:SortSt),Sm t u->kindOf t=kd->failedOf t=O->AM t=AM st->pendingOf t=((pendingOf st).setIfInBounds i (o,B+M,p)).eraseIdxIfInBounds (i+1)->Rt rk (((AM st).extract (o+k) l).toList++((AM st).extract l (l+n)).toList) r →
   ∀(f:Array Keyed->Keyed×Nat->Array Keyed),(∀a p j,f a (p,j)=a.setIfInBounds (o+k+j) p)->Q (failedOf u).isNone (SortSt.mk' (kindOf u) (r.toList.zipIdx.foldl f (AM u)) (pendingOf u) (gallopOf u) (failedOf u)):=λt r u S tk tf ta tp R f a5=>by
  rw[S.2.1,tf];rw[ex,G]at R;have hr:r.toList.length=(g.drop k++g'.take n).length:=R.1.length_eq;have fs:=O7 a5 r.toList (AM u) 0 (U++g.take k) (g.drop k++g'.take n) (g'.drop n++V) (by
   rw[S.2.2.1,ta,e]
   conv=>lhs;rw[<-qi k g,<-qi n g']
   simp only[ZE]) (by rw[zr,ZT];omega) hr.symm
  refine h _ (g.take k++r.toList++g'.drop n) (S.1.trans tk) Y2 (S.2.2.2.trans tp) ?_ ?_ ?_
  ·refine(((R.1.append_left _).append_right _).trans (List.Perm.of_eq ?_))
   conv=>rhs;rw[<-qi k g,<-qi n g']
   simp only[ZE]
  ·have I:=F;have H:=D;rw[<-qi k g]at I;rw[<-qi n g']at H;have I:=cw.mp I;have H:=cw.mp H;have a2:∀x∈g.take k,∀y∈g',Le rk x y:=λx hx y v=>zo (J x hx) (g0 y v);have a4:∀x∈g,∀y∈g'.drop n,Le rk x y:=λx hx y v=>zo (X x hx) (P y v);refine cw.mpr ⟨cw.mpr ⟨I.1,R.2,λx hx y v=>?_⟩,H.2.1,λx hx y v=>?_⟩
   ·rcases cb.mp (R.1.mem_iff.mp v)with q|q
    ·exact I.2.2 x hx y q
    ·exact a2 x hx y (KB q)
   ·rcases cb.mp hx with q|q
    ·exact a2 x q y (kv v)
    ·rcases cb.mp (R.1.mem_iff.mp q)with q|q
     ·exact a4 x (kv q) y v
     ·exact H.2.2 x q y v
  ·show(r.toList.zipIdx.foldl f (AM u)).toList=_;rw[fs];simp
 have px:0<((AM st).extract (o+k) l).size:=by omega
 have py:0<((AM st).extract l (l+n)).size:=by omega
 split
 ·exact AL (UO (rk:=rk) K hk mx my sx sy px py (λj q=>first j q py) last λr u S R=>AL (wpS_modify (AL (wpS_get (wpS_pure (a1 _ r u S hk L Y2 Y2 R _ λ_ _ _=>Y2))))))
 ·exact AL (Pd (rk:=rk) K hk mx my sx sy px py first last λr u S R=>AL (wpS_modify (AL (wpS_get (wpS_pure (a1 _ r u S hk L Y2 Y2 R _ λ_ _ _=>Y2))))))
end
section
variable(rk:A0->Nat)(lo:Nat)
abbrev al(xs:Array Keyed)(i:Nat):Nat:=at_ rk xs (lo+i)
def D6(xs:Array Keyed)(k:Nat):Prop:=∀i j,i<=j->j<k->al rk lo xs i<=al rk lo xs j
def EH(xs:Array Keyed)(k:Nat):Prop:=∀i j,i<=j->j<k->al rk lo xs j<=al rk lo xs i
structure Bo (b:Array Keyed) (u st:SortSt):Prop where
 pm:(arrOf st).Perm b
 kd:kindOf st=kindOf u
 fl:failedOf st=failedOf u
 pd:pendingOf st=pendingOf u
 ot:∀k,k<lo->(arrOf st)[k]?=(arrOf u)[k]?
end
section
variable{b:Array Keyed}{lo:Nat}{u:SortSt}
theorem Bo.sz(h:Bo lo b u t):(AM t).size=b.size:=h.pm.size_eq
theorem Bo.mir(h:Bo lo b u t)(hi:lo<=i)(a:j<=b.size):Bo lo b u (PyProof.Rows.setArr t (mirror (AM t) i j ((j-i) / 2))):=⟨(mirror_perm _ _ _ _).trans h.pm,h.kd,h.fl,h.pd,λk hk=>by
 show(mirror (AM t) i j ((j-i) / 2))[k]?=_;rw[getElem?_mirror_all (by rw[h.sz];exact a),zv ()];exact h.ot k hk⟩
theorem Um{Q:Y3 Bool->SortSt->Prop}(a:KC prog w A s (kindOf u) rk b)(B:Bo lo b u t)(hi:i<b.size)(d:j<b.size)(h:Q (Z (decide (at_ rk (AM t) i<at_ rk (AM t) j))) t):wpS (A8 prog w) A E s (ltAt' i j) Q t:=by
 have get:∀k,k<b.size->∃p,(AM t)[k]?=Z p/\p∈b.toList:=λk hk=>by
  have c:k<(AM t).size:=by rw[B.sz];exact hk
  exact⟨(AM t)[k],getElem?_pos _ k c,(cz.mp B.pm).mem_iff.mp (by simp)⟩
 obtain⟨p,e1,e⟩:=get i hi;obtain⟨q,e2,m2⟩:=get j d;have h:Q (Z (decide (rk p.1<rk q.1))) t:=by unfold at_ at h;rw[e1,e2]at h;exact h
 rw[ltAt'_eq];exact AL (wpS_get (AL (zO e1 (AL (zO e2 (O4 a B.kd e m2 h))))))
theorem MY{f:Nat->Y3 β×Nat->StateT SortSt Sem (ForInStep (Y3 β×Nat))}{a:Nat}{Q:Y3 β×Nat->SortSt->Prop}(p:∀x m,∀d:ForInStep (Y3 β×Nat)->SortSt->Prop,1<=m->m<n->(al rk lo (AM t) m<al rk lo (AM t) (m-1)->d (.done (O,m)) t)->(¬ al rk lo (AM t) m<al rk lo (AM t) (m-1)->d (.yield (O,m+1)) t)->wpS (A8 prog w) A E s (f x (O,m)) d t)(v:1<=a)(o:a<=n)(b:D6 rk lo (AM t) a)(h:∀m,a<=m->m<=n->D6 rk lo (AM t) m->(m=n\/al rk lo (AM t) m<al rk lo (AM t) (m-1))->Q (O,m) t):wpS (A8 prog w) A E s (forIn [a:n] (O,a) f) Q t:=by
 refine wpS_forRange (I:=λx c g=>g=t/\c=(O,x)/\D6 rk lo (AM t) x) ?_ ?_ ⟨rfl,rfl,b⟩
 ·rintro x c g u k ⟨rfl,rfl,b⟩;refine p x x _ () k (λq=>h x u () b (.inr q)) λq=>⟨rfl,rfl,λi j l y=>?_⟩;by_cases hx:j<x
  ·exact b i j l hx
  ·have e:j=x:=by omega
   subst e;by_cases hi:i=j
   ·rw[hi];exact zi _
   ·have:=b i (j-1) () ();omega
 ·rintro c g ⟨rfl,rfl,b⟩;rw[show max a n=n by omega]at b ⊢;exact h n o (zi _) b (.inl Y2)
theorem YH{xs:Array Keyed}(a:lo+j<=xs.size)(k:Nat):al rk lo (mirror xs (lo+i) (lo+j) ((lo+j-(lo+i)) / 2)) k=if i<=k/\k<j then al rk lo xs (i+j-1-k)else al rk lo xs k:=by
 unfold al;rw[TC a];by_cases q:i<=k/\k<j
 ·rw[zk q,zk ⟨by omega,by omega⟩];congr 1;omega
 ·rw[zv q,zv ()]
theorem K3{xs:Array Keyed}(b:lo+j<=xs.size)(a:∀k,i<=k->k<j->al rk lo xs k=al rk lo xs (j-1))(k:Nat):al rk lo (mirror xs (lo+i) (lo+j) ((lo+j-(lo+i)) / 2)) k=al rk lo xs k:=by
 rw[YH b];by_cases q:i<=k/\k<j
 ·rw[zk q,a (i+j-1-k) () (),a k q.1 q.2]
 ·rw[zv q]
theorem grow{xs ys:Array Keyed}{x:Nat}(dn:EH rk lo xs x)(hk:∀k,al rk lo ys k=al rk lo xs k)(hl:1<=x->al rk lo xs x<=al rk lo xs (x-1)):EH rk lo ys (x+1):=λi j a c=>by
 rw[hk,hk];by_cases hx:j<x
 ·exact dn i j a hx
 ·have b:j=x:=by omega
  subst b;by_cases hi:i=j
  ·rw[hi];exact zi _
  ·have:=dn i (j-1) () ();have:=hl ();omega
theorem SH{Q:Y3 Nat->SortSt->Prop}(J:KC prog w A s (kindOf u) rk b)(hn:lo+n<=b.size)(h1:1<=n)(B:Bo lo b u t)(h:∀k t,Bo lo b u t->1<=k->k<=n->D6 rk lo (AM t) k->Q (Z k) t):wpS (A8 prog w) A E s (countRun' lo n) Q t:=by
 rw[countRun'_eq];have K:∀{t:SortSt},Bo lo b u t->∀m,∀g:Y3 Bool->SortSt->Prop,1<=m->m<n->g (Z (decide (al rk lo (AM t) m<al rk lo (AM t) (m-1)))) t->wpS (A8 prog w) A E s (ltAt' (lo+m) (lo+m-1)) g t:=λ{t} B m g q1 q2 hq=>by
  refine Um J B () () ?_;rw[show lo+m-1=lo+(m-1) by omega];exact hq
 refine AL (MY (rk:=rk) (lo:=lo) (λx m g q1 q2 g1 g2=>?_) (zi 1) h1 (λi j o v=>by rw[show i=j by omega];exact zi _) λm N m2 G or=>?_)
 ·refine AL (K B m _ q1 q2 ?_);dsimp only;by_cases c:al rk lo (AM t) m<al rk lo (AM t) (m-1)
  ·rw[zz c,zk rfl];exact wpS_pure (g1 c)
  ·rw[Zl c,zv ()];exact wpS_pure (g2 c)
 dsimp only;by_cases M:m=n
 ·rw[zk (show(m==n)=true by simpa using M)];exact wpS_pure (h m t B N m2 G)
 rw[zv (show ¬ (m==n)=true by simpa using M)];have lt:=or.resolve_left M;have L:lo+m<=(AM t).size:=by rw[B.sz];omega
 by_cases g1:m>1
 case' pos=>
  rw[zk g1];refine AL (Um J B () () ?_);dsimp only;by_cases q:at_ rk (AM t) lo<at_ rk (AM t) (lo+m-1)
  ·rw[zz q,zk rfl];exact wpS_pure (h m t B N m2 G)
  rw[Zl q,zv ()];have all:∀k,0<=k->k<m->al rk lo (AM t) k=al rk lo (AM t) (m-1):=λk _ hk=>by
   have a1:=G 0 k () hk;have a2:=G k (m-1) () ();have q:¬ al rk lo (AM t) 0<al rk lo (AM t) (m-1):=by
    show ¬ at_ rk (AM t) (lo+0)<at_ rk (AM t) (lo+(m-1));rw[g5,show lo+(m-1)=lo+m-1 by omega];exact q
   omega
  have e:=K3 (rk:=rk) (i:=0) L all;rw[g5]at e;have H:=B.mir (zi lo) (show lo+m<=b.size by omega);refine AL (wpS_reverse ?_);have D:EH rk lo (AM (PyProof.Rows.setArr t (mirror (AM t) lo (lo+m) ((lo+m-lo) / 2)))) (m+1):=grow (xs:=AM t) (λi j o v=>by rw[all i () (),all j () ()];exact zi _) e λ_=>qv lt;generalize PyProof.Rows.setArr t (mirror (AM t) lo (lo+m) ((lo+m-lo) / 2))=t1 at H D ⊢
 case' neg=>
  rw[zv g1];have e1:m=1:=by omega
  have H:=B;have D:EH rk lo (AM t) (m+1):=grow (xs:=AM t) (λi j o v=>by rw[show i=j by omega];exact zi _) (λ_=>Y2) λ_=>qv lt;generalize t=t1 at H D ⊢
 all_goals
  refine AL (wpS_lift (QP ⟨rfl,?_⟩));refine AL (wpS_mono (wpS_forRange (I:=λx c t=>∃e,c=(O,x,e)/\Bo lo b u t/\EH rk lo (AM t) x/\e+1<=x/\∀i,x-(e+1)<=i->i<x->al rk lo (AM t) i=al rk lo (AM t) (x-1))
   (Q:=λc t=>∃k e,c=(O,k,e)/\m+1<=k/\k<=n/\Bo lo b u t/\EH rk lo (AM t) k/\e+1<=k/\∀i,k-(e+1)<=i->i<k->al rk lo (AM t) i=al rk lo (AM t) (k-1)) ?_ ?_ ⟨0,rfl,H,D,by omega,λi q1 q2=>by rw[show i=m+1-1 by omega]⟩) ?_)
  ·rintro x c a W a4 ⟨e,rfl,d,dn,l,f⟩;have L:lo+x<=(AM a).size:=by rw[d.sz];omega
   dsimp only;refine AL (K d x _ () a4 ?_);dsimp only;by_cases q:al rk lo (AM a) x<al rk lo (AM a) (x-1)
   ·rw[zz q,zk rfl];by_cases p:e>0
    ·rw[zk p];refine AL (wpS_reverse (wpS_pure ?_));have F:=K3 (rk:=rk) L f;rw[show lo+x-(e+1)=lo+(x-(e+1)) by omega];exact⟨0,rfl,d.mir () (),grow dn F λ_=>by omega,by omega,λi q1 q2=>by rw[show i=x+1-1 by omega]⟩
    ·rw[zv p];exact wpS_pure ⟨0,rfl,d,grow dn (λ_=>Y2) λ_=>by omega,by omega,λi q1 q2=>by rw[show i=x+1-1 by omega]⟩
   ·rw[Zl q,zv ()];refine AL (Um J d () () ?_);dsimp only;rw[show lo+x-1=lo+(x-1) by omega];by_cases q2:al rk lo (AM a) (x-1)<al rk lo (AM a) x
    ·rw[zz q2,zk rfl];exact wpS_pure ⟨x,e,rfl,W,by omega,d,dn,l,f⟩
    ·rw[Zl q2,zv ()];refine wpS_pure ⟨e+1,rfl,d,grow dn (λ_=>Y2) λ_=>by omega,by omega,λi q3 q4=>?_⟩;rw[show x+1-1=x by omega];by_cases hi:i=x
     ·rw[hi]
     ·rw[f i () ()];omega
  ·rintro c a ⟨e,rfl,d,dn,l,f⟩;rw[show max (m+1) n=n by omega]at dn l f ⊢;exact⟨n,e,rfl,by omega,zi _,d,dn,l,f⟩
  rintro c a ⟨k,e,rfl,k1,S,d,dn,l,f⟩;have X:lo+k<=(AM a).size:=by rw[d.sz];omega
  dsimp only;by_cases p:e>0
  case' pos=>
   rw[zk p];refine AL (wpS_reverse ?_);have F:=K3 (rk:=rk) X f;rw[show lo+k-(e+1)=lo+(k-(e+1)) by omega];have z:=d.mir (show lo<=lo+(k-(e+1)) by omega) (show lo+k<=b.size by omega);have C:EH rk lo (AM (PyProof.Rows.setArr a (mirror (AM a) (lo+(k-(e+1))) (lo+k) ((lo+k-(lo+(k-(e+1)))) / 2)))) k:=λi j o v=>by
    show al rk lo (mirror (AM a) _ _ _) j<=al rk lo (mirror (AM a) _ _ _) i;rw[F,F];exact dn i j o v
   generalize PyProof.Rows.setArr a (mirror (AM a) (lo+(k-(e+1))) (lo+k) ((lo+k-(lo+(k-(e+1)))) / 2))=t2 at z C ⊢
  case' neg=>
   rw[zv p];have z:=d;have C:=dn;generalize a=t2 at z C ⊢
  all_goals
   refine AL (wpS_reverse ?_);have U:lo+k<=(AM t2).size:=by rw[z.sz];omega
   have B3:=z.mir (zi lo) (show lo+k<=b.size by omega);have P:D6 rk lo (AM (PyProof.Rows.setArr t2 (mirror (AM t2) lo (lo+k) ((lo+k-lo) / 2)))) k:=λi j o v=>by
    have e:=YH (rk:=rk) (i:=0) U;rw[g5]at e;show al rk lo (mirror (AM t2) _ _ _) i<=al rk lo (mirror (AM t2) _ _ _) j;rw[e,e,zk ⟨by omega,by omega⟩,zk ⟨by omega,by omega⟩];exact C _ _ () ()
   generalize PyProof.Rows.setArr t2 (mirror (AM t2) lo (lo+k) ((lo+k-lo) / 2))=t3 at B3 P ⊢;refine AL (MY (rk:=rk) (lo:=lo) (λx y g q1 q2 g1 g2=>?_) (show 1<=k by omega) S P λy p1 p2 a3 _=>wpS_pure (h y t3 B3 () p2 a3));refine AL (K B3 y _ q1 q2 ?_);dsimp only;by_cases c:al rk lo (AM t3) y<al rk lo (AM t3) (y-1)
   ·rw[zz c,zk rfl];exact wpS_pure (g1 c)
   ·rw[Zl c,zv ()];exact wpS_pure (g2 c)
theorem YJ{xs:Array Keyed}{p d:Nat}(hs:lo+p<xs.size)(hd:d<=p)(k:Nat):al rk lo (bubble xs (lo+p) d) k=if k=p-d then al rk lo xs p else if p-d<k/\k<=p then al rk lo xs (k-1)else al rk lo xs k:=by
 unfold al;rw[bb hs ()];by_cases q:k=p-d
 ·rw[zk q,zk ()]
 ·rw[zv q,zv ()];by_cases q2:p-d<k/\k<=p
  ·rw[zk q2,zk ⟨by omega,by omega⟩];congr 1;omega
  ·rw[zv q2,zv ()]
theorem Na{m:Nat}{Q:Bool->SortSt->Prop}(F:KC prog w A s (kindOf u) rk b)(M:lo+n<=b.size)(K:m<=n)(B:Bo lo b u t)(hs:D6 rk lo (AM t) m)(h:∀t,Bo lo b u t->D6 rk lo (AM t) n->Q true t):wpS (A8 prog w) A E s (binarySort' lo n m) Q t:=by
 rw[binarySort'_eq];refine AL (wpS_mono (wpS_forRange (I:=λk c t=>c=(O,dl)/\Bo lo b u t/\D6 rk lo (AM t) (min k n)) (Q:=λc t=>c=(O,dl)/\Bo lo b u t/\D6 rk lo (AM t) n) ?_ ?_ ?_) ?_)
 ·rintro k c t L N ⟨rfl,d,f⟩;rw[show min k n=k by omega]at f;refine AL (wpS_mono (wpS_forRange (I:=λx c a=>a=t/\∃l r,c=(O,l,r)/\l<=r/\r<=k/\r-l<=k-x/\(∀i,i<l->al rk lo (AM t) i<=al rk lo (AM t) k)/\(∀i,r<=i->i<k->al rk lo (AM t) k<al rk lo (AM t) i))
   (Q:=λc a=>a=t/\∃l r,c=(O,l,r)/\l<=k/\(∀i,i<l->al rk lo (AM t) i<=al rk lo (AM t) k)/\(∀i,l<=i->i<k->al rk lo (AM t) k<al rk lo (AM t) i)) ?_ ?_ ?_) ?_)
  ·rintro x c a _ hx ⟨rfl,l,r,rfl,D,v,H,g,hi⟩;dsimp only;by_cases C:l>=r
   ·rw[zk C];have e:l=r:=by omega
    subst e;exact wpS_pure ⟨rfl,l,l,rfl,v,g,hi⟩
   ·rw[zv C];refine AL (Um F d () () ?_);dsimp only;by_cases q:al rk lo (AM a) k<al rk lo (AM a) ((l+r) / 2)
    ·rw[zz q,zk rfl];refine wpS_pure ⟨rfl,l,(l+r) / 2,rfl,by omega,by omega,by omega,g,λi q1 q2=>?_⟩;have:=f ((l+r) / 2) i q1 q2;omega
    ·rw[Zl q,zv ()];refine wpS_pure ⟨rfl,(l+r) / 2+1,r,rfl,by omega,by omega,by omega,λi q1=>?_,hi⟩;have:=f i ((l+r) / 2) () ();omega
  ·rintro c a ⟨rfl,l,r,rfl,D,v,H,g,hi⟩;have e:l=r:=by omega
   subst e;exact⟨rfl,l,l,rfl,v,g,hi⟩
  ·exact⟨rfl,0,k,rfl,by omega,by omega,by omega,λi hi=>by omega,λi q1 q2=>by omega⟩
  ·rintro c a ⟨rfl,l,r,rfl,J,g,hi⟩;show wpS _ _ _ _ (moveDown' (lo+k) (lo+l) >>= λ_=>pure (ForInStep.yield (O,dl))) _ _;rw[moveDown'_eq];have o:lo+k<(AM a).size:=by rw[d.sz];omega
   refine AL (wpS_modify (wpS_pure ⟨rfl,⟨(bubble_perm _ _ _).trans d.pm,d.kd,d.fl,d.pd,λj p=>?_⟩,?_⟩))
   ·show(bubble (AM a) (lo+k) (lo+k-(lo+l)))[j]?=_;rw[getElem?_bubble o _ (),zv (),zv ()];exact d.ot j p
   rw[show min (k+1) n=k+1 by omega];intro i j y p;show al rk lo (bubble (AM a) (lo+k) (lo+k-(lo+l))) i<=al rk lo (bubble (AM a) (lo+k) (lo+k-(lo+l))) j;rw[show lo+k-(lo+l)=k-l by omega,YJ o (),YJ o (),show k-(k-l)=l by omega]
   repeat' split
   all_goals first
    |(exfalso;omega)
    |exact zi _
    |exact g _ ()
    |exact qv (hi _ () ())
    |exact f _ _ () ()
 ·rintro c t ⟨G,d,f⟩;refine⟨G,d,?_⟩;rwa [show min (max (max m 1) n) n=n by omega]at f
 ·refine⟨rfl,B,λi j y p=>?_⟩;by_cases z:m=0
  ·rw[show i=j by omega];exact zi _
  ·exact hs i j y ()
 ·rintro c t ⟨rfl,d,f⟩;exact wpS_pure (h t d f)
end
section
variable(rk:A0->Nat)
def Ds:Nat->Y (Y Keyed)->Y (Nat×Nat×Nat)->Prop
 |_,[],[]=>True
 |lo,g::gs,(a,n,_)::ps=>a=lo/\n=g.length/\g≠[]/\g.Pairwise (Le rk)/\Ds (lo+g.length) gs ps
 |_,_,_=>False
variable{rk}
theorem Ds.len:∀{gs:Y (Y Keyed)} {ps:Y (Nat×Nat×Nat)} {lo:Nat},Ds rk lo gs ps->gs.length=ps.length
 |[],[],_,_=>rfl
 |g::gs,(a,n,q)::ps,lo,h=>congrArg (·+1) (Ds.len h.2.2.2.2)
 |[],_::_,_,h=>h.elim
 |_::_,[],_,h=>h.elim
theorem Ds.snoc:∀{gs:Y (Y Keyed)} {ps:Y (Nat×Nat×Nat)} {lo:Nat} {g:Y Keyed} {q:Nat},Ds rk lo gs ps->g≠[]->g.Pairwise (Le rk)->Ds rk lo (gs++[g]) (ps++[(lo+gs.flatten.length,g.length,q)])
 |[],[],_,g,q,_,h1,h2=>⟨rfl,rfl,h1,h2,trivial⟩
 |f::gs,(a,n,r)::ps,lo,g,q,h,h1,h2=>by
  have b:=Ds.snoc (q:=q) h.2.2.2.2 h1 h2;rw[Nat.add_assoc,<-zr,<-eR]at b;exact⟨h.1,h.2.1,h.2.2.1,h.2.2.2.1,b⟩
 |[],_::_,_,_,_,h,_,_=>h.elim
 |_::_,[],_,_,_,h,_,_=>h.elim
theorem Ds.pw{f:Nat×Nat×Nat->Nat×Nat×Nat}(b:∀a n q,∃r,f (a,n,q)=(a,n,r)):∀{gs:Y (Y Keyed)} {ps:Y (Nat×Nat×Nat)} {lo i:Nat},Ds rk lo gs ps->Ds rk lo gs (ps.modify i f)
 |[],[],_,i,_=>by cases i<;>trivial
 |g::gs,(a,n,q)::ps,lo,0,h=>by
  obtain⟨r,e⟩:=b a n q;show Ds rk lo (g::gs) (f (a,n,q)::ps);rw[e];exact h
 |g::gs,(a,n,q)::ps,lo,i+1,h=>⟨h.1,h.2.1,h.2.2.1,h.2.2.2.1,Ds.pw b h.2.2.2.2⟩
 |[],_::_,_,_,h=>h.elim
 |_::_,[],_,_,h=>h.elim
theorem Ds.two:∀{i:Nat} {gs:Y (Y Keyed)} {ps:Y (Nat×Nat×Nat)} {lo:Nat},Ds rk lo gs ps->i+1<ps.length->∃G g g' b p q,gs=G++g::g'::b/\ps[i]?=Z (lo+G.flatten.length,g.length,p)/\ps[i+1]?=Z (lo+G.flatten.length+g.length,g'.length,q)/\g≠[]/\g'≠[]/\g.Pairwise (Le rk)/\g'.Pairwise (Le rk) ∧
   ∀m:Y Keyed,m.length=g.length+g'.length->m.Pairwise (Le rk)->Ds rk lo (G++m::b) ((ps.set i (lo+G.flatten.length,g.length+g'.length,p)).eraseIdx (i+1))
 |0,g::g'::b,(a,n,p)::(a',n',q)::ps,lo,h,_=>by
  obtain⟨rfl,rfl,h1,h2,rfl,rfl,j,l,d⟩:=h;refine⟨[],g,g',b,p,q,rfl,rfl,rfl,h1,j,h2,l,λm c f=>⟨rfl,c.symm,?_,f,?_⟩⟩
  ·intro e;rw[e]at c;have:=dk.mpr h1;simp at c;omega
  ·rw[c,<-Nat.add_assoc];exact d
 |i+1,g::gs,(a,n,p)::ps,lo,h,hi=>by
  obtain⟨G,k,o,b,p',s,e,e1,e2,h1,h2,j,l,d⟩:=Ds.two (i:=i) h.2.2.2.2 (by simpa using hi);have ex:lo+g.length+G.flatten.length=lo+(g::G).flatten.length:=by rw[eR,zr];omega
  rw[ex]at e1 e2 d;exact⟨g::G,k,o,b,p',s,by rw[e];rfl,e1,e2,h1,h2,j,l,λm c f=>⟨h.1,h.2.1,h.2.2.1,h.2.2.2.1,d m c f⟩⟩
 |_,[],[],_,_,hi=>by cases hi
 |0,_,[_],_,_,hi=>by simp at hi
 |_,[],_::_,_,h,_=>h.elim
 |_,_::_,[],_,h,_=>h.elim
 |0,[_],_::_::_,_,h,_=>h.2.2.2.2.elim
end
section
variable{b:Array Keyed}
structure St (rk:Value->Nat) (kd:SortKind) (b:Array Keyed) (R:List Keyed) (gs:List (List Keyed)) (t:SortSt):Prop where
 kd:kindOf t=kd
 fl:failedOf t=none
 pm:(arrOf t).Perm b
 ar:(arrOf t).toList=gs.flatten++R
 ds:Ds rk 0 gs (pendingOf t).toList
theorem YK{R:Y Keyed}{gs:Y (Y Keyed)}{Q:Bool->SortSt->Prop}(v:KC prog w A s kd rk b)(S:St rk kd b R gs t)(hi:i+1<(pendingOf t).size)(h:∀a t',St rk kd b R a t'->a.flatten.length=gs.flatten.length->a.length+1=gs.length->Q true t'):wpS (A8 prog w) A E s (IG i) Q t:=by
 obtain⟨G,g,f,j,p,q,e,e1,e2,h1,h2,y,B,l⟩:=Ds.two S.ds (i:=i) (by simpa using hi);rw[JJ]at e1 e2 l;rw[Kk]at e1 e2;have c:(AM t).toList=G.flatten++(g++f)++(j.flatten++R):=by rw[S.ar,e];simp
 have x:∀z∈(AM t).toList,z∈b.toList:=λz F=>(cz.mp S.pm).mem_iff.mp F;refine Tk (rk:=rk) v S.kd S.fl x c e1 e2 Y2 Y2 Y2 Y2 h1 h2 y B λt' m o u D d C k=>?_;have n:m.length=g.length+f.length:=by rw[d.length_eq,zr]
 refine h (G++m::j) t' ⟨o,u,?_,by rw[k];simp,?_⟩ (by rw[e];simp[n];omega) (by rw[e];simp only[zr,Z3];omega)
 ·refine Array.Perm.trans ?_ S.pm;rw[cz,k,c];exact(d.append_left _).append_right _
 ·rw[D];have:=l m n C;simpa using this
theorem O8{st:SortSt}{Q:Unit->SortSt->Prop}(F:KC prog w A s kd rk b)(B:Bs kd b st)(h2:2<=b.size)
  (h:∀t,(AM t).Perm b->failedOf t=O->Up rk (AM t) b.size->Q dl t):wpS (A8 prog w) A E s sortRuns' Q st:=by
 rw[sortRuns'_eq];refine AL (wpS_get ?_);rw[B.sz];generalize minRun' b.size b.size 0=mr;dsimp only;refine AL (wpS_mono (wpS_forRange (I:=λx c t=>∃gs R,c=(O,gs.flatten.length)/\St rk kd b R gs t/\x<=gs.flatten.length) (Q:=λc t=>c.1=O/\∃gs,St rk kd b [] gs t) ?_ ?_ ⟨[],(AM st).toList,rfl,⟨B.kd,B.fl,B.pm,rfl,by rw[B.pd];trivial⟩,qr _⟩) ?_)
 ·rintro x c t _ hx ⟨gs,R,rfl,S,hl⟩;have sz:gs.flatten.length+R.length=b.size:=by
   rw[<-zr,<-S.ar,ZO];exact S.pm.size_eq
  dsimp only;by_cases ge:gs.flatten.length>=b.size
  ·rw[zk ge];have:R=[]:=jv ();subst this;exact wpS_pure ⟨rfl,gs,S⟩
  rw[zv ge];refine AL (SH (rk:=rk) (u:=t) (lo:=gs.flatten.length) (by rw[S.kd];exact F) () () ⟨S.pm,rfl,rfl,rfl,λ_ _=>Y2⟩ λn t' B' n1 n2 K=>?_);have body:∀(t1:SortSt) (m:Nat),Bo gs.flatten.length b t t1->1<=m->m<=b.size-gs.flatten.length->D6 rk gs.flatten.length (AM t1) m->∃g v,g.length=m/\g≠[]/\g.Pairwise (Le rk)/\St rk kd b (g++v) gs t1:=λt1 m l H m2 K=>by
   have z1:(AM t1).toList.length=b.size:=by rw[ZO];exact l.sz
   have e:(AM t1).toList.take gs.flatten.length=gs.flatten:=by
    apply List.ext_getElem?;intro k;by_cases hk:k<gs.flatten.length
    ·rw[eV hk,Kk,l.ot k hk,<-Kk,S.ar,ZZ hk]
    ·rw[dy (by rw[ZT];omega),dy ()]
   have o:(((AM t1).toList.drop gs.flatten.length).take m).length=m:=by rw[ZT,qc,z1];omega
   refine⟨((AM t1).toList.drop gs.flatten.length).take m,((AM t1).toList.drop gs.flatten.length).drop m,o,λz=>by rw[z]at o;simp at o;omega,dc.mpr λi j hi P X=>?_,⟨l.kd.trans S.kd,l.fl.trans S.fl,l.pm,?_,by rw[l.pd];exact S.ds⟩⟩
   ·rw[o]at hi P;have:=K i j () P;unfold al at this;rw[CG (show gs.flatten.length+i<(AM t1).size by rw[l.sz];omega),CG (show gs.flatten.length+j<(AM t1).size by rw[l.sz];omega)]at this;rw[JU,JU,JY,JY];exact this
   ·rw[qi]
    conv=>rhs;lhs;rw[<-e]
    exact(qi _ _).symm
  have C:KC prog w A s (kindOf t) rk b:=by rw[S.kd];exact F
  dsimp only;have e0:minRun' b.size b.size 0=minRun' b.size b.size 0:=rfl;generalize a2:minRun' b.size b.size 0=mr;by_cases c:n<mr
  case' pos=>
   rw[zk c];refine AL (wpS_lift (QP ⟨rfl,AL (Na (rk:=rk) (u:=t) C () () B' K λt1 l G=>?_)⟩));rw[zv ()];have H:1<=min (b.size-gs.flatten.length) mr:=by omega
   have m2:min (b.size-gs.flatten.length) mr<=b.size-gs.flatten.length:=by omega
   generalize min (b.size-gs.flatten.length) mr=m at *
  case' neg=>
   rw[zv c];have l:=B';have G:=K;have H:=n1;have m2:=n2;generalize t'=t1 at l G ⊢;generalize n=m at H m2 G ⊢
  all_goals
   obtain⟨g,v,o,hg,J,W⟩:=body t1 m l H m2 G;have U:∀d t2,St rk kd b (g++v) d t2->d.flatten.length=gs.flatten.length->∃L a1,((O:Y3 Unit),gs.flatten.length+m)=(O,L.flatten.length)/\St rk kd b a1 L (setPending t2 ((pendingOf t2).push (gs.flatten.length,m,0)))/\x+1<=L.flatten.length:=λd t2 f e2=>by
    have l2:(d++[g]).flatten.length=gs.flatten.length+m:=by simp[<-e2,o]
    refine⟨d++[g],v,by rw[l2],⟨f.kd,f.fl,f.pm,?_,?_⟩,by rw[l2];omega⟩
    ·show(AM t2).toList=_;rw[f.ar];simp
    ·have:=f.ds.snoc (q:=0) hg J;rw[JJ,e2,o]at this;show Ds rk 0 _ ((pendingOf t2).push _).toList;rw[ko];exact this
   refine AL (wpS_get ?_);split
   ·refine AL (wpS_mono (wpS_forRange (I:=λx c t=>c=(O,dl)/\∃d,St rk kd b (g++v) d t/\d.flatten.length=gs.flatten.length) (Q:=λc t=>c=(O,dl)/\∃d,St rk kd b (g++v) d t/\d.flatten.length=gs.flatten.length) ?_ (λ_ _ q=>q) ⟨rfl,gs,W,rfl⟩) ?_)
    ·rintro y c t2 _ _ ⟨rfl,d,f,e2⟩;refine AL (wpS_get ?_);by_cases z:(pendingOf t2).size>1
     ·rw[zk z];split
      ·split
       ·exact wpS_pure ⟨rfl,d,f,e2⟩
       ·refine AL (YK F f () λM t3 N e3 _=>?_);rw[zv ()];exact wpS_pure ⟨rfl,M,N,e3.trans e2⟩
      ·exact wpS_pure ⟨rfl,d,f,e2⟩
     ·rw[zv z];exact wpS_pure ⟨rfl,d,f,e2⟩
    ·rintro c t2 ⟨rfl,d,f,e2⟩;dsimp only;refine AL (wpS_modify (AL (wpS_modify (wpS_pure ?_))));refine U d _ ⟨f.kd,f.fl,f.pm,f.ar,?_⟩ e2;show Ds rk 0 _ ((pendingOf t2).modify _ _).toList;rw[Array.toList_modify];exact f.ds.pw λa n q=>⟨_,rfl⟩
   ·exact AL (wpS_modify (wpS_pure (U gs t1 W Y2)))
 ·rintro c t ⟨gs,R,rfl,S,hl⟩;have sz:gs.flatten.length+R.length=b.size:=by
   rw[<-zr,<-S.ar,ZO];exact S.pm.size_eq
  have:R=[]:=jv ();subst this;exact⟨rfl,gs,S⟩
 rintro⟨c,lo⟩ t ⟨hc,gs,S⟩;simp only at hc;subst hc;dsimp only;refine AL (wpS_mono (wpS_forRange (I:=λx c t=>c=(O,dl)/\∃gs,St rk kd b [] gs t/\(gs.length+x<=b.size\/gs.length<=1)) (Q:=λc t=>c=(O,dl)/\∃gs,St rk kd b [] gs t/\gs.length<=1) ?_ ?_ ⟨rfl,gs,S,.inl ?_⟩) ?_)
 ·rintro x c t _ hx ⟨rfl,gs,S,hl⟩;have lp:gs.length=(pendingOf t).size:=by rw[S.ds.len,ZO]
  refine AL (wpS_get ?_);by_cases z:(pendingOf t).size<=1
  ·rw[zk z];exact wpS_pure ⟨rfl,gs,S,by omega⟩
  rw[zv z];have le:∀(p:Prop) [Decidable p] (a:Nat),(if p then a-1 else a)<=a:=λp _ a=>by split<;>omega
  refine AL (YK F S (g6 (yo (le _ _)) ()) λM t3 N e3 l3=>?_);rw[zv ()];exact wpS_pure ⟨rfl,M,N,by omega⟩
 ·rintro c t ⟨rfl,gs,S,hl⟩;exact⟨rfl,gs,S,by omega⟩
 ·have:∀{gs:Y (Y Keyed)} {ps:Y (Nat×Nat×Nat)} {lo:Nat},Ds rk lo gs ps->gs.length<=gs.flatten.length:=by
   intro gs
   induction gs with
   |nil=>intro ps lo _;exact zi _
   |cons g gs ih=>
    intro ps lo h;cases ps with
    |nil=>exact h.elim
    |cons p ps=>
     obtain⟨a,n,q⟩:=p;have:=ih h.2.2.2.2;have:=dk.mpr h.2.2.1;rw[eR,zr,Z3];omega
  have:=this S.ds;have sz:gs.flatten.length=b.size:=by
   have:=congrArg hP S.ar;rw[Qr,ZO]at this;exact this.symm.trans S.pm.size_eq
  omega
 ·rintro c t ⟨rfl,gs,S,hl⟩;refine wpS_pure (h t S.pm S.fl ?_);have D:=S.ar;have ds:=S.ds;have sz:=S.pm.size_eq
  match gs,hl,D,ds with
  |[],_,D,ds=>
   have:(AM t).size=0:=by rw[<-ZO,D];rfl
   omega
  |[g],_,D,ds=>
   generalize (pendingOf t).toList=ps at ds
   match ps,ds with
   |(a,n,q)::_,ds=>
    have J:=ds.2.2.2.1;have e:(AM t).toList=g:=by rw[D];simp
    rw[<-e]at J;intro i j X P;rw[CG (show i<(AM t).size by omega),CG (show j<(AM t).size by omega)];exact yg J X ()
end
theorem U2{b:Array Keyed}:Rn prog w A kd rk b:=λ_ _ _ _ a B h2 q=>O8 a B h2 q
end S1
namespace P1
open L2 S6
section
variable{fs:Ev->Y3 At}{p:Pos}
end
section
variable{xs:At}
end
section
variable{xs:At}
variable{fs:Ev->Y3 At}{p':Pos}
end
end P1
namespace P1
open L2 S1 S6
section
variable [DecidableEq α]
end
section
def F1(ks:Y AY):Bool:=ks.any λk=>k.isRight
variable{fs:Ev->Y3 (Y (Y AY))}{p:Pos}
end
end P1
namespace P1
open L2
section
variable{kx vx:Expr}{xs:At}{fk:Ev->Y3 Bx}
end
section
variable{ks:Y (AY×V)}{o:AE}
end
section
variable{fd:Ev->Y3 Bx}{xs:At}
end
theorem RT{R:α->β->Prop}:∀{xs:Y α} {ys:Y β},AI R xs ys->∀{i:Nat} {x:α},xs[i]?=Z x->∃y,ys[i]?=Z y/\R x y:=by
 intro xs ys h
 induction h with
 |nil=>intro i x q;simp at q
 |cons r _ a=>
  intro i x q;cases i with
  |zero=>simp at q;subst q;exact⟨_,rfl,r⟩
  |succ i=>
   rw[fL]at q;obtain⟨y,y1,y2⟩:=a q;exact⟨y,by rw[fL];exact y1,y2⟩
section
variable{fs:Ev->Y3 (Y Bx)}{p px spos:Pos}{f:A1}{G:A1->Y (AY×Dt)->Y Bx->Y3 (Y (AY×Dt))}
end
section
variable{st:Y AB}
end
open AutoSeq1 (wpAny_loadPart')
open SeqAt
theorem Lv(I:L2.AU X AN σ H s)(h:tX X.K H a xs):∃AQ:Y A0,AX xs AQ/\oK s.heap a AQ.toArray:=by
 rcases h with h|⟨o,AQ,n,hk,b,c,d,r⟩
 ·obtain⟨z,AQ,r,p⟩:=h.ok I.hok;exact⟨AQ,r,p⟩
 ·exact⟨AQ.toList,r,o,I.kIn a o hk,b.1,⟨n,by simpa using c⟩,b.2⟩
section
variable{o:Expr}{fx:Ev->Y3 Bx}
end
section
variable{t:Ev->Y3 Bool}
end
section
variable{h':A6}
theorem Uo{t':Nat}{e:A1}(I:L2.AU X AN σ H s)(k:∀b o,b≠e->b≠it->s.heap.get? b=Z o->h'.get? b=Z o)(fe:sH X AN H e)(fi:sH X AN H it)(p:∃o,h'.get? e=Z o)(hi:∃o,h'.get? it=Z o)(new:jB X.prog X.w (BA H s.heap.objs.size (.tup xs)) h' s.heap.objs.size (.tup xs)):L2.AU X AN σ (BA H s.heap.objs.size (.tup xs)) { s with heap:=h',toks:=t' }:=by
 have l:H s.heap.objs.size=O:=I.hok.fresh (zi _);have g:∀b u,H b=Z u->b≠s.heap.objs.size:=λb u q z=>by rw[z,l]at q;cases q
 have h:∀b u,H b=Z u->b≠e/\b≠it:=λb u q=>⟨λz=>(by rw[z,fe.1]at q;cases q),λz=>(by rw[z,fi.1]at q;cases q)⟩;have f:∀b,b∉[e,it]->b≠e/\b≠it:=λb d=>⟨λz=>d (by simp[z]),λz=>d (by simp[z])⟩;refine I.step (g':=s.gens) (d':=s.drawn) (ch:=[e,it]) (λb d=>?_) (λb o _ _ a q _=>k b o (f b a).1 (f b a).2 q) (λb o _ _ a q _=>⟨o.slots,k b o (f b a).1 (f b a).2 q⟩) (λb o _ q n=>?_)
  (λb o a q=>⟨o,k b o (f b a).1 (f b a).2 q⟩) (λb ys q=>?_) (λb o u q=>?_) (λb ps q=>⟨#[],?_⟩) (λm j=>?_) (λb u q=>?_) I.bare
 ·rcases bc.mp d with rfl|d
  ·exact⟨fe.2.2.2.1,fe.2.1,fe.2.2.2.2.1,fe.2.2.2.2.2⟩
  ·cases cf.mp d;exact⟨fi.2.2.2.1,fi.2.1,fi.2.2.2.2.1,fi.2.2.2.2.2⟩
 ·rw[aM (ZI (zI q))];exact n
 ·rw[aM (g b _ q)];exact q
 ·rw[aM (g b _ q)];exact q
 ·rw[aM (g b _ q),q];simp
 ·obtain⟨o,es,ep,i,r⟩:=j;exact⟨o,es,ep,k _ o (kX fe.2.1) (kX fi.2.1) i,r⟩
 ·by_cases d:b=s.heap.objs.size
  ·subst d;rw[bH]at q;cases q;exact new
  ·rw[aM d]at q;refine(I.hok b u q).stay (λc v a w=>k c v ?_ ?_ w) (λc w=>?_) (λc ys w=>?_) λc o' t w=>?_
   ·rcases a with rfl|z
    ·exact(h _ _ q).1
    ·exact(h _ _ z).1
   ·rcases a with rfl|z
    ·exact(h _ _ q).2
    ·exact(h _ _ z).2
   ·rw[aM (g c _ w)];exact w
   ·rw[aM (g c _ w)];exact w
   ·rw[aM (g c _ w)];exact w
end
def GT(K:B8)(l:A1):It:=
 ⟨λi H=>∃xs x,qC K H l xs/\xs[i]?=Z x,λi H v H'=>∃p x,H p=O/\(∀xs,qC K H l xs->xs[i]?=Z x)/\v=.ref p/\H'=BA H p (.tup [.int i,x]),λi H=>∃xs,qC K H l xs/\xs.length<=i⟩
theorem V2(l e it:A1)(A:e≠it):
  CD P w K (.Tuple elts x1 tpos) (GT K l) [e,it] e (λi h=>(∃old,IsEnum h e it i old)/\h.IsListIter it l i) where
 mem:=by simp
 obj:=λi h st b a=>by
  obtain⟨⟨old,h1⟩,o,h2,_,h3⟩:=st;rcases bc.mp a with rfl|a
  ·exact⟨_,h1,λv z=>by cases z⟩
  ·cases cf.mp a;exact⟨o,h2,λv z=>by rw[h3]at z;cases z⟩
 keep:=λi h h' st k=>by
  obtain⟨⟨old,h1⟩,h2⟩:=st;exact⟨⟨old,k e (by simp) _ h1⟩,h2.at λo q=>k it (by simp) o q⟩
 item:=by
  intro X f g j C i AN s σ H E I c st n;subst f g j;obtain⟨⟨old,h1⟩,h2⟩:=st;obtain⟨xs,x,d,hx⟩:=n;obtain⟨AQ,t,p,W⟩:=I.list d;obtain⟨u,N,S⟩:=t.get hx;have fe:=c e (by simp);have fi:=c it (by simp);refine wpAny_pyNext_enum_item h1 h2 p.isList (x:=u) (by simpa using N) A λa3 ho a1 M a2 hk=>⟨_,rfl,?_⟩;refine wpAny_letOwnedTupleGo_enum ho λB y m=>?_;have elt:e<s.heap.objs.size:=zI h1;have U:it<s.heap.objs.size:=by obtain⟨_,q,_⟩:=h2;exact zI q
  have Q:B.get? s.heap.objs.size=Z { cls:=.type "tuple",data:=.seq #[.int i s.toks,u] }:=(m.2 _ (kD elt)).trans M;have D:B.IsListIter it l (i+1):=a1.at λo q=>(m.2 it (kX A)).trans q;refine⟨.ref s.heap.objs.size,BA H s.heap.objs.size (.tup [.int i,x]),Uo (t':=s.toks+1) I (λb o F n2 q=>(m.2 b F).trans (hk b o F n2 q)) fe fi ⟨_,y⟩ (by obtain⟨o,q,_⟩:=D;exact⟨o,q⟩) ?_,rfl,⟨_,x,I.hok.fresh (zi _),λys G=>by rw[I.Ey G d];exact hx,rfl,rfl⟩,⟨⟨_,by simpa using y⟩,D⟩,λb a=>?_⟩
  ·exact⟨by show 2<=AA;decide,[.int i s.toks,u],.cons ⟨_,rfl⟩ (.cons S .nil),_,Q,rfl,⟨_,rfl⟩,rfl⟩
  ·rcases bc.mp a with rfl|a
   ·rw[aM (ZI elt)];exact fe.1
   ·cases cf.mp a;rw[aM (ZI U)];exact fi.1
 done:=by
  intro X f g j C i AN s σ H E I c st n;subst f g j;obtain⟨⟨old,h1⟩,h2⟩:=st;obtain⟨xs,d,hx⟩:=n;obtain⟨AQ,t,p,W⟩:=I.list d;obtain⟨f0,f1,f2,f3,J,L⟩:=c it (by simp);have hl:=t.length;exact wpAny_pyNext_enum_end (I.ok.hd C) h1 h2 p.isList (by simp;omega) λh' eb=>⟨rfl,I.turned (t':=s.toks) (λb o a e=>eb b o a e) f0 f1 f3 J L⟩
 self:=λ_ _ _ _ _ st h=>by
  obtain⟨⟨old,h1⟩,_⟩:=st;exact ya h1 h
def CJ(ds:Y Dt):Y Dt:=(da ds.length).zipWith (λk d=>.tup [.int (k:Nat),d]) ds
theorem Jw(ds:Y Dt):(CJ ds).length=ds.length:=by simp[CJ]
theorem V3(h:(CJ ds)[i]?=Z d):∃c,ds[i]?=Z c/\d=.tup [.int (i:Nat),c]:=by
 have hi:i<ds.length:=by
  have:=(ca.mp h).1;rwa [Jw]at this
 refine⟨ds[i],by simp[hi],?_⟩;unfold CJ at h;rw[gm]at h;simp[hi]at h;exact h.symm
theorem B7.enum(h:qC K Hs l vs)(r:aH K Hs ds vs):B7 K (GT K l) (CJ ds) Hs:=λi H s=>by
 have h':=s.seq h;have g:=r.kp (.of s);refine⟨λd e=>?_,λe=>⟨vs,h',by rw[Jw]at e;rw[r.length];exact e⟩⟩;obtain⟨c,f,rfl⟩:=V3 e;obtain⟨v,ev,j⟩:=g.get f;refine⟨⟨vs,v,h',ev⟩,λx H' y=>?_⟩;obtain⟨p,m,hp,k,rfl,rfl⟩:=y;have:=k vs h';rw[ev]at this;cases this;have a:AV H (BA H p (.tup [.int (i:Nat),v])):=λb o q=>by rw[aM (cH q hp)];exact q
 refine⟨a,?_⟩;simp only[AW];exact⟨p,_,rfl,.inl (.inl bH),aH.cons (by simp only[AW]) (aH.cons (AW.kp (.of a) j) aH.nil)⟩
section
variable{p:Pos}{fs:Ev->Y3 (Y Bx)}
def V'(K:B8)(ta:TA):TI:=λσ H R=>ta σ H λvs H1=>∃l,vs=[.ref l]/\(∃xs,qC K H1 l xs)/\R (GT K l) H1
theorem Mn{ta:TA}(g:Gl X "enumerate")(j:X.mg "enumerate"=O)(f:PA X [e] ta)(hs:A9 [e] X.env=[(false,eval e X.env)]:=by rfl):PI X (.Tuple elts x1 tpos) (.Call (.Name "enumerate" p) [e] [] pos) (V' X.K ta):=by
 intro AN s σ H R I h;refine Call_ (vH I g j boot_enumerate (PyProof.Rows.callWith_type1 (jF (f pos AN s σ H _ I h) λus s1 ⟨vs,H1,I1,r1,q1⟩=>?_) hs Y2));obtain⟨l,rfl,⟨xs,d⟩,q⟩:=q1;obtain⟨u,rfl,i⟩:=BE r1;cases i;obtain⟨AQ,n,p,o⟩:=I1.list d;refine call_enumerate_list p.isList λh' c k m hk=>?_;refine ya c ?_;refine⟨s1.heap.objs.size+1,[s1.heap.objs.size+1,s1.heap.objs.size],_,_,H1,rfl,I1.kept (t':=s1.toks) hk,V2 l _ _ (kD (Nat.lt_succ_self _)),⟨⟨_,c⟩,k⟩,λb a=>?_,q⟩;rcases bc.mp a with rfl|a
 ·exact I1.Nt (Kx _) (I1.hok.fresh (Kx _))
 ·cases cf.mp a;exact I1.Nt (zi _) (I1.hok.fresh (zi _))
def O9:Y Bx->Y3 (Y Dt)
 |[b]=>(sO b).bind λds=>Z (CJ ds)
 |_=>O
theorem YM(h:Gl X "enumerate")(l:X.mg "enumerate"=O)(d:ET X [e] fs)(hs:A9 [e] X.env=[(false,eval e X.env)]:=by rfl):MH X (.Tuple elts x1 tpos) (.Call (.Name "enumerate" p) [e] [] pos) (λρ=>(fs ρ).bind O9):=λAN s σ H R I q=>by
 refine Mn h l d hs AN s σ H R I ?_;obtain⟨H0,ρ,ds,E,e,q⟩:=q;obtain⟨bs,eb,e⟩:=AT e;refine⟨H0,ρ,bs,E,eb,λvs H1 k i=>?_⟩;unfold O9 at e;split at e
 ·rename_i b;obtain⟨m,g,e⟩:=AT e;cases e;obtain⟨v,rfl,j⟩:=BT i;obtain⟨a,f,rfl,sq,c⟩:=j.HB g;exact⟨a,rfl,⟨f,sq⟩,q _ _ k (.enum sq c)⟩
 ·cases e
theorem YQ(c:Gl X "enumerate")(b:X.mg "enumerate"=O)(a:T3 X [e] fs)(hs:A9 [e] X.env=[(false,eval e X.env)]:=by rfl):EJ X (.Tuple elts x1 tpos) (.Call (.Name "enumerate" p) [e] [] pos) (λρ=>(fs ρ).bind O9):=⟨YM c b a.run hs⟩
end
def V4(i:Nat):Ev->Y3 Ap:=λρ=>match ρ[i]? with
 |some (Z (.o ds))=>Z (.nx (ρ.set i (Z (.o ds.reverse))))
 |_=>O
theorem Pa{K:B8}{H:Hp}:∀{ds:Y Dt} {vs:Y V},aH K H ds vs->aH K H ds.reverse vs.reverse
 |[],vs,h=>by
  cases vs with
  |nil=>exact h
  |cons v vs=>have:=h.length;simp at this
 |d::ds,vs,h=>by
  cases vs with
  |nil=>have:=h.length;simp at this
  |cons v vs=>
   obtain⟨a,r,e,q,t⟩:∃a r,v::vs=a::r/\AW K H d a/\aH K H ds r:=by
    simpa only[aH]using h
   cases e;rw[kn,kn];exact(Pa t).append (aH.cons q aH.nil)
theorem SL(i:Nat){p:Pos}(k:X.N[i]?=Z x:=by rfl)(l:WY X.env.scope x:=by first|exact ku rfl|exact Jn (ku Y2)|exact Jn (Jn Y2))(hd:ad x:=by decide)(f:(x==("__classdict__":AJ))=false:=by decide)(g:attributeBase (.Name x p) "reverse" X.env (eval (.Name x p) X.env)=eval (.Name x p) X.env:=by rfl)(d:(apos.endLine==cpos.line)=true:=by rfl)(hs:swapsWith (.Call (.Attribute (.Name x p) "reverse" apos) [] [] cpos) O pos.line X.env=pure false:=by rfl):
  Lc X (.Expr (.Call (.Attribute (.Name x p) "reverse" apos) [] [] cpos) pos) (V4 i):=
 XC (J5 (Ya yT PySem.F.slot_list_reverse PySem.F.type_list_reverse Rq (yC (i:=i) k l hd f) g d) hs) λD σ H h=>by
  obtain⟨H0,ρ,r,E,e,q⟩:=h;unfold V4 at e;split at e
  ·rename_i ds c;cases e;obtain⟨v,e1,a,vs,rfl,b,j⟩:=E.val i _ c;refine⟨_,e1,.inl ⟨rfl,vs,.inl (.inl b)⟩,a,vs,rfl,rfl,b,q _ _ ?_⟩;exact E.Rp c e1 b (Pa j)
  ·cases e
theorem OP(i:Nat){p:Pos}(d:X.N[i]?=Z x:=by rfl)(e:WY X.env.scope x:=by first|exact ku rfl|exact Jn (ku Y2)|exact Jn (Jn Y2))(hd:ad x:=by decide)(b:(x==("__classdict__":AJ))=false:=by decide)(c:attributeBase (.Name x p) "reverse" X.env (eval (.Name x p) X.env)=eval (.Name x p) X.env:=by rfl)(a:(apos.endLine==cpos.line)=true:=by rfl)(hs:swapsWith (.Call (.Attribute (.Name x p) "reverse" apos) [] [] cpos) O pos.line X.env=pure false:=by rfl):
  Vy X (.Expr (.Call (.Attribute (.Name x p) "reverse" apos) [] [] cpos) pos) (V4 i):=⟨SL i d e hd b c a hs⟩
section
variable{ek ev:Expr}{fk:Ev->Y3 Bx}
end
section
variable{st:Expr}{fs:Ev->Y3 Bx}
end
theorem PH{t:A1}{xs:Array A0}{x:A0}(hi:s.heap.IsTupleIter it t i)(e:s.heap.IsTuple t xs)(hx:xs[i]?=Z x)(d:∀h',h'.IsTupleIter it t (i+1)->Heap.SameBut it s.heap h'->Q x { s with heap:=h' }):A7 (A8 prog w) A (Builtin.SmallTypes.nextOf (.ref it)) Q E s:=by
 obtain⟨o,a,c,hd⟩:=id hi;obtain⟨p,hp,_,n,b⟩:=e;unfold Builtin.SmallTypes.nextOf;refine zb (QQ (name:=Str.ofString "__next__") hi.typeIs kC (jn kC hi.typeIs F.entry_tuple_iterator_next ?_ (F.args_tuple_iterator_next_1 _)));show A7 _ _ (field (.ref it) 0 >>= _) _ _ s;refine zb (QN a hd (x:=.ref t) Y2 ?_);show A7 _ _ (if(Value.ref t==Value.none)=true then _ else _) _ _ s;rw[zv (show ¬ ((Value.ref t==Value.none)=true) from ZA)];show A7 _ _ (field (.ref it) 1 >>= _) _ _ s;refine zb (QN a hd (x:=.int i 0) Y2 ?_);show A7 _ _ (seqItems? (.ref t) >>= _) _ _ s;refine zb (wpAny_seqItems hp b ?_);simp only[QU,hx];refine zb (wpAny_setField a hd (by simp) (zd ⟨x,rfl,zd (d _ ?_ (JI ..))⟩));exact⟨_,Heap.get?_update_self _ a (Obj.isFreed_of_fields (Obj.data_mapFields hd _)),(Obj.cls_mapFields ..).trans c,by rw[Obj.data_mapFields hd];simp[rawInt]⟩
theorem RW{t:A1}{xs:Array A0}(c:A.handled=O)(hi:s.heap.IsTupleIter it t i)(f:s.heap.IsTuple t xs)(hx:xs[i]?=O)(g:∀h' e,Heap.ExtBut it s.heap h'->(∃o,h'.get? e=Z o/\o.cls=.type "StopIteration")->E (.ref e) { s with heap:=h' }):A7 (A8 prog w) A (Builtin.SmallTypes.nextOf (.ref it)) Q E s:=by
 obtain⟨o,b,h,hd⟩:=id hi;obtain⟨p,hp,_,n,d⟩:=f;unfold Builtin.SmallTypes.nextOf;refine zb (QQ (name:=Str.ofString "__next__") hi.typeIs kC (jn kC hi.typeIs F.entry_tuple_iterator_next ?_ (F.args_tuple_iterator_next_1 _)));show A7 _ _ (field (.ref it) 0 >>= _) _ _ s;refine zb (QN b hd (x:=.ref t) Y2 ?_);show A7 _ _ (if(Value.ref t==Value.none)=true then _ else _) _ _ s;rw[zv (show ¬ ((Value.ref t==Value.none)=true) from ZA)];show A7 _ _ (field (.ref it) 1 >>= _) _ _ s;refine zb (QN b hd (x:=.int i 0) Y2 ?_);show A7 _ _ (seqItems? (.ref t) >>= _) _ _ s;refine zb (wpAny_seqItems hp d ?_);simp only[QU,hx];refine zb (QP (zb (wpAny_setField b hd (by simp) ?_)));show A7 _ _ (newExc (.type "StopIteration") [] >>= _) _ _ _;refine zb ?_;simp only[newExc,newTuple];refine zb (qA ?_ (by size_fits));refine zb (m:=firstArgMember _ _) (wpAny_of_eq (a:=Value.none) (by first|rfl|(simp only[firstArgMember];rfl)) ?_);refine qA ?_ (by size_fits);simp only[raiseNew];refine zb (wpAny_handled ?_)
 first|rw[show A.in1.handled=O from c]|rw[c]
 refine zb (zd (wpAny_throw ?_));exact g _ _ (((JI ..).extBut.push _).push _) ⟨_,zS _ rfl,rfl⟩
section
variable{K:Type} [DecidableEq K] {knd:KeyKind prog w K}
end
section
variable{ea eb:Expr}{p1 pos1 pos2:Pos}
end
theorem ur(xs:At)(is:Y Nat)(a:closureFor scope X.env=pure cl:=by with_unfolding_all rfl)(b:scope.kind=.function:=by rfl)(d:scope.names.all (λy=>decide (y.2≠.cell)||(cl.lookup y.1).isNone)=true:=by rfl)(c:scope.names.all (λy=>decide (y.2=.local->scope.names.lookup y.1=Z .local))=true:=by decide +kernel)(sub:C7 X.env.cells cl:=by repeat (first|exact trivial|refine⟨rfl,?_⟩))(has:(relabel scope X.env).names.all (λy=>!(y.2==.cell||y.2==.free)||(cl.lookup y.1).isSome||scope.names.contains (y.1,.cell))=true:=by rfl)(e:HN X scope cl xs is:=by repeat (first|exact SK|refine Sn Y2 (by first|exact .inl rfl|exact .inr Y2) (by first|exact .inl rfl|exact .inr Y2) ⟨_,rfl⟩ ?_)):vN X scope cl xs is:=ai a b d c sub has e
theorem jN{a:Scope}(h1:a.kind=.function:=by rfl)(h2:a.isCoroutine=false:=by rfl)(c:a.isGenerator=false:=by rfl)(e:N.Nodup:=by decide +kernel)(d:N.take ps.length=ps:=by rfl)(f:∀x∈ps,a.names.lookup x=Z .local\/a.names.lookup x=Z .cell:=by decide +kernel)(b:∀y∈a.names,y.2≠.free:=by decide +kernel):bD N ps a:=⟨h1,h2,c,e,d,f,b⟩
instance:Inhabited Dt:=⟨.non⟩
theorem Au(a:α)(f:α->Y3 β):(Z a).bind f=f a:=(hW a f).trans (Eq.refl _)
def B4:Y3 Prop->Prop
 |none=>True
 |some p=>p
def bw:Y3 Prop->Y3 Prop->Y3 Prop
 |none,q=>q
 |some p,O=>Z p
 |some p,Z q=>Z (p/\q)
def BJ(c:Prop):Y3 Prop->Y3 Prop
 |none=>O
 |some p=>Z (c->p)
theorem aC{p q:Y3 Prop}(h:B4 (bw p q)):B4 p/\B4 q:=by
 cases p with
 |none=>exact⟨trivial,h⟩
 |some p=>cases q with
  |none=>exact⟨h,trivial⟩
  |some q=>exact h
theorem jO{c:Prop}{p:Y3 Prop}(h:B4 (BJ c p))(a:c):B4 p:=by
 cases p with
 |none=>trivial
 |some p=>exact h a
structure R {α β:Type} (f:Ev->Option β) (ρ:Ev) (c:α->β) where
 v:α
 D:Option Prop
 ok:B4 D->f ρ=some (c v)
abbrev zE(e:α->Dt):α->Bx:=λa=>.z (e a)
abbrev oE(e:α->Dt):Y α->Bx:=λxs=>.o (xs.map e)
abbrev lE(e:α->Dt):Y α->Bx:=λxs=>.l (xs.map e)
abbrev tE:Bool->Bool:=λb=>b
abbrev iE(e:α->Dt):Y α->Y Dt:=λxs=>xs.map e
abbrev eI:Int->Dt:=Dt.int
abbrev eB:Bool->Dt:=Dt.bl
abbrev eS:AJ->Dt:=Dt.str
abbrev eD:Dt->Dt:=λd=>d
abbrev eN:Unit->Dt:=λ_=>.non
abbrev eL(e:α->Dt):Y α->Dt:=λxs=>.lst (xs.map e)
abbrev eT(e:α->Dt):Y α->Dt:=λxs=>.tup (xs.map e)
abbrev eO(e:α->Dt):Y3 α->Dt:=λo=>match o with|none=>.non|some a=>e a
abbrev HH(a:α->Dt):α->Dt:=λx=>.tup [a x]
abbrev W4(a:α->Dt)(b:β->Dt):α×β->Dt:=λx=>.tup [a x.1,b x.2]
abbrev RX(a:α->Dt)(b:β->Dt)(c:γ->Dt):α×β×γ->Dt:=λx=>.tup [a x.1,b x.2.1,c x.2.2]
abbrev E6(a:α->Dt)(b:β->Dt)(c:γ->Dt)(d:δ->Dt):α×β×γ×δ->Dt:=λx=>.tup [a x.1,b x.2.1,c x.2.2.1,d x.2.2.2]
structure RL {α:Type} (f:Ev->Option Bx) (ρ:Ev) (e:α->Dt) where
 v:List α
 D:Option Prop
 b:Bx
 lk:sO b=some (v.map e)
 ok:B4 D->f ρ=some b
section
variable{fs:Ev->Y3 (Y Bx)}{e:α->Dt}{e':β->Dt}
def gK(a:R f ρ (oE e)):RL f ρ e:=⟨a.v,a.D,_,rfl,a.ok⟩
def iT(a:R f ρ (lE e)):RL f ρ e:=⟨a.v,a.D,_,rfl,a.ok⟩
def vA(a:R f ρ (zE (eL e))):RL f ρ e:=⟨a.v,a.D,_,rfl,a.ok⟩
def Lp(b:Bx)(ds:Y Dt):Prop:=b=.z (.lst ds)\/b=.l ds
theorem Lp.HB(h:Lp b ds):sO b=Z ds:=by rcases h with rfl|rfl<;>rfl
theorem Lp.get{b:Bx}{ds:Y Dt}{i:Nat}(h:Lp b ds)(hi:ρ[i]?=Z (Z b)):Dy ρ i=Z b:=by
 rcases h with rfl|rfl<;>(unfold Dy;rw[hi])
theorem u0(h:sO b=Z ds):Lp (P1.lend b) ds:=by
 cases b with
 |z d=>cases d<;>cases h;exact .inl rfl
 |l d=>cases h;exact .inr rfl
 |o d=>cases h;exact .inr rfl
 |n d=>cases h
 |m d _=>cases h
def aq(i:Nat)(c:α->Bx)(a:α)(h:Dy ρ i=Z (c a)):R (gv i) ρ c:=⟨a,O,λ_=>h⟩
def fD(i:Nat)(e:α->Dt)(a:Y α)(h:Lp b (a.map e))(hi:ρ[i]?=Z (Z b)):RL (gv i) ρ e:=⟨a,O,b,h.HB,λ_=>h.get hi⟩
def oX(d:Dt)(e:α->Dt)(a:α)(h:d=e a):R (cB d) ρ (zE e):=⟨a,O,λ_=>by rw[h];rfl⟩
def oY(a:R f ρ (zE e)):R f ρ (zE eD):=⟨e a.v,a.D,a.ok⟩
def RZ(a:R f ρ (zE e)):R f ρ (zE (eO e)):=⟨Z a.v,a.D,a.ok⟩
def XT:R (cB .non) ρ (zE (eO e)):=⟨O,O,λ_=>Y2⟩
def Uq[Inhabited α](a:R f ρ (zE (eO e))):R f ρ (zE e):=⟨a.v.getD default,bw a.D (Z (a.v.isSome=true)),λh=>by
 obtain⟨h1,h2⟩:=aC h;rw[a.ok h1];have h2:a.v.isSome=true:=h2;cases b:a.v with
 |none=>rw[b]at h2;cases h2
 |some x=>rfl⟩
def Pb(a:R f ρ (oE e)):R (b1 xX f) ρ (zE (eL e)):=⟨a.v,a.D,λh=>by simp only[b1,a.ok h,Au,xX]⟩
def kj(a:R f ρ (zE e)):R (b1 xX f) ρ (zE e):=⟨a.v,a.D,λh=>by simp only[b1,a.ok h,Au,xX]⟩
def MD(a:R f ρ (zE eI)):R (b1 Km f) ρ (zE eI):=⟨-a.v,a.D,λh=>by simp only[b1,a.ok h,Au,Km]⟩
def gM(a:R fa ρ (zE eI))(b:R fb ρ (zE eI)):R (b2 dY fa fb) ρ (zE eI):=⟨a.v+b.v,bw a.D b.D,λh=>by
 obtain⟨h1,h2⟩:=aC h;simp only[b2,a.ok h1,b.ok h2,Au,dY]⟩
def CK(a:R fa ρ (zE eI))(b:R fb ρ (zE eI)):R (b2 CF fa fb) ρ (zE eI):=⟨a.v-b.v,bw a.D b.D,λh=>by
 obtain⟨h1,h2⟩:=aC h;simp only[b2,a.ok h1,b.ok h2,Au,i2]⟩
def G0(a b:Int):Prop:=(-18446744073709551616<a/\a<18446744073709551616)\/(-18446744073709551616<b/\b<18446744073709551616)
def MR(a:R fa ρ (zE eI))(b:R fb ρ (zE eI)):R (b2 zJ fa fb) ρ (zE eI):=⟨a.v*b.v,bw (bw a.D b.D) (Z (G0 a.v b.v)),λh=>by
 obtain⟨h,c⟩:=aC h;obtain⟨h1,h2⟩:=aC h;simp only[b2,a.ok h1,b.ok h2,Au];exact zk c⟩
def R0(n:Int)(a : -18446744073709551616<n/\n<18446744073709551616)(b:R fb ρ (zE eI)):R (b2 zJ (cB (.int n)) fb) ρ (zE eI):=⟨n*b.v,b.D,λh=>by
 simp only[b2,b.ok h,Au,cB];exact zk (.inl a)⟩
def Ur(a:R fa ρ (zE eI))(n:Int)(b : -18446744073709551616<n/\n<18446744073709551616):R (b2 zJ fa (cB (.int n))) ρ (zE eI):=⟨a.v*n,a.D,λh=>by
 simp only[b2,a.ok h,Au,cB];exact zk (.inr b)⟩
def Ga(a:R fa ρ (zE eI))(b:R fb ρ (zE eI)):R (b2 lC fa fb) ρ (zE eI):=⟨a.v / b.v,bw (bw a.D b.D) (Z (0<b.v/\b.v<1073741824)),λh=>by
 obtain⟨h,c⟩:=aC h;obtain⟨h1,h2⟩:=aC h;have c:0<b.v/\b.v<1073741824:=c;simp only[b2,a.ok h1,b.ok h2,Au,i2,zk c]⟩
def jo(a:R fa ρ (zE eI))(n:Int)(b:0<n/\n<1073741824):R (b2 lC fa (cB (.int n))) ρ (zE eI):=⟨a.v / n,a.D,λh=>by
 simp only[b2,a.ok h,Au,i2,cB,zk b]⟩
def Pg(a:R fa ρ (zE eI))(b:R fb ρ (zE eI)):R (b2 jm fa fb) ρ (zE eI):=⟨a.v%b.v,bw (bw a.D b.D) (Z (0<b.v)),λh=>by
 obtain⟨h,c⟩:=aC h;obtain⟨h1,h2⟩:=aC h;have c:0<b.v:=c;simp only[b2,a.ok h1,b.ok h2,Au,i2,zk c]⟩
def dG(a:R fa ρ (zE eI))(n:Int)(b:0<n):R (b2 jm fa (cB (.int n))) ρ (zE eI):=⟨a.v%n,a.D,λh=>by
 simp only[b2,a.ok h,Au,i2,cB,zk b]⟩
def OX(a b:Int)(n:Nat)(h:0<=b/\b<=1000/\a.natAbs<18446744073709551616)(c:b.toNat=n):R (b2 GS (cB (.int a)) (cB (.int b))) ρ (zE eI):=⟨a ^ n,O,λ_=>by
 simp only[b2,Au,cB];show((if 0<=b/\b<=1000/\a.natAbs<2 ^ 64 then Z (Dt.int (a ^ b.toNat))else O).bind λd=>Z (Bx.z d))=_;rw[zk h,c];rfl⟩
def F8(a:R fa ρ (zE eI))(b:R fb ρ (zE eI)):R (b2 EL fa fb) ρ (zE eB):=⟨decide (a.v<=b.v),bw a.D b.D,λh=>by
 obtain⟨h1,h2⟩:=aC h;simp only[b2,a.ok h1,b.ok h2,Au,i2]⟩
def IQ(a:R fa ρ (zE eI))(b:R fb ρ (zE eI)):R (b2 FD fa fb) ρ (zE eB):=⟨decide (b.v<a.v),bw a.D b.D,λh=>by
 obtain⟨h1,h2⟩:=aC h;simp only[b2,a.ok h1,b.ok h2,Au,i2]⟩
def Cc(a:R fa ρ (zE eI))(b:R fb ρ (zE eI)):R (b2 DS fa fb) ρ (zE eB):=⟨decide (b.v<=a.v),bw a.D b.D,λh=>by
 obtain⟨h1,h2⟩:=aC h;simp only[b2,a.ok h1,b.ok h2,Au,i2]⟩
def MG(a:R fa ρ (zE eI))(b:R fb ρ (zE eI)):R (b2 RN fa fb) ρ (zE eB):=⟨decide (a.v<b.v),bw a.D b.D,λh=>by
 obtain⟨h1,h2⟩:=aC h;simp only[b2,a.ok h1,b.ok h2,Au,RN]⟩
def qI(x y:AJ):Bool:=decide (x.cps.toList<y.cps.toList)
def LB(a:R fa ρ (zE eS))(b:R fb ρ (zE eS)):R (b2 RN fa fb) ρ (zE eB):=⟨qI a.v b.v,bw a.D b.D,λh=>by
 obtain⟨h1,h2⟩:=aC h;simp only[b2,a.ok h1,b.ok h2,Au,RN,qI]⟩
end
class BD {α:Type} [DecidableEq α] (e:α->Dt) (n:outParam Nat):Prop where
 eq:∀a b,Hv (e a) (e b)=some (decide (a=b))
 dp:∀a,zf (e a)<=n
class Cf {α:Type} (e:α->Dt):Prop where
 l:∀a,Hv .non (e a)=some false
 r:∀a,Hv (e a) .non=some false
instance:BD eI 1:=⟨λa b=>rfl,λa=>by simp[zf]⟩
instance:BD eB 1:=⟨λa b=>rfl,λa=>by simp[zf]⟩
instance:BD eS 1:=⟨λa b=>rfl,λa=>by simp[zf]⟩
instance:Cf eI:=⟨λa=>rfl,λa=>rfl⟩
instance:Cf eB:=⟨λa=>rfl,λa=>rfl⟩
instance:Cf eS:=⟨λa=>rfl,λa=>rfl⟩
section
variable [DecidableEq α] [DecidableEq β] [DecidableEq γ] [DecidableEq δ] {e:α->Dt}{e':β->Dt}{e'':γ->Dt}{e3:δ->Dt}{l:Nat}
theorem Gb[BD e n]:∀xs ys:Y α,mK (xs.map e) (ys.map e)=Z (decide (xs=ys))
 |[],[]=>by simp[mK]
 |[],y::ys=>by simp[mK]
 |x::xs,[]=>by simp[mK]
 |x::xs,y::ys=>by
  simp only[zw,mK,BD.eq,Gb xs ys];congr 1;by_cases h:x=y<;>by_cases h':xs=ys<;>simp[h,h']
theorem Gf[BD e n]:∀xs:Y α,zH (xs.map e)<=n
 |[]=>by simp[zH]
 |x::xs=>by
  have:=BD.dp (e:=e) x;have:=Gf xs;simp only[zw,zH];omega
instance [BD e n]:BD (eL e) (n+1):=⟨λa b=>Gb a b,λa=>by simp only[zf];have:=Gf (e:=e) a;omega⟩
instance [BD e n]:BD (eT e) (n+1):=⟨λa b=>Gb a b,λa=>by simp only[zf];have:=Gf (e:=e) a;omega⟩
instance:Cf (eL e):=⟨λa=>rfl,λa=>rfl⟩
instance:Cf (eT e):=⟨λa=>rfl,λa=>rfl⟩
instance:Cf (HH e):=⟨λa=>rfl,λa=>rfl⟩
instance:Cf (W4 e e'):=⟨λa=>rfl,λa=>rfl⟩
instance:Cf (RX e e' e''):=⟨λa=>rfl,λa=>rfl⟩
instance:Cf (E6 e e' e'' e3):=⟨λa=>rfl,λa=>rfl⟩
instance [BD e n]:BD (HH e) (n+1):=⟨λa b=>by
 simp only[Eh,mK,BD.eq,Kt],λa=>by
 have:=BD.dp (e:=e) a;simp only[zf,zH];omega⟩
theorem EK{a b:Nat}(h:a<=n)(h':b<=m):max a b<=max n m:=Nat.max_le.mpr ⟨zo h (Nat.le_max_left ..),zo h' (Nat.le_max_right ..)⟩
theorem GU{a:Nat}(h:a<=n):max a 0<=n:=Nat.max_le.mpr ⟨h,qr _⟩
instance [BD e n] [BD e' m]:BD (W4 e e') (max n m+1):=⟨λa b=>by
 obtain⟨a,a'⟩:=a;obtain⟨b,b'⟩:=b;simp only[Eh,mK,BD.eq,yi,f5,Kt],λa=>yo (EK (BD.dp (e:=e) a.1) (GU (BD.dp (e:=e') a.2)))⟩
instance [BD e n] [BD e' m] [BD e'' k]:BD (RX e e' e'') (max n (max m k)+1):=⟨λa b=>by
 obtain⟨a,a',a2⟩:=a;obtain⟨b,b',b2⟩:=b;simp only[Eh,mK,BD.eq,yi,f5,Kt],λa=>yo (EK (BD.dp (e:=e) a.1) (EK (BD.dp (e:=e') a.2.1) (GU (BD.dp (e:=e'') a.2.2))))⟩
instance [BD e n] [BD e' m] [BD e'' k] [BD e3 l]:BD (E6 e e' e'' e3) (max n (max m (max k l))+1):=⟨λa b=>by
 obtain⟨a,a',a2,a3⟩:=a;obtain⟨b,b',b2,b3⟩:=b;simp only[Eh,mK,BD.eq,yi,f5,Kt],λa=>yo (EK (BD.dp (e:=e) a.1) (EK (BD.dp (e:=e') a.2.1) (EK (BD.dp (e:=e'') a.2.2.1) (GU (BD.dp (e:=e3) a.2.2.2)))))⟩
instance [BD e n] [Cf e]:BD (eO e) (n+1):=⟨λa b=>by
 cases a with
 |none=>cases b with
  |none=>exact rfl
  |some b=>exact(Cf.l (e:=e) b).trans (by simp)
 |some a=>cases b with
  |none=>exact(Cf.r (e:=e) a).trans (by simp)
  |some b=>exact(BD.eq (e:=e) a b).trans (by simp),λa=>by
 cases a with
 |none=>show zf .non<=n+1;simp[zf]
 |some a=>exact hH (BD.dp (e:=e) a)⟩
end
section
variable{fs:Ev->Y3 (Y Bx)}{e:α->Dt}{e':β->Dt}
def By[DecidableEq α][BD e n](c:n<=100)(a:R fa ρ (zE e))(b:R fb ρ (zE e)):R (b2 BN fa fb) ρ (zE eB):=⟨decide (a.v=b.v),bw a.D b.D,λh=>by
 obtain⟨h1,h2⟩:=aC h;have:=BD.dp (e:=e) a.v;simp only[b2,a.ok h1,b.ok h2,Au,BN,jY,toD,zD,or_self,qo,BD.eq];rw[zk ()]⟩
def YS[DecidableEq α][BD e n](c:n<=100)(a:R fa ρ (zE e))(b:R fb ρ (zE e)):R (b2 Jj fa fb) ρ (zE eB):=⟨!decide (a.v=b.v),bw a.D b.D,λh=>by
 obtain⟨h1,h2⟩:=aC h;have:=BD.dp (e:=e) a.v;simp only[b2,a.ok h1,b.ok h2,Au,Jj,jY,toD,zD,or_self,qo,BD.eq];rw[zk ()]⟩
theorem o9(h:sO b=Z ds):toD b=.lst ds/\jY b=false:=by
 cases b with
 |z d=>cases d<;>cases h;exact⟨rfl,rfl⟩
 |l d=>cases h;exact⟨rfl,rfl⟩
 |o d=>cases h;exact⟨rfl,rfl⟩
 |n d=>cases h
 |m d _=>cases h
def Gg[DecidableEq α][BD e n](c:n+1<=100)(a:RL fa ρ e)(b:RL fb ρ e):R (b2 BN fa fb) ρ (zE eB):=⟨decide (a.v=b.v),bw a.D b.D,λh=>by
 obtain⟨h1,h2⟩:=aC h;have:=BD.dp (e:=eL e) a.v;simp only[b2,a.ok h1,b.ok h2,Au,BN,(o9 a.lk).1,(o9 a.lk).2,(o9 b.lk).1,(o9 b.lk).2,zD,or_self,qo];have e1:=BD.eq (e:=eL e) a.v b.v;rw[zk (zo (Nat.min_le_left _ _) (zo (BD.dp (e:=eL e) a.v) c)),e1,Au]⟩
def Jx[DecidableEq α][BD e n](c:n+1<=100)(a:RL fa ρ e)(b:RL fb ρ e):R (b2 Jj fa fb) ρ (zE eB):=⟨!decide (a.v=b.v),bw a.D b.D,λh=>by
 obtain⟨h1,h2⟩:=aC h;simp only[b2,a.ok h1,b.ok h2,Au,Jj,(o9 a.lk).1,(o9 a.lk).2,(o9 b.lk).1,(o9 b.lk).2,zD,or_self,qo];have e1:=BD.eq (e:=eL e) a.v b.v;rw[zk (zo (Nat.min_le_left _ _) (zo (BD.dp (e:=eL e) a.v) c)),e1,Au]⟩
def yK(a b:Dt):Bool:=(Hv a b).getD false
def R3(a b:Dt):Prop:=(Hv a b).isSome=true/\min (zf a) (zf b)<=100
def CN(a:R fa ρ (zE eD))(b:R fb ρ (zE eD)):R (b2 BN fa fb) ρ (zE eB):=⟨yK a.v b.v,bw (bw a.D b.D) (Z (R3 a.v b.v)),λh=>by
 obtain⟨h,c⟩:=aC h;obtain⟨h1,h2⟩:=aC h;obtain⟨c,d⟩:R3 a.v b.v:=c;simp only[b2,a.ok h1,b.ok h2,Au,BN,jY,toD,zD,or_self,qo,zk d];cases hd:Hv a.v b.v with
 |none=>rw[hd]at c;cases c
 |some k=>simp only[yK,hd,Au,fz];exact zk d⟩
def SO(a:R fa ρ (zE eD))(b:R fb ρ (zE eD)):R (b2 Jj fa fb) ρ (zE eB):=⟨!yK a.v b.v,bw (bw a.D b.D) (Z (R3 a.v b.v)),λh=>by
 obtain⟨h,c⟩:=aC h;obtain⟨h1,h2⟩:=aC h;obtain⟨c,d⟩:R3 a.v b.v:=c;simp only[b2,a.ok h1,b.ok h2,Au,Jj,jY,toD,zD,or_self,qo,zk d];cases hd:Hv a.v b.v with
 |none=>rw[hd]at c;cases c
 |some k=>simp only[yK,hd,Au,fz];exact zk d⟩
def IR(a:R fa ρ (zE (eO e)))(b:∀x,Fw (.z (e x))=false):R (b2 EI fa (cB .non)) ρ (zE eB):=⟨a.v.isNone,a.D,λh=>by
 simp only[b2,a.ok h,Au,cB,EI];cases c:a.v with
 |none=>rfl
 |some x=>simp only[Option.isNone_some,b]⟩
def K4(a:R fa ρ (zE (eO e)))(b:∀x,Fw (.z (e x))=false):R (b2 Fy fa (cB .non)) ρ (zE eB):=⟨a.v.isSome,a.D,λh=>by
 simp only[b2,a.ok h,Au,cB,Fy];cases c:a.v with
 |none=>rfl
 |some x=>simp only[g4,b,KS]⟩
def fP(a:R fa ρ (zE eB))(b:R fb ρ (zE eB)):R (jH fa fb) ρ (zE eB):=⟨a.v&&b.v,bw a.D (BJ (a.v=true) b.D),λh=>by
 obtain⟨h1,h2⟩:=aC h;simp only[jH,a.ok h1,Au,Fi];cases c:a.v with
 |true=>simp only[QO,gN];exact b.ok (jO h2 c)
 |false=>simp only[zD,qo,KU]⟩
def U1(a:R fa ρ (zE eB)):R (Fc fa) ρ (zE eB):=⟨!a.v,a.D,λh=>by simp only[Fc,a.ok h,Au,Fi]⟩
def Gh(a:R fa ρ (zE eB)):R (tV fa) ρ tE:=⟨a.v,a.D,λh=>by simp only[tV,a.ok h,Au,FX]⟩
def dU{g:Bx->Bx->Y3 Bx}(a:R (b2 g fa fb) ρ (zE eB)):R (vD g fa fb) ρ tE:=⟨a.v,a.D,λh=>by simp only[vD,a.ok h,Au,Fi]⟩
def XA(a:R p ρ tE)(b:R q ρ tE):R (XM p q) ρ tE:=⟨a.v&&b.v,bw a.D (BJ (a.v=true) b.D),λh=>by
 obtain⟨h1,h2⟩:=aC h;simp only[XM,a.ok h1,Au];cases c:a.v with
 |true=>simp only[QO,gN];exact b.ok (jO h2 c)
 |false=>simp only[zD,qo,KU]⟩
def Gi(a:R p ρ tE)(b:R q ρ tE):R (Rr p q) ρ tE:=⟨a.v||b.v,bw a.D (BJ (a.v=false) b.D),λh=>by
 obtain⟨h1,h2⟩:=aC h;simp only[Rr,a.ok h1,Au];cases c:a.v with
 |true=>simp only[QO,Bool.true_or]
 |false=>simp only[zD,qo,gL];exact b.ok (jO h2 c)⟩
def zQ(a:R p ρ tE):R (Dz p) ρ tE:=⟨!a.v,a.D,λh=>by simp only[Dz,a.ok h,Au]⟩
def HL{g g':Bx->Bx->Y3 Bx}(a:R (b2 g fa fb) ρ (zE eB))(b:R (b2 g' fb fc) ρ (zE eB)):R (Dx g g' fa fb fc) ρ (zE eB):=⟨a.v&&b.v,bw a.D (BJ (a.v=true) b.D),λh=>by
 obtain⟨h1,d⟩:=aC h;have e1:=a.ok h1;simp only[b2]at e1;obtain⟨x,ex,e1⟩:=AT e1;obtain⟨y,c,e1⟩:=AT e1;simp only[Dx,ex,c,Au,e1,Fi];cases e:a.v with
 |true=>
  have e2:=b.ok (jO d e);simp only[b2,c,Au]at e2;simp only[QO,gN];exact e2
 |false=>simp only[zD,qo,KU]⟩
end
section
variable{ε:Type}{fd:Ev->Y3 Bx}{fs:Ev->Y3 (Y Bx)}{e:α->Dt}{e':β->Dt}{e'':γ->Dt}{e3:δ->Dt}
def mQ(e:α->Dt):R (cM fu aD) ρ (zE (eT e)):=⟨[],O,λ_=>Y2⟩
def R5(a:R fa ρ (zE e)):R (cM fu (ao fa aD)) ρ (zE (HH e)):=⟨a.v,a.D,λh=>by
 simp only[cM,ao,aD,a.ok h,Au];rfl⟩
def R6(a:R fa ρ (zE e))(b:R fb ρ (zE e')):R (cM fu (ao fa (ao fb aD))) ρ (zE (W4 e e')):=⟨(a.v,b.v),bw a.D b.D,λh=>by
 obtain⟨h1,h2⟩:=aC h;simp only[cM,ao,aD,a.ok h1,b.ok h2,Au];rfl⟩
def yL(a:R fa ρ (zE e))(b:R fb ρ (zE e'))(c:R fc ρ (zE e'')):R (cM fu (ao fa (ao fb (ao fc aD)))) ρ (zE (RX e e' e'')):=⟨(a.v,b.v,c.v),bw a.D (bw b.D c.D),λh=>by
 obtain⟨h1,h⟩:=aC h;obtain⟨h2,d⟩:=aC h;simp only[cM,ao,aD,a.ok h1,b.ok h2,c.ok d,Au];rfl⟩
def uw(a:R fa ρ (zE e))(b:R fb ρ (zE e'))(c:R fc ρ (zE e''))(d:R fd ρ (zE e3)):R (cM fu (ao fa (ao fb (ao fc (ao fd aD))))) ρ (zE (E6 e e' e'' e3)):=⟨(a.v,b.v,c.v,d.v),bw a.D (bw b.D (bw c.D d.D)),λh=>by
 obtain⟨h1,h⟩:=aC h;obtain⟨h2,h⟩:=aC h;obtain⟨f,g⟩:=aC h;simp only[cM,ao,aD,a.ok h1,b.ok h2,c.ok f,d.ok g,Au];rfl⟩
def eE(e:α->Dt):R aD ρ (λxs:Y α=>xs.map (zE e)):=⟨[],O,λ_=>Y2⟩
def bB(a:R fa ρ (zE e))(t:R fs ρ (λxs:Y α=>xs.map (zE e))):R (ao fa fs) ρ (λxs:Y α=>xs.map (zE e)):=⟨a.v::t.v,bw a.D t.D,λh=>by
 obtain⟨h1,h2⟩:=aC h;simp only[ao,a.ok h1,t.ok h2,Au,zw]⟩
theorem Gj:∀xs:Y α,Ke (xs.map (zE e))=Z (xs.map e)
 |[]=>rfl
 |x::xs=>by simp only[zw,Ke,Gj xs,Au]
def kE(t:R fs ρ (λxs:Y α=>xs.map (zE e)))(hl:t.v.length<=1000):R (cM o7 fs) ρ (oE e):=⟨t.v,t.D,λh=>by
 simp only[cM,t.ok h,Au,o7,ze,zk hl,Gj]⟩
def K5(t:R fs ρ (λxs:Y Dt=>xs.map (zE eD)))(hl:t.v.length<=1000):R (cM fu fs) ρ (zE eD):=⟨.tup t.v,t.D,λh=>by
 simp only[cM,t.ok h,Au,fu,ze,zk hl,Gj,ia,id]⟩
def As[Inhabited α](xs:Y α)(i:Int):α:=(Fe xs i).getD default
def In(n:Nat)(i:Int):Prop:=-(n:Int)<=i/\i<n
theorem xq{xs:Y α}{i:Int}(h:In xs.length i):∃x,Fe xs i=Z x:=by
 obtain⟨h1,h2⟩:=h;unfold Fe EE;by_cases a:0<=i
 ·rw[zk a,zk h2];exact⟨xs[i.toNat]'(),qa ()⟩
 ·rw[zv a,zk h1];exact⟨xs[(i+xs.length).toNat]'(),qa ()⟩
theorem Pm{xs:Y α}{i:Int}{x:α}(h:Fe xs i=Z x):Fe (xs.map e) i=Z (e x):=by
 unfold Fe at h ⊢;rw[ze];obtain⟨j,a,h⟩:=AT h;rw[a,Au,qB,h];rfl
theorem YT[Inhabited α]{xs:Y α}{i:Int}(h:In xs.length i):Fe (xs.map e) i=Z (e (As xs i)):=by
 obtain⟨x,hx⟩:=xq h;rw[Pm hx];unfold As;rw[hx];rfl
theorem OM{i:Int}(h:sO b=Z ds):dX b (.z (.int i))=(Fe ds i).bind λd=>Z (.z d):=by
 cases b with
 |z d=>cases d<;>cases h;rfl
 |l d=>cases h;rfl
 |o d=>cases h;rfl
 |n d=>cases h
 |m d _=>cases h
def lJ[Inhabited α](a:RL fa ρ e)(b:R fb ρ (zE eI)):R (b2 dX fa fb) ρ (zE e):=⟨As a.v b.v,bw (bw a.D b.D) (Z (In a.v.length b.v)),λh=>by
 obtain⟨h,c⟩:=aC h;obtain⟨h1,h2⟩:=aC h;simp only[b2,a.ok h1,b.ok h2,Au,OM a.lk,YT (show In a.v.length b.v from c)]⟩
def Ph[Inhabited α](a:R fa ρ (zE (eT e)))(b:R fb ρ (zE eI)):R (b2 dX fa fb) ρ (zE e):=⟨As a.v b.v,bw (bw a.D b.D) (Z (In a.v.length b.v)),λh=>by
 obtain⟨h,c⟩:=aC h;obtain⟨h1,h2⟩:=aC h;simp only[b2,a.ok h1,b.ok h2,Au,dX,um,YT (show In a.v.length b.v from c)]⟩
def ch(x:AJ)(i:Int):AJ:=⟨#[(Fe x.cps.toList i).getD 0]⟩
def Us(a:R fa ρ (zE eS))(b:R fb ρ (zE eI)):R (b2 dX fa fb) ρ (zE eS):=⟨ch a.v b.v,bw (bw a.D b.D) (Z (In a.v.length b.v)),λh=>by
 obtain⟨h,c⟩:=aC h;obtain⟨h1,h2⟩:=aC h;obtain⟨x,hx⟩:=xq (xs:=a.v.cps.toList) (i:=b.v) (show In a.v.length b.v from c);simp only[b2,a.ok h1,b.ok h2,Au,dX,hx,ch,fz]⟩
def cT(d:Dt)(i:Int):Dt:=match dX (.z d) (.z (.int i))with|some (.z y)=>y|_=>.non
def vG(d:Dt)(i:Int):Prop:=match d with
 |.tup ds=>In ds.length i
 |.lst ds=>In ds.length i
 |.str x=>In x.length i
 |_=>False
def gO(a:R fa ρ (zE eD))(b:R fb ρ (zE eI)):R (b2 dX fa fb) ρ (zE eD):=⟨cT a.v b.v,bw (bw a.D b.D) (Z (vG a.v b.v)),λh=>by
 obtain⟨h,d⟩:=aC h;obtain⟨h1,h2⟩:=aC h;have d:vG a.v b.v:=d;simp only[b2,a.ok h1,b.ok h2,Au];show dX (.z a.v) (.z (.int b.v))=Z (.z (cT a.v b.v));unfold cT;cases e:a.v with
 |tup ds=>
  rw[e]at d;obtain⟨x,hx⟩:=xq (show In ds.length b.v from d);simp only[dX,um,Au,hx]
 |lst ds=>
  rw[e]at d;obtain⟨x,hx⟩:=xq (show In ds.length b.v from d);simp only[dX,um,Au,hx]
 |str x=>
  rw[e]at d;obtain⟨c,hx⟩:=xq (xs:=x.cps.toList) (show In x.length b.v from d);simp only[dX,Au,hx]
 |non=>rw[e]at d;exact absurd d id
 |bl _=>rw[e]at d;exact absurd d id
 |int _=>rw[e]at d;exact absurd d id
 |emp=>rw[e]at d;exact absurd d id⟩
def gP(a:R fa ρ (zE e))(g:α->β)(e':β->Dt)(i:Int)(h:∀x,dX (.z (e x)) (.z (.int i))=Z (.z (e' (g x)))):R (b2 dX fa (cB (.int i))) ρ (zE e'):=⟨g a.v,a.D,λhd=>by
 simp only[b2,a.ok hd,Au,cB,h]⟩
def BB(xs:Y α)(lo hi:Y3 Int):Y α:=(xs.drop (HT.iV xs.length 0 lo)).take (HT.iV xs.length xs.length hi-HT.iV xs.length 0 lo)
theorem Ut(xs:Y α)(lo hi:Y3 Int):C6 (xs.map e) lo hi=(BB xs lo hi).map e:=by
 unfold C6 BB;rw[ze,List.map_take,List.map_drop]
abbrev pE:Y3 Int->Y3 Int:=λo=>o
def zR:R iQ ρ pE:=⟨O,O,λ_=>Y2⟩
def zT(a:R fa ρ (zE eI)):R (lG fa) ρ pE:=⟨Z a.v,a.D,λh=>by simp only[lG,a.ok h,Au,GG]⟩
variable{fl fh:Ev->Y3 (Y3 Int)}
theorem Of(h:sO b=Z ds):Db b lo hi=Z (.o (C6 ds lo hi)):=by
 cases b with
 |z d=>cases d<;>cases h;rfl
 |l d=>cases h;rfl
 |o d=>cases h;rfl
 |n d=>cases h
 |m d _=>cases h
def YW(a:RL fa ρ e)(l:R fl ρ pE)(u:R fh ρ pE):R (Br fa fl fh) ρ (oE e):=⟨BB a.v l.v u.v,bw a.D (bw l.D u.D),λh=>by
 obtain⟨h1,h⟩:=aC h;obtain⟨h2,b⟩:=aC h;simp only[Br,a.ok h1,l.ok h2,u.ok b,Au,Of a.lk,Ut]⟩
def IP(a:R fa ρ (zE (eT e)))(l:R fl ρ pE)(u:R fh ρ pE):R (Br fa fl fh) ρ (zE (eT e)):=⟨BB a.v l.v u.v,bw a.D (bw l.D u.D),λh=>by
 obtain⟨h1,h⟩:=aC h;obtain⟨h2,b⟩:=aC h;simp only[Br,a.ok h1,l.ok h2,u.ok b,Au,Db,Ut]⟩
def Jy(a:R fa ρ (zE eS))(l:R fl ρ pE)(u:R fh ρ pE):R (Br fa fl fh) ρ (zE eS):=⟨Txt.slice a.v l.v u.v,bw a.D (bw l.D u.D),λh=>by
 obtain⟨h1,h⟩:=aC h;obtain⟨h2,b⟩:=aC h;simp only[Br,a.ok h1,l.ok h2,u.ok b,Au,Db]⟩
def oN:Dt->Y Dt
 |.tup ds=>ds
 |.lst ds=>ds
 |_=>[]
def NS(a:R fa ρ (zE eD))(l:R fl ρ pE)(u:R fh ρ pE):R (Br fa fl fh) ρ (zE eD):=⟨.tup (BB (oN a.v) l.v u.v),bw (bw a.D (bw l.D u.D)) (Z (An a.v=true)),λh=>by
 obtain⟨h,b⟩:=aC h;obtain⟨h1,h⟩:=aC h;obtain⟨h2,c⟩:=aC h;have b:An a.v=true:=b;simp only[Br,a.ok h1,l.ok h2,u.ok c,Au];cases d:a.v<;>rw[d]at b<;>first|(cases b;done)|rfl⟩
def O3(a:R fa ρ (zE (eT e))):R (b2 VJ fa (b1 Km (cB (.int 1)))) ρ (zE (eT e)):=⟨a.v.reverse,a.D,λh=>by
 simp only[b2,b1,a.ok h,Au,cB,Km,VJ,QO,zE,eT,ib]⟩
def wk(n:Nat):Prop:=n<=1000000
def K6(a:R fa ρ (zE eS))(b:R fb ρ (zE eS)):R (b2 dY fa fb) ρ (zE eS):=⟨a.v++b.v,bw (bw a.D b.D) (Z (wk (a.v.length+b.v.length))),λh=>by
 obtain⟨h,c⟩:=aC h;obtain⟨h1,h2⟩:=aC h;simp only[b2,a.ok h1,b.ok h2,Au,dY,zk (show a.v.length+b.v.length<=RG from c)]⟩
def ah(a:R fa ρ (zE (eT e)))(b:R fb ρ (zE (eT e))):R (b2 dY fa fb) ρ (zE (eT e)):=⟨a.v++b.v,bw (bw a.D b.D) (Z (wk (a.v.length+b.v.length))),λh=>by
 obtain⟨h,c⟩:=aC h;obtain⟨h1,h2⟩:=aC h;simp only[b2,a.ok h1,b.ok h2,Au,dY,ze,zk (show a.v.length+b.v.length<=RG from c),zE,eT,JA]⟩
def YX(a:R fa ρ (zE eD))(b:R fb ρ (zE eD)):R (b2 dY fa fb) ρ (zE eD):=⟨.tup (oN a.v++oN b.v),bw (bw a.D b.D) (Z (An a.v=true/\An b.v=true/\wk ((oN a.v).length+(oN b.v).length))),λh=>by
 obtain⟨h,c⟩:=aC h;obtain⟨h1,h2⟩:=aC h;obtain⟨c,e,d⟩:An a.v=true/\An b.v=true/\wk ((oN a.v).length+(oN b.v).length):=c;simp only[b2,a.ok h1,b.ok h2,Au]
 revert c e d
 show An a.v=true->An b.v=true->wk ((oN a.v).length+(oN b.v).length)->dY (.z a.v) (.z b.v)=Z (.z (.tup (oN a.v++oN b.v)));generalize a.v=x;generalize b.v=y;intro c e d;cases x<;>first|(cases c;done)|skip;cases y<;>first|(cases e;done)|skip;exact zk d⟩
theorem YZ{c:Bx}{e:Y Dt}(h:sO b=Z ds)(h':sO c=Z e)(hl:ds.length+e.length<=RG):dY b c=Z (.o (ds++e)):=by
 cases b with
 |z d=>
  cases d<;>cases h;cases c with
  |z a=>cases a<;>cases h';exact zk hl
  |l a=>cases h';exact zk hl
  |o a=>cases h';exact zk hl
  |n a=>cases h'
  |m a=>cases h'
 |l d=>
  cases h;cases c with
  |z a=>cases a<;>cases h';exact zk hl
  |l a=>cases h';exact zk hl
  |o a=>cases h';exact zk hl
  |n a=>cases h'
  |m a=>cases h'
 |o d=>
  cases h;cases c with
  |z a=>cases a<;>cases h';exact zk hl
  |l a=>cases h';exact zk hl
  |o a=>cases h';exact zk hl
  |n a=>cases h'
  |m a=>cases h'
 |n d=>cases h
 |m d _=>cases h
def Y0(a:RL fa ρ e)(b:RL fb ρ e):R (b2 dY fa fb) ρ (oE e):=⟨a.v++b.v,bw (bw a.D b.D) (Z (wk (a.v.length+b.v.length))),λh=>by
 obtain⟨h,c⟩:=aC h;obtain⟨h1,h2⟩:=aC h;simp only[b2,a.ok h1,b.ok h2,Au];rw[YZ a.lk b.lk (by rw[ze,ze];exact c)];simp only[oE,JA]⟩
def WO(a:R fa ρ (zE eS))(b:R fb ρ (zE eI)):R (b2 zJ fa fb) ρ (zE eS):=⟨Txt.mul a.v b.v,bw (bw a.D b.D) (Z (b.v<=1000 ∧ -1000<=b.v/\a.v.length<=1000)),λh=>by
 obtain⟨h,c⟩:=aC h;obtain⟨h1,h2⟩:=aC h;simp only[b2,a.ok h1,b.ok h2,Au];exact zk c⟩
theorem Y4(h:sO b=Z ds):oM [b]=Z (.z (.int ds.length)):=by
 cases b with
 |z d=>cases d<;>cases h;rfl
 |l d=>cases h;rfl
 |o d=>cases h;rfl
 |n d=>cases h
 |m d _=>cases h
theorem Pj(h:sO b=Z ds):um b=Z ds:=by
 cases b with
 |z d=>cases d<;>cases h;rfl
 |l d=>cases h;rfl
 |o d=>cases h;rfl
 |n d=>cases h
 |m d _=>cases h
def BY(a:RL fa ρ e):R (cM oM (ao fa aD)) ρ (zE eI):=⟨(a.v.length:Int),a.D,λh=>by
 simp only[cM,ao,aD,a.ok h,Au,Y4 a.lk,ze]⟩
def R7(a:R fa ρ (zE (eT e))):R (cM oM (ao fa aD)) ρ (zE eI):=⟨(a.v.length:Int),a.D,λh=>by
 simp only[cM,ao,aD,a.ok h,Au,oM,um,ze]⟩
def Gk(a:R fa ρ (zE eS)):R (cM oM (ao fa aD)) ρ (zE eI):=⟨(a.v.length:Int),a.D,λh=>by
 simp only[cM,ao,aD,a.ok h,Au,oM]⟩
def vB:Dt->Int
 |.tup ds=>ds.length
 |.lst ds=>ds.length
 |.str x=>x.length
 |_=>0
def DK:Dt->Bool
 |.tup _=>true
 |.lst _=>true
 |.str _=>true
 |_=>false
def K7(a:R fa ρ (zE eD)):R (cM oM (ao fa aD)) ρ (zE eI):=⟨vB a.v,bw a.D (Z (DK a.v=true)),λh=>by
 obtain⟨h,b⟩:=aC h;have b:DK a.v=true:=b;simp only[cM,ao,aD,a.ok h,Au];cases c:a.v<;>rw[c]at b<;>first|(cases b;done)|rfl⟩
def nG(a:RL fa ρ e):R (cM lH (ao fa aD)) ρ (zE (eT e)):=⟨a.v,a.D,λh=>by
 simp only[cM,ao,aD,a.ok h,Au,lH,Pj a.lk]⟩
def Nl(a:RL fa ρ e):R (cM uZ (ao fa aD)) ρ (oE e):=⟨a.v,a.D,λh=>by
 simp only[cM,ao,aD,a.ok h,Au,uZ,Pj a.lk]⟩
def zU(a:R fa ρ (zE (eT e))):R (cM uZ (ao fa aD)) ρ (oE e):=⟨a.v,a.D,λh=>by
 simp only[cM,ao,aD,a.ok h,Au,uZ,um]⟩
def VX(a:R fa ρ (zE eI)):R (cM Yo (ao fa aD)) ρ (zE eI):=⟨if a.v<0 then -a.v else a.v,a.D,λh=>by
 simp only[cM,ao,aD,a.ok h,Au,Yo]⟩
def UF(a:R fa ρ (zE eB)):R (cM Yp (ao fa aD)) ρ (zE eI):=⟨if a.v=true then 1 else 0,a.D,λh=>by
 simp only[cM,ao,aD,a.ok h,Au,Yp]⟩
theorem Jz:∀l:Y Bool,Jp (l.map eB)=Z l
 |[]=>rfl
 |a::l=>by simp only[zw,Jp,Jz l,Au]
def yh(a:RL fa ρ eB):R (cM Bn (ao fa aD)) ρ (zE eB):=⟨a.v.all id,a.D,λh=>by
 simp only[cM,ao,aD,a.ok h,Au,Bn,a.lk,Jz]⟩
def CP(P:Dt->Bool)(a:R fa ρ (zE e)):R (sV P fa) ρ (zE eB):=⟨P (e a.v),a.D,λh=>by
 simp only[sV,b1,a.ok h,Au,jY,toD,zD,qo]⟩
def ON(P:Dt->Bool)(a:RL fa ρ e)(k:Bool)(hk:∀ds,P (.lst ds)=k):R (sV P fa) ρ (zE eB):=⟨k,a.D,λh=>by
 simp only[sV,b1,a.ok h,Au,o9 a.lk,zD,qo,hk]⟩
theorem C2:∀l:At,FN (l.map eS)=Z l
 |[]=>rfl
 |a::l=>by simp only[zw,FN,C2 l,Au]
def YE(s:AJ)(a:RL fa ρ eS):R (b1 (Oz s) fa) ρ (zE eS):=⟨Txt.join s a.v,bw a.D (Z ((a.v.map (·.length)).sum+a.v.length*s.length<=100000)),λh=>by
 obtain⟨h,b⟩:=aC h;simp only[b1,a.ok h,Au,Oz,a.lk,C2];exact zk b⟩
def bz(a:RL fa ρ eS):R (cM Ox (ao fa aD)) ρ (oE eS):=⟨FP a.v,bw a.D (Z (a.v.length<64)),λh=>by
 obtain⟨h,b⟩:=aC h;simp only[cM,ao,aD,a.ok h,Au,Ox,a.lk,C2];exact zk b⟩
def MV(a:R fa ρ (zE e))(g:α->β)(e':β->Dt)(lo hi:Y3 Int)(hl:fl ρ=Z lo)(b:fh ρ=Z hi)(h:∀x,Db (.z (e x)) lo hi=Z (.z (e' (g x)))):R (Br fa fl fh) ρ (zE e'):=⟨g a.v,a.D,λhd=>by
 simp only[Br,a.ok hd,hl,b,Au,h]⟩
def qz:Dt->Int
 |.int i=>i
 |_=>0
def ji:Dt->AJ
 |.str x=>x
 |_=>⟨#[]⟩
def cX(a:R f ρ (zE eD))(g:Dt->α)(e:α->Dt):R f ρ (zE e):=⟨g a.v,bw a.D (Z (a.v=e (g a.v))),λhd=>by
 obtain⟨h1,h2⟩:=aC hd;have h2:a.v=e (g a.v):=h2;rw[a.ok h1];show Z (Bx.z a.v)=Z (Bx.z (e (g a.v)));rw[<-h2]⟩
class CH {α:Type} (e:α->Dt):Prop where
 f:∀a,zK (e a)=true
instance:CH eI:=⟨λ_=>rfl⟩
instance:CH eB:=⟨λ_=>rfl⟩
instance:CH eS:=⟨λ_=>rfl⟩
theorem Y5[DecidableEq α][BD e n][CH e](x:α)(ys:Y α):C' (e x) (ys.map e)=Z (decide (x∈ys)):=by
 unfold C';rw[zk ⟨CH.f x,by rw[List.all_map];exact List.all_eq_true.mpr λy _=>CH.f y⟩,List.any_map];congr 1;rw[fN,ic,decide_eq_true_iff];constructor
 ·rintro⟨y,a,h⟩;simp only[Function.comp,BD.eq]at h;by_cases e1:y=x
  ·rw[<-e1];exact a
  ·simp only[e1,decide_false]at h;cases h
 ·intro h;exact⟨x,h,by simp only[Function.comp,BD.eq,decide_true]⟩
theorem Tx:ER (.z d) (.z (.tup ds))=C' d ds:=by cases d<;>rfl
def Uu[DecidableEq α][BD e n][CH e](a:R fa ρ (zE e))(b:R fb ρ (zE (eT e))):R (b2 inF fa fb) ρ (zE eB):=⟨decide (a.v∈b.v),bw a.D b.D,λh=>by
 obtain⟨h1,h2⟩:=aC h;simp only[b2,a.ok h1,b.ok h2,Au,inF,Tx,Y5]⟩
def av(a:R fa ρ (zE eS))(b:R fb ρ (zE eS)):R (b2 inF fa fb) ρ (zE eB):=⟨Jl a.v b.v,bw a.D b.D,λh=>by
 obtain⟨h1,h2⟩:=aC h;simp only[b2,a.ok h1,b.ok h2,Au,inF,ER]⟩
end
structure AR {γ:Type} (cA:γ->List Bx->Prop) (fs:Ev->Option (List Bx)) (ρ:Ev) where
 v:γ
 D:Option Prop
 bs:List Bx
 h:cA v bs
 ok:B4 D->fs ρ=some bs
section
variable{ε σ:Type}{fd:Ev->Y3 Bx}{fs:Ev->Y3 (Y Bx)}{e:α->Dt}{e':β->Dt}{e'':γ->Dt}{e3:δ->Dt}
def aN:Unit->Y Bx->Prop:=λ_ bs=>bs=[]
def aZ(e:α->Dt)(t:γ->Y Bx->Prop):α×γ->Y Bx->Prop:=λx bs=>∃r,bs=.z (e x.1)::r/\t x.2 r
def aL(e:α->Dt)(t:γ->Y Bx->Prop):Y α×γ->Y Bx->Prop:=λx bs=>∃b r,bs=b::r/\sO b=Z (x.1.map e)/\t x.2 r
def aU:AR aN aD ρ:=⟨dl,O,[],rfl,λ_=>Y2⟩
def bJ{t:γ->Y Bx->Prop}(a:R fa ρ (zE e))(r:AR t fs ρ):AR (aZ e t) (ao fa fs) ρ:=⟨(a.v,r.v),bw a.D r.D,_,⟨_,rfl,r.h⟩,λh=>by
 obtain⟨h1,h2⟩:=aC h;simp only[ao,a.ok h1,r.ok h2,Au]⟩
def wz{t:γ->Y Bx->Prop}(a:RL fa ρ e)(r:AR t fs ρ):AR (aL e t) (ao fa fs) ρ:=⟨(a.v,r.v),bw a.D r.D,_,⟨_,_,rfl,a.lk,r.h⟩,λh=>by
 obtain⟨h1,h2⟩:=aC h;simp only[ao,a.ok h1,r.ok h2,Au]⟩
def AZ{b:γ->Y Bx->Prop}{c:α->Bx}{T:γ->α}{d:γ->Y3 Prop}(S:∀v bs,b v bs->bs.length=n/\(B4 (d v)->F (bs.map lend)=Z (c (T v))))(a:AR b fs ρ):R (bG n F fs) ρ c:=⟨T a.v,bw a.D (d a.v),λh=>by
 obtain⟨h1,h2⟩:=aC h;obtain⟨f,e⟩:=S a.v a.bs a.h;simp only[bG,a.ok h1,Au,zk f,e h2]⟩
theorem YI{bs:Y Bx}{c:α->Bx}(x:R g (bs.map Z++bj (n-bs.length) O) (λr=>Ap.rt (c r)))(h:B4 x.D):c7 n g bs=Z (c x.v):=by
 unfold c7;rw[x.ok h];rfl
def Y6(xs:Y α)(P:α->Y3 Prop):Y3 Prop:=Z (∀x∈xs,B4 (P x))
theorem zV{fs:Ev->Y3 (Y Dt)}{b:Ev}{g:α->Y Dt}{π:α->Bool}:∀xs:Y α,(∀x∈xs,∃a,gt (e x) b=Z a/\p a=Z (π x)/\(π x=true->fs a=Z (g x)))->Bj gt p fs b (xs.map e)=Z ((xs.filter π).flatMap g)
 |[],_=>rfl
 |x::xs,h=>by
  obtain⟨a,h1,h2,f⟩:=h x (zt ..);have c:=zV (g:=g) (π:=π) xs λy d=>h y (zl _ d);cases hp:π x with
  |true=>simp only[zw,Bj,h1,Au,h2,hp,QO,f hp,c,Kn,ZN]
  |false=>simp only[zw,Bj,h1,Au,h2,hp,c,Kn,zD,qo]
theorem Pk{g:α->β}:∀xs:Y α,xs.flatMap (λx=>[e' (g x)])=(xs.map g).map e'
 |[]=>rfl
 |x::xs=>by rw[ZN,Pk xs];rfl
theorem zW{b:Ev}{g:α->β}{π:α->Bool}(xs:Y α)(h:∀x∈xs,∃a,gt (e x) b=Z a/\p a=Z (π x)/\(π x=true->fe a=Z (.z (e' (g x))))):Jd gt p fe b (xs.map e)=Z (((xs.filter π).map g).map e'):=by
 rw[<-Pk];exact zV xs λx hx=>let ⟨a,h1,h2,h3⟩:=h x hx;⟨a,h1,h2,λhp=>by rw[h3 hp];rfl⟩
theorem CC{b:Ev}{g:α->β}(xs:Y α)(h:∀x∈xs,∃a,gt (e x) b=Z a/\fe a=Z (.z (e' (g x)))):Jd gt p8 fe b (xs.map e)=Z ((xs.map g).map e'):=
 (zW (π:=λ_=>true) xs λx hx=>let ⟨a,h1,h2⟩:=h x hx;⟨a,h1,rfl,λ_=>h2⟩).trans (by rw[eg.mpr λ_ _=>Y2])
def wA(it:R fi ρ (iE e))(a:α->Ev)(d:∀x,gt (e x) (jK is ρ++bj n O)=Z (a x))(b:∀x,R fe (a x) (zE e')):R (gB fi gt p8 fe is n) ρ (oE e'):=⟨it.v.map λx=>(b x).v,bw (bw it.D (Z (it.v.length<=100000))) (Y6 it.v λx=>(b x).D),λh=>by
 obtain⟨h,c⟩:=aC h;obtain⟨h1,h2⟩:=aC h;have c:∀x∈it.v,B4 (b x).D:=c;simp only[gB,it.ok h1,Au,ze,zk (show it.v.length<=100000 from h2),CC it.v λx hx=>⟨a x,d x,(b x).ok (c x hx)⟩]⟩
def pq(it:R fi ρ (iE e))(a:α->Ev)(d:∀x,gt (e x) (jK is ρ++bj n O)=Z (a x))(b:∀x,R fe (a x) (zE e'))(c:∀x,(b x).D=O):R (gB fi gt p8 fe is n) ρ (oE e'):=⟨it.v.map λx=>(b x).v,bw it.D (Z (it.v.length<=100000)),λh=>by
 obtain⟨h1,h2⟩:=aC h;simp only[gB,it.ok h1,Au,ze,zk (show it.v.length<=100000 from h2),CC it.v λx hx=>⟨a x,d x,(b x).ok (by rw[c x];trivial)⟩]⟩
def Uv(it:R fi ρ (iE e))(a:α->Ev)(d:∀x,gt (e x) (jK is ρ++bj n O)=Z (a x))(t:∀x,R p (a x) tE)(b:∀x,R fe (a x) (zE e')):R (gB fi gt p fe is n) ρ (oE e'):=⟨(it.v.filter λx=>(t x).v).map λx=>(b x).v,bw (bw it.D (Z (it.v.length<=100000))) (Y6 it.v λx=>bw (t x).D (BJ ((t x).v=true) (b x).D)),λh=>by
 obtain⟨h,c⟩:=aC h;obtain⟨h1,h2⟩:=aC h;have c:∀x∈it.v,B4 (bw (t x).D (BJ ((t x).v=true) (b x).D)):=c;simp only[gB,it.ok h1,Au,ze,zk (show it.v.length<=100000 from h2),zW it.v λx hx=>⟨a x,d x,(t x).ok (aC (c x hx)).1,λf=>(b x).ok (jO (aC (c x hx)).2 f)⟩]⟩
def Y7(it:R fi ρ (iE e))(a:α->Ev)(d:∀x,gt (e x) (jK is ρ++bj n O)=Z (a x))(t:∀x,R p (a x) tE)(b:∀x,R fe (a x) (zE e'))(f:∀x,(t x).D=O)(c:∀x,(b x).D=O):R (gB fi gt p fe is n) ρ (oE e'):=⟨(it.v.filter λx=>(t x).v).map λx=>(b x).v,bw it.D (Z (it.v.length<=100000)),λh=>by
 obtain⟨h1,h2⟩:=aC h;simp only[gB,it.ok h1,Au,ze,zk (show it.v.length<=100000 from h2),zW it.v λx hx=>⟨a x,d x,(t x).ok (by rw[f x];trivial),λ_=>(b x).ok (by rw[c x];trivial)⟩]⟩
def V5(a:RL fa ρ e):R (Hw fa) ρ (iE e):=⟨a.v,a.D,λh=>by
 have:Ye a.b=Z (a.v.map e):=by
  have:=a.lk
  revert this
  generalize a.b=b;generalize a.v.map e=ds;intro this;cases b with
  |z d=>cases d<;>cases this;rfl
  |l d=>cases this;rfl
  |o d=>cases this;rfl
  |n d=>cases this
  |m d _=>cases this
 simp only[Hw,a.ok h,Au,this]⟩
def Pn(a:R fa ρ (zE (eT e))):R (Hw fa) ρ (iE e):=⟨a.v,a.D,λh=>by simp only[Hw,a.ok h,Au,Ye]⟩
def CM(x:AJ):At:=x.cps.toList.map λc=>⟨#[c]⟩
theorem Y8(x:AJ):BI x=(CM x).map eS:=by
 unfold BI CM;rw[ZU];rfl
def V6:Dt->Y Dt
 |.tup ds=>ds
 |.lst ds=>ds
 |.str x=>BI x
 |_=>[]
def LD(a:R fa ρ (zE eD)):R (Hw fa) ρ (iE eD):=⟨V6 a.v,bw a.D (Z (DK a.v=true)),λh=>by
 obtain⟨h,b⟩:=aC h;have b:DK a.v=true:=b;simp only[Hw,a.ok h,Au];cases c:a.v<;>rw[c]at b<;>first|(cases b;done)|(simp only[Ye,V6,iE,eD,ia,id])⟩
def IL(a:R fa ρ (oE e)):R (EB fa) ρ (iE e):=⟨a.v,a.D,λh=>by simp only[EB,a.ok h,Au,X6]⟩
def XW(a:R fa ρ (zE (eT e))):R (EB fa) ρ (iE e):=⟨a.v,a.D,λh=>by simp only[EB,a.ok h,Au,X6]⟩
def rng(i:Int)(n:Nat):Y Int:=(da n).map λk:Nat=>i+(k:Int)
theorem Uw(i:Int)(n:Nat):Kg i n=(rng i n).map eI:=by
 unfold Kg rng;rw[ZU];rfl
def Rg(j:Int):Prop:=-4611686018427387904<=j/\j<4611686018427387904
def u5(a:R fa ρ (zE eI)):R (Ou (ao fa aD)) ρ (iE eI):=⟨rng 0 a.v.toNat,bw a.D (Z (Rg a.v)),λh=>by
 obtain⟨h,b⟩:=aC h;simp only[Ou,ao,aD,a.ok h,Au];show(if -(2 ^ 62)<=a.v/\a.v<2 ^ 62 then Z (Kg 0 a.v.toNat)else O)=_;exact(zk b).trans (by rw[Uw])⟩
def ax(n:Int)(m:Nat)(b:n.toNat=m)(a:Rg n):R (Ou (ao (cB (.int n)) aD)) ρ (iE eI):=⟨rng 0 m,O,λ_=>by
 simp only[Ou,ao,aD,Au,cB];show(if -(2 ^ 62)<=n/\n<2 ^ 62 then Z (Kg 0 n.toNat)else O)=_;exact(zk a).trans (by rw[Uw,b])⟩
end
section
variable{ε σ τ:Type}{fd:Ev->Y3 Bx}{fs:Ev->Y3 (Y Bx)}{e:α->Dt}{e':β->Dt}{k:Ev->Y3 Ap}{cO:γ->Ap}
theorem qe{ρ':Ev}(h:g1 ρ=Z (.nx ρ')):aF g1 k ρ=k ρ':=by
 unfold aF;rw[h];rfl
def bV(x:R (aF g (aF g1 k)) ρ cO):R (aF (aF g g1) k) ρ cO:=⟨x.v,x.D,λh=>by
 rw[<-x.ok h];unfold aF;cases g ρ with
 |none=>rfl
 |some o=>cases o<;>rfl⟩
def cG(x:R k ρ cO):R (aF dR k) ρ cO:=⟨x.v,x.D,λh=>x.ok h⟩
def cL(x:γ)(h:cO x=.nx (kill is ρ)):R (fB is) ρ cO:=⟨x,O,λ_=>by rw[h];rfl⟩
def cu{c:α->Bx}(inj:α->γ)(a:R f ρ c)(h:∀x,cO (inj x)=.rt (c x))(b:∀x,XS (c x)=Z (.rt (c x))):R (aF (dO f) k) ρ cO:=⟨inj a.v,a.D,λhd=>by
 have:dO f ρ=Z (.rt (c a.v)):=by unfold dO;rw[a.ok hd,Au,b]
 unfold aF;rw[this,h];rfl⟩
def K8{c:α->Bx}(i:Nat)(inj:α->γ)(a:α)(hi:ρ[i]?=Z (Z (c a)))(h:∀x,cO (inj x)=.rt (c x))(b:∀x,XS (c x)=Z (.rt (c x))):R (aF (HJ i) k) ρ cO:=⟨inj a,O,λhd=>by
 have:HJ i ρ=Z (.rt (c a)):=by unfold HJ;rw[hi];exact b a
 unfold aF;rw[this,h];rfl⟩
def bZ{c:α->Bx}(i:Nat)(a:R f ρ c)(b:∀x,X3 ρ i (c x)=Z (ρ.set i (Z (c x))))(K:∀x,R k (ρ.set i (Z (c x))) cO):R (aF (B5 i f) k) ρ cO:=⟨(K a.v).v,bw a.D (K a.v).D,λhd=>by
 obtain⟨h1,h2⟩:=aC hd;rw[qe (ρ':=ρ.set i (Z (c a.v))) (by unfold B5;rw[a.ok h1,Au,b,Au])];exact(K a.v).ok h2⟩
def Y9(a:R f ρ (zE e))(b:α->Ev)(c:∀x,gt (e x) ρ=Z (b x))(K:∀x,R k (b x) cO):R (aF (Yq gt f) k) ρ cO:=⟨(K a.v).v,bw a.D (K a.v).D,λhd=>by
 obtain⟨h1,h2⟩:=aC hd;rw[qe (ρ':=b a.v) (by unfold Yq;rw[a.ok h1,Au];simp only[c,Au])];exact(K a.v).ok h2⟩
def IT(i j:Nat)(a:R fa ρ (zE e))(b:R fb ρ (zE e'))(K:∀x y,R k ((ρ.set i (Z (.z (e x)))).set j (Z (.z (e' y)))) cO):R (aF (FE i j (ao fa (ao fb aD))) k) ρ cO:=⟨(K a.v b.v).v,bw (bw a.D b.D) (K a.v b.v).D,λhd=>by
 obtain⟨h1,c⟩:=aC hd;obtain⟨h1,h2⟩:=aC h1;rw[qe (ρ':=(ρ.set i (Z (.z (e a.v)))).set j (Z (.z (e' b.v)))) (by unfold FE;simp only[ao,aD,a.ok h1,b.ok h2,Au,FR])];exact(K a.v b.v).ok c⟩
def wB(i:Nat)(xs:Y α)(hi:ρ[i]?=Z (Z (.o (xs.map e))))(a:R f ρ (zE e))(K:∀ys:Y α,R k (ρ.set i (Z (.o (ys.map e)))) cO):R (aF (Bt i f) k) ρ cO:=⟨(K (xs++[a.v])).v,bw (bw a.D (Z (wk xs.length))) (K (xs++[a.v])).D,λhd=>by
 obtain⟨h1,b⟩:=aC hd;obtain⟨h1,h2⟩:=aC h1;have h2:xs.length<=1000000:=h2;rw[qe (ρ':=ρ.set i (Z (.o ((xs++[a.v]).map e)))) (by
  unfold Bt;rw[a.ok h1,Au];simp only[Fs,hi,ze,JA,zw,kF];rw[zk (g6 h2 ())])]
 exact(K _).ok b⟩
def jP(t:R p ρ tE)(a:R (aF g1 k) ρ cO)(b:R (aF g2 k) ρ cO):R (aF (vL p g1 g2) k) ρ cO:=⟨if t.v=true then a.v else b.v,bw t.D (bw (BJ (t.v=true) a.D) (BJ (t.v=false) b.D)),λhd=>by
 obtain⟨h1,h2⟩:=aC hd;obtain⟨h2,f⟩:=aC h2;have e1:∀c,t.v=c->aF (vL p g1 g2) k ρ=aF (if c=true then g1 else g2) k ρ:=λc e=>by
  unfold aF vL;rw[t.ok h1,Au,e];cases c<;>rfl
 cases d:t.v with
 |true=>rw[e1 true d];simp only[QO];exact a.ok (jO h2 d)
 |false=>rw[e1 false d];simp only[zD,qo];exact b.ok (jO f d)⟩
def CQ(E:σ->Ev)(t:R p ρ tE)(a:R g1 ρ (λs=>Ap.nx (E s)))(b:R g2 ρ (λs=>Ap.nx (E s)))(K:∀s,R k (E s) cO):R (aF (vL p g1 g2) k) ρ cO:=⟨(K (if t.v=true then a.v else b.v)).v,bw (bw t.D (bw (BJ (t.v=true) a.D) (BJ (t.v=false) b.D))) (K (if t.v=true then a.v else b.v)).D,λhd=>by
 obtain⟨h,d⟩:=aC hd;obtain⟨h1,h2⟩:=aC h;obtain⟨h2,e⟩:=aC h2;rw[qe (ρ':=E (if t.v=true then a.v else b.v)) (by
  unfold vL;rw[t.ok h1,Au];cases c:t.v with
  |true=>simp only[QO];exact a.ok (jO h2 c)
  |false=>simp only[zD,qo];exact b.ok (jO e c))]
 exact(K _).ok d⟩
def rW(step:σ->α->σ)(P:σ->α->Y3 Prop):Y α->σ->Prop
 |[],_=>True
 |x::xs,s=>B4 (P s x)/\rW step P xs (step s x)
theorem zX{gb:Ev->Y3 Ap}(E:σ->Ev)(a:σ->α->Ev)(b:∀s x,gt (e x) (E s)=Z (a s x))(body:∀s x,R gb (a s x) (λs=>Ap.nx (E s))):∀(xs:Y α) (s:σ),rW (λs x=>(body s x).v) (λs x=>(body s x).D) xs s->vM gt gb (xs.map e) (E s)=Z (.nx (E (xs.foldl (λs x=>(body s x).v) s)))
 |[],s,_=>rfl
 |x::xs,s,h=>by
  simp only[zw,vM,b,Au,(body s x).ok h.1,ki];exact zX E a b body xs _ h.2
def zY(E:σ->Ev)(a:σ)(f:ρ=E a)(it:R fi ρ (iE e))(b:σ->α->Ev)(c:∀s x,gt (e x) (E s)=Z (b s x))(body:∀s x,R gb (b s x) (λs=>Ap.nx (E s)))(K:∀s,R k (E s) cO):R (aF (sW fi gt gb) k) ρ cO:=⟨(K (it.v.foldl (λs x=>(body s x).v) a)).v,bw (bw it.D (Z (rW (λs x=>(body s x).v) (λs x=>(body s x).D) it.v a))) (K (it.v.foldl (λs x=>(body s x).v) a)).D,λhd=>by
 obtain⟨h,d⟩:=aC hd;obtain⟨h1,h2⟩:=aC h;rw[qe (ρ':=E (it.v.foldl (λs x=>(body s x).v) a)) (by
  unfold sW;rw[it.ok h1,Au];subst f;exact zX E b c body it.v a h2)]
 exact(K _).ok d⟩
def WN(E:σ->Ev)(a:σ)(h:ρ=E a)(it:R fi ρ (iE e))(b:σ->α->Ev)(d:∀s x,gt (e x) (E s)=Z (b s x))(body:∀s x,R gb (b s x) (λs=>Ap.nx (E s)))(c:∀s x,(body s x).D=O)(K:∀s,R k (E s) cO):R (aF (sW fi gt gb) k) ρ cO:=⟨(K (it.v.foldl (λs x=>(body s x).v) a)).v,bw it.D (K (it.v.foldl (λs x=>(body s x).v) a)).D,λhd=>by
 obtain⟨h1,g⟩:=aC hd;have h2:∀(xs:Y α) (s:σ),rW (λs x=>(body s x).v) (λs x=>(body s x).D) xs s:=λxs=>by
  induction xs with
  |nil=>intro s;trivial
  |cons x xs f=>intro s;exact⟨by show B4 (body s x).D;rw[c s x];trivial,f _⟩
 rw[qe (ρ':=E (it.v.foldl (λs x=>(body s x).v) a)) (by
  unfold sW;rw[it.ok h1,Au];subst h;exact zX E b d body it.v a (h2 _ _))]
 exact(K _).ok g⟩
inductive Pq (σ τ:Type) where
 |nx (s:σ)|rt (r:τ)|bk (s:σ)|ct (s:σ)
def cC(E:σ->Ev)(c:τ->Bx):Pq σ τ->Ap
 |.nx s=>.nx (E s)
 |.rt r=>.rt (c r)
 |.bk s=>.bk (E s)
 |.ct s=>.ct (E s)
def yM(step:σ->α->Pq σ τ):Y α->σ->Pq σ τ
 |[],s=>.nx s
 |x::xs,s=>match step s x with
  |.nx s'=>yM step xs s'
  |.ct s'=>yM step xs s'
  |.bk s'=>.nx s'
  |.rt r=>.rt r
def Gm(step:σ->α->Pq σ τ)(P:σ->α->Y3 Prop):Y α->σ->Prop
 |[],_=>True
 |x::xs,s=>B4 (P s x)/\match step s x with
  |.nx s'=>Gm step P xs s'
  |.ct s'=>Gm step P xs s'
  |.bk _=>True
  |.rt _=>True
theorem K9{c:τ->Bx}(E:σ->Ev)(a:σ->α->Ev)(b:∀s x,gt (e x) (E s)=Z (a s x))(body:∀s x,R gb (a s x) (cC E c)):∀(xs:Y α) (s:σ),Gm (λs x=>(body s x).v) (λs x=>(body s x).D) xs s->vM gt gb (xs.map e) (E s)=Z (cC E c (yM (λs x=>(body s x).v) xs s))
 |[],s,_=>rfl
 |x::xs,s,h=>by
  obtain⟨h1,h2⟩:=h;dsimp only at h2;simp only[zw,vM,b,Au,(body s x).ok h1,yM]
  revert h2
  cases(body s x).v with
  |nx s'=>intro h2;exact K9 E a b body xs s' h2
  |ct s'=>intro h2;exact K9 E a b body xs s' h2
  |bk s'=>intro _;rfl
  |rt r=>intro _;rfl
theorem Gn(step:σ->α->Pq σ τ):∀(xs:Y α) (s:σ),(∃s',yM step xs s=.nx s')\/∃r,yM step xs s=.rt r
 |[],s=>.inl ⟨s,rfl⟩
 |x::xs,s=>by
  unfold yM;cases step s x with
  |nx s'=>exact Gn step xs s'
  |ct s'=>exact Gn step xs s'
  |bk s'=>exact .inl ⟨s',rfl⟩
  |rt r=>exact .inr ⟨r,rfl⟩
def Ct(r:Pq σ τ)(inj:τ->γ)(K:σ->γ):γ:=match r with
 |.rt r=>inj r
 |.nx s=>K s
 |.bk s=>K s
 |.ct s=>K s
def Ux(r:Pq σ τ)(K:σ->Prop):Prop:=match r with
 |.rt _=>True
 |.nx s=>K s
 |.bk s=>K s
 |.ct s=>K s
def be(r:Pq σ τ)(K:σ->Y3 Prop):Y3 Prop:=Z (Ux r λs=>B4 (K s))
def UK{c:τ->Bx}(E:σ->Ev)(a:σ)(i:ρ=E a)(it:R fi ρ (iE e))(b:σ->α->Ev)(f:∀s x,gt (e x) (E s)=Z (b s x))(body:∀s x,R gb (b s x) (cC E c))(inj:τ->γ)(g:∀r,cO (inj r)=.rt (c r))(K:∀s,R k (E s) cO):R (aF (sW fi gt gb) k) ρ cO:=⟨Ct (yM (λs x=>(body s x).v) it.v a) inj λs=>(K s).v,bw (bw it.D (Z (Gm (λs x=>(body s x).v) (λs x=>(body s x).D) it.v a))) (be (yM (λs x=>(body s x).v) it.v a) λs=>(K s).D),λhd=>by
 obtain⟨h,d⟩:=aC hd;obtain⟨h1,h2⟩:=aC h;have e1:sW fi gt gb ρ=Z (cC E c (yM (λs x=>(body s x).v) it.v a)):=by
  unfold sW;rw[it.ok h1,Au];subst i;exact K9 E b f body it.v a h2
 rcases Gn (λs x=>(body s x).v) it.v a with⟨s',es⟩|⟨r,es⟩
 ·rw[es]at e1 d ⊢;rw[qe e1];exact(K s').ok d
 ·rw[es]at e1 ⊢;show aF (sW fi gt gb) k ρ=Z (cO (inj r));unfold aF;rw[e1,g];rfl⟩
theorem Za(h:ρ[i]?=Z (Z (.z (.tup ds)))):NZ i gt gb ρ=vM gt gb ds ρ:=by unfold NZ;rw[h];rfl
def Zb(i:Nat){ρ':Ev}(xs:Y α)(f:NZ i gt gb ρ=vM gt gb (xs.map e) ρ')(E:σ->Ev)(a:σ)(g:ρ'=E a)(b:σ->α->Ev)(c:∀s x,gt (e x) (E s)=Z (b s x))(body:∀s x,R gb (b s x) (λs=>Ap.nx (E s)))(K:∀s,R k (E s) cO):R (aF (NZ i gt gb) k) ρ cO:=⟨(K (xs.foldl (λs x=>(body s x).v) a)).v,bw (Z (rW (λs x=>(body s x).v) (λs x=>(body s x).D) xs a)) (K (xs.foldl (λs x=>(body s x).v) a)).D,λhd=>by
 obtain⟨h2,d⟩:=aC hd;rw[qe (ρ':=E (xs.foldl (λs x=>(body s x).v) a)) (by
  rw[f,g];exact zX E b c body xs a h2)]
 exact(K _).ok d⟩
class Ky {κ:Type} (c:κ->AY):Prop where
 inj:∀a b,c a=c b->a=b
abbrev kS:AJ->AY:=Sum.inr
abbrev kI:Int->AY:=Sum.inl
instance:Ky kS:=⟨λ_ _ h=>by cases h;rfl⟩
instance:Ky kI:=⟨λ_ _ h=>by cases h;rfl⟩
section
variable [DecidableEq κ] {c:κ->AY}
def has(m:Y (κ×α))(x:κ):Bool:=m.any λq=>decide (q.1=x)
end
end
section
variable{fs:Ev->Y3 At}{e:α->Dt}
theorem Uy(h:sO b=Z ds):um b=Z ds:=by
 cases b with
 |z d=>cases d<;>first|exact h|(cases h;done)
 |l _=>exact h
 |o _=>exact h
 |n _=>cases h
 |m _ _=>cases h
theorem MI(n:Nat):∃m,m=n:=⟨n,rfl⟩
noncomputable def kN(n:Nat):Nat:=Classical.choose (MI n)
theorem MQ(n:Nat):kN n=n:=Classical.choose_spec (MI n)
noncomputable def bg(n:Int)(m:Nat)(b:n.toNat=m)(a:Rg n):R (Ou (ao (cB (.int n)) aD)) ρ (iE eI):=⟨rng 0 (kN m),O,λh=>by rw[MQ];exact(ax n m b a).ok h⟩
end
end P1
namespace P1
open L2 S1 S6
class qJ {α:Type} (e:α->Dt) where
 k:α->AY
 ok:∀a,GN (e a)=some (k a)
 inj:∀a b,k a=k b->a=b
 same:∀a b,OD (k a) (k b)=true
instance:qJ eI:=⟨λi=>.inl i,λ_=>rfl,λa b h=>by cases h;rfl,λ_ _=>rfl⟩
instance:qJ eS:=⟨λi=>.inr i,λ_=>rfl,λa b h=>by cases h;rfl,λ_ _=>rfl⟩
class jX {α:Type} (e:α->Dt) where
 k:α->List AY
 ok:∀a,Cz (e a)=some (k a)
 inj:∀a b,k a=k b->a=b
 shp:∀a b,KD (k a) (k b)=true
 ne:∀a,(k a).isEmpty=false
class GE {α:Type} (e:α->Dt) [jX e]:Prop where
 tx:∀a,F1 (jX.k e a)=true
section
variable{e:α->Dt}{e':β->Dt}{e'':γ->Dt}{e3:δ->Dt}
instance [qJ e] [qJ e']:jX (W4 e e'):=⟨λq=>[qJ.k e q.1,qJ.k e' q.2],λq=>by simp only[Cz,Ju,qJ.ok,Au],λa b h=>by
 simp only[f6.injEq,and_true]at h;exact k8 (qJ.inj _ _ h.1) (qJ.inj _ _ h.2),λa b=>by simp[KD,qJ.same],λ_=>rfl⟩
instance [qJ e] [qJ e'] [qJ e'']:jX (RX e e' e''):=⟨λq=>[qJ.k e q.1,qJ.k e' q.2.1,qJ.k e'' q.2.2],λq=>by simp only[Cz,Ju,qJ.ok,Au],λa b h=>by
 simp only[f6.injEq,and_true]at h;exact k8 (qJ.inj _ _ h.1) (k8 (qJ.inj _ _ h.2.1) (qJ.inj _ _ h.2.2)),λa b=>by simp[KD,qJ.same],λ_=>rfl⟩
instance [qJ e] [qJ e'] [qJ e''] [qJ e3]:jX (E6 e e' e'' e3):=⟨λq=>[qJ.k e q.1,qJ.k e' q.2.1,qJ.k e'' q.2.2.1,qJ.k e3 q.2.2.2],λq=>by simp only[Cz,Ju,qJ.ok,Au],λa b h=>by
 simp only[f6.injEq,and_true]at h;exact k8 (qJ.inj _ _ h.1) (k8 (qJ.inj _ _ h.2.1) (k8 (qJ.inj _ _ h.2.2.1) (qJ.inj _ _ h.2.2.2))),λa b=>by simp[KD,qJ.same],λ_=>rfl⟩
instance [qJ e]:GE (W4 e eS):=⟨λa=>by simp[jX.k,F1,qJ.k]⟩
instance [qJ e] [qJ e']:GE (RX e eS e'):=⟨λa=>by simp[jX.k,F1,qJ.k]⟩
instance [qJ e] [qJ e'] [qJ e'']:GE (E6 e eS e' e''):=⟨λa=>by simp[jX.k,F1,qJ.k]⟩
variable{fs:Ev->Y3 (Y (Y AY))}
theorem ux[jX e]:∀xs:Y α,yJ (xs.map e)=Z (xs.map (jX.k e))
 |[]=>rfl
 |x::xs=>by simp only[zw,yJ,jX.ok,Au,ux xs]
def DC(e:α->Dt)[jX e](a b:α):Bool:=rT (jX.k e a) (jX.k e b)
def Zc(e:α->Dt)[jX e](a b:α):Bool:=iu (jX.k e a) (jX.k e b)
def gC(e:α->Dt)[jX e](xs:Y α):Y α:=xs.mergeSort (DC e)
theorem f9[jX e](xs:Y α):(gC e xs).Perm xs:=Q2 ..
theorem qg[jX e](xs:Y α):(gC e xs).Pairwise (λa b=>DC e a b=true):=jI (le:=DC e) (λa b c=>qb (jX.k e a) (jX.k e b) (jX.k e c)) (λa b=>qd (jX.k e a) (jX.k e b)) xs
theorem Zd[jX e]{a b:α}(h:DC e a b=true)(h':DC e b a=true):a=b:=jX.inj _ _ (wZ h h')
theorem Ze[jX e]{xs out:Y α}(hp:out.Perm xs)(hs:out.Pairwise (λa b=>DC e a b=true)):out=gC e xs:=wg (λ_ _=>Zd) (hp.trans (f9 xs).symm) hs (qg xs)
theorem V7[jX e](xs:Y α):yI (xs.map (jX.k e))=(gC e xs).map (jX.k e):=by
 refine(Jr ((f9 xs).map _) (cm.mpr (qg xs))).symm
theorem XX[jX e](xs:Y α):(xs.map (jX.k e)).map Bz=xs.map e:=by
 rw[ZU];exact kg λa _=>(sX (jX.ok a)).symm
end
end P1
namespace P1
open L2
section
variable{fd fk:Ev->Y3 Bx}{fs:Ev->Y3 (Y Bx)}{e:α->Dt}{e':β->Dt}{k:Ev->Y3 Ap}{cO:γ->Ap}
end
section
variable{e:α->Dt}
end
end P1
namespace P1
open L2 S1 S6
def kT(xs:At):Y AY:=xs.map Sum.inr
def S0(a b:At):Bool:=rT (kT a) (kT b)
section
variable{e:α->Dt}
theorem map_some(e:α->Dt)(xs:Y α):(xs.map Z).map (eO e)=xs.map e:=by rw[ZU];rfl
end
end P1
namespace P1
open L2
section
variable{k:Ev->Y3 Ap}{cO:α->Ap}
end
section
variable{e:α->Dt}
end
section
variable{σ τ:Type}{k:Ev->Y3 Ap}{cO:γ->Ap}
end
section
variable{e:α->Dt}
def II(fs:Ev->Y3 (Y Bx)):Ev->Y3 (Y Dt):=λρ=>(fs ρ).bind O9
def CT(xs:Y α):Y (Int×α):=(da xs.length).zipWith (λ(k:Nat) x=>((k:Int),x)) xs
theorem V8(xs:Y α):CJ (xs.map e)=(CT xs).map (W4 eI e):=by
 unfold CJ CT;rw[ze,gc,ie]
def Pi(a:RL fa ρ e):R (II (ao fa aD)) ρ (iE (W4 eI e)):=⟨CT a.v,a.D,λh=>by
 simp only[II,ao,aD,a.ok h,Au,O9,a.lk,V8]⟩
end
section
variable{σ τ:Type}
theorem Eo{step:σ->α->σ}{P:σ->α->Y3 Prop}(I:Nat->σ->Prop):∀(xs:Y α) (m:Nat) (a:σ),I m a->(∀k x s,xs[k]?=Z x->I (m+k) s->B4 (P s x)/\I (m+k+1) (step s x))->rW step P xs a/\I (m+xs.length) (xs.foldl step a)
 |[],m,a,h0,_=>⟨trivial,h0⟩
 |x::xs,m,a,h0,hs=>by
  obtain⟨h1,h2⟩:=hs 0 x a Y2 h0;have:=Eo I xs (m+1) (step a x) h2 λk y s e h=>by
   have:=hs (k+1) y s (by simpa using e) (by rw[show m+(k+1)=m+1+k by omega];exact h);rw[show m+(k+1)+1=m+1+k+1 by omega]at this;exact this
  refine⟨⟨h1,this.1⟩,?_⟩;rw[Z3,show m+(xs.length+1)=m+1+xs.length by omega];exact this.2
theorem Pe{i:Int}{x:Int}(h:(rng i n)[k]?=Z x):x=i+k/\k<n:=by
 unfold rng at h;rw[qB]at h;cases hk:(da n)[k]? with
 |none=>rw[hk]at h;cases h
 |some j=>
  rw[hk]at h;have hl:k<n:=by simpa using(ca.mp hk).1
  have:j=k:=by
   rw[gS hl]at hk;cases hk;rfl
  subst this;cases h;exact⟨rfl,hl⟩
theorem lK(i:Int)(n:Nat):(rng i n).length=n:=by unfold rng;simp
theorem ae{i:Int}{x:Int}(h:x∈rng i n):i<=x/\x<i+n:=by
 unfold rng at h;obtain⟨k,hk,rfl⟩:=bC.mp h;have:=dg.mp hk;omega
theorem nZ{step:σ->Int->σ}{P:σ->Int->Y3 Prop}(I:Nat->σ->Prop)(n:Nat)(a:σ)(b:I 0 a)(hs:∀(k:Nat) s,k<n->I k s->B4 (P s k)/\I (k+1) (step s k)):rW step P (rng 0 n) a/\I n ((rng 0 n).foldl step a):=by
 have:=Eo (P:=P) I (rng 0 n) 0 a b λk x s e h=>by
  obtain⟨rfl,hk⟩:=Pe e;rw[JJ]at h ⊢;rw[dS];exact hs k s hk h
 rw[lK,JJ]at this;exact this
theorem Gp[Inhabited α]{xs:Y α}{i:Int}(h:In xs.length i):As xs i∈xs:=by
 obtain⟨x,hx⟩:=xq h;unfold As;rw[hx];unfold Fe at hx;obtain⟨j,_,hx⟩:=AT hx;exact ky hx
theorem PM[Inhabited α]{xs:Y α}{x:α}(h:xs[k]?=Z x):As xs (k:Int)=x:=by
 have hl:k<xs.length:=(ca.mp h).1;unfold As Fe EE;rw[zk (),zk (),Au,QU,h];rfl
theorem wC[Inhabited α](xs:Y α)(k:Nat)(h:k<xs.length):As xs (k:Int)=xs[k]:=PM (qa h)
theorem B9{i:Int}(a:0<=i)(h1:i<n):In n i:=⟨by omega,h1⟩
theorem R8(h:k<n):In n (k:Int):=⟨by omega,by omega⟩
theorem wD{x m:Int}(a:0<m)(h:m<=n):In n (x%m):=B9 (Int.emod_nonneg _ ()) (eA (g7 _ a) h)
theorem jC(x:Int){m:Int}(a:0<m):0<=x%m/\x%m<m:=⟨Int.emod_nonneg _ (),g7 _ a⟩
theorem zZ{j:Int}(a:0<=j)(h1:j<=1000000):Rg j:=⟨by omega,by omega⟩
theorem L0{a b:Int}(c:0<=a)(h1:a<18446744073709551616):G0 a b:=.inl ⟨by omega,h1⟩
theorem WA{xs:Y α}{x:α}(h:x∈BB xs lo hi):x∈xs:=kv (KB h)
theorem Uz(xs:Y α)(lo hi:Y3 Int):(BB xs lo hi).length<=xs.length:=by
 unfold BB;rw[ZT,qc];omega
theorem z7{xs:Y α}(h:k<=xs.length):BB xs (Z (k:Int)) O=xs.drop k:=by
 unfold BB;rw[HT.aaX,HT.Xl,fT h,ZY (by simp)]
theorem qK(x y:AJ):(x++y).length=x.length+y.length:=by
 show(x.cps++y.cps).size=_;rw[kq];rfl
theorem yN(x:AJ)(i:Int):(ch x i).length=1:=rfl
theorem slice_le(x:AJ)(l u:Y3 Int):(Txt.slice x l u).length<=x.length:=PyProof.Txt.length_slice_le x l u
theorem V9(x:AJ):(CM x).length=x.length:=by unfold CM;rw[ze,ZO];rfl
theorem Wa(x:AJ):(BI x).length=x.length:=by rw[Y8,ze,V9]
end
section
variable [Inhabited α] {e:α->Dt}{k:Ev->Y3 Ap}{cO:γ->Ap}
def Rs(i:Nat)(xs:Y α)(hi:ρ[i]?=Z (Z (.o (xs.map e))))(K:∀ys:Y α,R k (ρ.set i (Z (.o (ys.map e)))) cO):R (aF (V4 i) k) ρ cO:=⟨(K xs.reverse).v,(K xs.reverse).D,λh=>by
 rw[qe (ρ':=ρ.set i (Z (.o (xs.reverse.map e)))) (by
  unfold V4;rw[hi];dsimp only;rw[ib])]
 exact(K xs.reverse).ok h⟩
end
section
variable{e:α->Dt}{k:Ev->Y3 Ap}{cO:γ->Ap}
end
section
variable{e:α->Dt}{k:Ev->Y3 Ap}{cO:γ->Ap}
end
section
variable{e:α->Dt}
end
section
variable{e:α->Dt}{e':β->Dt}
def R9{e3:γ->Dt}(a:R fa ρ (zE e))(b:R fb ρ (zE e'))(g:α->β->γ)(h:∀x y,dY (.z (e x)) (.z (e' y))=Z (.z (e3 (g x y)))):R (b2 dY fa fb) ρ (zE e3):=⟨g a.v b.v,bw a.D b.D,λhd=>by
 obtain⟨h1,h2⟩:=aC hd;simp only[b2,a.ok h1,b.ok h2,Au,zE,h]⟩
end
def RP(f:Ev->Y3 β)(ρ:Ev)(c:α->β)(v:α)(D:Y3 Prop):Prop:=B4 D->f ρ=Z (c v)
theorem R.tp{f:Ev->Y3 β}{c:α->β}{a:α}{b:Y3 Prop}(x:R f ρ c)(e:x.v=a:=by kernel_rfl)(d:x.D=b:=by kernel_rfl):RP f ρ c a b:=λh=>by
 subst e d;exact x.ok h
def RP.r{f:Ev->Y3 β}{c:α->β}{v:α}{D:Y3 Prop}(h:RP f ρ c v D):R f ρ c:=⟨v,D,h⟩
theorem HC{p:Y α->Prop}(h:∀a,p [a]):∀us:Y α,us.length=1->p us
 |[a],_=>h a
theorem HR{p:Y α->Prop}(h:∀a b,p [a,b]):∀us:Y α,us.length=2->p us
 |[a,b],_=>h a b
theorem OF{p:Y α->Prop}(h:∀a b c,p [a,b,c]):∀us:Y α,us.length=3->p us
 |[a,b,c],_=>h a b c
theorem Op{p:Y α->Prop}(h:∀a b c d,p [a,b,c,d]):∀us:Y α,us.length=4->p us
 |[a,b,c,d],_=>h a b c d
theorem XE{p:Y α->Prop}(h:∀a b c d e,p [a,b,c,d,e]):∀us:Y α,us.length=5->p us
 |[a,b,c,d,e],_=>h a b c d e
end P1
namespace P1
open L2 S1
end P1
namespace P1
open L2
section
variable{fs:Ev->Y3 (Y Bx)}
end
section
variable{AS:Y AB}
end
section
variable{ks:Y V}{o:AE}
theorem aI(j:∀f u,X.H₀ a≠Z (.oJ f u))(I:L2.AU X AN σ H s)(e:H a=Z (.oJ o (.lst ks))):L2.AU X AN σ (BA H a (.lst ks)) s:=by
 have g:∀{b:A1} {u:HO},H b=Z u->u≠.oJ o (.lst ks)->b≠a:=λq n z=>by subst z;rw[e]at q;cases q;exact n rfl
 have h:∀{b:A1},H b=O->b≠a:=λq z=>by subst z;rw[e]at q;cases q
 refine⟨I.ok,I.os,I.bare,⟨I.base.keep,I.base.slot,λb f q n hx=>?_,I.base.there,λb xs q=>?_,λb f u q=>?_,λb ps q=>?_⟩,I.loc,I.cell,?_,λx c q=>?_,λp hp=>?_,λb f q=>?_,I.len⟩
 ·have:=I.base.free b f q n hx;rw[aM (h this)];exact this
 ·have:=I.base.tups b xs q;rw[aM (g this λz=>by cases z)];exact this
 ·have:=I.base.Du b f u q;rw[aM (λz=>by subst z;exact j _ _ q)];exact this
 ·obtain⟨m,this⟩:=I.base.yx b ps q;exact⟨m,by rw[aM (g this λz=>by cases z)];exact this⟩
 ·have:=I.free;rw[aM (h this)];exact this
 ·have:=I.qG x c q;rw[aM (h this)];exact this
 ·obtain⟨p1,p2,p3⟩:=I.pin p hp;exact⟨p1,by rw[aM (h p2)];exact p2,p3⟩
 ·have st:∀{c:A1} {w:HO},jB X.prog X.w H s.heap c w->jB X.prog X.w (BA H a (.lst ks)) s.heap c w:=λx=>
   x.stay (λ_ _ _ r=>r) (λd r=>by rw[aM (g r λz=>by cases z)];exact r) (λd xs r=>by rw[aM (g r λz=>by cases z)];exact r) λd o' k r=>by rw[aM (g r λz=>by cases z)];exact r
  by_cases i:b=a
  ·subst i;rw[bH]at q;cases q;exact st (I.hok _ _ e).2
  ·rw[aM i]at q;exact st (I.hok _ _ q)
end
section
variable{M0 M1 M2 er:Expr}{f0 f2:Ev->Y3 Bx}{d0 d2:Dt}{z0 z1 z2 z3:Pos}
end
section
variable{st:Y AB}{fr:Ev->Y3 Bx}{i':Nat}{W:Y Nat}{z:Pos}
end
section
variable{a b c:Ev->Y3 Ap}
end
end P1
namespace P1
open L2 S6
section
variable{kx vx t1 i1 t2 i2:Expr}{f1 f2:Y Expr}{xs:At}{g1 g2:Dt->Ev->Y3 Ev}{p1 p2:Ev->Y3 Bool}{fk:Ev->Y3 Bx}{fi1 fi2:Ev->Y3 (Y Dt)}{fs:Ev->Y3 (Y Dt)}{N:Nat}
def cls2(fi:Ev->Y3 (Y Dt))(gt:Dt->Ev->Y3 Ev)(p:Ev->Y3 Bool)(fs:Ev->Y3 (Y Dt))(is:Y Nat)(n:Nat):Ev->Y3 (Y Dt):=λρ=>(fi ρ).bind λds=>Bj gt p fs (jK is ρ++bj n O) ds
def La(fi:Ev->Y3 (Y Dt))(gt:Dt->Ev->Y3 Ev)(p:Ev->Y3 Bool)(fs:Ev->Y3 (Y Dt))(is:Y Nat)(n:Nat):Ev->Y3 Bx:=λρ=>(cls2 fi gt p fs is n ρ).bind λout=>if out.length<=100000 then Z (.o out)else O
theorem T8.no{a:Y Dt}:T8 K D H a o->(∀b u,o≠.oJ b u)/\∀vs,o≠.tup vs:=λ⟨_,e,_⟩=>by subst e;exact⟨λ_ _ z=>(by cases z),λ_ z=>(by cases z)⟩
end
end P1
namespace P1
open L2
section
variable{e:α->Dt}{e':β->Dt}{fs:Ev->Y3 (Y Dt)}
theorem Gq{g:α->Y β}:∀xs:Y α,(xs.flatMap g).map e'=xs.flatMap λx=>(g x).map e'
 |[]=>rfl
 |x::xs=>by rw[ZN,JA,Gq xs];rfl
def a0(it:R fi ρ (iE e))(a:α->Ev)(c:∀x,gt (e x) (jK is ρ++bj n O)=Z (a x))(b:∀x,R fs (a x) (iE e')):R (cls2 fi gt p8 fs is n) ρ (iE e'):=⟨it.v.flatMap λx=>(b x).v,bw it.D (Y6 it.v λx=>(b x).D),λh=>by
 obtain⟨h1,h2⟩:=aC h;have h2:∀x∈it.v,B4 (b x).D:=h2;simp only[cls2,it.ok h1,Au];rw[zV (π:=λ_=>true) (g:=λx=>(b x).v.map e') it.v λx hx=>⟨a x,c x,rfl,λ_=>(b x).ok (h2 x hx)⟩,eg.mpr λ_ _=>Y2];rw[iE,Gq]⟩
def b7(it:R fi ρ (iE e))(a:α->Ev)(c:∀x,gt (e x) ρ=Z (a x))(t:∀x,R p (a x) tE)(b:∀x,R fe (a x) (zE e')):R (DE fi gt p (F6 fe)) ρ (iE e'):=⟨(it.v.filter λx=>(t x).v).map λx=>(b x).v,bw it.D (Y6 it.v λx=>bw (t x).D (BJ ((t x).v=true) (b x).D)),λh=>by
 obtain⟨h1,h2⟩:=aC h;have h2:∀x∈it.v,B4 (bw (t x).D (BJ ((t x).v=true) (b x).D)):=h2;simp only[DE,it.ok h1,Au];exact zW it.v λx hx=>⟨a x,c x,(t x).ok (aC (h2 x hx)).1,λd=>(b x).ok (jO (aC (h2 x hx)).2 d)⟩⟩
def a9(a:R (cls2 fi gt p fs is n) ρ (iE e)):R (La fi gt p fs is n) ρ (oE e):=⟨a.v,bw a.D (Z (a.v.length<=100000)),λh=>by
 obtain⟨h1,h2⟩:=aC h;simp only[La,a.ok h1,Au,ze,zk (show a.v.length<=100000 from h2)]⟩
end
def hx(h:A6)(a:A1):HO:=.ext λh'=>h'.get? a=h.get? a
section
variable{H2:Hp}{as:Y A1}
end
section
variable{gs:Y (Int×A1×Y Dt)}{k:Int}{x:Dt}{u:V}
end
section
variable{e1 e2 ev:Expr}{f2:Ev->Y3 Bx}{w:AJ}{pw py py2 py3 px p1 p3 p4 pl a1 a2 c1 c2:Pos}
end
end P1
namespace P1
open L2 S6
section
variable{kx vx t1 i1 t2 i2:Expr}{f1 f2:Y Expr}{xs:At}{g1 g2:Dt->Ev->Y3 Ev}{p1 p2:Ev->Y3 Bool}{fk:Ev->Y3 Bx}{fi1 fi2:Ev->Y3 (Y Dt)}
end
end P1
namespace P1
open L2
section
variable{e:α->Dt}{e0:β->Dt}{fd f2:Ev->Y3 Bx}{kk:Ev->Y3 Ap}{cO:γ->Ap}
end
section
variable{e:α->Dt}{fs:Ev->Y3 (Y Dt)}
end
section
variable{a:Expr}
end
theorem bO{bs:Y Bx}{c:α->Bx}{v:α}{D:Y3 Prop}(x:RP g (bs.map Z++bj (n-bs.length) O) (λr=>Ap.rt (c r)) v D)(h:B4 D):c7 n g bs=Z (c v):=YI x.r h
section
variable{e:α->Dt}
end
open PySem.Builtin PySem.Builtin.Str
section
variable{o:Expr}{fx:Ev->Y3 Bx}
end
section
variable{g:Ev->Y3 AJ}
end
section
variable{e1 e2 e3:Expr}{gr:Ev->Y3 Ap}{fx:Ev->Y3 Dt}{tR tQ:TS}{xr xj y1 y2:AJ}{AS no:Y AB}{kk:Nat}{p0 p00 p01 p02 q1 q2 pt pj pa px pb pif pf2 px3 a1 c1 pe1 pr a2 pj2 c2 pe2:Pos}
end
section
variable{e:α->Dt}{ea:β->Dt}{eb:δ->Dt}{kk:Ev->Y3 Ap}{cO:γ->Ap}
end
end P1
namespace P1
open L2 S1
theorem U'{x y:AY}{p q:A0}(hs:OD x y=true)(hp:lA x p=true)(a:lA y q=true)(h:Q (.bool (Uh x y)) s):A7 (A8 prog w) A (AG .Lt p q) Q E s:=by
 rcases bR hp with⟨i,t,rfl,rfl⟩|⟨z,t,rfl,rfl⟩
 ·rcases bR a with⟨j,u,rfl,rfl⟩|⟨z,u,rfl,rfl⟩
  ·exact lt_int h
  ·cases hs
 ·rcases bR a with⟨j,u,rfl,rfl⟩|⟨b,u,rfl,rfl⟩
  ·cases hs
  ·exact PySem.P.lt_str h
theorem Zf{f:Y AY}{b:A1}{d:Y A0}(L:oK s.heap a AQ.toArray)(J:oK s.heap b d.toArray)(hk:Ks ks AQ)(hl:Ks f d)(hs:Yu ks f)(K:A.units<cLine)(h:Q (.bool (iu ks f)) s):A7 (A8 prog w) A (AG .Lt (.ref a) (.ref b)) Q E s:=by
 obtain⟨y,ea,x,⟨X,S⟩,_⟩:=L;obtain⟨t,eb,z,⟨W,U⟩,_⟩:=J;show A7 _ _ (richCompare .Lt (.ref a) (.ref b)) _ _ _;refine wpAny_richCompare_same_room ⟨y,ea,x⟩ ⟨t,eb,z⟩ F.slot_tuple_lt (jn F.slot_tuple_lt ⟨y,ea,x⟩ F.entry_tuple_lt ?_ (F.args_tuple_lt_2 _ _)) K;show A7 _ _ (isInstance (.ref b) (.type "tuple") >>= _) _ _ s;refine zb (yn ⟨t,eb,z⟩ isSubtype_tuple_tuple ?_);simp only[eH,zD,qo];refine zb (wpAny_tupleItemsOf ea S ?_);refine zb (wpAny_tupleItemsOf eb U ?_);refine zb ?_;refine wpAny_forIn_list _
  (λAS r s'=>r.1=O/\s'=s/\∃l k j i,AS=List.zip j i/\Ks l j/\Ks k i/\Yu l k/\iu l k=iu ks f/\(j.length<i.length↔AQ.length<d.length))
  _ ?_ ?_ _ _ ⟨rfl,rfl,ks,f,AQ,d,by simp,hk,hl,hs,rfl,Iff.rfl⟩
 ·rintro⟨u,v⟩ AS r s' ⟨q,rfl,l,k,j,i,g,n,m,p,c,o⟩;cases n with
  |nil=>simp at g
  |@cons B u' G D h1 I=>
   cases m with
   |nil=>simp at g
   |@cons C v' P M h2 H=>
    simp only[JO,f6.injEq,yi]at g;obtain⟨⟨rfl,rfl⟩,rfl⟩:=g;refine zb (D0 h1 h2 ?_);simp only[iu]at c;by_cases e:B=C
    ·rw[zk e]at c;rw[zz e];simp only[eH,zD,qo];exact zd ⟨rfl,rfl,G,P,D,M,rfl,I,H,p.2,c,by simpa using o⟩
    ·rw[zv e]at c;rw[Zl e];simp only[KS,QO];refine zb (QP ?_);refine zb (show A7 _ _ (AG .Lt u v) _ _ _ from U' p.1 h1 h2 ?_);rw[c];exact zb (zd (zd (zd ⟨_,rfl,by simp,h⟩)))
 ·rintro⟨r1,r2⟩ s' ⟨q,rfl,l,k,j,i,g,n,m,p,c,o⟩;simp only at q;subst q;have N:decide (AQ.length<d.length)=iu ks f:=by
   rw[<-c,<-decide_eq_decide.mpr o];cases n with
   |nil=>cases m with
    |nil=>rfl
    |cons _ _=>rfl
   |cons _ _=>cases m with
    |nil=>rfl
    |cons _ _=>simp at g
  refine zd ⟨_,rfl,?_⟩;show Value.bool (decide (AQ.toArray.size<d.toArray.size))≠_/\Q (Value.bool (decide (AQ.toArray.size<d.toArray.size))) _;rw[zh,zh,N];exact⟨by simp,h⟩
def Sd:Bx->Bx->Y3 Bx
 |.z a,.z b=>(Cz a).bind λks=>(Cz b).bind λc=>if KD ks c=true then Z (.z (.bl (iu ks c)))else O
 |_,_=>O
theorem NU(t:X.A.units+100<cLine):Cu X (AG .Lt) Sd:=by
 intro AN s σ H x y v u Q I n j h;obtain⟨a,b,c,d,f,e,q⟩:=h;unfold Sd at e;split at e
 ·rename_i w d2;obtain⟨ks,ek,e⟩:=AT e;obtain⟨C,el,e⟩:=AT e;split at e
  ·rename_i m;cases e;rw[sX ek]at d;rw[sX el]at f;simp only[bf,Bz,AW]at d f;obtain⟨p,vs,rfl,sq,k⟩:=d;obtain⟨p',z,rfl,l,o⟩:=f;cases n;cases j;obtain⟨AQ,g,t1⟩:=Lv I sq;obtain⟨B,i,t2⟩:=Lv I l;rw[w6 k]at g;rw[w6 o]at i;exact Zf t1 t2 (Yz X g) (Yz X i) (Bw m) () ⟨.bl _,H,I,rfl,q _ H (AV.refl H) trivial (by simp only[bf,AW])⟩
  ·cases e
 ·cases e
theorem DD{a b:Y3 β}{c:β}(h:a.or b=Z c):a=Z c\/b=Z c:=by
 cases a with
 |none=>exact .inr h
 |some x=>exact .inl h
def EU(f g:Bx->Bx->Y3 Bx):Bx->Bx->Y3 Bx:=λa b=>(f a b).or (g a b)
theorem Z'{d:A0->A0->Sem A0}{f g:Bx->Bx->Y3 Bx}(h1:Cu X d f)(h2:Cu X d g):Cu X d (EU f g):=λAN s σ H x y v u Q I l j h=>by
 obtain⟨a,b,c,i,k,e,q⟩:=h;rcases DD e with e|e
 ·exact h1 AN s σ H x y v u Q I l j ⟨a,b,c,i,k,e,q⟩
 ·exact h2 AN s σ H x y v u Q I l j ⟨a,b,c,i,k,e,q⟩
section
variable{f:A1}{p:Pos}
end
end P1
namespace P1
open L2 S1 S6
theorem HV{p:Y α->Prop}(h:p []):∀us:Y α,us.length=0->p us
 |[],_=>h
section
variable{e:α->Dt}{g:Ev->Y3 Bx}{c:α->Bx}
def Re(a:R fa ρ (zE eS))(b:R fb ρ (zE eS)):R (b2 (EU RN Sd) fa fb) ρ (zE eB):=⟨qI a.v b.v,bw a.D b.D,λh=>by
 obtain⟨h1,h2⟩:=aC h;simp only[b2,a.ok h1,b.ok h2,Au];rfl⟩
def Zg[jX e](a:R fa ρ (zE e))(b:R fb ρ (zE e)):R (b2 (EU RN Sd) fa fb) ρ (zE eB):=⟨Zc e a.v b.v,bw a.D b.D,λh=>by
 obtain⟨h1,h2⟩:=aC h;simp only[b2,a.ok h1,b.ok h2,Au,EU];have c:=sX (jX.ok (e:=e) a.v);have d:=sX (jX.ok (e:=e) b.v);have n:RN (zE e a.v) (zE e b.v)=O:=by
  show RN (.z (e a.v)) (.z (e b.v))=O;rw[c];rfl
 rw[n];show Sd (.z (e a.v)) (.z (e b.v))=_;unfold Sd;simp only[jX.ok,Au,jX.shp,QO];rfl⟩
end
def CY(d:Dt):R (cB d) ρ (zE eD):=oX d eD d rfl
def B6(i:Int):R (cB (.int i)) ρ (zE eI):=oX (.int i) eI i rfl
def xY(s:AJ):R (cB (.str s)) ρ (zE eS):=oX (.str s) eS s rfl
abbrev Nn(K:B8)(n:AJ)(f:A1):Prop:=nsIn K mainGlobals n=Z (Z (.ref f))
abbrev Lk(K:B8)(f:A1)(n:AJ)(st:AB)(b:A0)(d:Y3 A1)(sl:Array (Y3 A0))(kV e pm:A0)(c:Y3 A1)(a ct:A0):Prop:=K.lookup f=Z ⟨b,d,.func (fnOf n n (uf st) (jk st) (aK st) .none kV e pm c a ct),sl⟩
end P1
namespace P1
open L2
section
variable{e:α->Dt}
end
section
variable{Ex:BG}{outer:Y Env}{L e T:A1}{C fl:A0}{dx:Y3 A1}{Q:Unit->A2->Prop}
end
section
variable{H':Hp}{h':A6}{ch:Y A1}
end
section
variable{g:Array GenState}{d:Drawn}{t:Nat}{fI e:A1}{AS:Y A0}{B:String}
end
section
variable{g:Array GenState}{d:Drawn}{t:Nat}{e:A1}
end
section
variable{g:Array GenState}{d:Drawn}{t:Nat}{e dx:A1}{v:A0}{vs:Array A0}{sl:Array (Y3 A0)}{m:AJ->Y3 A0}
end
section
variable{o value:Expr}{tv:TE}{f:AJ}{pos' p:Pos}{B:String}{t:TA}
end
section
variable{f:AJ}{p:Pos}{B:String}
end
section
variable{E:XK}
end
section
variable{Cn f:A1}{iv iy:Nat}{n cn:AJ}{np hp p py pa:Pos}{b0:AB}{suite:Y AB}{ts:A1->TS}{tf:TE}{t:TA}
end
section
variable{d:A1}{fs:Y (AJ×V)}{f:AJ}{o:Expr}
end
section
variable{f:AJ}{E:XK}{gy:Ev->Y3 Dt}{p:Pos}{AS a b:Y AB}{B:String}{pc:Ev->Y3 Bool}
end
section
variable{f h:A1}{fs:Ev->Y3 (Y Bx)}{p q:Pos}
end
end P1
namespace P1
open L2 S6
section
variable{xs:At}
end
section
variable{e2 se:Expr}{fS:Ev->Y3 At}{fx:Ev->Y3 Dt}{no AS:Y AB}{tR tQ:TS}{p0 p02 px pb pif pk:Pos}{f:AJ}{E:XK}
end
end P1
namespace P1
open L2
section
variable{e1 e2 e3:Expr}{gr:Ev->Y3 Ap}{xr xj y1 y2:AJ}{AS no:Y AB}{kk:Nat}{p0 p00 p01 p02 q1 q2 pt pj pa px pb pif pf2 px3 a1 c1 pe1 pr a2 pj2 c2 pe2:Pos}{fx:Ev->Y3 Dt}{f:AJ}{E:XK}
end
section
variable{Cn f:A1}{iv:Nat}{n cn:AJ}{np hp p pa:Pos}{b0:AB}{suite:Y AB}{ts:A1->TS}{tf:TE}{t:TA}
end
section
variable{fx:Ev->Y3 Bx}
end
section
variable{xs:Array A0}
end
theorem wW:∀{AQ:Y A0} {a:Y Int},IntsAre AQ a->AX (a.map V.int) AQ
 |_,_,.nil=>.nil
 |_,_,.cons y t h=>.cons ⟨t,rfl⟩ (wW h)
def Pr:Bx->Bx->Y3 Bx
 |.z (.bl a),.z (.bl b)=>Z (.z (.bl (!(a==b))))
 |_,_=>O
theorem Zh:Cu X (AG .IsNot) Pr:=by
 intro AN s σ H x y v u Q I f d h;obtain⟨a,b,c,g,i,e,q⟩:=h;unfold Pr at e;split at e
 ·rename_i k j;cases e;obtain rfl:x=.bl k:=by simpa only[bf,AW]using g
  obtain rfl:y=.bl j:=by simpa only[bf,AW]using i
  cases f;cases d;exact zd ⟨.bl (!(k==j)),H,I,(by cases k<;>cases j<;>rfl),q _ H (AV.refl H) trivial (by simp only[bf,AW])⟩
 ·cases e
section
variable{e:α->Dt}
def NF(a:R fa ρ (zE eB))(b:R fb ρ (zE eB)):R (b2 Pr fa fb) ρ (zE eB):=⟨!(a.v==b.v),bw a.D b.D,λh=>by
 obtain⟨h1,h2⟩:=aC h;simp only[b2,a.ok h1,b.ok h2,Au,Pr]⟩
end
section
variable{e:α->Dt}{ea:β->Dt}{eb:δ->Dt}{fx:Ev->Y3 Dt}
end
section
variable{e:α->Dt}{g:Ev->Y3 β}{c:γ->β}
end
section
variable{E:XK}
end
section
variable{f:AJ}{E:XK}{fs:Ev->Y3 (Y Bx)}{gy:Ev->Y3 Dt}{p p1 epos:Pos}{AS:Y AB}
end
section
variable{o:Expr}
def Zi:Dt->Bool
 |.non=>true
 |.tup _=>true
 |_=>false
def MX:Dt->Bool
 |.non=>true
 |_=>false
end
section
variable{o l:Expr}{fs:Ev->Y3 (Y Bx)}{z:AJ}
end
instance {σ τ:Type} [Inhabited σ]:Inhabited (Pq σ τ):=⟨.nx default⟩
section
variable{e:α->Dt}
theorem Zj(a:∀x,∃ds,e x=.tup ds)(ys:Y (Y3 α)):(ys.map (eO e)).all Zi=true/\(MX ∘ eO e)=Option.isNone:=by
 refine⟨?_,?_⟩
 ·rw[Qb];intro d hd;obtain⟨o,_,rfl⟩:=bC.mp hd;cases o with
  |none=>rfl
  |some x=>obtain⟨ds,q⟩:=a x;show Zi (e x)=true;rw[q];rfl
 ·funext o;cases o with
  |none=>rfl
  |some x=>obtain⟨ds,q⟩:=a x;show MX (e x)=false;rw[q];rfl
end
section
variable{o e2:Expr}{fx fy:Ev->Y3 Bx}
end
section
variable{f:AJ}{E:XK}{gy:Ev->Y3 Dt}{sts AS:Y AB}{p0 p00 p01 p02:Pos}
end
structure DQ (K:B8) (mg:Str->Option Value) (x:Str) (st:Stmt) (ps:At) where
 f:Addr
 fd:FuncData
 F:D4 K x x st f fd
 b:Bi K fd ps []
 m:mg x=some (.ref f)
 k:keepIn K (.ref f)=true
def jQ{f:A1}{i b:Y3 A1}{sl:Array (Y3 A0)}{g kV n pm d ct:A0}(X:K.In h)(G:h.Ns mainGlobals mg)(a:Nn K x f)(l:Lk K f x st g i sl kV n pm b d ct)(c:codeIn K d x=true)(k:keepIn K (.ref f)=true)(e:∀(kV j pm:A0) (b:Y3 A1) (m ct:A0) (us:Y A0),us.length=ps.length->bindArgs (fnOf x x (uf st) (jk st) (aK st) .none kV j pm b m ct) ⟨us,[]⟩=pure (ps.zip us):=by intro _ _ _ _ _ _;first|exact P1.HC λ_=>Y2|exact P1.HR λ_ _=>Y2|exact P1.OF λ_ _ _=>Y2|exact P1.Op λ_ _ _ _=>Y2|exact P1.XE λ_ _ _ _ _=>Y2|exact P1.HV Y2):DQ K mg x st ps:=
 ⟨f,_,Xy l c k,(Xy l c k).binds e,mg_of X G a,k⟩
theorem HA{v:Tok->A0}{tk:Tok}(X:K.In h)(G:h.Ns mainGlobals mg)(c:nsIn K mainGlobals x=Z (Z (v tk))):∃tk,mg x=Z (v tk):=⟨tk,mg_of X G c⟩
abbrev Ok(P:A3)(w:A4)(base:A6)(d:DQ K mg x st ps)(k n:Nat)(F:Y Bx->Y3 Bx):Prop:=yD P w K mg base Nz k d.f d.fd ps (Yh K n F)
theorem yO(d:DQ K mg x st ps)(S:bD N ps (aK st))(e:∀(a:A0) (A:A5) (outer:Y Env) (s:A2) (H:Hp) (E:XK),jG k (A.deeper (AK x (aK st) s.heap.objs.size d.f a))->(A.deeper (AK x (aK st) s.heap.objs.size d.f a)).units+100<cLine->N.Nodup->W2 (EY Nz P w K mg base N x (aK st) d.f a A outer s H E).nox (jk st) g)(c:N.length=n:=by rfl)(h:ps.length=m:=by rfl):Ok P w base d (k+1) m (c7 n g):=Pv d.F S c h λa A outer s H E b=>e a A outer s H E b (Ue b) S.nd
section
variable{fs:Ev->Y3 (Y Bx)}{p:Pos}
theorem bK(d:DQ X.K X.mg x st ps)(G:Ok X.prog X.w X.base d k n F)(i:jG m X.A)(g:T3 X (e::es) fs)(h:Gl X x:=by rfl)(hl:k<=m:=by decide)(c:ad x:=by decide)(a:A9 (e::es) X.env=(false,eval e X.env)::A9 es X.env:=by rfl)(f:(AD pos (A9 es X.env)).any (·.1)=false:=by rfl):QV X (.Call (.Name x p) (e::es) [] pos) (bG n F fs):=
 Tu G (i.mono hl) h d.m d.k d.b g c a f
end
theorem Ee{l:PySem.W.OpenLaw}{q:A3}{loose:At}{d:DefRec}{K:Params->B8}{T:B8->(AJ->Y3 A0)->Type}{F_law:Y Bx->Y3 Bx}(c:∀{K mg},T K mg->DQ K mg "law" st [x])(hk:jG k callerA)(hd:d.name ="law")(G:∀(w:A4) (mg:AJ->Y3 A0) (base:A6) (t:T (K w.params) mg),Ok l.prog w base (c t) k 1 F_law)(E:l.most=Z 63)(p:d.params.defaults=[])(h1:∀b:Y Int,b.length<=63->F_law [.z (.lst (b.map .int))]=Z (.z (.bl true)))(h2:∀b:Y Int,b.length<=63->F_law [.l (b.map .int)]=Z (.z (.bl true)))(B:∀(kV i pm:A0) (g:Y3 A1) (j ct u:A0),bindArgs (fnOf "law" "law" (uf st) (jk st) (aK st) .none kV i pm g j ct) ⟨[u],[]⟩=pure [(x,u)])(L:∀(w:A4) (h:A6),YP w h->(K w.params).In h)(A:∀(w:A4) (h:A6) (mg I:AJ->Y3 A0) (v:ExcName->Y3 A0) (y:At),(K w.params).In h->Top q y v mg I h->∃o,L2.Xv (K w.params) h o)(F:∀(w:A4) (mg:AJ->Y3 A0) (h:A6),(K w.params).In h->h.Ns mainGlobals mg->T (K w.params) mg):
  PySem.W.WalkO q loose XP YP l.row.toRowW d [] (λf vs=>PySem.call f vs):=
 L2.Xx (n:=63) (k:=k) (x:=x) (CX:=Nz) (sp:=λK=>Yh K 1 F_law) E () p hk L (λw mg fa h X N e=>by
  have t:=F w mg h X N;have D:=(c t).m;rw[hd,D]at e;cases e;refine⟨(c t).fd,λs u=>?_,λbase _ _=>G w mg base t⟩;obtain⟨M,S,kV,i,pm,g,j,ct,osl,e,P,Q⟩:=(c t).F.ex;rw[e];exact .of_eq (B kV i pm g j ct u)) (λK H a b hl C J=>YN h1 h2 K H a b hl C J) (λ_ _ _ _ z=>z) A
section
variable{f:A1}{sp:A1->Y V->Hp->VK->Prop}{p:Pos}{t:TA}
end
section
variable{p0 p1:Pos}{xs:At}{e:A1}{a:Expr}{ta:TA}
end
section
variable{f:AJ}{E:XK}{fs:Ev->Y3 (Y Bx)}{p:Pos}
end
section
variable{g:Array GenState}{d:Drawn}{t:Nat}{AS:Y A0}{B:String}
end
section
variable{E:XK}{p:Pos}{B:String}{t:TA}
end
def EC(j:Int)(ds:Y Dt):Y Dt:=(da ds.length).zipWith (λk d=>.tup [.int (j+(k:Nat)),d]) ds
theorem UG(j:Int)(ds:Y Dt):(EC j ds).length=ds.length:=by simp[EC]
section
variable{p kp cp:Pos}{fs:Ev->Y3 (Y Bx)}{j:Int}{kk:Nat}
end
section
variable{e:α->Dt}
def gQ(j:Int)(xs:Y α):Y (Int×α):=(da xs.length).zipWith (λ(k:Nat) x=>(j+(k:Int),x)) xs
end
section
variable{g:Ev->Y3 AJ}
variable{e:α->Dt}
end
section
variable{e:α->Dt}{σ' τ:Type}
def qE(e:α->Dt):Y3 (Y α)->Bx
 |none=>.z .non
 |some l=>.o (l.map e)
def Wp(e:α->Dt):Y3 (Y α)->Bx
 |none=>.z .non
 |some l=>.l (l.map e)
class HM (c:Option (List α)->Bx) (e:outParam (α->Dt)):Prop where
 d:∀v,toD (c v)=eO (eL e) v/\jY (c v)=false
instance:HM (qE e) e:=⟨λv=>by cases v<;>exact⟨rfl,rfl⟩⟩
instance:HM (Wp e) e:=⟨λv=>by cases v<;>exact⟨rfl,rfl⟩⟩
instance:HM (zE (eO (eL e))) e:=⟨λv=>⟨rfl,rfl⟩⟩
end
theorem Wb(l:A1)(items:Array A0)(n:Nat)(a:Y3 A1)(sl:Array (Y3 A0)):
  Meets (Builtin.«enumerate.__new__» ⟨[.type "enumerate", .ref l],[]⟩) (λ_ R s=>s.heap.get? l=Z ⟨.type "tuple",a,.seq items n,sl⟩ ∧
   R (.ok (.ret (.ref (s.heap.push { cls:=.type "tuple_iterator",data:=.fields #[.ref l,.int 0 0] }).objs.size)))
    { s with heap:=(s.heap.push { cls:=.type "tuple_iterator",data:=.fields #[.ref l,.int 0 0] }).push { cls:=.type "enumerate",data:=.fields #[.none,.bool false,.ref s.heap.objs.size,rawInt 0,.none,.none] } }):=
 .of_wp λprog w A R s ⟨hl,h⟩=>by
  obtain⟨hp,g,d,tk,os⟩:=s;have b:=sub_enumerate;have m2:Heap.IsTuple (Shared.heap ⟨hp,g,d,tk,os⟩) l items:=⟨_,hl,rfl,n,rfl⟩
  wp_walk using AutoSeq1.wpAny_loadPart' hl
  refine wpAny_stack_any λst=>zd ?_;split
  ·rename_i c _ _ _ _ _;cases(c==Value.type "enumerate")
   ·wp_walk using AutoSeq1.wpAny_loadPart' hl,KW m2
    exact⟨_,rfl,h⟩
   ·wp_walk using AutoSeq1.wpAny_loadPart' hl,KW m2
    exact⟨_,rfl,h⟩
  ·wp_walk using AutoSeq1.wpAny_loadPart' hl,KW m2
   exact⟨_,rfl,h⟩
theorem Zk(e:s.heap.IsTuple l items)(h:∀h',IsEnum h' (s.heap.objs.size+1) s.heap.objs.size 0 .none->h'.IsTupleIter s.heap.objs.size l 0->(∀b o,s.heap.get? b=Z o->h'.get? b=Z o)->Q (.ref (s.heap.objs.size+1)) { s with heap:=h' }):
  A7 (A8 prog w) A (call (.type "enumerate") [.ref l]) Q E s:=by
 obtain⟨⟨c,g,j,sl⟩,hl,i,n,hd⟩:=e;cases i;cases hd;refine callType_new F.called_enumerate () (F.typeCall_enumerate_1 _) (F.newCall_enumerate_1 _) (λf=>F.args_object_init_2 f _) F.entry_enumerate_new (Wb l items n g sl) ⟨hl,?_⟩;have d:(s.heap.push { cls:=.type "tuple_iterator",data:=.fields #[.ref l,.int 0 0] }).objs.size=s.heap.objs.size+1:=k9 ..;show _/\_;rw[d];have a:=zS (s.heap.push { cls:=.type "tuple_iterator",data:=.fields #[.ref l,.int 0 0] }) (o:={ cls:=.type "enumerate",data:=.fields #[.none,.bool false,.ref s.heap.objs.size,rawInt 0,.none,.none] }) rfl;rw[d]at a;exact⟨⟨_,a,rfl⟩,h _ a ⟨_,zg _ (zS _ Y2),rfl,rfl⟩ λb o x=>zg _ (zg _ x)⟩
theorem Zm{e:A1}{j:Int}{x old:A0}(t:IsEnum s.heap e it j old)(M:s.heap.IsTupleIter it l i)(hl:s.heap.IsTuple l items)(hx:items[i]?=Z x)(B:e≠it)(q:∀h',IsEnumOut h' e it (j+1) x s.heap.objs.size->h'.IsTupleIter it l (i+1)->h'.get? s.heap.objs.size=Z { cls:=.type "tuple",data:=.seq #[.int j s.toks,x] }->(∀b o,b≠e->b≠it->s.heap.get? b=Z o->h'.get? b=Z o)->Q (.ref s.heap.objs.size) { s with heap:=h',toks:=s.toks+1 }):
  A7 (A8 prog w) A (Builtin.«enumerate.__next__» ⟨[.ref e],[]⟩) (λH s'=>∃v,H=.done (.ret v)/\Q v s') E s:=by
 obtain⟨c,g,d,tk,os⟩:=s;have f:it≠e:=kX B;show A7 _ _ (field (.ref e) 2 >>= _) _ _ _;refine zb (QN t Y2 (x:=.ref it) Y2 (zb (PH M hl hx λa1 it1 (k:Heap.SameBut it c a1)=>?_)));have e1:IsEnum a1 e it j old:=(k.2 e B).trans t;show A7 _ _ (field (.ref e) 3 >>= _) _ _ ⟨a1,g,d,tk,os⟩;refine zb (QN e1 Y2 (x:=rawInt j) Y2 ?_);show A7 _ _ (field (.ref e) 4 >>= _) _ _ ⟨a1,g,d,tk,os⟩;refine zb (QN e1 Y2 (x:=.none) Y2 ?_);show A7 _ _ (mkInt j >>= _) _ _ ⟨a1,g,d,tk,os⟩;refine zb (wpAny_mkInt ?_);show A7 _ _ (setField (.ref e) 3 (rawInt (j+1)) >>= _) _ _ ⟨a1,g,d,tk+1,os⟩;refine zb (kQ e1 (by simp) λa2 e2 (m:Heap.SameBut e a1 a2)=>?_);have e2:IsEnum a2 e it (j+1) old:=e2;show A7 _ _ (setField (.ref e) 4 .none >>= _) _ _ ⟨a2,g,d,tk+1,os⟩;refine zb (kQ e2 (by simp) λa3 e3 (p:Heap.SameBut e a2 a3)=>?_);have e3:IsEnum a3 e it (j+1) old:=e3;have z3:a3.objs.size=c.objs.size:=by rw[p.1,m.1,k.1]
 show A7 _ _ (newTuple [.int j tk,x] >>= _) _ _ ⟨a3,g,d,tk+1,os⟩;refine zb (wpAny_newTuple ?_);have le:e<c.objs.size:=zI t;obtain⟨a,K,h,G,L,I⟩:∃a,a3.push { cls:=.type "tuple",data:=.seq #[.int j tk,x] }=a/\IsEnum a e it (j+1) old/\a.get? c.objs.size=Z { cls:=.type "tuple",data:=.seq #[.int j tk,x] }/\(∀b o,b≠e->b≠it->c.get? b=Z o->a.get? b=Z o)/\a.IsTupleIter it l (i+1):=by
  refine⟨_,rfl,zg _ e3,by rw[<-z3];exact zS _ rfl,λb o b1 b2 z=>zg _ (p.extBut b o b1 (m.extBut b o b1 (k.extBut b o b2 z))),?_⟩;obtain⟨o,J,r⟩:=(it1.extBut m.extBut f).extBut p.extBut f;exact⟨o,zg _ J,r⟩
 rw[show({ heap:=a3,gens:=g,drawn:=d,toks:=tk+1,os:=os }:A2).heap.push { cls:=.type "tuple",data:=.seq #[.int j tk,x] }=a from K,show({ heap:=a3,gens:=g,drawn:=d,toks:=tk+1,os:=os }:A2).heap.objs.size=c.objs.size from z3];show A7 _ _ (Builtin.SmallTypes.ownedTupleIsFree (.ref e) >>= _) _ _ ⟨a,g,d,tk+1,os⟩;refine zb ?_;unfold Builtin.SmallTypes.ownedTupleIsFree;refine zb (QN h Y2 (x:=.none) Y2 (zd ?_));simp only[QO];refine zb (QP (zb (QN h Y2 (x:=old) Y2 (zb (kQ h (by simp) λa5 n (D:Heap.SameBut e a a5)=>?_)))));have n:IsEnum a5 e it (j+1) x:=n;show A7 _ _ (Builtin.SmallTypes.ownedTupleHandOut (.ref e) (.ref c.objs.size) >>= _) _ _ ⟨a5,g,d,tk+1,os⟩;refine zb ?_;unfold Builtin.SmallTypes.ownedTupleHandOut;refine zb (kQ n (by simp) λa6 y (C:Heap.SameBut e a5 a6)=>?_);have y:IsEnumOut a6 e it (j+1) x c.objs.size:=y;refine kQ y (by simp) λa7 e7 (F:Heap.SameBut e a6 a7)=>?_;have kk:∀b o,b≠e->a.get? b=Z o->a7.get? b=Z o:=λb o u z=>F.extBut b o u (C.extBut b o u (D.extBut b o u z));exact zb (wpAny_letGo (zd ⟨_,rfl,q a7 e7 (((I.extBut D.extBut f).extBut C.extBut f).extBut F.extBut f) (kk _ _ (kD le) G) λb o b1 b2 z=>kk b o b1 (L b o b1 b2 z)⟩))
theorem Zn{e:A1}{j:Int}{x old:A0}{Q:Y3 A0->A2->Prop}(f:IsEnum s.heap e it j old)(g:s.heap.IsTupleIter it l i)(hl:s.heap.IsTuple l items)(hx:items[i]?=Z x)(h:e≠it)(q:∀h',IsEnumOut h' e it (j+1) x s.heap.objs.size->h'.IsTupleIter it l (i+1)->h'.get? s.heap.objs.size=Z { cls:=.type "tuple",data:=.seq #[.int j s.toks,x] }->(∀b o,b≠e->b≠it->s.heap.get? b=Z o->h'.get? b=Z o)->Q (Z (.ref s.heap.objs.size)) { s with heap:=h',toks:=s.toks+1 }):
  A7 (A8 prog w) A (pyNext (.ref e)) Q E s:=by
 have d:s.TypeIs (.ref e) "enumerate":=⟨_,f,rfl⟩;unfold pyNext;exact zb (wpAny_attempt (QQ (name:=Str.ofString "__next__") d Kj (jn Kj d F.entry_enumerate_next (Zm f g hl hx h λh' a b c k=>zd (q h' a b c k)) (F.args_enumerate_next_1 _))))
theorem XV{e:A1}{j:Int}{old:A0}{Q:Y3 A0->A2->Prop}(d:A.handled=O)(c:IsEnum s.heap e it j old)(f:s.heap.IsTupleIter it l i)(hl:s.heap.IsTuple l items)(hx:items[i]?=O)(q:∀h',Heap.ExtBut it s.heap h'->Q O { s with heap:=h' }):A7 (A8 prog w) A (pyNext (.ref e)) Q E s:=by
 have a:s.TypeIs (.ref e) "enumerate":=⟨_,c,rfl⟩;unfold pyNext;refine zb (wpAny_attempt (QQ (name:=Str.ofString "__next__") a Kj (jn Kj a F.entry_enumerate_next ?_ (F.args_enumerate_next_1 _))));show A7 _ _ (field (.ref e) 2 >>= _) _ _ _;refine zb (QN c Y2 (x:=.ref it) Y2 (zb (RW d f hl hx λh' x he' ⟨o,ho,hc⟩=>?_)));exact zb (yn (T :="StopIteration") (b:=true) ⟨o,ho,hc⟩ isSubtype_stop (zd (q _ he')))
def GA(K:B8)(l:A1)(j:Int):It:=
 ⟨λi H=>∃xs x,tX K H l xs/\xs[i]?=Z x,λi H v H'=>∃p x,H p=O/\(∀xs,tX K H l xs->xs[i]?=Z x)/\v=.ref p/\H'=BA H p (.tup [.int (j+i),x]),λi H=>∃xs,tX K H l xs/\xs.length<=i⟩
theorem Zo(l e it:A1)(j:Int)(C:e≠it):
  CD P w K (.Tuple elts x1 tpos) (GA K l j) [e,it] e (λi h=>(∃old,IsEnum h e it (j+(i:Nat)) old)/\h.IsTupleIter it l i) where
 mem:=by simp
 obj:=λi h st b a=>by
  obtain⟨⟨old,h1⟩,o,h2,_,h3⟩:=st;rcases bc.mp a with rfl|a
  ·exact⟨_,h1,λv z=>by cases z⟩
  ·cases cf.mp a;exact⟨o,h2,λv z=>by rw[h3]at z;cases z⟩
 keep:=λi h h' st k=>by
  obtain⟨⟨old,h1⟩,h2⟩:=st;exact⟨⟨old,k e (by simp) _ h1⟩,h2.at λo q=>k it (by simp) o q⟩
 item:=by
  intro X f g m D i AN s σ H E I c st t;subst f g m;obtain⟨⟨old,h1⟩,h2⟩:=st;obtain⟨xs,x,d,hx⟩:=t;obtain⟨AQ,y,p,hz⟩:=I.tuple d;obtain⟨u,Q,U⟩:=y.get hx;have fe:=c e (by simp);have fi:=c it (by simp);refine Zn h1 h2 (show s.heap.IsTuple l AQ.toArray from p) (x:=u) (by simpa using Q) C λa2 ho a1 N hk=>⟨_,rfl,?_⟩;refine wpAny_letOwnedTupleGo_enum ho λB A n=>?_;have elt:e<s.heap.objs.size:=zI h1;have W:it<s.heap.objs.size:=by obtain⟨_,q,_⟩:=h2;exact zI q
  have S:B.get? s.heap.objs.size=Z { cls:=.type "tuple",data:=.seq #[.int (j+(i:Nat)) s.toks,u] }:=(n.2 _ (kD elt)).trans N;have F:B.IsTupleIter it l (i+1):=a1.at λo q=>(n.2 it (kX C)).trans q;have ej:j+(i:Nat)+1=j+((i+1:Nat):Int):=by omega
  refine⟨.ref s.heap.objs.size,BA H s.heap.objs.size (.tup [.int (j+i),x]),Uo (t':=s.toks+1) I (λb o G n2 q=>(n.2 b G).trans (hk b o G n2 q)) fe fi ⟨_,A⟩ (by obtain⟨o,q,_⟩:=F;exact⟨o,q⟩) ?_,rfl,⟨_,x,I.hok.fresh (zi _),λys J=>by rw[I.Bc J d];exact hx,rfl,rfl⟩,⟨⟨_,by rw[<-ej];exact A⟩,F⟩,λb a=>?_⟩
  ·exact⟨by show 2<=AA;decide,[.int (j+(i:Nat)) s.toks,u],.cons ⟨_,rfl⟩ (.cons U .nil),_,S,rfl,⟨_,rfl⟩,rfl⟩
  ·rcases bc.mp a with rfl|a
   ·rw[aM (ZI elt)];exact fe.1
   ·cases cf.mp a;rw[aM (ZI W)];exact fi.1
 done:=by
  intro X f g m D i AN s σ H E I c st t;subst f g m;obtain⟨⟨old,h1⟩,h2⟩:=st;obtain⟨xs,d,hx⟩:=t;obtain⟨AQ,y,p,hz⟩:=I.tuple d;obtain⟨f0,f1,f2,f3,L,M⟩:=c it (by simp);have hl:=y.length;exact XV (I.ok.hd D) h1 h2 (show s.heap.IsTuple l AQ.toArray from p) (by simp;omega) λh' eb=>⟨rfl,I.turned (t':=s.toks) (λb o a e=>eb b o a e) f0 f1 f3 L M⟩
 self:=λ_ _ _ _ _ st h=>by
  obtain⟨⟨old,h1⟩,_⟩:=st;exact ya h1 h
theorem B7.enT(j:Int)(h:tX K Hs l vs)(r:aH K Hs ds vs):B7 K (GA K l j) (P1.EC j ds) Hs:=λi H s=>by
 have h':=Kp.sqT (.of s) h;have f:=r.kp (.of s);refine⟨λd e=>?_,λe=>⟨vs,h',by rw[UG]at e;rw[r.length];exact e⟩⟩;have hi:i<ds.length:=by
  have:=(ca.mp e).1;rwa [UG]at this
 have c:ds[i]?=Z ds[i]:=by simp[hi]
 unfold P1.EC at e;rw[gm]at e;simp[hi]at e;subst e;obtain⟨v,ev,g⟩:=f.get c;refine⟨⟨vs,v,h',ev⟩,λx H' y=>?_⟩;obtain⟨p,m,hp,k,rfl,rfl⟩:=y;have:=k vs h';rw[ev]at this;cases this;have a:AV H (BA H p (.tup [.int (j+i),v])):=λb o q=>by rw[aM (cH q hp)];exact q
 refine⟨a,?_⟩;simp only[AW];exact⟨p,_,rfl,.inl (.inl bH),aH.cons (by simp only[AW]) (aH.cons (AW.kp (.of a) g) aH.nil)⟩
section
variable{p:Pos}{fs:Ev->Y3 (Y Bx)}
def bu(K:B8)(ta:TA):TI:=λσ H R=>ta σ H λvs H1=>∃l,vs=[.ref l]/\(∃xs,tX K H1 l xs)/\R (GA K l 0) H1
theorem Xs{ta:TA}(g:Gl X "enumerate")(j:X.mg "enumerate"=O)(f:PA X [e] ta)(hs:A9 [e] X.env=[(false,eval e X.env)]:=by rfl):PI X (.Tuple elts x1 tpos) (.Call (.Name "enumerate" p) [e] [] pos) (bu X.K ta):=by
 intro AN s σ H R I h;refine Call_ (vH I g j boot_enumerate (PyProof.Rows.callWith_type1 (jF (f pos AN s σ H _ I h) λus s1 ⟨vs,H1,I1,r1,q1⟩=>?_) hs Y2));obtain⟨l,rfl,⟨xs,d⟩,q⟩:=q1;obtain⟨u,rfl,i⟩:=BE r1;cases i;obtain⟨AQ,m,p,n⟩:=I1.tuple d;refine Zk (show s1.heap.IsTuple l AQ.toArray from p) λh' c k hk=>?_;refine ya c ?_;refine⟨s1.heap.objs.size+1,[s1.heap.objs.size+1,s1.heap.objs.size],_,_,H1,rfl,I1.kept (t':=s1.toks) hk,Zo l _ _ 0 (kD (Nat.lt_succ_self _)),⟨⟨_,by rw[show(0:Int)+((0:Nat):Int)=0 by simp];exact c⟩,k⟩,λb a=>?_,q⟩;rcases bc.mp a with rfl|a
 ·exact I1.Nt (Kx _) (I1.hok.fresh (Kx _))
 ·cases cf.mp a;exact I1.Nt (zi _) (I1.hok.fresh (zi _))
def Fn:Y Bx->Y3 (Y Dt)
 |[.z (.tup ds)]=>Z (EC 0 ds)
 |_=>O
theorem NN(j:Gl X "enumerate")(m:X.mg "enumerate"=O)(h:T3 X [e] fs)(hs:A9 [e] X.env=[(false,eval e X.env)]:=by rfl):EA X (.Tuple elts x1 tpos) (.Call (.Name "enumerate" p) [e] [] pos) (λρ=>(fs ρ).bind Fn):=⟨λAN s σ H R I q=>by
 refine Xs j m h.run hs AN s σ H R I ?_;obtain⟨H0,ρ,ds,E,e,q⟩:=q;obtain⟨bs,eb,e⟩:=AT e;refine⟨H0,ρ,bs,E,eb,λvs H1 l k=>?_⟩;unfold Fn at e;split at e
 ·rename_i t;cases e;obtain⟨v,rfl,c⟩:=BT k;simp only[bf,AW]at c;obtain⟨a,i,rfl,b,g⟩:=c;refine⟨a,rfl,⟨i,b⟩,q _ _ l λHs hs n f d=>.enT 0 ?_ (g.part f d)⟩;rcases b with (b|⟨o,b⟩)|b
  ·exact .inl (.inl ((d _ _ b).trans b))
  ·exact .inl (.inr ⟨o,(f _ _ _ b).trans b⟩)
  ·exact .inr b
 ·cases e⟩
end
section
variable{e:α->Dt}
def ID(fs:Ev->Y3 (Y Bx)):Ev->Y3 (Y Dt):=λρ=>(fs ρ).bind Fn
def Oy(a:R fa ρ (zE (eT e))):R (ID (ao fa aD)) ρ (iE (W4 eI e)):=⟨gQ 0 a.v,a.D,λh=>by
 have b:EC 0 (a.v.map e)=(gQ 0 a.v).map (W4 eI e):=by
  unfold EC gQ;rw[ze,gc,ie]
 simp only[ID,ao,aD,a.ok h,Au,zE,eT,Fn,b]⟩
end
section
variable{e:α->Dt}
end
section
variable{AS:Y AB}{ga:Ev->Y3 Ap}
end
section
variable{f:A1}{Fa Fb:Y Bx->Y3 Bx}{p spos:Pos}{fs:Ev->Y3 (Y Bx)}
end
section
variable{e:α->Dt}
end
end P1
namespace P1
open L2 S1 S6
section
variable{e:α->Dt}
end
end P1
namespace P1
open L2
section
variable{e:α->Dt}
end
section
variable{R:Result->A2->Prop}{I:A1}{wr:Y A1}{P:Nat->A0->Prop}{St:Nat->A6->Prop}
end
section
variable{e:α->Dt}
end
def ES{α:Type}:Y α->Y α
 |[]=>[]
 |x::xs=>x::ES (xs.drop 5)
termination_by l=>l.length
decreasing_by simp;omega
section
variable{st:Expr}{fs:Ev->Y3 Bx}
end
section
variable{e:α->Dt}
end
section
variable{AS:Y AB}{W:Y Nat}
end
section
variable{e:α->Dt}
end
section
variable{st:Y AB}{fr:Ev->Y3 Bx}{W:Y Nat}{z:Pos}{Φ:Hp->Hp->L2.St->Ev->Prop}
end
section
variable{AS:Y AB}
end
end P1
namespace P1
open L2 S6
section
variable{p p' pos':Pos}
end
end P1
namespace P1
open L2 S1
section
variable{T:Y AY->A0->Prop}(inj:∀ k l v,T k v->T l v->k=l)
include inj
end
end P1
namespace P1
open L2 S1 S6
section
variable{e:α->Dt}{e':β->Dt}
end
end P1
namespace P1
open L2
theorem Sg{pos':Pos}{c f:A0}(l:Y A0)(h:TriplesOk l)(d:codeAmong pos' (l++[rawInt pos.line,rawInt pos.col,c])=Z f):codeAmong pos' l=Z f\/f=c:=by
 fun_induction TriplesOk l with
 |case1=>
  simp only[dP,codeAmong,rawInt]at d;split at d
  ·cases d;exact .inr rfl
  ·cases d
 |case2 a t b u x AS g=>
  simp only[List.cons_append,codeAmong]at d ⊢;split at d
  ·rename_i e;rw[zk e];exact .inl d
  ·rename_i e;rw[zv e];exact g h d
 |case3 l h1 h2=>exact h.elim
def Sh(K:B8)(c P:A1)(q:AJ):Prop:=∃o vs d tf a tg inF b tt x t,K.lookup c=Z o/\o.cls=.type "code" ∧ o.data=.fields vs/\vs[11]?=Z (.ref P)/\vs.getD 11 .none=.ref P/\vs.getD 18 .none=.str d tf ∧
 vs.getD 7 .none=.int a tg/\vs.getD 9 .none=.bool inF/\vs.getD 10 .none=.int b tt/\c≠P/\vs[1]?=Z (.str x t)/\x∈W8/\q=x++(".<locals>.<lambda>":AJ)
theorem Sh.tab{c P:A1}{q:AJ}(h:Sh K c P q):GO K P q:=by
 obtain⟨o,vs,_,_,_,_,_,_,_,x,t,a,_,d,e,_,_,_,_,_,_,f,g,i⟩:=h;exact⟨c,o,vs,x,t,a,d,f,g,e,i⟩
theorem Sh.hd{c P:A1}{q:AJ}(h:Sh K c P q){hp:A6}(k:K.In hp):PySem.W.CodeHd hp c P:=by
 obtain⟨o,vs,a1,a2,n,g,i,p,l,x,t,a,b,d,e,e1,e2,e3,f,m,j,_⟩:=h;exact⟨o,vs,a1,a2,n,g,i,p,l,k _ _ a,b,d,e,e1,e2,e3,f,m,j⟩
abbrev DN:HO:=.ext λ_=>True
structure Pu (H:Hp) (f:Addr) (q:Str) (params:Arguments) (body:Expr) (scope:Scope) (clos:List (Str×Addr)) (pm:Value):Prop where
 at_:∃c' ctv oc vs t,H f=some (.oJ (kla_obj "<lambda>" q params body scope clos pm c' ctv) DN)/\H c'=some (.oJ oc DN)/\oc.data=.fields vs/\vs[1]?=some (.str q t)
theorem Pu.same{H':Hp}{f:A1}{q:AJ}{body:Expr}{d:Y (AJ×A1)}{pm:A0}(h:Pu H f q params body scope d pm)(s:AV H H'):Pu H' f q params body scope d pm:=by
 obtain⟨c',g,e,vs,t,a,b,c⟩:=h.at_;exact⟨c',g,e,vs,t,s _ _ a,s _ _ b,c⟩
theorem Lb{o:AE}(e:h.get? a=Z o):jB P w H h a (.oJ o DN):=⟨e,trivial,⟨o,e⟩,λ_ _ _ _=>trivial⟩
theorem Zq{c P:A1}{q:AJ}{body:Expr}{y:Y (AJ×A1)}{R:BG}(I:L2.AU X AN σ H s)(hK:Sh X.K c P q)(a1:X.env.code=.ref c)(hq:X.env.qual++("<lambda>":AJ)=q)(d1:defaultsOf params X.env=([],[]))(a3:closureFor scope X.env=pure y)(h:∀f H' s',L2.AU X AN σ H' s'->AV H H'->H f=O->Pu H' f q params body scope y ((X.mg "__name__").getD .none)->R (.ref f) s'):A7 M A (eval (.Lambda params body scope pos) X.env) R E s:=by
 refine PySem.W.kla_eval d1 ?_;rw[show X.env.qual++("<lambda>":AJ)=q from hq];obtain⟨ps,B,a4,d8⟩:=(I.ok.tabs.go I.base.yx) P q hK.tab;obtain⟨a6,x,F,a2⟩:=I.hok P _ B;have D:s.heap.Ns mainGlobals X.mg:=I.mod.glob.keeps I.bk;have C:=hK.hd I.kIn;obtain⟨U,J,b1,b2,b3,b4,b5,N⟩:=I.mod.bmain;have a7:mainGlobals≠P:=λz=>by
  obtain⟨o,es,ep,e,hd,_⟩:=D;rw[z,x]at e;cases e;cases hd
 have l:=I.bk _ _ b3;have G:U≠P:=λz=>by rw[z,x]at l;cases l;cases b4
 have d3:U≠mainGlobals:=λz=>by
  obtain⟨o,es,ep,e,hd,_⟩:=D;rw[z,e]at l;cases l;rw[hd]at N;cases N
 have hB:s.heap.BuiltinsAt X.mg P:=⟨U,J,b1,b2,d3,G,l,b4,b5,N⟩;cases L:codeAmong pos (tr ps++a6).toList with
 |some S=>
  obtain⟨c',a,vs,t,rfl,g1,g2,g3⟩:=a2 pos S L;refine PySem.W.kla_makeFunctionHit (mg:=X.mg) a3 I.ok.glob D a1 C x F L hB λp h' tk hk d4=>?_;have k:L2.AU X AN σ H { s with heap:=h',toks:=tk }:=I.kept hk;have i:H h'.objs.size=O:=k.hok.fresh (zi _);have j:AV H (BA H h'.objs.size (.oJ (kla_obj "<lambda>" q params body scope y ((X.mg "__name__").getD .none) c' p) DN)):=cg i;refine h h'.objs.size _ _ (k.laid (t':=tk) (λb u e=>zg _ e) (zi _) (Lb (zS _ Y2))) j i ⟨c',p,a,vs,t,bH,j _ _ g1,g2,?_⟩;rw[a4]at g3;exact g3
 |none=>
  refine PySem.W.kla_makeFunction (mg:=X.mg) a3 I.ok.glob D a1 C x F L a7 hB λc' p h' tk hx a5 b0 d2 Q=>?_;obtain⟨d6,a,vs,t,e2,c4,hd,hv⟩:=d2;cases e2;have c0:H c'=O:=I.hok.fresh a5;have nP:∀b,H b=O->b≠P:=λb n z=>by rw[z,B]at n;cases n
  have d5:=Q;have g:AV H (BA H c' (.oJ a DN)):=cg c0;have u:Un X.fs [] H (BA H c' (.oJ a DN)) s.heap h':=by
   refine⟨λb o e n _ _=>hx b o (nP b n) e,λb o e n _ _=>⟨o.slots,hx b o (nP b n) e⟩,λb o e n _=>?_,λb o e _=>?_,λb xs e=>g _ _ e,λb o u e=>g _ _ e,λb ps e=>⟨#[],by rw[g _ _ e];simp⟩⟩
   ·rw[aM (ZI (ZH (zI e) a5))];exact n
   ·by_cases m:b=P
    ·subst m;exact⟨_,Q⟩
    ·exact⟨o,hx b o m e⟩
  have d0:Cq X.prog X.w (BA H c' (.oJ a DN)) h':=λb J e=>by
   by_cases m:b=c'
   ·subst m;rw[bH]at e;cases e;exact Lb c4
   ·rw[aM m]at e;by_cases G:b=P
    ·subst G;rw[B]at e;cases e;refine⟨a6++#[rawInt pos.line,rawInt pos.col,.ref c'],?_,?_,λpos' S z=>?_⟩
     ·rw[<-K0];exact Q
     ·rw[<-K0,Zp];exact TriplesOk_snoc _ _ _ _ F
     ·rw[<-K0,Zp]at z;rcases Sg _ F z with z|z
      ·obtain⟨d,od,ws,t',e1,e2,e3,e4⟩:=a2 pos' S z;exact⟨d,od,ws,t',e1,g _ _ e2,e3,e4⟩
      ·exact⟨c',a,vs,t,z,bH,hd,by rw[a4];exact hv⟩
    ·refine(I.hok b J e).stay (λd v hd q'=>hx d v (λz=>?_) q') (λd z=>g _ _ z) (λd xs z=>g _ _ z) λd o φ z=>g _ _ z;subst z;rcases hd with z|z
     ·exact G z.symm
     ·rw[B]at z;cases z
  have k:L2.AU X AN σ (BA H c' (.oJ a DN)) { s with heap:=h',toks:=tk }:=I.un u d0;have i:(BA H c' (.oJ a DN)) h'.objs.size=O:=k.hok.fresh (zi _);have c5:H h'.objs.size=O:=by rw[aM (kD b0)]at i;exact i
  have j:AV (BA H c' (.oJ a DN)) (BA (BA H c' (.oJ a DN)) h'.objs.size (.oJ (kla_obj "<lambda>" q params body scope y ((X.mg "__name__").getD .none) c' p) DN)):=cg i;exact h h'.objs.size _ _ (k.laid (t':=tk) (λb u e=>zg _ e) (zi _) (Lb (zS _ Y2))) (g.trans j) c5 ⟨c',p,a,vs,t,bH,j _ _ bH,hd,hv⟩
def JB(X:Cx)(scope:Scope)(cl:Y (AJ×A1)):At->Y Nat->Prop
 |[],[]=>True
 |x::xs,i::is=>(X.N[i]?=Z x/\(X.env.kindOf x=Z .cell\/X.env.kindOf x=Z .free)/\scope.names.lookup x=Z .free/\∃c,cl.lookup x=Z c)/\JB X scope cl xs is
 |_,_=>False
theorem JB.get{X:Cx}{scope:Scope}{cl:Y (AJ×A1)}:∀{xs:At} {is:Y Nat},JB X scope cl xs is->xs.length=is.length/\∀(j:Nat) (x:AJ),xs[j]?=Z x->∃i,is[j]?=Z i/\X.N[i]?=Z x/\(X.env.kindOf x=Z .cell\/X.env.kindOf x=Z .free)/\scope.names.lookup x=Z .free/\∃c,cl.lookup x=Z c
 |[],[],_=>⟨rfl,λj x e=>by simp at e⟩
 |x::xs,i::is,h=>by
  obtain⟨h1,h2⟩:=h;obtain⟨l,g⟩:=JB.get h2;refine⟨by simp[l],λj y e=>?_⟩;cases j with
  |zero=>simp at e;subst e;exact⟨i,rfl,h1⟩
  |succ j=>obtain⟨k,e1,e2⟩:=g j y (by simpa using e);exact⟨k,by simpa using e1,e2⟩
 |[],_::_,h=>h.elim
 |_::_,[],h=>h.elim
structure UJ (X:Cx) (scope:Scope) (cl:List (Str×Addr)) (x:Str) (xs:At) (is:List Nat):Prop where
 clos:closureFor scope X.env=pure cl
 kind:scope.kind=.function
 co:scope.isCoroutine=false
 gen:scope.isGenerator=false
 adh:∀y∈scope.names,y.2≠.cell
 par:scope.names.lookup x=some .local
 sub:C7 X.env.cells cl
 has:∀y∈scope.names,y.2=.free->∃c,cl.lookup y.1=some c
 cap:JB X scope cl xs is
def FA(X:Cx)(A:A5)(a:At)(env:Env)(s₀:A2)(H₀:Hp):Cx:=
 { X with A:=A.deeper env,N:=a,s₀:=s₀,H₀:=H₀,env:=env,outer:=X.stack,stack:=env::X.stack,ex:=[],calm:=true,fn:=λ_=>false,pn:=[],xe:=λ_ _=>False }
section
variable{q:AJ}{body:Expr}{xs:At}{f c':A1}{pm:A0}
theorem az{h1:A6}{t1:Nat}{v:V}(I:L2.AU X AN σ H s)(O:UJ X scope cl x xs is)(F:A.frames=Z X.stack)(C:A.handled=none)(r:B0 v u)(P:h1.Ns s.heap.objs.size (λy=>[(x,u)].reverse.lookup y))(hk:∀b o,s.heap.get? b=Z o->h1.get? b=Z o):
  L2.AU (FA X A (x::xs) (envX q scope s.heap.objs.size f (.ref c') cl) s H) [] (Z v::uh is σ) H { s with heap:=h1,toks:=t1 }:=by
 obtain⟨hl,M⟩:=O.cap.get;have g:∀b:A1,b∉(FA X A (x::xs) (envX q scope s.heap.objs.size f (.ref c') cl) s H).ex:=λb z=>absurd (show b∈([]:Y A1) from z) (by simp);have d:∀y c,cl.lookup y=Z c->X.env.cells.lookup y=Z c:=λy c e=>O.sub.get e;refine⟨⟨I.ok.mod,O.kind,rfl,rfl,zi _,λy z c e1 e2=>I.ok.inj y z c (d _ _ e1) (d _ _ e2),λy a=>?_,λy c h _=>absurd h (by show ¬ (false=true);simp),λ_=>C,Around.frames_deeper F,.inr ⟨rfl,rfl⟩,λb z=>absurd z (g b),I.bs,zo I.ok.bsz I.sz,λb _ _=>g b,λb z=>absurd z (g b),I.stack,I.JZ,I.ok.tabs.go I.base.yx⟩,
  rfl,I.bare,Un.kept hk,⟨_,P,λj y w e1 e2 _=>?_⟩,λy c e=>?_,I.hok.fresh (zi _),λy c e=>I.qG y c (d _ _ e),λp hp=>absurd (show p∈([]:Y (A1×AE)) from hp) (by simp),I.hok.kept hk,?_⟩
 ·have a:scope.names.lookup y=Z .cell\/scope.names.lookup y=Z .free:=a;rcases a with a|a
  ·exact absurd Y2 (O.adh _ (Q1 a))
  ·exact O.has _ (Q1 a) rfl
 ·cases j with
  |zero=>
   have e1:Z x=Z y:=e1;have e2:Z (Z v)=Z (Z w):=e2;cases e1;cases e2;exact⟨u,r,.inl ⟨O.par,by simp⟩⟩
  |succ j=>
   have e1:xs[j]?=Z y:=e1;have e2:(uh is σ)[j]?=Z (Z w):=e2;obtain⟨i,E,n,k,Q,c,t⟩:=M j y e1;have e3:σ[i]?=Z (Z w):=by
    unfold uh at e2;rw[qB,E]at e2;cases q:σ[i]? with
    |none=>rw[dC,q]at e2;cases e2
    |some o=>
     rw[dC,q]at e2;have:o=Z w:=by simpa using e2
     rw[this]
   have B:WY X.env.scope y:=by
    rcases k with k|k
    ·exact .inr (.inl k)
    ·exact .inr (.inr k)
   obtain⟨W,U,L⟩:=I.loc;obtain⟨N,J,l⟩:=L i y w n e3 B;refine⟨N,J,?_⟩;rcases l with⟨D,_⟩|⟨_,c2,K,G⟩
   ·rcases k with k|k<;>(rw[D]at k;cases k)
   ·have:=d _ _ t;rw[K]at this;cases this;obtain⟨o,m,hd⟩:=G;exact .inr ⟨.inr Q,_,t,o,hk _ o m,hd⟩
 ·obtain⟨S,o,m,hd⟩:=I.cell y c (d _ _ e);exact⟨S,o,hk _ _ m,hd⟩
 ·show(Z v::uh is σ).length=(x::xs).length;simp[uh,hl]
theorem N9{y:Bx}{v:V}(I:L2.AU X AN σ H s)(O:UJ X scope cl x xs is)(P:A.frames=Z X.stack)(G:A.handled=none)(b4:A.depth<recursionLimit)(L:Pu H f q params body scope cl pm)(a5:∀b3 ct u,bindArgs (kla_fn "<lambda>" q params body scope cl pm b3 ct) ⟨[u],[]⟩=pure [(x,u)])(hb:∀f c' s H,PV (FA X A (x::xs) (envX q scope s.heap.objs.size f (.ref c') cl) s H) body fb)(E:bW X.K H0 H σ ρ)(r:B0 v u)(rd:AW X.K H d v)(e:fb (Z (.z d)::jK is ρ)=Z y):
  A7 (cr X) A (call (.ref f) [u]) (λD s'=>∃g H',L2.AU X AN σ H' s'/\B0 g D/\AV H H'/\Nw H y g/\bf X.K H' y g) (λ_ _=>False) s:=by
 obtain⟨c',b5,N,vs,t,a1,a2,a3,a4⟩:=L.at_;have U:=(I.hok _ _ a1).1;have hc:=(I.hok _ _ a2).1;refine wpAny_call (PySem.W.kla_callFunE b4 U Y2 O.co O.gen Y2 ⟨c',N,vs,t,rfl,hc,a3,a4⟩ ?_);rw[a5];refine zd (wpAny_newFunctionEnv O.adh (λz hz=>by rw[cf.mp hz];exact O.par) (λa6 a7 C=>⟨(I.nolimit).fresh _ C,?_⟩) O.kind);show AF _ _ (.expr body (envX q scope s.heap.objs.size f (.ref c') cl)) _ _;have b0:∀b o,s.heap.get? b=Z o->a6.get? b=Z o:=λb o e=>C.extBut b o (ZI (zI e)) (zg _ e);have J:=az (t1:=s.toks+1) (c':=c') (f:=f) (q:=q) I O P G r a7 b0;have E0:=E.caps is 0;have S:bW X.K H H (Z v::uh is σ) (Z (.z d)::jK is ρ):=by
  have B:=E0.len;simp only[List.replicate_zero,Qr]at E0 B;refine⟨by simpa using B,λi b e=>?_,λi j c a b e h=>?_,AV.refl H,λi c a e h=>?_⟩
  ·cases i with
   |zero=>cases e;exact⟨v,rfl,rd⟩
   |succ i=>exact E0.val i b (by simpa using e)
  ·cases i with
   |zero=>cases e;cases h
   |succ i=>
    intro h1 h2 F h4;cases j with
    |zero=>cases h2;cases F
    |succ j=>rw[E0.own i j c a b (by simpa using e) h (by simpa using h1) (by simpa using h2) F (by simpa using h4)]
  ·cases i with
   |zero=>cases e;cases h
   |succ i=>intro h1;exact E0.new i c a (by simpa using e) h (by simpa using h1)
 refine PySem.W.kla_codeExpr (QE (hb f c' s H [] _ _ _ (λg H'=>AV H H'/\Nw H y g/\bf X.K H' y g) J ⟨H,_,y,S,e,λg H' p m n=>⟨p,m,n⟩⟩) (λD s' l=>?_) λe s' l=>l.elim);obtain⟨g,H',k,rv,p,m,n⟩:=l;obtain⟨v2,H2,I2,M,s2,n2,r2⟩:=I.after (Q:=λg H'=>AV H H'/\Nw H y g/\bf X.K H' y g) ⟨g,H',k.os,k.bare,k.base,k.hok,rv,p,m,n⟩;exact⟨v2,H2,I2,M,s2,n2,r2⟩
end
end P1
namespace P1
open L2 S1
def BQ(Zr:Dt->Bool)(fk:Dt->Y3 Bx):Y Dt->Y3 (Y (Dt×Dt))
 |[]=>Z []
 |d::ds=>match fk d with
  |some (.z k)=>if Zr k=true then(BQ Zr fk ds).bind λr=>Z ((d,k)::r)else O
  |_=>O
theorem tB{H1:Hp}{S:A1}(s:AV H1 H)(h:H1 S=O):AV H1 (BA H S o):=λa u e=>by
 rw[aM (cH e h)];exact s a u e
theorem Sq{Zr:Dt->Bool}{r:Y (Dt×Dt)}(h:BQ Zr fk (d::ds)=Z r):∃k a,fk d=Z (.z k)/\Zr k=true/\BQ Zr fk ds=Z a/\r=(d,k)::a:=by
 simp only[BQ]at h;split at h
 ·rename_i k hk;split at h
  ·rename_i ok;obtain⟨a,e,h⟩:=AT h;cases h;exact⟨k,a,hk,ok,e,rfl⟩
  ·cases h
 ·cases h
theorem Zt{H':Hp}(h:qC K H a xs)(s:AV H H'):qC K H' a xs:=by
 rcases h with (h|⟨o,h⟩)|h
 ·exact .inl (.inl (s _ _ h))
 ·exact .inl (.inr ⟨o,s _ _ h⟩)
 ·exact .inr h
section
variable{R:Result->A2->Prop}
end
section
variable{body:Expr}{afw p kpos:Pos}{xs:At}{c P:A1}{q:AJ}{bt:Dt->Dt->Bool}{Zr:Dt->Bool}
end
end P1
namespace P1
open L2
section
variable{o:Expr}
end
end P1
namespace P1
open L2 S1
end P1
namespace P1
open L2 S1 S6
section
variable{e:α->Dt}{e':β->Dt}
theorem JC{Zr:Dt->Bool}{fk:Dt->Y3 Bx}{g:α->β}(a:∀y,Zr (e' y)=true):∀{xs:Y α},(∀x∈xs,fk (e x)=Z (.z (e' (g x))))->BQ Zr fk (xs.map e)=Z (xs.map λx=>(e x,e' (g x)))
 |[],_=>rfl
 |x::xs,h=>by
  rw[zw,BQ,h x (zt ..)];simp only[a,QO];rw[JC a λz b=>h z (zl _ b),Au];rfl
def hk(q:AJ×β):Y AY:=[.inr q.1]
end
end P1
namespace P1
open L2
section
variable [Inhabited α] {e:α->Dt}{k:Ev->Y3 Ap}{cO:γ->Ap}
end
theorem WE{f c:A1}(F:D4 K x qual st f fd)(d:fd.code=.ref c)(S:bD N ps (aK st))(i:N.length=n)(y:ps.length=m)(u:∀(A:A5) (outer:Y Env) (s:A2) (H:Hp) (E:XK),jG k (A.deeper (AK qual (aK st) s.heap.objs.size f (.ref c)))->W2 (EY Nz P w K mg base N qual (aK st) f (.ref c) A outer s H E).nox (jk st) g):
  yD P w K mg base Nz (k+1) f fd ps (Yh K m (c7 n g)):=by
 subst i y;obtain⟨D,I,kV,J,pm,G,z,ct,osl,rfl,C,o⟩:=F.ex;have d:z=.ref c:=d;subst d;refine LA C o S (λvs H Q E h=>h.1) λA outer s H vs Q E B h=>?_;refine⟨_,Rc.nox (u A outer s H E B).run,?_⟩;obtain⟨hl,bs,r,t,j,e,q⟩:=h;obtain⟨a,er,e⟩:=AT e;refine⟨H,_,a,bW.start t j,er,?_⟩;cases a with
 |rt b=>cases e;exact λv H' s' l a=>q v H' s' l a
 |nx ρ=>cases e;exact λσ H' p=>q _ H' p.base trivial (by unfold bf AW;rfl)
 |bk ρ=>cases e
 |ct ρ=>cases e
section
variable{f:A1}{p:Pos}{fs:Ev->Y3 (Y Bx)}
end
end P1
namespace P1
open PySem PySem.Spec PySem.Calls PyProof.Rows L2
def ce(f:A1)(v:A0):Bool:=match v with
 |.ref g=>g==f
 |_=>false
section
variable{D:Y (AJ×A1)}{k:AJ}{tk:Tok}
end
section
variable{D:Y (AJ×A1)}{tab:Y (AJ×(Y Bx->Y3 Bx))}{dn:AJ}{ek:Expr}{p0 p1 p3 q0 q1 q2 q3:Pos}{AS:Y AB}{fh:Ev->Y3 Bx}
end
end P1
namespace P1
open L2
def wF(o:AE):Y3 (AJ×A1):=match o.data with
 |.fields vs=>match vs[1]?,vs[11]? with
  |some (Value.str x _),Z (Value.ref P)=>if W8.contains x=true then Z (x,P)else O
  |_,_=>O
 |_=>O
def TN(K:B8):Y (A1×AJ):=K.filterMap λp=>(wF p.2).map λq=>(q.2,q.1)
def MS(x:AJ):Array A0:=#[.str (x++(".<locals>.<lambda>":AJ)) 0]
def GV(K:B8):Y (A1×Array A0):=(TN K).map λp=>(p.1,MS p.2)
def Ch(K:B8)(x:AJ):Y3 A1:=match nsIn K mainGlobals x with
 |some (Z (.ref f))=>match K.lookup f with
  |some a=>match a.data with
   |.func fd=>match fd.code with
    |.ref c=>Z c
    |_=>O
   |_=>O
  |none=>O
 |_=>O
def Ep(p:A3)(K:B8)(c:A1)(x:AJ)(P:A1):Bool:=(recsOf p).any (λd=>d.name==x)&&Ch K x==Z c&&(K.lookup c).bind wF==Z (x,P)&&(K.lookup P).isNone&&(TN K).lookup P==Z x
def O'(p:A3)(K:B8):Bool:=K.all λr=>match wF r.2 with
 |none=>true
 |some (x,P)=>Ep p K r.1 x P
theorem yP{α β γ:Type}[BEq α]{a:α}(f:β->γ):∀l:Y (α×β),(l.map λp=>(p.1,f p.2)).lookup a=(l.lookup a).map f
 |[]=>rfl
 |(b,c)::l=>by
  simp only[zw,yA];split
  ·rfl
  ·exact yP f l
theorem BK{α β:Type}[BEq α][LawfulBEq α]{a:α}{b:β}:∀{l:Y (α×β)},l.lookup a=Z b->(a,b)∈l
 |[],h=>by cases h
 |(c,d)::l,h=>by
  rw[yA]at h;split at h
  ·rename_i e;cases h;rw[eq_of_beq e];exact zt ..
  ·exact zl _ (BK h)
theorem Wc{o:AE}{P:A1}(h:wF o=Z (x,P)):∃vs t,o.data=.fields vs/\vs[1]?=Z (.str x t)/\vs[11]?=Z (.ref P):=by
 unfold wF at h;cases hd:o.data with
 |fields vs=>
  rw[hd]at h;dsimp only at h;split at h
  ·rename_i y t Q e1 e2;split at h
   ·cases h;exact⟨vs,t,rfl,e1,e2⟩
   ·cases h
  ·cases h
 |_=>rw[hd]at h;cases h
theorem D8{p:A3}{L:AJ->Y3 A0}{A:ExcName->Y3 A0}{B:At}(g:O' p K=true)(X:K.In h)(T:Top p B A mg L h):L2.Xv K h (GV K):=by
 have n:∀c o x P,(c,o)∈K->wF o=Z (x,P)->Ep p K c x P=true:=λc o x P m e=>by
  have:=List.all_eq_true.mp g _ m;simp only[e]at this;exact this
 refine⟨λP q k=>?_,λP ps e=>?_⟩
 ·obtain⟨c,o,vs,x,t,e,d,v,m,f,j⟩:=k;subst j;have er:wF o=Z (x,P):=by
   unfold wF;simp only[d,v,f];rw[zk (dz.mpr m)]
  have z:=n c o x P (BK e) er;simp only[Ep,Zs,beq_iff_eq]at z;refine⟨MS x,?_,rfl,Nat.zero_lt_one⟩;unfold GV;rw[yP,z.2];rfl
 ·unfold GV at e;rw[yP]at e;obtain⟨x,ex,rfl⟩:=gd.mp e;have m:=BK ex;obtain⟨⟨c,o⟩,S,i⟩:=ey.mp m;obtain⟨⟨H,F⟩,i,j⟩:=gd.mp i;obtain⟨q1,q2⟩:=Prod.mk.inj j;have q1:F=P:=q1;have q2:H=x:=q2;rw[q1,q2]at i;have z:=n c o x P S i;simp only[Ep,Zs,beq_iff_eq,ic,eU]at z;obtain⟨⟨⟨⟨⟨d,hd,hx⟩,b⟩,hl⟩,I⟩,_⟩:=z;obtain⟨a,o1,fd,c1,J,t1,t2,N,y,_,l⟩:=T.tab d hd;rw[hx]at t1;obtain⟨o',w,Q⟩:=Option.bind_eq_some_iff.mp hl;obtain⟨vs,t,G,_,E⟩:=Wc Q;have D:c1=c:=by
   unfold Ch at b;split at b
   ·rename_i f C;have:=mg_of X T.g C;rw[t1]at this;cases this;split at b
    ·rename_i U u;have:=X _ _ u;rw[t2]at this;cases this;split at b
     ·rename_i W s;rw[N]at s;cases s;rw[y]at b;cases b;rfl
     ·cases b
    ·cases b
   ·cases b
  subst D;have M:J=P:=by
   obtain⟨⟨o2,ws,e1,_,e2,e3⟩,_⟩:=l;rw[X _ _ w]at e1;cases e1;rw[G]at e2;cases e2;rw[E]at e3;cases e3;rfl
  subst M;exact⟨I,l.2,l.isCodeTable,rfl⟩
def HI(K:B8)(fd:FuncData)(q:AJ):Bool:=match fd.code with
 |.ref c=>match K.lookup c with
  |some o=>match o.data with
   |.fields vs=>o.cls==.type "code" && (match vs[11]?,vs[1]?,vs.getD 18 .none,vs.getD 7 .none,vs.getD 9 .none,vs.getD 10 .none with
    |some (Value.ref P),Z (Value.str x _),Value.str _ _,Value.int _ _,Value.bool _,Value.int _ _=>!(c==P)&&W8.contains x&&q==x++(".<locals>.<lambda>":AJ)
    |_,_,_,_,_,_=>false)
   |_=>false
  |none=>false
 |_=>false
theorem X0{q:AJ}(h:HI K fd q=true):∃c P,fd.code=.ref c/\Sh K c P q:=by
 unfold HI at h;split at h;rotate_left
 ·cases h
 rename_i c m;split at h;rotate_left
 ·cases h
 rename_i o d;split at h;rotate_left
 ·cases h
 rename_i vs hd;rw[Zs]at h;obtain⟨h1,h⟩:=h;split at h;rotate_left
 ·cases h
 rename_i P x t f tf i l b j k a e1 u n e g;simp only[Zs,qS,beq_eq_false_iff_ne,ne_eq,beq_iff_eq]at h;obtain⟨⟨h2,p⟩,s⟩:=h;exact⟨c,P,m,o,vs,f,tf,i,l,b,j,k,x,t,d,eq_of_beq h1,hd,a,by rw[Array.getD_eq_getD_getElem?,a];rfl,u,n,e,g,h2,e1,dz.mp p,s⟩
theorem UD{xs:At}(d:closureFor scope X.env=pure cl)(f:scope.kind=.function)(c:scope.isCoroutine=false)(h:scope.isGenerator=false)(b:(scope.names.all λy=>!(y.2==.cell))=true)(g:scope.names.lookup x=Z .local)(sub:C7 X.env.cells cl)(has:(scope.names.all λy=>!(y.2==.free)||(cl.lookup y.1).isSome)=true)(i:JB X scope cl xs is):UJ X scope cl x xs is:=by
 refine⟨d,f,c,h,λy a e=>?_,g,sub,λy a e=>?_,i⟩
 ·have:=List.all_eq_true.mp b y a;rw[e]at this;simp at this
 ·have:=List.all_eq_true.mp has y a;rw[e]at this;exact dq.mp (by simpa using this)
section
variable{e:α->Dt}{c:β->Bx}{fh:Ev->Y3 Bx}{k:Ev->Y3 Ap}{cO:γ->Ap}{tab:Y (AJ×(Y Bx->Y3 Bx))}{tt:Y (AJ×(Y α->β)×(Y α->Y3 Prop))}
end
end P1
namespace P1
open PySem PySem.Spec PySem.Calls PyProof.Rows L2 S1
section
variable{R:Result->A2->Prop}{I:A1}{wr:Y A1}{P:Nat->A0->Prop}{St:Nat->A6->Prop}
end
end P1
namespace P1
open L2
section
variable{K:Type} [DecidableEq K] {knd:KeyKind prog w K}
end
end P1
namespace L2
end L2
namespace P1
open L2
section
variable{a b:Expr}{fs:Ev->Y3 (Y Bx)}
end
end P1
namespace P1
open L2 S1 S6
section
variable{e:α->Dt}{e':β->Dt}{e3:γ->Dt}{k:Ev->Y3 Ap}{cO:δ->Ap}
end
end P1
namespace P1
open L2
section
variable{o f k v:Expr}{ff fk:Ev->Y3 Bx}{keys:Y (Y3 Expr)}{values:Y Expr}
end
section
variable{e:α->Dt}{fk:Ev->Y3 Bx}
end
end P1
namespace P1
open L2 S1
def FF(cJ:Y (Y AY)):Bool:=decide (cJ.length<=100000)&&(cJ.all (λk=>!k.isEmpty)&&cJ.all λk=>cJ.all λl=>KD k l)
def wG:Y Bx->Y3 Bx
 |[b]=>(um b).bind λds=>(yJ ds).bind λcJ=>if FF cJ=true then Z (.o ((yI cJ).map Bz))else O
 |_=>O
theorem z8:yc X (.builtin "sorted") wG:=by
 intro AN s σ H xs us Q I J h;obtain⟨bs,c,G,e,q⟩:=h;unfold wG at e;split at e
 ·rename_i b;obtain⟨ds,F,e⟩:=AT e;obtain⟨cJ,ek,e⟩:=AT e;split at e
  ·rename_i B;cases e;simp only[FF,Zs,qf,Qb,qS]at B;obtain⟨y,L,A⟩:=B;obtain⟨v,rfl,r1⟩:=BT G;obtain⟨p,vs,rfl,sq,j⟩:=KH r1 F;obtain⟨u,rfl,M⟩:=BE J;cases M;have a1:=w5 ek;subst a1;have D:∃(AQ:Y A0) (o:AE) (T:String) (n:Nat),AX vs AQ/\s.heap.get? p=Z o/\o.cls=.type T/\(T ="list" ∨ T ="tuple")/\o.data=.seq AQ.toArray n/\vs.length<=AA:=by
    rcases sq with sq|sq
    ·obtain⟨AQ,f,pl,i⟩:=I.list sq;obtain⟨o,g,c,n,d⟩:=pl.isList;exact⟨AQ,o,_,n,f,g,c,.inl rfl,d,i⟩
    ·obtain⟨AQ,f,⟨o,g,c,n,d⟩,i⟩:=I.tuple sq;exact⟨AQ,o,_,n,f,g,c,.inr rfl,d,i⟩
   obtain⟨AQ,o,T,n,f,g,U,K,hd,i⟩:=D;have S:AQ.length=cJ.length:=by rw[<-f.length,j.length,ze]
   have tv:=El I j f;refine RQ (kd:=tuples' true) (rk:=λv=>C8 cJ (Be cJ AQ v)) (vs:=AQ) (λN E t=>FW g U K hd (by rw[<-f.length];exact i) t)
    (λh2 N A' s' k E t=>Jt (Paired.imp' (λ_ _ z=>qD.keep z k) tv) (λk hk=>by have:=L k hk;cases k with|nil=>cases this|cons _ _=>exact ig _ _) (λk hk l hl=>Bw (A k hk l hl)) () t)
    (λA' s' k=>O1 (Paired.imp' (λ_ _ z=>qD.keep z k) tv) λk hk l hl=>Bw (A k hk l hl)) (by rw[S];exact zo y ()) (λ_=>U2) λl h' tk m st hp up hl ext P=>?_
   have out:=Yy tv hp up;have C:∀u∈((AM st).map (·.2)).toList,u∈AQ:=λu x=>by
    rw[fq]at x;obtain⟨pr,W,rfl⟩:=bC.mp x;have a2:pr∈AQ.zip AQ:=by rw[<-pairsOf_toList];exact(cz.mp hp).mem_iff.mp W
    have:=mem_zip_self a2;rw[<-this.1];exact this.2
   obtain⟨zs,z1,z2⟩:=Jv I j f out C;have a3:zs.length=cJ.length:=by rw[z2.length,ze,(Cy cJ).length_eq]
   have w:H l=O:=I.hok.fresh hl;refine⟨.ref l,_,I.laid (t':=tk) (a:=l) (o:=.lst zs) ext hl ⟨by rw[a3];exact zo y (),_,m,z1,?_⟩,rfl,q _ _ (cg w) (λa ea=>by cases ea;exact w) ⟨l,zs,rfl,bH,z2.kp (.of (cg w))⟩⟩;rw[P]
  ·cases e
 ·cases e
def FY(X:Cx)(A:A5)(σ:L2.St)(H1:Hp)(f:A1)(fk:Dt->Y3 Bx):Prop:=∀(AN:Y (A1×AE)) (s:A2) (H:Hp) (d k:Dt) (v:V) (u:A0),L2.AU X AN σ H s->AV H1 H->B0 v u->AW X.K H d v->fk d=Z (.z k) →
 A7 (cr X) A (call (.ref f) [u]) (λb s'=>∃a H',L2.AU X AN σ H' s'/\B0 a b/\AV H H'/\AW X.K H' k a) (λ_ _=>False) s
def wH(X:Cx)(kf:Y Dt->Y3 (Y (Y AY))):Prop:=∀(AN:Y (A1×AE)) (σ:L2.St) (H:Hp) (s:A2) (ks:Y Dt) (vs:Y V) (us:Y A0) (cJ:Y (Y AY)),L2.AU X AN σ H s->aH X.K H ks vs->AX vs us->kf ks=Z cJ →
 ∃(kd:SortKind) (K:A0->Y AY),us.map K=cJ/\(2<=us.length->∀(A:A5) (E:BG) (Q:SortKind->A2->Prop),Q kd s->A7 (cr X) A (keyKind' us.toArray) Q E s)/\∀A:A5,KC X.prog X.w A s kd (λv=>C8 cJ (K v)) (pairsOf us)
def z9(ds:Y Dt)(cJ:Y (Y AY)):Bool:=decide cJ.Nodup||(match yJ ds with|some a=>(a.zip cJ).all λp=>(a.zip cJ).all λq=>!decide (p.2=q.2)||decide (p.1=q.1)|none=>false)
def De(a b:Dt×Y AY):Bool:=rT a.2 b.2
def JD(ds:Y Dt)(cJ:Y (Y AY)):Y Dt:=((ds.zip cJ).mergeSort De).map (·.1)
def rY(kf:Y Dt->Y3 (Y (Y AY)))(fe:Ev->Y3 Bx)(fk:Ev->Dt->Y3 Bx):Ev->Y3 Bx:=λρ=>(fe ρ).bind λb=>(um b).bind λds=>(BQ (λ_=>true) (fk ρ) ds).bind λr=>(kf (r.map (·.2))).bind λcJ=>if(decide (ds.length<=100000)&&z9 ds cJ)=true then Z (.o (JD ds cJ))else O
theorem BL{fk:Dt->Y3 Bx}:∀{ds:Y Dt} {r:Y (Dt×Dt)},BQ (λ_=>true) fk ds=Z r->r.length=ds.length/\∀(i:Nat) (d:Dt),ds[i]?=Z d->∃k:Dt,r[i]?=Z (d,k)/\fk d=Z (.z k)
 |[],r,h=>by cases h;exact⟨rfl,λi d e=>by cases e⟩
 |d::ds,r,h=>by
  obtain⟨k,b,h1,_,h2,rfl⟩:=Sq h;obtain⟨l,m⟩:=BL h2;refine⟨congrArg (·+1) l,λi a e=>?_⟩;cases i with
  |zero=>cases e;exact⟨k,rfl,h1⟩
  |succ i=>exact m i a e
theorem Aa{α:Type}{le:α->α->Prop}:∀{l c:Y α},(∀a∈l,∀b∈l,le a b->le b a->a=b)->l.Perm c->l.Pairwise le->c.Pairwise le->l=c
 |[],c,_,h,_,_=>h.nil_eq
 |x::l,c,anti,h,p,p'=>by
  cases c with
  |nil=>exact absurd h.length_eq (by simp)
  |cons y c=>
   have e:x=y:=by
    have hx:x∈y::c:=h.mem_iff.mp zt;have d:y∈x::l:=h.mem_iff.mpr zt;rcases bc.mp hx with e|hx
    ·exact e
    rcases bc.mp d with e|d
    ·exact e.symm
    exact anti x zt y (zl _ d) ((cq.mp p).1 y d) ((cq.mp p').1 x hx)
   subst e;rw[Aa (λa f b g=>anti a (zl _ f) b (zl _ g)) ((gi x).mp h) (cq.mp p).2 (cq.mp p').2]
theorem Zu(hl:ds.length=cJ.length)(h:z9 ds cJ=true):∀p∈ds.zip cJ,∀q∈ds.zip cJ,p.2=q.2->p.1=q.1:=by
 unfold z9 at h;rw[JE]at h;intro p hp q a e;rcases h with h|h
 ·have d:cJ.Nodup:=of_decide_eq_true h;obtain⟨i,hi,b⟩:=cx.mp hp;obtain⟨j,m,c⟩:=cx.mp a;rw[ij]at b c;subst b c;have:=(yB d).mp e;subst this;rfl
 ·split at h
  ·rename_i l hd;have e0:=w5 hd;subst e0;simp only[Qb,JE,qS,QA,qf]at h;rw[List.zip_map_left]at hp a;obtain⟨p',k,rfl⟩:=bC.mp hp;obtain⟨f,g,rfl⟩:=bC.mp a;rcases h p' k f g with h|h
   ·exact absurd e h
   ·exact congrArg Bz h
  ·cases h
theorem Wf{R:α->β->Prop}{ys b:Y β}(p:ys.Perm b):∀{xs:Y α},AI R xs ys->∃a,xs.Perm a/\AI R a b:=by
 induction p with
 |nil=>intro xs h;cases h;exact⟨[],.refl _,.nil⟩
 |cons y _ f=>
  intro xs h;cases h with
  |cons h t=>obtain⟨a,p',g⟩:=f t;exact⟨_::a,p'.cons _,.cons h g⟩
 |swap y z l=>
  intro xs h;cases h with
  |cons h1 t=>cases t with
   |cons h2 t=>exact⟨_::_::_,.swap _ _ _,.cons h2 (.cons h1 t)⟩
 |trans _ _ e d=>
  intro xs h;obtain⟨x1,p1,t1⟩:=e h;obtain⟨c,p2,t2⟩:=d t1;exact⟨c,p1.trans p2,t2⟩
section
variable{kS:A1}{vs:Y A0}{keys:Array A0}{e e1:Nat}{P:PySem.Fin->A2->Prop}
theorem VO(u:s.heap.get? kS=Z (seqObj "list" keys e))(v:s.heap.get? a=Z (seqObj "list" #[] e1))(C:kS≠a)(x:keys.size=vs.length)(F:vs.length<=AA)
  (p:2<=keys.size->∀Q:SortKind->A2->Prop,Q kd s->A7 (A8 prog w) A (keyKind' keys) Q E s) (n:KC prog w A s kd rk (keys.zip vs.toArray))
  (h:∀(st:SortSt) (c:Nat),(AM st).Perm (keys.zip vs.toArray)->Up rk (AM st) (AM st).size->((s.heap.update kS (Obj.mapSeq λ_=>(#[]:Array A0))).update a (Obj.mapSeq λ_=>(AM st).map (·.2))).get? a=Z (seqObj "list" ((AM st).map (·.2)) c) →
   P (.done (.ret .none)) { s with heap:=(s.heap.update kS (Obj.mapSeq λ_=>(#[]:Array A0))).update a (Obj.mapSeq λ_=>(AM st).map (·.2)) }):
  A7 (A8 prog w) A (ksk_end a false vs.toArray e1 (.ref kS) keys) P E s:=by
 have m:(keys.zip vs.toArray).size=vs.length:=by rw[Array.size_zip,x,zh,dE]
 have B:=JI s.heap kS (Obj.mapSeq λ_=>(#[]:Array A0));have g:(s.heap.update kS (Obj.mapSeq λ_=>(#[]:Array A0))).get? a=Z (seqObj "list" #[] e1):=(B.2 a C.symm).trans v;have l:∀st:SortSt,(AM st).Perm (keys.zip vs.toArray)->failedOf st=O->Up rk (AM st) (AM st).size->A7 (A8 prog w) A (ksk_tail a false e1 (.ref kS) st) P E s:=λst hp f k=>by
  have D:((AM st).map (·.2)).size=vs.length:=by rw[Array.size_map,hp.size_eq,m]
  obtain⟨c,y⟩:∃c,((s.heap.update kS (Obj.mapSeq λ_=>(#[]:Array A0))).update a (Obj.mapSeq λ_=>(AM st).map (·.2))).get? a=Z (seqObj "list" ((AM st).map (·.2)) c):=⟨_,get?_update_seq g λ_=>(AM st).map (·.2)⟩;unfold ksk_tail
  try dsimp only
  refine zb (listUpdate_at u Y2 ?_ () (qr _));refine zb (wpAny_letGo ?_);refine zb (seqEpoch_at g Y2 ?_);refine zb (listUpdate_at g Y2 ?_ (qr _) (by simp only[zD,qo];omega));rw[f];simp only[bne_self_eq_false,zD,qo];exact zd (h st c hp k y)
 unfold ksk_end
 try dsimp only
 rw[zv (by simp)];by_cases h2:vs.toArray.size<2
 ·rw[zk h2,zk h2];refine zb (zd ?_);rw[StateT.run_pure];refine zb (zd ?_)
  try dsimp only
  refine l (SortSt.mk' general' (if false=true then(keys.zip vs.toArray).reverse else keys.zip vs.toArray) #[] 7 O) (KI _) Y2 λi j G z=>?_;have o:j<(keys.zip vs.toArray).size:=z;rw[m]at o;rw[zh]at h2;have:i=j:=by omega
  subst this;exact zi _
 ·rw[zv h2,zv h2];rw[zh]at h2;refine zb (p () _ ?_);refine zb (QE (O8 (b:=keys.zip vs.toArray) (st:=SortSt.mk' kd (if false=true then(keys.zip vs.toArray).reverse else keys.zip vs.toArray) #[] 7 O) (Q:=λ_ d=>(AM d).Perm (keys.zip vs.toArray)/\failedOf d=O/\Up rk (AM d) (keys.zip vs.toArray).size) n ⟨KI _,rfl,rfl,rfl⟩ () λt q1 q2 q3=>⟨q1,q2,q3⟩) ?_ λ_ _ q=>q);rintro⟨⟨⟩,d⟩ s' ⟨rfl,hp,f,k⟩
  try dsimp only
  exact l d hp f (by rw[hp.size_eq];exact k)
end
theorem Zv{f kS:A1}{r:Y (Dt×Dt)}{oa:AE}{e1:Nat}{P:PySem.Fin->A2->Prop}(U:FY X A σ H0 f fk)(hk:BQ (λ_=>true) fk ds=Z r)(J:aH X.K H0 ds vs)(F:AX vs AQ)(hz:AQ.length<=AA)(I:L2.AU X AN σ H s)(M:AV H0 H)(h0:H0 kS=O)(hS:H kS=Z (.lst []))(ha:H a=Z (.oJ oa (.lst [])))(h:∀H' s' AO c n,L2.AU X AN σ H' s'->AV H0 H'->H' kS=Z (.lst AO)->H' a=Z (.oJ oa (.lst []))->aH X.K H' (r.map (·.2)) AO->AX AO c->s'.heap.get? kS=Z (seqObj "list" c.toArray n)->A7 (cr X) A (ksk_end a false AQ.toArray e1 (.ref kS) c.toArray) P E s'):
  A7 (cr X) A (ksk_rest a (.ref f) false AQ.toArray e1 (.ref kS)) P E s:=by
 obtain⟨a6,S⟩:=BL hk;have a5:AQ.length=ds.length:=by rw[<-F.length,J.length]
 unfold ksk_rest;refine zb (QP ?_)
 first
  |rw[List.forIn_toArray]
  |(rw[<-g9];simp only[kG])
  |rw[<-g9]
 refine zb (ksk_fold (λi s'=>∃H' AO,L2.AU X AN σ H' s'/\AV H0 H'/\H' kS=Z (.lst AO)/\H' a=Z (.oJ oa (.lst []))/\aH X.K H' ((r.take i).map (·.2)) AO) AQ 0 s ⟨H,[],I,M,hS,ha,by rw[List.take_zero];exact aH.nil⟩ ?step ?done)
 case step=>
  rintro j x s' hx ⟨H',AO,q,o,l,p,rk⟩;simp only[JJ]at rk ⊢;have hj:j<AQ.length:=(ca.mp hx).1;obtain⟨d,hd⟩:∃d,ds[j]?=Z d:=⟨_,qa ()⟩;obtain⟨k,Q,a1⟩:=S j d hd;obtain⟨v,hv,rd⟩:=J.get hd;obtain⟨u,D,ru⟩:=F.get hv;rw[hx]at D;cases D;have a3:AO.length<=j:=by rw[rk.length,ze,ZT];omega
  refine zb (wpAny_attempt (QE (U AN s' H' d k v x q o ru (rd.kp (.of o)) a1) (λg m W=>?_) λ_ _ hF=>hF.elim));obtain⟨C,H2,L,N,y,a2⟩:=W
  try dsimp only
  have B:=y _ _ l;obtain⟨_,c,n,t,_,eS⟩:=L.Xr B;have a4:c.length<=j:=by rw[<-t.length];exact a3
  have s1:=JI m.heap kS (Obj.mapSeq (·.push g));obtain⟨c2,G⟩:∃c2,(m.heap.update kS (Obj.mapSeq (·.push g))).get? kS=Z (seqObj "list" (c.toArray.push g) c2):=⟨_,get?_update_seq eS (·.push g)⟩;have ea:c.toArray.push g=(c++[g]).toArray:=by simp
  have I3:L2.AU X AN σ (BA H2 kS (.lst (AO++[C]))) { m with heap:=m.heap.update kS (Obj.mapSeq (·.push g)) }:=L.write (t':=m.toks) (by rw[B];trivial) (.inl Y2) (λb u hb e=>(s1.2 b hb).trans e) ⟨_,G⟩ ⟨by rw[zr];simp;omega,c++[g],c2,t.append (.cons N .nil),by rw[<-ea];exact G⟩;refine zb (listUpdate_at eS Y2 ?_ (by rw[zh];omega) (zo (KO (Array.size_push ..)) (by rw[zh];omega)));refine zd ⟨rfl,_,AO++[C],I3,tB (o.trans y) h0,bH,?_,?_⟩
  ·have ne:a≠kS:=λz=>by rw[z,l]at p;cases p
   rw[aM ne];exact y _ _ p
  ·have et:(r.take (j+1)).map (·.2)=(r.take j).map (·.2)++[k]:=by rw[List.take_add_one,Q,JA];rfl
   rw[et];exact((rk.kp (.of y)).append (aH.cons a2 aH.nil)).kp (Kp.lst B)
 case done=>
  rintro s' ⟨H',AO,q,o,l,p,rk⟩;rw[show r.take (0+AQ.length)=r from ZY ()]at rk;obtain⟨_,c,n,t,_,eS⟩:=q.Xr l
  try dsimp only
  refine zb (listItems_at eS Y2 ?_);exact h H' s' AO c n q o l p rk t eS
theorem Px{x:Keyed}(h:x∈us.zip us):x∈(pairsOf us).toList:=by rw[pairsOf_toList];exact h
theorem Gr{f p:A1}{r:Y (Dt×Dt)}(hF:wH X kf)(I:L2.AU X AN σ H s)(hT:FY X A.in1.in1 σ H f fk)(sq:qC X.K H p vs\/tX X.K H p vs)(a3:aH X.K H ds vs)(hk:BQ (λ_=>true) fk ds=Z r)(e8:kf (r.map (·.2))=Z cJ)(hl:ds.length<=100000)(h1:z9 ds cJ=true)(hQ:∀H' s' l zs,L2.AU X AN σ H' s'->AV H H'->H l=O->H' l=Z (.lst zs)->aH X.K H' (JD ds cJ) zs->Q (.ref l) s'):
  A7 (cr X) A (call (.builtin "sorted") [.ref p] [(Str.ofString "key", .ref f)]) Q E s:=by
 have e5:∃(AQ:Y A0) (o:AE) (T:String) (n:Nat),AX vs AQ/\s.heap.get? p=Z o/\o.cls=.type T/\(T ="list" ∨ T ="tuple")/\o.data=.seq AQ.toArray n/\vs.length<=AA:=by
  rcases sq with sq|sq
  ·obtain⟨AQ,r',pl,G⟩:=I.list sq;obtain⟨o,g,c,n,d⟩:=pl.isList;exact⟨AQ,o,_,n,r',g,c,.inl rfl,d,G⟩
  ·obtain⟨AQ,r',⟨o,g,c,n,d⟩,G⟩:=I.tuple sq;exact⟨AQ,o,_,n,r',g,c,.inr rfl,d,G⟩
 obtain⟨AQ,o,T,n,M,g,U,d8,hd,G⟩:=e5;have J:AQ.length<=AA:=by rw[<-M.length];exact G
 have b4:AQ.length=ds.length:=by rw[<-M.length,a3.length]
 refine call_function_entry_kw kind_sorted plain_sorted entry_sorted (ksk_s1 _ _) ?_;unfold Builtin.«sorted»;refine zb (m:=checkCount "sorted" 1 1 _) (zd ?_);refine zb (FW g U d8 hd J λhp tk d1 ext=>zb (yf ?_));generalize c5:hp.objs.size=l;have W:(hp.push (seqObj "list" AQ.toArray 0)).get? l=Z (seqObj "list" AQ.toArray 0):=by rw[<-c5];exact zS _ rfl
 have a4:s.heap.objs.size<=l:=by rw[<-c5];exact d1
 refine zb (kb (wpAny_call_entry_kw slot_list_sort ⟨_,W,rfl⟩ entry_list_sort ?_ (ksk_l1 _ _)));show A7 (cr X) A.in1.in1 (Builtin.«list.sort» ⟨[.ref l],[(Str.ofString "key", .ref f)]⟩) _ _ _;rw[ksk_t1];obtain⟨e1,a6⟩:∃e1,((hp.push (seqObj "list" AQ.toArray 0)).update l (Obj.mapSeq λ_=>(#[]:Array A0))).get? l=Z (seqObj "list" #[] e1):=⟨_,get?_update_seq W λ_=>#[]⟩;unfold ksk_tree;refine zb (listItems_at W Y2 ?_);refine zb (listUpdate_at W Y2 ?_ (by rw[zh];omega) (qr _));refine zb (seqEpoch_at a6 Y2 ?_);refine zb (wpAny_newTuple ?_ (by show AQ.length<=_;exact J));refine zb (yf ?_ (qr _));refine kb ?_;have s0:=JI (hp.push (seqObj "list" AQ.toArray 0)) l (Obj.mapSeq λ_=>(#[]:Array A0));have fl:H l=O:=I.hok.fresh a4;have e4:∀b u,s.heap.get? b=Z u->((hp.push (seqObj "list" AQ.toArray 0)).update l (Obj.mapSeq λ_=>(#[]:Array A0))).get? b=Z u:=λb u e=>
  (s0.2 b (ZI (ZH (zI e) a4))).trans (zg _ (ext b u e))
 have I1:L2.AU X AN σ (BA H l (.oJ (seqObj "list" #[] e1) (.lst []))) { s with heap:=(hp.push (seqObj "list" AQ.toArray 0)).update l (Obj.mapSeq λ_=>(#[]:Array A0)),toks:=tk }:=
  I.laid (t':=tk) e4 a4 ⟨a6,qr _,[],e1,.nil,a6⟩
 generalize f2:(hp.push (seqObj "list" AQ.toArray 0)).update l (Obj.mapSeq λ_=>(#[]:Array A0))=h2 at *
 have I2:L2.AU X AN σ (BA H l (.oJ (seqObj "list" #[] e1) (.lst []))) { s with heap:=h2.push (seqObj "tuple" AQ.toArray 0),toks:=tk }:=I1.kept (t':=tk) λb u e=>zg _ e;generalize f3:h2.push (seqObj "tuple" AQ.toArray 0)=h3 at *
 have I3:L2.AU X AN σ (BA (BA H l (.oJ (seqObj "list" #[] e1) (.lst []))) h3.objs.size (.lst [])) { s with heap:=h3.push (seqObj "list" #[] 0),toks:=tk }:=
  I2.laid (t':=tk) (λb u e=>zg _ e) (zi _) ⟨qr _,[],0,.nil,zS _ rfl⟩
 have S:(BA H l (.oJ (seqObj "list" #[] e1) (.lst []))) h3.objs.size=O:=I2.hok.fresh (zi _);have P:l≠h3.objs.size:=λz=>by rw[<-z,bH]at S;cases S
 have a5:H h3.objs.size=O:=by rw[aM P.symm]at S;exact S
 have d4:AV H (BA (BA H l (.oJ (seqObj "list" #[] e1) (.lst []))) h3.objs.size (.lst [])):=tB (cg fl) a5;have d6:∀ob u,X.H₀ l≠Z (.oJ ob u):=λob u e=>by have:=I.base.Du l ob u e;rw[fl]at this;cases this
 show A7 _ A.in1.in1 (ksk_rest l (.ref f) false AQ.toArray e1 (.ref h3.objs.size)) _ _ { s with heap:=h3.push (seqObj "list" #[] 0),toks:=tk };refine Zv (H0:=H) (oa:=seqObj "list" #[] e1) hT hk a3 M J I3 d4 a5 bH (by rw[aM P,bH]) λH' s' AO B m I' e9 e7 b3 rk d0 eS=>?_;have b0:B.length=AQ.length:=by rw[<-d0.length,rk.length,ze,(BL hk).1,b4]
 obtain⟨kd,K,hK,kk,cc⟩:=hF AN σ H' s' _ AO B cJ I' rk d0 e8;have d5:cJ.length=ds.length:=by rw[<-hK,ze,b0,b4]
 have na:s'.heap.get? l=Z (seqObj "list" #[] e1):=(I'.hok _ _ b3).1;refine VO (kd:=kd) (rk:=λv=>C8 cJ (K v)) eS na P.symm (by rw[zh];exact b0) J (λh2 Q' N=>kk (by rw[zh]at h2;exact h2) _ _ _ N) (λE' p q Q' hp N hh=>?_) λst c hp up U=>?_
 ·rw[ksk_zip,kG]at hp N;have m1:=(KG hp).1;have m2:=(KG N).1;have z:∀{x:A0},x∈B->(x,x)∈(pairsOf B).toList:=λ{x} hx=>Px (by
   obtain⟨i,hi,e⟩:=cx.mp hx;exact cx.mpr ⟨i,by rw[List.length_zip];omega,by rw[ij,e]⟩)
  exact cc _ E' (p.1,p.1) (q.1,q.1) Q' (z m1) (z m2) hh
 ·have d3:(B.zip AQ).Perm (AM st).toList:=by
   have:=cz.mp hp;rw[ksk_zip,kG]at this;exact this.symm
  have pr:AI (λ(x:(Dt×Y AY)×V) (y:Keyed)=>x.1.2=K y.1/\B0 x.2 y.2/\AW X.K H x.1.1 x.2/\y.1∈B) ((ds.zip cJ).zip vs) (B.zip AQ):=by
   have L:∀(C:Y A0),(∀x∈C,x∈B)->∀(ds:Y Dt) (cJ:Y (Y AY)) (vs:Y V) (AQ:Y A0),C.map K=cJ->aH X.K H ds vs->AX vs AQ->AI (λ(x:(Dt×Y AY)×V) (y:Keyed)=>x.1.2=K y.1/\B0 x.2 y.2/\AW X.K H x.1.1 x.2/\y.1∈B) ((ds.zip cJ).zip vs) (C.zip AQ):=by
    intro C
    induction C with
    |nil=>intro _ ds cJ vs AQ e _ _;subst e;rw[kF,eC,hL,hL];exact .nil
    |cons k C F=>
     intro hm ds cJ vs AQ e r t;subst e;cases t with
     |nil=>rw[eC,eC];exact .nil
     |@cons v u vs AQ t1 t2=>
      cases ds with
      |nil=>simp only[aH]at r;cases r
      |cons d ds=>
       simp only[aH]at r;obtain⟨v',f1,e,r1,r2⟩:=r;cases e;rw[zw,JO,JO,JO];exact .cons ⟨rfl,t1,r1,hm k zt⟩ (F (λx hx=>hm x (zl _ hx)) ds _ vs AQ Y2 r2 t2)
   exact L B (λ_ h=>h) ds cJ vs AQ hK a3 M
  obtain⟨xs,px,pa⟩:=Wf d3 pr;have gx:∀{i:Nat} {x:(Dt×Y AY)×V} {y:Keyed},xs[i]?=Z x->(AM st).toList[i]?=Z y->x.1.2=K y.1/\B0 x.2 y.2/\AW X.K H x.1.1 x.2/\y.1∈B:=λ{i x y} e1 e2=>by
   obtain⟨y',e3,q⟩:=RT pa e1;rw[e2]at e3;cases e3;exact q
  have lx:xs.length=(AM st).size:=by rw[pa.length,ZO]
  have c0:xs.map (·.1.1)=JD ds cJ:=by
   have e0:xs.map (·.1)=(ds.zip cJ).mergeSort De:=by
    have pz:(xs.map (·.1)).Perm (ds.zip cJ):=by
     have h:=px.symm.map Prod.fst;rwa [h6 (by rw[List.length_zip,a3.length];omega)]at h
    refine Aa (le:=λa b=>De a b=true) (λa ha b D f0 e6=>?_) (pz.trans (Q2 ..).symm) ?_ (jI (le:=De) (λa b c=>qb a.2 b.2 c.2) (λa b=>qd a.2 b.2) _)
    ·have e2:a.2=b.2:=wZ f0 e6;have:=Zu d5.symm h1 a (pz.mem_iff.mp ha) b (pz.mem_iff.mp D) e2;exact k8 this e2
    ·rw[dc];intro i j hi hj d2;rw[ze]at hi hj;simp only[js];have c4:i<(AM st).size:=by omega
     have a7:j<(AM st).size:=by omega
     obtain⟨a1,_,_,m1⟩:=gx (i:=i) (x:=xs[i]) (y:=(AM st)[i]) (qa hi) (by rw[qa (by rw[ZO];exact c4),kB]);obtain⟨a2,_,_,m2⟩:=gx (i:=j) (x:=xs[j]) (y:=(AM st)[j]) (qa hj) (by rw[qa (by rw[ZO];exact a7),kB]);have u:=up i j (qv d2) a7;unfold at_ at u;rw[getElem?_pos _ i c4,getElem?_pos _ j a7]at u;show rT _ _=true;unfold rT;rw[a1,a2,<-Ek (show K (AM st)[j].1∈cJ by rw[<-hK];exact kH m2),Zl (gE.mpr u)];rfl
   have:xs.map (·.1.1)=(xs.map (·.1)).map (·.1):=by rw[ZU];rfl
   rw[this,e0];rfl
  have rz:aH X.K H (JD ds cJ) (xs.map (·.2)):=by
   rw[<-c0];have L:∀{xs:Y ((Dt×Y AY)×V)} {ys:Y Keyed},AI (λx (y:Keyed)=>x.1.2=K y.1/\B0 x.2 y.2/\AW X.K H x.1.1 x.2/\y.1∈B) xs ys->aH X.K H (xs.map (·.1.1)) (xs.map (·.2)):=by
    intro xs ys h
    induction h with
    |nil=>exact aH.nil
    |cons h _ F=>rw[zw,zw];exact aH.cons h.2.2.1 F
   exact L pa
  have vz:AX (xs.map (·.2)) ((AM st).map (·.2)).toList:=by
   rw[fq];have L:∀{xs:Y ((Dt×Y AY)×V)} {ys:Y Keyed},AI (λx (y:Keyed)=>x.1.2=K y.1/\B0 x.2 y.2/\AW X.K H x.1.1 x.2/\y.1∈B) xs ys->AX (xs.map (·.2)) (ys.map (·.2)):=by
    intro xs ys h
    induction h with
    |nil=>exact .nil
    |cons h _ F=>exact .cons h.2.1 F
   exact L pa
  have d9:(xs.map (·.2)).length<=AA:=by rw[rz.length,<-c0,ze,lx,hp.size_eq,Array.size_zip,zh,zh,b0,dE];exact J
  have t1:=JI s'.heap h3.objs.size (Obj.mapSeq λ_=>(#[]:Array A0));obtain⟨c1,b5⟩:∃c1,(s'.heap.update h3.objs.size (Obj.mapSeq λ_=>(#[]:Array A0))).get? h3.objs.size=Z { cls:=.type "list",data:=.seq #[] c1 }:=⟨_,get?_update_seq eS λ_=>#[]⟩;have J1:L2.AU X AN σ (BA H' h3.objs.size (.lst [])) { s' with heap:=s'.heap.update h3.objs.size (Obj.mapSeq λ_=>(#[]:Array A0)) }:=I'.write (t':=s'.toks) (by rw[e7];trivial) (.inl Y2) (λb u D e=>(t1.2 b D).trans e) ⟨_,b5⟩ ⟨qr _,[],c1,.nil,b5⟩;have J2:=aI d6 J1 (show(BA H' h3.objs.size (.lst [])) l=Z (.oJ (seqObj "list" #[] e1) (.lst [])) by rw[aM P];exact b3);have t2:=JI (s'.heap.update h3.objs.size (Obj.mapSeq λ_=>(#[]:Array A0))) l (Obj.mapSeq λ_=>(AM st).map (·.2));have J3:L2.AU X AN σ (BA (BA (BA H' h3.objs.size (.lst [])) l (.lst [])) l (.lst (xs.map (·.2)))) { s' with heap:=(s'.heap.update h3.objs.size (Obj.mapSeq λ_=>(#[]:Array A0))).update l (Obj.mapSeq λ_=>(AM st).map (·.2)) }:=
   J2.write (t':=s'.toks) (by rw[bH];trivial) (.inl Y2) (λb u D e=>(t2.2 b D).trans e) ⟨_,U⟩ ⟨d9,((AM st).map (·.2)).toList,c,vz,by rw[U]⟩
  have b6:AV H (BA (BA (BA H' h3.objs.size (.lst [])) l (.lst [])) l (.lst (xs.map (·.2)))):=tB (tB (tB e9 a5) fl) fl;exact⟨_,rfl,zd ⟨_,rfl,hQ _ _ l _ J3 b6 fl bH (rz.kp (.of b6))⟩⟩
end P1
namespace P1
open L2 S6
section
variable{t1 i1 tY i2 tZ i3:Expr}{f1 f2 f3:Y Expr}{xs:At}{g1 g2 g3:Dt->Ev->Y3 Ev}{p1 p2 p3:Ev->Y3 Bool}{fi1 fi2 fi3:Ev->Y3 (Y Dt)}{m2:Nat}
structure LM (X:Cx) (ts:At) (m m2:Nat) (scope:Scope) (cl:List (Str×Addr)) (xs:At) (is:List Nat) (t1 i1:Expr) (f1:List Expr) (tY i2:Expr) (f2:List Expr) (tZ i3:Expr) (f3:List Expr) (fi1 fi2 fi3:Ev->Option (List Dt)) (g1 g2 g3:Dt->Ev->Option Ev) (p1 p2 p3:Ev->Option Bool):Prop where
 ok:vN X scope cl xs is
 calm:X.calm=true
 it1:EJ X t1 i1 fi1
 tg1:∀C s₀ H₀ fp,X4 (Cv X (xs++ts) scope cl C s₀ H₀ fp) t1 g1
 c1:∀C s₀ H₀ fp,yF (Cv X (xs++ts) scope cl C s₀ H₀ fp) f1 p1
 k1:W3 is.length m g1
 it2:∀C s₀ H₀ fp,EA (Cv X (xs++ts) scope cl C s₀ H₀ fp) tY i2 fi2
 tg2:∀C s₀ H₀ fp,X4 (Cv X (xs++ts) scope cl C s₀ H₀ fp) tY g2
 c2:∀C s₀ H₀ fp,yF (Cv X (xs++ts) scope cl C s₀ H₀ fp) f2 p2
 k2:W3 m m2 g2
 it3:∀C s₀ H₀ fp,EA (Cv X (xs++ts) scope cl C s₀ H₀ fp) tZ i3 fi3
 tg3:∀C s₀ H₀ fp,X4 (Cv X (xs++ts) scope cl C s₀ H₀ fp) tZ g3
 c3:∀C s₀ H₀ fp,yF (Cv X (xs++ts) scope cl C s₀ H₀ fp) f3 p3
 k3:W3 m2 (is.length+ts.length) g3
 hm:is.length<=m:=by decide
 hm2:m<=m2:=by decide
 hm3:m2<=is.length+ts.length:=by decide
 hs:∀x,foldedSetIterable i1 X.env x=pure x:=by intro _;rfl
 hs2:∀C x,foldedSetIterable i2 (compEnvC scope (cellsFrom (C+1) scope.names cl) C X.env) x=pure x:=by intro _ _;rfl
 hs3:∀C x,foldedSetIterable i3 (compEnvC scope (cellsFrom (C+1) scope.names cl) C X.env) x=pure x:=by intro _ _;rfl
theorem Zw(ts:At)(W:LM X ts m m2 scope cl xs is t1 i1 f1 tY i2 f2 tZ i3 f3 fi1 fi2 fi3 g1 g2 g3 p1 p2 p3)(x:∀C c f fp,QV (Cv X (xs++ts) scope cl C c f fp) elt fe):
  QV X (.ListComp elt [⟨t1,i1,f1,0⟩,⟨tY,i2,f2,0⟩,⟨tZ,i3,f3,0⟩] scope pos) (La fi1 g1 p1 (DE fi2 g2 p2 (DE fi3 g3 p3 (F6 fe))) is ts.length):=⟨λAN s σ H Q I h=>by
 obtain⟨H0,ρ,b,E,e,q⟩:=h;obtain⟨out,g,e⟩:=AT e;obtain⟨ds,n,g⟩:=AT g;split at e
 ·rename_i L;cases e;rw[eval_ListComp];refine yk (use:=O) Y2 W.hs W.ok.clos W.ok.kind W.ok.names ?_;refine jF (W.it1.run AN s σ H (λJ H'=>AV H H'/\B7 X.K J ds H') I ⟨H0,ρ,ds,E,n,λJ H' s' y=>⟨s',y⟩⟩) λv s1 h1=>jF h1 λa1 s2 h2=>?_;obtain⟨it,fp,tn,J,H2,rfl,I2,T,st,u,i,Y⟩:=h2;refine Jh (B:=N5) (Ac:=T8 X.K) (O0:=.lst []) (N:=100000) (RR:=λU C=>compPost (cr X) X.A X.xe O (EP X AN σ Q) U C) (ts:=ts) (xs:=xs) W.ok W.calm (λC c f fp=>(W.tg1 C c f fp).run) (λC c f fp=>(W.c1 C c f fp).run)
   (λC c f fp=>N6 (X:=Cv X (xs++ts) scope cl C c f fp) (comp:=.ListComp elt [⟨t1,i1,f1,0⟩,⟨tY,i2,f2,0⟩,⟨tZ,i3,f3,0⟩] scope pos) (d:=1) W.calm Y2 (W.it2 C c f fp).run (W.tg2 C c f fp).run (W.c2 C c f fp).run
    (N6 (X:=Cv X (xs++ts) scope cl C c f fp) (comp:=.ListComp elt [⟨t1,i1,f1,0⟩,⟨tY,i2,f2,0⟩,⟨tZ,i3,f3,0⟩] scope pos) (d:=2) W.calm Y2 (W.it3 C c f fp).run (W.tg3 C c f fp).run (W.c3 C c f fp).run (T9 (x C c f fp).run) W.k3 W.hm3 T8.kp T8.no (W.hs3 C) (λ_ _ _=>Y2) (Jg Y2 λh=>h) λh=>h)
    W.k2 W.hm2 T8.kp T8.no (W.hs2 C) (λ_ _ _=>by simp only[bind_assoc,pure_bind];rfl) (Jg Y2 λh=>h) λh=>h)
   W.k1 W.hm I2 ((E.grow i).caps is ts.length) (T7 T) st u Y g L ?_
   qA (λ_=>⟨qr _,[],0,.nil,zS _ rfl⟩) (λ_=>⟨[],rfl,aH.nil⟩) T8.kp (λ_ _ _=>by simp only[bind_assoc,pure_bind];rfl) codeAny_compStart_list λh=>h
  rintro D C s' H' o S j z ⟨m,P⟩ p l ⟨us,rfl,G⟩;refine⟨m,P,λh' M=>⟨.ref D,H',?_,rfl,q _ _ (i.trans p) (λa ea=>by cases ea;exact i.free S) ⟨D,us,rfl,l,G⟩⟩⟩;obtain⟨f0,f1,f2,f3,k,t⟩:=z;exact j.turned (t':=s'.toks) (λb o F e=>(M.2 b F).trans e) f0 f1 f3 k t
 ·cases e⟩
section
variable{e:α->Dt}{e':β->Dt}{fs:Ev->Y3 (Y Dt)}
end
end
end P1
namespace P1
open L2 S1
def EN(ks:Y Dt):Y3 (Y (Y AY)):=(yJ ks).bind λcJ=>if(cJ.all (λk=>!k.isEmpty)&&cJ.all λk=>cJ.all λl=>KD k l)=true then Z cJ else O
def DU:Y Dt->Y3 (Y (Y AY))
 |[]=>Z []
 |.str x::ds=>(DU ds).bind λr=>Z ([.inr x]::r)
 |_=>O
theorem TU:wH X EN:=by
 intro AN σ H s ks vs us cJ I f g e;unfold EN at e;obtain⟨i,ek,e⟩:=AT e;split at e
 ·rename_i b;cases e;simp only[Zs,Qb,qS]at b;obtain⟨c,a⟩:=b;have d:=w5 ek;subst d;have tv:=El I f g;refine⟨tuples' true,Be cJ us,wj tv _ λv q=>(mO tv v q).2,λh2 A E Q h=>Jt tv (λk hk=>by have:=c k hk;cases k with|nil=>cases this|cons _ _=>exact ig _ _) (λk hk l hl=>Bw (a k hk l hl)) () h,λA=>O1 tv λk hk l hl=>Bw (a k hk l hl)⟩
 ·cases e
def Wg:A0->Y AY
 |.str x _=>[.inr x]
 |_=>[]
theorem Zx:∀{ks:Y Dt} {cJ:Y (Y AY)},DU ks=Z cJ->∃xs:At,ks=xs.map Dt.str/\cJ=xs.map λx=>[.inr x]
 |[],_,h=>by cases h;exact⟨[],rfl,rfl⟩
 |d::ks,cJ,h=>by
  cases d<;>first|(cases h;done)|skip;rename_i x;unfold DU at h;obtain⟨r,e,h⟩:=AT h;cases h;obtain⟨xs,rfl,rfl⟩:=Zx e;exact⟨x::xs,rfl,rfl⟩
theorem JF{K:B8}{H:Hp}:∀{xs:At} {vs:Y V} {us:Y A0},aH K H (xs.map Dt.str) vs->AX vs us->StrsAre us xs
 |[],_,_,h,r=>by
  simp only[kF,aH]at h;subst h;cases r;exact .nil
 |x::xs,_,_,h,r=>by
  simp only[zw,aH]at h;obtain⟨v,vs,rfl,h1,h2⟩:=h;cases r with
  |cons a b=>
   obtain⟨e,_⟩:v=.str x/\x.length<=AA:=by simpa only[AW]using h1
   subst e;obtain⟨t,rfl⟩:=a;exact .cons _ _ (JF h2 b)
theorem X':wH X DU:=by
 intro AN σ H s ks vs us cJ I j k e;obtain⟨xs,rfl,rfl⟩:=Zx e;have a:=JF j k;have m:∀{us:Y A0} {xs:At},StrsAre us xs->us.map Wg=xs.map λx=>[.inr x]:=by
  intro us xs h
  induction h with
  |nil=>rfl
  |cons _ _ _ f=>rw[zw,zw,f];rfl
 have g:∀{us:Y A0} {xs:At},StrsAre us xs->∀u∈us,∃x t,u=.str x t/\x∈xs:=by
  intro us xs h
  induction h with
  |nil=>intro u b;cases b
  |cons x t _ f=>
   intro u b;rcases bc.mp b with rfl|b
   ·exact⟨x,t,rfl,zt⟩
   ·obtain⟨y,c,e,i⟩:=f u b;exact⟨y,c,e,zl _ i⟩
 refine⟨oneType',Wg,m a,λh2 A E Q d=>?_,λA E p q Q hp d h=>?_⟩
 ·match us,h2,a with
  |v1::v2::us,_,a=>exact wpAny_of_eq (keyKind_strs a) d
 ·rw[pairsOf_toList]at hp d;obtain⟨x,t,e1,l⟩:=g a p.1 (mem_zip_self hp).2;obtain⟨y,c,e2,m2⟩:=g a q.1 (mem_zip_self d).2;rw[e1,e2]at h ⊢;rw[keyLt'_oneType];have:decide (C8 (xs.map λx=>[.inr x]) (Wg (.str x t))<C8 (xs.map λx=>[.inr x]) (Wg (.str y c)))=decide (x.cps.toList<y.cps.toList):=by
   rw[show Wg (.str x t)=[.inr x] from rfl,show Wg (.str y c)=[.inr y] from rfl,Ek (bC.mpr ⟨x,l,rfl⟩)];unfold iu;split
   ·rename_i e;cases e;simp[iu,eu]
   ·rfl
  rw[this]at h;exact oneLt_str h
theorem Zy{H':Hp}(h:tX K H a xs)(s:AV H H'):tX K H' a xs:=by
 rcases h with (h|⟨o,h⟩)|h
 ·exact .inl (.inl (s _ _ h))
 ·exact .inl (.inr ⟨o,s _ _ h⟩)
 ·exact .inr h
theorem ZC(r:jG (k+1) A):jG k A.in1.in1:=
 ⟨r.hd,by have:=r.dp;show A.depth+3*k+5<_;omega,by have:=r.un;show A.units+1+1+16*k+200<_;omega⟩
section
variable{f:A1}
theorem PC{H1:Hp}(G:yD X.prog X.w X.K X.mg X.base Nz k f fd ps (Yh X.K 1 F))(n:jG k A)(l:A.frames=Z X.stack)(i:Bi X.K fd ps []):FY X A σ H1 f λd=>F [.z d]:=by
 intro AN s H d kk v u I p j m e;have Ev:=I.env0;have h:Yh X.K 1 F ([v]++[]) H (λb H'=>AV H H'/\AW X.K H' kk b) E0:=⟨rfl,[.z d],.z kk,.cons m .nil,rfl,e,λb H' s' _ c=>⟨s',c⟩⟩;have hl:([u]++[]:Y A0).length=ps.length:=by
  have:=G.len _ _ _ _ h;exact this
 refine wpAny_call (codeAny_mono (G.run A X.stack s H ⟨[u],[]⟩ ([u]++[]) ([v]++[]) _ _ n ⟨l,Ev.mod,Ev.bs,Ev.bsz,Ev.Dv,Ev.frf,Ev.hok,Ev.bare,Ev.tabs⟩ (i s [u] I.kIn hl) (.cons j .nil) h) λr s' a=>?_);cases r with
 |error e=>exact a.elim
 |ok fl=>
  cases fl with
  |ret q=>
   obtain⟨b,H',g,c,s',o⟩:=I.after a;exact⟨b,H',g,c,s',o⟩
  |next=>exact False.elim a
  |brk=>exact False.elim a
  |cont=>exact False.elim a
end
section
variable{p kp kpos:Pos}{f:A1}
theorem ZD(M:wH X kf)(P:Gl X "sorted")(y:X.mg "sorted"=O)(hv:AH "sorted"=Z (.builtin "sorted"))(G:yD X.prog X.w X.K X.mg X.base Nz k f fd ps (Yh X.K 1 F))(hr:jG (k+1) X.A)(B:Gl X x)(a2:X.mg x=Z (.ref f))(L:Bi X.K fd ps [])(J:QV X e fe)
  (hs:A9 [e] X.env=(false,eval e X.env)::A9 [] X.env:=by rfl) (h1:AD pos (A9 [e] X.env)=(false,eval e X.env)::AD pos (A9 [] X.env):=by rfl) (h2:(AD pos (A9 [e] X.env)).any (·.1)=false:=by rfl) (hn:("sorted":AJ) ≠ "__name__":=by decide) (W:(("sorted":AJ)==("__debug__":AJ))=false:=by decide) (D:ad x:=by decide):
  QV X (.Call (.Name "sorted" p) [e] [⟨Z "key", .Name x kp,kpos⟩] pos) (rY kf fe λ_ d=>F [.z d]):=⟨λAN s σ H Q I h=>by
 obtain⟨H0,ρ,b,E,c,qq⟩:=h;unfold rY at c;obtain⟨b1,e1,c⟩:=AT c;obtain⟨ds,t,c⟩:=AT c;obtain⟨kr,ek,c⟩:=AT c;obtain⟨cJ,a1,c⟩:=AT c;split at c
 ·rename_i j;cases c;rw[Zs,qf]at j;refine kR (vH I P y hv ?_ hn W);refine callWith_kw (jF (iR J.run ud hs pos AN s σ H (λvs H1=>∃v,vs=[v]/\AV H H1/\bf X.K H1 b1 v) I ⟨H0,ρ,b1,E,e1,λv H' o _ g=>⟨v,rfl,o,g⟩⟩) λus s1 N=>?_) h1 h2 Y2 rfl;obtain⟨vs,H1,i,r1,v,rfl,m,g⟩:=N;obtain⟨u,rfl,S⟩:=BE r1;obtain⟨a,ws,rfl,sq,q⟩:=KH g t;cases S;show A7 _ _ (evalAll [do let v <-eval (.Name x kp) X.env;standAt pos;pure v]) _ _ s1;refine wpAny_evalAll_cons (zb (J4 i B a2 ?_ D));refine zb (kl (zd (wpAny_evalAll_nil ?_)));show A7 _ _ (call (.builtin "sorted") [.ref a] [(Str.ofString "key", .ref f)]) _ _ _;refine Gr M i (PC G (ZC hr) (show X.A.in1.in1.frames=Z X.stack from i.ok.frames) L) sq q ek a1 j.1 j.2 λH' s' l zs n U hl a3 C=>⟨.ref l,H',n,rfl,qq (.ref l) H' (m.trans U) (λa ea=>by cases ea;exact m.free hl) ⟨l,zs,rfl,a3,C⟩⟩
 ·cases c⟩
end
section
variable{body:Expr}{afw p kpos:Pos}{xs:At}{c P:A1}{q:AJ}
theorem ZF(a2:X.calm=true)(hd:X.A.depth<recursionLimit)(W:wH X kf)(hg:Gl X "sorted")(hm:X.mg "sorted"=none)(hv:AH "sorted"=Z (.builtin "sorted"))(O:UJ X scope cl x xs is)(G:Sh X.K c P q)(y:X.env.code=.ref c)(M:X.env.qual++("<lambda>":AJ)=q)
  (a6:defaultsOf params X.env=([],[])) (F:∀pm a4 ct u,bindArgs (kla_fn "<lambda>" q params body scope cl pm a4 ct) ⟨[u],[]⟩=pure [(x,u)]) (S:QV X e fe)
  (U:∀f c' s H,QV (FA X X.A.in1.in1 (x::xs) (envX q scope s.heap.objs.size f (.ref c') cl) s H) body fb)
  (hs:A9 [e] X.env=(false,eval e X.env)::A9 [] X.env:=by rfl) (h1:AD pos (A9 [e] X.env)=(false,eval e X.env)::AD pos (A9 [] X.env):=by rfl) (h2:(AD pos (A9 [e] X.env)).any (·.1)=false:=by rfl) (hn:("sorted":AJ) ≠ "__name__":=by decide) (a3:(("sorted":AJ)==("__debug__":AJ))=false:=by decide):
  QV X (.Call (.Name "sorted" p) [e] [⟨Z "key", .Lambda params body scope afw,kpos⟩] pos) (rY kf fe λρ d=>fb (Z (.z d)::jK is ρ)):=⟨λAN s σ H Q I h=>by
 obtain⟨H0,ρ,b,E,g,qq⟩:=h;unfold rY at g;obtain⟨b1,e1,g⟩:=AT g;obtain⟨ds,C,g⟩:=AT g;obtain⟨kr,ek,g⟩:=AT g;obtain⟨cJ,a5,g⟩:=AT g;split at g
 ·rename_i t;cases g;rw[Zs,qf]at t;refine kR (vH I hg hm hv ?_ hn a3);refine callWith_kw (jF (iR S.run ud hs pos AN s σ H (λvs H1=>∃v,vs=[v]/\AV H H1/\bf X.K H1 b1 v) I ⟨H0,ρ,b1,E,e1,λv H' j _ n=>⟨v,rfl,j,n⟩⟩) λus s1 hu=>?_) h1 h2 Y2 rfl;obtain⟨vs,H1,D,r1,v,rfl,o,n⟩:=hu;obtain⟨u,rfl,ru⟩:=BE r1;obtain⟨a,w,rfl,sq,B⟩:=KH n C;cases ru;show A7 _ _ (evalAll [do let v <-eval (.Lambda params body scope afw) X.env;standAt pos;pure v]) _ _ s1;refine wpAny_evalAll_cons (zb (Zq D G y M a6 O.clos λf H2 s2 I2 i hf L=>zb (kl (zd (wpAny_evalAll_nil ?_)))));show A7 _ _ (call (.builtin "sorted") [.ref a] [(Str.ofString "key", .ref f)]) _ _ _;have N:FY X X.A.in1.in1 σ H2 f λd=>fb (Z (.z d)::jK is ρ):=λAN s H' d k v u I j rv rd e=>
   QE (N9 I O (show X.A.in1.in1.frames=Z X.stack from I.ok.frames) (show X.A.in1.in1.handled=none from I.ok.hd a2) (show X.A.in1.in1.depth<recursionLimit from hd) (L.same j) (F _) (λf c' s H=>(U f c' s H).run) (((E.grow o).grow i).grow j) rv rd e)
    (λu' s' ⟨v',H'',m,r',s'',_,r''⟩=>⟨v',H'',m,r',s'',r''⟩) λ_ _ h=>h
  have DG:qC X.K H2 a w\/tX X.K H2 a w:=by
   rcases sq with sq|sq
   ·exact .inl (Zt sq i)
   ·exact .inr (Zy sq i)
  refine Gr W I2 N DG (B.kp (.of i)) ek a5 t.1 t.2 λH' s' l zs m a1 hl a7 J=>⟨.ref l,H',m,rfl,qq (.ref l) H' ((o.trans i).trans a1) (λa ea=>by cases ea;exact(o.trans i).free hl) ⟨l,zs,rfl,a7,J⟩⟩
 ·cases g⟩
end
end P1
namespace P1
open L2
section
variable{K:Type} [DecidableEq K] {knd:KeyKind prog w K}
end
end P1
namespace P1
open L2 S1 S6
section
variable{e:α->Dt}{e':β->Dt}
theorem ZG[jX e](xs:Y α)(h:xs.length<=100000):FF (xs.map (jX.k e))=true:=by
 simp only[FF,Zs,qf,Qb,qS,ze,bC,forall_exists_index,and_imp,forall_apply_eq_imp_iff₂];exact⟨h,λa _=>jX.ne a,λa _ b _=>jX.shp a b⟩
def Ld[jX e](a:RL fa ρ e):R (cM wG (ao fa aD)) ρ (oE e):=⟨gC e a.v,bw a.D (Z (a.v.length<=100000)),λh=>by
 obtain⟨h,b⟩:=aC h;simp only[cM,ao,aD,a.ok h,Au,wG,Uy a.lk,ux,ZG a.v b,QO,V7,XX]⟩
class BP {β:Type} (e':β->Dt) (kf:outParam (List Dt->Option (List (List AY)))) where
 kk:β->List AY
 ok:∀xs:List β,kf (xs.map e')=some (xs.map kk)
 inj:∀a b,kk a=kk b->a=b
instance [jX e']:BP e' EN:=⟨jX.k e',λxs=>by
 unfold EN;rw[ux,Au,zk];simp only[Zs,Qb,qS,bC,forall_exists_index,and_imp,forall_apply_eq_imp_iff₂];exact⟨λa _=>jX.ne a,λa _ b _=>jX.shp a b⟩,jX.inj⟩
theorem UL:∀xs:At,DU (xs.map eS)=Z (xs.map λx=>[.inr x])
 |[]=>rfl
 |x::xs=>by
  rw[zw,eS,DU,UL xs,Au];rfl
instance:BP eS DU:=⟨λx=>[.inr x],UL,λa b h=>by cases h;rfl⟩
def DT(e':β->Dt)[BP e' kf](κ:α->β)(a b:α):Bool:=rT (BP.kk e' (κ a)) (BP.kk e' (κ b))
def tD(e':β->Dt)[BP e' kf](κ:α->β)(xs:Y α):Y α:=xs.mergeSort (DT e' κ)
section
variable [BP e' kf] {κ:α->β}
theorem uy(xs:Y α):(tD e' κ xs).Perm xs:=Q2 ..
theorem uD(xs:Y α):(tD e' κ xs).Pairwise (λa b=>DT e' κ a b=true):=jI (le:=DT e' κ) (λa b c=>qb _ _ _) (λa b=>qd _ _) xs
theorem Py{a b:α}(h:DT e' κ a b=true)(h':DT e' κ b a=true):κ a=κ b:=BP.inj (e':=e') _ _ (wZ h h')
theorem Pz{xs out:Y α}(hi:∀a∈xs,∀b∈xs,κ a=κ b->a=b)(hp:out.Perm xs)(hs:out.Pairwise (λa b=>DT e' κ a b=true)):out=tD e' κ xs:=
 Aa (λa c b d h h'=>hi a (hp.mem_iff.mp c) b (hp.mem_iff.mp d) (Py h h')) (hp.trans (uy xs).symm) hs (uD xs)
theorem Wh{xs:Y α}(hi:∀a∈xs,∀b∈xs,κ a=κ b->a=b):JD (xs.map e) (xs.map λx=>BP.kk e' (κ x))=(tD e' κ xs).map e:=by
 unfold JD;have j:(xs.map e).zip (xs.map λx=>BP.kk e' (κ x))=xs.map λx=>(e x,BP.kk e' (κ x)):=by
  rw[List.zip_map',]
 have i:(xs.map λx=>(e x,BP.kk e' (κ x))).mergeSort De=(tD e' κ xs).map λx=>(e x,BP.kk e' (κ x)):=by
  refine Aa (le:=λa b=>De a b=true) (λa g b f h h'=>?_) ((Q2 ..).trans ((uy xs).map _).symm) (jI (le:=De) (λa b c=>qb a.2 b.2 c.2) (λa b=>qd a.2 b.2) _) (cm.mpr (uD xs));obtain⟨x,hx,rfl⟩:=bC.mp ((Q2 ..).mem_iff.mp g);obtain⟨y,d,rfl⟩:=bC.mp ((Q2 ..).mem_iff.mp f);rw[hi x hx y d (Py h h')]
 rw[j,i,ZU];rfl
structure SR (fe:Ev->Option Bx) (ρ:Ev) (e:α->Dt) where
 v:List α
 D:Option Prop
 ok:B4 D->∃b,fe ρ=some b/\um b=some (v.map e)
def VA(a:RL fa ρ e):SR fa ρ e:=⟨a.v,a.D,λh=>⟨_,a.ok h,Uy a.lk⟩⟩
def MB(a:R fa ρ (zE (eT e))):SR fa ρ e:=⟨a.v,a.D,λh=>⟨_,a.ok h,rfl⟩⟩
theorem Gs{fk:Ev->Dt->Y3 Bx}{xs:Y α}(c:fe ρ=Z b)(hs:um b=Z (xs.map e))(hk:∀x∈xs,fk ρ (e x)=Z (.z (e' (κ x))))(hl:xs.length<=100000)(hi:∀a∈xs,∀b∈xs,κ a=κ b->a=b)(h1:z9 (xs.map e) (xs.map λx=>BP.kk e' (κ x))=true):
  rY kf fe fk ρ=Z (.o ((tD e' κ xs).map e)):=by
 have h2:=JC (Zr:=λ_=>true) (e:=e) (e':=e') (fk:=fk ρ) (g:=κ) (λ_=>Y2) hk;have d:kf ((xs.map λx=>(e x,e' (κ x))).map (·.2))=Z (xs.map λx=>BP.kk e' (κ x)):=by
  rw[ZU];have:=BP.ok (e':=e') (xs.map κ);rw[ZU,ZU]at this;exact this
 unfold rY;rw[c,Au,hs,Au,h2,Au,d,Au,zk (by rw[Zs,qf,ze];exact⟨hl,h1⟩),Wh hi]
theorem UW{xs:Y α}(h:(xs.map κ).Nodup):(∀a∈xs,∀b∈xs,κ a=κ b->a=b)/\z9 (xs.map e) (xs.map λx=>BP.kk e' (κ x))=true:=by
 constructor
 ·intro a c b d e;obtain⟨i,hi,rfl⟩:=cx.mp c;obtain⟨j,f,rfl⟩:=cx.mp d;have:=(yB (i:=i) (j:=j) (h₀:=by rw[ze];exact hi) (h₁:=by rw[ze];exact f) h).mp (by rw[js,js];exact e);subst this;rfl
 ·unfold z9;rw[JE];refine .inl (zz ?_);have:(xs.map λx=>BP.kk e' (κ x))=(xs.map κ).map (BP.kk e'):=by rw[ZU];rfl
  rw[this];exact cm.mpr (qh (λg q=>g (BP.inj (e':=e') _ _ q)) h)
theorem NR[jX e]{xs:Y α}(h:∀a∈xs,∀b∈xs,κ a=κ b->a=b):z9 (xs.map e) (xs.map λx=>BP.kk e' (κ x))=true:=by
 unfold z9;rw[JE];refine .inr ?_;rw[ux];simp only[List.zip_map',Qb,bC,forall_exists_index,and_imp,forall_apply_eq_imp_iff₂,JE,qS,QA,qf];intro a c b d;by_cases q:BP.kk e' (κ a)=BP.kk e' (κ b)
 ·exact .inr (by rw[h a c b d (BP.inj (e':=e') _ _ q)])
 ·exact .inl q
end
def PJ[jX e][BP e' kf]{T:α×Unit->β}{c:α×Unit->Y3 Prop}(S:∀v bs,aZ e aN v bs->bs.length=1/\(B4 (c v)->F (bs.map lend)=Z (zE e' (T v))))(a:SR fa ρ e):R (rY kf fa λ_ d=>F [.z d]) ρ (oE e):=
 ⟨tD e' (λx=>T (x,dl)) a.v,bw a.D (Z ((∀x∈a.v,B4 (c (x,dl)))/\a.v.length<=100000/\∀x∈a.v,∀y∈a.v,T (x,dl)=T (y,dl)->x=y)),λh=>by
 obtain⟨h1,h2,j,f⟩:=aC h;obtain⟨b,g,i⟩:=a.ok h1;exact Gs (e':=e') (κ:=λx=>T (x,dl)) g i (λx hx=>(S (x,dl) [.z (e x)] ⟨_,rfl,rfl⟩).2 (h2 x hx)) j f (NR (e':=e') f)⟩
def ZJ[BP e' kf](a:SR fa ρ e)(k:∀x:α,R fb (Z (.z (e x))::jK is ρ) (zE e')):R (rY kf fa λρ d=>fb (Z (.z d)::jK is ρ)) ρ (oE e):=
 ⟨tD e' (λx=>(k x).v) a.v,bw a.D (Z ((∀x∈a.v,B4 (k x).D)/\a.v.length<=100000/\(a.v.map λx=>(k x).v).Nodup)),λh=>by
 obtain⟨h1,h2,i,c⟩:=aC h;obtain⟨b,f,g⟩:=a.ok h1;exact Gs (e':=e') (κ:=λx=>(k x).v) f g (λx hx=>(k x).ok (h2 x hx)) i (UW (e:=e) (e':=e') c).1 (UW (e:=e) (e':=e') c).2⟩
end
section
variable{e:α->Dt}{e':β->Dt}{fs:Ev->Y3 (Y Dt)}
def XN(it:R fi ρ (iE e))(a:α->Ev)(c:∀x,gt (e x) ρ=Z (a x))(b:∀x,R fs (a x) (iE e')):R (DE fi gt p8 fs) ρ (iE e'):=⟨it.v.flatMap λx=>(b x).v,bw it.D (Y6 it.v λx=>(b x).D),λh=>by
 obtain⟨h1,h2⟩:=aC h;have h2:∀x∈it.v,B4 (b x).D:=h2;simp only[DE,it.ok h1,Au];rw[zV (π:=λ_=>true) (g:=λx=>(b x).v.map e') it.v λx hx=>⟨a x,c x,rfl,λ_=>(b x).ok (h2 x hx)⟩,eg.mpr λ_ _=>Y2];rw[iE,Gq]⟩
end
section
variable{e:α->Dt}
end
end P1
namespace L2
def qF(k:Nat)(x:α)(xs:Y α):Y α:=xs.take k++x::xs.drop k
def P5:V->Y V->Hp->VK->Prop:=λx vs H Q=>∃l xs i y,x=.ref l/\vs=[.int i,y]/\H l=Z (.lst xs)/\(0<=i/\i<=1000000)/\xs.length<1000000/\Q .non (BA H l (.lst (qF i.toNat y xs)))
theorem PK(AQ:Y A0)(k:Nat)(u:A0):(AQ.toArray.extract 0 (min k AQ.length)).push u++AQ.toArray.extract (min k AQ.length)=(qF k u AQ).toArray:=by
 apply fm.mp;have a:∀m:Nat,m<=AQ.length->((AQ.toArray.extract 0 m).push u++AQ.toArray.extract m).toList=AQ.take m++u::AQ.drop m:=λm h=>by
  simp only[Zp,ko,ka,ja,kG,zh,List.drop_zero,Nat.sub_zero,ZE,List.singleton_append];rw[ZY (l:=AQ.drop m) (by rw[qc];exact zi _)]
 unfold qF;rw[kG];rcases Nat.le_total k AQ.length with h|h
 ·rw[fT h];exact a k h
 ·rw[Nat.min_eq_right h,a _ (zi _),ZY (zi _),ZY h,gf (zi _),gf h]
theorem Wi:Hm X "list.insert" P5:=by
 intro AN s σ H x vs v us Q I f b h;obtain⟨l,xs,i,y,rfl,rfl,a,hi,k,q⟩:=h;cases f;cases b with
 |@cons _ j _ us d t=>
  obtain⟨u,rfl,g⟩:=AX.one t;obtain⟨tk,rfl⟩:=d;obtain⟨z,AQ,n,r,hl,e⟩:=I.Xr a;have c:¬ (!Builtin.List.listFitsIndex i)=true:=by
   simp only[Builtin.List.listFitsIndex,qS,Bool.not_eq_false,Zs,qf];omega
  have m:(1000000:Nat)<=AA:=by decide
  refine call_meets F.slot_list_insert ⟨_,e,rfl⟩ F.entry_list_insert (F.args_list_insert_3 _ _ _) (AutoSeq1.list_insert_list_int_val_1 l AQ.toArray n i tk u c (by rw[zh];omega)) ⟨e,?_⟩;have hk:(if i<0 then(i+((AQ.toArray.size:Nat):Int)).toNat else min i.toNat AQ.toArray.size)=min i.toNat AQ.length:=by
   rw[zv (),zh]
  refine⟨.non,_,I.Rp (its':=qF i.toNat u AQ) a e (by dsimp only;rw[hk];exact PK AQ i.toNat u) ?_ ?_,rfl,q⟩
  ·exact(r.take _).append (.cons g (r.drop _))
  ·unfold qF;rw[zr,Z3,ZT,qc];omega
end L2
namespace P1
open L2
section
variable{e1 e2:Expr}{fs:Ev->Y3 (Y Bx)}
def FS(ρ:Ev)(i:Nat):Y Bx->Y3 Ap
 |[.z (.int k),.z d]=>match ρ[i]? with
  |some (Z (.o ds))=>if(0<=k/\k<=1000000)/\ds.length<1000000 then Z (.nx (ρ.set i (Z (.o (qF k.toNat d ds)))))else O
  |_=>O
 |_=>O
def F2(i:Nat)(fs:Ev->Y3 (Y Bx)):Ev->Y3 Ap:=λρ=>(fs ρ).bind (FS ρ i)
theorem ZK{v:V}(r:aH K H ds vs)(b:AW K H d v):∀k:Nat,aH K H (qF k d ds) (qF k v vs):=by
 unfold qF
 induction ds generalizing vs with
 |nil=>
  intro k;simp only[aH]at r;subst r;rw[List.take_nil,List.take_nil,List.drop_nil,List.drop_nil];exact aH.cons b aH.nil
 |cons a ds e=>
  intro k;have c:=r;simp only[aH]at r;obtain⟨w,f,rfl,h1,h2⟩:=r;cases k with
  |zero=>exact aH.cons b c
  |succ k=>exact aH.cons h1 (e h2 k)
theorem ap(i:Nat){p:Pos}(m:T3 X [e1,e2] fs)(w:X.N[i]?=Z x:=by rfl)(B:WY X.env.scope x:=by first|exact ku rfl|exact Jn (ku Y2)|exact Jn (Jn Y2))(hd:ad x:=by decide)(o:(x==("__classdict__":AJ))=false:=by decide)(n:A9 [e1,e2] X.env=(false,eval e1 X.env)::A9 [e2] X.env:=by rfl)(u:attributeBase (.Name x p) "insert" X.env (eval (.Name x p) X.env)=eval (.Name x p) X.env:=by rfl)(A:((AD cpos (A9 [e1,e2] X.env)).all (λx=>!x.1)&&(backToKw cpos (keywordEach [] X.env)).all (λx=>x.1.isSome)
   && decide ([e1,e2].length+([]:Y AC).length+(if([]:Y AC).isEmpty then 0 else 1)<30))=true:=by rfl)(s:(AD cpos (A9 [e2] X.env)).any (·.1)=false:=by rfl)(l:(apos.endLine==cpos.line)=true:=by rfl)(hs:swapsWith (.Call (.Attribute (.Name x p) "insert" apos) [e1,e2] [] cpos) O pos.line X.env=pure false:=by rfl):
  Vy X (.Expr (.Call (.Attribute (.Name x p) "insert" apos) [e1,e2] [] cpos) pos) (F2 i fs):=⟨
 XC (J5 (Xq yT PySem.F.slot_list_insert PySem.F.type_list_insert Wi (yC (i:=i) w B hd o) m.run u A l n s) hs) λD σ H h=>by
  obtain⟨H0,ρ,r,E,e,q⟩:=h;obtain⟨bs,eb,e⟩:=AT e;unfold FS at e;split at e
  ·rename_i k d;split at e
   ·rename_i ds j;split at e
    ·rename_i hl;cases e;obtain⟨v,e1,a,vs,rfl,f,g⟩:=E.val i _ j;refine⟨_,e1,.inl ⟨rfl,vs,.inl (.inl f)⟩,H0,ρ,_,E,eb,λus H1 c b=>?_⟩;have z:=E.grow c;cases b with
     |cons b t=>
      cases t with
      |cons y t=>
       cases t;have b:=(show AW X.K H1 (.int k) _ from b);simp only[AW]at b;subst b;refine⟨a,vs,k,_,rfl,rfl,c _ _ f,hl.1,by rw[g.length];exact hl.2,q _ _ ?_⟩;exact z.Rp j e1 (c _ _ f) (ZK (g.kp (.of c)) y k.toNat)
    ·cases e
   ·cases e
  ·cases e⟩
variable{e:α->Dt}{k:Ev->Y3 Ap}{cO:γ->Ap}
theorem ZL(g:α->β)(n:Nat)(x:α)(xs:Y α):qF n (g x) (xs.map g)=(qF n x xs).map g:=by
 unfold qF;rw[JA,zw,List.map_take,List.map_drop]
def Ll(i:Nat)(xs:Y α)(hi:ρ[i]?=Z (Z (.o (xs.map e))))(a:R fa ρ (zE eI))(b:R fb ρ (zE e))(K:∀ys:Y α,R k (ρ.set i (Z (.o (ys.map e)))) cO):R (aF (F2 i (ao fa (ao fb aD))) k) ρ cO:=⟨(K (qF a.v.toNat b.v xs)).v,bw (bw (bw a.D b.D) (Z ((0<=a.v/\a.v<=1000000)/\xs.length<1000000))) (K (qF a.v.toNat b.v xs)).D,λhd=>by
 obtain⟨h1,d⟩:=aC hd;obtain⟨h1,h2⟩:=aC h1;obtain⟨c,h1⟩:=aC h1;have h2:(0<=a.v/\a.v<=1000000)/\xs.length<1000000:=h2;rw[qe (ρ':=ρ.set i (Z (.o ((qF a.v.toNat b.v xs).map e)))) (by
  unfold F2;simp only[ao,aD,a.ok c,b.ok h1,Au];show FS ρ i [.z (.int a.v),.z (e b.v)]=_;simp only[FS,hi,ze];rw[zk h2,ZL])]
 exact(K _).ok d⟩
end
theorem JG(h:p7 d=true):∃x,d=.str x:=by
 cases d with
 |str x=>exact⟨x,rfl⟩
 |_=>cases h
theorem CV(h:An d=true):∃ds,d=.tup ds:=by
 cases d with
 |tup x=>exact⟨x,rfl⟩
 |_=>cases h
theorem On(h:An d=true):DK d=true:=by
 obtain⟨ds,rfl⟩:=CV h;rfl
theorem cF(x y:AJ):yK (.str x) (.str y)=(x==y):=by
 rfl
theorem dB(x y:AJ):R3 (.str x) (.str y):=⟨by rfl,by simp[zf]⟩
theorem Lf(h:ds[k]?=Z d):cT (.tup ds) (k:Int)=d:=by
 have hl:k<ds.length:=(ca.mp h).1;have:Fe ds (k:Int)=Z d:=by
  unfold Fe EE;rw[zk (),zk (),Au,QU,h]
 unfold cT;simp only[dX,um,Au,this]
theorem mJ(a:Dt)(r:Y Dt):cT (.tup (a::r)) 0=a:=Lf (k:=0) rfl
theorem u6(a b:Dt)(r:Y Dt):cT (.tup (a::b::r)) 1=b:=Lf (k:=1) rfl
theorem JH(a b c:Dt)(r:Y Dt):cT (.tup (a::b::c::r)) 2=c:=Lf (k:=2) rfl
theorem Pp(h:d∈V6 (.str x)):d=eS (ji d):=by
 unfold V6 BI at h;obtain⟨c,_,rfl⟩:=bC.mp h;rfl
theorem Os(x:AJ):(V6 (.str x)).length=x.length:=Wa x
theorem Co(a b:AJ):qI a b=true↔HX a b/\a≠b:=by
 unfold qI HX;rw[ltCps_eq];simp only[qf,QA];constructor
 ·intro h;exact⟨List.lt_asymm h,λe=>by subst e;exact eu _ h⟩
 ·intro⟨h,hn⟩;by_cases q:a.cps.toList<b.cps.toList
  ·exact q
  ·exact absurd (Ow (a:=a) (b:=b) (by unfold HX;rw[ltCps_eq];simpa using h) (by unfold HX;rw[ltCps_eq];simpa using q)) hn
theorem ZM(n:Nat):rng 0 (n+1)=0::(rng 0 n).map (·+1):=by
 unfold rng;rw[dr,zw,ZU,ZU];refine congr (congrArg _ ?_) ?_
 ·simp
 ·apply kg;intro k _;simp only[Function.comp];omega
theorem uE{i:Int}(h:i∈rng 0 n):∃k:Nat,k<n/\i=(k:Int):=by
 unfold rng at h;obtain⟨k,hk,rfl⟩:=bC.mp h;exact⟨k,dg.mp hk,by omega⟩
end P1
namespace P1
open L2 S1 S6
theorem Ss[DecidableEq α]{xs ys:Y α}(h1:xs.Nodup)(h2:ys.Nodup)(h:∀x,x∈xs↔x∈ys):xs.Perm ys:=by
 rw[List.perm_iff_count];intro a;by_cases b:a∈xs
 ·rw[h1.count,h2.count,zk b,zk ((h a).mp b)]
 ·rw[h1.count,h2.count,zv b,zv λz=>b ((h a).mpr z)]
structure Wd (U:At) (w:List At):Prop where
 ne:∀s∈w,s≠[]
 so:∀s∈w,s.Pairwise HX
 nd:w.flatten.Nodup
 sub:∀x∈w.flatten,x∈U
 st:w.Pairwise (λa b=>S0 a b=true)
def same(w:Y At)(x y:AJ):Prop:=∃s∈w,x∈s/\y∈s
end P1
section
set_option maxHeartbeats 1000000
namespace P1
open L2
open PySem.Builtin PySem.Builtin.Str
abbrev cs(s:AJ):Y Nat:=s.cps.toList
theorem Lg(a b:AJ):cs (a++b)=cs a++cs b:=Zp
theorem Gu(a:AJ):a.length=(cs a).length:=by simp[Str.length]
theorem YY(y p q:AJ)(ps:At):Str.join y (p::q::ps)=p++y++Str.join y (q::ps):=rfl
theorem Wj{c:Nat}{s:AJ}(h:c∈cs s):Jl ⟨#[c]⟩ s=true:=by
 unfold Jl;obtain⟨i,hi⟩:=(mem_iff_at s c).mp h;rcases StrLaws.occ_head s ⟨#[c]⟩ 1 (zi 1)with⟨a,b⟩|⟨i,r,a,_,_⟩
 ·exact absurd hi (b i)
 ·rw[a];rfl
theorem ZP(h:n<=x.length):cs (Txt.slice x (Z (n:Int)) O)=(cs x).drop n:=by
 rw[slice_from_eq (b:=x.length) () () rfl];show((cs x).drop ((n:Int).toNat)).take _=_;rw[QU,ZY (by rw[qc,<-Gu];omega)]
theorem ZQ(h:n<=x.length):cs (Txt.slice x O (Z (n:Int)))=(cs x).take n:=by
 have:=slice_closes_to (x:=x) (j:=(n:Int)) ⟨by omega,by rw[show x.cps.toList.length=x.length by simp[Str.length]];omega⟩;rw[eq_of_beq this];show((cs x).drop 0).take _=_;simp
theorem ay:∀(y p:AJ) (ps:At),cs (Txt.join y (p::ps))=cs p++ps.flatMap λq=>cs y++cs q:=by
 intro y p ps;rw[show Txt.join y (p::ps)=Str.join y (p::ps) from StrLaws.glued_eq_join y _]
 induction ps generalizing p with
 |nil=>simp[Str.join]
 |cons q ps a=>rw[YY,Lg,Lg,a,ZN,ZE,ZE]
end P1
end
section
set_option maxHeartbeats 1000000
namespace P1
open L2 S1 S6
section
variable [Inhabited α]
def Wk(lt:α->α->Bool)(xs:Y α):Bool:=((rng 0 ((xs.length:Int)-1).toNat).map λi:Int=>lt (As xs i) (As xs (i+1))).all id
theorem PL(a:α)(l:Y α)(h:k<l.length):As (a::l) ((k:Int)+1)=As l (k:Int):=by
 have e:=wC (a::l) (k+1) (by simp;omega);rw[wC l k h,show((k:Int)+1)=((k+1:Nat):Int) by omega,e];rfl
theorem Wm(lt:α->α->Bool)(a b:α)(l:Y α):Wk lt (a::b::l)=(lt a b&&Wk lt (b::l)):=by
 unfold Wk;rw[show(((a::b::l).length:Int)-1).toNat=l.length+1 by simp only[Z3];omega,show(((b::l).length:Int)-1).toNat=l.length by simp only[Z3];omega,ZM,zw,kc,ZU];refine congr (congrArg _ ?_) (congrArg (λl:Y Bool=>l.all id) ?_)
 ·have e0:=wC (a::b::l) 0 (by simp);have e1:=wC (a::b::l) 1 (by simp);show lt (As (a::b::l) ((0:Nat):Int)) (As (a::b::l) ((1:Nat):Int))=lt a b;rw[e0,e1];rfl
 ·apply kg;intro i hi;obtain⟨k,hk,rfl⟩:=uE hi;have e1:=PL a (b::l) (k:=k) (by simp;omega);have e2:=PL a (b::l) (k:=k+1) (by simp;omega);have e3:((k+1:Nat):Int)=(k:Int)+1:=by omega
  rw[e3]at e2;simp only[Function.comp];rw[e1,e2]
theorem xu{lt:α->α->Bool}(tr:∀a b c,lt a b=true->lt b c=true->lt a c=true):∀(xs:Y α),Wk lt xs=true↔xs.Pairwise λa b=>lt a b=true
 |[]=>by simp[Wk,rng]
 |[a]=>by simp[Wk,rng]
 |a::b::l=>by
  rw[Wm,Zs,xu tr (b::l),@cq _ _ a (b::l)];constructor
  ·intro⟨h1,h2⟩;refine⟨λy d=>?_,h2⟩;rcases bc.mp d with rfl|d
   ·exact h1
   ·exact tr _ _ _ h1 (Q4 h2 d)
  ·intro⟨h1,h2⟩;exact⟨h1 b (zt ..),h2⟩
end
theorem ZR(a b c:AJ)(h1:qI a b=true)(h2:qI b c=true):qI a c=true:=by
 unfold qI at *
 simp only[qf]at *
 exact List.lt_trans h1 h2
section
variable{e:α->Dt} [jX e]
theorem ZS(a b c:α)(h1:Zc e a b=true)(h2:Zc e b c=true):Zc e a c=true:=j5 h1 h2
theorem Pw(a b:α):Zc e a b=true↔DC e a b=true/\a≠b:=by
 unfold Zc DC rT;constructor
 ·intro h;refine⟨?_,λz=>?_⟩
  ·cases q:iu (jX.k e b) (jX.k e a)with
   |false=>rfl
   |true=>have:=j5 h q;rw[vY]at this;cases this
  ·rw[z,vY]at h;cases h
 ·rintro⟨h1,h2⟩;cases q:iu (jX.k e a) (jX.k e b)with
  |true=>rfl
  |false=>
   have h1:iu (jX.k e b) (jX.k e a)=false:=by
    cases z:iu (jX.k e b) (jX.k e a)with
    |false=>rfl
    |true=>rw[z]at h1;cases h1
   exact absurd (jX.inj _ _ (vZ q h1)) h2
end
end P1
end
namespace P1
open L2
open PySem.Builtin PySem.Builtin.Str
end P1
section
set_option maxHeartbeats 1000000
namespace P1
open L2
open PySem.Builtin PySem.Builtin.Str
end P1
end
section
set_option synthInstance.maxSize 100000
namespace G10
open L2 P1
noncomputable section
abbrev BM:=Y P1.Dt
abbrev mH:Type:=AJ×AJ
abbrev Lh:mH->Dt:=W4 eS eS
abbrev aV:Type:=AJ×(Y mH)
abbrev aQ:aV->Dt:=W4 eS (eT Lh)
abbrev bx:Type:=Int×AJ×AJ×Int
abbrev aY:bx->Dt:=E6 eI eS eS eI
abbrev cV:Type:=AJ×AJ×Int
abbrev dD:cV->Dt:=RX eS eS eI
abbrev Hd:Type:=Int×aV
abbrev Wn:Type:=Int×Dt
abbrev Ab:Type:=Dt×cV
abbrev FG:Ab->Dt:=W4 eD dD
abbrev Wo:Type:=At×(Y bx)×(Y cV)
abbrev jD:Wo->Dt:=RX (eT eS) (eT aY) (eT dD)
abbrev MM:Type:=Dt×Dt×Dt
abbrev Ic:MM->Dt:=RX eD eD eD
def Ff(d:Dt):MM:=(cT d 0,cT d 1,cT d 2)
def top(i:Nat):AB:=PySem.Challenge.pw_onefolk_k10_grounds_told.main.body.getD i (.Pass ⟨0,0,0,0⟩)
abbrev Gv:AB:=top 29
abbrev yj:AB:=top 30
abbrev CW:AB:=top 34
abbrev CZ:AB:=top 31
abbrev Gw:AB:=top 32
abbrev JK:AB:=top 33
abbrev Ad:AB:=top 38
abbrev Dc:AB:=top 35
abbrev Dd:AB:=top 36
abbrev JL:AB:=top 37
abbrev JM:AB:=top 9
abbrev Dg:AB:=top 14
abbrev yp:AB:=top 16
abbrev Ae:AB:=top 15
abbrev U0:AB:=top 13
abbrev JN:AB:=top 27
abbrev Gx:AB:=top 24
abbrev Gy:AB:=top 25
abbrev Dh:AB:=top 26
abbrev Gz:AB:=top 2
abbrev Af:AB:=top 8
abbrev JQ:AB:=top 7
abbrev Ag:AB:=top 3
abbrev Di:AB:=top 21
abbrev GC:AB:=top 1
abbrev Dj:AB:=top 12
abbrev PN:AB:=top 19
abbrev Dk:AB:=top 18
abbrev yq:AB:=top 22
abbrev GD:AB:=top 23
abbrev Dl:AB:=top 20
abbrev s_law:AB:=top 39
def yr:Ev->Y3 Ap:=(aF (aF (B5 2 (b2 jm (b2 dY (b2 zJ (gv 2) (cB (.int 69621))) (gv 3)) (cB (.int 2147483647)))) dR) (fB [3]))
def uF:Ev->Y3 Ap:=(aF (vL (vD RN (gv 1) (cM oM (ao (gv 0) aD))) (aF (dO (b2 dX (gv 0) (gv 1))) dR) dR) (aF (B5 2 (b2 jm (b2 zJ (cB (.int 48271)) (b2 dY (b2 dY (b2 zJ (gv 1) (gv 1)) (b2 zJ (cB (.int 7)) (gv 1))) (cB (.int 11)))) (cB (.int 2147483647)))) (aF (sW (EB (Br (gv 0) iQ (lG (cB (.int 3))))) (nF 3) yr) (aF (dO (gv 2)) dR))))
def mR:Y Bx->Y3 Bx:=c7 4 uF
def mU:Ev->Y3 Ap:=(aF (aF (B5 3 (b2 jm (b2 dY (b2 dY (b2 zJ (gv 3) (b2 dY (b2 jm (gv 3) (cB (.int 65521))) (cB (.int 40487)))) (b2 zJ (cB (.int 7)) (gv 5))) (cB (.int 5))) (cB (.int 1999999973)))) (aF (Bt 2 (b2 dX (cM o7 (ao (gv 3) (ao (b2 jm (gv 4) (cB (.int 1000000))) aD))) (cM Yp (ao (b2 FD (gv 4) (cB (.int 0))) aD)))) (aF (B5 4 (b2 lC (gv 4) (cB (.int 1000000)))) dR))) (fB [5]))
def nH:Ev->Y3 Ap:=(aF (B5 2 (cM o7 aD)) (aF (B5 3 (b2 jm (b2 zJ (b2 dY (b2 jm (gv 0) (cB (.int 1999999973))) (cB (.int 31))) (cB (.int 765432101))) (cB (.int 1999999973)))) (aF (B5 4 (cB (.int 0))) (aF (vL (Rr (vD RN (gv 0) (cB (.int 0))) (vD DS (gv 0) (b2 GS (cB (.int 10)) (cB (.int 18))))) (aF (aF (B5 4 (cM Yo (ao (gv 0) aD))) dR) (fB [])) (aF dR (fB []))) (aF (sW (Ou (ao (gv 1) aD)) (nF 5) mU) (aF (HJ 2) dR))))))
def iG:Y Bx->Y3 Bx:=c7 6 nH
def wI:Ev->Y3 Ap:=(aF (aF (B5 4 (b2 dX (gv 0) (b2 dY (cB (.int 1)) (gv 3)))) (aF (FE 5 6 (ao (b2 dX (gv 1) (b2 jm (gv 4) (cB (.int 5)))) (ao (b2 dX (gv 1) (b2 jm (b2 dY (b2 dY (gv 4) (cB (.int 1))) (b2 jm (b2 lC (gv 4) (cB (.int 5))) (cB (.int 4)))) (cB (.int 5)))) aD))) (aF (B5 7 (b2 dX (cM o7 (ao (b1 xX (b2 dY (cB (.int 1)) (b2 jm (b2 lC (gv 4) (cB (.int 300))) (cB (.int 3))))) (ao (b1 xX (b2 dY (cB (.int 1)) (b2 jm (b2 lC (gv 4) (cB (.int 300))) (cB (.int 1000))))) aD))) (b2 jm (b2 lC (gv 4) (cB (.int 7))) (cB (.int 2))))) (aF (B5 8 (b2 jm (b2 lC (gv 4) (cB (.int 20))) (cB (.int 5)))) (aF (vL (vD BN (gv 8) (cB (.int 0))) (aF (aF (Bt 2 (cM fu (ao (cB (.str "never")) (ao (gv 5) aD)))) dR) (fB [])) (aF (aF (vL (vD BN (gv 8) (cB (.int 1))) (aF (aF (Bt 2 (cM fu (ao (cB (.str "begin")) (ao (gv 5) (ao (b1 xX (b2 dY (cB (.int 1)) (b2 jm (b2 lC (gv 4) (cB (.int 100))) (cB (.int 3))))) (ao (gv 7) aD)))))) dR) (fB [])) (aF (aF (vL (vD BN (gv 8) (cB (.int 2))) (aF (aF (Bt 2 (cM fu (ao (cB (.str "both")) (ao (gv 5) (ao (gv 6) (ao (gv 7) aD)))))) dR) (fB [])) (aF (aF (Bt 2 (cM fu (ao (cB (.str "same")) (ao (gv 5) (ao (gv 7) aD))))) dR) (fB []))) dR) (fB []))) dR) (fB []))) dR))))) (fB [3,4,5,6,7,8]))
def qL:Ev->Y3 Ap:=(aF (B5 1 (cM o7 (ao (cB (.str "day")) (ao (cB (.str "name")) (ao (cB (.str "names")) (ao (cB (.str "p")) (ao (cB (.str "zzz")) aD))))))) (aF (B5 2 (cM o7 aD)) (aF (sW (Ou (ao (b2 dY (cB (.int 1)) (b2 jm (b2 dX (gv 0) (cB (.int 0))) (cB (.int 4)))) aD)) (nF 3) wI) (aF (dO (cM lH (ao (gv 2) aD))) dR))))
def n6:Y Bx->Y3 Bx:=c7 9 qL
def qj:Ev->Y3 Ap:=(aF (aF (B5 7 (b2 dX (gv 2) (b2 jm (b2 dY (gv 6) (b2 dX (gv 0) (cB (.int 2)))) (cB (.int 15))))) (aF (B5 8 (b2 dY (b2 dY (Br (gv 3) iQ (lG (gv 4))) (gv 7)) (Br (gv 3) (lG (gv 4)) iQ))) (aF (vL (vD BN (b2 jm (b2 dX (gv 0) (cB (.int 3))) (cB (.int 3))) (cB (.int 1))) (aF (aF (B5 8 (b2 zJ (b2 dX (gv 2) (b2 lC (gv 6) (cB (.int 8)))) (b2 dY (cB (.int 1)) (b2 jm (gv 6) (cB (.int 8)))))) dR) (fB [])) (aF dR (fB []))) (aF (Bt 5 (gv 8)) dR)))) (fB [6,7,8]))
def qM:Ev->Y3 Ap:=(aF (B5 2 (cB (.str "abcdefghijklmnopqrstuvwxyz"))) (aF (B5 3 (b1 (Oz "") (gB (Ou (ao (b2 jm (b2 dX (gv 0) (cB (.int 0))) (cB (.int 6))) aD)) (nF 2) p8 (b2 dX (gv 0) (b2 jm (b2 lC (b2 dX (gv 1) (gv 2)) (cB (.int 40))) (cB (.int 26)))) [2,0] 1))) (aF (B5 4 (b2 jm (b2 dX (gv 0) (cB (.int 1))) (b2 dY (cM oM (ao (gv 3) aD)) (cB (.int 1))))) (aF (B5 5 (cM o7 aD)) (aF (sW (Ou (ao (gv 1) aD)) (nF 6) qj) (aF (HJ 5) dR))))))
def qN:Y Bx->Y3 Bx:=c7 9 qM
def yt:Ev->Y3 Ap:=(aF (aF (B5 1 (b2 dY (gv 1) (b2 dX (cB (.str "ab1")) (b2 jm (b2 lC (b2 lC (gv 0) (cB (.int 16))) (b2 dX (cM o7 (ao (cB (.int 1)) (ao (cB (.int 3)) (ao (cB (.int 9)) (ao (cB (.int 27)) aD))))) (gv 2))) (cB (.int 3)))))) dR) (fB [2]))
def uG:Ev->Y3 Ap:=(aF (vL (vD BN (b2 jm (gv 0) (cB (.int 4))) (cB (.int 0))) (aF (dO (b2 dX (cM o7 (ao (cB (.str "a")) (ao (cB (.str "ab")) (ao (cB (.str "abc")) (ao (cB (.str "b")) (ao (cB (.str "1")) (ao (cB (.str "12")) (ao (cB (.str "a1")) aD)))))))) (b2 jm (b2 lC (gv 0) (cB (.int 4))) (cB (.int 7))))) dR) dR) (aF (B5 1 (cB (.str ""))) (aF (sW (Ou (ao (b2 dY (cB (.int 1)) (b2 jm (b2 lC (gv 0) (cB (.int 4))) (cB (.int 4)))) aD)) (nF 2) yt) (aF (dO (gv 1)) dR))))
def uH:Y Bx->Y3 Bx:=c7 3 uG
def Ah:Ev->Y3 Ap:=(aF (aF (vL (vD FD (b2 jm (b2 dX (gv 1) (gv 4)) (cB (.int 4))) (cB (.int 0))) (aF (aF (Bt 3 (cM fu (ao (b2 dX (gv 2) (gv 4)) (ao (b1 xX (bG 1 uH (ao (b2 lC (b2 dX (gv 1) (gv 4)) (cB (.int 4))) aD))) aD)))) dR) (fB [])) (aF dR (fB []))) dR) (fB [4]))
def xG:Ev->Y3 Ap:=(aF (B5 2 (cM o7 (ao (cB (.str "day")) (ao (cB (.str "name")) (ao (b1 xX (b2 dY (cB (.str "name")) (cB (.str "s")))) (ao (cB (.str "p")) aD)))))) (aF (B5 3 (cM o7 aD)) (aF (sW (Ou (ao (cB (.int 4)) aD)) (nF 4) Ah) (aF (dO (cM fu (ao (gv 0) (ao (cM lH (ao (gv 3) aD)) aD)))) dR))))
def xH:Y Bx->Y3 Bx:=c7 5 xG
def oO:Ev->Y3 Ap:=(aF (aF (F2 2 (ao (b2 jm (b2 lC (b2 dX (gv 1) (b2 jm (gv 3) (cM oM (ao (gv 1) aD)))) (b2 dY (cB (.int 1)) (b2 lC (gv 3) (cM oM (ao (gv 1) aD))))) (b2 dY (gv 3) (cB (.int 1)))) (ao (b2 dX (gv 0) (gv 3)) aD))) dR) (fB [3]))
def jq:Ev->Y3 Ap:=(aF (B5 2 (cM o7 aD)) (aF (sW (Ou (ao (cM oM (ao (gv 0) aD)) aD)) (nF 3) oO) (aF (HJ 2) dR)))
def jr:Y Bx->Y3 Bx:=c7 4 jq
def qO:Ev->Y3 Ap:=(aF (dO (gB (Hw (b2 dX (gv 0) (cB (.int 1)))) (qH 2 (cY (nF 1) (cY (nF 2) uX))) (vD BN (gv 1) (gv 0)) (gv 2) [1] 2)) dR)
def iY:Y Bx->Y3 Bx:=c7 2 qO
def qP:Ev->Y3 Ap:=(aF (FE 3 4 (ao (b1 xX (bG 2 iY (ao (gv 1) (ao (b2 dX (gv 0) (cB (.int 1))) aD)))) (ao (b1 xX (bG 2 iY (ao (gv 2) (ao (b2 dX (gv 0) (cB (.int 1))) aD)))) aD))) (aF (vL (Rr (vD BN (gv 3) (cM o7 aD)) (vD BN (gv 4) (cM o7 aD))) (aF (dO (cB (.bl false))) dR) dR) (aF (vL (vD BN (b2 dX (gv 0) (cB (.int 0))) (cB (.str "never"))) (aF (dO (b2 Jj (gv 3) (gv 4))) dR) dR) (aF (vL (vD BN (b2 dX (gv 0) (cB (.int 0))) (cB (.str "begin"))) (aF (dO (jH (b2 DS (cM oM (ao (b2 dX (gv 3) (cB (.int 0))) aD)) (b2 dX (gv 0) (cB (.int 2)))) (jH (b2 DS (cM oM (ao (b2 dX (gv 4) (cB (.int 0))) aD)) (b2 dX (gv 0) (cB (.int 2)))) (b2 BN (Br (b2 dX (gv 3) (cB (.int 0))) iQ (lG (b2 dX (gv 0) (cB (.int 2))))) (Br (b2 dX (gv 4) (cB (.int 0))) iQ (lG (b2 dX (gv 0) (cB (.int 2))))))))) dR) dR) (aF (vL (vD BN (b2 dX (gv 0) (cB (.int 0))) (cB (.str "same"))) (aF (dO (b2 BN (gv 3) (gv 4))) dR) dR) (aF (dO (jH (b2 BN (gv 3) (gv 4)) (Dx BN Jj (bG 2 iY (ao (gv 1) (ao (b2 dX (gv 0) (cB (.int 2))) aD))) (bG 2 iY (ao (gv 2) (ao (b2 dX (gv 0) (cB (.int 2))) aD))) (cM o7 aD)))) dR))))))
def qQ:Y Bx->Y3 Bx:=c7 5 qP
def Ai:Ev->Y3 Ap:=(aF (aF (B5 7 (b2 dX (gv 1) (gv 6))) (aF (vL (XM (vD RN (b2 dX (gv 4) (cB (.int 0))) (b2 dX (gv 5) (cB (.int 0)))) (tV (bG 3 qQ (ao (gv 7) (ao (gv 4) (ao (gv 5) aD)))))) (aF (aF (vL (vD BN (b2 dX (gv 7) (cB (.int 0))) (cB (.str "never"))) (aF (aF (Bt 3 (cM fu (ao (b2 dX (gv 4) (cB (.int 0))) (ao (b2 dX (gv 5) (cB (.int 0))) (ao (gv 6) aD))))) dR) (fB [])) (aF (aF (Bt 2 (cM fu (ao (b2 CF (cB (.int 0)) (b2 dX (gv 7) (b2 CF (cM oM (ao (gv 7) aD)) (cB (.int 1))))) (ao (b2 dX (gv 4) (cB (.int 0))) (ao (b2 dX (gv 5) (cB (.int 0))) (ao (gv 6) aD)))))) dR) (fB []))) dR) (fB [])) (aF dR (fB []))) dR)) (fB [6,7]))
def Aj:Ev->Y3 Ap:=(aF (aF (sW (Ou (ao (cM oM (ao (gv 1) aD)) aD)) (nF 6) Ai) dR) (fB [5,6,7]))
def Ak:Ev->Y3 Ap:=(aF (aF (NZ 0 (nF 5) Aj) dR) (fB [4,5,6,7]))
def xJ:Ev->Y3 Ap:=(aF (B5 2 (cM o7 aD)) (aF (B5 3 (cM o7 aD)) (aF (NZ 0 (nF 4) Ak) (aF (B5 8 (cM lH (ao (gB (Hw (cM wG (ao (gv 2) aD))) (qH 4 (cY (nF 0) (cY (nF 1) (cY (nF 2) (cY (nF 3) uX))))) p8 (cM fu (ao (b2 CF (cB (.int 0)) (gv 0)) (ao (gv 1) (ao (gv 2) (ao (gv 3) aD))))) [] 4) aD))) (aF (dO (cM fu (ao (cM lH (ao (cM Ox (ao (gB (Hw (gv 0)) (nF 0) p8 (b2 dX (gv 0) (cB (.int 0))) [] 1) aD)) aD)) (ao (gv 8) (ao (cM lH (ao (cM wG (ao (gv 3) aD)) aD)) aD))))) dR)))))
def xK:Y Bx->Y3 Bx:=c7 9 xJ
def Al:Ev->Y3 Ap:=(aF (aF (vL (vD BN (gv 2) (gv 1)) (aF (dO (gv 3)) dR) dR) dR) (fB [2,3]))
def xM:Ev->Y3 Ap:=(aF (sW (EB (b2 dX (gv 0) (cB (.int 1)))) (qH 2 (cY (nF 2) (cY (nF 3) uX))) Al) (aF (dO (cB .non)) dR))
def gR:Y Bx->Y3 Bx:=c7 4 xM
def qR:Ev->Y3 Ap:=(aF (B5 3 (bG 2 gR (ao (gv 0) (ao (gv 2) aD)))) (aF (dO (jH (b2 Fy (gv 3) (cB .non)) (b2 BN (gv 3) (bG 2 gR (ao (gv 1) (ao (gv 2) aD)))))) dR))
def kJ:Y Bx->Y3 Bx:=c7 4 qR
def nJ:Ev->Y3 Ap:=(aF (B5 4 (bG 2 gR (ao (gv 0) (ao (gv 2) aD)))) (aF (B5 5 (bG 2 gR (ao (gv 1) (ao (gv 2) aD)))) (aF (vL (Rr (vD EI (gv 4) (cB .non)) (vD EI (gv 5) (cB .non))) (aF (dO (cB (.bl false))) dR) dR) (aF (dO (jH (b2 DS (cM oM (ao (gv 4) aD)) (gv 3)) (jH (b2 DS (cM oM (ao (gv 5) aD)) (gv 3)) (b2 BN (Br (gv 4) iQ (lG (gv 3))) (Br (gv 5) iQ (lG (gv 3))))))) dR))))
def nM:Y Bx->Y3 Bx:=c7 6 nJ
def pA:Ev->Y3 Ap:=(aF (B5 3 (bG 2 gR (ao (gv 0) (ao (gv 2) aD)))) (aF (B5 4 (bG 2 gR (ao (gv 1) (ao (gv 2) aD)))) (aF (dO (jH (b2 Fy (gv 3) (cB .non)) (jH (b2 Fy (gv 4) (cB .non)) (b2 Jj (gv 3) (gv 4))))) dR)))
def pB:Y Bx->Y3 Bx:=c7 5 pA
def Er:Ev->Y3 Ap:=(aF (vL (vD BN (b2 dX (gv 0) (cB (.int 0))) (cB (.str "same"))) (aF (dO (bG 3 kJ (ao (gv 1) (ao (gv 2) (ao (b2 dX (gv 0) (cB (.int 1))) aD))))) dR) dR) (aF (vL (vD BN (b2 dX (gv 0) (cB (.int 0))) (cB (.str "begin"))) (aF (dO (bG 4 nM (ao (gv 1) (ao (gv 2) (ao (b2 dX (gv 0) (cB (.int 1))) (ao (b2 dX (gv 0) (cB (.int 2))) aD)))))) dR) dR) (aF (vL (vD BN (b2 dX (gv 0) (cB (.int 0))) (cB (.str "both"))) (aF (dO (jH (bG 3 kJ (ao (gv 1) (ao (gv 2) (ao (b2 dX (gv 0) (cB (.int 1))) aD)))) (bG 3 kJ (ao (gv 1) (ao (gv 2) (ao (b2 dX (gv 0) (cB (.int 2))) aD)))))) dR) dR) (aF (dO (bG 3 pB (ao (gv 1) (ao (gv 2) (ao (b2 dX (gv 0) (cB (.int 1))) aD))))) dR))))
def Es:Y Bx->Y3 Bx:=c7 3 Er
def xO:Ev->Y3 Ap:=(aF (dO (La (II (ao (gv 0) aD)) (qH 2 (cY (nF 2) (cY (nF 3) uX))) p8 (DE (EB (Br (gv 0) (lG (b2 dY (gv 2) (cB (.int 1)))) iQ)) (nF 4) p8 (DE (ID (ao (gv 1) aD)) (qH 2 (cY (nF 5) (cY (nF 6) uX))) (tV (bG 3 Es (ao (gv 6) (ao (gv 3) (ao (gv 4) aD))))) (F6 (cM fu (ao (gv 6) (ao (cM fu (ao (b2 dX (gv 3) (cB (.int 0))) (ao (b2 dX (gv 4) (cB (.int 0))) (ao (gv 5) aD)))) aD)))))) [0,1] 5)) dR)
def xP:Y Bx->Y3 Bx:=c7 2 xO
def uI:Ev->Y3 Ap:=(aF (Yq (qH 4 (cY (nF 1) (cY (nF 2) (cY (nF 3) (cY (nF 4) uX))))) (gv 0)) (aF (dO (cM fu (ao (b1 Km (gv 1)) (ao (gv 2) (ao (gv 3) (ao (gv 4) aD)))))) dR))
def mV:Y Bx->Y3 Bx:=c7 5 uI
def mW:Ev->Y3 Ap:=(aF (dO (rY EN (gv 0) λ_ d=>mV [.z d])) dR)
def fG:Y Bx->Y3 Bx:=c7 1 mW
def qT:Ev->Y3 Ap:=(aF (B5 2 (rY DU (gv 0) λρ d=>(b2 dX (gv 0) (cB (.int 0))) (Z (.z d)::jK [] ρ))) (aF (B5 3 (bG 2 xP (ao (gv 2) (ao (gv 1) aD)))) (aF (B5 4 (gB (Hw (gv 3)) (qH 2 (cY (nF 0) (cY (nF 1) uX))) (vD Jj (b2 dX (gv 0) (cB (.int 0))) (cB (.str "never"))) (b1 xX (b2 dY (cM fu (ao (b2 dX (gv 0) (b1 Km (cB (.int 1)))) aD)) (gv 1))) [] 2)) (aF (B5 5 (gB (Hw (gv 3)) (qH 2 (cY (nF 0) (cY (nF 1) uX))) (vD BN (b2 dX (gv 0) (cB (.int 0))) (cB (.str "never"))) (gv 1) [] 2)) (aF (dO (cM fu (ao (cM lH (ao (gB (Hw (gv 2)) (nF 0) p8 (b2 dX (gv 0) (cB (.int 0))) [] 1) aD)) (ao (cM lH (ao (bG 1 fG (ao (gv 4) aD)) aD)) (ao (cM lH (ao (cM wG (ao (gv 5) aD)) aD)) aD))))) dR)))))
def fQ:Y Bx->Y3 Bx:=c7 6 qT
def uJ:Ev->Y3 Ap:=(aF (dO (jH (sV An (gv 0)) (b2 BN (cM oM (ao (gv 0) aD)) (gv 1)))) dR)
def iZ:Y Bx->Y3 Bx:=c7 2 uJ
def pC:Ev->Y3 Ap:=(aF (dO (jH (sV p7 (gv 0)) (jH (Dx EL EL (cB (.int 1)) (cM oM (ao (gv 0) aD)) (gv 2)) (cM Bn (ao (gB (Hw (gv 0)) (nF 1) p8 (b2 inF (gv 1) (gv 0)) [1] 1) aD))))) dR)
def pD:Y Bx->Y3 Bx:=c7 3 pC
def xQ:Ev->Y3 Ap:=(aF (dO (bG 3 pD (ao (gv 0) (ao (cB (.str "abcdefghijklmnopqrstuvwxyz")) (ao (cB (.int 8)) aD))))) dR)
def mX:Y Bx->Y3 Bx:=c7 1 xQ
def fU:Ev->Y3 Ap:=(aF (dO (cM Bn (ao (gB (Ou (ao (b2 CF (cM oM (ao (gv 0) aD)) (cB (.int 1))) aD)) (nF 1) p8 (b2 (EU RN Sd) (b2 dX (gv 0) (gv 1)) (b2 dX (gv 0) (b2 dY (gv 1) (cB (.int 1))))) [0] 1) aD))) dR)
def dJ:Y Bx->Y3 Bx:=c7 1 fU
def qU:Ev->Y3 Ap:=(aF (dO (jH (sV An (gv 0)) (jH (cM Bn (ao (gB (Hw (gv 0)) (nF 0) p8 (b1 xX (bG 1 mX (ao (gv 0) aD))) [] 1) aD)) (bG 1 dJ (ao (gv 0) aD))))) dR)
def qW:Y Bx->Y3 Bx:=c7 1 qU
def uK:Ev->Y3 Ap:=(aF (dO (jH (sV Bq (gv 0)) (Fc (sV BO (gv 0))))) dR)
def mY:Y Bx->Y3 Bx:=c7 1 uK
def qX:Ev->Y3 Ap:=(aF (dO (jH (bG 1 mY (ao (gv 0) aD)) (Dx EL EL (cB (.int 1)) (gv 0) (cB (.int 1000))))) dR)
def qY:Y Bx->Y3 Bx:=c7 1 qX
def Am:Ev->Y3 Ap:=(aF (vL (Dz (tV (bG 2 iZ (ao (gv 0) (ao (cB (.int 3)) aD))))) (aF (dO (cB (.bl false))) dR) dR) (aF (Yq (qH 3 (cY (nF 1) (cY (nF 2) (cY (nF 3) uX)))) (gv 0)) (aF (dO (jH (bG 1 mX (ao (gv 1) aD)) (jH (bG 1 mX (ao (gv 2) aD)) (jH (b2 RN (gv 1) (gv 2)) (jH (bG 1 mY (ao (gv 3) aD)) (b2 DS (gv 3) (cB (.int 0)))))))) dR)))
def tH:Y Bx->Y3 Bx:=c7 4 Am
def qZ:Ev->Y3 Ap:=(aF (dO (jH (bG 2 iZ (ao (gv 0) (ao (cB (.int 4)) aD))) (jH (bG 1 qY (ao (b2 dX (gv 0) (cB (.int 0))) aD)) (bG 1 tH (ao (b1 xX (Br (gv 0) (lG (cB (.int 1))) iQ)) aD))))) dR)
def q8:Y Bx->Y3 Bx:=c7 1 qZ
def nO:Ev->Y3 Ap:=(aF (vL (Rr (Dz (tV (sV An (gv 0)))) (Dz (tV (cM Bn (ao (gB (Hw (gv 0)) (nF 0) p8 (b1 xX (bG 1 q8 (ao (gv 0) aD))) [] 1) aD))))) (aF (dO (cB (.bl false))) dR) dR) (aF (vL (Dz (tV (cM Bn (ao (gB (Hw (gv 0)) (nF 1) p8 (jH (b2 inF (b2 dX (gv 1) (cB (.int 1))) (gv 0)) (b2 inF (b2 dX (gv 1) (cB (.int 2))) (gv 0))) [1] 1) aD)))) (aF (dO (cB (.bl false))) dR) dR) (aF (dO (bG 1 dJ (ao (b1 xX (gB (Hw (gv 0)) (nF 0) p8 (b1 xX (bG 1 mV (ao (gv 0) aD))) [] 1)) aD))) dR)))
def nQ:Y Bx->Y3 Bx:=c7 2 nO
def uL:Ev->Y3 Ap:=(aF (vL (Rr (Dz (tV (sV An (gv 0)))) (Dz (tV (cM Bn (ao (gB (Hw (gv 0)) (nF 0) p8 (b1 xX (bG 1 tH (ao (gv 0) aD))) [] 1) aD))))) (aF (dO (cB (.bl false))) dR) dR) (aF (dO (jH (cM Bn (ao (gB (Hw (gv 0)) (nF 1) p8 (jH (b2 inF (b2 dX (gv 1) (cB (.int 0))) (gv 0)) (b2 inF (b2 dX (gv 1) (cB (.int 1))) (gv 0))) [1] 1) aD)) (bG 1 dJ (ao (gv 0) aD)))) dR))
def uM:Y Bx->Y3 Bx:=c7 2 uL
def q9:Ev->Y3 Ap:=(aF (vL (Dz (tV (bG 2 iZ (ao (gv 0) (ao (cB (.int 3)) aD))))) (aF (dO (cB (.bl false))) dR) dR) (aF (Yq (qH 3 (cY (nF 1) (cY (nF 2) (cY (nF 3) uX)))) (gv 0)) (aF (dO (jH (bG 1 qW (ao (gv 1) aD)) (jH (bG 2 nQ (ao (gv 2) (ao (gv 1) aD))) (bG 2 uM (ao (gv 3) (ao (gv 1) aD)))))) dR)))
def rA:Y Bx->Y3 Bx:=c7 4 q9
def PX:Ev->Y3 Ap:=(aF (aF (Bt 4 (b1 xX (bG 2 xH (ao (b2 dX (gv 3) (gv 5)) (ao (b1 xX (bG 2 iG (ao (b1 xX (bG 2 mR (ao (gv 0) (ao (b1 xX (b2 dY (cB (.int 1)) (gv 5))) aD)))) (ao (cB (.int 4)) aD)))) aD))))) dR) (fB [5]))
def U4:Ev->Y3 Ap:=(aF (B5 1 (bG 2 iG (ao (b1 xX (bG 2 mR (ao (gv 0) (ao (cB (.int 0)) aD)))) (ao (cB (.int 18)) aD)))) (aF (B5 2 (b2 dY (bG 1 n6 (ao (gv 1) aD)) (Br (bG 1 n6 (ao (b1 xX (Br (gv 1) (lG (cB (.int 5))) iQ)) aD)) iQ (lG (cB (.int 2)))))) (aF (B5 3 (bG 2 qN (ao (b1 xX (Br (gv 1) (lG (cB (.int 10))) iQ)) (ao (b2 jm (b2 dX (gv 1) (cB (.int 16))) (cB (.int 7))) aD)))) (aF (B5 4 (cM o7 aD)) (aF (sW (Ou (ao (cM oM (ao (gv 3) aD)) aD)) (nF 5) PX) (aF (B5 6 (bG 2 iG (ao (b1 xX (bG 2 mR (ao (gv 0) (ao (cB (.int 9)) aD)))) (ao (cB (.int 12)) aD)))) (aF (B5 4 (cM lH (ao (bG 2 jr (ao (gv 4) (ao (gv 6) aD))) aD))) (aF (B5 7 (bG 2 xK (ao (gv 4) (ao (gv 2) aD)))) (aF (B5 8 (bG 2 fQ (ao (gv 4) (ao (gv 2) aD)))) (aF (vL (Rr (vD Jj (gv 8) (gv 7)) (Rr (vD Pr (bG 1 rA (ao (gv 8) aD)) (cB (.bl true))) (vD Jj (bG 2 fQ (ao (b1 xX (b2 VJ (gv 4) (b1 Km (cB (.int 1))))) (ao (gv 2) aD))) (gv 7)))) (aF (dO (cB (.bl false))) dR) dR) (aF (vL (Dz (tV (cM Bn (ao (gB (Hw (b2 dY (b2 dY (gv 8) (b2 dX (gv 8) (cB (.int 1)))) (b2 dX (gv 8) (cB (.int 2))))) (nF 0) p8 (b1 xX (sV An (gv 0))) [] 1) aD)))) (aF (dO (cB (.bl false))) dR) dR) (aF (B5 9 (cM o7 (ao (cM fu (ao (cB (.int 5)) (ao (cB (.str "a")) (ao (cB (.str "b")) (ao (cB (.int 100)) aD))))) (ao (cM fu (ao (cB (.int 5)) (ao (cB (.str "a")) (ao (cB (.str "b")) (ao (cB (.int 2)) aD))))) (ao (cM fu (ao (cB (.int 50)) (ao (cB (.str "b")) (ao (cB (.str "c")) (ao (cB (.int 10)) aD))))) (ao (cM fu (ao (cB (.int 5)) (ao (cB (.str "a")) (ao (cB (.str "b")) (ao (cB (.int 10)) aD))))) (ao (cM fu (ao (cB (.int 5)) (ao (cB (.str "a")) (ao (cB (.str "ab")) (ao (cB (.int 9)) aD))))) aD))))))) (aF (B5 10 (bG 2 jr (ao (b1 xX (b2 dY (b2 dY (cM uZ (ao (b2 dX (gv 7) (cB (.int 1))) aD)) (cM uZ (ao (Br (b2 dX (gv 7) (cB (.int 1))) iQ (lG (cB (.int 2)))) aD))) (gv 9))) (ao (b1 xX (Br (gv 6) (lG (cB (.int 3))) iQ)) aD)))) (aF (B5 11 (cM uZ (ao (gv 10) aD))) (aF (B5 12 (bG 1 fG (ao (gv 11) aD))) (aF (B5 13 (cM wG (ao (gB (Hw (gv 10)) (nF 0) p8 (b1 xX (b2 dY (cM fu (ao (b2 CF (cB (.int 0)) (b2 dX (gv 0) (cB (.int 0)))) aD)) (Br (gv 0) (lG (cB (.int 1))) iQ))) [] 1) aD))) (aF (vL (Rr (Dz (tV (sV BU (gv 12)))) (Rr (vD Jj (gv 12) (gB (Hw (gv 13)) (nF 0) p8 (b1 xX (b2 dY (cM fu (ao (b2 CF (cB (.int 0)) (b2 dX (gv 0) (cB (.int 0)))) aD)) (Br (gv 0) (lG (cB (.int 1))) iQ))) [] 1)) (vD Jj (gv 11) (gv 10)))) (aF (dO (cB (.bl false))) dR) dR) (aF (B5 14 (cM uZ (ao (b2 dX (gv 7) (cB (.int 1))) aD))) (aF (B5 15 (bG 1 fG (ao (gv 14) aD))) (aF (Bt 15 (cM fu (ao (cB (.int 1)) (ao (cB (.str "zz")) (ao (cB (.str "zzz")) (ao (cB (.int 0)) aD)))))) (aF (V4 15) (aF (vL (Rr (vD Jj (gv 14) (cM uZ (ao (b2 dX (gv 7) (cB (.int 1))) aD))) (vD Jj (bG 1 fG (ao (gv 14) aD)) (cM uZ (ao (b2 dX (gv 7) (cB (.int 1))) aD)))) (aF (dO (cB (.bl false))) dR) dR) (aF (vL (Rr (vD Jj (bG 2 fQ (ao (gv 4) (ao (cM fu aD) aD))) (cM fu (ao (b2 dX (gv 7) (cB (.int 0))) (ao (cM fu aD) (ao (cM fu aD) aD))))) (vD Jj (bG 2 fQ (ao (cM fu aD) (ao (cM fu aD) aD))) (cM fu (ao (cM fu aD) (ao (cM fu aD) (ao (cM fu aD) aD)))))) (aF (dO (cB (.bl false))) dR) dR) (aF (dO (jH (b2 BN (bG 1 fG (ao (cM lH (ao (gv 10) aD)) aD)) (gv 12)) (jH (b2 BN (bG 1 fG (ao (cM fu aD) aD)) (cM o7 aD)) (b2 BN (bG 2 fQ (ao (cM fu aD) (ao (gv 2) aD))) (cM fu (ao (cM fu aD) (ao (cM fu aD) (ao (cM fu aD) aD)))))))) dR))))))))))))))))))))))))
def F_law:Y Bx->Y3 Bx:=c7 16 U4
end
end G10
end
section
set_option synthInstance.maxSize 100000
namespace G10
open L2 P1
set_option genInjectivity false
set_option genSizeOf false
structure T (K:B8) (mg:Str->Option Value) where
 mZ:DQ K mg "_law_cell" Gv ["_law_script","_law_k"]
 iH:DQ K mg "_law_numbers" yj ["_law_cell_here","_law_many"]
 n8:DQ K mg "_law_rules" CW ["_law_xs"]
 rB:DQ K mg "_law_names" CZ ["_law_xs","_law_many"]
 uN:DQ K mg "_law_word" Gw ["_law_x"]
 xR:DQ K mg "_law_row" JK ["_law_name","_law_xs"]
 lM:DQ K mg "_law_turned" Ad ["_law_some","_law_xs"]
 jc:DQ K mg "_law_words" Dc ["_law_row_here","_law_field"]
 rC:DQ K mg "_law_tells" Dd ["_law_rule","_law_row_here","_law_other"]
 xT:DQ K mg "_law_due" JL ["_law_book","_law_rules_here"]
 gU:DQ K mg "word_of" JM ["row","field"]
 kO:DQ K mg "are_alike" Dg ["row","other","field"]
 nR:DQ K mg "begin_alike" yp ["row","other","field","many"]
 pF:DQ K mg "are_unlike" Ae ["row","other","field"]
 Et:DQ K mg "tells" U0 ["rule","row","other"]
 xU:DQ K mg "told_of" JN ["rows","rules"]
 j6:DQ K mg "place_of" Gx ["reason"]
 gk:DQ K mg "in_order" Gy ["reasons"]
 fV:DQ K mg "ground_of" Dh ["book","rules"]
 jd:DQ K mg "is_tuple" Gz ["thing","many"]
 pG:DQ K mg "is_text_of" Af ["thing","signs","longest"]
 m5:DQ K mg "is_name" JQ ["thing"]
 fW:DQ K mg "are_rising" Ag ["things"]
 rD:DQ K mg "are_names" Di ["thing"]
 m9:DQ K mg "is_whole" GC ["thing"]
 rE:DQ K mg "is_weight" Dj ["thing"]
 tK:DQ K mg "is_bar" PN ["thing"]
 rG:DQ K mg "is_reason" Dk ["thing"]
 nT:DQ K mg "are_reasons" yq ["thing","names"]
 uO:DQ K mg "are_bars" GD ["thing","names"]
 rH:DQ K mg "is_ground" Dl ["thing"]
 x_law:DQ K mg "law" s_law ["_law_script"]
 ahV:mg "abs"=none
 Dm:mg "all"=none
 afG:mg "bool"=none
 Dn:mg "enumerate"=none
 ado:mg "int"=none
 eF:mg "isinstance"=none
 ql:mg "len"=none
 yQ:mg "list"=none
 nU:mg "range"=none
 qm:mg "sorted"=none
 ahW:mg "str"=none
 iw:mg "tuple"=none
 Wq:∃tk,mg "LETTERS"=some (.str "abcdefghijklmnopqrstuvwxyz" tk)
 GF:∃tk,mg "LONGEST_NAME"=some (.int 8 tk)
 HY:∃tk,mg "MOST_WEIGHT"=some (.int 1000 tk)
 Ia:HI K fV.fd "ground_of.<locals>.<lambda>"=true
section
variable(t:T K mg)
theorem Qa:bD ["_law_script","_law_k","_law_state","_law_cell_here"] ["_law_script","_law_k"] (aK Gv):=jN
theorem Qc:Ok P w base t.mZ 1 2 mR:=yO (g:=uF) t.mZ Qa λ_ _ _ _ _ _ c b a=>(aA (fM (cQ FJ (ak 1) (bT j4 Y2 t.ql jZ (aj (ak 0) au)) (bh _)) (aA (bI (aW (ak 0) (ak 1))) aG) aG) (aA (bF 2 a (aP cZ (aP vR aB (aP cN (aP cN (aP vR (ak 1) (ak 1)) (aP vR aB (ak 1))) aB)) aB)) (aA (rR PassesOwn.never Y2 (Kh (oW (ak 0) dZ (d7 aB))) (aR 3 a) (bU [3] (aA (bF 2 a (aP cZ (aP cN (aP vR (ak 2) aB) (ak 3)) aB)) aG))) (aA (bI (ak 2)) aG))))
theorem GJ:bD ["_law_cell_here","_law_many","_law_found","_law_state","_law_digits","_law_k"] ["_law_cell_here","_law_many"] (aK yj):=jN
theorem GK:Ok P w base t.iH 1 2 iG:=yO (g:=nH) t.iH GJ λ_ _ _ _ _ _ c b a=>(aA (bF 2 a (g8 au)) (aA (bF 3 a (aP cZ (aP vR (aP cN (aP cZ (ak 0) aB) aB) aB) aB)) (aA (bF 4 a aB) (aA (fM (HF (pW (cQ FJ (ak 0) aB (bh _)) (oZ (cQ Jk (ak 0) (aP VW aB aB) (bh _))))) (bU [] (aA (bF 4 a (bT W' Y2 t.ahV OR (aj (ak 0) au))) aG)) (bU [] aG)) (aA (rR PassesOwn.never Y2 (jJ Y2 t.nU (aj (ak 1) au)) (aR 5 a) (bU [5] (aA (bF 3 a (aP cZ (aP cN (aP cN (aP vR (ak 3) (aP cN (aP cZ (ak 3) aB) aB)) (aP vR aB (ak 5))) aB) aB)) (aA (pZ 2 (aW (g8 (aj (ak 3) (aj (aP cZ (ak 4) aB) au))) (cU Tl Y2 t.ado Yk (aj (dF LO (ak 4) aB (bh _)) au)))) (aA (bF 4 a (aP gJ (ak 4) aB)) aG))))) (aA (Kf 2) aG))))))
theorem Li:bD ["_law_xs","_law_fields","_law_found","_law_k","_law_y","_law_one","_law_other","_law_weight","_law_way"] ["_law_xs"] (aK CW):=jN
theorem Lj:Ok P w base t.n8 1 1 n6:=yO (g:=qL) t.n8 Li λ_ _ _ _ _ _ c b a=>(aA (bF 1 a (g8 (aj bQ (aj bQ (aj bQ (aj bQ (aj bQ au))))))) (aA (bF 2 a (g8 au)) (aA (rR PassesOwn.never Y2 (jJ Y2 t.nU (aj (aP cN aB (aP cZ (aW (ak 0) aB) aB)) au)) (aR 3 a) (bU [3,4,5,6,7,8] (aA (bF 4 a (aW (ak 0) (aP cN aB (ak 3)))) (aA (X5 5 6 Y2 a (aj (aW (ak 1) (aP cZ (ak 4) aB)) (aj (aW (ak 1) (aP cZ (aP cN (aP cN (ak 4) aB) (aP cZ (aP gJ (ak 4) aB) aB)) aB)) au))) (aA (bF 7 a (aW (g8 (aj (gA (aP cN aB (aP cZ (aP gJ (ak 4) aB) aB))) (aj (gA (aP cN aB (aP cZ (aP gJ (ak 4) aB) aB))) au))) (aP cZ (aP gJ (ak 4) aB) aB))) (aA (bF 8 a (aP cZ (aP gJ (ak 4) aB) aB)) (aA (fM (cQ (of_eq b) (ak 8) aB (bh _)) (bU [] (aA (pZ 2 (cD (aj bQ (aj (ak 5) au)))) aG)) (bU [] (aA (fM (cQ (of_eq b) (ak 8) aB (bh _)) (bU [] (aA (pZ 2 (cD (aj bQ (aj (ak 5) (aj (gA (aP cN aB (aP cZ (aP gJ (ak 4) aB) aB))) (aj (ak 7) au)))))) aG)) (bU [] (aA (fM (cQ (of_eq b) (ak 8) aB (bh _)) (bU [] (aA (pZ 2 (cD (aj bQ (aj (ak 5) (aj (ak 6) (aj (ak 7) au)))))) aG)) (bU [] (aA (pZ 2 (cD (aj bQ (aj (ak 5) (aj (ak 7) au))))) aG))) aG))) aG))) aG))))))) (aA (bI (cU jM Y2 t.iw iW (aj (ak 2) au))) aG))))
theorem Ln:bD ["_law_xs","_law_many","_law_letters","_law_stem","_law_at","_law_found","_law_k","_law_mark","_law_name"] ["_law_xs","_law_many"] (aK CZ):=jN
theorem Lq:Ok P w base t.rB 1 2 qN:=yO (g:=qM) t.rB Ln λ_ _ _ _ _ _ c b a=>(aA (bF 2 a bQ) (aA (bF 3 a (PZ (gH ["_law_k"] (ur ["_law_letters","_law_xs"] [2,0]) Y2 (Yg (jJ Y2 t.nU (aj (aP cZ (aW (ak 0) aB) aB) au))) (λ_ _ _ _=>(db 2)) (λ_ _ _ _=>cP) (λ_ _ _ _=>(aW (ak 0) (aP cZ (aP gJ (aW (ak 1) (ak 2)) aB) aB))) (cI)))) (aA (bF 4 a (aP cZ (aW (ak 0) aB) (aP cN (bT j4 Y2 t.ql jZ (aj (ak 3) au)) aB))) (aA (bF 5 a (g8 au)) (aA (rR PassesOwn.never Y2 (jJ Y2 t.nU (aj (ak 1) au)) (aR 6 a) (bU [6,7,8] (aA (bF 7 a (aW (ak 2) (aP cZ (aP cN (ak 6) (aW (ak 0) aB)) aB))) (aA (bF 8 a (aP cN (aP cN (oW (ak 3) dZ (d7 (ak 4))) (ak 7)) (oW (ak 3) (d7 (ak 4)) dZ))) (aA (fM (cQ (of_eq b) (aP cZ (aW (ak 0) aB) aB) aB (bh _)) (bU [] (aA (bF 8 a (aP vR (aW (ak 2) (aP gJ (ak 6) aB)) (aP cN aB (aP cZ (ak 6) aB)))) aG)) (bU [] aG)) (aA (pZ 5 (ak 8)) aG)))))) (aA (Kf 5) aG))))))
theorem Qd:bD ["_law_x","_law_found","_law_j"] ["_law_x"] (aK Gw):=jN
theorem Qe:Ok P w base t.uN 1 1 uH:=yO (g:=uG) t.uN Qd λ_ _ _ _ _ _ c b a=>(aA (fM (cQ (of_eq b) (aP cZ (ak 0) aB) aB (bh _)) (aA (bI (aW (g8 (aj bQ (aj bQ (aj bQ (aj bQ (aj bQ (aj bQ (aj bQ au)))))))) (aP cZ (aP gJ (ak 0) aB) aB))) aG) aG) (aA (bF 1 a bQ) (aA (rR PassesOwn.never Y2 (jJ Y2 t.nU (aj (aP cN aB (aP cZ (aP gJ (ak 0) aB) aB)) au)) (aR 2 a) (bU [2] (aA (bF 1 a (aP cN (ak 1) (aW bQ (aP cZ (aP gJ (aP gJ (ak 0) aB) (aW (g8 (aj aB (aj aB (aj aB (aj aB au))))) (ak 2))) aB)))) aG))) (aA (bI (ak 1)) aG))))
theorem Sv:bD ["_law_name","_law_xs","_law_fields","_law_words_here","_law_k"] ["_law_name","_law_xs"] (aK JK):=jN
theorem Sw(b:Ok P w base t.uN 1 1 uH):Ok P w base t.xR 2 2 xH:=yO (g:=xG) t.xR Sv λ_ _ _ _ _ _ c d a=>(aA (bF 2 a (g8 (aj bQ (aj bQ (aj (gA (aP cN bQ bQ)) (aj bQ au)))))) (aA (bF 3 a (g8 au)) (aA (rR PassesOwn.never Y2 (jJ Y2 t.nU (aj aB au)) (aR 4 a) (bU [4] (aA (fM (cQ LO (aP cZ (aW (ak 1) (ak 4)) aB) aB (bh _)) (bU [] (aA (pZ 3 (cD (aj (aW (ak 2) (ak 4)) (aj (gA (bK t.uN b c (aj (aP gJ (aW (ak 1) (ak 4)) aB) au))) au)))) aG)) (bU [] aG)) aG))) (aA (bI (cD (aj (ak 0) (aj (cU jM Y2 t.iw iW (aj (ak 3) au)) au)))) aG))))
theorem Ib:bD ["_law_some","_law_xs","_law_found","_law_k"] ["_law_some","_law_xs"] (aK Ad):=jN
theorem Ie:Ok P w base t.lM 1 2 jr:=yO (g:=jq) t.lM Ib λ_ _ _ _ _ _ c b a=>(aA (bF 2 a (g8 au)) (aA (rR PassesOwn.never Y2 (jJ Y2 t.nU (aj (bT j4 Y2 t.ql jZ (aj (ak 0) au)) au)) (aR 3 a) (bU [3] (aA (ap 2 (aj (aP cZ (aP gJ (aW (ak 1) (aP cZ (ak 3) (bT j4 Y2 t.ql jZ (aj (ak 1) au)))) (aP cN aB (aP gJ (ak 3) (bT j4 Y2 t.ql jZ (aj (ak 1) au))))) (aP cN (ak 3) aB)) (aj (aW (ak 0) (ak 3)) au))) aG))) (aA (Kf 2) aG)))
theorem Lr:bD ["_law_row_here","_law_field"] ["_law_row_here","_law_field"] (aK Dc):=jN
theorem Ls:Ok P w base t.jc 1 2 iY:=yO (g:=qO) t.jc Lr λ_ _ _ _ _ _ c a b=>(aA (bI (gH ["_law_own","_law_word_here"] (ur ["_law_field"] [1]) Y2 (gG (aW (ak 0) aB)) (λ_ _ _ _=>(rQ Y2 (cj (db 1) (cj (db 2) nD)))) (λ_ _ _ _=>(uq (cQ (of_eq a) (ak 1) (ak 0) (bh _)))) (λ_ _ _ _=>(ak 2)) (Bh (fO (cI) (fO (cI) wX))))) aG)
theorem Lx:bD ["_law_rule","_law_row_here","_law_other","_law_one","_law_two"] ["_law_rule","_law_row_here","_law_other"] (aK Dd):=jN
theorem Ly(b:Ok P w base t.jc 1 2 iY):Ok P w base t.rC 2 3 qQ:=yO (g:=qP) t.rC Lx λ_ _ _ _ _ _ c a d=>(aA (X5 3 4 Y2 d (aj (gA (bK t.jc b c (aj (ak 1) (aj (aW (ak 0) aB) au)))) (aj (gA (bK t.jc b c (aj (ak 2) (aj (aW (ak 0) aB) au)))) au))) (aA (fM (HF (pW (cQ (of_eq a) (ak 3) (g8 au) (bh _)) (oZ (cQ (of_eq a) (ak 4) (g8 au) (bh _))))) (aA (bI sS) aG) aG) (aA (fM (cQ (of_eq a) (aW (ak 0) aB) bQ (bh _)) (aA (bI (dF (uY a) (ak 3) (ak 4) (bh _))) aG) aG) (aA (fM (cQ (of_eq a) (aW (ak 0) aB) bQ (bh _)) (aA (bI (dh (dF Jk (bT j4 Y2 t.ql jZ (aj (aW (ak 3) aB) au)) (aW (ak 0) aB) (bh _)) (dh (dF Jk (bT j4 Y2 t.ql jZ (aj (aW (ak 4) aB) au)) (aW (ak 0) aB) (bh _)) (iM (dF (of_eq a) (oW (aW (ak 3) aB) dZ (d7 (aW (ak 0) aB))) (oW (aW (ak 4) aB) dZ (d7 (aW (ak 0) aB))) (bh _)))))) aG) aG) (aA (fM (cQ (of_eq a) (aW (ak 0) aB) bQ (bh _)) (aA (bI (dF (of_eq a) (ak 3) (ak 4) (bh _))) aG) aG) (aA (bI (dh (dF (of_eq a) (ak 3) (ak 4) (bh _)) (iM (Fj (of_eq a) (uY a) (bK t.jc b c (aj (ak 1) (aj (aW (ak 0) aB) au))) (bK t.jc b c (aj (ak 2) (aj (aW (ak 0) aB) au))) (g8 au))))) aG))))))
theorem Sx:bD ["_law_book","_law_rules_here","_law_reasons","_law_bars","_law_row_here","_law_other","_law_number","_law_rule","_law_told"] ["_law_book","_law_rules_here"] (aK JL):=jN
theorem Sy(b:Ok P w base t.rC 2 3 qQ):Ok P w base t.xT 3 2 xK:=yO (g:=xJ) t.xT Sx λ_ _ _ _ _ _ d c a=>(aA (bF 2 a (g8 au)) (aA (bF 3 a (g8 au)) (aA (T5 0 PassesOwn.never Y2 (aR 4 a) (bU [4,5,6,7] (aA (T5 0 PassesOwn.never Y2 (aR 5 a) (bU [5,6,7] (aA (rR PassesOwn.never Y2 (jJ Y2 t.nU (aj (bT j4 Y2 t.ql jZ (aj (ak 1) au)) au)) (aR 6 a) (bU [6,7] (aA (bF 7 a (aW (ak 1) (ak 6))) (aA (fM (HF (OU (cQ FJ (aW (ak 4) aB) (aW (ak 5) aB) (bh _)) (XQ (pU (bK t.rC b d (aj (ak 7) (aj (ak 4) (aj (ak 5) au)))))))) (bU [] (aA (fM (cQ (of_eq c) (aW (ak 7) aB) bQ (bh _)) (bU [] (aA (pZ 3 (cD (aj (aW (ak 4) aB) (aj (aW (ak 5) aB) (aj (ak 6) au))))) aG)) (bU [] (aA (pZ 2 (cD (aj (aP Bp aB (aW (ak 7) (aP Bp (bT j4 Y2 t.ql jZ (aj (ak 7) au)) aB))) (aj (aW (ak 4) aB) (aj (aW (ak 5) aB) (aj (ak 6) au)))))) aG))) aG)) (bU [] aG)) aG)))) aG))) aG))) (aA (bF 8 a (cU jM Y2 t.iw iW (aj (gH ["_law_weight","_law_a","_law_b","_law_number"] (ur [] []) Y2 (gG (bT z8 Y2 t.qm mL (aj (ak 2) au))) (λ_ _ _ _=>(rQ Y2 (cj (db 0) (cj (db 1) (cj (db 2) (cj (db 3) nD)))))) (λ_ _ _ _=>cP) (λ_ _ _ _=>(cD (aj (aP Bp aB (ak 0)) (aj (ak 1) (aj (ak 2) (aj (ak 3) au)))))) (Bh (fO (cI) (fO (cI) (fO (cI) (fO (cI) wX)))))) au))) (aA (bI (cD (aj (cU jM Y2 t.iw iW (aj (bT VP Y2 t.qm mL (aj (gH ["_law_row_here"] (ur [] []) Y2 (gG (ak 0)) (λ_ _ _ _=>(db 0)) (λ_ _ _ _=>cP) (λ_ _ _ _=>(aW (ak 0) aB)) (cI)) au)) au)) (aj (ak 8) (aj (cU jM Y2 t.iw iW (aj (bT z8 Y2 t.qm mL (aj (ak 3) au)) au)) au))))) aG)))))
theorem SJ:bD ["row","field","own_field","word"] ["row","field"] (aK JM):=jN
theorem SM:Ok P w base t.gU 1 2 gR:=yO (g:=xM) t.gU SJ λ_ _ _ _ _ _ c b a=>(aA (rR PassesOwn.never Y2 (Kh (aW (ak 0) aB)) (rQ Y2 (cj (aR 2 a) (cj (aR 3 a) nD))) (bU [2,3] (aA (fM (cQ (of_eq b) (ak 2) (ak 1) (bh _)) (aA (bI (ak 3)) aG) aG) aG))) (aA (bI Bg) aG))
theorem Lz:bD ["row","other","field","word"] ["row","other","field"] (aK Dg):=jN
theorem LC(a:Ok P w base t.gU 1 2 gR):Ok P w base t.kO 2 3 kJ:=yO (g:=qR) t.kO Lz λ_ _ _ _ _ _ b c d=>(aA (bF 3 d (bK t.gU a b (aj (ak 0) (aj (ak 2) au)))) (aA (bI (dh (dF Kr (ak 3) Bg (bh _)) (iM (dF (of_eq c) (ak 3) (bK t.gU a b (aj (ak 1) (aj (ak 2) au))) (bh _))))) aG))
theorem GP:bD ["row","other","field","many","word","other_word"] ["row","other","field","many"] (aK yp):=jN
theorem GQ(a:Ok P w base t.gU 1 2 gR):Ok P w base t.nR 2 4 nM:=yO (g:=nJ) t.nR GP λ_ _ _ _ _ _ c d b=>(aA (bF 4 b (bK t.gU a c (aj (ak 0) (aj (ak 2) au)))) (aA (bF 5 b (bK t.gU a c (aj (ak 1) (aj (ak 2) au)))) (aA (fM (HF (pW (cQ DL (ak 4) Bg (bh _)) (oZ (cQ DL (ak 5) Bg (bh _))))) (aA (bI sS) aG) aG) (aA (bI (dh (dF Jk (bT j4 Y2 t.ql jZ (aj (ak 4) au)) (ak 3) (bh _)) (dh (dF Jk (bT j4 Y2 t.ql jZ (aj (ak 5) au)) (ak 3) (bh _)) (iM (dF (of_eq d) (oW (ak 4) dZ (d7 (ak 3))) (oW (ak 5) dZ (d7 (ak 3))) (bh _)))))) aG))))
theorem Ig:bD ["row","other","field","word","other_word"] ["row","other","field"] (aK Ae):=jN
theorem Ih(a:Ok P w base t.gU 1 2 gR):Ok P w base t.pF 2 3 pB:=yO (g:=pA) t.pF Ig λ_ _ _ _ _ _ c d b=>(aA (bF 3 b (bK t.gU a c (aj (ak 0) (aj (ak 2) au)))) (aA (bF 4 b (bK t.gU a c (aj (ak 1) (aj (ak 2) au)))) (aA (bI (dh (dF Kr (ak 3) Bg (bh _)) (dh (dF Kr (ak 4) Bg (bh _)) (iM (dF (uY d) (ak 3) (ak 4) (bh _)))))) aG)))
theorem ZV:bD ["rule","row","other"] ["rule","row","other"] (aK U0):=jN
theorem ZW(c:Ok P w base t.kO 2 3 kJ)(e:Ok P w base t.pF 2 3 pB)(d:Ok P w base t.nR 2 4 nM):Ok P w base t.Et 3 3 Es:=yO (g:=Er) t.Et ZV λ_ _ _ _ _ _ a b f=>(aA (fM (cQ (of_eq b) (aW (ak 0) aB) bQ (bh _)) (aA (bI (bK t.kO c a (aj (ak 1) (aj (ak 2) (aj (aW (ak 0) aB) au))))) aG) aG) (aA (fM (cQ (of_eq b) (aW (ak 0) aB) bQ (bh _)) (aA (bI (bK t.nR d a (aj (ak 1) (aj (ak 2) (aj (aW (ak 0) aB) (aj (aW (ak 0) aB) au)))))) aG) aG) (aA (fM (cQ (of_eq b) (aW (ak 0) aB) bQ (bh _)) (aA (bI (dh (bK t.kO c a (aj (ak 1) (aj (ak 2) (aj (aW (ak 0) aB) au)))) (iM (bK t.kO c a (aj (ak 1) (aj (ak 2) (aj (aW (ak 0) aB) au))))))) aG) aG) (aA (bI (bK t.pF e a (aj (ak 1) (aj (ak 2) (aj (aW (ak 0) aB) au))))) aG))))
theorem SN:bD ["rows","rules"] ["rows","rules"] (aK JN):=jN
theorem SQ(a:Ok P w base t.Et 3 3 Es):Ok P w base t.xU 4 2 xP:=yO (g:=xO) t.xU SN λ_ _ _ _ _ _ b d c=>(aA (bI (Zw ["at","row","other","number","rule"] (LM.mk (m:=4) (m2:=5) (ur ["rows","rules"] [0,1]) Y2 (YQ Y2 t.Dn (aj (ak 0) au)) (λ_ _ _ _=>(rQ Y2 (cj (db 2) (cj (db 3) nD)))) (λ_ _ _ _=>cP) (Bh (fO (cI) (fO (cI) wX))) (λ_ _ _ _=>(Kh (oW (ak 0) (d7 (aP cN (ak 2) aB)) dZ))) (λ_ _ _ _=>(db 4)) (λ_ _ _ _=>cP) (cI) (λ_ _ _ _=>(NN Y2 t.Dn (aj (ak 1) au))) (λ_ _ _ _=>(rQ Y2 (cj (db 5) (cj (db 6) nD)))) (λ_ _ _ _=>(uq (pU (bK t.Et a b (aj (ak 6) (aj (ak 3) (aj (ak 4) au))))))) (Bh (fO (cI) (fO (cI) wX)))) (λ_ _ _ _=>(cD (aj (ak 6) (aj (cD (aj (aW (ak 3) aB) (aj (aW (ak 4) aB) (aj (ak 5) au)))) au)))))) aG)
theorem Qf:bD ["reason","weight","one","other","number"] ["reason"] (aK Gx):=jN
theorem Qg:Ok P w base t.j6 1 1 mV:=yO (g:=uI) t.j6 Qf λ_ _ _ _ _ _ c b a=>(aA (Rv (ak 0) (rQ Y2 (cj (aR 1 a) (cj (aR 2 a) (cj (aR 3 a) (cj (aR 4 a) nD)))))) (aA (bI (cD (aj (XF RD (ak 1)) (aj (ak 2) (aj (ak 3) (aj (ak 4) au)))))) aG))
theorem Qh:bD ["reasons"] ["reasons"] (aK Gy):=jN
theorem Qi(c:Ok P w base t.j6 1 1 mV):Ok P w base t.gk 3 1 fG:=yO (g:=mW) t.gk Qh λ_ _ _ _ _ _ a d e=>(aA (bI (ZD TU Y2 t.qm mL c (a.mono ()) Y2 t.j6.m t.j6.b (ak 0))) aG)
theorem Ao:bD ["book","rules","rows","told","reasons","bars"] ["book","rules"] (aK Dh):=jN
theorem LQ(d:Ok P w base t.gk 3 1 fG)(e:Ok P w base t.xU 4 2 xP):Ok P w base t.fV 5 2 fQ:=by
 unfold fQ;obtain⟨l,j,f,h⟩:=X0 t.Ia;refine WE (k:=4) (g:=qT) t.fV.F f Ao Y2 Y2 λA outer s H E b=>?_;have c:=Ue b;have a:=Ao.nd;exact(aA (bF 2 a (ZF (x :="each") (xs:=[]) (is:=[]) (cl:=[]) Y2 b.depth X' Y2 t.qm mL (UD Y2 Y2 Y2 Y2 Y2 Y2 trivial Y2 trivial) h Y2 Y2 Y2 (λ_ _ _ _=>Y2) (ak 0) λi c' s' H'=>(aW (ak 0) aB))) (aA (bF 3 a (bK t.xU e b (aj (ak 2) (aj (ak 1) au)))) (aA (Ua 4 ["rule","pair"] (ur [] []) Y2 a (gG (ak 3)) (λ_ _ _ _=>(rQ Y2 (cj (db 0) (cj (db 1) nD)))) (λ_ _ _ _=>(uq (cQ (uY c) (aW (ak 0) aB) bQ (bh _)))) (λ_ _ _ _=>(gA (aP cN (cD (aj (aW (ak 0) (XF RD aB)) au)) (ak 1)))) (Bh (fO (cI) (fO (cI) wX)))) (aA (Ua 5 ["rule","pair"] (ur [] []) Y2 a (gG (ak 3)) (λ_ _ _ _=>(rQ Y2 (cj (db 0) (cj (db 1) nD)))) (λ_ _ _ _=>(uq (cQ (of_eq c) (aW (ak 0) aB) bQ (bh _)))) (λ_ _ _ _=>(ak 1)) (Bh (fO (cI) (fO (cI) wX)))) (aA (bI (cD (aj (cU jM Y2 t.iw iW (aj (gH ["row"] (ur [] []) Y2 (gG (ak 2)) (λ_ _ _ _=>(db 0)) (λ_ _ _ _=>cP) (λ_ _ _ _=>(aW (ak 0) aB)) (cI)) au)) (aj (cU jM Y2 t.iw iW (aj (bK t.gk d b (aj (ak 4) au)) au)) (aj (cU jM Y2 t.iw iW (aj (bT z8 Y2 t.qm mL (aj (ak 5) au)) au)) au))))) aG)))))
theorem Qj:bD ["thing","many"] ["thing","many"] (aK Gz):=jN
theorem Qk:Ok P w base t.jd 1 2 iZ:=yO (g:=uJ) t.jd Qj λ_ _ _ _ _ _ b a c=>(aA (bI (dh (lD (ak 0) Y2 t.eF Y2 t.iw) (iM (dF (of_eq a) (bT j4 Y2 t.ql jZ (aj (ak 0) au)) (ak 1) (bh _))))) aG)
theorem Ii:bD ["thing","signs","longest"] ["thing","signs","longest"] (aK Af):=jN
theorem Ij:Ok P w base t.pG 1 3 pD:=yO (g:=pC) t.pG Ii λ_ _ _ _ _ _ b a c=>(aA (bI (dh (RK (ak 0) Y2 t.eF Y2 t.ahW) (dh (Fj CO CO aB (bT j4 Y2 t.ql jZ (aj (ak 0) au)) (ak 2)) (iM (bT (vW Y2) Y2 t.Dm vV (aj (gH ["sign"] (ur ["signs"] [1]) Y2 (gG (ak 0)) (λ_ _ _ _=>(db 1)) (λ_ _ _ _=>cP) (λ_ _ _ _=>(dF Ol (ak 1) (ak 0) (by with_unfolding_all rfl))) (cI)) au)))))) aG)
theorem SX:bD ["thing"] ["thing"] (aK JQ):=jN
theorem S5(d:Ok P w base t.pG 1 3 pD):Ok P w base t.m5 2 1 mX:=yO (g:=xQ) t.m5 SX λ_ _ _ _ _ _ c i f=>by
 obtain⟨h,a⟩:=t.Wq;obtain⟨e,b⟩:=t.GF;exact(aA (bI (bK t.pG d c (aj (ak 0) (aj (XJ Y2 a) (aj (NP Y2 b) au))))) aG)
theorem Ik:bD ["things"] ["things"] (aK Ag):=jN
theorem Il:Ok P w base t.fW 1 1 dJ:=yO (g:=fU) t.fW Ik λ_ _ _ _ _ _ c a b=>(aA (bI (bT (vW Y2) Y2 t.Dm vV (aj (gH ["at"] (ur ["things"] [0]) Y2 (Yg (jJ Y2 t.nU (aj (aP Bp (bT j4 Y2 t.ql jZ (aj (ak 0) au)) aB) au))) (λ_ _ _ _=>(db 1)) (λ_ _ _ _=>cP) (λ_ _ _ _=>(dF (Z' FJ (NU a)) (aW (ak 0) (ak 1)) (aW (ak 0) (aP cN (ak 1) aB)) (bh _))) (cI)) au))) aG)
theorem LR:bD ["thing"] ["thing"] (aK Di):=jN
theorem Ma(b:Ok P w base t.fW 1 1 dJ)(c:Ok P w base t.m5 2 1 mX):Ok P w base t.rD 3 1 qW:=yO (g:=qU) t.rD LR λ_ _ _ _ _ _ a e d=>(aA (bI (dh (lD (ak 0) Y2 t.eF Y2 t.iw) (dh (bT (vW Y2) Y2 t.Dm vV (aj (gH ["name"] (ur [] []) Y2 (gG (ak 0)) (λ_ _ _ _=>(db 0)) (λ_ _ _ _=>cP) (λ_ _ _ _=>(gA (bK t.m5 c a (aj (ak 0) au)))) (cI)) au)) (iM (bK t.fW b a (aj (ak 0) au)))))) aG)
theorem Ql:bD ["thing"] ["thing"] (aK GC):=jN
theorem Qm:Ok P w base t.m9 1 1 mY:=yO (g:=uK) t.m9 Ql λ_ _ _ _ _ _ b a c=>(aA (bI (dh (RJ (ak 0) Y2 t.eF Y2 t.ado) (iM (aw (Om (ak 0) Y2 t.eF Y2 t.afG))))) aG)
theorem Mf:bD ["thing"] ["thing"] (aK Dj):=jN
theorem Mh(b:Ok P w base t.m9 1 1 mY):Ok P w base t.rE 2 1 qY:=yO (g:=qX) t.rE Mf λ_ _ _ _ _ _ c e d=>by
 obtain⟨f,a⟩:=t.HY;exact(aA (bI (dh (bK t.m9 b c (aj (ak 0) au)) (iM (Fj CO CO aB (ak 0) (NP Y2 a))))) aG)
theorem Ws:bD ["thing","one","other","number"] ["thing"] (aK PN):=jN
theorem Wu(c:Ok P w base t.m5 2 1 mX)(d:Ok P w base t.jd 1 2 iZ)(e:Ok P w base t.m9 1 1 mY):Ok P w base t.tK 3 1 tH:=yO (g:=Am) t.tK Ws λ_ _ _ _ _ _ a f b=>(aA (fM (ug (pU (bK t.jd d a (aj (ak 0) (aj aB au))))) (aA (bI sS) aG) aG) (aA (Rv (ak 0) (rQ Y2 (cj (aR 1 b) (cj (aR 2 b) (cj (aR 3 b) nD))))) (aA (bI (dh (bK t.m5 c a (aj (ak 1) au)) (dh (bK t.m5 c a (aj (ak 2) au)) (dh (dF FJ (ak 1) (ak 2) (bh _)) (dh (bK t.m9 e a (aj (ak 3) au)) (iM (dF Jk (ak 3) aB (bh _)))))))) aG)))
theorem Mi:bD ["thing"] ["thing"] (aK Dk):=jN
theorem Mj(d:Ok P w base t.tK 3 1 tH)(b:Ok P w base t.jd 1 2 iZ)(c:Ok P w base t.rE 2 1 qY):Ok P w base t.rG 4 1 q8:=yO (g:=qZ) t.rG Mi λ_ _ _ _ _ _ a f e=>(aA (bI (dh (bK t.jd b a (aj (ak 0) (aj aB au))) (dh (bK t.rE c a (aj (aW (ak 0) aB) au)) (iM (bK t.tK d a (aj (gA (oW (ak 0) (d7 aB) dZ)) au)))))) aG)
theorem GX:bD ["thing","names"] ["thing","names"] (aK yq):=jN
theorem GZ(d:Ok P w base t.fW 1 1 dJ)(b:Ok P w base t.rG 4 1 q8)(c:Ok P w base t.j6 1 1 mV):Ok P w base t.nT 5 2 nQ:=yO (g:=nO) t.nT GX λ_ _ _ _ _ _ a f e=>(aA (fM (HF (pW (ug (pU (lD (ak 0) Y2 t.eF Y2 t.iw))) (oZ (ug (pU (bT (vW Y2) Y2 t.Dm vV (aj (gH ["reason"] (ur [] []) Y2 (gG (ak 0)) (λ_ _ _ _=>(db 0)) (λ_ _ _ _=>cP) (λ_ _ _ _=>(gA (bK t.rG b a (aj (ak 0) au)))) (cI)) au))))))) (aA (bI sS) aG) aG) (aA (fM (ug (pU (bT (vW Y2) Y2 t.Dm vV (aj (gH ["reason"] (ur ["names"] [1]) Y2 (gG (ak 0)) (λ_ _ _ _=>(db 1)) (λ_ _ _ _=>cP) (λ_ _ _ _=>(dh (dF Ol (aW (ak 1) aB) (ak 0) (by with_unfolding_all rfl)) (iM (dF Ol (aW (ak 1) aB) (ak 0) (by with_unfolding_all rfl))))) (cI)) au)))) (aA (bI sS) aG) aG) (aA (bI (bK t.fW d a (aj (gA (gH ["reason"] (ur [] []) Y2 (gG (ak 0)) (λ_ _ _ _=>(db 0)) (λ_ _ _ _=>cP) (λ_ _ _ _=>(gA (bK t.j6 c a (aj (ak 0) au)))) (cI))) au))) aG)))
theorem Qn:bD ["thing","names"] ["thing","names"] (aK GD):=jN
theorem Qo(b:Ok P w base t.fW 1 1 dJ)(c:Ok P w base t.tK 3 1 tH):Ok P w base t.uO 4 2 uM:=yO (g:=uL) t.uO Qn λ_ _ _ _ _ _ a e d=>(aA (fM (HF (pW (ug (pU (lD (ak 0) Y2 t.eF Y2 t.iw))) (oZ (ug (pU (bT (vW Y2) Y2 t.Dm vV (aj (gH ["bar"] (ur [] []) Y2 (gG (ak 0)) (λ_ _ _ _=>(db 0)) (λ_ _ _ _=>cP) (λ_ _ _ _=>(gA (bK t.tK c a (aj (ak 0) au)))) (cI)) au))))))) (aA (bI sS) aG) aG) (aA (bI (dh (bT (vW Y2) Y2 t.Dm vV (aj (gH ["bar"] (ur ["names"] [1]) Y2 (gG (ak 0)) (λ_ _ _ _=>(db 1)) (λ_ _ _ _=>cP) (λ_ _ _ _=>(dh (dF Ol (aW (ak 1) aB) (ak 0) (by with_unfolding_all rfl)) (iM (dF Ol (aW (ak 1) aB) (ak 0) (by with_unfolding_all rfl))))) (cI)) au)) (iM (bK t.fW b a (aj (ak 0) au))))) aG))
theorem Ml:bD ["thing","names","reasons","bars"] ["thing"] (aK Dl):=jN
theorem Mq(e:Ok P w base t.uO 4 2 uM)(c:Ok P w base t.rD 3 1 qW)(f:Ok P w base t.nT 5 2 nQ)(d:Ok P w base t.jd 1 2 iZ):Ok P w base t.rH 6 1 rA:=yO (g:=q9) t.rH Ml λ_ _ _ _ _ _ a h b=>(aA (fM (ug (pU (bK t.jd d a (aj (ak 0) (aj aB au))))) (aA (bI sS) aG) aG) (aA (Rv (ak 0) (rQ Y2 (cj (aR 1 b) (cj (aR 2 b) (cj (aR 3 b) nD))))) (aA (bI (dh (bK t.rD c a (aj (ak 1) au)) (dh (bK t.nT f a (aj (ak 2) (aj (ak 1) au))) (iM (bK t.uO e a (aj (ak 3) (aj (ak 1) au))))))) aG)))
theorem UR:bD ["_law_script","_law_head","_law_rules_here","_law_names_here","_law_book","_law_k","_law_ys","_law_due_here","_law_found","_law_more","_law_some","_law_handed","_law_told","_law_twice","_law_rising","_law_again"] ["_law_script"] (aK s_law):=jN
theorem N4(f:Ok P w base t.mZ 1 2 mR)(l:Ok P w base t.xT 3 2 xK)(k:Ok P w base t.rB 1 2 qN)(h:Ok P w base t.iH 1 2 iG)(n:Ok P w base t.xR 2 2 xH)(j:Ok P w base t.n8 1 1 n6)(i:Ok P w base t.lM 1 2 jr)(e:Ok P w base t.fV 5 2 fQ)(d:Ok P w base t.gk 3 1 fG)(m:Ok P w base t.rH 6 1 rA):Ok P w base t.x_law 7 1 F_law:=yO (g:=U4) t.x_law UR λ_ _ _ _ _ _ a c b=>(aA (bF 1 b (bK t.iH h a (aj (gA (bK t.mZ f a (aj (ak 0) (aj aB au)))) (aj aB au)))) (aA (bF 2 b (aP cN (bK t.n8 j a (aj (ak 1) au)) (oW (bK t.n8 j a (aj (gA (oW (ak 1) (d7 aB) dZ)) au)) dZ (d7 aB)))) (aA (bF 3 b (bK t.rB k a (aj (gA (oW (ak 1) (d7 aB) dZ)) (aj (aP cZ (aW (ak 1) aB) aB) au)))) (aA (bF 4 b (g8 au)) (aA (rR PassesOwn.never Y2 (jJ Y2 t.nU (aj (bT j4 Y2 t.ql jZ (aj (ak 3) au)) au)) (aR 5 b) (bU [5] (aA (pZ 4 (gA (bK t.xR n a (aj (aW (ak 3) (ak 5)) (aj (gA (bK t.iH h a (aj (gA (bK t.mZ f a (aj (ak 0) (aj (gA (aP cN aB (ak 5))) au)))) (aj aB au)))) au))))) aG))) (aA (bF 6 b (bK t.iH h a (aj (gA (bK t.mZ f a (aj (ak 0) (aj aB au)))) (aj aB au)))) (aA (bF 4 b (cU jM Y2 t.iw iW (aj (bK t.lM i a (aj (ak 4) (aj (ak 6) au))) au))) (aA (bF 7 b (bK t.xT l a (aj (ak 4) (aj (ak 2) au)))) (aA (bF 8 b (bK t.fV e a (aj (ak 4) (aj (ak 2) au)))) (aA (fM (HF (pW (cQ (uY c) (ak 8) (ak 7) (bh _)) (pW (cQ Zh (bK t.rH m a (aj (ak 8) au)) sS (bh _)) (oZ (cQ (uY c) (bK t.fV e a (aj (gA (UB (ak 4) (XF RD aB))) (aj (ak 2) au))) (ak 7) (bh _)))))) (aA (bI sS) aG) aG) (aA (fM (ug (pU (bT (vW Y2) Y2 t.Dm vV (aj (gH ["_law_part"] (ur [] []) Y2 (gG (aP cN (aP cN (ak 8) (aW (ak 8) aB)) (aW (ak 8) aB))) (λ_ _ _ _=>(db 0)) (λ_ _ _ _=>cP) (λ_ _ _ _=>(gA (lD (ak 0) Y2 t.eF Y2 t.iw))) (cI)) au)))) (aA (bI sS) aG) aG) (aA (bF 9 b (g8 (aj (cD (aj aB (aj bQ (aj bQ (aj aB au))))) (aj (cD (aj aB (aj bQ (aj bQ (aj aB au))))) (aj (cD (aj aB (aj bQ (aj bQ (aj aB au))))) (aj (cD (aj aB (aj bQ (aj bQ (aj aB au))))) (aj (cD (aj aB (aj bQ (aj bQ (aj aB au))))) au))))))) (aA (bF 10 b (bK t.lM i a (aj (gA (aP cN (aP cN (cU wY Y2 t.yQ uo (aj (aW (ak 7) aB) au)) (cU wY Y2 t.yQ uo (aj (oW (aW (ak 7) aB) dZ (d7 aB)) au))) (ak 9))) (aj (gA (oW (ak 6) (d7 aB) dZ)) au)))) (aA (bF 11 b (cU wY Y2 t.yQ uo (aj (ak 10) au))) (aA (bF 12 b (bK t.gk d a (aj (ak 11) au))) (aA (bF 13 b (bT z8 Y2 t.qm mL (aj (gH ["_law_one"] (ur [] []) Y2 (gG (ak 10)) (λ_ _ _ _=>(db 0)) (λ_ _ _ _=>cP) (λ_ _ _ _=>(gA (aP cN (cD (aj (aP Bp aB (aW (ak 0) aB)) au)) (oW (ak 0) (d7 aB) dZ)))) (cI)) au))) (aA (fM (HF (pW (ug (pU (Oo (ak 12) Y2 t.eF Y2 t.yQ))) (pW (cQ (uY c) (ak 12) (gH ["_law_one"] (ur [] []) Y2 (gG (ak 13)) (λ_ _ _ _=>(db 0)) (λ_ _ _ _=>cP) (λ_ _ _ _=>(gA (aP cN (cD (aj (aP Bp aB (aW (ak 0) aB)) au)) (oW (ak 0) (d7 aB) dZ)))) (cI)) (bh _)) (oZ (cQ (uY c) (ak 11) (ak 10) (bh _)))))) (aA (bI sS) aG) aG) (aA (bF 14 b (cU wY Y2 t.yQ uo (aj (aW (ak 7) aB) au))) (aA (bF 15 b (bK t.gk d a (aj (ak 14) au))) (aA (pZ 15 (cD (aj aB (aj bQ (aj bQ (aj aB au)))))) (aA (OP 15) (aA (fM (HF (pW (cQ (uY c) (ak 14) (cU wY Y2 t.yQ uo (aj (aW (ak 7) aB) au)) (bh _)) (oZ (cQ (uY c) (bK t.gk d a (aj (ak 14) au)) (cU wY Y2 t.yQ uo (aj (aW (ak 7) aB) au)) (bh _))))) (aA (bI sS) aG) aG) (aA (fM (HF (pW (cQ (uY c) (bK t.fV e a (aj (ak 4) (aj (cD au) au))) (cD (aj (aW (ak 7) aB) (aj (cD au) (aj (cD au) au)))) (bh _)) (oZ (cQ (uY c) (bK t.fV e a (aj (cD au) (aj (cD au) au))) (cD (aj (cD au) (aj (cD au) (aj (cD au) au)))) (bh _))))) (aA (bI sS) aG) aG) (aA (bI (dh (dF (of_eq c) (bK t.gk d a (aj (cU jM Y2 t.iw iW (aj (ak 10) au)) au)) (ak 12) (bh _)) (dh (dF (of_eq c) (bK t.gk d a (aj (cD au) au)) (g8 au) (bh _)) (iM (dF (of_eq c) (bK t.fV e a (aj (cD au) (aj (ak 2) au))) (cD (aj (cD au) (aj (cD au) (aj (cD au) au)))) (bh _)))))) aG))))))))))))))))))))))))
theorem Do:Ok P w base t.x_law 7 1 F_law:=by
 have E:=Qc (P:=P) (w:=w) (base:=base) t;have H:=GK (P:=P) (w:=w) (base:=base) t;have C:=Lj (P:=P) (w:=w) (base:=base) t;have i:=Lq (P:=P) (w:=w) (base:=base) t;have o:=Qe (P:=P) (w:=w) (base:=base) t;have y:=Sw (P:=P) (w:=w) (base:=base) t o;have s:=Ie (P:=P) (w:=w) (base:=base) t;have D:=Ls (P:=P) (w:=w) (base:=base) t;have j:=Ly (P:=P) (w:=w) (base:=base) t D;have B:=Sy (P:=P) (w:=w) (base:=base) t j;have b:=SM (P:=P) (w:=w) (base:=base) t;have G:=LC (P:=P) (w:=w) (base:=base) t b;have l:=GQ (P:=P) (w:=w) (base:=base) t b;have F:=Ih (P:=P) (w:=w) (base:=base) t b;have x:=ZW (P:=P) (w:=w) (base:=base) t G F l;have n:=SQ (P:=P) (w:=w) (base:=base) t x;have f:=Qg (P:=P) (w:=w) (base:=base) t;have g:=Qi (P:=P) (w:=w) (base:=base) t f;have p:=LQ (P:=P) (w:=w) (base:=base) t g n;have a:=Qk (P:=P) (w:=w) (base:=base) t;have I:=Ij (P:=P) (w:=w) (base:=base) t;have h:=S5 (P:=P) (w:=w) (base:=base) t I;have c:=Il (P:=P) (w:=w) (base:=base) t;have q:=Ma (P:=P) (w:=w) (base:=base) t c h;have d:=Qm (P:=P) (w:=w) (base:=base) t;have v:=Mh (P:=P) (w:=w) (base:=base) t d;have e:=Wu (P:=P) (w:=w) (base:=base) t h a d;have A:=Mj (P:=P) (w:=w) (base:=base) t e a v;have z:=GZ (P:=P) (w:=w) (base:=base) t c A f;have k:=Qo (P:=P) (w:=w) (base:=base) t c e;have u:=Mq (P:=P) (w:=w) (base:=base) t k q z a;have m:=N4 (P:=P) (w:=w) (base:=base) t E B i H y C s p g u;exact m
end
end G10
end
section
set_option synthInstance.maxSize 100000
namespace G10
open L2 P1
noncomputable section
def yu(a:Int)(b:Int):Int:=(let a:=(((a*69621)+b)%2147483647);a)
theorem Io(d:BC)(e:Lp gY (d.map eI))(c:Int)(a:Int)(b:Int):RP yr [Z gY,Z (zE eI c),Z (zE eI a),Z (zE eI b)] (λs=>Ap.nx ((λa:Int=>[Z gY,Z (zE eI c),Z (zE eI a),O]) s)) (yu  a b) (O):=R.tp (bV (bZ 2 (dG (gM (Ur (aq 2 (zE eI) a Y2) 69621 ()) (aq 3 (zE eI) b Y2)) 2147483647 ()) (λ_=>Y2) λa=>(cG (cL a Y2))))
def bY(c:BC)(a:Int):Int:=(if(decide (a<(c.length:Int)))=true then(As c a)else(let b:=((48271*(((a*a)+(7*a))+11))%2147483647);(let b:Int:=((BB c O (Z 3)).foldl (λ(b:Int) (d:Int)=>(yu  b d)) b);b)))
def j7(b:BC)(a:Int):Prop:=(((decide (a<(b.length:Int)))=true->In b.length a)/\((decide (a<(b.length:Int)))=false->G0 a a))
theorem S7(b:BC)(d:Lp gY (b.map eI))(a:Int):RP uF [Z gY,Z (zE eI a),O,O] (λr=>Ap.rt (zE eI r)) (bY b a) (Z (j7 b a)):=R.tp (jP (dU (MG (aq 1 (zE eI) a Y2) (BY (fD 0 eI b d Y2)))) (bV (cu (λr=>r) (lJ (fD 0 eI b d Y2) (aq 1 (zE eI) a Y2)) (λ_=>Y2) λ_=>Y2)) (cG (bZ 2 (dG (R0 48271 () (gM (gM (MR (aq 1 (zE eI) a Y2) (aq 1 (zE eI) a Y2)) (R0 7 () (aq 1 (zE eI) a Y2))) (B6 11))) 2147483647 ()) (λ_=>Y2) λc=>(WN (λc:Int=>[Z gY,Z (zE eI a),Z (zE eI c),O]) c Y2 (IL (YW (fD 0 eI b d Y2) zR (zT (B6 3)))) _ (λ_ _=>Y2) (λ(c:Int) (e:Int)=>(Io b d a c e).r) (λ_ _=>Y2) λc=>(cu (λr=>r) (aq 2 (zE eI) c Y2) (λ_=>Y2) λ_=>Y2)))))
theorem yU:∀v bs,(aL eI (aZ eI aN)) v bs->bs.length=2/\(B4 (Z (j7 v.1 v.2.1))->mR (bs.map lend)=Z ((zE eI) (bY v.1 v.2.1))):=by
 rintro⟨b,a,_⟩ _ ⟨gY,_,rfl,c,⟨_,rfl,rfl⟩⟩;exact⟨rfl,λh=>bO (g:=uF) (n:=4) (bs:=[lend gY,.z (eI a)]) (S7 b (u0 c) a) h⟩
def cR(a:Int×BC×Int)(e:Int):Int×BC×Int:=(let b:=((((a.1*((a.1%65521)+40487))+(7*e))+5)%1999999973);(let d:=a.2.1++[(As [b,(a.2.2%1000000)] (if(decide ((0:Int)<a.2.2))=true then(1:Int)else 0))];(let c:=(a.2.2 / (1000000:Int));(b,d,c))))
def jt(a:Int×BC×Int)(c:Int):Prop:=(G0 a.1 ((a.1%65521)+40487)/\(let b:=((((a.1*((a.1%65521)+40487))+(7*c))+5)%1999999973);(In [b,(a.2.2%1000000)].length (if(decide ((0:Int)<a.2.2))=true then(1:Int)else 0)/\wk a.2.1.length)))
theorem BZ(d:Int)(c:Int)(a:Int×BC×Int)(b:Int):RP mU [Z (zE eI d),Z (zE eI c),Z ((oE eI) a.2.1),Z ((zE eI) a.1),Z ((zE eI) a.2.2),Z (zE eI b)] (λs=>Ap.nx ((λa:Int×BC×Int=>[Z (zE eI d),Z (zE eI c),Z ((oE eI) a.2.1),Z ((zE eI) a.1),Z ((zE eI) a.2.2),O]) s)) (cR  a b) (Z (jt  a b)):=R.tp (bV (bZ 3 (dG (gM (gM (MR (aq 3 (zE eI) a.1 Y2) (gM (dG (aq 3 (zE eI) a.1 Y2) 65521 ()) (B6 40487))) (R0 7 () (aq 5 (zE eI) b Y2))) (B6 5)) 1999999973 ()) (λ_=>Y2) λe=>(bV (wB 2 a.2.1 Y2 (lJ (gK (kE (bB (aq 3 (zE eI) e Y2) (bB (dG (aq 4 (zE eI) a.2.2 Y2) 1000000 ()) (eE eI))) (zC Y2))) (UF (IQ (aq 4 (zE eI) a.2.2 Y2) (B6 0)))) λg=>(bV (bZ 4 (jo (aq 4 (zE eI) a.2.2 Y2) 1000000 ()) (λ_=>Y2) λf=>(cG (cL (e,g,f) Y2))))))))
def ju(g:Int)(b:Int)(d:BC)(f:Int)(c:Int):BC:=(let a:Int×BC×Int:=((rng 0 b.toNat).foldl (λ(a:Int×BC×Int) (e:Int)=>(cR  a e)) (f,d,c));a.2.1)
def nu(g:Int)(c:Int)(e:BC)(f:Int)(d:Int):Prop:=(Rg c/\rW (λ(a:Int×BC×Int) (b:Int)=>(cR  a b)) (λ(a:Int×BC×Int) (b:Int)=>Z (jt  a b)) (rng 0 c.toNat) (f,e,d))
def Ca:Ev->Y3 Ap:=(aF (sW (Ou (ao (gv 1) aD)) (nF 5) mU) (aF (HJ 2) dR))
theorem Cd(c:Int)(b:Int)(e:BC)(f:Int)(d:Int):RP Ca [Z (zE eI c),Z (zE eI b),Z (oE eI e),Z (zE eI f),Z (zE eI d),O] (λr=>Ap.rt (oE eI r)) (ju c b e f d) (Z (nu c b e f d)):=R.tp (zY (λa:Int×BC×Int=>[Z (zE eI c),Z (zE eI b),Z ((oE eI) a.2.1),Z ((zE eI) a.1),Z ((zE eI) a.2.2),O]) (f,e,d) Y2 (u5 (aq 1 (zE eI) b Y2)) _ (λ_ _=>Y2) (λ(a:Int×BC×Int) (g:Int)=>(BZ c b a g).r) λa=>(K8 2 (λr=>r) a.2.1 Y2 (λ_=>Y2) λ_=>Y2))
def bN(a:Int)(c:Int):BC:=(let d:=([]:Y Int);(let e:=((((a%1999999973)+31)*765432101)%1999999973);(let b:=(0:Int);(let b:Int:=(if((decide (a<0))||(decide (((10:Int) ^ 18)<=a)))=true then(let b:=(if a<0 then -a else a);b)else b);(ju a c d e b)))))
def iI(a:Int)(c:Int):Prop:=(let d:=([]:Y Int);(let e:=((((a%1999999973)+31)*765432101)%1999999973);(let b:=(0:Int);(let b:Int:=(if((decide (a<0))||(decide (((10:Int) ^ 18)<=a)))=true then(let b:=(if a<0 then -a else a);b)else b);(nu a c d e b)))))
theorem Ip(a:Int)(c:Int):RP nH [Z (zE eI a),Z (zE eI c),O,O,O,O] (λr=>Ap.rt (oE eI r)) (bN a c) (Z (iI a c)):=R.tp (bZ 2 (kE (eE eI) (zC Y2)) (λ_=>Y2) λd=>(bZ 3 (dG (Ur (gM (dG (aq 0 (zE eI) a Y2) 1999999973 ()) (B6 31)) 765432101 ()) 1999999973 ()) (λ_=>Y2) λe=>(bZ 4 (B6 0) (λ_=>Y2) λb=>(CQ (λb:Int=>[Z (zE eI a),Z (zE eI c),Z (oE eI d),Z (zE eI e),Z (zE eI b),O]) (Gi (dU (MG (aq 0 (zE eI) a Y2) (B6 0))) (dU (Cc (aq 0 (zE eI) a Y2) (OX 10 18 18 () Y2)))) (bV (bZ 4 (VX (aq 0 (zE eI) a Y2)) (λ_=>Y2) λb=>(cG (cL b Y2)))) (cG (cL b Y2)) λb=>(Cd a c d e b).r))))
theorem sE:∀v bs,(aZ eI (aZ eI aN)) v bs->bs.length=2/\(B4 (Z (iI v.1 v.2.1))->iG (bs.map lend)=Z ((oE eI) (bN v.1 v.2.1))):=by
 rintro⟨a,b,_⟩ _ ⟨_,rfl,⟨_,rfl,rfl⟩⟩;exact⟨rfl,λh=>bO (g:=nH) (n:=6) (bs:=[.z (eI a),.z (eI b)]) (Ip a b) h⟩
def fH(i:BC)(f:At)(a:BM)(h:Int):BM:=(let b:=(As i (1+h));(let y1:=(As f (b%5));let y2:=(As f (((b+1)+((b / (5:Int))%4))%5));let c:=y1;let g:=y2;(let e:=(As [(1+((b / (300:Int))%3)),(1+((b / (300:Int))%1000))] ((b / (7:Int))%2));(let d:=((b / (20:Int))%5);(let a:BM:=(if(decide (d=0))=true then(let a:=a++[(Dt.tup [(Dt.str "never"),(eS c)])];a)else(let a:BM:=(if(decide (d=1))=true then(let a:=a++[(Dt.tup [(Dt.str "begin"),(eS c),(eI (1+((b / (100:Int))%3))),(eI e)])];a)else(let a:BM:=(if(decide (d=2))=true then(let a:=a++[(Dt.tup [(Dt.str "both"),(eS c),(eS g),(eI e)])];a)else(let a:=a++[(Dt.tup [(Dt.str "same"),(eS c),(eI e)])];a));a));a));a)))))
def jf(f:BC)(c:At)(d:BM)(e:Int):Prop:=(In f.length (1+e)/\(let a:=(As f (1+e));((In c.length (a%5)/\In c.length (((a+1)+((a / (5:Int))%4))%5))/\(let y1:=(As c (a%5));let y2:=(As c (((a+1)+((a / (5:Int))%4))%5));let i:=y1;let h:=y2;(In [(1+((a / (300:Int))%3)),(1+((a / (300:Int))%1000))].length ((a / (7:Int))%2)/\(let g:=(As [(1+((a / (300:Int))%3)),(1+((a / (300:Int))%1000))] ((a / (7:Int))%2));(let b:=((a / (20:Int))%5);(((decide (b=0))=true->wk d.length)/\((decide (b=0))=false->(((decide (b=1))=true->wk d.length)/\((decide (b=1))=false->(((decide (b=2))=true->wk d.length)/\((decide (b=2))=false->wk d.length)))))))))))))
theorem G3(i:BC)(j:Lp gY (i.map eI))(c:At)(a:BM)(e:Int):RP wI [Z gY,Z (oE eS c),Z (oE eD a),Z (zE eI e),O,O,O,O,O] (λs=>Ap.nx ((λa:BM=>[Z gY,Z (oE eS c),Z (oE eD a),O,O,O,O,O,O]) s)) (fH i c a e) (Z (jf i c a e)):=R.tp (bV (bZ 4 (lJ (fD 0 eI i j Y2) (gM (B6 1) (aq 3 (zE eI) e Y2))) (λ_=>Y2) λb=>(bV (IT 5 6 (lJ (iT (aq 1 (lE eS) c Y2)) (dG (aq 4 (zE eI) b Y2) 5 ())) (lJ (iT (aq 1 (lE eS) c Y2)) (dG (gM (gM (aq 4 (zE eI) b Y2) (B6 1)) (dG (jo (aq 4 (zE eI) b Y2) 5 ()) 4 ())) 5 ())) λd h=>(bV (bZ 7 (lJ (gK (kE (bB (kj (gM (B6 1) (dG (jo (aq 4 (zE eI) b Y2) 300 ()) 3 ()))) (bB (kj (gM (B6 1) (dG (jo (aq 4 (zE eI) b Y2) 300 ()) 1000 ()))) (eE eI))) (zC Y2))) (dG (jo (aq 4 (zE eI) b Y2) 7 ()) 2 ())) (λ_=>Y2) λg=>(bV (bZ 8 (dG (jo (aq 4 (zE eI) b Y2) 20 ()) 5 ()) (λ_=>Y2) λf=>(bV (CQ (λa:BM=>[Z gY,Z (oE eS c),Z (oE eD a),Z (zE eI e),Z (zE eI b),Z (zE eS d),Z (zE eS h),Z (zE eI g),Z (zE eI f)]) (dU (By () (aq 8 (zE eI) f Y2) (B6 0))) (bV (wB 2 a Y2 (K5 (bB (CY (.str "never")) (bB (oY (aq 5 (zE eS) d Y2)) (eE eD))) (zC Y2)) λa=>(cG (cL a Y2)))) (bV (CQ (λa:BM=>[Z gY,Z (oE eS c),Z (oE eD a),Z (zE eI e),Z (zE eI b),Z (zE eS d),Z (zE eS h),Z (zE eI g),Z (zE eI f)]) (dU (By () (aq 8 (zE eI) f Y2) (B6 1))) (bV (wB 2 a Y2 (K5 (bB (CY (.str "begin")) (bB (oY (aq 5 (zE eS) d Y2)) (bB (oY (kj (gM (B6 1) (dG (jo (aq 4 (zE eI) b Y2) 100 ()) 3 ())))) (bB (oY (aq 7 (zE eI) g Y2)) (eE eD))))) (zC Y2)) λa=>(cG (cL a Y2)))) (bV (CQ (λa:BM=>[Z gY,Z (oE eS c),Z (oE eD a),Z (zE eI e),Z (zE eI b),Z (zE eS d),Z (zE eS h),Z (zE eI g),Z (zE eI f)]) (dU (By () (aq 8 (zE eI) f Y2) (B6 2))) (bV (wB 2 a Y2 (K5 (bB (CY (.str "both")) (bB (oY (aq 5 (zE eS) d Y2)) (bB (oY (aq 6 (zE eS) h Y2)) (bB (oY (aq 7 (zE eI) g Y2)) (eE eD))))) (zC Y2)) λa=>(cG (cL a Y2)))) (bV (wB 2 a Y2 (K5 (bB (CY (.str "same")) (bB (oY (aq 5 (zE eS) d Y2)) (bB (oY (aq 7 (zE eI) g Y2)) (eE eD)))) (zC Y2)) λa=>(cG (cL a Y2)))) λa=>(cG (cL a Y2)))) λa=>(cG (cL a Y2)))) λa=>(cG (cL a Y2))))))))))))
def bL(b:BC):BM:=(let c:=[("day":AJ),("name":AJ),("names":AJ),("p":AJ),("zzz":AJ)];(let a:=([]:Y Dt);(let a:BM:=((rng 0 (1+((As b 0)%4)).toNat).foldl (λ(a:BM) (d:Int)=>(fH b c a d)) a);a)))
def ou(a:BC):Prop:=(let d:=[("day":AJ),("name":AJ),("names":AJ),("p":AJ),("zzz":AJ)];(let b:=([]:Y Dt);((In a.length 0/\Rg (1+((As a 0)%4)))/\rW (λ(b:BM) (c:Int)=>(fH a d b c)) (λ(b:BM) (c:Int)=>Z (jf a d b c)) (rng 0 (1+((As a 0)%4)).toNat) b)))
theorem Qp(b:BC)(d:Lp gY (b.map eI)):RP qL [Z gY,O,O,O,O,O,O,O,O] (λr=>Ap.rt ((zE (eT eD)) r)) (bL b) (Z (ou b)):=R.tp (bZ 1 (kE (bB (xY "day") (bB (xY "name") (bB (xY "names") (bB (xY "p") (bB (xY "zzz") (eE eS)))))) (zC Y2)) (λ_=>Y2) λc=>(bZ 2 (kE (eE eD) (zC Y2)) (λ_=>Y2) λa=>(zY (λa:BM=>[Z gY,Z (oE eS c),Z (oE eD a),O,O,O,O,O,O]) a Y2 (u5 (gM (B6 1) (dG (lJ (fD 0 eI b d Y2) (B6 0)) 4 ()))) _ (λ_ _=>Y2) (λ(a:BM) (e:Int)=>(G3 b d c a e).r) λa=>(cu (λr=>r) (nG (iT (aq 2 (lE eD) a Y2))) (λ_=>Y2) λ_=>Y2))))
theorem Dp:∀v bs,(aL eI aN) v bs->bs.length=1/\(B4 (Z (ou v.1))->n6 (bs.map lend)=Z ((zE (eT eD)) (bL v.1))):=by
 rintro⟨b,_⟩ _ ⟨gY,_,rfl,a,rfl⟩;exact⟨rfl,λh=>bO (g:=qL) (n:=9) (bs:=[lend gY]) (Qp b (u0 a)) h⟩
def fJ(g:BC)(d:AJ)(e:AJ)(f:Int)(c:At)(b:Int):At:=(let h:=(ch d ((b+(As g 2))%15));(let a:=(((Txt.slice e O (Z f))++h)++(Txt.slice e (Z f) O));(let a:AJ:=(if(decide (((As g 3)%3)=1))=true then(let a:=(Txt.mul (ch d (b / (8:Int))) (1+(b%8)));a)else a);(let c:=c++[a];c))))
def lN(b:BC)(c:AJ)(d:AJ)(e:Int)(h:At)(a:Int):Prop:=((In b.length 2/\In c.length ((a+(As b 2))%15))/\(let g:=(ch c ((a+(As b 2))%15));((wk ((Txt.slice d O (Z e)).length+g.length)/\wk (((Txt.slice d O (Z e))++g).length+(Txt.slice d (Z e) O).length))/\(let f:=(((Txt.slice d O (Z e))++g)++(Txt.slice d (Z e) O));((In b.length 3/\((decide (((As b 3)%3)=1))=true->(In c.length (a / (8:Int))/\((1+(a%8))<=1000 ∧ -1000<=(1+(a%8))/\(ch c (a / (8:Int))).length<=1000))))/\(let f:AJ:=(if(decide (((As b 3)%3)=1))=true then(let f:=(Txt.mul (ch c (a / (8:Int))) (1+(a%8)));f)else f);wk h.length))))))
theorem G4(g:BC)(i:Lp gY (g.map eI))(h:Int)(d:AJ)(c:AJ)(e:Int)(a:At)(f:Int):RP qj [Z gY,Z (zE eI h),Z (zE eS d),Z (zE eS c),Z (zE eI e),Z (oE eS a),Z (zE eI f),O,O] (λs=>Ap.nx ((λa:At=>[Z gY,Z (zE eI h),Z (zE eS d),Z (zE eS c),Z (zE eI e),Z (oE eS a),O,O,O]) s)) (fJ g d c e a f) (Z (lN g d c e a f)):=R.tp (bV (bZ 7 (Us (aq 2 (zE eS) d Y2) (dG (gM (aq 6 (zE eI) f Y2) (lJ (fD 0 eI g i Y2) (B6 2))) 15 ())) (λ_=>Y2) λj=>(bV (bZ 8 (K6 (K6 (Jy (aq 3 (zE eS) c Y2) zR (zT (aq 4 (zE eI) e Y2))) (aq 7 (zE eS) j Y2)) (Jy (aq 3 (zE eS) c Y2) (zT (aq 4 (zE eI) e Y2)) zR)) (λ_=>Y2) λb=>(bV (CQ (λb:AJ=>[Z gY,Z (zE eI h),Z (zE eS d),Z (zE eS c),Z (zE eI e),Z (oE eS a),Z (zE eI f),Z (zE eS j),Z (zE eS b)]) (dU (By () (dG (lJ (fD 0 eI g i Y2) (B6 3)) 3 ()) (B6 1))) (bV (bZ 8 (WO (Us (aq 2 (zE eS) d Y2) (jo (aq 6 (zE eI) f Y2) 8 ())) (gM (B6 1) (dG (aq 6 (zE eI) f Y2) 8 ()))) (λ_=>Y2) λb=>(cG (cL b Y2)))) (cG (cL b Y2)) λb=>(bV (wB 5 a Y2 (aq 8 (zE eS) b Y2) λa=>(cG (cL a Y2))))))))))
def lO(c:BC)(e:Int)(f:AJ)(b:AJ):At:=(let g:=((As c 1)%((b.length:Int)+1));(let a:=([]:At);(let a:At:=((rng 0 e.toNat).foldl (λ(a:At) (d:Int)=>(fJ c f b g a d)) a);a)))
def qt(c:BC)(e:Int)(f:AJ)(b:AJ):Prop:=((In c.length 1/\0<((b.length:Int)+1))/\(let g:=((As c 1)%((b.length:Int)+1));(let a:=([]:At);(Rg e/\rW (λ(a:At) (d:Int)=>(fJ c f b g a d)) (λ(a:At) (d:Int)=>Z (lN c f b g a d)) (rng 0 e.toNat) a))))
def G5:Ev->Y3 Ap:=(aF (B5 4 (b2 jm (b2 dX (gv 0) (cB (.int 1))) (b2 dY (cM oM (ao (gv 3) aD)) (cB (.int 1))))) (aF (B5 5 (cM o7 aD)) (aF (sW (Ou (ao (gv 1) aD)) (nF 6) qj) (aF (HJ 5) dR))))
theorem G6(e:BC)(f:Lp gY (e.map eI))(b:Int)(d:AJ)(c:AJ):RP G5 [Z gY,Z (zE eI b),Z (zE eS d),Z (zE eS c),O,O,O,O,O] (λr=>Ap.rt (oE eS r)) (lO e b d c) (Z (qt e b d c)):=R.tp (bZ 4 (Pg (lJ (fD 0 eI e f Y2) (B6 1)) (gM (Gk (aq 3 (zE eS) c Y2)) (B6 1))) (λ_=>Y2) λg=>(bZ 5 (kE (eE eS) (zC Y2)) (λ_=>Y2) λa=>(zY (λa:At=>[Z gY,Z (zE eI b),Z (zE eS d),Z (zE eS c),Z (zE eI g),Z (oE eS a),O,O,O]) a Y2 (u5 (aq 1 (zE eI) b Y2)) _ (λ_ _=>Y2) (λ(a:At) (h:Int)=>(G4 e f b d c g a h).r) λa=>(K8 5 (λr=>r) a Y2 (λ_=>Y2) λ_=>Y2))))
def dw(a:BC)(d:Int):At:=(let b:=("abcdefghijklmnopqrstuvwxyz":AJ);(let e:=(Txt.join "" ((rng 0 ((As a 0)%6).toNat).map λc:Int=>(ch b (((As a c) / (40:Int))%26))));(lO a d b e)))
def rK(a:BC)(d:Int):Prop:=(let c:=("abcdefghijklmnopqrstuvwxyz":AJ);(((((In a.length 0/\Rg ((As a 0)%6))/\(rng 0 ((As a 0)%6).toNat).length<=100000)/\(∀b∈(rng 0 ((As a 0)%6).toNat),(In a.length b/\In c.length (((As a b) / (40:Int))%26))))/\(((rng 0 ((As a 0)%6).toNat).map λb:Int=>(ch c (((As a b) / (40:Int))%26))).map (·.length)).sum+((rng 0 ((As a 0)%6).toNat).map λb:Int=>(ch c (((As a b) / (40:Int))%26))).length*("":AJ).length<=100000)/\(let e:=(Txt.join "" ((rng 0 ((As a 0)%6).toNat).map λb:Int=>(ch c (((As a b) / (40:Int))%26))));(qt a d c e))))
theorem Qq(a:BC)(c:Lp gY (a.map eI))(b:Int):RP qM [Z gY,Z (zE eI b),O,O,O,O,O,O,O] (λr=>Ap.rt (oE eS r)) (dw a b) (Z (rK a b)):=R.tp (bZ 2 (xY "abcdefghijklmnopqrstuvwxyz") (λ_=>Y2) λd=>(bZ 3 (YE "" (gK (wA (u5 (dG (lJ (fD 0 eI a c Y2) (B6 0)) 6 ())) _ (λ_=>Y2) (λe:Int=>(Us (aq 0 (zE eS) d Y2) (dG (jo (lJ (fD 1 eI a c (congrArg Z (c.get Y2))) (aq 2 (zE eI) e Y2)) 40 ()) 26 ())))))) (λ_=>Y2) λf=>(G6 a c b d f).r))
theorem Qs:∀v bs,(aL eI (aZ eI aN)) v bs->bs.length=2/\(B4 (Z (rK v.1 v.2.1))->qN (bs.map lend)=Z ((oE eS) (dw v.1 v.2.1))):=by
 rintro⟨c,a,_⟩ _ ⟨gY,_,rfl,b,⟨_,rfl,rfl⟩⟩;exact⟨rfl,λh=>bO (g:=qM) (n:=9) (bs:=[lend gY,.z (eI a)]) (Qq c (u0 b) a) h⟩
def jT(c:Int)(a:AJ)(b:Int):AJ:=(let a:=(a++(ch ("ab1":AJ) (((c / (16:Int)) / (As [(1:Int),(3:Int),(9:Int),(27:Int)] b))%3)));a)
def nW(b:Int)(c:AJ)(a:Int):Prop:=(((In [(1:Int),(3:Int),(9:Int),(27:Int)].length a/\(0<(As [(1:Int),(3:Int),(9:Int),(27:Int)] a)/\(As [(1:Int),(3:Int),(9:Int),(27:Int)] a)<1073741824))/\In ("ab1":AJ).length (((b / (16:Int)) / (As [(1:Int),(3:Int),(9:Int),(27:Int)] a))%3))/\wk (c.length+(ch ("ab1":AJ) (((b / (16:Int)) / (As [(1:Int),(3:Int),(9:Int),(27:Int)] a))%3)).length))
theorem Ir(b:Int)(a:AJ)(c:Int):RP yt [Z (zE eI b),Z (zE eS a),Z (zE eI c)] (λs=>Ap.nx ((λa:AJ=>[Z (zE eI b),Z (zE eS a),O]) s)) (jT b a c) (Z (nW b a c)):=R.tp (bV (bZ 1 (K6 (aq 1 (zE eS) a Y2) (Us (xY "ab1") (dG (Ga (jo (aq 0 (zE eI) b Y2) 16 ()) (lJ (gK (kE (bB (B6 1) (bB (B6 3) (bB (B6 9) (bB (B6 27) (eE eI))))) (zC Y2))) (aq 2 (zE eI) c Y2))) 3 ()))) (λ_=>Y2) λa=>(cG (cL a Y2))))
def qu(b:Int):AJ:=(if(decide ((b%4)=0))=true then(As [("a":AJ),("ab":AJ),("abc":AJ),("b":AJ),("1":AJ),("12":AJ),("a1":AJ)] ((b / (4:Int))%7))else(let a:=("":AJ);(let a:AJ:=((rng 0 (1+((b / (4:Int))%4)).toNat).foldl (λ(a:AJ) (c:Int)=>(jT b a c)) a);a)))
def uR(a:Int):Prop:=(((decide ((a%4)=0))=true->In [("a":AJ),("ab":AJ),("abc":AJ),("b":AJ),("1":AJ),("12":AJ),("a1":AJ)].length ((a / (4:Int))%7))/\((decide ((a%4)=0))=false->(let b:=("":AJ);(Rg (1+((a / (4:Int))%4))/\rW (λ(b:AJ) (c:Int)=>(jT a b c)) (λ(b:AJ) (c:Int)=>Z (nW a b c)) (rng 0 (1+((a / (4:Int))%4)).toNat) b))))
theorem S8(a:Int):RP uG [Z (zE eI a),O,O] (λr=>Ap.rt (zE eS r)) (qu a) (Z (uR a)):=R.tp (jP (dU (By () (dG (aq 0 (zE eI) a Y2) 4 ()) (B6 0))) (bV (cu (λr=>r) (lJ (gK (kE (bB (xY "a") (bB (xY "ab") (bB (xY "abc") (bB (xY "b") (bB (xY "1") (bB (xY "12") (bB (xY "a1") (eE eS)))))))) (zC Y2))) (dG (jo (aq 0 (zE eI) a Y2) 4 ()) 7 ())) (λ_=>Y2) λ_=>Y2)) (cG (bZ 1 (xY "") (λ_=>Y2) λb=>(zY (λb:AJ=>[Z (zE eI a),Z (zE eS b),O]) b Y2 (u5 (gM (B6 1) (dG (jo (aq 0 (zE eI) a Y2) 4 ()) 4 ()))) _ (λ_ _=>Y2) (λ(b:AJ) (c:Int)=>(Ir a b c).r) λb=>(cu (λr=>r) (aq 1 (zE eS) b Y2) (λ_=>Y2) λ_=>Y2)))))
theorem S9:∀v bs,(aZ eI aN) v bs->bs.length=1/\(B4 (Z (uR v.1))->uH (bs.map lend)=Z ((zE eS) (qu v.1))):=by
 rintro⟨a,_⟩ _ ⟨_,rfl,rfl⟩;exact⟨rfl,λh=>bO (g:=uG) (n:=3) (bs:=[.z (eI a)]) (S8 a) h⟩
def iB(c:BC)(d:At)(a:Y mH)(b:Int):(Y mH):=(let a:(Y mH):=(if(decide ((0:Int)<((As c b)%4)))=true then(let a:=a++[((As d b),(qu ((As c b) / (4:Int))))];a)else a);a)
def pI(b:BC)(d:At)(c:Y mH)(a:Int):Prop:=(In b.length a/\((decide ((0:Int)<((As b a)%4)))=true->((In d.length a/\(In b.length a/\(uR ((As b a) / (4:Int)))))/\wk c.length)))
theorem Mr(e:AJ)(d:BC)(f:Lp b_1 (d.map eI))(c:At)(a:Y mH)(b:Int):RP Ah [Z (zE eS e),Z b_1,Z (oE eS c),Z (oE Lh a),Z (zE eI b)] (λs=>Ap.nx ((λa:(Y mH)=>[Z (zE eS e),Z b_1,Z (oE eS c),Z (oE Lh a),O]) s)) (iB d c a b) (Z (pI d c a b)):=R.tp (bV (CQ (λa:(Y mH)=>[Z (zE eS e),Z b_1,Z (oE eS c),Z (oE Lh a),Z (zE eI b)]) (dU (IQ (dG (lJ (fD 1 eI d f Y2) (aq 4 (zE eI) b Y2)) 4 ()) (B6 0))) (bV (wB 3 a Y2 (R6 (lJ (iT (aq 2 (lE eS) c Y2)) (aq 4 (zE eI) b Y2)) (kj (AZ S9 (bJ (jo (lJ (fD 1 eI d f Y2) (aq 4 (zE eI) b Y2)) 4 ()) aU)))) λa=>(cG (cL a Y2)))) (cG (cL a Y2)) λa=>(cG (cL a Y2))))
def nA(d:AJ)(e:BC):aV:=(let b:=[("day":AJ),("name":AJ),(("name":AJ)++("s":AJ)),("p":AJ)];(let a:=([]:Y mH);(let a:(Y mH):=((rng 0 (kN 4)).foldl (λ(a:Y mH) (c:Int)=>(iB e b a c)) a);(d,a))))
def tM(e:AJ)(d:BC):Prop:=(wk (("name":AJ).length+("s":AJ).length)/\(let c:=[("day":AJ),("name":AJ),(("name":AJ)++("s":AJ)),("p":AJ)];(let a:=([]:Y mH);rW (λ(a:Y mH) (b:Int)=>(iB d c a b)) (λ(a:Y mH) (b:Int)=>Z (pI d c a b)) (rng 0 (kN 4)) a)))
theorem Wv(b:AJ)(c:BC)(f:Lp b_1 (c.map eI)):RP xG [Z (zE eS b),Z b_1,O,O,O] (λr=>Ap.rt (zE aQ r)) (nA b c) (Z (tM b c)):=R.tp (bZ 2 (kE (bB (xY "day") (bB (xY "name") (bB (kj (K6 (xY "name") (xY "s"))) (bB (xY "p") (eE eS))))) (zC Y2)) (λ_=>Y2) λd=>(bZ 3 (kE (eE Lh) (zC Y2)) (λ_=>Y2) λa=>(zY (λa:(Y mH)=>[Z (zE eS b),Z b_1,Z (oE eS d),Z (oE Lh a),O]) a Y2 (bg 4 4 Y2 (by unfold Rg;decide)) _ (λ_ _=>Y2) (λ(a:Y mH) (e:Int)=>(Mr b c f d a e).r) λa=>(cu (λr=>r) (R6 (aq 0 (zE eS) b Y2) (nG (iT (aq 3 (lE Lh) a Y2)))) (λ_=>Y2) λ_=>Y2))))
theorem Ww:∀v bs,(aZ eS (aL eI aN)) v bs->bs.length=2/\(B4 (Z (tM v.1 v.2.1))->xH (bs.map lend)=Z ((zE aQ) (nA v.1 v.2.1))):=by
 rintro⟨a,b,_⟩ _ ⟨_,rfl,⟨b_1,_,rfl,c,rfl⟩⟩;exact⟨rfl,λh=>bO (g:=xG) (n:=5) (bs:=[.z (eS a),lend b_1]) (Wv a b (u0 c)) h⟩
def oR(d:Y aV)(b:BC)(c:Y aV)(a:Int):(Y aV):=(let c:=(qF (((As b (a%(b.length:Int))) / (1+(a / (b.length:Int))))%(a+1)).toNat (As d a) c);c)
def u9(c:Y aV)(a:BC)(d:Y aV)(b:Int):Prop:=((((((0<(a.length:Int)/\In a.length (b%(a.length:Int)))/\(0<(a.length:Int)/\(a.length:Int)<1073741824))/\(0<(1+(b / (a.length:Int)))/\(1+(b / (a.length:Int)))<1073741824))/\0<(b+1))/\In c.length b)/\((0<=(((As a (b%(a.length:Int))) / (1+(b / (a.length:Int))))%(b+1))/\(((As a (b%(a.length:Int))) / (1+(b / (a.length:Int))))%(b+1))<=1000000)/\d.length<1000000))
theorem DR(d:Y aV)(f:Lp gY (d.map aQ))(c:BC)(e:Lp b_1 (c.map eI))(a:Y aV)(b:Int):RP oO [Z gY,Z b_1,Z (oE aQ a),Z (zE eI b)] (λs=>Ap.nx ((λa:(Y aV)=>[Z gY,Z b_1,Z (oE aQ a),O]) s)) (oR d c a b) (Z (u9 d c a b)):=R.tp (bV (Ll 2 a Y2 (Pg (Ga (lJ (fD 1 eI c e Y2) (Pg (aq 3 (zE eI) b Y2) (BY (fD 1 eI c e Y2)))) (gM (B6 1) (Ga (aq 3 (zE eI) b Y2) (BY (fD 1 eI c e Y2))))) (gM (aq 3 (zE eI) b Y2) (B6 1))) (lJ (fD 0 aQ d f Y2) (aq 3 (zE eI) b Y2)) λa=>(cG (cL a Y2))))
def jw(b:Y aV)(c:BC):(Y aV):=(let a:=([]:Y aV);(let a:(Y aV):=((rng 0 (b.length:Int).toNat).foldl (λ(a:Y aV) (d:Int)=>(oR b c a d)) a);a))
def pJ(b:Y aV)(d:BC):Prop:=(let a:=([]:Y aV);(Rg (b.length:Int)/\rW (λ(a:Y aV) (c:Int)=>(oR b d a c)) (λ(a:Y aV) (c:Int)=>Z (u9 b d a c)) (rng 0 (b.length:Int).toNat) a))
theorem Ms(b:Y aV)(d:Lp gY (b.map aQ))(c:BC)(f:Lp b_1 (c.map eI)):RP jq [Z gY,Z b_1,O,O] (λr=>Ap.rt (oE aQ r)) (jw b c) (Z (pJ b c)):=R.tp (bZ 2 (kE (eE aQ) (zC Y2)) (λ_=>Y2) λa=>(zY (λa:(Y aV)=>[Z gY,Z b_1,Z (oE aQ a),O]) a Y2 (u5 (BY (fD 0 aQ b d Y2))) _ (λ_ _=>Y2) (λ(a:Y aV) (e:Int)=>(DR b d c f a e).r) λa=>(K8 2 (λr=>r) a Y2 (λ_=>Y2) λ_=>Y2)))
theorem Mt:∀v bs,(aL aQ (aL eI aN)) v bs->bs.length=2/\(B4 (Z (pJ v.1 v.2.1))->jr (bs.map lend)=Z ((oE aQ) (jw v.1 v.2.1))):=by
 rintro⟨b,c,_⟩ _ ⟨gY,_,rfl,a,⟨b_1,_,rfl,d,rfl⟩⟩;exact⟨rfl,λh=>bO (g:=jq) (n:=4) (bs:=[lend gY,lend b_1]) (Ms b (u0 a) c (u0 d)) h⟩
def bA(a:aV)(b:AJ):At:=((a.2.filter λq1:mH=>(decide (q1.1=b))).map λq1:mH=>q1.2)
def jg(a:aV)(b:AJ):Prop:=a.2.length<=100000
theorem Qt(a:aV)(b:AJ):RP qO [Z (zE aQ a),Z (zE eS b)] (λr=>Ap.rt (oE eS r)) (bA a b) (Z (jg a b)):=R.tp (cu (λr=>r) (Y7 (Pn (gP (aq 0 (zE aQ) a Y2) (λq=>q.2) (eT Lh) 1 λ_=>Y2)) _ (λ_=>Y2) (λq1:mH=>(dU (By () (aq 1 (zE eS) q1.1 Y2) (aq 0 (zE eS) b Y2)))) (λq1:mH=>(aq 2 (zE eS) q1.2 Y2)) (λ_=>Y2) λ_=>Y2) (λ_=>Y2) λ_=>Y2)
theorem oA:∀v bs,(aZ aQ (aZ eS aN)) v bs->bs.length=2/\(B4 (Z (jg v.1 v.2.1))->iY (bs.map lend)=Z ((oE eS) (bA v.1 v.2.1))):=by
 rintro⟨a,b,_⟩ _ ⟨_,rfl,⟨_,rfl,rfl⟩⟩;exact⟨rfl,λh=>bO (g:=qO) (n:=2) (bs:=[.z (aQ a),.z (eS b)]) (Qt a b) h⟩
def fX(vx:Dt)(d:aV)(c:aV):Bool:=(let y1:=(bA d (ji (cT vx 1)));let y2:=(bA c (ji (cT vx 1)));let b:=y1;let a:=y2;(if((decide (b=([]:At)))||(decide (a=([]:At))))=true then false else(if(yK (cT vx 0) (Dt.str "never"))=true then(!decide (b=a))else(if(yK (cT vx 0) (Dt.str "begin"))=true then((decide ((qz (cT vx 2))<=((As b 0).length:Int)))&&((decide ((qz (cT vx 2))<=((As a 0).length:Int)))&&(decide ((Txt.slice (As b 0) O (Z (qz (cT vx 2))))=(Txt.slice (As a 0) O (Z (qz (cT vx 2))))))))else(if(yK (cT vx 0) (Dt.str "same"))=true then(decide (b=a))else((decide (b=a))&&((decide ((bA d (ji (cT vx 2)))=(bA c (ji (cT vx 2)))))&&(!decide ((bA c (ji (cT vx 2)))=([]:At))))))))))
def gZ(vx:Dt)(d:aV)(a:aV):Prop:=((((vG vx (1:Int)/\(cT vx 1)=eS (ji (cT vx 1)))/\(jg d (ji (cT vx 1))))/\((vG vx (1:Int)/\(cT vx 1)=eS (ji (cT vx 1)))/\(jg a (ji (cT vx 1)))))/\(let y1:=(bA d (ji (cT vx 1)));let y2:=(bA a (ji (cT vx 1)));let c:=y1;let b:=y2;(((decide (c=([]:At)))||(decide (b=([]:At))))=false->((vG vx (0:Int)/\R3 (cT vx 0) (Dt.str "never"))/\((yK (cT vx 0) (Dt.str "never"))=false->((vG vx (0:Int)/\R3 (cT vx 0) (Dt.str "begin"))/\(((yK (cT vx 0) (Dt.str "begin"))=true->((In c.length 0/\(vG vx (2:Int)/\(cT vx 2)=eI (qz (cT vx 2))))/\((decide ((qz (cT vx 2))<=((As c 0).length:Int)))=true->((In b.length 0/\(vG vx (2:Int)/\(cT vx 2)=eI (qz (cT vx 2))))/\((decide ((qz (cT vx 2))<=((As b 0).length:Int)))=true->((In c.length 0/\(vG vx (2:Int)/\(cT vx 2)=eI (qz (cT vx 2))))/\(In b.length 0/\(vG vx (2:Int)/\(cT vx 2)=eI (qz (cT vx 2))))))))))/\((yK (cT vx 0) (Dt.str "begin"))=false->((vG vx (0:Int)/\R3 (cT vx 0) (Dt.str "same"))/\((yK (cT vx 0) (Dt.str "same"))=false->((decide (c=b))=true->((((vG vx (2:Int)/\(cT vx 2)=eS (ji (cT vx 2)))/\(jg d (ji (cT vx 2))))/\((vG vx (2:Int)/\(cT vx 2)=eS (ji (cT vx 2)))/\(jg a (ji (cT vx 2)))))/\((decide ((bA d (ji (cT vx 2)))=(bA a (ji (cT vx 2)))))=true->((vG vx (2:Int)/\(cT vx 2)=eS (ji (cT vx 2)))/\(jg a (ji (cT vx 2)))))))))))))))))
theorem Qu(vx:Dt)(d:aV)(a:aV):RP qP [Z (zE eD vx),Z (zE aQ d),Z (zE aQ a),O,O] (λr=>Ap.rt (zE eB r)) (fX vx d a) (Z (gZ vx d a)):=R.tp (IT 3 4 (Pb (AZ oA (bJ (aq 1 (zE aQ) d Y2) (bJ (cX (gO (aq 0 (zE eD) vx Y2) (B6 1)) ji eS) aU)))) (Pb (AZ oA (bJ (aq 2 (zE aQ) a Y2) (bJ (cX (gO (aq 0 (zE eD) vx Y2) (B6 1)) ji eS) aU)))) λc b=>(jP (Gi (dU (Gg () (vA (aq 3 (zE (eL eS)) c Y2)) (gK (kE (eE eS) (zC Y2))))) (dU (Gg () (vA (aq 4 (zE (eL eS)) b Y2)) (gK (kE (eE eS) (zC Y2)))))) (bV (cu (λr=>r) (oX (.bl false) eB false Y2) (λ_=>Y2) λ_=>Y2)) (cG (jP (dU (CN (gO (aq 0 (zE eD) vx Y2) (B6 0)) (CY (.str "never")))) (bV (cu (λr=>r) (Jx () (vA (aq 3 (zE (eL eS)) c Y2)) (vA (aq 4 (zE (eL eS)) b Y2))) (λ_=>Y2) λ_=>Y2)) (cG (jP (dU (CN (gO (aq 0 (zE eD) vx Y2) (B6 0)) (CY (.str "begin")))) (bV (cu (λr=>r) (fP (Cc (Gk (lJ (vA (aq 3 (zE (eL eS)) c Y2)) (B6 0))) (cX (gO (aq 0 (zE eD) vx Y2) (B6 2)) qz eI)) (fP (Cc (Gk (lJ (vA (aq 4 (zE (eL eS)) b Y2)) (B6 0))) (cX (gO (aq 0 (zE eD) vx Y2) (B6 2)) qz eI)) (By () (Jy (lJ (vA (aq 3 (zE (eL eS)) c Y2)) (B6 0)) zR (zT (cX (gO (aq 0 (zE eD) vx Y2) (B6 2)) qz eI))) (Jy (lJ (vA (aq 4 (zE (eL eS)) b Y2)) (B6 0)) zR (zT (cX (gO (aq 0 (zE eD) vx Y2) (B6 2)) qz eI)))))) (λ_=>Y2) λ_=>Y2)) (cG (jP (dU (CN (gO (aq 0 (zE eD) vx Y2) (B6 0)) (CY (.str "same")))) (bV (cu (λr=>r) (Gg () (vA (aq 3 (zE (eL eS)) c Y2)) (vA (aq 4 (zE (eL eS)) b Y2))) (λ_=>Y2) λ_=>Y2)) (cG (cu (λr=>r) (fP (Gg () (vA (aq 3 (zE (eL eS)) c Y2)) (vA (aq 4 (zE (eL eS)) b Y2))) (HL (Gg () (gK (AZ oA (bJ (aq 1 (zE aQ) d Y2) (bJ (cX (gO (aq 0 (zE eD) vx Y2) (B6 2)) ji eS) aU)))) (gK (AZ oA (bJ (aq 2 (zE aQ) a Y2) (bJ (cX (gO (aq 0 (zE eD) vx Y2) (B6 2)) ji eS) aU))))) (Jx () (gK (AZ oA (bJ (aq 2 (zE aQ) a Y2) (bJ (cX (gO (aq 0 (zE eD) vx Y2) (B6 2)) ji eS) aU)))) (gK (kE (eE eS) (zC Y2)))))) (λ_=>Y2) λ_=>Y2))))))))))
theorem Qv:∀v bs,(aZ eD (aZ aQ (aZ aQ aN))) v bs->bs.length=3/\(B4 (Z (gZ v.1 v.2.1 v.2.2.1))->qQ (bs.map lend)=Z ((zE eB) (fX v.1 v.2.1 v.2.2.1))):=by
 rintro⟨vx,a,b,_⟩ _ ⟨_,rfl,⟨_,rfl,⟨_,rfl,rfl⟩⟩⟩;exact⟨rfl,λh=>bO (g:=qP) (n:=5) (bs:=[.z (eD vx),.z (aQ a),.z (aQ b)]) (Qu vx a b) h⟩
def eZ(h:BM)(b:aV)(c:aV)(a:(Y cV)×(Y bx))(d:Int):(Y cV)×(Y bx):=(let vx:=(As h d);(let e:(Y cV)×(Y bx):=(if((qI b.1 c.1)&&(fX vx b c))=true then(let f:(Y cV)×(Y bx):=(if(yK (cT vx 0) (Dt.str "never"))=true then(let i:=a.1++[(b.1,c.1,d)];(i,a.2))else(let g:=a.2++[(((0:Int)-(qz (cT vx ((vB vx)-1)))),b.1,c.1,d)];(a.1,g)));(f.1,f.2))else(a.1,a.2));(e.1,e.2)))
def lR(e:BM)(a:aV)(b:aV)(c:(Y cV)×(Y bx))(d:Int):Prop:=(In e.length d/\(let vx:=(As e d);(((qI a.1 b.1)=true->(gZ vx a b))/\(((qI a.1 b.1)&&(fX vx a b))=true->((vG vx (0:Int)/\R3 (cT vx 0) (Dt.str "never"))/\(((yK (cT vx 0) (Dt.str "never"))=true->wk c.1.length)/\((yK (cT vx 0) (Dt.str "never"))=false->(((DK vx=true/\vG vx ((vB vx)-1))/\(cT vx ((vB vx)-1))=eI (qz (cT vx ((vB vx)-1))))/\wk c.2.length))))))))
theorem Mu(h:Y aV)(e:BM)(b:aV)(c:aV)(a:(Y cV)×(Y bx))(d:Int):RP Ai [Z ((zE (eT aQ)) h),Z ((zE (eT eD)) e),Z ((oE aY) a.2),Z ((oE dD) a.1),Z (zE aQ b),Z (zE aQ c),Z (zE eI d),O,O] (λs=>Ap.nx ((λa:(Y cV)×(Y bx)=>[Z ((zE (eT aQ)) h),Z ((zE (eT eD)) e),Z ((oE aY) a.2),Z ((oE dD) a.1),Z (zE aQ b),Z (zE aQ c),O,O,O]) s)) (eZ e b c a d) (Z (lR e b c a d)):=R.tp (bV (bZ 7 (Ph (aq 1 (zE (eT eD)) e Y2) (aq 6 (zE eI) d Y2)) (λ_=>Y2) λvx=>(bV (CQ (λf:(Y cV)×(Y bx)=>[Z ((zE (eT aQ)) h),Z ((zE (eT eD)) e),Z ((oE aY) f.2),Z ((oE dD) f.1),Z (zE aQ b),Z (zE aQ c),Z (zE eI d),Z (zE eD vx),O]) (XA (dU (LB (gP (aq 4 (zE aQ) b Y2) (λq=>q.1) eS 0 λ_=>Y2) (gP (aq 5 (zE aQ) c Y2) (λq=>q.1) eS 0 λ_=>Y2))) (Gh (AZ Qv (bJ (aq 7 (zE eD) vx Y2) (bJ (aq 4 (zE aQ) b Y2) (bJ (aq 5 (zE aQ) c Y2) aU)))))) (bV (CQ (λg:(Y cV)×(Y bx)=>[Z ((zE (eT aQ)) h),Z ((zE (eT eD)) e),Z ((oE aY) g.2),Z ((oE dD) g.1),Z (zE aQ b),Z (zE aQ c),Z (zE eI d),Z (zE eD vx),O]) (dU (CN (gO (aq 7 (zE eD) vx Y2) (B6 0)) (CY (.str "never")))) (bV (wB 3 a.1 Y2 (yL (gP (aq 4 (zE aQ) b Y2) (λq=>q.1) eS 0 λ_=>Y2) (gP (aq 5 (zE aQ) c Y2) (λq=>q.1) eS 0 λ_=>Y2) (aq 6 (zE eI) d Y2)) λj=>(cG (cL (j,a.2) Y2)))) (bV (wB 2 a.2 Y2 (uw (CK (B6 0) (cX (gO (aq 7 (zE eD) vx Y2) (CK (K7 (aq 7 (zE eD) vx Y2)) (B6 1))) qz eI)) (gP (aq 4 (zE aQ) b Y2) (λq=>q.1) eS 0 λ_=>Y2) (gP (aq 5 (zE aQ) c Y2) (λq=>q.1) eS 0 λ_=>Y2) (aq 6 (zE eI) d Y2)) λi=>(cG (cL (a.1,i) Y2)))) λg=>(cG (cL (g.1,g.2) Y2)))) (cG (cL (a.1,a.2) Y2)) λf=>(cG (cL (f.1,f.2) Y2))))))
def iD(c:BM)(d:aV)(b:(Y cV)×(Y bx))(e:aV):(Y cV)×(Y bx):=(let a:(Y cV)×(Y bx):=((rng 0 (c.length:Int).toNat).foldl (λ(a:(Y cV)×(Y bx)) (f:Int)=>(eZ c d e a f)) (b.1,b.2));(a.1,a.2))
def lV(a:BM)(d:aV)(f:(Y cV)×(Y bx))(e:aV):Prop:=(Rg (a.length:Int)/\rW (λ(b:(Y cV)×(Y bx)) (c:Int)=>(eZ a d e b c)) (λ(b:(Y cV)×(Y bx)) (c:Int)=>Z (lR a d e b c)) (rng 0 (a.length:Int).toNat) (f.1,f.2))
theorem Mv(f:Y aV)(c:BM)(d:aV)(a:(Y cV)×(Y bx))(e:aV):RP Aj [Z ((zE (eT aQ)) f),Z ((zE (eT eD)) c),Z ((oE aY) a.2),Z ((oE dD) a.1),Z (zE aQ d),Z (zE aQ e),O,O,O] (λs=>Ap.nx ((λa:(Y cV)×(Y bx)=>[Z ((zE (eT aQ)) f),Z ((zE (eT eD)) c),Z ((oE aY) a.2),Z ((oE dD) a.1),Z (zE aQ d),O,O,O,O]) s)) (iD c d a e) (Z (lV c d a e)):=R.tp (bV (zY (λb:(Y cV)×(Y bx)=>[Z ((zE (eT aQ)) f),Z ((zE (eT eD)) c),Z ((oE aY) b.2),Z ((oE dD) b.1),Z (zE aQ d),Z (zE aQ e),O,O,O]) (a.1,a.2) Y2 (u5 (R7 (aq 1 (zE (eT eD)) c Y2))) _ (λ_ _=>Y2) (λ(b:(Y cV)×(Y bx)) (g:Int)=>(Mu f c d e b g).r) λb=>(cG (cL (b.1,b.2) Y2))))
def dM(f:Y aV)(e:BM)(b:(Y cV)×(Y bx))(c:aV):(Y cV)×(Y bx):=(let a:(Y cV)×(Y bx):=(f.foldl (λ(a:(Y cV)×(Y bx)) (d:aV)=>(iD e c a d)) (b.1,b.2));(a.1,a.2))
def lW(f:Y aV)(d:BM)(e:(Y cV)×(Y bx))(c:aV):Prop:=rW (λ(b:(Y cV)×(Y bx)) (a:aV)=>(iD d c b a)) (λ(b:(Y cV)×(Y bx)) (a:aV)=>Z (lV d c b a)) f (e.1,e.2)
theorem Mw(c:Y aV)(d:BM)(a:(Y cV)×(Y bx))(e:aV):RP Ak [Z ((zE (eT aQ)) c),Z ((zE (eT eD)) d),Z ((oE aY) a.2),Z ((oE dD) a.1),Z (zE aQ e),O,O,O,O] (λs=>Ap.nx ((λa:(Y cV)×(Y bx)=>[Z ((zE (eT aQ)) c),Z ((zE (eT eD)) d),Z ((oE aY) a.2),Z ((oE dD) a.1),O,O,O,O,O]) s)) (dM c d a e) (Z (lW c d a e)):=R.tp (bV (Zb 0 c (Za Y2) (λb:(Y cV)×(Y bx)=>[Z ((zE (eT aQ)) c),Z ((zE (eT eD)) d),Z ((oE aY) b.2),Z ((oE dD) b.1),Z (zE aQ e),O,O,O,O]) (a.1,a.2) Y2 _ (λ_ _=>Y2) (λ(b:(Y cV)×(Y bx)) (f:aV)=>(Mv c d e b f).r) λb=>(cG (cL (b.1,b.2) Y2))))
def pO(d:Y aV)(f:BM):Wo:=(let e:=([]:Y bx);(let h:=([]:Y cV);(let b:(Y cV)×(Y bx):=(d.foldl (λ(b:(Y cV)×(Y bx)) (c:aV)=>(dM d f b c)) (h,e));(let g:=((gC aY b.2).map λa:bx=>(((0:Int)-a.1),a.2.1,a.2.2.1,a.2.2.2));((FP (d.map λc:aV=>c.1)),g,(gC dD b.1))))))
def tO(c:Y aV)(e:BM):Prop:=(let f:=([]:Y bx);(let g:=([]:Y cV);(rW (λ(a:(Y cV)×(Y bx)) (b:aV)=>(dM c e a b)) (λ(a:(Y cV)×(Y bx)) (b:aV)=>Z (lW c e a b)) c (g,f)/\(let a:(Y cV)×(Y bx):=(c.foldl (λ(a:(Y cV)×(Y bx)) (b:aV)=>(dM c e a b)) (g,f));((a.2.length<=100000/\(gC aY a.2).length<=100000)/\(let h:=((gC aY a.2).map λd:bx=>(((0:Int)-d.1),d.2.1,d.2.2.1,d.2.2.2));((c.length<=100000/\(c.map λb:aV=>b.1).length<64)/\a.1.length<=100000)))))))
theorem Wx(b:Y aV)(c:BM):RP xJ [Z ((zE (eT aQ)) b),Z ((zE (eT eD)) c),O,O,O,O,O,O,O] (λr=>Ap.rt (zE jD r)) (pO b c) (Z (tO b c)):=R.tp (bZ 2 (kE (eE aY) (zC Y2)) (λ_=>Y2) λf=>(bZ 3 (kE (eE dD) (zC Y2)) (λ_=>Y2) λh=>(Zb 0 b (Za Y2) (λa:(Y cV)×(Y bx)=>[Z ((zE (eT aQ)) b),Z ((zE (eT eD)) c),Z ((oE aY) a.2),Z ((oE dD) a.1),O,O,O,O,O]) (h,f) Y2 _ (λ_ _=>Y2) (λ(a:(Y cV)×(Y bx)) (e:aV)=>(Mw b c a e).r) λa=>(bZ 8 (nG (gK (pq (V5 (gK (Ld (iT (aq 2 (lE aY) a.2 Y2))))) _ (λ_=>Y2) (λd:bx=>(uw (CK (B6 0) (aq 0 (zE eI) d.1 Y2)) (aq 1 (zE eS) d.2.1 Y2) (aq 2 (zE eS) d.2.2.1 Y2) (aq 3 (zE eI) d.2.2.2 Y2))) λ_=>Y2))) (λ_=>Y2) λg=>(cu (λr=>r) (yL (nG (gK (bz (gK (pq (Pn (aq 0 (zE (eT aQ)) b Y2)) _ (λ_=>Y2) (λe:aV=>(gP (aq 0 (zE aQ) e Y2) (λq=>q.1) eS 0 λ_=>Y2)) λ_=>Y2))))) (aq 8 (zE (eT aY)) g Y2) (nG (gK (Ld (iT (aq 3 (lE dD) a.1 Y2)))))) (λ_=>Y2) λ_=>Y2)))))
theorem Wy:∀v bs,(aZ (eT aQ) (aZ (eT eD) aN)) v bs->bs.length=2/\(B4 (Z (tO v.1 v.2.1))->xK (bs.map lend)=Z ((zE jD) (pO v.1 v.2.1))):=by
 rintro⟨b,a,_⟩ _ ⟨_,rfl,⟨_,rfl,rfl⟩⟩;exact⟨rfl,λh=>bO (g:=xJ) (n:=9) (bs:=[.z (eT aQ b),.z (eT eD a)]) (Wx b a) h⟩
def jx(a:AJ)(b:Unit)(q2:mH):Pq (Unit) (Y3 AJ):=(if(decide (q2.1=a))=true then(Pq.rt (Z q2.2))else(Pq.nx dl))
theorem Mx(b:aV)(a:AJ)(c:Unit)(q2:mH):RP Al [Z (zE aQ b),Z (zE eS a),Z ((zE eS) q2.1),Z ((zE eS) q2.2)] (cC (λc:Unit=>[Z (zE aQ b),Z (zE eS a),O,O]) (zE (eO eS))) (jx a c q2) (O):=R.tp (bV (jP (dU (By () (aq 2 (zE eS) q2.1 Y2) (aq 1 (zE eS) a Y2))) (bV (cu .rt (RZ (aq 3 (zE eS) q2.2 Y2)) (λ_=>Y2) λ_=>Y2)) (cG (cG (cL (.nx dl) Y2)))))
def dW(b:aV)(c:AJ):(Y3 AJ):=(Ct (yM (λ(a:Unit) (q2:mH)=>((jx c a q2):Pq (Unit) (Y3 AJ))) b.2 dl) (λr=>r) λa:Unit=>O)
def jy(b:aV)(c:AJ):Prop:=(Gm (λ(a:Unit) (q2:mH)=>((jx c a q2):Pq (Unit) (Y3 AJ))) (λ(a:Unit) (q2:mH)=>O) b.2 dl/\(Ux (yM (λ(a:Unit) (q2:mH)=>((jx c a q2):Pq (Unit) (Y3 AJ))) b.2 dl) λa:Unit=>True))
theorem Wz(a:aV)(b:AJ):RP xM [Z (zE aQ a),Z (zE eS b),O,O] (λr=>Ap.rt ((zE (eO eS)) r)) (dW a b) (Z (jy a b)):=R.tp (UK (λc:Unit=>[Z (zE aQ a),Z (zE eS b),O,O]) dl Y2 (XW (gP (aq 0 (zE aQ) a Y2) (λq=>q.2) (eT Lh) 1 λ_=>Y2)) _ (λ_ _=>Y2) (λ(c:Unit) (q2:mH)=>((Mx a b c q2).r:R _ _ (cC (λc:Unit=>[Z (zE aQ a),Z (zE eS b),O,O]) (zE (eO eS))))) (λr=>r) (λ_=>Y2) λc=>(cu (λr=>r) XT (λ_=>Y2) λ_=>Y2))
theorem pP:∀v bs,(aZ aQ (aZ eS aN)) v bs->bs.length=2/\(B4 (Z (jy v.1 v.2.1))->gR (bs.map lend)=Z ((zE (eO eS)) (dW v.1 v.2.1))):=by
 rintro⟨a,b,_⟩ _ ⟨_,rfl,⟨_,rfl,rfl⟩⟩;exact⟨rfl,λh=>bO (g:=xM) (n:=4) (bs:=[.z (aQ a),.z (eS b)]) (Wz a b) h⟩
def fj(d:aV)(c:aV)(b:AJ):Bool:=(let a:=(dW d b);(a.isSome&&(decide (a=(dW c b)))))
def kY(b:aV)(d:aV)(a:AJ):Prop:=((jy b a)/\(let c:=(dW b a);(c.isSome=true->(jy d a))))
theorem Qw(c:aV)(b:aV)(a:AJ):RP qR [Z (zE aQ c),Z (zE aQ b),Z (zE eS a),O] (λr=>Ap.rt (zE eB r)) (fj c b a) (Z (kY c b a)):=R.tp (bZ 3 (AZ pP (bJ (aq 0 (zE aQ) c Y2) (bJ (aq 2 (zE eS) a Y2) aU))) (λ_=>Y2) λd=>(cu (λr=>r) (fP (K4 (aq 3 (zE (eO eS)) d Y2) λ_=>Y2) (By () (aq 3 (zE (eO eS)) d Y2) (AZ pP (bJ (aq 1 (zE aQ) b Y2) (bJ (aq 2 (zE eS) a Y2) aU))))) (λ_=>Y2) λ_=>Y2))
theorem wQ:∀v bs,(aZ aQ (aZ aQ (aZ eS aN))) v bs->bs.length=3/\(B4 (Z (kY v.1 v.2.1 v.2.2.1))->kJ (bs.map lend)=Z ((zE eB) (fj v.1 v.2.1 v.2.2.1))):=by
 rintro⟨b,a,c,_⟩ _ ⟨_,rfl,⟨_,rfl,⟨_,rfl,rfl⟩⟩⟩;exact⟨rfl,λh=>bO (g:=qR) (n:=4) (bs:=[.z (aQ b),.z (aQ a),.z (eS c)]) (Qw b a c) h⟩
def jU(e:aV)(f:aV)(d:AJ)(a:Int):Bool:=(let c:=(dW e d);(let b:=(dW f d);(if(c.isNone||b.isNone)=true then false else((decide (a<=((c.getD default).length:Int)))&&((decide (a<=((b.getD default).length:Int)))&&(decide ((Z (Txt.slice (c.getD default) O (Z a)))=(Z (Txt.slice (b.getD default) O (Z a))))))))))
def jV(d:aV)(f:aV)(c:AJ)(e:Int):Prop:=((jy d c)/\(let b:=(dW d c);((jy f c)/\(let a:=(dW f c);((b.isNone||a.isNone)=false->(b.isSome=true/\((decide (e<=((b.getD default).length:Int)))=true->(a.isSome=true/\((decide (e<=((a.getD default).length:Int)))=true->(b.isSome=true/\a.isSome=true))))))))))
theorem Iu(c:aV)(d:aV)(b:AJ)(a:Int):RP nJ [Z (zE aQ c),Z (zE aQ d),Z (zE eS b),Z (zE eI a),O,O] (λr=>Ap.rt (zE eB r)) (jU c d b a) (Z (jV c d b a)):=R.tp (bZ 4 (AZ pP (bJ (aq 0 (zE aQ) c Y2) (bJ (aq 2 (zE eS) b Y2) aU))) (λ_=>Y2) λf=>(bZ 5 (AZ pP (bJ (aq 1 (zE aQ) d Y2) (bJ (aq 2 (zE eS) b Y2) aU))) (λ_=>Y2) λe=>(jP (Gi (dU (IR (aq 4 (zE (eO eS)) f Y2) λ_=>Y2)) (dU (IR (aq 5 (zE (eO eS)) e Y2) λ_=>Y2))) (bV (cu (λr=>r) (oX (.bl false) eB false Y2) (λ_=>Y2) λ_=>Y2)) (cG (cu (λr=>r) (fP (Cc (Gk (Uq (aq 4 (zE (eO eS)) f Y2))) (aq 3 (zE eI) a Y2)) (fP (Cc (Gk (Uq (aq 5 (zE (eO eS)) e Y2))) (aq 3 (zE eI) a Y2)) (By () (RZ (Jy (Uq (aq 4 (zE (eO eS)) f Y2)) zR (zT (aq 3 (zE eI) a Y2)))) (RZ (Jy (Uq (aq 5 (zE (eO eS)) e Y2)) zR (zT (aq 3 (zE eI) a Y2))))))) (λ_=>Y2) λ_=>Y2)))))
theorem Iv:∀v bs,(aZ aQ (aZ aQ (aZ eS (aZ eI aN)))) v bs->bs.length=4/\(B4 (Z (jV v.1 v.2.1 v.2.2.1 v.2.2.2.1))->nM (bs.map lend)=Z ((zE eB) (jU v.1 v.2.1 v.2.2.1 v.2.2.2.1))):=by
 rintro⟨c,b,d,a,_⟩ _ ⟨_,rfl,⟨_,rfl,⟨_,rfl,⟨_,rfl,rfl⟩⟩⟩⟩;exact⟨rfl,λh=>bO (g:=nJ) (n:=6) (bs:=[.z (aQ c),.z (aQ b),.z (eS d),.z (eI a)]) (Iu c b d a) h⟩
def lX(d:aV)(e:aV)(c:AJ):Bool:=(let b:=(dW d c);(let a:=(dW e c);(b.isSome&&(a.isSome&&(!decide (b=a))))))
def pK(b:aV)(c:aV)(a:AJ):Prop:=((jy b a)/\(let d:=(dW b a);(jy c a)))
theorem Mz(b:aV)(c:aV)(a:AJ):RP pA [Z (zE aQ b),Z (zE aQ c),Z (zE eS a),O,O] (λr=>Ap.rt (zE eB r)) (lX b c a) (Z (pK b c a)):=R.tp (bZ 3 (AZ pP (bJ (aq 0 (zE aQ) b Y2) (bJ (aq 2 (zE eS) a Y2) aU))) (λ_=>Y2) λe=>(bZ 4 (AZ pP (bJ (aq 1 (zE aQ) c Y2) (bJ (aq 2 (zE eS) a Y2) aU))) (λ_=>Y2) λd=>(cu (λr=>r) (fP (K4 (aq 3 (zE (eO eS)) e Y2) λ_=>Y2) (fP (K4 (aq 4 (zE (eO eS)) d Y2) λ_=>Y2) (YS () (aq 3 (zE (eO eS)) e Y2) (aq 4 (zE (eO eS)) d Y2)))) (λ_=>Y2) λ_=>Y2)))
theorem MF:∀v bs,(aZ aQ (aZ aQ (aZ eS aN))) v bs->bs.length=3/\(B4 (Z (pK v.1 v.2.1 v.2.2.1))->pB (bs.map lend)=Z ((zE eB) (lX v.1 v.2.1 v.2.2.1))):=by
 rintro⟨b,a,c,_⟩ _ ⟨_,rfl,⟨_,rfl,⟨_,rfl,rfl⟩⟩⟩;exact⟨rfl,λh=>bO (g:=pA) (n:=5) (bs:=[.z (aQ b),.z (aQ a),.z (eS c)]) (Mz b a c) h⟩
def dj(a:Dt)(b:aV)(c:aV):Bool:=(if(yK (cT a 0) (Dt.str "same"))=true then(fj b c (ji (cT a 1)))else(if(yK (cT a 0) (Dt.str "begin"))=true then(jU b c (ji (cT a 1)) (qz (cT a 2)))else(if(yK (cT a 0) (Dt.str "both"))=true then((fj b c (ji (cT a 1)))&&(fj b c (ji (cT a 2))))else(lX b c (ji (cT a 1))))))
def Ar(a:Dt)(b:aV)(c:aV):Prop:=((vG a (0:Int)/\R3 (cT a 0) (Dt.str "same"))/\(((yK (cT a 0) (Dt.str "same"))=true->((vG a (1:Int)/\(cT a 1)=eS (ji (cT a 1)))/\(kY b c (ji (cT a 1)))))/\((yK (cT a 0) (Dt.str "same"))=false->((vG a (0:Int)/\R3 (cT a 0) (Dt.str "begin"))/\(((yK (cT a 0) (Dt.str "begin"))=true->(((vG a (1:Int)/\(cT a 1)=eS (ji (cT a 1)))/\(vG a (2:Int)/\(cT a 2)=eI (qz (cT a 2))))/\(jV b c (ji (cT a 1)) (qz (cT a 2)))))/\((yK (cT a 0) (Dt.str "begin"))=false->((vG a (0:Int)/\R3 (cT a 0) (Dt.str "both"))/\(((yK (cT a 0) (Dt.str "both"))=true->(((vG a (1:Int)/\(cT a 1)=eS (ji (cT a 1)))/\(kY b c (ji (cT a 1))))/\((fj b c (ji (cT a 1)))=true->((vG a (2:Int)/\(cT a 2)=eS (ji (cT a 2)))/\(kY b c (ji (cT a 2)))))))/\((yK (cT a 0) (Dt.str "both"))=false->((vG a (1:Int)/\(cT a 1)=eS (ji (cT a 1)))/\(pK b c (ji (cT a 1)))))))))))))
theorem OG(a:Dt)(b:aV)(c:aV):RP Er [Z (zE eD a),Z (zE aQ b),Z (zE aQ c)] (λr=>Ap.rt (zE eB r)) (dj a b c) (Z (Ar a b c)):=R.tp (jP (dU (CN (gO (aq 0 (zE eD) a Y2) (B6 0)) (CY (.str "same")))) (bV (cu (λr=>r) (AZ wQ (bJ (aq 1 (zE aQ) b Y2) (bJ (aq 2 (zE aQ) c Y2) (bJ (cX (gO (aq 0 (zE eD) a Y2) (B6 1)) ji eS) aU)))) (λ_=>Y2) λ_=>Y2)) (cG (jP (dU (CN (gO (aq 0 (zE eD) a Y2) (B6 0)) (CY (.str "begin")))) (bV (cu (λr=>r) (AZ Iv (bJ (aq 1 (zE aQ) b Y2) (bJ (aq 2 (zE aQ) c Y2) (bJ (cX (gO (aq 0 (zE eD) a Y2) (B6 1)) ji eS) (bJ (cX (gO (aq 0 (zE eD) a Y2) (B6 2)) qz eI) aU))))) (λ_=>Y2) λ_=>Y2)) (cG (jP (dU (CN (gO (aq 0 (zE eD) a Y2) (B6 0)) (CY (.str "both")))) (bV (cu (λr=>r) (fP (AZ wQ (bJ (aq 1 (zE aQ) b Y2) (bJ (aq 2 (zE aQ) c Y2) (bJ (cX (gO (aq 0 (zE eD) a Y2) (B6 1)) ji eS) aU)))) (AZ wQ (bJ (aq 1 (zE aQ) b Y2) (bJ (aq 2 (zE aQ) c Y2) (bJ (cX (gO (aq 0 (zE eD) a Y2) (B6 2)) ji eS) aU))))) (λ_=>Y2) λ_=>Y2)) (cG (cu (λr=>r) (AZ MF (bJ (aq 1 (zE aQ) b Y2) (bJ (aq 2 (zE aQ) c Y2) (bJ (cX (gO (aq 0 (zE eD) a Y2) (B6 1)) ji eS) aU)))) (λ_=>Y2) λ_=>Y2)))))))
theorem TB:∀v bs,(aZ eD (aZ aQ (aZ aQ aN))) v bs->bs.length=3/\(B4 (Z (Ar v.1 v.2.1 v.2.2.1))->Es (bs.map lend)=Z ((zE eB) (dj v.1 v.2.1 v.2.2.1))):=by
 rintro⟨a,c,b,_⟩ _ ⟨_,rfl,⟨_,rfl,⟨_,rfl,rfl⟩⟩⟩;exact⟨rfl,λh=>bO (g:=Er) (n:=3) (bs:=[.z (eD a),.z (aQ c),.z (aQ b)]) (OG a c b) h⟩
def iJ(b:Y aV)(c:BM):(Y Ab):=((CT b).flatMap λq1:Hd=>((BB b (Z (q1.1+1)) O).flatMap λa:aV=>(((gQ 0 c).filter λq2:Wn=>(dj q2.2 q1.2 a)).map λq2:Wn=>(q2.2,(q1.2.1,a.1,q2.1)))))
def xV(b:Y aV)(c:BM):Prop:=((∀q1∈(CT b),(∀a∈(BB b (Z (q1.1+1)) O),(∀q2∈(gQ 0 c),(Ar q2.2 q1.2 a))))/\((CT b).flatMap λq1:Hd=>((BB b (Z (q1.1+1)) O).flatMap λa:aV=>(((gQ 0 c).filter λq2:Wn=>(dj q2.2 q1.2 a)).map λq2:Wn=>(q2.2,(q1.2.1,a.1,q2.1))))).length<=100000)
theorem WD(a:Y aV)(c:Lp gY (a.map aQ))(b:BM):RP xO [Z gY,Z ((zE (eT eD)) b)] (λr=>Ap.rt (oE FG r)) (iJ a b) (Z (xV a b)):=R.tp (cu (λr=>r) (a9 (a0 (Pi (fD 0 aQ a c Y2)) _ (λ_=>Y2) (λq1:Hd=>(XN (IL (YW (fD 0 aQ a c (congrArg Z (c.get Y2))) (zT (gM (aq 2 (zE eI) q1.1 Y2) (B6 1))) zR)) _ (λ_=>Y2) (λd:aV=>(b7 (Oy (aq 1 (zE (eT eD)) b Y2)) _ (λ_=>Y2) (λq2:Wn=>(Gh (AZ TB (bJ (aq 6 (zE eD) q2.2 Y2) (bJ (aq 3 (zE aQ) q1.2 Y2) (bJ (aq 4 (zE aQ) d Y2) aU)))))) (λq2:Wn=>(R6 (aq 6 (zE eD) q2.2 Y2) (yL (gP (aq 3 (zE aQ) q1.2 Y2) (λq=>q.1) eS 0 λ_=>Y2) (gP (aq 4 (zE aQ) d Y2) (λq=>q.1) eS 0 λ_=>Y2) (aq 5 (zE eI) q2.1 Y2)))))))))) (λ_=>Y2) λ_=>Y2)
theorem WK:∀v bs,(aL aQ (aZ (eT eD) aN)) v bs->bs.length=2/\(B4 (Z (xV v.1 v.2.1))->xP (bs.map lend)=Z ((oE FG) (iJ v.1 v.2.1))):=by
 rintro⟨c,a,_⟩ _ ⟨gY,_,rfl,b,⟨_,rfl,rfl⟩⟩;exact⟨rfl,λh=>bO (g:=xO) (n:=2) (bs:=[lend gY,.z (eT eD a)]) (WD c (u0 b) a) h⟩
def aJ(a:bx):bx:=(let q1:=a;((-q1.1),q1.2.1,q1.2.2.1,q1.2.2.2))
theorem Tc(a:bx):RP uI [Z (zE aY a),O,O,O,O] (λr=>Ap.rt (zE aY r)) (aJ a) O:=R.tp (Y9 (aq 0 (zE aY) a Y2) _ (λ_=>Y2) λq1=>(cu (λr=>r) (uw (MD (aq 1 (zE eI) q1.1 Y2)) (aq 2 (zE eS) q1.2.1 Y2) (aq 3 (zE eS) q1.2.2.1 Y2) (aq 4 (zE eI) q1.2.2.2 Y2)) (λ_=>Y2) λ_=>Y2))
theorem yW:∀v bs,(aZ aY aN) v bs->bs.length=1/\(B4 (O)->mV (bs.map lend)=Z ((zE aY) (aJ v.1))):=by
 rintro⟨a,_⟩ _ ⟨_,rfl,rfl⟩;exact⟨rfl,λh=>bO (g:=uI) (n:=5) (bs:=[.z (aY a)]) (Tc a) h⟩
def aX(a:Y bx):(Y bx):=(tD aY (λx:bx=>aJ x) a)
def j9(a:Y bx):Prop:=((∀x∈a,True)/\a.length<=100000/\∀x∈a,∀y∈a,aJ x=aJ y->x=y)
theorem Td(a:Y bx)(b:Lp gY (a.map aY)):RP mW [Z gY] (λr=>Ap.rt (oE aY r)) (aX a) (Z (j9 a)):=R.tp (cu (λr=>r) (PJ (e':=aY) yW (VA (fD 0 aY a b Y2))) (λ_=>Y2) λ_=>Y2)
theorem uT:∀v bs,(aL aY aN) v bs->bs.length=1/\(B4 (Z (j9 v.1))->fG (bs.map lend)=Z ((oE aY) (aX v.1))):=by
 rintro⟨a,_⟩ _ ⟨gY,_,rfl,b,rfl⟩;exact⟨rfl,λh=>bO (g:=mW) (n:=1) (bs:=[lend gY]) (Td a (u0 b)) h⟩
def aO(c:Y aV)(d:BM):Wo:=(let b:=(tD eS (λh:aV=>h.1) c);(let a:=(iJ b d);(let e:=((a.filter λq1:Ab=>(!yK (cT q1.1 0) (Dt.str "never"))).map λq1:Ab=>((qz (cT q1.1 (-(1:Int)))),q1.2.1,q1.2.2.1,q1.2.2.2));(let g:=((a.filter λq2:Ab=>(yK (cT q2.1 0) (Dt.str "never"))).map λq2:Ab=>q2.2);((b.map λf:aV=>f.1),(aX e),(gC dD g))))))
def cW(b:Y aV)(e:BM):Prop:=(((∀c∈b,True)/\b.length<=100000/\(b.map λc:aV=>c.1).Nodup)/\(let d:=(tD eS (λc:aV=>c.1) b);((xV d e)/\(let a:=(iJ d e);((a.length<=100000/\(∀q1∈a,((vG q1.1 (0:Int)/\R3 (cT q1.1 0) (Dt.str "never"))/\((!yK (cT q1.1 0) (Dt.str "never"))=true->(vG q1.1 (-(1:Int))/\(cT q1.1 (-(1:Int)))=eI (qz (cT q1.1 (-(1:Int)))))))))/\(let f:=((a.filter λq1:Ab=>(!yK (cT q1.1 0) (Dt.str "never"))).map λq1:Ab=>((qz (cT q1.1 (-(1:Int)))),q1.2.1,q1.2.2.1,q1.2.2.2));((a.length<=100000/\(∀q2∈a,(vG q2.1 (0:Int)/\R3 (cT q2.1 0) (Dt.str "never"))))/\(let g:=((a.filter λq2:Ab=>(yK (cT q2.1 0) (Dt.str "never"))).map λq2:Ab=>q2.2);(d.length<=100000/\((j9 f)/\g.length<=100000))))))))))
theorem Qx(a:Y aV)(b:BM):RP qT [Z ((zE (eT aQ)) a),Z ((zE (eT eD)) b),O,O,O,O] (λr=>Ap.rt (zE jD r)) (aO a b) (Z (cW a b)):=R.tp (bZ 2 (ZJ (e':=eS) (MB (aq 0 (zE (eT aQ)) a Y2)) (λh:aV=>(gP (aq 0 (zE aQ) h Y2) (λq=>q.1) eS 0 λ_=>Y2))) (λ_=>Y2) λd=>(bZ 3 (AZ WK (wz (iT (aq 2 (lE aQ) d Y2)) (bJ (aq 1 (zE (eT eD)) b Y2) aU))) (λ_=>Y2) λc=>(bZ 4 (Uv (V5 (iT (aq 3 (lE FG) c Y2))) _ (λ_=>Y2) (λq1:Ab=>(dU (SO (gO (aq 0 (zE eD) q1.1 Y2) (B6 0)) (CY (.str "never"))))) (λq1:Ab=>(kj (R9 (e3:=aY) (R5 (cX (gO (aq 0 (zE eD) q1.1 Y2) (MD (B6 1))) qz eI)) (aq 1 (zE dD) q1.2 Y2) (λx y=>(x,y.1,y.2.1,y.2.2)) λ_ _=>Y2)))) (λ_=>Y2) λe=>(bZ 5 (Uv (V5 (iT (aq 3 (lE FG) c Y2))) _ (λ_=>Y2) (λq2:Ab=>(dU (CN (gO (aq 0 (zE eD) q2.1 Y2) (B6 0)) (CY (.str "never"))))) (λq2:Ab=>(aq 1 (zE dD) q2.2 Y2))) (λ_=>Y2) λg=>(cu (λr=>r) (yL (nG (gK (pq (V5 (iT (aq 2 (lE aQ) d Y2))) _ (λ_=>Y2) (λf:aV=>(gP (aq 0 (zE aQ) f Y2) (λq=>q.1) eS 0 λ_=>Y2)) λ_=>Y2))) (nG (gK (AZ uT (wz (iT (aq 4 (lE aY) e Y2)) aU)))) (nG (gK (Ld (iT (aq 5 (lE dD) g Y2)))))) (λ_=>Y2) λ_=>Y2)))))
theorem oF:∀v bs,(aZ (eT aQ) (aZ (eT eD) aN)) v bs->bs.length=2/\(B4 (Z (cW v.1 v.2.1))->fQ (bs.map lend)=Z ((zE jD) (aO v.1 v.2.1))):=by
 rintro⟨a,b,_⟩ _ ⟨_,rfl,⟨_,rfl,rfl⟩⟩;exact⟨rfl,λh=>bO (g:=qT) (n:=6) (bs:=[.z (eT aQ a),.z (eT eD b)]) (Qx a b) h⟩
def dH(a:Dt)(b:Int):Bool:=((An a)&&(decide ((vB a)=b)))
def nC(a:Dt)(b:Int):Prop:=((An a)=true->DK a=true)
theorem Te(a:Dt)(b:Int):RP uJ [Z (zE eD a),Z (zE eI b)] (λr=>Ap.rt (zE eB r)) (dH a b) (Z (nC a b)):=R.tp (cu (λr=>r) (fP (CP An (aq 0 (zE eD) a Y2)) (By () (K7 (aq 0 (zE eD) a Y2)) (aq 1 (zE eI) b Y2))) (λ_=>Y2) λ_=>Y2)
theorem yX:∀v bs,(aZ eD (aZ eI aN)) v bs->bs.length=2/\(B4 (Z (nC v.1 v.2.1))->iZ (bs.map lend)=Z ((zE eB) (dH v.1 v.2.1))):=by
 rintro⟨b,a,_⟩ _ ⟨_,rfl,⟨_,rfl,rfl⟩⟩;exact⟨rfl,λh=>bO (g:=uJ) (n:=2) (bs:=[.z (eD b),.z (eI a)]) (Te b a) h⟩
def jz(a:Dt)(c:AJ)(b:Int):Bool:=((p7 a)&&(((decide ((1:Int)<=(vB a)))&&(decide ((vB a)<=b)))&&(((V6 a).map λd:Dt=>(Jl (ji d) c)).all id)))
def lY(a:Dt)(d:AJ)(c:Int):Prop:=((p7 a)=true->((DK a=true/\((decide ((1:Int)<=(vB a)))=true->DK a=true))/\(((decide ((1:Int)<=(vB a)))&&(decide ((vB a)<=c)))=true->((DK a=true/\(V6 a).length<=100000)/\(∀b∈(V6 a),b=eS (ji b))))))
theorem MJ(a:Dt)(c:AJ)(b:Int):RP pC [Z (zE eD a),Z (zE eS c),Z (zE eI b)] (λr=>Ap.rt (zE eB r)) (jz a c b) (Z (lY a c b)):=R.tp (cu (λr=>r) (fP (CP p7 (aq 0 (zE eD) a Y2)) (fP (HL (F8 (B6 1) (K7 (aq 0 (zE eD) a Y2))) (F8 (K7 (aq 0 (zE eD) a Y2)) (aq 2 (zE eI) b Y2))) (yh (gK (wA (LD (aq 0 (zE eD) a Y2)) _ (λ_=>Y2) (λd:Dt=>(av (cX (aq 1 (zE eD) d Y2) ji eS) (aq 0 (zE eS) c Y2)))))))) (λ_=>Y2) λ_=>Y2)
theorem MK:∀v bs,(aZ eD (aZ eS (aZ eI aN))) v bs->bs.length=3/\(B4 (Z (lY v.1 v.2.1 v.2.2.1))->pD (bs.map lend)=Z ((zE eB) (jz v.1 v.2.1 v.2.2.1))):=by
 rintro⟨b,c,a,_⟩ _ ⟨_,rfl,⟨_,rfl,⟨_,rfl,rfl⟩⟩⟩;exact⟨rfl,λh=>bO (g:=pC) (n:=3) (bs:=[.z (eD b),.z (eS c),.z (eI a)]) (MJ b c a) h⟩
def dI(a:Dt):Bool:=(jz a ("abcdefghijklmnopqrstuvwxyz":AJ) 8)
def pQ(a:Dt):Prop:=(lY a ("abcdefghijklmnopqrstuvwxyz":AJ) 8)
theorem WL(a:Dt):RP xQ [Z (zE eD a)] (λr=>Ap.rt (zE eB r)) (dI a) (Z (pQ a)):=R.tp (cu (λr=>r) (AZ MK (bJ (aq 0 (zE eD) a Y2) (bJ (xY "abcdefghijklmnopqrstuvwxyz") (bJ (B6 8) aU)))) (λ_=>Y2) λ_=>Y2)
theorem Cg:∀v bs,(aZ eD aN) v bs->bs.length=1/\(B4 (Z (pQ v.1))->mX (bs.map lend)=Z ((zE eB) (dI v.1))):=by
 rintro⟨a,_⟩ _ ⟨_,rfl,rfl⟩;exact⟨rfl,λh=>bO (g:=xQ) (n:=1) (bs:=[.z (eD a)]) (WL a) h⟩
def pL(val:At):Bool:=(((rng 0 ((val.length:Int)-1).toNat).map λa:Int=>(qI (As val a) (As val (a+1)))).all id)
def pN(val:At):Prop:=((Rg ((val.length:Int)-1)/\(rng 0 ((val.length:Int)-1).toNat).length<=100000)/\(∀a∈(rng 0 ((val.length:Int)-1).toNat),(In val.length a/\In val.length (a+1))))
theorem MN(val:At):RP fU [Z ((zE (eT eS)) val)] (λr=>Ap.rt (zE eB r)) (pL val) (Z (pN val)):=R.tp (cu (λr=>r) (yh (gK (wA (u5 (CK (R7 (aq 0 (zE (eT eS)) val Y2)) (B6 1))) _ (λ_=>Y2) (λa:Int=>(Re (Ph (aq 0 (zE (eT eS)) val Y2) (aq 1 (zE eI) a Y2)) (Ph (aq 0 (zE (eT eS)) val Y2) (gM (aq 1 (zE eI) a Y2) (B6 1)))))))) (λ_=>Y2) λ_=>Y2)
theorem MP:∀v bs,(aZ (eT eS) aN) v bs->bs.length=1/\(B4 (Z (pN v.1))->dJ (bs.map lend)=Z ((zE eB) (pL v.1))):=by
 rintro⟨val,_⟩ _ ⟨_,rfl,rfl⟩;exact⟨rfl,λh=>bO (g:=fU) (n:=1) (bs:=[.z (eT eS val)]) (MN val) h⟩
def kZ(a:At):Bool:=((An (eT eS a))&&(((a.map λb:AJ=>(dI (eS b))).all id)&&(pL a)))
def rM(a:At):Prop:=((An (eT eS a))=true->((a.length<=100000/\(∀b∈a,(pQ (eS b))))/\(((a.map λb:AJ=>(dI (eS b))).all id)=true->(pN a))))
theorem Qy(a:At):RP qU [Z ((zE (eT eS)) a)] (λr=>Ap.rt (zE eB r)) (kZ a) (Z (rM a)):=R.tp (cu (λr=>r) (fP (CP An (aq 0 (zE (eT eS)) a Y2)) (fP (yh (gK (wA (Pn (aq 0 (zE (eT eS)) a Y2)) _ (λ_=>Y2) (λb:AJ=>(kj (AZ Cg (bJ (oY (aq 0 (zE eS) b Y2)) aU))))))) (AZ MP (bJ (aq 0 (zE (eT eS)) a Y2) aU)))) (λ_=>Y2) λ_=>Y2)
theorem Qz:∀v bs,(aZ (eT eS) aN) v bs->bs.length=1/\(B4 (Z (rM v.1))->qW (bs.map lend)=Z ((zE eB) (kZ v.1))):=by
 rintro⟨a,_⟩ _ ⟨_,rfl,rfl⟩;exact⟨rfl,λh=>bO (g:=qU) (n:=1) (bs:=[.z (eT eS a)]) (Qy a) h⟩
def jh(a:Dt):Bool:=((Bq a)&&(!(BO a)))
theorem Tf(a:Dt):RP uK [Z (zE eD a)] (λr=>Ap.rt (zE eB r)) (jh a) O:=R.tp (cu (λr=>r) (fP (CP Bq (aq 0 (zE eD) a Y2)) (U1 (CP BO (aq 0 (zE eD) a Y2)))) (λ_=>Y2) λ_=>Y2)
theorem G7:∀v bs,(aZ eD aN) v bs->bs.length=1/\(B4 (O)->mY (bs.map lend)=Z ((zE eB) (jh v.1))):=by
 rintro⟨a,_⟩ _ ⟨_,rfl,rfl⟩;exact⟨rfl,λh=>bO (g:=uK) (n:=1) (bs:=[.z (eD a)]) (Tf a) h⟩
def oG(a:Dt):Bool:=((jh a)&&((decide ((1:Int)<=(qz a)))&&(decide ((qz a)<=1000))))
def rN(a:Dt):Prop:=((jh a)=true->(a=eI (qz a)/\((decide ((1:Int)<=(qz a)))=true->a=eI (qz a))))
theorem QC(a:Dt):RP qX [Z (zE eD a)] (λr=>Ap.rt (zE eB r)) (oG a) (Z (rN a)):=R.tp (cu (λr=>r) (fP (AZ G7 (bJ (aq 0 (zE eD) a Y2) aU)) (HL (F8 (B6 1) (cX (aq 0 (zE eD) a Y2) qz eI)) (F8 (cX (aq 0 (zE eD) a Y2) qz eI) (B6 1000)))) (λ_=>Y2) λ_=>Y2)
theorem QD:∀v bs,(aZ eD aN) v bs->bs.length=1/\(B4 (Z (rN v.1))->qY (bs.map lend)=Z ((zE eB) (oG v.1))):=by
 rintro⟨a,_⟩ _ ⟨_,rfl,rfl⟩;exact⟨rfl,λh=>bO (g:=qX) (n:=1) (bs:=[.z (eD a)]) (QC a) h⟩
def qw(a:Dt):Bool:=(if(!(dH a 3))=true then false else(let q1:=(Ff a);((dI q1.1)&&((dI q1.2.1)&&((qI (ji q1.1) (ji q1.2.1))&&((jh q1.2.2)&&(decide ((0:Int)<=(qz q1.2.2)))))))))
def wR(a:Dt):Prop:=((nC a 3)/\((!(dH a 3))=false->(a=Ic (Ff a)/\(let q1:=(Ff a);((pQ q1.1)/\((dI q1.1)=true->((pQ q1.2.1)/\((dI q1.2.1)=true->((q1.1=eS (ji q1.1)/\q1.2.1=eS (ji q1.2.1))/\((qI (ji q1.1) (ji q1.2.1))=true->((jh q1.2.2)=true->q1.2.2=eI (qz q1.2.2))))))))))))
theorem Z1(a:Dt):RP Am [Z (zE eD a),O,O,O] (λr=>Ap.rt (zE eB r)) (qw a) (Z (wR a)):=R.tp (jP (zQ (Gh (AZ yX (bJ (aq 0 (zE eD) a Y2) (bJ (B6 3) aU))))) (bV (cu (λr=>r) (oX (.bl false) eB false Y2) (λ_=>Y2) λ_=>Y2)) (cG (Y9 (cX (aq 0 (zE eD) a Y2) Ff Ic) _ (λ_=>Y2) λq1=>(cu (λr=>r) (fP (AZ Cg (bJ (aq 1 (zE eD) q1.1 Y2) aU)) (fP (AZ Cg (bJ (aq 2 (zE eD) q1.2.1 Y2) aU)) (fP (LB (cX (aq 1 (zE eD) q1.1 Y2) ji eS) (cX (aq 2 (zE eD) q1.2.1 Y2) ji eS)) (fP (AZ G7 (bJ (aq 3 (zE eD) q1.2.2 Y2) aU)) (Cc (cX (aq 3 (zE eD) q1.2.2 Y2) qz eI) (B6 0)))))) (λ_=>Y2) λ_=>Y2))))
theorem QF:∀v bs,(aZ eD aN) v bs->bs.length=1/\(B4 (Z (wR v.1))->tH (bs.map lend)=Z ((zE eB) (qw v.1))):=by
 rintro⟨a,_⟩ _ ⟨_,rfl,rfl⟩;exact⟨rfl,λh=>bO (g:=Am) (n:=4) (bs:=[.z (eD a)]) (Z1 a) h⟩
def lq(a:Dt):Bool:=((dH a 4)&&((oG (cT a 0))&&(qw (Dt.tup (BB (oN a) (Z 1) O)))))
def rO(a:Dt):Prop:=((nC a 4)/\((dH a 4)=true->((vG a (0:Int)/\(rN (cT a 0)))/\((oG (cT a 0))=true->(An a=true/\(wR (Dt.tup (BB (oN a) (Z 1) O))))))))
theorem QG(a:Dt):RP qZ [Z (zE eD a)] (λr=>Ap.rt (zE eB r)) (lq a) (Z (rO a)):=R.tp (cu (λr=>r) (fP (AZ yX (bJ (aq 0 (zE eD) a Y2) (bJ (B6 4) aU))) (fP (AZ QD (bJ (gO (aq 0 (zE eD) a Y2) (B6 0)) aU)) (AZ QF (bJ (kj (NS (aq 0 (zE eD) a Y2) (zT (B6 1)) zR)) aU)))) (λ_=>Y2) λ_=>Y2)
theorem QH:∀v bs,(aZ eD aN) v bs->bs.length=1/\(B4 (Z (rO v.1))->q8 (bs.map lend)=Z ((zE eB) (lq v.1))):=by
 rintro⟨a,_⟩ _ ⟨_,rfl,rfl⟩;exact⟨rfl,λh=>bO (g:=qZ) (n:=1) (bs:=[.z (eD a)]) (QG a) h⟩
def lZ(val:Y bx):Bool:=(((rng 0 ((val.length:Int)-1).toNat).map λa:Int=>(Zc aY (As val a) (As val (a+1)))).all id)
def mj(val:Y bx):Prop:=((Rg ((val.length:Int)-1)/\(rng 0 ((val.length:Int)-1).toNat).length<=100000)/\(∀a∈(rng 0 ((val.length:Int)-1).toNat),(In val.length a/\In val.length (a+1))))
theorem G8(val:Y bx)(a:Lp gY (val.map aY)):RP fU [Z gY] (λr=>Ap.rt (zE eB r)) (lZ val) (Z (mj val)):=R.tp (cu (λr=>r) (yh (gK (wA (u5 (CK (BY (fD 0 aY val a Y2)) (B6 1))) _ (λ_=>Y2) (λb:Int=>(Zg (lJ (fD 0 aY val a (congrArg Z (a.get Y2))) (aq 1 (zE eI) b Y2)) (lJ (fD 0 aY val a (congrArg Z (a.get Y2))) (gM (aq 1 (zE eI) b Y2) (B6 1)))))))) (λ_=>Y2) λ_=>Y2)
theorem G9:∀v bs,(aL aY aN) v bs->bs.length=1/\(B4 (Z (mj v.1))->dJ (bs.map lend)=Z ((zE eB) (lZ v.1))):=by
 rintro⟨val,_⟩ _ ⟨gY,_,rfl,a,rfl⟩;exact⟨rfl,λh=>bO (g:=fU) (n:=1) (bs:=[lend gY]) (G8 val (u0 a)) h⟩
def iK(b:Y bx)(c:At):Bool:=(if((!(An (eT aY b)))||(!((b.map λa:bx=>(lq (aY a))).all id)))=true then false else(if(!((b.map λa:bx=>((decide (a.2.1∈c))&&(decide (a.2.2.1∈c)))).all id))=true then false else(lZ (b.map λa:bx=>(aJ a)))))
def nY(a:Y bx)(c:At):Prop:=(((!(An (eT aY a)))=false->(a.length<=100000/\(∀b∈a,(rO (aY b)))))/\(((!(An (eT aY a)))||(!((a.map λb:bx=>(lq (aY b))).all id)))=false->(a.length<=100000/\((!((a.map λb:bx=>((decide (b.2.1∈c))&&(decide (b.2.2.1∈c)))).all id))=false->(a.length<=100000/\(mj (a.map λb:bx=>(aJ b))))))))
theorem Iw(a:Y bx)(c:At):RP nO [Z ((zE (eT aY)) a),Z ((zE (eT eS)) c)] (λr=>Ap.rt (zE eB r)) (iK a c) (Z (nY a c)):=R.tp (jP (Gi (zQ (Gh (CP An (aq 0 (zE (eT aY)) a Y2)))) (zQ (Gh (yh (gK (wA (Pn (aq 0 (zE (eT aY)) a Y2)) _ (λ_=>Y2) (λb:bx=>(kj (AZ QH (bJ (oY (aq 0 (zE aY) b Y2)) aU)))))))))) (bV (cu (λr=>r) (oX (.bl false) eB false Y2) (λ_=>Y2) λ_=>Y2)) (cG (jP (zQ (Gh (yh (gK (pq (Pn (aq 0 (zE (eT aY)) a Y2)) _ (λ_=>Y2) (λb:bx=>(fP (Uu (gP (aq 1 (zE aY) b Y2) (λq=>q.2.1) eS 1 λ_=>Y2) (aq 0 (zE (eT eS)) c Y2)) (Uu (gP (aq 1 (zE aY) b Y2) (λq=>q.2.2.1) eS 2 λ_=>Y2) (aq 0 (zE (eT eS)) c Y2)))) λ_=>Y2))))) (bV (cu (λr=>r) (oX (.bl false) eB false Y2) (λ_=>Y2) λ_=>Y2)) (cG (cu (λr=>r) (AZ G9 (wz (vA (Pb (pq (Pn (aq 0 (zE (eT aY)) a Y2)) _ (λ_=>Y2) (λb:bx=>(kj (AZ yW (bJ (aq 0 (zE aY) b Y2) aU)))) λ_=>Y2))) aU)) (λ_=>Y2) λ_=>Y2)))))
theorem Iz:∀v bs,(aZ (eT aY) (aZ (eT eS) aN)) v bs->bs.length=2/\(B4 (Z (nY v.1 v.2.1))->nQ (bs.map lend)=Z ((zE eB) (iK v.1 v.2.1))):=by
 rintro⟨a,b,_⟩ _ ⟨_,rfl,⟨_,rfl,rfl⟩⟩;exact⟨rfl,λh=>bO (g:=nO) (n:=2) (bs:=[.z (eT aY a),.z (eT eS b)]) (Iw a b) h⟩
def mC(val:Y cV):Bool:=(((rng 0 ((val.length:Int)-1).toNat).map λa:Int=>(Zc dD (As val a) (As val (a+1)))).all id)
def mD(val:Y cV):Prop:=((Rg ((val.length:Int)-1)/\(rng 0 ((val.length:Int)-1).toNat).length<=100000)/\(∀a∈(rng 0 ((val.length:Int)-1).toNat),(In val.length a/\In val.length (a+1))))
theorem Hf(val:Y cV):RP fU [Z ((zE (eT dD)) val)] (λr=>Ap.rt (zE eB r)) (mC val) (Z (mD val)):=R.tp (cu (λr=>r) (yh (gK (wA (u5 (CK (R7 (aq 0 (zE (eT dD)) val Y2)) (B6 1))) _ (λ_=>Y2) (λa:Int=>(Zg (Ph (aq 0 (zE (eT dD)) val Y2) (aq 1 (zE eI) a Y2)) (Ph (aq 0 (zE (eT dD)) val Y2) (gM (aq 1 (zE eI) a Y2) (B6 1)))))))) (λ_=>Y2) λ_=>Y2)
theorem Hg:∀v bs,(aZ (eT dD) aN) v bs->bs.length=1/\(B4 (Z (mD v.1))->dJ (bs.map lend)=Z ((zE eB) (mC v.1))):=by
 rintro⟨val,_⟩ _ ⟨_,rfl,rfl⟩;exact⟨rfl,λh=>bO (g:=fU) (n:=1) (bs:=[.z (eT dD val)]) (Hf val) h⟩
def qx(b:Y cV)(c:At):Bool:=(if((!(An (eT dD b)))||(!((b.map λa:cV=>(qw (dD a))).all id)))=true then false else(((b.map λa:cV=>((decide (a.1∈c))&&(decide (a.2.1∈c)))).all id)&&(mC b)))
def uU(a:Y cV)(c:At):Prop:=(((!(An (eT dD a)))=false->(a.length<=100000/\(∀b∈a,(wR (dD b)))))/\(((!(An (eT dD a)))||(!((a.map λb:cV=>(qw (dD b))).all id)))=false->(a.length<=100000/\(((a.map λb:cV=>((decide (b.1∈c))&&(decide (b.2.1∈c)))).all id)=true->(mD a)))))
theorem Tg(a:Y cV)(b:At):RP uL [Z ((zE (eT dD)) a),Z ((zE (eT eS)) b)] (λr=>Ap.rt (zE eB r)) (qx a b) (Z (uU a b)):=R.tp (jP (Gi (zQ (Gh (CP An (aq 0 (zE (eT dD)) a Y2)))) (zQ (Gh (yh (gK (wA (Pn (aq 0 (zE (eT dD)) a Y2)) _ (λ_=>Y2) (λc:cV=>(kj (AZ QF (bJ (oY (aq 0 (zE dD) c Y2)) aU)))))))))) (bV (cu (λr=>r) (oX (.bl false) eB false Y2) (λ_=>Y2) λ_=>Y2)) (cG (cu (λr=>r) (fP (yh (gK (pq (Pn (aq 0 (zE (eT dD)) a Y2)) _ (λ_=>Y2) (λc:cV=>(fP (Uu (gP (aq 1 (zE dD) c Y2) (λq=>q.1) eS 0 λ_=>Y2) (aq 0 (zE (eT eS)) b Y2)) (Uu (gP (aq 1 (zE dD) c Y2) (λq=>q.2.1) eS 1 λ_=>Y2) (aq 0 (zE (eT eS)) b Y2)))) λ_=>Y2))) (AZ Hg (bJ (aq 0 (zE (eT dD)) a Y2) aU))) (λ_=>Y2) λ_=>Y2)))
theorem Ti:∀v bs,(aZ (eT dD) (aZ (eT eS) aN)) v bs->bs.length=2/\(B4 (Z (uU v.1 v.2.1))->uM (bs.map lend)=Z ((zE eB) (qx v.1 v.2.1))):=by
 rintro⟨a,b,_⟩ _ ⟨_,rfl,⟨_,rfl,rfl⟩⟩;exact⟨rfl,λh=>bO (g:=uL) (n:=2) (bs:=[.z (eT dD a),.z (eT eS b)]) (Tg a b) h⟩
def fY(a:Wo):Bool:=(if(!(dH (jD a) 3))=true then false else(let q1:=a;((kZ q1.1)&&((iK q1.2.1 q1.1)&&(qx q1.2.2 q1.1)))))
def oH(a:Wo):Prop:=((nC (jD a) 3)/\((!(dH (jD a) 3))=false->(let q1:=a;((rM q1.1)/\((kZ q1.1)=true->((nY q1.2.1 q1.1)/\((iK q1.2.1 q1.1)=true->(uU q1.2.2 q1.1))))))))
theorem QJ(a:Wo):RP q9 [Z (zE jD a),O,O,O] (λr=>Ap.rt (zE eB r)) (fY a) (Z (oH a)):=R.tp (jP (zQ (Gh (AZ yX (bJ (oY (aq 0 (zE jD) a Y2)) (bJ (B6 3) aU))))) (bV (cu (λr=>r) (oX (.bl false) eB false Y2) (λ_=>Y2) λ_=>Y2)) (cG (Y9 (aq 0 (zE jD) a Y2) _ (λ_=>Y2) λq1=>(cu (λr=>r) (fP (AZ Qz (bJ (aq 1 (zE (eT eS)) q1.1 Y2) aU)) (fP (AZ Iz (bJ (aq 2 (zE (eT aY)) q1.2.1 Y2) (bJ (aq 1 (zE (eT eS)) q1.1 Y2) aU))) (AZ Ti (bJ (aq 3 (zE (eT dD)) q1.2.2 Y2) (bJ (aq 1 (zE (eT eS)) q1.1 Y2) aU))))) (λ_=>Y2) λ_=>Y2))))
theorem QK:∀v bs,(aZ jD aN) v bs->bs.length=1/\(B4 (Z (oH v.1))->rA (bs.map lend)=Z ((zE eB) (fY v.1))):=by
 rintro⟨a,_⟩ _ ⟨_,rfl,rfl⟩;exact⟨rfl,λh=>bO (g:=q9) (n:=4) (bs:=[.z (jD a)]) (QJ a) h⟩
def mF(d:Y bx)(b:BC)(c:Y bx)(a:Int):(Y bx):=(let c:=(qF (((As b (a%(b.length:Int))) / (1+(a / (b.length:Int))))%(a+1)).toNat (As d a) c);c)
def rP(c:Y bx)(a:BC)(d:Y bx)(b:Int):Prop:=((((((0<(a.length:Int)/\In a.length (b%(a.length:Int)))/\(0<(a.length:Int)/\(a.length:Int)<1073741824))/\(0<(1+(b / (a.length:Int)))/\(1+(b / (a.length:Int)))<1073741824))/\0<(b+1))/\In c.length b)/\((0<=(((As a (b%(a.length:Int))) / (1+(b / (a.length:Int))))%(b+1))/\(((As a (b%(a.length:Int))) / (1+(b / (a.length:Int))))%(b+1))<=1000000)/\d.length<1000000))
theorem Av(d:Y bx)(f:Lp gY (d.map aY))(c:BC)(e:Lp b_1 (c.map eI))(a:Y bx)(b:Int):RP oO [Z gY,Z b_1,Z (oE aY a),Z (zE eI b)] (λs=>Ap.nx ((λa:(Y bx)=>[Z gY,Z b_1,Z (oE aY a),O]) s)) (mF d c a b) (Z (rP d c a b)):=R.tp (bV (Ll 2 a Y2 (Pg (Ga (lJ (fD 1 eI c e Y2) (Pg (aq 3 (zE eI) b Y2) (BY (fD 1 eI c e Y2)))) (gM (B6 1) (Ga (aq 3 (zE eI) b Y2) (BY (fD 1 eI c e Y2))))) (gM (aq 3 (zE eI) b Y2) (B6 1))) (lJ (fD 0 aY d f Y2) (aq 3 (zE eI) b Y2)) λa=>(cG (cL a Y2))))
def gW(b:Y bx)(c:BC):(Y bx):=(let a:=([]:Y bx);(let a:(Y bx):=((rng 0 (b.length:Int).toNat).foldl (λ(a:Y bx) (d:Int)=>(mF b c a d)) a);a))
def mG(b:Y bx)(d:BC):Prop:=(let a:=([]:Y bx);(Rg (b.length:Int)/\rW (λ(a:Y bx) (c:Int)=>(mF b d a c)) (λ(a:Y bx) (c:Int)=>Z (rP b d a c)) (rng 0 (b.length:Int).toNat) a))
theorem Hh(b:Y bx)(d:Lp gY (b.map aY))(c:BC)(f:Lp b_1 (c.map eI)):RP jq [Z gY,Z b_1,O,O] (λr=>Ap.rt (oE aY r)) (gW b c) (Z (mG b c)):=R.tp (bZ 2 (kE (eE aY) (zC Y2)) (λ_=>Y2) λa=>(zY (λa:(Y bx)=>[Z gY,Z b_1,Z (oE aY a),O]) a Y2 (u5 (BY (fD 0 aY b d Y2))) _ (λ_ _=>Y2) (λ(a:Y bx) (e:Int)=>(Av b d c f a e).r) λa=>(K8 2 (λr=>r) a Y2 (λ_=>Y2) λ_=>Y2)))
theorem Hi:∀v bs,(aL aY (aL eI aN)) v bs->bs.length=2/\(B4 (Z (mG v.1 v.2.1))->jr (bs.map lend)=Z ((oE aY) (gW v.1 v.2.1))):=by
 rintro⟨b,c,_⟩ _ ⟨gY,_,rfl,a,⟨b_1,_,rfl,d,rfl⟩⟩;exact⟨rfl,λh=>bO (g:=jq) (n:=4) (bs:=[lend gY,lend b_1]) (Hh b (u0 a) c (u0 d)) h⟩
def dN(a:Y bx):(Y bx):=(tD aY (λx:bx=>aJ x) a)
def jA(a:Y bx):Prop:=((∀x∈a,True)/\a.length<=100000/\∀x∈a,∀y∈a,aJ x=aJ y->x=y)
theorem M5(a:Y bx):RP mW [Z ((zE (eT aY)) a)] (λr=>Ap.rt (oE aY r)) (dN a) (Z (jA a)):=R.tp (cu (λr=>r) (PJ (e':=aY) yW (MB (aq 0 (zE (eT aY)) a Y2))) (λ_=>Y2) λ_=>Y2)
theorem Aw:∀v bs,(aZ (eT aY) aN) v bs->bs.length=1/\(B4 (Z (jA v.1))->fG (bs.map lend)=Z ((oE aY) (dN v.1))):=by
 rintro⟨a,_⟩ _ ⟨_,rfl,rfl⟩;exact⟨rfl,λh=>bO (g:=mW) (n:=1) (bs:=[.z (eT aY a)]) (M5 a) h⟩
def qy(d:BC)(c:At)(a:Y aV)(b:Int):(Y aV):=(let a:=a++[(nA (As c b) (bN (bY d (1+b)) 4))];a)
def Ax(b:BC)(c:At)(d:Y aV)(a:Int):Prop:=(((In c.length a/\((j7 b (1+a))/\(iI (bY b (1+a)) 4)))/\(tM (As c a) (bN (bY b (1+a)) 4)))/\wk d.length)
theorem Z2(d:BC)(g:Lp gY (d.map eI))(e:BC)(f:BM)(b:At)(a:Y aV)(c:Int):RP PX [Z gY,Z (oE eI e),Z ((zE (eT eD)) f),Z (oE eS b),Z (oE aQ a),Z (zE eI c),O,O,O,O,O,O,O,O,O,O] (λs=>Ap.nx ((λa:(Y aV)=>[Z gY,Z (oE eI e),Z ((zE (eT eD)) f),Z (oE eS b),Z (oE aQ a),O,O,O,O,O,O,O,O,O,O,O]) s)) (qy d b a c) (Z (Ax d b a c)):=R.tp (bV (wB 4 a Y2 (kj (AZ Ww (bJ (lJ (iT (aq 3 (lE eS) b Y2)) (aq 5 (zE eI) c Y2)) (wz (vA (Pb (AZ sE (bJ (kj (AZ yU (wz (fD 0 eI d g Y2) (bJ (kj (gM (B6 1) (aq 5 (zE eI) c Y2))) aU)))) (bJ (B6 4) aU))))) aU)))) λa=>(cG (cL a Y2))))
def QL(h:BC):Bool:=(let d:=(bN (bY h 0) 18);(let g:=((bL d)++(BB (bL (BB d (Z 5) O)) O (Z 2)));(let k:=(dw (BB d (Z 10) O) ((As d 16)%7));(let b:=([]:Y aV);(let b:(Y aV):=((rng 0 (k.length:Int).toNat).foldl (λ(b:Y aV) (n:Int)=>(qy h k b n)) b);(let j:=(bN (bY h 9) 12);(let b:=(jw b j);(let vs:=(pO b g);(let c:=(aO b g);(if((!decide (c=vs))||((!((fY c)==true))||(!decide ((aO b.reverse g)=vs))))=true then false else(if(!(((V6 (Dt.tup (oN (Dt.tup (oN (jD c)++oN ((eT aY) c.2.1)))++oN ((eT dD) c.2.2)))).map λq:Dt=>(An q)).all id))=true then false else(let o:=[((5:Int),("a":AJ),("b":AJ),(100:Int)),((5:Int),("a":AJ),("b":AJ),(2:Int)),((50:Int),("b":AJ),("c":AJ),(10:Int)),((5:Int),("a":AJ),("b":AJ),(10:Int)),((5:Int),("a":AJ),("ab":AJ),(9:Int))];(let f:=(gW ((vs.2.1++(BB vs.2.1 O (Z 2)))++o) (BB j (Z 3) O));(let m:=f;(let l:=(aX m);(let p:=(gC aY (f.map λa:bx=>(((0:Int)-a.1),(a.2.1,a.2.2.1,a.2.2.2).1,(a.2.1,a.2.2.1,a.2.2.2).2.1,(a.2.1,a.2.2.1,a.2.2.2).2.2)));(if((!true)||((!decide (l=(p.map λa:bx=>(((0:Int)-a.1),(a.2.1,a.2.2.1,a.2.2.2).1,(a.2.1,a.2.2.1,a.2.2.2).2.1,(a.2.1,a.2.2.1,a.2.2.2).2.2))))||(!decide (m=f))))=true then false else(let i:=vs.2.1;(let e:=(aX i);(let e:=e++[((1:Int),("zz":AJ),("zzz":AJ),(0:Int))];(let e:=e.reverse;(if((!decide (i=vs.2.1))||(!decide ((aX i)=vs.2.1)))=true then false else(if((!decide ((aO b ([]:Y Dt))=(vs.1,([]:Y bx),([]:Y cV))))||(!decide ((aO ([]:Y aV) ([]:Y Dt))=(([]:At),([]:Y bx),([]:Y cV)))))=true then false else((decide ((dN f)=l))&&((decide ((dN ([]:Y bx))=([]:Y bx)))&&(decide ((aO ([]:Y aV) g)=(([]:At),([]:Y bx),([]:Y cV)))))))))))))))))))))))))))))
def QM(e:BC):Prop:=(((j7 e 0)/\(iI (bY e 0) 18))/\(let d:=(bN (bY e 0) 18);((((ou d)/\(ou (BB d (Z 5) O)))/\wk ((bL d).length+(BB (bL (BB d (Z 5) O)) O (Z 2)).length))/\(let g:=((bL d)++(BB (bL (BB d (Z 5) O)) O (Z 2)));((In d.length 16/\(rK (BB d (Z 10) O) ((As d 16)%7)))/\(let h:=(dw (BB d (Z 10) O) ((As d 16)%7));(let c:=([]:Y aV);((Rg (h.length:Int)/\rW (λ(c:Y aV) (k:Int)=>(qy e h c k)) (λ(c:Y aV) (k:Int)=>Z (Ax e h c k)) (rng 0 (h.length:Int).toNat) c)/\(let c:(Y aV):=((rng 0 (h.length:Int).toNat).foldl (λ(c:Y aV) (k:Int)=>(qy e h c k)) c);(((j7 e 9)/\(iI (bY e 9) 12))/\(let l:=(bN (bY e 9) 12);((pJ c l)/\(let c:=(jw c l);((tO c g)/\(let vs:=(pO c g);((cW c g)/\(let b:=(aO c g);(((!decide (b=vs))=false->((oH b)/\((!((fY b)==true))=false->(cW c.reverse g))))/\(((!decide (b=vs))||((!((fY b)==true))||(!decide ((aO c.reverse g)=vs))))=false->(((((An (jD b)=true/\An ((eT aY) b.2.1)=true/\wk ((oN (jD b)).length+(oN ((eT aY) b.2.1)).length))/\(An (Dt.tup (oN (jD b)++oN ((eT aY) b.2.1)))=true/\An ((eT dD) b.2.2)=true/\wk ((oN (Dt.tup (oN (jD b)++oN ((eT aY) b.2.1)))).length+(oN ((eT dD) b.2.2)).length)))/\DK (Dt.tup (oN (Dt.tup (oN (jD b)++oN ((eT aY) b.2.1)))++oN ((eT dD) b.2.2)))=true)/\(V6 (Dt.tup (oN (Dt.tup (oN (jD b)++oN ((eT aY) b.2.1)))++oN ((eT dD) b.2.2)))).length<=100000)/\((!(((V6 (Dt.tup (oN (Dt.tup (oN (jD b)++oN ((eT aY) b.2.1)))++oN ((eT dD) b.2.2)))).map λq:Dt=>(An q)).all id))=false->(let m:=[((5:Int),("a":AJ),("b":AJ),(100:Int)),((5:Int),("a":AJ),("b":AJ),(2:Int)),((50:Int),("b":AJ),("c":AJ),(10:Int)),((5:Int),("a":AJ),("b":AJ),(10:Int)),((5:Int),("a":AJ),("ab":AJ),(9:Int))];(((wk (vs.2.1.length+(BB vs.2.1 O (Z 2)).length)/\wk ((vs.2.1++(BB vs.2.1 O (Z 2))).length+m.length))/\(mG ((vs.2.1++(BB vs.2.1 O (Z 2)))++m) (BB l (Z 3) O)))/\(let f:=(gW ((vs.2.1++(BB vs.2.1 O (Z 2)))++m) (BB l (Z 3) O));(let n:=f;((j9 n)/\(let p:=(aX n);((f.length<=100000/\(f.map λa:bx=>(((0:Int)-a.1),(a.2.1,a.2.2.1,a.2.2.2).1,(a.2.1,a.2.2.1,a.2.2.2).2.1,(a.2.1,a.2.2.1,a.2.2.2).2.2)).length<=100000)/\(let o:=(gC aY (f.map λa:bx=>(((0:Int)-a.1),(a.2.1,a.2.2.1,a.2.2.2).1,(a.2.1,a.2.2.1,a.2.2.2).2.1,(a.2.1,a.2.2.1,a.2.2.2).2.2)));(((!true)=false->o.length<=100000)/\(((!true)||((!decide (p=(o.map λa:bx=>(((0:Int)-a.1),(a.2.1,a.2.2.1,a.2.2.2).1,(a.2.1,a.2.2.1,a.2.2.2).2.1,(a.2.1,a.2.2.1,a.2.2.2).2.2))))||(!decide (n=f))))=false->(let i:=vs.2.1;((j9 i)/\(let j:=(aX i);(wk j.length/\(let j:=j++[((1:Int),("zz":AJ),("zzz":AJ),(0:Int))];(let j:=j.reverse;(((!decide (i=vs.2.1))=false->(j9 i))/\(((!decide (i=vs.2.1))||(!decide ((aX i)=vs.2.1)))=false->(((cW c ([]:Y Dt))/\((!decide ((aO c ([]:Y Dt))=(vs.1,([]:Y bx),([]:Y cV))))=false->(cW ([]:Y aV) ([]:Y Dt))))/\(((!decide ((aO c ([]:Y Dt))=(vs.1,([]:Y bx),([]:Y cV))))||(!decide ((aO ([]:Y aV) ([]:Y Dt))=(([]:At),([]:Y bx),([]:Y cV)))))=false->((jA f)/\((decide ((dN f)=p))=true->((jA ([]:Y bx))/\((decide ((dN ([]:Y bx))=([]:Y bx)))=true->(cW ([]:Y aV) g))))))))))))))))))))))))))))))))))))))))))))))
theorem c6(d:BC)(j:Lp gY (d.map eI)):RP U4 [Z gY,O,O,O,O,O,O,O,O,O,O,O,O,O,O,O] (λr=>Ap.rt (zE eB r)) (QL d) (Z (QM d)):=R.tp (bZ 1 (AZ sE (bJ (kj (AZ yU (wz (fD 0 eI d j Y2) (bJ (B6 0) aU)))) (bJ (B6 18) aU))) (λ_=>Y2) λb=>(bZ 2 (ah (AZ Dp (wz (iT (aq 1 (lE eI) b Y2)) aU)) (IP (AZ Dp (wz (vA (Pb (YW (iT (aq 1 (lE eI) b Y2)) (zT (B6 5)) zR))) aU)) zR (zT (B6 2)))) (λ_=>Y2) λc=>(bZ 3 (AZ Qs (wz (vA (Pb (YW (iT (aq 1 (lE eI) b Y2)) (zT (B6 10)) zR))) (bJ (dG (lJ (iT (aq 1 (lE eI) b Y2)) (B6 16)) 7 ()) aU))) (λ_=>Y2) λi=>(bZ 4 (kE (eE aQ) (zC Y2)) (λ_=>Y2) λa=>(zY (λa:(Y aV)=>[Z gY,Z (oE eI b),Z ((zE (eT eD)) c),Z (oE eS i),Z (oE aQ a),O,O,O,O,O,O,O,O,O,O,O]) a Y2 (u5 (BY (iT (aq 3 (lE eS) i Y2)))) _ (λ_ _=>Y2) (λ(a:Y aV) (p:Int)=>(Z2 d j b c i a p).r) λa=>(bZ 6 (AZ sE (bJ (kj (AZ yU (wz (fD 0 eI d j Y2) (bJ (B6 9) aU)))) (bJ (B6 12) aU))) (λ_=>Y2) λm=>(bZ 4 (nG (gK (AZ Mt (wz (iT (aq 4 (lE aQ) a Y2)) (wz (iT (aq 6 (lE eI) m Y2)) aU))))) (λ_=>Y2) λa=>(bZ 7 (AZ Wy (bJ (aq 4 (zE (eT aQ)) a Y2) (bJ (aq 2 (zE (eT eD)) c Y2) aU))) (λ_=>Y2) λvs=>(bZ 8 (AZ oF (bJ (aq 4 (zE (eT aQ)) a Y2) (bJ (aq 2 (zE (eT eD)) c Y2) aU))) (λ_=>Y2) λf=>(jP (Gi (dU (YS () (aq 8 (zE jD) f Y2) (aq 7 (zE jD) vs Y2))) (Gi (dU (NF (AZ QK (bJ (aq 8 (zE jD) f Y2) aU)) (oX (.bl true) eB true Y2))) (dU (YS () (AZ oF (bJ (kj (O3 (aq 4 (zE (eT aQ)) a Y2))) (bJ (aq 2 (zE (eT eD)) c Y2) aU))) (aq 7 (zE jD) vs Y2))))) (bV (cu (λr=>r) (oX (.bl false) eB false Y2) (λ_=>Y2) λ_=>Y2)) (cG (jP (zQ (Gh (yh (gK (pq (LD (YX (YX (oY (aq 8 (zE jD) f Y2)) (oY (gP (aq 8 (zE jD) f Y2) (λq=>q.2.1) (eT aY) 1 λ_=>Y2))) (oY (gP (aq 8 (zE jD) f Y2) (λq=>q.2.2) (eT dD) 2 λ_=>Y2)))) _ (λ_=>Y2) (λo:Dt=>(kj (CP An (aq 0 (zE eD) o Y2)))) λ_=>Y2))))) (bV (cu (λr=>r) (oX (.bl false) eB false Y2) (λ_=>Y2) λ_=>Y2)) (cG (bZ 9 (kE (bB (uw (B6 5) (xY "a") (xY "b") (B6 100)) (bB (uw (B6 5) (xY "a") (xY "b") (B6 2)) (bB (uw (B6 50) (xY "b") (xY "c") (B6 10)) (bB (uw (B6 5) (xY "a") (xY "b") (B6 10)) (bB (uw (B6 5) (xY "a") (xY "ab") (B6 9)) (eE aY)))))) (zC Y2)) (λ_=>Y2) λs=>(bZ 10 (AZ Hi (wz (vA (Pb (Y0 (gK (Y0 (gK (zU (gP (aq 7 (zE jD) vs Y2) (λq=>q.2.1) (eT aY) 1 λ_=>Y2))) (gK (zU (IP (gP (aq 7 (zE jD) vs Y2) (λq=>q.2.1) (eT aY) 1 λ_=>Y2) zR (zT (B6 2))))))) (iT (aq 9 (lE aY) s Y2))))) (wz (vA (Pb (YW (iT (aq 6 (lE eI) m Y2)) (zT (B6 3)) zR))) aU))) (λ_=>Y2) λh=>(bZ 11 (Nl (iT (aq 10 (lE aY) h Y2))) (λ_=>Y2) λn=>(bZ 12 (AZ uT (wz (iT (aq 11 (lE aY) n Y2)) aU)) (λ_=>Y2) λk=>(bZ 13 (Ld (gK (pq (V5 (iT (aq 10 (lE aY) h Y2))) _ (λ_=>Y2) (λe:bx=>(kj (R9 (e3:=aY) (R5 (CK (B6 0) (gP (aq 0 (zE aY) e Y2) (λq=>q.1) eI 0 λ_=>Y2))) (MV (aq 0 (zE aY) e Y2) (λq=>(q.2.1,q.2.2.1,q.2.2.2)) dD (Z 1) O Y2 Y2 λ_=>Y2) (λx y=>(x,y.1,y.2.1,y.2.2)) λ_ _=>Y2))) λ_=>Y2))) (λ_=>Y2) λt=>(jP (Gi (zQ (Gh (ON BU (iT (aq 12 (lE aY) k Y2)) true λ_=>Y2))) (Gi (dU (Jx () (iT (aq 12 (lE aY) k Y2)) (gK (pq (V5 (iT (aq 13 (lE aY) t Y2))) _ (λ_=>Y2) (λe:bx=>(kj (R9 (e3:=aY) (R5 (CK (B6 0) (gP (aq 0 (zE aY) e Y2) (λq=>q.1) eI 0 λ_=>Y2))) (MV (aq 0 (zE aY) e Y2) (λq=>(q.2.1,q.2.2.1,q.2.2.2)) dD (Z 1) O Y2 Y2 λ_=>Y2) (λx y=>(x,y.1,y.2.1,y.2.2)) λ_ _=>Y2))) λ_=>Y2)))) (dU (Jx () (iT (aq 11 (lE aY) n Y2)) (iT (aq 10 (lE aY) h Y2)))))) (bV (cu (λr=>r) (oX (.bl false) eB false Y2) (λ_=>Y2) λ_=>Y2)) (cG (bZ 14 (zU (gP (aq 7 (zE jD) vs Y2) (λq=>q.2.1) (eT aY) 1 λ_=>Y2)) (λ_=>Y2) λl=>(bZ 15 (AZ uT (wz (iT (aq 14 (lE aY) l Y2)) aU)) (λ_=>Y2) λg=>(wB 15 g Y2 (uw (B6 1) (xY "zz") (xY "zzz") (B6 0)) λg=>(Rs 15 g Y2 λg=>(jP (Gi (dU (Jx () (iT (aq 14 (lE aY) l Y2)) (gK (zU (gP (aq 7 (zE jD) vs Y2) (λq=>q.2.1) (eT aY) 1 λ_=>Y2))))) (dU (Jx () (gK (AZ uT (wz (iT (aq 14 (lE aY) l Y2)) aU))) (gK (zU (gP (aq 7 (zE jD) vs Y2) (λq=>q.2.1) (eT aY) 1 λ_=>Y2)))))) (bV (cu (λr=>r) (oX (.bl false) eB false Y2) (λ_=>Y2) λ_=>Y2)) (cG (jP (Gi (dU (YS () (AZ oF (bJ (aq 4 (zE (eT aQ)) a Y2) (bJ (mQ eD) aU))) (yL (gP (aq 7 (zE jD) vs Y2) (λq=>q.1) (eT eS) 0 λ_=>Y2) (mQ aY) (mQ dD)))) (dU (YS () (AZ oF (bJ (mQ aQ) (bJ (mQ eD) aU))) (yL (mQ eS) (mQ aY) (mQ dD))))) (bV (cu (λr=>r) (oX (.bl false) eB false Y2) (λ_=>Y2) λ_=>Y2)) (cG (cu (λr=>r) (fP (Gg () (gK (AZ Aw (bJ (nG (iT (aq 10 (lE aY) h Y2))) aU))) (iT (aq 12 (lE aY) k Y2))) (fP (Gg () (gK (AZ Aw (bJ (mQ aY) aU))) (gK (kE (eE aY) (zC Y2)))) (By () (AZ oF (bJ (mQ aQ) (bJ (aq 2 (zE (eT eD)) c Y2) aU))) (yL (mQ eS) (mQ aY) (mQ dD))))) (λ_=>Y2) λ_=>Y2)))))))))))))))))))))))))))))
theorem MT:∀v bs,(aL eI aN) v bs->bs.length=1/\(B4 (Z (QM v.1))->F_law (bs.map lend)=Z ((zE eB) (QL v.1))):=by
 rintro⟨a,_⟩ _ ⟨gY,_,rfl,b,rfl⟩;exact⟨rfl,λh=>bO (g:=U4) (n:=16) (bs:=[lend gY]) (c6 a (u0 b)) h⟩
theorem Lm(h:∀a:Y Int,a.length<=63->QM a/\QL a=true):(∀a:Y Int,a.length<=63->F_law [.z (.lst (a.map .int))]=Z (.z (.bl true)))/\∀a:Y Int,a.length<=63->F_law [.l (a.map .int)]=Z (.z (.bl true)):=
 ⟨λa b=>((MT (a,dl) [.z (.lst (a.map .int))] ⟨_,_,rfl,rfl,rfl⟩).2 (h a b).1).trans (by rw[(h a b).2]),λa b=>((MT (a,dl) [.l (a.map .int)] ⟨_,_,rfl,rfl,rfl⟩).2 (h a b).1).trans (by rw[(h a b).2])⟩
end
end G10
end
section
set_option synthInstance.maxSize 100000
namespace G10
open L2 P1
theorem Tn(b:Y Int)(k:Int)(a:0<=k)(h1:k<=1000):j7 b k:=by
 unfold j7;exact⟨λh=>B9 a (by simpa using h),λ_=>L0 a ()⟩
theorem Z4(k:Nat)(s:Int×Y Int×Int)(hk:k<1000)(h:(0<=s.1/\s.1<1999999973)/\s.2.1.length=k/\(∀x∈s.2.1,0<=x)/\0<=s.2.2):jt s k/\(0<=(cR s k).1/\(cR s k).1<1999999973)/\(cR s k).2.1.length=k+1/\(∀x∈(cR s k).2.1,0<=x)/\0<=(cR s k).2.2:=by
 obtain⟨h1,h2,b,c⟩:=h;have a:In 2 (if(decide ((0:Int)<s.2.2))=true then(1:Int)else 0):=by split<;>exact B9 () ()
 refine⟨⟨L0 h1.1 (),a,?_⟩,jC _ (),?_,?_,Int.ediv_nonneg c ()⟩
 ·show s.2.1.length<=1000000;omega
 ·show(s.2.1++[_]).length=k+1;rw[zr,h2];rfl
 ·intro x hx;rcases cb.mp hx with hx|hx
  ·exact b x hx
  ·cases cf.mp hx;have:=Gp (xs:=[((((s.1*((s.1%65521)+40487))+(7*k))+5)%1999999973),(s.2.2%1000000)]) a;simp only[bc,yv,or_false]at this;rcases this with e|e<;>rw[e]
   ·exact(jC _ ()).1
   ·exact(jC _ ()).1
theorem M6(c m:Int)(b:0<=m)(h1:m<=1000):iI c m/\(bN c m).length=m.toNat/\∀x∈bN c m,0<=x:=by
 have e:∀st a:Int,(0<=st/\st<1999999973)->0<=a->nu c m [] st a/\(ju c m [] st a).length=m.toNat/\∀x∈ju c m [] st a,0<=x:=λst a d hd=>by
  have:=nZ (P:=λs k=>Z (jt s k)) (λk s=>(0<=s.1/\s.1<1999999973)/\s.2.1.length=k/\(∀x∈s.2.1,0<=x)/\0<=s.2.2) (step:=λs k=>cR s k) m.toNat (st,[],a) ⟨d,rfl,λx h=>(by cases h),hd⟩ λk s hk h=>Z4 k s () h;exact⟨⟨zZ b (),this.1⟩,this.2.2.1,this.2.2.2.1⟩
 refine e _ _ (jC _ ()) ?_;dsimp only;split<;>(try split)<;>omega
open S1 S6
abbrev bM:=AJ×Y (AJ×AJ)
theorem JR{α τ:Type}{p:α->Bool}{g:α->τ}{step:Unit->α->Pq Unit τ}(hs:∀s x,step s x=if p x=true then .rt (g x)else .nx dl):∀(xs:Y α),yM step xs dl=(match xs.find? p with|some x=>.rt (g x)|none=>.nx dl)/\Gm step (λ_ _=>O) xs dl
 |[]=>⟨rfl,trivial⟩
 |x::xs=>by
  obtain⟨h1,h2⟩:=JR hs xs;unfold yM Gm;rw[hs,fR];cases p x with
  |true=>exact⟨rfl,trivial,trivial⟩
  |false=>exact⟨h1,trivial,h2⟩
def fw(a:Y (AJ×AJ))(f:AJ):Y3 AJ:=(a.find? λq=>decide (q.1=f)).map (·.2)
theorem tU(r:bM)(f:AJ):jy r f/\dW r f=fw r.2 f:=by
 obtain⟨h1,h2⟩:=JR (p:=λq:AJ×AJ=>decide (q.1=f)) (g:=λq:AJ×AJ=>Z q.2) (step:=λs q=>jx f s q) (λ_ _=>Y2) r.2;refine⟨⟨h2,?_⟩,?_⟩
 ·cases yM (λ(a:Unit) (q2:AJ×AJ)=>((jx f a q2):Pq Unit (Y3 AJ))) r.2 dl<;>trivial
 ·unfold dW fw;rw[h1];cases r.2.find? λq=>decide (q.1=f)<;>rfl
theorem C0{α:Type}(c:Array α):∀(n:Nat) (a:Array α),((bj n c).foldl (·++·) a).size=a.size+n*c.size
 |0,a=>by simp
 |n+1,a=>by
  rw[KL,ki,C0 c n,kq,dQ];omega
theorem Ko(x:AJ)(k:Int):(Txt.mul x k).length<=x.length*k.toNat:=by
 unfold Txt.mul;split
 ·exact qr _
 split
 ·rename_i a h;simp only[JE,beq_iff_eq]at h;rcases h with h|h
  ·subst h;simp
  ·rw[h];simp
 ·show(Array.size _)<=_;rw[C0];have:x.cps.size=x.length:=rfl;rw[this,Nat.mul_comm];simp
def LT:AJ:=("abcdefghijklmnopqrstuvwxyz":AJ)
theorem Tp:LT.length=26:=by decide +kernel
theorem uV(h:n<=1000):wk n:=zo h ()
theorem Tq(xs:Y Int)(hl:6<=xs.length)(b:AJ)(hs:b.length<=5)(at_:Int)(k:Nat)(a:At)(hk:k<200)(h:a.length=k/\∀n∈a,n.length<=12):lN xs LT b at_ a k/\(fJ xs LT b at_ a k).length=k+1/\∀n∈fJ xs LT b at_ a k,n.length<=12:=by
 have g:=zo (slice_le b O (Z at_)) hs;have f:=zo (slice_le b (Z at_) O) hs;have c1:=yN LT ((↑k+As xs 2)%15);have i:=jC (k:Int) (m:=8) ();have hd:(0:Int)<=(k:Int) / 8/\(k:Int) / 8<26:=by omega
 refine⟨⟨⟨B9 () (),wD () (by rw[Tp];decide)⟩,⟨uV (),uV (by rw[qK];omega)⟩,⟨B9 () (),λ_=>⟨B9 hd.1 (by rw[Tp];exact hd.2),by omega,by omega,by rw[yN];decide⟩⟩,uV ()⟩,?_⟩;have d:∀n:AJ,n.length<=12->(a++[n]).length=k+1/\∀m∈a++[n],m.length<=12:=λn e=>⟨by simp[h.1],λm c=>by
  rcases cb.mp c with c|c
  ·exact h.2 m c
  ·cases cf.mp c;exact e⟩
 unfold fJ;dsimp only;split
 ·exact d _ (by have:=Ko (ch LT ((k:Int) / 8)) (1+(k:Int)%8);rw[yN]at this;exact zo this ())
 ·exact d _ (by rw[qK,qK,c1];omega)
theorem Z5(xs:At)(n:Nat)(h:∀x∈xs,x.length<=n):(Txt.join "" xs).length<=xs.length*n:=by
 have h1:=StrLaws.join_length_le ("":AJ) xs;rw[<-StrLaws.glued_eq_join]at h1;have h2:(xs.map (·.length)).sum<=xs.length*n:=by
  clear h1
  induction xs with
  |nil=>simp
  |cons a l c=>
   have:=c λx hx=>h x (zl _ hx);have:=h a (zt ..);simp only[zw,List.sum_cons,Z3,dQ];omega
 have b:("":AJ).length=0:=rfl;rw[b,Nat.mul_zero]at h1;exact zo h1 ()
theorem WS(xs:At)(h:∀x∈xs,x.length=1):(xs.map (·.length)).sum=xs.length:=by
 induction xs with
 |nil=>rfl
 |cons a l b=>
  have:=b λx hx=>h x (zl _ hx);have:=h a (zt ..);simp only[zw,List.sum_cons,Z3];omega
theorem Z6(xs:Y Int)(hl:6<=xs.length)(a:Int)(i:0<=a)(h1:a<=200):rK xs a/\(dw xs a).length=a.toNat/\∀n∈dw xs a,n.length<=12:=by
 have d:=jC (As xs 0) (m:=6) ();have st:∀b:AJ,b.length<=5->qt xs a LT b/\(lO xs a LT b).length=a.toNat/\∀n∈lO xs a LT b,n.length<=12:=λb e=>by
  have:=nZ (P:=λf k=>Z (lN xs LT b (As xs 1%((b.length:Int)+1)) f k)) (step:=λf k=>fJ xs LT b (As xs 1%((b.length:Int)+1)) f k) (λk s=>s.length=k/\∀n∈s,n.length<=12) a.toNat [] ⟨rfl,λn h=>(by cases h)⟩ λk s hk h=>Tq xs hl b e _ k s () h;exact⟨⟨⟨B9 () (),by omega⟩,zZ i (),this.1⟩,this.2⟩
 have c1:∀x∈((rng 0 (As xs 0%6).toNat).map λc:Int=>ch LT (As xs c / 40%26)),x.length=1:=λx hx=>by
  obtain⟨k,_,rfl⟩:=bC.mp hx;exact yN _ _
 have:=st (Txt.join "" ((rng 0 (As xs 0%6).toNat).map λc:Int=>ch LT (As xs c / 40%26))) (by
  have:=Z5 _ 1 λx hx=>KO (c1 x hx);rw[ze,lK]at this;omega)
 refine⟨⟨⟨⟨⟨⟨B9 () (),zZ d.1 ()⟩,by rw[lK];omega⟩,λk hk=>?_⟩,?_⟩,this.1⟩,this.2⟩
 ·obtain⟨j,l,rfl⟩:=uE hk;exact⟨B9 () (),wD () (by rw[show("abcdefghijklmnopqrstuvwxyz":AJ)=LT from rfl,Tp];decide)⟩
 ·rw[show("abcdefghijklmnopqrstuvwxyz":AJ)=LT from rfl,WS _ c1,ze,lK];have g:("":AJ).length=0:=rfl;rw[g];omega
def DF(xs:Y Int)(a:AJ)(at_:Int)(k:Int):AJ:=if(decide (((As xs 3)%3)=1))=true then(Txt.mul (ch LT (k / (8:Int))) (1+(k%8)))else(((Txt.slice a O (Z at_))++(ch LT ((k+(As xs 2))%15)))++(Txt.slice a (Z at_) O))
theorem yZ{α β:Type}(g:β->α):∀(l:Y β) (f:Y α),l.foldl (λf k=>f++[g k]) f=f++l.map g
 |[],f=>by simp
 |k::l,f=>by rw[ki,yZ g l];simp
theorem Z7(xs:Y Int)(a:Int):∃b at_,dw xs a=(rng 0 a.toNat).map (DF xs b at_):=by
 refine⟨_,_,(yZ (DF xs _ _) _ []).trans (dP _)⟩
theorem Tr{a b m c:AJ}(h:(a++m)++b=(a++c)++b):m=c:=by
 have h:=congrArg (λs:AJ=>s.cps.toList) h;have h:((a.cps++m.cps)++b.cps).toList=((a.cps++c.cps)++b.cps).toList:=h;simp only[Zp]at h;have:=List.append_cancel_left (List.append_cancel_right h);cases m;cases c;congr 1;exact Array.ext' this
theorem ZB:∀i:Fin 30,∀j:Fin 30,Txt.mul (ch LT ((i.val:Int) / 8)) (1+(i.val:Int)%8)=Txt.mul (ch LT ((j.val:Int) / 8)) (1+(j.val:Int)%8)->i=j:=by decide +kernel
theorem Se:∀i:Fin 15,∀j:Fin 15,ch LT (i.val:Int)=ch LT (j.val:Int)->i=j:=by decide +kernel
theorem Sc{x y:Int}(hx:0<=x/\x<15)(a:0<=y/\y<15)(h:ch LT x=ch LT y):x=y:=by
 have:=Se ⟨x.toNat,by omega⟩ ⟨y.toNat,by omega⟩ (by
  show ch LT ((x.toNat:Nat):Int)=ch LT ((y.toNat:Nat):Int);rw[eh hx.1,eh a.1];exact h)
 have:=congrArg Fin.val this;have:x.toNat=y.toNat:=this;omega
theorem YO{xs:Y Int}{a:AJ}{at_:Int}(hi:i<15)(b:j<15)(h:DF xs a at_ i=DF xs a at_ j):i=j:=by
 unfold DF at h;by_cases e:(decide (((As xs 3)%3)=1))=true
 ·rw[zk e,zk e]at h;exact congrArg Fin.val (ZB ⟨i,by omega⟩ ⟨j,by omega⟩ h)
 ·rw[zv e,zv e]at h;have:=Sc (jC _ ()) (jC _ ()) (Tr h);omega
theorem Zj{g:Int->AJ}(h:∀i j:Nat,i<n->j<n->g i=g j->i=j):((rng 0 n).map g).Nodup:=by
 unfold rng;rw[ZU];unfold List.Nodup;rw[cm];refine List.Pairwise.imp_of_mem ?_ (ik (n:=n));intro a b c d f e;refine f (h a b (dg.mp c) (dg.mp d) ?_);have e:g (0+(a:Int))=g (0+(b:Int)):=e;rwa [dS,dS]at e
theorem Z8(xs:Y Int)(a:Int)(h:a<=15):(dw xs a).Nodup:=by
 obtain⟨c,at_,e⟩:=Z7 xs a;rw[e];exact Zj λi j hi b=>YO () ()
abbrev Wd(w:AJ):Prop:=w.length<=12
def FL:At:=[("day":AJ),("name":AJ),(("name":AJ)++("s":AJ)),("p":AJ)]
abbrev Fd(r:bM):Prop:=(r.2.map (·.1)).Sublist FL/\∀q∈r.2,Wd q.2
theorem OV:("ab1":AJ).length=3:=by decide +kernel
theorem UY(x:Int)(k:Nat)(s:AJ)(hk:k<4)(h:s.length=k):nW x s k/\(jT x s k).length=k+1:=by
 have hi:In [(1:Int),(3:Int),(9:Int),(27:Int)].length (k:Int):=B9 () (by show(k:Int)<4;omega);have hp:(0<(As [(1:Int),(3:Int),(9:Int),(27:Int)] (k:Int))/\(As [(1:Int),(3:Int),(9:Int),(27:Int)] (k:Int))<1073741824):=by
  have:=Gp hi;simp only[bc,yv,or_false]at this;rcases this with e|e|e|e<;>rw[e]<;>decide
 refine⟨⟨⟨⟨hi,hp⟩,wD () (by rw[OV];decide)⟩,uV (by rw[yN];omega)⟩,?_⟩;show(s++ch _ _).length=k+1;rw[qK,yN,h]
theorem OI:∀w∈[("a":AJ),("ab":AJ),("abc":AJ),("b":AJ),("1":AJ),("12":AJ),("a1":AJ)],Wd w:=by decide +kernel
theorem Z9(x:Int):uR x/\Wd (qu x):=by
 have b:=jC (x / 4) (m:=4) ();have lp:=nZ (P:=λf k=>Z (nW x f k)) (step:=λf k=>jT x f k) (λk (s:AJ)=>s.length=k) (1+x / 4%4).toNat ("":AJ) Y2 λk s hk h=>UY x k s () h;have a:In [("a":AJ),("ab":AJ),("abc":AJ),("b":AJ),("1":AJ),("12":AJ),("a1":AJ)].length (x / 4%7):=wD () ();refine⟨⟨λ_=>a,λ_=>⟨zZ () (),lp.1⟩⟩,?_⟩;unfold qu;split
 ·exact OI _ (Gp a)
 ·refine zo (KO lp.2) ()
theorem cS:FL.Nodup:=by unfold FL;decide +kernel
theorem UQ(xs:Y Int)(hl:xs.length=4)(k:Nat)(a:Y (AJ×AJ))(hk:k<4)(h:(a.map (·.1)).Sublist (FL.take k)/\∀q∈a,Wd q.2):pI xs FL a k/\((iB xs FL a k).map (·.1)).Sublist (FL.take (k+1))/\∀q∈iB xs FL a k,Wd q.2:=by
 have c:=h.2
 replace h:=h.1
 have d:=h.length_le;rw[ze,ZT]at d;have g:FL.length=4:=rfl;have hi:In xs.length (k:Int):=B9 () ();have f:In FL.length (k:Int):=B9 () ();have e:As FL (k:Int)=FL[k]'():=wC _ _ _;refine⟨⟨hi,λ_=>⟨⟨f,hi,(Z9 _).1⟩,uV ()⟩⟩,?_⟩;unfold iB;dsimp only;rw[QY ()];split
 ·rw[JA,e];refine⟨h.append (List.Sublist.refl _),λq b=>?_⟩;rcases cb.mp b with b|b
  ·exact c q b
  ·rw[cf.mp b];exact(Z9 _).2
 ·exact⟨h.trans (List.sublist_append_left _ _),c⟩
theorem UT(n:AJ)(xs:Y Int)(hl:xs.length=4):tM n xs/\(nA n xs).1=n/\Fd (nA n xs):=by
 have lp:=nZ (P:=λf k=>Z (pI xs FL f k)) (step:=λf k=>iB xs FL f k) (λk (a:Y (AJ×AJ))=>(a.map λq:AJ×AJ=>q.1).Sublist (FL.take k)/\∀q∈a,Wd q.2) (kN 4) [] ⟨List.nil_sublist _,λq h=>by cases h⟩ λk s hk h=>UQ xs hl k s (by rw[show kN 4=4 from MQ 4]at hk;exact hk) h;have h2:((nA n xs).2.map (·.1)).Sublist (FL.take (kN 4)):=lp.2.1;have b:=h2.trans (eM _ _);exact⟨⟨uV (by decide +kernel),lp.1⟩,rfl,b,lp.2.2⟩
open S1 S6
theorem WB{f:α->β->γ}{a c:α}{b d:β}(h:a=c)(h':b=d):f a b=f c d:=by rw[h,h']
abbrev PR:=bM×bM
def C5:Y bM->Y PR
 |[]=>[]
 |x::xs=>xs.map (λy=>(x,y))++C5 xs
theorem za(j:Int)(x:α)(xs:Y α):gQ j (x::xs)=(j,x)::gQ (j+1) xs:=by
 unfold gQ;rw[Z3,dr,List.zipWith_cons_cons,List.zipWith_map_left];refine WB (f:=f6) (by simp) (congrArg (λg=>List.zipWith g (da xs.length) xs) ?_);funext k z;show(j+((k+1:Nat):Int),z)=(j+1+(k:Int),z);rw[show j+((k+1:Nat):Int)=j+1+(k:Int) by omega]
theorem Ts(xs:Y α):CT xs=gQ 0 xs:=by
 unfold CT gQ;refine congrArg (λg=>List.zipWith g (da xs.length) xs) ?_;funext k z;simp
theorem Ci{α:Type}:∀(xs:Y α) (j:Int),(gQ j xs).length=xs.length
 |[],j=>rfl
 |x::xs,j=>by rw[za,Z3,Ci xs,Z3]
theorem tW{α:Type}:∀(xs:Y α) (j:Int) (q:Int×α),q∈gQ j xs->q.2∈xs/\j<=q.1
 |x::xs,j,q,h=>by
  rw[za]at h;rcases bc.mp h with rfl|h
  ·exact⟨zt,ew _⟩
  ·have:=tW xs (j+1) q h;exact⟨zl _ this.1,by omega⟩
def tl(R:Y Dt)(q:PR):Y (Dt×AJ×AJ×Int):=((gQ 0 R).filter λz:Int×Dt=>dj z.2 q.1 q.2).map λz:Int×Dt=>(z.2,(q.1.1,q.2.1,z.1))
theorem M7(w:Y bM)(R:Y Dt):iJ w R=(C5 w).flatMap (tl R):=by
 have d:∀(xs a:Y bM),a++xs=w->((gQ (a.length:Int) xs).flatMap λq1:Int×bM=>((BB w (Z (q1.1+1)) O).flatMap λf:bM=>tl R (q1.2,f)))=(C5 xs).flatMap (tl R):=by
  intro xs
  induction xs with
  |nil=>intro a _;rfl
  |cons x xs c=>
   intro a e;have h1:=c (a++[x]) (by rw[ZE];exact e);rw[zr,gg]at h1;rw[za,ZN,show((a.length:Int)+1)=((a.length+1:Nat):Int) by omega,h1];have b:BB w (Z ((a.length+1:Nat):Int)) O=xs:=by
    rw[z7 (by rw[<-e,zr,Z3];omega),<-e,show a++x::xs=(a++[x])++xs by simp,List.drop_left' (by simp)]
   show(BB w (Z ((a.length:Int)+1)) O).flatMap _++_=_;rw[show((a.length:Int)+1)=((a.length+1:Nat):Int) by omega,b];show _=(xs.map (λy=>(x,y))++C5 xs).flatMap (tl R);rw[kK,il]
 have:=d w [] rfl;unfold iJ;rw[Ts];exact this
theorem Ay:∀{w:Y bM} {q:PR},q∈C5 w->q.1∈w/\q.2∈w
 |x::xs,q,h=>by
  rcases cb.mp h with h|h
  ·obtain⟨y,a,rfl⟩:=bC.mp h;exact⟨zt,zl _ a⟩
  ·exact⟨zl _ (Ay h).1,zl _ (Ay h).2⟩
theorem M8:∀w:Y bM,(C5 w).length<=w.length*w.length
 |[]=>zi _
 |x::xs=>by
  have:=M8 xs;show(xs.map (λy=>(x,y))++C5 xs).length<=_;rw[zr,ze,Z3,dQ,Nat.mul_succ];omega
theorem jW{α β:Type}{g:α->Y β}{k:Nat}(h:∀x,(g x).length<=k):∀xs:Y α,(xs.flatMap g).length<=xs.length*k
 |[]=>by simp
 |x::xs=>by
  have:=jW h xs;have:=h x;rw[ZN,zr,Z3,dQ];omega
theorem MZ(R:Y Dt)(q:PR):(tl R q).length<=R.length:=by
 unfold tl;rw[ze];exact zo (jb _ _) (KO (Ci R 0))
def Rl(r:Dt):Prop:=(∃f w,r=.tup [.str "same", .str f,.int w])\/(∃f n w,r=.tup [.str "begin", .str f,.int n,.int w])\/(∃f g w,r=.tup [.str "both", .str f,.str g,.int w])\/∃f,r=.tup [.str "never", .str f]
def E8(x y:bM)(f:AJ):Bool:=(fw x.2 f).isSome&&decide (fw x.2 f=fw y.2 f)
theorem Cj(x y:bM)(f:AJ):kY x y f/\fj x y f=E8 x y f:=by
 obtain⟨h1,h2⟩:=tU x f;obtain⟨a,b⟩:=tU y f;refine⟨⟨h1,λ_=>a⟩,?_⟩;unfold fj E8;dsimp only;rw[h2,b]
def G1(x y:bM)(f:AJ)(n:Int):Bool:=match fw x.2 f,fw y.2 f with
 |some a,Z b=>decide (n<=(a.length:Int))&&(decide (n<=(b.length:Int))&&decide (Txt.slice a O (Z n)=Txt.slice b O (Z n)))
 |_,_=>false
theorem K'(x y:bM)(f:AJ)(n:Int):jV x y f n/\jU x y f n=G1 x y f n:=by
 obtain⟨h1,h2⟩:=tU x f;obtain⟨c,d⟩:=tU y f;unfold jV jU G1;dsimp only;rw[h2,d];cases fw x.2 f with
 |none=>exact⟨⟨h1,c,λz=>by cases z⟩,by simp⟩
 |some a=>
  cases fw y.2 f with
  |none=>exact⟨⟨h1,c,λz=>by cases z⟩,by simp⟩
  |some b=>
   refine⟨⟨h1,c,λ_=>⟨rfl,λ_=>⟨rfl,λ_=>⟨rfl,rfl⟩⟩⟩⟩,?_⟩;simp
def F0(x y:bM)(f:AJ):Bool:=(fw x.2 f).isSome&&((fw y.2 f).isSome&&!decide (fw x.2 f=fw y.2 f))
theorem LF(x y:bM)(f:AJ):pK x y f/\lX x y f=F0 x y f:=by
 obtain⟨h1,h2⟩:=tU x f;obtain⟨a,b⟩:=tU y f;refine⟨⟨h1,a⟩,?_⟩;unfold lX F0;dsimp only;rw[h2,b]
theorem G2:(("same":AJ)==("same":AJ))=true:=by decide
theorem HZ:(("begin":AJ)==("same":AJ))=false:=by decide
theorem HE:(("begin":AJ)==("begin":AJ))=true:=by decide
theorem Hn:(("both":AJ)==("same":AJ))=false:=by decide
theorem GW:(("both":AJ)==("begin":AJ))=false:=by decide
theorem L4:(("both":AJ)==("both":AJ))=true:=by decide
theorem IM:(("never":AJ)==("same":AJ))=false:=by decide
theorem LJ:(("never":AJ)==("begin":AJ))=false:=by decide
theorem LH:(("never":AJ)==("both":AJ))=false:=by decide
theorem U8:(("never":AJ)==("never":AJ))=true:=by decide
theorem OE:(("same":AJ)==("never":AJ))=false:=by decide
theorem TM:(("begin":AJ)==("never":AJ))=false:=by decide
theorem SY:(("both":AJ)==("never":AJ))=false:=by decide
theorem Tt(f:AJ)(w:Int)(x y:bM):dj (.tup [.str "same", .str f,.int w]) x y=E8 x y f:=by
 unfold dj;rw[mJ,u6,cF,G2,zk rfl];exact(Cj x y f).2
theorem QS(f:AJ)(n w:Int)(x y:bM):dj (.tup [.str "begin", .str f,.int n,.int w]) x y=G1 x y f n:=by
 unfold dj;rw[mJ,u6,JH,cF,cF,HZ,HE,zv (),zk rfl];exact(K' x y f n).2
theorem Tv(f g:AJ)(w:Int)(x y:bM):dj (.tup [.str "both", .str f,.str g,.int w]) x y=(E8 x y f&&E8 x y g):=by
 unfold dj;rw[mJ,u6,JH,cF,cF,cF,Hn,GW,L4,zv (),zv (),zk rfl];show(fj x y f&&fj x y g)=_;rw[(Cj x y f).2,(Cj x y g).2]
theorem QT(f:AJ)(x y:bM):dj (.tup [.str "never", .str f]) x y=F0 x y f:=by
 unfold dj;rw[mJ,u6,cF,cF,cF,IM,LJ,LH,zv (),zv (),zv ()];exact(LF x y f).2
theorem Hx(a:Dt)(r:Y Dt):vG (.tup (a::r)) (0:Int):=by
 show In (r.length+1) 0;exact B9 () ()
theorem W7(a b:Dt)(r:Y Dt):vG (.tup (a::b::r)) (1:Int):=by
 show In (r.length+1+1) 1;exact B9 () ()
theorem D5(a b c:Dt)(r:Y Dt):vG (.tup (a::b::c::r)) (2:Int):=by
 show In (r.length+1+1+1) 2;exact B9 () ()
theorem GH(a:Dt)(r:Y Dt):vG (.tup (a::r)) (-(1:Int)):=by
 show In (r.length+1) (-1);exact⟨by omega,by omega⟩
theorem VI{r:Dt}(h:Rl r)(x y:bM):Ar r x y:=by
 unfold Ar;rcases h with⟨f,w,rfl⟩|⟨f,n,w,rfl⟩|⟨f,g,w,rfl⟩|⟨f,rfl⟩
 ·rw[mJ,u6,cF,G2];exact⟨⟨Hx _ _,dB _ _⟩,λ_=>⟨⟨W7 _ _ _,rfl⟩,(Cj x y f).1⟩,λz=>by cases z⟩
 ·rw[mJ,u6,JH,cF,cF,HZ,HE];exact⟨⟨Hx _ _,dB _ _⟩,(λz=>by cases z),λ_=>⟨⟨Hx _ _,dB _ _⟩,λ_=>⟨⟨⟨W7 _ _ _,rfl⟩,D5 _ _ _ _,rfl⟩,(K' x y f n).1⟩,λz=>by cases z⟩⟩
 ·rw[mJ,u6,JH,cF,cF,cF,Hn,GW,L4];exact⟨⟨Hx _ _,dB _ _⟩,(λz=>by cases z),λ_=>⟨⟨Hx _ _,dB _ _⟩,(λz=>by cases z),λ_=>⟨⟨Hx _ _,dB _ _⟩,
   λ_=>⟨⟨⟨W7 _ _ _,rfl⟩,(Cj x y f).1⟩,λ_=>⟨⟨D5 _ _ _ _,rfl⟩,(Cj x y g).1⟩⟩,λz=>by cases z⟩⟩⟩
 ·rw[mJ,u6,cF,cF,cF,IM,LJ,LH];exact⟨⟨Hx _ _,dB _ _⟩,(λz=>by cases z),λ_=>⟨⟨Hx _ _,dB _ _⟩,(λz=>by cases z),λ_=>⟨⟨Hx _ _,dB _ _⟩,(λz=>by cases z),λ_=>⟨⟨W7 _ _ _,rfl⟩,(LF x y f).1⟩⟩⟩⟩
def M9(r:Dt):Bool:=yK (cT r 0) (Dt.str "never")
theorem Eu{r:Dt}(h:Rl r):(vG r (0:Int)/\R3 (cT r 0) (Dt.str "never"))/\(M9 r=false->vG r (-(1:Int))/\cT r (-(1:Int))=eI (qz (cT r (-(1:Int))))):=by
 unfold M9;rcases h with⟨f,w,rfl⟩|⟨f,n,w,rfl⟩|⟨f,g,w,rfl⟩|⟨f,rfl⟩
 ·rw[mJ];exact⟨⟨Hx _ _,dB _ _⟩,λ_=>⟨GH _ _,rfl⟩⟩
 ·rw[mJ];exact⟨⟨Hx _ _,dB _ _⟩,λ_=>⟨GH _ _,rfl⟩⟩
 ·rw[mJ];exact⟨⟨Hx _ _,dB _ _⟩,λ_=>⟨GH _ _,rfl⟩⟩
 ·rw[mJ,cF,U8];exact⟨⟨Hx _ _,dB _ _⟩,λz=>by cases z⟩
def vC(v:Y bM):Y bM:=tD eS (λx:bM=>x.1) v
theorem KT(x:AJ):BP.kk eS x=[.inr x]:=rfl
theorem YV(a b:bM):DT eS (λx:bM=>x.1) a b=true↔HX a.1 b.1:=by
 unfold DT;rw[KT,KT];show(!iu [.inr b.1] [.inr a.1])=true↔ltCps b.1.cps.toList a.1.cps.toList=false;rw[qS,ltCps_eq];unfold iu iu;split
 ·rename_i e;rw[Sum.inr.inj e];simp[eu]
 ·exact Iff.rfl
theorem fZ(v:Y bM):(vC v).Perm v:=uy v
theorem Ew{v:Y bM}(c:(v.map (·.1)).Nodup):(vC v).Pairwise λa b=>qI a.1 b.1=true:=by
 have h1:(vC v).Pairwise λa b=>HX a.1 b.1:=qh (λh=>(YV _ _).mp h) (uD (e':=eS) (κ:=λx:bM=>x.1) v);have h2:((vC v).map (·.1)).Nodup:=((fZ v).map _).nodup_iff.mpr c;have h2:(vC v).Pairwise λa b=>a.1≠b.1:=cm.mp h2;exact qh (λ⟨a,b⟩=>(Co _ _).mpr ⟨a,b⟩) (h1.and h2)
theorem Nb{v:Y bM}(g:(v.map (·.1)).Nodup){a b:bM}(c:a∈v)(d:b∈v)(e:a.1=b.1):a=b:=by
 obtain⟨i,hi,rfl⟩:=cx.mp c;obtain⟨j,f,rfl⟩:=cx.mp d;have:=(yB (i:=i) (j:=j) (h₀:=by rw[ze];exact hi) (h₁:=by rw[ze];exact f) g).mp (by rw[js,js];exact e);subst this;rfl
theorem YU{v c:Y bM}(g:(v.map (·.1)).Nodup)(p:v.Perm c):vC v=vC c:=
 Pz (e':=eS) (κ:=λx:bM=>x.1) (λa d b f e=>Nb g (p.mem_iff.mpr d) (p.mem_iff.mpr f) e) ((fZ v).trans p) (uD v)
def DY(v:Y bM)(R:Y Dt):Y (Dt×AJ×AJ×Int):=(C5 (vC v)).flatMap (tl R)
theorem U9{v:Y bM}{R:Y Dt}(h1:v.length<=40)(h2:R.length<=20):(DY v R).length<=32000:=by
 have a:=jW (MZ R) (C5 (vC v));have b:=M8 (vC v);rw[(fZ v).length_eq]at b;have c:v.length*v.length<=40*40:=KP h1 h1;have d:(C5 (vC v)).length*R.length<=1600*20:=KP () h2;unfold DY;omega
theorem SV{v:Y bM}{R:Y Dt}{q:Dt×AJ×AJ×Int}(h:q∈DY v R):q.1∈R:=by
 obtain⟨p,_,b⟩:=du.mp h;obtain⟨z,a,rfl⟩:=bC.mp b;exact(tW R 0 z (de.mp a).1).1
def Nf(T:Y (Dt×AJ×AJ×Int)):Y (Int×AJ×AJ×Int):=(T.filter λq=>!M9 q.1).map λq=>(qz (cT q.1 (-(1:Int))),q.2.1,q.2.2.1,q.2.2.2)
def QW(T:Y (Dt×AJ×AJ×Int)):Y (AJ×AJ×Int):=(T.filter λq=>M9 q.1).map λq=>q.2
theorem Ck(x y:Int×AJ×AJ×Int)(h:aJ x=aJ y):x=y:=by
 obtain⟨a,b,c,d⟩:=x;obtain⟨e,j,c',i⟩:=y;unfold aJ at h;dsimp only at h;simp only[yi]at h;obtain⟨h1,h2,f,g⟩:=h;rw[show a=e by omega,h2,f,g]
theorem QX{xs:Y (Int×AJ×AJ×Int)}(h:xs.length<=100000):j9 xs:=⟨λ_ _=>trivial,h,λx _ y _ e=>Ck x y e⟩
theorem Az(xs:Y (Int×AJ×AJ×Int)):(aX xs).Perm xs:=uy xs
theorem lu(v:Y bM)(R:Y Dt):aO v R=((vC v).map (·.1),aX (Nf (DY v R)),gC (RX eS eS eI) (QW (DY v R))):=by
 unfold aO;dsimp only;rw[M7];rfl
theorem WP{v:Y bM}{R:Y Dt}(e:(v.map (·.1)).Nodup)(h1:v.length<=40)(h2:R.length<=20)(hR:∀r∈R,Rl r):cW v R:=by
 have c:=U9 h1 h2;have f:(vC v).length=v.length:=(fZ v).length_eq;unfold cW;refine⟨⟨λ_ _=>trivial,by omega,e⟩,?_⟩;have td:xV (vC v) R:=⟨λq1 _ g _ q2 a=>VI (hR _ (tW R 0 q2 a).1) _ _,by
  have:=M7 (vC v) R;unfold iJ at this;rw[this];exact zo c ()⟩
 have d:iJ (vC v) R=DY v R:=M7 _ _;have b:∀q∈iJ (vC v) R,Rl q.1:=λq a=>hR _ (SV (by rw[<-d];exact a));have hl:(iJ (vC v) R).length<=100000:=by rw[d];exact zo c ()
 refine⟨td,⟨hl,λq a=>⟨(Eu (b q a)).1,λz=>(Eu (b q a)).2 (by simpa[M9]using z)⟩⟩,⟨hl,λq a=>(Eu (b q a)).1⟩,?_,QX ?_,?_⟩
 ·show(vC v).length<=_;omega
 ·rw[ze];exact zo (jb _ _) hl
 ·rw[ze];exact zo (jb _ _) hl
def pr(v:Y bM)(r:Dt):Y (AJ×AJ):=((C5 (vC v)).filter λq=>dj r q.1 q.2).map λq=>(q.1.1,q.2.1)
theorem yw{e:α->Dt}[jX e]{xs ys:Y α}(h:xs.Perm ys):gC e xs=gC e ys:=Ze ((f9 xs).trans h) (qg xs)
theorem wU{α β:Type}(p:β->Bool)(g:α->Y β):∀xs:Y α,(xs.flatMap g).filter p=xs.flatMap λx=>(g x).filter p
 |[]=>rfl
 |x::xs=>by rw[ZN,List.filter_append,wU p g xs,ZN]
theorem Ng{α β:Type}(c:α->Bool)(f:α->β):∀xs:Y α,(xs.flatMap λx=>if c x=true then[f x]else[])=(xs.filter c).map f
 |[]=>rfl
 |x::xs=>by
  rw[ZN,Ng c f xs,Kn];cases c x<;>rfl
theorem MA{v:Y bM}{q:PR}(h:q∈C5 (vC v)):q.1∈v/\q.2∈v:=⟨(fZ v).mem_iff.mp (Ay h).1,(fZ v).mem_iff.mp (Ay h).2⟩
theorem WM(d:Dt)(b:AJ)(n:Int)(h:n<=1000):lY d b n:=by
 unfold lY;intro a;obtain⟨x,rfl⟩:=JG a;refine⟨⟨rfl,λ_=>Y2⟩,λhl=>⟨⟨rfl,?_⟩,λs h=>Pp h⟩⟩;rw[Os];have h2:(x.length:Int)<=n:=of_decide_eq_true ((Zs _ _).mp hl).2;omega
theorem QZ{a:AJ}{n:Int}(h:jz d a n=true):p7 d=true:=by
 unfold jz at h;rw[Zs]at h;exact h.1
theorem Tw(d:Dt):pQ d:=WM d _ 8 ()
theorem T2(h:dI d=true):p7 d=true:=QZ h
abbrev JT:=Int×AJ×AJ×Int
abbrev CL:=AJ×AJ×Int
abbrev oV:JT->Dt:=E6 eI eS eS eI
abbrev sG:CL->Dt:=RX eS eS eI
def Lw(c:Nat):Prop:=97<=c/\c<=122
def Nm(s:AJ):Prop:=1<=s.length/\s.length<=8/\∀c∈cs s,Lw c
theorem NX{c:Nat}(h:Lw c):c∈cs LT:=by
 have:∀i:Fin 26,97+i.val∈cs LT:=by decide +kernel
 have:=this ⟨c-97,by unfold Lw at h;omega⟩;unfold Lw at h;rwa [show 97+(c-97)=c by omega]at this
theorem Ba{s:AJ}(h:Nm s):dI (.str s)=true:=by
 unfold dI jz;rw[show p7 (.str s)=true from rfl,show vB (.str s)=(s.length:Int) from rfl,zz (show(1:Int)<=s.length by have:=h.1;omega),zz (show(s.length:Int)<=8 by have:=h.2.1;omega)];show List.all _ id=true;rw[Qb];intro b e;obtain⟨d,hd,rfl⟩:=bC.mp e;obtain⟨c,a,rfl⟩:=bC.mp (show d∈P1.BI s from hd);exact Wj (NX (h.2.2 c a))
theorem Va(h:dI d=true):d=eS (ji d):=by obtain⟨x,rfl⟩:=JG (T2 h);rfl
theorem Cm(h:jh d=true):d=eI (qz d):=by
 cases d with
 |int i=>rfl
 |_=>cases h
theorem OY(d:Dt):rN d:=λh=>⟨Cm h,λ_=>Cm h⟩
theorem Vb(h:An d=true):∃ds,d=.tup ds/\vB d=ds.length:=by
 obtain⟨ds,rfl⟩:=CV h;exact⟨ds,rfl,rfl⟩
theorem NB(h:dH d 3=true):∃a b c,d=.tup [a,b,c]:=by
 unfold dH at h;rw[Zs,qf]at h;obtain⟨ds,rfl,e⟩:=Vb h.1;rw[e]at h;have h:=h.2
 match ds,h with
 |[a,b,c],_=>exact⟨a,b,c,rfl⟩
theorem X2(h:dH d 4=true):∃a b c x,d=.tup [a,b,c,x]:=by
 unfold dH at h;rw[Zs,qf]at h;obtain⟨ds,rfl,e⟩:=Vb h.1;rw[e]at h;have h:=h.2
 match ds,h with
 |[a,b,c,x],_=>exact⟨a,b,c,x,rfl⟩
theorem Vc(d:Dt)(n:Int):nC d n:=λh=>On h
theorem N3{b:Bool}(h:(!b)=false):b=true:=by cases b<;>first|rfl|cases h
def B3(a b c:Dt):Bool:=dI a&&(dI b&&(qI (ji a) (ji b)&&(jh c&&decide ((0:Int)<=qz c))))
theorem MW(d:Dt):wR d:=by
 refine⟨Vc d 3,λh=>?_⟩;obtain⟨a,b,c,rfl⟩:=NB (N3 h);exact⟨rfl,Tw a,λh1=>⟨Tw b,λh2=>⟨⟨Va h1,Va h2⟩,λ_ e=>Cm e⟩⟩⟩
def R4(x a b c:Dt):Bool:=oG x&&B3 a b c
theorem Su(d:Dt):rO d:=by
 refine⟨Vc d 4,λh=>?_⟩;obtain⟨x,a,b,c,rfl⟩:=X2 h;exact⟨⟨B9 () (by simp),OY _⟩,λ_=>⟨rfl,MW _⟩⟩
structure RV (r:JT):Prop where
 w:1<=r.1/\r.1<=1000
 lt:qI r.2.1 r.2.2.1=true
 n:0<=r.2.2.2/\r.2.2.2<1000000
 a:Nm r.2.1
 b:Nm r.2.2.1
structure BV (b:CL):Prop where
 lt:qI b.1 b.2.1=true
 n:0<=b.2.2/\b.2.2<1000000
 a:Nm b.1
 b:Nm b.2.1
theorem X9{xs:At}(h:xs.length<=1000):pN xs:=by
 refine⟨⟨⟨by omega,by omega⟩,by rw[lK];omega⟩,λz a=>?_⟩;obtain⟨k,hk,rfl⟩:=uE a;exact⟨B9 () (),B9 () ()⟩
theorem bP{xs:Y JT}(h:xs.length<=1000):mj xs:=by
 refine⟨⟨⟨by omega,by omega⟩,by rw[lK];omega⟩,λz a=>?_⟩;obtain⟨k,hk,rfl⟩:=uE a;exact⟨B9 () (),B9 () ()⟩
theorem P9{xs:Y CL}(h:xs.length<=1000):mD xs:=by
 refine⟨⟨⟨by omega,by omega⟩,by rw[lK];omega⟩,λz a=>?_⟩;obtain⟨k,hk,rfl⟩:=uE a;exact⟨B9 () (),B9 () ()⟩
theorem bo{c:At}(e:c.Pairwise λa b=>qI a b=true)(f:c.length<=60)(nm:∀n∈c,Nm n):rM c/\kZ c=true:=by
 refine⟨λ_=>⟨⟨by omega,λn _=>Tw _⟩,λ_=>X9 ()⟩,?_⟩;have e1:((c.map λn:AJ=>(dI (eS n))).all id)=true:=by
  rw[Qb];intro x hx;obtain⟨n,d,rfl⟩:=bC.mp hx;exact Ba (nm n d)
 unfold kZ;rw[e1,show pL c=true from(xu ZR c).mpr e];rfl
structure Gd (n_:At) (rs:List JT) (bs:List CL):Prop where
 ss:n_.Pairwise λa b=>qI a b=true
 nl:n_.length<=60
 nm:∀n∈n_,Nm n
 rv:∀r∈rs,RV r
 ri:∀r∈rs,r.2.1∈n_/\r.2.2.1∈n_
 rp:(rs.map aJ).Pairwise λa b=>Zc oV a b=true
 rl:rs.length<=1000
 bv:∀b∈bs,BV b
 bi:∀b∈bs,b.1∈n_/\b.2.1∈n_
 bp:bs.Pairwise λa b=>Zc sG a b=true
 bl:bs.length<=1000
theorem UM{r:JT}(h:RV r):lq (oV r)=true:=by
 show R4 (.int r.1) (.str r.2.1) (.str r.2.2.1) (.int r.2.2.2)=true;unfold R4 B3;rw[Ba h.a,Ba h.b];show((true&&(decide ((1:Int)<=r.1)&&decide (r.1<=1000)))&&(true&&(true&&(qI r.2.1 r.2.2.1&&(true&&decide ((0:Int)<=r.2.2.2))))))=true;rw[h.lt,zz h.w.1,zz h.w.2,zz h.n.1];rfl
theorem EG{b:CL}(h:BV b):qw (sG b)=true:=by
 show B3 (.str b.1) (.str b.2.1) (.int b.2.2)=true;unfold B3;rw[Ba h.a,Ba h.b];show(true&&(true&&(qI b.1 b.2.1&&(true&&decide ((0:Int)<=b.2.2)))))=true;rw[h.lt,zz h.n.1];rfl
theorem Q0{l:Y α}{f:α->Bool}(h:∀x∈l,f x=true):(l.map f).all id=true:=by
 rw[Qb];intro y a;obtain⟨x,hx,rfl⟩:=bC.mp a;exact h x hx
theorem NI{a:At}{b:Y JT}{bs:Y CL}(g:Gd a b bs):oH (a,b,bs)/\fY (a,b,bs)=true:=by
 obtain⟨m,h⟩:=bo g.ss g.nl g.nm;have n:=g.rl;have bl:=g.bl;have a1:(b.map λd:JT=>(lq (oV d))).all id=true:=Q0 λr c=>UM (g.rv r c);have a2:(b.map λd:JT=>((decide (d.2.1∈a))&&(decide (d.2.2.1∈a)))).all id=true:=Q0 λr c=>by
  rw[zz (g.ri r c).1,zz (g.ri r c).2];rfl
 have k:lZ (b.map λd:JT=>(aJ d))=true:=(xu (ZS (e:=oV)) _).mpr g.rp;have b1:(bs.map λf:CL=>(qw (sG f))).all id=true:=Q0 λr c=>EG (g.bv r c);have b2:(bs.map λf:CL=>((decide (f.1∈a))&&(decide (f.2.1∈a)))).all id=true:=Q0 λr c=>by
  rw[zz (g.bi r c).1,zz (g.bi r c).2];rfl
 have j:mC bs=true:=(xu (ZS (e:=sG)) _).mpr g.bp;have tr:iK b a=true:=by
  unfold iK;rw[a1,a2,k];rfl
 have tb:qx bs a=true:=by
  unfold qx;rw[b1,b2,j];rfl
 have i:nY b a:=⟨λ_=>⟨by omega,λ_ _=>Su _⟩,λ_=>⟨by omega,λ_=>⟨by omega,bP (by rw[ze];omega)⟩⟩⟩;have l:uU bs a:=⟨λ_=>⟨by omega,λ_ _=>MW _⟩,λ_=>⟨by omega,λ_=>P9 ()⟩⟩;refine⟨⟨λ_=>Y2,λ_=>⟨m,λ_=>⟨i,λ_=>l⟩⟩⟩,?_⟩;unfold fY;rw[show dH ((RX (eT eS) (eT oV) (eT sG)) (a,b,bs)) 3=true from rfl];dsimp only;rw[h,tr,tb];rfl
theorem WF(c:Nat)(n:Int)(h:1<=n):cs (Txt.mul ⟨#[c]⟩ n)=bj n.toNat c:=by
 unfold Txt.mul;split
 ·omega
 split
 ·rename_i h;simp only[JE,beq_iff_eq]at h;rcases h with h|h
  ·subst h;rfl
  ·cases h
 ·have:∀(k:Nat) (a:Array Nat),((bj k (#[c]:Array Nat)).foldl (·++·) a).toList=a.toList++bj k c:=by
   intro k
   induction k with
   |zero=>intro a;simp
   |succ k b=>
    intro a;rw[KL,ki,b,Zp,KL];simp
  exact(this _ _).trans (by simp)
theorem HP{i:Int}(h:0<=i/\i<26):ch LT i=⟨#[97+i.toNat]⟩:=by
 have:∀i:Fin 26,ch LT (i.val:Int)=⟨#[97+i.val]⟩:=by decide +kernel
 have:=this ⟨i.toNat,by omega⟩;rwa [show((⟨i.toNat,by omega⟩:Fin 26).val:Int)=i by show(i.toNat:Int)=i;omega]at this
theorem YR{i n:Int}(h:0<=i/\i<26)(h1:1<=n)(b:n<=8):Nm (Txt.mul (ch LT i) n):=by
 have e:=WF (97+i.toNat) n h1;rw[<-HP h]at e;refine⟨?_,?_,λc a=>?_⟩
 ·rw[Gu,e,dv];omega
 ·rw[Gu,e,dv];omega
 ·rw[e]at a;rw[(List.mem_replicate.mp a).2];unfold Lw;omega
theorem UU{l:At}{c:Nat}(h:c∈cs (Txt.join "" l)):∃q∈l,c∈cs q:=by
 cases l with
 |nil=>cases h
 |cons p ps=>
  rw[ay]at h;rcases cb.mp h with h|h
  ·exact⟨p,zt ..,h⟩
  ·obtain⟨q,a,h⟩:=du.mp h;exact⟨q,zl _ a,h⟩
theorem WQ(xs:Y Int)(f:Int):∃(d:AJ) (at_:Int),(∀c∈cs d,Lw c)/\d.length<=5/\0<=at_/\at_<=(d.length:Int)/\dw xs f=(rng 0 f.toNat).map (DF xs d at_):=by
 have i:=jC (As xs 0) (m:=6) ();have e:∀x∈((rng 0 (As xs 0%6).toNat).map λa:Int=>ch LT (As xs a / 40%26)),x.length=1/\∀c∈cs x,Lw c:=λx hx=>by
  obtain⟨k,_,rfl⟩:=bC.mp hx;refine⟨yN _ _,λc b=>?_⟩;rw[HP (jC _ ())]at b;cases cf.mp b;have:=jC (As xs k / 40) (m:=26) ();unfold Lw;omega
 refine⟨Txt.join "" ((rng 0 (As xs 0%6).toNat).map λa:Int=>ch LT (As xs a / 40%26)),As xs 1%(((Txt.join "" ((rng 0 (As xs 0%6).toNat).map λa:Int=>ch LT (As xs a / 40%26))).length:Int)+1),λc b=>?_,?_,?_,?_,(yZ (DF xs _ _) _ []).trans (dP _)⟩
 ·obtain⟨q,g,h⟩:=UU b;exact(e q g).2 c h
 ·have:=Z5 _ 1 λx hx=>KO (e x hx).1;rw[ze,lK]at this;omega
 ·exact(jC _ ()).1
 ·have:=(jC (As xs 1) (m:=((Txt.join "" ((rng 0 (As xs 0%6).toNat).map λa:Int=>ch LT (As xs a / 40%26))).length:Int)+1) ()).2;omega
theorem VE{xs:Y Int}{a:AJ}{at_:Int}(h1:∀c∈cs a,Lw c)(h2:a.length<=5)(g:0<=at_)(h:at_<=(a.length:Int)){k:Int}(hk:0<=k/\k<15):Nm (DF xs a at_ k):=by
 unfold DF;split
 ·exact YR () () ()
 ·have f:=ZQ (x:=a) (n:=at_.toNat) ();have d:=ZP (x:=a) (n:=at_.toNat) ();rw[eh g]at f d;have c1:=HP (i:=(k+As xs 2)%15) (by have:=jC (k+As xs 2) (m:=15) ();omega);have m:=jC (k+As xs 2) (m:=15) ();have e:cs ((Txt.slice a O (Z at_)++ch LT ((k+As xs 2)%15))++Txt.slice a (Z at_) O)=((cs a).take at_.toNat++[97+((k+As xs 2)%15).toNat])++(cs a).drop at_.toNat:=by
   rw[Lg,Lg,f,d,c1]
  have hl:((Txt.slice a O (Z at_)++ch LT ((k+As xs 2)%15))++Txt.slice a (Z at_) O).length=a.length+1:=by
   rw[Gu,e,zr,zr,ZT,qc,<-Gu];show _+1+_=_;omega
  refine⟨by rw[hl];omega,by rw[hl];omega,λc b=>?_⟩;rw[e]at b;rcases cb.mp b with b|b
  ·rcases cb.mp b with b|b
   ·exact h1 c (KB b)
   ·cases cf.mp b;unfold Lw;omega
  ·exact h1 c (kv b)
theorem My(xs:Y Int)(a:Int)(h:a<=15):∀n∈dw xs a,Nm n:=by
 obtain⟨f,at_,h1,h2,c,d,e⟩:=WQ xs a;rw[e];intro n b;obtain⟨k,hk,rfl⟩:=bC.mp b;obtain⟨j,g,rfl⟩:=uE hk;exact VE h1 h2 c d ()
open S1 S6
structure Vf (v:List bM):Prop where
 nd:(v.map (·.1)).Nodup
 ln:v.length<=40
 fd:∀x∈v,(x.2.map (·.1)).Nodup
theorem Q5{r:bM}(a:(r.2.map (·.1)).Nodup)(f:AJ):bA r f=(fw r.2 f).toList:=by
 unfold bA fw;generalize r.2=b at a
 induction b with
 |nil=>rfl
 |cons q b c=>
  rw[zw,df]at a;rw[Kn,fR];by_cases h:q.1=f
  ·rw[zz h,zk rfl];have:(b.filter λq1:AJ×AJ=>decide (q1.1=f))=[]:=dt.mpr λz d=>by
    rw[qf];intro e;exact a.1 (by rw[h,<-e];exact kH d)
   rw[zw,this];rfl
  ·rw[Zl h,zv ()];exact c a.2
theorem zc(a:Y3 AJ):decide (a.toList=[])=a.isNone:=by cases a<;>simp
theorem Vd(a b:Y3 AJ):decide (a.toList=b.toList)=decide (a=b):=by cases a<;>cases b<;>simp
theorem Nh{r:Dt}(q:Rl r){x y:bM}(hx:(x.2.map (·.1)).Nodup)(m:(y.2.map (·.1)).Nodup)(j:x.2.length<=100000)(e:y.2.length<=100000):gZ r x y/\fX r x y=dj r x y:=by
 have i:=Q5 hx;have k:=Q5 m;rcases q with⟨f,w,rfl⟩|⟨f,n,w,rfl⟩|⟨f,g,w,rfl⟩|⟨f,rfl⟩
 ·have c:bA x (ji (Dt.str f))=(fw x.2 f).toList:=i f;have d:bA y (ji (Dt.str f))=(fw y.2 f).toList:=k f;unfold gZ fX;rw[Tt,u6,mJ];rw[c,d,cF,cF,cF,OE,show(("same":AJ)==("begin":AJ))=false by decide,G2];refine⟨⟨⟨⟨⟨W7 _ _ _,rfl⟩,j⟩,⟨W7 _ _ _,rfl⟩,e⟩,λ_=>⟨⟨Hx _ _,dB _ _⟩,λ_=>⟨⟨Hx _ _,dB _ _⟩,(λz=>by cases z),λ_=>⟨⟨Hx _ _,dB _ _⟩,λz=>by cases z⟩⟩⟩⟩,?_⟩;dsimp only;rw[zc,zc,Vd];unfold E8;cases fw x.2 f<;>cases fw y.2 f<;>simp
 ·have c:bA x (ji (Dt.str f))=(fw x.2 f).toList:=i f;have d:bA y (ji (Dt.str f))=(fw y.2 f).toList:=k f;unfold gZ fX;rw[QS,u6,mJ,JH];rw[c,d,cF,cF,cF,TM,HE,HZ];have l:((decide ((fw x.2 f).toList=([]:At)))||(decide ((fw y.2 f).toList=([]:At))))=false->In (fw x.2 f).toList.length 0/\In (fw y.2 f).toList.length 0:=by
   cases fw x.2 f<;>cases fw y.2 f<;>intro h<;>first|exact⟨B9 () (by show(0:Int)<((1:Nat):Int);decide),B9 () (by show(0:Int)<((1:Nat):Int);decide)⟩|(simp at h)
  refine⟨⟨⟨⟨⟨W7 _ _ _,rfl⟩,j⟩,⟨W7 _ _ _,rfl⟩,e⟩,λh=>⟨⟨Hx _ _,dB _ _⟩,λ_=>⟨⟨Hx _ _,dB _ _⟩,λ_=>⟨⟨(l h).1,D5 _ _ _ _,rfl⟩,λ_=>⟨⟨(l h).2,D5 _ _ _ _,rfl⟩,λ_=>⟨⟨(l h).1,D5 _ _ _ _,rfl⟩,(l h).2,D5 _ _ _ _,rfl⟩⟩⟩,λz=>by cases z⟩⟩⟩,?_⟩;dsimp only;unfold G1;cases fw x.2 f with
  |none=>simp
  |some a=>
   cases fw y.2 f with
   |none=>simp
   |some b=>rfl
 ·have c:bA x (ji (Dt.str f))=(fw x.2 f).toList:=i f;have d:bA y (ji (Dt.str f))=(fw y.2 f).toList:=k f;unfold gZ fX;rw[Tv,u6,mJ,JH];have o:bA x (ji (Dt.str g))=(fw x.2 g).toList:=i g;have p:bA y (ji (Dt.str g))=(fw y.2 g).toList:=k g;rw[c,d,o,p,cF,cF,cF,SY,GW,Hn];refine⟨⟨⟨⟨⟨W7 _ _ _,rfl⟩,j⟩,⟨W7 _ _ _,rfl⟩,e⟩,λh=>⟨⟨Hx _ _,dB _ _⟩,λ_=>⟨⟨Hx _ _,dB _ _⟩,(λz=>by cases z),λ_=>⟨⟨Hx _ _,dB _ _⟩,λ_=>λ_=>⟨⟨⟨⟨D5 _ _ _ _,rfl⟩,j⟩,⟨D5 _ _ _ _,rfl⟩,e⟩,λ_=>⟨⟨D5 _ _ _ _,rfl⟩,e⟩⟩⟩⟩⟩⟩,?_⟩;dsimp only;rw[zc,zc,zc,Vd,Vd];unfold E8;cases fw x.2 f<;>cases fw y.2 f<;>cases fw x.2 g<;>cases fw y.2 g<;>simp
 ·have c:bA x (ji (Dt.str f))=(fw x.2 f).toList:=i f;have d:bA y (ji (Dt.str f))=(fw y.2 f).toList:=k f;unfold gZ fX;rw[QT,u6,mJ];rw[c,d,cF,U8];refine⟨⟨⟨⟨⟨W7 _ _ _,rfl⟩,j⟩,⟨W7 _ _ _,rfl⟩,e⟩,λh=>⟨⟨Hx _ _,dB _ _⟩,λz=>by cases z⟩⟩,?_⟩;dsimp only;rw[zc,zc,Vd];unfold F0;cases fw x.2 f<;>cases fw y.2 f<;>simp
open S1 S6
def BH(v:Y bM):Y PR:=(v.flatMap λx=>v.map λy=>(x,y)).filter λq=>qI q.1.1 q.2.1
theorem WR{v:Y bM}{q:PR}:q∈BH v↔(q.1∈v/\q.2∈v)/\qI q.1.1 q.2.1=true:=by
 unfold BH;rw[de,du];refine and_congr_left λ_=>⟨λ⟨x,hx,h⟩=>?_,λ⟨h1,h2⟩=>⟨q.1,h1,bC.mpr ⟨q.2,h2,rfl⟩⟩⟩;obtain⟨y,a,rfl⟩:=bC.mp h;exact⟨hx,a⟩
theorem N2{v:Y bM}(c:v.Nodup):(BH v).Nodup:=by
 unfold BH;refine Ki dm ?_;refine gp.mpr ⟨λx _=>cm.mpr (qh (λh e=>h (congrArg (λz:PR=>z.2) e)) c),qh (λ{a b} h x hx y hy e=>?_) c⟩;obtain⟨z,_,rfl⟩:=bC.mp hx;obtain⟨d,_,rfl⟩:=bC.mp hy;exact h (congrArg (λz:PR=>z.1) e)
theorem Ve(a:AJ):qI a a=false:=by
 unfold qI;exact Zl (eu _)
theorem Y'{a b:AJ}(h:qI a b=true):qI b a=false:=by
 cases h':qI b a with
 |false=>rfl
 |true=>have:=ZR _ _ _ h h';rw[Ve]at this;cases this
theorem Hj:∀{w:Y bM},w.Pairwise (λa b=>qI a.1 b.1=true)->∀{q:PR},q∈C5 w↔(q.1∈w/\q.2∈w)/\qI q.1.1 q.2.1=true
 |[],_,q=>by simp[C5]
 |x::xs,h,q=>by
  obtain⟨h1,h2⟩:=cq.mp h;show q∈xs.map (λy=>(x,y))++C5 xs↔_;rw[cb,Hj h2];constructor
  ·rintro(h|h)
   ·obtain⟨y,d,rfl⟩:=bC.mp h;exact⟨⟨zt,zl _ d⟩,h1 y d⟩
   ·exact⟨⟨zl _ h.1.1,zl _ h.1.2⟩,h.2⟩
  ·rintro⟨⟨a,b⟩,c⟩;rcases bc.mp a with a|a
   ·rcases bc.mp b with b|b
    ·rw[a,b,Ve]at c;cases c
    ·exact .inl (bC.mpr ⟨q.2,b,by rw[<-a]⟩)
   ·rcases bc.mp b with b|b
    ·have:=h1 _ a;rw[<-b]at this;rw[Y' this]at c;cases c
    ·exact .inr ⟨⟨a,b⟩,c⟩
theorem Tz:∀{w:Y bM},w.Nodup->(C5 w).Nodup
 |[],_=>ei
 |x::xs,h=>by
  obtain⟨h1,h2⟩:=df.mp h;show(xs.map (λy=>(x,y))++C5 xs).Nodup;refine List.nodup_append.mpr ⟨cm.mpr (qh (λh e=>h (congrArg (λz:PR=>z.2) e)) h2),Tz h2,λa c b d e=>?_⟩;obtain⟨y,_,rfl⟩:=bC.mp c;subst e;exact h1 (Ay d).1
theorem wV{v:Y bM}(a:(v.map (·.1)).Nodup):v.Nodup:=qh (λh e=>h (by rw[e])) (cm.mp a)
theorem TF{v:Y bM}(a:(v.map (·.1)).Nodup):(BH v).Perm (C5 (vC v)):=
 Ss (N2 (wV a)) (Tz ((fZ v).nodup_iff.mpr (wV a))) λq=>by
  rw[WR,Hj (Ew a),(fZ v).mem_iff,(fZ v).mem_iff]
theorem Hl(R:Y Dt):gQ 0 R=(rng 0 R.length).map λk=>(k,As R k):=by
 unfold gQ rng;rw[ZU];refine fg (by simp) λi h1 h2=>?_;rw[List.length_zipWith,List.length_range,dE]at h1;simp only[List.getElem_zipWith,ez,js,Function.comp_apply,dS];rw[wC _ _ h1]
theorem Bb(h:n<=100000):wk n:=zo h ()
def EO(x y:bM)(z:Int×Dt):Bool:=qI x.1 y.1&&dj z.2 x y
def Ho(x y:bM)(z:Int×Dt):Y (AJ×AJ×Int):=if(EO x y z&&M9 z.2)=true then[(x.1,y.1,z.1)]else[]
def Hq(x y:bM)(z:Int×Dt):Y (Int×AJ×AJ×Int):=if(EO x y z&&!M9 z.2)=true then[((0:Int)-qz (cT z.2 (vB z.2-1)),x.1,y.1,z.1)]else[]
theorem Vg{r:Dt}(a:Rl r)(h:M9 r=false):(DK r=true/\vG r (vB r-1))/\cT r (vB r-1)=cT r (-(1:Int)):=by
 rcases a with⟨f,w,rfl⟩|⟨f,n,w,rfl⟩|⟨f,g,w,rfl⟩|⟨f,rfl⟩
 ·exact⟨⟨rfl,D5 _ _ _ _⟩,rfl⟩
 ·exact⟨⟨rfl,B9 (show(0:Int)<=4-1 by decide) (by show(4:Int)-1<((4:Nat):Int);decide)⟩,rfl⟩
 ·exact⟨⟨rfl,B9 (show(0:Int)<=4-1 by decide) (by show(4:Int)-1<((4:Nat):Int);decide)⟩,rfl⟩
 ·unfold M9 at h;rw[mJ,cF,U8]at h;cases h
def Ea(R:Y Dt)(q:PR):Y (AJ×AJ×Int):=(gQ 0 R).flatMap (Ho q.1 q.2)
def Eb(R:Y Dt)(q:PR):Y (Int×AJ×AJ×Int):=(gQ 0 R).flatMap (Hq q.1 q.2)
theorem LL{f:α->Y β}(h:∀x,(f x).length<=1):∀xs:Y α,(xs.flatMap f).length<=xs.length:=λxs=>by
 have:=jW h xs;omega
theorem GB(x y:bM)(z:Int×Dt):(Ho x y z).length<=1:=by unfold Ho;split<;>simp
theorem Go(x y:bM)(z:Int×Dt):(Hq x y z).length<=1:=by unfold Hq;split<;>simp
theorem Ni{R:Y Dt}(q:PR)(hRl:R.length<=20):(Ea R q).length<=20/\(Eb R q).length<=20:=by
 have h1:=LL (GB q.1 q.2) (gQ 0 R);have h2:=LL (Go q.1 q.2) (gQ 0 R);rw[Ci]at h1 h2;exact⟨zo h1 hRl,zo h2 hRl⟩
section
variable{v:Y bM}{R:Y Dt}(V:Vf v)(hl:∀ x∈v,x.2.length<=100000)(hR:∀ r∈R,Rl r)(hRl:R.length<=20)
include V hl hR
theorem IU{x y:bM}(hx:x∈v)(b:y∈v)(hk:k<R.length)(s:Y (AJ×AJ×Int)×Y (Int×AJ×AJ×Int))(d:s.1.length<=100000/\s.2.length<=100000):lR R x y s (k:Int)/\eZ R x y s (k:Int)=(s.1++Ho x y ((k:Int),As R (k:Int)),s.2++Hq x y ((k:Int),As R (k:Int))):=by
 have c:In R.length (k:Int):=R8 hk;have a:Rl (As R (k:Int)):=hR _ (Gp c);obtain⟨f,t1⟩:=Nh a (V.fd x hx) (V.fd y b) (hl x hx) (hl y b);obtain⟨e1,e2⟩:=Eu a;have e3:=Vg a;unfold lR eZ Ho Hq EO;dsimp only;generalize As R (k:Int)=r at *
 rw[t1];constructor
 ·refine⟨c,λ_=>f,λ_=>⟨e1,λ_=>Bb d.1,λh=>⟨⟨(e3 h).1,?_⟩,Bb d.2⟩⟩⟩;rw[(e3 h).2];exact(e2 h).2
 ·have e:yK (cT r 0) (Dt.str "never")=M9 r:=rfl;rw[e];cases(qI x.1 y.1&&dj r x y)with
  |false=>simp
  |true=>cases M9 r<;>simp
theorem br{x y:bM}(hx:x∈v)(d:y∈v)(s:Y (AJ×AJ×Int)×Y (Int×AJ×AJ×Int))(q:s.1.length<=50000/\s.2.length<=50000)(hRl:R.length<=20):lV R x s y/\iD R x s y=(s.1++Ea R (x,y),s.2++Eb R (x,y)):=by
 have lp:=nZ (P:=λf k=>Z (lR R x y f k)) (step:=λf k=>eZ R x y f k) (λk (s':Y (AJ×AJ×Int)×Y (Int×AJ×AJ×Int))=>s'.1.length<=s.1.length+k/\s'.2.length<=s.2.length+k) R.length (s.1,s.2) ⟨zi _,zi _⟩ λk s' hk h=>by
  obtain⟨a,b⟩:=IU V hl hR hx d hk s' ⟨by omega,by omega⟩;refine⟨a,?_⟩;show(eZ R x y s' (k:Int)).1.length<=_/\(eZ R x y s' (k:Int)).2.length<=_;rw[b];have h1:=GB x y ((k:Int),As R (k:Int));have h2:=Go x y ((k:Int),As R (k:Int));constructor
  ·show(_++_:Y _).length<=_;rw[zr];omega
  ·show(_++_:Y _).length<=_;rw[zr];omega
 unfold lV iD;dsimp only;rw[QU];refine⟨⟨zZ () (),lp.1⟩,?_⟩;have e:∀(l:Y Int),(∀k∈l,∃n:Nat,k=n/\n<R.length)->∀s':Y (AJ×AJ×Int)×Y (Int×AJ×AJ×Int),s'.1.length+l.length<=100000->s'.2.length+l.length<=100000->l.foldl (λi j=>eZ R x y i j) s'=(s'.1++(l.map λk=>(k,As R k)).flatMap (Ho x y),s'.2++(l.map λk=>(k,As R k)).flatMap (Hq x y)):=by
  intro l
  induction l with
  |nil=>intro _ s' _ _;simp
  |cons k l p=>
   intro g s' m o;obtain⟨n,rfl,c⟩:=g k zt;rw[Z3]at m o;have h1:=GB x y ((n:Int),As R (n:Int));have h2:=Go x y ((n:Int),As R (n:Int));rw[ki,(IU V hl hR hx d c s' ⟨by omega,by omega⟩).2,p (λk hk=>g k (zl _ hk)) _ (by dsimp only;rw[zr];omega) (by dsimp only;rw[zr];omega)];rw[zw,ZN,ZN,ZE,ZE]
 rw[e (rng 0 R.length) (λk hk=>by obtain⟨n,c,rfl⟩:=uE hk;exact⟨n,rfl,c⟩) (s.1,s.2) (by dsimp only;rw[lK];omega) (by dsimp only;rw[lK];omega),<-Hl];rfl
theorem Ta{x:bM}(hx:x∈v)(s:Y (AJ×AJ×Int)×Y (Int×AJ×AJ×Int))(l:s.1.length<=40000/\s.2.length<=40000)(hRl:R.length<=20):lW v R s x/\dM v R s x=(s.1++v.flatMap λy=>Ea R (x,y),s.2++v.flatMap λy=>Eb R (x,y)):=by
 have j:=V.ln;have lp:=Eo (P:=λf y=>Z (lV R x f y)) (step:=λf y=>iD R x f y) (λk (s':Y (AJ×AJ×Int)×Y (Int×AJ×AJ×Int))=>s'=(s.1++(v.take k).flatMap λy=>Ea R (x,y),s.2++(v.take k).flatMap λy=>Eb R (x,y))) v 0 (s.1,s.2) (by simp) λk y s' hk h=>by
  rw[JJ]at h ⊢;have c:=ky hk;have i:k<v.length:=(ca.mp hk).1;have d:=jW (g:=λy=>Ea R (x,y)) (λy=>(Ni (x,y) hRl).1) (v.take k);have e:=jW (g:=λy=>Eb R (x,y)) (λy=>(Ni (x,y) hRl).2) (v.take k);rw[ZT]at d e;obtain⟨a,b⟩:=br V hl hR hx c s' (by rw[h];dsimp only;rw[zr,zr];omega) hRl;refine⟨a,?_⟩;show iD R x s' y=_;rw[b,h,QY i,kK,kK,(ca.mp hk).2];simp
 rw[JJ,fA]at lp;exact⟨lp.1,lp.2⟩
theorem YA(hRl:R.length<=20):rW (λ(d:Y (AJ×AJ×Int)×Y (Int×AJ×AJ×Int)) (c:bM)=>(dM v R d c)) (λ(d:Y (AJ×AJ×Int)×Y (Int×AJ×AJ×Int)) (c:bM)=>Z (lW v R d c)) v ([],[]) ∧
  v.foldl (λ(d:Y (AJ×AJ×Int)×Y (Int×AJ×AJ×Int)) (c:bM)=>(dM v R d c)) ([],[])=(v.flatMap λx=>v.flatMap λy=>Ea R (x,y),v.flatMap λx=>v.flatMap λy=>Eb R (x,y)):=by
 have l:=V.ln;have lp:=Eo (P:=λf y=>Z (lW v R f y)) (step:=λf y=>dM v R f y) (λk (s':Y (AJ×AJ×Int)×Y (Int×AJ×AJ×Int))=>s'=((v.take k).flatMap λx=>v.flatMap λy=>Ea R (x,y),(v.take k).flatMap λx=>v.flatMap λy=>Eb R (x,y))) v 0 ([],[]) (by simp) λk x s' hk h=>by
  rw[JJ]at h ⊢;have hx:=ky hk;have j:k<v.length:=(ca.mp hk).1;have g1:∀x:bM,(v.flatMap λy=>Ea R (x,y)).length<=800:=λx=>by
   have:=jW (g:=λy=>Ea R (x,y)) (λy=>(Ni (x,y) hRl).1) v;omega
  have g2:∀x:bM,(v.flatMap λy=>Eb R (x,y)).length<=800:=λx=>by
   have:=jW (g:=λy=>Eb R (x,y)) (λy=>(Ni (x,y) hRl).2) v;omega
  have e:=jW g1 (v.take k);have i:=jW g2 (v.take k);rw[ZT]at e i;obtain⟨a,b⟩:=Ta V hl hR hx s' (by rw[h];dsimp only;omega) hRl;refine⟨a,?_⟩;show dM v R s' x=_;rw[b,h,QY j,kK,kK,(ca.mp hk).2];simp
 rw[JJ,fA]at lp;exact⟨lp.1,lp.2⟩
end
open S1 S6
theorem Vh(x:Int×AJ×AJ×Int):aJ (aJ x)=x:=by
 obtain⟨a,b,c,d⟩:=x;show((- -a,b,c,d):Int×AJ×AJ×Int)=_;rw[Int.neg_neg]
theorem HG(x:Int×AJ×AJ×Int):((0:Int)-x.1,x.2.1,x.2.2.1,x.2.2.2)=aJ x:=by
 obtain⟨a,b,c,d⟩:=x;show((0-a,b,c,d):Int×AJ×AJ×Int)=(-a,b,c,d);rw[Int.zero_sub]
theorem Hr(X:Y (Int×AJ×AJ×Int)):aX X=(gC oV (X.map aJ)).map aJ:=by
 refine(Pz (e':=oV) (κ:=λx=>aJ x) (λa _ b _ e=>Ck a b e) ?_ ?_).symm
 ·refine((f9 _).map aJ).trans ?_;rw[ZU,show aJ ∘ aJ=id from funext Vh,List.map_id]
 ·refine cm.mpr (qh (λ{a b} h=>?_) (qg (e:=oV) (X.map aJ)));show DC oV (aJ (aJ a)) (aJ (aJ b))=true;rw[Vh,Vh];exact h
theorem Dr{X Y:List (Int×AJ×AJ×Int)}(h:X.Perm Y):aX X=aX Y:=by
 rw[Hr,Hr,yw (h.map _)]
theorem S4(X:Y (Int×AJ×AJ×Int)):aX (aX X)=aX X:=Dr (Az X)
theorem NM(R:Y Dt)(q:PR):Ea R q=if qI q.1.1 q.2.1=true then QW (tl R q)else[]:=by
 unfold Ea Ho EO QW tl;rw[Ng (λz:Int×Dt=>(qI q.1.1 q.2.1&&dj z.2 q.1 q.2)&&M9 z.2) (λz=>(q.1.1,q.2.1,z.1)),List.filter_map,ZU,hE];cases qI q.1.1 q.2.1 with
 |false=>
  rw[zv ()];exact(congrArg (List.map _) (dt.mpr λz _=>by simp))
 |true=>
  rw[zk rfl];exact congrArg (List.map _) (hO λz _=>Bool.and_comm _ _)
theorem Pl{R:Y Dt}(hR:∀r∈R,Rl r)(q:PR):Eb R q=if qI q.1.1 q.2.1=true then(Nf (tl R q)).map aJ else[]:=by
 unfold Eb Hq EO Nf tl;rw[Ng (λz:Int×Dt=>(qI q.1.1 q.2.1&&dj z.2 q.1 q.2)&&!M9 z.2) (λz=>((0:Int)-qz (cT z.2 (vB z.2-1)),q.1.1,q.2.1,z.1)),List.filter_map,ZU,ZU,hE];cases qI q.1.1 q.2.1 with
 |false=>
  rw[zv ()];exact(congrArg (List.map _) (dt.mpr λz _=>by simp))
 |true=>
  rw[zk rfl];have e1:((gQ 0 R).filter λz=>(true&&dj z.2 q.1 q.2)&&!M9 z.2)=(gQ 0 R).filter λz=>((λq:Dt×AJ×AJ×Int=>!M9 q.1) ∘ λz:Int×Dt=>(z.2,(q.1.1,q.2.1,z.1))) z&&dj z.2 q.1 q.2:=hO λz _=>Bool.and_comm _ _;rw[<-e1];refine kg λz a=>?_;obtain⟨a,b⟩:=de.mp a;have d:=hR _ (tW R 0 z a).1;have c:M9 z.2=false:=by
   cases h:M9 z.2 with
   |false=>rfl
   |true=>rw[h]at b;simp at b
  show((0:Int)-qz (cT z.2 (vB z.2-1)),q.1.1,q.2.1,z.1)=aJ (qz (cT z.2 (-(1:Int))),q.1.1,q.2.1,z.1);rw[(Vg d c).2];exact HG (qz (cT z.2 (-(1:Int))),q.1.1,q.2.1,z.1)
theorem Q6{α β:Type}(c:α->Bool)(F:α->Y β):∀xs:Y α,(xs.flatMap λx=>if c x=true then F x else[])=(xs.filter c).flatMap F
 |[]=>rfl
 |x::xs=>by
  rw[ZN,Q6 c F xs,Kn];cases c x<;>rfl
theorem Ht(v:Y bM)(F:PR->Y β):(v.flatMap λx=>v.flatMap λy=>if qI x.1 y.1=true then F (x,y)else[])=(BH v).flatMap F:=by
 unfold BH;rw[<-Q6 (λq:PR=>qI q.1.1 q.2.1) F,List.flatMap_assoc];refine congrArg (λg=>dV g v) (funext λx=>?_);rw[il]
theorem NG(R:Y Dt)(a:Y PR):a.flatMap (λq=>QW (tl R q))=QW (a.flatMap (tl R)):=by
 unfold QW;rw[wU,yz]
theorem PQ(R:Y Dt)(a:Y PR):a.flatMap (λq=>(Nf (tl R q)).map aJ)=(Nf (a.flatMap (tl R))).map aJ:=by
 unfold Nf;rw[wU,yz,yz]
theorem WT{xs ys:Y α}(h:xs.Perm ys)(g:α->Y β):(xs.flatMap g).Perm (ys.flatMap g):=by
 induction h with
 |nil=>exact .refl _
 |cons x _ a=>rw[ZN,ZN];exact List.Perm.append_left _ a
 |swap x y l=>
  rw[ZN,ZN,ZN,ZN,<-ZE,<-ZE];exact List.Perm.append_right _ gq
 |trans _ _ h1 h2=>exact h1.trans h2
theorem WW{v:Y bM}(d:(v.map (·.1)).Nodup):FP (v.map λc:bM=>c.1)=(vC v).map (·.1):=by
 have h1:(vC v).Pairwise λa b:bM=>HX a.1 b.1:=qh (R:=λa b:bM=>qI a.1 b.1=true) (λh=>((Co _ _).mp h).1) (Ew d);exact(Kz (((fZ v).map _).trans (yH _).symm) (cm.mpr h1) (FQ _)).symm
theorem ba{v:Y bM}{R:Y Dt}(V:Vf v)(hl:∀x∈v,x.2.length<=100000)(hR:∀r∈R,Rl r)(hRl:R.length<=20):tO v R/\pO v R=aO v R:=by
 obtain⟨d,f⟩:=YA V hl hR hRl;have eb:(v.flatMap λx=>v.flatMap λy=>Ea R (x,y))=QW ((BH v).flatMap (tl R)):=by
  rw[<-NG,<-Ht];exact congrArg (λg=>dV g v) (funext λx=>congrArg (λg=>dV g v) (funext λy=>NM R (x,y)))
 have er:(v.flatMap λx=>v.flatMap λy=>Eb R (x,y))=(Nf ((BH v).flatMap (tl R))).map aJ:=by
  rw[<-PQ,<-Ht];exact congrArg (λg=>dV g v) (funext λx=>congrArg (λg=>dV g v) (funext λy=>Pl hR (x,y)))
 have pt:((BH v).flatMap (tl R)).Perm (DY v R):=WT (TF V.nd) _;rw[eb,er]at f;have c:=U9 V.ln hRl;rw[<-pt.length_eq]at c;have pb:(QW ((BH v).flatMap (tl R))).Perm (QW (DY v R)):=(pt.filter _).map _;have ps:(Nf ((BH v).flatMap (tl R))).Perm (Nf (DY v R)):=(pt.filter _).map _;generalize (BH v).flatMap (tl R)=E at *
 have h:(QW E).length<=100000:=by unfold QW;rw[ze];exact zo (jb _ _) ()
 have a:((Nf E).map aJ).length<=100000:=by unfold Nf;rw[ze,ze];exact zo (jb _ _) ()
 have i:=V.ln;unfold tO pO;dsimp only;have f:v.foldl (λ(e:Y (AJ×AJ×Int)×Y (Int×AJ×AJ×Int)) (b:bM)=>(dM v R e b)) (([]:Y (AJ×AJ×Int)),([]:Y (Int×AJ×AJ×Int)))=(QW E,(Nf E).map aJ):=f;rw[f];refine⟨⟨d,⟨a,by rw[(f9 _).length_eq];exact a⟩,⟨by omega,by rw[ze];omega⟩,h⟩,?_⟩;rw[lu,WW V.nd];refine k8 Y2 (k8 ?_ ?_)
 ·show(gC oV ((Nf E).map aJ)).map _=aX (Nf (DY v R));rw[<-Dr ps,Hr];exact kg λq _=>HG q
 ·show gC sG (QW E)=gC sG (QW (DY v R));exact yw pb
open S1 S6
def Wt(r:Dt):Prop:=M9 r=false->1<=qz (cT r (-(1:Int)))/\qz (cT r (-(1:Int)))<=1000
theorem T1{R:Y Dt}{z:Int×Dt}(h:z∈gQ 0 R):0<=z.1/\z.1<R.length:=by
 rw[Hl]at h;obtain⟨k,hk,rfl⟩:=bC.mp h;have:=ae hk;exact⟨this.1,by have:=this.2;dsimp only;omega⟩
structure TV (v:List bM) (R:List Dt) (z:Dt×Str×Str×Int):Prop where
 r:z.1∈R
 lt:qI z.2.1 z.2.2.1=true
 n:0<=z.2.2.2/\z.2.2.2<R.length
 a:z.2.1∈(vC v).map (·.1)
 b:z.2.2.1∈(vC v).map (·.1)
theorem LZ{v:Y bM}(b:(v.map (·.1)).Nodup){R:Y Dt}{z:Dt×AJ×AJ×Int}(h:z∈DY v R):TV v R z:=by
 obtain⟨q,d,c⟩:=du.mp h;obtain⟨y,a,rfl⟩:=bC.mp c;have a:=(de.mp a).1;have h1:=(Hj (Ew b)).mp d;exact⟨(tW R 0 y a).1,h1.2,T1 a,kH (f:=λx:bM=>x.1) h1.1.1,kH (f:=λx:bM=>x.1) h1.1.2⟩
theorem cE{v:Y bM}(c:(v.map (·.1)).Nodup)(R:Y Dt):((DY v R).map (·.2)).Nodup:=by
 unfold DY;rw[yz];have e:∀q:PR,(tl R q).map (·.2)=(((gQ 0 R).filter λz:Int×Dt=>dj z.2 q.1 q.2).map (·.1)).map λk=>(q.1.1,q.2.1,k):=λq=>by
  unfold tl;rw[ZU,ZU];rfl
 have er:((gQ 0 R).map (·.1)).Nodup:=by
  rw[Hl,ZU];show((rng 0 R.length).map λk=>k).Nodup;rw[List.map_id'];unfold rng;refine cm.mpr (qh (λ{a b} h e=>h ?_) ik);have e:0+(a:Int)=0+(b:Int):=e;omega
 refine gp.mpr ⟨λq _=>?_,List.Pairwise.imp_of_mem (λ{q q'} hq hq' hne x hx y hy exy=>?_) (Tz ((fZ v).nodup_iff.mpr (wV c)))⟩
 ·rw[e];have f:(((gQ 0 R).filter λz:Int×Dt=>dj z.2 q.1 q.2).map (·.1)).Pairwise λa b=>a≠b:=Ki (dm.map _) er;exact cm.mpr (qh (S:=λa b:Int=>(q.1.1,q.2.1,a)≠(q.1.1,q.2.1,b)) (λ{a b} (h:a≠b) e=>h (congrArg (λz:AJ×AJ×Int=>z.2.2) e)) f)
 ·rw[e]at hx hy;obtain⟨k,_,rfl⟩:=bC.mp hx;obtain⟨g,_,rfl⟩:=bC.mp hy;have d:=MA hq;have m2:=MA hq';have f1:=Nb c d.1 m2.1 (congrArg (λz:AJ×AJ×Int=>z.1) exy);have f2:=Nb c d.2 m2.2 (congrArg (λz:AJ×AJ×Int=>z.2.1) exy);exact hne (k8 f1 f2)
theorem MU[DecidableEq α]{e:α->Dt}[jX e]{xs:Y α}(c:xs.Nodup):(gC e xs).Pairwise λa b=>Zc e a b=true:=by
 have h1:=qg (e:=e) xs;have h2:(gC e xs).Nodup:=(f9 xs).nodup_iff.mpr c;exact qh (λ⟨a,b⟩=>(Pw _ _).mpr ⟨a,b⟩) (h1.and h2)
theorem WX{v:Y bM}{R:Y Dt}(i:(v.map (·.1)).Nodup)(m:v.length<=10)(nm:∀x∈v,Nm x.1)(hR:∀r∈R,Wt r)(hRl:R.length<=8):Gd (aO v R).1 (aO v R).2.1 (aO v R).2.2:=by
 rw[lu];have p:(vC v).length=v.length:=(fZ v).length_eq;have u:(DY v R).length<=800:=by
  have a:=jW (MZ R) (C5 (vC v));have b:=M8 (vC v);rw[p]at b;have c:v.length*v.length<=10*10:=KP m m;have d:(C5 (vC v)).length*R.length<=100*8:=KP () hRl;unfold DY;omega
 have f:∀n∈(vC v).map (·.1),Nm n:=λn l=>by
  obtain⟨x,hx,rfl⟩:=bC.mp l;exact nm x ((fZ v).mem_iff.mp hx)
 have k:∀r∈aX (Nf (DY v R)),RV r/\r.2.1∈(vC v).map (·.1)/\r.2.2.1∈(vC v).map (·.1):=λr k=>by
  obtain⟨z,g,rfl⟩:=bC.mp ((Az _).mem_iff.mp k);obtain⟨g,l⟩:=de.mp g;have t:=LZ i g;have w:=hR _ t.r (by simpa using l);exact⟨⟨w,t.lt,⟨t.n.1,eA t.n.2 ()⟩,f _ t.a,f _ t.b⟩,t.a,t.b⟩
 have j:∀b∈gC sG (QW (DY v R)),BV b/\b.1∈(vC v).map (·.1)/\b.2.1∈(vC v).map (·.1):=λb j=>by
  obtain⟨z,g,rfl⟩:=bC.mp ((f9 _).mem_iff.mp j);have t:=LZ i (de.mp g).1;exact⟨⟨t.lt,⟨t.n.1,eA t.n.2 ()⟩,f _ t.a,f _ t.b⟩,t.a,t.b⟩
 have o:=cE i R;have s:(Nf (DY v R)).Nodup:=by
  unfold Nf;refine cm.mpr (qh (λh e=>h ?_) (cm.mp (Ki (dm.map _) o)));have e2:=congrArg (λz:Int×AJ×AJ×Int=>z.2) e;exact e2
 have q:(QW (DY v R)).Nodup:=Ki (dm.map _) o;refine⟨cm.mpr (Ew i),by rw[ze];omega,f,λr h=>(k r h).1,λr h=>(k r h).2,?_,?_,λb h=>(j b h).1,λb h=>(j b h).2,MU q,?_⟩
 ·show((aX (Nf (DY v R))).map aJ).Pairwise _;rw[Hr,ZU,show aJ ∘ aJ=id from funext Vh,List.map_id];refine MU ?_;exact cm.mpr (qh (λh e=>h (Ck _ _ e)) s)
 ·show(aX _).length<=_;rw[(Az _).length_eq];unfold Nf;rw[ze];exact zo (jb _ _) ()
 ·show(gC _ _).length<=_;rw[(f9 _).length_eq];unfold QW;rw[ze];exact zo (jb _ _) ()
open S1 S6
theorem Q7(xs:Y Int)(hl:5<=xs.length):ou xs/\(bL xs).length<=4/\∀r∈bL xs,Rl r/\Wt r:=by
 have o:=jC (As xs 0) (m:=4) ();have step:∀(k:Nat) (s:Y Dt),k<(1+As xs 0%4).toNat->s.length=k/\(∀r∈s,Rl r/\Wt r)->jf xs [("day":AJ),("name":AJ),("names":AJ),("p":AJ),("zzz":AJ)] s (k:Int)/\(fH xs [("day":AJ),("name":AJ),("names":AJ),("p":AJ),("zzz":AJ)] s (k:Int)).length=k+1/\∀r∈fH xs [("day":AJ),("name":AJ),("names":AJ),("p":AJ),("zzz":AJ)] s (k:Int),Rl r/\Wt r:=λk s hk h=>by
  obtain⟨h1,h2⟩:=h;have l:In xs.length (1+(k:Int)):=B9 () ();have ff:wk s.length:=uV ();unfold jf fH;dsimp only;generalize As xs (1+(k:Int))=y;have j:1<=As [(1+((y / (300:Int))%3)),(1+((y / (300:Int))%1000))] ((y / (7:Int))%2)/\As [(1+((y / (300:Int))%3)),(1+((y / (300:Int))%1000))] ((y / (7:Int))%2)<=1000:=by
   have:=Gp (xs:=[(1+((y / (300:Int))%3)),(1+((y / (300:Int))%1000))]) (i:=(y / (7:Int))%2) (wD () (ew 2));simp only[bc,yv,or_false]at this;have a:=jC (y / 300) (m:=3) ();have b:=jC (y / 300) (m:=1000) ();rcases this with e|e<;>rw[e]<;>omega
  generalize As [(1+((y / (300:Int))%3)),(1+((y / (300:Int))%1000))] ((y / (7:Int))%2)=w at *
  refine⟨⟨l,⟨wD () (ew 5),wD () (ew 5)⟩,wD () (ew 2),λ_=>ff,λ_=>⟨λ_=>ff,λ_=>⟨λ_=>ff,λ_=>ff⟩⟩⟩,?_⟩;generalize As [("day":AJ),("name":AJ),("names":AJ),("p":AJ),("zzz":AJ)] (y%5)=f;generalize As [("day":AJ),("name":AJ),("names":AJ),("p":AJ),("zzz":AJ)] ((y+1+y / 5%4)%5)=g;have d:∀r:Dt,Rl r/\Wt r->(s++[r]).length=k+1/\∀q∈s++[r],Rl q/\Wt q:=λr n=>by
   refine⟨by rw[zr,h1];rfl,λq c=>?_⟩;rcases cb.mp c with c|c
   ·exact h2 q c
   ·rw[cf.mp c];exact n
  split
  ·exact d _ ⟨.inr (.inr (.inr ⟨f,rfl⟩)),λz=>by unfold M9 at z;rw[show cT (Dt.tup [Dt.str "never",eS f]) 0=Dt.str "never" from mJ _ _,cF,U8]at z;cases z⟩
  ·split
   ·exact d _ ⟨.inr (.inl ⟨f,_,w,rfl⟩),λ_=>j⟩
   ·split
    ·exact d _ ⟨.inr (.inr (.inl ⟨f,g,w,rfl⟩)),λ_=>j⟩
    ·exact d _ ⟨.inl ⟨f,w,rfl⟩,λ_=>j⟩
 have lp:=nZ (P:=λf k=>Z (jf xs [("day":AJ),("name":AJ),("names":AJ),("p":AJ),("zzz":AJ)] f k)) (step:=λf k=>fH xs [("day":AJ),("name":AJ),("names":AJ),("p":AJ),("zzz":AJ)] f k) (λk (s:Y Dt)=>s.length=k/\(∀r∈s,Rl r/\Wt r)) (1+As xs 0%4).toNat [] ⟨rfl,λr h=>by cases h⟩ λk s hk h=>step k s hk h;refine⟨⟨⟨B9 () (),zZ () ()⟩,lp.1⟩,?_,λr h=>lp.2.2 r h⟩;have:(bL xs).length=_:=lp.2.1;rw[this];omega
def Cb(ys:Y Int)(k:Int):Int:=((As ys (k%(ys.length:Int))) / (1+(k / (ys.length:Int))))%(k+1)
def tn[Inhabited α](a:Y α)(ys:Y Int):Y α:=(rng 0 (a.length:Int).toNat).foldl (λc b=>qF (Cb ys b).toNat (As a b) c) []
def Iq(n:Nat)(ys:Y Int)(m:Nat)(k:Int):Prop:=((((((0<(ys.length:Int)/\In ys.length (k%(ys.length:Int)))/\(0<(ys.length:Int)/\(ys.length:Int)<1073741824))/\(0<(1+(k / (ys.length:Int)))/\(1+(k / (ys.length:Int)))<1073741824))/\0<(k+1))/\In n k)/\((0<=Cb ys k/\Cb ys k<=1000000)/\m<1000000))
theorem VU(k:Nat)(x:α)(xs:Y α):(qF k x xs).Perm (x::xs):=by
 unfold qF;exact h9.trans (List.Perm.of_eq (by rw[qi]))
theorem IY[Inhabited α](a:Y α)(ys:Y Int)(h1:a.length<=4000)(h2:1<=ys.length/\ys.length<=1000):rW (λ(c:Y α) (b:Int)=>qF (Cb ys b).toNat (As a b) c) (λ(c:Y α) (b:Int)=>Z (Iq a.length ys c.length b)) (rng 0 (a.length:Int).toNat) []/\(tn a ys).Perm a:=by
 unfold tn;rw[QU];have lp:=nZ (P:=λ(c:Y α) (b:Int)=>Z (Iq a.length ys c.length b)) (step:=λ(c:Y α) (b:Int)=>qF (Cb ys b).toNat (As a b) c) (λk (s:Y α)=>s.Perm (a.take k)) a.length [] (by simp) λk s hk h=>by
  have f:s.length=k:=by rw[h.length_eq,ZT];omega
  have m:=jC (k:Int) (m:=(ys.length:Int)) ();have e:0<=(k:Int) / (ys.length:Int):=Int.ediv_nonneg () ();have d:(k:Int) / (ys.length:Int)<=k:=Int.ediv_le_self _ ();have sp:=jC ((As ys ((k:Int)%(ys.length:Int))) / (1+((k:Int) / (ys.length:Int)))) (m:=(k:Int)+1) ();refine⟨⟨⟨⟨⟨⟨⟨by omega,B9 m.1 m.2⟩,by omega,by omega⟩,by omega,by omega⟩,by omega⟩,R8 hk⟩,⟨sp.1,by unfold Cb;omega⟩,by omega⟩,?_⟩;refine(VU _ _ _).trans ?_;rw[QY hk,wC _ _ hk];exact(h.cons _).trans (gq (l₁:=[a[k]]))
 refine⟨lp.1,?_⟩;have:=lp.2;rwa [fA]at this
theorem Pf(c:Y bM)(ys:Y Int)(h1:c.length<=4000)(h2:1<=ys.length/\ys.length<=1000):pJ c ys/\(jw c ys).Perm c:=by
 obtain⟨a,b⟩:=IY c ys h1 h2;exact⟨⟨zZ () (),a⟩,b⟩
theorem Pt(c:Y JT)(ys:Y Int)(h1:c.length<=4000)(h2:1<=ys.length/\ys.length<=1000):mG c ys/\(gW c ys).Perm c:=by
 obtain⟨a,b⟩:=IY c ys h1 h2;exact⟨⟨zZ () (),a⟩,b⟩
theorem Q8{v a:Y bM}(b:(v.map (·.1)).Nodup)(p:v.Perm a)(R:Y Dt):aO v R=aO a R:=by
 rw[lu,lu];unfold DY;rw[YU b p]
theorem Nj:aX []=[]:=List.Perm.nil_eq (Az []).symm |>.symm
theorem Q9{e:α->Dt}[jX e]:gC e ([]:Y α)=[]:=List.Perm.nil_eq (f9 (e:=e) []).symm |>.symm
theorem Ra(v:Y bM):aO v []=((vC v).map (·.1),[],[]):=by
 rw[lu];have:DY v []=[]:=List.flatMap_eq_nil_iff.mpr λq _=>Y2;rw[this];show(_,aX [],gC sG [])=_;rw[Nj,Q9]
theorem Hu(R:Y Dt):aO [] R=([],[],[]):=by
 rw[lu];have e:vC []=[]:=List.Perm.nil_eq (fZ []).symm |>.symm;have:DY [] R=[]:=by unfold DY;rw[e];rfl
 rw[this,e];show(_,aX [],gC sG [])=_;rw[Nj,Q9];rfl
open S1 S6
theorem VY{G:At×Y JT×Y CL}(h:Gd G.1 G.2.1 G.2.2):oH G/\fY G=true:=NI h
theorem bS:(λa:JT=>(((0:Int)-a.1),(a.2.1,a.2.2.1,a.2.2.2).1,(a.2.1,a.2.2.1,a.2.2.2).2.1,(a.2.1,a.2.2.1,a.2.2.2).2.2))=aJ:=funext λx=>HG x
theorem OT(b:Y Int)(j:b.length<=63)(a:At)(l:a.Nodup)(m:a.length<=6):rW (λ(d:Y bM) (e:Int)=>(qy b a d e)) (λ(d:Y bM) (e:Int)=>Z (Ax b a d e)) (rng 0 (a.length:Int).toNat) [] ∧
  ∃v:Y bM,(rng 0 (a.length:Int).toNat).foldl (λ(d:Y bM) (e:Int)=>(qy b a d e)) []=v/\v.map (·.1)=a/\∀x∈v,Fd x:=by
 rw[QU]
 let c:=λk:Int=>nA (As a k) (bN (bY b (1+k)) 4)
 have g:∀k:Int,tM (As a k) (bN (bY b (1+k)) 4)/\(c k).1=As a k/\Fd (c k):=λk=>UT _ _ (M6 (bY b (1+k)) 4 () ()).2.1;have lp:=nZ (P:=λf k=>Z (Ax b a f k)) (step:=λf k=>qy b a f k) (λk (s:Y bM)=>s=(rng 0 k).map c) a.length [] Y2 λk s hk h=>by
  refine⟨⟨⟨⟨R8 hk,Tn b _ () (),(M6 _ 4 () ()).1⟩,(g k).1⟩,uV (by rw[h,ze,lK];omega)⟩,?_⟩;show s++[c k]=_;rw[h];unfold rng;rw[List.range_succ,JA,JA];simp
 refine⟨lp.1,(rng 0 a.length).map c,lp.2,?_,λx hx=>?_⟩
 ·rw[ZU,show((λx:bM=>x.1) ∘ c)=As a from funext λk=>(g k).2.1];unfold rng;rw[ZU];refine fg (by simp) λi h1 h2=>?_;simp only[js,ez,Function.comp_apply,dS];exact wC _ _ h2
 ·obtain⟨k,_,rfl⟩:=bC.mp hx;exact(g k).2.2
theorem SZ{RS:Y JT}{BS:Y CL}:((V6 (Dt.tup (oN (Dt.tup (oN ((RX (eT eS) (eT oV) (eT sG)) (N,RS,BS))++oN (eT oV RS)))++oN (eT sG BS)))).map λa:Dt=>(An a)).all id=true:=Q0 λd hd=>by
 have hd:d∈([(eT eS) N,(eT oV) RS,(eT sG) BS]++RS.map oV)++BS.map sG:=hd;rcases cb.mp hd with hd|hd
 ·rcases cb.mp hd with hd|hd
  ·simp only[bc,yv,or_false]at hd;rcases hd with rfl|rfl|rfl<;>rfl
  ·obtain⟨r,_,rfl⟩:=bC.mp hd;rfl
 ·obtain⟨r,_,rfl⟩:=bC.mp hd;rfl
theorem LP:∀e:Y Int,e.length<=63->QM e/\QL e=true:=λe a1=>by
 obtain⟨n1,n,n3⟩:=M6 (bY e 0) 18 () ();have n:(bN (bY e 0) 18).length=18:=n;obtain⟨y1,y2,y3⟩:=M6 (bY e 9) 12 () ();have y2:(bN (bY e 9) 12).length=12:=y2;generalize eX:bN (bY e 0) 18=xs at *
 generalize eY:bN (bY e 9) 12=ys at *
 have c5:(BB xs (Z 5) O).length=13:=by
  rw[show BB xs (Z 5) O=xs.drop 5 from z7 (k:=5) (),qc,n]
 have a7:(BB xs (Z 10) O).length=8:=by
  rw[show BB xs (Z 10) O=xs.drop 10 from z7 (k:=10) (),qc,n]
 have cy:(BB ys (Z 3) O).length=9:=by
  rw[show BB ys (Z 3) O=ys.drop 3 from z7 (k:=3) (),qc,y2]
 obtain⟨r1,r2,L⟩:=Q7 xs ();obtain⟨s1,s2,s3⟩:=Q7 (BB xs (Z 5) O) ();have sl:=Uz (bL (BB xs (Z 5) O)) O (Z 2);have w:∀r∈bL xs++BB (bL (BB xs (Z 5) O)) O (Z 2),Rl r/\Wt r:=λr hr=>(cb.mp hr).elim (L r) λh=>s3 r (WA h);have hRl:(bL xs++BB (bL (BB xs (Z 5) O)) O (Z 2)).length<=8:=by rw[zr];omega
 have M:wk ((bL xs).length+(BB (bL (BB xs (Z 5) O)) O (Z 2)).length):=uV ();generalize X:bL xs++BB (bL (BB xs (Z 5) O)) O (Z 2)=R at *
 have m7:=jC (As xs 16) (m:=7) ();obtain⟨q1,q2,q3⟩:=Z6 (BB xs (Z 10) O) () (As xs 16%7) () ();have D:=Z8 (BB xs (Z 10) O) (As xs 16%7) ();have q5:=My (BB xs (Z 10) O) (As xs 16%7) ();have q6:(dw (BB xs (Z 10) O) (As xs 16%7)).length<=6:=by rw[q2];omega
 generalize eN:dw (BB xs (Z 10) O) (As xs 16%7)=na at *
 obtain⟨w1,s,w2,q,y⟩:=OT e a1 na D q6;have l0:s.length=na.length:=by rw[<-q,ze]
 obtain⟨t1,t2⟩:=Pf s ys () ();generalize H:jw s ys=v at *
 have lv:v.length<=6:=by rw[t2.length_eq];omega
 have g:(v.map (·.1)).Nodup:=by rw[(t2.map _).nodup_iff,q];exact D
 have V:Vf v:=⟨g,by omega,λx hx=>(y x (t2.mem_iff.mp hx)).1.nodup cS⟩;have hl:∀x∈v,x.2.length<=100000:=λx hx=>by
  have:=(y x (t2.mem_iff.mp hx)).1.length_le;rw[ze]at this;have:x.2.length<=4:=this;omega
 have S:∀x∈v,Nm x.1:=λx hx=>q5 _ (by rw[<-q];exact kH (f:=λz:bM=>z.1) (t2.mem_iff.mp hx));have hR:∀r∈R,Rl r:=λr h=>(w r h).1;obtain⟨d1,d2⟩:=ba V hl hR ();have i:∀{u:Y bM} {p:Y Dt},(u.map (·.1)).Nodup->u.length<=40->p.length<=20->(∀r∈p,Rl r)->cW u p:=λa b c d=>WP a b c d;have g0:=i g () (show R.length<=20 by omega) hR;have t:v.reverse.Perm v:=yb v;have g1:=i ((t.map _).nodup_iff.mpr g) (by rw[KM];omega) (show R.length<=20 by omega) hR;have e1:aO v.reverse R=aO v R:=Q8 ((t.map _).nodup_iff.mpr g) t R;have j:=WX g () S (λr h=>(w r h).2) hRl;obtain⟨i1,i2⟩:=VY j;have gn:cW v []:=i g () () (λr h=>by cases h);have I:cW ([]:Y bM) []:=i ei () () (λr h=>by cases h);have a5:cW ([]:Y bM) R:=i ei () () hR;have e2:aO v []=((aO v R).1,[],[]):=by rw[Ra,lu]
 have o:aX (aO v R).2.1=(aO v R).2.1:=by rw[lu];exact S4 _
 have C:=j.rl;have bl:=j.bl;have e3:=Hu [];have F:=Hu R;generalize W:aO v R=G at *
 obtain⟨N,RS,BS⟩:=G;dsimp only at C bl e2 o;have lc:=Uz RS O (Z 2);have sv:(N:At).length<=1000:=zo j.nl ();generalize A:(RS++(BB RS O (Z 2)))++[((5:Int),("a":AJ),("b":AJ),(100:Int)),((5:Int),("a":AJ),("b":AJ),(2:Int)),((50:Int),("b":AJ),("c":AJ),(10:Int)),((5:Int),("a":AJ),("b":AJ),(10:Int)),((5:Int),("a":AJ),("ab":AJ),(9:Int))]=Q;have lQ:Q.length<=2005:=by
  rw[<-A,zr,zr];show _+5<=_;omega
 obtain⟨P,u2⟩:=Pt Q (BB ys (Z 3) O) () ();generalize J:gW Q (BB ys (Z 3) O)=U at *
 have l:U.length<=100000:=by rw[u2.length_eq];omega
 have B:=QX l;have dd:(!decide (((N,RS,BS):At×Y JT×Y CL)=(N,RS,BS)))=false:=by rw[zz rfl];rfl
 have E:(!((fY (N,RS,BS))==true))=false:=by rw[i2];rfl
 have ta:=SZ (N:=N) (RS:=RS) (BS:=BS);have eo:aX U=(gC oV (U.map aJ)).map aJ:=Hr U;have o1:dN U=aX U:=rfl;have o2:dN ([]:Y JT)=[]:=Nj;have K:jA U:=B;have a4:jA ([]:Y JT):=QX ();have z1:(!decide (aX U=(gC oV (U.map aJ)).map aJ))=false:=by rw[eo,zz rfl];rfl
 have z2:(!decide (U=U))=false:=by rw[zz rfl];rfl
 have z3:(!decide (RS=RS))=false:=by rw[zz rfl];rfl
 have z4:(!decide (aX RS=RS))=false:=by rw[o,zz rfl];rfl
 have z5:(!decide (aO v []=(N,([]:Y JT),([]:Y CL))))=false:=by rw[e2,zz rfl];rfl
 have z6:(!decide (aO ([]:Y bM) []=(([]:At),([]:Y JT),([]:Y CL))))=false:=by rw[e3,zz rfl];rfl
 have lo:(aX RS).length<=1000:=by rw[o];exact C
 have a6:wk ((oN ((RX (eT eS) (eT oV) (eT sG)) (N,RS,BS))).length+(oN (eT oV RS)).length):=by
  show wk (3+(RS.map oV).length);rw[ze];exact zo (show _<=1003 by omega) ()
 have a3:wk ((oN (Dt.tup (oN ((RX (eT eS) (eT oV) (eT sG)) (N,RS,BS))++oN (eT oV RS)))).length+(oN (eT sG BS)).length):=by
  show wk ((_++RS.map oV).length+(BS.map sG).length);rw[zr,ze,ze];exact zo (show 3+RS.length+BS.length<=2003 by omega) ()
 have a2:(V6 (Dt.tup (oN (Dt.tup (oN ((RX (eT eS) (eT oV) (eT sG)) (N,RS,BS))++oN (eT oV RS)))++oN (eT sG BS)))).length<=100000:=by
  show((_++RS.map oV)++BS.map sG).length<=_;rw[zr,zr,ze,ze];show 3+RS.length+BS.length<=_;omega
 unfold QM QL;dsimp only;rw[eX,eY,X,eN,w2,H,d2,W];dsimp only;rw[A,J,bS,e1,dd,E];constructor
 ·refine⟨⟨Tn e 0 () (),n1⟩,⟨⟨r1,s1⟩,M⟩,⟨B9 () (),q1⟩,⟨zZ () (),w1⟩,⟨Tn e 9 () (),y1⟩,t1,d1,g0,λ_=>⟨i1,λ_=>g1⟩,λ_=>⟨⟨⟨⟨⟨rfl,rfl,a6⟩,rfl,rfl,a3⟩,rfl⟩,a2⟩,λ_=>⟨⟨⟨Bb (),Bb ?_⟩,P⟩,B,⟨l,by rw[ze];exact l⟩,(λ_=>by rw[(f9 _).length_eq,ze];exact l),λ_=>⟨QX (),Bb (),λ_=>QX (),λ_=>⟨⟨gn,λ_=>I⟩,λ_=>⟨K,λ_=>⟨a4,λ_=>a5⟩⟩⟩⟩⟩⟩⟩;rw[zr];show _+5<=_;omega
 ·rw[ta,z1,z2,z3,z4,z5,z6];show(decide (dN U=aX U)&&(decide (dN ([]:Y JT)=[])&&decide (aO ([]:Y bM) R=(([]:At),([]:Y JT),([]:Y CL)))))=true;rw[o1,o2,F,zz rfl,zz rfl,zz rfl];rfl
theorem H1:∀a:Y Int,a.length<=63->F_law [.z (.lst (a.map .int))]=Z (.z (.bl true)):=(Lm LP).1
theorem H2:∀a:Y Int,a.length<=63->F_law [.l (a.map .int)]=Z (.z (.bl true)):=(Lm LP).2
end G10
end
open PySem PySem.W PyProof.Rows
namespace PySem.W.Fast
def tw2245006809890654618:=0
def tw16182294716827721080:=0
def tw17201132057927693279:=0
def tw6920332591366847811:=0
def tw273563056315472518:=0
def tw9517820808216675637:=0
def tw7937269029068590839:=0
def tw8817343352974222355:=0
def tw18128584870333722550:=0
def tw7445932288194637937:=0
def tw3896573101955015335:=0
def tw7547974355629176672:=0
def tw16499208497902183218:=0
def tw9878839654815025781:=0
def tw12865550776406238580:=0
def tw11798735957721062727:=0
def tw6436721064572838568:=0
def tw2108510970874871602:=0
def tw15203426894074037942:=0
def tw13059096366535526154:=0
def tw9528301233352783155:=0
def tw13858265232128165566:=0
def tw624487616102188526:=0
def tw5094581724685997481:=0
def tw6066932666966197203:=0
def tw6635709989219381151:=0
def tw963932538664061555:=0
def tw6500896096964304793:=0
def tw15897039639654788195:=0
def tw9233104532375709752:=0
def tw8124978590699820516:=0
def tw12465572118447268622:=0
def tw2256901693115095673:=0
def tw12961297938317621003:=0
def tw3753402971496258920:=0
def tw5007540005615219928:=0
def tw6896626355362036848:=0
def tw7964378172713963686:=0
def tw4845112135351527849:=0
def tw9294943868563583554:=0
def tw13162046138606288:=0
def tw11723818267859377150:=0
def tw18100618227050680788:=0
def tw4514405081394780621:=0
def tw15543796054553880102:=0
def tw14730865413232312967:=0
def tw11073469710767594485:=0
def tw2787107494059427899:=0
def tw1305062139697679177:=0
def tw10146518341343612477:=0
def tw11673312708081381035:=0
def tw9785427298243582390:=0
def tw13362914915107635147:=0
def tw2698316225828811355:=0
def tw7528090073813743419:=0
def tw16228779860004802611:=0
def tw16948545857960017219:=0
def tw7754146662330488390:=0
def tw15795887742969125405:=0
def tw12316799447605038914:=0
def tw2846872364173422950:=0
def tw9872832015671197050:=0
def tw17025153001662457630:=0
def tw4259873236840458309:=0
def tw2461757008899576685:=0
def tw2319926809569214666:=0
def tw16996852497506464425:=0
def tw3998626333698802041:=0
def tw12637778922605241206:=0
def tw5042759959842672765:=0
def tw9262345957440146606:=0
def tw8832996685022670493:=0
def tw1176231118778236185:=0
def tw343827780462914257:=0
def tw9504658264998701199:=0
def tw6621113807388761561:=0
def tw6197065251073002611:=0
def tw6728673506434581131:=0
def tw6100621849045469002:=0
def tw5788082538346603482:=0
def tw4183200496791926096:=0
def tw13100657040895745539:=0
def tw15128590004230405720:=0
def tw11500034213718296974:=0
def tw15401586776343050726:=0
def tw13822609885857580819:=0
def tw2486254318226957655:=0
def tw3181076029591520538:=0
def tw8406377090322072051:=0
def tw9449179245184329231:=0
end PySem.W.Fast
set_option maxRecDepth 100000 in
set_option maxHeartbeats 0 in
theorem PySem.Challenge.cw_onefolk_k10_grounds_told_holds : PySem.Challenge.rw_onefolk_k10_grounds_told.Holds := by
 w_on;refine PySem.W.holds_law (by decide +kernel) λsaid=>?_
 k_head;(case hw=>w_witness2)
 k_fill
 refine P1.Ee (l:=PySem.Challenge.rw_onefolk_k10_grounds_told) (T:=G10.T) (k:=7) (x := "_law_script") (st:=G10.s_law) (F_law:=G10.F_law) (λt=>t.x_law) ⟨rfl,by decide,by decide⟩ rfl (λw mg base t=>G10.Do t) rfl rfl G10.H1 G10.H2 (λ_ _ _ _ _ _ _=>rfl) (λw h Y=>PySem.W.km_in_of Y) (λw h _ _ _ _ X T=>⟨_,P1.D8 (by kernel_rfl) X T⟩) ?F
 case F=>
  intro w mg h KX G
  refine' ⟨P1.jQ KX G _ _ _ _,P1.jQ KX G _ _ _ _,P1.jQ KX G _ _ _ _,P1.jQ KX G _ _ _ _,P1.jQ KX G _ _ _ _,P1.jQ KX G _ _ _ _,P1.jQ KX G _ _ _ _,P1.jQ KX G _ _ _ _,P1.jQ KX G _ _ _ _,P1.jQ KX G _ _ _ _,P1.jQ KX G _ _ _ _,P1.jQ KX G _ _ _ _,P1.jQ KX G _ _ _ _,P1.jQ KX G _ _ _ _,P1.jQ KX G _ _ _ _,P1.jQ KX G _ _ _ _,P1.jQ KX G _ _ _ _,P1.jQ KX G _ _ _ _,P1.jQ KX G _ _ _ _,P1.jQ KX G _ _ _ _,P1.jQ KX G _ _ _ _,P1.jQ KX G _ _ _ _,P1.jQ KX G _ _ _ _,P1.jQ KX G _ _ _ _,P1.jQ KX G _ _ _ _,P1.jQ KX G _ _ _ _,P1.jQ KX G _ _ _ _,P1.jQ KX G _ _ _ _,P1.jQ KX G _ _ _ _,P1.jQ KX G _ _ _ _,P1.jQ KX G _ _ _ _,P1.jQ KX G _ _ _ _,qV KX G _,qV KX G _,qV KX G _,qV KX G _,qV KX G _,qV KX G _,qV KX G _,qV KX G _,qV KX G _,qV KX G _,qV KX G _,qV KX G _,P1.HA KX G _,P1.HA KX G _,P1.HA KX G _,_⟩
  all_goals try (show _=_;k_is)
  all_goals try kernel_rfl
