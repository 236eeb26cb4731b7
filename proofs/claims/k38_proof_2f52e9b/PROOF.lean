import PyProof.Rows.All
import Wide.All
import OpenK.AllK
import Wide.FinOn
import Lean
import PySem.Challenge.RW_onefolk_k38_whole_views_turned_about
open List renaming mem_cons_self->ze,mem_cons_of_mem->zh,length_map->zi,map_cons->zk,size_toArray->zl,mem_append_right->zz,map_map->z4,filterMap_cons->Zs,getElem?_append_left->ZE,getElem?_map->ZI,mem_map_of_mem->ZN,find?_cons->ZO,map_append->ZZ,map_congr_left->qc,getElem?_eq_getElem->qi,length_append->qr,length_cons->qv,getElem?_append_right->qS,getElem?_replicate->QI,not_mem_nil->QO,length_drop->QP,zip_cons_cons->QR,getElem?_toArray->QU,rel_of_pairwise_cons->QY,append_nil->Q2,flatMap_cons->ja,any_cons->js,mem_cons->j0,all_cons->j3,lookup_cons_self->Jn,filter_congr->JA,append_assoc->JE,getD_eq_getElem?_getD->JP,map_nil->JU,lookup_cons->ka,length_reverse->kc,length_set->kg,foldl_cons->ki,pairwise_map->kB,getElem?_set->kC,take_succ_eq_append_getElem->kF,length_filter_le->kG,map_reverse->kH,length_take->kK,filter_cons->kM,mem_of_getElem?->kU,nil_append->k5,reverse_cons->Kj,any_eq_true->KB,all_eq_true->KF,pairwise_mergeSort->KI,replicate->aa,mem_map->ae,getElem?_eq_some_iff->af,mem_singleton->ag,mem_filter->ah,mem_append->ai,nodup_cons->al,mem_reverse->am,pairwise_cons->ap,find?_eq_none->av,mem_range->aw,range->ax,length->aE,map_eq_nil_iff->aI,mem_filterMap->aS,contains_iff_mem->ba,getElem?_set_ne->bb,length_nil->bg,filter_map->bj,eq_nil_of_length_eq_zero->bn,mergeSort_perm->bo,length_pos_iff->bp,nodup_append->bE,drop_eq_getElem_cons->bP,pairwise_iff_getElem->bX,mem_of_find?_eq_some->ca,getElem_map->cb,countP_cons->ce,isEmpty_map->cf,cons_append->ck,take_length->cm,of_mem_zip->cq,getElem?_set_self->cy,drop_eq_nil_of_le->cz,countP_mono_left->cK,cons_lt_cons_iff->cQ,mem_append_left->cS,sum_cons->db,getElem?_range->dc,replicate_succ->de,filter_sublist->dg,flatMap_append->dh,filter_reverse->di,filterMap_map->dm,take_sublist->du,mapM_toArray->dz,getElem_inj->dA,ext_getElem->dE,le_antisymm->dG,map_flatMap->dS
open PySem.Heap renaming get?_push_of_some->zg,lt_size->zt,get?_push_size->zw,size_push->jI,get?_update_ne->df,get?_push_ne->dy,size_update->dP
open Nat renaming le_refl->zo,le_of_ble_eq_true->zv,ne_of_lt->zC,le_trans->zD,lt_of_lt_of_le->Zl,zero_le->Z3,lt_irrefl->jn,le_of_lt->jS,zero_add->ku,lt_succ_of_lt->kA,le_succ->Kb,succ_le_succ->KA,ne_of_gt->be,lt_trans->bi,min_self->dq,succ_mul->dr,not_lt->dV
open Bool renaming false_eq_true->zI,false_ne_true->Zp,and_eq_true->ZH,not_eq_true'->jb,and_true->kQ,not_false->k7,not_true->Kt,false_or->bv,eq_iff_iff->cr,or_eq_true->cw,decide_and->cx,and_false->cI
open Or renaming inr->qh,inl->QQ
open Array renaming length_toList->QN,size_append->JI,toList_append->ke,append_assoc->k8,perm_iff_toList_perm->ay,toList->dl,toList_inj->dL,toList_map->dQ
open Int renaming toNat_natCast->kD,toNat_of_nonneg->bq,zero_add->ci,emod_lt_of_pos->dt
open Unit renaming unit->ej
local macro_rules|`(())=>`(by first|omega|decide)
open Option renaming map_some->k4,map_eq_some_iff->ar,isSome_iff_exists->aT,isSome_some->bu,isNone_iff_eq_none->bS,bind_some->cc,map_eq_none_iff->cE,isSome_map->dv,getD_none->dC
open PySem.SetTable renaming leap->az,bits->bz,runEnd->ef
open Prod renaming ext->br
open Option renaming some->Z,none->U
abbrev O:=List
abbrev Y:=Option
theorem S{α:Sort u}{a:α}:a=a:=rfl
open PySem renaming Value->A0,Addr->A1,Shared->A2,Program->A3,World->A4,Around->A5,Heap->A6,wpAny->A7,model->A8,starEach->A9,sizeLine->AA,Stmt->AB,Keyword->AC,backTo->AD,Obj->AE,codeAny->AF,compareOp->AG,bootBuiltins->AH,Paired->AI,Str->AJ
abbrev eg(x:AJ):=(x==("__debug__":AJ))=false
open PyProof.Rows renaming envOfC->AK,wpS_bind->AL,arrOf->AM
open PySem.W (methodObj keepIn callWith_K cellsFrom_some fnOf codeIn nsIn mg_of kla_obj envX kla_fn)
set_option maxRecDepth 100000
set_option maxHeartbeats 4000000
set_option linter.all false
set_option Elab.async false
open PySem PySem.Spec PyProof.Rows
variable{w:A4}{i:Nat}{x:AJ}{a:A1}{prog:A3}{us:O A0}{u:A0}{κ:Type}{h:A6}{items:Array A0}{P:A3}{α β:Type}{e:Expr}{n:Nat}{mg:AJ->Y A0}{base:A6}{l:A1}{env:Env}{m:Nat}{AN:O (A1×AE)}{s:A2}{it:A1}{j:Nat}{M:Model}{A:A5}{hi:Y Int}{D:O (AJ×A1)}{es:O Expr}{st:AB}{pos:Pos}{c tg:Expr}{fp:O A1}{iter:Expr}{lo:Y Int}{body:O AB}{C:A1}{op:CmpOp}{AQ:O A0}{name:AJ}{tpos:Pos}{fd:FuncData}{apos:Pos}{qual:AJ}{scope:Scope}{params:Arguments}{pm:A0}{osl sl:Array (Y A0)}{p2 cpos:Pos}{XP:(AJ->Y A0)->A6->Prop}{YP:A4->A6->Prop}{cl:O (AJ×A1)}{is:O Nat}{ifs:O Expr}{elt tgt:Expr}{el:A1->Env->Sem Unit}{RR:A0->A1->Result->A2->Prop}{elts:O Expr}{x1:Nat}{γ δ:Type}{os:OsState}{bmB:O A0}{newId initId:String}{vo:O (AJ×AJ)}
abbrev AZ:=O PySem.Str
abbrev BF:=PySem.Value->PySem.Shared->Prop
abbrev B5:=PySem.W.Frag
abbrev B0:=O Int
abbrev zb:=@wpAny_bind
abbrev zd:=@wpAny_pure
abbrev zr:=@if_pos
abbrev zS:=@if_neg
abbrev z5:=@decide_eq_false
abbrev ZA:=@wpAny_holding
abbrev ZT:=@decide_eq_true
abbrev ZU:=@wpAny_mono
abbrev ZY:=@if_false
abbrev qa:=@wpAny_tryCatch
abbrev qf:=@wpAny_newObj_type
abbrev qk:=@if_true
abbrev qo:=@PySem.W.mg_none_of
abbrev qA:=@PySem.F.plain_min_loop
abbrev qB:=@PySem.F.plain_max_loop
abbrev qV:=@PySem.mem_of_lookup
abbrev Qb:=@codeAny_builtin
abbrev Qr:=@wpAny_Call_Name_kw
abbrev QA:=@wpAny_typeOf
abbrev QE:=@decide_eq_false_iff_not
abbrev Q1:=@Option.some.inj
abbrev Q3:=@wpAny_truthy_bool
abbrev Q4:=@of_decide_eq_true
abbrev jv:=@Heap.SameBut.update
abbrev JJ:=@wpAny_rule
abbrev JO:=@wpAny_seqItems
abbrev JS:=@decide_false
abbrev JY:=@wpAny_call_entry
abbrev kf:=@wpAny_updateSeq
abbrev kl:=@List.cons.injEq
abbrev km:=@wpAny_letGo
abbrev ko:=@wpAny_getItem_str_slice
abbrev kq:=@wpAny_callSpecial?_slot
abbrev ky:=@wpAny_pyIter_list
abbrev kz:=@decide_eq_true_eq
abbrev kP:=@wpAny_standAt
abbrev kR:=@decide_true
abbrev kX:=@wpAny_passesOwn
abbrev k6:=@Ne.symm
abbrev k9:=@wpAny_field
abbrev Ki:=@wpAny_sequenceKey
abbrev Kk:=@wpAny_newList
abbrev Kn:=@Prod.mk.injEq
abbrev Kx:=@PySem.F.args_tuple_add_2
abbrev KG:=@PySem.F.entry_tuple_add
variable{ps:AZ}{K:B5}{N:AZ}{E Q:BF}{ts ws na:AZ}
namespace L2
abbrev AY:=Sum Int AJ
def j9:AY->A0->Bool
 |.inl k,v=>Value.isInt k v
 |.inr x,v=>Value.isStrOf x v
def RY(w:A4):AY->Int
 |.inl k=>hashInt k
 |.inr x=>hashStr w x
theorem bA:∀{k:AY} {v:A0},j9 k v=true->(∃i t,k=Sum.inl i/\v=Value.int i t)\/(∃x t,k=Sum.inr x/\v=Value.str x t)
 |.inl i,v,h=>by
  obtain⟨t,e⟩:=Value.isInt_shape (k:=i) (v:=v) h;exact .inl ⟨i,t,rfl,e⟩
 |.inr x,v,h=>by
  obtain⟨t,e⟩:=Value.isStrOf_shape (x:=x) (v:=v) h;exact .inr ⟨x,t,rfl,e⟩
theorem RW(i:Int)(t:Tok):j9 (.inl i) (.int i t)=true:=by simp[j9,Value.isInt]
theorem RX(x:AJ)(t:Tok):j9 (.inr x) (.str x t)=true:=by simp[j9,Value.isStrOf]
theorem MA(a b:Int):decide ((Sum.inl a:AY)=Sum.inl b)=(a==b):=by
 by_cases e:a=b
 ·subst e;simp
 ·have h:¬ (Sum.inl a:AY)=Sum.inl b:=λq=>e (Sum.inl.inj q);rw[z5 h];exact(beq_eq_false_iff_ne.mpr e).symm
theorem Mb(a b:AJ):decide ((Sum.inr a:AY)=Sum.inr b)=decide (a=b):=by
 by_cases e:a=b
 ·subst e;simp
 ·have h:¬ (Sum.inr a:AY)=Sum.inr b:=λq=>e (Sum.inr.inj q);rw[z5 h,z5 e]
theorem L3(a:Int)(b:AJ):decide ((Sum.inl a:AY)=Sum.inr b)=false:=z5 (λq=>nomatch q)
theorem My(a:AJ)(b:Int):decide ((Sum.inr a:AY)=Sum.inl b)=false:=z5 (λq=>nomatch q)
def cG(prog:A3)(w:A4):PySem.KeyKind prog w AY where
 is:=j9
 hash:=RY w
 inj:=λv a b g d=>by
  rcases bA g with⟨i,t,rfl,rfl⟩|⟨x,t,rfl,rfl⟩
  ·rcases bA d with⟨j,u,rfl,e⟩|⟨y,u,rfl,e⟩
   ·injection e with e1 _;rw[e1]
   ·exact nomatch e
  ·rcases bA d with⟨j,u,rfl,e⟩|⟨y,u,rfl,e⟩
   ·exact nomatch e
   ·injection e with e1 _;rw[e1]
 byValue:=λk v h=>by
  rcases bA h with⟨i,t,rfl,rfl⟩|⟨x,t,rfl,rfl⟩<;>rfl
 pyHash:=λc h=>by
  rcases bA c with⟨i,t,rfl,rfl⟩|⟨x,t,rfl,rfl⟩
  ·exact wpAny_pyHash_int h
  ·exact wpAny_pyHash_str h
 eqBool:=λf c h=>by
  rcases bA f with⟨i,t,rfl,rfl⟩|⟨x,t,rfl,rfl⟩
  ·rcases bA c with⟨j,u,rfl,rfl⟩|⟨y,u,rfl,rfl⟩
   ·rw[MA]at h;exact wpAny_eqBool_int h
   ·rw[L3]at h;exact SeqAt.EqAt.int_str i t y u _ _ _ _ h
  ·rcases bA c with⟨j,u,rfl,rfl⟩|⟨y,u,rfl,rfl⟩
   ·rw[My]at h;exact SeqAt.EqAt.str_int x t j u _ _ _ _ h
   ·rw[Mb]at h;exact wpAny_eqBool_str h
 «strs»:=λk x t v h=>by
  rcases bA h with⟨i,u,rfl,e⟩|⟨y,u,rfl,e⟩
  ·exact nomatch e
  ·injection e with e1 _;subst e1;cases v<;>rfl
theorem K3(prog:A3)(w:A4)(i:Int)(t:Tok):(cG prog w).is (.inl i) (.int i t)=true:=RW i t
theorem K4(prog:A3)(w:A4)(x:AJ)(t:Tok):(cG prog w).is (.inr x) (.str x t)=true:=RX x t
end L2
namespace L2
inductive V where
 |non|bl (b:Bool)|int (i:Int)|str (x:Str)|byt (b:Array UInt8)|flt (b:UInt64)|ref (a:Addr)|ty (n:String)
 deriving DecidableEq
def As:V->A0->Prop
 |.non,u=>u=Value.none
 |.bl b,u=>u=Value.bool b
 |.int i,u=>∃t,u=Value.int i t
 |.str x,u=>∃t,u=Value.str x t
 |.byt b,u=>∃t,u=Value.bytes b t
 |.flt b,u=>∃t,u=Value.float b t
 |.ref a,u=>u=Value.ref a
 |.ty n,u=>u=Value.type n
abbrev AX:O V->O A0->Prop:=AI As
theorem AX.length{xs:O V}{us:O A0}(r:AX xs us):xs.length=us.length:=Paired.length r
theorem AX.get:∀{xs:O V} {us:O A0} {i:Nat} {x:V},AX xs us->xs[i]?=Z x->∃u,us[i]?=Z u/\As x u
 |_,_,_,_,.nil,e=>by simp at e
 |_,_,0,_,.cons r _,e=>by simp at e;subst e;exact⟨_,rfl,r⟩
 |_,_,i+1,x,.cons _ t,e=>by
  obtain⟨u,h1,h2⟩:=AX.get (i:=i) (x:=x) t (by simpa using e);exact⟨u,by simpa using h1,h2⟩
theorem AX.set{x:V}{u:A0}(r:As x u):∀{xs:O V} {us:O A0} (i:Nat),AX xs us->AX (xs.set i x) (us.set i u)
 |_,_,_,.nil=>.nil
 |_,_,0,.cons _ t=>.cons r t
 |_,_,i+1,.cons q t=>.cons q (AX.set r i t)
theorem AX.append:∀{xs ys:O V} {us ws:O A0},AX xs us->AX ys ws->AX (xs++ys) (us++ws)
 |_,_,_,_,.nil,s=>s
 |_,_,_,_,.cons r t,s=>.cons r (AX.append t s)
theorem AX.take:∀{xs:O V} {us:O A0} (n:Nat),AX xs us->AX (xs.take n) (us.take n)
 |_,_,0,_=>.nil
 |_,_,_+1,.nil=>.nil
 |_,_,n+1,.cons r t=>.cons r (AX.take n t)
theorem AX.drop:∀{xs:O V} {us:O A0} (n:Nat),AX xs us->AX (xs.drop n) (us.drop n)
 |_,_,0,r=>r
 |_,_,_+1,.nil=>.nil
 |_,_,n+1,.cons _ t=>AX.drop n t
def CN:Y V->Y A0->Prop
 |some v,Z u=>As v u
 |none,U=>True
 |_,_=>False
def KV:O (κ×V)->O (κ×A0)->Prop:=AI λ(p:κ×V) (q:κ×A0)=>p.1=q.1/\As p.2 q.2
def kV:AY->V
 |.inl i=>.int i
 |.inr x=>.str x
inductive HO where
 |lst (xs:List V)
 |tup (xs:List V)
 |dK (AO:List (AY×V))|dT (AO:List (List AY×V))
 |set (S:Int->Bool) (n:Nat)
 |ins (C dx:Addr) (fs:List (Str×V))
 |own (x:Addr)
 |xd (fs:List (Str×V))
 |met (f x:Addr)
 |rng (lo hi:Int)
 |uD (o:Obj) (u:HO)
 |Ji (ps:Array Value)
 |ext (φ:Heap->Prop)
abbrev Hp:=A1->Y HO
def B6(H:Hp)(a:A1)(o:HO):Hp:=λb=>if b=a then Z o else H b
theorem aW{H:Hp}{o:HO}:B6 H a o a=Z o:=by unfold B6;rw[zr rfl]
theorem aX{H:Hp}{b:A1}{o:HO}(h:b≠a):B6 H a o b=H b:=by unfold B6;rw[zS h]
def fP(h:A6)(a:A1)(items:Array A0):Prop:=∃o,h.get? a=Z o/\o.cls=.type "tuple" ∧ (∃n,o.data=.seq items n)/\o.dict=U
theorem fP.weak(x:fP h a items):IsTup h a items:=let ⟨o,e,c,d,_⟩:=x;⟨o,e,c,d⟩
theorem fP.new(h:A6)(items:Array A0):fP (h.push { cls:=.type "tuple",data:=.seq items }) h.objs.size items:=⟨_,zw _ rfl,rfl,⟨_,rfl⟩,rfl⟩
theorem uG{H:Hp}{b:A1}{o u:HO}(h:H a=Z o)(h':H b=Z u)(d:o≠u):a≠b:=by
 intro e;subst e;rw[h]at h';exact d (Q1 h')
theorem cu{H:Hp}{b:A1}{o:HO}(h:H a=Z o)(h':H b=U):a≠b:=by
 intro e;subst e;rw[h]at h';cases h'
def tq(ps:Array A0):AJ:=match ps[0]? with
 |some (Value.str q _)=>q
 |_ => ""
def tr(ps:Array A0):Array A0:=ps.extract 1 ps.size
def Us:AZ:=["most_word","longest_word","ground_of","least_for","nearest_pair"]
def Fk(K:B5)(P:A1)(q:AJ):Prop:=∃c o vs x t,K.lookup c=Z o/\o.data=.fields vs/\vs[1]?=Z (.str x t)/\x∈Us/\vs[11]?=Z (.ref P)/\q=x++(".<locals>.<lambda>":AJ)
def T1(o:AE):Bool:=match o.data with
 |.fields vs=>match vs[1]? with
  |some (Value.str x _)=>!Us.contains x
  |_=>true
 |_=>true
def BU(K:B5)(H:Hp):Prop:=∀P q,Fk K P q->∃ps,H P=Z (.Ji ps)/\tq ps=q/\0<ps.size
theorem BU.go{H H':Hp}(x:BU K H)(u:∀b ps,H b=Z (.Ji ps)->∃a,H' b=Z (.Ji (ps++a))):BU K H':=λP q k=>by
 obtain⟨ps,e,h,z⟩:=x P q k;obtain⟨a,e'⟩:=u P ps e;refine⟨_,e',?_,by rw[JI];omega⟩;rw[<-h];unfold tq;rw[Array.getElem?_append_left z]
section
variable(P:A3)(w:A4)
def gJ(H:Hp)(h:A6)(a:A1):HO->Prop
 |.lst xs=>xs.length<=AA/\∃(AQ:O A0) (n:Nat),AX xs AQ/\h.get? a=Z { cls:=.type "list",data:=.seq AQ.toArray n }
 |.tup xs=>xs.length<=AA/\∃AQ:O A0,AX xs AQ/\fP h a AQ.toArray
 |.dK AO=>AO.length<=AA/\(a==sysModules)=false/\∃vs,KV AO vs/\h.DictOf (cG P w) a vs
 |.dT AO=>AO.length<=AA/\(a==sysModules)=false/\∃xs:O (O AY×A1×A0),
   AI (λ(p:O AY×V) (q:O AY×A1×A0)=>p.1=q.1/\H q.2.1=Z (.tup (p.1.map kV))/\As p.2 q.2.2) AO xs ∧
   ∃o es ep,h.get? a=Z o/\o.ExactDict/\o.data=.dict es ep/\es.toList=xs.map (entryOfKey (tupleKind (cG P w)))/\(xs.map (·.1)).Nodup
 |.set S n=>h.SetOf (intKind P w) a S n
 |.ins C dx fs=>H dx=Z (.own a)/\fs.length<=1000/\dx≠a/\h.get? a=Z (PySem.W.instObj C dx) ∧
   ∃mA,h.Ns1 dx mA/\(∀f,CN (fs.lookup f) (mA f))/\PySem.Within mA (fs.map (·.1))
 |.own _=>∃o,h.get? a=Z o
 |.xd fs=>∃mA,h.Ns1 a mA/\∀f,CN (fs.lookup f) (mA f)
 |.rng lo hi=>∃t u v,h.get? a=Z { cls:=.type "range",data:=.fields #[.int lo t,.int hi u,.int 1 v] }
 |.uD o u=>h.get? a=Z o/\gJ H h a u
 |.Ji ps=>∃d,h.get? a=Z { cls:=.none,data:=.fields (tr ps++d) }/\TriplesOk (tr ps++d).toList ∧
   ∀pos g,codeAmong pos (tr ps++d).toList=Z g->∃c e vs t,g=.ref c/\H c=Z (.uD e (.ext λ_=>True))/\e.data=.fields vs/\vs[1]?=Z (.str (tq ps) t)
 |.met f x=>h.get? a=Z (methodObj (.ref f) (.ref x))
 |.ext b=>b h/\(∃o,h.get? a=Z o)/\∀h1 h2:A6,b h1->(∀o,h1.get? a=Z o->h2.get? a=Z o)->b h2
def zj(H:Hp)(h:A6):Prop:=∀a o,H a=Z o->gJ P w H h a o
end
section
variable{H H':Hp}{h':A6}{o:HO}
theorem gJ.lt(x:gJ P w H h a o):a<h.objs.size:=by
 cases o with
 |lst xs=>obtain⟨_,_,_,_,e⟩:=x;exact zt e
 |tup xs=>obtain⟨_,_,_,p⟩:=x;exact p.weak.lt
 |dK AO=>obtain⟨_,_,_,_,o,_,_,e,_⟩:=x;exact zt e
 |dT AO=>obtain⟨_,_,_,_,o,_,_,e,_⟩:=x;exact zt e
 |set S n=>obtain⟨o,_,_,_,e,_⟩:=x;exact zt e
 |ins C dx fs=>obtain⟨_,_,_,e,_⟩:=x;exact zt e
 |own y=>obtain⟨_,e⟩:=x;exact zt e
 |xd fs=>obtain⟨_,⟨_,_,_,e,_⟩,_⟩:=x;exact zt e
 |rng lo hi=>obtain⟨_,_,_,e⟩:=x;exact zt e
 |uD c u=>obtain⟨e,_⟩:=x;exact zt e
 |Ji ps=>obtain⟨_,e,_⟩:=x;exact zt e
 |met f y=>exact zt (show h.get? a=Z _ from x)
 |ext b=>obtain⟨_,⟨_,e⟩,_⟩:=x;exact zt e
theorem Paired.Yj{α β:Type}{F G:α->β->Prop}:∀{c:O α} {d:O β},AI F c d->(∀a b,F a b->G a b)->AI G c d
 |_,_,.nil,_=>.nil
 |_,_,.cons r t,f=>.cons (f _ _ r) (Paired.Yj t f)
theorem Paired.imp'{F G:α->β->Prop}(f:∀a b,F a b->G a b){c:O α}{d:O β}(r:AI F c d):AI G c d:=Paired.Yj r f
theorem gJ.stay(x:gJ P w H h a o)(k:∀b u,(b=a\/H b=Z (.own a))->h.get? b=Z u->h'.get? b=Z u)
  (E:∀b,H b=Z (.own a)->H' b=Z (.own a)) (B:∀b xs,H b=Z (.tup xs)->H' b=Z (.tup xs)) (J:∀b o l,H b=Z (.uD o (.ext l))->H' b=Z (.uD o (.ext l))):gJ P w H' h' a o:=by
 induction o with
 |lst xs=>obtain⟨z,AQ,n,r,e⟩:=x;exact⟨z,AQ,n,r,k _ _ (.inl rfl) e⟩
 |tup xs=>obtain⟨z,AQ,r,i,e,c⟩:=x;exact⟨z,AQ,r,i,k _ _ (.inl rfl) e,c⟩
 |dK AO=>obtain⟨z,y,vs,r,i,es,ep,e,c⟩:=x;exact⟨z,y,vs,r,i,es,ep,k _ _ (.inl rfl) e,c⟩
 |dT AO=>
  obtain⟨z,y,xs,r,i,es,ep,e,c⟩:=x;exact⟨z,y,xs,Paired.Yj r λp q z=>⟨z.1,B _ _ z.2.1,z.2.2⟩,i,es,ep,k _ _ (.inl rfl) e,c⟩
 |set S n=>obtain⟨i,es,ep,t,e,c⟩:=x;exact⟨i,es,ep,t,k _ _ (.inl rfl) e,c⟩
 |ins C dx fs=>
  obtain⟨d,z,I,e,mA,⟨j,es,ep,e2,c⟩,r⟩:=x;exact⟨E _ d,z,I,k _ _ (.inl rfl) e,mA,⟨j,es,ep,k _ _ (.inr d) e2,c⟩,r⟩
 |own y=>obtain⟨i,e⟩:=x;exact⟨i,k _ _ (.inl rfl) e⟩
 |xd fs=>obtain⟨mA,⟨j,es,ep,e,c⟩,r⟩:=x;exact⟨mA,⟨j,es,ep,k _ _ (.inl rfl) e,c⟩,r⟩
 |rng lo hi=>obtain⟨t,u,v,e⟩:=x;exact⟨t,u,v,k _ _ (.inl rfl) e⟩
 |uD i u D=>obtain⟨e,q⟩:=x;exact⟨k _ _ (.inl rfl) e,D q⟩
 |Ji ps=>
  obtain⟨A,e,G,s⟩:=x;refine⟨A,k a _ (.inl rfl) e,G,λpos F z=>?_⟩;obtain⟨c,m,vs,t,rfl,g,d,v⟩:=s pos F z;exact⟨c,m,vs,t,rfl,J c m _ g,d,v⟩
 |met f y=>
  have e:h.get? a=Z (methodObj (.ref f) (.ref y)):=x;show h'.get? a=Z (methodObj (.ref f) (.ref y));exact k a _ (.inl rfl) e
 |ext l=>obtain⟨p,⟨o,e⟩,st⟩:=x;exact⟨st _ _ p λo q=>k _ _ (.inl rfl) q,⟨o,k _ _ (.inl rfl) e⟩,st⟩
theorem zj.lt(x:zj P w H h)(e:H a=Z o):a<h.objs.size:=(x a o e).lt
theorem zj.fresh(x:zj P w H h)(e:h.objs.size<=a):H a=U:=by
 cases q:H a with
 |none=>rfl
 |some u=>exact absurd (Zl (x.lt q) e) (jn _)
theorem zj.kept(x:zj P w H h)(k:∀b u,h.get? b=Z u->h'.get? b=Z u):zj P w H h':=λa o e=>
 (x a o e).stay (λb u _ q=>k b u q) (λ_ q=>q) (λ_ _ q=>q) λ_ _ _ q=>q
theorem zj.laid(x:zj P w H h)(k:∀b u,h.get? b=Z u->h'.get? b=Z u)(hp:h.objs.size<=a)(new:gJ P w (B6 H a o) h' a o):zj P w (B6 H a o) h':=λb u e=>by
 have d:=x.fresh hp;by_cases f:b=a
 ·subst f;rw[aW]at e;cases e;exact new
 ·rw[aX f]at e;exact(x b u e).stay (λc v _ q=>k c v q) (λc q=>by rw[aX (cu q d)];exact q) (λc xs q=>by rw[aX (cu q d)];exact q) λc o' g q=>by rw[aX (cu q d)];exact q
end
def Rd(H:Hp)(a:A1)(u:HO):Prop:=H a=Z u\/∃o,H a=Z (.uD o u)
theorem Rd.ok{H:Hp}{u:HO}(r:Rd H a u)(x:zj P w H h):gJ P w H h a u:=by
 rcases r with r|⟨o,r⟩
 ·exact x a u r
 ·obtain⟨_,q⟩:=x a _ r;exact q
def DV:Y HO->Prop
 |some (.lst _)=>True
 |some (.dK _)=>True
 |some (.dT _)=>True
 |some (.set _ _)=>True
 |some (.ins _ _ _)=>True
 |some (.ext _)=>True
 |_=>False
section
variable{H:Hp}{h':A6}{x e:A1}{o':HO}
theorem zj.write(ok:zj P w H h)(a:DV (H x))(m:e=x\/H e=Z (.own x))(k:∀b u,b≠e->h.get? b=Z u->h'.get? b=Z u)(p:∃u,h'.get? e=Z u)
  (new:gJ P w (B6 H x o') h' x o'):zj P w (B6 H x o') h':=λb u q=>by
 have l:∀c y,H c=Z (.own y)->c≠x:=λc y r z=>by subst z;rw[r]at a;exact a
 have n:∀c xs,H c=Z (.tup xs)->c≠x:=λc xs r z=>by subst z;rw[r]at a;exact a
 have o:∀c o' i,H c=Z (.uD o' i)->c≠x:=λc o' i r z=>by subst z;rw[r]at a;exact a
 by_cases d:b=x
 ·subst d;rw[aW]at q;cases q;exact new
 ·rw[aX d]at q;by_cases f:b=e
  ·have j:H b=Z (.own x):=by
    rcases m with z|z
    ·exact absurd (f.trans z) d
    ·rw[f];exact z
   rw[q]at j;cases j;obtain⟨v,s⟩:=p;exact⟨v,by rw[f];exact s⟩
  ·refine(ok b u q).stay (λc v g r=>k c v ?_ r) (λc r=>by rw[aX (l c b r)];exact r) (λc xs r=>by rw[aX (n c xs r)];exact r) λc o' i r=>by rw[aX (o c o' _ r)];exact r
   rcases g with rfl|g
   ·exact f
   ·rintro rfl;rcases m with z|z
    ·exact l c b g z
    ·rw[g]at z;cases z;exact d rfl
end
structure Un (fs ex:List Addr) (H H':Hp) (h h':Heap):Prop where
 keep:∀b o,h.get? b=some o->H b=none->b∉fs->b∉ex->h'.get? b=some o
 slot:∀b o,h.get? b=some o->H b=none->b∈fs->b∉ex->∃sl,h'.get? b=some { o with slots:=sl }
 free:∀b o,h.get? b=some o->H b=none->b∉ex->H' b=none
 there:∀b o,h.get? b=some o->b∉ex->∃o',h'.get? b=some o'
 tups:∀b xs,H b=some (.tup xs)->H' b=some (.tup xs)
 GK:∀b o u,H b=some (.uD o u)->H' b=some (.uD o u)
 zp:∀b ps,H b=some (.Ji ps)->∃more,H' b=some (.Ji (ps++more))
section
variable{fs fs' ex ex':O A1}{H H1 H2:Hp}{h1 h2 h':A6}{x e:A1}{o:HO}
theorem Un.any(u:Un fs ex H H1 h h1){b:A1}{a:AE}(q:h.get? b=Z a)(n:H b=U)(hx:b∉ex):∃sl,h1.get? b=Z { a with slots:=sl }:=by
 by_cases c:b∈fs
 ·exact u.slot b a q n c hx
 ·exact⟨a.slots,u.keep b a q n c hx⟩
theorem Un.kept(k:∀b u,h.get? b=Z u->h'.get? b=Z u):Un fs ex H H h h':=
 ⟨λb a q _ _ _=>k b a q,λb a q _ _ _=>⟨a.slots,k b a q⟩,λ_ _ _ n _=>n,λb a q _=>⟨a,k b a q⟩,λ_ _ q=>q,λ_ _ _ q=>q,λ_ ps q=>⟨#[],by rw[q];simp⟩⟩
theorem Un.refl:Un fs ex H H h h:=Un.kept λ_ _ q=>q
theorem Un.laid(k:∀b u,h.get? b=Z u->h'.get? b=Z u)(hp:h.objs.size<=a)(hn:H a=U):Un fs ex H (B6 H a o) h h' where
 keep:=λb u q _ _ _=>k b u q
 slot:=λb u q _ _ _=>⟨u.slots,k b u q⟩
 free:=λb u q n _=>by rw[aX (zC (Zl (zt q) hp))];exact n
 there:=λb u q _=>⟨u,k b u q⟩
 tups:=λb xs q=>by rw[aX (cu q hn)];exact q
 GK:=λb u xs q=>by rw[aX (cu q hn)];exact q
 zp:=λb ps q=>⟨#[],by rw[aX (cu q hn),q];simp⟩
theorem Un.write(a:DV (H x))(i:e=x\/H e=Z (.own x))(k:∀b u,b≠e->h.get? b=Z u->h'.get? b=Z u)(g:∃u,h'.get? e=Z u):Un fs ex H (B6 H x o) h h':=by
 have hx:∀b,H b=U->b≠x:=λb n z=>by subst z;rw[n]at a;exact a
 have d:∀b,H b=U->b≠e:=λb n z=>by
  subst z;rcases i with r|r
  ·exact hx b n r
  ·rw[n]at r;cases r
 have c:∀b u,H b=Z u->¬ DV (Z u)->b≠x:=λb u q nm z=>by subst z;rw[q]at a;exact nm a
 refine⟨λb u q n _ _=>k b u (d b n) q,λb u q n _ _=>⟨u.slots,k b u (d b n) q⟩,λb u q n _=>by rw[aX (hx b n)];exact n,λb u q _=>?_,
  λb xs q=>by rw[aX (c b _ q λz=>z)];exact q,λb u xs q=>by rw[aX (c b _ q λz=>z)];exact q,λb ps q=>⟨#[],by rw[aX (c b _ q λz=>z),q];simp⟩⟩
 by_cases f:b=e
 ·subst f;exact g
 ·exact⟨u,k b u f q⟩
end
def EN(h:A6)(H:Hp):O A1:=(ax h.objs.size).filter λa=>(H a).isSome
def Jj(h:A6)(H:Hp):A6:=PySem.W.hideAll h (EN h H)
theorem RZ(h:A6)(H:Hp):(Jj h H).objs.size=h.objs.size:=PySem.W.hideAll_size _ _
theorem Ut{H:Hp}{b:A1}{o:AE}(e:h.get? b=Z o)(n:H b=U):(Jj h H).get? b=Z o:=
 PySem.W.hideAll_get _ e λa=>by
  have q:(H b).isSome=true:=(ah.mp a).2;rw[n]at q;simp at q
theorem Yk{H:Hp}{b:A1}{o:AE}(e:(Jj h H).get? b=Z o):h.get? b=Z o/\H b=U:=by
 have e':h.get? b=Z o:=PySem.W.of_hideAll (EN h H) e;refine⟨e',?_⟩;cases q:H b with
 |none=>rfl
 |some x=>
  have a:b∈EN h H:=ah.mpr ⟨aw.mpr (zt e'),by simp[q]⟩;have z:(Jj h H).get? b=U:=PySem.W.hideAll_none (EN h H) a;rw[z]at e;cases e
def Yl(g h:A6)(L:A1):O (A1×AE):=(ax h.objs.size).filterMap λa=>if a=L\/(g.get? a).isSome=true then U else(h.get? a).map λo=>(a,o)
def AS(g h:A6)(L d:A1):O (A1×AE):=(Yl g h L).filter λp=>decide (p.1≠d)
end L2
namespace L2
structure Mod (K:B5) (mg:Str->Option Value) (base:Heap):Prop where
 kin:K.In base
 glob:base.Ns mainGlobals mg
 blt:∃mb,base.Ns builtinsNs mb/\∀x:Str,x ≠ "__name__" → mb x=bootBuiltins x
 nolimit:base.NoLimit
 bmain:∃bm ob,mg "__builtins__"=some (.ref bm)/\bm≠builtinsNs/\base.get? bm=some ob/\ob.cls=.type "module" ∧ ob.dict=some builtinsNs/\ob.data=.plain
structure Cx where
 prog:Program
 w:World
 K:B5
 mg:Str->Option Value
 base:Heap
 A:Around
 N:AZ
 s₀:Shared
 H₀:Hp
 env:Env
 outer:List Env
 stack:List Env
 ex:List Addr
 fn:Str->Bool
 calm:Bool
 pn:List (Addr×Obj)
 xe:BF
abbrev eh(X:Cx):=A8 X.prog X.w
def CC(l:O Env):O A1:=l.filterMap (·.frame)
abbrev Cx.fs(X:Cx):O A1:=CC X.outer
def Qv(a:Scope)(x:AJ):Prop:=a.names.lookup x=Z .local\/a.names.lookup x=Z .cell\/a.names.lookup x=Z .free
def CO(a:Scope)(x:AJ):Prop:=a.names.lookup x=Z .local\/a.names.lookup x=Z .cell
def GE(env:Env)(h:A6)(m:AJ->Y A0)(x:AJ)(u:A0):Prop:=
 (env.kindOf x=Z .local/\m x=Z u)\/((env.kindOf x=Z .cell\/env.kindOf x=Z .free)/\∃c,env.cells.lookup x=Z c/\h.IsCell c (Z u))
structure Cx.Ok (X:Cx):Prop where
 mod:Mod X.K X.mg X.base
 kind:X.env.scope.kind=.function
 glob:X.env.globals=mainGlobals
 blt:X.env.builtins=builtinsNs
 above:X.s₀.heap.objs.size<=X.env.locals
 inj:∀x y c,X.env.cells.lookup x=some c->X.env.cells.lookup y=some c->x=y
 has:∀x,(X.env.kindOf x=some .cell\/X.env.kindOf x=some .free)->∃c,X.env.cells.lookup x=some c
 cab:∀x c,X.fn x=true->X.env.cells.lookup x=some c->X.s₀.heap.objs.size<=c
 hd:X.calm=true->X.A.handled=none
 frames:X.A.frames=some X.stack
 stk:X.stack=X.outer\/(X.stack=X.env::X.outer/\X.env.frame=some X.env.locals)
 exf:∀b∈X.ex,b≠X.env.locals/\∀x c,X.env.cells.lookup x=some c->c≠b
 bs:∀b o,X.base.get? b=some o->X.s₀.heap.get? b=some o/\X.H₀ b=none
 Ym:X.base.objs.size<=X.s₀.heap.objs.size
 Uu:∀b o,X.base.get? b=some o->b∉X.ex
 Yn:∀b∈X.ex,b∉X.fs
 DP:X.s₀.heap.FunFrames X.base X.outer
 frf:∀b∈X.fs,X.H₀ b=none
 tabs:BU X.K X.H₀
structure AU (X:Cx) (AN:List (Addr×Obj)) (σ:List (Option V)) (H:Hp) (s:Shared):Prop where
 ok:X.Ok
 os:s.os=X.s₀.os
 bare:AllBare s.gens
 base:Un X.fs X.ex X.H₀ H X.s₀.heap s.heap
 loc:∃m,s.heap.Ns X.env.locals m/\∀(i:Nat) (x:Str) (v:V),X.N[i]?=some x->σ[i]?=some (some v)->Qv X.env.scope x->∃u,As v u/\GE X.env s.heap m x u
 cell:∀x c,X.env.cells.lookup x=some c->∃v,s.heap.IsCell c v
 free:H X.env.locals=none
 qR:∀x c,X.env.cells.lookup x=some c->H c=none
 pin:∀p∈X.pn++AN,s.heap.get? p.1=some p.2/\H p.1=none/\p.1≠X.env.locals/\p.1∉X.fs/\∀v,p.2.data≠.cell v
 hok:zj X.prog X.w H s.heap
 len:σ.length=X.N.length
section
variable{X:Cx}{σ:O (Y V)}{H H':Hp}{h':A6}
theorem Cx.Ok.af2(ok:X.Ok){b:A1}{o:AE}(e:X.base.get? b=Z o):b∉X.fs:=λa=>by
 have:=(ok.DP.mem a).1;rw[e]at this;cases this
theorem AU.bs(I:AU X AN σ H s):∀b o,X.base.get? b=Z o->s.heap.get? b=Z o/\H b=U:=λb o e=>
 ⟨I.base.keep b o (I.ok.bs b o e).1 (I.ok.bs b o e).2 (I.ok.af2 e) (I.ok.Uu b o e),I.base.free b o (I.ok.bs b o e).1 (I.ok.bs b o e).2 (I.ok.Uu b o e)⟩
theorem AU.bk(I:AU X AN σ H s):∀b o,X.base.get? b=Z o->s.heap.get? b=Z o:=λb o e=>(I.bs b o e).1
theorem AU.mod(I:AU X AN σ H s):Mod X.K X.mg X.base:=I.ok.mod
theorem AU.X8(I:AU X AN σ H s):X.K.In s.heap:=I.ok.mod.kin.keeps I.bk
theorem AU.nolimit(I:AU X AN σ H s):s.heap.NoLimit:=I.ok.mod.nolimit.keeps I.bk
theorem AU.lt(I:AU X AN σ H s):X.env.locals<s.heap.objs.size:=let ⟨_,hn,_⟩:=I.loc;hn.lt
theorem AU.sz(I:AU X AN σ H s):X.s₀.heap.objs.size<=s.heap.objs.size:=zD I.ok.above (jS I.lt)
theorem AU.abn(I:AU X AN σ H s)(h:s.heap.objs.size<=a):a∉X.fs:=λc=>by
 obtain⟨_,o,b,_⟩:=I.ok.DP.mem c;exact absurd (Zl (zt b) (zD I.sz h)) (jn _)
theorem AU.cne(I:AU X AN σ H s):∀x c,X.env.cells.lookup x=Z c->c≠X.env.locals:=λx c e z=>by
 obtain⟨v,o,a,hd⟩:=I.cell x c e;obtain⟨m,⟨o',es,ep,d,b,_⟩,_⟩:=I.loc;rw[z,d]at a;cases a;rw[b]at hd;cases hd
theorem AU.DP(I:AU X AN σ H s):s.heap.FunFrames X.base X.outer:=by
 have all:∀(l:O Env),(∀b∈CC l,b∈X.fs)->X.s₀.heap.FunFrames X.base l->s.heap.FunFrames X.base l:=by
  intro l
  induction l with
  |nil=>intro _ _;trivial
  |cons env r g=>
   intro f j;obtain⟨hk,⟨L,o,d,m,h,hd⟩,i⟩:=j;have a:L∈X.fs:=f L (by unfold CC;rw[Zs,d];exact ze);obtain⟨sl,e⟩:=I.base.slot L o h (I.ok.frf L a) a λz=>I.ok.Yn L z a;exact⟨hk,⟨L,_,d,m,e,hd⟩,g (λb c=>f b (by unfold CC;rw[Zs,d];exact zh _ c)) i⟩
 exact all X.outer (λ_ c=>c) I.ok.DP
theorem AU.stack(I:AU X AN σ H s):s.heap.FunFrames X.base X.stack:=by
 rcases I.ok.stk with e|⟨e,a⟩
 ·rw[e];exact I.DP
 ·rw[e];obtain⟨m,b,_⟩:=I.loc;refine .cons (by rw[I.ok.kind];decide) a b ?_ I.DP;exact Heap.get?_none_of_le (zD I.ok.Ym I.ok.above)
theorem AU.Jk(I:AU X AN σ H s):∀b∈CC X.stack,b∈X.env.locals::X.fs:=λb a=>by
 rcases I.ok.stk with e|⟨e,c⟩
 ·rw[e]at a;exact zh _ a
 ·rw[e]at a;unfold CC at a;rw[Zs,c]at a;exact a
theorem AU.Jl(I:AU X AN σ H s):∀b∈CC X.stack,H b=U:=λb a=>by
 rcases List.mem_cons.mp (I.Jk b a)with e|a
 ·rw[e];exact I.free
 ·obtain⟨_,o,c,_⟩:=I.ok.DP.mem a;exact I.base.free b o c (I.ok.frf b a) λz=>I.ok.Yn b z a
theorem AU.step{g':Array GenState}{t':Nat}{d':Drawn}{ch:O A1}(I:AU X AN σ H s)
  (h:∀b∈ch,(b∈X.ex\/X.s₀.heap.objs.size<=b)/\b≠X.env.locals/\(∀x c,X.env.cells.lookup x=Z c->c≠b)/\∀p∈X.pn++AN,p.1≠b)
  (keep:∀b o,b≠X.env.locals->b∉X.fs->b∉ch->s.heap.get? b=Z o->H b=U->h'.get? b=Z o)
  (C:∀b o,b≠X.env.locals->b∈X.fs->b∉ch->s.heap.get? b=Z o->H b=U->∃sl,h'.get? b=Z { o with slots:=sl }) (free:∀b o,b∉ch->s.heap.get? b=Z o->H b=U->H' b=U)
  (W:∀b o,b∉ch->s.heap.get? b=Z o->∃o',h'.get? b=Z o')
  (L:∀b xs,H b=Z (.tup xs)->H' b=Z (.tup xs)) (J:∀b o u,H b=Z (.uD o u)->H' b=Z (.uD o u)) (F:∀b ps,H b=Z (.Ji ps)->∃M,H' b=Z (.Ji (ps++M)))
  (ns:∀m,s.heap.Ns X.env.locals m->h'.Ns X.env.locals m) (E:zj X.prog X.w H' h') (N:AllBare g'):
  AU X AN σ H' { s with heap:=h',gens:=g',drawn:=d',toks:=t' }:=by
 have B:∀b o,X.s₀.heap.get? b=Z o->b≠X.env.locals:=λb o e=>zC (Zl (zt e) I.ok.above);have j:∀b o,X.s₀.heap.get? b=Z o->b∉X.ex->b∉ch:=λb o e hx a=>by
  rcases(h b a).1 with z|z
  ·exact hx z
  ·exact absurd (Zl (zt e) z) (jn _)
 have y:∀x c,X.env.cells.lookup x=Z c->∀v,s.heap.IsCell c v->h'.IsCell c v:=λx c e v ⟨o,f,hd⟩=>by
  have g:c∉ch:=λz=>(h c z).2.2.1 x c e rfl;by_cases D:c∈X.fs
  ·obtain⟨sl,q⟩:=C c o (I.cne x c e) D g f (I.qR x c e);exact⟨_,q,hd⟩
  ·exact⟨o,keep c o (I.cne x c e) D g f (I.qR x c e),hd⟩
 refine⟨I.ok,I.os,N,⟨λb o e n a hx=>?_,λb o e n a hx=>?_,λb o e n hx=>?_,λb o e hx=>?_,λb xs e=>L b xs (I.base.tups b xs e),λb o xs e=>J b o xs (I.base.GK b o xs e),λb ps e=>?_⟩,?_,λx c e=>?_,?_,λx c e=>?_,λp hp=>?_,E,I.len⟩
 ·exact keep b o (B b o e) a (j b o e hx) (I.base.keep b o e n a hx) (I.base.free b o e n hx)
 ·obtain⟨sl,e1⟩:=I.base.slot b o e n a hx;obtain⟨K,e2⟩:=C b _ (B b o e) a (j b o e hx) e1 (I.base.free b o e n hx);exact⟨K,e2⟩
 ·obtain⟨o',e1⟩:=I.base.there b o e hx;exact free b o' (j b o e hx) e1 (I.base.free b o e n hx)
 ·obtain⟨o',e1⟩:=I.base.there b o e hx;exact W b o' (j b o e hx) e1
 ·obtain⟨P,e1⟩:=I.base.zp b ps e;obtain⟨m2,e2⟩:=F b _ e1;exact⟨P++m2,by rw[e2,k8]⟩
 ·obtain⟨m,Q,G⟩:=I.loc;refine⟨m,ns m Q,λi x v e1 e2 e3=>?_⟩;obtain⟨u,r,l⟩:=G i x v e1 e2 e3;refine⟨u,r,?_⟩;rcases l with l|⟨k,c,e,z⟩
  ·exact .inl l
  ·exact .inr ⟨k,c,e,y x c e _ z⟩
 ·obtain⟨v,z⟩:=I.cell x c e;exact⟨v,y x c e v z⟩
 ·obtain⟨m,⟨o,_,_,f,_⟩,_⟩:=I.loc;exact free _ o (λz=>(h _ z).2.1 S) f I.free
 ·obtain⟨v,o,f,hd⟩:=I.cell x c e;exact free c o (λz=>(h c z).2.2.1 x c e S) f (I.qR x c e)
 ·obtain⟨e,n,t,A,d⟩:=I.pin p hp;have g:p.1∉ch:=λz=>(h p.1 z).2.2.2 p hp rfl;exact⟨keep p.1 p.2 t A g e n,free p.1 p.2 g e n,t,A,d⟩
theorem AU.un{t':Nat}(I:AU X AN σ H s)(u:Un X.fs [] H H' s.heap h')(h:zj X.prog X.w H' h'):AU X AN σ H' { s with heap:=h',toks:=t' }:=by
 obtain⟨m,⟨o,es,ep,c,r⟩,_⟩:=id I.loc;obtain⟨sl,g⟩:=u.any c I.free (by simp);exact I.step (g':=s.gens) (d':=s.drawn) (ch:=[]) (λ_ z=>nomatch z) (λb o _ a _ e n=>u.keep b o e n a (by simp)) (λb o _ a _ e n=>u.slot b o e n a (by simp)) (λb o _ e n=>u.free b o e n (by simp)) (λb o _ e=>u.there b o e (by simp)) u.tups u.GK u.zp (λp f=>by
  obtain⟨o',j,l,d,i⟩:=f;rw[c]at d;cases d;exact⟨_,j,l,g,i⟩) h I.bare
theorem AU.call{g':Array GenState}{t':Nat}{d':Drawn}{ch:O A1}(I:AU X AN σ H s)(u:Un (CC X.stack) ch H H' s.heap h')(j:zj X.prog X.w H' h')(y:AllBare g')
  (g:∀b∈ch,(b∈X.ex\/X.s₀.heap.objs.size<=b)/\b≠X.env.locals/\(∀x c,X.env.cells.lookup x=Z c->c≠b)/\∀p∈X.pn++AN,p.1≠b):
  AU X AN σ H' { s with heap:=h',gens:=g',drawn:=d',toks:=t' }:=by
 obtain⟨m,⟨o,es,ep,f,r⟩,_⟩:=id I.loc;obtain⟨sl,d⟩:=u.any f I.free λz=>(g _ z).2.1 rfl;exact I.step (ch:=ch) g (λb o d l a e n=>u.keep b o e n (λz=>(List.mem_cons.mp (I.Jk b z)).elim d l) a) (λb o _ _ a e n=>u.any e n a) (λb o a e n=>u.free b o e n a) (λb o a e=>u.there b o e a) u.tups u.GK u.zp (λA i=>by
  obtain⟨o',t,v,h,q⟩:=i;rw[f]at h;cases h;exact⟨_,t,v,d,q⟩) j y
theorem AU.turned{t':Nat}(I:AU X AN σ H s)(k:∀b o,b≠it->s.heap.get? b=Z o->h'.get? b=Z o)(hn:H it=U)(f:it≠X.env.locals)(h1:it∈X.ex\/X.s₀.heap.objs.size<=it)(h2:∀x c,X.env.cells.lookup x=Z c->c≠it)(i:∀p∈X.pn++AN,p.1≠it):AU X AN σ H { s with heap:=h',toks:=t' }:=by
 have d:∀b u,H b=Z u->b≠it:=λb u e z=>by rw[z,hn]at e;cases e
 refine I.step (g':=s.gens) (d':=s.drawn) (ch:=[it]) (λb h=>?_) (λb o _ _ a e _=>k b o (λz=>a (by simp[z])) e) (λb o _ _ a e _=>⟨o.slots,k b o (λz=>a (by simp[z])) e⟩) (λ_ _ _ _ n=>n)
  (λb o a e=>⟨o,k b o (λz=>a (by simp[z])) e⟩) (λ_ _ e=>e) (λ_ _ _ e=>e) (λb ps e=>⟨#[],by rw[e];simp⟩) (λm j=>?_) (λb u e=>?_) I.bare
 ·have e:b=it:=by simpa using h
  subst e;exact⟨h1,f,h2,i⟩
 ·obtain⟨o,es,ep,g,r⟩:=j;exact⟨o,es,ep,k _ o (k6 f) g,r⟩
 ·refine(I.hok b u e).stay (λc v a q=>k c v ?_ q) (λ_ q=>q) (λ_ _ q=>q) λ_ _ _ q=>q;rcases a with z|z
  ·rw[z];exact d b u e
  ·exact d c _ z
theorem AU.tok(I:AU X AN σ H s)(t:Nat):AU X AN σ H { s with toks:=t }:=I.un (h':=s.heap) (t':=t) Un.refl I.hok
theorem AU.kept{t':Nat}(I:AU X AN σ H s)(k:∀b u,s.heap.get? b=Z u->h'.get? b=Z u):AU X AN σ H { s with heap:=h',toks:=t' }:=I.un (Un.kept k) (I.hok.kept k)
theorem AU.laid{a:A1}{o:HO}{t':Nat}(I:AU X AN σ H s)(k:∀b u,s.heap.get? b=Z u->h'.get? b=Z u)(hp:s.heap.objs.size<=a)(new:gJ X.prog X.w (B6 H a o) h' a o):
  AU X AN σ (B6 H a o) { s with heap:=h',toks:=t' }:=I.un (Un.laid k hp (I.hok.fresh hp)) (I.hok.laid k hp new)
theorem AU.write{x e:A1}{o:HO}{t':Nat}(I:AU X AN σ H s)(c:DV (H x))(d:e=x\/H e=Z (.own x))(k:∀b u,b≠e->s.heap.get? b=Z u->h'.get? b=Z u)(a:∃u,h'.get? e=Z u)
  (new:gJ X.prog X.w (B6 H x o) h' x o):AU X AN σ (B6 H x o) { s with heap:=h',toks:=t' }:=I.un (Un.write c d k a) (I.hok.write c d k a new)
theorem AU.zq{a:O (A1×AE)}(I:AU X AN σ H s)(h:∀p∈a,s.heap.get? p.1=Z p.2/\H p.1=U/\p.1≠X.env.locals/\p.1∉X.fs/\∀v,p.2.data≠.cell v):AU X a σ H s:=
 ⟨I.ok,I.os,I.bare,I.base,I.loc,I.cell,I.free,I.qR,λp hp=>(ai.mp hp).elim (λz=>I.pin p (cS _ z)) (h p),I.hok,I.len⟩
theorem K5(c:N.Nodup)(a:N[i]?=Z x)(b:N[j]?=Z x):i=j:=by
 obtain⟨h1,e1⟩:=af.mp a;obtain⟨h2,e2⟩:=af.mp b;exact(dA c).mp (e1.trans e2.symm)
theorem R0{v:V}{Q:Unit->A2->Prop}(I:AU X AN σ H s)(hN:X.N.Nodup)(hi:X.N[i]?=Z x)(hx:CO X.env.scope x)(r:As v u)(h:∀s',AU X AN (σ.set i (Z v)) H s'->(∃a,Heap.SameBut a s.heap s'.heap/\(a=X.env.locals\/X.env.cells.lookup x=Z a))->Q ej s')(hf:X.fn x=true\/X.env.scope.names.lookup x=Z .local:=by first|exact .inl rfl|exact .inr rfl|assumption):A7 M A (storeName X.env x u) Q E s:=by
 obtain⟨m,L,hl⟩:=id I.loc;have a6:(X.env.scope.kind==.class||(X.env.scope.kind==.module&&X.env.locals !=X.env.globals))=false:=by rw[I.ok.kind];rfl
 have a1:i<σ.length:=by rw[I.len];exact(af.mp hi).1
 have cne:=I.cne;have a3:∀{a:A1} {h':A6},(∃o,s.heap.get? a=Z o/\H a=U)->Heap.SameBut a s.heap h'->zj X.prog X.w H h':=λ{a h'} ha f b ob e=>by
  obtain⟨_,_,a4⟩:=ha;refine(I.hok b ob e).stay (λc C g q=>(f.2 c ?_).trans q) (λ_ q=>q) (λ_ _ q=>q) λ_ _ _ q=>q;rintro rfl;rcases g with rfl|g
  ·rw[a4]at e;cases e
  ·rw[a4]at g;cases g
 rcases hx with hk|hk
 ·refine wpAny_storeName_local hk L (λh' a7 f=>?_) a6;obtain⟨oL,_,_,a8,_⟩:=id L;refine h _ ⟨I.ok,I.os,I.bare,⟨λb o e n l hx=>?_,λb o e n l hx=>?_,I.base.free,λb o e hx=>?_,I.base.tups,I.base.GK,I.base.zp⟩,⟨_,a7,λj y D e1 e2 e3=>?_⟩,λy c e=>?_,I.free,I.qR,λp hp=>?_,a3 ⟨oL,a8,I.free⟩ f,by simpa using I.len⟩ ⟨_,f,.inl rfl⟩
  ·exact(f.2 b (zC (Zl (zt e) I.ok.above))).trans (I.base.keep b o e n l hx)
  ·obtain⟨sl,e1⟩:=I.base.slot b o e n l hx;exact⟨sl,(f.2 b (zC (Zl (zt e) I.ok.above))).trans e1⟩
  ·obtain⟨o',e1⟩:=I.base.there b o e hx;exact⟨o',(f.2 b (zC (Zl (zt e) I.ok.above))).trans e1⟩
  ·by_cases t:j=i
   ·subst t;rw[hi]at e1;cases e1;rw[cy a1]at e2;cases e2;exact⟨u,r,.inl ⟨hk,by simp⟩⟩
   ·rw[bb (k6 t)]at e2;obtain⟨K,G,q⟩:=hl j y D e1 e2 e3;refine⟨K,G,?_⟩;rcases q with⟨k,e⟩|⟨k,c,e,z⟩
    ·refine .inl ⟨k,?_⟩;have:y≠x:=λe=>t (K5 hN e1 (e▸hi));simp[this,e]
    ·exact .inr ⟨k,c,e,z.sameBut f (cne y c e)⟩
  ·obtain⟨C,z⟩:=I.cell y c e;exact⟨C,z.sameBut f (cne y c e)⟩
  ·obtain⟨e,n,B,J,d⟩:=I.pin p hp;exact⟨(f.2 p.1 B).trans e,n,B,J,d⟩
 ·have F:X.fn x=true:=by
   rcases hf with z|z
   ·exact z
   ·rw[z]at hk;cases hk
  obtain⟨c,g⟩:=I.ok.has x (.inl hk);obtain⟨C,z⟩:=I.cell x c g;refine wpAny_storeName_cell I.ok.kind hk g z (λh' a2 f=>?_);obtain⟨P,W,a5⟩:=id z;refine h { s with heap:=h' } ⟨I.ok,I.os,I.bare,⟨λb o e n l hx=>?_,λb o e n l hx=>?_,I.base.free,λb o e hx=>?_,I.base.tups,I.base.GK,I.base.zp⟩,⟨m,L.sameBut f (k6 (cne x c g)),λj y D e1 e2 e3=>?_⟩,λy c' e=>?_,I.free,I.qR,λp hp=>?_,a3 ⟨P,W,I.qR x c g⟩ f,by simpa using I.len⟩ ⟨c,f,.inr g⟩
  ·exact(f.2 b (zC (Zl (zt e) (I.ok.cab x c F g)))).trans (I.base.keep b o e n l hx)
  ·obtain⟨sl,e1⟩:=I.base.slot b o e n l hx;exact⟨sl,(f.2 b (zC (Zl (zt e) (I.ok.cab x c F g)))).trans e1⟩
  ·obtain⟨o',e1⟩:=I.base.there b o e hx;exact⟨o',(f.2 b (zC (Zl (zt e) (I.ok.cab x c F g)))).trans e1⟩
  ·by_cases t:j=i
   ·subst t;rw[hi]at e1;cases e1;rw[cy a1]at e2;cases e2;exact⟨u,r,.inr ⟨.inl hk,c,g,a2⟩⟩
   ·rw[bb (k6 t)]at e2;obtain⟨K,G,q⟩:=hl j y D e1 e2 e3;refine⟨K,G,?_⟩;rcases q with q|⟨k,c',e,z'⟩
    ·exact .inl q
    ·refine .inr ⟨k,c',e,z'.sameBut f ?_⟩;rintro rfl;exact t (K5 hN e1 (I.ok.inj _ _ _ e g▸hi))
  ·by_cases a0:c'=c
   ·subst a0;exact⟨_,a2⟩
   ·obtain⟨w2,z2⟩:=I.cell y c' e;exact⟨w2,z2.sameBut f a0⟩
  ·obtain⟨e,n,B,J,d⟩:=I.pin p hp;refine⟨(f.2 p.1 ?_).trans e,n,B,J,d⟩;intro q;rw[q,W]at e;have q':P=p.2:=Q1 e;exact d C (by rw[<-q'];exact a5)
theorem zu{v:V}{Q:Unit->A2->Prop}(I:AU X AN σ H s)(c:X.N.Nodup)(hi:X.N[i]?=Z x)(hx:CO X.env.scope x)(r:As v u)(h:∀s',AU X AN (σ.set i (Z v)) H s'->Q ej s')(a:X.fn x=true\/X.env.scope.names.lookup x=Z .local:=by first|exact .inl rfl|exact .inr rfl|assumption):A7 M A (storeName X.env x u) Q E s:=
 R0 I c hi hx r (λs' b _=>h s' b) a
theorem AU.call'{s':A2}{ch:O A1}(I:AU X AN σ H s)(d:s'.os=s.os)(u:Un (CC X.stack) ch H H' s.heap s'.heap)(a:zj X.prog X.w H' s'.heap)(g:AllBare s'.gens)
  (f:∀b∈ch,(b∈X.ex\/X.s₀.heap.objs.size<=b)/\b≠X.env.locals/\(∀x c,X.env.cells.lookup x=Z c->c≠b)/\∀p∈X.pn++AN,p.1≠b):AU X AN σ H' s':=by
 obtain⟨h',g',d',t',o'⟩:=s';have e:o'=s.os:=d;subst e;exact I.call (g':=g') (t':=t') (d':=d') u a g f
end
abbrev XK:=A0->Y A1->Hp->Prop
abbrev St:=O (Y V)
abbrev VK:=V->Hp->Prop
abbrev TE:=St->Hp->VK->Prop
abbrev TT:=St->Hp->(Bool->Hp->Prop)->Prop
abbrev TA:=St->Hp->(O V->Hp->Prop)->Prop
structure C1 where
 nx:St->Hp->Prop
 rt:VK
 bk:St->Hp->Prop:=λ_ _=>False
 ct:St->Hp->Prop:=λ_ _=>False
abbrev TS:=C1->St->Hp->Prop
def EP(X:Cx)(AN:O (A1×AE))(σ:St)(Q:VK)(u:A0)(s':A2):Prop:=∃v H',AU X AN σ H' s'/\As v u/\Q v H'
def TP(X:Cx)(AN:O (A1×AE))(σ:St)(Q:Bool->Hp->Prop)(b:Bool)(s':A2):Prop:=∃H',AU X AN σ H' s'/\Q b H'
def AP(X:Cx)(AN:O (A1×AE))(σ:St)(Q:O V->Hp->Prop)(us:O A0)(s':A2):Prop:=∃vs H',AU X AN σ H' s'/\AX vs us/\Q vs H'
def SP(X:Cx)(AN:O (A1×AE))(D:C1)(f:Flow)(s':A2):Prop:=
 match f with
 |.next=>∃ σ' H',AU X AN σ' H' s'/\D.nx σ' H'
 |.brk=>∃ σ' H',AU X AN σ' H' s'/\D.bk σ' H'
 |.cont=>∃ σ' H',AU X AN σ' H' s'/\D.ct σ' H'
 |.ret u=>∃v σ' H',AU X AN σ' H' s'/\As v u/\D.rt v H'
def PE(X:Cx)(e:Expr)(t:TE):Prop:=
 ∀(AN:O (A1×AE)) (s:A2) (σ:St) (H:Hp) (Q:VK),AU X AN σ H s->t σ H Q->A7 (eh X) X.A (eval e X.env) (EP X AN σ Q) X.xe s
def PT(X:Cx)(e:Expr)(t:TT):Prop:=
 ∀(AN:O (A1×AE)) (s:A2) (σ:St) (H:Hp) (Q:Bool->Hp->Prop),AU X AN σ H s->t σ H Q->A7 (eh X) X.A (isTrue e X.env (eval e X.env)) (TP X AN σ Q) X.xe s
def PW(X:Cx)(e:Expr)(t:TT):Prop:=
 ∀(a:Sem A0) (AN:O (A1×AE)) (s:A2) (σ:St) (H:Hp) (Q:Bool->Hp->Prop),AU X AN σ H s->t σ H Q->A7 (eh X) X.A (isTrue e X.env a) (TP X AN σ Q) X.xe s
theorem PW.pt{X:Cx}{t:TT}(h:PW X e t):PT X e t:=h _
def PA(X:Cx)(es:O Expr)(t:TA):Prop:=
 ∀(pos:Pos) (AN:O (A1×AE)) (s:A2) (σ:St) (H:Hp) (Q:O V->Hp->Prop),AU X AN σ H s->t σ H Q->A7 (eh X) X.A (spliced (AD pos (A9 es X.env))) (AP X AN σ Q) X.xe s
def PS(X:Cx)(st:AB)(t:TS):Prop:=
 ∀(AN:O (A1×AE)) (s:A2) (σ:St) (H:Hp) (D:C1),AU X AN σ H s->t D σ H->A7 (eh X) X.A (exec st X.env) (SP X AN D) X.xe s
def Og(X:Cx)(st:O AB)(t:TS):Prop:=
 ∀(AN:O (A1×AE)) (s:A2) (σ:St) (H:Hp) (D:C1),AU X AN σ H s->t D σ H->A7 (eh X) X.A (execs st X.env) (SP X AN D) X.xe s
theorem jF{t:Sem α}{Q b:α->A2->Prop}(h:A7 M A t Q E s)(c:∀a s,Q a s->b a s):A7 M A t b E s:=ZU h c λ_ _ x=>x
end L2
namespace L2
section
variable{X:Cx}
def IH(i:Nat):TE:=λσ H Q=>∃v,σ[i]?=Z (Z v)/\Q v H
def tC(v:V):TE:=λ_ H Q=>Q v H
theorem yF(p:X.N[i]?=Z x)(n:Qv X.env.scope x)(hd:eg x:=by decide)(j:(x==("__classdict__":AJ))=false:=by decide):PE X (.Name x pos) (IH i):=by
 intro AN s σ H Q I h;obtain⟨v,e,h⟩:=h;obtain⟨m,g,f⟩:=I.loc;obtain⟨u,r,l⟩:=f i x v p e n;have a:EP X AN σ Q u s:=⟨v,H,I,r,h⟩;rcases l with⟨hk,o⟩|⟨hk,c,d,b⟩
 ·exact wpAny_Name (wpAny_loadName_local I.ok.kind hk g o a) hd
 ·rcases hk with hk|hk
  ·exact wpAny_Name (wpAny_loadName_cell I.ok.kind hk d b a) hd
  ·exact wpAny_Name (wpAny_loadName_free I.ok.kind hk d b a j) hd
theorem N4{i j pos}:PE X (.Constant (.int i) j pos) (tC (.int i)):=λ_ _ _ H _ I h=>wpAny_Constant_int ⟨.int i,H,I.tok _,⟨_,rfl⟩,h⟩
theorem NU{b j pos}:PE X (.Constant (.bool b) j pos) (tC (.bl b)):=λ_ _ _ H _ I h=>Constant_bool ⟨.bl b,H,I,rfl,h⟩
theorem NH{j pos}:PE X (.Constant .none j pos) (tC .non):=λ_ _ _ H _ I h=>Constant_none ⟨.non,H,I,rfl,h⟩
theorem Of{x j pos}:PE X (.Constant (.str x) j pos) (tC (.str x)):=λ_ _ _ H _ I h=>Calls.Constant_str ⟨.str x,H,I.tok _,⟨_,rfl⟩,h⟩
def Gl(X:Cx)(x:AJ):Prop:=X.env.kindOf x=Z .globalImplicit
theorem Qw{σ:St}{H:Hp}(I:AU X AN σ H s)(b:Gl X x)(a:X.mg x=Z u)(h:Q u s)(hd:eg x:=by decide):A7 (eh X) X.A (eval (.Name x pos) X.env) Q E s:=
 Calls.Name_function_global I.ok.kind b (Calls.loadGlobal_global (by rw[I.ok.glob];exact I.mod.glob.keeps I.bk) a h) hd
theorem DR{σ:St}{H:Hp}(I:AU X AN σ H s)(c:Gl X x)(b:X.mg x=U)(a:AH x=Z u)(h:Q u s)(hn:x ≠ "__name__":=by decide)(hd:eg x:=by decide):A7 (eh X) X.A (eval (.Name x pos) X.env) Q E s:=by
 obtain⟨d,h1,h2⟩:=I.mod.blt;exact Calls.Name_function_global I.ok.kind c (Calls.loadGlobal_builtin (by rw[I.ok.glob];exact I.mod.glob.keeps I.bk) b (by rw[I.ok.blt];exact h1.keeps I.bk) ((h2 x hn).trans a) h) hd
variable{a b:Expr}{ta tb:TE}
variable{tA tB':TT}{AS:O Expr}
def IP(t u:TT):TT:=λσ H Q=>t σ H λc H1=>if c=true then Q true H1 else u σ H1 Q
def PZ(t:TT):TT:=λσ H Q=>t σ H λc H1=>Q (!c) H1
theorem SA(b:PT X a tA):PW X (.BoolOp .Or [a] pos) tA:=by
 intro f AN s σ H Q I h;refine isTrue_or (jF (b AN s σ H Q I h) λc d e=>?_);cases c with
 |false=>exact isTrue_or_nil e
 |true=>exact e
theorem Op(f:PT X a tA)(e:PW X (.BoolOp .Or (b::AS) pos) tB'):PW X (.BoolOp .Or (a::b::AS) pos) (IP tA tB'):=by
 intro d AN s σ H Q I h;refine isTrue_or (jF (f AN s σ H _ I h) λc s1 ⟨H1,I1,q1⟩=>?_);cases c with
 |true=>exact⟨H1,I1,q1⟩
 |false=>exact e d AN s1 σ H1 Q I1 q1
theorem P2(b:PT X a tA):PT X (.UnaryOp .Not a pos) (PZ tA):=by
 intro AN s σ H Q I h;exact isTrue_not (b AN s σ H (λc H1=>Q (!c) H1) I h)
end
end L2
namespace L2
def qQ(K:B5)(H:Hp)(a:A1)(xs:O V):Prop:=
 Rd H a (.lst xs) ∨
  ∃(o:AE) (AQ:Array A0) (n:Nat),K.lookup a=Z o/\o.cls=.type "list" ∧ o.dict=U/\o.data=.seq AQ n/\AQ.size<=AA/\AX xs AQ.toList
def zm(K:B5)(H:Hp)(a:A1)(xs:O V):Prop:=
 Rd H a (.tup xs) ∨
  ∃(o:AE) (AQ:Array A0) (n:Nat),K.lookup a=Z o/\(o.cls=.type "tuple" ∧ o.dict=U)/\o.data=.seq AQ n/\AQ.size<=AA/\AX xs AQ.toList
def FO:A0->Y V
 |.none=>Z .non
 |.bool b=>Z (.bl b)
 |.int i _=>Z (.int i)
 |.str x _=>Z (.str x)
 |.bytes b _=>Z (.byt b)
 |.float b _=>Z (.flt b)
 |.ref a=>Z (.ref a)
 |.type n=>Z (.ty n)
 |_=>U
theorem As.abs{x:V}(r:As x u):FO u=Z x:=by
 cases x with
 |non=>cases r;rfl
 |bl _=>cases r;rfl
 |int _=>obtain⟨t,rfl⟩:=r;rfl
 |str _=>obtain⟨t,rfl⟩:=r;rfl
 |byt _=>obtain⟨t,rfl⟩:=r;rfl
 |flt _=>obtain⟨t,rfl⟩:=r;rfl
 |ref _=>cases r;rfl
 |ty _=>cases r;rfl
theorem As.inj{x y:V}{u:A0}(r:As x u)(q:As y u):x=y:=Q1 (r.abs.symm.trans q.abs)
theorem AX.inj:∀{xs ys:O V} {us:O A0},AX xs us->AX ys us->xs=ys
 |_,_,_,.nil,.nil=>rfl
 |_,_,_,.cons r t,.cons r' t'=>by rw[r.inj r',AX.inj t t']
section
variable{X:Cx}{σ:St}{H:Hp}{xs ys:O V}
theorem AU.list(I:AU X AN σ H s)(h:qQ X.K H a xs):∃AQ:O A0,AX xs AQ/\PlainL s.heap a AQ.toArray/\xs.length<=AA:=by
 rcases h with h|⟨o,AQ,n,hk,c,hd,b,d,r⟩
 ·obtain⟨z,AQ,n,r,e⟩:=h.ok I.hok;exact⟨AQ,r,⟨_,n,e,rfl,rfl,rfl⟩,z⟩
 ·refine⟨AQ.toList,r,⟨o,n,I.X8 a o hk,c,hd,by simpa using b⟩,?_⟩;have e:=r.length;simp only[QN]at e;omega
theorem AU.tuple(I:AU X AN σ H s)(h:zm X.K H a xs):∃AQ:O A0,AX xs AQ/\IsTup s.heap a AQ.toArray/\xs.length<=AA:=by
 rcases h with h|⟨o,AQ,n,hk,c,b,d,r⟩
 ·obtain⟨z,AQ,r,p⟩:=h.ok I.hok;exact⟨AQ,r,p.weak,z⟩
 ·refine⟨AQ.toList,r,⟨o,I.X8 a o hk,c.1,n,by simpa using b⟩,?_⟩;have e:=r.length;simp only[QN]at e;omega
theorem AU.K6(I:AU X AN σ H s)(h:qQ X.K H a xs)(h':qQ X.K H a ys):xs=ys:=by
 obtain⟨AQ,r,⟨o,n,e,_,_,d⟩,_⟩:=I.list h;obtain⟨c,g,⟨o',i,e',_,_,b⟩,_⟩:=I.list h';rw[e]at e';cases e';rw[d]at b;injection b with f _;have:AQ=c:=by simpa using congrArg dl f
 subst this;exact r.inj g
theorem AU.Hx(I:AU X AN σ H s)(h:zm X.K H a xs)(h':zm X.K H a ys):xs=ys:=by
 obtain⟨AQ,r,⟨o,e,_,n,d⟩,_⟩:=I.tuple h;obtain⟨c,g,⟨o',e',_,i,b⟩,_⟩:=I.tuple h';rw[e]at e';cases e';rw[d]at b;injection b with f _;have:AQ=c:=by simpa using congrArg dl f
 subst this;exact r.inj g
end
abbrev Cx.wish(X:Cx)(E:BF):Cx:={ X with xe:=E }
abbrev Cx.Yb(X:Cx):Cx:=X.wish λ_ _=>False
theorem Cx.Ok.wish{X:Cx}(ok:X.Ok)(E:BF):(X.wish E).Ok:=
 ⟨ok.mod,ok.kind,ok.glob,ok.blt,ok.above,ok.inj,ok.has,ok.cab,ok.hd,ok.frames,ok.stk,ok.exf,ok.bs,ok.Ym,ok.Uu,ok.Yn,ok.DP,ok.frf,ok.tabs⟩
theorem Cx.Ok.uH{X:Cx}(ok:(X.wish E).Ok):X.Ok:=
 ⟨ok.mod,ok.kind,ok.glob,ok.blt,ok.above,ok.inj,ok.has,ok.cab,ok.hd,ok.frames,ok.stk,ok.exf,ok.bs,ok.Ym,ok.Uu,ok.Yn,ok.DP,ok.frf,ok.tabs⟩
section
variable{X:Cx}{σ:St}{H:Hp}
theorem AU.wish(I:AU X AN σ H s)(E:BF):AU (X.wish E) AN σ H s:=⟨I.ok.wish E,I.os,I.bare,I.base,I.loc,I.cell,I.free,I.qR,I.pin,I.hok,I.len⟩
theorem AU.uH(I:AU (X.wish E) AN σ H s):AU X AN σ H s:=⟨I.ok.uH,I.os,I.bare,I.base,I.loc,I.cell,I.free,I.qR,I.pin,I.hok,I.len⟩
theorem SP.uH{D:C1}{f:Flow}{s':A2}(h:SP (X.wish E) AN D f s'):SP X AN D f s':=by
 cases f with
 |next=>obtain⟨σ',H',I,q⟩:=h;exact⟨σ',H',I.uH,q⟩
 |brk=>obtain⟨σ',H',I,q⟩:=h;exact⟨σ',H',I.uH,q⟩
 |cont=>obtain⟨σ',H',I,q⟩:=h;exact⟨σ',H',I.uH,q⟩
 |ret u=>obtain⟨v,σ',H',I,r,q⟩:=h;exact⟨v,σ',H',I.uH,r,q⟩
theorem Og.Yb{st:O AB}{t:TS}(h:Og X.Yb st t):Og X st t:=λAN s σ H D I a=>
 ZU (h AN s σ H D (I.wish _) a) (λ_ _ q=>q.uH) λ_ _ z=>False.elim z
end
section
variable{X:Cx}{AS:O AB}{t u:TS}{te:TE}
def M':TS:=λD σ H=>D.nx σ H
def MR(t u:TS):TS:=λD σ H=>t { D with nx:=u D } σ H
theorem Yo:Og X [] M':=λ_ _ σ H _ I h=>wpAny_execs_nil ⟨σ,H,I,h⟩
theorem DW(h1:PS X st t)(h2:Og X AS u):Og X (st::AS) (MR t u):=by
 intro AN s σ H D I h;refine wpAny_execs_cons (jF (h1 AN s σ H { D with nx:=u D } I h) λf a q=>?_);cases f with
 |next=>
  obtain⟨σ',H',b,q⟩:=q;exact h2 AN a σ' H' D b q
 |ret v=>exact q
 |brk=>exact q
 |cont=>exact q
theorem AU.quiet{σ:St}{H:Hp}(I:AU X AN σ H s):interactive X.env=false:=by simp[interactive,I.ok.kind]
def Sa(te:TE):TS:=λD σ H=>te σ H λ_ H1=>D.nx σ H1
theorem Yp(a:PE X e te)(hs:swapsWith e U pos.line X.env=pure false:=by rfl):PS X (.Expr e pos) (Sa te):=by
 intro AN s σ H D I h;exact wpAny_Expr_any (jF (a AN s σ H _ I h) λv s1 ⟨x,H1,I1,r1,q1⟩=>⟨σ,H1,I1,q1⟩) I.quiet hs
def MZ(te:TE):TS:=λD σ H=>te σ H D.rt
theorem Uv(a:PE X e te):PS X (.Return (Z e) pos) (MZ te):=by
 intro AN s σ H D I h;exact wpAny_Return_some (jF (a AN s σ H _ I h) λv s1 ⟨x,H1,I1,r1,q1⟩=>⟨x,σ,H1,I1,r1,q1⟩)
def Su(c:TT)(t u:TS):TS:=λD σ H=>c σ H λb H1=>if b=true then t D σ H1 else u D σ H1
theorem MY{a b:O AB}{tc:TT}(e:PT X c tc)(g:Og X a t)(f:Og X b u):PS X (.If c a b pos) (Su tc t u):=by
 intro AN s σ H D I h;refine wpAny_If (jF (e AN s σ H _ I h) λd s1 ⟨H1,I1,q1⟩=>?_);cases d with
 |true=>exact g AN s1 σ H1 D I1 q1
 |false=>exact f AN s1 σ H1 D I1 q1
end
abbrev TG:=V->St->Hp->(St->Hp->Prop)->Prop
abbrev Ct:=O V->St->Hp->(St->Hp->Prop)->Prop
def PG(X:Cx)(a:Expr)(t:TG):Prop:=
 ∀(AN:O (A1×AE)) (s:A2) (σ:St) (H:Hp) (v:V) (u:A0) (Q:St->Hp->Prop),AU X AN σ H s->As v u->t v σ H Q →
  A7 (eh X) X.A (assign a X.env u) (λ_ s'=>∃ σ' H',AU X AN σ' H' s'/\Q σ' H') X.xe s
def Uw(X:Cx)(ts:O Expr)(t:Ct):Prop:=
 ∀(AN:O (A1×AE)) (s:A2) (σ:St) (H:Hp) (vs:O V) (us:O A0) (Q:St->Hp->Prop),AU X AN σ H s->AX vs us->t vs σ H Q →
  A7 (eh X) X.A (assignInOrder ((assignEach ts X.env).map (·.2)) us) (λ_ s'=>∃ σ' H',AU X AN σ' H' s'/\Q σ' H') X.xe s
section
variable{X:Cx}
def IG(i:Nat):TG:=λv σ H Q=>Q (σ.set i (Z v)) H
theorem Qx(c:X.N.Nodup)(hi:X.N[i]?=Z x)(hx:CO X.env.scope x)(a:X.fn x=true\/X.env.scope.names.lookup x=Z .local:=by first|exact .inl rfl|exact .inr rfl|assumption):PG X (.Name x pos) (IG i):=by
 intro AN s σ H v u Q I r h;exact wpAny_assign_Name (zu I c hi hx r (λs' b=>⟨_,H,b,h⟩) a)
def LP:Ct:=λvs σ H Q=>vs=[]/\Q σ H
def S4(t:TG)(u:Ct):Ct:=λvs σ H Q=>∃v r,vs=v::r/\t v σ H λσ' H'=>u r σ' H' Q
theorem Yq:Uw X [] LP:=by
 intro AN s σ H vs us Q I r h;obtain⟨e,h⟩:=h;subst e;cases r;exact assignInOrder_nil ⟨σ,H,I,h⟩
theorem Ux{t:TG}{u:Ct}(h1:PG X e t)(h2:Uw X es u)(hs:(assignEach (e::es) X.env).map (·.2)=assign e X.env::(assignEach es X.env).map (·.2):=by rfl):Uw X (e::es) (S4 t u):=by
 intro AN s σ H vs us Q I r h;obtain⟨v,b,e1,h⟩:=h;subst e1;cases r with
 |cons r a=>
  rw[hs];refine assignInOrder_cons (jF (h1 AN s σ H _ _ _ I r h) λ_ s1 ⟨σ1,H1,I1,q1⟩=>?_);exact h2 AN s1 σ1 H1 _ _ Q I1 a q1
def ND(K:B5)(n:Nat)(t:Ct):TG:=λv σ H Q=>∃a xs,v=.ref a/\zm K H a xs/\xs.length=n/\t xs σ H Q
theorem LX{k:Nat}{t:Ct}(m:X.calm=true)(h:Uw X es t)(hn:(assignEach es X.env).length=n:=by rfl)(g:(assignEach es X.env).findIdx? (·.1)=U:=by rfl):PG X (.Tuple es k pos) (ND X.K n t):=by
 intro AN s σ H v u Q I r c;obtain⟨a,xs,e1,j,l,c⟩:=c;subst e1;cases r;obtain⟨AQ,d,f,p⟩:=I.tuple j;refine assign_Tuple_tuple (I.ok.hd m) f (by simp[hn,<-l,d.length]) g λh' hx=>?_;have i:AU X AN σ H { s with heap:=h' }:=I.kept (t':=s.toks) λb o e=>hx b o (zC (zt e)) e;exact h AN _ σ H xs _ Q i (by simpa using d) c
def OQ(te:TE)(g:TG):TS:=λD σ H=>te σ H λx H1=>g x σ H1 D.nx
theorem Jm{te:TE}{pos':Pos}(d:X.N.Nodup)(hi:X.N[i]?=Z x)(hx:CO X.env.scope x)(c:PE X e te)(hs:swapsWith e (Z (.Name x pos')) pos.line X.env=pure false:=by rfl)(b:X.fn x=true\/X.env.scope.names.lookup x=Z .local:=by first|exact .inl rfl|exact .inr rfl|assumption):
  PS X (.Assign [.Name x pos'] e pos) (OQ te (IG i)):=by
 intro AN s σ H D I h;refine wpAny_Assign_Name (jF (c AN s σ H _ I h) λv s1 ⟨y,H1,I1,r1,q1⟩=>?_) hs;exact zu I1 d hi hx r1 (λf a=>⟨_,H1,a,q1⟩) b
def RI(i j:Nat)(ta:TA):TS:=λD σ H=>ta σ H λvs H1=>∃v w,vs=[v,w]/\D.nx ((σ.set i (Z v)).set j (Z w)) H1
theorem ML{y:AJ}{a b:Expr}{ta:TA}{px py pt:Pos}{kt k2 pt2}(F:X.calm=true)(f:X.N.Nodup)(hi:X.N[i]?=Z x)(E:X.N[j]?=Z y)(z:i≠j)(hx:X.env.scope.names.lookup x=Z .local)(g:X.env.scope.names.lookup y=Z .local)(m:PA X [a,b] ta)(G:swappedStores [.Tuple [.Name x px,.Name y py] kt pt] (.Tuple [a,b] k2 pt2) X.env=pure (Z [x,y]))(hs:swapsWithSole [.Tuple [.Name x px,.Name y py] kt pt] (.Tuple [a,b] k2 pt2) pos.line X.env=pure false:=by rfl):
  PS X (.Assign [.Tuple [.Name x px,.Name y py] kt pt] (.Tuple [a,b] k2 pt2) pos) (RI i j ta):=by
 intro AN s σ H D I h;rw[exec_Assign_arm];refine zb (kP ?_);rw[hs];refine zb (zd ?_);rw[zS ()];refine zb (Tuple_ (jF (m _ AN s σ H _ I h) λus s1 ⟨vs,H1,I1,r1,q1⟩=>?_));obtain⟨v,w,e1,q1⟩:=q1;subst e1;obtain⟨d,c,rfl,u,K⟩:∃d c,us=[d,c]/\As v d/\As w c:=by
  cases r1 with
  |cons p q=>
   cases q with
   |cons p' C=>
    cases C;exact⟨_,_,rfl,p,p'⟩
 refine qf ?_ (by show 2<=AA;decide);have t:AU X AN σ H1 { s1 with heap:=s1.heap.push { cls:=.type "tuple",data:=.seq [d,c].toArray } }:=I1.kept (t':=s1.toks) λb o e=>zg _ e;rw[G];refine zb (zd ?_);show A7 (eh X) X.A (do rule "assign.swapped-stores"; let items <-unpackItems (.ref s1.heap.objs.size) 2 U;assignInOrder [λv=>bindName X.env y v,λv=>bindName X.env x v] items.reverse;pure Flow.next) _ _ _;refine zb (JJ (zb (unpackItems_tuple (items:=#[d,c]) (I.ok.hd F) (IsTup.new s1.heap _) λh' B=>?_)));have J:=t.kept (h':=h') (t':=s1.toks) λb o e=>B b o (zC (zt e)) e;show A7 _ _ (assignInOrder [λv=>bindName X.env y v,λv=>bindName X.env x v] [c,d] >>= λ_=>pure Flow.next) _ _ _;refine zb (assignInOrder_cons (wpAny_bindName (zu J f E (.inl g) K (λM n=>?_) (.inr g))));refine assignInOrder_cons (wpAny_bindName (zu n f hi (.inl hx) u (λL l=>assignInOrder_nil (zd ?_)) (.inr hx)));rw[List.set_comm _ _ (k6 z)]at l;exact⟨_,H1,l,q1⟩
end
structure It where
 go:Nat->Hp->Prop
 yld:Nat->Hp->V->Hp->Prop
 stop:Nat->Hp->Prop
def uq(X:Cx)(AN:O (A1×AE))(H:Hp)(b:A1):Prop:=
 H b=U/\b≠X.env.locals/\b∉X.fs/\(b∈X.ex\/X.s₀.heap.objs.size<=b)/\(∀x c,X.env.cells.lookup x=Z c->c≠b)/\∀p∈X.pn++AN,p.1≠b
theorem AU.abz{X:Cx}{σ:St}{H H':Hp}{b:A1}(I:AU X AN σ H s)(a:s.heap.objs.size<=b)(hn:H' b=U):uq X AN H' b:=by
 refine⟨hn,be (Zl I.lt a),I.abn a,.inr (zD I.sz a),λx c e z=>?_,λp hp z=>?_⟩
 ·obtain⟨v,q⟩:=I.cell x c e;exact absurd (Zl q.lt (by rw[z];exact a)) (jn _)
 ·exact absurd (Zl (zt (I.pin p hp).1) (by rw[z];exact a)) (jn _)
structure C8 (P:Program) (w:World) (K:B5) (tg:Expr) (J:It) (fp:List Addr) (it:Addr) (tn:Nat->Heap->Prop):Prop where
 mem:it∈fp
 obj:∀i h,tn i h->∀b∈fp,∃o,h.get? b=some o/\∀v,o.data≠.cell v
 keep:∀i h h',tn i h->(∀b∈fp,∀o,h.get? b=some o->h'.get? b=some o)->tn i h'
 item:∀(X:Cx),X.prog=P->X.w=w->X.K=K->X.calm=true->∀(i:Nat) (AN:List (Addr×Obj)) (s:Shared) (σ:St) (H:Hp) (E:BF),AU X AN σ H s->(∀b∈fp,uq X AN H b)->tn i s.heap->J.go i H →
  wpAny (model P w) X.A (pyNext (.ref it)) (λr s1=>∃u,r=some u ∧
   wpAny (model P w) X.A (letOwnedTupleGo tg (.ref it) u) (λ_ s2=>∃x H',AU X AN σ H' s2/\As x u/\J.yld i H x H'/\tn (i+1) s2.heap/\∀b∈fp,H' b=none) E s1) E s
 done:∀(X:Cx),X.prog=P->X.w=w->X.K=K->X.calm=true->∀(i:Nat) (AN:List (Addr×Obj)) (s:Shared) (σ:St) (H:Hp) (E:BF),AU X AN σ H s->(∀b∈fp,uq X AN H b)->tn i s.heap->J.stop i H →
  wpAny (model P w) X.A (pyNext (.ref it)) (λr s1=>r=none/\AU X AN σ H s1) E s
 self:∀(A:Around) (i:Nat) (s:Shared) (Q:BF) (E:BF),tn i s.heap->Q (.ref it) s->wpAny (model P w) A (pyIter (.ref it)) Q E s
abbrev TI:=St->Hp->(It->Hp->Prop)->Prop
def HR(X:Cx)(AN:O (A1×AE))(σ:St)(tg:Expr)(R:It->Hp->Prop)(c:A0)(a:A2):Prop:=
 ∃(it:A1) (fp:O A1) (tn:Nat->A6->Prop) (J:It) (H':Hp),c=.ref it/\AU X AN σ H' a/\C8 X.prog X.w X.K tg J fp it tn/\tn 0 a.heap/\(∀b∈fp,uq X AN H' b)/\R J H'
def PI(X:Cx)(tg iter:Expr)(a:TI):Prop:=
 ∀(AN:O (A1×AE)) (s:A2) (σ:St) (H:Hp) (R:It->Hp->Prop),AU X AN σ H s->a σ H R →
  A7 (eh X) X.A (eval iter X.env) (λv b=>A7 (eh X) X.A (pyIter v) (HR X AN σ tg R) X.xe b) X.xe s
theorem K7{o:AE}{n:String}{vs:Array A0}{Q:Unit->A2->Prop}(b:s.heap.get? it=Z o)(c:o.cls=.type n)(hd:o.data=.fields vs)(hn:["enumerate","zip","dict_itemiterator","dict_reverseitemiterator","odict_iterator","itertools.zip_longest","itertools.pairwise"].contains n=false)(a:Q ej s):A7 M A (letOwnedTupleGo tg (.ref it) u) Q E s:=by
 unfold letOwnedTupleGo;cases tg<;>first
  |exact zd a
  |(cases u<;>first
    |exact zd a
    |(refine zb (wpAny_load b ?_)
      rw[c,hd];show A7 M A (if(["enumerate","zip","dict_itemiterator","dict_reverseitemiterator","odict_iterator","itertools.zip_longest","itertools.pairwise"].contains n&&vs[0]?==Z (rawInt _))=true then _ else _) Q E s;rw[zS (by intro h;rw[hn,Bool.false_and]at h;cases h)];exact zd a))
def EX(K:B5)(a:A1):It:=
 ⟨λi H=>∃xs x,qQ K H a xs/\xs[i]?=Z x,λi H x H'=>H'=H/\∀xs,qQ K H a xs->xs[i]?=Z x,λi H=>∃xs,qQ K H a xs/\xs.length<=i⟩
def Fm(K:B5)(a:A1):It:=
 ⟨λi H=>∃xs x,zm K H a xs/\xs[i]?=Z x,λi H x H'=>H'=H/\∀xs,zm K H a xs->xs[i]?=Z x,λi H=>∃xs,zm K H a xs/\xs.length<=i⟩
def EB(lo:Int)(n:Nat):It:=⟨λi _=>i<n,λi H x H'=>H'=H/\x=.int (lo+i),λi _=>n<=i⟩
theorem R3(a it:A1):C8 P w K tg (EX K a) [it] it (λi h=>h.IsListIter it a i) where
 mem:=by simp
 obj:=λi h st b f=>by
  have e:b=it:=by simpa using f
  subst e;obtain⟨o,e,c,d⟩:=st;exact⟨o,e,λv z=>by rw[d]at z;cases z⟩
 keep:=λi h h' st k=>st.at λo e=>k it (by simp) o e
 item:=by
  intro X q A hK C i AN s σ H E I g st y;subst q A hK;obtain⟨xs,x,j,hx⟩:=y;obtain⟨AQ,m,p,D⟩:=I.list j;obtain⟨u,L,M⟩:=m.get hx;obtain⟨f0,f1,f2,n,l,t⟩:=g it (by simp);refine wpAny_pyNext_list_item st p.isList (x:=u) (by simpa using L) λh' B G=>?_;have F:AU X AN σ H { s with heap:=h' }:=I.turned (t':=s.toks) (λb o f e=>(G.2 b f).trans e) f0 f1 n l t;obtain⟨o,e,c,d⟩:=id B;exact⟨u,rfl,K7 (s:={ s with heap:=h' }) e c d () ⟨x,H,F,M,⟨rfl,λys J=>by rw[I.K6 J j];exact hx⟩,B,λb f=>(g b f).1⟩⟩
 done:=by
  intro X q A hK C i AN s σ H E I g st y;subst q A hK;obtain⟨xs,j,hx⟩:=y;obtain⟨AQ,m,p,D⟩:=I.list j;obtain⟨f0,f1,f2,n,l,t⟩:=g it (by simp);have N:=m.length;exact wpAny_pyNext_list_end (I.ok.hd C) st p.isList (by simp;omega) λh' eb=>⟨rfl,I.turned (t':=s.toks) (λb o f e=>eb b o f e) f0 f1 n l t⟩
 self:=λ_ _ _ _ _ st h=>wpAny_pyIter_listiter st h
theorem Oh(a it:A1):C8 P w K tg (Fm K a) [it] it (λi h=>h.IsTupleIter it a i) where
 mem:=by simp
 obj:=λi h st b f=>by
  have e:b=it:=by simpa using f
  subst e;obtain⟨o,e,c,d⟩:=st;exact⟨o,e,λv z=>by rw[d]at z;cases z⟩
 keep:=λi h h' st k=>st.at λo e=>k it (by simp) o e
 item:=by
  intro X q A hK C i AN s σ H E I g st y;subst q A hK;obtain⟨xs,x,j,hx⟩:=y;obtain⟨AQ,m,p,D⟩:=I.tuple j;obtain⟨u,L,M⟩:=m.get hx;obtain⟨f0,f1,f2,n,l,t⟩:=g it (by simp);refine wpAny_pyNext_tuple_item st (show s.heap.IsTuple a AQ.toArray from p) (x:=u) (by simpa using L) λh' B G=>?_;have F:AU X AN σ H { s with heap:=h' }:=I.turned (t':=s.toks) (λb o f e=>(G.2 b f).trans e) f0 f1 n l t;obtain⟨o,e,c,d⟩:=id B;exact⟨u,rfl,K7 (s:={ s with heap:=h' }) e c d () ⟨x,H,F,M,⟨rfl,λys J=>by rw[I.Hx J j];exact hx⟩,B,λb f=>(g b f).1⟩⟩
 done:=by
  intro X q A hK C i AN s σ H E I g st y;subst q A hK;obtain⟨xs,j,hx⟩:=y;obtain⟨AQ,m,p,D⟩:=I.tuple j;obtain⟨f0,f1,f2,n,l,t⟩:=g it (by simp);have N:=m.length;exact wpAny_pyNext_tuple_end (I.ok.hd C) st (show s.heap.IsTuple a AQ.toArray from p) (by simp;omega) λh' eb=>⟨rfl,I.turned (t':=s.toks) (λb o f e=>eb b o f e) f0 f1 n l t⟩
 self:=λ_ _ _ _ _ st h=>wpAny_pyIter_tupleiter st h
theorem Oi(it:A1)(lo:Int)(n:Nat):C8 P w K tg (EB lo n) [it] it (λi h=>IsRangeIter h it (lo+(i:Nat)*1) ((n:Int)-(i:Nat)) 1) where
 mem:=by simp
 obj:=λi h st b a=>by
  have e:b=it:=by simpa using a
  subst e;exact⟨_,st,λv z=>by
   have x:Data.fields _=Data.cell v:=z;cases x⟩
 keep:=λi h h' st k=>k it (by simp) _ st
 item:=by
  intro X f l hK j i AN s σ H E I c st p;subst f l hK;obtain⟨f0,f1,f2,d,m,g⟩:=c it (by simp);have W:=Walks.range (prog:=X.prog) (w:=X.w) (I.ok.hd j) it lo 1 n;refine W.item i s _ _ p st λv h' tk y q kk=>?_;obtain⟨t,rfl⟩:=y;have u:AU X AN σ H { s with heap:=h',toks:=tk }:=I.turned (λb o a e=>kk b o (by simpa using a) e) f0 f1 d m g;refine⟨_,rfl,K7 (s:={ s with heap:=h',toks:=tk }) (n :="range_iterator") q S S () ⟨.int (lo+i),H,u,⟨t,?_⟩,⟨rfl,rfl⟩,q,λb a=>(c b a).1⟩⟩;rw[Int.mul_one]
 done:=by
  intro X f l hK j i AN s σ H E I c st p;subst f l hK;obtain⟨f0,f1,f2,d,m,g⟩:=c it (by simp);exact wpAny_pyNext_range_end (I.ok.hd j) st (by have:n<=i:=p;omega) λh' eb=>⟨rfl,I.turned (t':=s.toks) (λb o a e=>eb b o a e) f0 f1 d m g⟩
 self:=λ_ _ _ _ _ st h=>wpAny_pyIter_rangeiter st h
end L2
namespace L2
section
variable{X:Cx}
theorem Uy{σ:St}{H:Hp}{R:It->Hp->Prop}{lo hi:Int}{t u v:Tok}{tk:Nat}(I:AU X AN σ H s)(h1 : -(2 ^ 62)<=lo)(h2:lo<2 ^ 62)(f : -(2 ^ 62)<=hi)(d:hi<2 ^ 62)(q:R (EB lo (hi-lo).toNat) H):A7 (eh X) X.A (pyIter (.ref s.heap.objs.size)) (HR X AN σ tg R) E { s with heap:=s.heap.push { cls:=.type "range",data:=.fields #[.int lo t,.int hi u,.int 1 v] },toks:=tk }:=by
 refine wpAny_pyIter_range (IsRange.new ..) (small_one h1 h2 f d) ?_;have a:AU X AN σ H { s with heap:=s.heap.push { cls:=.type "range",data:=.fields #[.int lo t,.int hi u,.int 1 v] },toks:=tk }:=I.kept λb o e=>zg _ e;refine⟨(s.heap.push { cls:=.type "range",data:=.fields #[.int lo t,.int hi u,.int 1 v] }).objs.size,[(s.heap.push { cls:=.type "range",data:=.fields #[.int lo t,.int hi u,.int 1 v] }).objs.size],_,_,H,rfl,
  a.kept (t':=tk) λb o e=>zg _ e,Oi _ lo (hi-lo).toNat,?_,λb c=>?_,q⟩
 ·have e1:lo+((0:Nat):Int)*1=lo:=by simp
  have e2:(((hi-lo).toNat:Nat):Int)-((0:Nat):Int)=Builtin.Range.rangeSize lo hi 1:=by rw[rangeSize_one];split<;>omega
  show IsRangeIter _ _ (lo+((0:Nat):Int)*1) ((((hi-lo).toNat:Nat):Int)-((0:Nat):Int)) 1;rw[e1,e2];exact zw _ rfl
 ·have e:b=(s.heap.push { cls:=.type "range",data:=.fields #[.int lo t,.int hi u,.int 1 v] }).objs.size:=by simpa using c
  subst e;exact a.abz (zo _) (a.hok.fresh (zo _))
def L8(ta:TA):TI:=λσ H R=>ta σ H λvs H1=>∃j:Int,vs=[.int j] ∧ -(2 ^ 62)<=j/\j<2 ^ 62/\R (EB 0 j.toNat) H1
theorem R4{a:Expr}{ta:TA}{p:Pos}(b:Gl X "range")(c:X.mg "range"=U)(d:PA X [a] ta)(hs:A9 [a] X.env=[(false,eval a X.env)]:=by rfl):PI X tg (.Call (.Name "range" p) [a] [] pos) (L8 ta):=by
 intro AN s σ H R I h;refine Call_ (DR I b c boot_range (PyProof.Rows.callWith_type1 (jF (d pos AN s σ H _ I h) λus s1 ⟨vs,H1,I1,r1,q1⟩=>?_) hs S));obtain⟨j,e,q1,q2,q⟩:=q1;subst e;cases r1 with
 |cons r f=>
  cases f;obtain⟨t,rfl⟩:=r;exact call_range_1 (Uy I1 () () q1 q2 (by simpa using q))
def ON(b:TI)(g:TG)(tb:TS):TS:=λD σ H=>b σ H λJ H1=>∃W:Nat->Nat->St->Hp->Prop,(∃m,W 0 m σ H1)/\∀i m σ H,W i m σ H →
 (J.stop i H/\D.nx σ H)\/(J.go i H/\∃N:St->Hp->Prop,(∀ σ' H',N σ' H'->∃a,a<m/\W (i+1) a σ' H')/\∀x H',J.yld i H x H'->g x σ H' λc H2=>tb { D with nx:=N,ct:=N,bk:=D.nx } c H2)
def Ax(fp:O A1)(h:A6):O (A1×AE):=fp.filterMap λb=>(h.get? b).map λo=>(b,o)
theorem rW{b:A1}{o:AE}(a:b∈fp)(e:h.get? b=Z o):(b,o)∈Ax fp h:=aS.mpr ⟨b,a,by rw[e];rfl⟩
theorem R5{p:A1×AE}(hp:p∈Ax fp h):p.1∈fp/\h.get? p.1=Z p.2:=by
 obtain⟨b,a,e⟩:=aS.mp hp;cases q:h.get? b with
 |none=>rw[q]at e;cases e
 |some o=>
  rw[q]at e;have e':(b,o)=p:=Q1 e;subst e';exact⟨a,q⟩
theorem AU.pinned{σ:St}{H:Hp}(I:AU X AN σ H s)(f:∀b∈fp,uq X AN H b)(c:∀b∈fp,∃o,s.heap.get? b=Z o/\∀v,o.data≠.cell v):AU X (AN++Ax fp s.heap) σ H s:=
 I.zq λp hp=>(ai.mp hp).elim (λz=>I.pin p (zz _ z)) λz=>by
  obtain⟨a,e⟩:=R5 z;obtain⟨f0,f1,f2,_⟩:=f p.1 a;obtain⟨o,e',d⟩:=c p.1 a;rw[e]at e';cases e';exact⟨e,f0,f1,f2,d⟩
theorem AU.uI{pl:O (A1×AE)}{σ:St}{H:Hp}(I:AU X (AN++pl) σ H s):AU X AN σ H s:=I.zq λp hp=>I.pin p (zz _ (cS _ hp))
theorem Uz{G:TI}{g:TG}{tb:TS}(hp:PassesOwn (eh X) X.A X.env X.xe)(L:X.calm=true)(hi:PI X tg iter G)(hg:PG X tg g)(l:Og X body tb)(hs:∀x,foldedSetIterable iter X.env x=pure x:=by intro _;rfl):PS X (.For tg iter body [] pos) (ON G g tb):=by
 intro AN s σ H D I h;refine wpAny_For (jF (hi AN s σ H _ I h) λv s1 h1=>jF h1 λa2 s2 h2=>?_) hs;obtain⟨it,fp,tn,J,H2,e,I2,T,a1,f2,W,⟨m0,w0⟩,turn⟩:=h2;subst e;have z:∀{H':Hp},(∀b∈fp,H' b=U)->∀b∈fp,uq X AN H' b:=λhn b l=>⟨hn b l,(f2 b l).2⟩;refine codeAny_forLoop_any (λn s'=>∃i σ' H',AU X AN σ' H' s'/\tn i s'.heap/\(∀b∈fp,H' b=U)/\W i n σ' H') ?_ m0 ⟨0,σ,H2,I2,a1,λb l=>(f2 b l).1,w0⟩;rintro n K ⟨i,t,y,M,F,E,w3⟩;rcases turn i n t y w3 with⟨a0,qn⟩|⟨go,N,hN,step⟩
 ·refine kX hp (jF (T.done X S S S L i AN K t y X.xe M (z E) F a0) λr s4 ⟨hr,I4⟩=>?_);subst hr;exact wpAny_execs_nil ⟨t,y,I4,qn⟩
 ·refine kX hp (jF (T.item X S S S L i AN K t y X.xe M (z E) F go) λr s4 ⟨u,hr,h4⟩=>?_);subst hr;refine kX hp (jF h4 λ_ s5 ⟨x,H5,I5,r5,y5,st5,fr5⟩=>?_);have Q:=I5.pinned (z fr5) (T.obj _ _ st5);refine kX hp (jF (hg _ s5 t H5 x u _ Q r5 (step x H5 y5)) λ_ s6 ⟨σ6,H6,I6,q6⟩=>?_);refine kX hp (jF (l _ s6 σ6 H6 _ I6 q6) λf B p=>?_);have C:∀{j:St} {a:Hp},AU X (AN++Ax fp s5.heap) j a B->N j a->∃m,m<n/\∃i σ' H',AU X AN σ' H' B/\tn i B.heap/\(∀b∈fp,H' b=U)/\W i m σ' H':=λ{j a} c q=>by
   obtain⟨P,hm,w7⟩:=hN j a q;refine⟨P,hm,i+1,j,a,c.uI,T.keep _ _ _ st5 λb l o e=>(c.pin (b,o) (zz _ (zz _ (rW l e)))).1,λb l=>?_,w7⟩;obtain⟨o,e,d⟩:=T.obj _ _ st5 b l;exact(c.pin (b,o) (zz _ (zz _ (rW l e)))).2.1
  cases f with
  |next=>obtain⟨j,a,c,q⟩:=p;exact C c q
  |cont=>obtain⟨j,a,c,q⟩:=p;exact C c q
  |brk=>obtain⟨j,a,c,p⟩:=p;exact⟨j,a,c.uI,p⟩
  |ret v=>obtain⟨x7,j,a,c,r7,p⟩:=p;exact⟨x7,j,a,c.uI,r7,p⟩
end
end L2
namespace L2
abbrev R2:=V->V->Hp->VK->Prop
def Ay(X:Cx)(f:A0->A0->Sem A0)(r:R2):Prop:=
 ∀(AN:O (A1×AE)) (s:A2) (σ:St) (H:Hp) (x y:V) (v u:A0) (Q:VK),AU X AN σ H s->As x v->As y u->r x y H Q →
  A7 (eh X) X.A (f v u) (EP X AN σ Q) X.xe s
def Cc(X:Cx)(f:A0->Sem A0)(r:V->Hp->VK->Prop):Prop:=
 ∀(AN:O (A1×AE)) (s:A2) (σ:St) (H:Hp) (x:V) (v:A0) (Q:VK),AU X AN σ H s->As x v->r x H Q →
  A7 (eh X) X.A (f v) (EP X AN σ Q) X.xe s
def jH(X:Cx)(f:A0)(r:O V->Hp->VK->Prop):Prop:=
 ∀(AN:O (A1×AE)) (s:A2) (σ:St) (H:Hp) (xs:O V) (us:O A0) (Q:VK),AU X AN σ H s->AX xs us->r xs H Q →
  A7 (eh X) X.A (call f us) (EP X AN σ Q) X.xe s
def Po(X:Cx)(r:V->Hp->(Bool->Hp->Prop)->Prop):Prop:=
 ∀(AN:O (A1×AE)) (s:A2) (σ:St) (H:Hp) (x:V) (v:A0) (Q:Bool->Hp->Prop),AU X AN σ H s->As x v->r x H Q →
  A7 (eh X) X.A (truthy v) (TP X AN σ Q) X.xe s
def Dx(r:R2)(ta tb:TE):TE:=λσ H Q=>ta σ H λx H1=>tb σ H1 λy H2=>r x y H2 Q
def He(r:V->Hp->VK->Prop)(ta:TE):TE:=λσ H Q=>ta σ H λx H1=>r x H1 Q
def rI(C:Int->Int->Prop)(g:Int->Int->V):R2:=λx y H Q=>∃i j,x=.int i/\y=.int j/\C i j/\Q (g i j) H
def D5(g:Int->Int->V):R2:=λx y H Q=>∃i j,x=.int i/\y=.int j/\Q (g i j) H
def rU(g:Int->V):V->Hp->VK->Prop:=λx H Q=>∃i,x=.int i/\Q (g i) H
section
variable{X:Cx}{a b:Expr}{ta tb tc:TE}
theorem G1(d:PE X a ta)(g:PE X b tb){σ:St}{H:Hp}{R:V->V->Hp->Prop}(I:AU X AN σ H s)(h:ta σ H λx H1=>tb σ H1 λy H2=>R x y H2){f:A0->A0->Sem A0}(i:∀v u c x y H2,AU X AN σ H2 c->As x v->As y u->R x y H2->A7 (eh X) X.A (f v u) Q X.xe c):
  A7 (eh X) X.A (eval a X.env) (λv j=>A7 (eh X) X.A (eval b X.env) (λu e=>A7 (eh X) X.A (f v u) Q X.xe e) X.xe j) X.xe s:=by
 refine jF (d AN s σ H _ I h) λv s1 ⟨x,H1,I1,r1,q1⟩=>?_;refine jF (g AN s1 σ H1 _ I1 q1) λu c ⟨y,H2,I2,r2,q2⟩=>?_;exact i v u c x y H2 I2 r1 r2 q2
theorem LD{op:Operator}{r:R2}(g:Ay X (binaryOp op) r)(e:PE X a ta)(i:PE X b tb):PE X (.BinOp a op b pos) (Dx r ta tb):=by
 intro AN s σ H Q I h;exact wpAny_BinOp (G1 e i I h λv u j x y H2 c d f q=>g AN j σ H2 x y v u Q c d f q)
theorem LB{op:UnaryOp}{r:V->Hp->VK->Prop}(b:Cc X (unaryOp op) r)(c:PE X a ta):PE X (.UnaryOp op a pos) (He r ta):=by
 intro AN s σ H Q I h;exact UnaryOp_ (jF (c AN s σ H _ I h) λv s1 ⟨x,H1,I1,r1,q1⟩=>b AN s1 σ H1 x v Q I1 r1 q1)
theorem EQ{f:A0->A0->Sem A0}{C:Int->Int->Prop}{g:Int->Int->Int}
  (a:∀(i j:Int) (t u:Tok) (s:A2) (Q:BF) (E:BF),C i j->Q (.int (g i j) s.toks) { s with toks:=s.toks+1 }->A7 (eh X) X.A (f (.int i t) (.int j u)) Q E s):
  Ay X f (rI C λi j=>.int (g i j)):=by
 intro AN s σ H x y v u Q I b c h;obtain⟨i,j,rfl,rfl,e,q⟩:=h;obtain⟨t,rfl⟩:=b;obtain⟨d,rfl⟩:=c;exact a i j t d s _ _ e ⟨.int (g i j),H,I.tok _,⟨_,rfl⟩,q⟩
theorem IJ{f:A0->A0->Sem A0}{g:Int->Int->Int}
  (b:∀(i j:Int) (t u:Tok) (s:A2) (Q:BF) (E:BF),Q (.int (g i j) s.toks) { s with toks:=s.toks+1 }->A7 (eh X) X.A (f (.int i t) (.int j u)) Q E s):
  Ay X f (D5 λi j=>.int (g i j)):=by
 intro AN s σ H x y v u Q I c a h;obtain⟨i,j,rfl,rfl,q⟩:=h;obtain⟨t,rfl⟩:=c;obtain⟨d,rfl⟩:=a;exact b i j t d s _ _ ⟨.int (g i j),H,I.tok _,⟨_,rfl⟩,q⟩
theorem G0{f:A0->A0->Sem A0}{g:Int->Int->Bool}
  (b:∀(i j:Int) (t u:Tok) (s:A2) (Q:BF) (E:BF),Q (.bool (g i j)) s->A7 (eh X) X.A (f (.int i t) (.int j u)) Q E s):
  Ay X f (D5 λi j=>.bl (g i j)):=by
 intro AN s σ H x y v u Q I c a h;obtain⟨i,j,rfl,rfl,q⟩:=h;obtain⟨t,rfl⟩:=c;obtain⟨d,rfl⟩:=a;exact b i j t d s _ _ ⟨.bl (g i j),H,I,rfl,q⟩
def O'(i j:Int):Prop:=0<j/\j<1073741824
def OB(i j:Int):Prop:=0<=j/\j<=1000000/\i.natAbs<2 ^ 64
def Fc(i j:Int):Prop:=(-(2 ^ 64)<i/\i<2 ^ 64)\/(-(2 ^ 64)<j/\j<2 ^ 64)
theorem Fc.ok{i j:Int}(h:Fc i j):IntMulOk i j:=by
 rcases h with⟨h1,h2⟩|⟨h1,h2⟩
 ·exact .of_left (intBits_le_64 h1 h2)
 ·exact .of_right (intBits_le_64 h1 h2)
theorem Ps:Ay X (binaryOp .Add) (D5 λi j=>.int (i+j)):=IJ λ_ _ _ _ _ _ _ q=>add_int q
theorem MO:Ay X (binaryOp .Sub) (D5 λi j=>.int (i-j)):=IJ λ_ _ _ _ _ _ _ q=>sub_int q
theorem Ll:Ay X (binaryOp .Mult) (rI Fc λi j=>.int (i*j)):=EQ λ_ _ _ _ _ _ _ a q=>mul_int q a.ok
theorem Yr:Ay X (binaryOp .FloorDiv) (rI O' λi j=>.int (i / j)):=EQ λi j _ _ _ _ _ a q=>by
 have h1:(0:Int)<j:=a.1;have h2:j<1073741824:=a.2;exact floordiv_int () (by rw[Int.fdiv_eq_ediv_of_nonneg i ()];exact q) (.inl (PyProof.noPylong_small ()))
theorem L5:Ay X (binaryOp .Mod) (rI (λ_ j=>0<j) λi j=>.int (i%j)):=EQ λi j _ _ _ _ _ a q=>by
 have h1:(0:Int)<j:=a;exact mod_int' () (by rw[Int.fmod_eq_emod_of_nonneg i ()];exact q)
theorem OV:Ay X (binaryOp .Pow) (rI OB λi j=>.int (i ^ j.toNat)):=EQ λ_ _ _ _ _ _ _ a q=>pow_int_small a.1 a.2.1 a.2.2 q
theorem LN{f:A0->Sem A0}{g:Int->Int}
  (a:∀(i:Int) (t:Tok) (s:A2) (Q:BF) (E:BF),Q (.int (g i) s.toks) { s with toks:=s.toks+1 }->A7 (eh X) X.A (f (.int i t)) Q E s):
  Cc X f (rU λi=>.int (g i)):=by
 intro AN s σ H x v Q I b h;obtain⟨i,rfl,q⟩:=h;obtain⟨t,rfl⟩:=b;exact a i t s _ _ ⟨.int (g i),H,I.tok _,⟨_,rfl⟩,q⟩
theorem KM:Cc X (unaryOp .USub) (rU λi=>.int (-i)):=LN λ_ _ _ _ _ q=>neg_int q
theorem UG{σ:St}{H:Hp}{Q:VK}{k a:Bool}(I:AU X AN σ H s)(q:Q (.bl k) H)(e:k=a):EP X AN σ Q (.bool a) s:=by
 subst e;exact⟨.bl k,H,I,rfl,q⟩
theorem L6:Ay X (AG .Lt) (D5 λi j=>.bl (decide (i<j))):=G0 λ_ _ _ _ _ _ _ q=>lt_int q
theorem SI:Ay X (AG .Gt) (D5 λi j=>.bl (decide (j<i))):=G0 λ_ _ _ _ _ _ _ q=>gt_int q
theorem NB:Ay X (AG .GtE) (D5 λi j=>.bl (decide (j<=i))):=G0 λ_ _ _ _ _ _ _ q=>ge_int q
theorem R6:Ay X (AG .In) (λx y H Q=>∃i j,x=.str i/\y=.str j/\Q (.bl (!(Builtin.Str.occurrences j i 0 j.length 1).isEmpty)) H):=by
 intro AN s σ H x y v u Q I b a h;obtain⟨i,j,rfl,rfl,q⟩:=h;obtain⟨t,rfl⟩:=b;obtain⟨c,rfl⟩:=a;exact in_str (UG I q S)
theorem Ys:Ay X (AG .IsNot) (λx y H Q=>y=.non/\Q (.bl (!decide (x=.non))) H):=by
 intro AN s σ H x y v u Q I a b h;obtain⟨rfl,q⟩:=h;cases b;refine isnot_none_gen (UG I q ?_);cases x<;>first
  |(cases a;rfl)
  |(obtain⟨t,rfl⟩:=a;rfl)
theorem gj(b:Expr)(h:op≠.In:=by decide)(h2:op≠.NotIn:=by decide):behindInMarks op b=false:=by
 have e1:(op==CmpOp.In)=false:=by cases op<;>first|rfl|exact absurd S h
 have e2:(op==CmpOp.NotIn)=false:=by cases op<;>first|rfl|exact absurd S h2
 cases b<;>simp[behindInMarks,e1,e2]
theorem Yt{r:R2}(g:Ay X (AG op) r)(e:PE X a ta)(i:PE X b tb)(l:behindInMarks op b=false):PE X (.Compare a [op] [b] pos) (Dx r ta tb):=by
 intro AN s σ H Q I h;exact wpAny_Compare1 (G1 e i I h λv u j x y H2 c d f q=>g AN j σ H2 x y v u Q c d f q) l
def P8(t:TE):TT:=λσ H Q=>t σ H λx H'=>∃k,x=.bl k/\Q k H'
theorem Yu{r:R2}(d:Ay X (AG op) r)(i:PE X a ta)(g:PE X b tb)(f:behindInMarks op b=false):PT X (.Compare a [op] [b] pos) (P8 (Dx r ta tb)):=by
 intro AN s σ H Q I h;refine wpAny_isTrue_Compare1 (jF (i AN s σ H _ I h) λv s1 ⟨x,H1,I1,r1,q1⟩=>jF (g AN s1 σ H1 _ I1 q1) λu s2 ⟨y,H2,I2,r2,q2⟩=>
  jF (d AN s2 σ H2 x y v u _ I2 r1 r2 q2) λc s3 ⟨z,H3,I3,r3,k,e,q3⟩=>?_) f
 subst e;cases r3;exact Q3 ⟨H3,I3,q3⟩
def FC(K:B5)(x:V)(H:Hp)(k:Bool):Prop:=
 match x with
 |.non=>k=false
 |.bl b=>k=b
 |.int i=>k=(i != 0)
 |.str y=>y.length<=AA/\k=((y.length:Int) != 0)
 |.byt y=>y.size<=AA/\k=((y.size:Int) != 0)
 |.ref p=>(∃xs,qQ K H p xs/\k=!xs.isEmpty)\/(∃xs,zm K H p xs/\k=!xs.isEmpty)\/∃AO,H p=Z (.dK AO)/\k=!AO.isEmpty
 |_=>False
theorem Oj{AO:O (κ×V)}{vs:O (κ×A0)}(r:KV AO vs):(!vs.isEmpty)=!AO.isEmpty:=by
 cases r<;>rfl
theorem DX{xs:O V}(r:AX xs AQ):(!AQ.toArray.isEmpty)=!xs.isEmpty:=by
 cases r<;>simp
theorem Az:(AA:Nat)<2 ^ 63:=by rw[sizeLine_eq];decide
theorem Pi:Po X (λx H Q=>∃k,FC X.K x H k/\Q k H):=by
 intro AN s σ H x v Q I a h;obtain⟨k,e,q⟩:=h;have l:=Az;have j:AA=16777216:=sizeLine_eq;cases x with
 |non=>
  cases a;have e':k=false:=e;subst e';exact truthy_none ⟨H,I,q⟩
 |bl b=>
  cases a;have e':k=b:=e;subst e';exact Q3 ⟨H,I,q⟩
 |int i=>
  obtain⟨t,rfl⟩:=a;have e':k=(i != 0):=e;subst e';exact PySem.P.truthy_int ⟨H,I,q⟩
 |str y=>
  obtain⟨t,rfl⟩:=a;obtain⟨f,e'⟩:y.length<=AA/\k=((y.length:Int) != 0):=e;subst e';exact PySem.P.truthy_str () ⟨H,I.tok _,q⟩
 |byt y=>
  obtain⟨t,rfl⟩:=a;obtain⟨f,e'⟩:y.size<=AA/\k=((y.size:Int) != 0):=e;subst e';exact PySem.W.truthy_bytes () ⟨H,I.tok _,q⟩
 |ref p=>
  cases a;have e':(∃xs,qQ X.K H p xs/\k=!xs.isEmpty)\/(∃xs,zm X.K H p xs/\k=!xs.isEmpty)\/∃AO,H p=Z (.dK AO)/\k=!AO.isEmpty:=e;rcases e' with⟨xs,hx,e'⟩|⟨xs,hx,e'⟩|⟨AO,hx,e'⟩
  ·subst e';obtain⟨AQ,r,pl,c⟩:=I.list hx;have d:=r.length;exact wpAny_truthy_list pl.isList (by simp only[zl];omega) ⟨H,I.tok _,by rw[DX r];exact q⟩
  ·subst e';obtain⟨AQ,r,pl,c⟩:=I.tuple hx;have d:=r.length;exact truthy_tuple pl (by simp only[zl];omega) ⟨H,I.tok _,by rw[DX r];exact q⟩
  ·subst e';obtain⟨c,g,vs,r,m⟩:AO.length<=AA/\(p==sysModules)=false/\∃vs,KV AO vs/\s.heap.DictOf (cG X.prog X.w) p vs:=I.hok p _ hx;have d:AO.length=vs.length:=Paired.length r;exact wpAny_truthy_dict g m () ⟨H,I.tok _,by rw[Oj r];exact q⟩
 |_=>exact(show False from e).elim
theorem UJ(d:PE X a ta)(c:∀b,isTrue a X.env b=(do let v <-b;standAt a.pos;holding [v] (truthy v))):
  PT X a (λσ H Q=>ta σ H λx H'=>∃k,FC X.K x H' k/\Q k H'):=by
 intro AN s σ H Q I h;exact isTrue_plain (jF (d AN s σ H _ I h) λv s1 ⟨x,H1,I1,r1,q1⟩=>Pi AN s1 σ H1 x v Q I1 r1 q1) (c _)
theorem Ol:Ay X (binaryOp .Add) (λx y H Q=>∃i j,x=.str i/\y=.str j/\i.length+j.length<=AA/\Q (.str (i++j)) H):=by
 intro AN s σ H x y v u Q I c b h;obtain⟨i,j,rfl,rfl,a,q⟩:=h;obtain⟨t,rfl⟩:=c;obtain⟨d,rfl⟩:=b;exact add_str (λd tk=>⟨.str (i++j),H,I.tok _,⟨_,rfl⟩,q⟩) a
theorem BC{x:V}(r:AX [x] us):∃u,us=[u]/\As x u:=by
 cases r with
 |cons b a=>cases a;exact⟨_,rfl,b⟩
theorem C7{x y:V}(r:AX [x,y] us):∃u a,us=[u,a]/\As x u/\As y a:=by
 cases r with
 |cons b c=>
  cases c with
  |cons d e=>cases e;exact⟨_,_,rfl,b,d⟩
theorem UL:jH X (.builtin "abs") (λxs H Q=>∃i,xs=[.int i]/\Q (.int (if i<0 then -i else i)) H):=by
 intro AN s σ H xs us Q I r h;obtain⟨i,rfl,q⟩:=h;obtain⟨u,rfl,t,rfl⟩:=BC r;exact call_abs_int λu tk=>⟨.int (if i<0 then -i else i),H,I.tok _,⟨_,rfl⟩,q⟩
theorem R7:jH X (.type "int") (λxs H Q=>(∃i,xs=[.int i]/\Q (.int i) H)\/∃k,xs=[.bl k]/\Q (.int (if k then 1 else 0)) H):=by
 intro AN s σ H xs us Q I r h;rcases h with⟨i,rfl,q⟩|⟨k,rfl,q⟩
 ·obtain⟨u,rfl,t,rfl⟩:=BC r;exact call_int_int ⟨.int i,H,I,⟨_,rfl⟩,q⟩
 ·obtain⟨u,rfl,a⟩:=BC r;cases a;exact call_int_bool ⟨.int (if k then 1 else 0),H,I.tok _,⟨_,rfl⟩,q⟩
end
end L2
namespace L2
section
variable{x dx f:A1}{mA:AJ->Y A0}{v:A0}
end
theorem CN.some_of{v:V}{o:Y A0}(r:CN (Z v) o):∃u,o=Z u/\As v u:=by
 cases o with
 |none=>exact(show False from r).elim
 |some u=>exact⟨u,rfl,r⟩
section
variable{H H':Hp}{h':A6}{dx:A1}{fs fs':O (AJ×V)}
end
section
variable{X:Cx}{σ:St}{H:Hp}{dx:A1}{fs:O (AJ×V)}{f:AJ}{v:V}
end
section
variable{X:Cx}{o value:Expr}{f:AJ}{pos':Pos}{ta tv:TE}
end
section
variable{X:Cx}{σ:St}{H:Hp}{c:A0}{b:Bool}
end
end L2
namespace L2
structure kj (k:Nat) (A:Around):Prop where
 hd:A.handled=none
 dp:A.depth+3*k+5<recursionLimit
 un:A.units+16*k+200<cLine
theorem kj.mono{k:Nat}(r:kj k A)(h:j<=k):kj j A:=⟨r.hd,by have:=r.dp;omega,by have:=r.un;omega⟩
theorem kj.deeper{k:Nat}(r:kj (k+1) A)(env:Env):kj k (A.deeper env):=
 ⟨r.hd,by have:=r.dp;show A.depth+1+3*k+5<_;omega,by have:=r.un;show A.units+3+16*k+200<_;omega⟩
theorem kj.depth{k:Nat}(r:kj k A):A.depth<recursionLimit:=by have:=r.dp;omega
def P6:TA:=λ_ H Q=>Q [] H
def KW(ta:TE)(tr:TA):TA:=λσ H Q=>ta σ H λx H1=>tr σ H1 λxs H2=>Q (x::xs) H2
section
variable{X:Cx}{te:TE}{t:TA}
theorem Ba:PA X [] P6:=λ_ _ _ _ H Q I h=>Calls.spliced_nil ⟨[],H,I,.nil,h⟩
theorem wO(b:PE X e te)(a:PA X es t)(hs:A9 (e::es) X.env=(false,eval e X.env)::A9 es X.env:=by rfl):PA X (e::es) (KW te t):=by
 intro pos AN s σ H Q I h;rw[hs];show A7 _ _ (spliced ((false,eval e X.env)::AD pos (A9 es X.env))) _ _ s;refine Calls.spliced_cons (jF (b AN s σ H _ I h) λu s1 ⟨x,H1,I1,r1,q1⟩=>?_);exact jF (a pos AN s1 σ H1 _ I1 q1) λus s2 ⟨xs,H2,I2,r2,q2⟩=>⟨x::xs,H2,I2,.cons r1 r2,q2⟩
def MT(t:TA):TE:=λσ H Q=>t σ H λxs H1=>xs.length<=AA/\∀p,H1 p=U->Q (.ref p) (B6 H1 p (.tup xs))
def OE(t:TA):TE:=λσ H Q=>t σ H λxs H1=>xs.length<=AA/\∀p,H1 p=U->Q (.ref p) (B6 H1 p (.lst xs))
theorem Pw{x1}(h:PA X es t):PE X (.Tuple es x1 pos) (MT t):=by
 intro AN s σ H Q I a;refine wpAny_Tuple_spliced (jF (h pos AN s σ H _ I a) λus s1 ⟨xs,H1,I1,r,z,q⟩=>⟨by rw[<-r.length];exact z,?_⟩);have c:H1 s1.heap.objs.size=U:=I1.hok.fresh (zo _);refine⟨.ref s1.heap.objs.size,B6 H1 s1.heap.objs.size (.tup xs),I1.laid (t':=s1.toks) (λb u e=>zg _ e) (zo _) ?_,rfl,q _ c⟩;exact⟨z,us,r,⟨_,zw _ rfl,rfl,⟨_,rfl⟩,rfl⟩⟩
theorem MU(h:PA X es t):PE X (.List es pos) (OE t):=by
 intro AN s σ H Q I a;refine wpAny_List_spliced (jF (h pos AN s σ H _ I a) λus s1 ⟨xs,H1,I1,r,z,q⟩=>⟨by rw[<-r.length];exact z,?_⟩);have c:H1 s1.heap.objs.size=U:=I1.hok.fresh (zo _);refine⟨.ref s1.heap.objs.size,B6 H1 s1.heap.objs.size (.lst xs),I1.laid (t':=s1.toks) (λb u e=>zg _ e) (zo _) ?_,rfl,q _ c⟩;exact⟨z,us,0,r,zw _ rfl⟩
end
abbrev Sp:=O V->Hp->VK->XK->Prop
abbrev Uk:=O Env->Hp->A2->XK->A0->A2->Prop
structure Yv (P:Program) (w:World) (K:B5) (mg:Str->Option Value) (base:Heap) (A:Around) (outer:List Env) (s:Shared) (H:Hp):Prop where
 frames:A.frames=some outer
 mod:Mod K mg base
 bs:∀b o,base.get? b=some o->s.heap.get? b=some o/\H b=none
 Ym:base.objs.size<=s.heap.objs.size
 DP:s.heap.FunFrames base outer
 frf:∀b∈CC outer,H b=none
 hok:zj P w H s.heap
 bare:AllBare s.gens
 tabs:BU K H
def CE(outer:O Env)(P:A3)(w:A4)(H:Hp)(s:A2)(Q:VK)(u:A0)(s':A2):Prop:=
 ∃v H',s'.os=s.os/\AllBare s'.gens/\Un (CC outer) [] H H' s.heap s'.heap/\zj P w H' s'.heap/\As v u/\Q v H'
def CR(CX:Uk)(outer:O Env)(P:A3)(w:A4)(H:Hp)(s:A2)(Q:VK)(E:XK)(r:Result)(s':A2):Prop:=
 match r with
 |.ok (.ret u)=>CE outer P w H s Q u s'
 |.ok _=>False
 |.error e=>CX outer H s E e s'
structure uJ (P:Program) (w:World) (K:B5) (mg:Str->Option Value) (base:Heap) (CX:Uk) (k:Nat) (f:Addr) (fd:FuncData) (ps:AZ) (sp:Sp):Prop where
 len:∀vs H Q E,sp vs H Q E->vs.length=ps.length
 run:∀(A:Around) (outer:List Env) (s:Shared) (H:Hp) (args:Args) (us:List Value) (vs:List V) (Q:VK) (E:XK),kj k A->Yv P w K mg base A outer s H->BindsTo s fd args (ps.zip us)->AX vs us->sp vs H Q E →
  codeAny (model P w) A (.call (.ref f) args) (CR CX outer P w H s Q E) s
section
variable{X:Cx}{σ:St}{H:Hp}{s':A2}
theorem AU.env0(I:AU X AN σ H s):Yv X.prog X.w X.K X.mg X.base X.A X.stack s H:=
 ⟨I.ok.frames,I.ok.mod,I.bs,zD I.ok.Ym I.sz,I.stack,I.Jl,I.hok,I.bare,I.ok.tabs.go I.base.zp⟩
theorem AU.after{Q:VK}(I:AU X AN σ H s)(h:CE X.stack X.prog X.w H s Q u s'):EP X AN σ Q u s':=by
 obtain⟨v,H',os,e,un,a,r,q⟩:=h;obtain⟨c,g,d,t,f⟩:=s';obtain rfl:f=s.os:=os;exact⟨v,H',I.call (h':=c) (g':=g) (d':=d) (t':=t) (ch:=[]) un a e (λb z=>absurd z (by simp)),r,q⟩
end
def MB(sp:Sp)(dvs:O V)(E:XK)(t:TA):TE:=λσ H Q=>t σ H λvs H1=>sp (vs++dvs) H1 Q E
def BM(K:B5)(fd:FuncData)(ps:AZ)(ds:O A0):Prop:=
 ∀(s:A2) (us:O A0),K.In s.heap->(us++ds).length=ps.length->BindsTo s fd ⟨us,[]⟩ (ps.zip (us++ds))
theorem BM.all(h:∀us:O A0,us.length=ps.length->bindArgs fd ⟨us,[]⟩=pure (ps.zip us)):BM K fd ps []:=λs us _ a=>by
 rw[Q2]at a ⊢;exact .of_eq (h us a)
def C5(CX:Uk)(X:Cx)(E:XK):Prop:=∀(AN:O (A1×AE)) (σ:St) (H:Hp) (s:A2) (e:A0) (s':A2),AU X AN σ H s->CX X.stack H s E e s'->X.xe e s'
section
variable{X:Cx}{CX:Uk}{k:Nat}{f:A1}{sp:Sp}{dvs:O V}{ds:O A0}{E:XK}{m:AJ}{p:Pos}{o:Expr}{ta:TE}{t:TA}
theorem UW{σ:St}{H:Hp}{Q:VK}{vs:O V}(F:uJ X.prog X.w X.K X.mg X.base CX k f fd ps sp)(d:kj k X.A)(c:BM X.K fd ps ds)(hd:AX dvs ds)(hx:C5 CX X E)(I:AU X AN σ H s)(r:AX vs us)(h:sp (vs++dvs) H Q E):A7 (eh X) X.A (call (.ref f) us) (EP X AN σ Q) X.xe s:=by
 have b:AX (vs++dvs) (us++ds):=r.append hd;have g:(us++ds).length=ps.length:=by rw[<-b.length];exact F.len _ _ _ _ h
 refine wpAny_call (codeAny_mono (F.run X.A X.stack s H ⟨us,[]⟩ (us++ds) (vs++dvs) Q E d I.env0 (c s us I.X8 g) b h) λr s' a=>?_);cases r with
 |error e=>exact hx AN σ H s e s' I a
 |ok fl=>
  cases fl with
  |ret u=>exact I.after a
  |next=>exact False.elim a
  |brk=>exact False.elim a
  |cont=>exact False.elim a
theorem Yw(F:uJ X.prog X.w X.K X.mg X.base CX k f fd ps sp)(i:kj k X.A)(a:Gl X x)(j:X.mg x=Z (.ref f))(hk:keepIn X.K (.ref f)=true)(g:BM X.K fd ps ds)(hd:AX dvs ds)(hx:C5 CX X E)
  (b:PA X (e::es) t) (c:eg x:=by decide) (l:A9 (e::es) X.env=(false,eval e X.env)::A9 es X.env:=by rfl) (d:(AD pos (A9 es X.env)).any (·.1)=false:=by rfl):
  PE X (.Call (.Name x p) (e::es) [] pos) (MB sp dvs E t):=by
 intro AN s σ H Q I h;refine Qr (Qw I a j ?_ c);refine callWith_K (h₀:=X.base) I.ok.mod.kin hk (jF (b pos AN s σ H _ I h) λus s1 ⟨vs,H1,I1,r,q⟩=>⟨I1.X8,?_⟩) l d;exact UW F i g hd hx I1 r q
end
section
variable{X:Cx}{CX:Uk}{k:Nat}{f:A1}{ks:AZ}{sp:Sp}{E:XK}{m:AJ}{p kpos:Pos}{o:Expr}{kws:O AC}{te ta:TE}{t tk:TA}{nm:Y AJ}
variable{g:O A0->O A0->O A0}{gV:O V->O V->O V}
end
structure bC (N P:AZ) (sc:Scope):Prop where
 kind:sc.kind=.function
 co:sc.isCoroutine=false
 gen:sc.isGenerator=false
 nd:N.Nodup
 pre:N.take P.length=P
 par:∀x∈P,sc.names.lookup x=some .local\/sc.names.lookup x=some .cell
 abO:∀y∈sc.names,y.2≠.free
theorem Hy{a:AJ->Y NameKind}{x:AJ}:∀{binds:O (AJ×A0)} {m:AJ->Y A0},(∀v,(x,v)∉binds)->bindL a binds m x=m x
 |[],_,_=>rfl
 |(n,v)::r,m,h=>by
  unfold bindL;rw[Hy λw b=>h w (zh _ b)];split
  ·have:x≠n:=by rintro rfl;exact h v ze
   simp[this]
  ·rfl
theorem Hz{a:AJ->Y NameKind}{x:AJ}:∀{binds:O (AJ×A0)} {m:AJ->Y A0},(∀v,(x,v)∉binds)->bindC a binds m x=m x
 |[],_,_=>rfl
 |(n,v)::r,m,h=>by
  unfold bindC;rw[Hz λw b=>h w (zh _ b)];split
  ·rfl
  ·have:x≠n:=by rintro rfl;exact h v ze
   simp[this]
theorem HB{a:AJ->Y NameKind}{x:AJ}{v:A0}:∀{P:AZ} {vs:O A0} {i:Nat} {m:AJ->Y A0},P.Nodup->P[i]?=Z x->vs[i]?=Z v->a x=Z .local →
  bindL a (P.zip vs) m x=Z v
 |[],_,_,_,_,h,_,_=>by simp at h
 |_::_,[],_,_,_,_,h,_=>by simp at h
 |p::P,w::vs,0,m,nd,h1,h2,hk=>by
  simp at h1 h2;subst h1;subst h2;show bindL a ((p,w)::P.zip vs) m p=_;unfold bindL;rw[Hy λv b=>(al.mp nd).1 (cq b).1,zr hk];simp
 |p::P,w::vs,i+1,m,nd,h1,h2,hk=>by
  show bindL a ((p,w)::P.zip vs) m x=_;unfold bindL;exact HB (i:=i) (al.mp nd).2 (by simpa using h1) (by simpa using h2) hk
theorem HD{a:AJ->Y NameKind}{x:AJ}{v:A0}:∀{P:AZ} {vs:O A0} {i:Nat} {m:AJ->Y A0},P.Nodup->P[i]?=Z x->vs[i]?=Z v->a x≠Z .local →
  bindC a (P.zip vs) m x=Z v
 |[],_,_,_,_,h,_,_=>by simp at h
 |_::_,[],_,_,_,_,h,_=>by simp at h
 |p::P,w::vs,0,m,nd,h1,h2,hk=>by
  simp at h1 h2;subst h1;subst h2;show bindC a ((p,w)::P.zip vs) m p=_;unfold bindC;rw[Hz λv b=>(al.mp nd).1 (cq b).1,zS hk];simp
 |p::P,w::vs,i+1,m,nd,h1,h2,hk=>by
  show bindC a ((p,w)::P.zip vs) m x=_;unfold bindC;exact HD (i:=i) (al.mp nd).2 (by simpa using h1) (by simpa using h2) hk
def start(N:AZ)(vs:O V):St:=vs.map Z++aa (N.length-vs.length) U
def DY(CX:Uk)(P:A3)(w:A4)(K:B5)(mg:AJ->Y A0)(base:A6)(N:AZ)(qual:AJ)(scope:Scope)(f:A1)(a:A0)(A:A5)(outer:O Env)(s:A2)(H:Hp)(E:XK):Cx where
 prog:=P
 w:=w
 K:=K
 mg:=mg
 base:=base
 A:=A.deeper (AK qual scope s.heap.objs.size f a)
 N:=N
 s₀:=s
 H₀:=H
 env:=AK qual scope s.heap.objs.size f a
 outer:=outer
 stack:=AK qual scope s.heap.objs.size f a::outer
 ex:=[]
 calm:=true
 fn:=λ_=>true
 pn:=[]
 xe:=λe s'=>A7 (A8 P w) (A.deeper (AK qual scope s.heap.objs.size f a)) (leaving (AK qual scope s.heap.objs.size f a) e) (λ_ b=>CX outer H s E e b) (λe' b=>CX outer H s E e' b) s'
theorem K8{a:Scope}(h:a.names.lookup x=Z .cell):∃c,(cellsFrom n a.names []).lookup x=Z c:=by
 have q:=cellsFrom_some a.names n [] (.inl h);exact aT.mp q
theorem R8{CX:Uk}{f:A1}{g:A0}{outer:O Env}{l:A2}{H:Hp}{E:XK}{vs:O V}(S:bC N ps scope)(hd:A.handled=U)(e0:Yv P w K mg base A outer s H)(D:vs.length=ps.length)(r:AX vs us)(x:InCallC s s.heap.objs.size (bindL (AK qual scope s.heap.objs.size f g).kindOf (ps.zip us) λ_=>U) (cellsFrom (s.heap.objs.size+1) scope.names []) (bindC (AK qual scope s.heap.objs.size f g).kindOf (ps.zip us) λ_=>U) l):
  AU (DY CX P w K mg base N qual scope f g A outer s H E) [] (start N vs) H l:=by
 have C:ps.length<=N.length:=by have:=congrArg aE S.pre;rw[kK]at this;omega
 obtain⟨h1,tk,rfl,hk⟩:=x.done;have j:∀b:A1,b∉(DY CX P w K mg base N qual scope f g A outer s H E).ex:=λb z=>absurd (show b∈([]:O A1) from z) (by simp);refine⟨⟨e0.mod,S.kind,rfl,rfl,zo _,λy z c h1 h2=>?_,λy d=>?_,λy c _ h=>?_,λ_=>hd,Around.frames_deeper e0.frames,.inr ⟨rfl,rfl⟩,λb z=>absurd z (j b),e0.bs,e0.Ym,λb _ _=>j b,λb z=>absurd z (j b),e0.DP,e0.frf,e0.tabs⟩,
  rfl,e0.bare,Un.kept hk,⟨_,x.toInCall.ns,λi y v h1 h2 F=>?_⟩,λy c h=>⟨_,x.cell y c h⟩,e0.hok.fresh (zo _),λy c h=>?_,λp hp=>absurd (show p∈([]:O (A1×AE)) from hp) (by simp),e0.hok.kept hk,?_⟩
 ·exact name_of_addr x.apart (qV h1) (qV h2)
 ·have d:scope.names.lookup y=Z .cell\/scope.names.lookup y=Z .free:=d;rcases d with d|d
  ·exact K8 d
  ·exact absurd rfl (S.abO _ (qV d))
 ·exact jS (x.above y c (qV h))
 ·have hi:i<vs.length:=by
   unfold start at h2;by_cases hi:i<vs.length
   ·exact hi
   ·rw[qS (by simpa using hi)]at h2;rw[QI]at h2;split at h2<;>cases h2
  have t:vs[i]?=Z v:=by
   unfold start at h2;rw[ZE (by simpa using hi),ZI]at h2;cases e:vs[i]? with
   |none=>rw[e]at h2;cases h2
   |some a=>rw[e]at h2;cases h2;rfl
  obtain⟨u,o,B⟩:=r.get t;have hp:ps[i]?=Z y:=by
   rw[<-S.pre,List.getElem?_take_of_lt ()];exact h1
  have m:ps.Nodup:=by rw[<-S.pre];exact S.nd.sublist (du _ _)
  refine⟨u,B,?_⟩;rcases S.par y (kU hp)with k|k
  ·exact .inl ⟨k,HB m hp o k⟩
  ·obtain⟨c,e⟩:=K8 (n:=s.heap.objs.size+1) k;refine .inr ⟨.inl k,c,e,?_⟩;have q:=x.cell y c e;rw[HD m hp o (by show scope.names.lookup y≠_;rw[k];decide)]at q;exact q
 ·exact e0.hok.fresh (jS (x.above y c (qV h)))
 ·unfold start;show _=N.length;rw[qr,zi,List.length_replicate];omega
theorem Hc{CX:Uk}{k:Nat}{f:A1}{p kV i a ct B:A0}{l X:Y A1}{sp:Sp}(F:K.lookup f=Z ⟨B,X,.func (fnOf name qual params body scope p kV i pm l a ct),osl⟩)(a1:codeIn K a qual=true)(S:bC N ps scope)(len:∀vs H Q E,sp vs H Q E->vs.length=ps.length)(G:∀(A:A5) (outer:O Env) (s:A2) (H:Hp) (vs:O V) (Q:VK) (E:XK),kj k (A.deeper (AK qual scope s.heap.objs.size f a))->sp vs H Q E →
   ∃t,Og (DY CX P w K mg base N qual scope f a A outer s H E) body t/\t { nx:=λ_ H'=>Q .non H',rt:=Q } (start N vs) H):
  uJ P w K mg base CX (k+1) f (fnOf name qual params body scope p kV i pm l a ct) ps sp:=by
 refine⟨len,λA outer s H a2 us vs Q E g e0 hb r j=>?_⟩;have L:=len _ _ _ _ j;have h:K.In s.heap:=e0.mod.kin.keeps λb o e=>(e0.bs b o e).1;have D:s.heap.NoLimit:=e0.mod.nolimit.keeps λb o e=>(e0.bs b o e).1;have a0:∀y∈ps.zip us,scope.names.lookup y.1=Z .local\/(scope.names.lookup y.1=Z .cell/\((cellsFrom (s.heap.objs.size+1) scope.names []).lookup y.1).isSome=true):=λ⟨n,v⟩ hy=>by
  rcases S.par n (cq hy).1 with q|q
  ·exact .inl q
  ·exact .inr ⟨q,cellsFrom_some _ _ _ (.inl q)⟩
 refine codeAny_call_function g.depth (h _ _ F) rfl S.co S.gen rfl (PySem.W.codeRec_of h a1) (hb _ _ _ _ ?_);refine wpAny_newFunctionEnv_cells S.kind a0 λenv M m x=>?_;subst M;refine⟨D.keeps x.toInCall.keep,codeAny_func ?_⟩;obtain⟨t,C,hq⟩:=G A outer s H vs Q E (g.deeper _) j;have I:AU (DY CX P w K mg base N qual scope f a A outer s H E) [] (start N vs) H m:=R8 S g.hd e0 L r x;refine ZU (C [] m (start N vs) H _ I hq) (λfl s' c=>?_) λe s' c=>c;have z:∀{σ':St} {H':Hp} {v:V} {u:A0},AU (DY CX P w K mg base N qual scope f a A outer s H E) [] σ' H' s'->As v u->Q v H'->CE outer P w H s Q u s':=
  λ{σ' H' v u} J d q=>⟨v,H',J.os,J.bare,J.base,J.hok,d,q⟩
 cases fl with
 |ret u=>
  obtain⟨v,σ',H',J,d,q⟩:=c;exact z J d q
 |next=>
  obtain⟨σ',H',J,q⟩:=c;exact z (v:=V.non) (u:=Value.none) J rfl q
 |brk=>
  obtain⟨_,_,_,q⟩:=c;exact False.elim q
 |cont=>
  obtain⟨_,_,_,q⟩:=c;exact False.elim q
end L2
namespace L2
section
variable{X:Cx}{p:Pos}{t:TA}{id T:String}{r:O V->Hp->VK->Prop}
def F8(r:O V->Hp->VK->Prop)(t:TA):TE:=λσ H Q=>t σ H λvs H1=>r vs H1 Q
theorem U0(f:jH X (.builtin id) r)(j:Gl X x)(i:X.mg x=U)(g:AH x=Z (.builtin id))(b:PA X (e::es) t)(hn:x ≠ "__name__":=by decide)(a:eg x:=by decide)
  (d:A9 (e::es) X.env=(false,eval e X.env)::A9 es X.env:=by rfl) (c:(AD pos (A9 es X.env)).any (·.1)=false:=by rfl):PE X (.Call (.Name x p) (e::es) [] pos) (F8 r t):=by
 intro AN s σ H Q I h;refine Qr (DR I j i g ?_ hn a);exact PyProof.Rows.callWith_builtin1 (jF (b pos AN s σ H _ I h) λus s1 ⟨vs,H1,I1,r1,q1⟩=>f AN s1 σ H1 vs us Q I1 r1 q1) d c
theorem R9(f:jH X (.type T) r)(j:Gl X x)(i:X.mg x=U)(g:AH x=Z (.type T))(b:PA X (e::es) t)(hn:x ≠ "__name__":=by decide)(a:eg x:=by decide)
  (d:A9 (e::es) X.env=(false,eval e X.env)::A9 es X.env:=by rfl) (c:(AD pos (A9 es X.env)).any (·.1)=false:=by rfl):PE X (.Call (.Name x p) (e::es) [] pos) (F8 r t):=by
 intro AN s σ H Q I h;refine Qr (DR I j i g ?_ hn a);exact PyProof.Rows.callWith_type1 (jF (b pos AN s σ H _ I h) λus s1 ⟨vs,H1,I1,r1,q1⟩=>f AN s1 σ H1 vs us Q I1 r1 q1) d c
end
end L2
namespace HT
open PySem PyProof.Rows
section
open PySem.SeqAt
open PySem.AutoSeq1 (wpAny_loadPart')
open PySem.MeetsSeq PySem.MeetsSeq2 PySem.MeetsSeq3
end
theorem Yy{t b:A1}{vs ws:O A0}(p:IsTup s.heap t vs.toArray)(q:IsTup s.heap b ws.toArray)(l:vs≠[])(h1:ws=[]->Q (.ref t) s)(h2:ws≠[]->Q (.ref s.heap.objs.size) { s with heap:=s.heap.push { cls:=.type "tuple",data:=.seq (vs++ws).toArray } })(hsz:vs.length+ws.length<=AA):A7 (A8 prog w) A (binaryOp .Add (.ref t) (.ref b)) Q E s:=by
 obtain⟨⟨cls,i,data,sl⟩,c,j,n,hd⟩:=id p;obtain⟨⟨cls2,g,u,h⟩,a,m,o,f⟩:=id q;simp only at j hd m f;subst j hd m f;have e:vs.toArray++ws.toArray=(vs++ws).toArray:=by simp
 by_cases d:ws=[]
 ·exact concat_meets ⟨_,c,rfl⟩ ⟨_,a,rfl⟩ noFill_tuple_add seq_tuple_add PySem.F.slot_tuple_add KG (Kx _ _)
   (tuple_addW1 t b vs.toArray ws.toArray n o i g sl h (by simpa using l) (by simp[d])) ⟨c,a,h1 d⟩
 ·refine concat_meets ⟨_,c,rfl⟩ ⟨_,a,rfl⟩ noFill_tuple_add seq_tuple_add PySem.F.slot_tuple_add KG (Kx _ _)
   (tuple_addW2 t b vs.toArray ws.toArray n o i g sl h (by simpa using l) (by simpa using d) (by rw[zl,zl];exact hsz)) ⟨c,a,?_⟩
  rw[e];exact h2 d
def gK(n d:Nat):Y Int->Nat
 |none=>d
 |some v=>if v<0 then(v+(n:Int)).toNat else min v.toNat n
theorem U3(n d:Nat):gK n d U=d:=rfl
theorem Yz(n d k:Nat):gK n d (Z (k:Int))=min k n:=by
 show(if(k:Int)<0 then((k:Int)+(n:Int)).toNat else min (k:Int).toNat n)=min k n;rw[zS (),kD]
theorem NA(n d:Nat)(hd:d<=n)(o:Y Int):gK n d o<=n:=by
 cases o with
 |none=>exact hd
 |some v=>
  show(if v<0 then(v+(n:Int)).toNat else min v.toNat n)<=n;by_cases a:v<0
  ·rw[zr a];omega
  ·rw[zS a];exact Nat.min_le_right _ _
theorem Qy(v:Int)(n d:Nat):(if v<0 then max (v+(n:Int)) 0 else min v (n:Int))=((gK n d (Z v):Nat):Int):=by
 show(if v<0 then max (v+(n:Int)) 0 else min v (n:Int))=(((if v<0 then(v+(n:Int)).toNat else min v.toNat n):Nat):Int);by_cases a:v<0
 ·simp only[zr a];omega
 ·simp only[zS a];omega
theorem Om(lo hi:Y Int)(n:Nat):Builtin.Slice.sliceAdjust lo hi 1 (n:Int)=(((gK n 0 lo:Nat):Int),((gK n n hi:Nat):Int)):=by
 have h1:¬ ((1:Int)<0):=by omega
 unfold Builtin.Slice.sliceAdjust;simp only[h1,ZY];refine br ?_ ?_
 ·cases lo with
  |none=>rfl
  |some v=>exact Qy v n 0
 ·cases hi with
  |none=>rfl
  |some v=>exact Qy v n n
theorem Oo(i j:Nat):Builtin.Slice.slicePlaces (i:Int) (j:Int) 1=j-i:=by
 unfold Builtin.Slice.slicePlaces;have h1:(1:Int)>0:=by omega
 simp only[h1,qk,Int.ediv_one];split<;>omega
theorem o9{v:A0}{o:Y Int}{Q:Y Int->A2->Prop}(p:IsPart v o)(h:Q o s):A7 (A8 prog w) A (Builtin.Slice.slicePartIndex v) Q E s:=by
 cases p with
 |none=>exact slicePart_none h
 |int i t=>exact slicePart_int h
theorem qT{sl:A1}{b d:A0}{Q:Int×Int×Nat->A2->Prop}(hs:s.heap.IsSliceOf sl b d .none)(pl:IsPart b lo)(e:IsPart d hi)(h:Q (((gK n 0 lo:Nat):Int),1,gK n n hi-gK n 0 lo) s):A7 (A8 prog w) A (Builtin.Slice.sliceApplied (.ref sl) (pure (n:Int))) Q E s:=by
 obtain⟨os,a,f,c⟩:=id hs;unfold Builtin.Slice.sliceApplied Builtin.Slice.sliceFields;refine zb (zb (k9 a c (x:=b) S (zb (k9 a c (x:=d) S (zb (k9 a c (x:=.none) S (zd ?_)))))));refine zb (slicePart_none ?_);show A7 _ _ (if((1:Int)==0)=true then _ else _) _ _ s;rw[zS ()];refine zb (o9 pl (zb (o9 e (zb (zd ?_)))));show A7 _ _ (match Builtin.Slice.sliceAdjust lo hi 1 (n:Int)with|(lo,hi)=>pure (lo,(1:Int),Builtin.Slice.slicePlaces lo hi 1)) _ _ s;rw[Om lo hi n];show A7 _ _ (pure (((gK n 0 lo:Nat):Int),(1:Int),Builtin.Slice.slicePlaces ((gK n 0 lo:Nat):Int) ((gK n n hi:Nat):Int) 1)) _ _ s;rw[Oo];exact zd h
theorem U4(xs:Array A0)(i k:Nat):((ax k).filterMap λ(m:Nat)=>xs[((i:Int)+(m:Int)*1).toNat]?).toArray=((xs.toList.drop i).take k).toArray:=by
 have e:(λ(m:Nat)=>xs[((i:Int)+(m:Int)*1).toNat]?)=λm=>xs[i+m]?:=by
  funext m;have:((i:Int)+(m:Int)*1).toNat=i+m:=by omega
  rw[this]
 rw[e];have:=pick_run xs i k;rw[dm]at this;have e2:((λx=>xs[x]?) ∘ λx=>i+x)=λm=>xs[i+m]?:=rfl;rw[e2]at this;rw[this]
theorem zx{t sl:A1}{c d:A0}(b:IsTup s.heap t items)(hs:s.heap.IsSliceOf sl c d .none)(pl:IsPart c lo)(i:IsPart d hi)(l:¬ (gK items.size 0 lo=0/\gK items.size items.size hi=items.size))(h:Q (.ref s.heap.objs.size) { s with heap:=s.heap.push { cls:=.type "tuple",data:=.seq ((items.toList.drop (gK items.size 0 lo)).take (gK items.size items.size hi-gK items.size 0 lo)).toArray } })(hsz:items.size<=AA):A7 (A8 prog w) A (getItem (.ref t) (.ref sl)) Q E s:=by
 have a:sizeOk (.seq ((items.toList.drop (gK items.size 0 lo)).take (gK items.size items.size hi-gK items.size 0 lo)).toArray):=by
  show((items.toList.drop (gK items.size 0 lo)).take (gK items.size items.size hi-gK items.size 0 lo)).toArray.size<=AA;rw[zl,kK,QP,QN];omega
 have o:gK items.size items.size hi<=items.size:=NA _ _ (zo _) hi;obtain⟨os,f,g,n⟩:=id hs;have j:s.TypeIs (.ref sl) "slice":=⟨os,f,g⟩;unfold getItem
 try with_reducible refine ZA ?_
 first|refine zb (zd ?_)|skip
 refine zb (Ki b.typeIs () ?_);refine zb (kq (name:=Str.ofString "__getitem__") b.typeIs PyProof.Rows.slot_tuple_getitem
  (JY PyProof.Rows.slot_tuple_getitem b.typeIs entry_tuple_getitem ?_ (args_tuple_getitem _ _)))
 show A7 _ _ (Builtin.Tuple.tupleItemsOf (.ref t) >>= _) _ _ s;refine zb (tupleItemsOf_ b ?_);refine zb (QA j ?_);rw[zr ()];refine zb (qT hs pl i ?_);have e:¬ ((((gK items.size 0 lo:Nat):Int)==0&&(1:Int)==1&&(gK items.size items.size hi-gK items.size 0 lo)==items.size)=true):=by
  intro q;rw[ZH,ZH]at q;have q1:((gK items.size 0 lo:Nat):Int)=0:=eq_of_beq q.1.1;have q2:gK items.size items.size hi-gK items.size 0 lo=items.size:=eq_of_beq q.2;exact l ⟨by omega,by omega⟩
 show A7 _ _ (if(((gK items.size 0 lo:Nat):Int)==0&&(1:Int)==1&&(gK items.size items.size hi-gK items.size 0 lo)==items.size)=true then _ else _) _ _ s;rw[zS e,U4]
 first
  |exact zb (m:=Builtin.Tuple.tupleExact _) (qf (zd ⟨_,rfl,zd h⟩) a)
  |exact zb (m:=Builtin.Tuple.tupleExact _) (qf (zb (zd (zd ⟨_,rfl,zd h⟩))) a)
  |exact zb (zb (m:=Builtin.Tuple.tupleExact _) (qf (zd (zd ⟨_,rfl,zd h⟩)) a))
  |exact zb (zb (m:=Builtin.Tuple.tupleExact _) (qf (zd ⟨_,rfl,zd h⟩) a))
end HT
namespace L2
abbrev TO:=St->Hp->(Y Int->Hp->Prop)->Prop
def PO(X:Cx)(e:Y Expr)(t:TO):Prop:=
 ∀(AN:O (A1×AE)) (s:A2) (σ:St) (H:Hp) (Q:Y Int->Hp->Prop),AU X AN σ H s->t σ H Q →
  A7 (eh X) X.A (evalPart e X.env) (λu s'=>∃o H',AU X AN σ H' s'/\IsPart u o/\Q o H') X.xe s
def YB:TO:=λ_ H Q=>Q U H
def Sf(t:TE):TO:=λσ H Q=>t σ H λx H1=>∃i,x=.int i/\Q (Z i) H1
section
variable{X:Cx}{te:TE}{lo hi:Y Expr}{tl th:TO}
theorem YC:PO X U YB:=by
 intro AN s σ H Q I h;rw[evalPart_none];exact zd ⟨U,H,I,.none,h⟩
theorem YD(h:PE X e te):PO X (Z e) (Sf te):=by
 intro AN s σ H Q I a;rw[evalPart_some];refine jF (h AN s σ H _ I a) λu s1 ⟨x,H1,I1,r1,q1⟩=>?_;obtain⟨i,rfl,q⟩:=q1;obtain⟨t,rfl⟩:=r1;exact⟨Z i,H1,I1,.int i t,q⟩
def EL(X:Cx)(r:V->Y Int->Y Int->Hp->VK->Prop):Prop:=
 ∀(AN:O (A1×AE)) (s:A2) (σ:St) (H:Hp) (x:V) (v a b:A0) (lo hi:Y Int) (sl:A1) (Q:VK),AU X AN σ H s->As x v->s.heap.IsSliceOf sl a b .none->IsPart a lo->IsPart b hi->r x lo hi H Q →
  ∃T id,typeLookup (.type T) "__getitem__"=pure (Z (.builtin id))/\s.TypeIs v T/\A7 (eh X) X.A (getItem v (.ref sl)) (EP X AN σ Q) X.xe s
def P9(r:V->Y Int->Y Int->Hp->VK->Prop)(te:TE)(tl th:TO):TE:=λσ H Q=>te σ H λx H1=>tl σ H1 λl H2=>th σ H2 λu a=>r x l u a Q
theorem U5{r:V->Y Int->Y Int->Hp->VK->Prop}(f:EL X r)(d:PE X e te)(i:PO X lo tl)(g:PO X hi th):PE X (.Subscript e (.Slice lo hi U p2) pos) (P9 r te tl th):=by
 intro AN s σ H Q I h;refine Subscript_ (jF (d AN s σ H _ I h) λv s1 ⟨x,H1,I1,r1,q1⟩=>?_);refine wpAny_Slice (jF (i AN s1 σ H1 _ I1 q1) λvl s2 ⟨l,H2,I2,pl,q2⟩=>jF (g AN s2 σ H2 _ I2 q2) λvu s3 ⟨u,H3,I3,pu,q3⟩=>?_);rw[evalPart_none];refine zd ?_;have a:AU X AN σ H3 { s3 with heap:=s3.heap.push { cls:=.type "slice",data:=.fields #[vl,vu,.none] } }:=I3.kept (t':=s3.toks) λb n q=>zg _ q;obtain⟨T,id,j,c,m⟩:=f AN { s3 with heap:=s3.heap.push { cls:=.type "slice",data:=.fields #[vl,vu,.none] } } σ H3 x v vl vu l u s3.heap.objs.size Q a r1 (Heap.IsSliceOf.new ..) pl pu q3;show A7 (eh X) X.A (subscriptTail e (.Slice lo hi U p2) v (.ref s3.heap.objs.size)) (EP X AN σ Q) X.xe { s3 with heap:=s3.heap.push { cls:=.type "slice",data:=.fields #[vl,vu,.none] } };exact tail_any (ops:=[.ref s3.heap.objs.size,v]) c j m (by with_unfolding_all rfl)
def K9(xs:O V)(lo hi:Y Int):O V:=(xs.drop (HT.gK xs.length 0 lo)).take (HT.gK xs.length xs.length hi-HT.gK xs.length 0 lo)
theorem Cg(xs:O V)(lo hi:Y Int):(K9 xs lo hi).length<=xs.length:=by
 unfold K9;rw[kK,QP];omega
def Na(K:B5):V->Y Int->Y Int->Hp->VK->Prop:=λx lo hi H Q=>∃a xs,x=.ref a/\zm K H a xs ∧
 ¬ (HT.gK xs.length 0 lo=0/\HT.gK xs.length xs.length hi=xs.length)/\∀p,H p=U->Q (.ref p) (B6 H p (.tup (K9 xs lo hi)))
theorem OK:EL X (Na X.K):=by
 intro AN s σ H x v l n lo hi sl Q I f i pl g h;obtain⟨a,xs,rfl,hx,j,q⟩:=h;cases f;obtain⟨AQ,r,e,d⟩:=I.tuple hx;have c:AQ.toArray.size=xs.length:=by rw[zl];exact r.length.symm
 refine⟨"tuple", _,PyProof.Rows.slot_tuple_getitem.lookup,e.typeIs,?_⟩;refine HT.zx e i pl g (by rw[c];exact j) ?_ (by rw[c];exact d);rw[c];refine⟨.ref s.heap.objs.size,_,I.laid (t':=s.toks) (o:=.tup (K9 xs lo hi)) (λb m q=>zg _ q) (zo _) ?_,rfl,q _ (I.hok.fresh (zo _))⟩;exact⟨zD (Cg xs lo hi) d,_,(r.drop (HT.gK xs.length 0 lo)).take (HT.gK xs.length xs.length hi-HT.gK xs.length 0 lo),fP.new _ _⟩
def NX(K:B5):R2:=λx y H Q=>∃a b xs ys,x=.ref a/\y=.ref b/\zm K H a xs/\zm K H b ys/\xs≠[]/\xs.length+ys.length<=AA ∧
 (ys=[]->Q (.ref a) H)/\(ys≠[]->∀p,H p=U->Q (.ref p) (B6 H p (.tup (xs++ys))))
theorem AX.Dk{xs:O V}(r:AX xs us):us=[]↔xs=[]:=by
 cases r with
 |nil=>simp
 |cons _ _=>simp
theorem YF:Ay X (binaryOp .Add) (NX X.K):=by
 intro AN s σ H x y v u Q I f i h;obtain⟨a,b,xs,ys,rfl,rfl,g,j,hx,e,q1,q2⟩:=h;cases f;cases i;obtain⟨AQ,d,p1,_⟩:=I.tuple g;obtain⟨l,c,p2,_⟩:=I.tuple j;refine HT.Yy p1 p2 (λz=>hx (d.Dk.mp z)) (λz=>⟨.ref a,H,I,rfl,q1 (c.Dk.mp z)⟩) (λz=>?_) (by rw[<-d.length,<-c.length];exact e);refine⟨.ref s.heap.objs.size,_,I.laid (t':=s.toks) (o:=.tup (xs++ys)) (λb m q=>zg _ q) (zo _) ?_,rfl,q2 (λw=>z (c.Dk.mpr w)) _ (I.hok.fresh (zo _))⟩;exact⟨by rw[qr];exact e,_,d.append c,fP.new _ _⟩
end
end L2
namespace L2
def D9(n:Nat)(i:Int):Y Nat:=if 0<=i then(if i<n then Z i.toNat else U)else if -(n:Int)<=i then Z (i+n).toNat else U
def GJ(xs:O α)(i:Int):Y α:=(D9 xs.length i).bind λj=>xs[j]?
theorem YG{i:Int}(h:D9 n i=Z j):seqIndex? i n=Z j/\j<n ∧ -(n:Int)<=i/\i<n:=by
 unfold D9 at h;by_cases a:0<=i
 ·rw[zr a]at h;by_cases h1:i<n
  ·rw[zr h1]at h;have e:i.toNat=j:=Q1 h;exact⟨by rw[seqIndex_of a h1,e],by omega,by omega,h1⟩
  ·rw[zS h1]at h;cases h
 ·rw[zS a]at h;by_cases h1 : -(n:Int)<=i
  ·rw[zr h1]at h;have e:(i+n).toNat=j:=Q1 h;exact⟨by rw[seqIndex_neg () h1,e],by omega,h1,by omega⟩
  ·rw[zS h1]at h;cases h
theorem Jo{xs:O α}{i:Int}{v:α}(h:GJ xs i=Z v):∃j,seqIndex? i xs.length=Z j/\xs[j]?=Z v/\j<xs.length ∧ -(xs.length:Int)<=i/\i<xs.length:=by
 unfold GJ at h;cases e:D9 xs.length i with
 |none=>rw[e]at h;cases h
 |some j=>
  rw[e]at h;obtain⟨h1,h2,b,a⟩:=YG e;exact⟨j,h1,h,h2,b,a⟩
def Qz(b:Expr):Prop:=∀o i,subscripted b false o i=operate [o,i] (getItem o i)
def YH(X:Cx)(r:R2):Prop:=
 ∀(value a:Expr) (AN:O (A1×AE)) (s:A2) (σ:St) (H:Hp) (x y:V) (v u:A0) (Q:VK),AU X AN σ H s->As x v->As y u->r x y H Q →
  subscripted a false v u=operate [v,u] (getItem v u)->A7 (eh X) X.A (subscriptTail value a v u) (EP X AN σ Q) X.xe s
def EG(X:Cx)(id:String)(r:V->O V->Hp->VK->Prop):Prop:=
 ∀(AN:O (A1×AE)) (s:A2) (σ:St) (H:Hp) (x:V) (xs:O V) (v:A0) (us:O A0) (Q:VK),AU X AN σ H s->As x v->AX xs us->r x xs H Q →
  A7 (eh X) X.A (call (.builtin id) (v::us)) (EP X AN σ Q) X.xe s
section
variable{X:Cx}{a b:Expr}{ta tb:TE}
theorem YH.or{r d:R2}(h:YH X r)(h':YH X d):YH X (λx y H Q=>r x y H Q\/d x y H Q):=by
 intro value e AN s σ H x y v u Q I a b q c;rcases q with q|q
 ·exact h value e AN s σ H x y v u Q I a b q c
 ·exact h' value e AN s σ H x y v u Q I a b q c
theorem OI{r:R2}(g:YH X r)(e:PE X a ta)(i:PE X b tb)(hs:Qz b):PE X (.Subscript a b pos) (Dx r ta tb):=by
 intro AN s σ H Q I h;exact Subscript_ (G1 e i I h λv u j x y H2 c d f q=>g a b AN j σ H2 x y v u Q c d f q (hs _ _))
def HK(K:B5):R2:=λx y H Q=>∃p xs i v,x=.ref p/\y=.int i/\qQ K H p xs/\GJ xs i=Z v/\Q v H
def HU(K:B5):R2:=λx y H Q=>∃p xs i v,x=.ref p/\y=.int i/\zm K H p xs/\GJ xs i=Z v/\Q v H
def HP:R2:=λx y H Q=>∃z i c,x=.str z/\y=.int i/\z.length<=AA/\GJ z.cps.toList i=Z c/\Q (.str ⟨#[c]⟩) H
theorem YJ:YH X (HK X.K):=by
 intro value F AN s σ H x y v u Q I f l h c;obtain⟨p,xs,i,z,rfl,rfl,m,B,q⟩:=h;cases f;obtain⟨t,rfl⟩:=l;obtain⟨AQ,r,pl,C⟩:=I.list m;obtain⟨j,h1,h2,E,o,g⟩:=Jo B;obtain⟨w,d,A⟩:=r.get h2;have n:=r.length;have D:=Az;have b:EP X AN σ Q w s:=⟨z,H,I,A,q⟩;by_cases e:0<=i
 ·have a:i.toNat=j:=by
   rw[seqIndex_of e g]at h1;exact Q1 h1
  exact item_listR pl.isList e () (by rw[a];simpa using d) b c
 ·have a:(i+(AQ.toArray.size:Int)).toNat=j:=by
   rw[seqIndex_neg () o]at h1;rw[zl,<-n];exact Q1 h1
  exact subscriptTail_builtinR (x:=w) pl.isList.typeIs slot_list_getitem.lookup
   (wpAny_getItem_list_neg (Q:=λr s'=>r=w/\EP X AN σ Q r s') pl.isList () (by rw[zl]<;>omega) () (by rw[a];simpa using d) ⟨rfl,b⟩) c
theorem OO:YH X (HU X.K):=by
 intro value D AN s σ H x y v u Q I a b h e;obtain⟨p,xs,i,z,rfl,rfl,d,m,q⟩:=h;cases a;obtain⟨t,rfl⟩:=b;obtain⟨AQ,r,pl,n⟩:=I.tuple d;obtain⟨j,h1,h2,C,A,o⟩:=Jo m;obtain⟨w,g,l⟩:=r.get h2;have f:=r.length;have B:=Az;have c:EP X AN σ Q w s:=⟨z,H,I,l,q⟩;exact subscriptTail_builtinR (x:=w) pl.typeIs slot_tuple_getitem.lookup
  (getItem_tuple (j:=j) (Q:=λr s'=>r=w/\EP X AN σ Q r s') pl () () (by rw[zl,<-f];exact h1) (by simpa using g) ⟨rfl,c⟩) e
theorem NY:YH X HP:=by
 intro value w AN s σ H x y v u Q I a d h e;obtain⟨z,i,c,rfl,rfl,m,l,q⟩:=h;obtain⟨t,rfl⟩:=a;obtain⟨n,rfl⟩:=d;obtain⟨j,h1,h2,p,g,b⟩:=Jo l;have f:z.cps.toList.length=z.length:=by simp[Str.length]
 rw[f]at h1 g b;have o:=Az;exact tail_any (typeIs_str s z t) slot_str_getitem.lookup (getItem_str (c:=c) (by
  have e1:decide (i < -(2 ^ 63:Int))=false:=z5 ();have e2:decide (i>=2 ^ 63)=false:=z5 ();rw[e1,e2,Bool.or_false]) (by rw[h1];simpa using h2) ⟨.str ⟨#[c]⟩,H,I.tok _,⟨_,rfl⟩,q⟩) e
def NJ(K:B5):R2:=λx y H Q=>HK K x y H Q\/HU K x y H Q\/HP x y H Q
theorem Lv:YH X (NJ X.K):=YJ.or (OO.or NY)
theorem AU.lst{σ:St}{H:Hp}{p:A1}{xs:O V}(I:AU X AN σ H s)(h:H p=Z (.lst xs)):
  ∃(AQ:O A0) (n:Nat),AX xs AQ/\s.heap.get? p=Z { cls:=.type "list",data:=.seq AQ.toArray n }/\xs.length<=AA:=by
 obtain⟨z,AQ,n,r,e⟩:=I.hok p _ h;exact⟨AQ,n,r,e,z⟩
theorem Jp(lo hi:Y Int)(n:Nat):(sliceBounds lo hi U n).1=((HT.gK n 0 lo:Nat):Int)/\(sliceBounds lo hi U n).2.1=((HT.gK n n hi:Nat):Int)/\(sliceBounds lo hi U n).2.2=1:=by
 refine⟨?_,?_,rfl⟩
 ·cases lo with
  |none=>simp[sliceBounds,HT.gK]
  |some i=>
   simp only[sliceBounds,HT.gK,dC,show(1:Int)>0 by decide,qk];by_cases h:i<0
   ·simp only[h,qk]<;>omega
   ·simp only[h,ZY]<;>omega
 ·cases hi with
  |none=>simp[sliceBounds,HT.gK]
  |some i=>
   simp only[sliceBounds,HT.gK,dC,show(1:Int)>0 by decide,qk];by_cases h:i<0
   ·simp only[h,qk]<;>omega
   ·simp only[h,ZY]<;>omega
theorem GP(AQ:O A0)(lo hi:Y Int):slicePick AQ.toArray lo hi U=((AQ.drop (HT.gK AQ.length 0 lo)).take (HT.gK AQ.length AQ.length hi-HT.gK AQ.length 0 lo)).toArray:=by
 obtain⟨h1,h2,a⟩:=Jp lo hi AQ.toArray.size;unfold slicePick;rw[h1,h2,a];simp only[sliceRange_one,pick_run,zl]<;>rfl
def OT(K:B5):V->Y Int->Y Int->Hp->VK->Prop:=λx lo hi H Q=>∃a xs,x=.ref a/\qQ K H a xs/\∀p,H p=U->Q (.ref p) (B6 H p (.lst (K9 xs lo hi)))
theorem YK:EL X (OT X.K):=by
 intro AN s σ H x v j m lo hi sl Q I e g pl f h;obtain⟨a,xs,rfl,hx,q⟩:=h;cases e;obtain⟨AQ,r,c,d⟩:=I.list hx;have i:=r.length;refine⟨"list", _,slot_list_getitem.lookup,c.isList.typeIs,?_⟩;refine wpAny_getItem_list_slice c.isList g pl f .none (by simp) ?_ (by rw[zl]<;>omega);rw[GP,<-i];refine⟨.ref s.heap.objs.size,_,I.laid (t':=s.toks) (o:=.lst (K9 xs lo hi)) (λb l q=>zg _ q) (zo _) ?_,rfl,q _ (I.hok.fresh (zo _))⟩;exact⟨zD (Cg xs lo hi) d,_,0,(r.drop (HT.gK xs.length 0 lo)).take (HT.gK xs.length xs.length hi-HT.gK xs.length 0 lo),zw _ rfl⟩
def uf:V->Bool
 |.non=>true
 |.bl _=>true
 |.int _=>true
 |.str _=>true
 |_=>false
def YL:V->V->Bool
 |.non,.non=>true
 |.bl a,.bl b=>a==b
 |.bl a,.int b=>(if a then 1 else 0)==b
 |.int a,.bl b=>a==(if b then 1 else 0)
 |.int a,.int b=>a==b
 |.str a,.str b=>a==b
 |_,_=>false
theorem SV{y x:V}{v:A0}(e:As y u)(c:As x v)(fy:uf y=true)(fx:uf x=true):SeqAt.EqAt A s u v (YL y x):=by
 cases y with
 |non=>
  cases e;cases x with
  |non=>cases c;exact SeqAt.EqAt.same _
  |bl b=>cases c;exact SeqAt.EqAt.none_bool b
  |int b=>obtain⟨t,rfl⟩:=c;exact SeqAt.EqAt.none_int b t
  |str b=>obtain⟨t,rfl⟩:=c;exact SeqAt.EqAt.none_str b t
  |_=>exact absurd (show false=true from fx) Zp
 |bl a=>
  cases e;cases x with
  |non=>cases c;exact SeqAt.EqAt.bool_none a
  |bl b=>cases c;exact SeqAt.EqAt.bool_bool a b
  |int b=>obtain⟨t,rfl⟩:=c;exact SeqAt.EqAt.bool_int a b t
  |str b=>obtain⟨t,rfl⟩:=c;exact SeqAt.EqAt.bool_str a b t
  |_=>exact absurd (show false=true from fx) Zp
 |int a=>
  obtain⟨d,rfl⟩:=e;cases x with
  |non=>cases c;exact SeqAt.EqAt.int_none a d
  |bl b=>cases c;exact SeqAt.EqAt.int_bool a d b
  |int b=>obtain⟨t,rfl⟩:=c;exact SeqAt.EqAt.int_int a d b t
  |str b=>obtain⟨t,rfl⟩:=c;exact SeqAt.EqAt.int_str a d b t
  |_=>exact absurd (show false=true from fx) Zp
 |str a=>
  obtain⟨d,rfl⟩:=e;cases x with
  |non=>cases c;exact SeqAt.EqAt.str_none a d
  |bl b=>cases c;exact SeqAt.EqAt.str_bool a d b
  |int b=>obtain⟨t,rfl⟩:=c;exact SeqAt.EqAt.str_int a d b t
  |str b=>obtain⟨t,rfl⟩:=c;exact SeqAt.EqAt.str_str a d b t
  |_=>exact absurd (show false=true from fx) Zp
 |_=>exact absurd (show false=true from fy) Zp
def YM(x:V)(u:A0):Bool:=match u with
 |.none=>YL .non x
 |.bool b=>YL (.bl b) x
 |.int i _=>YL (.int i) x
 |.str z _=>YL (.str z) x
 |_=>false
theorem U6{x y:V}(r:As y u)(f:uf y=true):YM x u=YL y x:=by
 cases y with
 |non=>cases r;rfl
 |bl b=>cases r;rfl
 |int i=>obtain⟨t,rfl⟩:=r;rfl
 |str z=>obtain⟨t,rfl⟩:=r;rfl
 |_=>exact absurd (show false=true from f) Zp
theorem Jq{x:V}:∀{xs:O V} {us:O A0},AX xs us->xs.all uf=true->us.any (YM x)=xs.any λy=>YL y x
 |_,_,.nil,_=>rfl
 |y::xs,u::us,.cons r t,f=>by
  rw[j3,ZH]at f;rw[js,js,U6 r f.1,Jq t f.2]
theorem Ea{A:A5}{s:A2}{x:V}{v:A0}(b:As x v)(fx:uf x=true):∀{xs:O V} {us:O A0},AX xs us->xs.all uf=true->∀u∈us,SeqAt.EqAt A s u v (YM x u)
 |_,_,.nil,_=>λu a=>by cases a
 |y::xs,u::us,.cons r t,f=>λc a=>by
  rw[j3,ZH]at f;rcases List.mem_cons.mp a with rfl|a
  ·rw[U6 r f.1];exact SV r b f.1 fx
  ·exact Ea b fx t f.2 c a
def EU(x:V)(xs:O V):Bool:=xs.any λy=>YL y x
def LI(K:B5)(a:Bool):R2:=λx y H Q=>∃p xs,y=.ref p/\(qQ K H p xs\/zm K H p xs)/\uf x=true/\xs.all uf=true/\Q (.bl (if a then !EU x xs else EU x xs)) H
theorem Sd:Ay X (AG .In) (LI X.K false):=by
 intro AN s σ H x y v u Q I c e h;obtain⟨p,xs,rfl,a,fx,fs,q⟩:=h;cases e;rcases a with a|a
 ·obtain⟨AQ,r,pl,d⟩:=I.list a;refine SeqAt.in_listAt (YM x) pl.isList (λw b=>Ea c fx r fs w (by simpa using b)) ⟨.bl _,H,I,rfl,?_⟩;rw[show AQ.toArray.any (YM x)=AQ.any (YM x) by simp,Jq r fs];exact q
 ·obtain⟨AQ,r,pl,d⟩:=I.tuple a;refine SeqAt.in_tupleAt (YM x) pl (λw b=>Ea c fx r fs w (by simpa using b)) ⟨.bl _,H,I,rfl,?_⟩;rw[show AQ.toArray.any (YM x)=AQ.any (YM x) by simp,Jq r fs];exact q
theorem Jr:jH X (.builtin "len") (λxs H Q=>∃p ys,xs=[.ref p]/\(qQ X.K H p ys\/zm X.K H p ys)/\Q (.int ys.length) H):=by
 intro AN s σ H xs us Q I r h;obtain⟨p,ys,rfl,a,q⟩:=h;obtain⟨u,rfl,e⟩:=BC r;cases e;have f:=Az;rcases a with a|a
 ·obtain⟨AQ,b,pl,d⟩:=I.list a;have c:=b.length;exact Calls.call_len_list pl.isList (by simp only[zl]<;>omega) ⟨.int ys.length,H,I.tok _,⟨s.toks+1,by rw[zl,c]⟩,q⟩
 ·obtain⟨AQ,b,pl,d⟩:=I.tuple a;have c:=b.length;exact len_tuple pl (by simp only[zl]<;>omega) ⟨.int ys.length,H,I.tok _,⟨s.toks+1,by rw[zl,c]⟩,q⟩
theorem Js:jH X (.builtin "len") (λxs H Q=>∃z,xs=[.str z]/\z.length<=AA/\Q (.int z.length) H):=by
 intro AN s σ H xs us Q I r h;obtain⟨z,rfl,a,q⟩:=h;obtain⟨u,rfl,t,rfl⟩:=BC r;have b:=Az;exact len_str () ⟨.int z.length,H,I.tok _,⟨_,rfl⟩,q⟩
theorem jH.or{f:A0}{r a:O V->Hp->VK->Prop}(h:jH X f r)(h':jH X f a):jH X f (λxs H Q=>r xs H Q\/a xs H Q):=by
 intro AN s σ H xs us Q I b q;rcases q with q|q
 ·exact h AN s σ H xs us Q I b q
 ·exact h' AN s σ H xs us Q I b q
theorem GQ:jH X (.type "tuple") (λxs H Q=>∃p ys,xs=[.ref p]/\((qQ X.K H p ys/\∀l,H l=U->Q (.ref l) (B6 H l (.tup ys)))\/(zm X.K H p ys/\Q (.ref p) H))):=by
 intro AN s σ H xs us Q I r h;obtain⟨p,ys,rfl,h⟩:=h;obtain⟨u,rfl,i⟩:=BC r;cases i;rcases h with⟨c,q⟩|⟨c,q⟩
 ·obtain⟨AQ,a,pl,d⟩:=I.list c;have j:=a.length;refine call_tuple_list pl.isList (λh' kp=>?_) (by simp only[zl]<;>omega);have f:AU X AN σ H { s with heap:=h' }:=I.kept (t':=s.toks) kp;have g:AU X AN σ (B6 H h'.objs.size (.tup ys)) { s with heap:=h'.push { cls:=.type "tuple",data:=.seq AQ.toArray } }:=
   f.laid (t':=s.toks) (λb o e=>zg _ e) (zo _) (show gJ X.prog X.w _ _ _ (.tup ys) from⟨d,AQ,a,fP.new _ _⟩)
  exact⟨.ref h'.objs.size,_,g,rfl,q _ (f.hok.fresh (zo _))⟩
 ·obtain⟨AQ,a,pl,d⟩:=I.tuple c;exact call_tuple_same pl ⟨.ref p,H,I,rfl,q⟩
def IM(K:B5)(T:String)(x:V)(H:Hp):Prop:=match x with
 |.str _=>T ="str"
 |.int _=>T ="int"
 |.ref p=>(T ="list" ∧ ∃xs,qQ K H p xs)\/(T ="tuple" ∧ ∃o,K.lookup p=Z o/\o.cls=.type "tuple" ∧ o.dict=U) ∨
   (T ="dict" ∧ ((∃AO,H p=Z (.dK AO))\/∃AO,H p=Z (.dT AO)))\/(T ="set" ∧ ∃S n,H p=Z (.set S n))
 |_=>False
theorem Mk{σ:St}{H:Hp}{T:String}{x:V}{v:A0}(I:AU X AN σ H s)(r:As x v)(ty:IM X.K T x H):
  s.TypeIs v T/\∀a,v=.ref a->∃b,s.heap.get? a=Z b/\b.dict=U:=by
 cases x with
 |str z=>
  obtain⟨t,rfl⟩:=r;cases(show T ="str" from ty);exact⟨typeIs_str s z t,λ_ e=>nomatch e⟩
 |int i=>
  obtain⟨t,rfl⟩:=r;cases(show T ="int" from ty);exact⟨typeIs_int s i t,λ_ e=>nomatch e⟩
 |ref p=>
  cases r;rcases ty with⟨rfl,xs,d⟩|⟨rfl,o,hk,f,hd⟩|⟨rfl,hk⟩|⟨rfl,S,n,hk⟩
  ·obtain⟨AQ,_,pl,_⟩:=I.list d;refine⟨pl.isList.typeIs,λa e=>?_⟩;cases e;obtain⟨o,n,e,c,hd,_⟩:=pl;exact⟨o,e,hd⟩
  ·refine⟨⟨o,I.X8 p o hk,f⟩,λa e=>?_⟩;cases e;exact⟨o,I.X8 _ o hk,hd⟩
  ·have z:∃o,s.heap.get? p=Z o/\o.ExactDict:=by
    rcases hk with⟨AO,hk⟩|⟨AO,hk⟩
    ·obtain⟨_,_,_,_,o,_,_,e,ex,_⟩:=I.hok p _ hk;exact⟨o,e,ex⟩
    ·obtain⟨_,_,_,_,o,_,_,e,ex,_⟩:=I.hok p _ hk;exact⟨o,e,ex⟩
   obtain⟨o,e,ex⟩:=z;refine⟨⟨o,e,ex.1⟩,λa e2=>?_⟩;cases e2;exact⟨o,e,ex.2.1⟩
  ·obtain⟨o,_,_,_,e,ex,_⟩:=I.hok p _ hk;refine⟨⟨o,e,ex.1⟩,λa e2=>?_⟩;cases e2;exact⟨o,e,ex.2.1⟩
 |_=>exact False.elim ty
def SW(K:B5)(T:String)(r:V->O V->Hp->VK->Prop)(to:TE)(t:TA):TE:=λσ H Q=>to σ H λx H1=>IM K T x H1/\t σ H1 λxs H2=>r x xs H2 Q
variable{o:Expr}{to:TE}{t:TA}{T id:String}{r:V->O V->Hp->VK->Prop}
theorem La(pa:PlainAttrs T)(j:Slot T name id)(g:typeOf (.builtin id)=pure (.type "method_descriptor"))(f:EG X id r)(i:PE X o to)(c:PA X (e::es) t)
  (l:attributeBase o name X.env (eval o X.env)=eval o X.env:=by rfl)
  (m:((AD cpos (A9 (e::es) X.env)).all (λx=>!x.1)&&(backToKw cpos (keywordEach [] X.env)).all (λx=>x.1.isSome)
   && decide ((e::es).length+([]:O AC).length+(if([]:O AC).isEmpty then 0 else 1)<30))=true:=by rfl)
  (d:(apos.endLine==cpos.line)=true:=by rfl) (hs:A9 (e::es) X.env=(false,eval e X.env)::A9 es X.env:=by rfl) (b:(AD cpos (A9 es X.env)).any (·.1)=false:=by rfl):
  PE X (.Call (.Attribute o name apos) (e::es) [] cpos) (SW X.K T r to t):=by
 intro AN s σ H Q I h;refine wpAny_Call_method_late l m d S (jF (i AN s σ H _ I h) λv s1 ⟨x,H1,I1,r1,ty,q1⟩=>?_);obtain⟨h1,h2⟩:=Mk I1 r1 ty;refine⟨T,id,pa,j,g,h1,h2,?_⟩;have a:=c cpos AN s1 σ H1 _ I1 q1;rw[hs]at a ⊢;refine Calls.callWith_builtin (by show(false||(AD cpos (A9 es X.env)).any (·.1))=false;rw[b]<;>rfl) (Calls.evalArgs_plain ?_);exact jF a λus s2 ⟨vs,H2,I2,r2,q2⟩=>f AN s2 σ H2 x vs v us Q I2 r1 r2 q2
end
end L2
namespace L2
def GI(X:Cx)(id:String)(r:V->O V->Hp->VK->Prop):Prop:=
 ∀(AN:O (A1×AE)) (s:A2) (σ:St) (H:Hp) (x:V) (xs:O V) (v:A0) (us:O A0) (Q:VK),AU X AN σ H s->As x v->AX xs us->r x xs H Q →
  A7 (eh X) X.A (call (.builtin id) (v::us)) (EP X AN σ Q) X.xe s
theorem AX.one:∀{x:V} {us:O A0},AX [x] us->∃u,us=[u]/\As x u:=λh=>by
 cases h with
 |cons r t=>cases t;exact⟨_,rfl,r⟩
theorem AX.eraseIdx:∀{xs:O V} {us:O A0} (i:Nat),AX xs us->AX (xs.eraseIdx i) (us.eraseIdx i)
 |_,_,_,.nil=>.nil
 |_,_,0,.cons _ t=>t
 |_,_,i+1,.cons r t=>.cons r (AX.eraseIdx i t)
theorem AX.reverse{xs:O V}(h:AX xs us):AX xs.reverse us.reverse:=by
 induction h with
 |nil=>exact .nil
 |cons r t a=>rw[Kj,Kj];exact AX.append a (.cons r .nil)
theorem HF{α:Type}:∀(l:O α) (i:Nat),(l.eraseIdx i).length<=l.length
 |[],_=>zo _
 |_::_,0=>Kb _
 |_::r,i+1=>KA (HF r i)
section
variable{X:Cx}{σ:St}{H:Hp}{b:A1}{xs ys zs:O V}
theorem AU.U7{its':O A0}{f:Array A0->Array A0}{t':Nat}(I:AU X AN σ H s)(c:H l=Z (.lst xs))(e:s.heap.get? l=Z { cls:=.type "list",data:=.seq AQ.toArray n })(d:f AQ.toArray=its'.toArray)(g:AX ys its')(a:ys.length<=AA):
  AU X AN σ (B6 H l (.lst ys)) { s with heap:=s.heap.update l (Obj.mapSeq f),toks:=t' }:=by
 have q:=PySem.IsL.update e f;rw[d]at q;refine I.write (x:=l) (e:=l) (by rw[c];exact trivial) (.inl S) (λi u b h=>(Heap.get?_update_other s.heap (Obj.mapSeq f) (k6 b)).trans h) ⟨_,q⟩ ?_;exact⟨a,its',_,g,q⟩
theorem AU.CP(I:AU X AN σ H s)(a:H l=Z (.lst xs)):xs.length<=AA/\∃(AQ:O A0) (n:Nat),AX xs AQ/\xs.length=AQ.length/\s.heap.get? l=Z { cls:=.type "list",data:=.seq AQ.toArray n }:=by
 obtain⟨z,AQ,n,r,e⟩:=I.hok l _ a;exact⟨z,AQ,n,r,r.length,e⟩
end
section
variable{X:Cx}
def YQ:V->O V->Hp->VK->Prop:=λx vs H Q=>∃l xs y,x=.ref l/\vs=[y]/\H l=Z (.lst xs)/\xs.length<AA/\Q .non (B6 H l (.lst (xs++[y])))
theorem HJ:GI X "list.append" YQ:=by
 intro AN s σ H x vs v us Q I b c h;obtain⟨l,xs,y,rfl,rfl,a,f,q⟩:=h;cases b;obtain⟨u,rfl,d⟩:=c.one;obtain⟨z,AQ,n,r,g,e⟩:=I.CP a;refine call_meets F.slot_list_append ⟨_,e,rfl⟩ F.entry_list_append (F.args_list_append_2 _ _) (PySem.list_append l AQ.toArray n u (by rw[zl];omega)) ⟨e,?_⟩;refine⟨.non,_,I.U7 (its':=AQ++[u]) a e (by simp) (r.append (.cons d .nil)) ?_,rfl,q⟩;rw[qr,List.length_singleton];omega
def R1:V->O V->Hp->VK->Prop:=λx vs H Q=>∃l xs i k y,x=.ref l/\vs=[.int i]/\H l=Z (.lst xs) ∧ -(2 ^ 63)<=i/\i<2 ^ 63/\seqIndex? i xs.length=Z k/\xs[k]?=Z y/\Q y (B6 H l (.lst (xs.eraseIdx k)))
theorem U8:GI X "list.pop" R1:=by
 intro AN s σ H x vs v us Q I c d h;obtain⟨l,xs,i,k,y,rfl,rfl,a,h1,h2,hk,b,q⟩:=h;cases c;obtain⟨u,rfl,m⟩:=d.one;obtain⟨t,rfl⟩:=m;obtain⟨z,AQ,n,r,f,e⟩:=I.CP a;obtain⟨w,j,g⟩:=r.get b;refine call_meets F.slot_list_pop ⟨_,e,rfl⟩ F.entry_list_pop (F.args_list_pop_2 _ _)
  (MeetsSeq.list_pop_at l AQ.toArray n i t k w (fitsIndex_both h1 h2) (by rw[zl,<-f];exact hk) (by rw[<-Array.getElem?_toList];exact j) (by rw[zl];omega)) ⟨e,?_⟩
 refine⟨y,_,I.U7 (its':=AQ.eraseIdx k) a e ?_ (r.eraseIdx k) ?_,g,q⟩
 ·show AQ.toArray.eraseIdxIfInBounds k=(AQ.eraseIdx k).toArray;rw[List.eraseIdxIfInBounds_toArray]
 ·have:=HF xs k;omega
end
section
variable{X:Cx}
end
end L2
namespace L2
section
variable [DecidableEq κ]
def zA(AO:O (κ×V))(k:κ):Y V:=(AO.find? λa=>decide (a.1=k)).map (·.2)
def BG(AO:O (κ×V))(k:κ)(v:V):O (κ×V):=
 if(AO.any λa=>decide (a.1=k))=true then AO.map (λa=>if a.1=k then(a.1,v)else a)else AO++[(k,v)]
theorem zB{p:κ×V}{r:O (κ×V)}{k:κ}(e:p.1=k):zA (p::r) k=Z p.2:=by simp[zA,ZO,e]
theorem zF{p:κ×V}{r:O (κ×V)}{k:κ}(e:¬ p.1=k):zA (p::r) k=zA r k:=by simp[zA,ZO,e]
theorem Lb(k:κ):∀AO:O (κ×V),(AO.any λa=>decide (a.1=k))=(zA AO k).isSome
 |[]=>rfl
 |p::r=>by
  rw[js];by_cases e:p.1=k
  ·simp only[zB e,ZT e,Bool.true_or,bu]
  ·rw[zF e,z5 e,bv];exact Lb k r
theorem uK(AO:O (κ×V))(k:κ)(v:V):(BG AO k v).length<=AO.length+1:=by
 unfold BG;split
 ·rw[zi];omega
 ·rw[qr,qv,bg];omega
theorem CN.Sg{o:Y V}{u:Y A0}(r:CN o u):o.isSome=u.isSome:=by
 cases o with
 |none=>cases u with
  |none=>rfl
  |some _=>exact(show False from r).elim
 |some _=>cases u with
  |none=>exact(show False from r).elim
  |some _=>rfl
theorem CN.getD{o:Y V}{u:Y A0}{d:V}{d':A0}(r:CN o u)(a:As d d'):As (o.getD d) (u.getD d'):=by
 cases o with
 |none=>cases u with
  |none=>exact a
  |some _=>exact(show False from r).elim
 |some _=>cases u with
  |none=>exact(show False from r).elim
  |some _=>exact r
theorem KV.val{AO:O (κ×V)}{vs:O (κ×A0)}(r:KV AO vs)(k:κ):CN (zA AO k) (valueAt vs k):=by
 unfold KV at r
 induction r with
 |nil=>exact True.intro
 |@cons p q ps a h t c=>
  obtain⟨h1,h2⟩:=h;by_cases e:p.1=k
  ·have e':q.1=k:=h1.symm.trans e;have b:valueAt (q::a) k=Z q.2:=by simp[valueAt,ZO,e']
   rw[zB e,b];exact h2
  ·have e':¬ q.1=k:=λz=>e (h1.trans z);have b:valueAt (q::a) k=valueAt a k:=by simp[valueAt,ZO,e']
   rw[zF e,b];exact c
theorem KV.any{AO:O (κ×V)}{vs:O (κ×A0)}(r:KV AO vs)(k:κ):(AO.any λa=>decide (a.1=k))=vs.any λa=>decide (a.1=k):=by
 unfold KV at r
 induction r with
 |nil=>rfl
 |cons h t b=>rw[js,js,b,h.1]
theorem KV.repl{AO:O (κ×V)}{vs:O (κ×A0)}(r:KV AO vs)(k:κ){y:V}(b:As y u):
  KV (AO.map λa=>if a.1=k then(a.1,y)else a) (vs.map λa=>if a.1=k then(a.1,u)else a):=by
 unfold KV at r ⊢
 induction r with
 |nil=>exact .nil
 |@cons p q ps d h t c=>
  rw[zk,zk];refine .cons ?_ c;obtain⟨h1,h2⟩:=h;by_cases e:p.1=k
  ·rw[zr e,zr (h1.symm.trans e)];exact⟨h1,b⟩
  ·rw[zS e,zS (λz=>e (h1.trans z))];exact⟨h1,h2⟩
theorem KV.put{AO:O (κ×V)}{vs:O (κ×A0)}(r:KV AO vs)(k:κ){y:V}(a:As y u):KV (BG AO k y) (stored vs k u):=by
 unfold BG stored;rw[r.any k];by_cases e:(vs.any λb=>decide (b.1=k))=true
 ·rw[zr e,zr e];exact r.repl k a
 ·rw[zS e,zS e];exact Paired.snoc r ⟨rfl,a⟩
theorem KV.length{AO:O (κ×V)}{vs:O (κ×A0)}(r:KV AO vs):AO.length=vs.length:=Paired.length r
end
theorem Eb{k:AY}(r:As (kV k) u):(cG P w).is k u=true:=by
 cases k with
 |inl i=>obtain⟨t,e⟩:=(show ∃t,u=Value.int i t from r);subst e;exact K3 P w i t
 |inr x=>obtain⟨t,e⟩:=(show ∃t,u=Value.str x t from r);subst e;exact K4 P w x t
theorem HN{P:A3}{w:A4}:∀{ks:O AY} {us:O A0},AX (ks.map kV) us->ItemsAre (cG P w) ks us
 |[],_,r=>by rw[JU]at r;cases r;exact .nil
 |k::ks,_,r=>by
  rw[zk]at r;cases r with
  |cons h t=>exact .cons (Eb h) (HN t)
abbrev KT(H:Hp):O (O AY×V)->O (O AY×A1×A0)->Prop:=AI λp q=>p.1=q.1/\H q.2.1=Z (.tup (p.1.map kV))/\As p.2 q.2.2
theorem KT.val{H:Hp}{AO:O (O AY×V)}{xs:O (O AY×A1×A0)}(r:KT H AO xs)(k:O AY):CN (zA AO k) ((atKey xs k).map (·.2)):=by
 induction r with
 |nil=>exact True.intro
 |@cons p q ps a h t c=>
  obtain⟨h1,_,h2⟩:=h;by_cases e:p.1=k
  ·have e':q.1=k:=h1.symm.trans e;have b:atKey (q::a) k=Z q.2:=by simp[atKey,ZO,e']
   rw[zB e,b];exact h2
  ·have e':¬ q.1=k:=λz=>e (h1.trans z);have b:atKey (q::a) k=atKey a k:=by simp[atKey,ZO,e']
   rw[zF e,b];exact c
theorem KT.repl{H:Hp}{AO:O (O AY×V)}{xs:O (O AY×A1×A0)}(r:KT H AO xs)(k:O AY){y:V}(b:As y u):
  KT H (AO.map λa=>if a.1=k then(a.1,y)else a) (xs.map (putAt k u)):=by
 induction r with
 |nil=>exact .nil
 |@cons p q ps f h t c=>
  rw[zk,zk];refine .cons ?_ c;obtain⟨h1,h2,d⟩:=h;unfold putAt;by_cases e:p.1=k
  ·rw[zr e,zr (h1.symm.trans e)];exact⟨h1,h2,b⟩
  ·rw[zS e,zS (λz=>e (h1.trans z))];exact⟨h1,h2,d⟩
theorem KT.put{H:Hp}{AO:O (O AY×V)}{xs:O (O AY×A1×A0)}(r:KT H AO xs)(k:O AY){b:A1}{y:V}(d:H b=Z (.tup (k.map kV)))(a:As y u):
  KT H (BG AO k y) (storedH xs k b u):=by
 have e:(AO.any λc=>decide (c.1=k))=(atKey xs k).isSome:=by
  rw[Lb,(r.val k).Sg,dv]
 unfold BG storedH;rw[e];by_cases q:(atKey xs k).isSome=true
 ·rw[zr q,zr q];exact r.repl k a
 ·rw[zS q,zS q];exact Paired.snoc r ⟨rfl,d,a⟩
theorem KT.keeps{H H':Hp}{AO:O (O AY×V)}{xs:O (O AY×A1×A0)}(r:KT H AO xs)(a:∀b ys,H b=Z (.tup ys)->H' b=Z (.tup ys)):KT H' AO xs:=
 Paired.Yj r λ_ _ z=>⟨z.1,a _ _ z.2.1,z.2.2⟩
section
variable{H:Hp}
theorem HQ{u:HO}(ok:zj P w H h)(e:Rd H a u):gJ P w H h a u:=e.ok ok
theorem uL{AO:O (AY×V)}(ok:zj P w H h)(e:Rd H a (.dK AO)):AO.length<=AA/\(a==sysModules)=false/\∃vs,KV AO vs/\h.DictOf (cG P w) a vs:=
 show gJ P w H h a (.dK AO) from HQ ok e
theorem GM{AO:O (AY×V)}(ok:zj P w H h)(e:H a=Z (.dK AO)):AO.length<=AA/\(a==sysModules)=false/\∃vs,KV AO vs/\h.DictOf (cG P w) a vs:=uL ok (.inl e)
theorem Jt{ks:O AY}(ok:zj P w H h)(e:H a=Z (.tup (ks.map kV))):(tupleKind (cG P w)).is h ks a:=by
 obtain⟨_,AQ,r,o,h1,h2,⟨n,b⟩,_⟩:=(show gJ P w H h a (.tup (ks.map kV)) from ok a _ e);exact⟨o,AQ.toArray,n,h1,h2,b,by simpa using HN r⟩
theorem Ld{AO:O (O AY×V)}(ok:zj P w H h)(e:Rd H a (.dT AO)):AO.length<=AA/\(a==sysModules)=false ∧
  ∃xs,KT H AO xs/\h.DictOfH (tupleKind (cG P w)) a xs:=by
 obtain⟨z,y,xs,r,o,es,ep,h1,h2,g,f,c⟩:=(show gJ P w H h a (.dT AO) from HQ ok e);refine⟨z,y,xs,r,o,es,ep,h1,h2,g,f,λx hx=>?_,c⟩;have all:∀{l:O (O AY×V)} {m:O (O AY×A1×A0)},KT H l m->∀x∈m,(tupleKind (cG P w)).is h x.1 x.2.1:=by
  intro l m q
  induction q with
  |nil=>intro x hx;exact nomatch hx
  |@cons p q ps i b t d=>
   intro x hx;rcases List.mem_cons.mp hx with e|hx
   ·subst e;exact Jt ok (by rw[<-b.1];exact b.2.1)
   ·exact d x hx
 exact all r x hx
theorem Se{AO:O (O AY×V)}(ok:zj P w H h)(e:H a=Z (.dT AO)):AO.length<=AA/\(a==sysModules)=false ∧
  ∃xs,KT H AO xs/\h.DictOfH (tupleKind (cG P w)) a xs:=Ld ok (.inl e)
end
def U9(H:Hp)(a:A1)(y:V)(r:Y V):Prop:=
 (∃AO k,Rd H a (.dK AO)/\y=kV k/\r=zA AO k)\/∃AO k b,Rd H a (.dT AO)/\y=.ref b/\H b=Z (.tup (k.map kV))/\r=zA AO k
def Va(H:Hp)(a:A1)(y v:V)(H':Hp):Prop:=
 (∃AO k,H a=Z (.dK AO)/\y=kV k/\AO.length<AA/\H'=B6 H a (.dK (BG AO k v))) ∨
 ∃AO k b,H a=Z (.dT AO)/\y=.ref b/\H b=Z (.tup (k.map kV))/\AO.length<AA/\H'=B6 H a (.dT (BG AO k v))
theorem Va.k{H:Hp}{a:A1}{AO:O (AY×V)}{k:AY}{v:V}(e:H a=Z (.dK AO))(b:AO.length<AA):Va H a (kV k) v (B6 H a (.dK (BG AO k v))):=.inl ⟨AO,k,e,rfl,b,rfl⟩
section
variable{X:Cx}{σ:St}{H:Hp}{y v:V}{r:A0}{o:Y V}
theorem AU.big(I:AU X AN σ H s):sysModules<s.heap.objs.size:=by
 have h:mainGlobals<s.heap.objs.size:=(I.mod.glob.keeps I.bk).lt;exact bi () h
theorem Sh(t:A.units+1<cLine)(I:AU X AN σ H s)(g:U9 H a y (Z v))(n:As y u)(h:∀c s',AU X AN σ H s'->As v c->Q c s'):
  A7 (eh X) A (getItem (.ref a) u) Q E s:=by
 rcases g with⟨AO,k,e,d,l⟩|⟨AO,k,b,e,d,eb,l⟩
 ·subst d;obtain⟨z,hd,vs,m,f⟩:=uL I.hok e;obtain⟨c,j,i⟩:=CN.some_of (v:=v) (o:=valueAt vs k) (by rw[l];exact m.val k);exact wpAny_getItem_of (Eb n) f.mapOf j (h c _ (I.tok _) i)
 ·subst d;cases(show u=Value.ref b from n);obtain⟨z,hd,xs,m,f⟩:=Ld I.hok e;obtain⟨c,j,i⟩:=CN.some_of (v:=v) (o:=(atKey xs k).map (·.2)) (by rw[l];exact m.val k);obtain⟨p,hp,q⟩:=ar.mp j;refine wpAny_getItem_heap (tupleKind_room_in1 t) (Jt I.hok eb) f hp ?_;rw[q];exact h c _ (I.tok _) i
theorem Ju{h':A6}{t':Nat}{c:HO}(I:AU X AN σ H s)(f:DV (H a))(hs:Heap.SameBut a s.heap h')(d:∃q,h'.get? a=Z q)(new:gJ X.prog X.w (B6 H a c) h' a c):
  AU X AN σ (B6 H a c) { s with heap:=h',toks:=t' }:=
 I.write (x:=a) (e:=a) f (.inl S) (λb q g z=>(hs.2 b g).trans z) d new
theorem Vb{H':Hp}{h':A6}{AO:O (AY×V)}{vs:O (AY×A0)}(z:AO.length<=AA)(hd:(a==sysModules)=false)(c:KV AO vs)(b:h'.DictOf (cG P w) a vs):
  gJ P w H' h' a (.dK AO):=⟨z,hd,vs,c,b⟩
theorem Sq{H':Hp}{Q:Unit->A2->Prop}(K:A.units+1<cLine)(I:AU X AN σ H s)(g:Va H a y v H')(B:As y u)(x:As v r)(h:∀s',AU X AN σ H' s'->Q ej s'):
  A7 (eh X) A (setItem (.ref a) u r) Q E s:=by
 rcases g with⟨AO,k,e,m,l,n⟩|⟨AO,k,b,e,m,eb,l,n⟩
 ·subst m n;obtain⟨z,hd,vs,d,o⟩:=GM I.hok e;have j:vs.length<=AA:=by rw[<-d.length];exact z
  have t:(BG AO k v).length<=AA:=by have:=uK AO k v;omega
  refine wpAny_setItem_pairs (hsz:=j) (Eb B) o λh' f p=>h _ ?_;have F:∃q,h'.get? a=Z q:=let ⟨q,_,_,i,_⟩:=f;⟨q,i⟩;exact Ju I (by rw[e];exact True.intro) p F (Vb t hd (d.put k x) f)
 ·subst m n;cases(show u=Value.ref b from B);obtain⟨z,hd,xs,d,o⟩:=Se I.hok e;have j:xs.length<=AA:=by rw[<-Paired.length d];exact z
  have t:(BG AO k v).length<=AA:=by have:=uK AO k v;omega
  refine wpAny_setItem_heap (hsz:=j) (tupleKind_room_in1 K) (Jt I.hok eb) o λh' f p=>h _ ?_;obtain⟨q,es,ep,i,h2,J,G,_,D⟩:=f;refine Ju I (by rw[e];exact True.intro) p ⟨q,i⟩ ⟨t,hd,_,(d.put k eb x).keeps λc ys C=>?_,q,es,ep,i,h2,J,G,D⟩;rw[aX (uG C e (λz=>nomatch z))];exact C
end
section
variable{X:Cx}{σ:St}{H:Hp}{AO:O (AY×V)}{k:AY}
end
def Vc(i:Expr):Prop:=∀a iv,subscripted i false a iv=operate [a,iv] (getItem a iv)
theorem QC{value b:Expr}{T id:String}(m:typeLookup (.type T) "__getitem__"=pure (Z (.builtin id)))(hs:Vc b)(h:A7 (A8 prog w) A (eval value env) (λo e=>A7 (A8 prog w) A (eval b env) (λi a=>a.TypeIs o T/\A7 (A8 prog w) A (getItem o i) Q E a) E e) E s):
  A7 (A8 prog w) A (eval (.Subscript value b pos) env) Q E s:=by
 refine Subscript_ (ZU h (λo e l=>ZU l (λi a d=>?_) λ_ _ x=>x) λ_ _ x=>x);obtain⟨f,d⟩:=d;unfold subscriptTail;refine zb ?_;rw[getitemInPython_of_ne f.not_modules];refine zb (wpAny_specialOf f m ?_);have c:A7 (A8 prog w) A (subscripted b false o i) (λr g=>A7 (A8 prog w) A (letTemporaryGo value o r >>= λ_=>pure r) Q E g) E a:=by
  rw[hs o i];exact wpAny_operating (ZU d (λr g j=>zb (wpAny_letTemporaryGo (zd j))) λ_ _ x=>x)
 first
  |exact zd (zb c)
  |exact zb (zd (zb c))
  |exact zb c
theorem Le{X:Cx}{σ:St}{H:Hp}{y:V}{o:Y V}(I:AU X AN σ H s)(g:U9 H a y o):s.TypeIs (.ref a) "dict":=by
 rcases g with⟨AO,k,e,_,_⟩|⟨AO,k,b,e,_,_,_⟩
 ·obtain⟨_,_,vs,_,c⟩:=uL I.hok e;exact c.typeIs
 ·obtain⟨_,_,xs,_,c⟩:=Ld I.hok e;exact c.typeIs
def RH(td ty:TE):TE:=λσ H Q=>td σ H λx H1=>ty σ H1 λy H2=>∃a v,x=.ref a/\U9 H2 a y (Z v)/\Q v H2
def Sb(td ty tv:TE):TS:=λD σ H=>tv σ H λv H1=>td σ H1 λx H2=>ty σ H2 λy c=>∃a b,x=.ref a/\Va c a y v b/\D.nx σ b
section
variable{X:Cx}{o i value:Expr}{pos':Pos}{td ty tv:TE}
theorem YS(e:X.A.units+1<cLine)(b:PE X o td)(hi:PE X i ty)(hs:Vc i):PE X (.Subscript o i pos) (RH td ty):=by
 intro AN s σ H Q I h;refine QC PySem.F.slot_dict_getitem.lookup hs (jF (b AN s σ H _ I h) λu s1 ⟨x,H1,I1,rx,q1⟩=>jF (hi AN s1 σ H1 _ I1 q1) λiv s2 ⟨y,H2,I2,ry,a,v,ex,g,q2⟩=>?_);subst ex;obtain rfl:u=Value.ref a:=rx;exact⟨Le I2 g,Sh e I2 g ry λf j c d=>⟨v,H2,c,d,q2⟩⟩
theorem YT(e:X.A.units+1<cLine)(c:PE X o td)(hi:PE X i ty)(d:PE X value tv)(hs:swapsWith value (Z (.Subscript o i pos')) pos.line X.env=pure false):
  PS X (.Assign [.Subscript o i pos'] value pos) (Sb td ty tv):=by
 intro AN s σ H D I h;refine wpAny_Assign_Subscript (jF (d AN s σ H _ I h) λr s1 ⟨v,H1,I1,rv,q1⟩=>jF (c AN s1 σ H1 _ I1 q1) λu s2 ⟨x,H2,I2,rx,q2⟩=>jF (hi AN s2 σ H2 _ I2 q2) λiv s3 ⟨y,H3,I3,ry,a,H4,ex,g,q3⟩=>?_) hs;subst ex;obtain rfl:u=Value.ref a:=rx;exact Sq e I3 g ry rv λf b=>⟨σ,H4,b,q3⟩
end
theorem Lf{H:Hp}(h:A6)(a:sysModules<h.objs.size):gJ P w H (h.push { cls:=.type "dict",data:=.dict #[] }) h.objs.size (.dK []):=
 ⟨Z3 _,beq_eq_false_iff_ne.mpr (k6 (zC a)),[],.nil,Heap.DictOf.new h⟩
def Pf:TE:=λ_ H Q=>∀p,H p=U->Q (.ref p) (B6 H p (.dK []))
section
variable{X:Cx}
theorem Vd:PE X (.Dict [] [] pos) Pf:=λAN s σ H Q I h=>
 wpAny_Dict_empty ⟨.ref s.heap.objs.size,_,I.laid (a:=s.heap.objs.size) (o:=.dK []) (t':=s.toks) (λ_ _ q=>zg _ q) (zo _) (Lf s.heap I.big),rfl,h _ (I.hok.fresh (zo _))⟩
end
def Jv:O (TE×TE)->St->Hp->(O (V×V)->Hp->Prop)->Prop
 |[],_,H,Q=>Q [] H
 |(tk,tv)::r,σ,H,Q=>tk σ H λx H1=>tv σ H1 λy H2=>Jv r σ H2 λps a=>Q ((x,y)::ps) a
abbrev VV:O (V×V)->O (A0×A0)->Prop:=AI λp q=>As p.1 q.1/\As p.2 q.2
def DZ(X:Cx)(pos:Pos)(keys:O (Y Expr))(values:O Expr)(a:O (TE×TE)):Prop:=
 ∀(AN:O (A1×AE)) (s:A2) (σ:St) (H:Hp) (Q:O (V×V)->Hp->Prop),AU X AN σ H s->Jv a σ H Q →
  A7 (eh X) X.A (evalPairs (pairTrees keys values X.env pos)) (λvs s'=>∃ps H',AU X AN σ H' s'/\VV ps vs/\Q ps H') X.xe s
theorem YW{X:Cx}:DZ X pos [] [] []:=λAN s σ H Q I h=>pairTrees_nil_walk ⟨[],H,I,.nil,h⟩
theorem Ve{X:Cx}{k v:Expr}{ks:O (Y Expr)}{vs:O Expr}{tk tv:TE}{a:O (TE×TE)}(hk:PE X k tk)(b:PE X v tv)(c:DZ X pos ks vs a):
  DZ X pos (Z k::ks) (v::vs) ((tk,tv)::a):=λAN s σ H Q I h=>
 pairTrees_cons_walk (jF (hk AN s σ H _ I h) λu s1 ⟨x,H1,I1,rx,q1⟩=>jF (b AN s1 σ H1 _ I1 q1) λw2 s2 ⟨y,H2,I2,ry,q2⟩=>
  jF (c AN s2 σ H2 _ I2 q2) λws s3 ⟨ps,H3,I3,rel,q3⟩=>⟨(x,y)::ps,H3,I3,.cons ⟨rx,ry⟩ rel,q3⟩)
def rY(AO c:O (AY×V)):O (AY×V):=c.foldl (λb a=>BG b a.1 a.2) AO
theorem KV.merge:∀{a:O (AY×V)} {rs:O (AY×A0)} {AO:O (AY×V)} {vs:O (AY×A0)},KV a rs->KV AO vs->KV (rY AO a) (merged vs rs):=by
 intro a rs AO vs r;unfold KV at r
 induction r generalizing AO vs with
 |nil=>intro q;exact q
 |@cons p q ps d h t b=>
  intro c;have e:KV (BG AO p.1 p.2) (stored vs q.1 q.2):=by
   have:=c.put p.1 h.2;rw[<-h.1];exact this
  exact b e
theorem qI:∀(a AO:O (AY×V)),(rY AO a).length<=AO.length+a.length
 |[],AO=>by show AO.length<=AO.length+0;omega
 |p::r,AO=>by
  have h1:=qI r (BG AO p.1 p.2);have h2:=uK AO p.1 p.2;show(rY (BG AO p.1 p.2) r).length<=_;rw[qv];omega
theorem Ed{P:A3}{w:A4}:∀{AO:O (AY×V)} {ws:O (A0×A0)},VV (AO.map λd=>(kV d.1,d.2)) ws->∃rs,Carries (cG P w) ws rs/\KV AO rs
 |[],_,r=>by rw[JU]at r;cases r;exact⟨[],True.intro,.nil⟩
 |p::AO,_,r=>by
  rw[zk]at r;cases r with
  |@cons a b as bs h t=>
   obtain⟨rs,c,q⟩:=Ed (P:=P) (w:=w) t;obtain⟨b1,b2⟩:=b;exact⟨(p.1,b2)::rs,⟨Eb h.1,rfl,c⟩,.cons ⟨rfl,h.2⟩ q⟩
def NI(b:O (TE×TE)):TE:=λσ H Q=>∀p,H p=U->Jv b σ (B6 H p (.dK [])) λps H2=>H2 p=Z (.dK [])/\∃AO:O (AY×V),ps=AO.map (λa=>(kV a.1,a.2))/\AO.length<=15/\Q (.ref p) (B6 H2 p (.dK (rY [] AO)))
theorem YX{X:Cx}{keys:O (Y Expr)}{values:O Expr}{b:O (TE×TE)}(h:DZ X pos keys values b)(m:keys.all (·.isSome)=true)(p:keys.length=values.length)(x:keys≠[])(u:keys.length<=15):PE X (.Dict keys values pos) (NI b):=by
 intro AN s σ H Q I q;have t:=I.hok.fresh (zo s.heap.objs.size);have l:=I.laid (a:=s.heap.objs.size) (o:=.dK []) (h':=s.heap.push { cls:=.type "dict",data:=.dict #[] }) (t':=s.toks) (λ_ _ q=>zg _ q) (zo _) (Lf s.heap I.big);refine wpAny_Dict_walk (knd:=cG X.prog X.w) m p x u (jF (h AN _ σ _ _ l (q _ t)) λws s2 ⟨ps,H2,I2,rel,e,AO,ep,lk,q2⟩=>?_);subst ep;obtain⟨g,c,rk⟩:=Ed (P:=X.prog) (w:=X.w) rel;obtain⟨z,hd,y,i,j⟩:=GM I2.hok e;cases i;refine⟨g,c,j,λh' d n=>⟨.ref s.heap.objs.size,_,?_,rfl,q2⟩⟩;have f:(rY [] AO).length<=AA:=by
  have h1:=qI AO [];rw[bg]at h1;rw[sizeLine_eq];omega
 have v:∃q,h'.get? s.heap.objs.size=Z q:=let ⟨q,_,_,hq,_⟩:=d;⟨q,hq⟩;exact Ju I2 (by rw[e];exact True.intro) n v (Vb f hd (rk.merge .nil) d)
structure M1 (X:Cx) (o:Expr) (m:Str) (apos:Pos) (e:Expr) (cpos:Pos):Prop where
 base:attributeBase o m X.env (eval o X.env)=eval o X.env
 few:((backTo cpos (starEach [e] X.env)).all (λx=>!x.1)&&(backToKw cpos (keywordEach [] X.env)).all (λx=>x.1.isSome)
  && decide (([e]:List Expr).length+([]:List Keyword).length+(if([]:List Keyword).isEmpty then 0 else 1)<30))=true
 line:(apos.endLine==cpos.line)=true
 trees:backTo cpos (starEach [e] X.env)=[(false,eval e X.env)]
structure M2 (X:Cx) (o:Expr) (m:Str) (apos:Pos) (e f:Expr) (cpos:Pos):Prop where
 base:attributeBase o m X.env (eval o X.env)=eval o X.env
 few:((backTo cpos (starEach [e,f] X.env)).all (λx=>!x.1)&&(backToKw cpos (keywordEach [] X.env)).all (λx=>x.1.isSome)
  && decide (([e,f]:List Expr).length+([]:List Keyword).length+(if([]:List Keyword).isEmpty then 0 else 1)<30))=true
 line:(apos.endLine==cpos.line)=true
 trees:backTo cpos (starEach [e,f] X.env)=[(false,eval e X.env),(false,eval f X.env)]
def II(H:Hp)(a:A1):Prop:=(∃AO,Rd H a (.dK AO))\/∃AO,Rd H a (.dT AO)
theorem MG{X:Cx}{σ:St}{H:Hp}(I:AU X AN σ H s)(d:II H a):
  s.TypeIs (.ref a) "dict" ∧ (∀b,Value.ref a=.ref b->∃c,s.heap.get? b=Z c/\c.dict=U)/\(a==sysModules)=false:=by
 rcases d with⟨AO,e⟩|⟨AO,e⟩
 ·obtain⟨_,hd,vs,_,f⟩:=uL I.hok e;refine⟨f.typeIs,λb q=>?_,hd⟩;cases q;obtain⟨c,_,_,h1,h2,_⟩:=f;exact⟨c,h1,h2.2.1⟩
 ·obtain⟨_,hd,xs,_,f⟩:=Ld I.hok e;refine⟨f.typeIs,λb q=>?_,hd⟩;cases q;obtain⟨c,_,_,h1,h2,_⟩:=f;exact⟨c,h1,h2.2.1⟩
section
variable{X:Cx}{σ:St}{H:Hp}{y d:V}{r:A0}{o:Y V}
theorem LA(p:A.units+1<cLine)(I:AU X AN σ H s)(g:U9 H a y o)(n:As y u)(m:As d r)(h:∀j s',AU X AN σ H s'->As (o.getD d) j->Q j s'):
  A7 (eh X) A (call (.builtin "dict.get") [.ref a,u,r]) Q E s:=by
 rcases g with⟨AO,k,e,f,l⟩|⟨AO,k,b,e,f,eb,l⟩
 ·subst f;obtain⟨z,hd,vs,i,c⟩:=uL I.hok e;refine call_meetsIn PySem.F.slot_dict_get c.typeIs PySem.F.entry_dict_get (PySem.F.args_dict_get_3 _ _ _) (meets_dict_get_default (cG X.prog X.w) a (Eb n) hd r) ⟨_,c.mapOf,h _ _ (I.tok _) ?_⟩;rw[l];exact(i.val k).getD m
 ·subst f;cases(show u=Value.ref b from n);obtain⟨z,hd,xs,i,c⟩:=Ld I.hok e;refine call_meetsIn PySem.F.slot_dict_get c.typeIs PySem.F.entry_dict_get (PySem.F.args_dict_get_3 _ _ _) (meetsH_dict_get_default (tupleKind (cG X.prog X.w)) a b hd r) ⟨tupleKind_room_in1 p,k,xs,Jt I.hok eb,c,h _ _ (I.tok _) ?_⟩;rw[l];exact(i.val k).getD m
end
def On(td ty tx:TE):TE:=λσ H Q=>td σ H λx H1=>∃a,x=.ref a/\II H1 a/\ty σ H1 λy H2=>tx σ H2 λz b=>∃o,U9 b a y o/\Q (o.getD z) b
section
variable{X:Cx}{o f:Expr}{td ty tx:TE}
theorem Vf(l:X.A.units+1<cLine)(c:PE X o td)(n:PE X e ty)(j:PE X f tx)(m:M2 X o "get" apos e f cpos):PE X (.Call (.Attribute o "get" apos) [e,f] [] cpos) (On td ty tx):=by
 intro AN s σ H Q I h;refine wpAny_Call_method m.base m.few m.line PySem.F.plainAttrs_dict PySem.F.slot_dict_get PySem.F.type_dict_get (jF (c AN s σ H _ I h) λu s1 ⟨x,H1,I1,rx,a,ex,d,q1⟩=>?_);subst ex;obtain rfl:u=Value.ref a:=rx;obtain⟨t1,t2,_⟩:=MG I1 d;refine⟨t1,t2,?_⟩;rw[m.trees];refine Calls.callWith_builtin S (Calls.evalArgs_plain (Calls.spliced_cons (jF (n AN s1 σ H1 _ I1 q1) λiv s2 ⟨y,H2,I2,ry,q2⟩=>
  Calls.spliced_cons (jF (j AN s2 σ H2 _ I2 q2) λfv s3 ⟨z,H3,I3,rz,ov,g,q3⟩=>Calls.spliced_nil ?_))))
 exact LA l I3 g ry rz λq p b i=>⟨_,H3,b,i,q3⟩
end
section
variable{X:Cx}{σ:St}{H:Hp}{AO:O (AY×V)}
end
section
variable{X:Cx}{σ:St}{H:Hp}{y:V}
end
end L2
namespace Att
open PySem PySem.W PySem.Calls PyProof.Rows
theorem CQ{P:Params}:∀(c:O Int) (vs:O A0),WellAll P h vs (c.map WData.int)->IntsAre vs c:=by
 intro c
 induction c with
 |nil=>
  intro vs w;rw[JU]at w;cases w;exact .nil
 |cons n c d=>
  intro vs w;rw[zk]at w;cases w with
  |cons a b=>
   cases a;exact .cons _ _ (d _ b)
theorem Ss{l:OpenLaw}(hn:l.most=Z n){P:Params}{args:O WData}{i:O A0}(f:l.row.toRowW.claim.pre args=true)(m:WellAll P h i args):
  ∃a vs b,i=[Value.ref a]/\args=[WData.list (b.map WData.int)]/\h.get? a=Z { cls:=.type "list",data:=.seq vs.toArray }/\IntsAre vs b/\b.length<=n:=by
 have t:WShape.hasAll [] args [.list .int]=true:=(pre_splitW f).1;have g:l.pre.holds [] { args:=args }=true:=(pre_splitW f).2;obtain⟨d,r,rfl,h1,h2⟩:=hasAllW_cons t;obtain rfl:=hasAllW_nil h2;obtain⟨xs,rfl,v⟩:=hasW_list h1;obtain⟨b,rfl⟩:=items_int v;have w:b.length<=n:=by
  unfold OpenLaw.pre at g;have e:(WTm.not (.lt (.lit (.int (n:Int))) (.len (.arg 0)))).holds [] { args:=[.list (b.map .int)] }=true:=by
   have e:=(holds_andW g).1;rw[hn]at e;exact e
  have c:=condW_of e (w_not (w_lt w_lit (w_len_list (w_arg S))));rw[zi]at c;refine Nat.le_of_not_lt λq=>?_;have j:(n:Int)<((b.length:Nat):Int):=by omega
  first
   |(rw[ZT j]at c;exact absurd c ())
   |(simp at c;omega)
 cases m with
 |cons o p=>
  cases p;cases o with
  |list s u=>exact⟨_,_,b,rfl,rfl,s,CQ b _ u,w⟩
theorem Sv(l:OpenLaw)(args:O WData):l.row.toRowW.claim.post args (.bool true) args=true:=
 postW_of (r:=l.row.toRowW) (X:=(true==true))
  (show WShape.has [] (.bool true) .bool=true by first|rfl|decide|simp[WShape.has,WShape.arms,WShape.armsAll])
  (show(WTm.eq .res (.lit (.bool true))).value [] { args:=args,res:=Z (.bool true),after:=args }=Z (.bool (true==true)) from w_eq_bool (w_res S) w_lit) rfl
theorem Lg{l:OpenLaw}{q:A3}{loose:AZ}{d:DefRec}(hn:l.most=Z n)(m:d.params.defaults=[])(call:∀(w:A4) (h b:A2) (mg i:AJ->Option A0) (fa:A1) (o:AE) (pm c g:A0) (a:A1) (vs:O A0) (e:O Int),
   Ground q loose [] XP w h mg i b.heap->YP w b.heap →
   b.heap.get? fa=Z o->o.data=.func (docDef d.name d.params d.body d.scope pm c g)->b.heap.CodeRec c d.name->mg d.name=Z (.ref fa) →
   b.heap.get? a=Z { cls:=.type "list",data:=.seq vs.toArray }->IntsAre vs e->e.length<=n->b.gens=#[] →
   AF (A8 l.prog w) callerA (.call (.ref fa) ⟨[.ref a],[]⟩) (λr s'=>r=.ok (.ret (.bool true))/\OldK b.heap s'.heap/\s'.os=b.os/\AllBare s'.gens) b):
  WalkO q loose XP YP l.row.toRowW d [] (λf vs=>PySem.call f vs):=by
 intro w h b mg i G Y fa o pm c g y kV x hd E j t A I J as p L K B H;obtain rfl:y=.none:=Dflts.none j m;obtain rfl:kV=.none:=Dflts.noKw j;obtain⟨a,vs,e,rfl,rfl,u,v,F⟩:=Ss hn p B;refine enter_call (codeAny_mono (call w h b mg i fa o pm c g a vs e G Y x (fd_plain hd) E t u v F A) λr s' C=>?_);obtain⟨rfl,h2,z,D⟩:=C;exact⟨.inl ⟨.bool true,.bool true,[],rfl,λ_=>S,.bool true,Sv l _,λ_=>⟨List.Pairwise.nil,λ_ s=>(nomatch s)⟩⟩,h2,z,D⟩
section
variable{K:Frag}
end
end Att
namespace L2
theorem wQ:∀{vs:O A0} {a:O Int},IntsAre vs a->AX (a.map V.int) vs
 |_,_,.nil=>.nil
 |_,_,.cons n t h=>.cons ⟨t,rfl⟩ (wQ h)
def CL(H:Hp):Prop:=∀b,H b=U\/(∃o xs,H b=Z (.uD o (.lst xs)))\/∃ps,H b=Z (.Ji ps)
structure Vg (K:B5) (h:Heap) (TL:List (Addr×Array Value)):Prop where
 all:∀P q,Fk K P q->∃ps,TL.lookup P=some ps/\tq ps=q/\0<ps.size
 ok:∀P ps,TL.lookup P=some ps->K.lookup P=none/\h.get? P=some { cls:=.none,data:=.fields #[] }/\isCodeTable h P/\tr ps=#[]
theorem Vh{G:AJ->Y A0}{CX:Uk}{k:Nat}{fa:A1}{sp:Sp}{c:A2}{vs:O A0}{A:O Int}{f:O (A1×Array A0)}(J:K.In c.heap)(N:c.heap.Ns mainGlobals mg)(i:c.heap.Ns builtinsNs G)(a6:∀x:AJ,x ≠ "__name__" → G x=AH x)(a2:c.heap.NoLimit)(a8:∃j p,mg "__builtins__"=Z (.ref j)/\j≠builtinsNs/\c.heap.get? j=Z p/\p.cls=.type "module" ∧ p.dict=Z builtinsNs/\p.data=.plain)(hg:c.gens=#[])(t:c.heap.get? a=Z { cls:=.type "list",data:=.seq vs.toArray })(hi:IntsAre vs A)(Q:A.length<=AA)(hr:kj k callerA)(F:∀base:A6,K.In base->base.Ns mainGlobals mg->uJ P w K mg base CX k fa fd [x] sp)(a3:∀(s:A2) (u:A0),BindsTo s fd ⟨[u],[]⟩ [(x,u)])(a5:∀H:Hp,CL H->qQ K H a (A.map V.int)->sp [.ref a] H (λv _=>v=.bl true) λ_ _ _=>False)(b7:∀H e s',CX [] H c (λ_ _ _=>False) e s'->False)(T:Vg K c.heap f):
  AF (A8 P w) callerA (.call (.ref fa) ⟨[.ref a],[]⟩) (λr s'=>r=.ok (.ret (.bool true))/\OldK c.heap s'.heap/\s'.os=c.os/\AllBare s'.gens) c:=by
 have M:=wQ hi;have a4:=hi.length;have nt:f.lookup a=U:=by
  cases e:f.lookup a with
  |none=>rfl
  |some ps=>
   have q:=(T.ok a ps e).2.1;rw[t]at q;cases q
 have tok:∀(H:Hp) (b:A1) (ps:Array A0),f.lookup b=Z ps->gJ P w H c.heap b (.Ji ps):=λH b ps e=>by
  obtain⟨_,g,_,z⟩:=T.ok b ps e;refine⟨#[],by rw[z];exact g,?_,λpos cv q=>?_⟩
  ·rw[z];simp[TriplesOk]
  ·rw[z]at q;cases q
 have L:∀H:Hp,CL H->qQ K H a (A.map V.int)->zj P w H c.heap->(∀b,H b≠U->b=a\/∃ps,f.lookup b=Z ps)->(∀b ps,f.lookup b=Z ps->H b=Z (.Ji ps))->(H a≠U->K.lookup a=U) →
   AF (A8 P w) callerA (.call (.ref fa) ⟨[.ref a],[]⟩) (λr s'=>r=.ok (.ret (.bool true))/\OldK c.heap s'.heap/\s'.os=c.os/\AllBare s'.gens) c:=by
  intro H X hS D B a9 hK;have E:∀{b:A1} {o:AE},c.heap.get? b=Z o->H b=U->(Jj c.heap H).get? b=Z o:=λe n=>Ut e n;have Yx:∀{b:A1} {o:AE} {es:Array DictEntry} {ep:Nat},c.heap.get? b=Z o->o.data=.dict es ep->H b=U:=λ{b o es ep} e d=>by
   cases q:H b with
   |none=>rfl
   |some u=>
    rcases B b (by rw[q];simp)with e'|⟨ps,e'⟩
    ·subst e';rw[t]at e;cases e;have d':Data.seq vs.toArray _=Data.dict es ep:=d;cases d'
    ·rw[(T.ok b ps e').2.1]at e;cases e;cases d
  have C:∀{b:A1} {m:AJ->Y A0},c.heap.Ns b m->(Jj c.heap H).Ns b m:=λ{b m} ⟨o,es,ep,e,d,r⟩=>⟨o,es,ep,E e (Yx e d),d,r⟩;have a1:K.In (Jj c.heap H):=λb o e=>E (J b o e) (by
   cases q:H b with
   |none=>rfl
   |some u=>
    rcases B b (by rw[q];simp)with e'|⟨ps,e'⟩
    ·subst e';rw[hK (by rw[q];simp)]at e;cases e
    ·rw[(T.ok b ps e').1]at e;cases e)
  have hM:Mod K mg (Jj c.heap H):=⟨a1,C N,⟨G,C i,a6⟩,let ⟨mc,h1,h2⟩:=a2;⟨mc,C h1,h2⟩,let ⟨j,p,b1,b2,b3,b4,b5,b6⟩:=a8;⟨j,p,b1,b2,E b3 (by
   cases q:H j with
   |none=>rfl
   |some u=>
    rcases B j (by rw[q];simp)with e'|⟨ps,e'⟩
    ·subst e';rw[t]at b3;cases b3;injection b4 with z;exact absurd z ()
    ·rw[(T.ok j ps e').2.1]at b3;cases b3;cases b4),b4,b5,b6⟩⟩
  have e0:Yv P w K mg (Jj c.heap H) callerA [] c H:=⟨rfl,hM,λb o e=>Yk e,Nat.le_of_eq (RZ _ _),trivial,λb i=>absurd (show b∈([]:O A1) from i) (by simp),D,.of_eq hg,λP q k=>by
   obtain⟨ps,l,r⟩:=T.all P q k;exact⟨ps,a9 P ps l,r⟩⟩
  refine codeAny_mono ((F _ a1 (C N)).run callerA [] c H ⟨[.ref a],[]⟩ [.ref a] [.ref a] _ _ hr e0 (a3 c (.ref a)) (.cons S .nil) (a5 H X hS)) λr s' h=>?_;cases r with
  |error e=>exact(b7 H e s' h).elim
  |ok fl=>
   cases fl with
   |next=>exact False.elim h
   |brk=>exact False.elim h
   |cont=>exact False.elim h
   |ret u=>
    obtain⟨v,H',os,b0,un,I,r',q⟩:=h;have q':v=.bl true:=q;subst q';obtain rfl:u=Value.bool true:=r';have a0:∀b o,c.heap.get? b=Z o->s'.heap.get? b=Z o\/(isCodeTable c.heap b/\o.cls=.none/\∃vs W,o.data=.fields vs/\s'.heap.get? b=Z { o with data:=.fields (vs++W) }):=λb o e=>by
     cases q:H b with
     |none=>exact .inl (un.keep b o e q (by intro z;exact absurd (show b∈([]:O A1) from z) (by simp)) (by simp))
     |some u=>
      rcases X b with z|⟨p,xs,z⟩|⟨ps,z⟩
      ·rw[q]at z;cases z
      ·have z2:=un.GK b p _ z;obtain⟨e1,_⟩:=D b _ z;obtain⟨e2,_⟩:=I b _ z2;rw[e]at e1;cases e1;exact .inl e2
      ·rcases B b (by rw[q];simp)with e'|⟨a7,e'⟩
       ·subst e';obtain⟨W,g,_⟩:=D b _ z;rw[t]at g;cases g
       ·obtain⟨_,g,ct,_⟩:=T.ok b a7 e';rw[e]at g;cases g;obtain⟨m1,z2⟩:=un.zp b ps z;obtain⟨m2,g2,_⟩:=I b _ z2;exact .inr ⟨ct,rfl,#[],_,rfl,by rw[g2,Array.empty_append]⟩
    refine⟨rfl,⟨λb o e=>(a0 b o e).imp id .inl,λb o e=>?_⟩,os,b0⟩;rcases a0 b o e with z|⟨_,_,_,_,_,z⟩<;>exact⟨_,z⟩
 cases hk:K.lookup a with
 |some o=>
  have e:=J a o hk;rw[t]at e;cases e;refine L (λb=>(f.lookup b).map .Ji) (λb=>?_) (.inr ⟨_,vs.toArray,_,hk,rfl,rfl,rfl,by rw[zl,a4];exact Q,by simpa using M⟩) (λb u z=>?_) (λb z=>?_) (λb ps e=>by show(f.lookup b).map _=_;rw[e];rfl) λz=>absurd (by show(f.lookup a).map _=U;rw[nt];rfl) z
  ·cases e:f.lookup b with
   |none=>exact .inl (by show(f.lookup b).map HO.Ji=U;rw[e];rfl)
   |some ps=>exact .inr (.inr ⟨ps,by show(f.lookup b).map HO.Ji=_;rw[e];rfl⟩)
  ·have z:(f.lookup b).map HO.Ji=Z u:=z;cases e:f.lookup b with
   |none=>rw[e]at z;cases z
   |some ps=>rw[e]at z;cases z;exact tok _ b ps e
  ·cases e:f.lookup b with
   |none=>exact absurd (by show(f.lookup b).map HO.Ji=U;rw[e];rfl) z
   |some ps=>exact .inr ⟨ps,rfl⟩
 |none=>
  refine L (λb=>if b=a then Z (.uD { cls:=.type "list",data:=.seq vs.toArray } (.lst (A.map V.int)))else(f.lookup b).map .Ji) (λb=>?_) (.inl (.inr ⟨{ cls:=.type "list",data:=.seq vs.toArray },zr rfl⟩)) (λb u z=>?_) (λb z=>?_) (λb ps e=>?_) λ_=>hk
  ·by_cases i:b=a
   ·exact .inr (.inl ⟨_,_,zr i⟩)
   ·cases e:f.lookup b with
    |none=>exact .inl ((zS i).trans (by rw[e];rfl))
    |some ps=>exact .inr (.inr ⟨ps,(zS i).trans (by rw[e];rfl)⟩)
  ·by_cases i:b=a
   ·have y:=(zr i).symm.trans z;cases y;subst i;exact⟨t,by rw[zi];exact Q,vs,_,M,t⟩
   ·have y:=(zS i).symm.trans z;cases e:f.lookup b with
    |none=>rw[e]at y;cases y
    |some ps=>rw[e]at y;cases y;exact tok _ b ps e
  ·by_cases i:b=a
   ·exact .inl i
   ·cases e:f.lookup b with
    |none=>exact absurd ((zS i).trans (by rw[e];rfl)) z
    |some ps=>exact .inr ⟨ps,rfl⟩
  ·have i:b≠a:=λz=>by rw[z,nt]at e;cases e
   exact(zS i).trans (by rw[e];rfl)
end L2
namespace L2
theorem YZ{l:PySem.W.OpenLaw}{k:Nat}{q:A3}{loose:AZ}{d:DefRec}{K:Params->B5}{CX:A4->Uk}{sp:A4->Sp}(hn:l.most=Z n)(t:n<=AA)(z:d.params.defaults=[])(D:kj k callerA)(C:∀(w:A4) (h:A6),YP w h->(K w.params).In h)(F:∀(w:A4) (mg:AJ->Option A0) (fa:A1) (h:A6),(K w.params).In h->h.Ns mainGlobals mg->mg d.name=Z (.ref fa) →
   ∃fd:FuncData,(∀(s:A2) (u:A0),BindsTo s fd ⟨[u],[]⟩ [(x,u)]) ∧
    ∀base:A6,(K w.params).In base->base.Ns mainGlobals mg->uJ l.prog w (K w.params) mg base (CX w) k fa fd [x] (sp w))(B:∀(w:A4) (H:Hp) (a:A1) (c:O Int),c.length<=n->CL H->qQ (K w.params) H a (c.map V.int)->sp w [.ref a] H (λv _=>v=.bl true) λ_ _ _=>False)(X:∀(w:A4) (H:Hp) (s:A2) (e:A0) (s':A2),CX w [] H s (λ_ _ _=>False) e s'->False)(L:∀(w:A4) (h:A6) (mg m:AJ->Option A0) (M:ExcName->Option A0) (y:AZ),(K w.params).In h->Top q y M mg m h->∃j,Vg (K w.params) h j):
  PySem.W.WalkO q loose XP YP l.row.toRowW d [] (λf vs=>PySem.call f vs):=by
 refine Att.Lg hn z λw a1 I mg m fa o pm cd a0 a vs c G Y ho hd a2 E J N p Q=>?_;have i:=C w _ Y;obtain⟨fd,hb,A⟩:=F w mg fa _ i G.T.g E;obtain⟨j,tl⟩:=L w _ _ _ _ _ i G.T;exact Vh i G.T.g G.T.b G.T.builtins G.T.nolimit G.T.bmain Q J N (zD p t) D A hb (λH P hS=>B w H a c p P hS) (λH e s'=>X w H I e s') tl
theorem Vi{l:PySem.W.OpenLaw}{k:Nat}{q:A3}{loose:AZ}{d:DefRec}{K:Params->B5}{CX:Uk}{sp:B5->Sp}(hn:l.most=Z n)(c:n<=AA)(m:d.params.defaults=[])(o:kj k callerA)(j:∀(w:A4) (h:A6),YP w h->(K w.params).In h)(F:∀(w:A4) (mg:AJ->Y A0) (fa:A1) (h:A6),(K w.params).In h->h.Ns mainGlobals mg->mg d.name=Z (.ref fa) →
   ∃fd:FuncData,(∀(s:A2) (u:A0),BindsTo s fd ⟨[u],[]⟩ [(x,u)]) ∧
    ∀base:A6,(K w.params).In base->base.Ns mainGlobals mg->uJ l.prog w (K w.params) mg base CX k fa fd [x] (sp (K w.params)))(y:∀(K:B5) (H:Hp) (a:A1) (b:O Int),b.length<=n->CL H->qQ K H a (b.map V.int)->sp K [.ref a] H (λv _=>v=.bl true) λ_ _ _=>False)(g:∀(H:Hp) (s:A2) (e:A0) (s':A2),CX [] H s (λ_ _ _=>False) e s'->False)(A:∀(w:A4) (h:A6) (mg z:AJ->Y A0) (B:ExcName->Y A0) (i:AZ),(K w.params).In h->Top q i B mg z h->∃p,Vg (K w.params) h p):
  PySem.W.WalkO q loose XP YP l.row.toRowW d [] (λf vs=>PySem.call f vs):=
 YZ (K:=K) (CX:=λ_=>CX) (sp:=λw=>sp (K w.params)) hn c m o j F (λw H a b h1 h2 t=>y (K w.params) H a b h1 h2 t) (λ_ H s e s'=>g H s e s') A
end L2
namespace L2
def rZ(s:AB):Arguments:=match s with
 |.FunctionDef _ a _ _ _ _ _ _ _ _=>a
 |_=>{ posonlyargs:=[],args:=[],vararg:=U,kwonlyargs:=[],kw_defaults:=[],kwarg:=U,defaults:=[] }
def jq(s:AB):O AB:=match s with
 |.FunctionDef _ _ b _ _ _ _ _ _ _=>b
 |_=>[]
def aJ(s:AB):Scope:=match s with
 |.FunctionDef _ _ _ _ _ _ a _ _ _=>a
 |_=>{ kind:=.function,names:=[],isGenerator:=false,isCoroutine:=false }
abbrev Jx:Uk:=λ_ _ _ _ _ _=>False
abbrev E0:XK:=λ_ _ _=>False
theorem Hk{X:Cx}:C5 Jx X E0:=λ_ _ _ _ _ _ _ h=>h.elim
structure Yc (K:B5) (x qual:Str) (st:Stmt) (f:Addr) (fd:FuncData):Prop where
 ex:∃(oc:Value) (od:Option Addr) (kV doc pm:Value) (an:Option Addr) (cdv ct:Value) (osl:Array (Option Value)),
  fd=fnOf x qual (rZ st) (jq st) (aJ st) .none kV doc pm an cdv ct/\K.lookup f=some ⟨oc,od,.func fd,osl⟩/\codeIn K cdv qual=true
 kp:keepIn K (.ref f)=true
theorem Yc.ok{f:A1}{k:Nat}{sp:Sp}(F:Yc K x qual st f fd)(S:bC N ps (aJ st))(len:∀vs H Q E,sp vs H Q E->vs.length=ps.length)(e:∀(a:A0) (A:A5) (outer:O Env) (s:A2) (H:Hp) (vs:O V) (Q:VK) (E:XK),kj k (A.deeper (AK qual (aJ st) s.heap.objs.size f a))->sp vs H Q E →
   ∃t,Og (DY Jx P w K mg base N qual (aJ st) f a A outer s H E).Yb (jq st) t/\t { nx:=λ_ H'=>Q .non H',rt:=Q } (start N vs) H):uJ P w K mg base Jx (k+1) f fd ps sp:=by
 obtain⟨l,i,kV,m,pm,j,a,ct,osl,rfl,c,d⟩:=F.ex;refine Hc c d S len λA outer s H vs Q E b g=>?_;obtain⟨t,h,q⟩:=e a A outer s H vs Q E b g;exact⟨t,h.Yb,q⟩
theorem Yc.binds{f:A1}(F:Yc K x qual st f fd)(h:∀(kV c pm:A0) (a:Y A1) (b ct:A0) (us:O A0),us.length=ps.length->bindArgs (fnOf x qual (rZ st) (jq st) (aJ st) .none kV c pm a b ct) ⟨us,[]⟩=pure (ps.zip us)):BM K fd ps []:=by
 obtain⟨e,d,kV,c,pm,a,b,ct,osl,rfl,g,i⟩:=F.ex;exact .all (h kV c pm a b ct)
theorem Vj{f:A1}{g:A0}{e b:Y A1}{kV d a ct:A0}(l:K.lookup f=Z ⟨g,e,.func (fnOf x qual (rZ st) (jq st) (aJ st) .none kV d pm b a ct),osl⟩)(c:codeIn K a qual=true)(k:keepIn K (.ref f)=true):Yc K x qual st f (fnOf x qual (rZ st) (jq st) (aJ st) .none kV d pm b a ct):=⟨⟨g,e,kV,d,pm,b,a,ct,osl,rfl,l,c⟩,k⟩
section
variable{X:Cx}
theorem pv(i:Nat)(c:X.N[i]?=Z x:=by rfl)(a:Qv X.env.scope x:=by first|exact QQ rfl|exact qh (QQ S)|exact qh (qh S))(hd:eg x:=by decide)(b:(x==("__classdict__":AJ))=false:=by decide):PE X (.Name x pos) (IH i):=yF c a hd b
end
def AV(H H':Hp):Prop:=∀b o,H b=Z o->H' b=Z o
theorem AV.refl(H:Hp):AV H H:=λ_ _ h=>h
theorem AV.trans{H H1 H2:Hp}(a:AV H H1)(b:AV H1 H2):AV H H2:=λc o h=>b c o (a c o h)
theorem AV.free{H H':Hp}(e:AV H H')(h:H' l=Option.none):H l=Option.none:=by
 cases q:H l with
 |none=>rfl
 |some o=>
  rw[e l o q]at h;cases h
theorem AV.seq{H H':Hp}{xs:O V}(e:AV H H')(h:qQ K H a xs):qQ K H' a xs:=by
 rcases h with (h|⟨o,h⟩)|h
 ·exact .inl (.inl (e _ _ h))
 ·exact .inl (.inr ⟨o,e _ _ h⟩)
 ·exact .inr h
end L2
variable{t:L2.TA}{xs:O L2.V}{H:L2.Hp}{o:L2.HO}{X:L2.Cx}{σ:L2.St}{v:L2.V}{ta:L2.TE}{y:L2.V}{te:L2.TE}{J:L2.It}{vs:O L2.V}{sp:L2.Sp}{ks:O (L2.AY×L2.V)}{H0 Hs:L2.Hp}{dO:O (O L2.AY)}
namespace P1
open L2
inductive Dt where
 |non|bl (b:Bool)|int (i:Int)|str (x:Str)|tup (xs:List Dt)|lst (xs:List Dt)|emp
inductive Bx where
 |z (d:Dt)|l (ds:List Dt)|o (ds:List Dt)|n (AO:List (AY×Dt))|m (AO:List (AY×Dt)) (w:Option Addr)
abbrev Ev:=O (Y Bx)
def E6(K:B5)(H:Hp)(a:A1)(xs:O V):Prop:=
 (∃o,H a=Z (.uD o (.lst xs))) ∨
  ∃(o:AE) (AQ:Array A0) (n:Nat),K.lookup a=Z o/\o.cls=.type "list" ∧ o.dict=U/\o.data=.seq AQ n/\AQ.size<=AA/\AX xs AQ.toList
theorem E6.sq(h:E6 K H a xs):qQ K H a xs:=by
 rcases h with h|h
 ·exact .inl (.inr h)
 ·exact .inr h
mutual
def AW(K:B5)(H:Hp):Dt->V->Prop
 |.non,v=>v=.non
 |.bl b,v=>v=.bl b
 |.int i,v=>v=.int i
 |.str x,v=>v=.str x/\x.length<=AA
 |.tup ds,v=>∃a vs,v=.ref a/\zm K H a vs/\aH K H ds vs
 |.lst ds,v=>∃a vs,v=.ref a/\E6 K H a vs/\aH K H ds vs
 |.emp,v=>∃a o,v=.ref a/\H a=Z (.uD o (.dK []))
def aH(K:B5)(H:Hp):O Dt->O V->Prop
 |[],vs=>vs=[]
 |d::ds,vs=>∃v r,vs=v::r/\AW K H d v/\aH K H ds r
end
structure Kp (H H':Hp):Prop where
 t:∀a xs,H a=some (.tup xs)->H' a=some (.tup xs)
 f:∀a o u,H a=some (.uD o u)->H' a=some (.uD o u)
theorem Kp.of{H':Hp}(s:AV H H'):Kp H H':=⟨λa _ h=>s a _ h,λa _ _ h=>s a _ h⟩
theorem Kp.sqT{H':Hp}(k:Kp H H')(h:zm K H a xs):zm K H' a xs:=by
 rcases h with (h|⟨o,h⟩)|h
 ·exact .inl (.inl (k.t _ _ h))
 ·exact .inl (.inr ⟨o,k.f _ _ _ h⟩)
 ·exact .inr h
theorem Kp.fzL{H':Hp}(k:Kp H H')(h:E6 K H a xs):E6 K H' a xs:=by
 rcases h with⟨o,h⟩|h
 ·exact .inl ⟨o,k.f _ _ _ h⟩
 ·exact .inr h
theorem Kp.lst(h:H a=Z (.lst xs)):Kp H (B6 H a o):=by
 refine⟨λb ys e=>?_,λb c u e=>?_⟩
 ·rw[aX (uG e h (by intro z;cases z))];exact e
 ·rw[aX (uG e h (by intro z;cases z))];exact e
theorem Kp.dk{xs:O (AY×V)}(h:H a=Z (.dK xs)):Kp H (B6 H a o):=by
 refine⟨λb ys e=>?_,λb c u e=>?_⟩
 ·rw[aX (uG e h (by intro z;cases z))];exact e
 ·rw[aX (uG e h (by intro z;cases z))];exact e
mutual
theorem AW.kp{K:B5}{H H':Hp}(k:Kp H H'):∀{d:Dt} {v:V},AW K H d v->AW K H' d v
 |.non,_,h=>by simpa only[AW]using h
 |.bl _,_,h=>by simpa only[AW]using h
 |.int _,_,h=>by simpa only[AW]using h
 |.str _,_,h=>by simpa only[AW]using h
 |.tup ds,_,h=>by
  simp only[AW]at h ⊢;obtain⟨a,vs,e,q,r⟩:=h;exact⟨a,vs,e,k.sqT q,aH.kp k r⟩
 |.lst ds,_,h=>by
  simp only[AW]at h ⊢;obtain⟨a,vs,e,q,r⟩:=h;exact⟨a,vs,e,k.fzL q,aH.kp k r⟩
 |.emp,_,h=>by
  simp only[AW]at h ⊢;obtain⟨a,o,e,q⟩:=h;exact⟨a,o,e,k.f _ _ _ q⟩
theorem aH.kp{K:B5}{H H':Hp}(k:Kp H H'):∀{ds:O Dt} {vs:O V},aH K H ds vs->aH K H' ds vs
 |[],_,h=>by simpa only[aH]using h
 |d::ds,_,h=>by
  simp only[aH]at h ⊢;obtain⟨v,r,e,q,t⟩:=h;exact⟨v,r,e,AW.kp k q,aH.kp k t⟩
end
theorem aH.length{K:B5}{H:Hp}:∀{ds:O Dt} {vs:O V},aH K H ds vs->vs.length=ds.length
 |[],_,h=>by simp only[aH]at h;subst h;rfl
 |d::ds,_,h=>by
  simp only[aH]at h;obtain⟨v,r,rfl,_,t⟩:=h;simp[aH.length t]
theorem aH.nil:aH K H [] []:=by simp only[aH]
theorem aH.cons{K:B5}{H:Hp}{d:Dt}{v:V}{ds:O Dt}{vs:O V}(h:AW K H d v)(t:aH K H ds vs):aH K H (d::ds) (v::vs):=by
 simp only[aH];exact⟨v,vs,rfl,h,t⟩
theorem aH.append{K:B5}{H:Hp}:∀{ds es:O Dt} {vs us:O V},aH K H ds vs->aH K H es us->aH K H (ds++es) (vs++us)
 |[],_,_,_,h,t=>by simp only[aH]at h;subst h;exact t
 |d::ds,_,_,_,h,t=>by
  simp only[aH]at h;obtain⟨v,r,rfl,q,h⟩:=h;exact aH.cons q (aH.append h t)
theorem aH.drop{K:B5}{H:Hp}:∀(n:Nat) {ds:O Dt} {vs:O V},aH K H ds vs->aH K H (ds.drop n) (vs.drop n)
 |0,_,_,h=>h
 |n+1,[],_,h=>by simp only[aH]at h;subst h;exact aH.nil
 |n+1,d::ds,_,h=>by
  simp only[aH]at h;obtain⟨v,r,rfl,q,h⟩:=h;exact aH.drop n h
theorem aH.take{K:B5}{H:Hp}:∀(n:Nat) {ds:O Dt} {vs:O V},aH K H ds vs->aH K H (ds.take n) (vs.take n)
 |0,_,_,_=>aH.nil
 |n+1,[],_,h=>by simp only[aH]at h;subst h;exact aH.nil
 |n+1,d::ds,_,h=>by
  simp only[aH]at h;obtain⟨v,r,rfl,q,h⟩:=h;exact aH.cons q (aH.take n h)
theorem aH.get{K:B5}{H:Hp}:∀{ds:O Dt} {vs:O V} {i:Nat} {d:Dt},aH K H ds vs->ds[i]?=Z d->∃v,vs[i]?=Z v/\AW K H d v
 |[],_,_,_,_,e=>by simp at e
 |d::ds,_,0,_,h,e=>by
  simp only[aH]at h;obtain⟨v,r,rfl,q,h⟩:=h;simp at e;subst e;exact⟨v,rfl,q⟩
 |d::ds,_,i+1,_,h,e=>by
  simp only[aH]at h;obtain⟨v,r,rfl,q,h⟩:=h;obtain⟨u,e1,e2⟩:=aH.get h (i:=i) (by simpa using e);exact⟨u,by simpa using e1,e2⟩
def DE:AY->Prop
 |.inl _=>True
 |.inr x=>x.length<=AA
def fL(K:B5)(H:Hp)(AO:O (AY×Dt))(ks:O (AY×V)):Prop:=ks.map (·.1)=AO.map (·.1)/\aH K H (AO.map (·.2)) (ks.map (·.2))/\∀p∈AO,DE p.1
theorem fL.kp{K:B5}{H H':Hp}{AO:O (AY×Dt)}{ks:O (AY×V)}(h:fL K H AO ks)(k:Kp H H'):fL K H' AO ks:=⟨h.1,h.2.1.kp k,h.2.2⟩
def aU(K:B5)(H:Hp):Bx->V->Prop
 |.z d,v=>AW K H d v
 |.l ds,v=>∃a vs,v=.ref a/\Rd H a (.lst vs)/\aH K H ds vs
 |.o ds,v=>∃a vs,v=.ref a/\H a=Z (.lst vs)/\aH K H ds vs
 |.n AO,v=>∃a ks,v=.ref a/\Rd H a (.dK ks)/\fL K H AO ks
 |.m AO w,v=>∃a ks,v=.ref a/\H a=Z (.dK ks)/\fL K H AO ks/\∀b,w=Z b->b=a
theorem aU.same{H':Hp}(s:AV H H'){b:Bx}(h:aU K H b v):aU K H' b v:=by
 cases b with
 |z d=>exact AW.kp (.of s) h
 |l ds=>
  obtain⟨a,vs,e,q,r⟩:=h;refine⟨a,vs,e,?_,r.kp (.of s)⟩;rcases q with q|⟨o,q⟩
  ·exact .inl (s _ _ q)
  ·exact .inr ⟨o,s _ _ q⟩
 |o ds=>
  obtain⟨a,vs,e,q,r⟩:=h;exact⟨a,vs,e,s _ _ q,r.kp (.of s)⟩
 |n AO=>
  obtain⟨a,vs,e,q,r⟩:=h;refine⟨a,vs,e,?_,r.kp (.of s)⟩;rcases q with q|⟨o,q⟩
  ·exact .inl (s _ _ q)
  ·exact .inr ⟨o,s _ _ q⟩
 |m AO _=>
  obtain⟨a,vs,e,q,r⟩:=h;exact⟨a,vs,e,s _ _ q,r.1.kp (.of s),r.2⟩
def nO:Bx->Y (O Dt)
 |.z (.lst ds)=>Z ds
 |.l ds=>Z ds
 |.o ds=>Z ds
 |_=>U
theorem aU.CT{b:Bx}{ds:O Dt}(h:aU K H b v)(e:nO b=Z ds):∃a vs,v=.ref a/\qQ K H a vs/\aH K H ds vs:=by
 cases b with
 |z d=>
  cases d<;>first|(cases e;done)|skip;cases e;simp only[aU,AW]at h;obtain⟨a,vs,e,q,r⟩:=h;exact⟨a,vs,e,q.sq,r⟩
 |l c=>
  cases e;obtain⟨a,vs,e,q,r⟩:=h;exact⟨a,vs,e,.inl q,r⟩
 |o c=>
  cases e;obtain⟨a,vs,e,q,r⟩:=h;exact⟨a,vs,e,.inl (.inl q),r⟩
 |n _=>cases e
 |m _ _=>cases e
abbrev xU(K:B5)(H:Hp):O Bx->O V->Prop:=AI (aU K H)
def Nw(H:Hp):Bx->V->Prop
 |.o _,v=>∀a,v=.ref a->H a=U
 |.m _ _,v=>∀a,v=.ref a->H a=U
 |_,_=>True
theorem Nw.old{H1:Hp}(s:AV H H1){b:Bx}(h:Nw H1 b v):Nw H b v:=by
 cases b with
 |o ds=>exact λa e=>s.free (h a e)
 |m ds _=>exact λa e=>s.free (h a e)
 |_=>trivial
def loose:Bx->Bool
 |.z _=>false
 |_=>true
def zG:Bx->Bool
 |.o _=>true
 |.m _ _=>true
 |_=>false
structure bD (K:B5) (H0 H:Hp) (σ:L2.St) (ρ:Ev):Prop where
 len:σ.length=ρ.length
 val:∀(i:Nat) b,ρ[i]?=some (some b)->∃v,σ[i]?=some (some v)/\aU K H b v
 own:∀(i j:Nat) c a b,ρ[i]?=some (some c)->zG c=true->σ[i]?=some (some (.ref a))->ρ[j]?=some (some b)->loose b=true->σ[j]?=some (some (.ref a))->i=j
 base:AV H0 H
 new:∀(i:Nat) c a,ρ[i]?=some (some c)->zG c=true->σ[i]?=some (some (.ref a))->H0 a=none
theorem bD.grow{H':Hp}{ρ:Ev}(r:bD K H0 H σ ρ)(s:AV H H'):bD K H0 H' σ ρ:=
 ⟨r.len,λi b e=>let ⟨v,e1,h⟩:=r.val i b e;⟨v,e1,h.same s⟩,r.own,r.base.trans s,r.new⟩
def tF(K:B5)(f:Ev->Y Bx):TE:=λσ H Q=>∃H0 ρ b,bD K H0 H σ ρ/\f ρ=Z b/\∀v H',AV H H'->Nw H b v->aU K H' b v->Q v H'
def GT(K:B5)(f:Ev->Y (O Bx)):TA:=λσ H Q=>∃H0 ρ bs,bD K H0 H σ ρ/\f ρ=Z bs/\∀vs H',AV H H'->xU K H' bs vs->Q vs H'
def DH(K:B5)(f:Ev->Y Bool):TT:=λσ H Q=>∃H0 ρ b,bD K H0 H σ ρ/\f ρ=Z b/\∀H',AV H H'->Q b H'
def PV(X:Cx)(e:Expr)(f:Ev->Y Bx):Prop:=PE X e (tF X.K f)
structure QV (X:Cx) (e:Expr) (f:Ev->Option Bx):Prop where
 run:PV X e f
def DU(X:Cx)(es:O Expr)(f:Ev->Y (O Bx)):Prop:=PA X es (GT X.K f)
structure Vk (X:Cx) (es:List Expr) (f:Ev->Option (List Bx)):Prop where
 run:DU X es f
def PB(X:Cx)(e:Expr)(f:Ev->Y Bool):Prop:=PT X e (DH X.K f)
structure QB (X:Cx) (e:Expr) (f:Ev->Option Bool):Prop where
 run:PB X e f
theorem HS{t t':TE}(h:PE X e t)(m:∀ σ H Q,t' σ H Q->t σ H Q):PE X e t':=λAN s σ H Q I q=>h AN s σ H Q I (m σ H Q q)
theorem Ic{e:O Expr}{t':TA}(h:PA X e t)(m:∀ σ H Q,t' σ H Q->t σ H Q):PA X e t':=λpos AN s σ H Q I q=>h pos AN s σ H Q I (m σ H Q q)
theorem F7{t t':TT}(h:PT X e t)(m:∀ σ H Q,t' σ H Q->t σ H Q):PT X e t':=λAN s σ H Q I q=>h AN s σ H Q I (m σ H Q q)
theorem LY{t t':TT}(h:PW X e t)(m:∀ σ H Q,t' σ H Q->t σ H Q):PW X e t':=λa AN s σ H Q I q=>h a AN s σ H Q I (m σ H Q q)
theorem Yd{e:AB}{t t':TS}(h:PS X e t)(m:∀D σ H,t' D σ H->t D σ H):PS X e t':=λAN s σ H D I q=>h AN s σ H D I (m D σ H q)
theorem Y0{e:O AB}{t t':TS}(h:Og X e t)(m:∀D σ H,t' D σ H->t D σ H):Og X e t':=λAN s σ H D I q=>h AN s σ H D I (m D σ H q)
def rF(K:B5)(g:Bx->Bx->Y Bx):R2:=λx y H Q=>∃a b c,aU K H a x/\aU K H b y/\g a b=Z c/\∀w H',AV H H'->Nw H c w->aU K H' c w->Q w H'
def IA(K:B5)(g:Bx->Y Bx):V->Hp->VK->Prop:=λx H Q=>∃a c,aU K H a x/\g a=Z c/\∀w H',AV H H'->Nw H c w->aU K H' c w->Q w H'
def Go(K:B5)(g:O Bx->Y Bx):O V->Hp->VK->Prop:=λxs H Q=>∃bs c,xU K H bs xs/\g bs=Z c/\∀w H',AV H H'->Nw H c w->aU K H' c w->Q w H'
abbrev Lh(X:Cx)(f:A0->A0->Sem A0)(g:Bx->Bx->Y Bx):Prop:=Ay X f (rF X.K g)
abbrev IL(X:Cx)(f:A0->Sem A0)(g:Bx->Y Bx):Prop:=Cc X f (IA X.K g)
abbrev uM(X:Cx)(f:A0)(g:O Bx->Y Bx):Prop:=jH X f (Go X.K g)
theorem Ay.imp{f:A0->A0->Sem A0}{r a:R2}(h:Ay X f r)(m:∀x y H Q,a x y H Q->r x y H Q):Ay X f a:=λAN s σ H x y v u Q I c b q=>h AN s σ H x y v u Q I c b (m x y H Q q)
theorem Cc.imp{f:A0->Sem A0}{r a:V->Hp->VK->Prop}(h:Cc X f r)(m:∀x H Q,a x H Q->r x H Q):Cc X f a:=λAN s σ H x v Q I b q=>h AN s σ H x v Q I b (m x H Q q)
theorem jH.imp{f:A0}{r a:O V->Hp->VK->Prop}(h:jH X f r)(m:∀x H Q,a x H Q->r x H Q):jH X f a:=λAN s σ H xs us Q I b q=>h AN s σ H xs us Q I b (m xs H Q q)
def b2(g:Bx->Bx->Y Bx)(fa fb:Ev->Y Bx):Ev->Y Bx:=λρ=>(fa ρ).bind λx=>(fb ρ).bind λy=>g x y
def b1(g:Bx->Y Bx)(fa:Ev->Y Bx):Ev->Y Bx:=λρ=>(fa ρ).bind g
def bY(g:O Bx->Y Bx)(fs:Ev->Y (O Bx)):Ev->Y Bx:=λρ=>(fs ρ).bind g
theorem AT{o:Y α}{f:α->Y β}{b:β}(h:o.bind f=Z b):∃a,o=Z a/\f a=Z b:=by
 cases o with
 |none=>cases h
 |some a=>exact⟨a,rfl,h⟩
theorem Vl{g:Bx->Bx->Y Bx}{fa fb:Ev->Y Bx}(σ:L2.St)(H:Hp)(Q:VK)(h:tF K (b2 g fa fb) σ H Q):Dx (rF K g) (tF K fa) (tF K fb) σ H Q:=by
 obtain⟨H0,ρ,c,E,e,q⟩:=h;obtain⟨a,ea,e⟩:=AT e;obtain⟨b,eb,e⟩:=AT e;refine⟨H0,ρ,a,E,ea,λv H1 d s i=>⟨H0,ρ,b,E.grow d,eb,λu H2 f p l=>?_⟩⟩;exact⟨a,b,c,i.same f,l,e,λw o n j m=>q w o ((d.trans f).trans n) (j.old (d.trans f)) m⟩
theorem Pd{g:Bx->Y Bx}{fa:Ev->Y Bx}(σ:L2.St)(H:Hp)(Q:VK)(h:tF K (b1 g fa) σ H Q):He (IA K g) (tF K fa) σ H Q:=by
 obtain⟨H0,ρ,c,E,e,q⟩:=h;obtain⟨a,ea,e⟩:=AT e;exact⟨H0,ρ,a,E,ea,λv H1 b m d=>⟨a,c,d,e,λw l j f i=>q w l (b.trans j) (f.old b) i⟩⟩
theorem Co{g:O Bx->Y Bx}{fs:Ev->Y (O Bx)}(σ:L2.St)(H:Hp)(Q:VK)(h:tF K (bY g fs) σ H Q):F8 (Go K g) (GT K fs) σ H Q:=by
 obtain⟨H0,ρ,c,E,e,q⟩:=h;obtain⟨a,ea,e⟩:=AT e;exact⟨H0,ρ,a,E,ea,λv H1 b d=>⟨a,c,d,e,λw l j f i=>q w l (b.trans j) (f.old b) i⟩⟩
section
variable{a b:Expr}{fa fb fc f:Ev->Y Bx}{fs:Ev->Y (O Bx)}
theorem aV{op:Operator}{g:Bx->Bx->Y Bx}(e:Lh X (binaryOp op) g)(d:QV X a fa)(c:QV X b fb):QV X (.BinOp a op b pos) (b2 g fa fb):=⟨have d:=d.run;have c:=c.run;HS (LD e d c) Vl⟩
theorem QF{op:UnaryOp}{g:Bx->Y Bx}(c:IL X (unaryOp op) g)(b:QV X a fa):QV X (.UnaryOp op a pos) (b1 g fa):=⟨have b:=b.run;HS (LB c b) Pd⟩
theorem Jy{g:Bx->Bx->Y Bx}(e:Lh X (AG op) g)(d:QV X a fa)(c:QV X b fb)(f:behindInMarks op b=false):QV X (.Compare a [op] [b] pos) (b2 g fa fb):=⟨have d:=d.run;have c:=c.run;HS (Yt e d c f) Vl⟩
def Vm:Bx->Y Bool
 |.z (.bl b)=>Z b
 |_=>U
theorem Vn{b:Bx}{k:Bool}(h:aU K H b v)(e:Vm b=Z k):v=.bl k:=by
 cases b with
 |z d=>
  cases d<;>first|(cases e;done)|skip;cases e;simpa only[aU,AW]using h
 |_=>cases e
theorem OC(σ:L2.St)(H:Hp)(Q:Bool->Hp->Prop)(h:DH K (λρ=>(f ρ).bind Vm) σ H Q):tF K f σ H (λx H'=>∃k,x=.bl k/\Q k H'):=by
 obtain⟨H0,ρ,k,E,e,q⟩:=h;obtain⟨b,eb,e⟩:=AT e;exact⟨H0,ρ,b,E,eb,λv H1 c d a=>⟨k,Vn a e,q H1 c⟩⟩
theorem jQ{g:Bx->Bx->Y Bx}(e:Lh X (AG op) g)(d:QV X a fa)(c:QV X b fb)(f:behindInMarks op b=false):QB X (.Compare a [op] [b] pos) (λρ=>(b2 g fa fb ρ).bind Vm):=⟨have d:=d.run;have c:=c.run;F7 (Yu e d c f) λσ H Q h=>Vl σ H _ (OC σ H Q h)⟩
def CV(ρ:Ev)(i:Nat):Y Bx:=match ρ[i]? with
 |some (Z (.o ds))=>Z (.l ds)
 |some (Z (.m AO _))=>Z (.n AO)
 |some (Z b)=>Z b
 |_=>U
theorem Li{ρ:Ev}{b:Bx}(E:bD K H0 H σ ρ)(e:CV ρ i=Z b):∃v,σ[i]?=Z (Z v)/\aU K H b v:=by
 unfold CV at e;split at e
 ·rename_i ds h;cases e;obtain⟨v,e1,a,vs,e2,q,r⟩:=E.val i _ h;exact⟨v,e1,a,vs,e2,.inl q,r⟩
 ·rename_i ds h;cases e;obtain⟨v,e1,a,vs,e2,q,r⟩:=E.val i _ h;exact⟨v,e1,a,vs,e2,.inl q,r.1⟩
 ·rename_i c h;cases e;exact E.val i _ h
 ·cases e
theorem Dl{ρ:Ev}{b:Bx}(e:CV ρ i=Z b):zG b=false:=by
 unfold CV at e;split at e
 ·cases e;rfl
 ·cases e;rfl
 ·rename_i a h1 h2 c;cases e;cases b with
  |o ds=>exact absurd S (h1 ds)
  |m ds _=>exact absurd S (h2 ds _)
  |_=>rfl
 ·cases e
theorem ak(i:Nat)(d:X.N[i]?=Z x:=by rfl)(a:Qv X.env.scope x:=by first|exact QQ rfl|exact qh (QQ S)|exact qh (qh S))(hd:eg x:=by decide)(c:(x==("__classdict__":AJ))=false:=by decide):QV X (.Name x pos) (λρ=>CV ρ i):=⟨HS (yF d a hd c) λσ H Q h=>by
 obtain⟨H0,ρ,b,E,e,q⟩:=h;obtain⟨v,e1,r⟩:=Li E e;refine⟨v,e1,q v H (AV.refl H) ?_ r⟩;cases b with
 |o ds=>have:=Dl e;cases this
 |m ds _=>have:=Dl e;cases this
 |_=>trivial⟩
def cB(d:Dt):Ev->Y Bx:=λ_=>Z (.z d)
theorem Y4{d:Dt}(h:PE X e (tC v))(r:∀H,AW X.K H d v):PV X e (cB d):=HS h λσ H Q q=>by
 obtain⟨H0,ρ,b,E,e,q⟩:=q;cases e;exact q v H (AV.refl H) trivial (r H)
theorem aD{i j}:QV X (.Constant (.int i) j pos) (cB (.int i)):=⟨Y4 N4 λH=>by simp only[AW]⟩
theorem QG{i j}:QV X (.Constant (.bool i) j pos) (cB (.bl i)):=⟨Y4 NU λH=>by simp only[AW]⟩
theorem Vo{j}:QV X (.Constant .none j pos) (cB .non):=⟨Y4 NH λH=>by simp only[AW]⟩
theorem Vp{j}(hx:x.length<=AA:=by decide):PV X (.Constant (.str x) j pos) (cB (.str x)):=Y4 Of λH=>by unfold AW;exact⟨rfl,hx⟩
def Vq:Bx->Y Bool
 |.z .non=>Z false
 |.z (.bl b)=>Z b
 |.z (.int i)=>Z (i != 0)
 |.z (.str x)=>Z ((x.length:Int) != 0)
 |.z (.tup ds)=>Z (!ds.isEmpty)
 |.z (.lst ds)=>Z (!ds.isEmpty)
 |.l ds=>Z (!ds.isEmpty)
 |.o ds=>Z (!ds.isEmpty)
 |.z .emp=>U
 |.n _=>U
 |.m _ _=>U
theorem aH.isEmpty{ds:O Dt}(h:aH K H ds vs):(!ds.isEmpty)=!vs.isEmpty:=by
 have:=h.length;cases ds<;>cases vs<;>simp_all
theorem Y5{b:Bx}{k:Bool}(r:aU K H b v)(e:Vq b=Z k):FC K v H k:=by
 cases b with
 |z d=>
  cases d with
  |non=>cases e;simp only[aU,AW]at r;subst r;rfl
  |bl b=>cases e;simp only[aU,AW]at r;subst r;rfl
  |int b=>cases e;simp only[aU,AW]at r;subst r;rfl
  |str x=>cases e;simp only[aU,AW]at r;obtain⟨rfl,h⟩:=r;exact⟨h,rfl⟩
  |tup ds=>
   cases e;simp only[aU,AW]at r;obtain⟨a,vs,rfl,q,r⟩:=r;exact .inr (.inl ⟨vs,q,r.isEmpty⟩)
  |lst ds=>
   cases e;obtain⟨a,vs,rfl,q,r⟩:=r.CT rfl;exact .inl ⟨vs,q,r.isEmpty⟩
  |emp=>cases e
 |l ds=>
  cases e;obtain⟨a,vs,rfl,q,r⟩:=r.CT rfl;exact .inl ⟨vs,q,r.isEmpty⟩
 |o ds=>
  cases e;obtain⟨a,vs,rfl,q,r⟩:=r.CT rfl;exact .inl ⟨vs,q,r.isEmpty⟩
 |n _=>cases e
 |m _ _=>cases e
theorem Jz(h:QV X e f)(g:∀a,isTrue e X.env a=(do let v <-a;standAt e.pos;holding [v] (truthy v)):=by intro _;rfl):QB X e (λρ=>(f ρ).bind Vq):=⟨have h:=h.run;F7 (UJ h g) λσ H Q q=>by
 obtain⟨H0,ρ,k,E,e,q⟩:=q;obtain⟨b,eb,e⟩:=AT e;exact⟨H0,ρ,b,E,eb,λv H1 d i c=>⟨k,Y5 c e,q H1 d⟩⟩⟩
def D7(p q:Ev->Y Bool):Ev->Y Bool:=λρ=>(p ρ).bind λc=>if c=true then Z true else q ρ
def Sw(p:Ev->Y Bool):Ev->Y Bool:=λρ=>(p ρ).bind λc=>Z (!c)
def PM(X:Cx)(e:Expr)(f:Ev->Y Bool):Prop:=PW X e (DH X.K f)
structure EH (X:Cx) (e:Expr) (f:Ev->Option Bool):Prop where
 run:PM X e f
variable{p q:Ev->Y Bool}{AS:O Expr}
theorem QH(b:QB X a p):EH X (.BoolOp .Or [a] pos) p:=⟨have b:=b.run;SA b⟩
theorem Si(σ:L2.St)(H:Hp)(Q:Bool->Hp->Prop)(h:DH K (D7 p q) σ H Q):IP (DH K p) (DH K q) σ H Q:=by
 obtain⟨H0,ρ,k,E,e,w⟩:=h;obtain⟨c,d,e⟩:=AT e;refine⟨H0,ρ,c,E,d,λH1 a=>?_⟩;cases c with
 |true=>rw[zr rfl]at e ⊢;cases e;exact w H1 a
 |false=>rw[zS Zp]at e ⊢;exact⟨H0,ρ,k,E.grow a,e,λH2 b=>w H2 (a.trans b)⟩
theorem Vr(d:QB X a p)(c:EH X (.BoolOp .Or (b::AS) pos) q):EH X (.BoolOp .Or (a::b::AS) pos) (D7 p q):=⟨have d:=d.run;have c:=c.run;LY (Op d c) Si⟩
theorem Iq(h:EH X e p):QB X e p:=⟨have h:=h.run;h.pt⟩
theorem Oq(b:QB X a p):QB X (.UnaryOp .Not a pos) (Sw p):=⟨have b:=b.run;F7 (P2 b) λσ H Q h=>by
 obtain⟨H0,ρ,k,E,e,w⟩:=h;obtain⟨c,f,e⟩:=AT e;cases e;exact⟨H0,ρ,c,E,f,λH1 d=>w H1 d⟩⟩
theorem JB:DU X [] (λ_=>Z []):=Ic Ba λσ H Q h=>by
 obtain⟨H0,ρ,bs,E,e,q⟩:=h;cases e;exact q [] H (AV.refl H) .nil
def ao(f:Ev->Y Bx)(fs:Ev->Y (O Bx)):Ev->Y (O Bx):=λρ=>(f ρ).bind λb=>(fs ρ).bind λbs=>Z (b::bs)
theorem Ef(h1:PV X e f)(h2:DU X es fs)(hs:A9 (e::es) X.env=(false,eval e X.env)::A9 es X.env:=by rfl):DU X (e::es) (ao f fs):=Ic (wO h1 h2 hs) λσ H Q h=>by
 obtain⟨H0,ρ,bs,E,e,q⟩:=h;obtain⟨b,eb,e⟩:=AT e;obtain⟨j,i,e⟩:=AT e;cases e;refine⟨H0,ρ,b,E,eb,λv H1 a l d=>⟨H0,ρ,j,E.grow a,i,λvs H2 c g=>?_⟩⟩;exact q (v::vs) H2 (a.trans c) (.cons (d.same c) g)
def Ci:Bx->Y Bx
 |.z d=>Z (.z d)
 |.o ds=>Z (.z (.lst ds))
 |.l _=>U
 |.n _=>U
 |.m _ _=>U
theorem Ot{a:A1}(I:L2.AU X AN σ H s)(h:H a=Z (.lst vs)):∃o,L2.AU X AN σ (B6 H a (.uD o (.lst vs))) s:=by
 obtain⟨z,AQ,n,r,e⟩:=I.hok a _ h;refine⟨{ cls:=.type "list",data:=.seq AQ.toArray n },⟨I.ok,I.os,I.bare,⟨I.base.keep,I.base.slot,λb d q1 q2 q3=>?_,I.base.there,λb xs q=>?_,λb d u q=>?_,λb ps q=>?_⟩,I.loc,I.cell,?_,λx c q=>?_,λp hp=>?_,?_,I.len⟩⟩
 ·have:=I.base.free b d q1 q2 q3;rw[aX (cu h this).symm];exact this
 ·have:=I.base.tups b xs q;rw[aX (uG this h (by intro z;cases z))];exact this
 ·have:=I.base.GK b d u q;rw[aX (uG this h (by intro z;cases z))];exact this
 ·obtain⟨m,this⟩:=I.base.zp b ps q;rw[aX (uG this h (by intro z;cases z))];exact⟨m,this⟩
 ·rw[aX (cu h I.free).symm];exact I.free
 ·rw[aX (cu h (I.qR x c q)).symm];exact I.qR x c q
 ·obtain⟨q1,q2,q3⟩:=I.pin p hp;refine⟨q1,?_,q3⟩;rw[aX (cu h q2).symm];exact q2
 ·intro b u q;by_cases f:b=a
  ·subst f;rw[aW]at q;cases q;exact⟨e,z,AQ,n,r,e⟩
  ·rw[aX f]at q;refine(I.hok b u q).stay (λc v _ w=>w) (λc w=>?_) (λc xs w=>?_) λc o' g w=>?_
   ·rw[aX (uG w h (by intro z;cases z))];exact w
   ·rw[aX (uG w h (by intro z;cases z))];exact w
   ·rw[aX (uG w h (by intro z;cases z))];exact w
theorem kE(h:QV X e f):QV X e (b1 Ci f):=⟨by
 have h:=h.run;intro AN s σ H Q I q;obtain⟨H0,ρ,b,E,e,q⟩:=q;obtain⟨x,ex,e⟩:=AT e;cases x with
 |z d=>
  cases e;exact h AN s σ H Q I ⟨H0,ρ,_,E,ex,λv H' s' i g=>q v H' s' trivial g⟩
 |l ds=>cases e
 |n ds=>cases e
 |m ds _=>cases e
 |o ds=>
  cases e;refine jF (h AN s σ H (λv H'=>AV H H'/\Nw H (.o ds) v/\aU X.K H' (.o ds) v) I ⟨H0,ρ,_,E,ex,λv H' s' i g=>⟨s',i,g⟩⟩) λu D C=>?_;obtain⟨v,H1,B,y,s',i,g⟩:=C;obtain⟨a,vs,rfl,j,w⟩:=g;obtain⟨o,t⟩:=Ot B j;refine⟨.ref a,_,t,y,q _ _ (λc A p=>?_) trivial ?_⟩
  ·rw[aX (cu p (i a S))];exact s' c A p
  ·simp only[aU,AW];exact⟨a,vs,rfl,.inl ⟨o,aW⟩,w.kp (.lst j)⟩⟩
def JC:O Bx->Y (O Dt)
 |[]=>Z []
 |.z d::r=>(JC r).bind λds=>Z (d::ds)
 |_=>U
theorem Eh{K:B5}{H:Hp}:∀{bs:O Bx} {vs:O V} {ds:O Dt},xU K H bs vs->JC bs=Z ds->aH K H ds vs
 |_,_,_,.nil,e=>by cases e;exact aH.nil
 |b::bs,_,_,.cons h t,e=>by
  cases b with
  |z d=>
   simp only[JC]at e;obtain⟨a,e1,e2⟩:=AT e;cases e2;exact aH.cons h (Eh t e1)
  |_=>cases e
theorem Ei:∀{bs:O Bx} {ds:O Dt},JC bs=Z ds->ds.length=bs.length
 |[],_,e=>by cases e;rfl
 |.z d::r,_,e=>by
  simp only[JC]at e;obtain⟨a,e1,e2⟩:=AT e;cases e2;simp[Ei e1]
 |.l _::_,_,e=>by cases e
 |.o _::_,_,e=>by cases e
 |.n _::_,_,e=>by cases e
 |.m _ _::_,_,e=>by cases e
def jr(bs:O Bx):Y Bx:=if bs.length<=1000 then(JC bs).bind λds=>Z (.z (.tup ds))else U
def kJ(bs:O Bx):Y Bx:=if bs.length<=1000 then(JC bs).bind λds=>Z (.o ds)else U
theorem bf{p:A1}(h:H p=U):AV H (B6 H p o):=λb u e=>by rw[aX (cu e h)];exact e
theorem HC(h:n<=1000):n<=AA:=zD h ()
theorem dY{x1}(h:Vk X es fs):QV X (.Tuple es x1 pos) (bY jr fs):=⟨have h:=h.run;HS (Pw h) λσ H Q q=>by
 obtain⟨H0,ρ,c,E,e,q⟩:=q;obtain⟨bs,g,e⟩:=AT e;refine⟨H0,ρ,bs,E,g,λvs H1 d b=>?_⟩;unfold jr at e;split at e
 ·rename_i f;obtain⟨ds,e1,e⟩:=AT e;cases e;have a:=Eh b e1;refine⟨HC (by rw[a.length,Ei e1];exact f),λp hp=>q _ _ (d.trans (bf hp)) trivial ?_⟩;simp only[aU,AW];exact⟨p,vs,rfl,.inl (.inl aW),a.kp (.of (bf hp))⟩
 ·cases e⟩
theorem gk(h:Vk X es fs):QV X (.List es pos) (bY kJ fs):=⟨have h:=h.run;HS (MU h) λσ H Q q=>by
 obtain⟨H0,ρ,c,E,e,q⟩:=q;obtain⟨bs,i,e⟩:=AT e;refine⟨H0,ρ,bs,E,i,λvs H1 b f=>?_⟩;unfold kJ at e;split at e
 ·rename_i g;obtain⟨ds,e1,e⟩:=AT e;cases e;have d:=Eh f e1;refine⟨HC (by rw[d.length,Ei e1];exact g),λp hp=>q _ _ (b.trans (bf hp)) (λa ea=>by cases ea;exact b.free hp) ?_⟩;exact⟨p,vs,rfl,aW,d.kp (.of (bf hp))⟩
 ·cases e⟩
theorem cT{id:String}{g:O Bx->Y Bx}{p:Pos}(f:uM X (.builtin id) g)(j:Gl X x)(i:X.mg x=U)(h:AH x=Z (.builtin id))(a:Vk X (e::es) fs)(hn:x ≠ "__name__":=by decide)(b:eg x:=by decide)(d:A9 (e::es) X.env=(false,eval e X.env)::A9 es X.env:=by rfl)(c:(AD pos (A9 es X.env)).any (·.1)=false:=by rfl):QV X (.Call (.Name x p) (e::es) [] pos) (bY g fs):=⟨have a:=a.run;HS (U0 f j i h a hn b d c) Co⟩
theorem bT{T:String}{g:O Bx->Y Bx}{p:Pos}(f:uM X (.type T) g)(j:Gl X x)(i:X.mg x=U)(h:AH x=Z (.type T))(a:Vk X (e::es) fs)(hn:x ≠ "__name__":=by decide)(b:eg x:=by decide)(d:A9 (e::es) X.env=(false,eval e X.env)::A9 es X.env:=by rfl)(c:(AD pos (A9 es X.env)).any (·.1)=false:=by rfl):QV X (.Call (.Name x p) (e::es) [] pos) (bY g fs):=⟨have a:=a.run;HS (R9 f j i h a hn b d c) Co⟩
end
inductive An where
 |nx (ρ:Ev)|rt (b:Bx)|bk (ρ:Ev)|ct (ρ:Ev)
def Vs(K:B5)(H0:Hp)(D:C1):An->Prop
 |.nx ρ=>∀ σ H,bD K H0 H σ ρ->D.nx σ H
 |.rt b=>∀v H,AV H0 H->Nw H0 b v->aU K H b v->D.rt v H
 |.bk ρ=>∀ σ H,bD K H0 H σ ρ->D.bk σ H
 |.ct ρ=>∀ σ H,bD K H0 H σ ρ->D.ct σ H
def tG(K:B5)(g:Ev->Y An):TS:=λD σ H=>∃H0 ρ r,bD K H0 H σ ρ/\g ρ=Z r/\Vs K H0 D r
def Is(X:Cx)(st:AB)(g:Ev->Y An):Prop:=PS X st (tG X.K g)
structure Sx (X:Cx) (st:Stmt) (g:Ev->Option An):Prop where
 run:Is X st g
def Uw(X:Cx)(st:O AB)(g:Ev->Y An):Prop:=Og X st (tG X.K g)
structure QJ (X:Cx) (st:List Stmt) (g:Ev->Option An):Prop where
 run:Uw X st g
def aF(g1 g2:Ev->Y An):Ev->Y An:=λρ=>(g1 ρ).bind λr=>match r with
 |.nx a=>g2 a
 |r=>Z r
section
variable{a b:Expr}{fa fb fc f:Ev->Y Bx}{fs:Ev->Y (O Bx)}{AS:O AB}{g g1 g2:Ev->Y An}
theorem aP  :QJ X [] (λρ=>Z (.nx ρ)):=⟨Y0 Yo λD σ H h=>by
 obtain⟨H0,ρ,r,E,e,q⟩:=h;cases e;exact q σ H E⟩
theorem aA(h1:Sx X st g1)(h2:QJ X AS g2):QJ X (st::AS) (aF g1 g2):=⟨have h1:=h1.run;have h2:=h2.run;Y0 (DW h1 h2) λD σ H h=>by
 obtain⟨H0,ρ,r,E,e,q⟩:=h;obtain⟨c,e1,e⟩:=AT e;refine⟨H0,ρ,c,E,e1,?_⟩;cases c with
 |nx a=>exact λσ' H' d=>⟨H0,a,r,d,e,q⟩
 |rt b=>cases e;exact q
 |bk a=>cases e;exact q
 |ct a=>cases e;exact q⟩
def Vt:Bx->Y An
 |.l _=>U
 |.n _=>U
 |b=>Z (.rt b)
theorem cM(h:QV X e f):Sx X (.Return (Z e) pos) (λρ=>(f ρ).bind Vt):=⟨have h:=h.run;Yd (Uv h) λD σ H h=>by
 obtain⟨H0,ρ,r,E,e,q⟩:=h;obtain⟨b,eb,e⟩:=AT e;refine⟨H0,ρ,b,E,eb,λv H1 c g a=>?_⟩;cases b with
 |l ds=>cases e
 |z d=>cases e;exact q v H1 (E.base.trans c) trivial a
 |o ds=>cases e;exact q v H1 (E.base.trans c) (g.old E.base) a
 |n ds=>cases e
 |m ds _=>cases e;exact q v H1 (E.base.trans c) (g.old E.base) a⟩
def GR(i:Nat)(ρ:Ev):Y An:=match ρ[i]? with
 |some (Z b)=>Vt b
 |_=>U
theorem JD(i:Nat){p:Pos}(s:X.N[i]?=Z x:=by rfl)(j:Qv X.env.scope x:=by first|exact QQ rfl|exact qh (QQ S)|exact qh (qh S))(hd:eg x:=by decide)(g:(x==("__classdict__":AJ))=false:=by decide):Sx X (.Return (Z (.Name x p)) pos) (GR i):=⟨Yd (Uv (yF s j hd g)) λD σ H h=>by
 obtain⟨H0,ρ,r,E,e,q⟩:=h;unfold GR at e;split at e
 ·rename_i b f;obtain⟨v,e1,c⟩:=E.val i b f;refine⟨v,e1,?_⟩;cases b with
  |l ds=>cases e
  |z d=>cases e;exact q v H E.base trivial c
  |o ds=>cases e;exact q v H E.base (λa ea=>E.new i _ a f S (by rw[e1,ea])) c
  |n ds=>cases e
  |m ds _=>cases e;exact q v H E.base (λa ea=>E.new i _ a f S (by rw[e1,ea])) c
 ·cases e⟩
def KR(p:Ev->Y Bool)(g1 g2:Ev->Y An):Ev->Y An:=λρ=>(p ρ).bind λk=>if k=true then g1 ρ else g2 ρ
theorem uN{p:Ev->Y Bool}{u v:O AB}(a:QB X c p)(d:QJ X u g1)(b:QJ X v g2):Sx X (.If c u v pos) (KR p g1 g2):=⟨have a:=a.run;have d:=d.run;have b:=b.run;Yd (MY a d b) λD σ H h=>by
 obtain⟨H0,ρ,r,E,e,q⟩:=h;obtain⟨k,ek,e⟩:=AT e;refine⟨H0,ρ,k,E,ek,λH1 f=>?_⟩;cases k with
 |true=>rw[zr rfl]at e ⊢;exact⟨H0,ρ,r,E.grow f,e,q⟩
 |false=>rw[zS Zp]at e ⊢;exact⟨H0,ρ,r,E.grow f,e,q⟩⟩
theorem BE{l:O α}{x y:α}(h:(l.set i x)[j]?=Z y):(j=i/\y=x/\i<l.length)\/(j≠i/\l[j]?=Z y):=by
 rw[kC]at h;by_cases e:i=j
 ·subst e;rw[zr rfl]at h;split at h
  ·cases h;exact .inl ⟨rfl,rfl,by assumption⟩
  ·cases h
 ·rw[zS e]at h;exact .inr ⟨λz=>e z.symm,h⟩
theorem Ej{l:O α}(x:α)(h:i<l.length):(l.set i x)[i]?=Z x:=by
 rw[kC,zr rfl,zr h]
theorem Ek{l:O α}(x:α)(h:j≠i):(l.set i x)[j]?=l[j]?:=by
 rw[kC,zS (k6 h)]
theorem bD.set{H1:Hp}{ρ:Ev}{b:Bx}(E:bD K H0 H σ ρ)(s:AV H H1)(r:aU K H1 b v)(w:zG b=true\/loose b=false)(n:Nw H b v):bD K H0 H1 (σ.set i (Z v)) (ρ.set i (Z b)):=by
 have D:=E.grow s;have C:∀(j:Nat) (g:Bx) (a:A1),ρ[j]?=Z (Z g)->loose g=true->σ[j]?=Z (Z (.ref a))->H a≠U:=λj g a e1 e2 e3 z=>by
  obtain⟨I,h,x⟩:=E.val j g e1;rw[e3]at h;cases h;cases g with
  |z d=>cases e2
  |l ds=>
   obtain⟨B,vs,f,q,_⟩:=x;cases f;rcases q with q|⟨o,q⟩<;>(rw[z]at q;cases q)
  |o ds=>
   obtain⟨B,vs,f,q,_⟩:=x;cases f;rw[z]at q;cases q
  |n ds=>
   obtain⟨B,vs,f,q,_⟩:=x;cases f;rcases q with q|⟨o,q⟩<;>(rw[z]at q;cases q)
  |m ds _=>
   obtain⟨B,vs,f,q,_⟩:=x;cases f;rw[z]at q;cases q
 have A:zG b=true->∀a,v=.ref a->H a=U:=λF=>by
  cases b with
  |o ds=>exact n
  |m ds _=>exact n
  |_=>cases F
 refine⟨by rw[kg,kg];exact E.len,λj g e=>?_,λj k c a g e1 p e2 e3 h f=>?_,D.base,λj c a e1 p e2=>?_⟩
 ·rcases BE e with⟨rfl,e',hi⟩|⟨u,e'⟩
  ·cases e';exact⟨v,Ej _ (by rw[E.len];exact hi),r⟩
  ·rw[Ek _ u];exact D.val j g e'
 ·rcases BE e1 with⟨rfl,e',hi⟩|⟨u,e'⟩
  ·cases e';rw[Ej _ (by rw[E.len];exact hi)]at e2;cases e2;rcases BE e3 with⟨rfl,t,_⟩|⟨y,t⟩
   ·rfl
   ·rw[Ek _ y]at f;exact absurd (A p a S) (C k g a t h f)
  ·rw[Ek _ u]at e2;rcases BE e3 with⟨rfl,t,hi⟩|⟨y,t⟩
   ·cases t;rw[Ej _ (by rw[E.len];exact hi)]at f;cases f;have G:loose c=true:=by cases c<;>first|rfl|cases p
    rcases w with w|w
    ·exact absurd (A w a S) (C j _ a e' G e2)
    ·rw[w]at h;cases h
   ·rw[Ek _ y]at f;exact E.own j k c a g e' p e2 t h f
 ·rcases BE e1 with⟨rfl,e',hi⟩|⟨u,e'⟩
  ·cases e';rw[Ej _ (by rw[E.len];exact hi)]at e2;cases e2;exact E.base.free (A p a S)
  ·rw[Ek _ u]at e2;exact E.new j c a e' p e2
def Lj(ρ:Ev)(i:Nat):Bx->Y Ev
 |.l _=>U
 |.n _=>U
 |b=>Z (ρ.set i (Z b))
theorem JF{H1:Hp}{ρ ρ':Ev}{b:Bx}(E:bD K H0 H σ ρ)(s:AV H H1)(r:aU K H1 b v)(n:Nw H b v)(e:Lj ρ i b=Z ρ'):bD K H0 H1 (σ.set i (Z v)) ρ':=by
 cases b with
 |l ds=>cases e
 |z d=>cases e;exact E.set s r (.inr S) n
 |o d=>cases e;exact E.set s r (.inl S) n
 |n ds=>cases e
 |m d _=>cases e;exact E.set s r (.inl S) n
theorem bh(i:Nat){p:Pos}(m:X.N.Nodup)(a:QV X e f)(hi:X.N[i]?=Z x:=by rfl)(hx:CO X.env.scope x:=by first|exact QQ rfl|exact qh S)(hs:swapsWith e (Z (.Name x p)) pos.line X.env=pure false:=by rfl)(l:X.fn x=true\/X.env.scope.names.lookup x=Z .local:=by first|exact .inl rfl|exact .inr S):Sx X (.Assign [.Name x p] e pos) (λρ=>(f ρ).bind λb=>(Lj ρ i b).bind λρ'=>Z (.nx ρ')):=⟨have a:=a.run;Yd (Jm m hi hx a hs l) λD σ H h=>by
 obtain⟨H0,ρ,r,E,e,q⟩:=h;obtain⟨b,eb,e⟩:=AT e;obtain⟨ρ',c,e⟩:=AT e;cases e;exact⟨H0,ρ,b,E,eb,λv H1 g j d=>q _ _ (JF E g d j c)⟩⟩
def Lo(σ:L2.St)(ρ:Ev)(σ':L2.St)(ρ':Ev):Prop:=∀(j:Nat) b,loose b=true->ρ'[j]?=Z (Z b)->ρ[j]?=Z (Z b)/\σ'[j]?=σ[j]?
theorem Lo.refl{ρ:Ev}:Lo σ ρ σ ρ:=λ_ _ _ e=>⟨e,rfl⟩
theorem Lo.trans{σ h d:L2.St}{ρ f g:Ev}(a:Lo σ ρ h f)(b:Lo h f d g):Lo σ ρ d g:=λj c l e=>by
 obtain⟨e1,e2⟩:=b j c l e;obtain⟨e3,i⟩:=a j c l e1;exact⟨e3,e2.trans i⟩
theorem Lo.set{ρ:Ev}(i:Nat)(v:V)(d:Dt):Lo σ ρ (σ.set i (Z v)) (ρ.set i (Z (.z d))):=λj b l e=>by
 rcases BE e with⟨rfl,e',_⟩|⟨a,e'⟩
 ·cases e';cases l
 ·exact⟨e',Ek _ a⟩
def HL(K:B5)(g:Dt->Ev->Y Ev):TG:=λv σ H Q=>∃H0 ρ d a,bD K H0 H σ ρ/\AW K H d v/\g d ρ=Z a/\∀ σ',bD K H0 H σ' a->Lo σ ρ σ' a->Q σ' H
def EF(X:Cx)(t:Expr)(g:Dt->Ev->Y Ev):Prop:=PG X t (HL X.K g)
structure D6 (X:Cx) (t:Expr) (g:Dt->Ev->Option Ev):Prop where
 run:EF X t g
theorem aQ(i:Nat)(f:X.N.Nodup)(hi:X.N[i]?=Z x:=by rfl)(hx:CO X.env.scope x:=by first|exact QQ rfl|exact qh S)(c:X.fn x=true\/X.env.scope.names.lookup x=Z .local:=by first|exact .inl rfl|exact .inr S):D6 X (.Name x pos) (λd ρ=>Z (ρ.set i (Z (.z d)))):=⟨λAN s σ H v u Q I r h=>by
 obtain⟨H0,ρ,d,g,E,a,e,q⟩:=h;cases e;exact Qx f hi hx c AN s σ H v u Q I r (q _ (E.set (b:=.z d) (AV.refl H) a (.inr S) trivial) (Lo.set i v d))⟩
theorem ei(i:Nat)(f:X.N.Nodup:=by show List.Nodup (_++_);decide +kernel)(hi:X.N[i]?=Z x:=by rfl)(hx:CO X.env.scope x:=by first|exact QQ rfl|exact qh S)(c:X.fn x=true\/X.env.scope.names.lookup x=Z .local:=by first|exact .inl rfl|exact .inr S):D6 X (.Name x pos) (λd ρ=>Z (ρ.set i (Z (.z d)))):=aQ i f hi hx c
def OU(K:B5)(g:O Dt->Ev->Y Ev):Ct:=λvs σ H Q=>∃H0 ρ ds a,bD K H0 H σ ρ/\aH K H ds vs/\g ds ρ=Z a/\∀ σ',bD K H0 H σ' a->Lo σ ρ σ' a->Q σ' H
def PY(X:Cx)(t:O Expr)(g:O Dt->Ev->Y Ev):Prop:=L2.Uw X t (OU X.K g)
structure Y7 (X:Cx) (t:List Expr) (g:List Dt->Ev->Option Ev):Prop where
 run:PY X t g
def pq:O Dt->Ev->Y Ev
 |[],ρ=>Z ρ
 |_,_=>U
def bW(g:Dt->Ev->Y Ev)(gs:O Dt->Ev->Y Ev):O Dt->Ev->Y Ev
 |d::ds,ρ=>(g d ρ).bind (gs ds)
 |_,_=>U
theorem ou  :Y7 X [] pq:=⟨λAN s σ H vs us Q I r h=>by
 obtain⟨H0,ρ,ds,b,E,a,e,q⟩:=h;cases ds with
 |nil=>cases e;unfold aH at a;exact Yq AN s σ H vs us Q I r ⟨a,q _ E Lo.refl⟩
 |cons d ds=>cases e⟩
theorem cF{t:Expr}{ts:O Expr}{gt:Dt->Ev->Y Ev}{gs:O Dt->Ev->Y Ev}(h1:D6 X t gt)(h2:Y7 X ts gs)(hs:(assignEach (t::ts) X.env).map (·.2)=assign t X.env::(assignEach ts X.env).map (·.2):=by rfl):Y7 X (t::ts) (bW gt gs):=⟨have h1:=h1.run;have h2:=h2.run;λAN s σ H vs us Q I r h=>by
 obtain⟨H0,ρ,ds,o,E,a,e,q⟩:=h;cases ds with
 |nil=>cases e
 |cons d ds=>
  unfold aH at a;obtain⟨v,f,rfl,c,i⟩:=a;simp only[bW]at e;obtain⟨b,e1,e⟩:=AT e;exact Ux h1 h2 hs AN s σ H _ us Q I r ⟨v,f,rfl,H0,ρ,d,b,E,c,e1,λp m g=>⟨H0,b,ds,o,m,i,e,λj l n=>q j l (g.trans n)⟩⟩⟩
def mK(n:Nat)(gs:O Dt->Ev->Y Ev):Dt->Ev->Y Ev
 |.tup ds,ρ=>if ds.length=n then gs ds ρ else U
 |_,_=>U
theorem su{ts:O Expr}{k:Nat}{gs:O Dt->Ev->Y Ev}(j:X.calm=true)(h:Y7 X ts gs)(hn:(assignEach ts X.env).length=n:=by rfl)(f:(assignEach ts X.env).findIdx? (·.1)=U:=by rfl):D6 X (.Tuple ts k pos) (mK n gs):=⟨have h:=h.run;λAN s σ H v u Q I r l=>by
 obtain⟨H0,ρ,d,m,E,b,e,q⟩:=l;cases d with
 |tup ds=>
  simp only[mK]at e;split at e
  ·rename_i i;unfold AW at b;obtain⟨a,vs,rfl,g,c⟩:=b;exact LX j h hn f AN s σ H _ u Q I r ⟨a,vs,rfl,g,by rw[c.length];exact i,H0,ρ,ds,m,E,c,e,q⟩
  ·cases e
 |_=>cases e⟩
def Y8(i j:Nat)(ρ:Ev):O Bx->Y An
 |[.z d,.z d']=>Z (.nx ((ρ.set i (Z (.z d))).set j (Z (.z d'))))
 |_=>U
theorem NV(i j:Nat){y:AJ}{px py pt:Pos}{kt k2 pt2}(u:X.calm=true)(w:X.N.Nodup)(c:Vk X [a,b] fs)(hi:X.N[i]?=Z x:=by rfl)(s:X.N[j]?=Z y:=by rfl)(m:i≠j:=by decide)(hx:X.env.scope.names.lookup x=Z .local:=by rfl)(f:X.env.scope.names.lookup y=Z .local:=by rfl)(v:swappedStores [.Tuple [.Name x px,.Name y py] kt pt] (.Tuple [a,b] k2 pt2) X.env=pure (Z [x,y]):=by rfl)(hs:swapsWithSole [.Tuple [.Name x px,.Name y py] kt pt] (.Tuple [a,b] k2 pt2) pos.line X.env=pure false:=by rfl):Sx X (.Assign [.Tuple [.Name x px,.Name y py] kt pt] (.Tuple [a,b] k2 pt2) pos) (λρ=>(fs ρ).bind (Y8 i j ρ)):=⟨have c:=c.run;Yd (ML u w hi s m hx f c v hs) λD σ H h=>by
 obtain⟨H0,ρ,r,E,e,q⟩:=h;obtain⟨bs,eb,e⟩:=AT e;refine⟨H0,ρ,bs,E,eb,λvs H1 l g=>?_⟩;unfold Y8 at e;split at e
 ·rename_i d o;cases e;cases g with
  |cons p t=>
   cases t with
   |cons p' n=>
    cases n;refine⟨_,_,rfl,q _ _ ?_⟩;exact((E.grow l).set (b:=.z d) (AV.refl H1) p (.inr S) trivial).set (b:=.z o) (AV.refl H1) p' (.inr S) trivial
 ·cases e⟩
def Y9(ρ:Ev)(i:Nat):Bx->Y An
 |.z d=>match ρ[i]? with
  |some (Z (.o ds))=>if ds.length<AA then Z (.nx (ρ.set i (Z (.o (ds++[d])))))else U
  |_=>U
 |_=>U
theorem bD.aey{ρ:Ev}{t c1:Bx}{a:A1}{u:HO}(E:bD K H0 H σ ρ)(h:ρ[i]?=Z (Z t))(x:zG t=true)(hs:σ[i]?=Z (Z (.ref a)))(k:Kp H (B6 H a u))(r:aU K (B6 H a u) c1 (.ref a)):
  bD K H0 (B6 H a u) σ (ρ.set i (Z c1)):=by
 have hi:i<ρ.length:=(af.mp h).1;have N:H0 a=U:=E.new i t a h x hs;have lo:∀c,zG c=true->loose c=true:=λc Q=>by cases c<;>first|rfl|cases Q
 refine⟨by rw[kg];exact E.len,λj A e=>?_,λj F c f A e1 y e2 e3 L M=>?_,λc o e=>?_,λj c f e1 y e2=>?_⟩
 ·rcases BE e with⟨rfl,e',_⟩|⟨C,e'⟩
  ·cases e';exact⟨_,hs,r⟩
  ·obtain⟨v,e1,w⟩:=E.val j A e';refine⟨v,e1,?_⟩;have B:∀f,v=.ref f->loose A=true->f≠a:=λf ev I z=>by
    subst z;exact C (E.own i j t _ _ h x hs e' I (by rw[e1,ev])).symm
   cases A with
   |z d=>exact AW.kp k w
   |l D=>
    obtain⟨f,s,rfl,q,p⟩:=w;refine⟨f,s,rfl,?_,p.kp k⟩;have g:=B f S rfl;rcases q with q|⟨o,q⟩
    ·exact .inl (by rw[aX g];exact q)
    ·exact .inr ⟨o,by rw[aX g];exact q⟩
   |o D=>
    obtain⟨f,s,rfl,q,p⟩:=w;have g:=B f S rfl;exact⟨f,s,rfl,by rw[aX g];exact q,p.kp k⟩
   |n D=>
    obtain⟨f,s,rfl,q,p⟩:=w;refine⟨f,s,rfl,?_,p.kp k⟩;have g:=B f S rfl;rcases q with q|⟨o,q⟩
    ·exact .inl (by rw[aX g];exact q)
    ·exact .inr ⟨o,by rw[aX g];exact q⟩
   |m D=>
    obtain⟨f,s,rfl,q,p⟩:=w;have g:=B f S rfl;exact⟨f,s,rfl,by rw[aX g];exact q,p.1.kp k,p.2⟩
 ·have G:∀(m:Nat) (b:Bx),(ρ.set i (Z c1))[m]?=Z (Z b)->loose b=true->∃b0,ρ[m]?=Z (Z b0)/\loose b0=true/\(zG b=true->zG b0=true):=λm b e l=>by
   rcases BE e with⟨rfl,e',_⟩|⟨C,e'⟩
   ·exact⟨_,h,lo _ x,λ_=>x⟩
   ·exact⟨b,e',l,λz=>z⟩
  obtain⟨b0,q1,q2,q3⟩:=G j _ e1 (lo _ y);obtain⟨b1,J,P,_⟩:=G F _ e3 L;exact E.own j F b0 f b1 q1 (q3 y) e2 J P M
 ·rw[aX (cu e N)];exact E.base c o e
 ·rcases BE e1 with⟨rfl,e',_⟩|⟨C,e'⟩
  ·exact E.new _ t f h x e2
  ·exact E.new j c f e' y e2
theorem bD.U7{ρ:Ev}{ds es:O Dt}{a:A1}{us:O V}(E:bD K H0 H σ ρ)(h:ρ[i]?=Z (Z (.o ds)))(hs:σ[i]?=Z (Z (.ref a)))(b:H a=Z (.lst vs))(r:aH K H es us):
  bD K H0 (B6 H a (.lst us)) σ (ρ.set i (Z (.o es))):=E.aey h S hs (.lst b) ⟨a,us,rfl,aW,r.kp (.lst b)⟩
theorem uO(i:Nat){p:Pos}(j:QV X e f)(w:X.N[i]?=Z x:=by rfl)(B:Qv X.env.scope x:=by first|exact QQ rfl|exact qh (QQ S)|exact qh (qh S))(hd:eg x:=by decide)(y:(x==("__classdict__":AJ))=false:=by decide)(m:A9 [e] X.env=[(false,eval e X.env)]:=by rfl)(A:attributeBase (.Name x p) "append" X.env (eval (.Name x p) X.env)=eval (.Name x p) X.env:=by rfl)(C:((AD cpos (A9 [e] X.env)).all (λx=>!x.1)&&(backToKw cpos (keywordEach [] X.env)).all (λx=>x.1.isSome)&&decide ([e].length+([]:O AC).length+(if([]:O AC).isEmpty then 0 else 1)<30))=true:=by rfl)(o:(apos.endLine==cpos.line)=true:=by rfl)(hs:swapsWith (.Call (.Attribute (.Name x p) "append" apos) [e] [] cpos) U pos.line X.env=pure false:=by rfl):Sx X (.Expr (.Call (.Attribute (.Name x p) "append" apos) [e] [] cpos) pos) (λρ=>(f ρ).bind (Y9 ρ i)):=⟨have j:=j.run;Yd (Yp (La PySem.F.plainAttrs_list PySem.F.slot_list_append PySem.F.type_list_append HJ (yF (i:=i) w B hd y) (wO j Ba (by rw[m]<;>rfl)) A C o (by rw[m]<;>rfl) S) hs) λD σ H h=>by
  obtain⟨H0,ρ,r,E,e,q⟩:=h;obtain⟨b,eb,e⟩:=AT e;cases b with
  |z d=>
   simp only[Y9]at e;split at e
   ·rename_i ds n;split at e
    ·rename_i t;cases e;obtain⟨v,e1,a,vs,rfl,g,l⟩:=E.val i _ n;refine⟨_,e1,.inl ⟨rfl,vs,.inl (.inl g)⟩,H0,ρ,_,E,eb,λu H1 c I s=>?_⟩;have G:=E.grow c;refine⟨a,vs,u,rfl,rfl,c _ _ g,by rw[l.length];exact t,q _ _ ?_⟩;exact G.U7 n e1 (c _ _ g) ((l.kp (.of c)).append (aH.cons s aH.nil))
    ·cases e
   ·cases e
  |_=>cases e⟩
end
def FA(x:AJ):It:=⟨λi _=>i<x.cps.size,λi H v H'=>H'=H/\∃c,x.cps[i]?=Z c/\v=.str ⟨#[c]⟩,λi _=>x.cps.size<=i⟩
def NN(h:A6)(it:A1)(x:AJ)(i:Nat):Prop:=∃t,h.IsStrIter it "str_ascii_iterator" x t i\/h.IsStrIter it "str_iterator" x t i
theorem Ln(it:A1)(x:AJ):C8 P w K tg (FA x) [it] it (λi h=>NN h it x i) where
 mem:=by simp
 obj:=λi h st b a=>by
  have e:b=it:=by simpa using a
  subst e;obtain⟨t,⟨o,e,c,d⟩|⟨o,e,c,d⟩⟩:=st
  ·exact⟨o,e,λv z=>by rw[d]at z;cases z⟩
  ·exact⟨o,e,λv z=>by rw[d]at z;cases z⟩
 keep:=λi h h' st k=>by
  obtain⟨t,⟨o,e,c⟩|⟨o,e,c⟩⟩:=st
  ·exact⟨t,.inl ⟨o,k it (by simp) o e,c⟩⟩
  ·exact⟨t,.inr ⟨o,k it (by simp) o e,c⟩⟩
 item:=by
  intro X p y hK u i AN s σ H E I l st A;subst p y hK;obtain⟨f0,f1,f2,f,m,j⟩:=l it (by simp);have hi:i<x.cps.size:=A;have hx:x.cps[i]?=Z x.cps[i]:=by simp[hi]
  obtain⟨t,st|st⟩:=st
  ·refine wpAny_pyNext_ascii_item st hx λh' g n=>?_;have q:L2.AU X AN σ H { s with heap:=h',toks:=s.toks+1 }:=I.turned (λb o a e=>(n.2 b a).trans e) f0 f1 f m j;obtain⟨o,e,c,d⟩:=id g;exact⟨_,rfl,K7 (s:={ s with heap:=h',toks:=s.toks+1 }) e c d () ⟨.str ⟨#[x.cps[i]]⟩,H,q,⟨_,rfl⟩,⟨rfl,_,hx,rfl⟩,⟨t,.inl g⟩,λb a=>(l b a).1⟩⟩
  ·refine wpAny_pyNext_wide_item st hx λh' g n=>?_;have q:L2.AU X AN σ H { s with heap:=h',toks:=s.toks+1 }:=I.turned (λb o a e=>(n.2 b a).trans e) f0 f1 f m j;obtain⟨o,e,c,d⟩:=id g;exact⟨_,rfl,K7 (s:={ s with heap:=h',toks:=s.toks+1 }) e c d () ⟨.str ⟨#[x.cps[i]]⟩,H,q,⟨_,rfl⟩,⟨rfl,_,hx,rfl⟩,⟨t,.inr g⟩,λb a=>(l b a).1⟩⟩
 done:=by
  intro X p y hK u i AN s σ H E I l st A;subst p y hK;obtain⟨f0,f1,f2,f,m,j⟩:=l it (by simp);have hx:x.cps[i]?=U:=by have:x.cps.size<=i:=A;simp[this]
  obtain⟨t,st|st⟩:=st
  ·exact wpAny_pyNext_ascii_end (I.ok.hd u) st hx λh' eb=>⟨rfl,I.turned (t':=s.toks) (λb o a e=>eb b o a e) f0 f1 f m j⟩
  ·exact wpAny_pyNext_wide_end (I.ok.hd u) st hx λh' eb=>⟨rfl,I.turned (t':=s.toks) (λb o a e=>eb b o a e) f0 f1 f m j⟩
 self:=λ_ _ _ _ _ st h=>by
  obtain⟨t,st|st⟩:=st
  ·exact wpAny_pyIter_striter_ascii st h
  ·exact wpAny_pyIter_striter_wide st h
def RC(K:B5)(tl:TE):TI:=λσ H R=>tl σ H λx H1=>(∃a,x=.ref a/\(∃xs,qQ K H1 a xs)/\R (EX K a) H1)\/(∃a,x=.ref a/\(∃xs,zm K H1 a xs)/\R (Fm K a) H1)\/∃y,x=.str y/\R (FA y) H1
theorem Ou{l:Expr}{tl:TE}(m:PE X l tl):PI X tg l (RC X.K tl):=by
 intro AN s σ H R I h;refine jF (m AN s σ H _ I h) λv s1 ⟨x,H1,I1,r1,q1⟩=>?_;have c:∀(o:AE) (b:A1),b∈[s1.heap.objs.size]->uq X AN H1 b:=λo b j=>by
  have e:b=s1.heap.objs.size:=by simpa using j
  subst e;exact I1.abz (zo _) (I1.hok.fresh (zo _))
 rcases q1 with⟨a,e,⟨xs,d⟩,q⟩|⟨a,e,⟨xs,d⟩,q⟩|⟨y,e,q⟩
 ·subst e;cases r1;obtain⟨AQ,i,p,g⟩:=I1.list d;refine ky p.isList ?_;exact⟨s1.heap.objs.size,[s1.heap.objs.size],_,_,H1,rfl,I1.kept (t':=s1.toks) λb o e=>zg _ e,R3 a _,⟨_,zw _ rfl,rfl,rfl⟩,c default,q⟩
 ·subst e;cases r1;obtain⟨AQ,i,p,g⟩:=I1.tuple d;refine wpAny_pyIter_tuple (show s1.heap.IsTuple a AQ.toArray from p) ?_;exact⟨s1.heap.objs.size,[s1.heap.objs.size],_,_,H1,rfl,I1.kept (t':=s1.toks) λb o e=>zg _ e,Oh a _,⟨_,zw _ rfl,rfl,rfl⟩,c default,q⟩
 ·subst e;obtain⟨t,rfl⟩:=r1;cases f:y.cps.all (· < 128)with
  |true=>
   refine wpAny_pyIter_ascii f ?_;exact⟨s1.heap.objs.size,[s1.heap.objs.size],_,_,H1,rfl,I1.kept (t':=s1.toks) λb o e=>zg _ e,Ln _ y,⟨t,.inl ⟨_,zw _ rfl,rfl,rfl⟩⟩,c default,q⟩
  |false=>
   refine wpAny_pyIter_wide f ?_;exact⟨s1.heap.objs.size,[s1.heap.objs.size],_,_,H1,rfl,I1.kept (t':=s1.toks) λb o e=>zg _ e,Ln _ y,⟨t,.inr ⟨_,zw _ rfl,rfl,rfl⟩⟩,c default,q⟩
def B8(K:B5)(J:It)(ds:O Dt)(Hs:Hp):Prop:=∀(i:Nat) (H:Hp),AV Hs H →
 (∀d,ds[i]?=Z d->J.go i H/\∀x H',J.yld i H x H'->AV H H'/\AW K H' d x)/\(ds.length<=i->J.stop i H)
theorem B8.of{ds:O Dt}(h:∀(i:Nat) (H:Hp),AV Hs H →
  (∀d,ds[i]?=Z d->J.go i H/\∀x H',J.yld i H x H'->H'=H/\AW K H d x)/\(ds.length<=i->J.stop i H)):B8 K J ds Hs:=λi H s=>
 ⟨λd e=>⟨((h i H s).1 d e).1,λx H' y=>by
  obtain⟨rfl,r⟩:=((h i H s).1 d e).2 x H' y;exact⟨AV.refl _,r⟩⟩,(h i H s).2⟩
def BQ(x:AJ):O Dt:=x.cps.toList.map λc=>.str ⟨#[c]⟩
theorem B8.list{ds:O Dt}(h:qQ K Hs a vs)(r:aH K Hs ds vs):B8 K (EX K a) ds Hs:=.of λi H s=>by
 have h':=s.seq h;have c:=r.kp (.of s);refine⟨λd e=>?_,λe=>⟨vs,h',by rw[r.length];exact e⟩⟩;obtain⟨v,ev,b⟩:=c.get e;refine⟨⟨vs,v,h',ev⟩,λx H' y=>?_⟩;obtain⟨y1,y2⟩:=y;have:=y2 vs h';rw[ev]at this;cases this;exact⟨y1,b⟩
theorem B8.tup{ds:O Dt}(h:zm K Hs a vs)(r:aH K Hs ds vs):B8 K (Fm K a) ds Hs:=.of λi H s=>by
 have h':=(Kp.of s).sqT h;have c:=r.kp (.of s);refine⟨λd e=>?_,λe=>⟨vs,h',by rw[r.length];exact e⟩⟩;obtain⟨v,ev,b⟩:=c.get e;refine⟨⟨vs,v,h',ev⟩,λx H' y=>?_⟩;obtain⟨y1,y2⟩:=y;have:=y2 vs h';rw[ev]at this;cases this;exact⟨y1,b⟩
theorem B8.str(x:AJ):B8 K (FA x) (BQ x) Hs:=.of λi H s=>by
 refine⟨λd e=>?_,λe=>?_⟩
 ·unfold BQ at e;rw[ZI]at e;cases h:x.cps.toList[i]? with
  |none=>rw[h]at e;cases e
  |some c=>
   rw[h]at e;cases e;have b:x.cps[i]?=Z c:=by simpa using h
   have hi:i<x.cps.size:=by
    have:=(af.mp h).1;simpa using this
   refine⟨hi,λv H' y=>?_⟩;obtain⟨y1,c',a,rfl⟩:=y;rw[b]at a;cases a;refine⟨y1,?_⟩;unfold AW;exact⟨rfl,by show(1:Nat)<=AA;decide⟩
 ·have:(BQ x).length=x.cps.size:=by simp[BQ]
  show x.cps.size<=i;omega
def JG(lo:Int)(n:Nat):O Dt:=(ax n).map λk=>.int (lo+(k:Nat))
theorem B8.rng(lo:Int)(n:Nat):B8 K (EB lo n) (JG lo n) Hs:=.of λi H s=>by
 refine⟨λd e=>?_,λe=>?_⟩
 ·unfold JG at e;rw[ZI]at e;by_cases hi:i<n
  ·rw[dc hi]at e;cases e;refine⟨hi,λv H' y=>?_⟩;obtain⟨y1,y2⟩:=y;refine⟨y1,?_⟩;unfold AW;exact y2
  ·rw[List.getElem?_eq_none (by simp;omega)]at e;cases e
 ·have:(JG lo n).length=n:=by simp[JG]
  show n<=i;omega
def iF(K:B5)(f:Ev->Y (O Dt)):TI:=λσ H R=>∃H0 ρ ds,bD K H0 H σ ρ/\f ρ=Z ds/\∀J H',AV H H' →
 (∀Hs,AV Hs H'->(∀a,H a=U->Hs a=H' a)->(∀a o u,H' a=Z (.uD o u)->Hs a=H' a)->(∀a vs,H' a=Z (.tup vs)->Hs a=H' a)->B8 K J ds Hs)->R J H'
def PC(X:Cx)(tg iter:Expr)(f:Ev->Y (O Dt)):Prop:=PI X tg iter (iF X.K f)
structure ET (X:Cx) (tg iter:Expr) (f:Ev->Option (List Dt)):Prop where
 run:PC X tg iter f
def Vu:Bx->Y (O Dt)
 |.z (.lst ds)=>Z ds
 |.z (.tup ds)=>Z ds
 |.z (.str x)=>Z (BQ x)
 |.o ds=>Z ds
 |_=>U
section
variable{f:Ev->Y Bx}{fs:Ev->Y (O Bx)}
mutual
theorem AW.part{K:B5}{H Hs:Hp}(b:∀a o u,H a=Z (.uD o u)->Hs a=H a)(c:∀a vs,H a=Z (.tup vs)->Hs a=H a):∀{d:Dt} {v:V},AW K H d v->AW K Hs d v
 |.non,_,h=>by simpa only[AW]using h
 |.bl _,_,h=>by simpa only[AW]using h
 |.int _,_,h=>by simpa only[AW]using h
 |.str _,_,h=>by simpa only[AW]using h
 |.tup ds,_,h=>by
  simp only[AW]at h ⊢;obtain⟨a,vs,e,q,r⟩:=h;refine⟨a,vs,e,?_,aH.part b c r⟩;rcases q with (q|⟨o,q⟩)|q
  ·exact .inl (.inl ((c _ _ q).trans q))
  ·exact .inl (.inr ⟨o,(b _ _ _ q).trans q⟩)
  ·exact .inr q
 |.lst ds,_,h=>by
  simp only[AW]at h ⊢;obtain⟨a,vs,e,q,r⟩:=h;refine⟨a,vs,e,?_,aH.part b c r⟩;rcases q with⟨o,q⟩|q
  ·exact .inl ⟨o,(b _ _ _ q).trans q⟩
  ·exact .inr q
 |.emp,_,h=>by
  simp only[AW]at h ⊢;obtain⟨a,o,e,q⟩:=h;exact⟨a,o,e,(b _ _ _ q).trans q⟩
theorem aH.part{K:B5}{H Hs:Hp}(c:∀a o u,H a=Z (.uD o u)->Hs a=H a)(b:∀a vs,H a=Z (.tup vs)->Hs a=H a):∀{ds:O Dt} {vs:O V},aH K H ds vs->aH K Hs ds vs
 |[],_,h=>by simpa only[aH]using h
 |d::ds,_,h=>by
  simp only[aH]at h ⊢;obtain⟨v,r,e,q,t⟩:=h;exact⟨v,r,e,AW.part c b q,aH.part c b t⟩
end
theorem Dm(h:QV X e f):ET X tg e (λρ=>(f ρ).bind Vu):=⟨have h:=h.run;λAN s σ H R I q=>by
 refine Ou h AN s σ H R I ?_;obtain⟨H0,ρ,ds,E,e,q⟩:=q;obtain⟨b,eb,e⟩:=AT e;refine⟨H0,ρ,b,E,eb,λv H1 u A i=>?_⟩;cases b with
 |z d=>
  cases d with
  |tup p=>
   cases e;simp only[aU,AW]at i;obtain⟨a,vs,rfl,c,t⟩:=i;refine .inr (.inl ⟨a,rfl,⟨vs,c⟩,q _ _ u λHs y w g j=>.tup ?_ (t.part g j)⟩);rcases c with (c|⟨o,c⟩)|c
   ·exact .inl (.inl ((j _ _ c).trans c))
   ·exact .inl (.inr ⟨o,(g _ _ _ c).trans c⟩)
   ·exact .inr c
  |lst p=>
   cases e;simp only[aU,AW]at i;obtain⟨a,vs,rfl,c,t⟩:=i;refine .inl ⟨a,rfl,⟨vs,c.sq⟩,q _ _ u λHs y w g j=>.list ?_ (t.part g j)⟩;rcases c with⟨o,c⟩|c
   ·exact .inl (.inr ⟨o,(g _ _ _ c).trans c⟩)
   ·exact .inr c
  |str x=>
   cases e;simp only[aU,AW]at i;obtain⟨rfl,_⟩:=i;exact .inr (.inr ⟨x,rfl,q _ _ u λHs y w g j=>.str x⟩)
  |_=>cases e
 |l p=>cases e
 |n p=>cases e
 |m p=>cases e
 |o p=>
  cases e;obtain⟨a,vs,rfl,c,t⟩:=i;refine .inl ⟨a,rfl,⟨vs,.inl (.inl c)⟩,q _ _ u λHs y w g j=>.list (.inl (.inl ((w a (A a S)).trans c))) (t.part g j)⟩⟩
def F0:O Bx->Y (O Dt)
 |[.z (.int j)]=>if -(2 ^ 62)<=j/\j<2 ^ 62 then Z (JG 0 j.toNat)else U
 |_=>U
theorem kO{p:Pos}(g:Gl X "range")(f:X.mg "range"=U)(a:Vk X [e] fs)(hs:A9 [e] X.env=[(false,eval e X.env)]:=by rfl):ET X tg (.Call (.Name "range" p) [e] [] pos) (λρ=>(fs ρ).bind F0):=⟨have a:=a.run;λAN s σ H R I q=>by
 refine R4 g f a hs AN s σ H R I ?_;obtain⟨H0,ρ,ds,E,e,q⟩:=q;obtain⟨bs,eb,e⟩:=AT e;refine⟨H0,ρ,bs,E,eb,λvs H1 d c=>?_⟩;unfold F0 at e;split at e
 ·rename_i j;split at e
  ·rename_i b;cases e;cases c with
   |cons p t=>
    cases t;simp only[aU,AW]at p;subst p;exact⟨j,rfl,b.1,b.2,q _ _ d λHs _ _ _ _=>.rng 0 _⟩
  ·cases e
 ·cases e⟩
def sy(gt:Dt->Ev->Y Ev)(gb:Ev->Y An):O Dt->Ev->Y An
 |[],ρ=>Z (.nx ρ)
 |d::ds,ρ=>(gt d ρ).bind λc=>(gb c).bind λr=>match r with
  |.nx a=>sy gt gb ds a
  |.ct a=>sy gt gb ds a
  |.bk a=>Z (.nx a)
  |.rt b=>Z (.rt b)
noncomputable def fH(H:Hp)(σ:L2.St)(ρ:Ev):Hp:=λa=>@ite _ (∃(i:Nat) (c:Bx),ρ[i]?=Z (Z c)/\zG c=true/\σ[i]?=Z (Z (.ref a))) (Classical.propDecidable _) U (H a)
theorem zH{ρ:Ev}:AV (fH H σ ρ) H:=λa o e=>by
 unfold fH at e;split at e
 ·cases e
 ·exact e
theorem bD.rebase{ρ:Ev}(E:bD K Hs H σ ρ)(s:AV H0 Hs):bD K H0 H σ ρ:=⟨E.len,E.val,E.own,s.trans E.base,λi c a e1 b e2=>s.free (E.new i c a e1 b e2)⟩
theorem bD.sans{ρ:Ev}(E:bD K H0 H σ ρ):bD K (fH H σ ρ) H σ ρ:=⟨E.len,E.val,E.own,zH,λi c a e1 b e2=>by
 unfold fH;rw[zr ⟨i,c,e1,b,e2⟩]⟩
theorem bD.sub{ρ:Ev}(E:bD K H0 H σ ρ):AV H0 (fH H σ ρ):=λa o e=>by
 unfold fH;split
 ·rename_i h;obtain⟨i,c,e1,b,e2⟩:=h;rw[E.new i c a e1 b e2]at e;cases e
 ·exact E.base a o e
theorem jt{ρ:Ev}(E:bD K H0 H σ ρ)(h:∀vs,H a≠Z (.lst vs))(h2:∀vs,H a≠Z (.dK vs)):fH H σ ρ a=H a:=by
 unfold fH;split
 ·rename_i e;obtain⟨i,c,e1,f,e2⟩:=e;obtain⟨v,e3,d⟩:=E.val i _ e1;rw[e2]at e3;cases e3;cases c with
  |o ds=>obtain⟨g,vs,b,q,_⟩:=d;cases b;exact absurd q (h vs)
  |m ds _=>obtain⟨g,vs,b,q,_⟩:=d;cases b;exact absurd q (h2 vs)
  |_=>cases f
 ·rfl
theorem Vs.rebase{K:B5}{H0 Hs:Hp}{D:C1}{r:An}(s:AV H0 Hs)(h:Vs K H0 D r):Vs K Hs D r:=by
 cases r with
 |nx ρ=>exact λσ H E=>h σ H (E.rebase s)
 |bk ρ=>exact λσ H E=>h σ H (E.rebase s)
 |ct ρ=>exact λσ H E=>h σ H (E.rebase s)
 |rt b=>exact λv H s' n r=>h v H (s.trans s') (n.old s) r
theorem qU{gt:Dt->Ev->Option Ev}{gb:Ev->Option An}{ds:O Dt}{H1:Hp}{ρ:Ev}{D:C1}{r:An}(s:bD X.K H0 H1 σ ρ)(Y:B8 X.K J ds (fH H1 σ ρ))(e:sy gt gb ds ρ=Z r)(q:Vs X.K H0 D r):
  ∃W:Nat->Nat->L2.St->Hp->Prop,(∃m,W 0 m σ H1)/\∀i m σ H,W i m σ H →
   (J.stop i H/\D.nx σ H)\/(J.go i H/\∃N:L2.St->Hp->Prop,(∀ σ' H',N σ' H'->∃l,l<m/\W (i+1) l σ' H')/\∀x H',J.yld i H x H'->HL X.K gt x σ H' λc H2=>tG X.K gb { D with nx:=N,ct:=N,bk:=D.nx } c H2):=by
 have t:=s.sans;have q2:=q.rebase s.sub;generalize fH H1 σ ρ=Hs at Y t q2;refine⟨λi m σ' H'=>m=ds.length-i/\i<=ds.length/\∃d,bD X.K Hs H' σ' d/\sy gt gb (ds.drop i) d=Z r,⟨ds.length,by simp,Z3 _,ρ,t,by simpa using e⟩,?_⟩;rintro i m σ' H' ⟨rfl,B,d,f,e'⟩;obtain⟨y1,y2⟩:=Y i H' f.base;by_cases j:i<ds.length
 ·right;have hd:ds[i]?=Z ds[i]:=by simp[j]
  obtain⟨go,y⟩:=y1 _ hd;rw[bP j]at e';simp only[sy]at e';obtain⟨o,e1,e'⟩:=AT e';obtain⟨n,e2,e'⟩:=AT e';refine⟨go,λc H2=>∃a,bD X.K Hs H2 c a/\sy gt gb (ds.drop (i+1)) a=Z r,λc H2 ⟨a,g,e3⟩=>⟨ds.length-(i+1),by omega,rfl,j,a,g,e3⟩,λx H2 v=>?_⟩;obtain⟨u,w⟩:=y x H2 v;refine⟨Hs,d,ds[i],o,f.grow u,w,e1,λA g _=>⟨Hs,o,n,g,e2,?_⟩⟩;cases n with
  |nx a=>exact λc z h=>⟨a,h,e'⟩
  |ct a=>exact λc z h=>⟨a,h,e'⟩
  |bk a=>cases e';exact q2
  |rt b=>cases e';exact q2
 ·left;have p:ds.length<=i:=by omega
  refine⟨y2 p,?_⟩;rw[cz p]at e';cases e';exact q2 σ' H' f
theorem pA{fi:Ev->Y (O Dt)}{gt:Dt->Ev->Y Ev}{gb:Ev->Y An}(hp:PassesOwn (eh X) X.A X.env X.xe)(C:X.calm=true)(hi:ET X tg iter fi)(g:D6 X tg gt)(f:QJ X body gb)(hs:∀x,foldedSetIterable iter X.env x=pure x:=by intro _;rfl):Sx X (.For tg iter body [] pos) (λρ=>(fi ρ).bind λds=>sy gt gb ds ρ):=⟨have hi:=hi.run;have g:=g.run;have f:=f.run;Yd (Uz hp C hi g f hs) λD σ H h=>by
 obtain⟨H0,ρ,r,E,e,q⟩:=h;obtain⟨ds,B,e⟩:=AT e;refine⟨H0,ρ,ds,E,B,λJ H1 n y=>?_⟩;have j:=E.grow n;refine qU j ?_ e q;refine y _ zH (λa b=>?_) (λa o u b=>jt j (λvs z=>by rw[b]at z;cases z) (λvs z=>by rw[b]at z;cases z)) λa vs b=>jt j (λvs z=>by rw[b]at z;cases z) (λvs z=>by rw[b]at z;cases z);unfold fH;split
 ·rename_i p;obtain⟨i,c,e1,s,e2⟩:=p;obtain⟨v,e3,l⟩:=E.val i _ e1;rw[e2]at e3;cases e3;cases c with
  |o ds=>obtain⟨t,vs,d,q,_⟩:=l;cases d;rw[b]at q;cases q
  |m ds _=>obtain⟨t,vs,d,q,_⟩:=l;cases d;rw[b]at q;cases q
  |_=>cases s
 ·rfl⟩
theorem bD.lend{ρ:Ev}{ds:O Dt}(E:bD K H0 H σ ρ)(h:ρ[i]?=Z (Z (.o ds))):bD K H0 H σ (ρ.set i (Z (.l ds))):=by
 have g:∀(j:Nat) (b:Bx),(ρ.set i (Z (.l ds)))[j]?=Z (Z b)->(j=i/\b=.l ds)\/(j≠i/\ρ[j]?=Z (Z b)):=λj b e=>by
  rcases BE e with⟨rfl,e',_⟩|⟨f,e'⟩
  ·cases e';exact .inl ⟨rfl,rfl⟩
  ·exact .inr ⟨f,e'⟩
 refine⟨by rw[kg];exact E.len,λj b e=>?_,λj k c a b e1 d e2 e3 n m=>?_,E.base,λj c a e1 d e2=>?_⟩
 ·rcases g j b e with⟨rfl,rfl⟩|⟨f,e'⟩
  ·obtain⟨v,e1,a,vs,e2,q,r⟩:=E.val _ _ h;exact⟨v,e1,a,vs,e2,.inl q,r⟩
  ·exact E.val j b e'
 ·rcases g j _ e1 with⟨rfl,z⟩|⟨f,e'⟩
  ·subst z;cases d
  ·rcases g k _ e3 with⟨rfl,z⟩|⟨s,p⟩
   ·exact E.own j _ c a _ e' d e2 h S m
   ·exact E.own j k c a b e' d e2 p n m
 ·rcases g j _ e1 with⟨rfl,z⟩|⟨f,e'⟩
  ·subst z;cases d
  ·exact E.new j c a e' d e2
def uP(i:Nat)(gt:Dt->Ev->Y Ev)(gb:Ev->Y An)(ρ:Ev):Y An:=match ρ[i]? with
 |some (Z (.o ds))=>sy gt gb ds (ρ.set i (Z (.l ds)))
 |some (Z (.l ds))=>sy gt gb ds ρ
 |some (Z b)=>(Vu b).bind λds=>sy gt gb ds ρ
 |_=>U
theorem Vv{ρ:Ev}{ds:O Dt}(E:bD X.K H0 H σ ρ)(h:ρ[i]?=Z (Z (.l ds))):∃a vs,σ[i]?=Z (Z (.ref a))/\qQ X.K H a vs/\B8 X.K (EX X.K a) ds (fH H σ ρ):=by
 obtain⟨v,e1,a,vs,rfl,q,r⟩:=E.val i _ h;have hk:fH H σ ρ a=H a:=by
  unfold fH;split
  ·rename_i f;obtain⟨j,c,e2,e,e3⟩:=f;have:=E.own j i c a _ e2 e e3 h S e1;subst this;rw[h]at e2;cases e2;cases e
  ·rfl
 refine⟨a,vs,e1,.inl q,.list (.inl ?_) (r.part (λb o u d=>jt E (λvs z=>by rw[d]at z;cases z) (λvs z=>by rw[d]at z;cases z)) λb ws d=>jt E (λvs z=>by rw[d]at z;cases z) (λvs z=>by rw[d]at z;cases z))⟩;rcases q with q|⟨o,q⟩
 ·exact .inl (hk.trans q)
 ·exact .inr ⟨o,hk.trans q⟩
theorem JH(i:Nat){p:Pos}{gt:Dt->Ev->Option Ev}{gb:Ev->Option An}(hp:PassesOwn (eh X) X.A X.env X.xe)(L:X.calm=true)(G:D6 X tg gt)(f:QJ X body gb)(K:X.N[i]?=Z x:=by rfl)(P:Qv X.env.scope x:=by first|exact QQ rfl|exact qh (QQ S)|exact qh (qh S))(hd:eg x:=by decide)(M:(x==("__classdict__":AJ))=false:=by decide)(hs:∀y,foldedSetIterable (.Name x p) X.env y=pure y:=by intro _;rfl):Sx X (.For tg (.Name x p) body [] pos) (uP i gt gb):=⟨have G:=G.run;have f:=f.run;Yd (Uz hp L (Ou (yF (i:=i) K P hd M)) G f hs) λD σ H h=>by
 obtain⟨H0,ρ,r,E,e,q⟩:=h;unfold uP at e;split at e
 ·rename_i ds t;have I:=E.lend t;have hi:i<ρ.length:=(af.mp t).1;obtain⟨a,vs,e1,sq,Y⟩:=Vv I (Ej _ hi);exact⟨_,e1,.inl ⟨a,rfl,⟨vs,sq⟩,qU I Y e q⟩⟩
 ·rename_i ds t;obtain⟨a,vs,e1,sq,Y⟩:=Vv E t;exact⟨_,e1,.inl ⟨a,rfl,⟨vs,sq⟩,qU E Y e q⟩⟩
 ·rename_i b J Q t;obtain⟨ds,g,e⟩:=AT e;obtain⟨v,e1,s⟩:=E.val i _ t;have B:∀b o u,H b=Z (.uD o u)->fH H σ ρ b=H b:=λb o u f=>jt E (λvs z=>by rw[f]at z;cases z) (λvs z=>by rw[f]at z;cases z);have F:∀b ws,H b=Z (.tup ws)->fH H σ ρ b=H b:=λb ws f=>jt E (λvs z=>by rw[f]at z;cases z) (λvs z=>by rw[f]at z;cases z);cases b with
  |z d=>
   cases d with
   |tup j=>
    cases g;simp only[aU,AW]at s;obtain⟨a,vs,rfl,c,C⟩:=s;refine⟨_,e1,.inr (.inl ⟨a,rfl,⟨vs,c⟩,qU E (.tup ?_ (C.part B F)) e q⟩)⟩;rcases c with (c|⟨o,c⟩)|c
    ·exact .inl (.inl ((F _ _ c).trans c))
    ·exact .inl (.inr ⟨o,(B _ _ _ c).trans c⟩)
    ·exact .inr c
   |lst j=>
    cases g;simp only[aU,AW]at s;obtain⟨a,vs,rfl,c,C⟩:=s;refine⟨_,e1,.inl ⟨a,rfl,⟨vs,c.sq⟩,qU E (.list ?_ (C.part B F)) e q⟩⟩;rcases c with⟨o,c⟩|c
    ·exact .inl (.inr ⟨o,(B _ _ _ c).trans c⟩)
    ·exact .inr c
   |str x=>
    cases g;simp only[aU,AW]at s;obtain⟨rfl,_⟩:=s;exact⟨_,e1,.inr (.inr ⟨x,rfl,qU E (.str x) e q⟩)⟩
   |_=>cases g
  |l j=>cases g
  |o j=>exact absurd S (J j)
  |n j=>cases g
  |m j=>cases g
 ·cases e⟩
end
def Bz(a:O (AJ×A1)):O (AJ×A1)->Prop
 |[]=>True
 |(n,c)::r=>a.lookup n=Z c/\Bz a r
theorem Bz.get{a:O (AJ×A1)}:∀{cl:O (AJ×A1)},Bz a cl->∀{x:AJ} {c:A1},cl.lookup x=Z c->a.lookup x=Z c
 |[],_,_,_,e=>by cases e
 |(n,d)::r,h,x,c,e=>by
  rw[ka]at e;by_cases hx:x==n
  ·simp only[hx]at e;cases e;have:x=n:=by simpa using hx
   rw[this];exact h.1
  ·have hx:(x==n)=false:=by simpa using hx
   simp only[hx]at e;exact Bz.get h.2 e
structure HG (X:Cx) (scope:Scope) (cl:List (Str×Addr)) (x:Str) (i:Nat):Prop where
 n:X.N[i]?=some x
 k:X.env.kindOf x=some .cell\/X.env.kindOf x=some .free
 k':(relabel scope X.env).names.lookup x=some .cell\/(relabel scope X.env).names.lookup x=some .free
 c:∃c,cl.lookup x=some c
def GX(X:Cx)(scope:Scope)(cl:O (AJ×A1)):AZ->O Nat->Prop
 |[],[]=>True
 |x::xs,i::is=>HG X scope cl x i/\GX X scope cl xs is
 |_,_=>False
theorem GX.get{X:Cx}{scope:Scope}{cl:O (AJ×A1)}:∀{xs:AZ} {is:O Nat},GX X scope cl xs is->xs.length=is.length/\∀(j:Nat) (x:AJ),xs[j]?=Z x->∃i,is[j]?=Z i/\HG X scope cl x i
 |[],[],_=>⟨rfl,λj x e=>by simp at e⟩
 |x::xs,i::is,h=>by
  obtain⟨h1,h2⟩:=h;obtain⟨l,g⟩:=GX.get h2;refine⟨by simp[l],λj y e=>?_⟩;cases j with
  |zero=>simp at e;subst e;exact⟨i,rfl,h1⟩
  |succ j=>obtain⟨k,e1,e2⟩:=g j y (by simpa using e);exact⟨k,by simpa using e1,e2⟩
 |[],_::_,h=>h.elim
 |_::_,[],h=>h.elim
def Fu(a:O (AJ×NameKind))(x:AJ):Bool:=match a.lookup x with
 |some .cell=>true
 |_=>false
def Ov(X:Cx)(a:AZ)(scope:Scope)(cl:O (AJ×A1))(C:A1)(s₀:A2)(H₀:Hp)(fp:O A1):Cx:=
 { X with N:=a,s₀:=s₀,H₀:=H₀,env:=compEnvC scope (cellsFrom (C+1) scope.names cl) C X.env,outer:=X.stack,ex:=fp,fn:=Fu scope.names,pn:=[],xe:=λ_ _=>False }
structure F6 (h:Heap) (cs:List (Str×Addr)):Prop where
 inj:∀x y c,cs.lookup x=some c->cs.lookup y=some c->x=y
 cell:∀x c,cs.lookup x=some c->∃v,h.IsCell c v
theorem jX{n:AJ}{a:α}{l:O (AJ×α)}(h:x≠n):((n,a)::l).lookup x=l.lookup x:=by
 rw[ka,beq_eq_false_iff_ne.mpr h]
theorem Vw:∀(g:O (AJ×NameKind)) (h:A6) (acc:O (AJ×A1)),F6 h acc->F6 (pushCells h g) (cellsFrom h.objs.size g acc)
 |[],_,_,x=>x
 |(n,k)::r,h,acc,x=>by
  unfold pushCells cellsFrom;split
  ·have f:∀y c,acc.lookup y=Z c->c≠h.objs.size:=λy c e=>let ⟨_,q⟩:=x.cell y c e;zC q.lt;have:=Vw r (h.push { cls:=.type "cell",data:=.cell U }) ((n,h.objs.size)::acc) ⟨λy z c e1 e2=>?_,λy c e=>?_⟩
   ·rwa [jI]at this
   ·by_cases a:y=n<;>by_cases d:z=n
    ·rw[a,d]
    ·subst a;rw[Jn]at e1;rw[jX d]at e2;cases e1;exact absurd S (f _ _ e2)
    ·subst d;rw[Jn]at e2;rw[jX a]at e1;cases e2;exact absurd S (f _ _ e1)
    ·rw[jX a]at e1;rw[jX d]at e2;exact x.inj y z c e1 e2
   ·by_cases a:y=n
    ·subst a;rw[Jn]at e;cases e;exact⟨U,_,zw _ rfl,rfl⟩
    ·rw[jX a]at e;obtain⟨v,q⟩:=x.cell y c e;exact⟨v,q.keeps λb o e=>zg _ e⟩
  ·exact Vw r h acc x
theorem zJ:∀(a:O (AJ×NameKind)) (n:Nat) (acc:O (AJ×A1)) (x:AJ) (c:A1),(cellsFrom n a acc).lookup x=Z c->acc.lookup x=Z c\/n<=c
 |[],_,_,_,_,e=>.inl e
 |(m,k)::r,n,acc,x,c,e=>by
  unfold cellsFrom at e;split at e
  ·rcases zJ r _ _ x c e with h|h
   ·by_cases hx:x=m
    ·subst hx;rw[Jn]at h;cases h;exact .inr (zo _)
    ·rw[jX hx]at h;exact .inl h
   ·exact .inr ()
  ·exact zJ r _ _ x c e
theorem JK:∀(b:O (AJ×NameKind)) (n:Nat) (acc:O (AJ×A1)) (x:AJ),(x,NameKind.cell)∉b->(cellsFrom n b acc).lookup x=acc.lookup x
 |[],_,_,_,_=>rfl
 |(m,k)::r,n,acc,x,h=>by
  unfold cellsFrom;have a:(x,NameKind.cell)∉r:=λz=>h (zh _ z);split
  ·rename_i hk;rw[JK r _ _ x a,jX λz=>h (by rw[z,<-beq_iff_eq.mp hk];exact ze ..)]
  ·exact JK r _ _ x a
theorem Ow:∀(a:O (AJ×NameKind)) (n:Nat) (acc:O (AJ×A1)) (x:AJ),((x,NameKind.cell)∈a\/∃c,acc.lookup x=Z c)->∃c,(cellsFrom n a acc).lookup x=Z c
 |[],_,_,_,h=>h.elim (λz=>by simp at z) λz=>z
 |(m,k)::r,n,acc,x,h=>by
  unfold cellsFrom;split
  ·refine Ow r _ _ x ?_;by_cases hx:x=m
   ·exact .inr ⟨n,by rw[hx,Jn]⟩
   ·rw[jX hx];exact h.imp_left λz=>(List.mem_cons.mp z).elim (λz=>absurd (congrArg Prod.fst z) hx) λz=>z
  ·rename_i hk;exact Ow r _ _ x (h.imp_left λz=>(List.mem_cons.mp z).elim (λz=>by cases z;exact absurd S hk) λz=>z)
theorem Sy{g:A1}{Q:Env->A2->Prop}(h:Q (newEnv scope s.heap.objs.size g (cellsFrom (s.heap.objs.size+1) scope.names cl) qual U .none (Z env) builtinsNs) { s with heap:=pushCells (s.heap.push { cls:=.type "dict",data:=.dict #[] }) scope.names }):
  A7 M A (newFunctionEnv scope g cl [] qual U .none (Z env)) Q E s:=by
 simp only[newFunctionEnv,bu,qk];refine zb (wpAny_alloc ?_);refine zb (wpAny_layCells _ (λname a b=>by cases a==NameKind.cell<;>simp) _ _ _ _ ?_);rw[show({ s with heap:=s.heap.push { cls:=.type "dict",data:=.dict #[] } }:A2).heap.objs.size=s.heap.objs.size+1 from jI ..];rw[List.forIn_nil];exact zb (zd (zd h))
structure yG (X:Cx) (scope:Scope) (cl:List (Str×Addr)) (xs:AZ) (is:List Nat):Prop where
 clos:closureFor scope X.env=pure cl
 kind:scope.kind=.function
 cell:∀y∈scope.names,y.2=.cell->cl.lookup y.1=none
 names:∀y∈scope.names,y.2=.local->scope.names.lookup y.1=some .local
 sub:Bz X.env.cells cl
 has:∀x,((relabel scope X.env).names.lookup x=some .cell\/(relabel scope X.env).names.lookup x=some .free)->(x,NameKind.cell)∈scope.names\/∃c,cl.lookup x=some c
 cap:GX X scope cl xs is
def sE(is:O Nat)(σ:L2.St):L2.St:=is.map λi=>(σ[i]?).bind λv=>v
def j7(is:O Nat)(ρ:Ev):Ev:=is.map λi=>CV ρ i
def Cf(n m:Nat)(g:Dt->Ev->Y Ev):Prop:=∀d ρ a,g d ρ=Z a->a.length=ρ.length/\∀j,j<n\/m<=j->a[j]?=ρ[j]?
def Za(n m:Nat)(g:O Dt->Ev->Y Ev):Prop:=∀d ρ a,g d ρ=Z a->a.length=ρ.length/\∀j,j<n\/m<=j->a[j]?=ρ[j]?
theorem bL(h:n<=i:=by decide)(h':i<m:=by decide):Cf n m (λd ρ=>Z (ρ.set i (Z (.z d)))):=λd ρ b e=>by
 cases e;exact⟨by rw[kg],λj a=>Ek _ ()⟩
theorem zK:Za n m pq:=λd ρ a e=>by
 cases d with
 |nil=>cases e;exact⟨rfl,λ_ _=>S⟩
 |cons=>cases e
theorem gM{g:Dt->Ev->Y Ev}{gs:O Dt->Ev->Y Ev}(h:Cf n m g)(hs:Za n m gs):Za n m (bW g gs):=λd ρ o e=>by
 cases d with
 |nil=>cases e
 |cons d ds=>
  simp only[bW]at e;obtain⟨l,e1,e⟩:=AT e;obtain⟨a,b⟩:=h _ _ _ e1;obtain⟨f,i⟩:=hs _ _ _ e;exact⟨f.trans a,λj c=>(i j c).trans (b j c)⟩
theorem El{k:Nat}{gs:O Dt->Ev->Y Ev}(hs:Za n m gs):Cf n m (mK k gs):=λd ρ a e=>by
 cases d with
 |tup ds=>
  simp only[mK]at e;split at e
  ·exact hs _ _ _ e
  ·cases e
 |_=>cases e
def CW(gt:Dt->Ev->Y Ev)(p:Ev->Y Bool)(fs:Ev->Y (O Dt))(ρ:Ev):O Dt->Y (O Dt)
 |[]=>Z []
 |d::ds=>(gt d ρ).bind λa=>(p a).bind λk=>if k=true then(fs a).bind λys=>(CW gt p fs ρ ds).bind λzs=>Z (ys++zs)else CW gt p fs ρ ds
def Eg:Bx->Y (O Dt)
 |.z y=>Z [y]
 |_=>U
def HW(gt:Dt->Ev->Y Ev)(p:Ev->Y Bool)(fe:Ev->Y Bx)(ρ:Ev):O Dt->Y (O Dt):=CW gt p (λρ=>(fe ρ).bind Eg) ρ
theorem HX{b:Bx}{ys:O Dt}(h:Eg b=Z ys):∃y,b=.z y/\ys=[y]:=by
 cases b<;>cases h;exact⟨_,rfl,rfl⟩
theorem Bb{gt:Dt->Ev->Y Ev}{p:Ev->Y Bool}{fe:Ev->Y Bx}{ρ:Ev}:∀{ds out:O Dt},HW gt p fe ρ ds=Z out->out.length<=ds.length
 |[],_,e=>by cases e;exact zo _
 |d::ds,out,e=>by
  simp only[HW,CW]at e;obtain⟨f,_,e⟩:=AT e;obtain⟨k,_,e⟩:=AT e;cases k with
  |false=>
   rw[zS Zp]at e;exact zD (Bb (gt:=gt) (p:=p) (fe:=fe) e) (by simp)
  |true=>
   rw[zr rfl]at e;obtain⟨ys,a,e⟩:=AT e;obtain⟨zs,c,e⟩:=AT e;obtain⟨b,_,a⟩:=AT a;obtain⟨y,_,rfl⟩:=HX a;cases e;simpa using Bb (gt:=gt) (p:=p) (fe:=fe) c
def C6(X:Cx)(ifs:O Expr)(p:Ev->Y Bool):Prop:=(ifs=[]/\p=λ_=>Z true)\/∃c,ifs=[c]/\PB X c p
structure JL (X:Cx) (ifs:List Expr) (p:Ev->Option Bool):Prop where
 run:C6 X ifs p
section
variable{xs:AZ}{gt:Dt->Ev->Y Ev}{p:Ev->Y Bool}{fe:Ev->Y Bx}{fi:Ev->Y (O Dt)}
theorem Vx{s:Hp}{d:A2}(a:L2.AU X AN σ s d)(O:yG X scope cl xs is)(w:∀b∈fp,uq X AN s b)(B:∀b∈fp,b<d.heap.objs.size):
  L2.AU (Ov X (xs++ts) scope cl d.heap.objs.size d s fp) [] (sE is σ++aa ts.length U) s { d with heap:=pushCells (d.heap.push { cls:=.type "dict",data:=.dict #[] }) scope.names }:=by
 obtain⟨I,W⟩:=O.cap.get;have m:=O.sub;have J:(d.heap.push { cls:=.type "dict",data:=.dict #[] }).objs.size=d.heap.objs.size+1:=jI ..;have hk:∀b o,d.heap.get? b=Z o->(pushCells (d.heap.push { cls:=.type "dict",data:=.dict #[] }) scope.names).get? b=Z o:=λb o e=>pushCells_keeps _ _ b o (zg _ e);have A:F6 (pushCells (d.heap.push { cls:=.type "dict",data:=.dict #[] }) scope.names) (cellsFrom (d.heap.objs.size+1) scope.names cl):=by
  rw[<-J];refine Vw _ _ _ ⟨λx y c e1 e2=>a.ok.inj x y c (m.get e1) (m.get e2),λx c e=>?_⟩;obtain⟨v,q⟩:=a.cell x c (m.get e);exact⟨v,q.keeps λb o e=>zg _ e⟩
 have C:∀x c,(cellsFrom (d.heap.objs.size+1) scope.names cl).lookup x=Z c->X.env.cells.lookup x=Z c\/d.heap.objs.size<c:=λx c e=>(zJ _ _ _ x c e).imp_left m.get;refine⟨⟨a.ok.mod,O.kind,a.ok.glob,a.ok.blt,zo _,A.inj,λx hx=>Ow _ _ _ x (O.has x hx),λx c hx e=>?_,a.ok.hd,a.ok.frames,.inl rfl,λb f=>⟨zC (B b f),λx c e=>?_⟩,a.bs,zD a.ok.Ym a.sz,λb o e f=>?_,λb f K=>?_,a.stack,a.Jl,a.ok.tabs.go a.base.zp⟩,
  rfl,a.bare,Un.kept hk,⟨_,(Heap.Ns.new d.heap (.type "dict")).keeps (pushCells_keeps _ _),λj x v e1 e2 _=>?_⟩,A.cell,a.hok.fresh (zo _),λx c e=>(C x c e).elim (a.qR x c) λh=>a.hok.fresh (jS h),λq P=>absurd (show q∈([]:List (A1×AE)) from P) (by simp),a.hok.kept hk,?_⟩
 ·refine(zJ _ _ _ x c e).elim (λh=>?_) λh=>jS h;have hx:(x,NameKind.cell)∈scope.names:=by
   have hx:Fu scope.names x=true:=hx;unfold Fu at hx;split at hx
   ·rename_i q;exact mem_of_lookup q
   ·cases hx
  rw[O.cell _ hx rfl]at h;cases h
 ·rcases C x c e with h|h
  ·exact(w b f).2.2.2.2.1 x c h
  ·exact be (bi (B b f) h)
 ·obtain⟨_,_,_,z,_⟩:=w b f;rcases z with z|z
  ·exact a.ok.Uu b o e z
  ·exact absurd (Zl (zt e) (zD a.ok.Ym z)) (jn _)
 ·obtain⟨_,F,G,_⟩:=w b f;rcases List.mem_cons.mp (a.Jk b K)with z|z
  ·exact F z
  ·exact G z
 ·have D:j<is.length:=by
   by_cases D:j<is.length
   ·exact D
   ·rw[qS (by simp[sE];omega)]at e2;rw[QI]at e2;split at e2<;>cases e2
  have L:xs[j]?=Z x:=by
   have e1:(xs++ts)[j]?=Z x:=e1;rw[ZE ()]at e1;exact e1
  obtain⟨i,E,g⟩:=W j x L;have e3:σ[i]?=Z (Z v):=by
   rw[ZE (by simp[sE];omega)]at e2;unfold sE at e2;rw[ZI,E]at e2;cases q:σ[i]? with
   |none=>rw[k4,q]at e2;cases e2
   |some o=>
    rw[k4,q]at e2;have:o=Z v:=by simpa using e2
    rw[this]
  have Q:Qv X.env.scope x:=by
   rcases g.k with k|k
   ·exact .inr (.inl k)
   ·exact .inr (.inr k)
  obtain⟨m',a1,a0⟩:=a.loc;obtain⟨u,r,l⟩:=a0 i x v g.n e3 Q;refine⟨u,r,?_⟩;rcases l with⟨k,_⟩|⟨k,c,N,H⟩
  ·rcases g.k with t|t<;>(rw[k]at t;cases t)
  ·obtain⟨c',p⟩:=g.c;have:=m.get p;rw[N]at this;cases this;refine .inr ⟨g.k',c,(JK _ _ _ x λz=>by rw[O.cell _ z rfl]at p;cases p).trans p,?_⟩;obtain⟨o,M,hd⟩:=H;exact⟨o,hk c o M,hd⟩
 ·show(sE is σ++aa ts.length U).length=(xs++ts).length;simp[sE,I]
theorem bD.caps{ρ:Ev}(E:bD K H0 H σ ρ)(is:O Nat)(n:Nat):bD K H H (sE is σ++aa n U) (j7 is ρ++aa n U):=by
 have f:∀(j:Nat) c,(j7 is ρ++aa n U)[j]?=Z (Z c)->zG c=false:=λj c e=>by
  by_cases g:j<is.length
  ·rw[ZE (by simp[j7];omega)]at e;unfold j7 at e;rw[ZI]at e;cases q:is[j]? with
   |none=>rw[q]at e;cases e
   |some i=>
    rw[q]at e;have:CV ρ i=Z c:=by simpa using e
    exact Dl this
  ·rw[qS (by simp[j7];omega),QI]at e;split at e<;>cases e
 refine⟨by simp[sE,j7],λj b e=>?_,λj k c a b e d=>absurd d (by rw[f j c e];exact Zp),AV.refl H,λj c a e d=>absurd d (by rw[f j c e];exact Zp)⟩;by_cases g:j<is.length
 ·rw[ZE (by simp[j7];omega)]at e;rw[ZE (by simp[sE];omega)];unfold j7 at e;unfold sE;rw[ZI]at e ⊢;cases q:is[j]? with
  |none=>rw[q]at e;cases e
  |some i=>
   rw[q]at e;have:CV ρ i=Z b:=by simpa using e
   obtain⟨v,e1,r⟩:=Li E this;exact⟨v,by simp[e1],r⟩
 ·rw[qS (by simp[j7];omega),QI]at e;split at e<;>cases e
theorem bD.forget{ρ ρ':Ev}(E:bD K H0 H σ ρ')(l:ρ'.length=ρ.length)(h:∀(j:Nat) b,ρ[j]?=Z (Z b)->ρ'[j]?=Z (Z b)):bD K H0 H σ ρ:=
 ⟨E.len.trans l,λj b e=>E.val j b (h j b e),λi j c a b e1 d e2 e3 f g=>E.own i j c a b (h _ _ e1) d e2 (h _ _ e3) f g,E.base,λi c a e1 d e2=>E.new i c a (h _ _ e1) d e2⟩
structure Cs (Hb:Hp) (σ:L2.St) (ρ:Ev) (n:Nat):Prop where
 own:∀(j:Nat) c,ρ[j]?=some (some c)->zG c=false
 lt:∀(j:Nat) b,ρ[j]?=some (some b)->j<n
 old:∀(j:Nat) c a,ρ[j]?=some (some c)->loose c=true->σ[j]?=some (some (.ref a))->Hb a≠none
def Fx(σ σ':L2.St)(ρ:Ev):Prop:=∀(j:Nat) c,loose c=true->ρ[j]?=Z (Z c)->σ'[j]?=σ[j]?
theorem Cs.fx{d:Hp}{σ':L2.St}{ρ:Ev}(P:Cs d σ ρ n)(f:Fx σ σ' ρ):Cs d σ' ρ n:=⟨P.own,P.lt,λj c a e b ea=>P.old j c a e b (by rw[<-f j c b e];exact ea)⟩
theorem DM{ρ:Ev}(E:bD K H0 H σ ρ)(j:Nat)(c:Bx)(a:A1)(e:ρ[j]?=Z (Z c))(h:loose c=true)(ea:σ[j]?=Z (Z (.ref a))):H a≠U:=λz=>by
 obtain⟨v,e1,b⟩:=E.val j _ e;rw[ea]at e1;cases e1;cases c with
 |z d=>cases h
 |l f=>
  obtain⟨g,vs,e2,q,_⟩:=b;cases e2;rcases q with q|⟨o,q⟩<;>(rw[z]at q;cases q)
 |n f=>
  obtain⟨g,vs,e2,q,_⟩:=b;cases e2;rcases q with q|⟨o,q⟩<;>(rw[z]at q;cases q)
 |o f=>
  obtain⟨g,vs,e2,q,_⟩:=b;cases e2;rw[z]at q;cases q
 |m f _=>
  obtain⟨g,vs,e2,q,_⟩:=b;cases e2;rw[z]at q;cases q
theorem bD.grown{g:Hp}{ρ:Ev}{D:A1}(E:bD K g H σ ρ)(P:Cs g σ ρ n)(t:g D=U)(kp:Kp H (B6 H D o)):bD K g (B6 H D o) σ ρ:=by
 refine⟨E.len,λj b e=>?_,λj k c a b e p=>absurd p (by rw[P.own j c e];exact Zp),λc o e=>?_,λj c a e p=>absurd p (by rw[P.own j c e];exact Zp)⟩
 ·obtain⟨v,ev,i⟩:=E.val j b e;refine⟨v,ev,?_⟩;cases b with
  |z d=>exact AW.kp kp i
  |o h=>have:=P.own j _ e;cases this
  |m h _=>have:=P.own j _ e;cases this
  |n h=>
   obtain⟨a,vs,rfl,q,s⟩:=i;refine⟨a,vs,rfl,?_,s.kp kp⟩;have f:a≠D:=λz=>P.old j _ _ e S ev (by rw[z];exact t);exact q.imp (λq=>by rw[aX f];exact q) λ⟨o,q⟩=>⟨o,by rw[aX f];exact q⟩
  |l h=>
   obtain⟨a,vs,rfl,q,s⟩:=i;refine⟨a,vs,rfl,?_,s.kp kp⟩;have f:a≠D:=λz=>P.old j _ _ e S ev (by rw[z];exact t);exact q.imp (λq=>by rw[aX f];exact q) λ⟨o,q⟩=>⟨o,by rw[aX f];exact q⟩
 ·rw[aX (cu e t)];exact E.base c o e
def Zb(X:Cx)(el:A1->Env->Sem Unit)(fs:Ev->Y (O Dt))(Ac:A1->Hp->O Dt->HO->Prop)(N n:Nat):Prop:=∀(AN:O (A1×AE)) (s:A2) (σ:L2.St) (H a:Hp) (ρ:Ev) (D:A1) (o:HO) (b ys:O Dt),L2.AU X AN σ H s->bD X.K a H σ ρ->Cs a σ ρ n->a D=U->fs ρ=Z ys->H D=Z o->Ac D H b o->b.length+ys.length<=N →
 A7 (eh X) X.A (el D X.env) (λ_ s'=>∃ σ' H' o',L2.AU X AN σ' H' s'/\bD X.K a H' σ' ρ/\Fx σ σ' ρ/\H' D=Z o'/\Ac D H' (b++ys) o') X.xe s
theorem KP{fs:Ev->Y (O Dt)}{Ac:A1->Hp->O Dt->HO->Prop}{N:Nat}(h:∀(AN:O (A1×AE)) (s:A2) (σ:L2.St) (H c:Hp) (ρ:Ev) (D:A1) (o:HO) (b ys:O Dt),L2.AU X AN σ H s->bD X.K c H σ ρ->fs ρ=Z ys->H D=Z o->Ac D H b o->b.length+ys.length<=N →
  A7 (eh X) X.A (el D X.env) (λ_ s'=>∃a o',L2.AU X AN σ (B6 a D o') s'/\AV H a/\Kp a (B6 a D o')/\Ac D (B6 a D o') (b++ys) o') X.xe s):Zb X el fs Ac N n:=λAN s σ H c ρ D o b ys I E P d e1 e2 a1 l=>by
 refine ZU (h AN s σ H c ρ D o b ys I E e1 e2 a1 l) (λ_ s' ⟨a,o',I',s9,kp,a'⟩=>?_) λ_ _ z=>z;exact⟨σ,_,o',I',(E.grow s9).grown P d kp,λ_ _ _ _=>S,aW,a'⟩
structure QK (B:Around->Bool->Prop) (P:Program) (w:World) (K:B5) (tg:Expr) (J:It) (fp:List Addr) (it:Addr) (tn:Nat->Heap->Prop):Prop where
 obj:∀i h,tn i h->∀b∈fp,∃o,h.get? b=some o/\∀v,o.data≠.cell v
 keep:∀i h h',tn i h->(∀b∈fp,∀o,h.get? b=some o->h'.get? b=some o)->tn i h'
 item:∀(X:Cx),X.prog=P->X.w=w->X.K=K->B X.A X.calm->∀(i:Nat) (AN:List (Addr×Obj)) (s:Shared) (σ:L2.St) (H:Hp) (E:BF),L2.AU X AN σ H s->(∀b∈fp,uq X AN H b)->tn i s.heap->J.go i H →
  wpAny (model P w) X.A (pyNext (.ref it)) (λr s1=>∃u,r=some u ∧
   wpAny (model P w) X.A (letOwnedTupleGo tg (.ref it) u) (λ_ s2=>∃x H',L2.AU X AN σ H' s2/\As x u/\J.yld i H x H'/\tn (i+1) s2.heap/\∀b∈fp,H' b=none) E s1) E s
 done:∀(X:Cx),X.prog=P->X.w=w->X.K=K->B X.A X.calm->∀(i:Nat) (AN:List (Addr×Obj)) (s:Shared) (σ:L2.St) (H:Hp) (E:BF),L2.AU X AN σ H s->(∀b∈fp,uq X AN H b)->tn i s.heap->J.stop i H →
  wpAny (model P w) X.A (pyNext (.ref it)) (λr s1=>r=none/\L2.AU X AN σ H s1) E s
 self:∀(A:Around) (i:Nat) (s:Shared) (Q:BF) (E:BF),tn i s.heap->Q (.ref it) s->wpAny (model P w) A (pyIter (.ref it)) Q E s
abbrev Vy:A5->Bool->Prop:=λ_ c=>c=true
theorem HH{tn:Nat->A6->Prop}(T:C8 P w K tg J fp it tn):QK Vy P w K tg J fp it tn:=⟨T.obj,T.keep,T.item,T.done,T.self⟩
theorem SJ{B:A5->Bool->Prop}{G:Expr}{d:Nat}{d2:Pos}{Ac:A1->Hp->O Dt->HO->Prop}{fs:Ev->Option (O Dt)}{N:Nat}{l:Hp}{D:A1}{tn:Nat->A6->Prop}{ds o0 out:O Dt}{ρ:Ev}{R:Result->A2->Prop}(b0:B X.A X.calm)(hx:X.xe=λ_ _=>False)(SM:EF X tgt gt)(c3:C6 X ifs p)(c8:Zb X el fs Ac N m)(c4:Cf n m gt)(b7:n<=m)(I:L2.AU X AN σ H s)(E:bD X.K l H σ ρ)(P:Cs l σ ρ n)(hD:l D=U)(c1:H D=Z o)(hA:Ac D H o0 o)(T:QK B X.prog X.w X.K tgt J fp it tn)(st:tn 0 s.heap)(hf:∀b∈fp,uq X AN H b)(Y:B8 X.K J ds l)(c0:CW gt p fs ρ ds=Z out)(hN:o0.length+out.length<=N)(a6:∀{D:A1} {H H':Hp} {t:O Dt} {o:HO},Kp H H'->Ac D H t o->Ac D H' t o)(c6:∀(it:A0) (D:A1) (env:Env),compTurn G d it (.ref D) env=(standAt d2 >>= λ_=>pyNext it >>= λr=>match r with
   |none=>pure (.done .next)
   |some v=>letOwnedTupleGo tgt it v >>= λ_=>assign tgt env v >>= λ_=>(forIn ifs true λc r=>if r=true then isTrue c env (eval c env) >>= λok=>pure (ForInStep.yield ok)else pure (ForInStep.yield r)) >>= λok=>if ok=true then el D env >>= λ_=>again (.compLoop G d it (.ref D) env)else again (.compLoop G d it (.ref D) env)))(d1:∀{it acc:A0} {env:Env} {Q:Fin->A2->Prop} {E:BF} {s:A2},A7 (eh X) X.A ((compTurn G d it acc env).onRaise (λx=>noteFrame x env >>= λ_=>theTreesLotGoes x)) Q E s->A7 (eh X) (X.A.under (.compLoop G d it acc env)) ((eh X).den (.compLoop G d it acc env)) Q E s)(hR:∀s' σ' H' o',L2.AU X AN σ' H' s'->bD X.K l H' σ' ρ->Fx σ σ' ρ->H' D=Z o'->Ac D H' (o0++out) o'->R (.ok .next) s'):
  AF (eh X) X.A (.compLoop G d (.ref it) (.ref D) X.env) R s:=by
 have a8:∀{H':Hp},(∀b∈fp,H' b=U)->∀b∈fp,uq X AN H' b:=λ{H'} hn b C=>⟨hn b C,(hf b C).2⟩;refine codeAny_loop S (λk s'=>∃(i:Nat) (σ':L2.St) (H':Hp) (t o2:O Dt) (o:HO),k=ds.length-i/\i<=ds.length/\L2.AU X AN σ' H' s'/\tn i s'.heap/\(∀b∈fp,H' b=U)/\bD X.K l H' σ' ρ/\Fx σ σ' ρ/\H' D=Z o/\Ac D H' t o/\CW gt p fs ρ (ds.drop i)=Z o2/\t++o2=o0++out) ?_ ds.length
  ⟨0,σ,H,o0,out,o,by simp,Z3 _,I,st,λb C=>(hf b C).1,E,λ_ _ _ _=>S,c1,hA,by simpa using c0,rfl⟩
 rintro k s4 ⟨i,a3,H4,t,o2,o,rfl,hi,I4,b4,b3,E4,F4,a1,r4,g,ho⟩;have P4:=P.fx F4;refine d1 (wpAny_noted ?_);rw[c6];obtain⟨y1,y2⟩:=Y i H4 E4.base;by_cases a4:i<ds.length
 ·have hd:ds[i]?=Z ds[i]:=by simp[a4]
  obtain⟨go,yl⟩:=y1 _ hd;rw[bP a4]at g;simp only[CW]at g;obtain⟨y,e1,g⟩:=AT g;obtain⟨k,ek,g⟩:=AT g;obtain⟨b9,a7⟩:=c4 _ _ _ e1;have b6:∀{a0:L2.St} {H5:Hp},bD X.K l H5 a0 y->bD X.K l H5 a0 ρ:=λE5=>E5.forget b9 λj b e=>by rw[a7 j (.inl (P.lt j b e))];exact e
  refine zb (kP (zb ?_));refine jF (T.item X S S S b0 i AN s4 a3 H4 _ I4 (a8 b3) b4 go) λr s5 ⟨u,hr,h5⟩=>?_;subst hr;refine zb (jF h5 λ_ s6 ⟨x,H6,I6,r6,y6,DO,fr6⟩=>?_);obtain⟨sm,rx⟩:=yl x H6 y6;have E4:=E4.grow sm;have a1:=sm _ _ a1;have r4:=a6 (.of sm) r4;have d0:=I6.pinned (a8 fr6) (T.obj _ _ DO);have ha:=SM _ s6 a3 H6 x u (λσ' H'=>H'=H6/\bD X.K l H6 σ' y/\Lo a3 ρ σ' y) d0 r6 ⟨l,ρ,ds[i],y,E4,rx,e1,λσ' E' L'=>⟨rfl,E',L'⟩⟩;rw[hx]at ha;refine zb (ZU ha (λ_ s7 h7=>?_) λ_ _ z=>z.elim);obtain⟨L,H7,I7,rfl,E7,L7⟩:=h7;have P7:Cs l L y m:=by
   refine⟨λj c e=>?_,λj c e=>?_,λj c a e F ea=>?_⟩
   ·cases c with
    |o ds=>exact P.own j _ (L7 j _ S e).1
    |m ds _=>exact P.own j _ (L7 j _ S e).1
    |_=>rfl
   ·refine Nat.lt_of_not_le λh=>?_;rw[a7 j (.inr h)]at e;exact absurd (Zl (P.lt j c e) b7) (dV.mpr h)
   ·obtain⟨e',ee⟩:=L7 j c F e;exact P4.old j c a e' F (by rw[<-ee];exact ea)
  have a9:∀{a0:L2.St},Fx L a0 y->Fx σ a0 ρ:=λf j c F e=>by
   have e':y[j]?=Z (Z c):=by rw[a7 j (.inl (P.lt j c e))];exact e
   exact(f j c F e').trans ((L7 j c F e').2.trans (F4 j c F e))
  have ht:A7 (eh X) X.A (forIn ifs true λc r=>if r=true then do let ok <-isTrue c X.env (eval c X.env);pure (ForInStep.yield ok)else pure (ForInStep.yield r))
    (λok s8=>ok=k/\∃q,L2.AU X (AN++Ax fp s6.heap) L q s8/\AV H7 q) (notedBy (eh X) X.A X.env λe s'=>R (.error e) s') s7:=by
   rcases c3 with⟨rfl,rfl⟩|⟨c,rfl,hc⟩
   ·cases ek;exact wpAny_tests_nil ⟨rfl,H7,I7,AV.refl H7⟩
   ·refine wpAny_tests_one ?_;have:=hc _ s7 L H7 (λb q=>b=k/\AV H7 q) I7 ⟨l,y,k,E7,ek,λq s8=>⟨rfl,s8⟩⟩;rw[hx]at this;exact ZU this (λb s8 ⟨q,I8,eb,s8'⟩=>⟨eb,q,I8,s8'⟩) λ_ _ z=>z.elim
  refine zb (ZU ht (λok s8 h8=>?_) λ_ _ z=>z);obtain⟨rfl,q,I8,W⟩:=h8;have Vz:∀{a2:L2.St} {M:Hp} {s9:A2},L2.AU X (AN++Ax fp s6.heap) a2 M s9->L2.AU X AN a2 M s9/\tn (i+1) s9.heap/\∀b∈fp,M b=U:=λ{a2 M s9} I9=>by
   refine⟨I9.uI,T.keep _ _ _ DO λb C o e=>(I9.pin (b,o) (zz _ (zz _ (rW C e)))).1,λb C=>?_⟩;obtain⟨o,e,d⟩:=T.obj _ _ DO b C;exact(I9.pin (b,o) (zz _ (zz _ (rW C e)))).2.1
  cases ok with
  |false=>
   rw[zS Zp]at g;obtain⟨I9,c9,d3⟩:=Vz I8;exact zd ⟨rfl,ds.length-(i+1),by omega,i+1,L,q,t,o2,o,rfl,a4,I9,c9,d3,b6 (E7.grow W),a9 (λ_ _ _ _=>S),W _ _ a1,a6 (.of W) r4,g,ho⟩
  |true=>
   rw[zr rfl]at g;obtain⟨ys,eb,g⟩:=AT g;obtain⟨zs,e5,g⟩:=AT g;cases g;have F:=congrArg aE ho;simp only[qr]at F;have he:=c8 _ s8 L q l y D o t ys I8 (E7.grow W) P7 hD eb (W _ _ a1) (a6 (.of W) r4) ();rw[hx]at he;refine zb (ZU he (λ_ d8 b8=>?_) λ_ _ z=>z.elim);obtain⟨a2,M,o',c5,E9,F9,d4,a5⟩:=b8;obtain⟨c2,d5,d6⟩:=Vz c5;exact zd ⟨rfl,ds.length-(i+1),by omega,i+1,a2,M,t++ys,zs,o',rfl,a4,c2,d5,d6,b6 E9,a9 F9,d4,a5,e5,by rw[JE];exact ho⟩
 ·have b5:ds.length<=i:=by omega
  rw[cz b5]at g;cases g;refine zb (kP (zb ?_));refine jF (T.done X S S S b0 i AN s4 a3 H4 _ I4 (a8 b3) b4 (y2 b5)) λr s5 ⟨hr,I5⟩=>?_;subst hr;rw[Q2]at ho;exact zd (hR s5 a3 H4 o I5 E4 F4 a1 (by rw[<-ho];exact r4))
theorem SN{B:A5->Bool->Prop}{f:Expr}{mk:Sem A0}{o0:AE}{O0:HO}{Ac:A1->Hp->List Dt->HO->Prop}{fs:Ev->Option (List Dt)}{N:Nat}{H2:Hp}{a:A2}{tn:Nat->A6->Prop}{ds out:List Dt}{ρ:Ev}(O:yG X scope cl xs is)(b3:B X.A X.calm)(SM:∀C n t fp,EF (Ov X (xs++ts) scope cl C n t fp) tgt gt)(c9:∀C n t fp,C6 (Ov X (xs++ts) scope cl C n t fp) ifs p)(c0:∀C n t fp,Zb (Ov X (xs++ts) scope cl C n t fp) el fs Ac N m)(a4:Cf is.length m gt)(a7:is.length<=m)(P:L2.AU X AN σ H2 a)(Ec:bD X.K H2 H2 (sE is σ++aa ts.length U) (j7 is ρ++aa ts.length U))(T:QK B X.prog X.w X.K tgt J fp it tn)(st:tn 0 a.heap)(L:∀b∈fp,uq X AN H2 b)(Y:B8 X.K J ds H2)(a8:CW gt p fs (j7 is ρ++aa ts.length U) ds=Z out)(c6:out.length<=N)(c4:∀(D C:A1) (s':A2) (H':Hp) (o:HO),H2 D=U->L2.AU X AN σ H' s'->uq X AN H' C->(∃m,s'.heap.Ns C m)->AV H2 H'->H' D=Z o->Ac D H' out o->RR (.ref D) C (.ok .next) s')(c3:∀{Q:BF},Q (.ref a.heap.objs.size) { a with heap:=a.heap.push o0 }->A7 (eh X) X.A mk Q E a)(c8:∀H,gJ X.prog X.w H (a.heap.push o0) a.heap.objs.size O0)(b7:∀H,Ac a.heap.objs.size H [] O0)(a9:∀{D:A1} {H H':Hp} {M:List Dt} {o:HO},Kp H H'->Ac D H M o->Ac D H' M o)(b4:∀(it:A0) (D:A1) (env:Env),compTurn f 0 it (.ref D) env=(standAt iter.pos >>= λ_=>pyNext it >>= λr=>match r with
   |none=>pure (.done .next)
   |some v=>letOwnedTupleGo tgt it v >>= λ_=>assign tgt env v >>= λ_=>(forIn ifs true λc r=>if r=true then isTrue c env (eval c env) >>= λok=>pure (ForInStep.yield ok)else pure (ForInStep.yield r)) >>= λok=>if ok=true then el D env >>= λ_=>again (.compLoop f 0 it (.ref D) env)else again (.compLoop f 0 it (.ref D) env)))(c1:∀{it acc:A0} {env:Env} {R:Result->A2->Prop} {s:A2},AF (eh X) X.A (.compLoop f 0 it acc env) R s->A7 (eh X) X.A (pyIter it) (λc5 s'=>AF (eh X) X.A (.compLoop f 0 c5 acc env) R s') (notedBy (eh X) X.A env λx s'=>R (.error x) s') s->AF (eh X) X.A (.compStart f 0 it acc env) R s)(c2:∀{it acc:A0} {env:Env} {Q:Fin->A2->Prop} {E:BF} {s:A2},A7 (eh X) X.A ((compTurn f 0 it acc env).onRaise (λx=>noteFrame x env >>= λ_=>theTreesLotGoes x)) Q E s->A7 (eh X) (X.A.under (.compLoop f 0 it acc env)) ((eh X).den (.compLoop f 0 it acc env)) Q E s):
  A7 (eh X) X.A mk (λacc b5=>A7 (eh X) X.A (newFunctionEnv scope X.env.globals cl [] X.env.qual U .none (Z X.env)) (λa1 a6=>
   AF (eh X) X.A (.compStart f 0 (.ref it) acc { a1 with scope:=relabel scope X.env }) (RR acc a1.locals) a6) E b5) E a:=by
 refine c3 (Sy ?_);have I:H2 a.heap.objs.size=U:=P.hok.fresh (zo _);have y:L2.AU X AN σ (B6 H2 a.heap.objs.size O0) { a with heap:=a.heap.push o0 }:=
  P.laid (t':=a.toks) (λb o e=>zg _ e) (zo _) (c8 _)
 have a3:∀b∈fp,b<a.heap.objs.size:=λb d=>let ⟨o,e,_⟩:=T.obj 0 _ st b d;zt e;have F:∀b∈fp,uq X AN (B6 H2 a.heap.objs.size O0) b:=λb d=>⟨by rw[aX (zC (a3 b d))];exact(L b d).1,(L b d).2⟩;have a0:tn 0 (a.heap.push o0):=T.keep 0 _ _ st λb d o e=>zg _ e;have u:∀b∈fp,b<(a.heap.push o0).objs.size:=λb d=>by rw[jI];exact kA (a3 b d)
 generalize b0:({ a with heap:=a.heap.push o0 }:A2)=s3 at *
 have b8:s3.heap=a.heap.push o0:=by rw[<-b0]
 rw[<-b8]at a0 u;have IC:=Vx (ts:=ts) y O F u;have a2:tn 0 (pushCells (s3.heap.push { cls:=.type "dict",data:=.dict #[] }) scope.names):=T.keep 0 _ _ a0 λb d o e=>pushCells_keeps _ _ b o (zg _ e);have b6:∀b∈fp,uq (Ov X (xs++ts) scope cl s3.heap.objs.size s3 (B6 H2 a.heap.objs.size O0) fp) [] (B6 H2 a.heap.objs.size O0) b:=λb d=>by
  obtain⟨f0,f1,f2,f3,G,f5⟩:=F b d;refine⟨f0,zC (u b d),λz=>?_,.inl d,λx c e z=>?_,λq hq=>absurd (show q∈([]:List (A1×AE)) from hq) (by simp)⟩
  ·rcases List.mem_cons.mp (y.Jk b z)with q|q
   ·exact f1 q
   ·exact f2 q
  ·rcases zJ _ _ _ x c e with h|h
   ·exact G x c (O.sub.get h) z
   ·rw[z]at h;exact absurd (Zl (u b d) (Nat.le_of_succ_le h)) (jn _)
 have P0:Cs H2 (sE is σ++aa ts.length U) (j7 is ρ++aa ts.length U) is.length:=by
  have g:∀(j:Nat) c,(j7 is ρ++aa ts.length U)[j]?=Z (Z c)->j<is.length/\zG c=false:=λj c e=>by
   by_cases hj:j<is.length
   ·refine⟨hj,?_⟩;rw[ZE (by simp[j7];omega)]at e;unfold j7 at e;rw[ZI]at e;cases q:is[j]? with
    |none=>rw[q]at e;cases e
    |some i=>rw[q]at e;exact Dl (by simpa using e)
   ·rw[qS (by simp[j7];omega),QI]at e;split at e<;>cases e
  exact⟨λj c e=>(g j c e).2,λj c e=>(g j c e).1,DM Ec⟩
 have h:=SJ (B:=B) (X:=Ov X (xs++ts) scope cl s3.heap.objs.size s3 (B6 H2 a.heap.objs.size O0) fp) (R:=RR (.ref a.heap.objs.size) s3.heap.objs.size) (o0:=[]) b3 S (SM _ _ _ _) (c9 _ _ _ _) (c0 _ _ _ _) a4 a7 IC (Ec.grow (bf I)) P0 I aW (b7 _) T a2 b6 Y a8 (by simpa using c6) a9 b4 c2 λs5 d0 W o5 l E5 _ b9 a5=>by
  have IB:L2.AU X AN σ W s5:=y.call' (ch:=fp) l.os l.base l.hok l.bare λb d=>by
   obtain⟨f0,f1,f2,f3,G,f5⟩:=F b d;exact⟨f3,f1,G,f5⟩
  obtain⟨m,hn,_⟩:=l.loc;exact c4 _ _ s5 W o5 I IB (y.abz (zo _) l.free) ⟨m,hn⟩ E5.base b9 a5
 exact c1 h (T.self _ 0 _ _ _ a2 h)
def DC(K:B5)(_:A1)(H:Hp)(a:O Dt)(o:HO):Prop:=∃us,o=.lst us/\aH K H a us
theorem DC.kp{K:B5}{D:A1}{H H':Hp}{a:O Dt}{o:HO}(k:Kp H H'):DC K D H a o->DC K D H' a o:=λ⟨us,e,r⟩=>⟨us,e,r.kp k⟩
def MD(fe:Ev->Y Bx):Ev->Y (O Dt):=λρ=>(fe ρ).bind Eg
theorem Zd(h:PV X elt fe):Zb X (λD env=>do let _ <-call (.builtin "list.append") [.ref D,<-eval elt env]) (MD fe) (DC X.K) 100000 n:=by
 refine KP λAN s σ H Hb ρ D o o1 ys I En d hD ⟨us,e,r4⟩ hl=>?_;subst e;obtain⟨b,eb,d⟩:=AT d;obtain⟨y,rfl,rfl⟩:=HX d;refine zb (ZU (h AN s σ H (λv a=>AV H a/\AW X.K a y v) I ⟨Hb,ρ,_,En,eb,λv a i _ g=>⟨i,g⟩⟩) (λv i m=>?_) λ_ _ z=>z);obtain⟨c,a,t,p,f,g⟩:=m;have j:=f _ _ hD;refine zb (ZU ((HJ (X:=X)) _ i σ a (.ref D) [c] (.ref D) [v] (λw l=>l=B6 a D (.lst (us++[c]))) t S (.cons p .nil) ⟨_,us,c,rfl,rfl,j,by rw[r4.length];have B:(100000:Nat)<AA:=();simp at hl;omega,rfl⟩) (λw A q=>?_) λ_ _ z=>z);obtain⟨x,l,u,_,rfl⟩:=q;have kp:Kp a (B6 a D (.lst (us++[c]))):=.lst j;exact zd ⟨a,_,u,f,kp,us++[c],rfl,((r4.kp (.of f)).append (aH.cons g aH.nil)).kp kp⟩
theorem Lq{B:A5->Bool->Prop}{H2:Hp}{l:A2}{tn:Nat->A6->Prop}{ds out:List Dt}{ρ:Ev}(O:yG X scope cl xs is)(x:B X.A X.calm)(v:∀C j i fp,EF (Ov X (xs++ts) scope cl C j i fp) tgt gt)(F:∀C j i fp,C6 (Ov X (xs++ts) scope cl C j i fp) ifs p)(s:∀C j i fp,PV (Ov X (xs++ts) scope cl C j i fp) elt fe)(t:Cf is.length (is.length+ts.length) gt)(u:L2.AU X AN σ H2 l)(G:bD X.K H2 H2 (sE is σ++aa ts.length U) (j7 is ρ++aa ts.length U))(T:QK B X.prog X.w X.K tgt J fp it tn)(st:tn 0 l.heap)(I:∀b∈fp,uq X AN H2 b)(Y:B8 X.K J ds H2)(H:ds.length<=100000)(q:HW gt p fe (j7 is ρ++aa ts.length U) ds=Z out)(z:∀(D C:A1) (s':A2) (H':Hp) (us:List V),H2 D=U->L2.AU X AN σ H' s'->uq X AN H' C->(∃m,s'.heap.Ns C m)->AV H2 H'->H' D=Z (.lst us)->aH X.K H' out us->RR (.ref D) C (.ok .next) s'):
  A7 (eh X) X.A (newList []) (λacc L=>A7 (eh X) X.A (newFunctionEnv scope X.env.globals cl [] X.env.qual U .none (Z X.env)) (λn y=>
   AF (eh X) X.A (.compStart (.ListComp elt [⟨tgt,iter,ifs,0⟩] scope pos) 0 (.ref it) acc { n with scope:=relabel scope X.env }) (RR acc n.locals) y) E L) E l:=
 SN (B:=B) (Ac:=DC X.K) (O0:=.lst []) (N:=100000) O x v F (λC j i fp=>Zd (s C j i fp)) t (Nat.le_add_right ..) u G T st I Y q (zD (Bb q) H) (λD C s' H' o a b c d e f g=>by obtain⟨us,rfl,r⟩:=g;exact z D C s' H' us a b c d e f r)
  qf (λ_=>⟨Z3 _,[],0,.nil,zw _ rfl⟩) (λ_=>⟨[],rfl,aH.nil⟩) DC.kp (λ_ _ _=>S) codeAny_compStart_list λh=>h
end
def iC(K:B5)(f:Ev->Y (O Dt)):TI:=λσ H R=>∃H0 ρ ds,bD K H0 H σ ρ/\f ρ=Z ds/\∀J H',AV H H'->B8 K J ds H'->R J H'
def RS(X:Cx)(tg iter:Expr)(f:Ev->Y (O Dt)):Prop:=PI X tg iter (iC X.K f)
structure EO (X:Cx) (tg iter:Expr) (f:Ev->Option (List Dt)):Prop where
 run:RS X tg iter f
def VB:Bx->Y (O Dt)
 |.z (.lst ds)=>Z ds
 |.z (.tup ds)=>Z ds
 |.z (.str x)=>Z (BQ x)
 |.o ds=>Z ds
 |.l ds=>Z ds
 |_=>U
section
variable{f:Ev->Y Bx}{fs:Ev->Y (O Bx)}{xs:AZ}{gt:Dt->Ev->Y Ev}{p:Ev->Y Bool}{fe:Ev->Y Bx}{fi:Ev->Y (O Dt)}
theorem VD(h:ET X tgt iter fi):EO X tgt iter fi:=⟨have h:=h.run;λAN s σ H R I q=>by
 obtain⟨H0,ρ,ds,E,e,q⟩:=q;exact h AN s σ H R I ⟨H0,ρ,ds,E,e,λJ H' s' y=>q J H' s' (y H' (AV.refl H') (λ_ _=>S) (λ_ _ _ _=>S) λ_ _ _=>S)⟩⟩
theorem cY(h:QV X e f):EO X tgt e (λρ=>(f ρ).bind VB):=⟨have h:=h.run;λAN s σ H R I q=>by
 refine Ou h AN s σ H R I ?_;obtain⟨H0,ρ,ds,E,e,q⟩:=q;obtain⟨b,eb,e⟩:=AT e;refine⟨H0,ρ,b,E,eb,λv H1 j t i=>?_⟩;cases b with
 |z d=>
  cases d with
  |tup p=>
   cases e;simp only[aU,AW]at i;obtain⟨a,vs,rfl,c,g⟩:=i;exact .inr (.inl ⟨a,rfl,⟨vs,c⟩,q _ _ j (.tup c g)⟩)
  |lst p=>
   cases e;obtain⟨a,vs,rfl,c,g⟩:=i.CT rfl;exact .inl ⟨a,rfl,⟨vs,c⟩,q _ _ j (.list c g)⟩
  |str x=>
   cases e;simp only[aU,AW]at i;obtain⟨rfl,_⟩:=i;exact .inr (.inr ⟨x,rfl,q _ _ j (.str x)⟩)
  |_=>cases e
 |l p=>
  cases e;obtain⟨a,vs,rfl,c,g⟩:=i.CT rfl;exact .inl ⟨a,rfl,⟨vs,c⟩,q _ _ j (.list c g)⟩
 |o p=>
  cases e;obtain⟨a,vs,rfl,c,g⟩:=i.CT rfl;exact .inl ⟨a,rfl,⟨vs,c⟩,q _ _ j (.list c g)⟩
 |n _=>cases e
 |m _ _=>cases e⟩
def cg(fi:Ev->Y (O Dt))(gt:Dt->Ev->Y Ev)(p:Ev->Y Bool)(fe:Ev->Y Bx)(is:O Nat)(n:Nat):Ev->Y Bx:=λρ=>(fi ρ).bind λds=>
 if ds.length<=100000 then(HW gt p fe (j7 is ρ++aa n U) ds).bind λa=>Z (.o a)else U
theorem cZ(ts:AZ)(O:yG X scope cl xs is)(z:X.calm=true)(hi:EO X tgt iter fi)(g:∀C c d fp,D6 (Ov X (xs++ts) scope cl C c d fp) tgt gt)(j:∀C c d fp,JL (Ov X (xs++ts) scope cl C c d fp) ifs p)(i:∀C c d fp,QV (Ov X (xs++ts) scope cl C c d fp) elt fe)(l:Cf is.length (is.length+ts.length) gt)(hs:∀x,foldedSetIterable iter X.env x=pure x:=by intro _;rfl):QV X (.ListComp elt [⟨tgt,iter,ifs,0⟩] scope pos) (cg fi gt p fe is ts.length):=⟨have hi:=hi.run;have g:=λC c d fp=>(g C c d fp).run;have j:=λC c d fp=>(j C c d fp).run;have i:=λC c d fp=>(i C c d fp).run;λAN s σ H Q I h=>by
 obtain⟨H0,ρ,b,E,e,q⟩:=h;obtain⟨ds,ed,e⟩:=AT e;split at e
 ·rename_i a0;obtain⟨a1,F,e⟩:=AT e;cases e;rw[eval_ListComp];refine wpAny_comprehension_free (use:=U) S hs O.clos O.kind O.names ?_;refine jF (hi AN s σ H (λJ H'=>AV H H'/\B8 X.K J ds H') I ⟨H0,ρ,ds,E,ed,λJ H' s' y=>⟨s',y⟩⟩) λv s1 h1=>jF h1 λa2 s2 h2=>?_;obtain⟨it,fp,tn,J,H2,rfl,u,T,st,n,f,Y⟩:=h2;refine Lq (B:=Vy) (RR:=λW C=>compPost (eh X) X.A X.xe U (EP X AN σ Q) W C) (ts:=ts) (xs:=xs) O z g j i l u ((E.grow f).caps is ts.length) (HH T) st n Y a0 F ?_;intro D C s' H' us G I' P ⟨m,hn⟩ s2' hD' r';refine⟨m,hn,λh' L=>⟨.ref D,H',?_,rfl,q _ _ (f.trans s2') (λa ea=>by cases ea;exact f.free G) ⟨D,us,rfl,hD',r'⟩⟩⟩;obtain⟨f0,f1,f2,M,t,N⟩:=P;exact I'.turned (t':=s'.toks) (λb o hb e=>(L.2 b hb).trans e) f0 f1 M t N
 ·cases e⟩
theorem QL(i:Nat){y:AJ}{py spos:Pos}(ts:AZ)(O:yG X scope cl xs is)(a1:X.calm=true)(hN:X.N.Nodup)(hi:EO X tgt iter fi)(t:∀C c d fp,D6 (Ov X (xs++ts) scope cl C c d fp) tgt gt)(l:∀C c d fp,JL (Ov X (xs++ts) scope cl C c d fp) ifs p)(u:∀C c d fp,QV (Ov X (xs++ts) scope cl C c d fp) elt fe)(M:Cf is.length (is.length+ts.length) gt)(a4:swapsWith (.ListComp elt [⟨tgt,iter,ifs,0⟩] scope pos) (Z (.Name y py)) spos.line X.env=pure true:=by with_unfolding_all rfl)(hy:X.N[i]?=Z y:=by rfl)(hx:CO X.env.scope y:=by first|exact QQ rfl|exact qh S)(hf:X.fn y=true\/X.env.scope.names.lookup y=Z .local:=by first|exact .inl rfl|exact .inr S)(hs:∀x,foldedSetIterable iter X.env x=pure x:=by intro _;rfl):Sx X (.Assign [.Name y py] (.ListComp elt [⟨tgt,iter,ifs,0⟩] scope pos) spos) (λρ=>(cg fi gt p fe is ts.length ρ).bind λb=>(Lj ρ i b).bind λρ'=>Z (.nx ρ')):=⟨have hi:=hi.run;have t:=λC c d fp=>(t C c d fp).run;have l:=λC c d fp=>(l C c d fp).run;have u:=λC c d fp=>(u C c d fp).run;λAN s σ H D I h=>by
 obtain⟨H0,ρ,r,E,e,q⟩:=h;obtain⟨b,eb,e⟩:=AT e;obtain⟨ds,ed,eb⟩:=AT eb;split at eb
 ·rename_i a7;obtain⟨W,eo,eb⟩:=AT eb;cases eb;cases e;rw[exec_Assign_Name_used _ _ _ _ a4];refine zb (kP (zb ?_));show A7 _ X.A (do let _ <-comprehension (.ListComp elt [⟨tgt,iter,ifs,0⟩] scope pos) scope X.env _ (newList []) false (eval iter X.env) (Z (assign (.Name y py) X.env))) _ _ s;refine zb (ZU (wpAny_comprehension_free (use:=Z (assign (.Name y py) X.env)) (Q:=λ_ s'=>SP X AN D .next s') S hs O.clos O.kind O.names ?_) (λ_ s' hq=>zd (zd hq)) λ_ _ e=>e);refine jF (hi AN s σ H (λJ H'=>AV H H'/\B8 X.K J ds H') I ⟨H0,ρ,ds,E,ed,λJ H' s' y=>⟨s',y⟩⟩) λv s1 h1=>jF h1 λa9 s2 h2=>?_;obtain⟨it,fp,tn,J,H2,rfl,I2,T,st,a6,j,Y⟩:=h2;refine Lq (B:=Vy) (RR:=λa5 C=>compPost (eh X) X.A X.xe (Z (assign (.Name y py) X.env)) (λ_ s'=>SP X AN D .next s') a5 C) (ts:=ts) (xs:=xs) O a1 t l u M I2 ((E.grow j).caps is ts.length) (HH T) st a6 Y a7 eo ?_;intro f C s' H' us hD L fC ⟨m,hn⟩ s2' hD' r';show A7 _ X.A (assign (.Name y py) X.env (.ref f)) _ _ s';obtain⟨f0,f1,f2,f3,f4,f5⟩:=fC;obtain⟨g,a8,ep,a0,F,P⟩:=id hn;have a2:L2.AU X (AN++[(C,g)]) σ H' s':=L.zq λG hp=>by
   rcases ai.mp hp with z|z
   ·exact L.pin G (zz _ z)
   ·have:G=(C,g):=by simpa using z
    subst this;exact⟨a0,f0,f1,f2,λv z=>by rw[F]at z;cases z⟩
  refine jF (L2.Qx hN hy hx hf (AN++[(C,g)]) s' σ H' (.ref f) (.ref f) (λσ' n=>σ'=σ.set i (Z (.ref f))/\n=H') a2 S ⟨rfl,rfl⟩) λ_ s'' ⟨σ',n,J',e1,e2⟩=>?_;subst e1 e2;have a3:=(J'.pin (C,g) (by simp)).1;refine⟨m,⟨g,a8,ep,a3,F,P⟩,λh' sb=>?_⟩;refine⟨σ.set i (Z (.ref f)),n,J'.uI.turned (t':=s''.toks) (λb o hb e=>(sb.2 b hb).trans e) f0 f1 f3 f4 f5,q _ _ ?_⟩;exact E.set (j.trans s2') (b:=.o W) ⟨f,us,rfl,hD',r'⟩ (.inl S) λa ea=>by cases ea;exact j.free hD
 ·cases eb⟩
def lend:Bx->Bx
 |.o ds=>.l ds
 |.m ds _=>.n ds
 |b=>b
def TB:Bx->Bool
 |.o _=>true
 |.m _ _=>true
 |_=>false
def Ul(K:B5)(n:Nat)(F:O Bx->Y Bx):Sp:=λvs H Q _=>vs.length=n/\∃bs r,xU K H bs vs/\bs.all (λb=>!TB b)=true/\F bs=Z r/\∀v H',AV H H'->Nw H r v->aU K H' r v->Q v H'
def dH(n:Nat)(g:Ev->Y An):O Bx->Y Bx:=λbs=>(g (bs.map Z++aa (n-bs.length) U)).bind λr=>match r with
 |.rt b=>Z b
 |.nx _=>Z (.z .non)
 |_=>U
theorem bD.start{K:B5}{H:Hp}{N:AZ}{bs:O Bx}{vs:O V}(r:xU K H bs vs)(h:bs.all (λb=>!TB b)=true):bD K H H (L2.start N vs) (bs.map Z++aa (N.length-bs.length) U):=by
 have l:bs.length=vs.length:=Paired.length r;have get:∀(i:Nat) b,(bs.map Z++aa (N.length-bs.length) U)[i]?=Z (Z b)->bs[i]?=Z b:=λi b e=>by
  by_cases hi:i<bs.length
  ·rw[ZE (by simpa using hi),ZI]at e;cases q:bs[i]? with
   |none=>rw[q]at e;cases e
   |some n=>rw[q]at e;simpa using e
  ·rw[qS (by simp;omega),QI]at e;split at e<;>cases e
 have f:∀(i:Nat) c,(bs.map Z++aa (N.length-bs.length) U)[i]?=Z (Z c)->zG c=true->False:=λi c e d=>by
  have:=List.all_eq_true.mp h _ (kU (get i _ e));cases c with
  |o ds=>cases this
  |m ds _=>cases this
  |_=>cases d
 refine⟨?_,λi b e=>?_,λi j c a b e d=>(f i c e d).elim,AV.refl H,λi c a e d=>(f i c e d).elim⟩
 ·unfold L2.start;simp[l]
 ·have e':=get i b e;have hi:i<bs.length:=(af.mp e').1;have:∀{bs:O Bx} {vs:O V} {i:Nat} {b:Bx},AI (aU K H) bs vs->bs[i]?=Z b->∃v,vs[i]?=Z v/\aU K H b v:=by
   intro bs vs i b r
   induction r generalizing i with
   |nil=>intro e;simp at e
   |cons p t g=>
    intro e;cases i with
    |zero=>simp at e;subst e;exact⟨_,rfl,p⟩
    |succ i=>obtain⟨v,e1,e2⟩:=g (i:=i) (by simpa using e);exact⟨v,by simpa using e1,e2⟩
  obtain⟨v,e1,e2⟩:=this r e';refine⟨v,?_,e2⟩;unfold L2.start;rw[ZE (by simp;omega),ZI,e1];rfl
end
theorem OY{f:A1}{k:Nat}{g:Ev->Y An}(F:Yc K x qual st f fd)(S:bC N ps (aJ st))(n:∀(a:A0) (A:A5) (outer:O Env) (s:A2) (H:Hp) (E:XK),kj k (A.deeper (AK qual (aJ st) s.heap.objs.size f a))->Uw (DY Jx P w K mg base N qual (aJ st) f a A outer s H E).Yb (jq st) g):
  uJ P w K mg base Jx (k+1) f fd ps (Ul K ps.length (dH N.length g)):=by
 refine F.ok S (λvs H Q E h=>h.1) λa A outer s H vs Q E j h=>?_;obtain⟨o,bs,r,d,i,e,q⟩:=h;refine⟨_,n a A outer s H E j,?_⟩;obtain⟨c,er,e⟩:=AT e;refine⟨H,_,c,bD.start d i,er,?_⟩;cases c with
 |rt b=>cases e;exact λv H' s' m c=>q v H' s' m c
 |nx ρ=>cases e;exact λσ H' l=>q _ H' l.base trivial (by unfold aU AW;rfl)
 |bk ρ=>cases e
 |ct ρ=>cases e
section
variable{k:Nat}{f:A1}{F:O Bx->Y Bx}{p:Pos}{fs:Ev->Y (O Bx)}
theorem Em{K:B5}{H:Hp}:∀{bs:O Bx} {vs:O V},xU K H bs vs->xU K H (bs.map lend) vs
 |_,_,.nil=>.nil
 |b::bs,_,.cons h t=>by
  refine .cons ?_ (Em t);cases b with
  |z d=>exact h
  |l ds=>exact h
  |o ds=>obtain⟨a,vs,e,q,r⟩:=h;exact⟨a,vs,e,.inl q,r⟩
  |n ds=>exact h
  |m ds _=>obtain⟨a,vs,e,q,r⟩:=h;exact⟨a,vs,e,.inl q,r.1⟩
theorem JM:∀bs:O Bx,(bs.map lend).all (λb=>!TB b)=true
 |[]=>rfl
 |b::bs=>by
  rw[zk,j3,JM bs];cases b<;>rfl
def bQ(n:Nat)(F:O Bx->Y Bx)(fs:Ev->Y (O Bx)):Ev->Y Bx:=λρ=>(fs ρ).bind λbs=>if bs.length=n then F (bs.map lend)else U
theorem Ze(G:uJ X.prog X.w X.K X.mg X.base Jx k f fd ps (Ul X.K n F))(l:kj k X.A)(d:Gl X x)(t:X.mg x=Z (.ref f))(hk:keepIn X.K (.ref f)=true)(j:BM X.K fd ps [])(a:Vk X (e::es) fs)(g:eg x:=by decide)(u:A9 (e::es) X.env=(false,eval e X.env)::A9 es X.env:=by rfl)(i:(AD pos (A9 es X.env)).any (·.1)=false:=by rfl):QV X (.Call (.Name x p) (e::es) [] pos) (bQ n F fs):=⟨have a:=a.run;HS (Yw G l d t hk j .nil (Hk) a g u i) λσ H Q h=>by
 obtain⟨H0,ρ,r,E,e,q⟩:=h;obtain⟨bs,eb,e⟩:=AT e;refine⟨H0,ρ,bs,E,eb,λvs H1 c b=>?_⟩;split at e
 ·rename_i o;rw[Q2];exact⟨by rw[<-Paired.length b];exact o,_,r,Em b,JM bs,e,λv H2 s y m=>q v H2 (c.trans s) (y.old c) m⟩
 ·cases e⟩
end
end P1
variable{d:P1.Dt}{q:P1.Ev->Y Bool}{F:O P1.Bx->Y P1.Bx}{f:P1.Ev->Y P1.Bx}{g:P1.Ev->Y P1.An}{p:P1.Ev->Y Bool}{ds:O P1.Dt}{fa:P1.Ev->Y P1.Bx}{ρ:P1.Ev}{fb fc:P1.Ev->Y P1.Bx}{g1 g2:P1.Ev->Y P1.An}{gt:P1.Dt->P1.Ev->Y P1.Ev}{gb:P1.Ev->Y P1.An}{fi:P1.Ev->Y (O P1.Dt)}{fe:P1.Ev->Y P1.Bx}{Ac:A1->L2.Hp->O P1.Dt->L2.HO->Prop}{fk:P1.Dt->Y P1.Bx}{fo fv:P1.Ev->Y P1.Bx}{fr:P1.Ev->Y (O (AJ×P1.Dt))}{f1:P1.Ev->Y P1.Bx}{gx:P1.Ev->Y P1.Dt}{bt:P1.Dt->P1.Dt->Bool}{uF:P1.Dt->Bool}{bO:P1.Bx}
namespace P1
open L2 SeqAt
open AutoSeq1 (wpAny_loadPart')
def GZ(h:A6)(a:A1):Prop:=∃o ep,h.get? a=Z o/\o.ExactDict/\o.data=.dict #[] ep
section
variable{b:A1}
theorem zL{AO:O (AY×V)}{vs:O (AY×A0)}(q:AO=[])(r:KV AO vs)(d:h.DictOf (cG P w) a vs):GZ h a:=by
 subst q;cases r;obtain⟨o,es,ep,h1,h2,c,_,b,_⟩:=d;have:es=#[]:=by
  have:=b.length;apply Array.eq_empty_of_size_eq_zero;simpa using this
 subst this;exact⟨o,ep,h1,h2,c⟩
theorem GZ.dict(P:A3)(w:A4)(x:GZ h a):h.DictOf (strKind P w) a []:=by
 obtain⟨o,ep,h1,h2,b⟩:=x;exact⟨o,#[],ep,h1,h2,b,λe c=>by simp at c,.nil,List.nodup_nil⟩
theorem IZ(c:(a==sysModules)=false)(e:(b==sysModules)=false)(g:GZ s.heap a)(d:GZ s.heap b)(f:A.units<cLine):RcAt A s (.ref a) (.ref b) true:=λprog w E Q h=>
 PySem.W.keq_eq (knd:=strKind prog w) c e (g.dict prog w) (d.dict prog w) f (λ_=>.nil) h
theorem Pl(c:(a==sysModules)=false)(e:(b==sysModules)=false)(g:GZ s.heap a)(d:GZ s.heap b)(f:A.units<cLine):RcNeAt A s (.ref a) (.ref b) false:=λprog w E Q h=>
 PySem.W.keq_ne (r:=true) (knd:=strKind prog w) c e (g.dict prog w) (d.dict prog w) f (λ_=>.nil) h
theorem Lr(o:AE)(b:AJ)(u:Tok):Meets (Builtin.«dict.__eq__» ⟨[.ref a,.str b u],[]⟩) (λ_ R s=>(s.heap.get? a=Z o/\o.cls=.type "dict")/\R (.ok (.ret .notImplemented)) s):=
 .of_wp λprog w A R s h=>by
  have c:s.TypeIs (.ref a) "dict":=⟨o,h.1.1,h.1.2⟩;show A7 _ _ (Builtin.Dict.dictSlotArgs "__eq__" ⟨[.ref a,.str b u],[]⟩ >>= _) _ _ s;refine zb ?_;unfold Builtin.Dict.dictSlotArgs;refine zb (wpAny_notOrdered_dict c ?_);show A7 _ _ (pure (Value.ref a,Value.str b u)) _ _ s;refine zd ?_;refine zb (wpAny_isInstance (T :="str") (typeIs_str s b u) PySem.F.sub_str_dict ?_);simp only[k7,qk];refine zb (JJ ?_);exact zd ⟨_,rfl,h.2⟩
theorem Ls(b:AJ)(u:Tok)(es:Array DictEntry)(ep:Nat)(e:Y A1)(sl:Array (Y A0)):Meets (Builtin.«str.__eq__» ⟨[.str b u,.ref a],[]⟩) (λ_ R s=>s.heap.get? a=Z { cls:=.type "dict",dict:=e,data:=.dict es ep,slots:=sl }/\R (.ok (.ret .notImplemented)) s):=
 .of_wp λprog w A R s h=>by obtain⟨hp,g,d,tk,os⟩:=s;obtain⟨c,h⟩:=h;wp_walk using wpAny_loadPart' c,wpAny_load c;exact⟨_,rfl,h⟩
theorem HY(x:AJ)(t:Tok)(d:GZ s.heap a)(i:A.units<cLine):RcAt A s (.str x t) (.ref a) false:=λprog w E Q h=>by
 obtain⟨⟨j,g,m,sl⟩,ep,c,⟨e,hd,l⟩,f⟩:=d;simp only at e f;subst e f;exact rc_eq_decline_or (k:=false) (typeIs_str s x t) ⟨_,c,rfl⟩ () PySem.F.sub_dict_str PySem.F.slot_str_eq PySem.F.slot_dict_eq_refl
  (λ_ b=>call_meets PySem.F.slot_str_eq (typeIs_str s x t) PySem.F.entry_str_eq (PySem.F.args_str_eq_2 _ _) (Ls x t #[] ep g sl) ⟨c,b⟩)
  (λ_ b=>call_meets PySem.F.slot_dict_eq_refl ⟨_,c,rfl⟩ PySem.F.entry_dict_eq (PySem.F.args_dict_eq_2 _ _) (Lr _ x t) ⟨⟨c,rfl⟩,b⟩)
  (λ_ b=>wpAny_of_eq (rfl:isSame (.str x t) (.ref a)=pure false) b) (.inr i) h
theorem Lw(o:AE)(b:AJ)(u:Tok):Meets (Builtin.«dict.__ne__» ⟨[.ref a,.str b u],[]⟩) (λ_ R s=>(s.heap.get? a=Z o/\o.cls=.type "dict")/\R (.ok (.ret .notImplemented)) s):=
 .of_wp λprog w A R s h=>by
  have c:s.TypeIs (.ref a) "dict":=⟨o,h.1.1,h.1.2⟩;show A7 _ _ (Builtin.Dict.dictSlotArgs "__ne__" ⟨[.ref a,.str b u],[]⟩ >>= _) _ _ s;refine zb ?_;unfold Builtin.Dict.dictSlotArgs;refine zb (wpAny_notOrdered_dict c ?_);show A7 _ _ (pure (Value.ref a,Value.str b u)) _ _ s;refine zd ?_;refine zb (wpAny_isInstance (T :="str") (typeIs_str s b u) PySem.F.sub_str_dict ?_);simp only[k7,qk];refine zb (JJ ?_);exact zd ⟨_,rfl,h.2⟩
theorem Lx(b:AJ)(u:Tok)(es:Array DictEntry)(ep:Nat)(e:Y A1)(sl:Array (Y A0)):Meets (Builtin.«str.__ne__» ⟨[.str b u,.ref a],[]⟩) (λ_ R s=>s.heap.get? a=Z { cls:=.type "dict",dict:=e,data:=.dict es ep,slots:=sl }/\R (.ok (.ret .notImplemented)) s):=
 .of_wp λprog w A R s h=>by obtain⟨hp,g,d,tk,os⟩:=s;obtain⟨c,h⟩:=h;wp_walk using wpAny_loadPart' c,wpAny_load c;exact⟨_,rfl,h⟩
theorem SQ(x:AJ)(t:Tok)(d:GZ s.heap a)(i:A.units<cLine):RcNeAt A s (.str x t) (.ref a) true:=λprog w E Q h=>by
 obtain⟨⟨j,g,m,sl⟩,ep,c,⟨e,hd,l⟩,f⟩:=d;simp only at e f;subst e f;exact rc_ne_decline_or (k:=false) (typeIs_str s x t) ⟨_,c,rfl⟩ () PySem.F.sub_dict_str PySem.F.slot_str_ne PySem.F.slot_dict_ne_refl
  (λ_ b=>call_meets PySem.F.slot_str_ne (typeIs_str s x t) PySem.F.entry_str_ne (PySem.F.args_str_ne_2 _ _) (Lx x t #[] ep g sl) ⟨c,b⟩)
  (λ_ b=>call_meets PySem.F.slot_dict_ne_refl ⟨_,c,rfl⟩ PySem.F.entry_dict_ne (PySem.F.args_dict_ne_2 _ _) (Lw _ x t) ⟨⟨c,rfl⟩,b⟩)
  (λ_ b=>wpAny_of_eq (rfl:isSame (.str x t) (.ref a)=pure false) b) (.inr i) h
theorem SX(x:AJ)(t:Tok)(d:GZ s.heap a)(c:A.units<cLine):EqAt A s (.str x t) (.ref a) false:=λprog w E Q h=>by
 unfold eqBool;refine ZA ?_;refine wpAny_ite_split (λb=>absurd (eq_of_beq b) nofun) (λ_=>?_);exact zb (HY x t d c prog w E _ (Q3 h))
end
mutual
def Bc:Dt->Nat
 |.tup xs=>zM xs+1
 |.lst xs=>zM xs+1
 |_=>1
def zM:O Dt->Nat
 |[]=>0
 |d::ds=>max (Bc d) (zM ds)
end
mutual
def KY:Dt->Dt->Y Bool
 |.non,.non=>Z true
 |.non,.bl _=>Z false|.non,.int _=>Z false|.non,.str _=>Z false|.non,.tup _=>Z false|.non,.lst _=>Z false
 |.bl a,.bl b=>Z (a==b)
 |.bl a,.int b=>Z ((if a then 1 else 0)==b)
 |.bl _,.non=>Z false|.bl _,.str _=>Z false|.bl _,.tup _=>Z false|.bl _,.lst _=>Z false
 |.int a,.int b=>Z (a==b)
 |.int a,.bl b=>Z (a==(if b then 1 else 0))
 |.int _,.non=>Z false|.int _,.str _=>Z false|.int _,.tup _=>Z false|.int _,.lst _=>Z false
 |.str a,.str b=>Z (a==b)
 |.str _,.non=>Z false|.str _,.bl _=>Z false|.str _,.int _=>Z false|.str _,.tup _=>Z false|.str _,.lst _=>Z false|.str _,.emp=>Z false
 |.tup xs,.tup ys=>lN xs ys
 |.tup _,.non=>Z false|.tup _,.bl _=>Z false|.tup _,.int _=>Z false|.tup _,.str _=>Z false|.tup _,.lst _=>Z false
 |.lst xs,.lst ys=>lN xs ys
 |.emp,.emp=>Z true
 |.lst _,.non=>Z false|.lst _,.bl _=>Z false|.lst _,.int _=>Z false|.lst _,.str _=>Z false|.lst _,.tup _=>Z false
 |_,_=>U
def lN:O Dt->O Dt->Y Bool
 |[],[]=>Z true
 |[],_::_=>Z false
 |_::_,[]=>Z false
 |x::xs,y::ys=>match KY x y with
  |some b=>match lN xs ys with
   |some c=>Z (b&&c)
   |none=>U
  |none=>U
end
mutual
theorem Ly:∀{d:Dt} {k:Bool},KY d d=Z k->k=true
 |.non,_,e=>by cases e;rfl
 |.bl b,_,e=>by cases e;simp
 |.int b,_,e=>by cases e;simp
 |.str b,_,e=>by cases e;simp
 |.tup xs,_,e=>Bd (ds:=xs) e
 |.lst xs,_,e=>Bd (ds:=xs) e
 |.emp,_,e=>by cases e;rfl
theorem Bd:∀{ds:O Dt} {k:Bool},lN ds ds=Z k->k=true
 |[],_,e=>by simp only[lN]at e;cases e;rfl
 |d::ds,_,e=>by
  simp only[lN]at e;cases h:KY d d with
  |none=>rw[h]at e;cases e
  |some b=>
   rw[h]at e;simp only at e;cases h2:lN ds ds with
   |none=>rw[h2]at e;cases e
   |some c=>
    rw[h2]at e;cases e;rw[Ly h,Bd h2];rfl
end
theorem Dp(xs ys:O Dt):KY (.tup xs) (.tup ys)=lN xs ys:=rfl
theorem uQ:∀{xs ys:O Dt} {k:Bool},lN xs ys=Z k->∃e:Nat->Bool,(∀(j:Nat) x y,xs[j]?=Z x->ys[j]?=Z y->KY x y=Z (e j))/\k=((ax (min xs.length ys.length)).all e&&xs.length==ys.length)
 |[],[],k,h=>by simp only[lN]at h;cases h;exact⟨λ_=>true,λj x y e=>by simp at e,by simp⟩
 |[],y::ys,k,h=>by simp only[lN]at h;cases h;exact⟨λ_=>true,λj x y e=>by simp at e,by simp⟩
 |x::xs,[],k,h=>by simp only[lN]at h;cases h;exact⟨λ_=>true,λj x y _ e=>by simp at e,by simp⟩
 |x::xs,y::ys,k,h=>by
  simp only[lN]at h;cases h1:KY x y with
  |none=>rw[h1]at h;cases h
  |some b=>
   rw[h1]at h;simp only at h;cases h2:lN xs ys with
   |none=>rw[h2]at h;cases h
   |some c=>
    rw[h2]at h;cases h;obtain⟨e,g,d⟩:=uQ h2;refine⟨λj=>match j with|0=>b|j+1=>e j,λj u v a ev=>?_,?_⟩
    ·cases j with
     |zero=>simp at a ev;subst a ev;exact h1
     |succ j=>exact g j u v (by simpa using a) (by simpa using ev)
    ·have:min (x::xs).length (y::ys).length=min xs.length ys.length+1:=by simp only[qv];omega
     rw[this,List.range_succ_eq_map,j3,List.all_map,d];have f:((x::xs).length==(y::ys).length)=(xs.length==ys.length):=by
      rw[cr];simp
     rw[f,Bool.and_assoc];rfl
theorem uR:∀{ds:O Dt} {j:Nat} {d:Dt},ds[j]?=Z d->Bc d<=zM ds
 |[],_,_,e=>by simp at e
 |d::ds,0,_,e=>by simp at e;subst e;simp only[zM];exact Nat.le_max_left _ _
 |d::ds,j+1,_,e=>by
  simp only[zM];exact zD (uR (ds:=ds) (j:=j) (by simpa using e)) (Nat.le_max_right _ _)
theorem Dq(I:L2.AU X AN σ H s)(h:zm X.K H a vs):∃b,s.heap.get? a=Z b/\b.cls=.type "tuple":=by
 obtain⟨AQ,_,⟨b,e,c,_⟩,_⟩:=I.tuple h;exact⟨b,e,c⟩
theorem Dr(I:L2.AU X AN σ H s)(h:qQ X.K H a vs):∃b,s.heap.get? a=Z b/\b.cls=.type "list":=by
 obtain⟨AQ,_,⟨b,n,e,c,_⟩,_⟩:=I.list h;exact⟨b,e,c⟩
theorem Ds(I:L2.AU X AN σ H s){o:AE}(h:H a=Z (.uD o (.dK []))):∃b,s.heap.get? a=Z b/\b.cls=.type "dict":=by
 obtain⟨e,_,_,vs,_,b,es,ep,e2,ex,_⟩:=I.hok a _ h;exact⟨b,e2,ex.1⟩
theorem Bf{n m:String}(h:∃b,s.heap.get? a=Z b/\b.cls=.type n)(q:∃b,s.heap.get? a=Z b/\b.cls=.type m)(hn:n≠m):False:=by
 obtain⟨o,e,c⟩:=h;obtain⟨o',e',c'⟩:=q;rw[e]at e';cases e';rw[c]at c';exact hn (by injection c')
mutual
theorem AW.inj(I:L2.AU X AN σ H s):∀{d e:Dt} {v:V},AW X.K H d v->AW X.K H e v->d=e
 |.non,e,v,h,q=>by
  simp only[AW]at h;subst h;cases e<;>simp only[AW]at q<;>first|rfl|(cases q;done)|(obtain⟨a,b,z,_⟩:=q;cases z;done)|(obtain⟨z,_⟩:=q;cases z;done)
 |.bl _,e,v,h,q=>by
  simp only[AW]at h;subst h;cases e<;>simp only[AW]at q<;>first|(cases q;rfl)|(cases q;done)|(obtain⟨a,b,z,_⟩:=q;cases z;done)|(obtain⟨z,_⟩:=q;cases z;done)
 |.int _,e,v,h,q=>by
  simp only[AW]at h;subst h;cases e<;>simp only[AW]at q<;>first|(cases q;rfl)|(cases q;done)|(obtain⟨a,b,z,_⟩:=q;cases z;done)|(obtain⟨z,_⟩:=q;cases z;done)
 |.str x,e,v,h,q=>by
  simp only[AW]at h;have g:v=.str x:=h.1;subst g;cases e with
  |str y=>
   simp only[AW]at q;have z:V.str x=V.str y:=q.1;injection z with z;rw[z]
  |tup es=>simp only[AW]at q;obtain⟨a,b,z,_⟩:=q;cases z
  |lst es=>simp only[AW]at q;obtain⟨a,b,z,_⟩:=q;cases z
  |emp=>simp only[AW]at q;obtain⟨a,b,z,_⟩:=q;cases z
  |_=>simp only[AW]at q;cases q
 |.tup ds,e,v,h,q=>by
  simp only[AW]at h;obtain⟨a,vs,rfl,sq,r⟩:=h;cases e with
  |tup es=>
   simp only[AW]at q;obtain⟨b,us,z,c,f⟩:=q;cases z;have:=I.Hx sq c;subst this;rw[aH.inj I r f]
  |lst es=>
   simp only[AW]at q;obtain⟨b,us,z,c,f⟩:=q;cases z;exact(Bf (Dq I sq) (Dr I c.sq) ()).elim
  |emp=>
   simp only[AW]at q;obtain⟨b,o,z,c⟩:=q;cases z;exact(Bf (Dq I sq) (Ds I c) ()).elim
  |str x=>simp only[AW]at q;have z:=q.1;cases z
  |_=>simp only[AW]at q;cases q
 |.lst ds,e,v,h,q=>by
  simp only[AW]at h;obtain⟨a,vs,rfl,sq,r⟩:=h;cases e with
  |lst es=>
   simp only[AW]at q;obtain⟨b,us,z,c,f⟩:=q;cases z;have:=I.K6 sq.sq c.sq;subst this;rw[aH.inj I r f]
  |tup es=>
   simp only[AW]at q;obtain⟨b,us,z,c,f⟩:=q;cases z;exact(Bf (Dr I sq.sq) (Dq I c) ()).elim
  |emp=>
   simp only[AW]at q;obtain⟨b,o,z,c⟩:=q;cases z;exact(Bf (Dr I sq.sq) (Ds I c) ()).elim
  |str x=>simp only[AW]at q;have z:=q.1;cases z
  |_=>simp only[AW]at q;cases q
 |.emp,e,v,h,q=>by
  simp only[AW]at h;obtain⟨a,o,rfl,sq⟩:=h;cases e with
  |emp=>rfl
  |tup es=>
   simp only[AW]at q;obtain⟨b,us,z,c,f⟩:=q;cases z;exact(Bf (Ds I sq) (Dq I c) ()).elim
  |lst es=>
   simp only[AW]at q;obtain⟨b,us,z,c,f⟩:=q;cases z;exact(Bf (Ds I sq) (Dr I c.sq) ()).elim
  |str x=>simp only[AW]at q;have z:=q.1;cases z
  |_=>simp only[AW]at q;cases q
theorem aH.inj(I:L2.AU X AN σ H s):∀{ds es:O Dt} {vs:O V},aH X.K H ds vs->aH X.K H es vs->ds=es
 |[],es,vs,h,q=>by
  simp only[aH]at h;subst h;cases es with
  |nil=>rfl
  |cons e es=>simp only[aH]at q;obtain⟨_,_,z,_⟩:=q;cases z
 |d::ds,es,vs,h,q=>by
  simp only[aH]at h;obtain⟨v,r,rfl,h1,h2⟩:=h;cases es with
  |nil=>simp only[aH]at q;cases q
  |cons e es=>
   simp only[aH]at q;obtain⟨b,a,z,q1,q2⟩:=q;cases z;rw[AW.inj I h1 q1,aH.inj I h2 q2]
end
theorem LH(I:L2.AU X AN σ H s):∀(n:Nat) {A:A5} {d e:Dt} {x y:V} {u v:A0} {k:Bool},min (Bc d) (Bc e)<=n->A.units+n<cLine->AW X.K H d x->AW X.K H e y->As x u->As y v->KY d e=Z k->EqAt A s u v k:=by
 intro n
 induction n with
 |zero=>
  intro A d e x y u v k Q;have h1:1<=Bc d:=by cases d<;>simp only[Bc]<;>omega
  have h2:1<=Bc e:=by cases e<;>simp only[Bc]<;>omega
  omega
 |succ n ih=>
  intro A d e x y u v k Q hA m c w g ek;have h:A.units<cLine:=by omega
  by_cases L:u=v/\∃a,u=.ref a
  ·obtain⟨rfl,a,rfl⟩:=L;have hx:x=.ref a:=by have:=w.abs;simpa[FO]using this.symm
   have hy:y=.ref a:=by have:=g.abs;simpa[FO]using this.symm
   subst hx hy;have:=AW.inj I m c;subst this;rw[Ly ek];exact EqAt.same _
  ·have items:∀{ds es:O Dt} {vs us:O V} {AQ l:O A0} {f:Nat->Bool},min (zM ds) (zM es)<=n->aH X.K H ds vs->aH X.K H es us->AX vs AQ->AX us l->(∀(j:Nat) x y,ds[j]?=Z x->es[j]?=Z y->KY x y=Z (f j)) →
     ∀j (h1:j<AQ.toArray.size) (h2:j<l.toArray.size),EqAt A.in1 s AQ.toArray[j] l.toArray[j] (f j):=by
    intro ds es vs us AQ l f hm r1 r2 w1 W E j h1 h2;have l1:=w1.length;have l2:=W.length;have l3:=r1.length;have l4:=r2.length;have j1:j<AQ.length:=by simpa using h1
    have j2:j<l.length:=by simpa using h2
    have N:ds[j]?=Z ds[j]:=by simp
    have d2:es[j]?=Z es[j]:=by simp
    obtain⟨a,ea,C⟩:=r1.get N;obtain⟨b,eb,B⟩:=r2.get d2;obtain⟨p,ep,rp⟩:=w1.get ea;obtain⟨q,eq,rq⟩:=W.get eb;have e1:AQ.toArray[j]=p:=by simpa[j1]using ep
    have e2:l.toArray[j]=q:=by simpa[j2]using eq
    rw[e1,e2];have m1:=uR N;have m2:=uR d2;exact ih () (by rw[units_in1];omega) C B rp rq (E j _ _ N d2)
   cases d with
   |non=>
    cases m;cases w;cases e with
    |non=>cases c;cases g;cases ek;exact EqAt.same _
    |bl b=>cases c;cases g;cases ek;exact EqAt.none_bool b
    |int b=>cases c;obtain⟨t,rfl⟩:=g;cases ek;exact EqAt.none_int b t
    |str b=>obtain⟨rfl,_⟩:=c;obtain⟨t,rfl⟩:=g;cases ek;exact EqAt.none_str b t
    |tup es=>obtain⟨b,us,rfl,sq,_⟩:=c;cases g;cases ek;obtain⟨_,_,p,_⟩:=I.tuple sq;exact EqAt.none_tuple p h
    |lst es=>obtain⟨b,us,rfl,sq,_⟩:=c;cases g;cases ek;obtain⟨_,_,p,_⟩:=I.list sq.sq;exact EqAt.none_list p.isList h
    |emp=>cases ek
   |bl a=>
    cases m;cases w;cases e with
    |non=>cases c;cases g;cases ek;exact EqAt.bool_none a
    |bl b=>cases c;cases g;cases ek;exact EqAt.bool_bool a b
    |int b=>cases c;obtain⟨t,rfl⟩:=g;cases ek;exact EqAt.bool_int a b t
    |str b=>obtain⟨rfl,_⟩:=c;obtain⟨t,rfl⟩:=g;cases ek;exact EqAt.bool_str a b t
    |tup es=>obtain⟨b,us,rfl,sq,_⟩:=c;cases g;cases ek;obtain⟨_,_,p,_⟩:=I.tuple sq;exact EqAt.bool_tuple a p h
    |lst es=>obtain⟨b,us,rfl,sq,_⟩:=c;cases g;cases ek;obtain⟨_,_,p,_⟩:=I.list sq.sq;exact EqAt.bool_list a p.isList h
    |emp=>cases ek
   |int a=>
    cases m;obtain⟨i,rfl⟩:=w;cases e with
    |non=>cases c;cases g;cases ek;exact EqAt.int_none a i
    |bl b=>cases c;cases g;cases ek;exact EqAt.int_bool a i b
    |int b=>cases c;obtain⟨t,rfl⟩:=g;cases ek;exact EqAt.int_int a i b t
    |str b=>obtain⟨rfl,_⟩:=c;obtain⟨t,rfl⟩:=g;cases ek;exact EqAt.int_str a i b t
    |tup es=>obtain⟨b,us,rfl,sq,_⟩:=c;cases g;cases ek;obtain⟨_,_,p,_⟩:=I.tuple sq;exact EqAt.int_tuple a i p h
    |lst es=>obtain⟨b,us,rfl,sq,_⟩:=c;cases g;cases ek;obtain⟨_,_,p,_⟩:=I.list sq.sq;exact EqAt.int_list a i p.isList h
    |emp=>cases ek
   |str a=>
    obtain⟨rfl,_⟩:=m;obtain⟨i,rfl⟩:=w;cases e with
    |non=>cases c;cases g;cases ek;exact EqAt.str_none a i
    |bl b=>cases c;cases g;cases ek;exact EqAt.str_bool a i b
    |int b=>cases c;obtain⟨t,rfl⟩:=g;cases ek;exact EqAt.str_int a i b t
    |str b=>obtain⟨rfl,_⟩:=c;obtain⟨t,rfl⟩:=g;cases ek;exact EqAt.str_str a i b t
    |tup es=>obtain⟨b,us,rfl,sq,_⟩:=c;cases g;cases ek;obtain⟨_,_,p,_⟩:=I.tuple sq;exact EqAt.str_tuple a i p h
    |lst es=>obtain⟨b,us,rfl,sq,_⟩:=c;cases g;cases ek;obtain⟨_,_,p,_⟩:=I.list sq.sq;exact EqAt.str_list a i p.isList h
    |emp=>
     simp only[AW]at c;obtain⟨p,o,rfl,e⟩:=c;cases g;cases ek;obtain⟨_,_,vs,r,q⟩:=uL I.hok (.inr ⟨o,e⟩);exact SX a i (zL S r q) h
   |tup ds=>
    obtain⟨a,vs,rfl,M,C⟩:=m;cases w;obtain⟨AQ,F,p,_⟩:=I.tuple M;cases e with
    |non=>cases c;cases g;cases ek;exact EqAt.tuple_none p h
    |bl b=>cases c;cases g;cases ek;exact EqAt.tuple_bool b p h
    |int b=>cases c;obtain⟨t,rfl⟩:=g;cases ek;exact EqAt.tuple_int b t p h
    |str b=>obtain⟨rfl,_⟩:=c;obtain⟨t,rfl⟩:=g;cases ek;exact EqAt.tuple_str b t p h
    |lst es=>obtain⟨b,us,rfl,sq,_⟩:=c;cases g;cases ek;obtain⟨_,_,p2,_⟩:=I.list sq.sq;exact EqAt.tuple_list p p2.isList h
    |tup es=>
     obtain⟨b,us,rfl,P,B⟩:=c;cases g;obtain⟨l,D,p2,_⟩:=I.tuple P;change lN _ _=Z _ at ek;obtain⟨f,E,rfl⟩:=uQ ek;have J:a≠b:=λz=>L ⟨by rw[z],a,rfl⟩;have z:=EqAt.of_refs J (RcAt.tuples (A:=A) (e:=f) p p2 h (items (by simp only[Bc]at Q;omega) C B F D E));have q1:AQ.toArray.size=ds.length:=by rw[zl,<-F.length,C.length]
     have q2:l.toArray.size=es.length:=by rw[zl,<-D.length,B.length]
     rw[q1,q2]at z;exact z
    |emp=>cases ek
   |lst ds=>
    obtain⟨a,vs,rfl,M,C⟩:=m;cases w;obtain⟨AQ,F,p,_⟩:=I.list M.sq;cases e with
    |non=>cases c;cases g;cases ek;exact EqAt.list_none p.isList h
    |bl b=>cases c;cases g;cases ek;exact EqAt.list_bool b p.isList h
    |int b=>cases c;obtain⟨t,rfl⟩:=g;cases ek;exact EqAt.list_int b t p.isList h
    |str b=>obtain⟨rfl,_⟩:=c;obtain⟨t,rfl⟩:=g;cases ek;exact EqAt.list_str b t p.isList h
    |tup es=>obtain⟨b,us,rfl,sq,_⟩:=c;cases g;cases ek;obtain⟨_,_,p2,_⟩:=I.tuple sq;exact EqAt.list_tuple p.isList p2 h
    |lst es=>
     obtain⟨b,us,rfl,P,B⟩:=c;cases g;obtain⟨l,D,p2,_⟩:=I.list P.sq;change lN _ _=Z _ at ek;obtain⟨f,E,rfl⟩:=uQ ek;have J:a≠b:=λz=>L ⟨by rw[z],a,rfl⟩;have q1:AQ.toArray.size=ds.length:=by rw[zl,<-F.length,C.length]
     have q2:l.toArray.size=es.length:=by rw[zl,<-D.length,B.length]
     by_cases a0:AQ.toArray.size=l.toArray.size
     ·have z:=EqAt.of_refs J (RcAt.lists (A:=A) (e:=f) p.isList p2.isList a0 h (items (by simp only[Bc]at Q;omega) C B F D E));have G:ds.length=es.length:=by omega
      rw[q1]at z;rw[G,dq,beq_self_eq_true,kQ,<-G];exact z
     ·have G:(ds.length==es.length)=false:=by rw[beq_eq_false_iff_ne];omega
      rw[G,cI];exact EqAt.of_refs J (RcAt.lists_lengths p.isList p2.isList (by simpa using a0) h)
    |emp=>cases ek
   |emp=>
    cases e<;>first|(cases ek;done)|skip;simp only[AW]at m c;obtain⟨a,o,rfl,e1⟩:=m;obtain⟨b,o',rfl,e2⟩:=c;cases w;cases g;cases ek;obtain⟨_,m1,vs,r,q⟩:=uL I.hok (.inr ⟨o,e1⟩);obtain⟨_,m2,a1,r',q'⟩:=uL I.hok (.inr ⟨o',e2⟩);exact EqAt.of_refs (λz=>L ⟨by rw[z],a,rfl⟩) (IZ m1 m2 (zL S r q) (zL S r' q') h)
theorem LC(I:L2.AU X AN σ H s){es:O Dt}{us:O V}{c:O A0}{f:Nat->Bool}(D:min (zM ds) (zM es)<=n)(B:A.units+n+1<cLine)(g:aH X.K H ds vs)(h:aH X.K H es us)(i:AX vs AQ)(e:AX us c)(m:∀(j:Nat) x y,ds[j]?=Z x->es[j]?=Z y->KY x y=Z (f j)):∀j (h1:j<AQ.toArray.size) (h2:j<c.toArray.size),EqAt A.in1 s AQ.toArray[j] c.toArray[j] (f j):=by
 intro j h1 h2;have C:=i.length;have G:=e.length;have E:=g.length;have F:=h.length;have o:j<AQ.length:=by simpa using h1
 have v:j<c.length:=by simpa using h2
 have d:ds[j]?=Z (ds[j]'()):=by simp
 have d2:es[j]?=Z (es[j]'()):=by simp
 obtain⟨a,ea,t⟩:=g.get d;obtain⟨b,eb,l⟩:=h.get d2;obtain⟨p,ep,u⟩:=i.get ea;obtain⟨q,z,w⟩:=e.get eb;have e1:AQ.toArray[j]=p:=by simpa[o]using ep
 have e2:c.toArray[j]=q:=by simpa[v]using z
 rw[e1,e2];have J:=uR d;have L:=uR d2;exact LH I n () (by rw[units_in1];omega) t l u w (m j _ _ d d2)
def VF(K:B5)(H:Hp):Dt->V->Prop
 |.lst ds,v=>∃a vs,v=.ref a/\qQ K H a vs/\aH K H ds vs
 |d,v=>AW K H d v
def uT:Bx->Bool
 |.n _=>true
 |.m _ _=>true
 |_=>false
def toD:Bx->Dt
 |.z d=>d
 |.l ds=>.lst ds
 |.o ds=>.lst ds
 |.n _=>.non
 |.m _ _=>.non
theorem aU.toD{b:Bx}(h:aU K H b v)(a:uT b=false):VF K H (toD b) v:=by
 cases b with
 |z d=>
  cases d with
  |lst ds=>exact h.CT rfl
  |_=>exact h
 |l ds=>exact h.CT rfl
 |o ds=>exact h.CT rfl
 |n _=>cases a
 |m _ _=>cases a
theorem QM(I:L2.AU X AN σ H s){e:Dt}{x:V}{v:A0}{k:Bool}(N:min (Bc d) (Bc e)<=100)(hA:X.A.units+100<cLine)(z:VF X.K H d x)(h:VF X.K H e y)(B:As x u)(i:As y v)(ek:KY d e=Z k):RcAt X.A s u v k/\RcNeAt X.A s u v (!k):=by
 have g:X.A.units<cLine:=by omega
 cases d with
 |non=>
  cases z;cases B;cases e with
  |non=>
   cases h;cases i;cases ek;exact⟨.none_none,.none_none⟩
  |bl c=>
   cases h;cases i;cases ek;exact⟨.none_bool c,.none_bool c⟩
  |int c=>
   cases h;obtain⟨t2,rfl⟩:=i;cases ek;exact⟨.none_int c t2,.none_int c t2⟩
  |str c=>
   obtain⟨rfl,_⟩:=h;obtain⟨t2,rfl⟩:=i;cases ek;exact⟨.none_str c t2,.none_str c t2⟩
  |tup c=>
   obtain⟨a2,w,rfl,j,m⟩:=h;cases i;obtain⟨t,l,p2,_⟩:=I.tuple j;cases ek;exact⟨.none_tuple p2 g,.none_tuple p2 g⟩
  |lst c=>
   obtain⟨a2,w,rfl,j,m⟩:=h;cases i;obtain⟨t,l,p2,_⟩:=I.list j;cases ek;exact⟨.none_list p2.isList g,.none_list p2.isList g⟩
  |emp=>cases ek
 |bl x1=>
  cases z;cases B;cases e with
  |non=>
   cases h;cases i;cases ek;exact⟨.bool_none x1,.bool_none x1⟩
  |bl c=>
   cases h;cases i;cases ek;exact⟨.bool_bool x1 c,.bool_bool x1 c⟩
  |int c=>
   cases h;obtain⟨t2,rfl⟩:=i;cases ek;exact⟨.bool_int x1 c t2,.bool_int x1 c t2⟩
  |str c=>
   obtain⟨rfl,_⟩:=h;obtain⟨t2,rfl⟩:=i;cases ek;exact⟨.bool_str x1 c t2,.bool_str x1 c t2⟩
  |tup c=>
   obtain⟨a2,w,rfl,j,m⟩:=h;cases i;obtain⟨t,l,p2,_⟩:=I.tuple j;cases ek;exact⟨.bool_tuple x1 p2 g,.bool_tuple x1 p2 g⟩
  |lst c=>
   obtain⟨a2,w,rfl,j,m⟩:=h;cases i;obtain⟨t,l,p2,_⟩:=I.list j;cases ek;exact⟨.bool_list x1 p2.isList g,.bool_list x1 p2.isList g⟩
  |emp=>cases ek
 |int x1=>
  cases z;obtain⟨t1,rfl⟩:=B;cases e with
  |non=>
   cases h;cases i;cases ek;exact⟨.int_none x1 t1,.int_none x1 t1⟩
  |bl c=>
   cases h;cases i;cases ek;exact⟨.int_bool x1 t1 c,.int_bool x1 t1 c⟩
  |int c=>
   cases h;obtain⟨t2,rfl⟩:=i;cases ek;exact⟨.int_int x1 t1 c t2,.int_int x1 t1 c t2⟩
  |str c=>
   obtain⟨rfl,_⟩:=h;obtain⟨t2,rfl⟩:=i;cases ek;exact⟨.int_str x1 t1 c t2,.int_str x1 t1 c t2⟩
  |tup c=>
   obtain⟨a2,w,rfl,j,m⟩:=h;cases i;obtain⟨t,l,p2,_⟩:=I.tuple j;cases ek;exact⟨.int_tuple x1 t1 p2 g,.int_tuple x1 t1 p2 g⟩
  |lst c=>
   obtain⟨a2,w,rfl,j,m⟩:=h;cases i;obtain⟨t,l,p2,_⟩:=I.list j;cases ek;exact⟨.int_list x1 t1 p2.isList g,.int_list x1 t1 p2.isList g⟩
  |emp=>cases ek
 |str x1=>
  obtain⟨rfl,_⟩:=z;obtain⟨t1,rfl⟩:=B;cases e with
  |non=>
   cases h;cases i;cases ek;exact⟨.str_none x1 t1,.str_none x1 t1⟩
  |bl c=>
   cases h;cases i;cases ek;exact⟨.str_bool x1 t1 c,.str_bool x1 t1 c⟩
  |int c=>
   cases h;obtain⟨t2,rfl⟩:=i;cases ek;exact⟨.str_int x1 t1 c t2,.str_int x1 t1 c t2⟩
  |str c=>
   obtain⟨rfl,_⟩:=h;obtain⟨t2,rfl⟩:=i;cases ek;exact⟨.str_str x1 t1 c t2,.str_str x1 t1 c t2⟩
  |tup c=>
   obtain⟨a2,w,rfl,j,m⟩:=h;cases i;obtain⟨t,l,p2,_⟩:=I.tuple j;cases ek;exact⟨.str_tuple x1 t1 p2 g,.str_tuple x1 t1 p2 g⟩
  |lst c=>
   obtain⟨a2,w,rfl,j,m⟩:=h;cases i;obtain⟨t,l,p2,_⟩:=I.list j;cases ek;exact⟨.str_list x1 t1 p2.isList g,.str_list x1 t1 p2.isList g⟩
  |emp=>
   simp only[VF,AW]at h;obtain⟨p,o,rfl,e⟩:=h;cases i;cases ek;obtain⟨_,_,vs,r,q⟩:=uL I.hok (.inr ⟨o,e⟩);exact⟨HY x1 t1 (zL S r q) g,SQ x1 t1 (zL S r q) g⟩
 |tup x1=>
  obtain⟨a1,a0,rfl,J,C⟩:=z;cases B;obtain⟨G,D,p1,_⟩:=I.tuple J;cases e with
  |non=>
   cases h;cases i;cases ek;exact⟨.tuple_none p1 g,.tuple_none p1 g⟩
  |bl c=>
   cases h;cases i;cases ek;exact⟨.tuple_bool c p1 g,.tuple_bool c p1 g⟩
  |int c=>
   cases h;obtain⟨t2,rfl⟩:=i;cases ek;exact⟨.tuple_int c t2 p1 g,.tuple_int c t2 p1 g⟩
  |str c=>
   obtain⟨rfl,_⟩:=h;obtain⟨t2,rfl⟩:=i;cases ek;exact⟨.tuple_str c t2 p1 g,.tuple_str c t2 p1 g⟩
  |tup c=>
   obtain⟨a2,w,rfl,j,m⟩:=h;cases i;obtain⟨t,l,p2,_⟩:=I.tuple j;change lN _ _=Z _ at ek;obtain⟨f,L,rfl⟩:=uQ ek;have q1:G.toArray.size=x1.length:=by rw[zl,<-D.length,C.length]
   have q2:t.toArray.size=c.length:=by rw[zl,<-l.length,m.length]
   have it:=LC I (n:=99) (A:=X.A) (by simp only[Bc]at N;omega) () C m D l L;rw[<-q1,<-q2];exact⟨.tuples p1 p2 g it,.tuples p1 p2 g it⟩
  |lst c=>
   obtain⟨a2,w,rfl,j,m⟩:=h;cases i;obtain⟨t,l,p2,_⟩:=I.list j;cases ek;exact⟨.tuple_list p1 p2.isList g,.tuple_list p1 p2.isList g⟩
  |emp=>cases ek
 |lst x1=>
  obtain⟨a1,a0,rfl,J,C⟩:=z;cases B;obtain⟨G,D,p1,_⟩:=I.list J;cases e with
  |non=>
   cases h;cases i;cases ek;exact⟨.list_none p1.isList g,.list_none p1.isList g⟩
  |bl c=>
   cases h;cases i;cases ek;exact⟨.list_bool c p1.isList g,.list_bool c p1.isList g⟩
  |int c=>
   cases h;obtain⟨t2,rfl⟩:=i;cases ek;exact⟨.list_int c t2 p1.isList g,.list_int c t2 p1.isList g⟩
  |str c=>
   obtain⟨rfl,_⟩:=h;obtain⟨t2,rfl⟩:=i;cases ek;exact⟨.list_str c t2 p1.isList g,.list_str c t2 p1.isList g⟩
  |tup c=>
   obtain⟨a2,w,rfl,j,m⟩:=h;cases i;obtain⟨t,l,p2,_⟩:=I.tuple j;cases ek;exact⟨.list_tuple p1.isList p2 g,.list_tuple p1.isList p2 g⟩
  |lst c=>
   obtain⟨a2,w,rfl,j,m⟩:=h;cases i;obtain⟨t,l,p2,_⟩:=I.list j;change lN _ _=Z _ at ek;obtain⟨f,L,rfl⟩:=uQ ek;have q1:G.toArray.size=x1.length:=by rw[zl,<-D.length,C.length]
   have q2:t.toArray.size=c.length:=by rw[zl,<-l.length,m.length]
   have it:=LC I (n:=99) (A:=X.A) (by simp only[Bc]at N;omega) () C m D l L;by_cases F:G.toArray.size=t.toArray.size
   ·have E:x1.length=c.length:=by omega
    rw[E,dq,beq_self_eq_true,kQ,<-E,<-q1];exact⟨.lists p1.isList p2.isList F g it,.lists p1.isList p2.isList F g it⟩
   ·have E:(x1.length==c.length)=false:=by rw[beq_eq_false_iff_ne];omega
    rw[E,cI];exact⟨.lists_lengths p1.isList p2.isList (by simpa using F) g,.lists_lengths p1.isList p2.isList (by simpa using F) g⟩
  |emp=>cases ek
 |emp=>
  cases e<;>first|(cases ek;done)|skip;simp only[VF,AW]at z h;obtain⟨a,o,rfl,e1⟩:=z;obtain⟨b,o',rfl,e2⟩:=h;cases B;cases i;cases ek;obtain⟨_,Q,vs,r,q⟩:=uL I.hok (.inr ⟨o,e1⟩);obtain⟨_,W,a3,M,P⟩:=uL I.hok (.inr ⟨o',e2⟩);exact⟨IZ Q W (zL S r q) (zL S M P) g,Pl Q W (zL S r q) (zL S M P) g⟩
def C0(a b:Bx):Y Bx:=if uT a=true\/uT b=true then U else if min (Bc (toD a)) (Bc (toD b))<=100 then(KY (toD a) (toD b)).bind λk=>Z (.z (.bl k))else U
def Zg(a b:Bx):Y Bx:=if uT a=true\/uT b=true then U else if min (Bc (toD a)) (Bc (toD b))<=100 then(KY (toD a) (toD b)).bind λk=>Z (.z (.bl (!k)))else U
theorem of_eq(o:X.A.units+100<cLine):Lh X (AG .Eq) C0:=by
 intro AN s σ H x y v u Q I f j h;obtain⟨a,b,c,i,l,e,q⟩:=h;unfold C0 at e;split at e
 ·cases e
 rename_i d;have g:uT a=false:=by cases h:uT a with|false=>rfl|true=>exact absurd (.inl h) d
 have m:uT b=false:=by cases h:uT b with|false=>rfl|true=>exact absurd (.inr h) d
 split at e
 ·rename_i n;obtain⟨k,ek,e⟩:=AT e;cases e;exact(QM I n o (i.toD g) (l.toD m) f j ek).1 X.prog X.w X.xe _ ⟨.bl k,H,I,rfl,q _ H (AV.refl H) trivial (by unfold aU AW;rfl)⟩
 ·cases e
theorem IX(o:X.A.units+100<cLine):Lh X (AG .NotEq) Zg:=by
 intro AN s σ H x y v u Q I f j h;obtain⟨a,b,c,i,l,e,q⟩:=h;unfold Zg at e;split at e
 ·cases e
 rename_i d;have g:uT a=false:=by cases h:uT a with|false=>rfl|true=>exact absurd (.inl h) d
 have m:uT b=false:=by cases h:uT b with|false=>rfl|true=>exact absurd (.inr h) d
 split at e
 ·rename_i n;obtain⟨k,ek,e⟩:=AT e;cases e;exact(QM I n o (i.toD g) (l.toD m) f j ek).2 X.prog X.w X.xe _ ⟨.bl (!k),H,I,rfl,q _ H (AV.refl H) trivial (by unfold aU AW;rfl)⟩
 ·cases e
theorem JN{i:Int}:aU K H (.z (.int i)) (.int i):=by unfold aU AW;rfl
theorem G2{b:Bool}:aU K H (.z (.bl b)) (.bl b):=by unfold aU AW;rfl
theorem Zh(h:x.length<=AA):aU K H (.z (.str x)) (.str x):=by unfold aU AW;exact⟨rfl,h⟩
theorem Oz{i:Int}(h:aU K H (.z (.int i)) v):v=.int i:=by simpa only[aU,AW]using h
theorem Oe(h:aU K H (.z (.str x)) v):v=.str x/\x.length<=AA:=by simpa only[aU,AW]using h
theorem EC(h:aU K H (.z (.tup ds)) v):∃a vs,v=.ref a/\zm K H a vs/\aH K H ds vs:=by simpa only[aU,AW]using h
def i2(g:Int->Int->Y Dt):Bx->Bx->Y Bx
 |.z (.int i),.z (.int j)=>(g i j).bind λd=>Z (.z d)
 |_,_=>U
theorem Ib{f:A0->A0->Sem A0}{r:R2}{g:Int->Int->Y Dt}(o:Ay X f r)(h:∀i j d H Q,g i j=Z d->(∀v,AW X.K H d v->Q v H)->r (.int i) (.int j) H Q):Lh X f (i2 g):=Ay.imp o λx y H Q q=>by
 obtain⟨a,b,c,l,n,e,q⟩:=q;unfold i2 at e;split at e
 ·rename_i i j;obtain⟨d,p,e⟩:=AT e;cases e;rw[Oz l,Oz n];exact h i j d H Q p λv m=>q v H (AV.refl H) trivial m
 ·cases e
theorem EI{i:Int}:AW K H (.int i) (.int i):=by unfold AW;rfl
theorem EW{b:Bool}:AW K H (.bl b) (.bl b):=by unfold AW;rfl
abbrev CI:=i2 λi j=>Z (.int (i-j))
abbrev DT:=i2 λi j=>Z (.bl (decide (j<i)))
abbrev EV:=i2 λi j=>Z (.bl (decide (j<=i)))
abbrev nY:=i2 λi j=>if 0<j/\j<1073741824 then Z (.int (i / j))else U
abbrev gG:=i2 λi j=>if 0<j then Z (.int (i%j))else U
abbrev Zi:=i2 λi j=>if 0<=j/\j<=1000/\i.natAbs<2 ^ 64 then Z (.int (i ^ j.toNat))else U
theorem OD:Lh X (binaryOp .Sub) CI:=Ib MO λi j d H Q e q=>by cases e;exact⟨i,j,rfl,rfl,q _ EI⟩
theorem VG:Lh X (AG .Gt) DT:=Ib SI λi j d H Q e q=>by cases e;exact⟨i,j,rfl,rfl,q _ EW⟩
theorem NO:Lh X (AG .GtE) EV:=Ib NB λi j d H Q e q=>by cases e;exact⟨i,j,rfl,rfl,q _ EW⟩
theorem jK:Lh X (binaryOp .FloorDiv) nY:=Ib Yr λi j d H Q e q=>by
 split at e
 ·rename_i h;cases e;exact⟨i,j,rfl,rfl,h,q _ EI⟩
 ·cases e
theorem cU:Lh X (binaryOp .Mod) gG:=Ib L5 λi j d H Q e q=>by
 split at e
 ·rename_i h;cases e;exact⟨i,j,rfl,rfl,h,q _ EI⟩
 ·cases e
theorem RA:Lh X (binaryOp .Pow) Zi:=Ib OV λi j d H Q e q=>by
 split at e
 ·rename_i h;cases e;exact⟨i,j,rfl,rfl,⟨h.1,by omega,h.2.2⟩,q _ EI⟩
 ·cases e
def CZ:Bx->Y Bx
 |.z (.int i)=>Z (.z (.int (-i)))
 |_=>U
theorem JQ:IL X (unaryOp .USub) CZ:=Cc.imp KM λx H Q q=>by
 obtain⟨a,c,b,e,q⟩:=q;unfold CZ at e;split at e
 ·rename_i i;cases e;exact⟨i,Oz b,q _ H (AV.refl H) trivial JN⟩
 ·cases e
def S5:Nat:=1000000
theorem Zj:S5<=AA:=by decide
theorem Sr{b:A1}{us:O V}{Q:VK}(I:L2.AU X AN σ H s)(t:qQ X.K H l vs)(u:qQ X.K H b us)(i:vs.length+us.length<=AA)(q:∀p,H p=U->Q (.ref p) (B6 H p (.lst (vs++us)))):
  A7 (eh X) X.A (binaryOp .Add (.ref l) (.ref b)) (EP X AN σ Q) X.xe s:=by
 obtain⟨AQ,f,⟨⟨v,y,E,sl⟩,j,e1,c1,d,h⟩,z1⟩:=I.list t;obtain⟨a,g,⟨⟨cls2,C,z,n⟩,m,e2,c2,d2,c⟩,z2⟩:=I.list u;simp only at c1 d h c2 d2 c;subst c1 d h c2 d2 c;have x:=f.length;have B:=g.length;have e:AQ.toArray++a.toArray=(AQ++a).toArray:=by simp
 refine concat_meets ⟨_,e1,rfl⟩ ⟨_,e2,rfl⟩ noFill_list_add seq_list_add PySem.F.slot_list_add PySem.F.entry_list_add (PySem.F.args_list_add_2 _ _) (list_addW l b AQ.toArray a.toArray j m U U sl n (by rw[zl,zl];omega)) ⟨e1,e2,?_⟩;rw[e];exact⟨.ref s.heap.objs.size,_,I.laid (t':=s.toks) (o:=.lst (vs++us)) (λb D q=>zg _ q) (zo _) ⟨by rw[qr];exact i,_,0,f.append g,zw _ rfl⟩,rfl,q _ (I.hok.fresh (zo _))⟩
theorem N3{b:A1}{us:O V}{Q:VK}(I:L2.AU X AN σ H s)(e:zm X.K H l vs)(d:zm X.K H b us)(g:vs.length+us.length<=AA)(q0:vs=[]->Q (.ref b) H)(q1:us=[]->Q (.ref l) H)(q2:∀p,H p=U->Q (.ref p) (B6 H p (.tup (vs++us)))):
  A7 (eh X) X.A (binaryOp .Add (.ref l) (.ref b)) (EP X AN σ Q) X.xe s:=by
 by_cases a:vs=[]
 ·obtain⟨AQ,m,⟨⟨t,n,v,sl⟩,e1,c1,o,f⟩,z1⟩:=I.tuple e;obtain⟨i,u,⟨⟨cls2,h,x,j⟩,e2,c2,q,c⟩,z2⟩:=I.tuple d;simp only at c1 f c2 c;subst c1 f c2 c;have:AQ=[]:=m.Dk.mpr a;exact concat_meets ⟨_,e1,rfl⟩ ⟨_,e2,rfl⟩ noFill_tuple_add seq_tuple_add PySem.F.slot_tuple_add KG (Kx _ _)
   (tuple_addW0 l b AQ.toArray i.toArray o q n h sl j (by simp[this])) ⟨e1,e2,⟨.ref b,H,I,rfl,q0 a⟩⟩
 ·exact YF AN s σ H (.ref l) (.ref b) (.ref l) (.ref b) Q I S S ⟨l,b,vs,us,rfl,rfl,e,d,a,g,q1,λ_=>q2⟩
def jG:Bx->Bx->Y Bx
 |.z (.int i),.z (.int j)=>Z (.z (.int (i+j)))
 |.z (.str i),.z (.str j)=>if i.length+j.length<=S5 then Z (.z (.str (i++j)))else U
 |.z (.tup xs),.z (.tup ys)=>if xs.length+ys.length<=S5 then Z (.z (.tup (xs++ys)))else U
 |a,b=>(nO a).bind λxs=>(nO b).bind λys=>if xs.length+ys.length<=S5 then Z (.o (xs++ys))else U
theorem CU(i j:AJ):(i++j).length=i.length+j.length:=by
 show(i.cps++j.cps).size=_;rw[JI];rfl
theorem dZ:Lh X (binaryOp .Add) jG:=by
 intro AN s σ H x y v u Q I g o h;obtain⟨a,b,c,n,t,e,q⟩:=h;have B:=Zj;unfold jG at e;split at e
 ·rename_i i j;cases e;exact Ps AN s σ H x y v u Q I g o ⟨i,j,Oz n,Oz t,q _ H (AV.refl H) trivial JN⟩
 ·rename_i i j;split at e
  ·rename_i A;cases e;exact Ol AN s σ H x y v u Q I g o ⟨i,j,(Oe n).1,(Oe t).1,by omega,q _ H (AV.refl H) trivial (Zh (by rw[CU];omega))⟩
  ·cases e
 ·rename_i xs ys;split at e
  ·rename_i A;cases e;obtain⟨l,vs,rfl,sl,d⟩:=EC n;obtain⟨m,us,rfl,w,f⟩:=EC t;cases g;cases o;have h1:=d.length;have h2:=f.length;refine N3 I sl w () (λz=>q _ H (AV.refl H) trivial ?_) (λz=>q _ H (AV.refl H) trivial ?_) λp hp=>q _ _ (bf hp) trivial ?_
   ·unfold aU AW;refine⟨m,us,rfl,w,?_⟩;have:xs=[]:=by subst z;exact bn (by simpa using h1.symm)
    rw[this,k5];exact f
   ·unfold aU AW;refine⟨l,vs,rfl,sl,?_⟩;have:ys=[]:=by subst z;exact bn (by simpa using h2.symm)
    rw[this,Q2];exact d
   ·unfold aU AW;exact⟨p,_,rfl,.inl (.inl aW),(d.append f).kp (.of (bf hp))⟩
  ·cases e
 ·obtain⟨xs,ea,e⟩:=AT e;obtain⟨ys,eb,e⟩:=AT e;split at e
  ·rename_i A;cases e;obtain⟨l,vs,rfl,sl,d⟩:=n.CT ea;obtain⟨m,us,rfl,w,f⟩:=t.CT eb;cases g;cases o;have h1:=d.length;have h2:=f.length;refine Sr I sl w () λp hp=>q _ _ (bf hp) (λa ea=>by cases ea;exact hp) ⟨p,_,rfl,aW,(d.append f).kp (.of (bf hp))⟩
  ·cases e
def xQ:Bx->Bx->Y Bx
 |.z (.int i),.z (.int j)=>if(-(2 ^ 64)<i/\i<2 ^ 64)\/(-(2 ^ 64)<j/\j<2 ^ 64)then Z (.z (.int (i*j)))else U
 |.z (.str x),.z (.int n)=>if n<=1000 ∧ -1000<=n/\x.length<=1000 then Z (.z (.str (Txt.mul x n)))else U
 |_,_=>U
theorem xV(x:Array Nat):∀(n:Nat) (acc:Array Nat),((aa n x).foldl (·++·) acc).size=acc.size+n*x.size
 |0,acc=>by simp
 |n+1,acc=>by
  rw[de,ki,xV x n,JI,dr];omega
theorem JR(x:AJ)(n:Int):(Txt.mul x n).length<=n.toNat*x.length+x.length:=by
 unfold Txt.mul;split
 ·exact Z3 _
 ·split
  ·exact Nat.le_add_left _ _
  ·show((aa n.toNat x.cps).foldl (·++·) #[]).size<=_;rw[xV];show(#[]:Array Nat).size+n.toNat*x.cps.size<=n.toNat*x.cps.size+x.cps.size;simp
theorem sG:Lh X (binaryOp .Mult) xQ:=by
 intro AN s σ H x y v u Q I g m h;obtain⟨a,b,c,l,o,e,q⟩:=h;unfold xQ at e;split at e
 ·rename_i i j;split at e
  ·rename_i f;cases e;exact Ll AN s σ H x y v u Q I g m ⟨i,j,Oz l,Oz o,f,q _ H (AV.refl H) trivial JN⟩
  ·cases e
 ·rename_i d n;split at e
  ·rename_i f;cases e;obtain⟨rfl,hx⟩:=Oe l;have p:=Oz o;subst p;obtain⟨t,rfl⟩:=g;obtain⟨w,rfl⟩:=m;have A:AA=16777216:=sizeLine_eq;have B:n.toNat*d.length<=1000*1000:=Nat.mul_le_mul () f.2.2;refine SB.mul ⟨?_,λh1 h2=>?_,λh1 h2=>?_⟩ λw k=>⟨.str _,H,I.tok _,⟨_,rfl⟩,q _ H (AV.refl H) trivial (Zh (zD (JR d n) ()))⟩
   ·have e1:decide (n < -(2 ^ 63:Int))=false:=z5 ();have e2:decide (n>=2 ^ 63)=false:=z5 ();rw[e1,e2];rfl
   ·have z:0<n:=by omega
    have:(1000:Int)<=(2 ^ 63-1) / n:=(Int.le_ediv_iff_mul_le z).mpr ();omega
   ·show decide (d.length*n.toNat>AA)=false;rw[Nat.mul_comm];exact z5 ()
  ·cases e
 ·cases e
def Hm(i j:AJ):Bool:=!(Builtin.Str.occurrences j i 0 j.length 1).isEmpty
def zN:Dt->Bool
 |.non=>true
 |.bl _=>true
 |.int _=>true
 |.str _=>true
 |_=>false
def CF(x:Dt)(ys:O Dt):Y Bool:=if zN x=true/\ys.all zN=true then Z (ys.any λy=>match KY y x with|some true=>true|_=>false)else U
def G3:Bx->Y (O Dt)
 |.z (.lst ds)=>Z ds
 |.z (.tup ds)=>Z ds
 |.l ds=>Z ds
 |.o ds=>Z ds
 |_=>U
def EE:Bx->Bx->Y Bool
 |.z (.str i),.z (.str j)=>Z (Hm i j)
 |.z d,b=>(G3 b).bind λys=>CF d ys
 |_,_=>U
def inF(a b:Bx):Y Bx:=(EE a b).bind λk=>Z (.z (.bl k))
theorem LK(r:AW K H d v)(f:zN d=true):uf v=true:=by
 cases d<;>first|(cases f;done)|skip
 all_goals simp only[AW]at r
 ·subst r;rfl
 ·subst r;rfl
 ·subst r;rfl
 ·obtain⟨rfl,_⟩:=r;rfl
theorem Ie{K:B5}{H:Hp}:∀{ds:O Dt} {vs:O V},aH K H ds vs->ds.all zN=true->vs.all uf=true
 |[],_,h,_=>by simp only[aH]at h;subst h;rfl
 |d::ds,_,h,f=>by
  simp only[aH]at h;obtain⟨v,r,rfl,h1,h2⟩:=h;rw[j3,ZH]at f;rw[j3,LK h1 f.1,Ie h2 f.2];rfl
theorem JT(b:Bool):(match Z b with|some true=>true|_=>false)=b:=by cases b<;>rfl
theorem Zk{e:Dt}{x:V}(a:AW K H d x)(b:AW K H e y)(fd:zN d=true)(fe:zN e=true):YL x y=(match KY d e with|some true=>true|_=>false):=by
 cases d<;>first|(cases fd;done)|skip
 all_goals (cases e<;>first|(cases fe;done)|skip)
 all_goals simp only[AW]at a b
 all_goals first
  |(subst a;subst b;exact(JT _).symm)
  |(obtain⟨rfl,_⟩:=a;subst b;exact(JT _).symm)
  |(subst a;obtain⟨rfl,_⟩:=b;exact(JT _).symm)
  |(obtain⟨rfl,_⟩:=a;obtain⟨rfl,_⟩:=b;exact(JT _).symm)
theorem QS{K:B5}{H:Hp}{d:Dt}{x:V}(a:AW K H d x)(fd:zN d=true):∀{ds:O Dt} {vs:O V},aH K H ds vs->ds.all zN=true->EU x vs=ds.any λy=>match KY y d with|some true=>true|_=>false
 |[],_,h,_=>by simp only[aH]at h;subst h;rfl
 |e::ds,_,h,f=>by
  simp only[aH]at h;obtain⟨v,r,rfl,h1,h2⟩:=h;rw[j3,ZH]at f;have:=QS a fd h2 f.2;unfold EU at this ⊢;rw[js,js,Zk h1 a f.1 fd,this]
theorem zO{b:Bx}(h:aU K H b v)(e:G3 b=Z ds):∃a vs,v=.ref a/\(qQ K H a vs\/zm K H a vs)/\aH K H ds vs:=by
 cases b with
 |z d=>
  cases d<;>first|(cases e;done)|skip
  ·cases e;obtain⟨a,vs,e,q,r⟩:=EC h;exact⟨a,vs,e,.inr q,r⟩
  ·cases e;obtain⟨a,vs,e,q,r⟩:=h.CT rfl;exact⟨a,vs,e,.inl q,r⟩
 |l c=>
  cases e;obtain⟨a,vs,e,q,r⟩:=h.CT rfl;exact⟨a,vs,e,.inl q,r⟩
 |o c=>
  cases e;obtain⟨a,vs,e,q,r⟩:=h.CT rfl;exact⟨a,vs,e,.inl q,r⟩
 |n _=>cases e
 |m _ _=>cases e
theorem S7{a b:Bx}{x:V}{k:Bool}(g:aU X.K H a x)(h:aU X.K H b y)(e:EE a b=Z k):
  (∃i j,x=.str i/\y=.str j/\k=Hm i j)\/(∃p xs,y=.ref p/\(qQ X.K H p xs\/zm X.K H p xs)/\uf x=true/\xs.all uf=true/\k=EU x xs):=by
 unfold EE at e;split at e
 ·rename_i i j;cases e;exact .inl ⟨i,j,(Oe g).1,(Oe h).1,rfl⟩
 ·rename_i d _;obtain⟨ys,m,e⟩:=AT e;unfold CF at e;split at e
  ·rename_i c;cases e;obtain⟨p,vs,rfl,sq,f⟩:=zO h m;have l:AW X.K H d x:=g;exact .inr ⟨p,vs,rfl,sq,LK l c.1,Ie f c.2,(QS l c.1 f c.2).symm⟩
  ·cases e
 ·cases e
theorem MX:Lh X (AG .In) inF:=by
 intro AN s σ H x y v u Q I f d h;obtain⟨a,b,c,g,l,e,q⟩:=h;obtain⟨k,ek,e⟩:=AT e;cases e;rcases S7 g l ek with⟨i,j,rfl,rfl,rfl⟩|⟨p,xs,rfl,sq,f1,f2,rfl⟩
 ·exact R6 AN s σ H _ _ v u Q I f d ⟨i,j,rfl,rfl,q _ H (AV.refl H) trivial G2⟩
 ·exact Sd AN s σ H _ _ v u Q I f d ⟨p,xs,rfl,sq,f1,f2,q _ H (AV.refl H) trivial G2⟩
def OJ:Bx->Bool
 |.z .non=>true
 |_=>false
theorem S8{b:Bx}(h:aU K H b v):decide (v=.non)=OJ b:=by
 cases b with
 |z d=>
  cases d<;>simp only[aU,AW]at h
  ·subst h;rfl
  ·subst h;rfl
  ·subst h;rfl
  ·obtain⟨rfl,_⟩:=h;rfl
  ·obtain⟨_,_,rfl,_⟩:=h;rfl
  ·obtain⟨_,_,rfl,_⟩:=h;rfl
  ·obtain⟨_,_,rfl,_⟩:=h;rfl
 |l ds=>obtain⟨_,_,rfl,_⟩:=h;rfl
 |o ds=>obtain⟨_,_,rfl,_⟩:=h;rfl
 |n ds=>obtain⟨_,_,rfl,_⟩:=h;rfl
 |m ds _=>obtain⟨_,_,rfl,_⟩:=h;rfl
def LQ(a:Bx):Bx->Y Bx
 |.z .non=>Z (.z (.bl (!OJ a)))
 |_=>U
theorem Zm:Lh X (AG .IsNot) LQ:=Ay.imp Ys λx y H Q q=>by
 obtain⟨a,b,c,f,d,e,q⟩:=q;unfold LQ at e;split at e
 ·cases e;simp only[aU,AW]at d;exact⟨d,by rw[S8 f];exact q _ H (AV.refl H) trivial G2⟩
 ·cases e
def gH:Bx->Bx->Y Bx
 |.z (.str x),.z (.int i)=>(GJ x.cps.toList i).bind λc=>Z (.z (.str ⟨#[c]⟩))
 |b,.z (.int i)=>(G3 b).bind λds=>(GJ ds i).bind λd=>Z (.z d)
 |_,_=>U
theorem Zn{i:Int}(r:aH K H ds vs)(e:GJ ds i=Z d):∃v,GJ vs i=Z v/\AW K H d v:=by
 unfold GJ at e ⊢;rw[r.length];obtain⟨j,a,e⟩:=AT e;rw[a];exact r.get e
theorem bI{a b:Expr}(j:QV X a fa)(l:QV X b fb)(hs:Qz b:=by intro _ _;with_unfolding_all rfl):QV X (.Subscript a b pos) (b2 gH fa fb):=⟨have j:=j.run;have l:=l.run;HS (OI Lv j l hs) λσ H Q h=>by
 obtain⟨H0,ρ,c,E,e,q⟩:=h;obtain⟨a,ea,e⟩:=AT e;obtain⟨b,eb,e⟩:=AT e;refine⟨H0,ρ,a,E,ea,λv H1 f C z=>⟨H0,ρ,b,E.grow f,eb,λu H2 g D n=>?_⟩⟩;have m:=z.same g;unfold gH at e;split at e
 ·rename_i x i;obtain⟨c',A,e⟩:=AT e;cases e;exact .inr (.inr ⟨_,_,c',(Oe m).1,Oz n,(Oe m).2,A,q _ _ (f.trans g) trivial (Zh (by show(1:Nat)<=AA;decide))⟩)
 ·obtain⟨ds,B,e⟩:=AT e;obtain⟨d,t,e⟩:=AT e;cases e;obtain⟨p,vs,rfl,sq,y⟩:=zO m B;obtain⟨w,s,o⟩:=Zn y t;have hi:=Oz n;rcases sq with sq|sq
  ·exact .inl ⟨p,vs,_,w,rfl,hi,sq,s,q _ _ (f.trans g) trivial o⟩
  ·exact .inr (.inl ⟨p,vs,_,w,rfl,hi,sq,s,q _ _ (f.trans g) trivial o⟩)
 ·cases e⟩
theorem S0:AH "int"=Z (.type "int"):=by decide +kernel
theorem dI:AH "tuple"=Z (.type "tuple"):=by decide +kernel
theorem QT:AH "dict"=Z (.type "dict"):=by decide +kernel
theorem qJ:AH "len"=Z (.builtin "len"):=by decide +kernel
theorem SF:AH "abs"=Z (.builtin "abs"):=by decide +kernel
theorem VJ:AH "min"=Z (.builtin "min"):=by decide +kernel
theorem VL:AH "max"=Z (.builtin "max"):=by decide +kernel
theorem qW:AH "sorted"=Z (.builtin "sorted"):=by decide +kernel
def OM(K:B5)(f:Ev->Y (Y Int)):TO:=λσ H Q=>∃H0 ρ o,bD K H0 H σ ρ/\f ρ=Z o/\∀H',AV H H'->Q o H'
def SO(X:Cx)(e:Y Expr)(f:Ev->Y (Y Int)):Prop:=PO X e (OM X.K f)
structure EM (X:Cx) (e:Option Expr) (f:Ev->Option (Option Int)):Prop where
 run:SO X e f
theorem GU{e:Y Expr}{t t':TO}(h:PO X e t)(m:∀ σ H Q,t' σ H Q->t σ H Q):PO X e t':=λAN s σ H Q I q=>h AN s σ H Q I (m σ H Q q)
def Bg:Ev->Y (Y Int):=λ_=>Z U
theorem zP  :EM X U Bg:=⟨GU YC λσ H Q h=>by
 obtain⟨H0,ρ,o,E,e,q⟩:=h;cases e;exact q H (AV.refl H)⟩
def F':Bx->Y (Y Int)
 |.z (.int i)=>Z (Z i)
 |_=>U
def uU(f:Ev->Y Bx):Ev->Y (Y Int):=λρ=>(f ρ).bind F'
theorem qX(h:QV X e f):EM X (Z e) (uU f):=⟨have h:=h.run;GU (YD h) λσ H Q q=>by
 obtain⟨H0,ρ,o,E,e,q⟩:=q;obtain⟨b,eb,e⟩:=AT e;refine⟨H0,ρ,b,E,eb,λv H1 c d a=>?_⟩;unfold F' at e;split at e
 ·rename_i i;cases e;exact⟨i,Oz a,q H1 c⟩
 ·cases e⟩
def By(xs:O Dt)(lo hi:Y Int):O Dt:=(xs.drop (HT.gK xs.length 0 lo)).take (HT.gK xs.length xs.length hi-HT.gK xs.length 0 lo)
theorem LR(r:aH K H ds vs)(lo hi:Y Int):aH K H (By ds lo hi) (K9 vs lo hi):=by
 unfold By K9;rw[r.length];exact(r.drop _).take _
theorem VN(ds:O Dt)(h1:HT.gK ds.length 0 lo=0)(h2:HT.gK ds.length ds.length hi=ds.length):By ds lo hi=ds:=by
 unfold By;rw[h1,h2];simp
theorem zQ{t sl:A1}{b c:A0}(a:IsTup s.heap t items)(hs:s.heap.IsSliceOf sl b c .none)(pl:IsPart b lo)(f:IsPart c hi)(h1:HT.gK items.size 0 lo=0)(h2:HT.gK items.size items.size hi=items.size)(h:Q (.ref t) s):A7 (A8 prog w) A (getItem (.ref t) (.ref sl)) Q E s:=by
 obtain⟨os,d,e,j⟩:=id hs;have g:s.TypeIs (.ref sl) "slice":=⟨os,d,e⟩;unfold getItem
 try with_reducible refine ZA ?_
 first|refine zb (zd ?_)|skip
 refine zb (Ki a.typeIs () ?_);refine zb (kq (name:=Str.ofString "__getitem__") a.typeIs PyProof.Rows.slot_tuple_getitem
  (JY PyProof.Rows.slot_tuple_getitem a.typeIs entry_tuple_getitem ?_ (args_tuple_getitem _ _)))
 show A7 _ _ (Builtin.Tuple.tupleItemsOf (.ref t) >>= _) _ _ s;refine zb (tupleItemsOf_ a ?_);refine zb (QA g ?_);rw[zr ()];refine zb (HT.qT hs pl f ?_);have i:(((HT.gK items.size 0 lo:Nat):Int)==0&&(1:Int)==1&&(HT.gK items.size items.size hi-HT.gK items.size 0 lo)==items.size)=true:=by
  rw[h1,h2];simp
 show A7 _ _ (if(((HT.gK items.size 0 lo:Nat):Int)==0&&(1:Int)==1&&(HT.gK items.size items.size hi-HT.gK items.size 0 lo)==items.size)=true then _ else _) _ _ s;rw[zr i]
 first
  |refine zb (zb (QA a.typeIs (zd ?_)))
  |refine zb (QA a.typeIs (zb (zd ?_)))
  |refine zb (QA a.typeIs ?_)
 rw[zr ()]
 first
  |exact zb (JJ (zd ⟨_,rfl,zd h⟩))
  |exact zb (JJ (zb (zd (zd ⟨_,rfl,zd h⟩))))
def DS(b:Bx)(lo hi:Y Int):Y Bx:=match b with
 |.z (.str x)=>Z (.z (.str (Txt.slice x lo hi)))
 |.z (.tup ds)=>Z (.z (.tup (By ds lo hi)))
 |b=>(nO b).bind λds=>Z (.o (By ds lo hi))
def N1(K:B5):V->Y Int->Y Int->Hp->VK->Prop:=λx lo hi H Q=>∃b c,aU K H b x/\DS b lo hi=Z c/\∀w H',AV H H'->Nw H c w->aU K H' c w->Q w H'
theorem KS:EL X (N1 X.K):=by
 intro AN s σ H x v D L lo hi sl Q I n A pl g h;obtain⟨b,c,w,e,q⟩:=h;unfold DS at e;split at e
 ·rename_i y;cases e;obtain⟨rfl,d⟩:=Oe w;obtain⟨t,rfl⟩:=n;refine⟨"str", _,F.slot_str_getitem.lookup,typeIs_str _ _ _,?_⟩;obtain⟨o,e1,e2,e3⟩:=A;have z:∀E k,EP X AN σ Q (.str (Txt.slice y lo hi) E) { s with toks:=k }:=λE k=>⟨.str _,H,I.tok _,⟨_,rfl⟩,q _ H (AV.refl H) trivial (Zh (zD (Txt.slice_le y _ _) d))⟩;cases pl with
  |none=>
   cases g with
   |none=>exact ko (l:=U) (u:=U) (st:=U) ⟨o,e1,e2,e3⟩ S (post_val_or_str ⟨zD (Txt.slice_le y _ _) d,z⟩)
   |int j B=>exact ko (l:=U) (u:=Z (j,B)) (st:=U) ⟨o,e1,e2,e3⟩ S (post_val_or_str ⟨zD (Txt.slice_le y _ _) d,z⟩)
  |int i G=>
   cases g with
   |none=>exact ko (l:=Z (i,G)) (u:=U) (st:=U) ⟨o,e1,e2,e3⟩ S (post_val_or_str ⟨zD (Txt.slice_le y _ _) d,z⟩)
   |int j B=>exact ko (l:=Z (i,G)) (u:=Z (j,B)) (st:=U) ⟨o,e1,e2,e3⟩ S (post_val_or_str ⟨zD (Txt.slice_le y _ _) d,z⟩)
 ·rename_i ds;cases e;obtain⟨a,vs,rfl,sq,f⟩:=EC w;by_cases m:HT.gK vs.length 0 lo=0/\HT.gK vs.length vs.length hi=vs.length
  ·cases n;obtain⟨AQ,r,C,N⟩:=I.tuple sq;have J:AQ.toArray.size=vs.length:=by rw[zl];exact r.length.symm
   refine⟨"tuple", _,PyProof.Rows.slot_tuple_getitem.lookup,C.typeIs,zQ C A pl g (by rw[J];exact m.1) (by rw[J];exact m.2) ⟨.ref a,H,I,rfl,q _ H (AV.refl H) trivial ?_⟩⟩;rw[VN ds (by rw[<-f.length];exact m.1) (by rw[<-f.length];exact m.2)];exact w
  ·refine OK AN s σ H _ v D L lo hi sl Q I n A pl g ⟨a,vs,rfl,sq,m,λp hp=>q _ _ (bf hp) trivial ?_⟩;unfold aU AW;exact⟨p,_,rfl,.inl (.inl aW),(LR f lo hi).kp (.of (bf hp))⟩
 ·obtain⟨ds,M,e⟩:=AT e;cases e;obtain⟨a,vs,rfl,sq,f⟩:=w.CT M;exact YK AN s σ H _ v D L lo hi sl Q I n A pl g ⟨a,vs,rfl,sq,λp hp=>q _ _ (bf hp) (λa ea=>by cases ea;exact hp) ⟨p,_,rfl,aW,(LR f lo hi).kp (.of (bf hp))⟩⟩
def VP(f:Ev->Y Bx)(fl fh:Ev->Y (Y Int)):Ev->Y Bx:=λρ=>(f ρ).bind λb=>(fl ρ).bind λlo=>(fh ρ).bind λhi=>DS b lo hi
theorem Ma{lo hi:Y Expr}{fl fh:Ev->Y (Y Int)}(j:QV X e f)(g:EM X lo fl)(d:EM X hi fh):QV X (.Subscript e (.Slice lo hi U p2) pos) (VP f fl fh):=⟨have j:=j.run;have g:=g.run;have d:=d.run;HS (U5 KS j g d) λσ H Q h=>by
 obtain⟨H0,ρ,c,E,e,q⟩:=h;obtain⟨b,eb,e⟩:=AT e;obtain⟨lo,el,e⟩:=AT e;obtain⟨hi,t,e⟩:=AT e;refine⟨H0,ρ,b,E,eb,λv H1 a x o=>⟨H0,ρ,lo,E.grow a,el,λH2 i=>⟨H0,ρ,hi,E.grow (a.trans i),t,λy m=>?_⟩⟩⟩;have l:=(a.trans i).trans m;exact⟨b,c,(o.same i).same m,e,λw s n p u=>q w s (l.trans n) (p.old l) u⟩⟩
def uV:O Bx->Y Bx
 |[.z (.str x)]=>Z (.z (.int x.length))
 |[b]=>(G3 b).bind λds=>Z (.z (.int ds.length))
 |_=>U
theorem BI{b:Bx}(r:xU K H [b] vs):∃v,vs=[v]/\aU K H b v:=by
 cases r with
 |cons p t=>cases t;exact⟨_,rfl,p⟩
theorem CY{b c:Bx}(r:xU K H [b,c] vs):∃v u,vs=[v,u]/\aU K H b v/\aU K H c u:=by
 cases r with
 |cons p t=>
  cases t with
  |cons p' a=>cases a;exact⟨_,_,rfl,p,p'⟩
theorem qK:uM X (.builtin "len") uV:=jH.imp (Jr.or Js) λxs H Q q=>by
 obtain⟨bs,c,b,e,q⟩:=q;unfold uV at e;split at e
 ·rename_i x;cases e;obtain⟨v,rfl,a⟩:=BI b;obtain⟨rfl,hx⟩:=Oe a;exact .inr ⟨x,rfl,hx,q _ H (AV.refl H) trivial JN⟩
 ·obtain⟨ds,f,e⟩:=AT e;cases e;obtain⟨v,rfl,a⟩:=BI b;obtain⟨p,vs,rfl,sq,d⟩:=zO a f;exact .inl ⟨p,vs,rfl,sq,by rw[d.length];exact q _ H (AV.refl H) trivial JN⟩
 ·cases e
def S9:O Bx->Y Bx
 |[.z (.int i)]=>Z (.z (.int (if i<0 then -i else i)))
 |_=>U
theorem OP:uM X (.builtin "abs") S9:=jH.imp UL λxs H Q q=>by
 obtain⟨bs,c,b,e,q⟩:=q;unfold S9 at e;split at e
 ·rename_i i;cases e;obtain⟨v,rfl,a⟩:=BI b;have:=Oz a;subst this;exact⟨i,rfl,q _ H (AV.refl H) trivial JN⟩
 ·cases e
def VR:O Bx->Y Bx
 |[.z (.int i)]=>Z (.z (.int i))
 |[.z (.bl k)]=>Z (.z (.int (if k then 1 else 0)))
 |_=>U
theorem NL:uM X (.type "int") VR:=jH.imp R7 λxs H Q q=>by
 obtain⟨bs,c,b,e,q⟩:=q;unfold VR at e;split at e
 ·rename_i i;cases e;obtain⟨v,rfl,a⟩:=BI b;have:=Oz a;subst this;exact .inl ⟨i,rfl,q _ H (AV.refl H) trivial JN⟩
 ·rename_i k;cases e;obtain⟨v,rfl,a⟩:=BI b;simp only[aU,AW]at a;subst a;exact .inr ⟨k,rfl,q _ H (AV.refl H) trivial JN⟩
 ·cases e
def cN:O Bx->Y Bx
 |[b]=>(G3 b).bind λds=>Z (.z (.tup ds))
 |_=>U
theorem dJ:uM X (.type "tuple") cN:=jH.imp GQ λxs H Q q=>by
 obtain⟨bs,c,f,e,q⟩:=q;unfold cN at e;split at e
 ·obtain⟨ds,g,e⟩:=AT e;cases e;obtain⟨v,rfl,d⟩:=BI f;obtain⟨p,vs,rfl,sq,a⟩:=zO d g;refine⟨p,vs,rfl,?_⟩;rcases sq with sq|sq
  ·refine .inl ⟨sq,λl b=>q _ _ (bf b) trivial ?_⟩;unfold aU AW;exact⟨l,vs,rfl,.inl (.inl aW),a.kp (.of (bf b))⟩
  ·refine .inr ⟨sq,q _ H (AV.refl H) trivial ?_⟩;unfold aU AW;exact⟨p,vs,rfl,sq,a⟩
 ·cases e
end P1
namespace P1
open L2
def gv(i:Nat):Ev->Y Bx:=λρ=>CV ρ i
def G4(g:Bx->Bx->Y Bx)(fa fb:Ev->Y Bx):Ev->Y Bool:=λρ=>(b2 g fa fb ρ).bind Vm
def tV(f:Ev->Y Bx):Ev->Y Bool:=λρ=>(f ρ).bind Vq
def aG:Ev->Y (O Bx):=λ_=>Z []
def jl:Ev->Y An:=λρ=>Z (.nx ρ)
def gO(f:Ev->Y Bx):Ev->Y An:=λρ=>(f ρ).bind Vt
def At(i:Nat)(f:Ev->Y Bx):Ev->Y An:=λρ=>(f ρ).bind λb=>(Lj ρ i b).bind λa=>Z (.nx a)
def Fn(i j:Nat)(fs:Ev->Y (O Bx)):Ev->Y An:=λρ=>(fs ρ).bind (Y8 i j ρ)
def G5(i:Nat)(f:Ev->Y Bx):Ev->Y An:=λρ=>(f ρ).bind (Y9 ρ i)
def oA(fi:Ev->Y (O Dt))(gt:Dt->Ev->Y Ev)(gb:Ev->Y An):Ev->Y An:=λρ=>(fi ρ).bind λds=>sy gt gb ds ρ
def Ye(f:Ev->Y Bx):Ev->Y (O Dt):=λρ=>(f ρ).bind Vu
def uE(f:Ev->Y Bx):Ev->Y (O Dt):=λρ=>(f ρ).bind VB
def KZ(fs:Ev->Y (O Bx)):Ev->Y (O Dt):=λρ=>(fs ρ).bind F0
def jm(i:Nat):Dt->Ev->Y Ev:=λd ρ=>Z (ρ.set i (Z (.z d)))
def kW:Ev->Y Bool:=λ_=>Z true
theorem bR:JL X [] kW:=⟨.inl ⟨rfl,rfl⟩⟩
theorem lO(h:QB X c p):JL X [c] p:=⟨have h:=h.run;.inr ⟨c,rfl,h⟩⟩
theorem Nc:GX X scope cl [] []:=trivial
theorem Zo{xs:AZ}(n:X.N[i]?=Z x)(k:X.env.kindOf x=Z .cell\/X.env.kindOf x=Z .free)(a:(relabel scope X.env).names.lookup x=Z .cell\/(relabel scope X.env).names.lookup x=Z .free)(c:∃c,cl.lookup x=Z c)(r:GX X scope cl xs is):GX X scope cl (x::xs) (i::is):=⟨⟨n,k,a,c⟩,r⟩
theorem mem_of_lookup{a:O (AJ×NameKind)}{x:AJ}{k:NameKind}:a.lookup x=Z k->(x,k)∈a:=qV
theorem PF{xs:AZ}(clos:closureFor scope X.env=pure cl)(kind:scope.kind=.function)(cell:scope.names.all (λy=>decide (y.2≠.cell)||(cl.lookup y.1).isNone)=true)(names:scope.names.all (λy=>decide (y.2=.local->scope.names.lookup y.1=Z .local))=true)(sub:Bz X.env.cells cl)(has:(relabel scope X.env).names.all (λy=>!(y.2==.cell||y.2==.free)||(cl.lookup y.1).isSome||scope.names.contains (y.1,.cell))=true)(cap:GX X scope cl xs is):yG X scope cl xs is where
 clos:=clos
 kind:=kind
 cell:=λy a b=>by
  have:=List.all_eq_true.mp cell y a;simp only[b,ne_eq,not_true_eq_false,JS,bv,bS]at this;exact this
 names:=λy a=>Q4 (List.all_eq_true.mp names y a)
 sub:=sub
 has:=λx hx=>by
  have h:∃k,(relabel scope X.env).names.lookup x=Z k/\(k==NameKind.cell||k==NameKind.free)=true:=by
   rcases hx with hx|hx
   ·exact⟨_,hx,rfl⟩
   ·exact⟨_,hx,rfl⟩
  obtain⟨k,e,hk⟩:=h;have:=List.all_eq_true.mp has _ (mem_of_lookup e);simp only[hk,Kt,bv,cw]at this;rcases this with h|h
  ·exact .inr (aT.mp h)
  ·exact .inl (ba.mp h)
 cap:=cap
theorem Du{k:Nat}(r:kj k A):A.units+100<cLine:=by have:=r.un;omega
theorem SC(h:∀b:O Int,b.length<=63->F [.z (.lst (b.map .int))]=Z (.z (.bl true)))(i:∀b:O Int,b.length<=63->F [.l (b.map .int)]=Z (.z (.bl true)))(K:B5)(H:Hp)(a:A1)(b:O Int)(hn:b.length<=63)(_:CL H)(c:qQ K H a (b.map V.int)):
  Ul K 1 F [.ref a] H (λv _=>v=.bl true) λ_ _ _=>False:=by
 have e:∀d:O Int,aH K H (d.map Dt.int) (d.map V.int):=λd=>by
  induction d with
  |nil=>exact aH.nil
  |cons m d g=>exact aH.cons (by unfold AW;rfl) g
 have f:∀v (H':Hp),AV H H'->Nw H (.z (.bl true)) v->aU K H' (.z (.bl true)) v->v=.bl true:=λv H' _ _ r=>by simpa only[aU,AW]using r
 rcases c with c|c
 ·exact⟨rfl,[.l (b.map .int)],_,.cons ⟨a,_,rfl,c,e b⟩ .nil,rfl,i b hn,f⟩
 ·refine⟨rfl,[.z (.lst (b.map .int))],_,.cons ?_ .nil,rfl,h b hn,f⟩;unfold aU AW;exact⟨a,_,rfl,.inr c,e b⟩
theorem S3{f:A1}{k:Nat}(F:Yc K x qual st f fd)(S:bC N ps (aJ st))(hn:N.length=n)(b:ps.length=m)(c:∀(a:A0) (A:A5) (outer:O Env) (s:A2) (H:Hp) (E:XK),kj k (A.deeper (AK qual (aJ st) s.heap.objs.size f a))->Uw (DY Jx P w K mg base N qual (aJ st) f a A outer s H E).Yb (jq st) g):
  uJ P w K mg base Jx (k+1) f fd ps (Ul K m (dH n g)):=by
 subst hn b;exact OY F S c
section
variable{st:Expr}{fs:Ev->Y Bx}
theorem O1(n:Nat):Builtin.Slice.slicePlaces ((n:Int)-1) (-1) (-1)=n:=by
 unfold Builtin.Slice.slicePlaces;simp only[show ¬ ((-1:Int)>0) by decide,ZY,show -(-1:Int)=1 by decide,Int.ediv_one];split<;>omega
theorem Bh{sl:A1}{u:Tok}{Q:Int×Int×Nat->A2->Prop}(hs:s.heap.IsSliceOf sl .none .none (.int (-1) u))(h:Q ((n:Int)-1,-1,n) s):A7 (A8 prog w) A (Builtin.Slice.sliceApplied (.ref sl) (pure (n:Int))) Q E s:=by
 obtain⟨os,b,c,a⟩:=id hs;unfold Builtin.Slice.sliceApplied Builtin.Slice.sliceFields;refine zb (zb (k9 b a (x:=.none) S (zb (k9 b a (x:=.none) S (zb (k9 b a (x:=.int (-1) u) S (zd ?_)))))));refine zb (HT.o9 (.int (-1) u) ?_);show A7 _ _ (if((-1:Int)==0)=true then _ else _) _ _ s;rw[zS ()];refine zb (HT.o9 .none (zb (HT.o9 .none (zb (zd ?_)))));show A7 _ _ (pure ((n:Int)-1,(-1:Int),Builtin.Slice.slicePlaces ((n:Int)-1) (-1) (-1))) _ _ s;rw[O1];exact zd h
theorem JV{α β:Type}{f:α->Y β}{g:α->β}:∀l:O α,(∀a∈l,f a=Z (g a))->l.filterMap f=l.map g
 |[],_=>rfl
 |a::l,h=>by
  rw[Zs,h a (ze ..),zk,JV l λb c=>h b (zh _ c)]
theorem V0(xs:Array A0):((ax xs.size).filterMap λ(m:Nat)=>xs[(((xs.size:Nat):Int)-1+(m:Int)*(-1)).toNat]?).toArray=xs.toList.reverse.toArray:=by
 congr 1;rw[JV (g:=λm=>xs.toList.getD (xs.size-1-m) .none)]
 ·apply dE
  ·simp
  ·intro k h1 h2;have hk:k<xs.size:=by simpa using h1
   rw[cb,List.getElem_range,List.getElem_reverse,JP,qi (by simp;omega)];simp
 ·intro m b;have b:=aw.mp b;have e:(((xs.size:Nat):Int)-1+(m:Int)*(-1)).toNat=xs.size-1-m:=by omega
  have a:xs.size-1-m<xs.size:=by omega
  rw[e,Array.getElem?_eq_getElem a,JP,qi (by simpa using a)];simp
theorem zR{t sl:A1}{u:Tok}(b:IsTup s.heap t items)(hs:s.heap.IsSliceOf sl .none .none (.int (-1) u))(h:Q (.ref s.heap.objs.size) { s with heap:=s.heap.push { cls:=.type "tuple",data:=.seq items.toList.reverse.toArray } })(hsz:items.size<=AA):A7 (A8 prog w) A (getItem (.ref t) (.ref sl)) Q E s:=by
 have a:sizeOk (.seq items.toList.reverse.toArray):=by
  show items.toList.reverse.toArray.size<=AA;rw[zl,kc,QN];exact hsz
 obtain⟨os,d,e,g⟩:=id hs;have f:s.TypeIs (.ref sl) "slice":=⟨os,d,e⟩;unfold getItem
 try with_reducible refine ZA ?_
 first|refine zb (zd ?_)|skip
 refine zb (Ki b.typeIs () ?_);refine zb (kq (name:=Str.ofString "__getitem__") b.typeIs PyProof.Rows.slot_tuple_getitem
  (JY PyProof.Rows.slot_tuple_getitem b.typeIs entry_tuple_getitem ?_ (args_tuple_getitem _ _)))
 show A7 _ _ (Builtin.Tuple.tupleItemsOf (.ref t) >>= _) _ _ s;refine zb (tupleItemsOf_ b ?_);refine zb (QA f ?_);rw[zr ()];refine zb (Bh hs ?_);have c:¬ ((((items.size:Int)-1)==0&&(-1:Int)==1&&items.size==items.size)=true):=by
  rw[show((-1:Int)==1)=false from rfl,cI,Bool.false_and];exact Zp
 show A7 _ _ (if(((items.size:Int)-1)==0&&(-1:Int)==1&&items.size==items.size)=true then _ else _) _ _ s;rw[zS c,V0]
 first
  |exact zb (m:=Builtin.Tuple.tupleExact _) (qf (zd ⟨_,rfl,zd h⟩) a)
  |exact zb (m:=Builtin.Tuple.tupleExact _) (qf (zb (zd (zd ⟨_,rfl,zd h⟩))) a)
  |exact zb (zb (m:=Builtin.Tuple.tupleExact _) (qf (zd (zd ⟨_,rfl,zd h⟩)) a))
  |exact zb (zb (m:=Builtin.Tuple.tupleExact _) (qf (zd ⟨_,rfl,zd h⟩) a))
def Tc:Bx->Bx->Y Bx
 |.z (.tup ds),.z (.int i)=>if i = -1 then Z (.z (.tup ds.reverse))else U
 |_,_=>U
theorem aH.rev{K:B5}{H:Hp}:∀{ds:O Dt} {vs:O V},aH K H ds vs->aH K H ds.reverse vs.reverse
 |[],_,h=>by simp only[aH]at h;subst h;exact aH.nil
 |d::ds,_,h=>by
  simp only[aH]at h;obtain⟨v,r,rfl,hd,a⟩:=h;rw[Kj,Kj];exact aH.append (aH.rev a) (aH.cons hd aH.nil)
theorem Td{a b c:Bx}(h:Tc a b=Z c):∃ds,a=.z (.tup ds)/\b=.z (.int (-1))/\c=.z (.tup ds.reverse):=by
 unfold Tc at h;split at h
 ·rename_i ds i;split at h
  ·rename_i hi;subst hi;cases h;exact⟨ds,rfl,rfl,rfl⟩
  ·cases h
 ·cases h
theorem PR(t:QV X e f)(m:QV X st fs)(G:∀v i:A0,subscripted (.Slice U U (Z st) p2) false v i=operate [v,i] (getItem v i):=by intro _ _;with_unfolding_all rfl):QV X (.Subscript e (.Slice U U (Z st) p2) pos) (b2 Tc f fs):=⟨by
 have t:=t.run;have m:=m.run;intro AN s σ H Q I h;obtain⟨H0,ρ,c,E,g,q⟩:=h;obtain⟨a,ea,g⟩:=AT g;obtain⟨b,eb,g⟩:=AT g;refine Subscript_ (jF (t AN s σ H (λx H1=>AV H H1/\aU X.K H1 a x) I ⟨H0,ρ,a,E,ea,λv H1 n J l=>⟨n,l⟩⟩) λv n ⟨x,H1,I1,l,O2,BI⟩=>?_);refine wpAny_Slice ?_;rw[evalPart_none];refine zd ?_;refine zd ?_;rw[evalPart_some];refine jF (m AN n σ H1 (λy H2=>AV H1 H2/\aU X.K H2 b y) I1 ⟨H0,ρ,b,E.grow O2,eb,λv H2 d L u=>⟨d,u⟩⟩) λvk d ⟨y,H2,I2,u,ug,CY⟩=>?_;obtain⟨ds,rfl,rfl,rfl⟩:=Td g;have C:y=.int (-1):=by simpa only[aU,AW]using CY
 subst C;obtain⟨tk,rfl⟩:=u;obtain⟨p,vs,rfl,sq,D⟩:∃p vs,x=.ref p/\zm X.K H2 p vs/\aH X.K H2 ds vs:=by
  have:=BI.same ug;simpa only[aU,AW]using this
 cases l;have j:L2.AU X AN σ H2 { d with heap:=d.heap.push { cls:=.type "slice",data:=.fields #[.none,.none,.int (-1) tk] } }:=I2.kept (t':=d.toks) λb F q=>zg _ q;obtain⟨AQ,r,B,z⟩:=j.tuple sq;show A7 (eh X) X.A (subscriptTail e (.Slice U U (Z st) p2) (.ref p) (.ref d.heap.objs.size)) (EP X AN σ Q) X.xe { d with heap:=d.heap.push { cls:=.type "slice",data:=.fields #[.none,.none,.int (-1) tk] } };refine tail_any (ops:=[.ref p,.ref d.heap.objs.size]) B.typeIs PyProof.Rows.slot_tuple_getitem.lookup (zR B (Heap.IsSliceOf.new ..) ?_ (by rw[zl,<-r.length];exact z)) (G _ _);refine⟨.ref _,_,j.laid (t':=d.toks) (o:=.tup vs.reverse) (λb F q=>zg _ q) (zo _) ?_,rfl,q _ _ ((O2.trans ug).trans (bf (j.hok.fresh (zo _)))) trivial ?_⟩
 ·exact⟨by rw[kc];exact z,_,r.reverse,fP.new _ _⟩
 ·simp only[aU,AW];exact⟨_,_,rfl,.inl (.inl aW),(aH.rev D).kp (.of (bf (j.hok.fresh (zo _))))⟩⟩
end
def D4:Bx->Bx->Y Bx
 |.z (.int i),.z (.int j)=>Z (.z (.bl (decide (i<j))))
 |.z (.str x),.z (.str y)=>Z (.z (.bl (decide (x.cps.toList<y.cps.toList))))
 |_,_=>U
theorem V1:Lh X (AG .Lt) D4:=by
 intro AN s σ H x y v u Q I d g h;obtain⟨a,b,c,f,l,e,q⟩:=h;unfold D4 at e;split at e
 ·rename_i i j;cases e;exact L6 AN s σ H x y v u Q I d g ⟨i,j,Oz f,Oz l,q _ H (AV.refl H) trivial (by unfold aU;exact EW)⟩
 ·rename_i i j;cases e;obtain⟨rfl,_⟩:=Oe f;obtain⟨rfl,_⟩:=Oe l;obtain⟨t,rfl⟩:=d;obtain⟨m,rfl⟩:=g;exact PySem.P.lt_str ⟨.bl _,H,I,rfl,q _ H (AV.refl H) trivial (by unfold aU;exact EW)⟩
 ·cases e
def qY:O Dt->Y AZ
 |[]=>Z []
 |.str x::r=>(qY r).bind λys=>Z (x::ys)
 |_=>U
theorem oV{K:B5}{H:Hp}:∀{ds:O Dt} {vs:O V} {ys:AZ},aH K H ds vs->qY ds=Z ys->vs=ys.map V.str/\∀y∈ys,y.length<=AA
 |[],_,_,h,e=>by cases e;simp only[aH]at h;subst h;exact⟨rfl,λy a=>by cases a⟩
 |.str x::ds,_,_,h,e=>by
  simp only[qY]at e;obtain⟨ys,e1,e2⟩:=AT e;cases e2;simp only[aH]at h;obtain⟨v,r,rfl,hd,b⟩:=h;obtain⟨rfl,hx⟩:v=.str x/\x.length<=AA:=by simpa only[AW]using hd
  obtain⟨rfl,h2⟩:=oV b e1;refine⟨rfl,λy a=>?_⟩;rcases List.mem_cons.mp a with rfl|a
  ·exact hx
  ·exact h2 y a
 |.non::_,_,_,_,e=>by cases e
 |.bl _::_,_,_,_,e=>by cases e
 |.int _::_,_,_,_,e=>by cases e
 |.tup _::_,_,_,_,e=>by cases e
 |.lst _::_,_,_,_,e=>by cases e
 |.emp::_,_,_,_,e=>by cases e
theorem Mf{K:B5}{H:Hp}:∀{ys:AZ},(∀y∈ys,y.length<=AA)->aH K H (ys.map Dt.str) (ys.map V.str)
 |[],_=>aH.nil
 |y::ys,h=>aH.cons (by unfold AW;exact⟨rfl,h y (ze ..)⟩) (Mf λz a=>h z (zh _ a))
theorem lQ:∀{ys:AZ} {AQ:O A0},AX (ys.map V.str) AQ->StrsAre AQ ys
 |[],_,h=>by cases h;exact .nil
 |y::ys,_,h=>by
  cases h with
  |cons r t=>
   obtain⟨tk,rfl⟩:=r;exact .cons y tk (lQ t)
theorem Ig:∀{AQ:O A0} {ys:AZ},StrsAre AQ ys->AX (ys.map V.str) AQ
 |_,_,.nil=>.nil
 |_,_,.cons y t h=>.cons ⟨t,rfl⟩ (Ig h)
theorem JW:jH X (.builtin "sorted") (λxs H Q=>∃p ys,xs=[.ref p]/\qQ X.K H p (ys.map V.str)/\ys.length<64/\∀l zs,H l=U->zs.Perm ys->sortedS zs=true->Q (.ref l) (B6 H l (.lst (zs.map V.str)))):=by
 intro AN s σ H xs us Q I r h;obtain⟨p,ys,rfl,m,w,q⟩:=h;obtain⟨u,rfl,i⟩:=BC r;cases i;obtain⟨AQ,d,pl,c⟩:=I.list m;have v:=d.length;rw[zi]at v c;refine sorted_strs pl.isList (lQ d) () λf zs t hp j=>?_;obtain⟨n,g⟩:=sortedAll_at s.heap AQ f;refine⟨.ref (s.heap.objs.size+1),_,I.laid (t':=s.toks) (a:=s.heap.objs.size+1) (o:=.lst (zs.map V.str)) (λb o e=>sortedAll_old e) (Kb _) ?_,rfl,q _ zs (I.hok.fresh (Kb _)) hp j⟩;refine⟨by rw[zi,hp.length_eq];exact c,f.toList,n,Ig t,?_⟩;rw[g]
def zT(a b:AJ):Prop:=ltCps b.cps.toList a.cps.toList=false
theorem zU:∀(p:AJ) (l:AZ),risingS p l=true->(p::l).Pairwise zT
 |p,[],_=>by simp
 |p,x::r,h=>by
  have h':(!ltCps x.cps.toList p.cps.toList&&risingS x r)=true:=h;rw[ZH]at h';have c:=zU x r h'.2;have hx:zT p x:=by simpa[zT]using h'.1
  refine ap.mpr ⟨λy b=>?_,c⟩;rcases List.mem_cons.mp b with rfl|b
  ·exact hx
  ·have a:zT x y:=QY c b;unfold zT at hx a ⊢;rw[ltCps_eq]at hx a ⊢;simp only[QE]at hx a ⊢;exact List.le_trans (α:=Nat) hx a
theorem JX{l:AZ}(h:sortedS l=true):l.Pairwise zT:=by
 cases l with
 |nil=>exact .nil
 |cons p l=>exact zU p l h
theorem mL{a b:AJ}(h:zT a b)(h':zT b a):a=b:=by
 unfold zT at h h';rw[ltCps_eq]at h h';simp only[QE]at h h';have:=dG (as:=a.cps.toList) (bs:=b.cps.toList) h h';cases a;cases b;simp only[Str.mk.injEq];exact dL.mp this
theorem JZ:∀{l c:AZ},l.Perm c->l.Pairwise zT->c.Pairwise zT->l=c
 |[],c,h,_,_=>by rw[List.nil_perm.mp h]
 |a::l,[],h,_,_=>by cases List.perm_nil.mp h
 |a::l,b::c,h,p,p'=>by
  have e:a=b:=by
   have f:a∈b::c:=h.mem_iff.mp (ze ..);have d:b∈a::l:=h.mem_iff.mpr (ze ..);rcases List.mem_cons.mp f with h1|h1
   ·exact h1
   ·rcases List.mem_cons.mp d with h2|h2
    ·exact h2.symm
    ·exact mL (QY p h2) (QY p' h1)
  subst e;rw[JZ ((List.perm_cons a).mp h) (ap.mp p).2 (ap.mp p').2]
def Te(a b:AJ):Bool:=!ltCps b.cps.toList a.cps.toList
def jY(ys:AZ):AZ:=ys.mergeSort Te
theorem lR(ys:AZ):(jY ys).Perm ys:=bo ys Te
theorem sH(ys:AZ):(jY ys).Pairwise zT:=by
 have h:=KI (le:=Te) (λa b c h1 h2=>by
  unfold Te at *
  rw[ltCps_eq]at *
  simp only[jb,QE]at *
  exact List.le_trans (α:=Nat) h1 h2) (λa b=>by
  unfold Te;rw[ltCps_eq,ltCps_eq];simp only[cw,jb,QE];exact List.le_total a.cps.toList b.cps.toList) ys
 exact h.imp λ{a b} hh=>by simpa[Te,zT]using hh
theorem V2{ys zs:AZ}(hp:zs.Perm ys)(hs:sortedS zs=true):zs=jY ys:=JZ (hp.trans (lR ys).symm) (JX hs) (sH ys)
def zV:O Bx->Y Bx
 |[b]=>(nO b).bind λds=>(qY ds).bind λys=>if ys.length<64 then Z (.o ((jY ys).map Dt.str))else U
 |_=>U
theorem wR:uM X (.builtin "sorted") zV:=jH.imp JW λxs H Q q=>by
 obtain⟨bs,c,n,e,q⟩:=q;unfold zV at e;split at e
 ·rename_i b;obtain⟨ds,o,e⟩:=AT e;obtain⟨ys,g,e⟩:=AT e;split at e
  ·rename_i j;cases e;obtain⟨v,rfl,m⟩:=BI n;obtain⟨p,vs,rfl,sq,i⟩:=m.CT o;obtain⟨rfl,f⟩:=oV i g;refine⟨p,ys,rfl,sq,j,λl zs d hp s=>?_⟩;rw[V2 hp s];refine q _ _ (bf d) (λa ea=>by cases ea;exact d) ⟨l,_,rfl,aW,Mf λy h=>f y ((lR ys).mem_iff.mp h)⟩
  ·cases e
 ·cases e
def Ep(x:AJ)(b:Bx):Y Bx:=(nO b).bind λds=>(qY ds).bind λys=>if(ys.map (·.length)).sum+ys.length*x.length<=100000 then Z (.z (.str (Txt.join x ys)))else U
theorem Zq:EG X "str.join" (λx xs H Q=>∃y p ys,x=.str y/\xs=[.ref p]/\qQ X.K H p (ys.map V.str)/\(ys.map (·.length)).sum+ys.length*y.length<=100000/\Q (.str (Txt.join y ys)) H):=by
 intro AN s σ H x xs v us Q I a b h;obtain⟨y,p,ys,rfl,rfl,sq,g,q⟩:=h;obtain⟨t,rfl⟩:=a;obtain⟨u,rfl,d⟩:=BC b;cases d;obtain⟨AQ,c,pl,e⟩:=I.list sq;exact join_list pl.isList (lQ c) () λf k=>⟨.str _,H,I.tok _,⟨_,rfl⟩,q⟩
theorem QW{p1:Pos}(h:QV X e f)(hx:x.length<=AA:=by decide)(t:attributeBase (.Constant (.str x) j p1) "join" X.env (eval (.Constant (.str x) j p1) X.env)=eval (.Constant (.str x) j p1) X.env:=by rfl)(y:((AD cpos (A9 [e] X.env)).all (λx=>!x.1)&&(backToKw cpos (keywordEach [] X.env)).all (λx=>x.1.isSome)&&decide ([e].length+([]:O AC).length+(if([]:O AC).isEmpty then 0 else 1)<30))=true:=by rfl)(i:(apos.endLine==cpos.line)=true:=by rfl)(hs:A9 [e] X.env=(false,eval e X.env)::A9 [] X.env:=by rfl):QV X (.Call (.Attribute (.Constant (.str x) j p1) "join" apos) [e] [] cpos) (b1 (Ep x) f):=⟨have h:=h.run;HS (La (T :="str") F.plainAttrs_str F.slot_str_join F.type_str_join Zq (Vp (hx:=hx)) (Ef h JB hs) t y i hs S) λσ H Q q=>by
  obtain⟨H0,ρ,c,E,e,q⟩:=q;obtain⟨a,ea,e⟩:=AT e;refine⟨H0,ρ,_,E,rfl,λv H1 b B m=>?_⟩;obtain⟨rfl,A⟩:v=.str x/\x.length<=AA:=by simpa only[aU,AW]using m
  refine⟨rfl,H0,ρ,[a],E.grow b,by simp only[ao,ea,cc],λvs H2 u s=>?_⟩;obtain⟨w,rfl,d⟩:=BI s;unfold Ep at e;obtain⟨ds,o,e⟩:=AT e;obtain⟨ys,g,e⟩:=AT e;split at e
  ·rename_i n;cases e;obtain⟨p,ws,rfl,sq,l⟩:=d.CT o;obtain⟨rfl,z⟩:=oV l g;refine⟨x,p,ys,rfl,rfl,sq,n,q _ _ (b.trans u) trivial ?_⟩;unfold aU AW;exact⟨rfl,joinOk_length (joinOk_of ())⟩
  ·cases e⟩
def nZ(AO:O (AY×Dt))(x:AY):Y Dt:=(AO.find? λa=>decide (a.1=x)).map (·.2)
def G6(AO:O (AY×Dt))(x:AY)(d:Dt):O (AY×Dt):=
 if(AO.any λa=>decide (a.1=x))=true then AO.map (λa=>if a.1=x then(a.1,d)else a)else AO++[(x,d)]
theorem fL.nil:fL K H [] []:=⟨rfl,aH.nil,λp hp=>by cases hp⟩
theorem fL.inv{p:AY×Dt}{AO:O (AY×Dt)}(h:fL K H (p::AO) ks):∃v r,ks=(p.1,v)::r/\AW K H p.2 v/\DE p.1/\fL K H AO r:=by
 obtain⟨h1,h2,a⟩:=h;cases ks with
 |nil=>simp at h1
 |cons q r=>
  simp only[zk,kl]at h1;obtain⟨e,h1⟩:=h1;simp only[zk,aH]at h2;obtain⟨v,d,e2,c,b⟩:=h2;simp only[kl]at e2;obtain⟨rfl,rfl⟩:=e2;exact⟨q.2,r,by rw[<-e],c,a p (ze ..),h1,b,λx hx=>a x (zh _ hx)⟩
theorem fL.cons{p:AY×Dt}{AO:O (AY×Dt)}{v:V}{r:O (AY×V)}(a:AW K H p.2 v)(hp:DE p.1)(h:fL K H AO r):fL K H (p::AO) ((p.1,v)::r):=
 ⟨by simp[h.1],aH.cons a h.2.1,λx hx=>by
  rcases List.mem_cons.mp hx with rfl|hx
  ·exact hp
  ·exact h.2.2 x hx⟩
theorem fL.append{AO:O (AY×Dt)}{ks:O (AY×V)}{x:AY}{d:Dt}{v:V}(h:fL K H AO ks)(a:AW K H d v)(hx:DE x):fL K H (AO++[(x,d)]) (ks++[(x,v)]):=
 ⟨by simp[h.1],by rw[ZZ,ZZ];exact aH.append h.2.1 (aH.cons a aH.nil),λp hp=>by
  rcases ai.mp hp with hp|hp
  ·exact h.2.2 p hp
  ·cases ag.mp hp;exact hx⟩
theorem fL.len{AO:O (AY×Dt)}(h:fL K H AO ks):ks.length=AO.length:=by
 have:=congrArg aE h.1;simpa using this
theorem fL.look:∀{AO:O (AY×Dt)} {ks:O (AY×V)} {x:AY} {d:Dt},fL K H AO ks->nZ AO x=Z d->∃v,zA ks x=Z v/\AW K H d v
 |[],_,_,_,_,e=>by cases e
 |p::AO,_,x,d,h,e=>by
  obtain⟨v,r,rfl,a,c,b⟩:=h.inv;unfold nZ at e;by_cases hp:p.1=x
  ·rw[List.find?_cons_of_pos (by simpa using hp)]at e;cases e;exact⟨v,zB (by rw[hp]),a⟩
  ·rw[List.find?_cons_of_neg (by simpa using hp)]at e;obtain⟨w,e1,e2⟩:=fL.look b e;exact⟨w,(zF (by simpa using hp)).trans e1,e2⟩
theorem fL.any:∀{AO:O (AY×Dt)} {ks:O (AY×V)} {x:AY},fL K H AO ks->(ks.any λa=>decide (a.1=x))=AO.any λa=>decide (a.1=x)
 |[],ks,_,h=>by
  have:=h.len;cases ks with
  |nil=>rfl
  |cons _ _=>simp at this
 |p::AO,_,x,h=>by
  obtain⟨v,r,rfl,d,c,b⟩:=h.inv;rw[js,js,fL.any b]
theorem fL.V3:∀{AO:O (AY×Dt)} {ks:O (AY×V)} {x:AY} {d:Dt} {v:V},fL K H AO ks->AW K H d v->fL K H (AO.map λa=>if a.1=x then(a.1,d)else a) (ks.map λa=>if a.1=x then(a.1,v)else a)
 |[],ks,_,_,_,h,_=>by
  have:=h.len;cases ks with
  |nil=>exact fL.nil
  |cons _ _=>simp at this
 |p::AO,_,x,d,v,h,hd=>by
  obtain⟨w,r,rfl,f,c,e⟩:=h.inv;rw[zk,zk];have b:=fL.V3 (x:=x) e hd;by_cases hp:p.1=x
  ·rw[zr hp,zr (by simp[hp])];exact fL.cons (p:=(p.1,d)) hd c b
  ·rw[zS hp,zS (by simpa using hp)];exact fL.cons f c b
theorem fL.put{AO:O (AY×Dt)}{x:AY}(h:fL K H AO ks)(a:AW K H d v)(hx:DE x):fL K H (G6 AO x d) (BG ks x v):=by
 unfold G6 BG;rw[h.any];split
 ·exact h.V3 a
 ·exact h.append a hx
section
variable{ek o:Expr}{fk:Ev->Y Bx}{pos':Pos}
theorem Zr  :QV X (.Dict [] [] pos) (λ_=>Z (.m [] U)):=⟨HS Vd λσ H Q h=>by
 obtain⟨H0,ρ,b,E,e,q⟩:=h;cases e;intro p hp;exact q _ _ (bf hp) (λa ea=>by cases ea;exact hp) ⟨p,[],rfl,aW,fL.nil,λb h=>by cases h⟩⟩
def C':Bx->Y AY
 |.z (.str x)=>Z (.inr x)
 |.z (.int i)=>Z (.inl i)
 |_=>U
theorem QX{b:Bx}{k:AY}(e:C' b=Z k)(r:aU K H b v):v=kV k/\DE k:=by
 unfold C' at e;split at e
 ·cases e;simp only[aU,AW]at r;exact r
 ·cases e;simp only[aU,AW]at r;exact⟨r,trivial⟩
 ·cases e
def p7:Bx->Bx->Y Bx
 |.n AO,b=>(C' b).bind λk=>(nZ AO k).bind λd=>Z (.z d)
 |_,_=>U
theorem O4{a b c:Bx}(h:p7 a b=Z c):∃AO k d,a=.n AO/\C' b=Z k/\nZ AO k=Z d/\c=.z d:=by
 unfold p7 at h;split at h
 ·obtain⟨k,ek,h⟩:=AT h;obtain⟨d,e,h⟩:=AT h;cases h;exact⟨_,k,d,rfl,ek,e,rfl⟩
 ·cases h
theorem sI(B:X.A.units+100<cLine)(f:QV X o fo)(hk:QV X ek fk)(hs:Vc ek:=by intro _ _;rfl):QV X (.Subscript o ek pos) (b2 p7 fo fk):=⟨have f:=f.run;have hk:=hk.run;HS (YS () f hk hs) λσ H Q h=>by
 obtain⟨H0,ρ,c,E,e,q⟩:=h;obtain⟨a,ea,e⟩:=AT e;obtain⟨b,eb,e⟩:=AT e;refine⟨H0,ρ,a,E,ea,λv H1 g z m=>⟨H0,ρ,b,E.grow g,eb,λw H2 i C u=>?_⟩⟩;obtain⟨AO,x,d,rfl,s,t,rfl⟩:=O4 e;obtain⟨p,ks,rfl,j,y⟩:=m.same i;obtain⟨n,ev,l⟩:=y.look t;obtain⟨rfl,_⟩:=QX s u;exact⟨p,n,rfl,.inl ⟨ks,x,j,rfl,ev.symm⟩,q _ _ (g.trans i) trivial l⟩⟩
def Mg(ρ:Ev)(i:Nat):Bx->Bx->Y An
 |.z d,b=>(C' b).bind λx=>match ρ[i]? with
  |some (Z (.m AO w))=>if AO.length<1000 then Z (.nx (ρ.set i (Z (.m (G6 AO x d) w))))else U
  |_=>U
 |_,_=>U
def V4(i:Nat)(f fk:Ev->Y Bx):Ev->Y An:=λρ=>(f ρ).bind λb=>(fk ρ).bind λk=>Mg ρ i b k
theorem O5{b k:Bx}{r:An}(h:Mg ρ i b k=Z r):∃d y AO w,b=.z d/\C' k=Z y/\ρ[i]?=Z (Z (.m AO w))/\AO.length<1000/\r=.nx (ρ.set i (Z (.m (G6 AO y d) w))):=by
 unfold Mg at h;split at h
 ·obtain⟨y,c,h⟩:=AT h;split at h
  ·rename_i e;split at h
   ·rename_i a;cases h;exact⟨_,y,_,_,rfl,c,e,a,rfl⟩
   ·cases h
  ·cases h
 ·cases h
theorem Zt(i:Nat){p:Pos}(W:X.A.units+100<cLine)(g:QV X e f)(hk:QV X ek fk)(s:X.N[i]?=Z x:=by rfl)(I:Qv X.env.scope x:=by first|exact QQ rfl|exact qh (QQ S)|exact qh (qh S))(hd:eg x:=by decide)(L:(x==("__classdict__":AJ))=false:=by decide)(hs:swapsWith e (Z (.Subscript (.Name x p) ek pos')) pos.line X.env=pure false:=by rfl):Sx X (.Assign [.Subscript (.Name x p) ek pos'] e pos) (λρ=>(f ρ).bind λb=>(fk ρ).bind λk=>Mg ρ i b k):=⟨have g:=g.run;have hk:=hk.run;Yd (YT () (yF (i:=i) s I hd L) hk g hs) λD σ H h=>by
  obtain⟨H0,ρ,r,E,e,q⟩:=h;obtain⟨b,eb,e⟩:=AT e;obtain⟨k,ek,e⟩:=AT e;refine⟨H0,ρ,b,E,eb,λv H1 F M C=>?_⟩;obtain⟨d,y,AO,Q,rfl,J,m,B,rfl⟩:=O5 e;have j:=E.grow F;obtain⟨w,e1,a,ks,rfl,o,n,z⟩:=j.val i _ m;refine⟨_,e1,H0,ρ,_,j,ek,λu H2 c P G=>?_⟩;obtain⟨rfl,t⟩:=QX J G;have K:=j.grow c;have l:=c _ _ o;have kp:Kp H2 (B6 H2 a (.dK (BG ks y v))):=.dk l;refine⟨a,_,rfl,Va.k (k:=y) l (by rw[n.len];exact bi B ()),q _ _ ?_⟩;exact K.aey m S e1 kp ⟨a,_,rfl,aW,((n.kp (.of c)).put (x:=y) (aU.same c C) t).kp kp,z⟩⟩
end
section
variable{a b:Expr}{fs:Ev->Y (O Bx)}
theorem aY{j}(hx:x.length<=AA:=by decide):QV X (.Constant (.str x) j pos) (cB (.str x)):=⟨P1.Vp (hx:=hx)⟩
end
section
variable{a b:Expr}{fs:Ev->Y (O Bx)}
variable{AS:O Expr}
theorem aj(h1:QV X e f)(h2:Vk X es fs)(hs:A9 (e::es) X.env=(false,eval e X.env)::A9 es X.env:=by rfl):Vk X (e::es) (ao f fs):=⟨P1.Ef (h1:=h1.run) (h2:=h2.run) (hs:=hs)⟩
theorem au  :Vk X [] (λ_=>Z []):=⟨P1.JB ⟩
end
theorem N0{f:A1}{k:Nat}(F:Yc K x qual st f fd)(S:bC N ps (aJ st))(hn:N.length=n)(b:ps.length=m)(d:∀(a:A0) (A:A5) (outer:O Env) (s:A2) (H:Hp) (E:XK),kj k (A.deeper (AK qual (aJ st) s.heap.objs.size f a))->QJ (DY Jx P w K mg base N qual (aJ st) f a A outer s H E).Yb (jq st) g):
  uJ P w K mg base Jx (k+1) f fd ps (Ul K m (dH n g)):=S3 F S hn b λa A outer s H E c=>(d a A outer s H E c).run
theorem bD.aeP(E:bD K H0 H σ ρ)(i:Nat):bD K H0 H σ (ρ.set i U):=by
 have d:∀(j:Nat) (b:Bx),(ρ.set i U)[j]?=Z (Z b)->ρ[j]?=Z (Z b):=λj b e=>by
  rw[kC]at e;split at e
  ·split at e<;>cases e
  ·exact e
 refine⟨by rw[kg];exact E.len,λj b e=>E.val j b (d j b e),λj k c a b e1 f e2 e3 g h=>E.own j k c a b (d _ _ e1) f e2 (d _ _ e3) g h,E.base,λj c a e1 f e2=>E.new j c a (d _ _ e1) f e2⟩
def kill(is:O Nat)(ρ:Ev):Ev:=is.foldl (λρ i=>ρ.set i U) ρ
theorem bD.kill{K:B5}{H0 H:Hp}{σ:L2.St}:∀(is:O Nat) {ρ:Ev},bD K H0 H σ ρ->bD K H0 H σ (P1.kill is ρ)
 |[],_,E=>E
 |i::is,_,E=>bD.kill is (E.aeP i)
def fM(is:O Nat):Ev->Y An:=λρ=>Z (.nx (kill is ρ))
theorem V5{a:O AB}(is:O Nat)(h:Uw X a g):Uw X a (aF g (fM is)):=Y0 h λD σ H q=>by
 obtain⟨H0,ρ,r,E,e,q⟩:=q;obtain⟨c,e1,e⟩:=AT e;refine⟨H0,ρ,c,E,e1,?_⟩;cases c with
 |nx f=>cases e;exact λσ' H' d=>q σ' H' (d.kill is)
 |rt b=>cases e;exact q
 |bk b=>cases e;exact q
 |ct b=>cases e;exact q
theorem bV{a:O AB}(is:O Nat)(h:QJ X a g):QJ X a (aF g (fM is)):=⟨V5 is h.run⟩
end P1
namespace S1
section
variable(rk:A0->Nat)
def at_(xs:Array Keyed)(i:Nat):Nat:=match xs[i]? with
 |some p=>rk p.1
 |none=>0
def Up(xs:Array Keyed)(k:Nat):Prop:=∀i j,i<=j->j<k->at_ rk xs i<=at_ rk xs j
def CA(xs:Array Keyed)(k:Nat):Prop:=∀i j,i<=j->j<k->at_ rk xs j<=at_ rk xs i
structure Bs (kd:SortKind) (b:Array Keyed) (st:SortSt):Prop where
 pm:(arrOf st).Perm b
 kd:kindOf st=kd
 fl:failedOf st=none
 pd:pendingOf st=#[]
variable{rk}{kd:SortKind}{b:Array Keyed}
theorem Bs.sz{st:SortSt}(h:Bs kd b st):(AM st).size=b.size:=h.pm.size_eq
theorem Bs.arr{st:SortSt}{xs:Array Keyed}(h:Bs kd b st)(hp:xs.Perm (AM st)):Bs kd b (PyProof.Rows.setArr st xs):=⟨hp.trans h.pm,h.kd,h.fl,h.pd⟩
theorem uW{xs ys:Array Keyed}(h:xs[i]?=ys[j]?):at_ rk xs i=at_ rk ys j:=by unfold at_;rw[h]
theorem V6{xs:Array Keyed}{p d:Nat}(hs:p<xs.size)(hd:d<=p)(k:Nat):at_ rk (bubble xs p d) k=if k=p-d then at_ rk xs p else if p-d<k/\k<=p then at_ rk xs (k-1)else at_ rk xs k:=by
 have e:=getElem?_bubble hs d hd k;by_cases q:k=p-d
 ·simp only[zr q]at e ⊢;exact uW e
 ·simp only[zS q]at e ⊢;by_cases q2:p-d<k/\k<=p
  ·simp only[zr q2]at e ⊢;exact uW e
  ·simp only[zS q2]at e ⊢;exact uW e
theorem O6{xs:Array Keyed}(a:j<=xs.size)(k:Nat):at_ rk (mirror xs i j ((j-i) / 2)) k=if i<=k/\k<j then at_ rk xs (i+j-1-k)else at_ rk xs k:=by
 have e:=getElem?_mirror_all (i:=i) a k;by_cases q:i<=k/\k<j
 ·simp only[zr q]at e ⊢;exact uW e
 ·simp only[zS q]at e ⊢;exact uW e
theorem zW{xs:Array Keyed}(b:j<=xs.size)(a:∀k,i<=k->k<j->at_ rk xs k=at_ rk xs (j-1))(k:Nat):at_ rk (mirror xs i j ((j-i) / 2)) k=at_ rk xs k:=by
 rw[O6 b];by_cases q:i<=k/\k<j
 ·rw[zr q,a (i+j-1-k) () (),a k q.1 q.2]
 ·rw[zS q]
end
section
variable{b:Array Keyed}{kd:SortKind}{rk:A0->Nat}
def V7(prog:A3)(w:A4)(A:A5)(s:A2)(kd:SortKind)(rk:A0->Nat)(b:Array Keyed):Prop:=
 ∀(E:BF) (p q:Keyed) (Q:Bool->A2->Prop),p∈b.toList->q∈b.toList->Q (decide (rk p.1<rk q.1)) s->A7 (A8 prog w) A (keyLt' kd p.1 q.1) Q E s
theorem Mh{st:SortSt}{Q:Y Bool->SortSt->Prop}(c:V7 prog w A s kd rk b)(B:Bs kd b st)(hi:i<b.size)(e:j<b.size)(h:Q (Z (decide (at_ rk (AM st) i<at_ rk (AM st) j))) st):wpS (A8 prog w) A E s (ltAt' i j) Q st:=by
 have get:∀k,k<b.size->∃p,(AM st)[k]?=Z p/\p∈b.toList:=λk hk=>by
  have d:k<(AM st).size:=by rw[B.sz];exact hk
  exact⟨(AM st)[k],getElem?_pos _ k d,(ay.mp B.pm).mem_iff.mp (by simp)⟩
 obtain⟨p,e1,a⟩:=get i hi;obtain⟨q,e2,f⟩:=get j e;have h:Q (Z (decide (rk p.1<rk q.1))) st:=by unfold at_ at h;rw[e1,e2]at h;exact h
 rw[ltAt'_eq];refine AL (wpS_get ?_);show wpS _ _ _ _ (elem' (AM st) i >>= λx=>elem' (AM st) j >>= λy=>lt' x y) Q st;rw[elem'_eq,elem'_eq,e1,e2];refine AL (wpS_pure ?_);refine AL (wpS_pure ?_);rw[lt'_eq];refine AL (wpS_get ?_);rw[B.kd];exact AL (wpS_lift (wpAny_attempt (c _ p q _ a f ⟨rfl,wpS_pure h⟩)))
theorem IN{st:SortSt}{a:Nat}{Q:AscSt->SortSt->Prop}(f:V7 prog w A s kd rk b)(hn:n<=b.size)(p:1<=a)(g:a<=n)(B:Bs kd b st)(hs:Up rk (AM st) a)(h:∀m,a<=m->m<=n->Up rk (AM st) m->(m=n\/at_ rk (AM st) m<at_ rk (AM st) (m-1))->Q (U,m) st):wpS (A8 prog w) A E s (ascLoop a n) Q st:=by
 unfold ascLoop;refine wpS_forRange (I:=λx c t=>t=st/\c=(U,x)/\Up rk (AM st) x) ?_ ?_ ⟨rfl,rfl,hs⟩
 ·rintro x c t o u ⟨rfl,rfl,d⟩;refine AL (Mh f B () () ?_);by_cases q:at_ rk (AM t) x<at_ rk (AM t) (x-1)
  ·simp only[q,kR,qk];exact wpS_pure (h x o () d (.inr q))
  ·simp only[q,JS,zI,ZY];refine wpS_pure ⟨rfl,rfl,λi j l v=>?_⟩;by_cases hx:j<x
   ·exact d i j l hx
   ·have e:j=x:=by omega
    subst e;by_cases hi:i=j
    ·rw[hi];exact zo _
    ·have:=d i (j-1) () ();omega
 ·rintro c t ⟨rfl,rfl,d⟩;rw[show max a n=n by omega]at d ⊢;exact h n g (zo _) d (.inl S)
theorem t3{st:SortSt}{Q:Y Nat->SortSt->Prop}(d:V7 prog w A s kd rk b)(hn:n<=b.size)(h1:1<=m)(g:m<=n)(B:Bs kd b st)(hs:CA rk (AM st) m)(h:∀k t,Bs kd b t->1<=k->k<=n->Up rk (AM t) k->Q (Z k) t):wpS (A8 prog w) A E s (tail3 m n) Q st:=by
 unfold tail3;have a:m<=(AM st).size:=by rw[B.sz];omega
 refine AL (wpS_reverse ?_);have c:Bs kd b (PyProof.Rows.setArr st (mirror (AM st) 0 m ((m-0) / 2))):=B.arr (mirror_perm _ _ _ _);refine AL (IN d hn h1 g c (λi j o p=>?_) λk l f e _=>wpS_pure (h k _ c () f e));show at_ rk (mirror (AM st) 0 m ((m-0) / 2)) i<=at_ rk (mirror (AM st) 0 m ((m-0) / 2)) j;rw[O6 a,O6 a,zr ⟨by omega,by omega⟩,zr ⟨by omega,by omega⟩];exact hs _ _ () ()
theorem Pc{st:SortSt}{Q:DescSt->SortSt->Prop}(g:V7 prog w A s kd rk b)(hn:n<=b.size)(h1:1<=m)(y:m<=n)(B:Bs kd b st)(hs:CA rk (AM st) m)(h:∀k e t,Bs kd b t->m<=k->k<=n->CA rk (AM t) k->e+1<=k->(∀i,k-(e+1)<=i->i<k->at_ rk (AM t) i=at_ rk (AM t) (k-1))->Q (U,k,e) t):wpS (A8 prog w) A E s (descLoop m n) Q st:=by
 unfold descLoop;refine wpS_forRange (I:=λx c t=>∃e,c=(U,x,e)/\Bs kd b t/\CA rk (AM t) x/\e+1<=x/\∀i,x-(e+1)<=i->i<x->at_ rk (AM t) i=at_ rk (AM t) (x-1)) ?_ ?_ ⟨0,rfl,B,hs,by omega,λi q1 q2=>by rw[show i=m-1 by omega]⟩
 ·rintro x c t v z ⟨e,rfl,a,dn,f,d⟩;have o:x<=(AM t).size:=by rw[a.sz];omega
  have grow:∀xs:Array Keyed,(∀k,at_ rk xs k=at_ rk (AM t) k)->at_ rk (AM t) x<=at_ rk (AM t) (x-1)->CA rk xs (x+1):=λxs hk C i j p D=>by
   rw[hk,hk];by_cases hx:j<x
   ·exact dn i j p hx
   ·have u:j=x:=by omega
    subst u;by_cases hi:i=j
    ·rw[hi];exact zo _
    ·have:=dn i (j-1) () ();omega
  dsimp only;refine AL (Mh g a () () ?_);by_cases q:at_ rk (AM t) x<at_ rk (AM t) (x-1)
  ·simp only[q,kR,qk];by_cases l:e>0
   ·rw[zr l];exact AL (wpS_reverse (wpS_pure ⟨0,rfl,a.arr (mirror_perm _ _ _ _),grow _ (zW o d) (),by omega,λi q1 q2=>by rw[show i=x by omega];rfl⟩))
   ·rw[zS l];exact wpS_pure ⟨0,rfl,a,grow _ (λ_=>S) (),by omega,λi q1 q2=>by rw[show i=x by omega];rfl⟩
  ·simp only[q,JS,zI,ZY];refine AL (Mh g a () () ?_);by_cases q2:at_ rk (AM t) (x-1)<at_ rk (AM t) x
   ·simp only[q2,kR,qk];exact wpS_pure (h x e t a v () dn f d)
   ·simp only[q2,JS,zI,ZY];refine wpS_pure ⟨e+1,rfl,a,grow _ (λ_=>S) (),by omega,λi q3 F=>?_⟩;rw[show x+1-1=x by omega];by_cases hi:i=x
    ·rw[hi]
    ·rw[d i () ()];omega
 ·rintro c t ⟨e,rfl,a,dn,f,d⟩;rw[show max m n=n by omega]at dn f d ⊢;exact h n e t a y (zo _) dn f d
theorem Iy{st:SortSt}{Q:Y Nat->SortSt->Prop}(a:V7 prog w A s kd rk b)(hn:n<=b.size)(q:m+1<=n)(B:Bs kd b st)(hs:CA rk (AM st) (m+1))(h:∀k t,Bs kd b t->1<=k->k<=n->Up rk (AM t) k->Q (Z k) t):wpS (A8 prog w) A E s (descPart m n) Q st:=by
 unfold descPart;refine AL (wpS_lift (JJ ⟨rfl,?_⟩));refine AL (Pc a hn () q B hs λk e t c u f dn v g=>?_);have d:k<=(AM t).size:=by rw[c.sz];omega
 by_cases l:e>0
 ·simp only[zr l];refine AL (wpS_reverse (t3 a hn () f (c.arr (mirror_perm _ _ _ _)) (λi j o p=>?_) h));show at_ rk (mirror (AM t) _ _ _) j<=at_ rk (mirror (AM t) _ _ _) i;rw[zW d g,zW d g];exact dn i j o p
 ·simp only[zS l];exact t3 a hn () f c dn h
theorem LG{st:SortSt}{Q:Y Nat->SortSt->Prop}(a:V7 prog w A s kd rk b)(hn:n<=b.size)(h1:1<=n)(B:Bs kd b st)(h:∀k t,Bs kd b t->1<=k->k<=n->Up rk (AM t) k->Q (Z k) t):wpS (A8 prog w) A E s (countRun' 0 n) Q st:=by
 rw[countRun0_eq];refine AL (IN a hn (zo 1) h1 B (λi j g l=>by rw[show i=j by omega];exact zo _) λm f o c or=>?_);by_cases d:m=n
 ·simp only[zr (show(m==n)=true by simpa using d)];exact wpS_pure (h m st B f o c)
 ·simp only[zS (show ¬ (m==n)=true by simpa using d)];have lt:=or.resolve_left d;have e:m<=(AM st).size:=by rw[B.sz];omega
  by_cases g1:m>1
  ·rw[zr g1];refine AL (Mh a B () () ?_);by_cases q:at_ rk (AM st) 0<at_ rk (AM st) (m-1)
   ·simp only[q,kR,qk];exact wpS_pure (h m st B f o c)
   ·simp only[q,JS,zI,ZY];have all:∀k,0<=k->k<m->at_ rk (AM st) k=at_ rk (AM st) (m-1):=λk _ hk=>by
     have a1:=c 0 k () hk;have a2:=c k (m-1) () ();omega
    refine AL (wpS_reverse (Iy a hn () (B.arr (mirror_perm _ _ _ _)) (λi j g l=>?_) h));show at_ rk (mirror (AM st) _ _ _) j<=at_ rk (mirror (AM st) _ _ _) i;rw[zW e all,zW e all];by_cases u:j<m
    ·rw[all i () (),all j () u];exact zo _
    ·have p:j=m:=by omega
     subst p;by_cases hi:i=j
     ·rw[hi];exact zo _
     ·rw[all i () ()];omega
  ·rw[zS g1];have e1:m=1:=by omega
   subst e1;refine Iy a hn () B (λi j g l=>?_) h;by_cases hi:i=j
   ·rw[hi];exact zo _
   ·rw[show i=0 by omega,show j=1 by omega];exact jS lt
theorem Fs{st:SortSt}{g:Nat}{Q:Bool->SortSt->Prop}(v:V7 prog w A s kd rk b)(hn:n<=b.size)(H:g<=n)(B:Bs kd b st)(hs:Up rk (AM st) g)(h:∀t,Bs kd b t->Up rk (AM t) n->Q true t):wpS (A8 prog w) A E s (binarySort' 0 n g) Q st:=by
 rw[binarySort'_eq];simp only[ku];refine AL (wpS_mono (wpS_forRange (I:=λk c t=>c=(U,ej)/\Bs kd b t/\Up rk (AM t) (min k n)) (Q:=λc t=>c=(U,ej)/\Bs kd b t/\Up rk (AM t) n) ?_ ?_ ?_) ?_)
 ·rintro k c t G K ⟨rfl,f,d⟩;rw[show min k n=k by omega]at d;have hk:k<b.size:=by omega
  refine AL (wpS_mono (wpS_forRange (I:=λx c a=>a=t/\∃l r,c=(U,l,r)/\l<=r/\r<=k/\r-l<=k-x/\(∀i,i<l->at_ rk (AM t) i<=at_ rk (AM t) k)/\(∀i,r<=i->i<k->at_ rk (AM t) k<at_ rk (AM t) i))
   (Q:=λc a=>a=t/\∃l r,c=(U,l,r)/\l<=k/\(∀i,i<l->at_ rk (AM t) i<=at_ rk (AM t) k)/\(∀i,l<=i->i<k->at_ rk (AM t) k<at_ rk (AM t) i)) ?_ ?_ ?_) ?_)
  ·rintro x c a _ hx ⟨rfl,l,r,rfl,C,m,y,lo,hi⟩;dsimp only;by_cases u:l>=r
   ·rw[zr u];have e:l=r:=by omega
    subst e;exact wpS_pure ⟨rfl,l,l,rfl,m,lo,hi⟩
   ·rw[zS u];refine AL (Mh v f hk () ?_);by_cases q:at_ rk (AM a) k<at_ rk (AM a) ((l+r) / 2)
    ·simp only[q,kR,qk];refine wpS_pure ⟨rfl,l,(l+r) / 2,rfl,by omega,by omega,by omega,lo,λi q1 q2=>?_⟩;have:=d ((l+r) / 2) i q1 q2;omega
    ·simp only[q,JS,zI,ZY];refine wpS_pure ⟨rfl,(l+r) / 2+1,r,rfl,by omega,by omega,by omega,λi q1=>?_,hi⟩;have:=d i ((l+r) / 2) () ();omega
  ·rintro c a ⟨rfl,l,r,rfl,C,m,y,lo,hi⟩;have e:l=r:=by omega
   subst e;exact⟨rfl,l,l,rfl,m,lo,hi⟩
  ·exact⟨rfl,0,k,rfl,by omega,by omega,by omega,λi hi=>by omega,λi q1 q2=>by omega⟩
  ·rintro c a ⟨rfl,l,r,rfl,J,lo,hi⟩;show wpS _ _ _ _ (moveDown' k l >>= λ_=>pure (ForInStep.yield (U,ej))) _ _;rw[moveDown'_eq];refine AL (wpS_modify (wpS_pure ⟨rfl,f.arr (bubble_perm _ _ _),?_⟩));rw[show min (k+1) n=k+1 by omega];have o:k<(AM a).size:=by rw[f.sz];exact hk
   intro i j p D;show at_ rk (bubble (AM a) k (k-l)) i<=at_ rk (bubble (AM a) k (k-l)) j;rw[V6 o (),V6 o (),show k-(k-l)=l by omega]
   repeat' split
   all_goals first
    |(exfalso;omega)
    |exact zo _
    |exact lo _ ()
    |exact jS (hi _ () ())
    |exact d _ _ () ()
 ·rintro c t ⟨F,f,d⟩;refine⟨F,f,?_⟩;rwa [show min (max (max g 1) n) n=n by omega]at d
 ·refine⟨rfl,B,λi j p D=>?_⟩;by_cases z:g=0
  ·rw[show i=j by omega];exact zo _
  ·exact hs i j p ()
 ·rintro c t ⟨rfl,f,d⟩;exact wpS_pure (h t f d)
def Dn(kd:SortKind)(rk:A0->Nat)(b:Array Keyed)(st:SortSt):Prop:=(AM st).Perm b/\failedOf st=U/\pendingOf st=#[(0,b.size,0)]/\Up rk (AM st) b.size
theorem Bs.dn{st:SortSt}(B:Bs kd b st)(a:Up rk (AM st) b.size):Dn kd rk b (setPending st ((pendingOf st).push (0,b.size,0))):=⟨B.pm,B.fl,(by show(pendingOf st).push _=_;rw[B.pd];rfl),a⟩
theorem GA{st:SortSt}{Q:Unit->SortSt->Prop}(d:V7 prog w A s kd rk b)(B:Bs kd b st)(h2:2<=b.size)(l:b.size<64)
  (h:∀t,(AM t).Perm b->failedOf t=U->Up rk (AM t) b.size->Q ej t):wpS (A8 prog w) A E s sortRuns' Q st:=by
 rw[sortRuns'_eq];refine AL (wpS_get ?_);have v:minRun' b.size b.size 0=b.size:=by
  obtain⟨f,o⟩:∃f,b.size=f+1:=⟨b.size-1,by omega⟩;have q:minRun' (f+1) b.size 0=b.size:=(minRun'_succ f b.size 0).trans (zr l);rwa [<-o]at q
 simp only[B.sz,v];have i:∀{t:SortSt},Bs kd b t->(pendingOf t).back?=U:=λB=>by rw[B.pd];rfl
 refine AL (wpS_mono (wpS_forRange (I:=λx c t=>(x=0/\c=(U,0)/\Bs kd b t)\/(1<=x/\c=(U,b.size)/\Dn kd rk b t)) (Q:=λc t=>c=(U,b.size)/\Dn kd rk b t) ?_ ?_ (.inl ⟨rfl,rfl,B⟩)) ?_)
 ·rintro x c t _ hx (⟨rfl,rfl,n⟩|⟨C,rfl,D⟩)
  ·dsimp only;rw[zS ()];simp only[Nat.sub_zero,dq,ku];refine AL (LG d (zo _) () n λm t2 a F y g=>?_);dsimp only;by_cases lt:m<b.size
   ·rw[zr lt];refine AL (wpS_lift (JJ ⟨rfl,AL (Fs d (zo _) y a g λt3 j z=>?_)⟩));simp only[Kt,zI,ZY];refine AL (wpS_get ?_);rw[i j];exact AL (wpS_modify (wpS_pure (.inr ⟨by omega,rfl,j.dn z⟩)))
   ·rw[zS lt];have e:m=b.size:=by omega
    subst e;refine AL (wpS_get ?_);rw[i a];exact AL (wpS_modify (wpS_pure (.inr ⟨by omega,rfl,a.dn g⟩)))
  ·dsimp only;rw[zr (zo _)];exact wpS_pure ⟨rfl,D⟩
 ·rintro c t (⟨hx,_,_⟩|⟨_,p,D⟩)
  ·omega
  ·exact⟨p,D⟩
 ·rintro c t ⟨rfl,D⟩;dsimp only;refine AL (wpS_mono (wpS_forRange (I:=λ_ c u=>u=t/\c=(U,ej)) (Q:=λc u=>u=t/\c=(U,ej)) ?_ (λ_ _ q=>q) ⟨rfl,rfl⟩) ?_)
  ·rintro x c u _ _ ⟨rfl,rfl⟩;refine AL (wpS_get ?_);rw[zr (by rw[D.2.2.1];exact zo 1)];exact wpS_pure ⟨rfl,rfl⟩
  ·rintro c u ⟨rfl,rfl⟩;exact wpS_pure (h _ D.1 D.2.1 D.2.2.2)
def EZ(a:A1)(s s':A2):Prop:=∀c o,c≠a->s.heap.get? c=Z o->s'.heap.get? c=Z o
theorem OW{vs:O A0}{P:Fin->A2->Prop}(b:s.heap.get? a=Z (seqObj "list" vs.toArray n))(hK:2<=vs.length->∀s',EZ a s s'->∀Q:SortKind->A2->Prop,Q kd s'->A7 (A8 prog w) A (keyKind' vs.toArray) Q E s')(l:∀s',EZ a s s'->V7 prog w A s' kd rk (pairsOf vs))(p:vs.length<64)(h:∀st:SortSt,(AM st).Perm (pairsOf vs)->Up rk (AM st) (pairsOf vs).size->P (.done (.ret .none)) { s with heap:=sortedHeap s.heap a vs ((AM st).map (·.2)) }):
  A7 (A8 prog w) A (Builtin.«list.sort» ⟨[.ref a],[]⟩) P E s:=by
 rw[list_sort_plain];have m:=zt b;refine zb (listItems_at b S (zb (listUpdate_at b S ?_)));obtain⟨e1,g1⟩:∃e1,(s.heap.update a (Obj.mapSeq λ_=>#[])).get? a=Z (seqObj "list" #[] e1):=⟨_,get?_update_seq b λ_=>#[]⟩;refine zb (seqEpoch_at g1 S (zb (wpAny_newTuple (zb (Kk (ZA ?_))))));have z1:(s.heap.update a (Obj.mapSeq λ_=>#[])).objs.size=s.heap.objs.size:=dP ..;have keep:∀c,c<s.heap.objs.size->(((s.heap.update a (Obj.mapSeq λ_=>#[])).push (seqObj "tuple" vs.toArray 0)).push (seqObj "list" #[] 0)).get? c=(s.heap.update a (Obj.mapSeq λ_=>#[])).get? c:=λc f=>by
  rw[dy _ _ _ (by rw[size_push',z1];exact zC (kA f)),dy _ _ _ (by rw[z1];exact zC f)]
 have d:=(keep a m).trans g1;have old:EZ a s { s with heap:=((s.heap.update a (Obj.mapSeq λ_=>#[])).push (seqObj "tuple" vs.toArray 0)).push (seqObj "list" #[] 0) }:=λc o f e=>by
  show(((s.heap.update a (Obj.mapSeq λ_=>#[])).push (seqObj "tuple" vs.toArray 0)).push (seqObj "list" #[] 0)).get? c=Z o;rw[keep c (zt e),df _ _ _ _ f];exact e
 show A7 _ _ _ _ _ { s with heap:=((s.heap.update a (Obj.mapSeq λ_=>#[])).push (seqObj "tuple" vs.toArray 0)).push (seqObj "list" #[] 0) };have y:vs.toArray.size=vs.length:=by simp
 have g:∀st:SortSt,(AM st).Perm (pairsOf vs)->((AM st).map (·.2)).size<=AA+1:=λst hp=>by
  have q:((AM st).map (·.2)).size=vs.length:=(Array.size_map ..).trans (hp.size_eq.trans (pairsOf_size _));rw[q,sizeLine_eq];omega
 by_cases h2:vs.toArray.size<2
 ·simp only[zr h2];refine zb (zd ?_);rw[StateT.run_pure];refine zb (zd (zb (seqEpoch_at d S (zb (listUpdate_at d S ?_ (hsz2:=g (SortSt.mk' general' (pairsOf vs) #[] 7 U) (Array.Perm.refl _)))))));simp only[bne_self_eq_false,zI,ZY];refine zd (h (SortSt.mk' general' (pairsOf vs) #[] 7 U) (Array.Perm.refl _) λi j z v=>?_);rw[pairsOf_size]at v;rw[show i=j by omega];exact zo _
 ·simp only[zS h2];refine zb (hK () _ old _ ?_);refine zb (ZU (GA (l _ old) (st:=SortSt.mk' kd (pairsOf vs) #[] 7 U) (Q:=λ_ t=>(AM t).Perm (pairsOf vs)/\failedOf t=U/\Up rk (AM t) (pairsOf vs).size) ⟨Array.Perm.refl _,rfl,rfl,rfl⟩ (by rw[pairsOf_size];omega) (by rw[pairsOf_size];exact p) λt q1 q2 q3=>⟨q1,q2,q3⟩) ?_ λ_ _ q=>q);rintro⟨⟨⟩,t⟩ s' ⟨rfl,hp,x,u⟩;dsimp only;refine zb (seqEpoch_at d S (zb (listUpdate_at d S ?_ (hsz2:=g t hp))));rw[x];simp only[bne_self_eq_false,zI,ZY];exact zd (h t hp u)
theorem Tf{x:A0}{vs:O A0}(t:∀(b:BF) (f:O A0->A2->Prop),(∀h' tk,s.heap.objs.size<=h'.objs.size->(∀c o,s.heap.get? c=Z o->h'.get? c=Z o)->f vs { s with heap:=h',toks:=tk })->A7 (A8 prog w) A.in1 (collect x) f b s)(hK:2<=vs.length->∀(b:BF) (d:A5) (s':A2),(∀c o,s.heap.get? c=Z o->s'.heap.get? c=Z o)->∀Q:SortKind->A2->Prop,Q kd s'->A7 (A8 prog w) d (keyKind' vs.toArray) Q b s')(j:∀(d:A5) (s':A2),(∀c o,s.heap.get? c=Z o->s'.heap.get? c=Z o)->V7 prog w d s' kd rk (pairsOf vs))(p:vs.length<64)(h:∀(l:A1) (h':A6) (tk n:Nat) (st:SortSt),(AM st).Perm (pairsOf vs)->Up rk (AM st) (pairsOf vs).size->s.heap.objs.size<=l->(∀c o,s.heap.get? c=Z o->h'.get? c=Z o)->h'.get? l=Z (seqObj "list" ((AM st).map (·.2)) n)->Q (.ref l) { s with heap:=h',toks:=tk }):
  A7 (A8 prog w) A (call (.builtin "sorted") [x]) Q E s:=by
 refine Calls.call_function_entry kind_sorted plain_sorted entry_sorted (args_sorted1 _) ?_;unfold Builtin.«sorted»;refine zb (m:=checkCount "sorted" 1 1 _) (zd (zb (t _ _ λh1 tk u ext=>zb (Kk ?_))));have a:(h1.push (seqObj "list" vs.toArray 0)).get? h1.objs.size=Z (seqObj "list" vs.toArray 0):=zw _ rfl;have old:∀s':A2,EZ h1.objs.size { s with heap:=h1.push (seqObj "list" vs.toArray 0),toks:=tk } s'->∀c o,s.heap.get? c=Z o->s'.heap.get? c=Z o:=λs' q c o e=>
  q c o (zC (zt (ext c o e))) (zg _ (ext c o e))
 refine zb (ZA (JY slot_list_sort ⟨_,a,rfl⟩ entry_list_sort (OW a (λq s' o=>hK q _ _ s' (old s' o)) (λs' o=>j _ s' (old s' o)) p λst q1 q2=>⟨_,rfl,zd ⟨_,rfl,?_⟩⟩) (args_list_sort _)));obtain⟨n,i⟩:=sortedHeap_at (out:=(AM st).map (·.2)) a;refine h h1.objs.size _ tk n st q1 q2 u (λc o e=>?_) i;have g:=zt (ext c o e);rw[sortedHeap_old (zC g) (by rw[jI];exact kA g)];exact zg _ (ext c o e)
end
end S1
namespace S1
open L2
theorem Tg(fb:Bool)(x y:A0):keyLt' (tuples' fb) x y=(do
  let xs <-Builtin.List.listItems x
  let ys <-Builtin.List.listItems y
  for ((p,q),i) in (xs.toList.zip ys.toList).zipIdx do
   if !(<-eqBool p q)then return <-oneLt' (fb&&i==0) p q
  return decide (xs.size<ys.size)):=rfl
def QZ:AY->AY->Bool
 |.inl a,.inl b=>decide (a<b)
 |.inr x,.inr y=>decide (x.cps.toList<y.cps.toList)
 |.inl _,.inr _=>true
 |.inr _,.inl _=>false
def Mi:AY->AY->Bool
 |.inl _,.inl _=>true
 |.inr _,.inr _=>true
 |_,_=>false
def ju:O AY->O AY->Bool
 |[],[]=>false
 |[],_::_=>true
 |_::_,[]=>false
 |x::xs,y::ys=>if x=y then ju xs ys else QZ x y
def Um:O AY->O AY->Prop
 |x::xs,y::ys=>Mi x y=true/\Um xs ys
 |_,_=>True
theorem CH{x y:AY}{p q:A0}{Q:Bool->A2->Prop}(hp:j9 x p=true)(c:j9 y q=true)(h:Q (decide (x=y)) s):A7 (A8 prog w) A (eqBool p q) Q E s:=
 (cG prog w).eqBool (a:=x) (b:=y) hp c h
theorem SK{fb:Bool}{x y:AY}{p q:A0}{Q:Bool->A2->Prop}(hs:Mi x y=true)(hp:j9 x p=true)(a:j9 y q=true)(h:Q (QZ x y) s):A7 (A8 prog w) A (oneLt' fb p q) Q E s:=by
 rcases bA hp with⟨i,t,rfl,rfl⟩|⟨z,t,rfl,rfl⟩
 ·rcases bA a with⟨j,u,rfl,rfl⟩|⟨z,u,rfl,rfl⟩
  ·cases fb with
   |true=>exact oneLt_int h
   |false=>
    rw[oneLt'_eq];simp only[zI,ZY];refine zb (show A7 _ _ (AG .Lt (.int i t) (.int j u)) _ _ _ from lt_int ?_);exact Q3 h
  ·cases hs
 ·rcases bA a with⟨j,u,rfl,rfl⟩|⟨b,u,rfl,rfl⟩
  ·cases hs
  ·cases fb with
   |true=>exact oneLt_str h
   |false=>
    rw[oneLt'_eq];simp only[zI,ZY];refine zb (show A7 _ _ (AG .Lt (.str z t) (.str b u)) _ _ _ from PySem.P.lt_str ?_);exact Q3 h
def Ks(ks:O AY)(AQ:O A0):Prop:=AI (λk v=>j9 k v=true) ks AQ
def Ch:O AY->O AY->Y Bool
 |x::xs,y::ys=>if x=y then Ch xs ys else Z (QZ x y)
 |_,_=>U
theorem V8:∀ks a:O AY,ju ks a=match Ch ks a with|some r=>r|none=>decide (ks.length<a.length)
 |[],[]=>rfl
 |[],_::_=>by simp[ju,Ch]
 |_::_,[]=>rfl
 |x::xs,y::ys=>by
  simp only[ju,Ch];by_cases e:x=y
  ·rw[zr e,zr e,V8 xs ys];simp only[qv,Nat.add_lt_add_iff_right]
  ·rw[zS e,zS e]
def turn(fb:Bool):(A0×A0)×Nat->Y Bool×Unit->Sem (ForInStep (Y Bool×Unit)):=λx _=>match x with
 |((p,q),i)=>do
  let e <-eqBool p q
  if(!e)=true then do
    let r <-oneLt' (fb&&i==0) p q
    pure (ForInStep.done (Z r,ej))
   else pure (ForInStep.yield (U,ej))
theorem F2(fb:Bool):∀(ks b:O AY) (AQ a:O A0) (i:Nat) (R:Y Bool×Unit->A2->Prop),Ks ks AQ->Ks b a->Um ks b->R (Ch ks b,ej) s->A7 (A8 prog w) A (forIn ((AQ.zip a).zipIdx i) ((U,ej):Y Bool×Unit) (turn fb)) R E s:=by
 intro ks
 induction ks with
 |nil=>intro b AQ a i R h _ _ h1;cases h;exact zd h1
 |cons x xs f=>
  intro b AQ a i R h h' d h1;cases h with
  |@cons _ p _ AQ hp hk=>
   cases h' with
   |nil=>exact zd h1
   |@cons y q ys a c g=>
    rw[QR,List.zipIdx_cons,List.forIn_cons];refine zb ?_;show A7 _ _ (eqBool p q >>= _) _ _ _;refine zb (CH hp c ?_);by_cases e:x=y
    ·simp only[e,kR,Kt,zI,ZY];refine zd (f ys AQ a (i+1) R hk g d.2 ?_);simp only[Ch,zr e]at h1;exact h1
    ·simp only[e,JS,k7,qk];refine zb (SK d.1 hp c (zd (zd ?_)));simp only[Ch,zS e]at h1;exact h1
theorem MV{fb:Bool}{c:A1}{i f:AE}{d:O A0}{ks b:O AY}{Q:Bool->A2->Prop}(j:s.heap.get? a=Z i)(t:i.data=.seq AQ.toArray n)(o:s.heap.get? c=Z f)(q:f.data=.seq d.toArray m)(hk:Ks ks AQ)(g:Ks b d)(hs:Um ks b)(h:Q (ju ks b) s):A7 (A8 prog w) A (keyLt' (tuples' fb) (.ref a) (.ref c)) Q E s:=by
 rw[Tg];refine zb (listItems_at j t (zb (listItems_at o q ?_)));have l:AQ.length=ks.length:=(Paired.length hk).symm;have p:d.length=b.length:=(Paired.length g).symm;refine zb (F2 fb ks b AQ d 0 _ hk g hs ?_);rw[V8]at h;cases e:Ch ks b with
 |some r=>rw[e]at h;exact zd h
 |none=>
  rw[e]at h;refine zd ?_;simpa[l,p]using h
theorem Zu(x:AY):QZ x x=false:=by
 cases x with
 |inl a=>simp[QZ]
 |inr a=>simp[QZ]
theorem Ti{x y z:AY}(h:QZ x y=true)(h':QZ y z=true):QZ x z=true:=by
 cases x<;>cases y<;>cases z<;>simp only[QZ,kz,zI,reduceCtorEq]at h h' ⊢
 ·omega
 ·exact List.lt_trans h h'
theorem Zv{x y:AY}(h:QZ x y=false)(h':QZ y x=false):x=y:=by
 cases x<;>cases y<;>simp only[QZ,QE,Bool.true_eq_false,reduceCtorEq]at h h'
 ·congr 1;omega
 ·rename_i a b;have:=dG (as:=a.cps.toList) (bs:=b.cps.toList) h' h;cases a;cases b;simp only at this;rw[dL.mp this]
theorem qZ:∀xs:O AY,ju xs xs=false
 |[]=>rfl
 |x::xs=>by simp only[ju,qk];exact qZ xs
theorem lU:∀{xs ys zs:O AY},ju xs ys=true->ju ys zs=true->ju xs zs=true
 |[],[],_,h,_=>by cases h
 |[],_::_,[],_,h'=>by cases h'
 |[],_::_,_::_,_,_=>rfl
 |_::_,[],_,h,_=>by cases h
 |_::_,_::_,[],_,h'=>by cases h'
 |x::xs,y::ys,z::zs,h,h'=>by
  simp only[ju]at h h' ⊢;by_cases e1:x=y
  ·subst e1;rw[zr rfl]at h;by_cases e2:x=z
   ·subst e2;rw[zr rfl]at h' ⊢;exact lU h h'
   ·rw[zS e2]at h' ⊢;exact h'
  ·rw[zS e1]at h;by_cases e2:y=z
   ·subst e2;rw[zS e1];exact h
   ·rw[zS e2]at h';have:=Ti h h';rw[zS (λe=>by subst e;rw[Zu]at this;cases this)];exact this
theorem uX:∀{xs ys:O AY},ju xs ys=false->ju ys xs=false->xs=ys
 |[],[],_,_=>rfl
 |[],_::_,h,_=>by cases h
 |_::_,[],_,h'=>by cases h'
 |x::xs,y::ys,h,h'=>by
  simp only[ju]at h h';by_cases e:x=y
  ·subst e;rw[zr rfl]at h h';rw[uX h h']
  ·rw[zS e]at h;rw[zS (k6 e)]at h';exact absurd (Zv h h') e
def uw(xs ys:O AY):Bool:=!ju ys xs
theorem yH(a b c:O AY)(h:uw a b=true)(h':uw b c=true):uw a c=true:=by
 unfold uw at *
 simp only[jb]at *
 cases f:ju c a with
 |false=>rfl
 |true=>
  cases d:ju a b with
  |true=>rw[lU f d]at h';cases h'
  |false=>
   have e:=uX d h;subst e;rw[f]at h';cases h'
theorem Er(a b:O AY):(uw a b||uw b a)=true:=by
 unfold uw;cases h:ju b a with
 |false=>rfl
 |true=>
  cases h':ju a b with
  |false=>rfl
  |true=>have:=lU h h';rw[qZ]at this;cases this
theorem Ih{a b:O AY}(h:uw a b=true)(h':uw b a=true):a=b:=by
 unfold uw at *
 simp only[jb]at *
 exact uX h' h
theorem Cj{α:Type}{le:α->α->Prop}(d:∀a b,le a b->le b a->a=b):∀{l c:O α},l.Perm c->l.Pairwise le->c.Pairwise le->l=c
 |[],c,h,_,_=>by rw[List.nil_perm.mp h]
 |a::l,[],h,_,_=>by cases List.perm_nil.mp h
 |a::l,b::c,h,p,p'=>by
  have e:a=b:=by
   have g:a∈b::c:=h.mem_iff.mp (ze ..);have f:b∈a::l:=h.mem_iff.mpr (ze ..);rcases List.mem_cons.mp g with h1|h1
   ·exact h1
   ·rcases List.mem_cons.mp f with h2|h2
    ·exact h2.symm
    ·exact d a b (QY p h2) (QY p' h1)
  subst e;rw[Cj d ((List.perm_cons a).mp h) (ap.mp p).2 (ap.mp p').2]
def yI(dO:O (O AY)):O (O AY):=dO.mergeSort uw
theorem Ck(dO:O (O AY)):(yI dO).Perm dO:=bo ..
theorem Mj(dO:O (O AY)):(yI dO).Pairwise (λa b=>uw a b=true):=KI yH Er dO
theorem Ii{out:O (O AY)}(hp:out.Perm dO)(hs:out.Pairwise (λa b=>uw a b=true)):out=yI dO:=Cj (λ_ _=>Ih) (hp.trans (Ck dO).symm) hs (Mj dO)
def CD(dO:O (O AY))(k:O AY):Nat:=dO.countP λu=>ju u k
theorem Ij{α:Type}{p q:α->Bool}:∀{l:O α},(∀x∈l,p x=true->q x=true)->(∃x∈l,p x=false/\q x=true)->l.countP p<l.countP q
 |[],_,⟨x,hx,_⟩=>by cases hx
 |a::l,h,⟨x,hx,h1,h2⟩=>by
  have le:l.countP p<=l.countP q:=cK λy b=>h y (zh _ b);rw[ce,ce];rcases List.mem_cons.mp hx with rfl|hx
  ·rw[h1,h2];simp;omega
  ·have:=Ij (λy b=>h y (zh _ b)) ⟨x,hx,h1,h2⟩;have c:=h a (ze ..);cases hp:p a with
   |true=>rw[c hp];simp;omega
   |false=>simp;omega
theorem Q0{a b:O AY}(e:a∈dO):decide (CD dO a<CD dO b)=ju a b:=by
 cases h:ju a b with
 |true=>
  refine ZT (Ij (λu _ c=>lU c h) ⟨a,e,qZ a,h⟩)
 |false=>
  refine z5 (dV.mpr (cK λu _ c=>?_));cases d:ju b a with
  |true=>exact lU c d
  |false=>rw[uX h d];exact c
def pZ(h:A6)(ks:O AY)(v:A0):Prop:=∃(a:A1) (o:AE) (AQ:O A0) (n:Nat),v=.ref a/\h.get? a=Z o/\o.cls=.type "tuple" ∧ o.data=.seq AQ.toArray n/\Ks ks AQ
theorem pZ.keep{h':A6}{ks:O AY}{v:A0}(q:pZ h ks v)(k:∀c o,h.get? c=Z o->h'.get? c=Z o):pZ h' ks v:=by
 obtain⟨a,o,AQ,n,e,g,c,d,p⟩:=q;exact⟨a,o,AQ,n,e,k _ _ g,c,d,p⟩
theorem Zw{k l:AY}{v:A0}(h:j9 k v=true)(h':j9 l v=true):k=l:=by
 rcases bA h with⟨i,t,rfl,rfl⟩|⟨x,t,rfl,rfl⟩
 ·rcases bA h' with⟨j,u,rfl,e⟩|⟨y,u,rfl,e⟩
  ·cases e;rfl
  ·cases e
 ·rcases bA h' with⟨j,u,rfl,e⟩|⟨y,u,rfl,e⟩
  ·cases e
  ·cases e;rfl
theorem Ks.inj:∀{ks a:O AY} {AQ:O A0},Ks ks AQ->Ks a AQ->ks=a
 |_,_,[],h,h'=>by cases h;cases h';rfl
 |_,_,v::AQ,h,h'=>by
  cases h with
  |cons p t=>cases h' with
   |cons p' t'=>rw[Zw p p',Ks.inj t t']
theorem pZ.inj{h:A6}{ks f:O AY}{v:A0}(q:pZ h ks v)(j:pZ h f v):ks=f:=by
 obtain⟨a,o,AQ,n,rfl,g,c,d,p⟩:=q;obtain⟨m,o',l,s,e,b,c',i,p'⟩:=j;cases e;rw[g]at b;cases b;rw[d]at i;injection i with e1 e2;have e3:AQ=l:=by simpa using congrArg dl e1
 subst e3;exact p.inj p'
theorem Q5{f:α->Sem β}:∀(xs:O α) (ys:O β) (Q:O β->A2->Prop),AI (λx y=>∀(c:BF) (a:β->A2->Prop),a y s->A7 (A8 prog w) A (f x) a c s) xs ys->Q ys s->A7 (A8 prog w) A (xs.mapM f) Q E s:=by
 intro xs
 induction xs with
 |nil=>intro ys Q p h;cases p;rw[List.mapM_nil];exact zd h
 |cons x xs b=>
  intro ys Q p q;cases p with
  |cons h t=>
   rw[List.mapM_cons];exact zb (h _ _ (zb (b _ _ t (zd q))))
theorem V9(v:A0):firstOfTuple' v=(do
  if(<-typeOf v) != .type "tuple" then return U
  return (<-Builtin.List.listItems v)[0]?):=rfl
theorem Tj{k:AY}{ks:O AY}{v:A0}(q:pZ s.heap (k::ks) v):∃u,j9 k u=true/\∀(e:BF) (b:Y A0->A2->Prop),b (Z u) s->A7 (A8 prog w) A (firstOfTuple' v) b e s:=by
 obtain⟨a,o,AQ,n,rfl,g,c,d,p⟩:=q;cases p with
 |@cons _ u _ AQ hp t=>
  refine⟨u,hp,λe b h=>?_⟩;rw[V9];refine zb (QA (T :="tuple") ⟨o,g,c⟩ ?_);rw[zS ()];exact zb (listItems_at g d (zd h))
theorem Wa{k:AY}(h:j9 k u=true)(b:BF)(a:BF)(q:a (.type (if k.isLeft then "int" else "str")) s):A7 (A8 prog w) A (typeOf u) a b s:=by
 rcases bA h with⟨i,t,rfl,rfl⟩|⟨x,t,rfl,rfl⟩
 ·exact QA (typeIs_int s i t) q
 ·exact QA (typeIs_str s x t) q
theorem Tn{vs:O A0}{Q:SortKind->A2->Prop}(j:AI (pZ s.heap) dO vs)(g:∀k∈dO,k≠[])(B:∀k∈dO,∀l∈dO,Um k l)(h2:1<=vs.length)(h:Q (tuples' true) s):A7 (A8 prog w) A (keyKind' vs.toArray) Q E s:=by
 have step:∀(dO:O (O AY)) (vs:O A0),AI (pZ s.heap) dO vs->(∀k∈dO,k≠[])->∃us:O A0,AI (λv u=>∀(c:BF) (a:Y A0->A2->Prop),a (Z u) s->A7 (A8 prog w) A (firstOfTuple' v) a c s) vs us/\AI (λ(k:O AY) u=>∃x r,k=x::r/\j9 x u=true) dO us:=by
  intro dO vs j
  induction j with
  |nil=>intro _;exact⟨[],.nil,.nil⟩
  |@cons k v dO vs q t d=>
   intro g;obtain⟨us,p1,p2⟩:=d λk hk=>g k (zh _ hk);cases k with
   |nil=>exact absurd S (g _ (ze ..))
   |cons x r=>
    obtain⟨u,f,D⟩:=Tj (prog:=prog) (w:=w) (A:=A) q;exact⟨u::us,.cons D p1,.cons ⟨x,r,rfl,f⟩ p2⟩
 obtain⟨us,p1,p2⟩:=step dO vs j g;have F:us.length=vs.length:=(Paired.length p1).symm;have o:∀{l:O A0} {ws:O A0},AI (λv u=>∀(c:BF) (a:Y A0->A2->Prop),a (Z u) s->A7 (A8 prog w) A (firstOfTuple' v) a c s) l ws->AI (λv u=>∀(c:BF) (a:Y A0->A2->Prop),a u s->A7 (A8 prog w) A (firstOfTuple' v) a c s) l (ws.map Z):=λh=>by
  induction h with
  |nil=>exact .nil
  |cons q t d=>exact .cons q d
 rw[keyKind'_eq,dz,map_eq_pure_bind];refine zb (zb (Q5 vs (us.map Z) _ (o p1) (zd ?_)));have C:(us.map Z).toArray.all (·.isSome)=true:=by simp
 rw[zr C];refine zb (JJ ?_);have n:(us.map Z).toArray.filterMap id=us.toArray:=by simp
 rw[n,oneTypeOnly'_eq,dz,map_eq_pure_bind];have ty:∀(dO:O (O AY)) (us:O A0),AI (λ(k:O AY) u=>∃x r,k=x::r/\j9 x u=true) dO us->∃ts:O A0,AI (λu t=>∀(c:BF) (a:BF),a t s->A7 (A8 prog w) A (typeOf u) a c s) us ts/\AI (λ(k:O AY) t=>∃x r,k=x::r/\t=.type (if x.isLeft then "int" else "str")) dO ts:=by
  intro dO us hp
  induction hp with
  |nil=>exact⟨[],.nil,.nil⟩
  |@cons k u dO us q t d=>
   obtain⟨ts,q1,q2⟩:=d;obtain⟨x,r,rfl,hx⟩:=q;exact⟨_::ts,.cons (λc a h=>Wa hx c a h) q1,.cons ⟨x,r,rfl,rfl⟩ q2⟩
 obtain⟨ts,q1,q2⟩:=ty dO us p2;refine zb (zb (zb (Q5 us ts _ q1 (zd ?_))));have lt:ts.length=vs.length:=by rw[<-Paired.length q1,F]
 cases q2 with
 |nil=>simp at lt;omega
 |@cons J G I i y p=>
  obtain⟨b,r,rfl,rfl⟩:=y;have same:∀t∈i,t=Value.type (if b.isLeft then "int" else "str"):=by
   have z:∀(dO:O (O AY)) (ts:O A0),AI (λ(k:O AY) t=>∃x r,k=x::r/\t=Value.type (if x.isLeft then "int" else "str")) dO ts->(∀k∈dO,Um (b::r) k)->∀t∈ts,t=Value.type (if b.isLeft then "int" else "str"):=by
    intro dO ts hp
    induction hp with
    |nil=>intro _ t e;cases e
    |@cons k t dO ts q _ d=>
     intro m u f;rcases List.mem_cons.mp f with rfl|f
     ·obtain⟨x,H,rfl,rfl⟩:=q;have:=(m _ (ze ..)).1;cases b<;>cases x<;>first|rfl|cases this
     ·exact d (λk hk=>m k (zh _ hk)) u f
   exact z _ _ p λk hk=>B _ (ze ..) k (zh _ hk)
  have e0:(Value.type (if b.isLeft then "int" else "str")::i).toArray[0]?=Z (Value.type (if b.isLeft then "int" else "str")):=by simp
  have e1:((Value.type (if b.isLeft then "int" else "str")::i).toArray.all λx=>x==Value.type (if b.isLeft then "int" else "str"))=true:=by
   simp only[List.all_toArray,KF];intro t e;rcases List.mem_cons.mp e with rfl|e
   ·simp
   ·rw[same t e];simp
  rw[e0];simp only[e1,qk];refine zd (zd ?_);have e2:((Z (Value.type (if b.isLeft then "int" else "str"))).any λx=>x !=Value.type "tuple")=true:=by
   cases b with
   |inl _=>exact(by decide:((Z (Value.type "int")).any λx=>x !=Value.type "tuple")=true)
   |inr _=>exact(by decide:((Z (Value.type "str")).any λx=>x !=Value.type "tuple")=true)
  rw[e2];exact h
def BO(dO:O (O AY))(vs:O A0)(v:A0):O AY:=match (vs.zip dO).find? (λp=>p.1==v)with
 |some p=>p.2
 |none=>[]
theorem oW{h:A6}:∀{dO:O (O AY)} {vs:O A0},AI (pZ h) dO vs->∀v∈vs,BO dO vs v∈dO/\pZ h (BO dO vs v) v
 |_,_,.nil,v,hv=>by cases hv
 |k::dO,u::vs,.cons q t,v,hv=>by
  unfold BO;rw[QR,ZO];by_cases e:u=v
  ·subst e;simp only[beq_self_eq_true];exact⟨ze ..,q⟩
  ·have e':(u==v)=false:=by simpa using e
   simp only[e'];have b:v∈vs:=by
    rcases List.mem_cons.mp hv with h|h
    ·exact absurd h.symm e
    ·exact h
   have a:=oW t v b;exact⟨zh _ a.1,a.2⟩
theorem Cm{h:A6}:∀{dO:O (O AY)} {vs:O A0},AI (pZ h) dO vs->∀(K:A0->O AY),(∀v∈vs,pZ h (K v) v)->vs.map K=dO
 |_,_,.nil,_,_=>rfl
 |k::dO,v::vs,.cons q t,K,hK=>by
  rw[zk,(hK v (ze ..)).inj q,Cm t K λu a=>hK u (zh _ a)]
theorem Es{h:A6}:∀{vs:O A0} {K:A0->O AY},(∀v∈vs,pZ h (K v) v)->AI (pZ h) (vs.map K) vs
 |[],_,_=>.nil
 |v::vs,K,hK=>.cons (hK v (ze ..)) (Es λu a=>hK u (zh _ a))
theorem Wb{vs:O A0}(i:AI (pZ s.heap) dO vs)(m:∀k∈dO,∀l∈dO,Um k l):V7 prog w A s (tuples' true) (λv=>CD dO (BO dO vs v)) (pairsOf vs):=by
 intro E p q Q hp f h;rw[pairsOf_toList]at hp f;obtain⟨b,t1⟩:=oW i p.1 (mem_zip_self hp).2;obtain⟨y,t2⟩:=oW i q.1 (mem_zip_self f).2;rw[Q0 b]at h;have x:=m _ b _ y;obtain⟨a,o,AQ,n,e,g,c,d,k⟩:=t1;obtain⟨z,o',B,C,e',j,c',t,u⟩:=t2;rw[e,e'];exact MV g d j t k u x h
theorem Wc{vs:O A0}(a:AI (pZ h) dO vs){xs:Array Keyed}(hp:xs.Perm (pairsOf vs))(m:Up (λv=>CD dO (BO dO vs v)) xs (pairsOf vs).size):AI (pZ h) (yI dO) (xs.map (·.2)).toList:=by
 have b:xs.toList.Perm (vs.zip vs):=by rw[<-pairsOf_toList];exact ay.mp hp
 have d:∀p∈xs.toList,p.1=p.2/\p.1∈vs:=λp q=>mem_zip_self (b.mem_iff.mp q);have e:(xs.map (·.2)).toList=xs.toList.map (·.1):=by
  rw[dQ];exact qc λp q=>(d p q).1.symm
 have pv:(xs.toList.map (·.1)).Perm vs:=by
  have:=b.map Prod.fst;rwa [List.map_fst_zip (zo _)]at this
 have l:yI dO=(xs.toList.map (·.1)).map (BO dO vs):=by
  refine(Ii ?_ ?_).symm
  ·have:=pv.map (BO dO vs);rwa [Cm a _ λv q=>(oW a v q).2]at this
  ·rw[bX];intro i j hi g f;have n:i<xs.size:=by simpa using hi
   have c:j<xs.size:=by simpa using g
   have u:=m i j (jS f) (by rw[<-hp.size_eq];exact c);unfold at_ at u;rw[getElem?_pos xs i n,getElem?_pos xs j c]at u;have o:=(oW a xs[j].1 (d xs[j] (by simp)).2).1;simp only[cb,Array.getElem_toList];unfold uw;rw[<-Q0 o,z5 (dV.mpr u)];rfl
 rw[l,e];refine Es λv q=>(oW a v ?_).2;exact pv.mem_iff.mp q
end S1
namespace P1
open L2 S1
theorem O7{o:AE}{T:String}{vs:O A0}{Q:O A0->A2->Prop}(b:s.heap.get? l=Z o)(d:o.cls=.type T)(f:T ="list" ∨ T ="tuple")(hd:o.data=.seq vs.toArray n)(g:vs.length<=AA)(h:∀h' tk,s.heap.objs.size<=h'.objs.size->(∀c o,s.heap.get? c=Z o->h'.get? c=Z o)->Q vs { s with heap:=h',toks:=tk }):A7 (A8 prog w) A (collect (.ref l)) Q E s:=by
 unfold collect;refine zb (wpAny_runValue (Qb entry_proto_collect' ?_));show A7 _ _ (newList [] >>= λq=>again (.builtin "list.__iadd__" ⟨[q,.ref l],[]⟩)) _ _ s;refine zb (Kk (zd ⟨Code.quiet_builtin _ (by decide +kernel),Qb entry_list_iadd' ?_⟩));show A7 _ _ (Builtin.List.listExtendWith (.ref s.heap.objs.size) (.ref l) (.ref s.heap.objs.size)) _ _ _;unfold Builtin.List.listExtendWith;have g1:(s.heap.push (seqObj "list" #[] 0)).get? l=Z o:=zg _ b;refine zb (QA (T:=T) ⟨o,g1,d⟩ ?_);have a:(Value.type T==Value.type "list" || Value.type T==Value.type "tuple")=true:=by rcases f with rfl|rfl<;>decide
 rw[zr (by rw[Bool.or_assoc,a];simp)];refine zb (listItems_at g1 hd (zb (listItems_at (xs:=#[]) (n:=0) (zw _ S) S ?_)));rw[zS (by simp)];have g2:(s.heap.push (seqObj "list" #[] 0)).get? s.heap.objs.size=Z (seqObj "list" #[] 0):=zw _ rfl;refine zb (listUpdate_at (xs:=#[]) (n:=0) g2 S (zd ?_) (Z3 _) (by show(#[]++vs.toArray).size<=AA+1;simp only[JI,zl,bg];omega));show A7 (A8 prog w) A (load s.heap.objs.size >>= _) Q E _;refine zb (wpAny_load (get?_update_seq g2 _) ?_);show A7 _ _ (pure ((#[]:Array A0)++vs.toArray).toList) Q E _;rw[show((#[]:Array A0)++vs.toArray).toList=vs by simp];refine zd (h _ s.toks ?_ λc i e=>?_)
 ·rw[dP,size_push'];exact Kb _
 ·rw[df _ _ _ _ (zC (zt e))];exact zg _ e
def Ee:Dt->Y AY
 |.int i=>Z (.inl i)
 |.str x=>Z (.inr x)
 |_=>U
def Ik:O Dt->Y (O AY)
 |[]=>Z []
 |d::ds=>(Ee d).bind λk=>(Ik ds).bind λks=>Z (k::ks)
def xW:Dt->Y (O AY)
 |.tup ds=>Ik ds
 |_=>U
def Et:O Dt->Y (O (O AY))
 |[]=>Z []
 |d::ds=>(xW d).bind λk=>(Et ds).bind λks=>Z (k::ks)
def dK:AY->Dt
 |.inl i=>.int i
 |.inr x=>.str x
def BT(ks:O AY):Dt:=.tup (ks.map dK)
theorem Zx{k:AY}(h:Ee d=Z k):d=dK k:=by
 cases d<;>cases h<;>rfl
theorem Mp:∀{ds:O Dt} {ks:O AY},Ik ds=Z ks->ds=ks.map dK
 |[],_,h=>by cases h;rfl
 |d::ds,_,h=>by
  obtain⟨k,e1,h⟩:=AT h;obtain⟨ks,e2,h⟩:=AT h;cases h;rw[zk,Zx e1,Mp e2]
theorem zX{ks:O AY}(h:xW d=Z ks):d=BT ks:=by
 cases d with
 |tup ds=>exact congrArg Dt.tup (Mp h)
 |_=>cases h
theorem Il:∀{ds:O Dt} {dO:O (O AY)},Et ds=Z dO->ds=dO.map BT
 |[],_,h=>by cases h;rfl
 |d::ds,_,h=>by
  obtain⟨k,e1,h⟩:=AT h;obtain⟨ks,e2,h⟩:=AT h;cases h;rw[zk,zX e1,Il e2]
theorem Zy{k:AY}(h:AW K H (dK k) v):v=kV k:=by
 cases k with
 |inl i=>exact(show v=.int i by simpa only[dK,AW]using h)
 |inr x=>exact(show v=.str x/\x.length<=AA by simpa only[dK,AW]using h).1
theorem wU{K:B5}{H:Hp}:∀{ks:O AY} {vs:O V},aH K H (ks.map dK) vs->vs=ks.map kV
 |[],_,h=>by simp only[JU,aH]at h;exact h
 |k::ks,_,h=>by
  simp only[zk,aH]at h;obtain⟨v,r,rfl,h1,h2⟩:=h;rw[Zy h1,wU h2,zk]
theorem Wf(X:Cx){ks:O AY}:∀{us:O A0},AX (ks.map kV) us->Ks ks us:=by
 induction ks with
 |nil=>intro us h;cases h;exact .nil
 |cons k ks a=>
  intro us h;cases h with
  |cons r t=>exact .cons (Eb (P:=X.prog) (w:=X.w) r) (a t)
theorem J0{AN:O (A1×AE)}{σ:L2.St}{H:Hp}{s:A2}(I:AU X AN σ H s):∀{dO:O (O AY)} {vs:O V} {AQ:O A0},aH X.K H (dO.map BT) vs->AX vs AQ->AI (pZ s.heap) dO AQ
 |[],_,_,h,r=>by
  simp only[JU,aH]at h;subst h;cases r;exact .nil
 |k::dO,_,_,h,r=>by
  simp only[zk,aH]at h;obtain⟨v,vs,rfl,h1,h2⟩:=h;cases r with
  |cons f e=>
   refine .cons ?_ (J0 I h2 e);simp only[BT,AW]at h1;obtain⟨a,ws,rfl,sq,i⟩:=h1;obtain⟨AQ,b,⟨o,g,c,n,d⟩,_⟩:=I.tuple sq;cases f;rw[wU i]at b;exact⟨a,o,AQ,n,rfl,g,c,d,Wf X b⟩
theorem Im{AN:O (A1×AE)}{σ:L2.St}{H:Hp}{s:A2}(I:AU X AN σ H s){dO:O (O AY)}{vs:O V}{AQ:O A0}(h:aH X.K H (dO.map BT) vs)(r:AX vs AQ):∀{c:O (O AY)} {out:O A0},AI (pZ s.heap) c out->(∀u∈out,u∈AQ)->∃zs,AX zs out/\aH X.K H (c.map BT) zs
 |_,_,.nil,_=>⟨[],.nil,aH.nil⟩
 |l::c,u::out,.cons q t,hm=>by
  obtain⟨zs,z1,z2⟩:=Im I h r t λx hx=>hm x (zh _ hx);have i:∀(dO:O (O AY)) (vs:O V) (AQ:O A0),aH X.K H (dO.map BT) vs->AX vs AQ->u∈AQ->∃v,As v u/\AW X.K H (BT l) v:=by
   intro dO
   induction dO with
   |nil=>
    intro vs AQ h r a;simp only[JU,aH]at h;subst h;cases r;cases a
   |cons k dO f=>
    intro vs AQ h r a;simp only[zk,aH]at h;obtain⟨v,vs,rfl,h1,h2⟩:=h;cases r with
    |@cons _ j _ _ b g=>
     rcases List.mem_cons.mp a with rfl|a
     ·have e:k=l:=by
       have:=J0 I (dO:=[k]) (vs:=[v]) (AQ:=[u]) (by simp only[zk,JU];exact aH.cons h1 aH.nil) (.cons b .nil);cases this with
       |cons d _=>exact d.inj q
      subst e;exact⟨v,b,h1⟩
     ·exact f vs _ h2 g a
  obtain⟨v,b,h1⟩:=i dO vs AQ h r (hm u (ze ..));exact⟨v::zs,.cons b z1,by rw[zk];exact aH.cons h1 z2⟩
def O8(k l:O AY):Bool:=((k.zip l).all λp=>Mi p.1 p.2)
theorem O9:∀{k l:O AY},O8 k l=true->Um k l
 |[],_,_=>by simp[Um]
 |_::_,[],_=>by simp[Um]
 |x::k,y::l,h=>by
  unfold O8 at h;rw[QR,j3,ZH]at h;exact⟨h.1,O9 h.2⟩
def Zz(dO:O (O AY)):Bool:=decide (dO.length<64)&&(dO.all (λk=>!k.isEmpty)&&dO.all λk=>dO.all λl=>O8 k l)
def Eu:O Bx->Y Bx
 |[b]=>(G3 b).bind λds=>(Et ds).bind λdO=>if Zz dO=true then Z (.o ((yI dO).map BT))else U
 |_=>U
theorem ZC{b:Bx}(h:aU K H b v)(e:G3 b=Z ds):∃a vs,v=.ref a/\(qQ K H a vs\/zm K H a vs)/\aH K H ds vs:=by
 cases b with
 |z d=>
  cases d<;>first|(cases e;done)|skip
  ·cases e;simp only[aU,AW]at h;obtain⟨a,vs,e,q,r⟩:=h;exact⟨a,vs,e,.inr q,r⟩
  ·cases e;simp only[aU,AW]at h;obtain⟨a,vs,e,q,r⟩:=h;exact⟨a,vs,e,.inl q.sq,r⟩
 |l c=>cases e;obtain⟨a,vs,e,q,r⟩:=h;exact⟨a,vs,e,.inl (.inl q),r⟩
 |o c=>cases e;obtain⟨a,vs,e,q,r⟩:=h;exact⟨a,vs,e,.inl (.inl (.inl q)),r⟩
 |n _=>cases e
 |m _ _=>cases e
theorem Wg:uM X (.builtin "sorted") Eu:=by
 intro AN s σ H xs us Q I J h;obtain⟨bs,c,D,e,q⟩:=h;unfold Eu at e;split at e
 ·rename_i b;obtain⟨ds,ed,e⟩:=AT e;obtain⟨dO,ek,e⟩:=AT e;split at e
  ·rename_i y;cases e;simp only[Zz,ZH,kz,KF,jb]at y;obtain⟨a2,P,B⟩:=y;obtain⟨v,rfl,N⟩:=BI D;obtain⟨p,vs,rfl,sq,w⟩:=ZC N ed;obtain⟨u,rfl,ru⟩:=BC J;cases ru;have a3:=Il ek;subst a3;have C:∃(AQ:O A0) (o:AE) (T:String) (n:Nat),AX vs AQ/\s.heap.get? p=Z o/\o.cls=.type T/\(T ="list" ∨ T ="tuple")/\o.data=.seq AQ.toArray n/\vs.length<=AA:=by
    rcases sq with sq|sq
    ·obtain⟨AQ,f,pl,j⟩:=I.list sq;obtain⟨o,g,c,n,d⟩:=pl.isList;exact⟨AQ,o,_,n,f,g,c,.inl rfl,d,j⟩
    ·obtain⟨AQ,f,⟨o,g,c,n,d⟩,j⟩:=I.tuple sq;exact⟨AQ,o,_,n,f,g,c,.inr rfl,d,j⟩
   obtain⟨AQ,o,T,n,f,g,hc,K,hd,j⟩:=C;have a5:AQ.length=dO.length:=by rw[<-f.length,w.length,zi]
   have tv:=J0 I w f;refine Tf (kd:=tuples' true) (rk:=λv=>CD dO (BO dO AQ v)) (vs:=AQ) (λF L x=>O7 g hc K hd (by rw[<-f.length];exact j) x)
    (λh2 F W s' k L x=>Tn (Paired.imp' (λ_ _ z=>pZ.keep z k) tv) (λk hk=>by have:=P k hk;cases k with|nil=>cases this|cons _ _=>exact List.cons_ne_nil _ _) (λk hk l i=>O9 (B k hk l i)) () x)
    (λW s' k=>Wb (Paired.imp' (λ_ _ z=>pZ.keep z k) tv) λk hk l i=>O9 (B k hk l i)) () λl h' tk m st hp G i ext hL=>?_
   have E:=Wc tv hp G;have a1:∀u∈((AM st).map (·.2)).toList,u∈AQ:=λu A=>by
    rw[dQ]at A;obtain⟨pr,a4,rfl⟩:=ae.mp A;have a0:pr∈AQ.zip AQ:=by rw[<-pairsOf_toList];exact(ay.mp hp).mem_iff.mp a4
    have:=mem_zip_self a0;rw[<-this.1];exact this.2
   obtain⟨zs,z1,z2⟩:=Im I w f E a1;have M:zs.length=dO.length:=by rw[z2.length,zi,(Ck dO).length_eq]
   have t:H l=U:=I.hok.fresh i;refine⟨.ref l,_,I.laid (t':=tk) (a:=l) (o:=.lst zs) ext i ⟨by rw[M];exact jS (Zl a2 ()),_,m,z1,?_⟩,rfl,q _ _ (bf t) (λa ea=>by cases ea;exact t) ⟨l,zs,rfl,aW,z2.kp (.of (bf t))⟩⟩;rw[hL]
  ·cases e
 ·cases e
end P1
namespace S6
def M3(xs:Array Nat):Prop:=∀i j,i<j->j<xs.size->xs.getD i 0<xs.getD j 0
def It(h:A6)(it a:A1)(first:A0)(i n ep:Nat):Prop:=∃o,h.get? it=Z o/\o.cls=.type "set_iterator" ∧ o.data=.fields #[first,.int (i:Int) 0,.ref a,.int (n:Int) 0,.int (ep:Int) 0]
section
variable{ep:Nat}{es:Array (Int×A0)}{t:SetTable}
end
end S6
namespace S6
open P1
section
variable{ep:Nat}{es:Array (Int×A0)}{t:SetTable}
end
section
variable{R:Result->A2->Prop}{I:A1}{wr:O A1}{P:Nat->A0->Prop}{St:Nat->A2->Prop}{C:A6->O κ->Prop}{val:Nat->κ}
end
end S6
namespace S6
open PySem
structure Tb (t:SetTable):Prop where
 mask:t.mask=7\/t.mask=31\/t.mask=127
 dum:t.dummies=#[]
 rise:M3 t.place
 bd:∀j:Nat,j∈t.place->j<=t.mask
 full:t.place.size<=t.mask
def LU(a:Nat)(p:SetTable.Probe):SetTable.Probe:=
 if p.more>0 then { p with j:=p.j+1,more:=p.more-1 }else
 { p with j:=(az a p.i p.perturb).1,more:=ef a (az a p.i p.perturb).1-(az a p.i p.perturb).1,i:=(az a p.i p.perturb).1,perturb:=(az a p.i p.perturb).2 }
def Nd(a i perturb:Nat):SetTable.Probe:={ j:=i,more:=ef a i-i,i,perturb,dummy:=U }
def FK(a:Nat)(h:Int):Nat->SetTable.Probe
 |0=>Nd a (bz h%(a+1)) (bz h)
 |n+1=>LU a (FK a h n)
def nx(M i:Nat):Nat:=(i*5+1)%M
def lp(a:Nat)(h:Int):Nat->Nat×Nat
 |0=>(bz h%(a+1),bz h)
 |l+1=>az a (lp a h l).1 (lp a h l).2
structure Tok (t:SetTable) (es:Array (Int×Value)):Prop extends Tb t where
 size:t.place.size=es.size
 reach:∀(i j:Nat) e,t.place[i]?=some j->es[i]?=some e->∃n,n<10*SetTable.turns t.mask/\(FK t.mask e.1 n).j=j/\∀m,m<n->(FK t.mask e.1 m).j∈t.place
theorem JV{α β:Type}{f:α->Y β}{g:α->β}:∀{xs:O α},(∀x∈xs,f x=Z (g x))->xs.filterMap f=xs.map g
 |[],_=>rfl
 |x::xs,h=>by
  rw[Zs,h x (ze ..),zk,JV λy a=>h y (zh _ a)]
end S6
namespace S6
open P1 L2
abbrev Lm(prog:A3)(w:A4)(ks:O AY):Int:=tupleKeyHash (cG prog w) ks
def TE(prog:A3)(w:A4)(h:A6)(z:O AY×A1)(e:Int×A0):Prop:=e=(Lm prog w z.1,.ref z.2)/\IsTupleKey (cG prog w) h z.1 z.2
end S6
namespace S1
open L2
end S1
namespace S6
end S6
namespace P1
open L2 S6
theorem uY:∀{vs:O A0} {ys:AZ},StrsAre vs ys->∀(i:Nat) (v:A0),vs[i]?=Z v->∃y t,ys[i]?=Z y/\v=.str y t
 |_,_,.nil,i,v,h=>by simp at h
 |_,_,.cons y t r,0,v,h=>by simp at h;exact⟨y,t,rfl,h.symm⟩
 |_,_,.cons y t r,i+1,v,h=>by
  obtain⟨z,t',e,a⟩:=uY r i v (by simpa using h);exact⟨z,t',by simpa using e,a⟩
section
variable{fs:Ev->Y AZ}{p:Pos}
end
section
variable{xs:AZ}
end
section
variable{xs:AZ}
variable{fs:Ev->Y AZ}{p':Pos}
end
end P1
namespace P1
open L2 S1 S6
section
variable [DecidableEq α]
end
section
def ZD(ks:O AY):Bool:=ks.any λk=>k.isRight
variable{fs:Ev->Y (O (O AY))}{p:Pos}
end
end P1
namespace P1
open L2
section
variable{kx vx:Expr}{xs:AZ}{fk:Ev->Y Bx}
end
section
variable{o:AE}
end
section
variable{fd:Ev->Y Bx}{xs:AZ}
end
theorem LO{P:Nat->A0->Prop}(val:Nat->AJ)(a:∀i v,P i v->∃t,v=.str (val i) t):CmpOf prog w A .Lt P (λi j=>decide ((val i).cps.toList<(val j).cps.toList)):=λi j b d s Q E hi c h=>by
 obtain⟨t,rfl⟩:=a i b hi;obtain⟨u,rfl⟩:=a j d c;exact richCompare_gives (op:=.Lt) (typeIs_str s _ t) (typeIs_str s _ u) F.slot_str_lt F.entry_str_lt (F.args_str_lt_2 _ _) (gives_str_lt _ _ t u) (λx=>nomatch x) h
theorem DA{P:Nat->A0->Prop}(val:Nat->AJ)(a:∀i v,P i v->∃t,v=.str (val i) t):CmpOf prog w A .Gt P (λi j=>decide ((val j).cps.toList<(val i).cps.toList)):=λi j b d s Q E hi c h=>by
 obtain⟨t,rfl⟩:=a i b hi;obtain⟨u,rfl⟩:=a j d c;exact richCompare_gives (op:=.Gt) (typeIs_str s _ t) (typeIs_str s _ u) F.slot_str_gt F.entry_str_gt (F.args_str_gt_2 _ _) (gives_str_gt _ _ t u) (λx=>nomatch x) h
section
variable{fs:Ev->Y (O Bx)}{p px spos:Pos}{y:AJ}{k:Nat}{f:A1}{G:A1->O (AY×Dt)->O Bx->Y (O (AY×Dt))}
end
section
variable{st:O AB}
end
open AutoSeq1 (wpAny_loadPart')
open SeqAt
theorem ZF(I:L2.AU X AN σ H s)(h:zm X.K H a xs):∃AQ:O A0,AX xs AQ/\fP s.heap a AQ.toArray:=by
 rcases h with h|⟨o,AQ,n,hk,b,c,d,r⟩
 ·obtain⟨z,AQ,r,p⟩:=h.ok I.hok;exact⟨AQ,r,p⟩
 ·exact⟨AQ.toList,r,o,I.X8 a o hk,b.1,⟨n,by simpa using c⟩,b.2⟩
section
variable{o:Expr}{fx:Ev->Y Bx}
end
section
variable{t:Ev->Y Bool}
end
section
variable{h':A6}
end
section
variable{p:Pos}{fs:Ev->Y (O Bx)}
end
def Wh(j i:Nat)(f:Ev->Y Bx):Ev->Y An:=λρ=>(f ρ).bind λb=>match b with
 |.z (.int k)=>match ρ[i]? with
  |some (Z (.o ds))=>if -(2 ^ 62)<=k/\k<2 ^ 62 then(seqIndex? k ds.length).bind λm=>(ds[m]?).bind λd=>(Lj (ρ.set i (Z (.o (ds.eraseIdx m)))) j (.z d)).bind λa=>Z (.nx a)else U
  |_=>U
 |_=>U
theorem Ew{K:B5}{H:Hp}:∀(m:Nat) {ds:O Dt} {vs:O V},aH K H ds vs->aH K H (ds.eraseIdx m) (vs.eraseIdx m)
 |m,[],vs,h=>by
  cases vs with
  |nil=>exact h
  |cons v vs=>have:=h.length;simp at this
 |m,d::ds,vs,h=>by
  cases vs with
  |nil=>have:=h.length;simp at this
  |cons v vs=>
   obtain⟨a,r,e,q,t⟩:∃a r,v::vs=a::r/\AW K H d a/\aH K H ds r:=by
    simpa only[aH]using h
   cases e;cases m with
   |zero=>exact t
   |succ m=>exact aH.cons q (Ew m t)
theorem SH(j i:Nat){y:AJ}{p:Pos}(P:X.N.Nodup)(K:PV X e f)(I:X.N[i]?=Z x:=by rfl)(Q:Qv X.env.scope x:=by first|exact QQ rfl|exact qh (QQ S)|exact qh (qh S))(hd:eg x:=by decide)(a2:(x==("__classdict__":AJ))=false:=by decide)(n:A9 [e] X.env=[(false,eval e X.env)]:=by rfl)(a3:attributeBase (.Name x p) "pop" X.env (eval (.Name x p) X.env)=eval (.Name x p) X.env:=by rfl)(G:((AD cpos (A9 [e] X.env)).all (λx=>!x.1)&&(backToKw cpos (keywordEach [] X.env)).all (λx=>x.1.isSome)
   && decide ([e].length+([]:O AC).length+(if([]:O AC).isEmpty then 0 else 1)<30))=true:=by rfl)(a1:(apos.endLine==cpos.line)=true:=by rfl)(hj:X.N[j]?=Z y:=by rfl)(L:CO X.env.scope y:=by first|exact QQ rfl|exact qh S)(hs:swapsWith (.Call (.Attribute (.Name x p) "pop" apos) [e] [] cpos) (Z (.Name y p2)) pos.line X.env=pure false:=by rfl)(C:X.fn y=true\/X.env.scope.names.lookup y=Z .local:=by first|exact .inl rfl|exact .inr S):
  Is X (.Assign [.Name y p2] (.Call (.Attribute (.Name x p) "pop" apos) [e] [] cpos) pos) (Wh j i f):=
 Yd (Jm P hj L (La PySem.F.plainAttrs_list PySem.F.slot_list_pop PySem.F.type_list_pop U8 (yF (i:=i) I Q hd a2) (wO K Ba (by rw[n]<;>rfl)) a3 G a1 (by rw[n]<;>rfl) S) hs C) λD σ H h=>by
  obtain⟨H0,ρ,r,E,e,q⟩:=h;obtain⟨b,eb,e⟩:=AT e;split at e
  ·rename_i k;split at e
   ·rename_i ds t;split at e
    ·rename_i hb;obtain⟨m,A,e⟩:=AT e;obtain⟨d,ed,e⟩:=AT e;obtain⟨a4,a0,e⟩:=AT e;cases e;obtain⟨v,e1,a,vs,rfl,l,o⟩:=E.val i _ t;refine⟨_,e1,.inl ⟨rfl,vs,.inl (.inl l)⟩,H0,ρ,_,E,eb,λu H1 g n1 M=>?_⟩;have E1:=E.grow g;have s:=o.kp (.of g);obtain⟨w,B,J⟩:=s.get ed;have W:u=.int k:=by simpa only[aU,AW]using M
     subst W;have c:=g _ _ l;refine⟨a,vs,k,m,w,rfl,rfl,c,by omega,by omega,by rw[o.length];exact A,B,?_⟩;have E2:=E1.U7 t e1 c (Ew m s);have kp:Kp H1 (B6 H1 a (.lst (vs.eraseIdx m))):=.lst c;exact q _ _ (JF E2 (AV.refl _) (b:=.z d) (by simp only[aU];exact AW.kp kp J) trivial a0)
    ·cases e
   ·cases e
  ·cases e
theorem NE(j i:Nat){y:AJ}{p:Pos}(l:X.N.Nodup)(q:QV X e f)(s:X.N[i]?=Z x:=by rfl)(n:Qv X.env.scope x:=by first|exact QQ rfl|exact qh (QQ S)|exact qh (qh S))(hd:eg x:=by decide)(g:(x==("__classdict__":AJ))=false:=by decide)(c:A9 [e] X.env=[(false,eval e X.env)]:=by rfl)(h:attributeBase (.Name x p) "pop" X.env (eval (.Name x p) X.env)=eval (.Name x p) X.env:=by rfl)(o:((AD cpos (A9 [e] X.env)).all (λx=>!x.1)&&(backToKw cpos (keywordEach [] X.env)).all (λx=>x.1.isSome)
   && decide ([e].length+([]:O AC).length+(if([]:O AC).isEmpty then 0 else 1)<30))=true:=by rfl)(b:(apos.endLine==cpos.line)=true:=by rfl)(d:X.N[j]?=Z y:=by rfl)(a:CO X.env.scope y:=by first|exact QQ rfl|exact qh S)(hs:swapsWith (.Call (.Attribute (.Name x p) "pop" apos) [e] [] cpos) (Z (.Name y p2)) pos.line X.env=pure false:=by rfl)(m:X.fn y=true\/X.env.scope.names.lookup y=Z .local:=by first|exact .inl rfl|exact .inr S):
  Sx X (.Assign [.Name y p2] (.Call (.Attribute (.Name x p) "pop" apos) [e] [] cpos) pos) (Wh j i f):=
 ⟨SH j i l q.run s n hd g c h o b d a hs m⟩
section
variable{ek ev:Expr}{fk:Ev->Y Bx}
def F1:Ev->Y An:=λ_=>U
theorem ZG:Sx X st F1:=⟨λD AN s σ H I q=>by
 obtain⟨H0,ρ,r,E,e,q⟩:=q;cases e⟩
end
section
variable{st:Expr}{fs:Ev->Y Bx}
def Tp(a b:Bx):Y Bx:=(nO a).bind λds=>match b with
 |.z (.int i)=>if i = -1 then Z (.o ds.reverse)else U
 |_=>U
theorem Tq{a b c:Bx}(h:Tp a b=Z c):∃ds,nO a=Z ds/\b=.z (.int (-1))/\c=.o ds.reverse:=by
 unfold Tp at h;obtain⟨ds,d,h'⟩:=AT h;clear h;split at h'
 ·split at h'
  ·rename_i hi;subst hi;injection h' with h';exact⟨ds,d,rfl,h'.symm⟩
  ·cases h'
 ·cases h'
theorem ZJ(F:QV X e f)(C:QV X st fs)(J:∀v i:A0,subscripted (.Slice U U (Z st) p2) false v i=operate [v,i] (getItem v i):=by intro _ _;with_unfolding_all rfl):QV X (.Subscript e (.Slice U U (Z st) p2) pos) (b2 Tp f fs):=by
 refine⟨?_⟩;intro AN s σ H Q I h;obtain⟨H0,ρ,c,E,g,q⟩:=h;obtain⟨a,ea,g⟩:=AT g;obtain⟨b,eb,g⟩:=AT g;refine Subscript_ (jF (F.run AN s σ H (λx H1=>AV H H1/\aU X.K H1 a x) I ⟨H0,ρ,a,E,ea,λv H1 n N m=>⟨n,m⟩⟩) λv n ⟨x,H1,I1,m,O2,BI⟩=>?_);refine wpAny_Slice ?_;rw[evalPart_none];refine zd ?_;refine zd ?_;rw[evalPart_some];refine jF (C.run AN n σ H1 (λy H2=>AV H1 H2/\aU X.K H2 b y) I1 ⟨H0,ρ,b,E.grow O2,eb,λv H2 d P t=>⟨d,t⟩⟩) λvk d ⟨y,H2,I2,t,ug,CY⟩=>?_;obtain⟨ds,M,rfl,rfl⟩:=Tq g;have G:y=.int (-1):=by simpa only[aU,AW]using CY
 subst G;obtain⟨tk,rfl⟩:=t;obtain⟨p,vs,rfl,sq,D⟩:=(BI.same ug).CT M;cases m;have l:L2.AU X AN σ H2 { d with heap:=d.heap.push { cls:=.type "slice",data:=.fields #[.none,.none,.int (-1) tk] } }:=I2.kept (t':=d.toks) λb L q=>zg _ q;obtain⟨AQ,r,B,u⟩:=l.list sq;show A7 (eh X) X.A (subscriptTail e (.Slice U U (Z st) p2) (.ref p) (.ref d.heap.objs.size)) (EP X AN σ Q) X.xe { d with heap:=d.heap.push { cls:=.type "slice",data:=.fields #[.none,.none,.int (-1) tk] } };refine tail_any (ops:=[.ref p,.ref d.heap.objs.size]) B.isList.typeIs list_getitem_lookup (wpAny_getItem_list_slice B.isList (Heap.IsSliceOf.new ..) .none .none (.int _ _) () ?_ (by rw[zl,<-r.length];exact u)) (J _ _);rw[PySem.W.krv_pick];have j:=l.hok.fresh (zo _);refine⟨.ref _,_,l.laid (t':=d.toks) (o:=.lst vs.reverse) (λb L q=>zg _ q) (zo _) ?_,rfl,q _ _ ((O2.trans ug).trans (bf j)) (λa z=>by cases z;exact(O2.trans ug).free j) ?_⟩
 ·exact⟨by rw[kc];exact u,AQ.reverse,0,r.reverse,zw _ rfl⟩
 ·exact⟨_,_,rfl,aW,(aH.rev D).kp (.of (bf j))⟩
end
theorem ad{a b:Nat}(h:a≠b):@Ne A1 a b:=h
theorem Io:entryFor table "dict.update.loop"=Z Builtin.«dict.update.loop»:=entryFor_of_tree (by kernel_rfl)
section
variable{K:Type} [DecidableEq K] {knd:KeyKind prog w K}
end
def Q6(ps:O (AJ×Dt)):O (AY×Dt):=ps.foldl (λa p=>G6 a (.inr p.1) p.2) []
theorem Bj{K:B5}{H:Hp}:∀{ps:O (AJ×Dt)} {us:O V} {acc:O (AY×Dt)} {ks:O (AY×V)},fL K H acc ks->aH K H (ps.map (·.2)) us->(∀p∈ps,p.1.length<=AA)->fL K H (ps.foldl (λacc p=>G6 acc (.inr p.1) p.2) acc) (rY ks ((ps.map λp=>(Sum.inr p.1:AY)).zip us))
 |[],us,acc,ks,h,r,_=>by simpa[rY]using h
 |p::ps,us,acc,ks,h,r,hl=>by
  obtain⟨u,b,rfl,c,d⟩:∃v r,us=v::r/\AW K H p.2 v/\aH K H (ps.map (·.2)) r:=by simpa only[zk,aH]using r
  exact Bj (ps:=ps) (us:=b) (acc:=G6 acc (.inr p.1) p.2) (ks:=BG ks (Sum.inr p.1) u) (h.put (x:=Sum.inr p.1) c (hl p (ze ..))) d λq a=>hl q (zh _ a)
section
variable{ea eb:Expr}{p1 pos1 pos2:Pos}
end
theorem pB(xs:AZ)(is:O Nat)(a:closureFor scope X.env=pure cl:=by with_unfolding_all rfl)(b:scope.kind=.function:=by rfl)(c:scope.names.all (λy=>decide (y.2≠.cell)||(cl.lookup y.1).isNone)=true:=by rfl)(e:scope.names.all (λy=>decide (y.2=.local->scope.names.lookup y.1=Z .local))=true:=by decide +kernel)(sub:Bz X.env.cells cl:=by repeat (first|exact trivial|refine⟨rfl,?_⟩))(has:(relabel scope X.env).names.all (λy=>!(y.2==.cell||y.2==.free)||(cl.lookup y.1).isSome||scope.names.contains (y.1,.cell))=true:=by rfl)(d:GX X scope cl xs is:=by repeat (first|exact Nc|refine Zo S (by first|exact .inl rfl|exact .inr S) (by first|exact .inl rfl|exact .inr S) ⟨_,rfl⟩ ?_)):yG X scope cl xs is:=PF a b c e sub has d
theorem nQ{a:Scope}(h1:a.kind=.function:=by rfl)(h2:a.isCoroutine=false:=by rfl)(e:a.isGenerator=false:=by rfl)(d:N.Nodup:=by decide +kernel)(c:N.take ps.length=ps:=by rfl)(f:∀x∈ps,a.names.lookup x=Z .local\/a.names.lookup x=Z .cell:=by decide +kernel)(b:∀y∈a.names,y.2≠.free:=by decide +kernel):bC N ps a:=⟨h1,h2,e,d,c,f,b⟩
instance:Inhabited Dt:=⟨.non⟩
theorem B1(a:α)(f:α->Y β):(Z a).bind f=f a:=(cc a f).trans (Eq.refl _)
def B4:Y Prop->Prop
 |none=>True
 |some p=>p
def bx:Y Prop->Y Prop->Y Prop
 |none,q=>q
 |some p,U=>Z p
 |some p,Z q=>Z (p/\q)
def Mq(c:Prop):Y Prop->Y Prop
 |none=>U
 |some p=>Z (c->p)
theorem aB{p q:Y Prop}(h:B4 (bx p q)):B4 p/\B4 q:=by
 cases p with
 |none=>exact⟨trivial,h⟩
 |some p=>cases q with
  |none=>exact⟨h,trivial⟩
  |some q=>exact h
theorem q8{c:Prop}{p:Y Prop}(h:B4 (Mq c p))(a:c):B4 p:=by
 cases p with
 |none=>trivial
 |some p=>exact h a
structure R {α β:Type} (f:Ev->Option β) (ρ:Ev) (c:α->β) where
 v:α
 D:Option Prop
 ok:B4 D->f ρ=some (c v)
abbrev zE(e:α->Dt):α->Bx:=λa=>.z (e a)
abbrev oE(e:α->Dt):O α->Bx:=λxs=>.o (xs.map e)
abbrev lE(e:α->Dt):O α->Bx:=λxs=>.l (xs.map e)
abbrev tE:Bool->Bool:=λb=>b
abbrev iE(e:α->Dt):O α->O Dt:=λxs=>xs.map e
abbrev eI:Int->Dt:=Dt.int
abbrev eB:Bool->Dt:=Dt.bl
abbrev eS:AJ->Dt:=Dt.str
abbrev eN:Unit->Dt:=λ_=>.non
abbrev eL(e:α->Dt):O α->Dt:=λxs=>.lst (xs.map e)
abbrev eT(e:α->Dt):O α->Dt:=λxs=>.tup (xs.map e)
abbrev eO(e:α->Dt):Y α->Dt:=λo=>match o with|none=>.non|some a=>e a
abbrev IY(a:α->Dt):α->Dt:=λx=>.tup [a x]
abbrev Dv(a:α->Dt)(b:β->Dt):α×β->Dt:=λx=>.tup [a x.1,b x.2]
abbrev DD(a:α->Dt)(b:β->Dt)(c:γ->Dt):α×β×γ->Dt:=λx=>.tup [a x.1,b x.2.1,c x.2.2]
abbrev EK(a:α->Dt)(b:β->Dt)(c:γ->Dt)(d:δ->Dt):α×β×γ×δ->Dt:=λx=>.tup [a x.1,b x.2.1,c x.2.2.1,d x.2.2.2]
structure RL {α:Type} (f:Ev->Option Bx) (ρ:Ev) (e:α->Dt) where
 v:List α
 D:Option Prop
 b:Bx
 lk:nO b=some (v.map e)
 ok:B4 D->f ρ=some b
section
variable{fs:Ev->Y (O Bx)}{e:α->Dt}{e':β->Dt}
def gQ(a:R f ρ (oE e)):RL f ρ e:=⟨a.v,a.D,_,rfl,a.ok⟩
def j8(a:R f ρ (lE e)):RL f ρ e:=⟨a.v,a.D,_,rfl,a.ok⟩
def FX(a:R f ρ (zE (eL e))):RL f ρ e:=⟨a.v,a.D,_,rfl,a.ok⟩
def Lp(b:Bx)(ds:O Dt):Prop:=b=.z (.lst ds)\/b=.l ds
theorem Lp.CT{b:Bx}(h:Lp b ds):nO b=Z ds:=by rcases h with rfl|rfl<;>rfl
theorem Lp.get{b:Bx}{ds:O Dt}{i:Nat}(h:Lp b ds)(hi:ρ[i]?=Z (Z b)):CV ρ i=Z b:=by
 rcases h with rfl|rfl<;>(unfold CV;rw[hi])
theorem mO{b:Bx}(h:nO b=Z ds):Lp (P1.lend b) ds:=by
 cases b with
 |z d=>cases d<;>cases h;exact .inl rfl
 |l d=>cases h;exact .inr rfl
 |o d=>cases h;exact .inr rfl
 |n d=>cases h
 |m d _=>cases h
def aq(i:Nat)(c:α->Bx)(a:α)(h:CV ρ i=Z (c a)):R (gv i) ρ c:=⟨a,U,λ_=>h⟩
def dB(i:Nat)(e:α->Dt)(a:O α){b:Bx}(h:Lp b (a.map e))(hi:ρ[i]?=Z (Z b)):RL (gv i) ρ e:=⟨a,U,b,h.CT,λ_=>h.get hi⟩
def Ip(d:Dt)(e:α->Dt)(a:α)(h:d=e a):R (cB d) ρ (zE e):=⟨a,U,λ_=>by rw[h];rfl⟩
def Wi(a:R f ρ (zE e)):R f ρ (zE (eO e)):=⟨Z a.v,a.D,a.ok⟩
def LW:R (cB .non) ρ (zE (eO e)):=⟨U,U,λ_=>S⟩
def Sz[Inhabited α](a:R f ρ (zE (eO e))):R f ρ (zE e):=⟨a.v.getD default,bx a.D (Z (a.v.isSome=true)),λh=>by
 obtain⟨h1,h2⟩:=aB h;rw[a.ok h1];have h2:a.v.isSome=true:=h2;cases b:a.v with
 |none=>rw[b]at h2;cases h2
 |some x=>rfl⟩
def Fh(a:R f ρ (oE e)):R (b1 Ci f) ρ (zE (eL e)):=⟨a.v,a.D,λh=>by simp only[b1,a.ok h,B1,Ci]⟩
def n6(a:R f ρ (zE e)):R (b1 Ci f) ρ (zE e):=⟨a.v,a.D,λh=>by simp only[b1,a.ok h,B1,Ci]⟩
def HE(a:R f ρ (zE eI)):R (b1 CZ f) ρ (zE eI):=⟨-a.v,a.D,λh=>by simp only[b1,a.ok h,B1,CZ]⟩
def n8(a:R fa ρ (zE eI))(b:R fb ρ (zE eI)):R (b2 jG fa fb) ρ (zE eI):=⟨a.v+b.v,bx a.D b.D,λh=>by
 obtain⟨h1,h2⟩:=aB h;simp only[b2,a.ok h1,b.ok h2,B1,jG]⟩
def Wj(a:R fa ρ (zE eI))(b:R fb ρ (zE eI)):R (b2 CI fa fb) ρ (zE eI):=⟨a.v-b.v,bx a.D b.D,λh=>by
 obtain⟨h1,h2⟩:=aB h;simp only[b2,a.ok h1,b.ok h2,B1,i2]⟩
def ER(a b:Int):Prop:=(-18446744073709551616<a/\a<18446744073709551616)\/(-18446744073709551616<b/\b<18446744073709551616)
def IR(a:R fa ρ (zE eI))(b:R fb ρ (zE eI)):R (b2 xQ fa fb) ρ (zE eI):=⟨a.v*b.v,bx (bx a.D b.D) (Z (ER a.v b.v)),λh=>by
 obtain⟨h,c⟩:=aB h;obtain⟨h1,h2⟩:=aB h;simp only[b2,a.ok h1,b.ok h2,B1];exact zr c⟩
def J1(n:Int)(hn : -18446744073709551616<n/\n<18446744073709551616)(b:R fb ρ (zE eI)):R (b2 xQ (cB (.int n)) fb) ρ (zE eI):=⟨n*b.v,b.D,λh=>by
 simp only[b2,b.ok h,B1,cB];exact zr (.inl hn)⟩
def Q7(a:R fa ρ (zE eI))(n:Int)(hn : -18446744073709551616<n/\n<18446744073709551616):R (b2 xQ fa (cB (.int n))) ρ (zE eI):=⟨a.v*n,a.D,λh=>by
 simp only[b2,a.ok h,B1,cB];exact zr (.inr hn)⟩
def J2(a:R fa ρ (zE eI))(b:R fb ρ (zE eI)):R (b2 nY fa fb) ρ (zE eI):=⟨a.v / b.v,bx (bx a.D b.D) (Z (0<b.v/\b.v<1073741824)),λh=>by
 obtain⟨h,c⟩:=aB h;obtain⟨h1,h2⟩:=aB h;have c:0<b.v/\b.v<1073741824:=c;simp only[b2,a.ok h1,b.ok h2,B1,i2,zr c]⟩
def p8(a:R fa ρ (zE eI))(n:Int)(hn:0<n/\n<1073741824):R (b2 nY fa (cB (.int n))) ρ (zE eI):=⟨a.v / n,a.D,λh=>by
 simp only[b2,a.ok h,B1,i2,cB,zr hn]⟩
def Wk(a:R fa ρ (zE eI))(b:R fb ρ (zE eI)):R (b2 gG fa fb) ρ (zE eI):=⟨a.v%b.v,bx (bx a.D b.D) (Z (0<b.v)),λh=>by
 obtain⟨h,c⟩:=aB h;obtain⟨h1,h2⟩:=aB h;have c:0<b.v:=c;simp only[b2,a.ok h1,b.ok h2,B1,i2,zr c]⟩
def dM(a:R fa ρ (zE eI))(n:Int)(hn:0<n):R (b2 gG fa (cB (.int n))) ρ (zE eI):=⟨a.v%n,a.D,λh=>by
 simp only[b2,a.ok h,B1,i2,cB,zr hn]⟩
def KO(a b:Int)(n:Nat)(h:0<=b/\b<=1000/\a.natAbs<18446744073709551616)(c:b.toNat=n):R (b2 Zi (cB (.int a)) (cB (.int b))) ρ (zE eI):=⟨a ^ n,U,λ_=>by
 simp only[b2,B1,cB];show((if 0<=b/\b<=1000/\a.natAbs<2 ^ 64 then Z (Dt.int (a ^ b.toNat))else U).bind λd=>Z (Bx.z d))=_;rw[zr h,c];rfl⟩
def FU(a:R fa ρ (zE eI))(b:R fb ρ (zE eI)):R (b2 DT fa fb) ρ (zE eB):=⟨decide (b.v<a.v),bx a.D b.D,λh=>by
 obtain⟨h1,h2⟩:=aB h;simp only[b2,a.ok h1,b.ok h2,B1,i2]⟩
def FF(a:R fa ρ (zE eI))(b:R fb ρ (zE eI)):R (b2 EV fa fb) ρ (zE eB):=⟨decide (b.v<=a.v),bx a.D b.D,λh=>by
 obtain⟨h1,h2⟩:=aB h;simp only[b2,a.ok h1,b.ok h2,B1,i2]⟩
def Ha(a:R fa ρ (zE eI))(b:R fb ρ (zE eI)):R (b2 D4 fa fb) ρ (zE eB):=⟨decide (a.v<b.v),bx a.D b.D,λh=>by
 obtain⟨h1,h2⟩:=aB h;simp only[b2,a.ok h1,b.ok h2,B1,D4]⟩
def wV(x y:AJ):Bool:=decide (x.cps.toList<y.cps.toList)
end
class BA {α:Type} [DecidableEq α] (e:α->Dt) (n:outParam Nat):Prop where
 eq:∀a b,KY (e a) (e b)=some (decide (a=b))
 dp:∀a,Bc (e a)<=n
class CB {α:Type} (e:α->Dt):Prop where
 l:∀a,KY .non (e a)=some false
 r:∀a,KY (e a) .non=some false
instance:BA eI 1:=⟨λa b=>rfl,λa=>by simp[Bc]⟩
instance:BA eB 1:=⟨λa b=>rfl,λa=>by simp[Bc]⟩
instance:BA eS 1:=⟨λa b=>rfl,λa=>by simp[Bc]⟩
instance:CB eI:=⟨λa=>rfl,λa=>rfl⟩
instance:CB eB:=⟨λa=>rfl,λa=>rfl⟩
instance:CB eS:=⟨λa=>rfl,λa=>rfl⟩
section
variable [DecidableEq α] [DecidableEq β] [DecidableEq γ] [DecidableEq δ] {e:α->Dt}{e':β->Dt}{e'':γ->Dt}{e3:δ->Dt}{k l:Nat}
theorem Ey[BA e n]:∀xs ys:O α,lN (xs.map e) (ys.map e)=Z (decide (xs=ys))
 |[],[]=>by simp[lN]
 |[],y::ys=>by simp[lN]
 |x::xs,[]=>by simp[lN]
 |x::xs,y::ys=>by
  simp only[zk,lN,BA.eq,Ey xs ys];congr 1;by_cases h:x=y<;>by_cases h':xs=ys<;>simp[h,h']
theorem Ez[BA e n]:∀xs:O α,zM (xs.map e)<=n
 |[]=>by simp[zM]
 |x::xs=>by
  have:=BA.dp (e:=e) x;have:=Ez xs;simp only[zk,zM];omega
instance [BA e n]:BA (eL e) (n+1):=⟨λa b=>Ey a b,λa=>by simp only[Bc];have:=Ez (e:=e) a;omega⟩
instance [BA e n]:BA (eT e) (n+1):=⟨λa b=>Ey a b,λa=>by simp only[Bc];have:=Ez (e:=e) a;omega⟩
instance:CB (eL e):=⟨λa=>rfl,λa=>rfl⟩
instance:CB (eT e):=⟨λa=>rfl,λa=>rfl⟩
instance:CB (IY e):=⟨λa=>rfl,λa=>rfl⟩
instance:CB (Dv e e'):=⟨λa=>rfl,λa=>rfl⟩
instance:CB (DD e e' e''):=⟨λa=>rfl,λa=>rfl⟩
instance:CB (EK e e' e'' e3):=⟨λa=>rfl,λa=>rfl⟩
instance [BA e n]:BA (IY e) (n+1):=⟨λa b=>by
 simp only[Dp,lN,BA.eq,kQ],λa=>by
 have:=BA.dp (e:=e) a;simp only[Bc,zM];omega⟩
theorem DF{a b:Nat}(h:a<=n)(h':b<=m):max a b<=max n m:=Nat.max_le.mpr ⟨zD h (Nat.le_max_left ..),zD h' (Nat.le_max_right ..)⟩
theorem FS{a:Nat}(h:a<=n):max a 0<=n:=Nat.max_le.mpr ⟨h,Z3 _⟩
instance [BA e n] [BA e' m]:BA (Dv e e') (max n m+1):=⟨λa b=>by
 obtain⟨a,a'⟩:=a;obtain⟨b,b'⟩:=b;simp only[Dp,lN,BA.eq,Kn,cx,kQ],λa=>KA (DF (BA.dp (e:=e) a.1) (FS (BA.dp (e:=e') a.2)))⟩
instance [BA e n] [BA e' m] [BA e'' k]:BA (DD e e' e'') (max n (max m k)+1):=⟨λa b=>by
 obtain⟨a,a',a2⟩:=a;obtain⟨b,b',b2⟩:=b;simp only[Dp,lN,BA.eq,Kn,cx,kQ],λa=>KA (DF (BA.dp (e:=e) a.1) (DF (BA.dp (e:=e') a.2.1) (FS (BA.dp (e:=e'') a.2.2))))⟩
instance [BA e n] [BA e' m] [BA e'' k] [BA e3 l]:BA (EK e e' e'' e3) (max n (max m (max k l))+1):=⟨λa b=>by
 obtain⟨a,a',a2,a3⟩:=a;obtain⟨b,b',b2,b3⟩:=b;simp only[Dp,lN,BA.eq,Kn,cx,kQ],λa=>KA (DF (BA.dp (e:=e) a.1) (DF (BA.dp (e:=e') a.2.1) (DF (BA.dp (e:=e'') a.2.2.1) (FS (BA.dp (e:=e3) a.2.2.2)))))⟩
instance [BA e n] [CB e]:BA (eO e) (n+1):=⟨λa b=>by
 cases a with
 |none=>cases b with
  |none=>exact rfl
  |some b=>exact(CB.l (e:=e) b).trans (by simp)
 |some a=>cases b with
  |none=>exact(CB.r (e:=e) a).trans (by simp)
  |some b=>exact(BA.eq (e:=e) a b).trans (by simp),λa=>by
 cases a with
 |none=>show Bc .non<=n+1;simp[Bc]
 |some a=>exact Nat.le_succ_of_le (BA.dp (e:=e) a)⟩
end
section
variable{fs:Ev->Y (O Bx)}{e:α->Dt}{e':β->Dt}
def C9[DecidableEq α][BA e n](hn:n<=100)(a:R fa ρ (zE e))(b:R fb ρ (zE e)):R (b2 C0 fa fb) ρ (zE eB):=⟨decide (a.v=b.v),bx a.D b.D,λh=>by
 obtain⟨h1,h2⟩:=aB h;have:=BA.dp (e:=e) a.v;simp only[b2,a.ok h1,b.ok h2,B1,C0,uT,toD,zI,or_self,ZY,BA.eq];rw[zr ()]⟩
def Rs[DecidableEq α][BA e n](hn:n<=100)(a:R fa ρ (zE e))(b:R fb ρ (zE e)):R (b2 Zg fa fb) ρ (zE eB):=⟨!decide (a.v=b.v),bx a.D b.D,λh=>by
 obtain⟨h1,h2⟩:=aB h;have:=BA.dp (e:=e) a.v;simp only[b2,a.ok h1,b.ok h2,B1,Zg,uT,toD,zI,or_self,ZY,BA.eq];rw[zr ()]⟩
theorem qb{b:Bx}(h:nO b=Z ds):toD b=.lst ds/\uT b=false:=by
 cases b with
 |z d=>cases d<;>cases h;exact⟨rfl,rfl⟩
 |l d=>cases h;exact⟨rfl,rfl⟩
 |o d=>cases h;exact⟨rfl,rfl⟩
 |n d=>cases h
 |m d _=>cases h
def Wm[DecidableEq α][BA e n](hn:n+1<=100)(a:RL fa ρ e)(b:RL fb ρ e):R (b2 C0 fa fb) ρ (zE eB):=⟨decide (a.v=b.v),bx a.D b.D,λh=>by
 obtain⟨h1,h2⟩:=aB h;have:=BA.dp (e:=eL e) a.v;simp only[b2,a.ok h1,b.ok h2,B1,C0,(qb a.lk).1,(qb a.lk).2,(qb b.lk).1,(qb b.lk).2,zI,or_self,ZY];have e1:=BA.eq (e:=eL e) a.v b.v;rw[zr (zD (Nat.min_le_left _ _) (zD (BA.dp (e:=eL e) a.v) hn)),e1,B1]⟩
def SE[DecidableEq α][BA e n](hn:n+1<=100)(a:RL fa ρ e)(b:RL fb ρ e):R (b2 Zg fa fb) ρ (zE eB):=⟨!decide (a.v=b.v),bx a.D b.D,λh=>by
 obtain⟨h1,h2⟩:=aB h;simp only[b2,a.ok h1,b.ok h2,B1,Zg,(qb a.lk).1,(qb a.lk).2,(qb b.lk).1,(qb b.lk).2,zI,or_self,ZY];have e1:=BA.eq (e:=eL e) a.v b.v;rw[zr (zD (Nat.min_le_left _ _) (zD (BA.dp (e:=eL e) a.v) hn)),e1,B1]⟩
def ZK(a:R fa ρ (zE (eO e)))(hn:∀x,OJ (.z (e x))=false):R (b2 LQ fa (cB .non)) ρ (zE eB):=⟨a.v.isSome,a.D,λh=>by
 simp only[b2,a.ok h,B1,cB,LQ];cases b:a.v with
 |none=>rfl
 |some x=>simp only[bu,hn,k7]⟩
def FH(a:R fa ρ (zE eB)):R (tV fa) ρ tE:=⟨a.v,a.D,λh=>by simp only[tV,a.ok h,B1,Vq]⟩
def Sj(a:RL fa ρ e):R (tV fa) ρ tE:=⟨!a.v.isEmpty,a.D,λh=>by
 have:Vq a.b=Z (!(a.v.map e).isEmpty):=by
  have:=a.lk;generalize a.v.map e=ds at this
  revert this
  generalize a.b=b;intro this;cases b with
  |z d=>cases d<;>cases this;rfl
  |l d=>cases this;rfl
  |o d=>cases this;rfl
  |n d=>cases this
  |m d _=>cases this
 simp only[tV,a.ok h,B1,this,cf]⟩
def pC{g:Bx->Bx->Y Bx}(a:R (b2 g fa fb) ρ (zE eB)):R (G4 g fa fb) ρ tE:=⟨a.v,a.D,λh=>by simp only[G4,a.ok h,B1,Vm]⟩
def IQ(a:R p ρ tE)(b:R q ρ tE):R (D7 p q) ρ tE:=⟨a.v||b.v,bx a.D (Mq (a.v=false) b.D),λh=>by
 obtain⟨h1,h2⟩:=aB h;simp only[D7,a.ok h1,B1];cases c:a.v with
 |true=>simp only[qk,Bool.true_or]
 |false=>simp only[zI,ZY,bv];exact b.ok (q8 h2 c)⟩
def Wn(a:R p ρ tE):R (Sw p) ρ tE:=⟨!a.v,a.D,λh=>by simp only[Sw,a.ok h,B1]⟩
end
section
variable{ε:Type}{fd:Ev->Y Bx}{fs:Ev->Y (O Bx)}{e:α->Dt}{e':β->Dt}{e'':γ->Dt}{e3:δ->Dt}
def jR(a:R fa ρ (zE e))(b:R fb ρ (zE e')):R (bY jr (ao fa (ao fb aG))) ρ (zE (Dv e e')):=⟨(a.v,b.v),bx a.D b.D,λh=>by
 obtain⟨h1,h2⟩:=aB h;simp only[bY,ao,aG,a.ok h1,b.ok h2,B1];rfl⟩
def Pa(a:R fa ρ (zE e))(b:R fb ρ (zE e'))(c:R fc ρ (zE e'')):R (bY jr (ao fa (ao fb (ao fc aG)))) ρ (zE (DD e e' e'')):=⟨(a.v,b.v,c.v),bx a.D (bx b.D c.D),λh=>by
 obtain⟨h1,h⟩:=aB h;obtain⟨h2,d⟩:=aB h;simp only[bY,ao,aG,a.ok h1,b.ok h2,c.ok d,B1];rfl⟩
def d7(e:α->Dt):R aG ρ (λxs:O α=>xs.map (zE e)):=⟨[],U,λ_=>S⟩
def aR(a:R fa ρ (zE e))(t:R fs ρ (λxs:O α=>xs.map (zE e))):R (ao fa fs) ρ (λxs:O α=>xs.map (zE e)):=⟨a.v::t.v,bx a.D t.D,λh=>by
 obtain⟨h1,h2⟩:=aB h;simp only[ao,a.ok h1,t.ok h2,B1,zk]⟩
theorem EY:∀xs:O α,JC (xs.map (zE e))=Z (xs.map e)
 |[]=>rfl
 |x::xs=>by simp only[zk,JC,EY xs,B1]
def lK(t:R fs ρ (λxs:O α=>xs.map (zE e)))(a:t.v.length<=1000):R (bY kJ fs) ρ (oE e):=⟨t.v,t.D,λh=>by
 simp only[bY,t.ok h,B1,kJ,zi,zr a,EY]⟩
def J3(t:R fs ρ (λxs:O α=>xs.map (zE e)))(a:t.v.length<=1000):R (bY jr fs) ρ (zE (eT e)):=⟨t.v,t.D,λh=>by
 simp only[bY,t.ok h,B1,jr,zi,zr a,EY]⟩
def Ap[Inhabited α](xs:O α)(i:Int):α:=(GJ xs i).getD default
def In(n:Nat)(i:Int):Prop:=-(n:Int)<=i/\i<n
theorem J4{xs:O α}{i:Int}(h:In xs.length i):∃x,GJ xs i=Z x:=by
 obtain⟨h1,h2⟩:=h;unfold GJ D9;by_cases a:0<=i
 ·rw[zr a,zr h2];exact⟨xs[i.toNat]'(),qi ()⟩
 ·rw[zS a,zr h1];exact⟨xs[(i+xs.length).toNat]'(),qi ()⟩
theorem SR{xs:O α}{i:Int}{x:α}(h:GJ xs i=Z x):GJ (xs.map e) i=Z (e x):=by
 unfold GJ at h ⊢;rw[zi];obtain⟨j,a,h⟩:=AT h;rw[a,B1,ZI,h];rfl
theorem Wo[Inhabited α]{xs:O α}{i:Int}(h:In xs.length i):GJ (xs.map e) i=Z (e (Ap xs i)):=by
 obtain⟨x,hx⟩:=J4 h;rw[SR hx];unfold Ap;rw[hx];rfl
theorem ZL{b:Bx}{i:Int}(h:nO b=Z ds):gH b (.z (.int i))=(GJ ds i).bind λd=>Z (.z d):=by
 cases b with
 |z d=>cases d<;>cases h;rfl
 |l d=>cases h;rfl
 |o d=>cases h;rfl
 |n d=>cases h
 |m d _=>cases h
def kY[Inhabited α](a:RL fa ρ e)(b:R fb ρ (zE eI)):R (b2 gH fa fb) ρ (zE e):=⟨Ap a.v b.v,bx (bx a.D b.D) (Z (In a.v.length b.v)),λh=>by
 obtain⟨h,c⟩:=aB h;obtain⟨h1,h2⟩:=aB h;simp only[b2,a.ok h1,b.ok h2,B1,ZL a.lk,Wo (show In a.v.length b.v from c)]⟩
def MC[Inhabited α](a:R fa ρ (zE (eT e)))(b:R fb ρ (zE eI)):R (b2 gH fa fb) ρ (zE e):=⟨Ap a.v b.v,bx (bx a.D b.D) (Z (In a.v.length b.v)),λh=>by
 obtain⟨h,c⟩:=aB h;obtain⟨h1,h2⟩:=aB h;simp only[b2,a.ok h1,b.ok h2,B1,gH,G3,Wo (show In a.v.length b.v from c)]⟩
def ch(x:AJ)(i:Int):AJ:=⟨#[(GJ x.cps.toList i).getD 0]⟩
def Ir(a:R fa ρ (zE eS))(b:R fb ρ (zE eI)):R (b2 gH fa fb) ρ (zE eS):=⟨ch a.v b.v,bx (bx a.D b.D) (Z (In a.v.length b.v)),λh=>by
 obtain⟨h,c⟩:=aB h;obtain⟨h1,h2⟩:=aB h;obtain⟨x,hx⟩:=J4 (xs:=a.v.cps.toList) (i:=b.v) (show In a.v.length b.v from c);simp only[b2,a.ok h1,b.ok h2,B1,gH,hx,ch,Option.getD_some]⟩
def qd(a:R fa ρ (zE e))(g:α->β)(e':β->Dt)(i:Int)(h:∀x,gH (.z (e x)) (.z (.int i))=Z (.z (e' (g x)))):R (b2 gH fa (cB (.int i))) ρ (zE e'):=⟨g a.v,a.D,λhd=>by
 simp only[b2,a.ok hd,B1,cB,h]⟩
def Bn(xs:O α)(lo hi:Y Int):O α:=(xs.drop (HT.gK xs.length 0 lo)).take (HT.gK xs.length xs.length hi-HT.gK xs.length 0 lo)
theorem ZM(xs:O α)(lo hi:Y Int):By (xs.map e) lo hi=(Bn xs lo hi).map e:=by
 unfold By Bn;rw[zi,List.map_take,List.map_drop]
abbrev pE:Y Int->Y Int:=λo=>o
def ZP:R Bg ρ pE:=⟨U,U,λ_=>S⟩
def Tr(a:R fa ρ (zE eI)):R (uU fa) ρ pE:=⟨Z a.v,a.D,λh=>by simp only[uU,a.ok h,B1,F']⟩
variable{fl fh:Ev->Y (Y Int)}
theorem ZQ{b:Bx}(h:nO b=Z ds):DS b lo hi=Z (.o (By ds lo hi)):=by
 cases b with
 |z d=>cases d<;>cases h;rfl
 |l d=>cases h;rfl
 |o d=>cases h;rfl
 |n d=>cases h
 |m d _=>cases h
def FG(a:RL fa ρ e)(l:R fl ρ pE)(u:R fh ρ pE):R (VP fa fl fh) ρ (oE e):=⟨Bn a.v l.v u.v,bx a.D (bx l.D u.D),λh=>by
 obtain⟨h1,h⟩:=aB h;obtain⟨h2,b⟩:=aB h;simp only[VP,a.ok h1,l.ok h2,u.ok b,B1,ZQ a.lk,ZM]⟩
def HZ(a:R fa ρ (zE eS))(l:R fl ρ pE)(u:R fh ρ pE):R (VP fa fl fh) ρ (zE eS):=⟨Txt.slice a.v l.v u.v,bx a.D (bx l.D u.D),λh=>by
 obtain⟨h1,h⟩:=aB h;obtain⟨h2,b⟩:=aB h;simp only[VP,a.ok h1,l.ok h2,u.ok b,B1,DS]⟩
def KL(a:R fa ρ (zE (eT e))):R (b2 Tc fa (b1 CZ (cB (.int 1)))) ρ (zE (eT e)):=⟨a.v.reverse,a.D,λh=>by
 simp only[b2,b1,a.ok h,B1,cB,CZ,Tc,qk,zE,eT,kH]⟩
def K1(n:Nat):Prop:=n<=1000000
def Fe(a:R fa ρ (zE eS))(b:R fb ρ (zE eS)):R (b2 jG fa fb) ρ (zE eS):=⟨a.v++b.v,bx (bx a.D b.D) (Z (K1 (a.v.length+b.v.length))),λh=>by
 obtain⟨h,c⟩:=aB h;obtain⟨h1,h2⟩:=aB h;simp only[b2,a.ok h1,b.ok h2,B1,jG,zr (show a.v.length+b.v.length<=S5 from c)]⟩
theorem Wq{b e:Bx}{f:O Dt}(h:nO b=Z ds)(h':nO e=Z f)(c:ds.length+f.length<=S5):jG b e=Z (.o (ds++f)):=by
 cases b with
 |z d=>
  cases d<;>cases h;cases e with
  |z a=>cases a<;>cases h';exact zr c
  |l a=>cases h';exact zr c
  |o a=>cases h';exact zr c
  |n a=>cases h'
  |m a=>cases h'
 |l d=>
  cases h;cases e with
  |z a=>cases a<;>cases h';exact zr c
  |l a=>cases h';exact zr c
  |o a=>cases h';exact zr c
  |n a=>cases h'
  |m a=>cases h'
 |o d=>
  cases h;cases e with
  |z a=>cases a<;>cases h';exact zr c
  |l a=>cases h';exact zr c
  |o a=>cases h';exact zr c
  |n a=>cases h'
  |m a=>cases h'
 |n d=>cases h
 |m d _=>cases h
def L0(a:RL fa ρ e)(b:RL fb ρ e):R (b2 jG fa fb) ρ (oE e):=⟨a.v++b.v,bx (bx a.D b.D) (Z (K1 (a.v.length+b.v.length))),λh=>by
 obtain⟨h,c⟩:=aB h;obtain⟨h1,h2⟩:=aB h;simp only[b2,a.ok h1,b.ok h2,B1];rw[Wq a.lk b.lk (by rw[zi,zi];exact c)];simp only[oE,ZZ]⟩
def OF(a:R fa ρ (zE eS))(b:R fb ρ (zE eI)):R (b2 xQ fa fb) ρ (zE eS):=⟨Txt.mul a.v b.v,bx (bx a.D b.D) (Z (b.v<=1000 ∧ -1000<=b.v/\a.v.length<=1000)),λh=>by
 obtain⟨h,c⟩:=aB h;obtain⟨h1,h2⟩:=aB h;simp only[b2,a.ok h1,b.ok h2,B1];exact zr c⟩
theorem Wr{b:Bx}(h:nO b=Z ds):uV [b]=Z (.z (.int ds.length)):=by
 cases b with
 |z d=>cases d<;>cases h;rfl
 |l d=>cases h;rfl
 |o d=>cases h;rfl
 |n d=>cases h
 |m d _=>cases h
theorem Ws{b:Bx}(h:nO b=Z ds):G3 b=Z ds:=by
 cases b with
 |z d=>cases d<;>cases h;rfl
 |l d=>cases h;rfl
 |o d=>cases h;rfl
 |n d=>cases h
 |m d _=>cases h
def Bi(a:RL fa ρ e):R (bY uV (ao fa aG)) ρ (zE eI):=⟨(a.v.length:Int),a.D,λh=>by
 simp only[bY,ao,aG,a.ok h,B1,Wr a.lk,zi]⟩
def Pb(a:R fa ρ (zE eS)):R (bY uV (ao fa aG)) ρ (zE eI):=⟨(a.v.length:Int),a.D,λh=>by
 simp only[bY,ao,aG,a.ok h,B1,uV]⟩
def fJ(a:RL fa ρ e):R (bY cN (ao fa aG)) ρ (zE (eT e)):=⟨a.v,a.D,λh=>by
 simp only[bY,ao,aG,a.ok h,B1,cN,Ws a.lk]⟩
def LS(a:R fa ρ (zE eI)):R (bY S9 (ao fa aG)) ρ (zE eI):=⟨if a.v<0 then -a.v else a.v,a.D,λh=>by
 simp only[bY,ao,aG,a.ok h,B1,S9]⟩
def Mo(a:R fa ρ (zE eB)):R (bY VR (ao fa aG)) ρ (zE eI):=⟨if a.v=true then 1 else 0,a.D,λh=>by
 simp only[bY,ao,aG,a.ok h,B1,VR]⟩
theorem BV:∀l:AZ,qY (l.map eS)=Z l
 |[]=>rfl
 |a::l=>by simp only[zk,qY,BV l,B1]
def Wt(s:AJ)(a:RL fa ρ eS):R (b1 (Ep s) fa) ρ (zE eS):=⟨Txt.join s a.v,bx a.D (Z ((a.v.map (·.length)).sum+a.v.length*s.length<=100000)),λh=>by
 obtain⟨h,b⟩:=aB h;simp only[b1,a.ok h,B1,Ep,a.lk,BV];exact zr b⟩
def Dw(a:RL fa ρ eS):R (bY zV (ao fa aG)) ρ (oE eS):=⟨jY a.v,bx a.D (Z (a.v.length<64)),λh=>by
 obtain⟨h,b⟩:=aB h;simp only[bY,ao,aG,a.ok h,B1,zV,a.lk,BV];exact zr b⟩
class C3 {α:Type} (e:α->Dt):Prop where
 f:∀a,zN (e a)=true
instance:C3 eI:=⟨λ_=>rfl⟩
instance:C3 eB:=⟨λ_=>rfl⟩
instance:C3 eS:=⟨λ_=>rfl⟩
theorem Wu[DecidableEq α][BA e n][C3 e](x:α)(ys:O α):CF (e x) (ys.map e)=Z (decide (x∈ys)):=by
 unfold CF;rw[zr ⟨C3.f x,by rw[List.all_map];exact List.all_eq_true.mpr λy _=>C3.f y⟩,List.any_map];congr 1;rw[cr,KB,decide_eq_true_iff];constructor
 ·rintro⟨y,a,h⟩;simp only[Function.comp,BA.eq]at h;by_cases e1:y=x
  ·rw[<-e1];exact a
  ·simp only[e1,JS]at h;cases h
 ·intro h;exact⟨x,h,by simp only[Function.comp,BA.eq,kR]⟩
theorem ZR{b:Bx}(h:nO b=Z ds):EE (.z d) b=CF d ds:=by
 cases b with
 |z a=>cases a<;>cases h;cases d<;>rfl
 |l a=>cases h;cases d<;>rfl
 |o a=>cases h;cases d<;>rfl
 |n a=>cases h
 |m a=>cases h
def Pt[DecidableEq α][BA e n][C3 e](a:R fa ρ (zE e))(b:RL fb ρ e):R (b2 inF fa fb) ρ (zE eB):=⟨decide (a.v∈b.v),bx a.D b.D,λh=>by
 obtain⟨h1,h2⟩:=aB h;simp only[b2,a.ok h1,b.ok h2,B1,inF,ZR b.lk,Wu]⟩
end
structure AR {γ:Type} (cA:γ->List Bx->Prop) (fs:Ev->Option (List Bx)) (ρ:Ev) where
 v:γ
 D:Option Prop
 bs:List Bx
 h:cA v bs
 ok:B4 D->fs ρ=some bs
section
variable{ε σ:Type}{fd:Ev->Y Bx}{fs:Ev->Y (O Bx)}{e:α->Dt}{e':β->Dt}{e'':γ->Dt}{e3:δ->Dt}
def aN:Unit->O Bx->Prop:=λ_ bs=>bs=[]
def aZ(e:α->Dt)(t:γ->O Bx->Prop):α×γ->O Bx->Prop:=λx bs=>∃r,bs=.z (e x.1)::r/\t x.2 r
def aL(e:α->Dt)(t:γ->O Bx->Prop):O α×γ->O Bx->Prop:=λx bs=>∃b r,bs=b::r/\nO b=Z (x.1.map e)/\t x.2 r
def cD:AR aN aG ρ:=⟨ej,U,[],rfl,λ_=>S⟩
def cJ{t:γ->O Bx->Prop}(a:R fa ρ (zE e))(r:AR t fs ρ):AR (aZ e t) (ao fa fs) ρ:=⟨(a.v,r.v),bx a.D r.D,_,⟨_,rfl,r.h⟩,λh=>by
 obtain⟨h1,h2⟩:=aB h;simp only[ao,a.ok h1,r.ok h2,B1]⟩
def Bl{t:γ->O Bx->Prop}(a:RL fa ρ e)(r:AR t fs ρ):AR (aL e t) (ao fa fs) ρ:=⟨(a.v,r.v),bx a.D r.D,_,⟨_,_,rfl,a.lk,r.h⟩,λh=>by
 obtain⟨h1,h2⟩:=aB h;simp only[ao,a.ok h1,r.ok h2,B1]⟩
def Au{d:γ->O Bx->Prop}{c:α->Bx}{T:γ->α}{b:γ->Y Prop}(S:∀v bs,d v bs->bs.length=n/\(B4 (b v)->F (bs.map lend)=Z (c (T v))))(a:AR d fs ρ):R (bQ n F fs) ρ c:=⟨T a.v,bx a.D (b a.v),λh=>by
 obtain⟨h1,h2⟩:=aB h;obtain⟨f,e⟩:=S a.v a.bs a.h;simp only[bQ,a.ok h1,B1,zr f,e h2]⟩
theorem Pe{bs:O Bx}{c:α->Bx}(x:R g (bs.map Z++aa (n-bs.length) U) (λr=>An.rt (c r)))(h:B4 x.D):dH n g bs=Z (c x.v):=by
 unfold dH;rw[x.ok h];rfl
def K0(xs:O α)(P:α->Y Prop):Y Prop:=Z (∀x∈xs,B4 (P x))
theorem Mr{fs:Ev->Y (O Dt)}{c:Ev}{g:α->O Dt}{π:α->Bool}:∀xs:O α,(∀x∈xs,∃a,gt (e x) c=Z a/\p a=Z (π x)/\(π x=true->fs a=Z (g x)))->CW gt p fs c (xs.map e)=Z ((xs.filter π).flatMap g)
 |[],_=>rfl
 |x::xs,h=>by
  obtain⟨a,h1,h2,f⟩:=h x (ze ..);have b:=Mr (g:=g) (π:=π) xs λy d=>h y (zh _ d);cases hp:π x with
  |true=>simp only[zk,CW,h1,B1,h2,hp,qk,f hp,b,kM,ja]
  |false=>simp only[zk,CW,h1,B1,h2,hp,b,kM,zI,ZY]
theorem mQ{g:α->β}:∀xs:O α,xs.flatMap (λx=>[e' (g x)])=(xs.map g).map e'
 |[]=>rfl
 |x::xs=>by rw[ja,mQ xs];rfl
theorem Fg{b:Ev}{g:α->β}{π:α->Bool}(xs:O α)(h:∀x∈xs,∃a,gt (e x) b=Z a/\p a=Z (π x)/\(π x=true->fe a=Z (.z (e' (g x))))):HW gt p fe b (xs.map e)=Z (((xs.filter π).map g).map e'):=by
 rw[<-mQ];exact Mr xs λx hx=>let ⟨a,h1,h2,h3⟩:=h x hx;⟨a,h1,h2,λhp=>by rw[h3 hp];rfl⟩
theorem C2{b:Ev}{g:α->β}(xs:O α)(h:∀x∈xs,∃a,gt (e x) b=Z a/\fe a=Z (.z (e' (g x)))):HW gt kW fe b (xs.map e)=Z ((xs.map g).map e'):=
 (Fg (π:=λ_=>true) xs λx hx=>let ⟨a,h1,h2⟩:=h x hx;⟨a,h1,rfl,λ_=>h2⟩).trans (by rw[List.filter_eq_self.mpr λ_ _=>S])
def pD(it:R fi ρ (iE e))(a:α->Ev)(d:∀x,gt (e x) (j7 is ρ++aa n U)=Z (a x))(b:∀x,R fe (a x) (zE e')):R (cg fi gt kW fe is n) ρ (oE e'):=⟨it.v.map λx=>(b x).v,bx (bx it.D (Z (it.v.length<=100000))) (K0 it.v λx=>(b x).D),λh=>by
 obtain⟨h,c⟩:=aB h;obtain⟨h1,h2⟩:=aB h;have c:∀x∈it.v,B4 (b x).D:=c;simp only[cg,it.ok h1,B1,zi,zr (show it.v.length<=100000 from h2),C2 it.v λx hx=>⟨a x,d x,(b x).ok (c x hx)⟩]⟩
def wW(it:R fi ρ (iE e))(a:α->Ev)(d:∀x,gt (e x) (j7 is ρ++aa n U)=Z (a x))(b:∀x,R fe (a x) (zE e'))(c:∀x,(b x).D=U):R (cg fi gt kW fe is n) ρ (oE e'):=⟨it.v.map λx=>(b x).v,bx it.D (Z (it.v.length<=100000)),λh=>by
 obtain⟨h1,h2⟩:=aB h;simp only[cg,it.ok h1,B1,zi,zr (show it.v.length<=100000 from h2),C2 it.v λx hx=>⟨a x,d x,(b x).ok (by rw[c x];trivial)⟩]⟩
def zY(it:R fi ρ (iE e))(a:α->Ev)(f:∀x,gt (e x) (j7 is ρ++aa n U)=Z (a x))(t:∀x,R p (a x) tE)(b:∀x,R fe (a x) (zE e')):R (cg fi gt p fe is n) ρ (oE e'):=⟨(it.v.filter λx=>(t x).v).map λx=>(b x).v,bx (bx it.D (Z (it.v.length<=100000))) (K0 it.v λx=>bx (t x).D (Mq ((t x).v=true) (b x).D)),λh=>by
 obtain⟨h,c⟩:=aB h;obtain⟨h1,h2⟩:=aB h;have c:∀x∈it.v,B4 (bx (t x).D (Mq ((t x).v=true) (b x).D)):=c;simp only[cg,it.ok h1,B1,zi,zr (show it.v.length<=100000 from h2),Fg it.v λx hx=>⟨a x,f x,(t x).ok (aB (c x hx)).1,λd=>(b x).ok (q8 (aB (c x hx)).2 d)⟩]⟩
def Wv(it:R fi ρ (iE e))(a:α->Ev)(d:∀x,gt (e x) (j7 is ρ++aa n U)=Z (a x))(t:∀x,R p (a x) tE)(b:∀x,R fe (a x) (zE e'))(c:∀x,(t x).D=U)(f:∀x,(b x).D=U):R (cg fi gt p fe is n) ρ (oE e'):=⟨(it.v.filter λx=>(t x).v).map λx=>(b x).v,bx it.D (Z (it.v.length<=100000)),λh=>by
 obtain⟨h1,h2⟩:=aB h;simp only[cg,it.ok h1,B1,zi,zr (show it.v.length<=100000 from h2),Fg it.v λx hx=>⟨a x,d x,(t x).ok (by rw[c x];trivial),λ_=>(b x).ok (by rw[f x];trivial)⟩]⟩
def Ms(a:RL fa ρ e):R (uE fa) ρ (iE e):=⟨a.v,a.D,λh=>by
 have:VB a.b=Z (a.v.map e):=by
  have:=a.lk
  revert this
  generalize a.b=b;generalize a.v.map e=ds;intro this;cases b with
  |z d=>cases d<;>cases this;rfl
  |l d=>cases this;rfl
  |o d=>cases this;rfl
  |n d=>cases this
  |m d _=>cases this
 simp only[uE,a.ok h,B1,this]⟩
def Dc(a:R fa ρ (zE (eT e))):R (uE fa) ρ (iE e):=⟨a.v,a.D,λh=>by simp only[uE,a.ok h,B1,VB]⟩
def BD(x:AJ):AZ:=x.cps.toList.map λc=>⟨#[c]⟩
theorem Ww(x:AJ):BQ x=(BD x).map eS:=by
 unfold BQ BD;rw[z4];rfl
def LF(a:R fa ρ (zE eS)):R (uE fa) ρ (iE eS):=⟨BD a.v,a.D,λh=>by simp only[uE,a.ok h,B1,VB,Ww]⟩
def Ff(a:R fa ρ (oE e)):R (Ye fa) ρ (iE e):=⟨a.v,a.D,λh=>by simp only[Ye,a.ok h,B1,Vu]⟩
def Sc(a:R fa ρ (zE (eT e))):R (Ye fa) ρ (iE e):=⟨a.v,a.D,λh=>by simp only[Ye,a.ok h,B1,Vu]⟩
def rng(i:Int)(n:Nat):O Int:=(ax n).map λk:Nat=>i+(k:Int)
theorem Q8(i:Int)(n:Nat):JG i n=(rng i n).map eI:=by
 unfold JG rng;rw[z4];rfl
def Rg(j:Int):Prop:=-4611686018427387904<=j/\j<4611686018427387904
def Cp(a:R fa ρ (zE eI)):R (KZ (ao fa aG)) ρ (iE eI):=⟨rng 0 a.v.toNat,bx a.D (Z (Rg a.v)),λh=>by
 obtain⟨h,b⟩:=aB h;simp only[KZ,ao,aG,a.ok h,B1];show(if -(2 ^ 62)<=a.v/\a.v<2 ^ 62 then Z (JG 0 a.v.toNat)else U)=_;exact(zr b).trans (by rw[Q8])⟩
def SZ(n:Int)(m:Nat)(a:n.toNat=m)(hn:Rg n):R (KZ (ao (cB (.int n)) aG)) ρ (iE eI):=⟨rng 0 m,U,λ_=>by
 simp only[KZ,ao,aG,B1,cB];show(if -(2 ^ 62)<=n/\n<2 ^ 62 then Z (JG 0 n.toNat)else U)=_;exact(zr hn).trans (by rw[Q8,a])⟩
end
section
variable{ε σ τ:Type}{fd:Ev->Y Bx}{fs:Ev->Y (O Bx)}{e:α->Dt}{e':β->Dt}{k:Ev->Y An}{cO:γ->An}
theorem nR{ρ':Ev}(h:g1 ρ=Z (.nx ρ')):aF g1 k ρ=k ρ':=by
 unfold aF;rw[h];rfl
def cX(x:R (aF g (aF g1 k)) ρ cO):R (aF (aF g g1) k) ρ cO:=⟨x.v,x.D,λh=>by
 rw[<-x.ok h];unfold aF;cases g ρ with
 |none=>rfl
 |some o=>cases o<;>rfl⟩
def eU(x:R k ρ cO):R (aF jl k) ρ cO:=⟨x.v,x.D,λh=>x.ok h⟩
def cP(x:γ)(h:cO x=.nx (kill is ρ)):R (fM is) ρ cO:=⟨x,U,λ_=>by rw[h];rfl⟩
def fG{c:α->Bx}(inj:α->γ)(a:R f ρ c)(h:∀x,cO (inj x)=.rt (c x))(b:∀x,Vt (c x)=Z (.rt (c x))):R (aF (gO f) k) ρ cO:=⟨inj a.v,a.D,λhd=>by
 have:gO f ρ=Z (.rt (c a.v)):=by unfold gO;rw[a.ok hd,B1,b]
 unfold aF;rw[this,h];rfl⟩
def Pg{c:α->Bx}(i:Nat)(inj:α->γ)(a:α)(hi:ρ[i]?=Z (Z (c a)))(h:∀x,cO (inj x)=.rt (c x))(b:∀x,Vt (c x)=Z (.rt (c x))):R (aF (GR i) k) ρ cO:=⟨inj a,U,λhd=>by
 have:GR i ρ=Z (.rt (c a)):=by unfold GR;rw[hi];exact b a
 unfold aF;rw[this,h];rfl⟩
def bM{c:α->Bx}(i:Nat)(a:R f ρ c)(b:∀x,Lj ρ i (c x)=Z (ρ.set i (Z (c x))))(K:∀x,R k (ρ.set i (Z (c x))) cO):R (aF (At i f) k) ρ cO:=⟨(K a.v).v,bx a.D (K a.v).D,λhd=>by
 obtain⟨h1,h2⟩:=aB hd;rw[nR (ρ':=ρ.set i (Z (c a.v))) (by unfold At;rw[a.ok h1,B1,b,B1])];exact(K a.v).ok h2⟩
def OZ(i j:Nat)(a:R fa ρ (zE e))(b:R fb ρ (zE e'))(K:∀x y,R k ((ρ.set i (Z (.z (e x)))).set j (Z (.z (e' y)))) cO):R (aF (Fn i j (ao fa (ao fb aG))) k) ρ cO:=⟨(K a.v b.v).v,bx (bx a.D b.D) (K a.v b.v).D,λhd=>by
 obtain⟨h1,c⟩:=aB hd;obtain⟨h1,h2⟩:=aB h1;rw[nR (ρ':=(ρ.set i (Z (.z (e a.v)))).set j (Z (.z (e' b.v)))) (by unfold Fn;simp only[ao,aG,a.ok h1,b.ok h2,B1,Y8])];exact(K a.v b.v).ok c⟩
def Cq(i:Nat)(xs:O α)(hi:ρ[i]?=Z (Z (.o (xs.map e))))(a:R f ρ (zE e))(K:∀ys:O α,R k (ρ.set i (Z (.o (ys.map e)))) cO):R (aF (G5 i f) k) ρ cO:=⟨(K (xs++[a.v])).v,bx (bx a.D (Z (K1 xs.length))) (K (xs++[a.v])).D,λhd=>by
 obtain⟨h1,b⟩:=aB hd;obtain⟨h1,h2⟩:=aB h1;have h2:xs.length<=1000000:=h2;rw[nR (ρ':=ρ.set i (Z (.o ((xs++[a.v]).map e)))) (by
  unfold G5;rw[a.ok h1,B1];simp only[Y9,hi,zi,ZZ,zk,JU];rw[zr (Nat.lt_of_le_of_lt h2 ())])]
 exact(K _).ok b⟩
def Fi(t:R p ρ tE)(a:R (aF g1 k) ρ cO)(b:R (aF g2 k) ρ cO):R (aF (KR p g1 g2) k) ρ cO:=⟨if t.v=true then a.v else b.v,bx t.D (bx (Mq (t.v=true) a.D) (Mq (t.v=false) b.D)),λhd=>by
 obtain⟨h1,h2⟩:=aB hd;obtain⟨h2,f⟩:=aB h2;have e1:∀c,t.v=c->aF (KR p g1 g2) k ρ=aF (if c=true then g1 else g2) k ρ:=λc e=>by
  unfold aF KR;rw[t.ok h1,B1,e];cases c<;>rfl
 cases d:t.v with
 |true=>rw[e1 true d];simp only[qk];exact a.ok (q8 h2 d)
 |false=>rw[e1 false d];simp only[zI,ZY];exact b.ok (q8 f d)⟩
def Q9(E:σ->Ev)(t:R p ρ tE)(a:R g1 ρ (λs=>An.nx (E s)))(b:R g2 ρ (λs=>An.nx (E s)))(K:∀s,R k (E s) cO):R (aF (KR p g1 g2) k) ρ cO:=⟨(K (if t.v=true then a.v else b.v)).v,bx (bx t.D (bx (Mq (t.v=true) a.D) (Mq (t.v=false) b.D))) (K (if t.v=true then a.v else b.v)).D,λhd=>by
 obtain⟨h,d⟩:=aB hd;obtain⟨h1,h2⟩:=aB h;obtain⟨h2,e⟩:=aB h2;rw[nR (ρ':=E (if t.v=true then a.v else b.v)) (by
  unfold KR;rw[t.ok h1,B1];cases c:t.v with
  |true=>simp only[qk];exact a.ok (q8 h2 c)
  |false=>simp only[zI,ZY];exact b.ok (q8 e c))]
 exact(K _).ok d⟩
def sJ(step:σ->α->σ)(P:σ->α->Y Prop):O α->σ->Prop
 |[],_=>True
 |x::xs,s=>B4 (P s x)/\sJ step P xs (step s x)
theorem zZ{gb:Ev->Y An}(E:σ->Ev)(a:σ->α->Ev)(b:∀s x,gt (e x) (E s)=Z (a s x))(body:∀s x,R gb (a s x) (λs=>An.nx (E s))):∀(xs:O α) (s:σ),sJ (λs x=>(body s x).v) (λs x=>(body s x).D) xs s->sy gt gb (xs.map e) (E s)=Z (.nx (E (xs.foldl (λs x=>(body s x).v) s)))
 |[],s,_=>rfl
 |x::xs,s,h=>by
  simp only[zk,sy,b,B1,(body s x).ok h.1,ki];exact zZ E a b body xs _ h.2
def Cr(E:σ->Ev)(a:σ)(d:ρ=E a)(it:R fi ρ (iE e))(b:σ->α->Ev)(f:∀s x,gt (e x) (E s)=Z (b s x))(body:∀s x,R gb (b s x) (λs=>An.nx (E s)))(K:∀s,R k (E s) cO):R (aF (oA fi gt gb) k) ρ cO:=⟨(K (it.v.foldl (λs x=>(body s x).v) a)).v,bx (bx it.D (Z (sJ (λs x=>(body s x).v) (λs x=>(body s x).D) it.v a))) (K (it.v.foldl (λs x=>(body s x).v) a)).D,λhd=>by
 obtain⟨h,c⟩:=aB hd;obtain⟨h1,h2⟩:=aB h;rw[nR (ρ':=E (it.v.foldl (λs x=>(body s x).v) a)) (by
  unfold oA;rw[it.ok h1,B1];subst d;exact zZ E b f body it.v a h2)]
 exact(K _).ok c⟩
def MW(E:σ->Ev)(a:σ)(g:ρ=E a)(it:R fi ρ (iE e))(b:σ->α->Ev)(h:∀s x,gt (e x) (E s)=Z (b s x))(body:∀s x,R gb (b s x) (λs=>An.nx (E s)))(d:∀s x,(body s x).D=U)(K:∀s,R k (E s) cO):R (aF (oA fi gt gb) k) ρ cO:=⟨(K (it.v.foldl (λs x=>(body s x).v) a)).v,bx it.D (K (it.v.foldl (λs x=>(body s x).v) a)).D,λhd=>by
 obtain⟨h1,f⟩:=aB hd;have h2:∀(xs:O α) (s:σ),sJ (λs x=>(body s x).v) (λs x=>(body s x).D) xs s:=λxs=>by
  induction xs with
  |nil=>intro s;trivial
  |cons x xs c=>intro s;exact⟨by show B4 (body s x).D;rw[d s x];trivial,c _⟩
 rw[nR (ρ':=E (it.v.foldl (λs x=>(body s x).v) a)) (by
  unfold oA;rw[it.ok h1,B1];subst g;exact zZ E b h body it.v a (h2 _ _))]
 exact(K _).ok f⟩
inductive wX (σ τ:Type) where
 |nx (s:σ)|rt (r:τ)|bk (s:σ)|ct (s:σ)
def cC(E:σ->Ev)(c:τ->Bx):wX σ τ->An
 |.nx s=>.nx (E s)
 |.rt r=>.rt (c r)
 |.bk s=>.bk (E s)
 |.ct s=>.ct (E s)
def mR(step:σ->α->wX σ τ):O α->σ->wX σ τ
 |[],s=>.nx s
 |x::xs,s=>match step s x with
  |.nx s'=>mR step xs s'
  |.ct s'=>mR step xs s'
  |.bk s'=>.nx s'
  |.rt r=>.rt r
def uZ(step:σ->α->wX σ τ)(P:σ->α->Y Prop):O α->σ->Prop
 |[],_=>True
 |x::xs,s=>B4 (P s x)/\match step s x with
  |.nx s'=>uZ step P xs s'
  |.ct s'=>uZ step P xs s'
  |.bk _=>True
  |.rt _=>True
theorem Dy{c:τ->Bx}(E:σ->Ev)(a:σ->α->Ev)(b:∀s x,gt (e x) (E s)=Z (a s x))(body:∀s x,R gb (a s x) (cC E c)):∀(xs:O α) (s:σ),uZ (λs x=>(body s x).v) (λs x=>(body s x).D) xs s->sy gt gb (xs.map e) (E s)=Z (cC E c (mR (λs x=>(body s x).v) xs s))
 |[],s,_=>rfl
 |x::xs,s,h=>by
  obtain⟨h1,h2⟩:=h;dsimp only at h2;simp only[zk,sy,b,B1,(body s x).ok h1,mR]
  revert h2
  cases(body s x).v with
  |nx s'=>intro h2;exact Dy E a b body xs s' h2
  |ct s'=>intro h2;exact Dy E a b body xs s' h2
  |bk s'=>intro _;rfl
  |rt r=>intro _;rfl
theorem z6(step:σ->α->wX σ τ):∀(xs:O α) (s:σ),(∃s',mR step xs s=.nx s')\/∃r,mR step xs s=.rt r
 |[],s=>.inl ⟨s,rfl⟩
 |x::xs,s=>by
  unfold mR;cases step s x with
  |nx s'=>exact z6 step xs s'
  |ct s'=>exact z6 step xs s'
  |bk s'=>exact .inl ⟨s',rfl⟩
  |rt r=>exact .inr ⟨r,rfl⟩
def BY(r:wX σ τ)(inj:τ->γ)(K:σ->γ):γ:=match r with
 |.rt r=>inj r
 |.nx s=>K s
 |.bk s=>K s
 |.ct s=>K s
def Dz(r:wX σ τ)(K:σ->Prop):Prop:=match r with
 |.rt _=>True
 |.nx s=>K s
 |.bk s=>K s
 |.ct s=>K s
def Ra(r:wX σ τ)(K:σ->Y Prop):Y Prop:=Z (Dz r λs=>B4 (K s))
def Wx{c:τ->Bx}(E:σ->Ev)(a:σ)(g:ρ=E a)(it:R fi ρ (iE e))(b:σ->α->Ev)(i:∀s x,gt (e x) (E s)=Z (b s x))(body:∀s x,R gb (b s x) (cC E c))(inj:τ->γ)(f:∀r,cO (inj r)=.rt (c r))(K:∀s,R k (E s) cO):R (aF (oA fi gt gb) k) ρ cO:=⟨BY (mR (λs x=>(body s x).v) it.v a) inj λs=>(K s).v,bx (bx it.D (Z (uZ (λs x=>(body s x).v) (λs x=>(body s x).D) it.v a))) (Ra (mR (λs x=>(body s x).v) it.v a) λs=>(K s).D),λhd=>by
 obtain⟨h,d⟩:=aB hd;obtain⟨h1,h2⟩:=aB h;have e1:oA fi gt gb ρ=Z (cC E c (mR (λs x=>(body s x).v) it.v a)):=by
  unfold oA;rw[it.ok h1,B1];subst g;exact Dy E b i body it.v a h2
 rcases z6 (λs x=>(body s x).v) it.v a with⟨s',es⟩|⟨r,es⟩
 ·rw[es]at e1 d ⊢;rw[nR e1];exact(K s').ok d
 ·rw[es]at e1 ⊢;show aF (oA fi gt gb) k ρ=Z (cO (inj r));unfold aF;rw[e1,f];rfl⟩
theorem NS(h:ρ[i]?=Z (Z (.o ds))):uP i gt gb ρ=sy gt gb ds (ρ.set i (Z (.l ds))):=by unfold uP;rw[h]
theorem Wy(h:ρ[i]?=Z (Z (.z (.tup ds)))):uP i gt gb ρ=sy gt gb ds ρ:=by unfold uP;rw[h];rfl
def Wz(i:Nat){ρ':Ev}(xs:O α)(f:uP i gt gb ρ=sy gt gb (xs.map e) ρ')(E:σ->Ev)(a:σ)(d:ρ'=E a)(b:σ->α->Ev)(g:∀s x,gt (e x) (E s)=Z (b s x))(body:∀s x,R gb (b s x) (λs=>An.nx (E s)))(K:∀s,R k (E s) cO):R (aF (uP i gt gb) k) ρ cO:=⟨(K (xs.foldl (λs x=>(body s x).v) a)).v,bx (Z (sJ (λs x=>(body s x).v) (λs x=>(body s x).D) xs a)) (K (xs.foldl (λs x=>(body s x).v) a)).D,λhd=>by
 obtain⟨h2,c⟩:=aB hd;rw[nR (ρ':=E (xs.foldl (λs x=>(body s x).v) a)) (by
  rw[f,d];exact zZ E b g body xs a h2)]
 exact(K _).ok c⟩
def ZS{c:τ->Bx}(i:Nat){ρ':Ev}(xs:O α)(h:uP i gt gb ρ=sy gt gb (xs.map e) ρ')(E:σ->Ev)(a:σ)(g:ρ'=E a)(b:σ->α->Ev)(j:∀s x,gt (e x) (E s)=Z (b s x))(body:∀s x,R gb (b s x) (cC E c))(inj:τ->γ)(f:∀r,cO (inj r)=.rt (c r))(K:∀s,R k (E s) cO):R (aF (uP i gt gb) k) ρ cO:=⟨BY (mR (λs x=>(body s x).v) xs a) inj λs=>(K s).v,bx (Z (uZ (λs x=>(body s x).v) (λs x=>(body s x).D) xs a)) (Ra (mR (λs x=>(body s x).v) xs a) λs=>(K s).D),λhd=>by
 obtain⟨h2,d⟩:=aB hd;have e1:uP i gt gb ρ=Z (cC E c (mR (λs x=>(body s x).v) xs a)):=by
  rw[h,g];exact Dy E b j body xs a h2
 rcases z6 (λs x=>(body s x).v) xs a with⟨s',es⟩|⟨r,es⟩
 ·rw[es]at e1 d ⊢;rw[nR e1];exact(K s').ok d
 ·rw[es]at e1 ⊢;show aF (uP i gt gb) k ρ=Z (cO (inj r));unfold aF;rw[e1,f];rfl⟩
class Ky {κ:Type} (c:κ->AY):Prop where
 inj:∀a b,c a=c b->a=b
abbrev kS:AJ->AY:=Sum.inr
abbrev kI:Int->AY:=Sum.inl
instance:Ky kS:=⟨λ_ _ h=>by cases h;rfl⟩
instance:Ky kI:=⟨λ_ _ h=>by cases h;rfl⟩
abbrev mE(e:α->Dt):O (AJ×α)->Bx:=λm=>.m (m.map λq=>(kS q.1,e q.2)) U
abbrev nE(e:α->Dt):O (AJ×α)->Bx:=λm=>.n (m.map λq=>(kS q.1,e q.2))
section
variable [DecidableEq κ] {c:κ->AY}
def look[Inhabited α](m:O (κ×α))(x:κ):α:=((m.find? λq=>decide (q.1=x)).map (·.2)).getD default
def has(m:O (κ×α))(x:κ):Bool:=m.any λq=>decide (q.1=x)
def put(m:O (κ×α))(x:κ)(a:α):O (κ×α):=if has m x=true then m.map (λq=>if q.1=x then(q.1,a)else q)else m++[(x,a)]
theorem GH[Ky c](a b:κ):decide (c a=c b)=decide (a=b):=by
 by_cases h:a=b
 ·rw[h];simp
 ·rw[z5 h,z5 λz=>h (Ky.inj (c:=c) _ _ z)]
theorem Mt[Ky c](m:O (κ×α))(x:κ):nZ (m.map λq=>(c q.1,e q.2)) (c x)=((m.find? λq=>decide (q.1=x)).map (·.2)).map e:=by
 unfold nZ;rw[List.find?_map];simp only[Option.map_map,Function.comp_def,GH]
theorem Mu[Ky c][Inhabited α]{m:O (κ×α)}{x:κ}(h:has m x=true):nZ (m.map λq=>(c q.1,e q.2)) (c x)=Z (e (look m x)):=by
 rw[Mt];unfold look;unfold has at h;rw[KB]at h;obtain⟨q,a,hx⟩:=h;cases b:m.find? λq=>decide (q.1=x)with
 |none=>exact absurd hx (by simpa using av.mp b q a)
 |some q=>rfl
theorem Rb[Ky c](m:O (κ×α))(x:κ)(a:α):G6 (m.map λq=>(c q.1,e q.2)) (c x) (e a)=(put m x a).map λq=>(c q.1,e q.2):=by
 unfold G6 put has;rw[List.any_map];simp only[Function.comp_def,GH];by_cases h:(m.any λq=>decide (q.1=x))=true
 ·rw[zr h,zr h];rw[z4,z4];refine qc λq _=>?_;simp only[Function.comp];by_cases b:q.1=x
  ·simp[b]
  ·have h':¬ c q.1=c x:=λz=>b (Ky.inj (c:=c) _ _ z);simp[b,h']
 ·rw[zS h,zS h];simp
end
def yJ[Inhabited α](a:R fa ρ (nE e))(b:R fb ρ (zE eS)):R (b2 p7 fa fb) ρ (zE e):=⟨look a.v b.v,bx (bx a.D b.D) (Z (has a.v b.v=true)),λh=>by
 obtain⟨h,d⟩:=aB h;obtain⟨h1,h2⟩:=aB h;simp only[b2,a.ok h1,b.ok h2,B1,p7,C',Mu (c:=kS) (show has a.v b.v=true from d)]⟩
def RF(e:α->Dt):R (λ_=>Z (.m [] U)) ρ (mE e):=⟨[],U,λ_=>S⟩
end
section
variable{fs:Ev->Y AZ}{e:α->Dt}
theorem ZV{b:Bx}(h:nO b=Z ds):G3 b=Z ds:=by
 cases b with
 |z d=>cases d<;>first|exact h|(cases h;done)
 |l _=>exact h
 |o _=>exact h
 |n _=>cases h
 |m _ _=>cases h
theorem HM(n:Nat):∃m,m=n:=⟨n,rfl⟩
noncomputable def kN(n:Nat):Nat:=Classical.choose (HM n)
theorem IE(n:Nat):kN n=n:=Classical.choose_spec (HM n)
noncomputable def NC(n:Int)(m:Nat)(a:n.toNat=m)(hn:Rg n):R (KZ (ao (cB (.int n)) aG)) ρ (iE eI):=⟨rng 0 (kN m),U,λh=>by rw[IE];exact(SZ n m a hn).ok h⟩
end
end P1
namespace P1
open L2 S1 S6
class qe {α:Type} (e:α->Dt) where
 k:α->AY
 ok:∀a,Ee (e a)=some (k a)
 inj:∀a b,k a=k b->a=b
 same:∀a b,Mi (k a) (k b)=true
instance:qe eI:=⟨λi=>.inl i,λ_=>rfl,λa b h=>by cases h;rfl,λ_ _=>rfl⟩
instance:qe eS:=⟨λi=>.inr i,λ_=>rfl,λa b h=>by cases h;rfl,λ_ _=>rfl⟩
class oX {α:Type} (e:α->Dt) where
 k:α->List AY
 ok:∀a,xW (e a)=some (k a)
 inj:∀a b,k a=k b->a=b
 shp:∀a b,O8 (k a) (k b)=true
 ne:∀a,(k a).isEmpty=false
class FI {α:Type} (e:α->Dt) [oX e]:Prop where
 tx:∀a,ZD (oX.k e a)=true
section
variable{e:α->Dt}{e':β->Dt}{e'':γ->Dt}{e3:δ->Dt}
instance [qe e] [qe e']:oX (Dv e e'):=⟨λq=>[qe.k e q.1,qe.k e' q.2],λq=>by simp only[xW,Ik,qe.ok,B1],λa b h=>by
 simp only[kl,and_true]at h;exact br (qe.inj _ _ h.1) (qe.inj _ _ h.2),λa b=>by simp[O8,qe.same],λ_=>rfl⟩
instance [qe e] [qe e'] [qe e'']:oX (DD e e' e''):=⟨λq=>[qe.k e q.1,qe.k e' q.2.1,qe.k e'' q.2.2],λq=>by simp only[xW,Ik,qe.ok,B1],λa b h=>by
 simp only[kl,and_true]at h;exact br (qe.inj _ _ h.1) (br (qe.inj _ _ h.2.1) (qe.inj _ _ h.2.2)),λa b=>by simp[O8,qe.same],λ_=>rfl⟩
instance [qe e] [qe e'] [qe e''] [qe e3]:oX (EK e e' e'' e3):=⟨λq=>[qe.k e q.1,qe.k e' q.2.1,qe.k e'' q.2.2.1,qe.k e3 q.2.2.2],λq=>by simp only[xW,Ik,qe.ok,B1],λa b h=>by
 simp only[kl,and_true]at h;exact br (qe.inj _ _ h.1) (br (qe.inj _ _ h.2.1) (br (qe.inj _ _ h.2.2.1) (qe.inj _ _ h.2.2.2))),λa b=>by simp[O8,qe.same],λ_=>rfl⟩
instance [qe e]:FI (Dv e eS):=⟨λa=>by simp[oX.k,ZD,qe.k]⟩
instance [qe e] [qe e']:FI (DD e eS e'):=⟨λa=>by simp[oX.k,ZD,qe.k]⟩
instance [qe e] [qe e'] [qe e'']:FI (EK e eS e' e''):=⟨λa=>by simp[oX.k,ZD,qe.k]⟩
variable{fs:Ev->Y (O (O AY))}
theorem Fj[oX e]:∀xs:O α,Et (xs.map e)=Z (xs.map (oX.k e))
 |[]=>rfl
 |x::xs=>by simp only[zk,Et,oX.ok,B1,Fj xs]
def Yg(e:α->Dt)[oX e](a b:α):Bool:=uw (oX.k e a) (oX.k e b)
def D0(e:α->Dt)[oX e](a b:α):Bool:=ju (oX.k e a) (oX.k e b)
def mU(e:α->Dt)[oX e](xs:O α):O α:=xs.mergeSort (Yg e)
theorem Fl[oX e](xs:O α):(mU e xs).Perm xs:=bo ..
theorem Ph[oX e](xs:O α):(mU e xs).Pairwise (λa b=>Yg e a b=true):=KI (le:=Yg e) (λa b c=>yH (oX.k e a) (oX.k e b) (oX.k e c)) (λa b=>Er (oX.k e a) (oX.k e b)) xs
theorem WD[oX e]{a b:α}(h:Yg e a b=true)(h':Yg e b a=true):a=b:=oX.inj _ _ (Ih h h')
theorem Tt[oX e](xs:O α):yI (xs.map (oX.k e))=(mU e xs).map (oX.k e):=by
 refine(Ii ((Fl xs).map _) (List.pairwise_map.mpr (Ph xs))).symm
theorem NW[oX e](xs:O α):(xs.map (oX.k e)).map BT=xs.map e:=by
 rw[z4];exact qc λa _=>(zX (oX.ok a)).symm
theorem WK[oX e](xs:O α)(h:xs.length<64):Zz (xs.map (oX.k e))=true:=by
 simp only[Zz,ZH,kz,KF,jb,zi,ae,forall_exists_index,and_imp,forall_apply_eq_imp_iff₂];exact⟨h,λa _=>oX.ne a,λa _ b _=>oX.shp a b⟩
def K2[oX e](a:RL fa ρ e):R (bY Eu (ao fa aG)) ρ (oE e):=⟨mU e a.v,bx a.D (Z (a.v.length<64)),λh=>by
 obtain⟨h,b⟩:=aB h;simp only[bY,ao,aG,a.ok h,B1,Eu,ZV a.lk,Fj,WK a.v b,qk,Tt,NW]⟩
end
end P1
namespace P1
open L2
section
variable{fd fk:Ev->Y Bx}{fs:Ev->Y (O Bx)}{e:α->Dt}{e':β->Dt}{k:Ev->Y An}{cO:γ->An}
abbrev mW(w:Y A1)(e:α->Dt):O (AJ×α)->Bx:=λm=>.m (m.map λq=>(kS q.1,e q.2)) w
def ZW(w:Y A1)(i:Nat)(m:O (AJ×α))(hi:ρ[i]?=Z (Z (mW w e m)))(a:R fa ρ (zE e))(b:R fb ρ (zE eS))(K:∀f:O (AJ×α),R k (ρ.set i (Z (mW w e f))) cO):R (aF (V4 i fa fb) k) ρ cO:=⟨(K (put m b.v a.v)).v,bx (bx (bx a.D b.D) (Z (m.length<1000))) (K (put m b.v a.v)).D,λhd=>by
 obtain⟨h,c⟩:=aB hd;obtain⟨h,d⟩:=aB h;obtain⟨h1,h2⟩:=aB h;rw[nR (ρ':=ρ.set i (Z (mW w e (put m b.v a.v)))) (by
  unfold V4;rw[a.ok h1,B1,b.ok h2,B1];simp only[Mg,C',B1,hi,mW,zi,zr (show m.length<1000 from d),Rb])]
 exact(K _).ok c⟩
end
section
variable{e:α->Dt}
end
end P1
namespace P1
open L2 S1 S6
def kT(xs:AZ):O AY:=xs.map Sum.inr
def L4(a b:AZ):Bool:=uw (kT a) (kT b)
section
variable{e:α->Dt}
theorem map_some(e:α->Dt)(xs:O α):(xs.map Z).map (eO e)=xs.map e:=by rw[z4];rfl
end
end P1
namespace P1
open L2
section
variable{k:Ev->Y An}{cO:α->An}
end
section
variable{e:α->Dt}
end
section
variable{σ τ:Type}{k:Ev->Y An}{cO:γ->An}
end
section
variable{e:α->Dt}
end
section
variable{σ τ:Type}
theorem J5{step:σ->α->σ}{P:σ->α->Y Prop}(I:Nat->σ->Prop):∀(xs:O α) (m:Nat) (a:σ),I m a->(∀k x s,xs[k]?=Z x->I (m+k) s->B4 (P s x)/\I (m+k+1) (step s x))->sJ step P xs a/\I (m+xs.length) (xs.foldl step a)
 |[],m,a,h0,_=>⟨trivial,h0⟩
 |x::xs,m,a,h0,hs=>by
  obtain⟨h1,h2⟩:=hs 0 x a S h0;have:=J5 I xs (m+1) (step a x) h2 λk y s e h=>by
   have:=hs (k+1) y s (by simpa using e) (by rw[show m+(k+1)=m+1+k by omega];exact h);rw[show m+(k+1)+1=m+1+k+1 by omega]at this;exact this
  refine⟨⟨h1,this.1⟩,?_⟩;rw[qv,show m+(xs.length+1)=m+1+xs.length by omega];exact this.2
theorem Rc{i:Int}{k:Nat}{x:Int}(h:(rng i n)[k]?=Z x):x=i+k/\k<n:=by
 unfold rng at h;rw[ZI]at h;cases hk:(ax n)[k]? with
 |none=>rw[hk]at h;cases h
 |some j=>
  rw[hk]at h;have a:k<n:=by simpa using(af.mp hk).1
  have:j=k:=by
   rw[dc a]at hk;cases hk;rfl
  subst this;cases h;exact⟨rfl,a⟩
theorem jL(i:Int)(n:Nat):(rng i n).length=n:=by unfold rng;simp
theorem ZX{i:Int}{x:Int}(h:x∈rng i n):i<=x/\x<i+n:=by
 unfold rng at h;obtain⟨k,hk,rfl⟩:=ae.mp h;have:=aw.mp hk;omega
theorem mV{step:σ->Int->σ}{P:σ->Int->Y Prop}(I:Nat->σ->Prop)(n:Nat)(a:σ)(b:I 0 a)(hs:∀(k:Nat) s,k<n->I k s->B4 (P s k)/\I (k+1) (step s k)):sJ step P (rng 0 n) a/\I n ((rng 0 n).foldl step a):=by
 have:=J5 (P:=P) I (rng 0 n) 0 a b λk x s e h=>by
  obtain⟨rfl,hk⟩:=Rc e;rw[ku]at h ⊢;rw[ci];exact hs k s hk h
 rw[jL,ku]at this;exact this
theorem Mv{step:Unit->α->wX Unit Bool}{P:Unit->α->Y Prop}:∀xs:O α,(∀x∈xs,B4 (P ej x)/\(step ej x=.nx ej\/step ej x=.ct ej))->mR step xs ej=.nx ej/\uZ step P xs ej
 |[],_=>⟨rfl,trivial⟩
 |x::xs,h=>by
  obtain⟨h1,h2⟩:=h x (ze ..);have a:=Mv (P:=P) xs λy b=>h y (zh _ b);rcases h2 with h2|h2
  ·exact⟨by unfold mR;rw[h2];exact a.1,h1,by rw[h2];exact a.2⟩
  ·exact⟨by unfold mR;rw[h2];exact a.1,h1,by rw[h2];exact a.2⟩
theorem yK[Inhabited α]{xs:O α}{i:Int}(h:In xs.length i):Ap xs i∈xs:=by
 obtain⟨x,hx⟩:=J4 h;unfold Ap;rw[hx];unfold GJ at hx;obtain⟨j,_,hx⟩:=AT hx;exact kU hx
theorem Fo[Inhabited α]{xs:O α}{k:Nat}{x:α}(h:xs[k]?=Z x):Ap xs (k:Int)=x:=by
 have a:k<xs.length:=(af.mp h).1;unfold Ap GJ D9;rw[zr (),zr (),B1,kD,h];rfl
theorem yL[Inhabited α](xs:O α)(k:Nat)(h:k<xs.length):Ap xs (k:Int)=xs[k]:=Fo (qi h)
theorem B7{i:Int}(a:0<=i)(h1:i<n):In n i:=⟨by omega,h1⟩
theorem u0{x m:Int}(a:0<m)(h:m<=n):In n (x%m):=B7 (Int.emod_nonneg _ ()) (Int.lt_of_lt_of_le (dt _ a) h)
theorem oh(x:Int){m:Int}(a:0<m):0<=x%m/\x%m<m:=⟨Int.emod_nonneg _ (),dt _ a⟩
theorem Cu{j:Int}(a:0<=j)(h1:j<=1000000):Rg j:=⟨by omega,by omega⟩
theorem Gc{a b:Int}(c:0<=a)(h1:a<18446744073709551616):ER a b:=.inl ⟨by omega,h1⟩
theorem Z0{xs:O α}{x:α}(h:x∈Bn xs lo hi):x∈xs:=List.mem_of_mem_drop (List.mem_of_mem_take h)
theorem Z1(xs:O α)(lo hi:Y Int):(Bn xs lo hi).length<=xs.length:=by
 unfold Bn;rw[kK,QP];omega
theorem WL{xs:O α}{k:Nat}(h:k<=xs.length):Bn xs (Z (k:Int)) U=xs.drop k:=by
 unfold Bn;rw[HT.Yz,HT.U3,Nat.min_eq_left h,List.take_of_length_le (by simp)]
theorem qg(x y:AJ):(x++y).length=x.length+y.length:=by
 show(x.cps++y.cps).size=_;rw[JI];rfl
theorem u5(x:AJ)(i:Int):(ch x i).length=1:=rfl
theorem slice_le(x:AJ)(l u:Y Int):(Txt.slice x l u).length<=x.length:=PyProof.Txt.length_slice_le x l u
theorem Tv(x:AJ):(BD x).length=x.length:=by unfold BD;rw[zi,QN];rfl
end
section
variable [Inhabited α] {e:α->Dt}{k:Ev->Y An}{cO:γ->An}
end
section
variable{e:α->Dt}{k:Ev->Y An}{cO:γ->An}
end
section
variable{e:α->Dt}{k:Ev->Y An}{cO:γ->An}
def Z2[Inhabited γ]:R (aF F1 k) ρ cO:=⟨default,Z False,λh=>absurd h id⟩
end
section
variable{e:α->Dt}
def LJ(a:RL fa ρ e):R (b2 Tp fa (b1 CZ (cB (.int 1)))) ρ (oE e):=⟨a.v.reverse,a.D,λh=>by
 simp only[b2,b1,a.ok h,B1,cB,CZ,Tp,a.lk,qk,oE,kH]⟩
end
section
variable{e:α->Dt}{e':β->Dt}
def Tw(ps:O (AJ×α)):O (AJ×α):=ps.foldl (λa p=>put a p.1 p.2) []
theorem Iu(ps:O (AJ×α)):Q6 (ps.map λp=>(p.1,e p.2))=(Tw ps).map λp=>(kS p.1,e p.2):=by
 unfold Q6 Tw;have:∀(ps a:O (AJ×α)),(ps.map λp=>(p.1,e p.2)).foldl (λa p=>G6 a (kS p.1) p.2) (a.map λp=>(kS p.1,e p.2))=(ps.foldl (λa p=>put a p.1 p.2) a).map λp=>(kS p.1,e p.2):=by
  intro ps
  induction ps with
  |nil=>intro a;rfl
  |cons p ps b=>
   intro a;simp only[zk,ki];rw[Rb (c:=kS),b]
 exact this ps []
end
def RP(f:Ev->Y β)(ρ:Ev)(c:α->β)(v:α)(D:Y Prop):Prop:=B4 D->f ρ=Z (c v)
theorem R.tp{f:Ev->Y β}{c:α->β}{a:α}{b:Y Prop}(x:R f ρ c)(e:x.v=a:=by kernel_rfl)(d:x.D=b:=by kernel_rfl):RP f ρ c a b:=λh=>by
 subst e d;exact x.ok h
def RP.r{f:Ev->Y β}{c:α->β}{v:α}{D:Y Prop}(h:RP f ρ c v D):R f ρ c:=⟨v,D,h⟩
theorem F5{p:O α->Prop}(h:∀a,p [a]):∀us:O α,us.length=1->p us
 |[a],_=>h a
theorem FE{p:O α->Prop}(h:∀a b,p [a,b]):∀us:O α,us.length=2->p us
 |[a,b],_=>h a b
theorem MI{p:O α->Prop}(h:∀a b c,p [a,b,c]):∀us:O α,us.length=3->p us
 |[a,b,c],_=>h a b c
theorem P3{p:O α->Prop}(h:∀a b c d,p [a,b,c,d]):∀us:O α,us.length=4->p us
 |[a,b,c,d],_=>h a b c d
theorem RU{p:O α->Prop}(h:∀a b c d e,p [a,b,c,d,e]):∀us:O α,us.length=5->p us
 |[a,b,c,d,e],_=>h a b c d e
end P1
namespace P1
open L2 S1
end P1
namespace P1
open L2
section
variable{fs:Ev->Y (O Bx)}
end
section
variable{AS:O AB}
end
section
variable{ks:O V}{o:AE}
end
section
variable{M0 M1 M2 er:Expr}{f0 f2:Ev->Y Bx}{d0 d2:Dt}{z0 z1 z2 z3:Pos}
end
section
variable{st:O AB}{fr:Ev->Y Bx}{i':Nat}{W:O Nat}{z:Pos}
end
section
variable{a b c:Ev->Y An}{k:Nat}
end
end P1
namespace P1
open L2 S6
section
variable{kx vx t1 i1 t2 i2:Expr}{f1 f2:O Expr}{xs:AZ}{g1 g2:Dt->Ev->Y Ev}{p1 p2:Ev->Y Bool}{fk:Ev->Y Bx}{fi1 fi2:Ev->Y (O Dt)}{fs:Ev->Y (O Dt)}{N:Nat}
def cls2(fi:Ev->Y (O Dt))(gt:Dt->Ev->Y Ev)(p:Ev->Y Bool)(fs:Ev->Y (O Dt))(is:O Nat)(n:Nat):Ev->Y (O Dt):=λρ=>(fi ρ).bind λds=>CW gt p fs (j7 is ρ++aa n U) ds
end
end P1
namespace P1
open L2
section
variable{e:α->Dt}{e':β->Dt}{fs:Ev->Y (O Dt)}
end
def hx(h:A6)(a:A1):HO:=.ext λh'=>h'.get? a=h.get? a
section
variable{H2:Hp}{as:O A1}
end
section
variable{D:A1}{gs:O (Int×A1×O Dt)}{k:Int}{x:Dt}{u:V}
end
section
variable{e1 e2 ev:Expr}{f2:Ev->Y Bx}{y w:AJ}{pw py py2 py3 px p1 p3 p4 pl a1 a2 c1 c2:Pos}
end
end P1
namespace P1
open L2 S6
section
variable{kx vx t1 i1 t2 i2:Expr}{f1 f2:O Expr}{xs:AZ}{g1 g2:Dt->Ev->Y Ev}{p1 p2:Ev->Y Bool}{fk:Ev->Y Bx}{fi1 fi2:Ev->Y (O Dt)}
end
end P1
namespace P1
open L2
section
variable{e:α->Dt}{e0:β->Dt}{fd f2:Ev->Y Bx}{kk:Ev->Y An}{cO:γ->An}
end
section
variable{e:α->Dt}{fs:Ev->Y (O Dt)}
end
section
variable{a:Expr}
end
theorem cj{bs:O Bx}{c:α->Bx}{v:α}{D:Y Prop}(x:RP g (bs.map Z++aa (n-bs.length) U) (λr=>An.rt (c r)) v D)(h:B4 D):dH n g bs=Z (c v):=Pe x.r h
section
variable{e:α->Dt}
end
open PySem.Builtin PySem.Builtin.Str
section
variable{o:Expr}{fx:Ev->Y Bx}
def GO:Bx->Y AJ
 |.z (.str x)=>Z x
 |_=>U
end
section
variable{g:Ev->Y AJ}
end
def Rf(g f j:Nat)(f1:Ev->Y Bx)(p:Ev->Y Bool)(fe:Ev->Y Bx)(e:Ev):O Dt->AZ->O Dt->Y (O Dt)
 |[],_,out=>Z out
 |d::ds,seen,out=>match d with
  |.tup [a,b]=>(f1 ((e.set g (Z (.z a))).set f (Z (.z b)))).bind λr=>match r with
   |.z h=>(p (((e.set g (Z (.z a))).set f (Z (.z b))).set j (Z (.z h)))).bind λc=>(fe (((e.set g (Z (.z a))).set f (Z (.z b))).set j (Z (.z h)))).bind λv=>(GO v).bind λx=>
    if c=false/\x∉seen/\seen.length<4000/\out.length<4000 then Rf g f j f1 p fe e ds (seen++[x]) (out++[h])else U
   |_=>U
  |_=>U
section
variable{e1 e2 e3:Expr}{gr:Ev->Y An}{fx:Ev->Y Dt}{tR tQ:TS}{xr xj y1 y2:AJ}{AS no:O AB}{kk:Nat}{p0 p00 p01 p02 q1 q2 pt pj pa px pb pif pf2 px3 a1 c1 pe1 pr a2 pj2 c2 pe2:Pos}
end
section
variable{e:α->Dt}{ea:β->Dt}{eb:δ->Dt}{kk:Ev->Y An}{cO:γ->An}
theorem DG[Inhabited α]{c d j:Nat}{A:β×δ->Y α}{V:β×δ->AJ}:∀(xs:O (β×δ)) (b:AZ) (a:O α),(∀x∈xs,(A x).isSome=true/\f1 ((ρ.set c (Z (.z (ea x.1)))).set d (Z (.z (eb x.2))))=Z (.z (eO e (A x)))/\p (((ρ.set c (Z (.z (ea x.1)))).set d (Z (.z (eb x.2)))).set j (Z (.z (eO e (A x)))))=Z false/\fe (((ρ.set c (Z (.z (ea x.1)))).set d (Z (.z (eb x.2)))).set j (Z (.z (eO e (A x)))))=Z (.z (.str (V x)))) →
  (b++xs.map V).Nodup->b.length+xs.length<4000->a.length+xs.length<4000->Rf c d j f1 p fe ρ (xs.map (Dv ea eb)) b (a.map e)=Z ((a++xs.map λx=>(A x).getD default).map e)
 |[],b,a,_,_,_,_=>by simp[Rf]
 |x::xs,b,a,h,hn,h1,h2=>by
  obtain⟨a1,a2,i,l⟩:=h x (ze ..);rw[qv]at h1 h2;rw[zk];simp only[Rf,Dv,a2,B1,i,l,GO];rw[zr ⟨by first|rfl|trivial,λm=>by
   rw[zk]at hn;exact(bE.mp hn).2.2 _ m _ (ze ..) rfl,by omega,by rw[zi];omega⟩]
  have e1:a.map e++[eO e (A x)]=(a++[(A x).getD default]).map e:=by
   rw[ZZ];cases f:A x with
   |none=>rw[f]at a1;cases a1
   |some y=>rfl
  rw[e1,DG xs (b++[V x]) (a++[(A x).getD default]) (λy g=>h y (zh _ g)) (by simpa using hn) (by simp;omega) (by simp;omega)];simp
end
end P1
namespace P1
open L2 S1
theorem Z4{x y:AY}{p q:A0}(hs:Mi x y=true)(hp:j9 x p=true)(a:j9 y q=true)(h:Q (.bool (QZ x y)) s):A7 (A8 prog w) A (AG .Lt p q) Q E s:=by
 rcases bA hp with⟨i,t,rfl,rfl⟩|⟨z,t,rfl,rfl⟩
 ·rcases bA a with⟨j,u,rfl,rfl⟩|⟨z,u,rfl,rfl⟩
  ·exact lt_int h
  ·cases hs
 ·rcases bA a with⟨j,u,rfl,rfl⟩|⟨b,u,rfl,rfl⟩
  ·cases hs
  ·exact PySem.P.lt_str h
theorem WM{ks g:O AY}{b:A1}{d:O A0}(G:fP s.heap a AQ.toArray)(X:fP s.heap b d.toArray)(hk:Ks ks AQ)(K:Ks g d)(hs:Um ks g)(W:A.units<cLine)(h:Q (.bool (ju ks g)) s):A7 (A8 prog w) A (AG .Lt (.ref a) (.ref b)) Q E s:=by
 obtain⟨y,ea,x,⟨na,da⟩,_⟩:=G;obtain⟨B,eb,z,⟨nb,J⟩,_⟩:=X;show A7 _ _ (richCompare .Lt (.ref a) (.ref b)) _ _ _;refine wpAny_richCompare_same_room ⟨y,ea,x⟩ ⟨B,eb,z⟩ F.slot_tuple_lt (JY F.slot_tuple_lt ⟨y,ea,x⟩ F.entry_tuple_lt ?_ (F.args_tuple_lt_2 _ _)) W;show A7 _ _ (isInstance (.ref b) (.type "tuple") >>= _) _ _ s;refine zb (wpAny_isInstance ⟨B,eb,z⟩ isSubtype_tuple_tuple ?_);simp only[Kt,zI,ZY];refine zb (wpAny_tupleItemsOf ea da ?_);refine zb (wpAny_tupleItemsOf eb J ?_);refine zb ?_;refine wpAny_forIn_list _
  (λAS r s'=>r.1=U/\s'=s/\∃i j m l,AS=List.zip m l/\Ks i m/\Ks j l/\Um i j/\ju i j=ju ks g/\(m.length<l.length↔AQ.length<d.length))
  _ ?_ ?_ _ _ ⟨rfl,rfl,ks,g,AQ,d,by simp,hk,K,hs,rfl,Iff.rfl⟩
 ·rintro⟨u,v⟩ AS r s' ⟨o,rfl,i,j,m,l,f,p,n,q,c,t⟩;cases p with
  |nil=>simp at f
  |@cons D u' I P h1 C=>
   cases n with
   |nil=>simp at f
   |@cons L v' H a0 h2 N=>
    simp only[QR,kl,Kn]at f;obtain⟨⟨rfl,rfl⟩,rfl⟩:=f;refine zb (CH h1 h2 ?_);simp only[ju]at c;by_cases e:D=L
    ·rw[zr e]at c;rw[ZT e];simp only[Kt,zI,ZY];exact zd ⟨rfl,rfl,I,H,P,a0,rfl,C,N,q.2,c,by simpa using t⟩
    ·rw[zS e]at c;rw[z5 e];simp only[k7,qk];refine zb (JJ ?_);refine zb (show A7 _ _ (AG .Lt u v) _ _ _ from Z4 q.1 h1 h2 ?_);rw[c];exact zb (zd (zd (zd ⟨_,rfl,by simp,h⟩)))
 ·rintro⟨r1,r2⟩ s' ⟨o,rfl,i,j,m,l,f,p,n,q,c,t⟩;simp only at o;subst o;have M:decide (AQ.length<d.length)=ju ks g:=by
   rw[<-c,<-decide_eq_decide.mpr t];cases p with
   |nil=>cases n with
    |nil=>rfl
    |cons _ _=>rfl
   |cons _ _=>cases n with
    |nil=>rfl
    |cons _ _=>simp at f
  refine zd ⟨_,rfl,?_⟩;show Value.bool (decide (AQ.toArray.size<d.toArray.size))≠_/\Q (Value.bool (decide (AQ.toArray.size<d.toArray.size))) _;rw[zl,zl,M];exact⟨by simp,h⟩
section
variable{k:Nat}{f:A1}{p:Pos}
end
end P1
namespace P1
open L2 S1 S6
theorem F3{p:O α->Prop}(h:p []):∀us:O α,us.length=0->p us
 |[],_=>h
section
variable{e:α->Dt}{g:Ev->Y Bx}{c:α->Bx}
end
def BB(i:Int):R (cB (.int i)) ρ (zE eI):=Ip (.int i) eI i rfl
def nT(s:AJ):R (cB (.str s)) ρ (zE eS):=Ip (.str s) eS s rfl
abbrev Nn(K:B5)(n:AJ)(f:A1):Prop:=nsIn K mainGlobals n=Z (Z (.ref f))
abbrev Lk(K:B5)(f:A1)(n:AJ)(st:AB)(c:A0)(a:Y A1)(sl:Array (Y A0))(kV e pm:A0)(b:Y A1)(d ct:A0):Prop:=K.lookup f=Z ⟨c,a,.func (fnOf n n (rZ st) (jq st) (aJ st) .none kV e pm b d ct),sl⟩
end P1
namespace P1
open L2
section
variable{e:α->Dt}
end
section
variable{Ex:BF}{outer:O Env}{L e T:A1}{C fl:A0}{dx:Y A1}{Q:Unit->A2->Prop}
end
section
variable{H':Hp}{h':A6}{ch:O A1}
end
section
variable{g:Array GenState}{d:Drawn}{t:Nat}{fI e:A1}{AS:O A0}{B:String}
end
section
variable{g:Array GenState}{d:Drawn}{t:Nat}{e:A1}
end
section
variable{g:Array GenState}{d:Drawn}{t:Nat}{e dx:A1}{v:A0}{vs:Array A0}{m:AJ->Y A0}
end
section
variable{o value:Expr}{tv:TE}{f:AJ}{pos' p:Pos}{B:String}
end
section
variable{f:AJ}{p:Pos}{B:String}
end
section
variable{E:XK}
end
section
variable{Cn f:A1}{iv iy k:Nat}{n cn y:AJ}{np hp p py pa:Pos}{b0:AB}{suite:O AB}{ts:A1->TS}{tf:TE}
end
section
variable{d:A1}{fs:O (AJ×V)}{f:AJ}{o:Expr}
end
section
variable{f:AJ}{E:XK}{gy:Ev->Y Dt}{p:Pos}{AS a b:O AB}{B:String}{pc:Ev->Y Bool}
end
section
variable{k:Nat}{f h:A1}{fs:Ev->Y (O Bx)}{y:AJ}{p q:Pos}
end
end P1
namespace P1
open L2 S6
section
variable{xs:AZ}
end
section
variable{y:AJ}{e2 se:Expr}{fS:Ev->Y AZ}{fx:Ev->Y Dt}{no AS:O AB}{tR tQ:TS}{p0 p02 px pb pif pk:Pos}{f:AJ}{E:XK}
end
end P1
namespace P1
open L2
section
variable{e1 e2 e3:Expr}{gr:Ev->Y An}{xr xj y1 y2:AJ}{AS no:O AB}{kk:Nat}{p0 p00 p01 p02 q1 q2 pt pj pa px pb pif pf2 px3 a1 c1 pe1 pr a2 pj2 c2 pe2:Pos}{fx:Ev->Y Dt}{f:AJ}{E:XK}
end
section
variable{Cn f:A1}{iv k:Nat}{n cn:AJ}{np hp p pa:Pos}{b0:AB}{suite:O AB}{ts:A1->TS}{tf:TE}
end
section
variable{fx:Ev->Y Bx}
def hoI(f:Ev->Y Bx):Ev->Y Bx:=λρ=>(f ρ).bind λb=>match b with
 |.z (.int i)=>if 0<=i/\i<1000000 then Z (.z (.str (toString i)))else U
 |_=>U
end
section
variable{xs:Array A0}
end
theorem wQ:∀{AQ:O A0} {a:O Int},IntsAre AQ a->AX (a.map V.int) AQ
 |_,_,.nil=>.nil
 |_,_,.cons y t h=>.cons ⟨t,rfl⟩ (wQ h)
section
variable{e:α->Dt}
end
section
variable{e:α->Dt}{ea:β->Dt}{eb:δ->Dt}{fx:Ev->Y Dt}
end
section
variable{e:α->Dt}{g:Ev->Y β}{c:γ->β}
end
section
variable{E:XK}
end
section
variable{f:AJ}{E:XK}{fs:Ev->Y (O Bx)}{gy:Ev->Y Dt}{p p1 epos:Pos}{AS:O AB}
end
section
variable{o:Expr}
def WQ:Dt->Bool
 |.non=>true
 |.tup _=>true
 |_=>false
def ID:Dt->Bool
 |.non=>true
 |_=>false
end
section
variable{o l:Expr}{fs:Ev->Y (O Bx)}{y z:AJ}
end
instance {σ τ:Type} [Inhabited σ]:Inhabited (wX σ τ):=⟨.nx default⟩
section
variable{e:α->Dt}
theorem Pj(a:∀x,∃ds,e x=.tup ds)(ys:O (Y α)):(ys.map (eO e)).all WQ=true/\(ID ∘ eO e)=Option.isNone:=by
 refine⟨?_,?_⟩
 ·rw[KF];intro d hd;obtain⟨o,_,rfl⟩:=ae.mp hd;cases o with
  |none=>rfl
  |some x=>obtain⟨ds,q⟩:=a x;show WQ (e x)=true;rw[q];rfl
 ·funext o;cases o with
  |none=>rfl
  |some x=>obtain⟨ds,q⟩:=a x;show ID (e x)=false;rw[q];rfl
end
section
variable{o e2:Expr}{fx fy:Ev->Y Bx}
end
section
variable{f:AJ}{E:XK}{gy:Ev->Y Dt}{sts AS:O AB}{p0 p00 p01 p02:Pos}
end
structure DQ (K:B5) (mg:Str->Option Value) (x:Str) (st:Stmt) (ps:AZ) where
 f:Addr
 fd:FuncData
 F:Yc K x x st f fd
 b:BM K fd ps []
 m:mg x=some (.ref f)
 k:keepIn K (.ref f)=true
def nU{f:A1}{e b:Y A1}{g kV n d ct:A0}(X:K.In h)(G:h.Ns mainGlobals mg)(a:Nn K x f)(l:Lk K f x st g e sl kV n pm b d ct)(c:codeIn K d x=true)(k:keepIn K (.ref f)=true)(j:∀(kV m pm:A0) (b:Y A1) (i ct:A0) (us:O A0),us.length=ps.length->bindArgs (fnOf x x (rZ st) (jq st) (aJ st) .none kV m pm b i ct) ⟨us,[]⟩=pure (ps.zip us):=by intro _ _ _ _ _ _;first|exact P1.F5 λ_=>S|exact P1.FE λ_ _=>S|exact P1.MI λ_ _ _=>S|exact P1.P3 λ_ _ _ _=>S|exact P1.RU λ_ _ _ _ _=>S|exact P1.F3 S):DQ K mg x st ps:=
 ⟨f,_,Vj l c k,(Vj l c k).binds j,mg_of X G a,k⟩
abbrev Ok(P:A3)(w:A4)(base:A6)(d:DQ K mg x st ps)(k n:Nat)(F:O Bx->Y Bx):Prop:=uJ P w K mg base Jx k d.f d.fd ps (Ul K n F)
theorem Fp{k:Nat}(d:DQ K mg x st ps)(S:bC N ps (aJ st))(e:∀(a:A0) (A:A5) (outer:O Env) (s:A2) (H:Hp) (E:XK),kj k (A.deeper (AK x (aJ st) s.heap.objs.size d.f a))->(A.deeper (AK x (aJ st) s.heap.objs.size d.f a)).units+100<cLine->N.Nodup->QJ (DY Jx P w K mg base N x (aJ st) d.f a A outer s H E).Yb (jq st) g)(hn:N.length=n:=by rfl)(c:ps.length=m:=by rfl):Ok P w base d (k+1) m (dH n g):=N0 d.F S hn c λa A outer s H E b=>e a A outer s H E b (Du b) S.nd
section
variable{k:Nat}{fs:Ev->Y (O Bx)}{p:Pos}
theorem dR(d:DQ X.K X.mg x st ps)(G:Ok X.prog X.w X.base d k n F)(h:kj m X.A)(a:Vk X (e::es) fs)(j:Gl X x:=by rfl)(i:k<=m:=by decide)(c:eg x:=by decide)(g:A9 (e::es) X.env=(false,eval e X.env)::A9 es X.env:=by rfl)(f:(AD pos (A9 es X.env)).any (·.1)=false:=by rfl):QV X (.Call (.Name x p) (e::es) [] pos) (bQ n F fs):=
 Ze G (h.mono i) j d.m d.k d.b a c g f
end
theorem Do{l:PySem.W.OpenLaw}{q:A3}{loose:AZ}{d:DefRec}{K:Params->B5}{T:B5->(AJ->Y A0)->Type}{k:Nat}{F_law:O Bx->Y Bx}(c:∀{K mg},T K mg->DQ K mg "law" st [x])(hk:kj k callerA)(hd:d.name ="law")(G:∀(w:A4) (mg:AJ->Y A0) (base:A6) (t:T (K w.params) mg),Ok l.prog w base (c t) k 1 F_law)(hn:l.most=Z 63)(v:d.params.defaults=[])(h1:∀b:O Int,b.length<=63->F_law [.z (.lst (b.map .int))]=Z (.z (.bl true)))(h2:∀b:O Int,b.length<=63->F_law [.l (b.map .int)]=Z (.z (.bl true)))(L:∀(kV g pm:A0) (i:Y A1) (j ct u:A0),bindArgs (fnOf "law" "law" (rZ st) (jq st) (aJ st) .none kV g pm i j ct) ⟨[u],[]⟩=pure [(x,u)])(y:∀(w:A4) (h:A6),YP w h->(K w.params).In h)(B:∀(w:A4) (h:A6) (mg I:AJ->Y A0) (C:ExcName->Y A0) (p:AZ),(K w.params).In h->Top q p C mg I h->∃D,L2.Vg (K w.params) h D)(F:∀(w:A4) (mg:AJ->Y A0) (h:A6),(K w.params).In h->h.Ns mainGlobals mg->T (K w.params) mg):
  PySem.W.WalkO q loose XP YP l.row.toRowW d [] (λf vs=>PySem.call f vs):=
 L2.Vi (n:=63) (k:=k) (x:=x) (CX:=Jx) (sp:=λK=>Ul K 1 F_law) hn () v hk y (λw mg fa h X N e=>by
  have t:=F w mg h X N;have o:=(c t).m;rw[hd,o]at e;cases e;refine⟨(c t).fd,λs u=>?_,λbase _ _=>G w mg base t⟩;obtain⟨M,Q,kV,g,pm,i,j,ct,osl,e,P,a0⟩:=(c t).F.ex;rw[e];exact .of_eq (L kV g pm i j ct u)) (λK H a b A E J=>SC h1 h2 K H a b A E J) (λ_ _ _ _ z=>z) B
section
variable{k:Nat}{f:A1}{sp:A1->O V->Hp->VK->Prop}{p:Pos}
end
section
variable{p0 p1:Pos}{xs:AZ}{e:A1}{a:Expr}{ta:TA}
end
section
variable{f:AJ}{E:XK}{fs:Ev->Y (O Bx)}{p:Pos}
end
section
variable{g:Array GenState}{d:Drawn}{t:Nat}{AS:O A0}{B:String}
end
section
variable{E:XK}{p:Pos}{B:String}{k:Nat}
end
section
variable{p kp cp:Pos}{fs:Ev->Y (O Bx)}{j:Int}{kk:Nat}
end
section
variable{e:α->Dt}
end
section
variable{g:Ev->Y AJ}
variable{e:α->Dt}
end
section
variable{e:α->Dt}{σ' τ:Type}
def qE(e:α->Dt):Y (O α)->Bx
 |none=>.z .non
 |some l=>.o (l.map e)
def Sl(e:α->Dt):Y (O α)->Bx
 |none=>.z .non
 |some l=>.l (l.map e)
class GG (c:Option (List α)->Bx) (e:outParam (α->Dt)):Prop where
 d:∀v,toD (c v)=eO (eL e) v/\uT (c v)=false
instance:GG (qE e) e:=⟨λv=>by cases v<;>exact⟨rfl,rfl⟩⟩
instance:GG (Sl e) e:=⟨λv=>by cases v<;>exact⟨rfl,rfl⟩⟩
instance:GG (zE (eO (eL e))) e:=⟨λv=>⟨rfl,rfl⟩⟩
end
section
variable{p:Pos}{fs:Ev->Y (O Bx)}
end
section
variable{e:α->Dt}
end
section
variable{e:α->Dt}
end
section
variable{AS:O AB}{ga:Ev->Y An}
end
section
variable{k:Nat}{f:A1}{Fa Fb:O Bx->Y Bx}{p spos:Pos}{fs:Ev->Y (O Bx)}
end
section
variable{e:α->Dt}
end
end P1
namespace P1
open L2 S1 S6
section
variable{e:α->Dt}
end
end P1
namespace P1
open L2
section
variable{e:α->Dt}
end
section
variable{R:Result->A2->Prop}{I:A1}{wr:O A1}{P:Nat->A0->Prop}{St:Nat->A6->Prop}
end
section
variable{e:α->Dt}
end
def DO{α:Type}:O α->O α
 |[]=>[]
 |x::xs=>x::DO (xs.drop 5)
termination_by l=>l.length
decreasing_by simp;omega
section
variable{st:Expr}{fs:Ev->Y Bx}
end
section
variable{e:α->Dt}
end
section
variable{AS:O AB}{W:O Nat}
end
section
variable{e:α->Dt}
end
section
variable{st:O AB}{fr:Ev->Y Bx}{W:O Nat}{z:Pos}{Φ:Hp->Hp->L2.St->Ev->Prop}
end
section
variable{AS:O AB}
end
end P1
namespace P1
open L2 S6
section
variable{p p' pos':Pos}
end
end P1
namespace P1
open L2 S1
section
variable{T:O AY->A0->Prop}(inj:∀ k l v,T k v->T l v->k=l)
include inj
end
end P1
namespace P1
open L2 S1 S6
section
variable{e:α->Dt}{e':β->Dt}
end
end P1
namespace P1
open L2
theorem Pk{pos':Pos}{c d:A0}(l:O A0)(h:TriplesOk l)(hn:codeAmong pos' (l++[rawInt pos.line,rawInt pos.col,c])=Z d):codeAmong pos' l=Z d\/d=c:=by
 fun_induction TriplesOk l with
 |case1=>
  simp only[k5,codeAmong,rawInt]at hn;split at hn
  ·cases hn;exact .inr rfl
  ·cases hn
 |case2 a t b u x AS f=>
  simp only[ck,codeAmong]at hn ⊢;split at hn
  ·rename_i e;rw[zr e];exact .inl hn
  ·rename_i e;rw[zS e];exact f h hn
 |case3 l h1 h2=>exact h.elim
def Mw(K:B5)(c P:A1)(q:AJ):Prop:=∃o vs a tf d tg inF b tt x t,K.lookup c=Z o/\o.cls=.type "code" ∧ o.data=.fields vs/\vs[11]?=Z (.ref P)/\vs.getD 11 .none=.ref P/\vs.getD 18 .none=.str a tf ∧
 vs.getD 7 .none=.int d tg/\vs.getD 9 .none=.bool inF/\vs.getD 10 .none=.int b tt/\c≠P/\vs[1]?=Z (.str x t)/\x∈Us/\q=x++(".<locals>.<lambda>":AJ)
theorem Mw.tab{c P:A1}{q:AJ}(h:Mw K c P q):Fk K P q:=by
 obtain⟨o,vs,_,_,_,_,_,_,_,x,t,a,_,d,e,_,_,_,_,_,_,f,g,i⟩:=h;exact⟨c,o,vs,x,t,a,d,f,g,e,i⟩
theorem Mw.hd{c P:A1}{q:AJ}(h:Mw K c P q){hp:A6}(k:K.In hp):PySem.W.CodeHd hp c P:=by
 obtain⟨o,vs,a1,a2,n,p,m,l,i,x,t,a,b,d,e,e1,e2,e3,f,j,g,_⟩:=h;exact⟨o,vs,a1,a2,n,p,m,l,i,k _ _ a,b,d,e,e1,e2,e3,f,j,g⟩
abbrev Dd:HO:=.ext λ_=>True
structure Iv (H:Hp) (f:Addr) (q:Str) (params:Arguments) (body:Expr) (scope:Scope) (clos:List (Str×Addr)) (pm:Value):Prop where
 at_:∃c' ctv oc vs t,H f=some (.uD (kla_obj "<lambda>" q params body scope clos pm c' ctv) Dd)/\H c'=some (.uD oc Dd)/\oc.data=.fields vs/\vs[1]?=some (.str q t)
theorem Iv.same{H':Hp}{f:A1}{q:AJ}{body:Expr}{d:O (AJ×A1)}(h:Iv H f q params body scope d pm)(s:AV H H'):Iv H' f q params body scope d pm:=by
 obtain⟨c',e,g,vs,t,a,b,c⟩:=h.at_;exact⟨c',e,g,vs,t,s _ _ a,s _ _ b,c⟩
theorem J6{o:AE}(e:h.get? a=Z o):gJ P w H h a (.uD o Dd):=⟨e,trivial,⟨o,e⟩,λ_ _ _ _=>trivial⟩
theorem Mx{c P:A1}{q:AJ}{body:Expr}{G:O (AJ×A1)}{R:BF}(I:L2.AU X AN σ H s)(hK:Mw X.K c P q)(a1:X.env.code=.ref c)(hq:X.env.qual++("<lambda>":AJ)=q)(c0:defaultsOf params X.env=([],[]))(a6:closureFor scope X.env=pure G)(h:∀f H' s',L2.AU X AN σ H' s'->AV H H'->H f=U->Iv H' f q params body scope G ((X.mg "__name__").getD .none)->R (.ref f) s'):A7 M A (eval (.Lambda params body scope pos) X.env) R E s:=by
 refine PySem.W.kla_eval c0 ?_;rw[show X.env.qual++("<lambda>":AJ)=q from hq];obtain⟨ps,B,a2,c4⟩:=(I.ok.tabs.go I.base.zp) P q hK.tab;obtain⟨a4,D,J,a3⟩:=I.hok P _ B;have F:s.heap.Ns mainGlobals X.mg:=I.mod.glob.keeps I.bk;have C:=hK.hd I.X8;obtain⟨N,ob,b1,b2,b3,b4,b5,b6⟩:=I.mod.bmain;have b0:mainGlobals≠P:=λz=>by
  obtain⟨o,es,ep,e,hd,_⟩:=F;rw[z,D]at e;cases e;cases hd
 have p:=I.bk _ _ b3;have y:N≠P:=λz=>by rw[z,D]at p;cases p;cases b4
 have b8:N≠mainGlobals:=λz=>by
  obtain⟨o,es,ep,e,hd,_⟩:=F;rw[z,e]at p;cases p;rw[hd]at b6;cases b6
 have hB:s.heap.BuiltinsAt X.mg P:=⟨N,ob,b1,b2,b8,y,p,b4,b5,b6⟩;cases L:codeAmong pos (tr ps++a4).toList with
 |some Q=>
  obtain⟨c',a,vs,t,rfl,g1,g2,g3⟩:=a3 pos Q L;refine PySem.W.kla_makeFunctionHit (mg:=X.mg) a6 I.ok.glob F a1 C D J L hB λl h' tk hk c2=>?_;have m:L2.AU X AN σ H { s with heap:=h',toks:=tk }:=I.kept hk;have i:H h'.objs.size=U:=m.hok.fresh (zo _);have j:AV H (B6 H h'.objs.size (.uD (kla_obj "<lambda>" q params body scope G ((X.mg "__name__").getD .none) c' l) Dd)):=bf i;refine h h'.objs.size _ _ (m.laid (t':=tk) (λb u e=>zg _ e) (zo _) (J6 (zw _ S))) j i ⟨c',l,a,vs,t,aW,j _ _ g1,g2,?_⟩;rw[a2]at g3;exact g3
 |none=>
  refine PySem.W.kla_makeFunction (mg:=X.mg) a6 I.ok.glob F a1 C D J L b0 hB λc' l h' tk hx a5 b9 a9 a0=>?_;obtain⟨c5,a,vs,t,e2,a8,hd,hv⟩:=a9;cases e2;have c1:H c'=U:=I.hok.fresh a5;have nP:∀b,H b=U->b≠P:=λb n z=>by rw[z,B]at n;cases n
  have c3:=a0;have g:AV H (B6 H c' (.uD a Dd)):=bf c1;have u:Un X.fs [] H (B6 H c' (.uD a Dd)) s.heap h':=by
   refine⟨λb o e n _ _=>hx b o (nP b n) e,λb o e n _ _=>⟨o.slots,hx b o (nP b n) e⟩,λb o e n _=>?_,λb o e _=>?_,λb xs e=>g _ _ e,λb o u e=>g _ _ e,λb ps e=>⟨#[],by rw[g _ _ e];simp⟩⟩
   ·rw[aX (zC (Zl (zt e) a5))];exact n
   ·by_cases x:b=P
    ·subst x;exact⟨_,a0⟩
    ·exact⟨o,hx b o x e⟩
  have a7:zj X.prog X.w (B6 H c' (.uD a Dd)) h':=λb ob e=>by
   by_cases x:b=c'
   ·subst x;rw[aW]at e;cases e;exact J6 a8
   ·rw[aX x]at e;by_cases y:b=P
    ·subst y;rw[B]at e;cases e;refine⟨a4++#[rawInt pos.line,rawInt pos.col,.ref c'],?_,?_,λpos' Q z=>?_⟩
     ·rw[<-k8];exact a0
     ·rw[<-k8,ke];exact TriplesOk_snoc _ _ _ _ J
     ·rw[<-k8,ke]at z;rcases Pk _ J z with z|z
      ·obtain⟨d,od,ws,t',e1,e2,e3,e4⟩:=a3 pos' Q z;exact⟨d,od,ws,t',e1,g _ _ e2,e3,e4⟩
      ·exact⟨c',a,vs,t,z,aW,hd,by rw[a2];exact hv⟩
    ·refine(I.hok b ob e).stay (λd v hd q'=>hx d v (λz=>?_) q') (λd z=>g _ _ z) (λd xs z=>g _ _ z) λd o φ z=>g _ _ z;subst z;rcases hd with z|z
     ·exact y z.symm
     ·rw[B]at z;cases z
  have m:L2.AU X AN σ (B6 H c' (.uD a Dd)) { s with heap:=h',toks:=tk }:=I.un u a7;have i:(B6 H c' (.uD a Dd)) h'.objs.size=U:=m.hok.fresh (zo _);have b7:H h'.objs.size=U:=by rw[aX (be b9)]at i;exact i
  have j:AV (B6 H c' (.uD a Dd)) (B6 (B6 H c' (.uD a Dd)) h'.objs.size (.uD (kla_obj "<lambda>" q params body scope G ((X.mg "__name__").getD .none) c' l) Dd)):=bf i;exact h h'.objs.size _ _ (m.laid (t':=tk) (λb u e=>zg _ e) (zo _) (J6 (zw _ S))) (g.trans j) b7 ⟨c',l,a,vs,t,aW,j _ _ aW,hd,hv⟩
def Iw(X:Cx)(scope:Scope)(cl:O (AJ×A1)):AZ->O Nat->Prop
 |[],[]=>True
 |x::xs,i::is=>(X.N[i]?=Z x/\(X.env.kindOf x=Z .cell\/X.env.kindOf x=Z .free)/\scope.names.lookup x=Z .free/\∃c,cl.lookup x=Z c)/\Iw X scope cl xs is
 |_,_=>False
theorem Iw.get{X:Cx}{scope:Scope}{cl:O (AJ×A1)}:∀{xs:AZ} {is:O Nat},Iw X scope cl xs is->xs.length=is.length/\∀(j:Nat) (x:AJ),xs[j]?=Z x->∃i,is[j]?=Z i/\X.N[i]?=Z x/\(X.env.kindOf x=Z .cell\/X.env.kindOf x=Z .free)/\scope.names.lookup x=Z .free/\∃c,cl.lookup x=Z c
 |[],[],_=>⟨rfl,λj x e=>by simp at e⟩
 |x::xs,i::is,h=>by
  obtain⟨h1,h2⟩:=h;obtain⟨l,g⟩:=Iw.get h2;refine⟨by simp[l],λj y e=>?_⟩;cases j with
  |zero=>simp at e;subst e;exact⟨i,rfl,h1⟩
  |succ j=>obtain⟨k,e1,e2⟩:=g j y (by simpa using e);exact⟨k,by simpa using e1,e2⟩
 |[],_::_,h=>h.elim
 |_::_,[],h=>h.elim
structure Iz (X:Cx) (scope:Scope) (cl:List (Str×Addr)) (x:Str) (xs:AZ) (is:List Nat):Prop where
 clos:closureFor scope X.env=pure cl
 kind:scope.kind=.function
 co:scope.isCoroutine=false
 gen:scope.isGenerator=false
 aa4:∀y∈scope.names,y.2≠.cell
 par:scope.names.lookup x=some .local
 sub:Bz X.env.cells cl
 has:∀y∈scope.names,y.2=.free->∃c,cl.lookup y.1=some c
 cap:Iw X scope cl xs is
def DB(X:Cx)(A:A5)(a:AZ)(env:Env)(s₀:A2)(H₀:Hp):Cx:=
 { X with A:=A.deeper env,N:=a,s₀:=s₀,H₀:=H₀,env:=env,outer:=X.stack,stack:=env::X.stack,ex:=[],calm:=true,fn:=λ_=>false,pn:=[],xe:=λ_ _=>False }
section
variable{q:AJ}{body:Expr}{xs:AZ}{f c':A1}
theorem Z5{h1:A6}{t1:Nat}(I:L2.AU X AN σ H s)(O:Iz X scope cl x xs is)(C:A.frames=Z X.stack)(E:A.handled=U)(r:As v u)(hn:h1.Ns s.heap.objs.size (λy=>[(x,u)].reverse.lookup y))(hk:∀b o,s.heap.get? b=Z o->h1.get? b=Z o):
  L2.AU (DB X A (x::xs) (envX q scope s.heap.objs.size f (.ref c') cl) s H) [] (Z v::sE is σ) H { s with heap:=h1,toks:=t1 }:=by
 obtain⟨K,P⟩:=O.cap.get;have g:∀b:A1,b∉(DB X A (x::xs) (envX q scope s.heap.objs.size f (.ref c') cl) s H).ex:=λb z=>absurd (show b∈([]:List A1) from z) (by simp);have d:∀y c,cl.lookup y=Z c->X.env.cells.lookup y=Z c:=λy c e=>O.sub.get e;refine⟨⟨I.ok.mod,O.kind,rfl,rfl,zo _,λy z c e1 e2=>I.ok.inj y z c (d _ _ e1) (d _ _ e2),λy a=>?_,λy c h _=>absurd h (by show ¬ (false=true);simp),λ_=>E,Around.frames_deeper C,.inr ⟨rfl,rfl⟩,λb z=>absurd z (g b),I.bs,zD I.ok.Ym I.sz,λb _ _=>g b,λb z=>absurd z (g b),I.stack,I.Jl,I.ok.tabs.go I.base.zp⟩,
  rfl,I.bare,Un.kept hk,⟨_,hn,λj y w e1 e2 _=>?_⟩,λy c e=>?_,I.hok.fresh (zo _),λy c e=>I.qR y c (d _ _ e),λp hp=>absurd (show p∈([]:List (A1×AE)) from hp) (by simp),I.hok.kept hk,?_⟩
 ·have a:scope.names.lookup y=Z .cell\/scope.names.lookup y=Z .free:=a;rcases a with a|a
  ·exact absurd S (O.aa4 _ (qV a))
  ·exact O.has _ (qV a) rfl
 ·cases j with
  |zero=>
   have e1:Z x=Z y:=e1;have e2:Z (Z v)=Z (Z w):=e2;cases e1;cases e2;exact⟨u,r,.inl ⟨O.par,by simp⟩⟩
  |succ j=>
   have e1:xs[j]?=Z y:=e1;have e2:(sE is σ)[j]?=Z (Z w):=e2;obtain⟨i,B,n,k,F,c,t⟩:=P j y e1;have e3:σ[i]?=Z (Z w):=by
    unfold sE at e2;rw[ZI,B]at e2;cases q:σ[i]? with
    |none=>rw[k4,q]at e2;cases e2
    |some o=>
     rw[k4,q]at e2;have:o=Z w:=by simpa using e2
     rw[this]
   have Q:Qv X.env.scope y:=by
    rcases k with k|k
    ·exact .inr (.inl k)
    ·exact .inr (.inr k)
   obtain⟨m',a0,W⟩:=I.loc;obtain⟨N,G,l⟩:=W i y w n e3 Q;refine⟨N,G,?_⟩;rcases l with⟨L,_⟩|⟨_,c2,M,J⟩
   ·rcases k with k|k<;>(rw[L]at k;cases k)
   ·have:=d _ _ t;rw[M]at this;cases this;obtain⟨o,m,hd⟩:=J;exact .inr ⟨.inr F,_,t,o,hk _ o m,hd⟩
 ·obtain⟨D,o,m,hd⟩:=I.cell y c (d _ _ e);exact⟨D,o,hk _ _ m,hd⟩
 ·show(Z v::sE is σ).length=(x::xs).length;simp[sE,K]
theorem Z6{y:Bx}(I:L2.AU X AN σ H s)(O:Iz X scope cl x xs is)(N:A.frames=Z X.stack)(hh:A.handled=U)(b0:A.depth<recursionLimit)(L:Iv H f q params body scope cl pm)(a6:∀a9 ct u,bindArgs (kla_fn "<lambda>" q params body scope cl pm a9 ct) ⟨[u],[]⟩=pure [(x,u)])(hb:∀f c' s H,PV (DB X A (x::xs) (envX q scope s.heap.objs.size f (.ref c') cl) s H) body fb)(E:bD X.K H0 H σ ρ)(r:As v u)(rd:AW X.K H d v)(e:fb (Z (.z d)::j7 is ρ)=Z y):
  A7 (eh X) A (call (.ref f) [u]) (λF s'=>∃g H',L2.AU X AN σ H' s'/\As g F/\AV H H'/\Nw H y g/\aU X.K H' y g) (λ_ _=>False) s:=by
 obtain⟨c',b3,P,vs,t,a1,a2,a3,a4⟩:=L.at_;have hf:=(I.hok _ _ a1).1;have hc:=(I.hok _ _ a2).1;refine wpAny_call (PySem.W.kla_callFunE b0 hf S O.co O.gen S ⟨c',P,vs,t,rfl,hc,a3,a4⟩ ?_);rw[a6];refine zd (wpAny_newFunctionEnv O.aa4 (λz M=>by rw[ag.mp M];exact O.par) (λa8 a5 G=>⟨(I.nolimit).fresh _ G,?_⟩) O.kind);show AF _ _ (.expr body (envX q scope s.heap.objs.size f (.ref c') cl)) _ _;have a0:∀b o,s.heap.get? b=Z o->a8.get? b=Z o:=λb o e=>G.extBut b o (zC (zt e)) (zg _ e);have J:=Z5 (t1:=s.toks+1) (c':=c') (f:=f) (q:=q) I O N hh r a5 a0;have E0:=E.caps is 0;have E1:bD X.K H H (Z v::sE is σ) (Z (.z d)::j7 is ρ):=by
  have C:=E0.len;simp only[List.replicate_zero,Q2]at E0 C;refine⟨by simpa using C,λi b e=>?_,λi j c a b e h=>?_,AV.refl H,λi c a e h=>?_⟩
  ·cases i with
   |zero=>cases e;exact⟨v,rfl,rd⟩
   |succ i=>exact E0.val i b (by simpa using e)
  ·cases i with
   |zero=>cases e;cases h
   |succ i=>
    intro h1 h2 D h4;cases j with
    |zero=>cases h2;cases D
    |succ j=>rw[E0.own i j c a b (by simpa using e) h (by simpa using h1) (by simpa using h2) D (by simpa using h4)]
  ·cases i with
   |zero=>cases e;cases h
   |succ i=>intro h1;exact E0.new i c a (by simpa using e) h (by simpa using h1)
 refine PySem.W.kla_codeExpr (ZU (hb f c' s H [] _ _ _ (λg H'=>AV H H'/\Nw H y g/\aU X.K H' y g) J ⟨H,_,y,E1,e,λg H' B n p=>⟨B,n,p⟩⟩) (λF s' m=>?_) λe s' m=>m.elim);obtain⟨g,H',l,rv,B,n,p⟩:=m;obtain⟨v2,H2,I2,a7,s2,n2,r2⟩:=I.after (Q:=λg H'=>AV H H'/\Nw H y g/\aU X.K H' y g) ⟨g,H',l.os,l.bare,l.base,l.hok,rv,B,n,p⟩;exact⟨v2,H2,I2,a7,s2,n2,r2⟩
end
end P1
namespace P1
open L2 S1
def u6(bt:Dt->Dt->Bool):Dt->Dt->O (Dt×Dt)->Dt
 |b,_,[]=>b
 |b,kb,(d,k)::r=>if bt k kb=true then u6 bt d k r else u6 bt b kb r
def BN(uF:Dt->Bool)(fk:Dt->Y Bx):O Dt->Y (O (Dt×Dt))
 |[]=>Z []
 |d::ds=>match fk d with
  |some (.z k)=>if uF k=true then(BN uF fk ds).bind λr=>Z ((d,k)::r)else U
  |_=>U
def z7(X:Cx)(σ:L2.St)(H1:Hp)(f:A1)(fk:Dt->Y Bx):Prop:=∀(AN:O (A1×AE)) (s:A2) (H:Hp) (d k:Dt) (v:V) (u:A0),L2.AU X AN σ H s->AV H1 H->As v u->AW X.K H d v->fk d=Z (.z k) →
 A7 (eh X) X.A.in1 (call (.ref f) [u]) (λb s'=>∃a H',L2.AU X AN σ H' s'/\As a b/\AV H H'/\AW X.K H' k a) (λ_ _=>False) s
def u9(X:Cx)(op:CmpOp)(bt:Dt->Dt->Bool)(uF:Dt->Bool):Prop:=∀(AN:O (A1×AE)) (σ:L2.St) (H:Hp) (s:A2) (a b:Dt) (f c:V) (d e:A0) (Q:BF) (E:BF),L2.AU X AN σ H s->As f d->As c e →
 AW X.K H a f->AW X.K H b c->uF a=true->uF b=true->Q (.bool (bt a b)) s->A7 (eh X) X.A.in1 (richCompare op d e) Q E s
theorem oY{H1:Hp}{S:A1}(s:AV H1 H)(h:H1 S=U):AV H1 (B6 H S o):=λa u e=>by
 rw[aX (cu e h)];exact s a u e
theorem lV{r:O (Dt×Dt)}(h:BN uF fk (d::ds)=Z r):∃k a,fk d=Z (.z k)/\uF k=true/\BN uF fk ds=Z a/\r=(d,k)::a:=by
 simp only[BN]at h;split at h
 ·rename_i k hk;split at h
  ·rename_i ok;obtain⟨a,e,h⟩:=AT h;cases h;exact⟨k,a,hk,ok,e,rfl⟩
  ·cases h
 ·cases h
theorem kZ{H':Hp}(h:qQ K H a xs)(s:AV H H'):qQ K H' a xs:=by
 rcases h with (h|⟨o,h⟩)|h
 ·exact .inl (.inl (s _ _ h))
 ·exact .inl (.inr ⟨o,s _ _ h⟩)
 ·exact .inr h
theorem Bm{p:A1×AE}(I:L2.AU X AN σ H s)(h1:s.heap.get? p.1=Z p.2)(h2:H p.1=U)(d:p.1≠X.env.locals)(b:p.1∉X.fs)(c:∀v,p.2.data≠.cell v):L2.AU X (p::AN) σ H s:=
 I.zq λq a=>by
  rcases List.mem_cons.mp a with rfl|a
  ·exact⟨h1,h2,d,b,c⟩
  ·exact I.pin q (zz _ a)
theorem wY{p:A1×AE}(I:L2.AU X (p::AN) σ H s):L2.AU X AN σ H s:=
 I.zq λq a=>I.pin q (zz _ (zh _ a))
section
variable{R:Result->A2->Prop}
theorem WR{f S a:A1}{H1:Hp}{a7:Dt}(a9:X.calm=true)(hT:z7 X σ H1 f fk)(hC:u9 X .Lt bt uF)(hl:qQ X.K H1 l vs)(a6:aH X.K H1 ds vs)(b4:H1 S=U)(b5:l≠a)(d3:S≠a)(a2:a≠X.env.locals)(b9:X.s₀.heap.objs.size<=a)(d1:a∉X.fs)(WT:∀x c,X.env.cells.lookup x=Z c->c≠a)(WW:∀p∈X.pn++AN,p.1≠a)(hR:∀v u H' s',L2.AU X AN σ H' s'->AV H1 H'->As v u->AW X.K H' a7 v->R (.ok (.ret u)) s'):
  ∀(r:O (Dt×Dt)) (j:Nat) (s:A2) (H:Hp) (i:AE) (d k:Dt) (t B:V),BN uF fk (ds.drop j)=Z r->j<=ds.length->L2.AU X ((a,i)::AN) σ H s->AV H1 H->i.cls=.type "list_iterator" → i.data=.fields #[.ref l,.int j 0] →
   H S=Z (.lst [t,B])->AW X.K H d t->AW X.K H k B->uF k=true->u6 bt d k r=a7 →
   AF (eh X) X.A (.builtin "min.loop" ⟨[.ref a,.ref f,.ref S],[]⟩) R s:=by
 have b7:(toString "min" ++ toString ".loop":String) ="min.loop":=by decide
 intro r
 induction r with
 |nil=>
  intro j s H i d k t B hk hj I m a5 a4 q rd rk ok g;have hh:X.A.in1.handled=U:=I.ok.hd a9;have c5:ds.drop j=[]:=by
   cases e:ds.drop j with
   |nil=>rfl
   |cons x y=>
    rw[e]at hk;obtain⟨_,_,_,_,_,h⟩:=lV hk;cases h
  have P:j=ds.length:=by
   have:=congrArg aE c5;rw[QP]at this;simp at this;omega
  obtain⟨AQ,N,pl,hz⟩:=I.list (kZ hl m);have a8:AQ.length=ds.length:=by rw[<-N.length,a6.length]
  obtain⟨_,c6,n2,rs,_,eS⟩:=I.CP q;obtain⟨u1,u2,rfl,c0,b3⟩:=C7 rs;have gI:=(I.pin (a,i) (zz _ ze)).1;have W:=Walks.list (prog:=X.prog) (w:=X.w) (A:=X.A.in1) hh a l b5 AQ.toArray;refine Qb PySem.F.entry_min_loop ?_;rw[Around.under_plainId qA _];show A7 _ X.A.in1 (seqItems? (.ref S) >>= _) _ _ _;refine zb (JO eS rfl ?_);show A7 _ X.A.in1 (tryCatch (pyNext (.ref a)) _ >>= _) _ _ _;refine zb (qa (W.done _ _ _ ⟨⟨i,gI,a5,by rw[a4,zl,a8,<-P]⟩,pl.isList⟩ λh' D Q=>?_));have I1:L2.AU X AN σ H { s with heap:=h',toks:=D }:=(wY I).turned (it:=a) (λb o g e=>Q b o (by simpa using g) e) (I.pin (a,i) (zz _ ze)).2.1 a2 (.inr b9) WT WW;have b8:=Q S _ (by simpa using d3) eS;show A7 _ X.A.in1 (updateSeq S (λ_=>#[]) >>= _) _ _ _;refine zb ?_;refine kf b8 rfl (zb (km (zd ?_)));have s1:=jv h' S (Obj.mapSeq λ_=>(#[]:Array A0));obtain⟨c2,L⟩:∃c2,(h'.update S (Obj.mapSeq λ_=>(#[]:Array A0))).get? S=Z { cls:=.type "list",data:=.seq #[] c2 }:=⟨_,get?_update_seq b8 λ_=>#[]⟩;have n:L2.AU X AN σ (B6 H S (.lst [])) { s with heap:=h'.update S (Obj.mapSeq λ_=>(#[]:Array A0)),toks:=D }:=I1.write (by rw[q];trivial) (.inl rfl) (λb u g e=>(s1.2 b g).trans e) ⟨_,L⟩ ⟨Z3 _,[],c2,.nil,L⟩;have e0:d=a7:=g;subst e0;exact hR t u1 _ _ n (oY m b4) c0 (rd.kp (Kp.lst q))
 |cons dk r ih=>
  intro j s H i d k t B hk hj I m a5 a4 q rd rk ok g;have hh:X.A.in1.handled=U:=I.ok.hd a9;obtain⟨d2,AS,M⟩:∃d2 AS,ds.drop j=d2::AS:=by
   cases e:ds.drop j with
   |nil=>rw[e]at hk;cases hk
   |cons x y=>exact⟨x,y,rfl⟩
  have P:j<ds.length:=by
   have:=congrArg aE M;rw[QP]at this;simp at this;omega
  have c3:ds[j]?=Z d2:=by
   have:=congrArg (·[0]?) M;simpa using this
  have c1:ds.drop (j+1)=AS:=by
   have:=congrArg List.tail M;rw[List.tail_drop]at this;simpa using this
  rw[M]at hk;obtain⟨G,r',d6,J7,b0,hk⟩:=lV hk;cases hk;obtain⟨v2,d4,WX⟩:=a6.get c3;obtain⟨AQ,N,pl,hz⟩:=I.list (kZ hl m);have a8:AQ.length=ds.length:=by rw[<-N.length,a6.length]
  obtain⟨w2,d0,WY⟩:=N.get d4;obtain⟨_,c6,n2,rs,_,eS⟩:=I.CP q;obtain⟨u1,u2,rfl,c0,b3⟩:=C7 rs;have pI:=I.pin (a,i) (zz _ ze);have W:=Walks.list (prog:=X.prog) (w:=X.w) (A:=X.A.in1) hh a l b5 AQ.toArray;refine Qb PySem.F.entry_min_loop ?_;rw[Around.under_plainId qA _];show A7 _ X.A.in1 (seqItems? (.ref S) >>= _) _ _ _;refine zb (JO eS rfl ?_);show A7 _ X.A.in1 (tryCatch (pyNext (.ref a)) _ >>= _) _ _ _;refine zb (qa (W.item j _ _ _ (by rw[zl];omega) ⟨⟨i,pI.1,a5,a4⟩,pl.isList⟩ λv h' D hP d5 Q=>?_));have hv:v=w2:=by
   rw[QU,d0]at hP;cases hP;rfl
  subst hv;obtain⟨a1,c4,J8,a3⟩:=id d5.1;have I1:L2.AU X ((a,a1)::AN) σ H { s with heap:=h',toks:=D }:=Bm ((wY I).turned (it:=a) (t':=D) (λb o g e=>Q b o (by simpa using g) e) pI.2.1 a2 (.inr b9) WT WW) c4 pI.2.1 a2 d1 (λv z=>by rw[a3]at z;cases z);show A7 _ X.A.in1 (tryCatch (holding [v] (call (.ref f) [v])) _ >>= _) _ _ _;refine zb (qa (ZA (ZU (hT _ _ H d2 G v2 v I1 m WY (WX.kp (.of m)) d6) (λx E he=>?_) λ_ _ hF=>hF.elim)));obtain⟨kv,H2,n,Z7,C,Z8⟩:=he;have J:=C _ _ q;obtain⟨_,d8,n3,d9,_,W0⟩:=n.CP J;have c9:=rd.kp (.of C);have b6:=rk.kp (.of C);show A7 _ X.A.in1 (tryCatch (holding [v,x] (richCompare .Lt x u2 >>= _)) _ >>= _) _ _ _;refine zb (qa (ZA (zb (hC _ _ _ _ G k kv B x u2 _ _ n Z7 b3 Z8 b6 J7 ok ?_))));refine zb (ZA (Q3 ?_));refine zb (km (zd ?_));simp only[u6]at g;by_cases a0:bt G k=true
  ·rw[zr a0]at g;simp only[a0,qk];have s1:=jv E.heap S (Obj.mapSeq λ_=>#[v,x]);obtain⟨c2,L⟩:∃c2,(E.heap.update S (Obj.mapSeq λ_=>#[v,x])).get? S=Z { cls:=.type "list",data:=.seq #[v,x] c2 }:=⟨_,get?_update_seq W0 λ_=>#[v,x]⟩;have I3:L2.AU X ((a,a1)::AN) σ (B6 H2 S (.lst [v2,kv])) { E with heap:=E.heap.update S (Obj.mapSeq λ_=>#[v,x]) }:=n.write (t':=E.toks) (by rw[J];trivial) (.inl rfl) (λb u g e=>(s1.2 b g).trans e) ⟨_,L⟩ ⟨(show 2<=AA by decide),[v,x],c2,.cons WY (.cons Z7 .nil),L⟩;refine zb ?_;refine kf W0 rfl (zb (km ?_));rw[b7];exact zd ⟨plainId_quiet qA _,ih (j+1) _ _ a1 d2 G v2 kv (by rw[c1];exact b0) P I3 (oY (m.trans C) b4) J8 (by rw[a3]) aW (((WX.kp (.of m)).kp (.of C)).kp (Kp.lst J)) (Z8.kp (Kp.lst J)) J7 g⟩
  ·rw[zS a0]at g;have c8:bt G k=false:=by simpa using a0
   simp only[c8,zI,ZY];refine zb (km ?_);rw[b7];exact zd ⟨plainId_quiet qA _,ih (j+1) _ _ a1 d k t B (by rw[c1];exact b0) P n (m.trans C) J8 (by rw[a3]) J c9 b6 ok g⟩
theorem J9(a v:A0):argsOk "min" ⟨[a],[(Str.ofString "key",v)]⟩:=by unfold argsOk;kernel_rfl
theorem Z9{f:A1}{a5 d0 t:Dt}{C:O (Dt×Dt)}(I:L2.AU X AN σ H s)(a2:X.calm=true)(hT:z7 X σ H f fk)(hC:u9 X .Lt bt uF)(D:qQ X.K H l vs)(P:aH X.K H ds vs)(hk:BN uF fk ds=Z ((d0,t)::C))(g:u6 bt d0 t C=a5)(hQ:∀v u H' s',L2.AU X AN σ H' s'->AV H H'->As v u->AW X.K H' a5 v->Q u s'):
  A7 (eh X) X.A (call (.builtin "min") [.ref l] [(Str.ofString "key", .ref f)]) Q E s:=by
 have a3:(toString "min" ++ toString ".loop":String) ="min.loop":=by decide
 have hh:X.A.in1.handled=U:=I.ok.hd a2;obtain⟨AQ,rv,pl,hz⟩:=I.list D;have b4:l<s.heap.objs.size:=by obtain⟨o,n,e,_⟩:=pl;exact zt e
 refine kmk_tree PySem.F.kind_min PySem.F.plain_min PySem.F.entry_min (J9 _ _) ?_;show A7 _ X.A.in1 (Builtin.Builtins.bindParams "min" ["key","default"] 0 ⟨[],[(Str.ofString "key", .ref f)]⟩ >>= _) _ _ s;refine zb (wpAny_of_eq (show Builtin.Builtins.bindParams "min" ["key","default"] 0 ⟨[],[(Str.ofString "key", .ref f)]⟩=pure [Z (.ref f),U] from S) ?_);refine zb (zd ?_);refine zb (ky pl.isList ?_);refine zb (Kk ?_ (Z3 _));rw[a3];generalize hoI:({ cls:=.type "list_iterator",data:=.fields #[.ref l,.int 0 0] }:AE)=oI;have hS:(s.heap.push oI).objs.size=s.heap.objs.size+1:=size_push' ..;have c3:(s.heap.push oI).get? s.heap.objs.size=Z oI:=zw _ (by rw[<-hoI];rfl);have m:s.heap.objs.size≠X.env.locals:=be I.lt;have a9:X.s₀.heap.objs.size<=s.heap.objs.size:=I.sz;have G:s.heap.objs.size∉X.fs:=I.abn (zo _);have WT:∀x c,X.env.cells.lookup x=Z c->c≠s.heap.objs.size:=λx c e=>by obtain⟨v,o,ho,_⟩:=I.cell x c e;exact zC (zt ho)
 have WW:∀p∈X.pn++AN,p.1≠s.heap.objs.size:=λp hp=>zC (zt (I.pin p hp).1);have a6:l≠s.heap.objs.size:=zC b4;have c0:(s.heap.push oI).objs.size≠s.heap.objs.size:=by rw[hS];exact Nat.succ_ne_self _
 have fI:H s.heap.objs.size=U:=I.hok.fresh (zo _);have fS:H (s.heap.push oI).objs.size=U:=I.hok.fresh (by rw[hS];exact Kb _);have I1:L2.AU X ((s.heap.objs.size,oI)::AN) σ H { s with heap:=s.heap.push oI }:=Bm (I.kept (t':=s.toks) λb o e=>zg _ e) c3 fI m G (λv z=>by rw[<-hoI]at z;cases z);have j:L2.AU X ((s.heap.objs.size,oI)::AN) σ (B6 H (s.heap.push oI).objs.size (.lst [])) { s with heap:=(s.heap.push oI).push { cls:=.type "list",data:=.seq #[] } }:=I1.laid (t':=s.toks) (λb o e=>zg _ e) (zo _) ⟨Z3 _,[],0,.nil,zw _ rfl⟩;have a:AV H (B6 H (s.heap.push oI).objs.size (.lst [])):=bf fS;refine zd ⟨plainId_quiet qA _,?_⟩;obtain⟨d2,AS,b0⟩:∃d2 AS,ds=d2::AS:=by
  cases e:ds with
  |nil=>rw[e]at hk;cases hk
  |cons x y=>exact⟨x,y,rfl⟩
 subst b0;obtain⟨k2,r',c4,J7,c1,hk⟩:=lV hk;cases hk;obtain⟨J,c5,WX⟩:=P.get (i:=0) (d:=d0) rfl;obtain⟨a8,b9,b3,_⟩:=j.list (kZ D a);obtain⟨w2,a4,N⟩:=b9.get c5;have B:=j.pin (s.heap.objs.size,oI) (zz _ ze);obtain⟨_,c8,n2,rs,_,eS⟩:=j.CP (l:=(s.heap.push oI).objs.size) (xs:=[]) aW;cases rs;have W:=Walks.list (prog:=X.prog) (w:=X.w) (A:=X.A.in1) hh s.heap.objs.size l a6 a8.toArray;refine Qb PySem.F.entry_min_loop ?_;rw[Around.under_plainId qA _];show A7 _ X.A.in1 (seqItems? (.ref _) >>= _) _ _ _;refine zb (JO eS S ?_);show A7 _ X.A.in1 (tryCatch (pyNext (.ref s.heap.objs.size)) _ >>= _) _ _ _;have b8:0<a8.length:=(af.mp a4).1;refine zb (qa (W.item 0 _ _ _ (by rw[zl];exact b8) ⟨⟨oI,B.1,by rw[<-hoI],by rw[<-hoI];rfl⟩,b3.isList⟩ λv h' a1 hP b6 b5=>?_));have hv:v=w2:=by
  rw[QU,a4]at hP;cases hP;rfl
 subst hv;obtain⟨M,c6,J8,a0⟩:=id b6.1;have b7:=(wY j).turned (h':=h') (it:=s.heap.objs.size) (t':=a1) (λb o g e=>b5 b o (by simpa using g) e) B.2.1 m (.inr a9) WT WW;have I3:L2.AU X ((s.heap.objs.size,M)::AN) σ (B6 H (s.heap.push oI).objs.size (.lst [])) { s with heap:=h',toks:=a1 }:=Bm b7 c6 B.2.1 m G (λv z=>by rw[a0]at z;cases z);show A7 _ X.A.in1 (tryCatch (holding [v] (call (.ref f) [v])) _ >>= _) _ _ _;refine zb (qa (ZA (ZU (hT _ _ _ d0 t J v I3 a N (WX.kp (.of a)) c4) (λx h he=>?_) λ_ _ hF=>hF.elim)));obtain⟨kv,H2,I4,Z7,L,Z8⟩:=he;have q:=L _ _ (show(B6 H (s.heap.push oI).objs.size (.lst [])) (s.heap.push oI).objs.size=Z (.lst []) from aW);obtain⟨_,d1,n3,c9,_,W0⟩:=I4.CP q;have s1:=jv h.heap (s.heap.push oI).objs.size (Obj.mapSeq λ_=>#[v,x]);obtain⟨c2,a7⟩:∃c2,(h.heap.update (s.heap.push oI).objs.size (Obj.mapSeq λ_=>#[v,x])).get? (s.heap.push oI).objs.size=Z { cls:=.type "list",data:=.seq #[v,x] c2 }:=⟨_,get?_update_seq W0 λ_=>#[v,x]⟩;have I5:L2.AU X ((s.heap.objs.size,M)::AN) σ (B6 H2 (s.heap.push oI).objs.size (.lst [J,kv])) { h with heap:=h.heap.update (s.heap.push oI).objs.size (Obj.mapSeq λ_=>#[v,x]) }:=I4.write (t':=h.toks) (by rw[q];trivial) (.inl S) (λb u g e=>(s1.2 b g).trans e) ⟨_,a7⟩ ⟨(show 2<=AA by decide),[v,x],c2,.cons N (.cons Z7 .nil),a7⟩;show A7 _ X.A.in1 (updateSeq (s.heap.push oI).objs.size (λ_=>#[v,x]) >>= _) _ _ _;refine zb ?_;refine kf W0 S ?_;rw[a3];exact zd ⟨plainId_quiet qA _,WR a2 hT hC D P fS a6 c0 m a9 G WT WW hQ C 1 _ _ M d0 t J kv c1 (by simp) I5 (oY (a.trans L) fS) J8 (by rw[a0]) aW (((WX.kp (.of a)).kp (.of L)).kp (Kp.lst q)) (Z8.kp (Kp.lst q)) J7 g⟩
theorem W2{f S a:A1}{H1:Hp}{a7:Dt}(a9:X.calm=true)(hT:z7 X σ H1 f fk)(hC:u9 X .Gt bt uF)(hl:qQ X.K H1 l vs)(a6:aH X.K H1 ds vs)(b4:H1 S=U)(b5:l≠a)(d3:S≠a)(a2:a≠X.env.locals)(b9:X.s₀.heap.objs.size<=a)(d1:a∉X.fs)(WT:∀x c,X.env.cells.lookup x=Z c->c≠a)(WW:∀p∈X.pn++AN,p.1≠a)(hR:∀v u H' s',L2.AU X AN σ H' s'->AV H1 H'->As v u->AW X.K H' a7 v->R (.ok (.ret u)) s'):
  ∀(r:O (Dt×Dt)) (j:Nat) (s:A2) (H:Hp) (i:AE) (d k:Dt) (t B:V),BN uF fk (ds.drop j)=Z r->j<=ds.length->L2.AU X ((a,i)::AN) σ H s->AV H1 H->i.cls=.type "list_iterator" → i.data=.fields #[.ref l,.int j 0] →
   H S=Z (.lst [t,B])->AW X.K H d t->AW X.K H k B->uF k=true->u6 bt d k r=a7 →
   AF (eh X) X.A (.builtin "max.loop" ⟨[.ref a,.ref f,.ref S],[]⟩) R s:=by
 have b7:(toString "max" ++ toString ".loop":String) ="max.loop":=by decide
 intro r
 induction r with
 |nil=>
  intro j s H i d k t B hk hj I m a5 a4 q rd rk ok g;have hh:X.A.in1.handled=U:=I.ok.hd a9;have c5:ds.drop j=[]:=by
   cases e:ds.drop j with
   |nil=>rfl
   |cons x y=>
    rw[e]at hk;obtain⟨_,_,_,_,_,h⟩:=lV hk;cases h
  have P:j=ds.length:=by
   have:=congrArg aE c5;rw[QP]at this;simp at this;omega
  obtain⟨AQ,N,pl,hz⟩:=I.list (kZ hl m);have a8:AQ.length=ds.length:=by rw[<-N.length,a6.length]
  obtain⟨_,c6,n2,rs,_,eS⟩:=I.CP q;obtain⟨u1,u2,rfl,c0,b3⟩:=C7 rs;have gI:=(I.pin (a,i) (zz _ ze)).1;have W:=Walks.list (prog:=X.prog) (w:=X.w) (A:=X.A.in1) hh a l b5 AQ.toArray;refine Qb PySem.F.entry_max_loop ?_;rw[Around.under_plainId qB _];show A7 _ X.A.in1 (seqItems? (.ref S) >>= _) _ _ _;refine zb (JO eS rfl ?_);show A7 _ X.A.in1 (tryCatch (pyNext (.ref a)) _ >>= _) _ _ _;refine zb (qa (W.done _ _ _ ⟨⟨i,gI,a5,by rw[a4,zl,a8,<-P]⟩,pl.isList⟩ λh' D Q=>?_));have I1:L2.AU X AN σ H { s with heap:=h',toks:=D }:=(wY I).turned (it:=a) (λb o g e=>Q b o (by simpa using g) e) (I.pin (a,i) (zz _ ze)).2.1 a2 (.inr b9) WT WW;have b8:=Q S _ (by simpa using d3) eS;show A7 _ X.A.in1 (updateSeq S (λ_=>#[]) >>= _) _ _ _;refine zb ?_;refine kf b8 rfl (zb (km (zd ?_)));have s1:=jv h' S (Obj.mapSeq λ_=>(#[]:Array A0));obtain⟨c2,L⟩:∃c2,(h'.update S (Obj.mapSeq λ_=>(#[]:Array A0))).get? S=Z { cls:=.type "list",data:=.seq #[] c2 }:=⟨_,get?_update_seq b8 λ_=>#[]⟩;have n:L2.AU X AN σ (B6 H S (.lst [])) { s with heap:=h'.update S (Obj.mapSeq λ_=>(#[]:Array A0)),toks:=D }:=I1.write (by rw[q];trivial) (.inl rfl) (λb u g e=>(s1.2 b g).trans e) ⟨_,L⟩ ⟨Z3 _,[],c2,.nil,L⟩;have e0:d=a7:=g;subst e0;exact hR t u1 _ _ n (oY m b4) c0 (rd.kp (Kp.lst q))
 |cons dk r ih=>
  intro j s H i d k t B hk hj I m a5 a4 q rd rk ok g;have hh:X.A.in1.handled=U:=I.ok.hd a9;obtain⟨d2,AS,M⟩:∃d2 AS,ds.drop j=d2::AS:=by
   cases e:ds.drop j with
   |nil=>rw[e]at hk;cases hk
   |cons x y=>exact⟨x,y,rfl⟩
  have P:j<ds.length:=by
   have:=congrArg aE M;rw[QP]at this;simp at this;omega
  have c3:ds[j]?=Z d2:=by
   have:=congrArg (·[0]?) M;simpa using this
  have c1:ds.drop (j+1)=AS:=by
   have:=congrArg List.tail M;rw[List.tail_drop]at this;simpa using this
  rw[M]at hk;obtain⟨G,r',d6,J7,b0,hk⟩:=lV hk;cases hk;obtain⟨v2,d4,WX⟩:=a6.get c3;obtain⟨AQ,N,pl,hz⟩:=I.list (kZ hl m);have a8:AQ.length=ds.length:=by rw[<-N.length,a6.length]
  obtain⟨w2,d0,WY⟩:=N.get d4;obtain⟨_,c6,n2,rs,_,eS⟩:=I.CP q;obtain⟨u1,u2,rfl,c0,b3⟩:=C7 rs;have pI:=I.pin (a,i) (zz _ ze);have W:=Walks.list (prog:=X.prog) (w:=X.w) (A:=X.A.in1) hh a l b5 AQ.toArray;refine Qb PySem.F.entry_max_loop ?_;rw[Around.under_plainId qB _];show A7 _ X.A.in1 (seqItems? (.ref S) >>= _) _ _ _;refine zb (JO eS rfl ?_);show A7 _ X.A.in1 (tryCatch (pyNext (.ref a)) _ >>= _) _ _ _;refine zb (qa (W.item j _ _ _ (by rw[zl];omega) ⟨⟨i,pI.1,a5,a4⟩,pl.isList⟩ λv h' D hP d5 Q=>?_));have hv:v=w2:=by
   rw[QU,d0]at hP;cases hP;rfl
  subst hv;obtain⟨a1,c4,J8,a3⟩:=id d5.1;have I1:L2.AU X ((a,a1)::AN) σ H { s with heap:=h',toks:=D }:=Bm ((wY I).turned (it:=a) (t':=D) (λb o g e=>Q b o (by simpa using g) e) pI.2.1 a2 (.inr b9) WT WW) c4 pI.2.1 a2 d1 (λv z=>by rw[a3]at z;cases z);show A7 _ X.A.in1 (tryCatch (holding [v] (call (.ref f) [v])) _ >>= _) _ _ _;refine zb (qa (ZA (ZU (hT _ _ H d2 G v2 v I1 m WY (WX.kp (.of m)) d6) (λx E he=>?_) λ_ _ hF=>hF.elim)));obtain⟨kv,H2,n,Z7,C,Z8⟩:=he;have J:=C _ _ q;obtain⟨_,d8,n3,d9,_,W0⟩:=n.CP J;have c9:=rd.kp (.of C);have b6:=rk.kp (.of C);show A7 _ X.A.in1 (tryCatch (holding [v,x] (richCompare .Gt x u2 >>= _)) _ >>= _) _ _ _;refine zb (qa (ZA (zb (hC _ _ _ _ G k kv B x u2 _ _ n Z7 b3 Z8 b6 J7 ok ?_))));refine zb (ZA (Q3 ?_));refine zb (km (zd ?_));simp only[u6]at g;by_cases a0:bt G k=true
  ·rw[zr a0]at g;simp only[a0,qk];have s1:=jv E.heap S (Obj.mapSeq λ_=>#[v,x]);obtain⟨c2,L⟩:∃c2,(E.heap.update S (Obj.mapSeq λ_=>#[v,x])).get? S=Z { cls:=.type "list",data:=.seq #[v,x] c2 }:=⟨_,get?_update_seq W0 λ_=>#[v,x]⟩;have I3:L2.AU X ((a,a1)::AN) σ (B6 H2 S (.lst [v2,kv])) { E with heap:=E.heap.update S (Obj.mapSeq λ_=>#[v,x]) }:=n.write (t':=E.toks) (by rw[J];trivial) (.inl rfl) (λb u g e=>(s1.2 b g).trans e) ⟨_,L⟩ ⟨(show 2<=AA by decide),[v,x],c2,.cons WY (.cons Z7 .nil),L⟩;refine zb ?_;refine kf W0 rfl (zb (km ?_));rw[b7];exact zd ⟨plainId_quiet qB _,ih (j+1) _ _ a1 d2 G v2 kv (by rw[c1];exact b0) P I3 (oY (m.trans C) b4) J8 (by rw[a3]) aW (((WX.kp (.of m)).kp (.of C)).kp (Kp.lst J)) (Z8.kp (Kp.lst J)) J7 g⟩
  ·rw[zS a0]at g;have c8:bt G k=false:=by simpa using a0
   simp only[c8,zI,ZY];refine zb (km ?_);rw[b7];exact zd ⟨plainId_quiet qB _,ih (j+1) _ _ a1 d k t B (by rw[c1];exact b0) P n (m.trans C) J8 (by rw[a3]) J c9 b6 ok g⟩
theorem Ka(a v:A0):argsOk "max" ⟨[a],[(Str.ofString "key",v)]⟩:=by unfold argsOk;kernel_rfl
theorem OS{f:A1}{a5 d0 t:Dt}{C:O (Dt×Dt)}(I:L2.AU X AN σ H s)(a2:X.calm=true)(hT:z7 X σ H f fk)(hC:u9 X .Gt bt uF)(D:qQ X.K H l vs)(P:aH X.K H ds vs)(hk:BN uF fk ds=Z ((d0,t)::C))(g:u6 bt d0 t C=a5)(hQ:∀v u H' s',L2.AU X AN σ H' s'->AV H H'->As v u->AW X.K H' a5 v->Q u s'):
  A7 (eh X) X.A (call (.builtin "max") [.ref l] [(Str.ofString "key", .ref f)]) Q E s:=by
 have a3:(toString "max" ++ toString ".loop":String) ="max.loop":=by decide
 have hh:X.A.in1.handled=U:=I.ok.hd a2;obtain⟨AQ,rv,pl,hz⟩:=I.list D;have b4:l<s.heap.objs.size:=by obtain⟨o,n,e,_⟩:=pl;exact zt e
 refine kmk_tree PySem.F.kind_max PySem.F.plain_max PySem.F.entry_max (Ka _ _) ?_;show A7 _ X.A.in1 (Builtin.Builtins.bindParams "max" ["key","default"] 0 ⟨[],[(Str.ofString "key", .ref f)]⟩ >>= _) _ _ s;refine zb (wpAny_of_eq (show Builtin.Builtins.bindParams "max" ["key","default"] 0 ⟨[],[(Str.ofString "key", .ref f)]⟩=pure [Z (.ref f),U] from S) ?_);refine zb (zd ?_);refine zb (ky pl.isList ?_);refine zb (Kk ?_ (Z3 _));rw[a3];generalize hoI:({ cls:=.type "list_iterator",data:=.fields #[.ref l,.int 0 0] }:AE)=oI;have hS:(s.heap.push oI).objs.size=s.heap.objs.size+1:=size_push' ..;have c3:(s.heap.push oI).get? s.heap.objs.size=Z oI:=zw _ (by rw[<-hoI];rfl);have m:s.heap.objs.size≠X.env.locals:=be I.lt;have a9:X.s₀.heap.objs.size<=s.heap.objs.size:=I.sz;have G:s.heap.objs.size∉X.fs:=I.abn (zo _);have WT:∀x c,X.env.cells.lookup x=Z c->c≠s.heap.objs.size:=λx c e=>by obtain⟨v,o,ho,_⟩:=I.cell x c e;exact zC (zt ho)
 have WW:∀p∈X.pn++AN,p.1≠s.heap.objs.size:=λp hp=>zC (zt (I.pin p hp).1);have a6:l≠s.heap.objs.size:=zC b4;have c0:(s.heap.push oI).objs.size≠s.heap.objs.size:=by rw[hS];exact Nat.succ_ne_self _
 have fI:H s.heap.objs.size=U:=I.hok.fresh (zo _);have fS:H (s.heap.push oI).objs.size=U:=I.hok.fresh (by rw[hS];exact Kb _);have I1:L2.AU X ((s.heap.objs.size,oI)::AN) σ H { s with heap:=s.heap.push oI }:=Bm (I.kept (t':=s.toks) λb o e=>zg _ e) c3 fI m G (λv z=>by rw[<-hoI]at z;cases z);have j:L2.AU X ((s.heap.objs.size,oI)::AN) σ (B6 H (s.heap.push oI).objs.size (.lst [])) { s with heap:=(s.heap.push oI).push { cls:=.type "list",data:=.seq #[] } }:=I1.laid (t':=s.toks) (λb o e=>zg _ e) (zo _) ⟨Z3 _,[],0,.nil,zw _ rfl⟩;have a:AV H (B6 H (s.heap.push oI).objs.size (.lst [])):=bf fS;refine zd ⟨plainId_quiet qB _,?_⟩;obtain⟨d2,AS,b0⟩:∃d2 AS,ds=d2::AS:=by
  cases e:ds with
  |nil=>rw[e]at hk;cases hk
  |cons x y=>exact⟨x,y,rfl⟩
 subst b0;obtain⟨k2,r',c4,J7,c1,hk⟩:=lV hk;cases hk;obtain⟨J,c5,WX⟩:=P.get (i:=0) (d:=d0) rfl;obtain⟨a8,b9,b3,_⟩:=j.list (kZ D a);obtain⟨w2,a4,N⟩:=b9.get c5;have B:=j.pin (s.heap.objs.size,oI) (zz _ ze);obtain⟨_,c8,n2,rs,_,eS⟩:=j.CP (l:=(s.heap.push oI).objs.size) (xs:=[]) aW;cases rs;have W:=Walks.list (prog:=X.prog) (w:=X.w) (A:=X.A.in1) hh s.heap.objs.size l a6 a8.toArray;refine Qb PySem.F.entry_max_loop ?_;rw[Around.under_plainId qB _];show A7 _ X.A.in1 (seqItems? (.ref _) >>= _) _ _ _;refine zb (JO eS S ?_);show A7 _ X.A.in1 (tryCatch (pyNext (.ref s.heap.objs.size)) _ >>= _) _ _ _;have b8:0<a8.length:=(af.mp a4).1;refine zb (qa (W.item 0 _ _ _ (by rw[zl];exact b8) ⟨⟨oI,B.1,by rw[<-hoI],by rw[<-hoI];rfl⟩,b3.isList⟩ λv h' a1 hP b6 b5=>?_));have hv:v=w2:=by
  rw[QU,a4]at hP;cases hP;rfl
 subst hv;obtain⟨M,c6,J8,a0⟩:=id b6.1;have b7:=(wY j).turned (h':=h') (it:=s.heap.objs.size) (t':=a1) (λb o g e=>b5 b o (by simpa using g) e) B.2.1 m (.inr a9) WT WW;have I3:L2.AU X ((s.heap.objs.size,M)::AN) σ (B6 H (s.heap.push oI).objs.size (.lst [])) { s with heap:=h',toks:=a1 }:=Bm b7 c6 B.2.1 m G (λv z=>by rw[a0]at z;cases z);show A7 _ X.A.in1 (tryCatch (holding [v] (call (.ref f) [v])) _ >>= _) _ _ _;refine zb (qa (ZA (ZU (hT _ _ _ d0 t J v I3 a N (WX.kp (.of a)) c4) (λx h he=>?_) λ_ _ hF=>hF.elim)));obtain⟨kv,H2,I4,Z7,L,Z8⟩:=he;have q:=L _ _ (show(B6 H (s.heap.push oI).objs.size (.lst [])) (s.heap.push oI).objs.size=Z (.lst []) from aW);obtain⟨_,d1,n3,c9,_,W0⟩:=I4.CP q;have s1:=jv h.heap (s.heap.push oI).objs.size (Obj.mapSeq λ_=>#[v,x]);obtain⟨c2,a7⟩:∃c2,(h.heap.update (s.heap.push oI).objs.size (Obj.mapSeq λ_=>#[v,x])).get? (s.heap.push oI).objs.size=Z { cls:=.type "list",data:=.seq #[v,x] c2 }:=⟨_,get?_update_seq W0 λ_=>#[v,x]⟩;have I5:L2.AU X ((s.heap.objs.size,M)::AN) σ (B6 H2 (s.heap.push oI).objs.size (.lst [J,kv])) { h with heap:=h.heap.update (s.heap.push oI).objs.size (Obj.mapSeq λ_=>#[v,x]) }:=I4.write (t':=h.toks) (by rw[q];trivial) (.inl S) (λb u g e=>(s1.2 b g).trans e) ⟨_,a7⟩ ⟨(show 2<=AA by decide),[v,x],c2,.cons N (.cons Z7 .nil),a7⟩;show A7 _ X.A.in1 (updateSeq (s.heap.push oI).objs.size (λ_=>#[v,x]) >>= _) _ _ _;refine zb ?_;refine kf W0 S ?_;rw[a3];exact zd ⟨plainId_quiet qB _,W2 a2 hT hC D P fS a6 c0 m a9 G WT WW hQ C 1 _ _ M d0 t J kv c1 (by simp) I5 (oY (a.trans L) fS) J8 (by rw[a0]) aW (((WX.kp (.of a)).kp (.of L)).kp (Kp.lst q)) (Z8.kp (Kp.lst q)) J7 g⟩
end
def Mz(bt:Dt->Dt->Bool)(uF:Dt->Bool)(fe fb:Ev->Y Bx)(is:O Nat):Ev->Y Bx:=λρ=>(fe ρ).bind λb=>(nO b).bind λds=>(BN uF (λd=>fb (Z (.z d)::j7 is ρ)) ds).bind fun
 |(d,k)::r=>Z (.z (u6 bt d k r))
 |[]=>U
section
variable{body:Expr}{aad p kpos:Pos}{xs:AZ}{c P:A1}{q:AJ}
theorem MF{f:A1}(j:X.calm=true)(hd:X.A.depth<recursionLimit)(O:Iz X scope cl x xs is)(c:∀pm g ct u,bindArgs (kla_fn "<lambda>" q params body scope cl pm g ct) ⟨[u],[]⟩=pure [(x,u)])(l:∀f c' s H,QV (DB X X.A.in1 (x::xs) (envX q scope s.heap.objs.size f (.ref c') cl) s H) body fb)(E:bD X.K H0 H σ ρ)(L:Iv H f q params body scope cl pm):
  z7 X σ H f λd=>fb (Z (.z d)::j7 is ρ):=λAN s H' d k v u I a i b e=>
 ZU (Z6 I O (show X.A.in1.frames=Z X.stack from I.ok.frames) (show X.A.in1.handled=U from I.ok.hd j) (show X.A.in1.depth<recursionLimit from hd) (L.same a) (c pm) (λf c' s H=>(l f c' s H).run) (E.grow a) i b e)
  (λu' s' ⟨v',H'',I',r',s'',_,r''⟩=>⟨v',H'',I',r',s'',r''⟩) λ_ _ h=>h
theorem Tz(l:X.calm=true)(hd:X.A.depth<recursionLimit)(J:u9 X .Lt bt uF)(hg:Gl X "min")(w:X.mg "min"=U)(hv:AH "min"=Z (.builtin "min"))(O:Iz X scope cl x xs is)(hK:Mw X.K c P q)(t:X.env.code=.ref c)(hq:X.env.qual++("<lambda>":AJ)=q)
  (a0:defaultsOf params X.env=([],[])) (G:∀pm a1 ct u,bindArgs (kla_fn "<lambda>" q params body scope cl pm a1 ct) ⟨[u],[]⟩=pure [(x,u)]) (F:QV X e fe)
  (hb:∀f c' s H,QV (DB X X.A.in1 (x::xs) (envX q scope s.heap.objs.size f (.ref c') cl) s H) body fb)
  (hs:A9 [e] X.env=(false,eval e X.env)::A9 [] X.env:=by rfl) (h1:AD pos (A9 [e] X.env)=(false,eval e X.env)::AD pos (A9 [] X.env):=by rfl) (h2:(AD pos (A9 [e] X.env)).any (·.1)=false:=by rfl) (hn:("min":AJ) ≠ "__name__":=by decide) (n:(("min":AJ)==("__debug__":AJ))=false:=by decide):
  QV X (.Call (.Name "min" p) [e] [⟨Z "key", .Lambda params body scope aad,kpos⟩] pos) (Mz bt uF fe fb is):=⟨λAN s σ H Q I h=>by
 obtain⟨H0,ρ,b,E,g,qq⟩:=h;unfold Mz at g;obtain⟨b1,e1,g⟩:=AT g;obtain⟨ds,ed,g⟩:=AT g;obtain⟨D,ek,g⟩:=AT g;cases D with
 |nil=>cases g
 |cons dk r=>
  obtain⟨d,k⟩:=dk;cases g;refine Qr (DR I hg w hv ?_ hn n);refine callWith_kw (jF (wO F.run Ba hs pos AN s σ H (λvs H1=>∃v,vs=[v]/\AV H H1/\aU X.K H1 b1 v) I ⟨H0,ρ,b1,E,e1,λv H' o _ j=>⟨v,rfl,o,j⟩⟩) λus N hu=>?_) h1 h2 S rfl;obtain⟨vs,H1,C,M,v,rfl,m,j⟩:=hu;obtain⟨u,rfl,ru⟩:=BC M;obtain⟨a,ws,rfl,sq,z⟩:=j.CT ed;cases ru;show A7 _ _ (evalAll [do let v <-eval (.Lambda params body scope aad) X.env;standAt pos;pure v]) _ _ N;refine wpAny_evalAll_cons (zb (Mx C hK t hq a0 O.clos λf H2 s2 y i hf L=>zb (kP (zd (wpAny_evalAll_nil ?_)))));show A7 _ _ (call (.builtin "min") [.ref a] [(Str.ofString "key", .ref f)]) _ _ _;exact Z9 y l (MF l hd O G hb ((E.grow m).grow i) L) J (kZ sq i) (z.kp (.of i)) ek S λv u H' s' I' a2 B W=>⟨v,H',I',B,qq v H' ((m.trans i).trans a2) trivial W⟩⟩
theorem TF(l:X.calm=true)(hd:X.A.depth<recursionLimit)(J:u9 X .Gt bt uF)(hg:Gl X "max")(w:X.mg "max"=U)(hv:AH "max"=Z (.builtin "max"))(O:Iz X scope cl x xs is)(hK:Mw X.K c P q)(t:X.env.code=.ref c)(hq:X.env.qual++("<lambda>":AJ)=q)
  (a0:defaultsOf params X.env=([],[])) (G:∀pm a1 ct u,bindArgs (kla_fn "<lambda>" q params body scope cl pm a1 ct) ⟨[u],[]⟩=pure [(x,u)]) (F:QV X e fe)
  (hb:∀f c' s H,QV (DB X X.A.in1 (x::xs) (envX q scope s.heap.objs.size f (.ref c') cl) s H) body fb)
  (hs:A9 [e] X.env=(false,eval e X.env)::A9 [] X.env:=by rfl) (h1:AD pos (A9 [e] X.env)=(false,eval e X.env)::AD pos (A9 [] X.env):=by rfl) (h2:(AD pos (A9 [e] X.env)).any (·.1)=false:=by rfl) (hn:("max":AJ) ≠ "__name__":=by decide) (n:(("max":AJ)==("__debug__":AJ))=false:=by decide):
  QV X (.Call (.Name "max" p) [e] [⟨Z "key", .Lambda params body scope aad,kpos⟩] pos) (Mz bt uF fe fb is):=⟨λAN s σ H Q I h=>by
 obtain⟨H0,ρ,b,E,g,qq⟩:=h;unfold Mz at g;obtain⟨b1,e1,g⟩:=AT g;obtain⟨ds,ed,g⟩:=AT g;obtain⟨D,ek,g⟩:=AT g;cases D with
 |nil=>cases g
 |cons dk r=>
  obtain⟨d,k⟩:=dk;cases g;refine Qr (DR I hg w hv ?_ hn n);refine callWith_kw (jF (wO F.run Ba hs pos AN s σ H (λvs H1=>∃v,vs=[v]/\AV H H1/\aU X.K H1 b1 v) I ⟨H0,ρ,b1,E,e1,λv H' o _ j=>⟨v,rfl,o,j⟩⟩) λus N hu=>?_) h1 h2 S rfl;obtain⟨vs,H1,C,M,v,rfl,m,j⟩:=hu;obtain⟨u,rfl,ru⟩:=BC M;obtain⟨a,ws,rfl,sq,z⟩:=j.CT ed;cases ru;show A7 _ _ (evalAll [do let v <-eval (.Lambda params body scope aad) X.env;standAt pos;pure v]) _ _ N;refine wpAny_evalAll_cons (zb (Mx C hK t hq a0 O.clos λf H2 s2 y i hf L=>zb (kP (zd (wpAny_evalAll_nil ?_)))));show A7 _ _ (call (.builtin "max") [.ref a] [(Str.ofString "key", .ref f)]) _ _ _;exact OS y l (MF l hd O G hb ((E.grow m).grow i) L) J (kZ sq i) (z.kp (.of i)) ek S λv u H' s' I' a2 B W=>⟨v,H',I',B,qq v H' ((m.trans i).trans a2) trivial W⟩⟩
def Db:Dt->Bool
 |.int _=>true
 |_=>false
def FB:Dt->Dt->Bool
 |.int a,.int b=>decide (b<a)
 |_,_=>false
theorem LM:u9 X .Gt FB Db:=λAN σ H s a f m i j l Q E I b e p1 p2 g c h=>by
 cases a<;>first|(cases g;done)|skip;cases f<;>first|(cases c;done)|skip;simp only[AW]at p1 p2;subst p1 p2;obtain⟨t,rfl⟩:=b;obtain⟨d,rfl⟩:=e;have:=PyProof.Rows.gt_int (prog:=X.prog) (w:=X.w) (A:=X.A.in1) (E:=E) (Q:=Q) (t:=t) (u:=d) h;exact this
def ES:Dt->Bool
 |.tup [.int _,.str _]=>true
 |_=>false
def DI(a b:Dt):Bool:=match xW a,xW b with
 |some ks,Z ls=>ju ks ls
 |_,_=>false
theorem Rh(h:ES d=true):∃i x,d=.tup [.int i,.str x]:=by
 unfold ES at h;split at h
 ·exact⟨_,_,rfl⟩
 ·cases h
theorem W3(D:X.A.units+100<cLine):u9 X .Lt DI ES:=λAN σ H s q z B C v t Q E I l m p1 p2 e o h=>by
 obtain⟨i,x,rfl⟩:=Rh e;obtain⟨j,y,rfl⟩:=Rh o;have e1:xW (.tup [.int i,.str x])=Z [.inl i,.inr x]:=rfl;have e2:xW (.tup [.int j,.str y])=Z [.inl j,.inr y]:=rfl;unfold DI at h;rw[e1,e2]at h;rw[zX e1]at p1;rw[zX e2]at p2;simp only[BT,AW]at p1 p2;obtain⟨p,vs,rfl,sq,f⟩:=p1;obtain⟨p',F,rfl,c,n⟩:=p2;cases l;cases m;obtain⟨AQ,a,t1⟩:=ZF I sq;obtain⟨u,b,t2⟩:=ZF I c;rw[wU f]at a;rw[wU n]at b;have g:X.A.in1.units<cLine:=by
  show X.A.units+1<cLine;omega
 have d:Um [Sum.inl i,Sum.inr x] [Sum.inl j,Sum.inr y]:=⟨rfl,rfl,trivial⟩;have:=WM (prog:=X.prog) (w:=X.w) (E:=E) (Q:=Q) t1 t2 (Wf X a) (Wf X b) d g h;exact this
end
end P1
namespace P1
open L2
theorem Fq(k:AJ):∀{vs:O A0} {ys:AZ},StrsAre vs ys->vs.countP (isStrOf k)=ys.count k
 |_,_,.nil=>rfl
 |_,_,.cons n u h=>by
  rw[ce,List.count_cons,Fq k h];rfl
section
variable{o:Expr}
theorem TJ:EG X "list.count" (λx xs H Q=>∃a vs ds ys k,x=.ref a/\xs=[.str k]/\qQ X.K H a vs/\aH X.K H ds vs/\qY ds=Z ys/\Q (.int (ys.count k:Nat)) H):=by
 intro AN s σ H x xs v us Q I e f h;obtain⟨a,vs,ds,ys,k,rfl,rfl,sq,l,b,q⟩:=h;obtain rfl:v=Value.ref a:=e;obtain⟨u,rfl,m⟩:=BC f;obtain⟨t,rfl⟩:=m;obtain⟨AQ,i,pl,o⟩:=I.list sq;obtain⟨⟨p,j,w,sl⟩,g,c,n,d⟩:=pl.isList;simp only at c d;subst c d;obtain⟨rfl,_⟩:=oV l b;have hi:=lQ i;refine call_meets F.slot_list_count ⟨_,g,rfl⟩ F.entry_list_count (F.args_list_count_2 _ _) (SeqAt.list_countAt a AQ.toArray n j sl (.str k t) (isStrOf k)) ⟨g,λy b=>(eq_isStrOf k t hi y (by simpa using b)).at _ _,?_⟩;rw[show AQ.toArray.toList=AQ from rfl,Fq k hi];exact⟨.int _,H,I.tok _,⟨_,rfl⟩,q⟩
def z8:Bx->Bx->Y Bx
 |b,.z (.str k)=>(nO b).bind λds=>(qY ds).bind λys=>Z (.z (.int (ys.count k:Nat)))
 |_,_=>U
theorem TQ(l:QV X o fo)(h:QV X e fe)(t:attributeBase o "count" X.env (eval o X.env)=eval o X.env:=by rfl)(u:((AD cpos (A9 [e] X.env)).all (λx=>!x.1)&&(backToKw cpos (keywordEach [] X.env)).all (λx=>x.1.isSome)&&decide (([e]:O Expr).length+([]:O AC).length+(if([]:O AC).isEmpty then 0 else 1)<30))=true:=by rfl)(m:(apos.endLine==cpos.line)=true:=by rfl)(hs:A9 [e] X.env=(false,eval e X.env)::A9 [] X.env:=by rfl):QV X (.Call (.Attribute o "count" apos) [e] [] cpos) (b2 z8 fo fe):=
 ⟨HS (La (T :="list") F.plainAttrs_list F.slot_list_count F.type_list_count TJ l.run (wO h.run Ba hs) t u m hs S) λσ H Q q=>by
  obtain⟨H0,ρ,c,E,e,q⟩:=q;obtain⟨a,ea,e⟩:=AT e;obtain⟨b,eb,e⟩:=AT e;unfold z8 at e;split at e
  ·rename_i k;obtain⟨ds,n,e⟩:=AT e;obtain⟨ys,g,e⟩:=AT e;cases e;refine⟨H0,ρ,_,E,ea,λv H1 f y j=>?_⟩;obtain⟨p,vs,rfl,sq,i⟩:=j.CT n;refine⟨.inl ⟨rfl,vs,sq⟩,H0,ρ,_,E.grow f,eb,λw H2 d z s=>?_⟩;obtain⟨rfl,_⟩:=Oe s;exact⟨p,vs,ds,ys,k,rfl,rfl,kZ sq d,i.kp (.of d),g,q _ _ (f.trans d) trivial (by simp only[aU,AW])⟩
  ·cases e⟩
end
def pF(b:AJ->AJ->Bool):AJ->AZ->AJ
 |y,[]=>y
 |y,z::r=>if b z y=true then pF b z r else pF b y r
theorem yM(b:AJ->AJ->Bool)(z:AJ):∀(l:AZ) (y:AJ),pF b y (l++[z])=if b z (pF b y l)=true then z else pF b y l
 |[],y=>rfl
 |x::l,y=>by
  simp only[ck,pF];split
  ·exact yM b z l x
  ·exact yM b z l y
theorem wZ(b:AJ->AJ->Bool):∀(l:AZ) (y:AJ),pF b y l∈y::l
 |[],y=>ze
 |x::l,y=>by
  simp only[pF];split
  ·exact zh _ (wZ b l x)
  ·rcases List.mem_cons.mp (wZ b l y)with h|h
   ·rw[h];exact ze
   ·exact zh _ (zh _ h)
theorem Ft(b:AJ->AJ->Bool)(y:AJ)(r:AZ):∀j,j<=r.length->(y::r).getD (argBest (λi j=>b ((y::r).getD i "") ((y::r).getD j "")) j) ""=pF b y (r.take j)
 |0,_=>rfl
 |j+1,h=>by
  have a:=Ft b y r j ();have e:(y::r).getD (j+1) ""=r[j]:=by simp[show j<r.length by omega]
  rw[kF (),yM,argBest];rw[a,e];split
  ·rw[e]
  ·rw[a]
def MJ:O Bx->Y Bx
 |[b]=>(nO b).bind λds=>(qY ds).bind fun
  |y::r=>Z (.z (.str (pF (λx z=>decide (x.cps.toList<z.cps.toList)) y r)))
  |[]=>U
 |_=>U
theorem OG(F:X.calm=true):uM X (.builtin "min") MJ:=by
 intro AN s σ H xs us Q I p h;obtain⟨bs,c,D,e,q⟩:=h;unfold MJ at e;split at e
 ·obtain⟨ds,E,e⟩:=AT e;obtain⟨ys,m,e⟩:=AT e;cases ys with
  |nil=>cases e
  |cons y r=>
   cases e;obtain⟨v,rfl,C⟩:=BI D;obtain⟨a,vs,rfl,sq,B⟩:=C.CT E;obtain⟨u,rfl,K⟩:=BC p;cases K;obtain⟨AQ,g,pl,L⟩:=I.list sq;obtain⟨rfl,G⟩:=oV B m;have hi:=lQ g;have l:a<s.heap.objs.size:=by obtain⟨o,n,e,_⟩:=pl;exact zt e
   have M:AQ.length=r.length+1:=by rw[<-g.length];simp
   have j:∀(i:Nat) (v:A0),AQ.toArray[i]?=Z v->∃t,v=.str ((y::r).getD i "") t:=λi v d=>by
    rw[QU]at d;obtain⟨z,t,e1,e2⟩:=uY hi i v d;exact⟨t,by rw[e2,JP,e1];rfl⟩
   refine call_min_walk (ky pl.isList ?_);refine⟨s.heap.objs.size,_,_,_,_,_,_,rfl,Walks.list (by show X.A.handled=U;exact I.ok.hd F) s.heap.objs.size a (zC l) AQ.toArray,⟨⟨_,zw _ rfl,rfl,rfl⟩,pl.isList.push _⟩,?_,by rw[zl];omega,LO (λi=>(y::r).getD i "") j,λv h' tk w k=>?_⟩
   ·intro b f;have J:(s.heap.push { cls:=.type "list_iterator",data:=.fields #[.ref a,.int 0 0] }).objs.size=s.heap.objs.size+1:=jI ..;simp only[j0,QO,or_false]at f;show b<(s.heap.push { cls:=.type "list_iterator",data:=.fields #[.ref a,.int 0 0] }).objs.size;rw[J];rcases f with rfl|rfl
    ·exact Nat.lt_succ_self _
    ·exact kA l
   ·have keep:∀b o,s.heap.get? b=Z o->h'.get? b=Z o:=λb o e=>k b o (λf=>jn _ (by have:=zt e;rw[ag.mp f]at this;exact this)) (zg _ e);obtain⟨t,d⟩:=j _ _ w;have e1:AQ.toArray.size-1=r.length:=by rw[zl];omega
    have e2:=Ft (λx z=>decide (x.cps.toList<z.cps.toList)) y r r.length (zo _);rw[cm]at e2;rw[e1]at d;have e3:v=.str (pF (λx z=>decide (x.cps.toList<z.cps.toList)) y r) t:=d.trans (by rw[<-e2]);exact⟨.str _,H,I.kept (t':=tk) keep,⟨t,e3⟩,q _ H (AV.refl H) trivial ⟨rfl,G _ (wZ _ r y)⟩⟩
 ·cases e
def MK:O Bx->Y Bx
 |[b]=>(nO b).bind λds=>(qY ds).bind fun
  |y::r=>Z (.z (.str (pF (λx z=>decide (z.cps.toList<x.cps.toList)) y r)))
  |[]=>U
 |_=>U
theorem PP(F:X.calm=true):uM X (.builtin "max") MK:=by
 intro AN s σ H xs us Q I p h;obtain⟨bs,c,D,e,q⟩:=h;unfold MK at e;split at e
 ·obtain⟨ds,E,e⟩:=AT e;obtain⟨ys,m,e⟩:=AT e;cases ys with
  |nil=>cases e
  |cons y r=>
   cases e;obtain⟨v,rfl,C⟩:=BI D;obtain⟨a,vs,rfl,sq,B⟩:=C.CT E;obtain⟨u,rfl,K⟩:=BC p;cases K;obtain⟨AQ,g,pl,L⟩:=I.list sq;obtain⟨rfl,G⟩:=oV B m;have hi:=lQ g;have l:a<s.heap.objs.size:=by obtain⟨o,n,e,_⟩:=pl;exact zt e
   have M:AQ.length=r.length+1:=by rw[<-g.length];simp
   have j:∀(i:Nat) (v:A0),AQ.toArray[i]?=Z v->∃t,v=.str ((y::r).getD i "") t:=λi v d=>by
    rw[QU]at d;obtain⟨z,t,e1,e2⟩:=uY hi i v d;exact⟨t,by rw[e2,JP,e1];rfl⟩
   refine call_max_walk (ky pl.isList ?_);refine⟨s.heap.objs.size,_,_,_,_,_,_,rfl,Walks.list (by show X.A.handled=U;exact I.ok.hd F) s.heap.objs.size a (zC l) AQ.toArray,⟨⟨_,zw _ rfl,rfl,rfl⟩,pl.isList.push _⟩,?_,by rw[zl];omega,DA (λi=>(y::r).getD i "") j,λv h' tk w k=>?_⟩
   ·intro b f;have J:(s.heap.push { cls:=.type "list_iterator",data:=.fields #[.ref a,.int 0 0] }).objs.size=s.heap.objs.size+1:=jI ..;simp only[j0,QO,or_false]at f;show b<(s.heap.push { cls:=.type "list_iterator",data:=.fields #[.ref a,.int 0 0] }).objs.size;rw[J];rcases f with rfl|rfl
    ·exact Nat.lt_succ_self _
    ·exact kA l
   ·have keep:∀b o,s.heap.get? b=Z o->h'.get? b=Z o:=λb o e=>k b o (λf=>jn _ (by have:=zt e;rw[ag.mp f]at this;exact this)) (zg _ e);obtain⟨t,d⟩:=j _ _ w;have e1:AQ.toArray.size-1=r.length:=by rw[zl];omega
    have e2:=Ft (λx z=>decide (z.cps.toList<x.cps.toList)) y r r.length (zo _);rw[cm]at e2;rw[e1]at d;have e3:v=.str (pF (λx z=>decide (z.cps.toList<x.cps.toList)) y r) t:=d.trans (by rw[<-e2]);exact⟨.str _,H,I.kept (t':=tk) keep,⟨t,e3⟩,q _ H (AV.refl H) trivial ⟨rfl,G _ (wZ _ r y)⟩⟩
 ·cases e
end P1
namespace P1
open L2 S1
end P1
namespace P1
open L2 S1 S6
section
variable{e:α->Dt}{e':β->Dt}
theorem w5:∀xs:AZ,qY (xs.map eS)=Z xs
 |[]=>rfl
 |x::xs=>by rw[zk,qY,w5 xs,B1]
def uh(b:α->α->Bool):α->O α->α
 |y,[]=>y
 |y,z::r=>if b z y=true then uh b z r else uh b y r
def B9[Inhabited α](b:α->α->Bool):O α->α
 |[]=>default
 |y::r=>uh b y r
theorem DK(b:AJ->AJ->Bool):∀(r:AZ) (y:AJ),pF b y r=uh b y r
 |[],_=>rfl
 |z::r,y=>by
  simp only[pF,uh];rw[DK b r z,DK b r y]
def Yh(x z:AJ):Bool:=decide (x.cps.toList<z.cps.toList)
def D1(x z:AJ):Bool:=decide (z.cps.toList<x.cps.toList)
def Me[Inhabited AJ](a:RL fa ρ eS):R (bY MJ (ao fa aG)) ρ (zE eS):=⟨B9 Yh a.v,bx a.D (Z (a.v≠[])),λh=>by
 obtain⟨h1,h2⟩:=aB h;cases e:a.v with
 |nil=>exact absurd e h2
 |cons y r=>
  have b:=a.lk;rw[e]at b;simp only[bY,ao,aG,a.ok h1,B1,MJ,b,w5,DK];rfl⟩
def SY[Inhabited AJ](a:RL fa ρ eS):R (bY MK (ao fa aG)) ρ (zE eS):=⟨B9 D1 a.v,bx a.D (Z (a.v≠[])),λh=>by
 obtain⟨h1,h2⟩:=aB h;cases e:a.v with
 |nil=>exact absurd e h2
 |cons y r=>
  have b:=a.lk;rw[e]at b;simp only[bY,ao,aG,a.ok h1,B1,MK,b,w5,DK];rfl⟩
def W4(b:RL fb ρ eS)(a:R fa ρ (zE eS)):R (b2 z8 fb fa) ρ (zE eI):=⟨(b.v.count a.v:Nat),bx b.D a.D,λh=>by
 obtain⟨h1,h2⟩:=aB h;simp only[b2,b.ok h1,a.ok h2,B1,z8,b.lk,w5]⟩
theorem IK{uF:Dt->Bool}{fk:Dt->Y Bx}{g:α->β}(a:∀y,uF (e' y)=true):∀{xs:O α},(∀x∈xs,fk (e x)=Z (.z (e' (g x))))->BN uF fk (xs.map e)=Z (xs.map λx=>(e x,e' (g x)))
 |[],_=>rfl
 |x::xs,h=>by
  rw[zk,BN,h x (ze ..)];simp only[a,qk];rw[IK a λz b=>h z (zh _ b),B1];rfl
theorem Bo(bt:Dt->Dt->Bool)(g:α->β):∀(xs:O α) (y:α),u6 bt (e y) (e' (g y)) (xs.map λx=>(e x,e' (g x)))=e (uh (λx z=>bt (e' (g x)) (e' (g z))) y xs)
 |[],_=>rfl
 |x::xs,y=>by
  simp only[zk,u6,uh];rw[Bo bt g xs x,Bo bt g xs y];split<;>rfl
def IS[Inhabited α](b:∀y,uF (e' y)=true)(a:RL fe ρ e)(k:∀x:α,R fb (Z (.z (e x))::j7 is ρ) (zE e')):R (Mz bt uF fe fb is) ρ (zE e):=
 ⟨B9 (λx z=>bt (e' (k x).v) (e' (k z).v)) a.v,bx a.D (Z (a.v≠[]/\∀x∈a.v,B4 (k x).D)),λh=>by
 obtain⟨h1,h2,c⟩:=aB h;have hk:=IK (e:=e) (e':=e') (fk:=λd=>fb (Z (.z d)::j7 is ρ)) (g:=λx=>(k x).v) b λx hx=>(k x).ok (c x hx);unfold Mz;rw[a.ok h1,B1,a.lk,B1,hk,B1];cases ea:a.v with
 |nil=>exact absurd ea h2
 |cons y r=>
  simp only[zk];rw[Bo bt (λx=>(k x).v) r y];rfl⟩
def hk(q:AJ×β):O AY:=[.inr q.1]
end
end P1
namespace P1
open L2
section
variable [Inhabited α] {e:α->Dt}{k:Ev->Y An}{cO:γ->An}
theorem xX{β:Type}(g:α->β):∀(xs:O α) (m:Nat),(xs.map g).eraseIdx m=(xs.eraseIdx m).map g
 |[],_=>by simp
 |x::xs,0=>by simp
 |x::xs,m+1=>by simp[xX g xs m]
def MQ(j i:Nat)(xs:O α)(hi:ρ[i]?=Z (Z (.o (xs.map e))))(a:R f ρ (zE eI))(K:∀(ys:O α) (y:α),R k ((ρ.set i (Z (.o (ys.map e)))).set j (Z (zE e y))) cO):R (aF (Wh j i f) k) ρ cO:=
 ⟨(K (xs.eraseIdx a.v.toNat) (Ap xs a.v)).v,bx (bx a.D (Z (0<=a.v/\a.v<xs.length/\xs.length<=100000))) (K (xs.eraseIdx a.v.toNat) (Ap xs a.v)).D,λhd=>by
 obtain⟨h1,d⟩:=aB hd;obtain⟨h1,h2⟩:=aB h1;obtain⟨g,c,h⟩:0<=a.v/\a.v<xs.length/\xs.length<=100000:=h2;rw[nR (ρ':=(ρ.set i (Z (.o ((xs.eraseIdx a.v.toNat).map e)))).set j (Z (zE e (Ap xs a.v)))) (by
  unfold Wh;rw[a.ok h1,B1];show(match (Bx.z (Dt.int a.v))with|.z (.int k)=>_|_=>U)=_;dsimp only;rw[hi];dsimp only;have b:a.v.toNat<xs.length:=by omega
  have e0:a.v=((a.v.toNat:Nat):Int):=by omega
  have e1:Ap xs a.v=xs[a.v.toNat]:=by
   conv=>lhs;rw[e0]
   exact Fo (xs:=xs) (k:=a.v.toNat) (by simp[b])
  rw[zr ⟨by omega,by omega⟩];have e2:seqIndex? a.v (xs.map e).length=Z a.v.toNat:=PySem.seqIndex_of g (by simpa using c);rw[e2,B1,ZI,qi b,k4,B1,e1,xX];rfl)]
 exact(K (xs.eraseIdx a.v.toNat) (Ap xs a.v)).ok d⟩
end
theorem HA{f c:A1}{k:Nat}(F:Yc K x qual st f fd)(d:fd.code=.ref c)(S:bC N ps (aJ st))(hn:N.length=n)(B:ps.length=m)(y:∀(A:A5) (outer:O Env) (s:A2) (H:Hp) (E:XK),kj k (A.deeper (AK qual (aJ st) s.heap.objs.size f (.ref c)))->QJ (DY Jx P w K mg base N qual (aJ st) f (.ref c) A outer s H E).Yb (jq st) g):
  uJ P w K mg base Jx (k+1) f fd ps (Ul K m (dH n g)):=by
 subst hn B;obtain⟨G,D,kV,J,pm,C,i,ct,osl,rfl,t,z⟩:=F.ex;have d:i=.ref c:=d;subst d;refine Hc t z S (λvs H Q E h=>h.1) λA outer s H vs Q E o h=>?_;refine⟨_,Og.Yb (y A outer s H E o).run,?_⟩;obtain⟨I,bs,r,j,l,e,q⟩:=h;obtain⟨a,er,e⟩:=AT e;refine⟨H,_,a,bD.start j l,er,?_⟩;cases a with
 |rt b=>cases e;exact λv H' s' u a=>q v H' s' u a
 |nx ρ=>cases e;exact λσ H' p=>q _ H' p.base trivial (by unfold aU AW;rfl)
 |bk ρ=>cases e
 |ct ρ=>cases e
section
variable{k:Nat}{f:A1}{p:Pos}{fs:Ev->Y (O Bx)}
theorem W5(G:uJ X.prog X.w X.K X.mg X.base Jx k f fd ps (Ul X.K n F))(L:kj k X.A)(C:X.N[i]?=Z x)(hv:Qv X.env.scope x)(hk:keepIn X.K (.ref f)=true)(hb:BM X.K fd ps [])
  (y:DU X (e::es) fs) (g:eg x:=by decide) (a0:(x==("__classdict__":AJ))=false:=by decide) (P:A9 (e::es) X.env=(false,eval e X.env)::A9 es X.env:=by rfl) (z:(AD pos (A9 es X.env)).any (·.1)=false:=by rfl):
  PE X (.Call (.Name x p) (e::es) [] pos) (λσ H Q=>σ[i]?=Z (Z (.ref f))/\tF X.K (bQ n F fs) σ H Q):=by
 intro AN s σ H Q I h;obtain⟨h1,H0,ρ,r,E,b,q⟩:=h;obtain⟨bs,eb,b⟩:=AT b;split at b
 ·rename_i hn;obtain⟨m,J,M⟩:=id I.loc;obtain⟨u,ru,l⟩:=M i x _ C h1 hv;cases ru;have go:A7 (eh X) X.A (callWith pos (.ref f) [] (AD pos (A9 (e::es) X.env)) (backToKw pos (keywordEach [] X.env))) (EP X AN σ Q) X.xe s:=by
   refine callWith_K (h₀:=X.base) I.ok.mod.kin hk (jF (y pos AN s σ H (λvs H1=>AV H H1/\xU X.K H1 bs vs) I ⟨H0,ρ,bs,E,eb,λvs H1 j d=>⟨j,d⟩⟩) λus j ⟨vs,H1,I1,rv,O2,d⟩=>⟨I1.X8,?_⟩) P z;refine UW G L hb .nil Hk I1 rv ?_;rw[Q2];exact⟨by rw[<-Paired.length d];exact hn,_,r,Em d,JM bs,b,λv H2 s2 D W=>q v H2 (O2.trans s2) (D.old O2) W⟩
  rcases l with⟨a,B⟩|⟨a,c,t,o⟩
  ·exact Qr (wpAny_Name (wpAny_loadName_local I.ok.kind a J B go) g)
  ·rcases a with a|a
   ·exact Qr (wpAny_Name (wpAny_loadName_cell I.ok.kind a t o go) g)
   ·exact Qr (wpAny_Name (wpAny_loadName_free I.ok.kind a t o go a0) g)
 ·cases b
end
end P1
namespace P1
open PySem PySem.Spec PySem.Calls PyProof.Rows L2
def Kc(f:A1)(v:A0):Bool:=match v with
 |.ref g=>g==f
 |_=>false
def W6(K:B5)(a:A1)(D:O (AJ×A1)):Prop:=KTD.tabLook Kc (λb=>K.lookup b) a D=true
theorem MN(f:A1)(v:A0)(h:Kc f v=true):v=.ref f:=by
 unfold Kc at h;split at h
 ·rw[eq_of_beq h]
 ·cases h
theorem W6.tab(k:W6 K a D)(x:K.In h):KTD.TabOf (λf v=>v=Value.ref f) h a D:=KTD.tab_of_look MN (λb o q=>x b o q) k
section
variable{k:AJ}{tk:Tok}
theorem OL{f:A1}{Q:Y A0->A2->Prop}(T:KTD.TabOf (λf v=>v=Value.ref f) s.heap a D)(hk:KTD.datumAt k D=Z f)(h1:Q (Z (.ref f)) { s with toks:=s.toks+1 }):
  A7 (A8 prog w) A (dictGet a (.str k tk)) Q E s:=by
 obtain⟨_,o,es,ep,c,j,hd,d⟩:=T;unfold dictGet
 try with_reducible refine ZA ?_
 refine zb (wpAny_pyHash_str (zb (KTD.kt_dictFind_strs (s:={ s with toks:=s.toks+1 }) c hd (by obtain⟨l⟩:=es;simpa using d.exact) ?_)));have b:Q (findBy (λk v=>v.isStr k) es k) { s with toks:=s.toks+1 }:=by
  have g:findBy (λk v=>v.isStr k) es k=(es.toList.find? λe=>e.key.isStr k).map (·.val):=by
   obtain⟨l⟩:=es;simp[findBy]
  rw[g];obtain⟨v,h,rfl⟩:=d.find_some hk;rw[h];exact h1
 rw[findBy_of_findIdx?]at b;cases hi:es.findIdx? λe=>e.key.isStr k with
 |none=>rw[hi]at b;exact zd b
 |some i=>rw[hi]at b;exact zb (wpAny_dictEntries (s:={ s with toks:=s.toks+1 }) c hd (zd b))
theorem W7{f:A1}(T:KTD.TabOf (λf v=>v=Value.ref f) s.heap a D)(hk:KTD.datumAt k D=Z f)(h:Q (.ref f) { s with toks:=s.toks+1 }):
  A7 (A8 prog w) A (getItem (.ref a) (.str k tk)) Q E s:=by
 have ty:s.TypeIs (.ref a) "dict":=let ⟨_,o,_,_,ho,hc,_⟩:=T;⟨o,ho,hc.1⟩;unfold getItem
 try with_reducible refine ZA ?_
 refine zb (Ki ty () ?_);refine zb (kq (name:=Str.ofString "__getitem__") ty slot_dict_getitem
  (JY slot_dict_getitem ty entry_dict_getitem ?_ (args_dict_getitem _ _)))
 show A7 _ _ (dictGet a (.str k tk) >>= _) _ _ s;exact zb (OL T hk (zd ⟨_,rfl,zd h⟩))
end
def Cv(X:Cx):O (AJ×A1)->O (AJ×(O Bx->Y Bx))->Prop
 |[],[]=>True
 |(x,f)::D,(y,F)::T=>(x=y/\∃k fd ps,uJ X.prog X.w X.K X.mg X.base Jx k f fd ps (Ul X.K 1 F)/\kj k X.A/\keepIn X.K (.ref f)=true/\BM X.K fd ps [])/\Cv X D T
 |_,_=>False
theorem Re:Cv X [] []:=trivial
theorem w6{f:A1}{k:Nat}{T:O (AJ×(O Bx->Y Bx))}(G:uJ X.prog X.w X.K X.mg X.base Jx k f fd ps (Ul X.K 1 F))(b:kj k X.A)(hk:keepIn X.K (.ref f)=true)(a:BM X.K fd ps [])(r:Cv X D T):Cv X ((x,f)::D) ((x,F)::T):=⟨⟨rfl,k,fd,ps,G,b,hk,a⟩,r⟩
theorem Cv.get{h:AJ}{F:O Bx->Y Bx}:∀{D:O (AJ×A1)} {T:O (AJ×(O Bx->Y Bx))},Cv X D T->T.lookup h=Z F->∃f k fd ps,KTD.datumAt h D=Z f/\uJ X.prog X.w X.K X.mg X.base Jx k f fd ps (Ul X.K 1 F)/\kj k X.A/\keepIn X.K (.ref f)=true/\BM X.K fd ps []
 |[],[],_,e=>by cases e
 |(x,f)::D,(y,G)::T,r,e=>by
  obtain⟨⟨rfl,k,fd,ps,a,b,c,d⟩,r⟩:=r;rw[ka]at e;unfold KTD.datumAt;by_cases hx:h=x
  ·subst hx;rw[beq_self_eq_true]at e;cases e;exact⟨f,k,fd,ps,by simp,a,b,c,d⟩
  ·rw[beq_eq_false_iff_ne.mpr hx]at e;obtain⟨j,l,i,g,q,z⟩:=Cv.get r e;exact⟨j,l,i,g,by simp[hx,q],z⟩
 |[],_::_,r,_=>r.elim
 |_::_,[],r,_=>r.elim
def TV(i j:Nat)(tab:O (AJ×(O Bx->Y Bx)))(fh fa:Ev->Y Bx):Ev->Y An:=λρ=>if i<ρ.length then(fh ρ).bind λb=>match b with
 |.z (.str h)=>(tab.lookup h).bind λF=>(bQ 1 F (ao fa aG) (ρ.set i U)).bind λr=>(Lj (ρ.set i U) j r).bind λa=>Z (.nx a)
 |_=>U
 else U
theorem bD.ag6{H1:Hp}(E:bD K H0 H σ ρ)(s:AV H H1):bD K H0 H1 (σ.set i (Z v)) (ρ.set i U):=by
 have g:=E.grow s;have d:∀{j:Nat} {b:Bx},(ρ.set i U)[j]?=Z (Z b)->j≠i/\ρ[j]?=Z (Z b):=λ{j b} e=>by
  rw[kC]at e;split at e
  ·split at e<;>cases e
  ·rename_i h;exact⟨λz=>h z.symm,e⟩
 have f:∀{j:Nat},j≠i->(σ.set i (Z v))[j]?=σ[j]?:=λ{j} h=>bb (λz=>h z.symm);refine⟨by simp[E.len],λj b e=>?_,λj m c a b e l ea eb o n=>?_,g.base,λj c a e l ea=>?_⟩
 ·obtain⟨h,e⟩:=d e;rw[f h];exact g.val j b e
 ·obtain⟨h,e⟩:=d e;obtain⟨h',eb⟩:=d eb;rw[f h]at ea;rw[f h']at n;exact g.own j m c a b e l ea eb o n
 ·obtain⟨h,e⟩:=d e;rw[f h]at ea;exact g.new j c a e l ea
section
variable{tab:O (AJ×(O Bx->Y Bx))}{dn y:AJ}{ek:Expr}{p0 p1 p3 q0 q1 q2 q3:Pos}{AS:O AB}{fh:Ev->Y Bx}
theorem S2(g:Gl X dn)(e:X.mg dn=Z (.ref a))(d:W6 X.K a D)(c:PV X ek fh)(b:eg dn:=by decide)(hs:Vc ek:=by intro _ _;rfl):
  PE X (.Subscript (.Name dn p1) ek p2) (λσ H Q=>tF X.K fh σ H λv H1=>∃h f,v=.str h/\KTD.datumAt h D=Z f/\Q (.ref f) H1):=by
 intro AN s σ H Q I h;refine QC PySem.F.slot_dict_getitem.lookup hs (Qw I g e (jF (c AN s σ H _ I h) λiv s2 ⟨v,H2,I2,rv,k,f,ev,hk,q⟩=>?_) b);subst ev;obtain⟨t,rfl⟩:=rv;have T:=d.tab I2.X8;exact⟨let ⟨_,o,_,_,ho,hc,_⟩:=T;⟨o,ho,hc.1⟩,W7 T hk ⟨.ref f,H2,I2.tok _,rfl,q⟩⟩
theorem Lc(i j:Nat)(m:X.N.Nodup)(hg:Gl X dn)(P:X.mg dn=Z (.ref a))(hD:W6 X.K a D)(p:Cv X D tab)(J:QV X ek fh)(A:QV X e fa)(hr:QJ X AS g)
  (hs:Vc ek:=by intro _ _;rfl) (hi:X.N[i]?=Z x:=by rfl) (hj:X.N[j]?=Z y:=by rfl) (hx:CO X.env.scope x:=by first|exact QQ rfl|exact qh S) (hy:CO X.env.scope y:=by first|exact QQ rfl|exact qh S) (hv:Qv X.env.scope x:=by first|exact QQ rfl|exact qh (QQ S)|exact qh (qh S))
  (a4:X.fn x=true\/X.env.scope.names.lookup x=Z .local:=by first|exact .inl rfl|exact .inr S) (M:X.fn y=true\/X.env.scope.names.lookup y=Z .local:=by first|exact .inl rfl|exact .inr S)
  (B:eg dn:=by decide) (a3:eg x:=by decide) (a0:(x==("__classdict__":AJ))=false:=by decide)
  (c:swapsWith (.Subscript (.Name dn p1) ek p2) (Z (.Name x p0)) p3.line X.env=pure false:=by rfl) (d:swapsWith (.Call (.Name x q1) [e] [] q2) (Z (.Name y q0)) q3.line X.env=pure false:=by rfl)
  (t:A9 [e] X.env=(false,eval e X.env)::A9 [] X.env:=by rfl) (C:(AD q2 (A9 [] X.env)).any (·.1)=false:=by rfl):
  QJ X (.Assign [.Name x p0] (.Subscript (.Name dn p1) ek p2) p3::.Assign [.Name y q0] (.Call (.Name x q1) [e] [] q2) q3::AS) (aF (TV i j tab fh fa) g):=by
 have call:PE X (.Call (.Name x q1) [e] [] q2) (λσ H Q=>∃h f F,KTD.datumAt h D=Z f/\tab.lookup h=Z F/\σ[i]?=Z (Z (.ref f))/\tF X.K (bQ 1 F (ao fa aG)) σ H Q):=by
  intro AN s σ H Q I h;obtain⟨k,f,F,e1,e2,e3,q⟩:=h;obtain⟨f',n,fd,ps,z,G,r,hk,hb⟩:=p.get e2;rw[e1]at z;cases z;exact W5 G r hi hv hk hb (aj A au t).run a3 a0 t C AN s σ H Q I ⟨e3,q⟩
 refine⟨Y0 (DW (Jm (pos:=p3) (pos':=p0) m hi hx (S2 hg P hD J.run B hs) c a4) (DW (Jm (pos:=q3) (pos':=q0) m hj hy call d M) hr.run)) λDe σ H h=>?_⟩;obtain⟨H0,ρ,r,E,l,q⟩:=h;obtain⟨r1,e1,l⟩:=AT l;unfold TV at e1;split at e1;rotate_left
 ·cases e1
 rename_i w;rw[<-E.len]at w;obtain⟨b,eb,e1⟩:=AT e1;split at e1;rotate_left
 ·cases e1
 rename_i k;obtain⟨F,o,e1⟩:=AT e1;obtain⟨bc,ec,e1⟩:=AT e1;obtain⟨a1,a2,e1⟩:=AT e1;cases e1;obtain⟨f,n,fd,ps,z,_⟩:=p.get o;refine⟨H0,ρ,_,E,eb,λv H1 c n1 L=>?_⟩;obtain⟨rfl,_⟩:=Oe L;refine⟨k,f,rfl,z,?_⟩;have u:=E.ag6 (i:=i) (v:=.ref f) c;refine⟨k,f,F,z,o,by simp[w],H0,_,bc,u,ec,λv2 H2 d W r2=>?_⟩;exact⟨H0,a1,r,JF u d r2 W a2,l,q⟩
end
end P1
namespace P1
open L2
def vA(o:AE):Y (AJ×A1):=match o.data with
 |.fields vs=>match vs[1]?,vs[11]? with
  |some (Value.str x _),Z (Value.ref P)=>if Us.contains x=true then Z (x,P)else U
  |_,_=>U
 |_=>U
def TN(K:B5):O (A1×AJ):=K.filterMap λp=>(vA p.2).map λq=>(q.2,q.1)
def GY(x:AJ):Array A0:=#[.str (x++(".<locals>.<lambda>":AJ)) 0]
def FD(K:B5):O (A1×Array A0):=(TN K).map λp=>(p.1,GY p.2)
def CM(K:B5)(x:AJ):Y A1:=match nsIn K mainGlobals x with
 |some (Z (.ref f))=>match K.lookup f with
  |some a=>match a.data with
   |.func fd=>match fd.code with
    |.ref c=>Z c
    |_=>U
   |_=>U
  |none=>U
 |_=>U
def DN(p:A3)(K:B5)(c:A1)(x:AJ)(P:A1):Bool:=(recsOf p).any (λd=>d.name==x)&&CM K x==Z c&&(K.lookup c).bind vA==Z (x,P)&&(K.lookup P).isNone&&(TN K).lookup P==Z x
def OR(p:A3)(K:B5):Bool:=K.all λr=>match vA r.2 with
 |none=>true
 |some (x,P)=>DN p K r.1 x P
theorem yN{α β γ:Type}[BEq α]{a:α}(f:β->γ):∀l:O (α×β),(l.map λp=>(p.1,f p.2)).lookup a=(l.lookup a).map f
 |[]=>rfl
 |(b,c)::l=>by
  simp only[zk,ka];split
  ·rfl
  ·exact yN f l
theorem Bp{α β:Type}[BEq α][LawfulBEq α]{a:α}{b:β}:∀{l:O (α×β)},l.lookup a=Z b->(a,b)∈l
 |[],h=>by cases h
 |(c,d)::l,h=>by
  rw[ka]at h;split at h
  ·rename_i e;cases h;rw[eq_of_beq e];exact ze ..
  ·exact zh _ (Bp h)
theorem TX{o:AE}{P:A1}(h:vA o=Z (x,P)):∃vs t,o.data=.fields vs/\vs[1]?=Z (.str x t)/\vs[11]?=Z (.ref P):=by
 unfold vA at h;cases hd:o.data with
 |fields vs=>
  rw[hd]at h;dsimp only at h;split at h
  ·rename_i y t Q e1 e2;split at h
   ·cases h;exact⟨vs,t,rfl,e1,e2⟩
   ·cases h
  ·cases h
 |_=>rw[hd]at h;cases h
theorem Cb{p:A3}{M:AJ->Y A0}{I:ExcName->Y A0}{w:AZ}(g:OR p K=true)(X:K.In h)(T:Top p w I mg M h):L2.Vg K h (FD K):=by
 have n:∀c o x P,(c,o)∈K->vA o=Z (x,P)->DN p K c x P=true:=λc o x P m e=>by
  have:=List.all_eq_true.mp g _ m;simp only[e]at this;exact this
 refine⟨λP q k=>?_,λP ps e=>?_⟩
 ·obtain⟨c,o,vs,x,t,e,d,v,m,f,j⟩:=k;subst j;have er:vA o=Z (x,P):=by
   unfold vA;simp only[d,v,f];rw[zr (ba.mpr m)]
  have z:=n c o x P (Bp e) er;simp only[DN,ZH,beq_iff_eq]at z;refine⟨GY x,?_,rfl,Nat.zero_lt_one⟩;unfold FD;rw[yN,z.2];rfl
 ·unfold FD at e;rw[yN]at e;obtain⟨x,ex,rfl⟩:=ar.mp e;have m:=Bp ex;obtain⟨⟨c,o⟩,B,i⟩:=aS.mp m;obtain⟨⟨u,J⟩,i,j⟩:=ar.mp i;obtain⟨q1,q2⟩:=Prod.mk.inj j;have q1:J=P:=q1;have q2:u=x:=q2;rw[q1,q2]at i;have z:=n c o x P B i;simp only[DN,ZH,beq_iff_eq,KB,bS]at z;obtain⟨⟨⟨⟨⟨d,hd,hx⟩,b⟩,F⟩,Q⟩,_⟩:=z;obtain⟨a,o1,fd,c1,C,t1,t2,t3,N,_,l⟩:=T.tab d hd;rw[hx]at t1;obtain⟨o',W,L⟩:=Option.bind_eq_some_iff.mp F;obtain⟨vs,t,D,_,G⟩:=TX L;have A:c1=c:=by
   unfold CM at b;split at b
   ·rename_i f y;have:=mg_of X T.g y;rw[t1]at this;cases this;split at b
    ·rename_i ob E;have:=X _ _ E;rw[t2]at this;cases this;split at b
     ·rename_i a0 s;rw[t3]at s;cases s;rw[N]at b;cases b;rfl
     ·cases b
    ·cases b
   ·cases b
  subst A;have H:C=P:=by
   obtain⟨⟨o2,ws,e1,_,e2,e3⟩,_⟩:=l;rw[X _ _ W]at e1;cases e1;rw[D]at e2;cases e2;rw[G]at e3;cases e3;rfl
  subst H;exact⟨Q,l.2,l.isCodeTable,rfl⟩
def EJ(K:B5)(fd:FuncData)(q:AJ):Bool:=match fd.code with
 |.ref c=>match K.lookup c with
  |some o=>match o.data with
   |.fields vs=>o.cls==.type "code" && (match vs[11]?,vs[1]?,vs.getD 18 .none,vs.getD 7 .none,vs.getD 9 .none,vs.getD 10 .none with
    |some (Value.ref P),Z (Value.str x _),Value.str _ _,Value.int _ _,Value.bool _,Value.int _ _=>!(c==P)&&Us.contains x&&q==x++(".<locals>.<lambda>":AJ)
    |_,_,_,_,_,_=>false)
   |_=>false
  |none=>false
 |_=>false
theorem Ri{q:AJ}(h:EJ K fd q=true):∃c P,fd.code=.ref c/\Mw K c P q:=by
 unfold EJ at h;split at h;rotate_left
 ·cases h
 rename_i c s;split at h;rotate_left
 ·cases h
 rename_i o e;split at h;rotate_left
 ·cases h
 rename_i vs hd;rw[ZH]at h;obtain⟨h1,h⟩:=h;split at h;rotate_left
 ·cases h
 rename_i P x t f tf i u b j d a e1 n g v l;simp only[ZH,jb,beq_eq_false_iff_ne,ne_eq,beq_iff_eq]at h;obtain⟨⟨h2,p⟩,m⟩:=h;exact⟨c,P,s,o,vs,f,tf,i,u,b,j,d,x,t,e,eq_of_beq h1,hd,a,by rw[Array.getD_eq_getD_getElem?,a];rfl,n,g,v,l,h2,e1,ba.mp p,m⟩
theorem W8{xs:AZ}(c:closureFor scope X.env=pure cl)(d:scope.kind=.function)(b:scope.isCoroutine=false)(g:scope.isGenerator=false)(f:(scope.names.all λy=>!(y.2==.cell))=true)(i:scope.names.lookup x=Z .local)(sub:Bz X.env.cells cl)(has:(scope.names.all λy=>!(y.2==.free)||(cl.lookup y.1).isSome)=true)(h:Iw X scope cl xs is):Iz X scope cl x xs is:=by
 refine⟨c,d,b,g,λy a e=>?_,i,sub,λy a e=>?_,h⟩
 ·have:=List.all_eq_true.mp f y a;rw[e]at this;simp at this
 ·have:=List.all_eq_true.mp has y a;rw[e]at this;exact aT.mp (by simpa using this)
section
variable{e:α->Dt}{c:β->Bx}{fh:Ev->Y Bx}{k:Ev->Y An}{cO:γ->An}{tab:O (AJ×(O Bx->Y Bx))}{tt:O (AJ×(O α->β)×(O α->Y Prop))}
def pG[Inhabited β](tt:O (AJ×(O α->β)×(O α->Y Prop)))(h:AJ)(v:O α):β:=match tt.lookup h with
 |some p=>p.1 v
 |none=>default
def TY(tt:O (AJ×(O α->β)×(O α->Y Prop)))(h:AJ)(v:O α):Prop:=match tt.lookup h with
 |some p=>B4 (p.2 v)
 |none=>False
inductive T3 (e:α->Dt) (c:β->Bx):List (Str×(List Bx->Option Bx))->List (Str×(List α->β)×(List α->Option Prop))->Prop
 |nil:T3 e c [] []
 |cons {x:Str} {F:List Bx->Option Bx} {t:List α->β} {d:List α->Option Prop} {tab:List (Str×(List Bx->Option Bx))} {tt:List (Str×(List α->β)×(List α->Option Prop))}:(∀(v:List α×Unit) bs,aL e aN v bs->bs.length=1/\(B4 (d v.1)->F (bs.map lend)=some (c (t v.1))))->T3 e c tab tt->T3 e c ((x,F)::tab) ((x,t,d)::tt)
theorem T3.get{h:AJ}{p:(O α->β)×(O α->Y Prop)}(T:T3 e c tab tt)(q:tt.lookup h=Z p):∃F,tab.lookup h=Z F/\∀(v:O α×Unit) bs,aL e aN v bs->bs.length=1/\(B4 (p.2 v.1)->F (bs.map lend)=Z (c (p.1 v.1))):=by
 induction T with
 |nil=>cases q
 |cons S r a=>
  rw[ka]at q ⊢;split at q
  ·cases q;exact⟨_,rfl,S⟩
  ·exact a q
def S'[Inhabited β](i j:Nat)(T:T3 e c tab tt)(h:R fh ρ (zE eS))(a:RL fa (ρ.set i U) e)(l:i<ρ.length)(n:∀x,Lj (ρ.set i U) j (c x)=Z ((ρ.set i U).set j (Z (c x))))(K:∀x,R k ((ρ.set i U).set j (Z (c x))) cO):R (aF (TV i j tab fh fa) k) ρ cO:=
 ⟨(K (pG tt h.v a.v)).v,bx (bx (bx h.D a.D) (Z (TY tt h.v a.v))) (K (pG tt h.v a.v)).D,λhd=>by
 obtain⟨hd,m⟩:=aB hd;obtain⟨hd,d⟩:=aB hd;obtain⟨h1,h2⟩:=aB hd;have d:TY tt h.v a.v:=d;have go:TV i j tab fh fa ρ=Z (.nx ((ρ.set i U).set j (Z (c (pG tt h.v a.v))))):=by
  unfold TV pG;unfold TY at d;rw[zr l,h.ok h1,B1];simp only[eS];split at d
  ·rename_i p hp;obtain⟨F,g,S⟩:=T.get hp;rw[g,hp,B1];obtain⟨o,f⟩:=S (a.v,ej) [a.b] ⟨a.b,[],rfl,a.lk,rfl⟩;have:bQ 1 F (ao fa aG) (ρ.set i U)=Z (c (p.1 a.v)):=by
    unfold bQ ao aG;rw[a.ok h2];simp only[B1];rw[zr o];exact f d
   rw[this];simp only[B1,n]
  ·exact d.elim
 rw[nR go];exact(K (pG tt h.v a.v)).ok m⟩
end
end P1
namespace P1
open PySem PySem.Spec PySem.Calls PyProof.Rows L2 S1
section
variable{R:Result->A2->Prop}{I:A1}{wr:O A1}{P:Nat->A0->Prop}{St:Nat->A6->Prop}
end
theorem xg{h':A6}{AQ:Array A0}(t:fP h a AQ)(k:∀o,h.get? a=Z o->h'.get? a=Z o):fP h' a AQ:=let ⟨o,e,r⟩:=t;⟨o,k _ e,r⟩
end P1
namespace P1
open L2
theorem Pn:typeLookup (.type "tuple") "keys"=pure U:=by rw[typeLookup_type,builtinLookup_eq_fast];kernel_rfl
theorem Pq:typeLookup (.type "tuple") "__getattr__"=pure U:=by rw[typeLookup_type,builtinLookup_eq_fast];kernel_rfl
def ED(h:A6)(t:A1)(AQ:Array A0)(n:Nat)(sl:Array (Y A0)):Prop:=h.get? t=Z { cls:=.type "tuple",dict:=U,data:=.seq AQ n,slots:=sl }
section
theorem W9{t:A1}{AQ:Array A0}{u:Tok}:Meets (Builtin.«object.__getattribute__» ⟨[.ref t,.str "keys" u],[]⟩) (λA R s=>ED s.heap t AQ n sl/\raisesAttr (.ref t) "keys" A R s):=
 Meets.of_wp λprog w A R s a=>by
  obtain⟨hp,g,d,tk,os⟩:=s;obtain⟨b,a⟩:=a;have c:(⟨hp,g,d,tk,os⟩:A2).TypeIs (.ref t) "tuple":=⟨_,b,rfl⟩;have hk:=Pn;unfold ED at b;unfold Builtin.«object.__getattribute__»
  repeat (any_goals (first|assumption|wp_step))
  exact wpAny_raiseAttrError a.1 a.2 (attrMsg_fits (by decide +kernel) (by decide +kernel))
theorem Xa{t:A1}{AQ:Array A0}{Q:Y A0->A2->Prop}(i:A.handled=U)(a:ED s.heap t AQ n sl)(h:∀h' tk,(∀b o,s.heap.get? b=Z o->h'.get? b=Z o)->Q U { s with heap:=h',toks:=tk }):A7 (A8 prog w) A (getAttr? (.ref t) "keys") Q E s:=by
 obtain⟨hp,g,d,tk,os⟩:=s;have j:=a;have f:∀c:Nat,(⟨hp,g,d,c,os⟩:A2).TypeIs (.ref t) "tuple":= λ_=>⟨_,a,rfl⟩;have q:=sub_AttributeError;have p:=F.slot_tuple_getattribute.lookup;have v:=F.slot_tuple_getattribute.bind (.ref t);have y:=Pq;unfold ED at a;unfold getAttr? getAttrBy? getAttrBy
 repeat (any_goals (first|assumption|exact f _|((with_reducible show A7 _ _ (call (Value.builtin "tuple.__getattribute__") _ _) _ _ _);refine call_meets F.slot_tuple_getattribute (f _) F.entry_tuple_ga (F.args_tuple_getattribute_2 _ _) (W9 (AQ:=AQ) (n:=n) (sl:=sl)) ⟨j,i,λh' u e hx=>?_⟩)|wp_step))
 obtain⟨c,x,m⟩:=hx.there;have l:∀t2:Nat,(⟨h',g,d,t2,os⟩:A2).TypeIs (.ref e) "AttributeError":= λ_=>⟨_,m,rfl⟩;show A7 _ _ (getattributeRaised _ _ _ _ _ _ _) _ _ _;unfold getattributeRaised
 repeat (any_goals (first|assumption|exact l _|wp_step))
 exact h _ _ hx.keeps
variable{K:Type} [DecidableEq K] {knd:KeyKind prog w K}
theorem MP{p:A1}{x y:A0}{Q:O A0->A2->Prop}(hp:fP s.heap p #[x,y])(h:Q [x,y] s):A7 (A8 prog w) A (Builtin.Dict.pairItems (.ref p)) Q E s:=by
 obtain⟨o,a,b,⟨n,hd⟩,_⟩:=hp;unfold Builtin.Dict.pairItems;refine zb (QA (T :="tuple") ⟨_,a,b⟩ ?_);rw[zr ()];exact zb (JO a hd (zd h))
theorem Rj{it t d:A1}{xs:Array A0}{Q:A2->Prop}(h:A.handled=U)(i:t≠it)(f:d≠it)(D:t≠d)(hs:xs.size<=1000):
  ∀(m k:Nat) (s:A2) (AO AS:O (K×A0)),m=xs.size-k->k<=xs.size->AS.length=m->AO.length<=k->(∀(j:Nat) (b:K×A0),AS[j]?=Z b->∃p x,xs[k+j]?=Z (.ref p)/\p≠it/\p≠d/\fP s.heap p #[x,b.2]/\knd.is b.1 x=true) →
   s.heap.IsTupleIter it t k->s.heap.IsTuple t xs->s.heap.DictOf knd d AO →
   (∀h' tk,h'.DictOf knd d (merged AO AS)->(∀(c:A1) o,c≠it->c≠d->s.heap.get? c=Z o->h'.get? c=Z o)->Q { s with heap:=h',toks:=tk }) →
   AF (A8 prog w) A (.builtin "dict.update.loop" ⟨[.ref d,.ref it,rawInt k,.none],[]⟩) (wants (λr N=>r=.none/\Q N) E) s
 |0,k,s,AO,AS,hm,hk,hr,hkl,hrest,hi,ht,hd,hQ=>by
  have e:AS=[]:=List.length_eq_zero_iff.mp hr;subst e;have W:=Walks.tuple (prog:=prog) (w:=w) (A:=A.in1) h it t i xs;refine Qb Io ?_;show A7 _ _ (pyNext (.ref it) >>= _) _ _ _;have a6:k=xs.size:=by omega
  refine zb (W.done s _ _ ⟨a6▸hi,ht⟩ λh' tk kp=>?_);show A7 _ _ (Builtin.Dict.addKeywords d [] >>= _) _ _ _;have a:∀(c:A1) o,c≠it->s.heap.get? c=Z o->h'.get? c=Z o:=λc o c1 q=>kp c o (by simpa using c1) q;have J:h'.DictOf knd d AO:=let ⟨o,es,ep,g,r⟩:=hd;⟨o,es,ep,a d o f g,r⟩;exact zb (zd (zd ⟨rfl,hQ h' tk J λc o c1 _ q=>a c o c1 q⟩))
 |m+1,k,s,AO,AS,hm,hk,hr,hkl,hrest,hi,ht,hd,hQ=>by
  cases AS with
  |nil=>cases hr
  |cons b AS=>
   obtain⟨p,x,hx,L,a8,hp,P⟩:=hrest 0 b rfl;rw[Nat.add_zero]at hx;have C:k<xs.size:=(Array.getElem?_eq_some_iff.mp hx).1;have W:=Walks.tuple (prog:=prog) (w:=w) (A:=A.in1) h it t i xs;refine Qb Io ?_;show A7 _ _ (pyNext (.ref it) >>= _) _ _ _;refine zb (W.item k s _ _ C ⟨hi,ht⟩ λv n tk F y kp=>?_);rw[hx]at F;cases F;have a:∀(c:A1) o,c≠it->s.heap.get? c=Z o->n.get? c=Z o:=λc o c1 q=>kp c o (by simpa using c1) q;have a0:n.DictOf knd d AO:=let ⟨o,es,ep,g,r⟩:=hd;⟨o,es,ep,a d o f g,r⟩;refine zb (ZA (zb (qa (MP (xg hp λo q=>a p o L q) ?_))));refine ZA (wpAny_dictSet_pairs P a0 (λu H a7=>?_) (by have:=sizeLine_eq;omega));have l:∀(c:A1) o,c≠d->n.get? c=Z o->u.get? c=Z o:=λc o c1 q=>a7.extBut _ _ (ad c1) q;have B:∀(c:A1) o,c≠it->c≠d->s.heap.get? c=Z o->u.get? c=Z o:=λc o c1 c2 q=>l c o c2 (a c o c1 q);refine zd ⟨Code.quiet_builtin _ (by decide +kernel),?_⟩;have:=Rj h i f D hs m (k+1) { s with heap:=u,toks:=tk+1 } (stored AO b.1 b.2) AS () C (by simpa using hr) ?_ (λj q hq=>?_) (y.1.at λo q=>l _ o (k6 f) q) (y.2.at λo q=>l _ o D q) H λh' tk X a=>hQ h' tk X λc o c1 c2 q=>a c o c1 c2 (B c o c1 c2 q)
   ·have e:(rawInt ((k+1:Nat):Int))=rawInt ((k:Int)+1):=by push_cast;rfl
    rw[e]at this;exact this
   ·unfold stored;split<;>simp<;>omega
   ·obtain⟨p',I,a1,a2,G,M,a5⟩:=hrest (j+1) q (by simpa using hq);exact⟨p',I,by rw[show k+1+j=k+(j+1) by omega];exact a1,a2,G,xg M λo z=>B p' o a2 G z,a5⟩
theorem Xb{t:A1}{xs:Array A0}{rs:O (K×A0)}(v:A.handled=U)(hs:xs.size<=1000)(M:rs.length=xs.size)(X:∀(j:Nat) (b:K×A0),rs[j]?=Z b->∃p x,xs[j]?=Z (.ref p)/\fP s.heap p #[x,b.2]/\knd.is b.1 x=true)(u:fP s.heap t xs)(h:∀h' tk,h'.DictOf knd s.heap.objs.size (merged [] rs)->(∀(c:A1) o,s.heap.get? c=Z o->h'.get? c=Z o)->Q (.ref s.heap.objs.size) { s with heap:=h',toks:=tk }):
  A7 (A8 prog w) A (call (.type "dict") [.ref t]) Q E s:=by
 refine callType_codes (Q₁:=λy D=>y=.ref s.heap.objs.size/\D={ s with heap:=s.heap.push { cls:=.type "dict",data:=.dict #[] } }) F.kt_called_dict (F.kt_typeCall_dict_1 _) F.entry_dict_init (kt_code_dict_new _ ⟨rfl,rfl⟩) ?_;rintro y D ⟨rfl,rfl⟩;have a:(s.heap.push { cls:=.type "dict",data:=.dict #[] }).DictOf knd s.heap.objs.size []:=Heap.DictOf.new s.heap;have lo:∀{c:A1} {o:AE},s.heap.get? c=Z o->c<s.heap.objs.size:=λe=>zt e;have m:t<s.heap.objs.size:=by obtain⟨o,e,_⟩:=u;exact lo e
 have i:∀(c:A1) o,s.heap.get? c=Z o->(s.heap.push { cls:=.type "dict",data:=.dict #[] }).get? c=Z o:=λc o q=>zg _ q;refine⟨a.typeIs,F.args_dict_init_2 _ _,?_⟩;unfold Builtin.«dict.__init__»;refine zb ?_;unfold Builtin.Dict.selfAndRest;refine zb (wpAny_notOrdered_dict a.typeIs ?_);show A7 _ _ (pure (s.heap.objs.size,[Value.ref t])) _ _ _;refine zd ?_;show A7 _ _ (Builtin.Dict.updateFrom "dict.__init__" s.heap.objs.size (.ref t) [] .none) _ _ _;have L:=xg u λo q=>i t o q;obtain⟨⟨cls,dd,data,sl⟩,f,I,⟨n,hd⟩,B⟩:=L;simp only at I hd B;subst I hd B;generalize W:s.heap.push { cls:=.type "dict",data:=.dict #[] }=h1 at a f i ⊢;have a4:h1.objs.size=s.heap.objs.size+1:=by rw[<-W];exact jI ..
 unfold Builtin.Dict.updateFrom;refine zb (QA (T :="tuple") ⟨_,f,rfl⟩ ?_);rw[zr ()];refine zb (Xa v f λh2 tk kp=>?_);rw[zr (show(U:Y A0).isNone=true from S)];have C:h2.IsTuple t xs:=⟨_,kp _ _ f,rfl,n,rfl⟩;have H:∀(c:A1) o,s.heap.get? c=Z o->h2.get? c=Z o:=λc o q=>kp c o (i c o q);have l:s.heap.objs.size<h2.objs.size:=let ⟨o,es,ep,g,r⟩:=a;zt (kp _ _ g);refine zb (JJ (zb (wpAny_pyIter_tuple C (zd ⟨Code.quiet_builtin _ (by decide +kernel),?_⟩))));have G:∀(c:A1) o,s.heap.get? c=Z o->(h2.push { cls:=.type "tuple_iterator",data:=.fields #[.ref t,.int 0 0] }).get? c=Z o:=λc o q=>zg _ (H c o q);have a0:∀{c:A1} {o:AE},s.heap.get? c=Z o->c<h2.objs.size:=λe=>zt (H _ _ e);have lp:=Rj (A:=A.in1) (E:=E) (it:=h2.objs.size) (t:=t) (d:=s.heap.objs.size) (xs:=xs) (Q:=λP=>Q (.ref s.heap.objs.size) P) v (zC (bi m l)) (zC l) (zC m) hs xs.size 0 { s with heap:=h2.push { cls:=.type "tuple_iterator",data:=.fields #[.ref t,.int 0 0] },toks:=tk } [] rs S (Z3 _) M (zo _) (λj b q=>by
  obtain⟨p,x,a1,a2,a3⟩:=X j b q;have pl:p<s.heap.objs.size:=by obtain⟨o,e,_⟩:=a2;exact lo e
  exact⟨p,x,by rw[ku];exact a1,zC (bi pl l),zC pl,xg a2 λo z=>G p o z,a3⟩) ⟨_,zw _ rfl,rfl,rfl⟩ (C.push _) (let ⟨o,es,ep,g,r⟩:=a;⟨o,es,ep,zg _ (kp _ _ g),r⟩) λh' N d' J=>h h' N d' λc o q=>J c o (zC (a0 q)) (zC (lo q)) (G c o q)
 exact lp
end
def yO:O Dt->Y (O (AJ×Dt))
 |[]=>Z []
 |.tup [.str x,d]::ds=>(yO ds).bind λr=>Z ((x,d)::r)
 |_=>U
def Fv:O Bx->Y Bx
 |[.z (.tup ds)]=>if ds.length<=1000 then(yO ds).bind λps=>Z (.m (Q6 ps) U)else U
 |_=>U
theorem Fw(I:L2.AU X AN σ H s):∀{ds:O Dt} {ps:O (AJ×Dt)} {vs:O V} {AQ:O A0},yO ds=Z ps->aH X.K H ds vs->AX vs AQ →
  ∃(us:O V) (ws:O A0),us.length=ps.length/\ws.length=ps.length/\AQ.length=ps.length/\AX us ws/\aH X.K H (ps.map (·.2)) us/\(∀p∈ps,p.1.length<=AA) ∧
   ∀(j:Nat) (k:AY) (v:A0),((ps.map λp=>(Sum.inr p.1:AY)).zip ws)[j]?=Z (k,v)->∃a x,AQ[j]?=Z (.ref a)/\fP s.heap a #[x,v]/\(cG X.prog X.w).is k x=true
 |[],ps,vs,AQ,e,r,w=>by
  cases e;simp only[aH]at r;subst r;cases w;exact⟨[],[],rfl,rfl,rfl,.nil,aH.nil,λp h=>(by cases h),λj k v h=>by simp at h⟩
 |d::ds,ps,vs,AQ,e,r,w=>by
  unfold yO at e;split at e
  ·cases ‹_::_=([]:O Dt)›
  ·rename_i x d0 Q i;cases i;obtain⟨M,e1,e2⟩:=AT e;cases e2;obtain⟨v,N,rfl,f,n⟩:∃v r,vs=v::r/\AW X.K H (.tup [.str x,d0]) v/\aH X.K H ds r:=by simpa only[aH]using r
   simp only[AW]at f;obtain⟨p,L,rfl,sq,c⟩:=f;simp only[aH]at c;obtain⟨kx,AS,rfl,hk,G,W,rfl,F,rfl⟩:=c;simp only[AW]at hk;obtain⟨rfl,D⟩:=hk;cases w with
   |cons B rw=>
    cases B;obtain⟨us,ws,m,u,o,l,E,q,g⟩:=Fw I e1 n rw;obtain⟨P,A,t1⟩:=ZF I sq;cases A with
    |cons q1 q2=>cases q2 with
     |cons q3 t=>
      cases t;rename_i J C;refine⟨G::us,C::ws,by simp[m],by simp[u],by simp[o],.cons q3 l,aH.cons F E,λz b=>?_,λj k v h=>?_⟩
      ·rcases List.mem_cons.mp b with rfl|b
       ·exact D
       ·exact q z b
      ·cases j with
       |zero=>
        simp only[zk,QR,List.getElem?_cons_zero,Option.some.injEq,Kn]at h;obtain⟨rfl,rfl⟩:=h;exact⟨p,J,rfl,t1,Eb (k:=Sum.inr x) q1⟩
       |succ j=>
        simp only[zk,QR,List.getElem?_cons_succ]at h;obtain⟨a,y,g1,g2⟩:=g j k v h;exact⟨a,y,by simpa using g1,g2⟩
  ·cases e
theorem Rk:∀{ks:O AY} {us:O V} {ws:O A0},AX us ws->KV (ks.zip us) (ks.zip ws)
 |[],_,_,_=>by simp;exact .nil
 |k::ks,_,_,.nil=>by simp;exact .nil
 |k::ks,_,_,.cons r t=>.cons ⟨rfl,r⟩ (Rk t)
theorem M4(G:X.calm=true):uM X (.type "dict") Fv:=by
 intro AN s σ H xs us Q I r h;obtain⟨bs,c,A,e,q⟩:=h;unfold Fv at e;split at e;rotate_left
 ·cases e
 rename_i ds;split at e;rotate_left
 ·cases e
 rename_i a0;obtain⟨ps,ep,e⟩:=AT e;cases e;obtain⟨v,rfl,n⟩:=BI A;simp only[aU,AW]at n;obtain⟨t,vt,rfl,sq,rt⟩:=n;obtain⟨u,rfl,M⟩:=BC r;cases M;obtain⟨m,l,tt⟩:=ZF I sq;obtain⟨d,ws,N,l2,P,y,J,B,g⟩:=Fw I ep rt l;have W:m.length=ds.length:=by rw[<-l.length];exact rt.length
 have f:KV ((ps.map λp=>(Sum.inr p.1:AY)).zip d) ((ps.map λp=>(Sum.inr p.1:AY)).zip ws):=Rk y;refine Xb (K:=AY) (knd:=cG X.prog X.w) (xs:=m.toArray) (rs:=(ps.map λp=>(Sum.inr p.1:AY)).zip ws) (I.ok.hd G) (by simp;omega) (by simp;omega) (λj f E=>?_) tt λh' tk D C=>?_
 ·obtain⟨a,x,a1,a2,L⟩:=g j f.1 f.2 E;exact⟨a,x,by simpa using a1,a2,L⟩
 ·have sz:((ps.map λp=>(Sum.inr p.1:AY)).zip d).length<=1000:=by simp;omega
  have F:=qI ((ps.map λp=>(Sum.inr p.1:AY)).zip d) [];rw[bg]at F;have a4:(1000:Nat)<=AA:=by decide
  have i:H s.heap.objs.size=U:=I.hok.fresh (zo _);refine⟨.ref s.heap.objs.size,B6 H s.heap.objs.size (.dK (rY [] ((ps.map λp=>(Sum.inr p.1:AY)).zip d))),I.laid (a:=s.heap.objs.size) (t':=tk) (h':=h') (λb o e=>C b o e) (zo _) ⟨by omega,?_,_,KV.merge f .nil,D⟩,rfl,q _ _ (bf i) (λa z=>by cases z;exact i) ⟨s.heap.objs.size,_,rfl,aW,(Bj fL.nil J B).kp (.of (bf i)),λb z=>by cases z⟩⟩;have:=I.big;exact beq_eq_false_iff_ne.mpr (k6 (zC this))
end P1
namespace L2
end L2
namespace P1
open L2
section
variable{a b:Expr}{fs:Ev->Y (O Bx)}
end
end P1
namespace P1
open L2 S1 S6
section
variable{e:α->Dt}{e':β->Dt}{e3:γ->Dt}{k:Ev->Y An}{cO:δ->An}
theorem Fy:∀xs:O (AJ×α),yO (xs.map (Dv eS e))=Z (xs.map λp=>(p.1,e p.2))
 |[]=>rfl
 |x::xs=>by
  simp only[zk,Dv,eS,yO];rw[show yO (xs.map λq=>Dt.tup [.str q.1,e q.2])=_ from Fy xs,B1]
def Rm(a:R fa ρ (zE (eT (Dv eS e)))):R (bY Fv (ao fa aG)) ρ (mE e):=⟨Tw a.v,bx a.D (Z (a.v.length<=1000)),λh=>by
 obtain⟨h1,h2⟩:=aB h;have h2:a.v.length<=1000:=h2;have b:(a.v.map (Dv eS e)).length<=1000:=by rw[zi];exact h2
 simp only[bY,ao,aG,a.ok h1,B1];show Fv [.z (.tup (a.v.map (Dv eS e)))]=_;unfold Fv;simp only[zr b,Fy,B1,Iu]⟩
end
end P1
namespace P1
open L2
def IV:Bx->Y Bx
 |.m AO _=>Z (.n AO)
 |.n AO=>Z (.n AO)
 |_=>U
def IW:Bx->Bx->Bx->Y Bx
 |.n AO,.z (.str x),.z d=>Z (.z ((nZ AO (.inr x)).getD d))
 |_,_,_=>U
def DL(g:Bx->Bx->Bx->Y Bx)(fa fb fc:Ev->Y Bx):Ev->Y Bx:=λρ=>(fa ρ).bind λa=>(fb ρ).bind λb=>(fc ρ).bind λc=>g a b c
def M5:Ev->Y (O (AJ×Dt)):=λ_=>Z []
def pH(fk fv:Ev->Y Bx)(r:Ev->Y (O (AJ×Dt))):Ev->Y (O (AJ×Dt)):=λρ=>(fk ρ).bind λk=>(fv ρ).bind λv=>(r ρ).bind λps=>match k,v with
 |.z (.str x),.z d=>Z ((x,d)::ps)
 |_,_=>U
def Xc(r:Ev->Y (O (AJ×Dt))):Ev->Y Bx:=λρ=>(r ρ).bind λps=>Z (.m (Q6 ps) U)
section
variable{o f k v:Expr}{ff fk:Ev->Y Bx}{keys:O (Y Expr)}{values:O Expr}
theorem Fz(h:QV X e fe):QV X e (b1 IV fe):=⟨HS h.run λσ H Q q=>by
 obtain⟨H0,ρ,c,E,d,q⟩:=q;obtain⟨b,eb,d⟩:=AT d;refine⟨H0,ρ,b,E,eb,λv H1 g l f=>?_⟩;unfold IV at d;split at d
 ·cases d;obtain⟨a,ks,rfl,i,j,_⟩:=f;exact q _ H1 g trivial ⟨a,ks,rfl,.inl i,j⟩
 ·cases d;exact q _ H1 g trivial f
 ·cases d⟩
theorem fL.adf{AO:O (AY×Dt)}{x:AY}(b:fL K H AO ks)(e:nZ AO x=U):zA ks x=U:=by
 unfold nZ at e;rw[cE,av]at e;unfold zA;rw[cE,av];intro q a;have:q.1∈AO.map (·.1):=by rw[<-b.1];exact ZN a
 obtain⟨p,hp,h⟩:=ae.mp this;rw[<-h];exact e p hp
theorem Pr{a b d c:Bx}(h:IW a b d=Z c):∃AO x d',a=.n AO/\b=.z (.str x)/\d=.z d'/\c=.z ((nZ AO (.inr x)).getD d'):=by
 unfold IW at h;split at h
 ·cases h;exact⟨_,_,_,rfl,rfl,rfl,rfl⟩
 ·cases h
theorem Rn(hu:X.A.units+100<cLine)(L:QV X o fo)(I:QV X e fe)(C:QV X f ff)(P:attributeBase o "get" X.env (eval o X.env)=eval o X.env:=by rfl)(D:((AD cpos (A9 [e,f] X.env)).all (λx=>!x.1)&&(backToKw cpos (keywordEach [] X.env)).all (λx=>x.1.isSome)&&decide (([e,f]:O Expr).length+([]:O AC).length+(if([]:O AC).isEmpty then 0 else 1)<30))=true:=by rfl)(G:(apos.endLine==cpos.line)=true:=by rfl)(u:AD cpos (A9 [e,f] X.env)=[(false,eval e X.env),(false,eval f X.env)]:=by rfl):QV X (.Call (.Attribute o "get" apos) [e,f] [] cpos) (DL IW fo fe ff):=
 ⟨HS (Vf () L.run I.run C.run ⟨P,D,G,u⟩) λσ H Q q=>by
  obtain⟨H0,ρ,c,E,g,q⟩:=q;obtain⟨a,ea,g⟩:=AT g;obtain⟨b,eb,g⟩:=AT g;obtain⟨d,W,g⟩:=AT g;obtain⟨AO,x,d,rfl,rfl,rfl,rfl⟩:=Pr g;refine⟨H0,ρ,_,E,ea,λv H1 h n1 J=>?_⟩;obtain⟨p,ks,rfl,s,N⟩:=J;refine⟨p,rfl,.inl ⟨ks,s⟩,H0,ρ,_,E.grow h,eb,λw H2 i n2 M=>⟨H0,ρ,_,(E.grow h).grow i,W,λz j l n3 r3=>?_⟩⟩;obtain⟨rfl,_⟩:=Oe M;have a0:aU X.K j (.n AO) (.ref p):=aU.same (i.trans l) (b:=.n AO) ⟨p,ks,rfl,s,N⟩;obtain⟨p',t,ep,y,m⟩:=a0;cases ep;refine⟨zA t (.inr x),.inl ⟨t,.inr x,y,rfl,rfl⟩,?_⟩;cases hk:nZ AO (.inr x)with
  |none=>
   rw[m.adf hk];exact q z j ((h.trans i).trans l) trivial (by rw[hk];exact r3)
  |some d'=>
   obtain⟨B,ev,F⟩:=m.look hk;rw[ev];exact q B j ((h.trans i).trans l) trivial (by rw[hk];exact F)⟩
def EA(X:Cx)(pos:Pos)(keys:O (Y Expr))(values:O Expr)(fr:Ev->Y (O (AJ×Dt))):Prop:=∃a,DZ X pos keys values a ∧
 ∀(H0:Hp) (σ:L2.St) (ρ:Ev) (H:Hp) (ps:O (AJ×Dt)) (Q:O (V×V)->Hp->Prop),bD X.K H0 H σ ρ->fr ρ=Z ps →
  (∀(us:O V) (H':Hp),AV H H'->us.length=ps.length->aH X.K H' (ps.map (·.2)) us->(∀p∈ps,p.1.length<=AA)->Q ((ps.map λp=>V.str p.1).zip us) H')->Jv a σ H Q
theorem Ro:EA X pos [] [] M5:=⟨[],YW,λH0 σ ρ H ps Q E e q=>by
 cases e;exact q [] H (AV.refl H) S aH.nil λp h=>(by cases h)⟩
theorem pJ(hk:QV X k fk)(s:QV X v fv)(i:EA X pos keys values fr):EA X pos (Z k::keys) (v::values) (pH fk fv fr):=by
 obtain⟨y,hp,h⟩:=i;refine⟨_,Ve hk.run s.run hp,λH0 σ ρ H ps Q E e q=>?_⟩;obtain⟨bk,ek,e⟩:=AT e;obtain⟨o,ev,e⟩:=AT e;obtain⟨b,er,e⟩:=AT e;obtain⟨x,d,rfl,rfl,rfl⟩:∃x d,bk=.z (.str x)/\o=.z d/\ps=(x,d)::b:=by
  split at e
  ·cases e;exact⟨_,_,rfl,rfl,rfl⟩
  ·cases e
 clear e;refine⟨H0,ρ,_,E,ek,λu H1 a B g=>⟨H0,ρ,_,E.grow a,ev,λw H2 f A m=>?_⟩⟩;obtain⟨rfl,hx⟩:u=.str x/\x.length<=AA:=by simpa only[aU,AW]using g
 refine h H0 σ ρ H2 b _ ((E.grow a).grow f) er λus t c j n l=>?_;exact q (w::us) t ((a.trans f).trans c) (by simp[j]) (aH.cons (AW.kp (.of c) m) n) λp hp=>by
  rcases List.mem_cons.mp hp with rfl|hp
  ·exact hx
  ·exact l p hp
theorem Xd(h:EA X pos keys values fr)(n:keys.all (·.isSome)=true:=by rfl)(t:keys.length=values.length:=by rfl)(x:keys≠[]:=by simp)(v:keys.length<=15:=by exact zv S)(hn:∀ ρ ps,fr ρ=Z ps->ps.length<=15):QV X (.Dict keys values pos) (Xc fr):=by
 obtain⟨A,hp,h⟩:=h;refine⟨HS (YX hp n t x v) λσ H Q q=>?_⟩;obtain⟨H0,ρ,c,E,e,q⟩:=q;obtain⟨ps,er,e⟩:=AT e;cases e;intro p g;have j:AV H (B6 H p (.dK [])):=bf g;refine h H0 σ ρ _ ps _ (E.grow j) er λus H2 i y l hk=>?_;have f:H2 p=Z (.dK []):=i _ _ aW;have kp:Kp H2 (B6 H2 p (.dK (rY [] ((ps.map λq=>(Sum.inr q.1:AY)).zip us)))):=.dk f;refine⟨f,(ps.map λq=>(Sum.inr q.1:AY)).zip us,?_,by
  have:=hn ρ ps er;rw[List.length_zip,zi];omega,q _ _ ?_ (λa ea=>by cases ea;exact g) ⟨p,_,rfl,aW,(Bj fL.nil l hk).kp kp,λb h=>by cases h⟩⟩
 ·clear q hk l er h f kp i;have:∀(ps:O (AJ×Dt)) (us:O V),(ps.map λp=>V.str p.1).zip us=((ps.map λq=>(Sum.inr q.1:AY)).zip us).map λm=>(kV m.1,m.2):=by
   intro ps
   induction ps with
   |nil=>intro us;rfl
   |cons p ps s=>
    intro us;cases us with
    |nil=>rfl
    |cons u us=>simp only[zk,QR,s us];rfl
  exact this ps us
 ·intro b o d;have w:b≠p:=λz=>by rw[z,g]at d;cases d
  rw[aX w];exact i _ _ (j _ _ d)
theorem Rp(ρ:Ev)(ps:O (AJ×Dt))(h:M5 ρ=Z ps):ps.length<=0:=by cases h;exact zo _
theorem yP(h:∀ ρ ps,fr ρ=Z ps->ps.length<=n)(ρ:Ev)(ps:O (AJ×Dt))(e:pH fk fv fr ρ=Z ps):ps.length<=n+1:=by
 obtain⟨bk,ek,e⟩:=AT e;obtain⟨b,ev,e⟩:=AT e;obtain⟨a,er,e⟩:=AT e;split at e
 ·cases e;have:=h ρ a er;simp;omega
 ·cases e
theorem T4:EG X "str.index" (λx xs H Q=>∃y z i AS,x=.str y/\xs=[.str z]/\Builtin.Str.occurrences y z 0 y.length 1=i::AS/\Q (.int (i:Nat)) H):=by
 intro AN s σ H x xs v us Q I c d h;obtain⟨y,z,i,AS,rfl,rfl,b,q⟩:=h;obtain⟨t,rfl⟩:=c;obtain⟨u,rfl,a⟩:=BC d;obtain⟨t2,rfl⟩:=a;exact call_gives F.slot_str_index (typeIs_str _ _ _) F.entry_str_index (F.args_str_index_2 _ _) (gives_str_index y z t t2 i AS b) ⟨.int i,H,I.tok _,⟨_,rfl⟩,q⟩
def FJ:Bx->Bx->Y Bx
 |.z (.str y),.z (.str z)=>match Builtin.Str.occurrences y z 0 y.length 1 with
  |i::_=>Z (.z (.int (i:Nat)))
  |[]=>U
 |_,_=>U
theorem Pu{a b c:Bx}(h:FJ a b=Z c):∃y z i AS,a=.z (.str y)/\b=.z (.str z)/\Builtin.Str.occurrences y z 0 y.length 1=i::AS/\c=.z (.int (i:Nat)):=by
 unfold FJ at h;split at h
 ·split at h
  ·rename_i h1;cases h;exact⟨_,_,_,_,rfl,rfl,h1,rfl⟩
  ·cases h
 ·cases h
theorem SS(l:QV X o fo)(hx:QV X e fe)(n:attributeBase o "index" X.env (eval o X.env)=eval o X.env:=by rfl)(s:((AD cpos (A9 [e] X.env)).all (λx=>!x.1)&&(backToKw cpos (keywordEach [] X.env)).all (λx=>x.1.isSome)&&decide ([e].length+([]:O AC).length+(if([]:O AC).isEmpty then 0 else 1)<30))=true:=by rfl)(g:(apos.endLine==cpos.line)=true:=by rfl)(hs:A9 [e] X.env=(false,eval e X.env)::A9 [] X.env:=by rfl):QV X (.Call (.Attribute o "index" apos) [e] [] cpos) (b2 FJ fo fe):=
 ⟨HS (La (T :="str") F.plainAttrs_str F.slot_str_index F.type_str_index T4 l.run (Ef hx.run JB hs) n s g hs S) λσ H Q q=>by
  obtain⟨H0,ρ,c,E,e,q⟩:=q;obtain⟨a,ea,e⟩:=AT e;obtain⟨b,eb,e⟩:=AT e;obtain⟨y,z,i,AS,rfl,rfl,h,rfl⟩:=Pu e;refine⟨H0,ρ,_,E,ea,λv H1 d A j=>?_⟩;obtain⟨rfl,u⟩:=Oe j;refine⟨rfl,H0,ρ,[_],E.grow d,by simp only[ao,eb,cc];rfl,λvs H2 p m=>?_⟩;obtain⟨w,rfl,f⟩:=BI m;obtain⟨rfl,t⟩:=Oe f;exact⟨y,z,i,AS,rfl,rfl,h,q _ _ (d.trans p) trivial JN⟩⟩
end
section
variable{e:α->Dt}{fk:Ev->Y Bx}
def Kd(a:R fa ρ (mE e)):R (b1 IV fa) ρ (nE e):=⟨a.v,a.D,λh=>by
 simp only[b1,a.ok h,B1];rfl⟩
def C4[Inhabited α](m:O (AJ×α))(k:AJ)(d:α):α:=if has m k=true then look m k else d
theorem OX(m:O (AJ×α))(x:AJ)(h:¬ has m x=true):nZ (m.map λq=>(kS q.1,e q.2)) (kS x)=U:=by
 rw[Mt (c:=kS)];have:m.find? (λq=>decide (q.1=x))=U:=by
  rw[av];intro q a z;exact h (List.any_eq_true.mpr ⟨q,a,z⟩)
 rw[this];rfl
def Xe[Inhabited α](a:R fa ρ (nE e))(b:R fb ρ (zE eS))(c:R fc ρ (zE e)):R (DL IW fa fb fc) ρ (zE e):=⟨C4 a.v b.v c.v,bx a.D (bx b.D c.D),λh=>by
 obtain⟨h1,h⟩:=aB h;obtain⟨h2,d⟩:=aB h;simp only[DL,a.ok h1,b.ok h2,c.ok d,B1];show Z (Bx.z ((nZ (a.v.map λq=>(kS q.1,e q.2)) (.inr b.v)).getD (e c.v)))=_;unfold C4;by_cases hk:has a.v b.v=true
 ·rw[zr hk,show nZ (a.v.map λq=>(kS q.1,e q.2)) (.inr b.v)=Z (e (look a.v b.v)) from Mu (c:=kS) hk];rfl
 ·rw[zS hk,show nZ (a.v.map λq=>(kS q.1,e q.2)) (.inr b.v)=U from OX a.v b.v hk];rfl⟩
def E8(e:α->Dt)(ps:O (AJ×α)):O (AJ×Dt):=ps.map λp=>(p.1,e p.2)
def Rq(e:α->Dt):R M5 ρ (E8 e):=⟨[],U,λ_=>S⟩
def pK(k:R fk ρ (zE eS))(v:R fv ρ (zE e))(r:R fr ρ (E8 e)):R (pH fk fv fr) ρ (E8 e):=⟨(k.v,v.v)::r.v,bx k.D (bx v.D r.D),λh=>by
 obtain⟨h1,h⟩:=aB h;obtain⟨h2,a⟩:=aB h;simp only[pH,k.ok h1,v.ok h2,r.ok a,B1];rfl⟩
def IF(r:R fr ρ (E8 e)):R (Xc fr) ρ (mE e):=⟨Tw r.v,r.D,λh=>by
 unfold Xc;rw[r.ok h,B1];unfold E8;rw[Iu]⟩
def Yi(y z:AJ):Nat:=(Builtin.Str.occurrences y z 0 y.length 1).headD 0
def So(a:R fa ρ (zE eS))(b:R fb ρ (zE eS)):R (b2 FJ fa fb) ρ (zE eI):=⟨(Yi a.v b.v:Nat),bx (bx a.D b.D) (Z (Builtin.Str.occurrences a.v b.v 0 a.v.length 1≠[])),λh=>by
 obtain⟨h,d⟩:=aB h;obtain⟨h1,h2⟩:=aB h;simp only[b2,a.ok h1,b.ok h2,B1];show FJ (.z (.str a.v)) (.z (.str b.v))=_;unfold FJ Yi;simp only;cases c:Builtin.Str.occurrences a.v b.v 0 a.v.length 1 with
 |nil=>exact absurd c d
 |cons i r=>rfl⟩
end
theorem BH(a b:AJ):wV a b=true↔zT a b/\a≠b:=by
 unfold wV zT;rw[ltCps_eq];simp only[kz,QE];constructor
 ·intro h;exact⟨List.lt_asymm h,λe=>by subst e;exact List.lt_irrefl _ h⟩
 ·intro⟨h,hn⟩;by_cases q:a.cps.toList<b.cps.toList
  ·exact q
  ·exact absurd (mL (a:=a) (b:=b) (by unfold zT;rw[ltCps_eq];simpa using h) (by unfold zT;rw[ltCps_eq];simpa using q)) hn
theorem Rr{i:Int}(h:i∈rng 0 n):∃k:Nat,k<n/\i=(k:Int):=by
 unfold rng at h;obtain⟨k,hk,rfl⟩:=ae.mp h;exact⟨k,aw.mp hk,by omega⟩
end P1
namespace P1
open L2 S1 S6
theorem pL{α:Type}[DecidableEq α]:∀{xs ys:O α},xs.Nodup->(∀x∈xs,x∈ys)->xs.length<=ys.length
 |[],_,_,_=>Z3 _
 |x::xs,ys,nd,h=>by
  obtain⟨h1,h2⟩:=al.mp nd;have hx:=h x (ze ..);have:=pL (ys:=ys.erase x) h2 λy a=>(List.mem_erase_of_ne λe=>h1 (by rw[<-e];exact a)).mpr (h y (zh _ a));rw[List.length_erase_of_mem hx]at this;have:=List.length_pos_of_mem hx;simp only[qv];omega
structure Wd (U:AZ) (w:List AZ):Prop where
 ne:∀s∈w,s≠[]
 so:∀s∈w,s.Pairwise zT
 nd:w.flatten.Nodup
 sub:∀x∈w.flatten,x∈U
 st:w.Pairwise (λa b=>L4 a b=true)
def same(w:O AZ)(x y:AJ):Prop:=∃s∈w,x∈s/\y∈s
end P1
section
set_option maxHeartbeats 1000000
namespace P1
open L2
open PySem.Builtin PySem.Builtin.Str
abbrev cs(s:AJ):O Nat:=s.cps.toList
theorem Xf(a b:AJ):cs (a++b)=cs a++cs b:=ke
theorem Pv(y p q:AJ)(ps:AZ):Str.join y (p::q::ps)=p++y++Str.join y (q::ps):=rfl
theorem M6(x:AJ):BD x=(cs x).map λc=>⟨#[c]⟩:=rfl
theorem Pp:∀(y p:AJ) (ps:AZ),cs (Txt.join y (p::ps))=cs p++ps.flatMap λq=>cs y++cs q:=by
 intro y p ps;rw[show Txt.join y (p::ps)=Str.join y (p::ps) from StrLaws.glued_eq_join y _]
 induction ps generalizing p with
 |nil=>simp[Str.join]
 |cons q ps a=>rw[Pv,Xf,Xf,a,ja,JE,JE]
end P1
end
section
set_option maxHeartbeats 1000000
namespace P1
open L2 S1 S6
section
variable [Inhabited α]
end
theorem OH(a b c:AJ)(h1:wV a b=true)(h2:wV b c=true):wV a c=true:=by
 unfold wV at *
 simp only[kz]at *
 exact List.lt_trans h1 h2
section
variable{e:α->Dt} [oX e]
theorem NG(a b:α):D0 e a b=true↔Yg e a b=true/\a≠b:=by
 unfold D0 Yg uw;constructor
 ·intro h;refine⟨?_,λz=>?_⟩
  ·cases q:ju (oX.k e b) (oX.k e a)with
   |false=>rfl
   |true=>have:=lU h q;rw[qZ]at this;cases this
  ·rw[z,qZ]at h;cases h
 ·rintro⟨h1,h2⟩;cases q:ju (oX.k e a) (oX.k e b)with
  |true=>rfl
  |false=>
   have h1:ju (oX.k e b) (oX.k e a)=false:=by
    cases z:ju (oX.k e b) (oX.k e a)with
    |false=>rfl
    |true=>rw[z]at h1;cases h1
   exact absurd (oX.inj _ _ (uX q h1)) h2
end
end P1
end
namespace P1
open L2
open PySem.Builtin PySem.Builtin.Str
end P1
section
set_option maxHeartbeats 1000000
namespace P1
open L2
open PySem.Builtin PySem.Builtin.Str
end P1
end
section
set_option synthInstance.maxSize 100000
namespace G38
open L2 P1
noncomputable section
abbrev T2:=O P1.Dt
abbrev aM:Type:=AJ×AJ
abbrev bB:aM->Dt:=Dv eS eS
abbrev aC:Type:=AJ×(O aM)
abbrev aK:aC->Dt:=Dv eS (eT bB)
abbrev L9:Type:=Int×AJ
abbrev FM:L9->Dt:=Dv eI eS
abbrev cL:Type:=AJ×AJ×AZ
abbrev mX:cL->Dt:=DD eS eS (eT eS)
def top(i:Nat):AB:=PySem.Challenge.pw_onefolk_k38_whole_views_turned_about.main.body.getD i (.Pass ⟨0,0,0,0⟩)
abbrev FN:AB:=top 18
abbrev xY:AB:=top 19
abbrev Cw:AB:=top 20
abbrev FP:AB:=top 21
abbrev Ja:AB:=top 22
abbrev FQ:AB:=top 23
abbrev FT:AB:=top 24
abbrev FW:AB:=top 25
abbrev Cy:AB:=top 26
abbrev q9:AB:=top 27
abbrev M7:AB:=top 14
abbrev Jb:AB:=top 4
abbrev FZ:AB:=top 15
abbrev um:AB:=top 11
abbrev z9:AB:=top 10
abbrev vB:AB:=top 9
abbrev Cz:AB:=top 8
abbrev CG:AB:=top 7
abbrev Aa:AB:=top 6
abbrev Jc:AB:=top 16
abbrev Jd:AB:=top 13
abbrev qj:AB:=top 28
abbrev pN:AB:=top 29
abbrev ql:AB:=top 30
abbrev s_law:AB:=top 31
def xZ:Ev->Y An:=(aF (aF (At 2 (b2 gG (b2 jG (b2 xQ (gv 2) (cB (.int 69621))) (gv 3)) (cB (.int 2147483647)))) jl) (fM [3]))
def sO:Ev->Y An:=(aF (KR (G4 D4 (gv 1) (bY uV (ao (gv 0) aG))) (aF (gO (b2 gH (gv 0) (gv 1))) jl) jl) (aF (At 2 (b2 gG (b2 xQ (cB (.int 48271)) (b2 jG (b2 jG (b2 xQ (gv 1) (gv 1)) (b2 xQ (cB (.int 7)) (gv 1))) (cB (.int 11)))) (cB (.int 2147483647)))) (aF (oA (Ye (VP (gv 0) Bg (uU (cB (.int 3))))) (jm 3) xZ) (aF (gO (gv 2)) jl))))
def gR:O Bx->Y Bx:=dH 4 sO
def lW:Ev->Y An:=(aF (aF (At 3 (b2 gG (b2 jG (b2 jG (b2 xQ (gv 3) (b2 jG (b2 gG (gv 3) (cB (.int 65521))) (cB (.int 40487)))) (b2 xQ (cB (.int 7)) (gv 5))) (cB (.int 5))) (cB (.int 1999999973)))) (aF (G5 2 (b2 gH (bY kJ (ao (gv 3) (ao (b2 gG (gv 4) (cB (.int 1000000))) aG))) (bY VR (ao (b2 DT (gv 4) (cB (.int 0))) aG)))) (aF (At 4 (b2 nY (gv 4) (cB (.int 1000000)))) jl))) (fM [5]))
def mF:Ev->Y An:=(aF (At 2 (bY kJ aG)) (aF (At 3 (b2 gG (b2 xQ (b2 jG (b2 gG (gv 0) (cB (.int 1999999973))) (cB (.int 31))) (cB (.int 765432101))) (cB (.int 1999999973)))) (aF (At 4 (cB (.int 0))) (aF (KR (D7 (G4 D4 (gv 0) (cB (.int 0))) (G4 EV (gv 0) (b2 Zi (cB (.int 10)) (cB (.int 18))))) (aF (aF (At 4 (bY S9 (ao (gv 0) aG))) jl) (fM [])) (aF jl (fM []))) (aF (oA (KZ (ao (gv 1) aG)) (jm 5) lW) (aF (GR 2) jl))))))
def fj:O Bx->Y Bx:=dH 6 mF
def pO:Ev->Y An:=(aF (aF (At 7 (b2 gH (gv 2) (b2 gG (b2 jG (gv 6) (b2 gH (gv 0) (cB (.int 2)))) (cB (.int 15))))) (aF (At 8 (b2 jG (b2 jG (VP (gv 3) Bg (uU (gv 4))) (gv 7)) (VP (gv 3) (uU (gv 4)) Bg))) (aF (KR (G4 C0 (b2 gG (b2 gH (gv 0) (cB (.int 3))) (cB (.int 3))) (cB (.int 1))) (aF (aF (At 8 (b2 xQ (b2 gH (gv 2) (b2 nY (gv 6) (cB (.int 8)))) (b2 jG (cB (.int 1)) (b2 gG (gv 6) (cB (.int 8)))))) jl) (fM [])) (aF jl (fM []))) (aF (G5 5 (gv 8)) jl)))) (fM [6,7,8]))
def qm:Ev->Y An:=(aF (At 2 (cB (.str "abcdefghijklmnopqrstuvwxyz"))) (aF (At 3 (b1 (Ep "") (cg (KZ (ao (b2 gG (b2 gH (gv 0) (cB (.int 0))) (cB (.int 6))) aG)) (jm 2) kW (b2 gH (gv 0) (b2 gG (b2 nY (b2 gH (gv 1) (gv 2)) (cB (.int 40))) (cB (.int 26)))) [2,0] 1))) (aF (At 4 (b2 gG (b2 gH (gv 0) (cB (.int 1))) (b2 jG (bY uV (ao (gv 3) aG)) (cB (.int 1))))) (aF (At 5 (bY kJ aG)) (aF (oA (KZ (ao (gv 1) aG)) (jm 6) pO) (aF (GR 5) jl))))))
def mY:O Bx->Y Bx:=dH 9 qm
def yc:Ev->Y An:=(aF (aF (At 1 (b2 jG (gv 1) (b2 gH (cB (.str "ab1")) (b2 gG (b2 nY (b2 nY (gv 0) (cB (.int 16))) (b2 gH (bY kJ (ao (cB (.int 1)) (ao (cB (.int 3)) (ao (cB (.int 9)) (ao (cB (.int 27)) aG))))) (gv 2))) (cB (.int 3)))))) jl) (fM [2]))
def sS:Ev->Y An:=(aF (KR (G4 C0 (b2 gG (gv 0) (cB (.int 4))) (cB (.int 0))) (aF (gO (b2 gH (bY kJ (ao (cB (.str "a")) (ao (cB (.str "ab")) (ao (cB (.str "abc")) (ao (cB (.str "b")) (ao (cB (.str "1")) (ao (cB (.str "12")) (ao (cB (.str "a1")) aG)))))))) (b2 gG (b2 nY (gv 0) (cB (.int 4))) (cB (.int 7))))) jl) jl) (aF (At 1 (cB (.str ""))) (aF (oA (KZ (ao (b2 jG (cB (.int 1)) (b2 gG (b2 nY (gv 0) (cB (.int 4))) (cB (.int 4)))) aG)) (jm 2) yc) (aF (gO (gv 1)) jl))))
def sU:O Bx->Y Bx:=dH 3 sS
def Ab:Ev->Y An:=(aF (aF (KR (G4 DT (b2 gG (b2 gH (gv 1) (gv 4)) (cB (.int 4))) (cB (.int 0))) (aF (aF (G5 3 (bY jr (ao (b2 gH (gv 2) (gv 4)) (ao (b1 Ci (bQ 1 sU (ao (b2 nY (b2 gH (gv 1) (gv 4)) (cB (.int 4))) aG))) aG)))) jl) (fM [])) (aF jl (fM []))) jl) (fM [4]))
def xq:Ev->Y An:=(aF (At 2 (bY kJ (ao (cB (.str "day")) (ao (cB (.str "name")) (ao (b1 Ci (b2 jG (cB (.str "name")) (cB (.str "s")))) (ao (cB (.str "p")) aG)))))) (aF (At 3 (bY kJ aG)) (aF (oA (KZ (ao (cB (.int 4)) aG)) (jm 4) Ab) (aF (gO (bY jr (ao (gv 0) (ao (bY cN (ao (gv 3) aG)) aG)))) jl))))
def xu:O Bx->Y Bx:=dH 5 xq
def qL:Ev->Y An:=(aF (aF (G5 5 (b1 Ci (bQ 2 xu (ao (b2 gH (gv 3) (b2 gG (b2 jG (b2 xQ (cB (.int 4)) (gv 6)) (b2 gH (gv 2) (cB (.int 7)))) (cB (.int 15)))) (ao (b1 Ci (bQ 2 fj (ao (b1 Ci (bQ 2 gR (ao (gv 0) (ao (b1 Ci (b2 jG (cB (.int 1)) (gv 6))) aG)))) (ao (cB (.int 4)) aG)))) aG))))) jl) (fM [6]))
def sV:Ev->Y An:=(aF (At 2 (bQ 2 fj (ao (b1 Ci (bQ 2 gR (ao (gv 0) (ao (cB (.int 0)) aG)))) (ao (cB (.int 9)) aG)))) (aF (At 3 (bQ 2 mY (ao (gv 2) (ao (cB (.int 15)) aG)))) (aF (At 4 (b2 gH (bY kJ (ao (cB (.int 1)) (ao (cB (.int 2)) (ao (cB (.int 5)) (ao (cB (.int 8)) (ao (gv 1) (ao (gv 1) aG))))))) (b2 gG (b2 gH (gv 2) (cB (.int 6))) (cB (.int 6))))) (aF (At 5 (bY kJ aG)) (aF (oA (KZ (ao (gv 4) aG)) (jm 6) qL) (aF (gO (bY cN (ao (gv 5) aG))) jl))))))
def sW:O Bx->Y Bx:=dH 7 sV
def yd:Ev->Y An:=(aF (aF (Wh 5 1 (b2 gG (b2 nY (b2 gH (gv 0) (cB (.int 1))) (b2 gH (bY kJ (ao (cB (.int 1)) (ao (cB (.int 5)) (ao (cB (.int 20)) (ao (cB (.int 60)) (ao (cB (.int 120)) aG)))))) (gv 4))) (bY uV (ao (gv 1) aG)))) (aF (G5 3 (bY jr (ao (gv 5) (ao (b2 gH (gv 2) (b2 gG (b2 gH (gv 0) (b2 jG (cB (.int 2)) (gv 4))) (cB (.int 6)))) aG)))) jl)) (fM [4,5]))
def sX:Ev->Y An:=(aF (At 1 (bY kJ (ao (cB (.str "day")) (ao (cB (.str "name")) (ao (cB (.str "names")) (ao (cB (.str "p")) (ao (cB (.str "zzz")) aG))))))) (aF (At 2 (bY kJ (ao (cB (.str "first")) (ao (cB (.str "last")) (ao (cB (.str "most")) (ao (cB (.str "longest")) (ao (cB (.str "least")) (ao (cB (.str "greatest")) aG)))))))) (aF (At 3 (bY kJ aG)) (aF (oA (KZ (ao (b2 gG (b2 gH (gv 0) (cB (.int 0))) (cB (.int 6))) aG)) (jm 4) yd) (aF (gO (bY cN (ao (gv 3) aG))) jl)))))
def sY:O Bx->Y Bx:=dH 6 sX
def sZ:Ev->Y An:=(aF (gO (bY cN (ao (bY zV (ao (cg (KZ (ao (bY uV (ao (gv 0) aG)) aG)) (jm 2) (G4 DT (b2 gG (b2 nY (b2 gH (gv 1) (b2 gG (gv 2) (bY uV (ao (gv 1) aG)))) (b2 jG (cB (.int 1)) (b2 nY (gv 2) (bY uV (ao (gv 1) aG))))) (cB (.int 3))) (cB (.int 0))) (b2 gH (gv 0) (gv 2)) [0,1] 1) aG)) aG))) jl)
def tu:O Bx->Y Bx:=dH 2 sZ
def vC:Ev->Y An:=(aF (aF (V4 2 (b1 Ci (b2 jG (b2 gH (cB (.str "abcdefghijklmnop")) (b2 CI (b2 CI (bY uV (ao (gv 1) aG)) (cB (.int 1))) (gv 3))) (cB (.str "q")))) (b2 gH (gv 1) (gv 3))) jl) (fM [3]))
def qp:Ev->Y An:=(aF (At 1 (bY zV (ao (gv 0) aG))) (aF (At 2 (λ_=>Z (.m [] U))) (aF (oA (KZ (ao (bY uV (ao (gv 1) aG)) aG)) (jm 3) vC) (aF (GR 2) jl))))
def qt:O Bx->Y Bx:=dH 4 qp
def jw:Ev->Y An:=(aF (gO (DL IW (b1 IV (Xc (pH (cB (.str "first")) (cB (.str "last")) (pH (cB (.str "last")) (cB (.str "first")) M5)))) (gv 0) (gv 0))) jl)
def fO:O Bx->Y Bx:=dH 1 jw
def CJ:Ev->Y An:=(aF (aF (KR (G4 C0 (b2 gH (gv 2) (cB (.int 0))) (gv 1)) (aF (gO (gv 2)) jl) jl) jl) (fM [2]))
def Ad:Ev->Y An:=(aF (uP 0 (jm 2) CJ) (aF F1 jl))
def Ae:O Bx->Y Bx:=dH 3 Ad
def Af:Ev->Y An:=(aF (aF (KR (G4 C0 (gv 2) (gv 1)) (aF (gO (gv 3)) jl) jl) jl) (fM [2,3]))
def xG:Ev->Y An:=(aF (oA (Ye (b2 gH (gv 0) (cB (.int 1)))) (mK 2 (bW (jm 2) (bW (jm 3) pq))) Af) (aF (gO (cB .non)) jl))
def oZ:O Bx->Y Bx:=dH 4 xG
def tB:Ev->Y An:=(aF (gO (cg (uE (cg (uE (gv 0)) (jm 1) kW (b1 Ci (bQ 2 oZ (ao (gv 1) (ao (gv 0) aG)))) [1] 1)) (jm 0) (G4 LQ (gv 0) (cB .non)) (gv 0) [] 1)) jl)
def lX:O Bx->Y Bx:=dH 2 tB
def jM:Ev->Y An:=(aF (gO (bY MK (ao (gv 0) aG))) jl)
def jN:O Bx->Y Bx:=dH 1 jM
def oF:Ev->Y An:=(aF (gO (bY MJ (ao (gv 0) aG))) jl)
def oG:O Bx->Y Bx:=dH 1 oF
def lg:Ev->Y An:=(aF (gO (Mz DI ES (gv 0) (bY jr (ao (b1 CZ (bY uV (ao (gv 0) aG))) (ao (gv 0) aG))) [])) jl)
def gU:O Bx->Y Bx:=dH 1 lg
def qu:Ev->Y An:=(aF (gO (Mz FB Db (gv 0) (b2 z8 (gv 1) (gv 0)) [0])) jl)
def mZ:O Bx->Y Bx:=dH 1 qu
def qw:Ev->Y An:=(aF (gO (b2 gH (gv 0) (b1 CZ (cB (.int 1))))) jl)
def qx:O Bx->Y Bx:=dH 1 qw
def oH:Ev->Y An:=(aF (gO (b2 gH (gv 0) (cB (.int 0)))) jl)
def oJ:O Bx->Y Bx:=dH 1 oH
def Xg:O (AJ×(O Bx->Y Bx)):=[("first",oJ),("last",qx),("most",mZ),("longest",gU),("least",oG),("greatest",jN)]
def xH:Ev->Y An:=(aF (TV 3 4 Xg (gv 2) (bQ 2 lX (ao (gv 0) (ao (gv 1) aG)))) (aF (gO (bY jr (ao (gv 1) (ao (gv 4) (ao (bY cN (ao (cg (uE (gv 0)) (jm 2) (G4 C0 (bQ 2 oZ (ao (gv 2) (ao (gv 1) aG))) (gv 0)) (b2 gH (gv 2) (cB (.int 0))) [4,1] 1) aG)) aG))))) jl))
def xJ:O Bx->Y Bx:=dH 5 xH
def xK:Ev->Y An:=(aF (At 3 (cg (uE (gv 2)) (jm 1) kW (b1 Ci (bQ 2 Ae (ao (gv 0) (ao (gv 1) aG)))) [0] 1)) (aF (gO (cg (uE (gv 1)) (mK 2 (bW (jm 1) (bW (jm 2) pq))) (tV (bQ 2 lX (ao (gv 0) (ao (gv 1) aG)))) (b1 Ci (bQ 3 xJ (ao (gv 0) (ao (gv 1) (ao (gv 2) aG))))) [3] 2)) jl))
def bZ:O Bx->Y Bx:=dH 4 xK
def gW:Ev->Y An:=(aF (aF (G5 8 (bY jr (ao (gv 9) (ao (gv 10) (ao (bY cN (ao (bY zV (ao (cg (uE (gv 11)) (jm 1) kW (b2 p7 (gv 0) (gv 1)) [3] 1) aG)) aG)) aG))))) jl) (fM [9,10,11]))
def gw:Ev->Y An:=(aF (At 3 (bQ 1 qt (ao (b1 Ci (cg (uE (gv 0)) (jm 0) kW (b2 gH (gv 0) (cB (.int 0))) [] 1)) aG))) (aF (At 4 (bY cN (ao (cg (uE (gv 0)) (jm 1) kW (bY jr (ao (b2 p7 (gv 0) (b2 gH (gv 1) (cB (.int 0)))) (ao (b2 gH (gv 1) (cB (.int 1))) aG))) [3] 1) aG))) (aF (At 5 (cg (uE (gv 1)) (jm 0) (G4 Zg (b2 gH (gv 0) (cB (.int 1))) (cB (.str "most"))) (gv 0) [] 1)) (aF (At 6 (bY cN (ao (cg (uE (gv 5)) (mK 2 (bW (jm 0) (bW (jm 1) pq))) kW (bY jr (ao (gv 0) (ao (b1 Ci (bQ 1 fO (ao (gv 1) aG))) aG))) [] 2) aG))) (aF (At 7 (bQ 3 bZ (ao (gv 4) (ao (gv 6) (ao (bY cN (ao (bY zV (ao (cg (uE (gv 2)) (jm 1) kW (b2 p7 (gv 0) (gv 1)) [3] 1) aG)) aG)) aG))))) (aF (At 8 (bY kJ aG)) (aF (oA (Ye (bQ 3 bZ (ao (gv 0) (ao (bY cN (ao (gv 5) aG)) (ao (gv 2) aG))))) (mK 3 (bW (jm 9) (bW (jm 10) (bW (jm 11) pq)))) gW) (aF (gO (b2 C0 (gv 7) (gv 8))) jl))))))))
def gA:O Bx->Y Bx:=dH 12 gw
def fQ:Ev->Y An:=(aF (At 3 (Xc (pH (cB (.str "day")) (cB (.str "p")) (pH (cB (.str "name")) (cB (.str "a")) (pH (cB (.str "names")) (cB (.str "nam")) (pH (cB (.str "p")) (cB (.str "zz")) (pH (cB (.str "zzz")) (cB (.str "b")) M5))))))) (aF (At 4 (bY cN (ao (cg (uE (gv 0)) (jm 1) kW (bY jr (ao (b2 gH (gv 1) (cB (.int 0))) (ao (bY cN (ao (bY Eu (ao (cg (uE (b2 gH (gv 1) (cB (.int 1)))) (mK 2 (bW (jm 1) (bW (jm 2) pq))) kW (bY jr (ao (b2 p7 (gv 0) (gv 1)) (ao (gv 2) aG))) [0] 2) aG)) aG)) aG))) [3] 1) aG))) (aF (At 5 (bQ 3 bZ (ao (gv 4) (ao (bY cN (ao (cg (uE (gv 1)) (mK 2 (bW (jm 1) (bW (jm 2) pq))) kW (bY jr (ao (b2 p7 (gv 0) (gv 1)) (ao (gv 2) aG))) [3] 2) aG)) (ao (gv 2) aG))))) (aF (gO (b2 C0 (gv 5) (cg (uE (bQ 3 bZ (ao (gv 0) (ao (gv 1) (ao (gv 2) aG))))) (mK 3 (bW (jm 1) (bW (jm 2) (bW (jm 3) pq)))) kW (bY jr (ao (b2 p7 (gv 0) (gv 1)) (ao (gv 2) (ao (gv 3) aG)))) [3] 3))) jl))))
def fU:O Bx->Y Bx:=dH 6 fQ
def gY:Ev->Y An:=(aF (aF (KR (G4 C0 (bY uV (ao (DL IW (b1 IV (bY Fv (ao (gv 7) aG))) (gv 2) (cB (.str ""))) aG)) (gv 3)) (aF (aF (G5 5 (bY jr (ao (gv 6) (ao (bY jr (ao (bY jr (ao (gv 2) (ao (b2 p7 (b1 IV (bY Fv (ao (gv 7) aG))) (gv 2)) aG))) aG)) aG)))) jl) (fM [])) (aF jl (fM []))) jl) (fM [6,7]))
def gZ:Ev->Y An:=(aF (aF (At 9 (b1 (Ep "") (cg (uE (b2 gH (b2 gH (gv 7) (cB (.int 0))) (cB (.int 1)))) (jm 1) kW (b2 gH (gv 0) (b2 CI (cB (.int 4)) (b2 FJ (gv 0) (gv 1)))) [4] 1))) (aF (G5 8 (bY jr (ao (gv 6) (ao (bY jr (ao (bY jr (ao (gv 2) (ao (gv 9) aG))) aG)) aG)))) jl)) (fM [6,7,9]))
def gB:Ev->Y An:=(aF (At 4 (cB (.str "12abc"))) (aF (At 5 (bY kJ aG)) (aF (uP 0 (mK 2 (bW (jm 6) (bW (jm 7) pq))) gY) (aF (At 8 (bY kJ aG)) (aF (uP 5 (mK 2 (bW (jm 6) (bW (jm 7) pq))) gZ) (aF (At 10 (bY cN (ao (cg (uE (gv 1)) (jm 1) (G4 inF (gv 1) (cg (uE (gv 0)) (jm 0) kW (b2 gH (gv 0) (cB (.int 0))) [] 1)) (gv 1) [5] 1) aG))) (aF (At 11 (bQ 3 bZ (ao (bY cN (ao (gv 5) aG)) (ao (bY jr (ao (bY jr (ao (gv 2) (ao (cB (.str "least")) aG))) aG)) (ao (gv 10) aG))))) (aF (At 12 (bQ 3 bZ (ao (bY cN (ao (gv 8) aG)) (ao (bY jr (ao (bY jr (ao (gv 2) (ao (cB (.str "greatest")) aG))) aG)) (ao (gv 10) aG))))) (aF (gO (b2 C0 (cg (uE (gv 11)) (jm 0) kW (b2 gH (gv 0) (cB (.int 2))) [] 1) (cg (uE (gv 12)) (jm 0) kW (b2 gH (gv 0) (cB (.int 2))) [] 1))) jl)))))))))
def gC:O Bx->Y Bx:=dH 13 gB
def Ga:Ev->Y An:=(aF (aF (At 4 (bQ 2 fj (ao (gv 3) (ao (cB (.int 20)) aG)))) (aF (Fn 5 6 (ao (b1 Ci (bQ 1 sY (ao (gv 4) aG))) (ao (b1 Ci (bQ 2 tu (ao (gv 2) (ao (b1 Ci (VP (gv 4) (uU (cB (.int 8))) Bg)) aG)))) aG))) (aF (KR (D7 (Sw (tV (bQ 3 gA (ao (gv 1) (ao (gv 5) (ao (gv 6) aG)))))) (Sw (tV (bQ 3 fU (ao (gv 1) (ao (gv 5) (ao (gv 6) aG))))))) (aF (gO (cB (.bl false))) jl) jl) (aF (KR (Sw (tV (bQ 4 gC (ao (gv 1) (ao (gv 6) (ao (b2 gH (bY kJ (ao (cB (.str "day")) (ao (cB (.str "name")) (ao (cB (.str "names")) (ao (cB (.str "p")) aG))))) (b2 gG (b2 gH (gv 4) (cB (.int 7))) (cB (.int 4)))) (ao (b1 Ci (b2 jG (cB (.int 1)) (b2 gG (b2 nY (b2 gH (gv 4) (cB (.int 7))) (cB (.int 4))) (cB (.int 3))))) aG))))))) (aF (gO (cB (.bl false))) jl) jl) (aF (KR (G4 Zg (bQ 3 bZ (ao (gv 1) (ao (b1 Ci (b2 Tc (gv 5) (b1 CZ (cB (.int 1))))) (ao (gv 6) aG)))) (b2 Tp (bQ 3 bZ (ao (gv 1) (ao (gv 5) (ao (gv 6) aG)))) (b1 CZ (cB (.int 1))))) (aF (gO (cB (.bl false))) jl) jl) jl))))) (fM [3,4,5,6]))
def Rt:Ev->Y An:=(aF (At 1 (bQ 2 sW (ao (gv 0) (ao (cB (.int 14)) aG)))) (aF (At 2 (cg (uE (gv 1)) (jm 0) kW (b2 gH (gv 0) (cB (.int 0))) [] 1)) (aF (oA (Ye (b2 jG (bY kJ (ao (b1 Ci (bQ 2 gR (ao (gv 0) (ao (cB (.int 16)) aG)))) aG)) (VP (gv 0) (uU (cB (.int 17))) (uU (cB (.int 26)))))) (jm 3) Ga) (aF (gO (cB (.bl true))) jl))))
def F_law:O Bx->Y Bx:=dH 7 Rt
end
end G38
end
section
set_option synthInstance.maxSize 100000
namespace G38
open L2 P1
set_option genInjectivity false
set_option genSizeOf false
structure T (K:B5) (mg:Str->Option Value) where
 {Xh:Addr}
 adk:mg "HOWS"=some (.ref Xh)
 jT:DQ K mg "_law_cell" FN ["_law_script","_law_k"]
 fu:DQ K mg "_law_numbers" xY ["_law_cell_here","_law_many"]
 qy:DQ K mg "_law_names" Cw ["_law_xs","_law_many"]
 tD:DQ K mg "_law_word" FP ["_law_x"]
 xM:DQ K mg "_law_row" Ja ["_law_name","_law_xs"]
 tH:DQ K mg "_law_book" FQ ["_law_script","_law_most"]
 tK:DQ K mg "_law_view" FT ["_law_xs"]
 tL:DQ K mg "_law_some" FW ["_law_names_here","_law_xs"]
 qz:DQ K mg "_law_known" Cy ["_law_names_here"]
 jx:DQ K mg "_law_how_turned" q9 ["_law_how"]
 Ag:DQ K mg "row_of" M7 ["book","name"]
 o7:DQ K mg "word_of" Jb ["row","field"]
 lY:DQ K mg "words_in" FZ ["rows","field"]
 eE:DQ K mg "greatest_word" um ["words"]
 jy:DQ K mg "least_word" z9 ["words"]
 dU:DQ K mg "longest_word" vB ["words"]
 g8:DQ K mg "most_word" Cz ["words"]
 jZ:DQ K mg "last_word" CG ["words"]
 jz:DQ K mg "first_word" Aa ["words"]
 xO:DQ K mg "seen_of" Jc ["rows","field","how"]
 dD:DQ K mg "view_of" Jd ["book","view","names"]
 gD:DQ K mg "_law_names_right" qj ["_law_book_here","_law_view_here","_law_names_here"]
 fV:DQ K mg "_law_fields_right" pN ["_law_book_here","_law_view_here","_law_names_here"]
 gF:DQ K mg "_law_signs_right" ql ["_law_book_here","_law_names_here","_law_field","_law_size"]
 x_law:DQ K mg "law" s_law ["_law_script"]
 afd:mg "abs"=none
 Xi:mg "dict"=none
 afe:mg "int"=none
 yg:mg "len"=none
 aa8:mg "max"=none
 aa9:mg "min"=none
 oK:mg "range"=none
 vD:mg "sorted"=none
 fK:mg "tuple"=none
 adl:W6 K Xh [("first",jz.f),("last",jZ.f),("most",g8.f),("longest",dU.f),("least",jy.f),("greatest",eE.f)]
 Bq:EJ K dU.fd "longest_word.<locals>.<lambda>"=true
 G7:EJ K g8.fd "most_word.<locals>.<lambda>"=true
section
variable(t:T K mg)
theorem M8:bC ["_law_script","_law_k","_law_state","_law_cell_here"] ["_law_script","_law_k"] (aJ FN):=nQ
theorem M9:Ok P w base t.jT 1 2 gR:=Fp (g:=sO) t.jT M8 λ_ _ _ _ _ _ c b a=>(aA (uN (jQ V1 (ak 1) (cT qK S t.yg qJ (aj (ak 0) au)) (gj _)) (aA (cM (bI (ak 0) (ak 1))) aP) aP) (aA (bh 2 a (aV cU (aV sG aD (aV dZ (aV dZ (aV sG (ak 1) (ak 1)) (aV sG aD (ak 1))) aD)) aD)) (aA (pA PassesOwn.never S (Dm (Ma (ak 0) zP (qX aD))) (aQ 3 a) (bV [3] (aA (bh 2 a (aV cU (aV dZ (aV sG (ak 2) aD) (ak 3)) aD)) aP))) (aA (cM (ak 2)) aP))))
theorem Gb:bC ["_law_cell_here","_law_many","_law_found","_law_state","_law_digits","_law_k"] ["_law_cell_here","_law_many"] (aJ xY):=nQ
theorem Gd:Ok P w base t.fu 1 2 fj:=Fp (g:=mF) t.fu Gb λ_ _ _ _ _ _ c b a=>(aA (bh 2 a (gk au)) (aA (bh 3 a (aV cU (aV sG (aV dZ (aV cU (ak 0) aD) aD) aD) aD)) (aA (bh 4 a aD) (aA (uN (Iq (Vr (jQ V1 (ak 0) aD (gj _)) (QH (jQ NO (ak 0) (aV RA aD aD) (gj _))))) (bV [] (aA (bh 4 a (cT OP S t.afd SF (aj (ak 0) au))) aP)) (bV [] aP)) (aA (pA PassesOwn.never S (kO S t.oK (aj (ak 1) au)) (aQ 5 a) (bV [5] (aA (bh 3 a (aV cU (aV dZ (aV dZ (aV sG (ak 3) (aV dZ (aV cU (ak 3) aD) aD)) (aV sG aD (ak 5))) aD) aD)) (aA (uO 2 (bI (gk (aj (ak 3) (aj (aV cU (ak 4) aD) au))) (bT NL S t.afe S0 (aj (Jy VG (ak 4) aD (gj _)) au)))) (aA (bh 4 a (aV jK (ak 4) aD)) aP))))) (aA (JD 2) aP))))))
theorem Ke:bC ["_law_xs","_law_many","_law_letters","_law_stem","_law_at","_law_found","_law_k","_law_mark","_law_name"] ["_law_xs","_law_many"] (aJ Cw):=nQ
theorem Kf:Ok P w base t.qy 1 2 mY:=Fp (g:=qm) t.qy Ke λ_ _ _ _ _ _ c b a=>(aA (bh 2 a aY) (aA (bh 3 a (QW (cZ ["_law_k"] (pB ["_law_letters","_law_xs"] [2,0]) S (VD (kO S t.oK (aj (aV cU (bI (ak 0) aD) aD) au))) (λ_ _ _ _=>(ei 2)) (λ_ _ _ _=>bR) (λ_ _ _ _=>(bI (ak 0) (aV cU (aV jK (bI (ak 1) (ak 2)) aD) aD))) (bL)))) (aA (bh 4 a (aV cU (bI (ak 0) aD) (aV dZ (cT qK S t.yg qJ (aj (ak 3) au)) aD))) (aA (bh 5 a (gk au)) (aA (pA PassesOwn.never S (kO S t.oK (aj (ak 1) au)) (aQ 6 a) (bV [6,7,8] (aA (bh 7 a (bI (ak 2) (aV cU (aV dZ (ak 6) (bI (ak 0) aD)) aD))) (aA (bh 8 a (aV dZ (aV dZ (Ma (ak 3) zP (qX (ak 4))) (ak 7)) (Ma (ak 3) (qX (ak 4)) zP))) (aA (uN (jQ (of_eq b) (aV cU (bI (ak 0) aD) aD) aD (gj _)) (bV [] (aA (bh 8 a (aV sG (bI (ak 2) (aV jK (ak 6) aD)) (aV dZ aD (aV cU (ak 6) aD)))) aP)) (bV [] aP)) (aA (uO 5 (ak 8)) aP)))))) (aA (JD 5) aP))))))
theorem Nb:bC ["_law_x","_law_found","_law_j"] ["_law_x"] (aJ FP):=nQ
theorem Nf:Ok P w base t.tD 1 1 sU:=Fp (g:=sS) t.tD Nb λ_ _ _ _ _ _ c b a=>(aA (uN (jQ (of_eq b) (aV cU (ak 0) aD) aD (gj _)) (aA (cM (bI (gk (aj aY (aj aY (aj aY (aj aY (aj aY (aj aY (aj aY au)))))))) (aV cU (aV jK (ak 0) aD) aD))) aP) aP) (aA (bh 1 a aY) (aA (pA PassesOwn.never S (kO S t.oK (aj (aV dZ aD (aV cU (aV jK (ak 0) aD) aD)) au)) (aQ 2 a) (bV [2] (aA (bh 1 a (aV dZ (ak 1) (bI aY (aV cU (aV jK (aV jK (ak 0) aD) (bI (gk (aj aD (aj aD (aj aD (aj aD au))))) (ak 2))) aD)))) aP))) (aA (cM (ak 1)) aP))))
theorem Px:bC ["_law_name","_law_xs","_law_fields","_law_words","_law_k"] ["_law_name","_law_xs"] (aJ Ja):=nQ
theorem Py(c:Ok P w base t.tD 1 1 sU):Ok P w base t.xM 2 2 xu:=Fp (g:=xq) t.xM Px λ_ _ _ _ _ _ b d a=>(aA (bh 2 a (gk (aj aY (aj aY (aj (kE (aV dZ aY aY)) (aj aY au)))))) (aA (bh 3 a (gk au)) (aA (pA PassesOwn.never S (kO S t.oK (aj aD au)) (aQ 4 a) (bV [4] (aA (uN (jQ VG (aV cU (bI (ak 1) (ak 4)) aD) aD (gj _)) (bV [] (aA (uO 3 (dY (aj (bI (ak 2) (ak 4)) (aj (kE (dR t.tD c b (aj (aV jK (bI (ak 1) (ak 4)) aD) au))) au)))) aP)) (bV [] aP)) aP))) (aA (cM (dY (aj (ak 0) (aj (bT dJ S t.fK dI (aj (ak 3) au)) au)))) aP))))
theorem Ng:bC ["_law_script","_law_most","_law_head","_law_names_here","_law_many","_law_rows","_law_k"] ["_law_script","_law_most"] (aJ FQ):=nQ
theorem Nh(d:Ok P w base t.jT 1 2 gR)(e:Ok P w base t.qy 1 2 mY)(c:Ok P w base t.fu 1 2 fj)(f:Ok P w base t.xM 2 2 xu):Ok P w base t.tH 3 2 sW:=Fp (g:=sV) t.tH Ng λ_ _ _ _ _ _ a h b=>(aA (bh 2 b (dR t.fu c a (aj (kE (dR t.jT d a (aj (ak 0) (aj aD au)))) (aj aD au)))) (aA (bh 3 b (dR t.qy e a (aj (ak 2) (aj aD au)))) (aA (bh 4 b (bI (gk (aj aD (aj aD (aj aD (aj aD (aj (ak 1) (aj (ak 1) au))))))) (aV cU (bI (ak 2) aD) aD))) (aA (bh 5 b (gk au)) (aA (pA PassesOwn.never S (kO S t.oK (aj (ak 4) au)) (aQ 6 b) (bV [6] (aA (uO 5 (kE (dR t.xM f a (aj (bI (ak 3) (aV cU (aV dZ (aV sG aD (ak 6)) (bI (ak 2) aD)) aD)) (aj (kE (dR t.fu c a (aj (kE (dR t.jT d a (aj (ak 0) (aj (kE (aV dZ aD (ak 6))) au)))) (aj aD au)))) au))))) aP))) (aA (cM (bT dJ S t.fK dI (aj (ak 5) au))) aP))))))
theorem Ni:bC ["_law_xs","_law_fields","_law_hows","_law_found","_law_k","_law_field"] ["_law_xs"] (aJ FT):=nQ
theorem Nj:Ok P w base t.tK 1 1 sY:=Fp (g:=sX) t.tK Ni λ_ _ _ _ _ _ c b a=>(aA (bh 1 a (gk (aj aY (aj aY (aj aY (aj aY (aj aY au))))))) (aA (bh 2 a (gk (aj aY (aj aY (aj aY (aj aY (aj aY (aj aY au)))))))) (aA (bh 3 a (gk au)) (aA (pA PassesOwn.never S (kO S t.oK (aj (aV cU (bI (ak 0) aD) aD) au)) (aQ 4 a) (bV [4,5] (aA (NE 5 1 a (aV cU (aV jK (bI (ak 0) aD) (bI (gk (aj aD (aj aD (aj aD (aj aD (aj aD au)))))) (ak 4))) (cT qK S t.yg qJ (aj (ak 1) au)))) (aA (uO 3 (dY (aj (ak 5) (aj (bI (ak 2) (aV cU (bI (ak 0) (aV dZ aD (ak 4))) aD)) au)))) aP)))) (aA (cM (bT dJ S t.fK dI (aj (ak 3) au))) aP)))))
theorem Nk:bC ["_law_names_here","_law_xs"] ["_law_names_here","_law_xs"] (aJ FW):=nQ
theorem Nm:Ok P w base t.tL 1 2 tu:=Fp (g:=sZ) t.tL Nk λ_ _ _ _ _ _ a c b=>(aA (cM (bT dJ S t.fK dI (aj (cT wR S t.vD qW (aj (cZ ["_law_k"] (pB ["_law_names_here","_law_xs"] [0,1]) S (VD (kO S t.oK (aj (cT qK S t.yg qJ (aj (ak 0) au)) au))) (λ_ _ _ _=>(ei 2)) (λ_ _ _ _=>(lO (jQ VG (aV cU (aV jK (bI (ak 1) (aV cU (ak 2) (cT qK S t.yg qJ (aj (ak 1) au)))) (aV dZ aD (aV jK (ak 2) (cT qK S t.yg qJ (aj (ak 1) au))))) aD) aD (gj _)))) (λ_ _ _ _=>(bI (ak 0) (ak 2))) (bL)) au)) au))) aP)
theorem Kg:bC ["_law_names_here","_law_order","_law_found","_law_k"] ["_law_names_here"] (aJ Cy):=nQ
theorem Kh:Ok P w base t.qz 1 1 qt:=Fp (g:=qp) t.qz Kg λ_ _ _ _ _ _ c b a=>(aA (bh 1 a (cT wR S t.vD qW (aj (ak 0) au))) (aA (bh 2 a Zr) (aA (pA PassesOwn.never S (kO S t.oK (aj (cT qK S t.yg qJ (aj (ak 1) au)) au)) (aQ 3 a) (bV [3] (aA (Zt 2 b (kE (aV dZ (bI aY (aV OD (aV OD (cT qK S t.yg qJ (aj (ak 1) au)) aD) (ak 3))) aY)) (bI (ak 1) (ak 3))) aP))) (aA (JD 2) aP))))
theorem Ah:bC ["_law_how"] ["_law_how"] (aJ q9):=nQ
theorem Ai:Ok P w base t.jx 1 1 fO:=Fp (g:=jw) t.jx Ah λ_ _ _ _ _ _ b a c=>(aA (cM (Rn a (Fz (Xd (pJ aY aY (pJ aY aY Ro)) (hn:=λρ ps h=>zD ((yP (yP Rp)) ρ ps h) ()))) (ak 0) (ak 0))) aP)
theorem T5:bC ["book","name","row"] ["book","name"] (aJ M7):=nQ
theorem T6:Ok P w base t.Ag 1 2 Ae:=Fp (g:=Ad) t.Ag T5 λ_ _ _ _ _ _ c b a=>(aA (JH 0 PassesOwn.never S (aQ 2 a) (bV [2] (aA (uN (jQ (of_eq b) (bI (ak 2) aD) (ak 1) (gj _)) (aA (cM (ak 2)) aP) aP) aP))) (aA ZG aP))
theorem Pz:bC ["row","field","own_field","word"] ["row","field"] (aJ Jb):=nQ
theorem PJ:Ok P w base t.o7 1 2 oZ:=Fp (g:=xG) t.o7 Pz λ_ _ _ _ _ _ c b a=>(aA (pA PassesOwn.never S (Dm (bI (ak 0) aD)) (su S (cF (aQ 2 a) (cF (aQ 3 a) ou))) (bV [2,3] (aA (uN (jQ (of_eq b) (ak 2) (ak 1) (gj _)) (aA (cM (ak 3)) aP) aP) aP))) (aA (cM Vo) aP))
theorem Np:bC ["rows","field"] ["rows","field"] (aJ FZ):=nQ
theorem Nq(b:Ok P w base t.o7 1 2 oZ):Ok P w base t.lY 2 2 lX:=Fp (g:=tB) t.lY Np λ_ _ _ _ _ _ a d c=>(aA (cM (cZ ["word"] (pB [] []) S (cY (cZ ["row"] (pB ["field"] [1]) S (cY (ak 0)) (λ_ _ _ _=>(ei 1)) (λ_ _ _ _=>bR) (λ_ _ _ _=>(kE (dR t.o7 b a (aj (ak 1) (aj (ak 0) au))))) (bL))) (λ_ _ _ _=>(ei 0)) (λ_ _ _ _=>(lO (jQ Zm (ak 0) Vo (gj _)))) (λ_ _ _ _=>(ak 0)) (bL))) aP)
theorem Bt:bC ["words"] ["words"] (aJ um):=nQ
theorem Bu:Ok P w base t.eE 1 1 jN:=Fp (g:=jM) t.eE Bt λ_ _ _ _ _ _ c b a=>(aA (cM (cT (PP S) S t.aa8 VL (aj (ak 0) au))) aP)
theorem G8:bC ["words"] ["words"] (aJ z9):=nQ
theorem G9:Ok P w base t.jy 1 1 oG:=Fp (g:=oF) t.jy G8 λ_ _ _ _ _ _ c b a=>(aA (cM (cT (OG S) S t.aa9 VJ (aj (ak 0) au))) aP)
theorem uo:bC ["words"] ["words"] (aJ vB):=nQ
theorem Dg:Ok P w base t.dU 1 1 gU:=by
 unfold gU;obtain⟨c,d,b,hK⟩:=Ri t.Bq;refine HA (k:=0) (g:=lg) t.dU.F b uo S S λA outer s H E a=>?_;have h:=Du a;have f:=uo.nd;exact(aA (cM (Tz (x :="word") (xs:=[]) (is:=[]) (cl:=[]) S a.depth (W3 (Du a)) S t.aa9 VJ (W8 S S S S S S trivial S trivial) hK S S S (λ_ _ _ _=>S) (ak 0) λe c' s' H'=>(dY (aj (QF JQ (cT qK S t.yg qJ (aj (ak 0) au))) (aj (ak 0) au))))) aP)
theorem Aj:bC ["words"] ["words"] (aJ Cz):=nQ
theorem Kl:Ok P w base t.g8 1 1 mZ:=by
 unfold mZ;obtain⟨c,d,b,hK⟩:=Ri t.G7;refine HA (k:=0) (g:=qu) t.g8.F b Aj S S λA outer s H E a=>?_;have h:=Du a;have f:=Aj.nd;exact(aA (cM (TF (x :="word") (xs:=["words"]) (is:=[0]) (cl:=[("words",s.heap.objs.size+1)]) S a.depth LM S t.aa8 VL (W8 S S S S S S ⟨rfl,trivial⟩ S ⟨⟨rfl,.inl rfl,rfl,_,rfl⟩,trivial⟩) hK S S S (λ_ _ _ _=>S) (ak 0) λe c' s' H'=>(TQ (ak 1) (ak 0)))) aP)
theorem Km:bC ["words"] ["words"] (aJ CG):=nQ
theorem Ko:Ok P w base t.jZ 1 1 qx:=Fp (g:=qw) t.jZ Km λ_ _ _ _ _ _ c b a=>(aA (cM (bI (ak 0) (QF JQ aD))) aP)
theorem Hf:bC ["words"] ["words"] (aJ Aa):=nQ
theorem Hg:Ok P w base t.jz 1 1 oJ:=Fp (g:=oH) t.jz Hf λ_ _ _ _ _ _ c b a=>(aA (cM (bI (ak 0) aD)) aP)
theorem PK:bC ["rows","field","how","choose","chosen"] ["rows","field","how"] (aJ Jc):=nQ
theorem PL(l:Ok P w base t.jz 1 1 oJ)(f:Ok P w base t.eE 1 1 jN)(h:Ok P w base t.jZ 1 1 qx)(d:Ok P w base t.jy 1 1 oG)(e:Ok P w base t.dU 1 1 gU)(m:Ok P w base t.g8 1 1 mZ)(i:Ok P w base t.o7 1 2 oZ)(j:Ok P w base t.lY 2 2 lX):Ok P w base t.xO 3 3 xJ:=Fp (g:=xH) t.xO PK λ_ _ _ _ _ _ a n c=>(Lc 3 4 c S t.adk t.adl (w6 l (a.mono ()) t.jz.k t.jz.b (w6 h (a.mono ()) t.jZ.k t.jZ.b (w6 m (a.mono ()) t.g8.k t.g8.b (w6 e (a.mono ()) t.dU.k t.dU.b (w6 d (a.mono ()) t.jy.k t.jy.b (w6 f (a.mono ()) t.eE.k t.eE.b Re)))))) (ak 2) (dR t.lY j a (aj (ak 0) (aj (ak 1) au))) (aA (cM (dY (aj (ak 1) (aj (ak 4) (aj (bT dJ S t.fK dI (aj (cZ ["row"] (pB ["chosen","field"] [4,1]) S (cY (ak 0)) (λ_ _ _ _=>(ei 2)) (λ_ _ _ _=>(lO (jQ (of_eq n) (dR t.o7 i a (aj (ak 2) (aj (ak 1) au))) (ak 0) (gj _)))) (λ_ _ _ _=>(bI (ak 2) aD)) (bL)) au)) au))))) aP))
theorem PN:bC ["book","view","names","rows"] ["book","view","names"] (aJ Jd):=nQ
theorem PX(b:Ok P w base t.Ag 1 2 Ae)(e:Ok P w base t.xO 3 3 xJ)(c:Ok P w base t.lY 2 2 lX):Ok P w base t.dD 4 3 bZ:=Fp (g:=xK) t.dD PN λ_ _ _ _ _ _ a f d=>(aA (bh 3 d (cZ ["name"] (pB ["book"] [0]) S (cY (ak 2)) (λ_ _ _ _=>(ei 1)) (λ_ _ _ _=>bR) (λ_ _ _ _=>(kE (dR t.Ag b a (aj (ak 0) (aj (ak 1) au))))) (bL))) (aA (cM (cZ ["field","how"] (pB ["rows"] [3]) S (cY (ak 1)) (λ_ _ _ _=>(su S (cF (ei 1) (cF (ei 2) ou)))) (λ_ _ _ _=>(lO (Jz (dR t.lY c a (aj (ak 0) (aj (ak 1) au)))))) (λ_ _ _ _=>(kE (dR t.xO e a (aj (ak 0) (aj (ak 1) (aj (ak 2) au)))))) (El (gM (bL) (gM (bL) zK))))) aP))
theorem yR:bC ["_law_book_here","_law_view_here","_law_names_here","_law_known_here","_law_other","_law_told","_law_turned","_law_there","_law_due","_law_field","_law_word_here","_law_rows"] ["_law_book_here","_law_view_here","_law_names_here"] (aJ qj):=nQ
theorem yS(f:Ok P w base t.jx 1 1 fO)(e:Ok P w base t.qz 1 1 qt)(d:Ok P w base t.dD 4 3 bZ):Ok P w base t.gD 5 3 gA:=Fp (g:=gw) t.gD yR λ_ _ _ _ _ _ c b a=>(aA (bh 3 a (dR t.qz e c (aj (kE (cZ ["_law_row_here"] (pB [] []) S (cY (ak 0)) (λ_ _ _ _=>(ei 0)) (λ_ _ _ _=>bR) (λ_ _ _ _=>(bI (ak 0) aD)) (bL))) au))) (aA (bh 4 a (bT dJ S t.fK dI (aj (cZ ["_law_row_here"] (pB ["_law_known_here"] [3]) S (cY (ak 0)) (λ_ _ _ _=>(ei 1)) (λ_ _ _ _=>bR) (λ_ _ _ _=>(dY (aj (sI b (ak 0) (bI (ak 1) aD)) (aj (bI (ak 1) aD) au)))) (bL)) au))) (aA (QL 5 ["_law_part"] (pB [] []) S a (cY (ak 1)) (λ_ _ _ _=>(ei 0)) (λ_ _ _ _=>(lO (jQ (IX b) (bI (ak 0) aD) aY (gj _)))) (λ_ _ _ _=>(ak 0)) (bL)) (aA (bh 6 a (bT dJ S t.fK dI (aj (cZ ["_law_field","_law_how"] (pB [] []) S (cY (ak 5)) (λ_ _ _ _=>(su S (cF (ei 0) (cF (ei 1) ou)))) (λ_ _ _ _=>bR) (λ_ _ _ _=>(dY (aj (ak 0) (aj (kE (dR t.jx f c (aj (ak 1) au))) au)))) (El (gM (bL) (gM (bL) zK)))) au))) (aA (bh 7 a (dR t.dD d c (aj (ak 4) (aj (ak 6) (aj (bT dJ S t.fK dI (aj (cT wR S t.vD qW (aj (cZ ["_law_name"] (pB ["_law_known_here"] [3]) S (cY (ak 2)) (λ_ _ _ _=>(ei 1)) (λ_ _ _ _=>bR) (λ_ _ _ _=>(sI b (ak 0) (ak 1))) (bL)) au)) au)) au))))) (aA (bh 8 a (gk au)) (aA (pA PassesOwn.never S (Dm (dR t.dD d c (aj (ak 0) (aj (bT dJ S t.fK dI (aj (ak 5) au)) (aj (ak 2) au))))) (su S (cF (aQ 9 a) (cF (aQ 10 a) (cF (aQ 11 a) ou)))) (bV [9,10,11] (aA (uO 8 (dY (aj (ak 9) (aj (ak 10) (aj (bT dJ S t.fK dI (aj (cT wR S t.vD qW (aj (cZ ["_law_name"] (pB ["_law_known_here"] [3]) S (cY (ak 11)) (λ_ _ _ _=>(ei 1)) (λ_ _ _ _=>bR) (λ_ _ _ _=>(sI b (ak 0) (ak 1))) (bL)) au)) au)) au))))) aP))) (aA (cM (Jy (of_eq b) (ak 7) (ak 8) (gj _))) aP))))))))
theorem xR:bC ["_law_book_here","_law_view_here","_law_names_here","_law_known_here","_law_other","_law_there"] ["_law_book_here","_law_view_here","_law_names_here"] (aJ pN):=nQ
theorem xT(d:Ok P w base t.dD 4 3 bZ):Ok P w base t.fV 5 3 fU:=Fp (g:=fQ) t.fV xR λ_ _ _ _ _ _ c a b=>(aA (bh 3 b (Xd (pJ aY aY (pJ aY aY (pJ aY aY (pJ aY aY (pJ aY aY Ro))))) (hn:=λρ ps h=>zD ((yP (yP (yP (yP (yP Rp))))) ρ ps h) ()))) (aA (bh 4 b (bT dJ S t.fK dI (aj (cZ ["_law_row_here"] (pB ["_law_known_here"] [3]) S (cY (ak 0)) (λ_ _ _ _=>(ei 1)) (λ_ _ _ _=>bR) (λ_ _ _ _=>(dY (aj (bI (ak 1) aD) (aj (bT dJ S t.fK dI (aj (cT Wg S t.vD qW (aj (cZ ["_law_field","_law_word_here"] (pB ["_law_known_here"] [0]) S (cY (bI (ak 1) aD)) (λ_ _ _ _=>(su S (cF (ei 1) (cF (ei 2) ou)))) (λ_ _ _ _=>bR) (λ_ _ _ _=>(dY (aj (sI a (ak 0) (ak 1)) (aj (ak 2) au)))) (El (gM (bL) (gM (bL) zK)))) au)) au)) au)))) (bL)) au))) (aA (bh 5 b (dR t.dD d c (aj (ak 4) (aj (bT dJ S t.fK dI (aj (cZ ["_law_field","_law_how"] (pB ["_law_known_here"] [3]) S (cY (ak 1)) (λ_ _ _ _=>(su S (cF (ei 1) (cF (ei 2) ou)))) (λ_ _ _ _=>bR) (λ_ _ _ _=>(dY (aj (sI a (ak 0) (ak 1)) (aj (ak 2) au)))) (El (gM (bL) (gM (bL) zK)))) au)) (aj (ak 2) au))))) (aA (cM (Jy (of_eq a) (ak 5) (cZ ["_law_field","_law_word_here","_law_rows"] (pB ["_law_known_here"] [3]) S (cY (dR t.dD d c (aj (ak 0) (aj (ak 1) (aj (ak 2) au))))) (λ_ _ _ _=>(su S (cF (ei 1) (cF (ei 2) (cF (ei 3) ou))))) (λ_ _ _ _=>bR) (λ_ _ _ _=>(dY (aj (sI a (ak 0) (ak 1)) (aj (ak 2) (aj (ak 3) au))))) (El (gM (bL) (gM (bL) (gM (bL) zK))))) (gj _))) aP))))
theorem yU:bC ["_law_book_here","_law_names_here","_law_field","_law_size","_law_signs","_law_some_here","_law_name","_law_words","_law_turned","_law_word_here","_law_here","_law_least","_law_greatest"] ["_law_book_here","_law_names_here","_law_field","_law_size"] (aJ ql):=nQ
theorem yV(c:Ok P w base t.dD 4 3 bZ):Ok P w base t.gF 5 4 gC:=Fp (g:=gB) t.gF yU λ_ _ _ _ _ _ d b a=>(aA (bh 4 a aY) (aA (bh 5 a (gk au)) (aA (JH 0 PassesOwn.never S (su S (cF (aQ 6 a) (cF (aQ 7 a) ou))) (bV [6,7] (aA (uN (jQ (of_eq b) (cT qK S t.yg qJ (aj (Rn b (Fz (bT (M4 S) S t.Xi QT (aj (ak 7) au))) (ak 2) aY) au)) (ak 3) (gj _)) (bV [] (aA (uO 5 (dY (aj (ak 6) (aj (dY (aj (dY (aj (ak 2) (aj (sI b (Fz (bT (M4 S) S t.Xi QT (aj (ak 7) au))) (ak 2)) au))) au)) au)))) aP)) (bV [] aP)) aP))) (aA (bh 8 a (gk au)) (aA (JH 5 PassesOwn.never S (su S (cF (aQ 6 a) (cF (aQ 7 a) ou))) (bV [6,7,9] (aA (bh 9 a (QW (cZ ["_law_sign"] (pB ["_law_signs"] [4]) S (cY (bI (bI (ak 7) aD) aD)) (λ_ _ _ _=>(ei 1)) (λ_ _ _ _=>bR) (λ_ _ _ _=>(bI (ak 0) (aV OD aD (SS (ak 0) (ak 1))))) (bL)))) (aA (uO 8 (dY (aj (ak 6) (aj (dY (aj (dY (aj (ak 2) (aj (ak 9) au))) au)) au)))) aP)))) (aA (bh 10 a (bT dJ S t.fK dI (aj (cZ ["_law_name"] (pB ["_law_some_here"] [5]) S (cY (ak 1)) (λ_ _ _ _=>(ei 1)) (λ_ _ _ _=>(lO (jQ MX (ak 1) (cZ ["_law_row_here"] (pB [] []) S (cY (ak 0)) (λ_ _ _ _=>(ei 0)) (λ_ _ _ _=>bR) (λ_ _ _ _=>(bI (ak 0) aD)) (bL)) (by with_unfolding_all rfl)))) (λ_ _ _ _=>(ak 1)) (bL)) au))) (aA (bh 11 a (dR t.dD c d (aj (bT dJ S t.fK dI (aj (ak 5) au)) (aj (dY (aj (dY (aj (ak 2) (aj aY au))) au)) (aj (ak 10) au))))) (aA (bh 12 a (dR t.dD c d (aj (bT dJ S t.fK dI (aj (ak 8) au)) (aj (dY (aj (dY (aj (ak 2) (aj aY au))) au)) (aj (ak 10) au))))) (aA (cM (Jy (of_eq b) (cZ ["_law_part"] (pB [] []) S (cY (ak 11)) (λ_ _ _ _=>(ei 0)) (λ_ _ _ _=>bR) (λ_ _ _ _=>(bI (ak 0) aD)) (bL)) (cZ ["_law_part"] (pB [] []) S (cY (ak 12)) (λ_ _ _ _=>(ei 0)) (λ_ _ _ _=>bR) (λ_ _ _ _=>(bI (ak 0) aD)) (bL)) (gj _))) aP)))))))))
theorem P5:bC ["_law_script","_law_book_here","_law_names_here","_law_cell_here","_law_xs","_law_view_here","_law_some_here"] ["_law_script"] (aJ s_law):=nQ
theorem PH(l:Ok P w base t.tH 3 2 sW)(h:Ok P w base t.jT 1 2 gR)(f:Ok P w base t.fV 5 3 fU)(e:Ok P w base t.gD 5 3 gA)(d:Ok P w base t.fu 1 2 fj)(i:Ok P w base t.gF 5 4 gC)(n:Ok P w base t.tL 1 2 tu)(j:Ok P w base t.tK 1 1 sY)(c:Ok P w base t.dD 4 3 bZ):Ok P w base t.x_law 6 1 F_law:=Fp (g:=Rt) t.x_law P5 λ_ _ _ _ _ _ a m b=>(aA (bh 1 b (dR t.tH l a (aj (ak 0) (aj aD au)))) (aA (QL 2 ["_law_row_here"] (pB [] []) S b (cY (ak 1)) (λ_ _ _ _=>(ei 0)) (λ_ _ _ _=>bR) (λ_ _ _ _=>(bI (ak 0) aD)) (bL)) (aA (pA PassesOwn.never S (Dm (aV dZ (gk (aj (kE (dR t.jT h a (aj (ak 0) (aj aD au)))) au)) (Ma (ak 0) (qX aD) (qX aD)))) (aQ 3 b) (bV [3,4,5,6] (aA (bh 4 b (dR t.fu d a (aj (ak 3) (aj aD au)))) (aA (NV 5 6 S b (aj (kE (dR t.tK j a (aj (ak 4) au))) (aj (kE (dR t.tL n a (aj (ak 2) (aj (kE (Ma (ak 4) (qX aD) zP)) au)))) au))) (aA (uN (Iq (Vr (Oq (Jz (dR t.gD e a (aj (ak 1) (aj (ak 5) (aj (ak 6) au)))))) (QH (Oq (Jz (dR t.fV f a (aj (ak 1) (aj (ak 5) (aj (ak 6) au))))))))) (aA (cM QG) aP) aP) (aA (uN (Oq (Jz (dR t.gF i a (aj (ak 1) (aj (ak 6) (aj (bI (gk (aj aY (aj aY (aj aY (aj aY au))))) (aV cU (bI (ak 4) aD) aD)) (aj (kE (aV dZ aD (aV cU (aV jK (bI (ak 4) aD) aD) aD))) au))))))) (aA (cM QG) aP) aP) (aA (uN (jQ (IX m) (dR t.dD c a (aj (ak 1) (aj (kE (PR (ak 5) (QF JQ aD))) (aj (ak 6) au)))) (ZJ (dR t.dD c a (aj (ak 1) (aj (ak 5) (aj (ak 6) au)))) (QF JQ aD)) (gj _)) (aA (cM QG) aP) aP) aP))))))) (aA (cM QG) aP))))
theorem D3:Ok P w base t.x_law 6 1 F_law:=by
 have c:=M9 (P:=P) (w:=w) (base:=base) t;have b:=Gd (P:=P) (w:=w) (base:=base) t;have s:=Kf (P:=P) (w:=w) (base:=base) t;have m:=Nf (P:=P) (w:=w) (base:=base) t;have l:=Py (P:=P) (w:=w) (base:=base) t m;have n:=Nh (P:=P) (w:=w) (base:=base) t c s b l;have z:=Nj (P:=P) (w:=w) (base:=base) t;have C:=Nm (P:=P) (w:=w) (base:=base) t;have i:=Kh (P:=P) (w:=w) (base:=base) t;have x:=Ai (P:=P) (w:=w) (base:=base) t;have h:=T6 (P:=P) (w:=w) (base:=base) t;have d:=PJ (P:=P) (w:=w) (base:=base) t;have e:=Nq (P:=P) (w:=w) (base:=base) t d;have q:=Bu (P:=P) (w:=w) (base:=base) t;have g:=G9 (P:=P) (w:=w) (base:=base) t;have o:=Dg (P:=P) (w:=w) (base:=base) t;have B:=Kl (P:=P) (w:=w) (base:=base) t;have u:=Ko (P:=P) (w:=w) (base:=base) t;have v:=Hg (P:=P) (w:=w) (base:=base) t;have A:=PL (P:=P) (w:=w) (base:=base) t v q u g o B d e;have a:=PX (P:=P) (w:=w) (base:=base) t h A e;have p:=yS (P:=P) (w:=w) (base:=base) t x i a;have y:=xT (P:=P) (w:=w) (base:=base) t a;have j:=yV (P:=P) (w:=w) (base:=base) t a;have f:=PH (P:=P) (w:=w) (base:=base) t n c y p b j C z a;exact f
end
end G38
end
section
set_option synthInstance.maxSize 100000
namespace G38
open L2 P1
noncomputable section
def yh(a:Int)(b:Int):Int:=(let a:=(((a*69621)+b)%2147483647);a)
theorem Hh(d:B0)(e:Lp bO (d.map eI))(c:Int)(a:Int)(b:Int):RP xZ [Z bO,Z (zE eI c),Z (zE eI a),Z (zE eI b)] (λs=>An.nx ((λa:Int=>[Z bO,Z (zE eI c),Z (zE eI a),U]) s)) (yh  a b) (U):=R.tp (cX (bM 2 (dM (n8 (Q7 (aq 2 (zE eI) a S) 69621 ()) (aq 3 (zE eI) b S)) 2147483647 ()) (λ_=>S) λa=>(eU (cP a S))))
def bG(c:B0)(b:Int):Int:=(if(decide (b<(c.length:Int)))=true then(Ap c b)else(let a:=((48271*(((b*b)+(7*b))+11))%2147483647);(let a:Int:=((Bn c U (Z 3)).foldl (λ(a:Int) (d:Int)=>(yh  a d)) a);a)))
def jW(b:B0)(a:Int):Prop:=(((decide (a<(b.length:Int)))=true->In b.length a)/\((decide (a<(b.length:Int)))=false->ER a a))
theorem Qa(c:B0)(d:Lp bO (c.map eI))(a:Int):RP sO [Z bO,Z (zE eI a),U,U] (λr=>An.rt (zE eI r)) (bG c a) (Z (jW c a)):=R.tp (Fi (pC (Ha (aq 1 (zE eI) a S) (Bi (dB 0 eI c d S)))) (cX (fG (λr=>r) (kY (dB 0 eI c d S) (aq 1 (zE eI) a S)) (λ_=>S) λ_=>S)) (eU (bM 2 (dM (J1 48271 () (n8 (n8 (IR (aq 1 (zE eI) a S) (aq 1 (zE eI) a S)) (J1 7 () (aq 1 (zE eI) a S))) (BB 11))) 2147483647 ()) (λ_=>S) λb=>(MW (λb:Int=>[Z bO,Z (zE eI a),Z (zE eI b),U]) b S (Ff (FG (dB 0 eI c d S) ZP (Tr (BB 3)))) _ (λ_ _=>S) (λ(b:Int) (e:Int)=>(Hh c d a b e).r) (λ_ _=>S) λb=>(fG (λr=>r) (aq 2 (zE eI) b S) (λ_=>S) λ_=>S)))))
theorem za:∀v bs,(aL eI (aZ eI aN)) v bs->bs.length=2/\(B4 (Z (jW v.1 v.2.1))->gR (bs.map lend)=Z ((zE eI) (bG v.1 v.2.1))):=by
 rintro⟨c,a,_⟩ _ ⟨bO,_,rfl,b,⟨_,rfl,rfl⟩⟩;exact⟨rfl,λh=>cj (g:=sO) (n:=4) (bs:=[lend bO,.z (eI a)]) (Qa c (mO b) a) h⟩
def bU(a:Int×B0×Int)(c:Int):Int×B0×Int:=(let b:=((((a.1*((a.1%65521)+40487))+(7*c))+5)%1999999973);(let e:=a.2.1++[(Ap [b,(a.2.2%1000000)] (if(decide ((0:Int)<a.2.2))=true then(1:Int)else 0))];(let d:=(a.2.2 / (1000000:Int));(b,e,d))))
def jA(a:Int×B0×Int)(c:Int):Prop:=(ER a.1 ((a.1%65521)+40487)/\(let b:=((((a.1*((a.1%65521)+40487))+(7*c))+5)%1999999973);(In [b,(a.2.2%1000000)].length (if(decide ((0:Int)<a.2.2))=true then(1:Int)else 0)/\K1 a.2.1.length)))
theorem Bw(c:Int)(d:Int)(a:Int×B0×Int)(b:Int):RP lW [Z (zE eI c),Z (zE eI d),Z ((oE eI) a.2.1),Z ((zE eI) a.1),Z ((zE eI) a.2.2),Z (zE eI b)] (λs=>An.nx ((λa:Int×B0×Int=>[Z (zE eI c),Z (zE eI d),Z ((oE eI) a.2.1),Z ((zE eI) a.1),Z ((zE eI) a.2.2),U]) s)) (bU  a b) (Z (jA  a b)):=R.tp (cX (bM 3 (dM (n8 (n8 (IR (aq 3 (zE eI) a.1 S) (n8 (dM (aq 3 (zE eI) a.1 S) 65521 ()) (BB 40487))) (J1 7 () (aq 5 (zE eI) b S))) (BB 5)) 1999999973 ()) (λ_=>S) λe=>(cX (Cq 2 a.2.1 S (kY (gQ (lK (aR (aq 3 (zE eI) e S) (aR (dM (aq 4 (zE eI) a.2.2 S) 1000000 ()) (d7 eI))) (zv S))) (Mo (FU (aq 4 (zE eI) a.2.2 S) (BB 0)))) λg=>(cX (bM 4 (p8 (aq 4 (zE eI) a.2.2 S) 1000000 ()) (λ_=>S) λf=>(eU (cP (e,g,f) S))))))))
def rA(b:Int)(c:Int)(a:B0)(e:Int)(d:Int):B0:=a
def rB:Ev->Y An:=(aF (GR 2) jl)
theorem BJ(b:Int)(c:Int)(a:B0)(e:Int)(d:Int):RP rB [Z (zE eI b),Z (zE eI c),Z (oE eI a),Z (zE eI e),Z (zE eI d),U] (λr=>An.rt (oE eI r)) (rA b c a e d) (U):=R.tp (Pg 2 (λr=>r) a S (λ_=>S) λ_=>S)
def jB(c:Int)(b:Int)(g:B0)(e:Int)(d:Int):B0:=(let a:Int×B0×Int:=((rng 0 b.toNat).foldl (λ(a:Int×B0×Int) (f:Int)=>(bU  a f)) (e,g,d));(rA c b a.2.1 a.1 a.2.2))
def mq(g:Int)(c:Int)(f:B0)(e:Int)(d:Int):Prop:=(Rg c/\sJ (λ(a:Int×B0×Int) (b:Int)=>(bU  a b)) (λ(a:Int×B0×Int) (b:Int)=>Z (jA  a b)) (rng 0 c.toNat) (e,f,d))
def rC:Ev->Y An:=(aF (oA (KZ (ao (gv 1) aG)) (jm 5) lW) rB)
theorem BK(c:Int)(b:Int)(f:B0)(e:Int)(d:Int):RP rC [Z (zE eI c),Z (zE eI b),Z (oE eI f),Z (zE eI e),Z (zE eI d),U] (λr=>An.rt (oE eI r)) (jB c b f e d) (Z (mq c b f e d)):=R.tp (Cr (λa:Int×B0×Int=>[Z (zE eI c),Z (zE eI b),Z ((oE eI) a.2.1),Z ((zE eI) a.1),Z ((zE eI) a.2.2),U]) (e,f,d) S (Cp (aq 1 (zE eI) b S)) _ (λ_ _=>S) (λ(a:Int×B0×Int) (g:Int)=>(Bw c b a g).r) λa=>(BJ c b a.2.1 a.1 a.2.2).r)
def rD(a:Int)(c:Int)(e:B0)(d:Int)(b:Int):B0:=(let b:Int:=(if((decide (a<0))||(decide (((10:Int) ^ 18)<=a)))=true then(let b:=(if a<0 then -a else a);b)else b);(jB a c e d b))
def rE(a:Int)(c:Int)(e:B0)(d:Int)(b:Int):Prop:=(let b:Int:=(if((decide (a<0))||(decide (((10:Int) ^ 18)<=a)))=true then(let b:=(if a<0 then -a else a);b)else b);(mq a c e d b))
def rG:Ev->Y An:=(aF (KR (D7 (G4 D4 (gv 0) (cB (.int 0))) (G4 EV (gv 0) (b2 Zi (cB (.int 10)) (cB (.int 18))))) (aF (aF (At 4 (bY S9 (ao (gv 0) aG))) jl) (fM [])) (aF jl (fM []))) rC)
theorem BL(b:Int)(c:Int)(e:B0)(d:Int)(a:Int):RP rG [Z (zE eI b),Z (zE eI c),Z (oE eI e),Z (zE eI d),Z (zE eI a),U] (λr=>An.rt (oE eI r)) (rD b c e d a) (Z (rE b c e d a)):=R.tp (Q9 (λa:Int=>[Z (zE eI b),Z (zE eI c),Z (oE eI e),Z (zE eI d),Z (zE eI a),U]) (IQ (pC (Ha (aq 0 (zE eI) b S) (BB 0))) (pC (FF (aq 0 (zE eI) b S) (KO 10 18 18 () S)))) (cX (bM 4 (LS (aq 0 (zE eI) b S)) (λ_=>S) λa=>(eU (cP a S)))) (eU (cP a S)) λa=>(BK b c e d a).r)
def rH(a:Int)(b:Int)(e:B0)(d:Int):B0:=(let c:=(0:Int);(rD a b e d c))
def rJ(a:Int)(b:Int)(e:B0)(d:Int):Prop:=(let c:=(0:Int);(rE a b e d c))
def rK:Ev->Y An:=(aF (At 4 (cB (.int 0))) rG)
theorem BP(a:Int)(b:Int)(d:B0)(c:Int):RP rK [Z (zE eI a),Z (zE eI b),Z (oE eI d),Z (zE eI c),U,U] (λr=>An.rt (oE eI r)) (rH a b d c) (Z (rJ a b d c)):=R.tp (bM 4 (BB 0) (λ_=>S) λe=>(BL a b d c e).r)
def rM(a:Int)(b:Int)(d:B0):B0:=(let c:=((((a%1999999973)+31)*765432101)%1999999973);(rH a b d c))
def rN(a:Int)(b:Int)(d:B0):Prop:=(let c:=((((a%1999999973)+31)*765432101)%1999999973);(rJ a b d c))
def BR:Ev->Y An:=(aF (At 3 (b2 gG (b2 xQ (b2 jG (b2 gG (gv 0) (cB (.int 1999999973))) (cB (.int 31))) (cB (.int 765432101))) (cB (.int 1999999973)))) rK)
theorem BW(a:Int)(b:Int)(c:B0):RP BR [Z (zE eI a),Z (zE eI b),Z (oE eI c),U,U,U] (λr=>An.rt (oE eI r)) (rM a b c) (Z (rN a b c)):=R.tp (bM 3 (dM (Q7 (n8 (dM (aq 0 (zE eI) a S) 1999999973 ()) (BB 31)) 765432101 ()) 1999999973 ()) (λ_=>S) λd=>(BP a b c d).r)
def bw(a:Int)(b:Int):B0:=(let c:=([]:O Int);(rM a b c))
def fZ(a:Int)(b:Int):Prop:=(let c:=([]:O Int);(rN a b c))
theorem Hi(a:Int)(b:Int):RP mF [Z (zE eI a),Z (zE eI b),U,U,U,U] (λr=>An.rt (oE eI r)) (bw a b) (Z (fZ a b)):=R.tp (bM 2 (lK (d7 eI) (zv S)) (λ_=>S) λc=>(BW a b c).r)
theorem qM:∀v bs,(aZ eI (aZ eI aN)) v bs->bs.length=2/\(B4 (Z (fZ v.1 v.2.1))->fj (bs.map lend)=Z ((oE eI) (bw v.1 v.2.1))):=by
 rintro⟨a,b,_⟩ _ ⟨_,rfl,⟨_,rfl,rfl⟩⟩;exact⟨rfl,λh=>cj (g:=mF) (n:=6) (bs:=[.z (eI a),.z (eI b)]) (Hi a b) h⟩
def dW(e:B0)(f:AJ)(g:AJ)(d:Int)(c:AZ)(b:Int):AZ:=(let h:=(ch f ((b+(Ap e 2))%15));(let a:=(((Txt.slice g U (Z d))++h)++(Txt.slice g (Z d) U));(let a:AJ:=(if(decide (((Ap e 3)%3)=1))=true then(let a:=(Txt.mul (ch f (b / (8:Int))) (1+(b%8)));a)else a);(let c:=c++[a];c))))
def lA(b:B0)(d:AJ)(e:AJ)(c:Int)(h:AZ)(a:Int):Prop:=((In b.length 2/\In d.length ((a+(Ap b 2))%15))/\(let g:=(ch d ((a+(Ap b 2))%15));((K1 ((Txt.slice e U (Z c)).length+g.length)/\K1 (((Txt.slice e U (Z c))++g).length+(Txt.slice e (Z c) U).length))/\(let f:=(((Txt.slice e U (Z c))++g)++(Txt.slice e (Z c) U));((In b.length 3/\((decide (((Ap b 3)%3)=1))=true->(In d.length (a / (8:Int))/\((1+(a%8))<=1000 ∧ -1000<=(1+(a%8))/\(ch d (a / (8:Int))).length<=1000))))/\(let f:AJ:=(if(decide (((Ap b 3)%3)=1))=true then(let f:=(Txt.mul (ch d (a / (8:Int))) (1+(a%8)));f)else f);K1 h.length))))))
theorem Gf(g:B0)(j:Lp bO (g.map eI))(h:Int)(c:AJ)(e:AJ)(b:Int)(a:AZ)(f:Int):RP pO [Z bO,Z (zE eI h),Z (zE eS c),Z (zE eS e),Z (zE eI b),Z (oE eS a),Z (zE eI f),U,U] (λs=>An.nx ((λa:AZ=>[Z bO,Z (zE eI h),Z (zE eS c),Z (zE eS e),Z (zE eI b),Z (oE eS a),U,U,U]) s)) (dW g c e b a f) (Z (lA g c e b a f)):=R.tp (cX (bM 7 (Ir (aq 2 (zE eS) c S) (dM (n8 (aq 6 (zE eI) f S) (kY (dB 0 eI g j S) (BB 2))) 15 ())) (λ_=>S) λi=>(cX (bM 8 (Fe (Fe (HZ (aq 3 (zE eS) e S) ZP (Tr (aq 4 (zE eI) b S))) (aq 7 (zE eS) i S)) (HZ (aq 3 (zE eS) e S) (Tr (aq 4 (zE eI) b S)) ZP)) (λ_=>S) λd=>(cX (Q9 (λd:AJ=>[Z bO,Z (zE eI h),Z (zE eS c),Z (zE eS e),Z (zE eI b),Z (oE eS a),Z (zE eI f),Z (zE eS i),Z (zE eS d)]) (pC (C9 () (dM (kY (dB 0 eI g j S) (BB 3)) 3 ()) (BB 1))) (cX (bM 8 (OF (Ir (aq 2 (zE eS) c S) (p8 (aq 6 (zE eI) f S) 8 ())) (n8 (BB 1) (dM (aq 6 (zE eI) f S) 8 ()))) (λ_=>S) λd=>(eU (cP d S)))) (eU (cP d S)) λd=>(cX (Cq 5 a S (aq 8 (zE eS) d S) λa=>(eU (cP a S))))))))))
def vK(c:B0)(e:Int)(d:AJ)(f:AJ)(b:Int)(a:AZ):AZ:=a
def vL:Ev->Y An:=(aF (GR 5) jl)
theorem Gg(c:B0)(g:Lp bO (c.map eI))(e:Int)(d:AJ)(f:AJ)(b:Int)(a:AZ):RP vL [Z bO,Z (zE eI e),Z (zE eS d),Z (zE eS f),Z (zE eI b),Z (oE eS a),U,U,U] (λr=>An.rt (oE eS r)) (vK c e d f b a) (U):=R.tp (Pg 5 (λr=>r) a S (λ_=>S) λ_=>S)
def vM(c:B0)(e:Int)(d:AJ)(f:AJ)(b:Int)(a:AZ):AZ:=(let a:AZ:=((rng 0 e.toNat).foldl (λ(a:AZ) (g:Int)=>(dW c d f b a g)) a);(vK c e d f b a))
def vN(d:B0)(f:Int)(e:AJ)(g:AJ)(c:Int)(a:AZ):Prop:=(Rg f/\sJ (λ(a:AZ) (b:Int)=>(dW d e g c a b)) (λ(a:AZ) (b:Int)=>Z (lA d e g c a b)) (rng 0 f.toNat) a)
def vO:Ev->Y An:=(aF (oA (KZ (ao (gv 1) aG)) (jm 6) pO) vL)
theorem Gh(f:B0)(g:Lp bO (f.map eI))(b:Int)(d:AJ)(e:AJ)(c:Int)(a:AZ):RP vO [Z bO,Z (zE eI b),Z (zE eS d),Z (zE eS e),Z (zE eI c),Z (oE eS a),U,U,U] (λr=>An.rt (oE eS r)) (vM f b d e c a) (Z (vN f b d e c a)):=R.tp (Cr (λa:AZ=>[Z bO,Z (zE eI b),Z (zE eS d),Z (zE eS e),Z (zE eI c),Z (oE eS a),U,U,U]) a S (Cp (aq 1 (zE eI) b S)) _ (λ_ _=>S) (λ(a:AZ) (h:Int)=>(Gf f g b d e c a h).r) λa=>(Gg f g b d e c a).r)
def vP(b:B0)(d:Int)(c:AJ)(e:AJ)(a:Int):AZ:=(let f:=([]:AZ);(vM b d c e a f))
def vQ(b:B0)(d:Int)(c:AJ)(e:AJ)(a:Int):Prop:=(let f:=([]:AZ);(vN b d c e a f))
def vR:Ev->Y An:=(aF (At 5 (bY kJ aG)) vO)
theorem Gi(b:B0)(f:Lp bO (b.map eI))(d:Int)(c:AJ)(e:AJ)(a:Int):RP vR [Z bO,Z (zE eI d),Z (zE eS c),Z (zE eS e),Z (zE eI a),U,U,U,U] (λr=>An.rt (oE eS r)) (vP b d c e a) (Z (vQ b d c e a)):=R.tp (bM 5 (lK (d7 eS) (zv S)) (λ_=>S) λg=>(Gh b f d c e a g).r)
def lB(a:B0)(e:Int)(d:AJ)(b:AJ):AZ:=(let c:=((Ap a 1)%((b.length:Int)+1));(vP a e d b c))
def pQ(a:B0)(e:Int)(d:AJ)(b:AJ):Prop:=((In a.length 1/\0<((b.length:Int)+1))/\(let c:=((Ap a 1)%((b.length:Int)+1));(vQ a e d b c)))
def vU:Ev->Y An:=(aF (At 4 (b2 gG (b2 gH (gv 0) (cB (.int 1))) (b2 jG (bY uV (ao (gv 3) aG)) (cB (.int 1))))) vR)
theorem Gj(a:B0)(e:Lp bO (a.map eI))(d:Int)(c:AJ)(b:AJ):RP vU [Z bO,Z (zE eI d),Z (zE eS c),Z (zE eS b),U,U,U,U,U] (λr=>An.rt (oE eS r)) (lB a d c b) (Z (pQ a d c b)):=R.tp (bM 4 (Wk (kY (dB 0 eI a e S) (BB 1)) (n8 (Pb (aq 3 (zE eS) b S)) (BB 1))) (λ_=>S) λf=>(Gi a e d c b f).r)
def vV(a:B0)(c:Int)(b:AJ):AZ:=(let d:=(Txt.join "" ((rng 0 ((Ap a 0)%6).toNat).map λe:Int=>(ch b (((Ap a e) / (40:Int))%26))));(lB a c b d))
def vW(a:B0)(d:Int)(c:AJ):Prop:=(((((In a.length 0/\Rg ((Ap a 0)%6))/\(rng 0 ((Ap a 0)%6).toNat).length<=100000)/\(∀b∈(rng 0 ((Ap a 0)%6).toNat),(In a.length b/\In c.length (((Ap a b) / (40:Int))%26))))/\(((rng 0 ((Ap a 0)%6).toNat).map λb:Int=>(ch c (((Ap a b) / (40:Int))%26))).map (·.length)).sum+((rng 0 ((Ap a 0)%6).toNat).map λb:Int=>(ch c (((Ap a b) / (40:Int))%26))).length*("":AJ).length<=100000)/\(let e:=(Txt.join "" ((rng 0 ((Ap a 0)%6).toNat).map λb:Int=>(ch c (((Ap a b) / (40:Int))%26))));(pQ a d c e)))
def Gk:Ev->Y An:=(aF (At 3 (b1 (Ep "") (cg (KZ (ao (b2 gG (b2 gH (gv 0) (cB (.int 0))) (cB (.int 6))) aG)) (jm 2) kW (b2 gH (gv 0) (b2 gG (b2 nY (b2 gH (gv 1) (gv 2)) (cB (.int 40))) (cB (.int 26)))) [2,0] 1))) vU)
theorem Gm(a:B0)(d:Lp bO (a.map eI))(c:Int)(b:AJ):RP Gk [Z bO,Z (zE eI c),Z (zE eS b),U,U,U,U,U,U] (λr=>An.rt (oE eS r)) (vV a c b) (Z (vW a c b)):=R.tp (bM 3 (Wt "" (gQ (pD (Cp (dM (kY (dB 0 eI a d S) (BB 0)) 6 ())) _ (λ_=>S) (λe:Int=>(Ir (aq 0 (zE eS) b S) (dM (p8 (kY (dB 1 eI a d (congrArg Z (d.get S))) (aq 2 (zE eI) e S)) 40 ()) 26 ())))))) (λ_=>S) λf=>(Gj a d c b f).r)
def dN(b:B0)(a:Int):AZ:=(let c:=("abcdefghijklmnopqrstuvwxyz":AJ);(vV b a c))
def qC(b:B0)(a:Int):Prop:=(let c:=("abcdefghijklmnopqrstuvwxyz":AJ);(vW b a c))
theorem Nr(b:B0)(d:Lp bO (b.map eI))(a:Int):RP qm [Z bO,Z (zE eI a),U,U,U,U,U,U,U] (λr=>An.rt (oE eS r)) (dN b a) (Z (qC b a)):=R.tp (bM 2 (nT "abcdefghijklmnopqrstuvwxyz") (λ_=>S) λc=>(Gm b d a c).r)
theorem Nt:∀v bs,(aL eI (aZ eI aN)) v bs->bs.length=2/\(B4 (Z (qC v.1 v.2.1))->mY (bs.map lend)=Z ((oE eS) (dN v.1 v.2.1))):=by
 rintro⟨b,a,_⟩ _ ⟨bO,_,rfl,c,⟨_,rfl,rfl⟩⟩;exact⟨rfl,λh=>cj (g:=qm) (n:=9) (bs:=[lend bO,.z (eI a)]) (Nr b (mO c) a) h⟩
def f9(c:Int)(a:AJ)(b:Int):AJ:=(let a:=(a++(ch ("ab1":AJ) (((c / (16:Int)) / (Ap [(1:Int),(3:Int),(9:Int),(27:Int)] b))%3)));a)
def mG(b:Int)(c:AJ)(a:Int):Prop:=(((In [(1:Int),(3:Int),(9:Int),(27:Int)].length a/\(0<(Ap [(1:Int),(3:Int),(9:Int),(27:Int)] a)/\(Ap [(1:Int),(3:Int),(9:Int),(27:Int)] a)<1073741824))/\In ("ab1":AJ).length (((b / (16:Int)) / (Ap [(1:Int),(3:Int),(9:Int),(27:Int)] a))%3))/\K1 (c.length+(ch ("ab1":AJ) (((b / (16:Int)) / (Ap [(1:Int),(3:Int),(9:Int),(27:Int)] a))%3)).length))
theorem Hj(b:Int)(a:AJ)(c:Int):RP yc [Z (zE eI b),Z (zE eS a),Z (zE eI c)] (λs=>An.nx ((λa:AJ=>[Z (zE eI b),Z (zE eS a),U]) s)) (f9 b a c) (Z (mG b a c)):=R.tp (cX (bM 1 (Fe (aq 1 (zE eS) a S) (Ir (nT "ab1") (dM (J2 (p8 (aq 0 (zE eI) b S) 16 ()) (kY (gQ (lK (aR (BB 1) (aR (BB 3) (aR (BB 9) (aR (BB 27) (d7 eI))))) (zv S))) (aq 2 (zE eI) c S))) 3 ()))) (λ_=>S) λa=>(eU (cP a S))))
def pR(b:Int):AJ:=(if(decide ((b%4)=0))=true then(Ap [("a":AJ),("ab":AJ),("abc":AJ),("b":AJ),("1":AJ),("12":AJ),("a1":AJ)] ((b / (4:Int))%7))else(let a:=("":AJ);(let a:AJ:=((rng 0 (1+((b / (4:Int))%4)).toNat).foldl (λ(a:AJ) (c:Int)=>(f9 b a c)) a);a)))
def tU(a:Int):Prop:=(((decide ((a%4)=0))=true->In [("a":AJ),("ab":AJ),("abc":AJ),("b":AJ),("1":AJ),("12":AJ),("a1":AJ)].length ((a / (4:Int))%7))/\((decide ((a%4)=0))=false->(let b:=("":AJ);(Rg (1+((a / (4:Int))%4))/\sJ (λ(b:AJ) (c:Int)=>(f9 a b c)) (λ(b:AJ) (c:Int)=>Z (mG a b c)) (rng 0 (1+((a / (4:Int))%4)).toNat) b))))
theorem Qc(a:Int):RP sS [Z (zE eI a),U,U] (λr=>An.rt (zE eS r)) (pR a) (Z (tU a)):=R.tp (Fi (pC (C9 () (dM (aq 0 (zE eI) a S) 4 ()) (BB 0))) (cX (fG (λr=>r) (kY (gQ (lK (aR (nT "a") (aR (nT "ab") (aR (nT "abc") (aR (nT "b") (aR (nT "1") (aR (nT "12") (aR (nT "a1") (d7 eS)))))))) (zv S))) (dM (p8 (aq 0 (zE eI) a S) 4 ()) 7 ())) (λ_=>S) λ_=>S)) (eU (bM 1 (nT "") (λ_=>S) λb=>(Cr (λb:AJ=>[Z (zE eI a),Z (zE eS b),U]) b S (Cp (n8 (BB 1) (dM (p8 (aq 0 (zE eI) a S) 4 ()) 4 ()))) _ (λ_ _=>S) (λ(b:AJ) (c:Int)=>(Hj a b c).r) λb=>(fG (λr=>r) (aq 1 (zE eS) b S) (λ_=>S) λ_=>S)))))
theorem Qd:∀v bs,(aZ eI aN) v bs->bs.length=1/\(B4 (Z (tU v.1))->sU (bs.map lend)=Z ((zE eS) (pR v.1))):=by
 rintro⟨a,_⟩ _ ⟨_,rfl,rfl⟩;exact⟨rfl,λh=>cj (g:=sS) (n:=3) (bs:=[.z (eI a)]) (Qc a) h⟩
def fW(c:B0)(d:AZ)(a:O aM)(b:Int):(O aM):=(let a:(O aM):=(if(decide ((0:Int)<((Ap c b)%4)))=true then(let a:=a++[((Ap d b),(pR ((Ap c b) / (4:Int))))];a)else a);a)
def oM(b:B0)(c:AZ)(d:O aM)(a:Int):Prop:=(In b.length a/\((decide ((0:Int)<((Ap b a)%4)))=true->((In c.length a/\(In b.length a/\(tU ((Ap b a) / (4:Int)))))/\K1 d.length)))
theorem Kq(f:AJ)(d:B0){e:Bx}(g:Lp e (d.map eI))(c:AZ)(a:O aM)(b:Int):RP Ab [Z (zE eS f),Z e,Z (oE eS c),Z (oE bB a),Z (zE eI b)] (λs=>An.nx ((λa:(O aM)=>[Z (zE eS f),Z e,Z (oE eS c),Z (oE bB a),U]) s)) (fW d c a b) (Z (oM d c a b)):=R.tp (cX (Q9 (λa:(O aM)=>[Z (zE eS f),Z e,Z (oE eS c),Z (oE bB a),Z (zE eI b)]) (pC (FU (dM (kY (dB 1 eI d g S) (aq 4 (zE eI) b S)) 4 ()) (BB 0))) (cX (Cq 3 a S (jR (kY (j8 (aq 2 (lE eS) c S)) (aq 4 (zE eI) b S)) (n6 (Au Qd (cJ (p8 (kY (dB 1 eI d g S) (aq 4 (zE eI) b S)) 4 ()) cD)))) λa=>(eU (cP a S)))) (eU (cP a S)) λa=>(eU (cP a S))))
def mz(d:AJ)(b:B0):aC:=(let c:=[("day":AJ),("name":AJ),(("name":AJ)++("s":AJ)),("p":AJ)];(let a:=([]:O aM);(let a:(O aM):=((rng 0 (kN 4)).foldl (λ(a:O aM) (e:Int)=>(fW b c a e)) a);(d,a))))
def rO(e:AJ)(c:B0):Prop:=(K1 (("name":AJ).length+("s":AJ).length)/\(let d:=[("day":AJ),("name":AJ),(("name":AJ)++("s":AJ)),("p":AJ)];(let a:=([]:O aM);sJ (λ(a:O aM) (b:Int)=>(fW c d a b)) (λ(a:O aM) (b:Int)=>Z (oM c d a b)) (rng 0 (kN 4)) a)))
theorem T7(b:AJ)(c:B0){d:Bx}(f:Lp d (c.map eI)):RP xq [Z (zE eS b),Z d,U,U,U] (λr=>An.rt (zE aK r)) (mz b c) (Z (rO b c)):=R.tp (bM 2 (lK (aR (nT "day") (aR (nT "name") (aR (n6 (Fe (nT "name") (nT "s"))) (aR (nT "p") (d7 eS))))) (zv S)) (λ_=>S) λe=>(bM 3 (lK (d7 bB) (zv S)) (λ_=>S) λa=>(Cr (λa:(O aM)=>[Z (zE eS b),Z d,Z (oE eS e),Z (oE bB a),U]) a S (NC 4 4 S (by unfold Rg;decide)) _ (λ_ _=>S) (λ(a:O aM) (g:Int)=>(Kq b c f e a g).r) λa=>(fG (λr=>r) (jR (aq 0 (zE eS) b S) (fJ (j8 (aq 3 (lE bB) a S)))) (λ_=>S) λ_=>S))))
theorem T8:∀v bs,(aZ eS (aL eI aN)) v bs->bs.length=2/\(B4 (Z (rO v.1 v.2.1))->xu (bs.map lend)=Z ((zE aK) (mz v.1 v.2.1))):=by
 rintro⟨a,b,_⟩ _ ⟨_,rfl,⟨c,_,rfl,d,rfl⟩⟩;exact⟨rfl,λh=>cj (g:=xq) (n:=5) (bs:=[.z (eS a),lend c]) (T7 a b (mO d)) h⟩
def mH(d:B0)(c:B0)(e:AZ)(a:O aC)(b:Int):(O aC):=(let a:=a++[(mz (Ap e (((4*b)+(Ap c 7))%15)) (bw (bG d (1+b)) 4))];a)
def qN(c:B0)(b:B0)(d:AZ)(e:O aC)(a:Int):Prop:=((((In b.length 7/\In d.length (((4*a)+(Ap b 7))%15))/\((jW c (1+a))/\(fZ (bG c (1+a)) 4)))/\(rO (Ap d (((4*a)+(Ap b 7))%15)) (bw (bG c (1+a)) 4)))/\K1 e.length)
theorem Hl(e:B0)(h:Lp bO (e.map eI))(f:Int)(b:B0)(d:AZ)(g:Int)(a:O aC)(c:Int):RP qL [Z bO,Z (zE eI f),Z (oE eI b),Z (oE eS d),Z (zE eI g),Z (oE aK a),Z (zE eI c)] (λs=>An.nx ((λa:(O aC)=>[Z bO,Z (zE eI f),Z (oE eI b),Z (oE eS d),Z (zE eI g),Z (oE aK a),U]) s)) (mH e b d a c) (Z (qN e b d a c)):=R.tp (cX (Cq 5 a S (n6 (Au T8 (cJ (kY (j8 (aq 3 (lE eS) d S)) (dM (n8 (J1 4 () (aq 6 (zE eI) c S)) (kY (j8 (aq 2 (lE eI) b S)) (BB 7))) 15 ())) (Bl (FX (Fh (Au qM (cJ (n6 (Au za (Bl (dB 0 eI e h S) (cJ (n6 (n8 (BB 1) (aq 6 (zE eI) c S))) cD)))) (cJ (BB 4) cD))))) cD)))) λa=>(eU (cP a S))))
def yj(e:B0)(c:Int)(b:B0)(f:AZ)(d:Int)(a:O aC):(O aC):=a
def yp:Ev->Y An:=(aF (gO (bY cN (ao (gv 5) aG))) jl)
theorem Ho(e:B0)(g:Lp bO (e.map eI))(c:Int)(b:B0)(f:AZ)(d:Int)(a:O aC):RP yp [Z bO,Z (zE eI c),Z (oE eI b),Z (oE eS f),Z (zE eI d),Z (oE aK a),U] (λr=>An.rt ((zE (eT aK)) r)) (yj e c b f d a) (U):=R.tp (fG (λr=>r) (fJ (j8 (aq 5 (lE aK) a S))) (λ_=>S) λ_=>S)
def yq(d:B0)(f:Int)(b:B0)(e:AZ)(c:Int)(a:O aC):(O aC):=(let a:(O aC):=((rng 0 c.toNat).foldl (λ(a:O aC) (g:Int)=>(mH d b e a g)) a);(yj d f b e c a))
def yr(e:B0)(g:Int)(c:B0)(f:AZ)(d:Int)(a:O aC):Prop:=(Rg d/\sJ (λ(a:O aC) (b:Int)=>(mH e c f a b)) (λ(a:O aC) (b:Int)=>Z (qN e c f a b)) (rng 0 d.toNat) a)
def yt:Ev->Y An:=(aF (oA (KZ (ao (gv 4) aG)) (jm 6) qL) yp)
theorem Hq(f:B0)(g:Lp bO (f.map eI))(d:Int)(c:B0)(e:AZ)(b:Int)(a:O aC):RP yt [Z bO,Z (zE eI d),Z (oE eI c),Z (oE eS e),Z (zE eI b),Z (oE aK a),U] (λr=>An.rt ((zE (eT aK)) r)) (yq f d c e b a) (Z (yr f d c e b a)):=R.tp (Cr (λa:(O aC)=>[Z bO,Z (zE eI d),Z (oE eI c),Z (oE eS e),Z (zE eI b),Z (oE aK a),U]) a S (Cp (aq 4 (zE eI) b S)) _ (λ_ _=>S) (λ(a:O aC) (h:Int)=>(Hl f g d c e b a h).r) λa=>(Ho f g d c e b a).r)
def yu(e:B0)(b:Int)(a:B0)(f:AZ)(c:Int):(O aC):=(let d:=([]:O aC);(yq e b a f c d))
def yw(e:B0)(b:Int)(a:B0)(f:AZ)(c:Int):Prop:=(let d:=([]:O aC);(yr e b a f c d))
def yx:Ev->Y An:=(aF (At 5 (bY kJ aG)) yt)
theorem Hr(d:B0)(g:Lp bO (d.map eI))(b:Int)(a:B0)(e:AZ)(c:Int):RP yx [Z bO,Z (zE eI b),Z (oE eI a),Z (oE eS e),Z (zE eI c),U,U] (λr=>An.rt ((zE (eT aK)) r)) (yu d b a e c) (Z (yw d b a e c)):=R.tp (bM 5 (lK (d7 aK) (zv S)) (λ_=>S) λf=>(Hq d g b a e c f).r)
def qO(d:B0)(a:Int)(b:B0)(e:AZ):(O aC):=(let c:=(Ap [(1:Int),(2:Int),(5:Int),(8:Int),a,a] ((Ap b 6)%6));(yu d a b e c))
def yC(d:B0)(a:Int)(b:B0)(e:AZ):Prop:=((In b.length 6/\In [(1:Int),(2:Int),(5:Int),(8:Int),a,a].length ((Ap b 6)%6))/\(let c:=(Ap [(1:Int),(2:Int),(5:Int),(8:Int),a,a] ((Ap b 6)%6));(yw d a b e c)))
def yD:Ev->Y An:=(aF (At 4 (b2 gH (bY kJ (ao (cB (.int 1)) (ao (cB (.int 2)) (ao (cB (.int 5)) (ao (cB (.int 8)) (ao (gv 1) (ao (gv 1) aG))))))) (b2 gG (b2 gH (gv 2) (cB (.int 6))) (cB (.int 6))))) yx)
theorem Ht(c:B0)(f:Lp bO (c.map eI))(a:Int)(b:B0)(d:AZ):RP yD [Z bO,Z (zE eI a),Z (oE eI b),Z (oE eS d),U,U,U] (λr=>An.rt ((zE (eT aK)) r)) (qO c a b d) (Z (yC c a b d)):=R.tp (bM 4 (kY (gQ (lK (aR (BB 1) (aR (BB 2) (aR (BB 5) (aR (BB 8) (aR (aq 1 (zE eI) a S) (aR (aq 1 (zE eI) a S) (d7 eI))))))) (zv S))) (dM (kY (j8 (aq 2 (lE eI) b S)) (BB 6)) 6 ())) (λ_=>S) λe=>(Hr c f a b d e).r)
def qP(d:B0)(c:Int)(a:B0):(O aC):=(let b:=(dN a 15);(qO d c a b))
def yE(d:B0)(c:Int)(a:B0):Prop:=((qC a 15)/\(let b:=(dN a 15);(yC d c a b)))
def Hu:Ev->Y An:=(aF (At 3 (bQ 2 mY (ao (gv 2) (ao (cB (.int 15)) aG)))) yD)
theorem Hv(c:B0)(d:Lp bO (c.map eI))(b:Int)(a:B0):RP Hu [Z bO,Z (zE eI b),Z (oE eI a),U,U,U,U] (λr=>An.rt ((zE (eT aK)) r)) (qP c b a) (Z (yE c b a)):=R.tp (bM 3 (Au Nt (Bl (j8 (aq 2 (lE eI) a S)) (cJ (BB 15) cD))) (λ_=>S) λe=>(Ht c d b a e).r)
def cV(a:B0)(c:Int):(O aC):=(let b:=(bw (bG a 0) 9);(qP a c b))
def tW(a:B0)(c:Int):Prop:=(((jW a 0)/\(fZ (bG a 0) 9))/\(let b:=(bw (bG a 0) 9);(yE a c b)))
theorem Qe(a:B0)(c:Lp bO (a.map eI))(b:Int):RP sV [Z bO,Z (zE eI b),U,U,U,U,U] (λr=>An.rt ((zE (eT aK)) r)) (cV a b) (Z (tW a b)):=R.tp (bM 2 (Au qM (cJ (n6 (Au za (Bl (dB 0 eI a c S) (cJ (BB 0) cD)))) (cJ (BB 9) cD))) (λ_=>S) λd=>(Hv a c b d).r)
theorem Qf:∀v bs,(aL eI (aZ eI aN)) v bs->bs.length=2/\(B4 (Z (tW v.1 v.2.1))->sW (bs.map lend)=Z ((zE (eT aK)) (cV v.1 v.2.1))):=by
 rintro⟨c,a,_⟩ _ ⟨bO,_,rfl,b,⟨_,rfl,rfl⟩⟩;exact⟨rfl,λh=>cj (g:=sV) (n:=7) (bs:=[lend bO,.z (eI a)]) (Qe c (mO b) a) h⟩
def c7(b:B0)(e:AZ)(a:AZ×(O aM))(d:Int):AZ×(O aM):=(let y2:=a.1;let c:=(((Ap b 1) / (Ap [(1:Int),(5:Int),(20:Int),(60:Int),(120:Int)] d))%(a.1.length:Int));let f:=y2.eraseIdx c.toNat;let vo:=Ap y2 c;(let g:=a.2++[(vo,(Ap e ((Ap b (2+d))%6)))];(f,g)))
def jJ(c:B0)(e:AZ)(a:AZ×(O aM))(b:Int):Prop:=(((((In c.length 1/\In [(1:Int),(5:Int),(20:Int),(60:Int),(120:Int)].length b)/\(0<(Ap [(1:Int),(5:Int),(20:Int),(60:Int),(120:Int)] b)/\(Ap [(1:Int),(5:Int),(20:Int),(60:Int),(120:Int)] b)<1073741824))/\0<(a.1.length:Int))/\(0<=(((Ap c 1) / (Ap [(1:Int),(5:Int),(20:Int),(60:Int),(120:Int)] b))%(a.1.length:Int))/\(((Ap c 1) / (Ap [(1:Int),(5:Int),(20:Int),(60:Int),(120:Int)] b))%(a.1.length:Int))<a.1.length/\a.1.length<=100000))/\(let y2:=a.1;let d:=(((Ap c 1) / (Ap [(1:Int),(5:Int),(20:Int),(60:Int),(120:Int)] b))%(a.1.length:Int));let f:=y2.eraseIdx d.toNat;let vo:=Ap y2 d;((In c.length (2+b)/\In e.length ((Ap c (2+b))%6))/\K1 a.2.length)))
theorem Hw(b:B0)(e:Lp bO (b.map eI))(c:AZ)(a:AZ×(O aM))(d:Int):RP yd [Z bO,Z ((oE eS) a.1),Z (oE eS c),Z ((oE bB) a.2),Z (zE eI d),U] (λs=>An.nx ((λa:AZ×(O aM)=>[Z bO,Z ((oE eS) a.1),Z (oE eS c),Z ((oE bB) a.2),U,U]) s)) (c7 b c a d) (Z (jJ b c a d)):=R.tp (cX (MQ 5 1 a.1 S (Wk (J2 (kY (dB 0 eI b e S) (BB 1)) (kY (gQ (lK (aR (BB 1) (aR (BB 5) (aR (BB 20) (aR (BB 60) (aR (BB 120) (d7 eI)))))) (zv S))) (aq 4 (zE eI) d S))) (Bi (j8 (aq 1 (lE eS) a.1 S)))) λf vo=>(cX (Cq 3 a.2 S (jR (aq 5 (zE eS) vo S) (kY (j8 (aq 2 (lE eS) c S)) (dM (kY (dB 0 eI b e S) (n8 (BB 2) (aq 4 (zE eI) d S))) 6 ()))) λg=>(eU (cP (f,g) S))))))
def dX(b:B0):(O aM):=(let c:=[("day":AJ),("name":AJ),("names":AJ),("p":AJ),("zzz":AJ)];(let d:=[("first":AJ),("last":AJ),("most":AJ),("longest":AJ),("least":AJ),("greatest":AJ)];(let f:=([]:O aM);(let a:AZ×(O aM):=((rng 0 ((Ap b 0)%6).toNat).foldl (λ(a:AZ×(O aM)) (e:Int)=>(c7 b d a e)) (c,f));a.2))))
def tX(a:B0):Prop:=(let e:=[("day":AJ),("name":AJ),("names":AJ),("p":AJ),("zzz":AJ)];(let d:=[("first":AJ),("last":AJ),("most":AJ),("longest":AJ),("least":AJ),("greatest":AJ)];(let f:=([]:O aM);((In a.length 0/\Rg ((Ap a 0)%6))/\sJ (λ(b:AZ×(O aM)) (c:Int)=>(c7 a d b c)) (λ(b:AZ×(O aM)) (c:Int)=>Z (jJ a d b c)) (rng 0 ((Ap a 0)%6).toNat) (e,f)))))
theorem Qg(b:B0)(d:Lp bO (b.map eI)):RP sX [Z bO,U,U,U,U,U] (λr=>An.rt ((zE (eT bB)) r)) (dX b) (Z (tX b)):=R.tp (bM 1 (lK (aR (nT "day") (aR (nT "name") (aR (nT "names") (aR (nT "p") (aR (nT "zzz") (d7 eS)))))) (zv S)) (λ_=>S) λf=>(bM 2 (lK (aR (nT "first") (aR (nT "last") (aR (nT "most") (aR (nT "longest") (aR (nT "least") (aR (nT "greatest") (d7 eS))))))) (zv S)) (λ_=>S) λc=>(bM 3 (lK (d7 bB) (zv S)) (λ_=>S) λg=>(Cr (λa:AZ×(O aM)=>[Z bO,Z ((oE eS) a.1),Z (oE eS c),Z ((oE bB) a.2),U,U]) (f,g) S (Cp (dM (kY (dB 0 eI b d S) (BB 0)) 6 ())) _ (λ_ _=>S) (λ(a:AZ×(O aM)) (e:Int)=>(Hw b d c a e).r) λa=>(fG (λr=>r) (fJ (j8 (aq 3 (lE bB) a.2 S))) (λ_=>S) λ_=>S)))))
theorem Qh:∀v bs,(aL eI aN) v bs->bs.length=1/\(B4 (Z (tX v.1))->sY (bs.map lend)=Z ((zE (eT bB)) (dX v.1))):=by
 rintro⟨a,_⟩ _ ⟨bO,_,rfl,b,rfl⟩;exact⟨rfl,λh=>cj (g:=sX) (n:=6) (bs:=[lend bO]) (Qg a (mO b)) h⟩
def ig(c:AZ)(b:B0):AZ:=(jY (((rng 0 (c.length:Int).toNat).filter λa:Int=>(decide ((0:Int)<(((Ap b (a%(b.length:Int))) / (1+(a / (b.length:Int))))%3)))).map λa:Int=>(Ap c a)))
def tY(c:AZ)(a:B0):Prop:=(((Rg (c.length:Int)/\(rng 0 (c.length:Int).toNat).length<=100000)/\(∀b∈(rng 0 (c.length:Int).toNat),((((0<(a.length:Int)/\In a.length (b%(a.length:Int)))/\(0<(a.length:Int)/\(a.length:Int)<1073741824))/\(0<(1+(b / (a.length:Int)))/\(1+(b / (a.length:Int)))<1073741824))/\((decide ((0:Int)<(((Ap a (b%(a.length:Int))) / (1+(b / (a.length:Int))))%3)))=true->In c.length b))))/\(((rng 0 (c.length:Int).toNat).filter λb:Int=>(decide ((0:Int)<(((Ap a (b%(a.length:Int))) / (1+(b / (a.length:Int))))%3)))).map λb:Int=>(Ap c b)).length<64)
theorem Qi(c:AZ)(e:Lp bO (c.map eS))(a:B0){f:Bx}(b:Lp f (a.map eI)):RP sZ [Z bO,Z f] (λr=>An.rt ((zE (eT eS)) r)) (ig c a) (Z (tY c a)):=R.tp (fG (λr=>r) (fJ (gQ (Dw (gQ (zY (Cp (Bi (dB 0 eS c e S))) _ (λ_=>S) (λd:Int=>(pC (FU (dM (J2 (kY (dB 1 eI a b (congrArg Z (b.get S))) (Wk (aq 2 (zE eI) d S) (Bi (dB 1 eI a b (congrArg Z (b.get S)))))) (n8 (BB 1) (J2 (aq 2 (zE eI) d S) (Bi (dB 1 eI a b (congrArg Z (b.get S))))))) 3 ()) (BB 0)))) (λd:Int=>(kY (dB 0 eS c e (congrArg Z (e.get S))) (aq 2 (zE eI) d S)))))))) (λ_=>S) λ_=>S)
theorem Qj:∀v bs,(aL eS (aL eI aN)) v bs->bs.length=2/\(B4 (Z (tY v.1 v.2.1))->tu (bs.map lend)=Z ((zE (eT eS)) (ig v.1 v.2.1))):=by
 rintro⟨e,a,_⟩ _ ⟨bO,_,rfl,d,⟨b,_,rfl,c,rfl⟩⟩;exact⟨rfl,λh=>cj (g:=sZ) (n:=2) (bs:=[lend bO,lend b]) (Qi e (mO d) a (mO c)) h⟩
def lC(vs:AZ)(a:(O (AJ×AJ)))(b:Int):(O (AJ×AJ)):=(let a:=put a (Ap vs b) ((ch ("abcdefghijklmnop":AJ) (((vs.length:Int)-1)-b))++("q":AJ));a)
def pU(vs:AZ)(b:(O (AJ×AJ)))(a:Int):Prop:=(((In ("abcdefghijklmnop":AJ).length (((vs.length:Int)-1)-a)/\K1 ((ch ("abcdefghijklmnop":AJ) (((vs.length:Int)-1)-a)).length+("q":AJ).length))/\In vs.length a)/\b.length<1000)
theorem Gn(c:AZ)(d:Lp bO (c.map eS))(vs:AZ)(a:(O (AJ×AJ)))(b:Int):RP vC [Z bO,Z (oE eS vs),Z (mE eS a),Z (zE eI b)] (λs=>An.nx ((λa:(O (AJ×AJ))=>[Z bO,Z (oE eS vs),Z (mE eS a),U]) s)) (lC vs a b) (Z (pU vs a b)):=R.tp (cX (ZW U 2 a S (n6 (Fe (Ir (nT "abcdefghijklmnop") (Wj (Wj (Bi (j8 (aq 1 (lE eS) vs S))) (BB 1)) (aq 3 (zE eI) b S))) (nT "q"))) (kY (j8 (aq 1 (lE eS) vs S)) (aq 3 (zE eI) b S)) λa=>(eU (cP a S))))
def bJ(c:AZ):(O (AJ×AJ)):=(let vs:=(jY c);(let a:=([]:(O (AJ×AJ)));(let a:(O (AJ×AJ)):=((rng 0 (vs.length:Int).toNat).foldl (λ(a:(O (AJ×AJ))) (b:Int)=>(lC vs a b)) a);a)))
def iu(c:AZ):Prop:=(c.length<64/\(let vs:=(jY c);(let a:=([]:(O (AJ×AJ)));(Rg (vs.length:Int)/\sJ (λ(a:(O (AJ×AJ))) (b:Int)=>(lC vs a b)) (λ(a:(O (AJ×AJ))) (b:Int)=>Z (pU vs a b)) (rng 0 (vs.length:Int).toNat) a))))
theorem Nu(b:AZ)(c:Lp bO (b.map eS)):RP qp [Z bO,U,U,U] (λr=>An.rt (mE eS r)) (bJ b) (Z (iu b)):=R.tp (bM 1 (Dw (dB 0 eS b c S)) (λ_=>S) λvs=>(bM 2 (RF eS) (λ_=>S) λa=>(Cr (λa:(O (AJ×AJ))=>[Z bO,Z (oE eS vs),Z (mE eS a),U]) a S (Cp (Bi (j8 (aq 1 (lE eS) vs S)))) _ (λ_ _=>S) (λ(a:(O (AJ×AJ))) (d:Int)=>(Gn b c vs a d).r) λa=>(Pg 2 (λr=>r) a S (λ_=>S) λ_=>S))))
theorem Nv:∀v bs,(aL eS aN) v bs->bs.length=1/\(B4 (Z (iu v.1))->qt (bs.map lend)=Z ((mE eS) (bJ v.1))):=by
 rintro⟨b,_⟩ _ ⟨bO,_,rfl,a,rfl⟩;exact⟨rfl,λh=>cj (g:=qp) (n:=4) (bs:=[lend bO]) (Nu b (mO a)) h⟩
def aO(vx:AJ):AJ:=(C4 (Tw ((("first":AJ),("last":AJ))::((("last":AJ),("first":AJ))::([]:O (AJ×AJ))))) vx vx)
theorem BX(vx:AJ):RP jw [Z (zE eS vx)] (λr=>An.rt (zE eS r)) (aO vx) U:=R.tp (fG (λr=>r) (Xe (Kd (IF (pK (nT "first") (nT "last") (pK (nT "last") (nT "first") (Rq eS))))) (aq 0 (zE eS) vx S) (aq 0 (zE eS) vx S)) (λ_=>S) λ_=>S)
theorem BZ:∀v bs,(aZ eS aN) v bs->bs.length=1/\(B4 (U)->fO (bs.map lend)=Z ((zE eS) (aO v.1))):=by
 rintro⟨vx,_⟩ _ ⟨_,rfl,rfl⟩;exact⟨rfl,λh=>cj (g:=jw) (n:=1) (bs:=[.z (eS vx)]) (BX vx) h⟩
def j4(b:AJ)(c:Unit)(a:aC):wX (Unit) aC:=(if(decide (a.1=b))=true then(wX.rt a)else(wX.nx ej))
theorem Nx(c:O aC)(a:AJ)(d:Unit)(b:aC):RP CJ [Z ((zE (eT aK)) c),Z (zE eS a),Z (zE aK b)] (cC (λd:Unit=>[Z ((zE (eT aK)) c),Z (zE eS a),U]) (zE aK)) (j4 a d b) (U):=R.tp (cX (Fi (pC (C9 () (qd (aq 2 (zE aK) b S) (λq=>q.1) eS 0 λ_=>S) (aq 1 (zE eS) a S))) (cX (fG .rt (aq 2 (zE aK) b S) (λ_=>S) λ_=>S)) (eU (eU (cP (.nx ej) S)))))
def pW(b:O aC)(c:AJ):aC:=(BY (mR (λ(a:Unit) (d:aC)=>((j4 c a d):wX (Unit) aC)) b ej) (λr=>r) λa:Unit=>default)
def Al(c:O aC)(d:AJ):Prop:=(uZ (λ(a:Unit) (b:aC)=>((j4 d a b):wX (Unit) aC)) (λ(a:Unit) (b:aC)=>U) c ej/\(Dz (mR (λ(a:Unit) (b:aC)=>((j4 d a b):wX (Unit) aC)) c ej) λa:Unit=>False))
theorem Xj(a:O aC)(b:AJ):RP Ad [Z ((zE (eT aK)) a),Z (zE eS b),U] (λr=>An.rt (zE aK r)) (pW a b) (Z (Al a b)):=R.tp (ZS 0 a (Wy S) (λc:Unit=>[Z ((zE (eT aK)) a),Z (zE eS b),U]) ej S _ (λ_ _=>S) (λ(c:Unit) (d:aC)=>((Nx a b c d).r:R _ _ (cC (λc:Unit=>[Z ((zE (eT aK)) a),Z (zE eS b),U]) (zE aK)))) (λr=>r) (λ_=>S) λc=>Z2)
theorem Xk:∀v bs,(aZ (eT aK) (aZ eS aN)) v bs->bs.length=2/\(B4 (Z (Al v.1 v.2.1))->Ae (bs.map lend)=Z ((zE aK) (pW v.1 v.2.1))):=by
 rintro⟨a,b,_⟩ _ ⟨_,rfl,⟨_,rfl,rfl⟩⟩;exact⟨rfl,λh=>cj (g:=Ad) (n:=3) (bs:=[.z (eT aK a),.z (eS b)]) (Xj a b) h⟩
def jC(a:AJ)(b:Unit)(q2:aM):wX (Unit) (Y AJ):=(if(decide (q2.1=a))=true then(wX.rt (Z q2.2))else(wX.nx ej))
theorem Kr(c:aC)(a:AJ)(b:Unit)(q2:aM):RP Af [Z (zE aK c),Z (zE eS a),Z ((zE eS) q2.1),Z ((zE eS) q2.2)] (cC (λb:Unit=>[Z (zE aK c),Z (zE eS a),U,U]) (zE (eO eS))) (jC a b q2) (U):=R.tp (cX (Fi (pC (C9 () (aq 2 (zE eS) q2.1 S) (aq 1 (zE eS) a S))) (cX (fG .rt (Wi (aq 3 (zE eS) q2.2 S)) (λ_=>S) λ_=>S)) (eU (eU (cP (.nx ej) S)))))
def j5(b:aC)(c:AJ):(Y AJ):=(BY (mR (λ(a:Unit) (q2:aM)=>((jC c a q2):wX (Unit) (Y AJ))) b.2 ej) (λr=>r) λa:Unit=>U)
def rP(b:aC)(c:AJ):Prop:=(uZ (λ(a:Unit) (q2:aM)=>((jC c a q2):wX (Unit) (Y AJ))) (λ(a:Unit) (q2:aM)=>U) b.2 ej/\(Dz (mR (λ(a:Unit) (q2:aM)=>((jC c a q2):wX (Unit) (Y AJ))) b.2 ej) λa:Unit=>True))
theorem T9(a:aC)(b:AJ):RP xG [Z (zE aK a),Z (zE eS b),U,U] (λr=>An.rt ((zE (eO eS)) r)) (j5 a b) (Z (rP a b)):=R.tp (Wx (λc:Unit=>[Z (zE aK a),Z (zE eS b),U,U]) ej S (Sc (qd (aq 0 (zE aK) a S) (λq=>q.2) (eT bB) 1 λ_=>S)) _ (λ_ _=>S) (λ(c:Unit) (q2:aM)=>((Kr a b c q2).r:R _ _ (cC (λc:Unit=>[Z (zE aK a),Z (zE eS b),U,U]) (zE (eO eS))))) (λr=>r) (λ_=>S) λc=>(fG (λr=>r) LW (λ_=>S) λ_=>S))
theorem Je:∀v bs,(aZ aK (aZ eS aN)) v bs->bs.length=2/\(B4 (Z (rP v.1 v.2.1))->oZ (bs.map lend)=Z ((zE (eO eS)) (j5 v.1 v.2.1))):=by
 rintro⟨a,b,_⟩ _ ⟨_,rfl,⟨_,rfl,rfl⟩⟩;exact⟨rfl,λh=>cj (g:=xG) (n:=4) (bs:=[.z (aK a),.z (eS b)]) (T9 a b) h⟩
def fD(b:O aC)(d:AJ):AZ:=(((b.map λc:aC=>(j5 c d)).filter λa:(Y AJ)=>a.isSome).map λa:(Y AJ)=>(a.getD default))
def pX(b:O aC)(c:AJ):Prop:=(((b.length<=100000/\(∀a∈b,(rP a c)))/\(b.map λa:aC=>(j5 a c)).length<=100000)/\(∀d∈(b.map λa:aC=>(j5 a c)),(d.isSome=true->d.isSome=true)))
theorem Qk(b:O aC)(e:Lp bO (b.map aK))(a:AJ):RP tB [Z bO,Z (zE eS a)] (λr=>An.rt (oE eS r)) (fD b a) (Z (pX b a)):=R.tp (fG (λr=>r) (zY (Ms (gQ (pD (Ms (dB 0 aK b e S)) _ (λ_=>S) (λd:aC=>(n6 (Au Je (cJ (aq 1 (zE aK) d S) (cJ (aq 0 (zE eS) a S) cD)))))))) _ (λ_=>S) (λc:(Y AJ)=>(pC (ZK (aq 0 (zE (eO eS)) c S) λ_=>S))) (λc:(Y AJ)=>(Sz (aq 0 (zE (eO eS)) c S)))) (λ_=>S) λ_=>S)
theorem Gp:∀v bs,(aL aK (aZ eS aN)) v bs->bs.length=2/\(B4 (Z (pX v.1 v.2.1))->lX (bs.map lend)=Z ((oE eS) (fD v.1 v.2.1))):=by
 rintro⟨b,a,_⟩ _ ⟨bO,_,rfl,c,⟨_,rfl,rfl⟩⟩;exact⟨rfl,λh=>cj (g:=tB) (n:=2) (bs:=[lend bO,.z (eS a)]) (Qk b (mO c) a) h⟩
def jO(a:AZ):AJ:=(B9 D1 a)
def jP(a:AZ):Prop:=a≠[]
theorem Dh(a:AZ)(b:Lp bO (a.map eS)):RP jM [Z bO] (λr=>An.rt (zE eS r)) (jO a) (Z (jP a)):=R.tp (fG (λr=>r) (SY (dB 0 eS a b S)) (λ_=>S) λ_=>S)
theorem Di:∀v bs,(aL eS aN) v bs->bs.length=1/\(B4 (Z (jP v.1))->jN (bs.map lend)=Z ((zE eS) (jO v.1))):=by
 rintro⟨a,_⟩ _ ⟨bO,_,rfl,b,rfl⟩;exact⟨rfl,λh=>cj (g:=jM) (n:=1) (bs:=[lend bO]) (Dh a (mO b)) h⟩
def oN(a:AZ):AJ:=(B9 Yh a)
def oO(a:AZ):Prop:=a≠[]
theorem Ku(a:AZ)(b:Lp bO (a.map eS)):RP oF [Z bO] (λr=>An.rt (zE eS r)) (oN a) (Z (oO a)):=R.tp (fG (λr=>r) (Me (dB 0 eS a b S)) (λ_=>S) λ_=>S)
theorem Kv:∀v bs,(aL eS aN) v bs->bs.length=1/\(B4 (Z (oO v.1))->oG (bs.map lend)=Z ((zE eS) (oN v.1))):=by
 rintro⟨a,_⟩ _ ⟨bO,_,rfl,b,rfl⟩;exact⟨rfl,λh=>cj (g:=oF) (n:=1) (bs:=[lend bO]) (Ku a (mO b)) h⟩
def lD(b:AZ):AJ:=(B9 (λx z=>DI (FM ((λa:AJ=>((-(a.length:Int)),a)) x)) (FM ((λa:AJ=>((-(a.length:Int)),a)) z))) b)
def lG(a:AZ):Prop:=(a≠[]/\∀b∈a,True)
theorem Gq(a:AZ)(c:Lp bO (a.map eS)):RP lg [Z bO] (λr=>An.rt (zE eS r)) (lD a) (Z (lG a)):=R.tp (fG (λr=>r) (IS (e':=FM) (λ_=>S) (dB 0 eS a c S) (λb:AJ=>(jR (HE (Pb (aq 0 (zE eS) b S))) (aq 0 (zE eS) b S)))) (λ_=>S) λ_=>S)
theorem Gr:∀v bs,(aL eS aN) v bs->bs.length=1/\(B4 (Z (lG v.1))->gU (bs.map lend)=Z ((zE eS) (lD v.1))):=by
 rintro⟨a,_⟩ _ ⟨bO,_,rfl,b,rfl⟩;exact⟨rfl,λh=>cj (g:=lg) (n:=1) (bs:=[lend bO]) (Gq a (mO b)) h⟩
def qD(b:AZ):AJ:=(B9 (λx z=>FB (eI ((λa:AJ=>((b.count a:Nat):Int)) x)) (eI ((λa:AJ=>((b.count a:Nat):Int)) z))) b)
def qF(a:AZ):Prop:=(a≠[]/\∀b∈a,True)
theorem Ny(a:AZ)(b:Lp bO (a.map eS)):RP qu [Z bO] (λr=>An.rt (zE eS r)) (qD a) (Z (qF a)):=R.tp (fG (λr=>r) (IS (e':=eI) (λ_=>S) (dB 0 eS a b S) (λc:AJ=>(W4 (dB 1 eS a b (congrArg Z (b.get S))) (aq 0 (zE eS) c S)))) (λ_=>S) λ_=>S)
theorem Nz:∀v bs,(aL eS aN) v bs->bs.length=1/\(B4 (Z (qF v.1))->mZ (bs.map lend)=Z ((zE eS) (qD v.1))):=by
 rintro⟨a,_⟩ _ ⟨bO,_,rfl,b,rfl⟩;exact⟨rfl,λh=>cj (g:=qu) (n:=1) (bs:=[lend bO]) (Ny a (mO b)) h⟩
def qG(a:AZ):AJ:=(Ap a (-(1:Int)))
def qH(a:AZ):Prop:=In a.length (-(1:Int))
theorem NK(a:AZ)(b:Lp bO (a.map eS)):RP qw [Z bO] (λr=>An.rt (zE eS r)) (qG a) (Z (qH a)):=R.tp (fG (λr=>r) (kY (dB 0 eS a b S) (HE (BB 1))) (λ_=>S) λ_=>S)
theorem NP:∀v bs,(aL eS aN) v bs->bs.length=1/\(B4 (Z (qH v.1))->qx (bs.map lend)=Z ((zE eS) (qG v.1))):=by
 rintro⟨a,_⟩ _ ⟨bO,_,rfl,b,rfl⟩;exact⟨rfl,λh=>cj (g:=qw) (n:=1) (bs:=[lend bO]) (NK a (mO b)) h⟩
def oR(a:AZ):AJ:=(Ap a 0)
def oU(a:AZ):Prop:=In a.length 0
theorem Kw(a:AZ)(b:Lp bO (a.map eS)):RP oH [Z bO] (λr=>An.rt (zE eS r)) (oR a) (Z (oU a)):=R.tp (fG (λr=>r) (kY (dB 0 eS a b S) (BB 0)) (λ_=>S) λ_=>S)
theorem Kz:∀v bs,(aL eS aN) v bs->bs.length=1/\(B4 (Z (oU v.1))->oJ (bs.map lend)=Z ((zE eS) (oR v.1))):=by
 rintro⟨a,_⟩ _ ⟨bO,_,rfl,b,rfl⟩;exact⟨rfl,λh=>cj (g:=oH) (n:=1) (bs:=[lend bO]) (Kw a (mO b)) h⟩
def cR:O (AJ×(AZ->AJ)×(AZ->Y Prop)):=[("first",oR,λv=>Z (oU v)),("last",qG,λv=>Z (qH v)),("most",qD,λv=>Z (qF v)),("longest",lD,λv=>Z (lG v)),("least",oN,λv=>Z (oO v)),("greatest",jO,λv=>Z (jP v))]
def rQ(d:O aC)(a:AJ)(e:AJ):cL:=(let c:=(pG cR e (fD d a));(a,c,((d.filter λb:aC=>(decide ((j5 b a)=(Z c)))).map λb:aC=>b.1)))
def xP(a:O aC)(b:AJ)(c:AJ):Prop:=(((pX a b)/\TY cR c (fD a b))/\(let e:=(pG cR c (fD a b));(a.length<=100000/\(∀d∈a,(rP d b)))))
theorem Ua(b:O aC)(f:Lp bO (b.map aK))(a:AJ)(c:AJ):RP xH [Z bO,Z (zE eS a),Z (zE eS c),U,U] (λr=>An.rt (zE mX r)) (rQ b a c) (Z (xP b a c)):=R.tp (S' 3 4 (tt:=cR) (.cons Kz (.cons NP (.cons Nz (.cons Gr (.cons Kv (.cons Di .nil)))))) (aq 2 (zE eS) c S) (gQ (Au Gp (Bl (dB 0 aK b f S) (cJ (aq 1 (zE eS) a S) cD)))) (zv S) (λ_=>S) λe=>(fG (λr=>r) (Pa (aq 1 (zE eS) a S) (aq 4 (zE eS) e S) (fJ (gQ (zY (Ms (dB 0 aK b f S)) _ (λ_=>S) (λd:aC=>(pC (C9 () (Au Je (cJ (aq 2 (zE aK) d S) (cJ (aq 1 (zE eS) a S) cD))) (Wi (aq 0 (zE eS) e S))))) (λd:aC=>(qd (aq 2 (zE aK) d S) (λq=>q.1) eS 0 λ_=>S)))))) (λ_=>S) λ_=>S))
theorem Ub:∀v bs,(aL aK (aZ eS (aZ eS aN))) v bs->bs.length=3/\(B4 (Z (xP v.1 v.2.1 v.2.2.1))->xJ (bs.map lend)=Z ((zE mX) (rQ v.1 v.2.1 v.2.2.1))):=by
 rintro⟨c,b,a,_⟩ _ ⟨bO,_,rfl,d,⟨_,rfl,⟨_,rfl,rfl⟩⟩⟩;exact⟨rfl,λh=>cj (g:=xH) (n:=5) (bs:=[lend bO,.z (eS b),.z (eS a)]) (Ua c (mO d) b a) h⟩
def bN(d:O aC)(c:O aM)(e:AZ):(O cL):=(let a:=(e.map λb:AJ=>(pW d b));((c.filter λq1:aM=>(!(fD a q1.1).isEmpty)).map λq1:aM=>(rQ a q1.1 q1.2)))
def eG(e:O aC)(d:O aM)(c:AZ):Prop:=((c.length<=100000/\(∀a∈c,(Al e a)))/\(let b:=(c.map λa:AJ=>(pW e a));(d.length<=100000/\(∀q1∈d,((pX b q1.1)/\((!(fD b q1.1).isEmpty)=true->(xP b q1.1 q1.2)))))))
theorem Ud(b:O aC)(a:O aM)(c:AZ):RP xK [Z ((zE (eT aK)) b),Z ((zE (eT bB)) a),Z ((zE (eT eS)) c),U] (λr=>An.rt (oE mX r)) (bN b a c) (Z (eG b a c)):=R.tp (bM 3 (pD (Dc (aq 2 (zE (eT eS)) c S)) _ (λ_=>S) (λe:AJ=>(n6 (Au Xk (cJ (aq 0 (zE (eT aK)) b S) (cJ (aq 1 (zE eS) e S) cD)))))) (λ_=>S) λd=>(fG (λr=>r) (zY (Dc (aq 1 (zE (eT bB)) a S)) _ (λ_=>S) (λq1:aM=>(Sj (gQ (Au Gp (Bl (j8 (aq 0 (lE aK) d S)) (cJ (aq 1 (zE eS) q1.1 S) cD)))))) (λq1:aM=>(n6 (Au Ub (Bl (j8 (aq 0 (lE aK) d S)) (cJ (aq 1 (zE eS) q1.1 S) (cJ (aq 2 (zE eS) q1.2 S) cD))))))) (λ_=>S) λ_=>S))
theorem j6:∀v bs,(aZ (eT aK) (aZ (eT bB) (aZ (eT eS) aN))) v bs->bs.length=3/\(B4 (Z (eG v.1 v.2.1 v.2.2.1))->bZ (bs.map lend)=Z ((oE mX) (bN v.1 v.2.1 v.2.2.1))):=by
 rintro⟨a,c,b,_⟩ _ ⟨_,rfl,⟨_,rfl,⟨_,rfl,rfl⟩⟩⟩;exact⟨rfl,λh=>cj (g:=xK) (n:=4) (bs:=[.z (eT aK a),.z (eT bB c),.z (eT eS b)]) (Ud a c b) h⟩
def eV(c:(O (AJ×AJ)))(a:O cL)(q2:cL):(O cL):=(let a:=a++[(q2.1,q2.2.1,(jY (q2.2.2.map λb:AJ=>(look c b))))];a)
def iw(b:(O (AJ×AJ)))(c:O cL)(q2:cL):Prop:=(((q2.2.2.length<=100000/\(∀a∈q2.2.2,has b a=true))/\(q2.2.2.map λa:AJ=>(look b a)).length<64)/\K1 c.length)
theorem vX(i:O aC)(c:O aM)(e:AZ)(b:(O (AJ×AJ)))(g:O aC)(h:O aM)(d:O aM)(f:O cL)(a:O cL)(q2:cL):RP gW [Z ((zE (eT aK)) i),Z ((zE (eT bB)) c),Z ((zE (eT eS)) e),Z (mE eS b),Z ((zE (eT aK)) g),Z (oE bB h),Z ((zE (eT bB)) d),Z (oE mX f),Z (oE mX a),Z ((zE eS) q2.1),Z ((zE eS) q2.2.1),Z ((zE (eT eS)) q2.2.2)] (λs=>An.nx ((λa:(O cL)=>[Z ((zE (eT aK)) i),Z ((zE (eT bB)) c),Z ((zE (eT eS)) e),Z (mE eS b),Z ((zE (eT aK)) g),Z (oE bB h),Z ((zE (eT bB)) d),Z (oE mX f),Z (oE mX a),U,U,U]) s)) (eV b a q2) (Z (iw b a q2)):=R.tp (cX (Cq 8 a S (Pa (aq 9 (zE eS) q2.1 S) (aq 10 (zE eS) q2.2.1 S) (fJ (gQ (Dw (gQ (pD (Dc (aq 11 (zE (eT eS)) q2.2.2 S)) _ (λ_=>S) (λj:AJ=>(yJ (aq 0 (nE eS) b S) (aq 1 (zE eS) j S))))))))) λa=>(eU (cP a S))))
def iz(i:O aC)(c:O aM)(e:AZ)(f:(O (AJ×AJ)))(g:O aC)(h:O aM)(d:O aM)(a:O cL)(b:O cL):Bool:=(decide (a=b))
def m7:Ev->Y An:=(aF (gO (b2 C0 (gv 7) (gv 8))) jl)
theorem vY(i:O aC)(c:O aM)(e:AZ)(f:(O (AJ×AJ)))(g:O aC)(h:O aM)(d:O aM)(a:O cL)(b:O cL):RP m7 [Z ((zE (eT aK)) i),Z ((zE (eT bB)) c),Z ((zE (eT eS)) e),Z (mE eS f),Z ((zE (eT aK)) g),Z (oE bB h),Z ((zE (eT bB)) d),Z (oE mX a),Z (oE mX b),U,U,U] (λr=>An.rt (zE eB r)) (iz i c e f g h d a b) (U):=R.tp (fG (λr=>r) (Wm () (j8 (aq 7 (lE mX) a S)) (j8 (aq 8 (lE mX) b S))) (λ_=>S) λ_=>S)
def iB(e:O aC)(f:O aM)(b:AZ)(c:(O (AJ×AJ)))(i:O aC)(d:O aM)(g:O aM)(h:O cL)(a:O cL):Bool:=(let a:(O cL):=((bN e d b).foldl (λ(a:O cL) (q2:cL)=>(eV c a q2)) a);(iz e f b c i d g h a))
def iD(e:O aC)(f:O aM)(b:AZ)(c:(O (AJ×AJ)))(i:O aC)(d:O aM)(g:O aM)(h:O cL)(a:O cL):Prop:=((eG e d b)/\sJ (λ(a:O cL) (q2:cL)=>(eV c a q2)) (λ(a:O cL) (q2:cL)=>Z (iw c a q2)) (bN e d b) a)
def m9:Ev->Y An:=(aF (oA (Ye (bQ 3 bZ (ao (gv 0) (ao (bY cN (ao (gv 5) aG)) (ao (gv 2) aG))))) (mK 3 (bW (jm 9) (bW (jm 10) (bW (jm 11) pq)))) gW) m7)
theorem vZ(d:O aC)(e:O aM)(b:AZ)(g:(O (AJ×AJ)))(i:O aC)(c:O aM)(f:O aM)(h:O cL)(a:O cL):RP m9 [Z ((zE (eT aK)) d),Z ((zE (eT bB)) e),Z ((zE (eT eS)) b),Z (mE eS g),Z ((zE (eT aK)) i),Z (oE bB c),Z ((zE (eT bB)) f),Z (oE mX h),Z (oE mX a),U,U,U] (λr=>An.rt (zE eB r)) (iB d e b g i c f h a) (Z (iD d e b g i c f h a)):=R.tp (Cr (λa:(O cL)=>[Z ((zE (eT aK)) d),Z ((zE (eT bB)) e),Z ((zE (eT eS)) b),Z (mE eS g),Z ((zE (eT aK)) i),Z (oE bB c),Z ((zE (eT bB)) f),Z (oE mX h),Z (oE mX a),U,U,U]) a S (Ff (Au j6 (cJ (aq 0 (zE (eT aK)) d S) (cJ (fJ (j8 (aq 5 (lE bB) c S))) (cJ (aq 2 (zE (eT eS)) b S) cD))))) _ (λ_ _=>S) (λ(a:O cL) (q2:cL)=>(vX d e b g i c f h a q2).r) λa=>(vY d e b g i c f h a).r)
def iG(i:O aC)(a:O aM)(c:AZ)(d:(O (AJ×AJ)))(f:O aC)(h:O aM)(b:O aM)(e:O cL):Bool:=(let g:=([]:O cL);(iB i a c d f h b e g))
def iH(i:O aC)(a:O aM)(c:AZ)(d:(O (AJ×AJ)))(f:O aC)(h:O aM)(b:O aM)(e:O cL):Prop:=(let g:=([]:O cL);(iD i a c d f h b e g))
def ni:Ev->Y An:=(aF (At 8 (bY kJ aG)) m9)
theorem wg(h:O aC)(a:O aM)(c:AZ)(d:(O (AJ×AJ)))(f:O aC)(g:O aM)(b:O aM)(e:O cL):RP ni [Z ((zE (eT aK)) h),Z ((zE (eT bB)) a),Z ((zE (eT eS)) c),Z (mE eS d),Z ((zE (eT aK)) f),Z (oE bB g),Z ((zE (eT bB)) b),Z (oE mX e),U,U,U,U] (λr=>An.rt (zE eB r)) (iG h a c d f g b e) (Z (iH h a c d f g b e)):=R.tp (bM 8 (lK (d7 mX) (zv S)) (λ_=>S) λi=>(vZ h a c d f g b e i).r)
def iI(i:O aC)(e:O aM)(b:AZ)(c:(O (AJ×AJ)))(d:O aC)(h:O aM)(a:O aM):Bool:=(let f:=(bN d a (jY (b.map λg:AJ=>(look c g))));(iG i e b c d h a f))
def iJ(i:O aC)(f:O aM)(b:AZ)(c:(O (AJ×AJ)))(e:O aC)(h:O aM)(d:O aM):Prop:=((((b.length<=100000/\(∀a∈b,has c a=true))/\(b.map λa:AJ=>(look c a)).length<64)/\(eG e d (jY (b.map λa:AJ=>(look c a)))))/\(let g:=(bN e d (jY (b.map λa:AJ=>(look c a))));(iH i f b c e h d g)))
def nj:Ev->Y An:=(aF (At 7 (bQ 3 bZ (ao (gv 4) (ao (gv 6) (ao (bY cN (ao (bY zV (ao (cg (uE (gv 2)) (jm 1) kW (b2 p7 (gv 0) (gv 1)) [3] 1) aG)) aG)) aG))))) ni)
theorem wj(g:O aC)(e:O aM)(b:AZ)(c:(O (AJ×AJ)))(d:O aC)(f:O aM)(a:O aM):RP nj [Z ((zE (eT aK)) g),Z ((zE (eT bB)) e),Z ((zE (eT eS)) b),Z (mE eS c),Z ((zE (eT aK)) d),Z (oE bB f),Z ((zE (eT bB)) a),U,U,U,U,U] (λr=>An.rt (zE eB r)) (iI g e b c d f a) (Z (iJ g e b c d f a)):=R.tp (bM 7 (Au j6 (cJ (aq 4 (zE (eT aK)) d S) (cJ (aq 6 (zE (eT bB)) a S) (cJ (fJ (gQ (Dw (gQ (pD (Dc (aq 2 (zE (eT eS)) b S)) _ (λ_=>S) (λi:AJ=>(yJ (aq 0 (nE eS) c S) (aq 1 (zE eS) i S)))))))) cD)))) (λ_=>S) λh=>(wg g e b c d f a h).r)
def iK(f:O aC)(b:O aM)(g:AZ)(d:(O (AJ×AJ)))(e:O aC)(a:O aM):Bool:=(let c:=(a.map λq1:aM=>(q1.1,(aO q1.2)));(iI f b g d e a c))
def iM(f:O aC)(b:O aM)(g:AZ)(d:(O (AJ×AJ)))(e:O aC)(a:O aM):Prop:=(a.length<=100000/\(let c:=(a.map λq1:aM=>(q1.1,(aO q1.2)));(iJ f b g d e a c)))
def nq:Ev->Y An:=(aF (At 6 (bY cN (ao (cg (uE (gv 5)) (mK 2 (bW (jm 0) (bW (jm 1) pq))) kW (bY jr (ao (gv 0) (ao (b1 Ci (bQ 1 fO (ao (gv 1) aG))) aG))) [] 2) aG))) nj)
theorem wk(f:O aC)(b:O aM)(c:AZ)(d:(O (AJ×AJ)))(e:O aC)(a:O aM):RP nq [Z ((zE (eT aK)) f),Z ((zE (eT bB)) b),Z ((zE (eT eS)) c),Z (mE eS d),Z ((zE (eT aK)) e),Z (oE bB a),U,U,U,U,U,U] (λr=>An.rt (zE eB r)) (iK f b c d e a) (Z (iM f b c d e a)):=R.tp (bM 6 (fJ (gQ (wW (Ms (j8 (aq 5 (lE bB) a S))) _ (λ_=>S) (λq1:aM=>(jR (aq 0 (zE eS) q1.1 S) (n6 (Au BZ (cJ (aq 1 (zE eS) q1.2 S) cD))))) λ_=>S))) (λ_=>S) λg=>(wj f b c d e a g).r)
def iQ(e:O aC)(b:O aM)(g:AZ)(c:(O (AJ×AJ)))(d:O aC):Bool:=(let f:=((b.filter λa:aM=>(!decide (a.2=("most":AJ)))).map λa:aM=>a);(iK e b g c d f))
def iR(e:O aC)(a:O aM)(g:AZ)(c:(O (AJ×AJ)))(d:O aC):Prop:=(a.length<=100000/\(let f:=((a.filter λb:aM=>(!decide (b.2=("most":AJ)))).map λb:aM=>b);(iM e a g c d f)))
def nu:Ev->Y An:=(aF (At 5 (cg (uE (gv 1)) (jm 0) (G4 Zg (b2 gH (gv 0) (cB (.int 1))) (cB (.str "most"))) (gv 0) [] 1)) nq)
theorem wz(e:O aC)(a:O aM)(b:AZ)(c:(O (AJ×AJ)))(d:O aC):RP nu [Z ((zE (eT aK)) e),Z ((zE (eT bB)) a),Z ((zE (eT eS)) b),Z (mE eS c),Z ((zE (eT aK)) d),U,U,U,U,U,U,U] (λr=>An.rt (zE eB r)) (iQ e a b c d) (Z (iR e a b c d)):=R.tp (bM 5 (Wv (Dc (aq 1 (zE (eT bB)) a S)) _ (λ_=>S) (λf:aM=>(pC (Rs () (qd (aq 0 (zE bB) f S) (λq=>q.2) eS 1 λ_=>S) (nT "most")))) (λf:aM=>(aq 0 (zE bB) f S)) (λ_=>S) λ_=>S) (λ_=>S) λg=>(wk e a b c d g).r)
def iT(c:O aC)(d:O aM)(f:AZ)(a:(O (AJ×AJ))):Bool:=(let e:=(c.map λb:aC=>((look a b.1),b.2));(iQ c d f a e))
def iU(b:O aC)(d:O aM)(f:AZ)(c:(O (AJ×AJ))):Prop:=((b.length<=100000/\(∀a∈b,has c a.1=true))/\(let e:=(b.map λa:aC=>((look c a.1),a.2));(iR b d f c e)))
def wA:Ev->Y An:=(aF (At 4 (bY cN (ao (cg (uE (gv 0)) (jm 1) kW (bY jr (ao (b2 p7 (gv 0) (b2 gH (gv 1) (cB (.int 0)))) (ao (b2 gH (gv 1) (cB (.int 1))) aG))) [3] 1) aG))) nu)
theorem wB(b:O aC)(c:O aM)(d:AZ)(a:(O (AJ×AJ))):RP wA [Z ((zE (eT aK)) b),Z ((zE (eT bB)) c),Z ((zE (eT eS)) d),Z (mE eS a),U,U,U,U,U,U,U,U] (λr=>An.rt (zE eB r)) (iT b c d a) (Z (iU b c d a)):=R.tp (bM 4 (fJ (gQ (pD (Dc (aq 0 (zE (eT aK)) b S)) _ (λ_=>S) (λe:aC=>(jR (yJ (aq 0 (nE eS) a S) (qd (aq 1 (zE aK) e S) (λq=>q.1) eS 0 λ_=>S)) (qd (aq 1 (zE aK) e S) (λq=>q.2) (eT bB) 1 λ_=>S)))))) (λ_=>S) λf=>(wz b c d a f).r)
def cH(a:O aC)(b:O aM)(e:AZ):Bool:=(let c:=(bJ (a.map λd:aC=>d.1));(iT a b e c))
def eX(a:O aC)(c:O aM)(e:AZ):Prop:=((a.length<=100000/\(iu (a.map λb:aC=>b.1)))/\(let d:=(bJ (a.map λb:aC=>b.1));(iU a c e d)))
theorem Am(a:O aC)(b:O aM)(c:AZ):RP gw [Z ((zE (eT aK)) a),Z ((zE (eT bB)) b),Z ((zE (eT eS)) c),U,U,U,U,U,U,U,U,U] (λr=>An.rt (zE eB r)) (cH a b c) (Z (eX a b c)):=R.tp (bM 3 (Au Nv (Bl (FX (Fh (wW (Dc (aq 0 (zE (eT aK)) a S)) _ (λ_=>S) (λe:aC=>(qd (aq 0 (zE aK) e S) (λq=>q.1) eS 0 λ_=>S)) λ_=>S))) cD)) (λ_=>S) λd=>(wB a b c d).r)
theorem Ao:∀v bs,(aZ (eT aK) (aZ (eT bB) (aZ (eT eS) aN))) v bs->bs.length=3/\(B4 (Z (eX v.1 v.2.1 v.2.2.1))->gA (bs.map lend)=Z ((zE eB) (cH v.1 v.2.1 v.2.2.1))):=by
 rintro⟨c,a,b,_⟩ _ ⟨_,rfl,⟨_,rfl,⟨_,rfl,rfl⟩⟩⟩;exact⟨rfl,λh=>cj (g:=gw) (n:=12) (bs:=[.z (eT aK c),.z (eT bB a),.z (eT eS b)]) (Am c a b) h⟩
def cW(e:O aC)(b:O aM)(c:AZ):Bool:=(let a:=(Tw ((("day":AJ),("p":AJ))::((("name":AJ),("a":AJ))::((("names":AJ),("nam":AJ))::((("p":AJ),("zz":AJ))::((("zzz":AJ),("b":AJ))::([]:O (AJ×AJ))))))));(let g:=(e.map λd:aC=>(d.1,(mU bB (d.2.map λq1:aM=>((look a q1.1),q1.2)))));(let f:=(bN g (b.map λq2:aM=>((look a q2.1),q2.2)) c);(decide (f=((bN e b c).map λq3:cL=>((look a q3.1),q3.2.1,q3.2.2)))))))
def fX(d:O aC)(a:O aM)(e:AZ):Prop:=(let b:=(Tw ((("day":AJ),("p":AJ))::((("name":AJ),("a":AJ))::((("names":AJ),("nam":AJ))::((("p":AJ),("zz":AJ))::((("zzz":AJ),("b":AJ))::([]:O (AJ×AJ))))))));((d.length<=100000/\(∀c∈d,((c.2.length<=100000/\(∀q1∈c.2,has b q1.1=true))/\(c.2.map λq1:aM=>((look b q1.1),q1.2)).length<64)))/\(let f:=(d.map λc:aC=>(c.1,(mU bB (c.2.map λq1:aM=>((look b q1.1),q1.2)))));(((a.length<=100000/\(∀q2∈a,has b q2.1=true))/\(eG f (a.map λq2:aM=>((look b q2.1),q2.2)) e))/\(let g:=(bN f (a.map λq2:aM=>((look b q2.1),q2.2)) e);(((eG d a e)/\(bN d a e).length<=100000)/\(∀q3∈(bN d a e),has b q3.1=true)))))))
theorem zc(c:O aC)(a:O aM)(b:AZ):RP fQ [Z ((zE (eT aK)) c),Z ((zE (eT bB)) a),Z ((zE (eT eS)) b),U,U,U] (λr=>An.rt (zE eB r)) (cW c a b) (Z (fX c a b)):=R.tp (bM 3 (IF (pK (nT "day") (nT "p") (pK (nT "name") (nT "a") (pK (nT "names") (nT "nam") (pK (nT "p") (nT "zz") (pK (nT "zzz") (nT "b") (Rq eS))))))) (λ_=>S) λd=>(bM 4 (fJ (gQ (pD (Dc (aq 0 (zE (eT aK)) c S)) _ (λ_=>S) (λe:aC=>(jR (qd (aq 1 (zE aK) e S) (λq=>q.1) eS 0 λ_=>S) (fJ (gQ (K2 (gQ (pD (Dc (qd (aq 1 (zE aK) e S) (λq=>q.2) (eT bB) 1 λ_=>S)) _ (λ_=>S) (λq1:aM=>(jR (yJ (aq 0 (nE eS) d S) (aq 1 (zE eS) q1.1 S)) (aq 2 (zE eS) q1.2 S))))))))))))) (λ_=>S) λg=>(bM 5 (Au j6 (cJ (aq 4 (zE (eT aK)) g S) (cJ (fJ (gQ (pD (Dc (aq 1 (zE (eT bB)) a S)) _ (λ_=>S) (λq2:aM=>(jR (yJ (aq 0 (nE eS) d S) (aq 1 (zE eS) q2.1 S)) (aq 2 (zE eS) q2.2 S)))))) (cJ (aq 2 (zE (eT eS)) b S) cD)))) (λ_=>S) λf=>(fG (λr=>r) (Wm () (j8 (aq 5 (lE mX) f S)) (gQ (pD (Ms (gQ (Au j6 (cJ (aq 0 (zE (eT aK)) c S) (cJ (aq 1 (zE (eT bB)) a S) (cJ (aq 2 (zE (eT eS)) b S) cD)))))) _ (λ_=>S) (λq3:cL=>(Pa (yJ (aq 0 (nE eS) d S) (aq 1 (zE eS) q3.1 S)) (aq 2 (zE eS) q3.2.1 S) (aq 3 (zE (eT eS)) q3.2.2 S)))))) (λ_=>S) λ_=>S))))
theorem zf:∀v bs,(aZ (eT aK) (aZ (eT bB) (aZ (eT eS) aN))) v bs->bs.length=3/\(B4 (Z (fX v.1 v.2.1 v.2.2.1))->fU (bs.map lend)=Z ((zE eB) (cW v.1 v.2.1 v.2.2.1))):=by
 rintro⟨c,a,b,_⟩ _ ⟨_,rfl,⟨_,rfl,⟨_,rfl,rfl⟩⟩⟩;exact⟨rfl,λh=>cj (g:=fQ) (n:=6) (bs:=[.z (eT aK c),.z (eT bB a),.z (eT eS b)]) (zc c a b) h⟩
def bF(vo:AJ)(b:Int)(a:O aC)(q1:aC):(O aC):=(let a:(O aC):=(if(decide (((C4 (Tw q1.2) vo ("":AJ)).length:Int)=b))=true then(let a:=a++[(q1.1,[(vo,(look (Tw q1.2) vo))])];a)else a);a)
def eY(vo:AJ)(a:Int)(b:O aC)(q1:aC):Prop:=(q1.2.length<=1000/\((decide (((C4 (Tw q1.2) vo ("":AJ)).length:Int)=a))=true->((q1.2.length<=1000/\has (Tw q1.2) vo=true)/\K1 b.length)))
theorem wC(e:O aC)(d:AZ)(vo:AJ)(b:Int)(c:AJ)(a:O aC)(q1:aC):RP gY [Z ((zE (eT aK)) e),Z ((zE (eT eS)) d),Z (zE eS vo),Z (zE eI b),Z (zE eS c),Z (oE aK a),Z ((zE eS) q1.1),Z ((zE (eT bB)) q1.2),U,U,U,U,U] (λs=>An.nx ((λa:(O aC)=>[Z ((zE (eT aK)) e),Z ((zE (eT eS)) d),Z (zE eS vo),Z (zE eI b),Z (zE eS c),Z (oE aK a),U,U,U,U,U,U,U]) s)) (bF vo b a q1) (Z (eY vo b a q1)):=R.tp (cX (Q9 (λa:(O aC)=>[Z ((zE (eT aK)) e),Z ((zE (eT eS)) d),Z (zE eS vo),Z (zE eI b),Z (zE eS c),Z (oE aK a),Z ((zE eS) q1.1),Z ((zE (eT bB)) q1.2),U,U,U,U,U]) (pC (C9 () (Pb (Xe (Kd (Rm (aq 7 (zE (eT bB)) q1.2 S))) (aq 2 (zE eS) vo S) (nT ""))) (aq 3 (zE eI) b S))) (cX (Cq 5 a S (jR (aq 6 (zE eS) q1.1 S) (J3 (aR (jR (aq 2 (zE eS) vo S) (yJ (Kd (Rm (aq 7 (zE (eT bB)) q1.2 S))) (aq 2 (zE eS) vo S))) (d7 bB)) (zv S))) λa=>(eU (cP a S)))) (eU (cP a S)) λa=>(eU (cP a S))))
def dj(vo:AJ)(b:AJ)(a:O aC)(q2:aC):(O aC):=(let c:=(Txt.join "" ((BD (Ap q2.2 0).2).map λd:AJ=>(ch b ((4:Int)-((Yi b d:Nat):Int)))));(let a:=a++[(q2.1,[(vo,c)])];a))
def dw(vo:AJ)(a:AJ)(c:O aC)(q2:aC):Prop:=((((In q2.2.length 0/\(BD (Ap q2.2 0).2).length<=100000)/\(∀b∈(BD (Ap q2.2 0).2),(Builtin.Str.occurrences a b 0 a.length 1≠[]/\In a.length ((4:Int)-((Yi a b:Nat):Int)))))/\(((BD (Ap q2.2 0).2).map λb:AJ=>(ch a ((4:Int)-((Yi a b:Nat):Int)))).map (·.length)).sum+((BD (Ap q2.2 0).2).map λb:AJ=>(ch a ((4:Int)-((Yi a b:Nat):Int)))).length*("":AJ).length<=100000)/\(let d:=(Txt.join "" ((BD (Ap q2.2 0).2).map λb:AJ=>(ch a ((4:Int)-((Yi a b:Nat):Int)))));K1 c.length))
theorem wD(f:O aC)(c:AZ)(vo:AJ)(e:Int)(b:AJ)(d:O aC)(a:O aC)(q2:aC):RP gZ [Z ((zE (eT aK)) f),Z ((zE (eT eS)) c),Z (zE eS vo),Z (zE eI e),Z (zE eS b),Z (lE aK d),Z ((zE eS) q2.1),Z ((zE (eT bB)) q2.2),Z (oE aK a),U,U,U,U] (λs=>An.nx ((λa:(O aC)=>[Z ((zE (eT aK)) f),Z ((zE (eT eS)) c),Z (zE eS vo),Z (zE eI e),Z (zE eS b),Z (lE aK d),U,U,Z (oE aK a),U,U,U,U]) s)) (dj vo b a q2) (Z (dw vo b a q2)):=R.tp (cX (bM 9 (Wt "" (gQ (pD (LF (qd (MC (aq 7 (zE (eT bB)) q2.2 S) (BB 0)) (λq=>q.2) eS 1 λ_=>S)) _ (λ_=>S) (λh:AJ=>(Ir (aq 0 (zE eS) b S) (Wj (BB 4) (So (aq 0 (zE eS) b S) (aq 1 (zE eS) h S)))))))) (λ_=>S) λg=>(cX (Cq 8 a S (jR (aq 6 (zE eS) q2.1 S) (J3 (aR (jR (aq 2 (zE eS) vo S) (aq 9 (zE eS) g S)) (d7 bB)) (zv S))) λa=>(eU (cP a S))))))
def iV(j:O aC)(g:AZ)(vo:AJ)(i:Int)(f:AJ)(h:O aC)(d:O aC)(e:AZ)(c:O cL)(b:O cL):Bool:=(decide ((c.map λa:cL=>a.2.2)=(b.map λa:cL=>a.2.2)))
def nA(i:O aC)(f:AZ)(vo:AJ)(h:Int)(e:AJ)(g:O aC)(c:O aC)(d:AZ)(b:O cL)(a:O cL):Prop:=(b.length<=100000/\a.length<=100000)
def nC:Ev->Y An:=(aF (gO (b2 C0 (cg (uE (gv 11)) (jm 0) kW (b2 gH (gv 0) (cB (.int 2))) [] 1) (cg (uE (gv 12)) (jm 0) kW (b2 gH (gv 0) (cB (.int 2))) [] 1))) jl)
theorem wF(j:O aC)(g:AZ)(vo:AJ)(i:Int)(e:AJ)(h:O aC)(c:O aC)(d:AZ)(b:O cL)(a:O cL):RP nC [Z ((zE (eT aK)) j),Z ((zE (eT eS)) g),Z (zE eS vo),Z (zE eI i),Z (zE eS e),Z (lE aK h),U,U,Z (oE aK c),U,Z ((zE (eT eS)) d),Z (oE mX b),Z (oE mX a)] (λr=>An.rt (zE eB r)) (iV j g vo i e h c d b a) (Z (nA j g vo i e h c d b a)):=R.tp (fG (λr=>r) (Wm () (gQ (wW (Ms (j8 (aq 11 (lE mX) b S))) _ (λ_=>S) (λf:cL=>(qd (aq 0 (zE mX) f S) (λq=>q.2.2) (eT eS) 2 λ_=>S)) λ_=>S)) (gQ (wW (Ms (j8 (aq 12 (lE mX) a S))) _ (λ_=>S) (λf:cL=>(qd (aq 0 (zE mX) f S) (λq=>q.2.2) (eT eS) 2 λ_=>S)) λ_=>S))) (λ_=>S) λ_=>S)
def iW(i:O aC)(d:AZ)(vo:AJ)(f:Int)(c:AJ)(e:O aC)(a:O aC)(b:AZ)(h:O cL):Bool:=(let g:=(bN a [(vo,("greatest":AJ))] b);(iV i d vo f c e a b h g))
def iY(i:O aC)(d:AZ)(vo:AJ)(f:Int)(c:AJ)(e:O aC)(a:O aC)(b:AZ)(h:O cL):Prop:=((eG a [(vo,("greatest":AJ))] b)/\(let g:=(bN a [(vo,("greatest":AJ))] b);(nA i d vo f c e a b h g)))
def nD:Ev->Y An:=(aF (At 12 (bQ 3 bZ (ao (bY cN (ao (gv 8) aG)) (ao (bY jr (ao (bY jr (ao (gv 2) (ao (cB (.str "greatest")) aG))) aG)) (ao (gv 10) aG))))) nC)
theorem wG(h:O aC)(d:AZ)(vo:AJ)(f:Int)(c:AJ)(e:O aC)(a:O aC)(b:AZ)(g:O cL):RP nD [Z ((zE (eT aK)) h),Z ((zE (eT eS)) d),Z (zE eS vo),Z (zE eI f),Z (zE eS c),Z (lE aK e),U,U,Z (oE aK a),U,Z ((zE (eT eS)) b),Z (oE mX g),U] (λr=>An.rt (zE eB r)) (iW h d vo f c e a b g) (Z (iY h d vo f c e a b g)):=R.tp (bM 12 (Au j6 (cJ (fJ (j8 (aq 8 (lE aK) a S))) (cJ (J3 (aR (jR (aq 2 (zE eS) vo S) (nT "greatest")) (d7 bB)) (zv S)) (cJ (aq 10 (zE (eT eS)) b S) cD)))) (λ_=>S) λi=>(wF h d vo f c e a b g i).r)
def iZ(h:O aC)(e:AZ)(vo:AJ)(f:Int)(d:AJ)(b:O aC)(c:O aC)(a:AZ):Bool:=(let g:=(bN b [(vo,("least":AJ))] a);(iW h e vo f d b c a g))
def jc(h:O aC)(e:AZ)(vo:AJ)(f:Int)(d:AJ)(b:O aC)(c:O aC)(a:AZ):Prop:=((eG b [(vo,("least":AJ))] a)/\(let g:=(bN b [(vo,("least":AJ))] a);(iY h e vo f d b c a g)))
def nF:Ev->Y An:=(aF (At 11 (bQ 3 bZ (ao (bY cN (ao (gv 5) aG)) (ao (bY jr (ao (bY jr (ao (gv 2) (ao (cB (.str "least")) aG))) aG)) (ao (gv 10) aG))))) nD)
theorem wH(g:O aC)(e:AZ)(vo:AJ)(f:Int)(d:AJ)(b:O aC)(c:O aC)(a:AZ):RP nF [Z ((zE (eT aK)) g),Z ((zE (eT eS)) e),Z (zE eS vo),Z (zE eI f),Z (zE eS d),Z (lE aK b),U,U,Z (oE aK c),U,Z ((zE (eT eS)) a),U,U] (λr=>An.rt (zE eB r)) (iZ g e vo f d b c a) (Z (jc g e vo f d b c a)):=R.tp (bM 11 (Au j6 (cJ (fJ (j8 (aq 5 (lE aK) b S))) (cJ (J3 (aR (jR (aq 2 (zE eS) vo S) (nT "least")) (d7 bB)) (zv S)) (cJ (aq 10 (zE (eT eS)) a S) cD)))) (λ_=>S) λh=>(wG g e vo f d b c a h).r)
def jd(i:O aC)(b:AZ)(vo:AJ)(h:Int)(f:AJ)(c:O aC)(d:O aC):Bool:=(let e:=((b.filter λa:AJ=>(decide (a∈(c.map λg:aC=>g.1)))).map λa:AJ=>a);(iZ i b vo h f c d e))
def je(i:O aC)(a:AZ)(vo:AJ)(h:Int)(f:AJ)(c:O aC)(d:O aC):Prop:=((a.length<=100000/\(∀b∈a,c.length<=100000))/\(let e:=((a.filter λb:AJ=>(decide (b∈(c.map λg:aC=>g.1)))).map λb:AJ=>b);(jc i a vo h f c d e)))
def nG:Ev->Y An:=(aF (At 10 (bY cN (ao (cg (uE (gv 1)) (jm 1) (G4 inF (gv 1) (cg (uE (gv 0)) (jm 0) kW (b2 gH (gv 0) (cB (.int 0))) [] 1)) (gv 1) [5] 1) aG))) nF)
theorem wI(f:O aC)(a:AZ)(vo:AJ)(e:Int)(d:AJ)(b:O aC)(c:O aC):RP nG [Z ((zE (eT aK)) f),Z ((zE (eT eS)) a),Z (zE eS vo),Z (zE eI e),Z (zE eS d),Z (lE aK b),U,U,Z (oE aK c),U,U,U,U] (λr=>An.rt (zE eB r)) (jd f a vo e d b c) (Z (je f a vo e d b c)):=R.tp (bM 10 (fJ (gQ (zY (Dc (aq 1 (zE (eT eS)) a S)) _ (λ_=>S) (λg:AJ=>(pC (Pt (aq 1 (zE eS) g S) (gQ (wW (Ms (j8 (aq 0 (lE aK) b S))) _ (λ_=>S) (λi:aC=>(qd (aq 0 (zE aK) i S) (λq=>q.1) eS 0 λ_=>S)) λ_=>S))))) (λg:AJ=>(aq 1 (zE eS) g S))))) (λ_=>S) λh=>(wH f a vo e d b c h).r)
def jf(f:O aC)(d:AZ)(vo:AJ)(e:Int)(b:AJ)(c:O aC)(a:O aC):Bool:=(let a:(O aC):=(c.foldl (λ(a:O aC) (q2:aC)=>(dj vo b a q2)) a);(jd f d vo e b c a))
def jg(f:O aC)(d:AZ)(vo:AJ)(e:Int)(b:AJ)(c:O aC)(a:O aC):Prop:=(sJ (λ(a:O aC) (q2:aC)=>(dj vo b a q2)) (λ(a:O aC) (q2:aC)=>Z (dw vo b a q2)) c a/\(let a:(O aC):=(c.foldl (λ(a:O aC) (q2:aC)=>(dj vo b a q2)) a);(je f d vo e b c a)))
def nH:Ev->Y An:=(aF (uP 5 (mK 2 (bW (jm 6) (bW (jm 7) pq))) gZ) nG)
theorem wJ(f:O aC)(d:AZ)(vo:AJ)(e:Int)(c:AJ)(b:O aC)(a:O aC):RP nH [Z ((zE (eT aK)) f),Z ((zE (eT eS)) d),Z (zE eS vo),Z (zE eI e),Z (zE eS c),Z (oE aK b),U,U,Z (oE aK a),U,U,U,U] (λr=>An.rt (zE eB r)) (jf f d vo e c b a) (Z (jg f d vo e c b a)):=R.tp (Wz 5 b (NS S) (λa:(O aC)=>[Z ((zE (eT aK)) f),Z ((zE (eT eS)) d),Z (zE eS vo),Z (zE eI e),Z (zE eS c),Z (lE aK b),U,U,Z (oE aK a),U,U,U,U]) a S _ (λ_ _=>S) (λ(a:O aC) (q2:aC)=>(wD f d vo e c b a q2).r) λa=>(wI f d vo e c b a).r)
def jh(e:O aC)(f:AZ)(vo:AJ)(d:Int)(b:AJ)(c:O aC):Bool:=(let a:=([]:O aC);(jf e f vo d b c a))
def ji(e:O aC)(f:AZ)(vo:AJ)(d:Int)(b:AJ)(c:O aC):Prop:=(let a:=([]:O aC);(jg e f vo d b c a))
def nJ:Ev->Y An:=(aF (At 8 (bY kJ aG)) nH)
theorem wK(e:O aC)(b:AZ)(vo:AJ)(d:Int)(a:AJ)(c:O aC):RP nJ [Z ((zE (eT aK)) e),Z ((zE (eT eS)) b),Z (zE eS vo),Z (zE eI d),Z (zE eS a),Z (oE aK c),U,U,U,U,U,U,U] (λr=>An.rt (zE eB r)) (jh e b vo d a c) (Z (ji e b vo d a c)):=R.tp (bM 8 (lK (d7 aK) (zv S)) (λ_=>S) λf=>(wJ e b vo d a c f).r)
def jj(c:O aC)(e:AZ)(vo:AJ)(b:Int)(d:AJ)(a:O aC):Bool:=(let a:(O aC):=(c.foldl (λ(a:O aC) (q1:aC)=>(bF vo b a q1)) a);(jh c e vo b d a))
def jk(c:O aC)(e:AZ)(vo:AJ)(b:Int)(d:AJ)(a:O aC):Prop:=(sJ (λ(a:O aC) (q1:aC)=>(bF vo b a q1)) (λ(a:O aC) (q1:aC)=>Z (eY vo b a q1)) c a/\(let a:(O aC):=(c.foldl (λ(a:O aC) (q1:aC)=>(bF vo b a q1)) a);(ji c e vo b d a)))
def nM:Ev->Y An:=(aF (uP 0 (mK 2 (bW (jm 6) (bW (jm 7) pq))) gY) nJ)
theorem wL(b:O aC)(d:AZ)(vo:AJ)(e:Int)(c:AJ)(a:O aC):RP nM [Z ((zE (eT aK)) b),Z ((zE (eT eS)) d),Z (zE eS vo),Z (zE eI e),Z (zE eS c),Z (oE aK a),U,U,U,U,U,U,U] (λr=>An.rt (zE eB r)) (jj b d vo e c a) (Z (jk b d vo e c a)):=R.tp (Wz 0 b (Wy S) (λa:(O aC)=>[Z ((zE (eT aK)) b),Z ((zE (eT eS)) d),Z (zE eS vo),Z (zE eI e),Z (zE eS c),Z (oE aK a),U,U,U,U,U,U,U]) a S _ (λ_ _=>S) (λ(a:O aC) (q1:aC)=>(wC b d vo e c a q1).r) λa=>(wK b d vo e c a).r)
def gn(d:O aC)(e:AZ)(vo:AJ)(c:Int)(a:AJ):Bool:=(let b:=([]:O aC);(jj d e vo c a b))
def gq(d:O aC)(e:AZ)(vo:AJ)(c:Int)(a:AJ):Prop:=(let b:=([]:O aC);(jk d e vo c a b))
def uy:Ev->Y An:=(aF (At 5 (bY kJ aG)) nM)
theorem uz(c:O aC)(d:AZ)(vo:AJ)(b:Int)(a:AJ):RP uy [Z ((zE (eT aK)) c),Z ((zE (eT eS)) d),Z (zE eS vo),Z (zE eI b),Z (zE eS a),U,U,U,U,U,U,U,U] (λr=>An.rt (zE eB r)) (gn c d vo b a) (Z (gq c d vo b a)):=R.tp (bM 5 (lK (d7 aK) (zv S)) (λ_=>S) λe=>(wL c d vo b a e).r)
def dF(a:O aC)(d:AZ)(vo:AJ)(b:Int):Bool:=(let c:=("12abc":AJ);(gn a d vo b c))
def eZ(a:O aC)(d:AZ)(vo:AJ)(b:Int):Prop:=(let c:=("12abc":AJ);(gq a d vo b c))
theorem Aq(a:O aC)(c:AZ)(vo:AJ)(b:Int):RP gB [Z ((zE (eT aK)) a),Z ((zE (eT eS)) c),Z (zE eS vo),Z (zE eI b),U,U,U,U,U,U,U,U,U] (λr=>An.rt (zE eB r)) (dF a c vo b) (Z (eZ a c vo b)):=R.tp (bM 4 (nT "12abc") (λ_=>S) λd=>(uz a c vo b d).r)
theorem Ar:∀v bs,(aZ (eT aK) (aZ (eT eS) (aZ eS (aZ eI aN)))) v bs->bs.length=4/\(B4 (Z (eZ v.1 v.2.1 v.2.2.1 v.2.2.2.1))->gC (bs.map lend)=Z ((zE eB) (dF v.1 v.2.1 v.2.2.1 v.2.2.2.1))):=by
 rintro⟨c,a,vo,b,_⟩ _ ⟨_,rfl,⟨_,rfl,⟨_,rfl,⟨_,rfl,rfl⟩⟩⟩⟩;exact⟨rfl,λh=>cj (g:=gB) (n:=13) (bs:=[.z (eT aK c),.z (eT eS a),.z (eS vo),.z (eI b)]) (Aq c a vo b) h⟩
def pY(b:O aC)(g:AZ)(h:Unit)(f:Int):wX (Unit) Bool:=(let d:=(bw f 20);(let y2:=(dX d);let e:=(ig g (Bn d (Z 8) U));let c:=y2;let a:=e;(if((!(cH b c a))||(!(cW b c a)))=true then(wX.rt false)else(if(!(dF b a (Ap [("day":AJ),("name":AJ),("names":AJ),("p":AJ)] ((Ap d 7)%4)) (1+(((Ap d 7) / (4:Int))%3))))=true then(wX.rt false)else(if(!decide ((bN b c.reverse a)=(bN b c a).reverse))=true then(wX.rt false)else(wX.nx ej))))))
def Av(c:O aC)(f:AZ)(h:Unit)(e:Int):Prop:=((fZ e 20)/\(let a:=(bw e 20);(((tX a)/\(tY f (Bn a (Z 8) U)))/\(let y2:=(dX a);let g:=(ig f (Bn a (Z 8) U));let d:=y2;let b:=g;(((eX c d b)/\((!(cH c d b))=false->(fX c d b)))/\(((!(cH c d b))||(!(cW c d b)))=false->((((In a.length 7/\In [("day":AJ),("name":AJ),("names":AJ),("p":AJ)].length ((Ap a 7)%4))/\In a.length 7)/\(eZ c b (Ap [("day":AJ),("name":AJ),("names":AJ),("p":AJ)] ((Ap a 7)%4)) (1+(((Ap a 7) / (4:Int))%3))))/\((!(dF c b (Ap [("day":AJ),("name":AJ),("names":AJ),("p":AJ)] ((Ap a 7)%4)) (1+(((Ap a 7) / (4:Int))%3))))=false->((eG c d.reverse b)/\(eG c d b))))))))))
theorem Xl(h:B0)(i:Lp bO (h.map eI))(a:O aC)(b:AZ)(g:Unit)(f:Int):RP Ga [Z bO,Z ((zE (eT aK)) a),Z (oE eS b),Z (zE eI f),U,U,U] (cC (λg:Unit=>[Z bO,Z ((zE (eT aK)) a),Z (oE eS b),U,U,U,U]) (zE eB)) (pY a b g f) (Z (Av a b g f)):=R.tp (cX (bM 4 (Au qM (cJ (aq 3 (zE eI) f S) (cJ (BB 20) cD))) (λ_=>S) λe=>(cX (OZ 5 6 (n6 (Au Qh (Bl (j8 (aq 4 (lE eI) e S)) cD))) (n6 (Au Qj (Bl (j8 (aq 2 (lE eS) b S)) (Bl (FX (Fh (FG (j8 (aq 4 (lE eI) e S)) (Tr (BB 8)) ZP))) cD)))) λd c=>(cX (Fi (IQ (Wn (FH (Au Ao (cJ (aq 1 (zE (eT aK)) a S) (cJ (aq 5 (zE (eT bB)) d S) (cJ (aq 6 (zE (eT eS)) c S) cD)))))) (Wn (FH (Au zf (cJ (aq 1 (zE (eT aK)) a S) (cJ (aq 5 (zE (eT bB)) d S) (cJ (aq 6 (zE (eT eS)) c S) cD))))))) (cX (fG .rt (Ip (.bl false) eB false S) (λ_=>S) λ_=>S)) (eU (cX (Fi (Wn (FH (Au Ar (cJ (aq 1 (zE (eT aK)) a S) (cJ (aq 6 (zE (eT eS)) c S) (cJ (kY (gQ (lK (aR (nT "day") (aR (nT "name") (aR (nT "names") (aR (nT "p") (d7 eS))))) (zv S))) (dM (kY (j8 (aq 4 (lE eI) e S)) (BB 7)) 4 ())) (cJ (n6 (n8 (BB 1) (dM (p8 (kY (j8 (aq 4 (lE eI) e S)) (BB 7)) 4 ()) 3 ()))) cD))))))) (cX (fG .rt (Ip (.bl false) eB false S) (λ_=>S) λ_=>S)) (eU (cX (Fi (pC (SE () (gQ (Au j6 (cJ (aq 1 (zE (eT aK)) a S) (cJ (n6 (KL (aq 5 (zE (eT bB)) d S))) (cJ (aq 6 (zE (eT eS)) c S) cD))))) (gQ (LJ (gQ (Au j6 (cJ (aq 1 (zE (eT aK)) a S) (cJ (aq 5 (zE (eT bB)) d S) (cJ (aq 6 (zE (eT eS)) c S) cD))))))))) (cX (fG .rt (Ip (.bl false) eB false S) (λ_=>S) λ_=>S)) (eU (eU (cP (.nx ej) S)))))))))))))))
def NQ(c:B0)(b:O aC)(a:AZ):Bool:=true
def NT:Ev->Y An:=(aF (gO (cB (.bl true))) jl)
theorem Xm(c:B0)(d:Lp bO (c.map eI))(a:O aC)(b:AZ):RP NT [Z bO,Z ((zE (eT aK)) a),Z (oE eS b),U,U,U,U] (λr=>An.rt (zE eB r)) (NQ c a b) (U):=R.tp (fG (λr=>r) (Ip (.bl true) eB true S) (λ_=>S) λ_=>S)
def Gu(a:B0)(c:O aC)(d:AZ):Bool:=(BY (mR (λ(b:Unit) (e:Int)=>((pY c d b e):wX (Unit) Bool)) ([(bG a 16)]++(Bn a (Z 17) (Z 26))) ej) (λr=>r) λb:Unit=>(NQ a c d))
def NZ(a:B0)(d:O aC)(e:AZ):Prop:=((((jW a 16)/\K1 ([(bG a 16)].length+(Bn a (Z 17) (Z 26)).length))/\uZ (λ(b:Unit) (c:Int)=>((pY d e b c):wX (Unit) Bool)) (λ(b:Unit) (c:Int)=>Z (Av d e b c)) ([(bG a 16)]++(Bn a (Z 17) (Z 26))) ej)/\(Dz (mR (λ(b:Unit) (c:Int)=>((pY d e b c):wX (Unit) Bool)) ([(bG a 16)]++(Bn a (Z 17) (Z 26))) ej) λb:Unit=>True))
def N5:Ev->Y An:=(aF (oA (Ye (b2 jG (bY kJ (ao (b1 Ci (bQ 2 gR (ao (gv 0) (ao (cB (.int 16)) aG)))) aG)) (VP (gv 0) (uU (cB (.int 17))) (uU (cB (.int 26)))))) (jm 3) Ga) NT)
theorem Xn(b:B0)(e:Lp bO (b.map eI))(c:O aC)(a:AZ):RP N5 [Z bO,Z ((zE (eT aK)) c),Z (oE eS a),U,U,U,U] (λr=>An.rt (zE eB r)) (Gu b c a) (Z (NZ b c a)):=R.tp (Wx (λd:Unit=>[Z bO,Z ((zE (eT aK)) c),Z (oE eS a),U,U,U,U]) ej S (Ff (L0 (gQ (lK (aR (n6 (Au za (Bl (dB 0 eI b e S) (cJ (BB 16) cD)))) (d7 eI)) (zv S))) (gQ (FG (dB 0 eI b e S) (Tr (BB 17)) (Tr (BB 26)))))) _ (λ_ _=>S) (λ(d:Unit) (f:Int)=>((Xl b e c a d f).r:R _ _ (cC (λd:Unit=>[Z bO,Z ((zE (eT aK)) c),Z (oE eS a),U,U,U,U]) (zE eB)))) (λr=>r) (λ_=>S) λd=>(Xm b e c a).r)
def Gv(d:B0)(a:O aC):Bool:=(let b:=(a.map λc:aC=>c.1);(Gu d a b))
def N6(d:B0)(a:O aC):Prop:=(a.length<=100000/\(let b:=(a.map λc:aC=>c.1);(NZ d a b)))
def Xo:Ev->Y An:=(aF (At 2 (cg (uE (gv 1)) (jm 0) kW (b2 gH (gv 0) (cB (.int 0))) [] 1)) N5)
theorem Xp(b:B0)(e:Lp bO (b.map eI))(a:O aC):RP Xo [Z bO,Z ((zE (eT aK)) a),U,U,U,U,U] (λr=>An.rt (zE eB r)) (Gv b a) (Z (N6 b a)):=R.tp (bM 2 (wW (Dc (aq 1 (zE (eT aK)) a S)) _ (λ_=>S) (λd:aC=>(qd (aq 0 (zE aK) d S) (λq=>q.1) eS 0 λ_=>S)) λ_=>S) (λ_=>S) λc=>(Xn b e a c).r)
def N7(a:B0):Bool:=(let b:=(cV a 14);(Gv a b))
def Rw(a:B0):Prop:=((tW a 14)/\(let b:=(cV a 14);(N6 a b)))
theorem RE(a:B0)(b:Lp bO (a.map eI)):RP Rt [Z bO,U,U,U,U,U,U] (λr=>An.rt (zE eB r)) (N7 a) (Z (Rw a)):=R.tp (bM 1 (Au Qf (Bl (dB 0 eI a b S) (cJ (BB 14) cD))) (λ_=>S) λc=>(Xp a b c).r)
theorem HV:∀v bs,(aL eI aN) v bs->bs.length=1/\(B4 (Z (Rw v.1))->F_law (bs.map lend)=Z ((zE eB) (N7 v.1))):=by
 rintro⟨b,_⟩ _ ⟨bO,_,rfl,a,rfl⟩;exact⟨rfl,λh=>cj (g:=Rt) (n:=7) (bs:=[lend bO]) (RE b (mO a)) h⟩
theorem GS(h:∀a:O Int,a.length<=63->Rw a/\N7 a=true):(∀a:O Int,a.length<=63->F_law [.z (.lst (a.map .int))]=Z (.z (.bl true)))/\∀a:O Int,a.length<=63->F_law [.l (a.map .int)]=Z (.z (.bl true)):=
 ⟨λa b=>((HV (a,ej) [.z (.lst (a.map .int))] ⟨_,_,rfl,rfl,rfl⟩).2 (h a b).1).trans (by rw[(h a b).2]),λa b=>((HV (a,ej) [.l (a.map .int)] ⟨_,_,rfl,rfl,rfl⟩).2 (h a b).1).trans (by rw[(h a b).2])⟩
end
theorem Ql(b:O Int)(k:Int)(a:0<=k)(h1:k<=1000):jW b k:=by
 unfold jW;exact⟨λh=>B7 a (by simpa using h),λ_=>Gc a ()⟩
theorem Xq(k:Nat)(s:Int×O Int×Int)(hk:k<1000)(h:(0<=s.1/\s.1<1999999973)/\s.2.1.length=k/\(∀x∈s.2.1,0<=x)/\0<=s.2.2):jA s k/\(0<=(bU s k).1/\(bU s k).1<1999999973)/\(bU s k).2.1.length=k+1/\(∀x∈(bU s k).2.1,0<=x)/\0<=(bU s k).2.2:=by
 obtain⟨h1,h2,c,b⟩:=h;have a:In 2 (if(decide ((0:Int)<s.2.2))=true then(1:Int)else 0):=by split<;>exact B7 () ()
 refine⟨⟨Gc h1.1 (),a,?_⟩,oh _ (),?_,?_,Int.ediv_nonneg b ()⟩
 ·show s.2.1.length<=1000000;omega
 ·show(s.2.1++[_]).length=k+1;rw[qr,h2];rfl
 ·intro x hx;rcases ai.mp hx with hx|hx
  ·exact c x hx
  ·cases ag.mp hx;have:=yK (xs:=[((((s.1*((s.1%65521)+40487))+(7*k))+5)%1999999973),(s.2.2%1000000)]) a;simp only[j0,QO,or_false]at this;rcases this with e|e<;>rw[e]
   ·exact(oh _ ()).1
   ·exact(oh _ ()).1
theorem KC(c m:Int)(e:0<=m)(h1:m<=1000):fZ c m/\(bw c m).length=m.toNat/\∀x∈bw c m,0<=x:=by
 have d:∀st a:Int,(0<=st/\st<1999999973)->0<=a->mq c m [] st a/\(jB c m [] st a).length=m.toNat/\∀x∈jB c m [] st a,0<=x:=λst a b hd=>by
  have:=mV (P:=λs k=>Z (jA s k)) (λk s=>(0<=s.1/\s.1<1999999973)/\s.2.1.length=k/\(∀x∈s.2.1,0<=x)/\0<=s.2.2) (step:=λs k=>bU s k) m.toNat (st,[],a) ⟨b,rfl,λx h=>(by cases h),hd⟩ λk s hk h=>Xq k s () h;exact⟨⟨Cu e (),this.1⟩,this.2.2.1,this.2.2.2.1⟩
 refine d _ _ (oh _ ()) ?_;dsimp only;split<;>(try split)<;>omega
open S1 S6
abbrev bH:=AJ×O (AJ×AJ)
theorem Cd{α τ:Type}{p:α->Bool}{g:α->τ}{step:Unit->α->wX Unit τ}(hs:∀s x,step s x=if p x=true then .rt (g x)else .nx ej):∀(xs:O α),mR step xs ej=(match xs.find? p with|some x=>.rt (g x)|none=>.nx ej)/\uZ step (λ_ _=>U) xs ej
 |[]=>⟨rfl,trivial⟩
 |x::xs=>by
  obtain⟨h1,h2⟩:=Cd hs xs;unfold mR uZ;rw[hs,ZO];cases p x with
  |true=>exact⟨rfl,trivial,trivial⟩
  |false=>exact⟨h1,trivial,h2⟩
def fw(ws:O (AJ×AJ))(f:AJ):Y AJ:=(ws.find? λq=>decide (q.1=f)).map (·.2)
theorem Aw(r:bH)(f:AJ):rP r f/\j5 r f=fw r.2 f:=by
 obtain⟨h1,h2⟩:=Cd (p:=λq:AJ×AJ=>decide (q.1=f)) (g:=λq:AJ×AJ=>Z q.2) (step:=λs q=>jC f s q) (λ_ _=>S) r.2;refine⟨⟨h2,?_⟩,?_⟩
 ·cases mR (λ(a:Unit) (q2:AJ×AJ)=>((jC f a q2):wX Unit (Y AJ))) r.2 ej<;>trivial
 ·unfold j5 fw;rw[h1];cases r.2.find? λq=>decide (q.1=f)<;>rfl
def Ce(rs:O bH)(f:AJ):AZ:=rs.filterMap λr=>fw r.2 f
theorem Xr{α:Type}[Inhabited α]:∀xs:O (Y α),(xs.filter λv=>v.isSome).map (λv=>v.getD default)=xs.filterMap id
 |[]=>rfl
 |none::xs=>Xr xs
 |some x::xs=>by
  show _::_=x::_;rw[<-Xr xs];rfl
theorem CK(rs:O bH)(f:AJ)(h:rs.length<=100000):pX rs f/\fD rs f=Ce rs f:=by
 refine⟨⟨⟨⟨h,λr _=>(Aw r f).1⟩,by rw[zi];exact h⟩,λ_ _ z=>z⟩,?_⟩;unfold fD Ce;rw[Xr,dm];refine congrArg (λg=>List.filterMap g rs) (funext λr=>(Aw r f).2)
def fY(B:O bH)(n:AJ):bH:=(B.find? λr=>decide (r.1=n)).getD default
theorem Jf(B:O bH)(n:AJ)(h:n∈B.map (·.1)):Al B n/\pW B n=fY B n:=by
 obtain⟨h1,h2⟩:=Cd (p:=λq:bH=>decide (q.1=n)) (g:=λq:bH=>q) (step:=λs q=>j4 n s q) (λ_ _=>S) B;obtain⟨r,d,e⟩:=ae.mp h;have a:∃x,B.find? (λq:bH=>decide (q.1=n))=Z x:=by
  cases c:B.find? (λq:bH=>decide (q.1=n))with
  |some x=>exact⟨x,rfl⟩
  |none=>exact absurd (av.mp c r d) (by simp[e])
 obtain⟨x,hx⟩:=a;rw[hx]at h1;have h1:mR (λ(b:Unit) (q:bH)=>((j4 n b q):wX Unit bH)) B ej=.rt x:=h1;refine⟨⟨h2,?_⟩,?_⟩
 ·rw[h1];trivial
 ·unfold pW fY;rw[h1,hx];rfl
theorem KD{B:O bH}(b:(B.map (·.1)).Nodup){r:bH}(h:r∈B):fY B r.1=r:=by
 unfold fY;have:B.find? (λq=>decide (q.1=r.1))=Z r:=by
  induction B with
  |nil=>cases h
  |cons a B c=>
   rw[zk,al]at b;rw[ZO];rcases List.mem_cons.mp h with e|e
   ·subst e;simp
   ·have:a.1≠r.1:=λz=>b.1 (by rw[z];exact ZN e);rw[z5 this];exact c b.2 e
 rw[this];rfl
theorem rR{α:Type}{b:α->α->Bool}(as:∀x z,b x z=true->b z x=false)(a:∀x y z,b x y=false->b y z=false->b x z=false)(c:∀x,b x x=false):∀(r:O α) (y:α),uh b y r∈y::r/\∀x∈y::r,b x (uh b y r)=false
 |[],y=>⟨ze ..,λx hx=>by rw[ag.mp hx];exact c y⟩
 |z::r,y=>by
  unfold uh;cases h:b z y with
  |true=>
   rw[zr rfl];obtain⟨h1,h2⟩:=rR as a c r z;refine⟨zh _ h1,λx hx=>?_⟩;rcases List.mem_cons.mp hx with e|e
   ·rw[e];exact a _ _ _ (as _ _ h) (h2 z (ze ..))
   ·exact h2 x e
  |false=>
   rw[zS (by simp)];obtain⟨h1,h2⟩:=rR as a c r y;refine⟨?_,λx hx=>?_⟩
   ·rcases List.mem_cons.mp h1 with e|e
    ·rw[e];exact ze ..
    ·exact zh _ (zh _ e)
   ·rcases List.mem_cons.mp hx with e|hx
    ·rw[e];exact h2 y (ze ..)
    rcases List.mem_cons.mp hx with e|hx
    ·rw[e];exact a _ _ _ h (h2 y (ze ..))
    ·exact h2 x (zh _ hx)
theorem tZ{z:AJ}:wV x z=false↔zT z x:=by
 constructor
 ·intro h;cases q:wV z x with
  |true=>exact((BH _ _).mp q).1
  |false=>
   unfold wV at h;unfold zT;rw[ltCps_eq];exact h
 ·intro h;cases q:wV x z with
  |false=>rfl
  |true=>have:=(BH _ _).mp q;exact absurd (mL this.1 h) this.2
theorem KH(x:AJ):wV x x=false:=by
 cases q:wV x x with
 |false=>rfl
 |true=>exact absurd S ((BH _ _).mp q).2
theorem Xu(x z:AJ)(h:wV x z=true):wV z x=false:=tZ.mpr ((BH _ _).mp h).1
theorem Xv(x y z:AJ)(h1:wV x y=false)(h2:wV y z=false):wV x z=false:=by
 cases q:wV x z with
 |false=>rfl
 |true=>
  exfalso;cases e:wV y x with
  |true=>
   have:=OH _ _ _ e q;rw[h2]at this;cases this
  |false=>
   have:x=y:=mL (tZ.mp e) (tZ.mp h1);rw[this,h2]at q;cases q
theorem N9[Inhabited α]:∀{xs:O α} (h:xs≠[]),Ap xs ((xs.length:Int)-1)=xs.getLast h:=λ{xs} h=>by
 have a:0<xs.length:=bp.mpr h;rw[show((xs.length:Int)-1)=((xs.length-1:Nat):Int) by omega,yL _ _ (),List.getLast_eq_getElem]
theorem D8[Inhabited α]{xs:O α}(h:xs≠[]):Ap xs (-1)=Ap xs ((xs.length:Int)-1):=by
 have a:0<xs.length:=bp.mpr h;unfold Ap GJ D9;rw[zS (),zr (),zr (),zr ()];congr 3
abbrev kL(u:AJ):Int×AJ:=(-(u.length:Int),u)
theorem BS{α:Type}(c:Array α):∀(n:Nat) (a:Array α),((aa n c).foldl (·++·) a).size=a.size+n*c.size
 |0,a=>by simp
 |n+1,a=>by
  rw[de,ki,BS c n,JI,dr];omega
theorem JR(x:AJ)(k:Int):(Txt.mul x k).length<=x.length*k.toNat:=by
 unfold Txt.mul;split
 ·exact Z3 _
 split
 ·rename_i a h;simp only[cw,beq_iff_eq]at h;rcases h with h|h
  ·subst h;simp
  ·rw[h];simp
 ·show(Array.size _)<=_;rw[BS];have:x.cps.size=x.length:=rfl;rw[this,Nat.mul_comm];simp
def LT:AJ:=("abcdefghijklmnopqrstuvwxyz":AJ)
theorem Qm:LT.length=26:=by decide +kernel
theorem mD(h:n<=1000):K1 n:=zD h ()
theorem Qn(xs:O Int)(i:6<=xs.length)(b:AJ)(hs:b.length<=5)(at_:Int)(k:Nat)(a:AZ)(hk:k<200)(h:a.length=k/\∀n∈a,n.length<=12):lA xs LT b at_ a k/\(dW xs LT b at_ a k).length=k+1/\∀n∈dW xs LT b at_ a k,n.length<=12:=by
 have f:=zD (slice_le b U (Z at_)) hs;have j:=zD (slice_le b (Z at_) U) hs;have c1:=u5 LT ((↑k+Ap xs 2)%15);have g:=oh (k:Int) (m:=8) ();have hd:(0:Int)<=(k:Int) / 8/\(k:Int) / 8<26:=by omega
 refine⟨⟨⟨B7 () (),u0 () (by rw[Qm];decide)⟩,⟨mD (),mD (by rw[qg];omega)⟩,⟨B7 () (),λ_=>⟨B7 hd.1 (by rw[Qm];exact hd.2),by omega,by omega,by rw[u5];decide⟩⟩,mD ()⟩,?_⟩;have d:∀n:AJ,n.length<=12->(a++[n]).length=k+1/\∀m∈a++[n],m.length<=12:=λn e=>⟨by simp[h.1],λm c=>by
  rcases ai.mp c with c|c
  ·exact h.2 m c
  ·cases ag.mp c;exact e⟩
 unfold dW;dsimp only;split
 ·exact d _ (by have:=JR (ch LT ((k:Int) / 8)) (1+(k:Int)%8);rw[u5]at this;exact zD this ())
 ·exact d _ (by rw[qg,qg,c1];omega)
theorem LL(xs:AZ)(n:Nat)(h:∀x∈xs,x.length<=n):(Txt.join "" xs).length<=xs.length*n:=by
 have h1:=StrLaws.join_length_le ("":AJ) xs;rw[<-StrLaws.glued_eq_join]at h1;have h2:(xs.map (·.length)).sum<=xs.length*n:=by
  clear h1
  induction xs with
  |nil=>simp
  |cons a l b=>
   have:=b λx hx=>h x (zh _ hx);have:=h a (ze ..);simp only[zk,db,qv,dr];omega
 have c:("":AJ).length=0:=rfl;rw[c,Nat.mul_zero]at h1;exact zD h1 ()
theorem NF(xs:AZ)(h:∀x∈xs,x.length=1):(xs.map (·.length)).sum=xs.length:=by
 induction xs with
 |nil=>rfl
 |cons a l b=>
  have:=b λx hx=>h x (zh _ hx);have:=h a (ze ..);simp only[zk,db,qv];omega
theorem Xw(xs:O Int)(g:6<=xs.length)(a:Int)(l:0<=a)(h1:a<=200):qC xs a/\(dN xs a).length=a.toNat/\∀n∈dN xs a,n.length<=12:=by
 have d:=oh (Ap xs 0) (m:=6) ();have st:∀b:AJ,b.length<=5->pQ xs a LT b/\(lB xs a LT b).length=a.toNat/\∀n∈lB xs a LT b,n.length<=12:=λb e=>by
  have:=mV (P:=λf k=>Z (lA xs LT b (Ap xs 1%((b.length:Int)+1)) f k)) (step:=λf k=>dW xs LT b (Ap xs 1%((b.length:Int)+1)) f k) (λk s=>s.length=k/\∀n∈s,n.length<=12) a.toNat [] ⟨rfl,λn h=>(by cases h)⟩ λk s hk h=>Qn xs g b e _ k s () h;exact⟨⟨⟨B7 () (),by omega⟩,Cu l (),this.1⟩,this.2⟩
 have c1:∀x∈((rng 0 (Ap xs 0%6).toNat).map λc:Int=>ch LT (Ap xs c / 40%26)),x.length=1:=λx hx=>by
  obtain⟨k,_,rfl⟩:=ae.mp hx;exact u5 _ _
 have:=st (Txt.join "" ((rng 0 (Ap xs 0%6).toNat).map λc:Int=>ch LT (Ap xs c / 40%26))) (by
  have:=LL _ 1 λx hx=>Nat.le_of_eq (c1 x hx);rw[zi,jL]at this;omega)
 refine⟨⟨⟨⟨⟨⟨B7 () (),Cu d.1 ()⟩,by rw[jL];omega⟩,λk hk=>?_⟩,?_⟩,this.1⟩,this.2⟩
 ·obtain⟨j,o,rfl⟩:=Rr hk;exact⟨B7 () (),u0 () (by rw[show("abcdefghijklmnopqrstuvwxyz":AJ)=LT from rfl,Qm];decide)⟩
 ·rw[show("abcdefghijklmnopqrstuvwxyz":AJ)=LT from rfl,NF _ c1,zi,jL];have i:("":AJ).length=0:=rfl;rw[i];omega
def DJ(xs:O Int)(a:AJ)(at_:Int)(k:Int):AJ:=if(decide (((Ap xs 3)%3)=1))=true then(Txt.mul (ch LT (k / (8:Int))) (1+(k%8)))else(((Txt.slice a U (Z at_))++(ch LT ((k+(Ap xs 2))%15)))++(Txt.slice a (Z at_) U))
theorem Gw{α β:Type}(g:β->α):∀(l:O β) (f:O α),l.foldl (λf k=>f++[g k]) f=f++l.map g
 |[],f=>by simp
 |k::l,f=>by rw[ki,Gw g l];simp
theorem Xx(xs:O Int)(a:Int):∃b at_,dN xs a=(rng 0 a.toNat).map (DJ xs b at_):=by
 refine⟨_,_,(Gw (DJ xs _ _) _ []).trans (k5 _)⟩
theorem Qo{a b m c:AJ}(h:(a++m)++b=(a++c)++b):m=c:=by
 have h:=congrArg (λs:AJ=>s.cps.toList) h;have h:((a.cps++m.cps)++b.cps).toList=((a.cps++c.cps)++b.cps).toList:=h;simp only[ke]at h;have:=List.append_cancel_left (List.append_cancel_right h);cases m;cases c;congr 1;exact Array.ext' this
theorem NM:∀i:Fin 30,∀j:Fin 30,Txt.mul (ch LT ((i.val:Int) / 8)) (1+(i.val:Int)%8)=Txt.mul (ch LT ((j.val:Int) / 8)) (1+(j.val:Int)%8)->i=j:=by decide +kernel
theorem Os:∀i:Fin 15,∀j:Fin 15,ch LT (i.val:Int)=ch LT (j.val:Int)->i=j:=by decide +kernel
theorem Oy{x y:Int}(hx:0<=x/\x<15)(a:0<=y/\y<15)(h:ch LT x=ch LT y):x=y:=by
 have:=Os ⟨x.toNat,by omega⟩ ⟨y.toNat,by omega⟩ (by
  show ch LT ((x.toNat:Nat):Int)=ch LT ((y.toNat:Nat):Int);rw[bq hx.1,bq a.1];exact h)
 have:=congrArg Fin.val this;have:x.toNat=y.toNat:=this;omega
theorem RO{xs:O Int}{a:AJ}{at_:Int}(hi:i<15)(b:j<15)(h:DJ xs a at_ i=DJ xs a at_ j):i=j:=by
 unfold DJ at h;by_cases e:(decide (((Ap xs 3)%3)=1))=true
 ·rw[zr e,zr e]at h;exact congrArg Fin.val (NM ⟨i,by omega⟩ ⟨j,by omega⟩ h)
 ·rw[zS e,zS e]at h;have:=Oy (oh _ ()) (oh _ ()) (Qo h);omega
theorem Pj{g:Int->AJ}(h:∀i j:Nat,i<n->j<n->g i=g j->i=j):((rng 0 n).map g).Nodup:=by
 unfold rng;rw[z4];unfold List.Nodup;rw[kB];refine List.Pairwise.imp_of_mem ?_ (List.nodup_range (n:=n));intro a b f d c e;refine c (h a b (aw.mp f) (aw.mp d) ?_);have e:g (0+(a:Int))=g (0+(b:Int)):=e;rwa [ci,ci]at e
theorem Xy(xs:O Int)(a:Int)(h:a<=15):(dN xs a).Nodup:=by
 obtain⟨b,at_,e⟩:=Xx xs a;rw[e];exact Pj λi j hi c=>RO () ()
open S1 S6
def lH:AZ:=["first","last","most","longest","least","greatest"]
theorem Hn:cR.lookup ("first":AJ)=Z (oR,λv=>Z (oU v)):=by kernel_rfl
theorem I0:cR.lookup ("last":AJ)=Z (qG,λv=>Z (qH v)):=by kernel_rfl
theorem N2:cR.lookup ("most":AJ)=Z (qD,λv=>Z (qF v)):=by kernel_rfl
theorem GW:cR.lookup ("longest":AJ)=Z (lD,λv=>Z (lG v)):=by kernel_rfl
theorem HI:cR.lookup ("least":AJ)=Z (oN,λv=>Z (oO v)):=by kernel_rfl
theorem G':cR.lookup ("greatest":AJ)=Z (jO,λv=>Z (jP v)):=by kernel_rfl
theorem PU{h:AJ}(a:h∈lH)(hn:ws≠[]):TY cR h ws:=by
 have b:0<ws.length:=bp.mpr hn;unfold TY;simp only[lH,j0,QO,or_false]at a;rcases a with rfl|rfl|rfl|rfl|rfl|rfl
 ·rw[Hn];exact B7 () ()
 ·rw[I0];exact⟨by omega,by omega⟩
 ·rw[N2];exact⟨hn,λ_ _=>trivial⟩
 ·rw[GW];exact⟨hn,λ_ _=>trivial⟩
 ·rw[HI];exact hn
 ·rw[G'];exact hn
def Rx(rs:O bH)(f u:AJ):AZ:=(rs.filter λr=>decide (fw r.2 f=Z u)).map (·.1)
def Ry(rs:O bH)(q:AJ×AJ):AJ×AJ×AZ:=(q.1,pG cR q.2 (Ce rs q.1),Rx rs q.1 (pG cR q.2 (Ce rs q.1)))
theorem DG(rs:O bH)(q:AJ×AJ)(a:rs.length<=100000)(b:q.2∈lH)(hn:Ce rs q.1≠[]):xP rs q.1 q.2/\rQ rs q.1 q.2=Ry rs q:=by
 obtain⟨h1,h2⟩:=CK rs q.1 a;refine⟨⟨⟨h1,by rw[h2];exact PU b hn⟩,a,λr _=>(Aw r q.1).1⟩,?_⟩;unfold rQ Ry Rx;rw[h2];dsimp only;congr 3;exact JA λr _=>by rw[(Aw r q.1).2]
def Rz(rs:O bH)(vo:O (AJ×AJ)):O (AJ×AJ×AZ):=(vo.filter λq=>!(Ce rs q.1).isEmpty).map (Ry rs)
theorem uc(B:O bH)(vo:O (AJ×AJ))(N:AZ)(j:∀n∈N,n∈B.map (·.1))(h1:N.length<=100000)(h2:vo.length<=100000)(g:∀q∈vo,q.2∈lH):eG B vo N/\bN B vo N=Rz (N.map (fY B)) vo:=by
 have e:(N.map λn=>pW B n)=N.map (fY B):=qc λn d=>(Jf B n (j n d)).2;have b:(N.map (fY B)).length<=100000:=by rw[zi];exact h1
 have a:=λf=>CK (N.map (fY B)) f b;have i:∀q:AJ×AJ,(!(Ce (N.map (fY B)) q.1).isEmpty)=true->Ce (N.map (fY B)) q.1≠[]:=λq h z=>by rw[z]at h;cases h
 refine⟨⟨⟨h1,λn d=>(Jf B n (j n d)).1⟩,?_⟩,?_⟩
 ·dsimp only;rw[e];refine⟨h2,λq c=>⟨(a q.1).1,λz=>?_⟩⟩;rw[(a q.1).2]at z;exact(DG _ q b (g q c) (i q z)).1
 ·unfold bN Rz;dsimp only;rw[e];have o:(vo.filter λq1:AJ×AJ=>!(fD (N.map (fY B)) q1.1).isEmpty)=vo.filter λq=>!(Ce (N.map (fY B)) q.1).isEmpty:=JA λq _=>by rw[(a q.1).2]
  rw[o];refine qc λq c=>?_;obtain⟨m,l⟩:=ah.mp c;exact(DG _ q b (g q m) (i q l)).2
open S1 S6
abbrev SG:O Nat:=[49,50,97,98,99]
abbrev Wd(w:AJ):Prop:=∀c∈w.cps.toList,c∈SG
def FL:AZ:=[("day":AJ),("name":AJ),(("name":AJ)++("s":AJ)),("p":AJ)]
abbrev Fd(r:bH):Prop:=(r.2.map (·.1)).Sublist FL/\∀q∈r.2,Wd q.2
structure Bk (B:List bH):Prop where
 nd:(B.map (·.1)).Nodup
 ln:B.length<=40
 fd:∀r∈B,Fd r
theorem SU:("ab1":AJ).length=3:=by decide +kernel
theorem PQ:∀i:Fin 3,Wd (ch ("ab1":AJ) (i.val:Int)):=by decide +kernel
theorem No{a b:AJ}(f:Wd a)(e:Wd b):Wd (a++b):=λc d=>by
 have d:c∈(a.cps++b.cps).toList:=d;rw[ke,ai]at d;exact d.elim (f c) (e c)
theorem KU(x:Int)(k:Nat)(s:AJ)(hk:k<4)(h:s.length=k/\Wd s):mG x s k/\(f9 x s k).length=k+1/\Wd (f9 x s k):=by
 have hi:In [(1:Int),(3:Int),(9:Int),(27:Int)].length (k:Int):=B7 () (by show(k:Int)<4;omega);have hp:(0<(Ap [(1:Int),(3:Int),(9:Int),(27:Int)] (k:Int))/\(Ap [(1:Int),(3:Int),(9:Int),(27:Int)] (k:Int))<1073741824):=by
  have:=yK hi;simp only[j0,QO,or_false]at this;rcases this with e|e|e|e<;>rw[e]<;>decide
 refine⟨⟨⟨⟨hi,hp⟩,u0 () (by rw[SU];decide)⟩,mD (by rw[u5];omega)⟩,?_,?_⟩
 ·show(s++ch _ _).length=k+1;rw[qg,u5,h.1]
 ·refine No h.2 ?_;have m:=oh (x / 16 / Ap [(1:Int),(3:Int),(9:Int),(27:Int)] (k:Int)) (m:=3) ();have:=PQ ⟨(x / 16 / Ap [(1:Int),(3:Int),(9:Int),(27:Int)] (k:Int)%3).toNat,by omega⟩;simp only[bq m.1]at this;exact this
theorem R':∀w∈[("a":AJ),("ab":AJ),("abc":AJ),("b":AJ),("1":AJ),("12":AJ),("a1":AJ)],Wd w:=by decide +kernel
theorem Xz(x:Int):tU x/\Wd (pR x):=by
 have b:=oh (x / 4) (m:=4) ();have lp:=mV (P:=λf k=>Z (mG x f k)) (step:=λf k=>f9 x f k) (λk (s:AJ)=>s.length=k/\Wd s) (1+x / 4%4).toNat ("":AJ) ⟨rfl,λc h=>by cases h⟩ λk s hk h=>KU x k s () h;have a:In [("a":AJ),("ab":AJ),("abc":AJ),("b":AJ),("1":AJ),("12":AJ),("a1":AJ)].length (x / 4%7):=u0 () ();refine⟨⟨λ_=>a,λ_=>⟨Cu () (),lp.1⟩⟩,?_⟩;unfold pR;split
 ·exact R' _ (yK a)
 ·exact lp.2.2
theorem Sn:FL.Nodup:=by unfold FL;decide +kernel
theorem LZ(xs:O Int)(g:xs.length=4)(k:Nat)(ws:O (AJ×AJ))(hk:k<4)(h:(ws.map (·.1)).Sublist (FL.take k)/\∀q∈ws,Wd q.2):oM xs FL ws k/\((fW xs FL ws k).map (·.1)).Sublist (FL.take (k+1))/\∀q∈fW xs FL ws k,Wd q.2:=by
 have b:=h.2
 replace h:=h.1
 have d:=h.length_le;rw[zi,kK]at d;have f:FL.length=4:=rfl;have hi:In xs.length (k:Int):=B7 () ();have c:In FL.length (k:Int):=B7 () ();have e:Ap FL (k:Int)=FL[k]'():=yL _ _ _;refine⟨⟨hi,λ_=>⟨⟨c,hi,(Xz _).1⟩,mD ()⟩⟩,?_⟩;unfold fW;dsimp only;rw[kF ()];split
 ·rw[ZZ,e];refine⟨h.append (List.Sublist.refl _),λq a=>?_⟩;rcases ai.mp a with a|a
  ·exact b q a
  ·rw[ag.mp a];exact(Xz _).2
 ·exact⟨h.trans (List.sublist_append_left _ _),b⟩
theorem Mc(n:AJ)(xs:O Int)(a:xs.length=4):rO n xs/\(mz n xs).1=n/\Fd (mz n xs):=by
 have lp:=mV (P:=λf k=>Z (oM xs FL f k)) (step:=λf k=>fW xs FL f k) (λk (ws:O (AJ×AJ))=>(ws.map λq:AJ×AJ=>q.1).Sublist (FL.take k)/\∀q∈ws,Wd q.2) (kN 4) [] ⟨List.nil_sublist _,λq h=>by cases h⟩ λk s hk h=>LZ xs a k s (by rw[show kN 4=4 from IE 4]at hk;exact hk) h;have h2:((mz n xs).2.map (·.1)).Sublist (FL.take (kN 4)):=lp.2.1;have b:=h2.trans (du _ _);exact⟨⟨mD (by decide +kernel),lp.1⟩,rfl,b,lp.2.2⟩
theorem XC{xs:AZ}(a:xs.Nodup){i j:Int}(hi:0<=i/\i<xs.length)(b:0<=j/\j<xs.length)(h:Ap xs i=Ap xs j):i=j:=by
 rw[show i=((i.toNat:Nat):Int) by omega,show j=((j.toNat:Nat):Int) by omega,yL _ _ (),yL _ _ ()]at h;have:=(dA a).mp h;omega
theorem Sk(a:O Int)(m:Int)(x:1<=m)(h1:m<=14)(w:a.length<=63):tW a m/\Bk (cV a m)/\1<=(cV a m).length/\(cV a m).length<=14:=by
 have t:=KC (bG a 0) 9 () ();obtain⟨q,n,o⟩:=t;have n:(bw (bG a 0) 9).length=9:=n;generalize e3:bw (bG a 0) 9=hd at *
 obtain⟨q1,q2,q3⟩:=Xw hd () 15 () ();have u:=Xy hd 15 ();have q2:(dN hd 15).length=15:=q2;generalize g:dN hd 15=na at *
 have d:In [(1:Int),(2:Int),(5:Int),(8:Int),m,m].length (Ap hd 6%6):=u0 () (Int.le_refl 6);have z:1<=Ap [(1:Int),(2:Int),(5:Int),(8:Int),m,m] (Ap hd 6%6)/\Ap [(1:Int),(2:Int),(5:Int),(8:Int),m,m] (Ap hd 6%6)<=14:=by
  have:=yK d;simp only[j0,QO,or_false]at this;rcases this with e|e|e|e|e|e<;>rw[e]<;>omega
 generalize l:Ap [(1:Int),(2:Int),(5:Int),(8:Int),m,m] (Ap hd 6%6)=mn at *
 have v:0<=Ap hd 7:=o _ (yK (B7 () ()))
 let nm:=λk:Int=>Ap na ((4*k+Ap hd 7)%15)
 let b:=λk:Int=>mz (nm k) (bw (bG a (1+k)) 4)
 have c:∀k:Int,rO (nm k) (bw (bG a (1+k)) 4)/\(b k).1=nm k/\Fd (b k):=λk=>Mc _ _ (KC (bG a (1+k)) 4 () ()).2.1;have lp:=mV (P:=λf k=>Z (qN a hd na f k)) (step:=λf k=>mH a hd na f k) (λk (s:O bH)=>s=(rng 0 k).map b) mn.toNat [] S λk s hk h=>by
  refine⟨⟨⟨⟨⟨B7 () (),u0 () (by rw[q2];decide)⟩,Ql a _ () (),(KC _ 4 () ()).1⟩,(c k).1⟩,mD (by rw[h,zi,jL];omega)⟩,?_⟩;show s++[b k]=_;rw[h];unfold rng;rw[List.range_succ,ZZ,ZZ];simp
 have eB:cV a m=(rng 0 mn.toNat).map b:=by
  unfold cV;dsimp only;rw[e3];unfold qP;dsimp only;rw[g];unfold qO;dsimp only;rw[l];exact lp.2
 refine⟨⟨⟨Ql a 0 () (),q⟩,?_⟩,?_,?_,?_⟩
 ·dsimp only;rw[e3];refine⟨q1,?_⟩;dsimp only;rw[g];refine⟨⟨B7 () (),d⟩,?_⟩;dsimp only;rw[l];exact⟨Cu () (),lp.1⟩
 ·rw[eB];refine⟨?_,by rw[zi,jL];omega,λr p=>?_⟩
  ·rw[z4];refine Pj λi j hi y h=>?_;have h:(b (i:Int)).1=(b (j:Int)).1:=h;rw[(c i).2.1,(c j).2.1]at h;have:=XC u (by rw[q2];exact⟨by omega,by omega⟩) (by rw[q2];exact⟨by omega,by omega⟩) h;omega
  ·obtain⟨k,_,rfl⟩:=ae.mp p;exact(c k).2.2
 ·rw[eB,zi,jL];omega
 ·rw[eB,zi,jL];omega
theorem CS(xs:O Int)(i:8<=xs.length)(j:∀x∈xs,0<=x)(k:Nat)(s:AZ×O (AJ×AJ))(hk:k<5)(h:s.1.length=5-k/\s.2.length=k/\∀q∈s.2,q.2∈lH):jJ xs lH s k/\(c7 xs lH s k).1.length=5-(k+1)/\(c7 xs lH s k).2.length=k+1/\∀q∈(c7 xs lH s k).2,q.2∈lH:=by
 obtain⟨a,b,c⟩:=h;have hi:In [(1:Int),(5:Int),(20:Int),(60:Int),(120:Int)].length (k:Int):=B7 () (by show(k:Int)<5;omega);have hp:(0<(Ap [(1:Int),(5:Int),(20:Int),(60:Int),(120:Int)] (k:Int))/\(Ap [(1:Int),(5:Int),(20:Int),(60:Int),(120:Int)] (k:Int))<1073741824):=by
  have:=yK hi;simp only[j0,QO,or_false]at this;rcases this with e|e|e|e|e<;>rw[e]<;>decide
 have g:=oh ((Ap xs 1) / (Ap [(1:Int),(5:Int),(20:Int),(60:Int),(120:Int)] (k:Int))) (m:=(s.1.length:Int)) ();have f:In lH.length (Ap xs (2+k)%6):=u0 () ();refine⟨⟨⟨⟨⟨⟨B7 () (),hi⟩,hp⟩,by omega⟩,g.1,g.2,by omega⟩,⟨B7 () (),f⟩,mD ()⟩,?_,?_,?_⟩
 ·show(s.1.eraseIdx _).length=_;rw[List.length_eraseIdx_of_lt ()];omega
 ·show(s.2++[_]).length=_;rw[qr,b];rfl
 ·intro q d;rcases ai.mp d with d|d
  ·exact c q d
  ·rw[ag.mp d];exact yK f
theorem Ue(xs:O Int)(a:8<=xs.length)(c:∀x∈xs,0<=x):tX xs/\(dX xs).length<=5/\∀q∈dX xs,q.2∈lH:=by
 have b:=oh (Ap xs 0) (m:=6) ();have lp:=mV (P:=λf k=>Z (jJ xs lH f k)) (step:=λf k=>c7 xs lH f k) (λk (s:AZ×O (AJ×AJ))=>s.1.length=5-k/\s.2.length=k/\∀q∈s.2,q.2∈lH) (Ap xs 0%6).toNat ([("day":AJ),("name":AJ),("names":AJ),("p":AJ),("zzz":AJ)],[]) ⟨rfl,rfl,λq h=>by cases h⟩ λk s hk h=>CS xs a c k s () h;refine⟨⟨⟨B7 () (),Cu b.1 ()⟩,lp.1⟩,?_,lp.2.2.2⟩;have:=lp.2.2.1;have e:(dX xs).length=(Ap xs 0%6).toNat:=this;omega
theorem XD(na:AZ):(rng 0 na.length).map (Ap na)=na:=by
 apply dE
 ·rw[zi,jL]
 ·intro k h1 h2;rw[cb];have:=Rc (qi (show k<(rng 0 na.length).length by rw[jL];exact h2));rw[this.1,ci,yL _ _ h2]
open S1 S6
def pk(B:O bH)(N:AZ)(f:AJ):O (AJ×AJ):=N.filterMap λn=>(fw (fY B n).2 f).map λw=>(n,w)
def lJ(P:O (AJ×AJ))(q:AJ×AJ):AJ×AJ×AZ:=(q.1,pG cR q.2 (P.map (·.2)),(P.filter λz=>decide (z.2=pG cR q.2 (P.map (·.2)))).map (·.1))
def lM(p:AJ->O (AJ×AJ))(vo:O (AJ×AJ)):O (AJ×AJ×AZ):=(vo.filter λq=>!(p q.1).isEmpty).map λq=>lJ (p q.1) q
theorem IU(B:O bH)(f:AJ):∀N:AZ,(pk B N f).map (·.2)=Ce (N.map (fY B)) f
 |[]=>rfl
 |n::N=>by
  have a:=IU B f N;unfold pk Ce at *
  rw[zk,Zs,Zs];cases fw (fY B n).2 f with
  |none=>exact a
  |some w=>show _::_=_::_;rw[<-a]
theorem RB(B:O bH)(f u:AJ):∀N:AZ,(∀n∈N,(fY B n).1=n)->((pk B N f).filter λz=>decide (z.2=u)).map (·.1)=Rx (N.map (fY B)) f u
 |[],_=>rfl
 |n::N,h=>by
  have a:=RB B f u N λm c=>h m (zh _ c);have b:=h n (ze ..);unfold pk Rx at *
  rw[zk,Zs,kM];cases e:fw (fY B n).2 f with
  |none=>rw[zS (by simp)];exact a
  |some w=>
   show((_::_).filter _).map _=_;rw[kM];by_cases z:w=u
   ·subst z;rw[zr (by simp),zr (by simp),zk,zk,b,<-a]
   ·rw[zS (by simpa using z),zS (by simpa using z)];exact a
theorem ud{B:O bH}(h:∀n∈N,(fY B n).1=n)(vo:O (AJ×AJ)):Rz (N.map (fY B)) vo=lM (pk B N) vo:=by
 have e:∀f,Ce (N.map (fY B)) f=(pk B N f).map (·.2):=λf=>(IU B f N).symm;unfold Rz lM;have a:(vo.filter λq=>!(Ce (N.map (fY B)) q.1).isEmpty)=vo.filter λq=>!(pk B N q.1).isEmpty:=JA λq _=>by
  rw[e,cf]
 rw[a];refine qc λq _=>?_;unfold Ry lJ;rw[e,<-RB B q.1 _ N h]
theorem jD{B:O bH}{n:AJ}(h:n∈B.map (·.1)):(fY B n).1=n/\fY B n∈B:=by
 unfold fY;cases e:B.find? λr=>decide (r.1=n)with
 |none=>
  obtain⟨r,a,q⟩:=ae.mp h;exact absurd (av.mp e r a) (by simp[q])
 |some r=>exact⟨Q4 (List.find?_some (p:=λr:bH=>decide (r.1=n)) e),ca e⟩
theorem RD{B:O bH}{f:AJ}{z:AJ×AJ}(h:z∈pk B N f):z.1∈N:=by
 unfold pk at h;obtain⟨n,a,e⟩:=aS.mp h;obtain⟨w,_,rfl⟩:=ar.mp e;exact a
theorem Jg{B:O bH}{f:AJ}:∀{N:AZ},N.Pairwise zT->N.Nodup->(pk B N f).Pairwise λa b=>wV a.1 b.1=true
 |[],_,_=>.nil
 |n::N,hs,nd=>by
  rw[ap]at hs;rw[al]at nd;have c:=Jg (B:=B) (f:=f) hs.2 nd.2;unfold pk at *
  rw[Zs];cases e:fw (fY B n).2 f with
  |none=>exact c
  |some w=>
   refine ap.mpr ⟨λz d=>?_,c⟩;have:=RD (B:=B) (N:=N) (f:=f) d;exact(BH _ _).mpr ⟨hs.1 _ this,λq=>nd.1 (by have q:n=z.1:=q;rw[q];exact this)⟩
theorem Mn(B:O bH)(N:AZ)(f:AJ):(pk B N f).length<=N.length:=List.length_filterMap_le ..
theorem KJ{b:AJ->AJ->Bool}:∀(r:AZ) (y:AJ),uh b y r∈y::r
 |[],y=>ze ..
 |z::r,y=>by
  unfold uh;split
  ·exact zh _ (KJ r z)
  ·rcases List.mem_cons.mp (KJ (b:=b) r y)with e|e
   ·rw[e];exact ze ..
   ·exact zh _ (zh _ e)
theorem jE{b:AJ->AJ->Bool}(h:ws≠[]):B9 b ws∈ws:=by
 cases ws with
 |nil=>exact absurd S h
 |cons y r=>exact KJ r y
theorem Be(h:ws≠[]):∀x∈ws,zT (B9 Yh ws) x:=by
 cases ws with
 |nil=>exact absurd S h
 |cons y r=>exact λx hx=>tZ.mp ((rR (b:=Yh) Xu Xv KH r y).2 x hx)
theorem wM(h:ws≠[]):∀x∈ws,zT x (B9 D1 ws):=by
 cases ws with
 |nil=>exact absurd S h
 |cons y r=>exact λx hx=>tZ.mp ((rR (b:=D1) (λx z=>Xu z x) (λx y z h1 h2=>Xv z y x h2 h1) KH r y).2 x hx)
abbrev bK:AJ->AJ->Bool:=λx z=>DI (Dv eI eS (kL x)) (Dv eI eS (kL z))
theorem XF(p q:Int×AJ):D0 (Dv eI eS) p q=false↔Yg (Dv eI eS) q p=true:=by unfold D0 Yg uw;simp
theorem Gx(h:ws≠[]):∀x∈ws,Yg (Dv eI eS) (kL (B9 bK ws)) (kL x)=true:=by
 cases ws with
 |nil=>exact absurd S h
 |cons y r=>
  have c:∀x y z:Int×AJ,D0 (Dv eI eS) x y=false->D0 (Dv eI eS) y z=false->D0 (Dv eI eS) x z=false:=λx y z h1 h2=>by
   rw[XF]at *
   exact yH _ _ _ h2 h1
  exact λx hx=>(XF _ _).mp ((rR (b:=bK) (λx z q=>by
   have q:D0 (Dv eI eS) (kL x) (kL z)=true:=q;exact(XF _ _).mpr ((NG _ _).mp q).1) (λx y z a b=>c _ _ _ a b) (λx=>qZ _) r y).2 x hx)
theorem Hd(ws:AZ):pG cR "first" ws=Ap ws 0:=by unfold pG;rw[Hn];rfl
theorem GV(ws:AZ):pG cR "last" ws=Ap ws (-1):=by unfold pG;rw[I0];rfl
theorem Ix(ws:AZ):pG cR "longest" ws=B9 bK ws:=by unfold pG;rw[GW];rfl
theorem FY(ws:AZ):pG cR "least" ws=B9 Yh ws:=by unfold pG;rw[HI];rfl
theorem GB(ws:AZ):pG cR "greatest" ws=B9 D1 ws:=by unfold pG;rw[G'];rfl
def FV:AZ:=[("day":AJ),("name":AJ),("names":AJ),("p":AJ),("zzz":AJ)]
theorem Gy{α:Type}:∀(l:O α) (i:Nat) (h:i<l.length),(l[i]::l.eraseIdx i).Perm l
 |a::l,0,_=>List.Perm.refl _
 |a::l,i+1,h=>by
  have:=Gy l i (by simpa using h);exact(List.Perm.swap a _ _).trans (this.cons a)
theorem N8(xs:O Int)(l:8<=xs.length)(u:∀x∈xs,0<=x):((dX xs).map (·.1)).Nodup/\∀f∈(dX xs).map (·.1),f∈FV:=by
 have v:=oh (Ap xs 0) (m:=6) ();have lp:=mV (P:=λf k=>Z (jJ xs lH f k)) (step:=λf k=>c7 xs lH f k) (λk (s:AZ×O (AJ×AJ))=>(s.1.length=5-k/\s.2.length=k/\∀q∈s.2,q.2∈lH)/\(s.1++s.2.map λq:AJ×AJ=>q.1).Perm FV) (Ap xs 0%6).toNat (FV,[]) ⟨⟨rfl,rfl,λq h=>by cases h⟩,by simp⟩ λk s hk h=>by
  obtain⟨d,a,b,c⟩:=CS xs l u k s () h.1;refine⟨d,⟨a,b,c⟩,?_⟩;have t:=oh ((Ap xs 1) / (Ap [(1:Int),(5:Int),(20:Int),(60:Int),(120:Int)] (k:Int))) (m:=(s.1.length:Int)) (by have:=h.1.1;omega);show(s.1.eraseIdx (((Ap xs 1) / (Ap [(1:Int),(5:Int),(20:Int),(60:Int),(120:Int)] (k:Int)))%(s.1.length:Int)).toNat++((s.2++[(Ap s.1 (((Ap xs 1) / (Ap [(1:Int),(5:Int),(20:Int),(60:Int),(120:Int)] (k:Int)))%(s.1.length:Int)),_)]).map λq:AJ×AJ=>q.1)).Perm FV;generalize ((Ap xs 1) / (Ap [(1:Int),(5:Int),(20:Int),(60:Int),(120:Int)] (k:Int)))%(s.1.length:Int)=i at t;obtain⟨j,rfl⟩:∃j:Nat,i=(j:Int):=⟨i.toNat,by omega⟩;have g:j<s.1.length:=by omega
  rw[kD,yL _ _ g,ZZ];refine List.Perm.trans ?_ h.2;rw[<-JE];refine(List.perm_append_comm).trans ?_;show(s.1[j]::(s.1.eraseIdx j++_)).Perm _;rw[<-ck];exact(Gy s.1 j g).append_right _
 have p:=lp.2.2;have e:(dX xs).map (·.1)=(((rng 0 (Ap xs 0%6).toNat).foldl (λf k=>c7 xs lH f k) (FV,[])).2.map λq:AJ×AJ=>q.1):=rfl;rw[e];have n:FV.Nodup:=by unfold FV;decide +kernel
 exact⟨(bE.mp (p.nodup_iff.mpr n)).2.1,λf o=>p.mem_iff.mp (zz _ o)⟩
open S1 S6
theorem XH(na:AZ)(xs:O Int)(hn:na.length<=40)(c:na.Nodup)(f:0<xs.length/\xs.length<=1000)(g:∀x∈xs,0<=x):tY na xs/\(ig na xs).Pairwise zT/\(ig na xs).Nodup/\∀n∈ig na xs,n∈na:=by
 have sub:∀p:Int->Bool,(((rng 0 (na.length:Int).toNat).filter p).map λk:Int=>Ap na k).Sublist na:=λp=>by
  have:=(dg (p:=p) (l:=rng 0 (na.length:Int).toNat)).map (Ap na);rw[kD]at this ⊢;rw[XD]at this;exact this
 have p:=λxs:AZ=>lR xs;refine⟨⟨⟨⟨Cu () (),by rw[jL];omega⟩,λk hk=>?_⟩,?_⟩,sH _,(p _).nodup_iff.mpr (c.sublist (sub _)),λn hn=>(sub _).subset ((p _).mem_iff.mp hn)⟩
 ·have:=ZX hk;have a:=oh k (m:=(xs.length:Int)) ();have d:0<=k / (xs.length:Int):=Int.ediv_nonneg this.1 ();have e:k / (xs.length:Int)<=k:=Int.ediv_le_self _ this.1;exact⟨⟨⟨⟨by omega,B7 a.1 a.2⟩,by omega,by omega⟩,by omega,by omega⟩,λ_=>B7 this.1 ()⟩
 ·have:=(sub λb:Int=>(decide ((0:Int)<(((Ap xs (b%(xs.length:Int))) / (1+(b / (xs.length:Int))))%3)))).length_le;omega
theorem RG{m:O (AJ×AJ)}{q:AJ×AJ}(h:q.1∉m.map (·.1)):put m q.1 q.2=m++[q]:=by
 unfold put;rw[zS];intro z;unfold has at z;obtain⟨y,a,e⟩:=List.any_eq_true.mp z;exact h (by rw[<-Q4 e];exact ZN a)
theorem GN{a:O (AJ×AJ)}(e:(a.map (·.1)).Nodup):Tw a=a:=by
 have:∀(l m:O (AJ×AJ)),((m++l).map (·.1)).Nodup->l.foldl (λc p=>put c p.1 p.2) m=m++l:=by
  intro l
  induction l with
  |nil=>intro m _;simp
  |cons q l b=>
   intro m h;rw[ki];have d:q.1∉m.map (·.1):=λz=>by
    rw[ZZ,bE]at h;exact h.2.2 _ z _ (ZN (ze ..)) rfl
   rw[RG d,b _ (by rw[JE];exact h),JE];rfl
 exact(this a [] e).trans (k5 _)
theorem KN{b:O (AJ×AJ)}(c:(b.map (·.1)).Nodup){q:AJ×AJ}(h:q∈b):has b q.1=true/\look b q.1=q.2:=by
 refine⟨List.any_eq_true.mpr ⟨q,h,by simp⟩,?_⟩;unfold look;have:b.find? (λz=>decide (z.1=q.1))=Z q:=by
  induction b with
  |nil=>cases h
  |cons a b d=>
   rw[zk,al]at c;rw[ZO];rcases List.mem_cons.mp h with e|e
   ·subst e;simp
   ·have:a.1≠q.1:=λz=>c.1 (by rw[z];exact ZN e);rw[z5 this];exact d c.2 e
 rw[this];rfl
theorem XJ(B:O bH)(N:AZ)(q:AJ×AJ):lM (pk B N) [q]=if pk B N q.1=[]then[]else[lJ (pk B N q.1) q]:=by
 unfold lM;rw[kM];by_cases h:pk B N q.1=[]
 ·rw[zr h,h,zS ()];rfl
 ·rw[zS h,zr (by
   cases e:pk B N q.1 with
   |nil=>exact absurd e h
   |cons _ _=>rfl)]
  rfl
theorem Gz{step:O β->α->O β}{P:O β->α->Y Prop}(g:α->O β)(xs:O α)(hs:∀s x,x∈xs->step s x=s++g x)(b:∀s x,x∈xs->s.length<=(xs.flatMap g).length->B4 (P s x)):sJ step P xs []/\xs.foldl step []=xs.flatMap g:=by
 obtain⟨h1,h2⟩:=J5 (step:=step) (P:=P) (λk s=>s=(xs.take k).flatMap g) xs 0 [] S λk x s hx h=>by
  have a:=kU hx;obtain⟨hk,rfl⟩:=af.mp hx;rw[ku]at h ⊢;refine⟨b s _ a ?_,?_⟩
  ·rw[h]
   conv=>rhs;rw[<-List.take_append_drop k xs]
   rw[dh,qr];omega
  ·rw[hs s _ a,h,kF hk,dh];simp
 refine⟨h1,?_⟩;rw[h2,ku,cm]
theorem mQ{α β:Type}(g:α->β):∀xs:O α,(xs.flatMap λx=>[g x])=xs.map g
 |[]=>rfl
 |x::xs=>by rw[ja,zk,mQ g xs];rfl
abbrev tn(k:Int):AJ:=ch ("abcdefghijklmnop":AJ) k++("q":AJ)
theorem Mm:("abcdefghijklmnop":AJ).length=16:=by decide +kernel
theorem Rl:∀i j:Fin 16,i.val<j.val->wV (tn (i.val:Int)) (tn (j.val:Int))=true:=by decide +kernel
theorem IT(a c:AJ):wV a c=true\/a=c\/wV c a=true:=by
 cases h:wV a c with
 |true=>exact .inl rfl
 |false=>
  cases h':wV c a with
  |true=>exact .inr (.inr S)
  |false=>exact .inr (.inl (mL (tZ.mp h') (tZ.mp h)))
theorem XM(c:na.Nodup)(d:na.length<=16):iu na/\bJ na=(rng 0 na.length).map λk=>(Ap (jY na) k,tn ((na.length:Int)-1-k)):=by
 have p:=lR na;have a:=p.length_eq;have b:=p.nodup_iff.mpr c;unfold iu bJ;dsimp only;rw[<-a];rw[<-a]at d;generalize jY na=vs at *
 have lp:=mV (P:=λf k=>Z (pU vs f k)) (step:=λf k=>lC vs f k) (λk (m:O (AJ×AJ))=>m=(rng 0 k).map λk=>(Ap vs k,tn ((vs.length:Int)-1-k))) (vs.length:Int).toNat [] S λk m hk h=>by
  have hk:k<vs.length:=by omega
  have keys:m.map (·.1)=(rng 0 k).map (Ap vs):=by rw[h,z4];rfl
  refine⟨⟨⟨⟨B7 () (by rw[Mm];omega),mD (by rw[u5];decide +kernel)⟩,B7 () ()⟩,by rw[h,zi,jL];omega⟩,?_⟩;show put m (Ap vs (k:Int)) (tn ((vs.length:Int)-1-k))=_;rw[RG (q:=(Ap vs (k:Int),tn ((vs.length:Int)-1-k))) (by
   show Ap vs (k:Int)∉_;rw[keys];intro z;obtain⟨i,hi,e⟩:=ae.mp z;obtain⟨j,g,rfl⟩:=Rr hi;have:=XC b (i:=j) (j:=k) ⟨by omega,by omega⟩ ⟨by omega,by omega⟩ e;omega),h]
  unfold rng;rw[List.range_succ,ZZ,ZZ];simp
 refine⟨⟨by omega,Cu () (),lp.1⟩,?_⟩;rw[lp.2,kD]
theorem XQ(l:na.Nodup)(o:na.length<=16):iu na/\(∀n∈na,has (bJ na) n=true)/\∀a∈na,∀c∈na,wV a c=true->wV (look (bJ na) c) (look (bJ na) a)=true:=by
 obtain⟨d,t⟩:=XM l o;refine⟨d,?_⟩;rw[t];have p:=lR na;have u:=p.length_eq;have z:=p.nodup_iff.mpr l;have pw:=sH na;have A:=λx=>p.mem_iff (a:=x);rw[<-u]at o ⊢;generalize jY na=vs at *
 have keys:(((rng 0 vs.length).map λk=>(Ap vs k,tn ((vs.length:Int)-1-k))).map (·.1)).Nodup:=by
  rw[z4];show((rng 0 vs.length).map (Ap vs)).Nodup;rw[XD];exact z
 have one:∀n∈na,∃i:Nat,∃h:i<vs.length,vs[i]=n/\has ((rng 0 vs.length).map λk=>(Ap vs k,tn ((vs.length:Int)-1-k))) n=true/\look ((rng 0 vs.length).map λk=>(Ap vs k,tn ((vs.length:Int)-1-k))) n=tn ((vs.length:Int)-1-i):=λn h=>by
  obtain⟨i,hi,e⟩:=List.getElem_of_mem ((A n).mpr h);have m:(n,tn ((vs.length:Int)-1-i))∈(rng 0 vs.length).map λk=>(Ap vs k,tn ((vs.length:Int)-1-k)):=by
   refine ae.mpr ⟨(i:Int),?_,by rw[yL _ _ hi,e]⟩;unfold rng;exact ae.mpr ⟨i,aw.mpr hi,by omega⟩
  exact⟨i,hi,e,KN keys m⟩
 refine⟨λn h=>?_,λa s c y lt=>?_⟩
 ·obtain⟨_,_,_,h,_⟩:=one n h;exact h
 ·obtain⟨i,hi,f,_,q⟩:=one a s;obtain⟨j,v,g,_,w⟩:=one c y;rw[q,w];have B:i<j:=by
   have b:=(BH _ _).mp lt;rcases Nat.lt_trichotomy i j with h|h|h
   ·exact h
   ·subst h;exact absurd (f.symm.trans g) b.2
   ·have:=bX.mp pw j i v hi h;rw[f,g]at this;exact absurd (mL b.1 this) b.2
  have:=Rl ⟨vs.length-1-j,by omega⟩ ⟨vs.length-1-i,by omega⟩ (by show vs.length-1-j<vs.length-1-i;omega);simp only at this;rw[show((vs.length:Int)-1-j)=((vs.length-1-j:Nat):Int) by omega,show((vs.length:Int)-1-i)=((vs.length-1-i:Nat):Int) by omega];exact this
abbrev Oa(K:AJ->AJ)(na:AZ):Prop:=∀a∈na,∀c∈na,wV a c=true->wV (K c) (K a)=true
theorem Ob{K:AJ->AJ}(h:Oa K na){a c:AJ}(d:a∈na)(b:c∈na)(e:K a=K c):a=c:=by
 rcases IT a c with q|q|q
 ·have:=h a d c b q;rw[e,KH]at this;cases this
 ·exact q
 ·have:=h c b a d q;rw[e,KH]at this;cases this
theorem XR{K:AJ->AJ}(h:Oa K na){L:AZ}(hs:L.Pairwise λa c=>wV a c=true)(sub:∀x∈L,x∈na):jY (L.map K)=(L.map K).reverse:=by
 refine JZ ((lR _).trans (List.reverse_perm _).symm) (sH _) ?_;rw[List.pairwise_reverse,kB];exact hs.imp_of_mem λ{a c} ha hc q=>((BH _ _).mp (h a (sub a ha) c (sub c hc) q)).1
section
variable{B:O bH}(b:Bk B){K:AJ->AJ}(hK:Oa K (B.map (·.1)))
include b hK
theorem Pm:((B.map λd:bH=>(K d.1,d.2)).map (·.1)).Nodup:=by
 have e:((B.map λd:bH=>(K d.1,d.2)).map (·.1))=(B.map (·.1)).map K:=by rw[z4,z4];rfl
 rw[e];have f:=b.nd;unfold List.Nodup at *
 rw[kB];exact f.imp_of_mem λ{a c} ha hc q z=>q (Ob hK ha hc z)
theorem Ug{n:AJ}(hn:n∈B.map (·.1)):fY (B.map λa:bH=>(K a.1,a.2)) (K n)=(K n,(fY B n).2):=by
 have r:=jD hn;have m:(K n,(fY B n).2)∈B.map λa:bH=>(K a.1,a.2):=ae.mpr ⟨fY B n,r.2,by rw[r.1]⟩;exact KD (Pm b hK) m
theorem RJ(f:AJ):∀{N:AZ},(∀n∈N,n∈B.map (·.1))->pk (B.map λa:bH=>(K a.1,a.2)) (N.map K) f=(pk B N f).map λz=>(K z.1,z.2)
 |[],_=>rfl
 |n::N,h=>by
  have c:=RJ f (N:=N) λm d=>h m (zh _ d);unfold pk at *
  rw[zk,Zs,Zs,Ug b hK (h n (ze ..)),c];cases fw (fY B n).2 f<;>rfl
end
theorem MS(B:O bH)(N:AZ)(f:AJ):pk B N.reverse f=(pk B N f).reverse:=List.filterMap_reverse
theorem MH:aO "first"="last":=by decide +kernel
theorem OA:aO "last"="first":=by decide +kernel
theorem PD:aO "longest"="longest":=by decide +kernel
theorem Md:aO "least"="least":=by decide +kernel
theorem NR:aO "greatest"="greatest":=by decide +kernel
theorem XS(hn:ws≠[]):Ap ws.reverse (-1)=Ap ws 0:=by
 cases ws with
 |nil=>exact absurd S hn
 |cons w l=>
  rw[show Ap (w::l) 0=w from Fo (k:=0) rfl,D8 (by simp),N9 (by simp),List.getLast_reverse];rfl
theorem RK{h:AJ}(c:h∈lH)(f:h ≠ "most")(hn:ws≠[]):aO h∈lH/\pG cR (aO h) ws.reverse=pG cR h ws:=by
 have a:ws.reverse≠[]:=λz=>hn (List.reverse_eq_nil_iff.mp z);simp only[lH,j0,QO,or_false]at c;rcases c with rfl|rfl|rfl|rfl|rfl|rfl
 ·rw[MH,Hd,GV];exact⟨by decide +kernel,XS hn⟩
 ·rw[OA,Hd,GV];exact⟨by decide +kernel,by have:=XS a;rw[List.reverse_reverse]at this;exact this.symm⟩
 ·exact absurd S f
 ·rw[PD,Ix,Ix];have e:=Gx hn;have d:=Gx a;have i1:=jE (b:=bK) hn;have i2:=jE (b:=bK) a;exact⟨by decide +kernel,congrArg Prod.snd (WD (d _ (am.mpr i1)) (e _ (am.mp i2)))⟩
 ·rw[Md,FY,FY];exact⟨by decide +kernel,mL (Be a _ (am.mpr (jE hn))) (Be hn _ (am.mp (jE a)))⟩
 ·rw[NR,GB,GB];exact⟨by decide +kernel,mL (wM hn _ (am.mp (jE a))) (wM a _ (am.mpr (jE hn)))⟩
theorem Uh{K:AJ->AJ}{P:O (AJ×AJ)}(b:P≠[]){q:AJ×AJ}(a:q.2∈lH)(d:q.2 ≠ "most"):lJ (P.map λz=>(K z.1,z.2)).reverse (q.1,aO q.2)=(q.1,(lJ P q).2.1,((lJ P q).2.2.map K).reverse):=by
 have w:((P.map λz=>(K z.1,z.2)).reverse).map (·.2)=(P.map (·.2)).reverse:=by
  rw[kH,z4];rfl
 have c:P.map (·.2)≠[]:=λz=>b (aI.mp z);unfold lJ;dsimp only;rw[w,(RK a d c).2,di,kH,bj,z4,z4];rfl
open S1 S6
theorem D2(hs:N.Pairwise zT)(b:N.Nodup):N.Pairwise λa c=>wV a c=true:=
 (List.pairwise_and_iff.mpr ⟨hs,b⟩).imp λh=>(BH _ _).mpr h
theorem Oc{p:AJ->O (AJ×AJ)}{z:AJ×AJ×AZ}(h:z∈lM p vo):∃q∈vo,p q.1≠[]/\z=lJ (p q.1) q:=by
 unfold lM at h;obtain⟨q,a,rfl⟩:=ae.mp h;obtain⟨q1,q2⟩:=ah.mp a;exact⟨q,q1,λe=>(by rw[e]at q2;cases q2),rfl⟩
theorem Od(p:AJ->O (AJ×AJ))(vo:O (AJ×AJ)):(lM p vo).length<=vo.length:=by
 unfold lM;rw[zi];exact kG _ _
theorem Jh{B:O bH}(hs:N.Pairwise zT)(d:N.Nodup)(q:AJ×AJ):(lJ (pk B N q.1) q).2.2.Pairwise (λa c=>wV a c=true)/\(∀x∈(lJ (pk B N q.1) q).2.2,x∈N)/\(lJ (pk B N q.1) q).2.2.length<=N.length:=by
 unfold lJ;dsimp only;refine⟨?_,λx hx=>?_,?_⟩
 ·rw[kB];exact(Jg hs d).sublist dg
 ·obtain⟨z,b,rfl⟩:=ae.mp hx;exact RD (ah.mp b).1
 ·rw[zi];exact zD (kG _ _) (Mn ..)
theorem Ui{B:O bH}(b:Bk B){K:AJ->AJ}(hK:Oa K (B.map (·.1)))(hs:N.Pairwise zT)(j:N.Nodup)(d:∀n∈N,n∈B.map (·.1))(c:∀q∈vo,q.2∈lH/\q.2 ≠ "most"):lM (pk (B.map λa:bH=>(K a.1,a.2)) (N.map K).reverse) (vo.map λq:AJ×AJ=>(q.1,aO q.2))=(lM (pk B N) vo).map λz=>(z.1,z.2.1,jY (z.2.2.map K)):=by
 have e:∀f,pk (B.map λa:bH=>(K a.1,a.2)) (N.map K).reverse f=((pk B N f).map λz=>(K z.1,z.2)).reverse:=λf=>by rw[MS,RJ b hK f d]
 unfold lM;rw[bj,z4,z4];have g:(vo.filter ((λq:AJ×AJ=>!(pk (B.map λa:bH=>(K a.1,a.2)) (N.map K).reverse q.1).isEmpty) ∘ λq:AJ×AJ=>(q.1,aO q.2)))=vo.filter λq=>!(pk B N q.1).isEmpty:=JA λq _=>by
  show(!(pk _ _ q.1).isEmpty)=_;rw[e,List.isEmpty_reverse,cf]
 rw[g];refine qc λq h=>?_;obtain⟨q1,q2⟩:=ah.mp h;have i:pk B N q.1≠[]:=λe=>by rw[e]at q2;cases q2
 show lJ (pk _ _ q.1) (q.1,aO q.2)=_;rw[e,Uh i (c q q1).1 (c q q1).2];have r:=Jh (B:=B) hs j q;rw[<-XR hK r.1 λx hx=>d x (r.2.1 x hx)];rfl
theorem GC{B:O bH}(b:Bk B)(bl:B.length<=14)(hs:N.Pairwise zT)(h:N.Nodup)(d:∀n∈N,n∈B.map (·.1))(u:∀q∈vo,q.2∈lH)(D:vo.length<=5):eX B vo N/\cH B vo N=true:=by
 obtain⟨kd,j,hK⟩:=XQ b.nd (by rw[zi];omega);have v:=pL h d;rw[zi]at v;have e1:jY (N.map (look (bJ (B.map (·.1)))))=(N.map (look (bJ (B.map (·.1))))).reverse:=XR hK (D2 hs h) d;have e2:((vo.filter λc:aM=>!decide (c.2=("most":AJ))).map λc:aM=>c)=vo.filter λc:aM=>!decide (c.2=("most":AJ)):=List.map_id' _;have i:∀q∈vo.filter λc:aM=>!decide (c.2=("most":AJ)),q.2∈lH/\q.2 ≠ "most":= λq f=>by
  obtain⟨h1,h2⟩:=ah.mp f;exact⟨u q h1,by simpa using h2⟩
 have G:(vo.filter λc:aM=>!decide (c.2=("most":AJ))).length<=5:=zD (kG _ _) D;have kd:iu (B.map λa:bH=>a.1):=kd;unfold eX cH;dsimp only;change Oa (look (bJ (B.map λa:bH=>a.1))) _ at hK;change jY (N.map (look (bJ (B.map λa:bH=>a.1))))=(N.map (look (bJ (B.map λa:bH=>a.1)))).reverse at e1;change ∀n∈B.map (·.1),has (bJ (B.map λa:bH=>a.1)) n=true at j;generalize bJ (B.map λa:bH=>a.1)=vr at *
 unfold iU iT;dsimp only;unfold iR iQ;dsimp only;rw[e2];generalize vo.filter (λc:aM=>!decide (c.2=("most":AJ)))=vu at *
 unfold iM iK;dsimp only;unfold iJ iI;dsimp only;have e3:(N.map λA:AJ=>look vr A)=N.map (look vr):=rfl;have p:∀n∈(N.map (look vr)).reverse,n∈(B.map λa:bH=>(look vr a.1,a.2)).map (·.1):=λn e=>by
  obtain⟨x,hx,rfl⟩:=ae.mp (am.mp e);obtain⟨r,l,rfl⟩:=ae.mp (d x hx);rw[z4];exact ae.mpr ⟨r,l,rfl⟩
 have F:∀q∈vu.map λq1:aM=>(q1.1,aO q1.2),q.2∈lH:=λq f=>by
  obtain⟨y,g,rfl⟩:=ae.mp f;exact(RK (i y g).1 (i y g).2 (ws:=[""]) (by simp)).1
 obtain⟨C,t⟩:=uc (B.map λa:bH=>(look vr a.1,a.2)) (vu.map λq1:aM=>(q1.1,aO q1.2)) (N.map (look vr)).reverse p (by rw[kc,zi];omega) (by rw[zi];omega) F;rw[ud (λn e=>(jD (p n e)).1),Ui b hK hs h d i]at t;obtain⟨E,o⟩:=uc B vu N d () () λq f=>(i q f).1;rw[ud (λn e=>(jD (d n e)).1)]at o;rw[e3,e1];unfold iH iG iD iB iz;dsimp only;rw[t,o];have H:=Od (pk B N) vu;have fa:=Gz (step:=λ(m:O cL) (q2:cL)=>eV vr m q2) (P:=λ(m:O cL) (q2:cL)=>Z (iw vr m q2)) (λz:cL=>[(z.1,z.2.1,jY (z.2.2.map (look vr)))]) (lM (pk B N) vu) (λs x _=>S) λs x hx w=>by
  rw[mQ,zi]at w;obtain⟨q,_,_,rfl⟩:=Oc hx;have r:=Jh (B:=B) hs h q;exact⟨⟨⟨by omega,λy g=>j y (d y (r.2.1 y g))⟩,by rw[zi];omega⟩,mD ()⟩
 rw[mQ]at fa;refine⟨⟨⟨by omega,kd⟩,⟨by omega,λr l=>j _ (ZN l)⟩,by omega,by omega,⟨⟨⟨by omega,λn e=>j n (d n e)⟩,by rw[zi];omega⟩,C⟩,E,fa.1⟩,?_⟩;rw[fa.2];exact ZT rfl
open S1 S6
theorem Qp{ws:O (AJ×AJ)}(b:(ws.map (·.1)).Nodup){f w:AJ}:fw ws f=Z w↔(f,w)∈ws:=by
 unfold fw;constructor
 ·intro h;obtain⟨q,c,rfl⟩:=ar.mp h;have:=Q4 (List.find?_some (p:=λq:AJ×AJ=>decide (q.1=f)) c);subst this;exact ca c
 ·intro h
  induction ws with
  |nil=>cases h
  |cons a ws d=>
   rw[zk,al]at b;rw[ZO];rcases List.mem_cons.mp h with e|e
   ·subst e;simp
   ·have:a.1≠f:=λz=>b.1 (by rw[z];exact ZN (f:=λq:AJ×AJ=>q.1) e);rw[z5 this];exact d b.2 e
theorem Lu{ws vs:O (AJ×AJ)}(a:(ws.map (·.1)).Nodup)(p:vs.Perm ws)(f:AJ):fw vs f=fw ws f:=by
 have b:(vs.map (·.1)).Nodup:=(p.map _).nodup_iff.mpr a;refine Option.ext λw=>?_;rw[Qp b,Qp a];exact p.mem_iff
theorem X3{F:AJ->AJ}{S:AZ}(inj:∀f∈S,∀g∈S,F f=F g->f=g){f:AJ}(a:f∈S):∀{ws:O (AJ×AJ)},(∀q∈ws,q.1∈S)->fw (ws.map λq=>(F q.1,q.2)) (F f)=fw ws f
 |[],_=>rfl
 |q::ws,h=>by
  have c:=X3 inj a (ws:=ws) λz b=>h z (zh _ b);unfold fw at *
  rw[zk,ZO,ZO];by_cases e:q.1=f
  ·rw[ZT e,ZT (show(F q.1,q.2).1=F f by rw[e])];rfl
  ·have e':¬ (F q.1,q.2).1=F f:=λz=>e (inj _ (h q (ze ..)) _ a z);rw[z5 e,z5 e'];exact c
abbrev FR:O (AJ×AJ):=Tw ((("day":AJ),("p":AJ))::((("name":AJ),("a":AJ))::((("names":AJ),("nam":AJ))::((("p":AJ),("zz":AJ))::((("zzz":AJ),("b":AJ))::([]:O (AJ×AJ)))))))
theorem Qq:∀f∈FV,has FR f=true:=by decide +kernel
theorem X4:∀f∈FV,∀g∈FV,look FR f=look FR g->f=g:=by decide +kernel
theorem K':∀f∈FL,f∈FV:=by decide +kernel
theorem RM{r:bH}(h:Fd r):∀q∈r.2,q.1∈FV:=λq a=>K' _ (h.1.subset (ZN (f:=λq:AJ×AJ=>q.1) a))
theorem RN{r:bH}(h:Fd r):(r.2.map (·.1)).Nodup:=Sn.sublist h.1
theorem X5{r:bH}(h:Fd r):r.2.length<=4:=by
 have:=h.1.length_le;rw[zi]at this;exact zD this ()
section
variable{B:O bH}(b:Bk B)
include b
theorem GD{f:AJ}(g:f∈FV):∀{N:AZ},(∀n∈N,n∈B.map (·.1))->pk (B.map λd:bH=>(d.1,mU bB (d.2.map λq1:aM=>((look FR q1.1),q1.2)))) N (look FR f)=pk B N f
 |[],_=>rfl
 |n::N,h=>by
  have j:=GD g (N:=N) λm p=>h m (zh _ p);have r:=jD (h n (ze ..));have o:((B.map λd:bH=>(d.1,mU bB (d.2.map λq1:aM=>((look FR q1.1),q1.2)))).map (·.1)).Nodup:=by
   rw[z4];exact b.nd
  have m:(n,mU bB ((fY B n).2.map λq1:aM=>((look FR q1.1),q1.2)))∈B.map λd:bH=>(d.1,mU bB (d.2.map λq1:aM=>((look FR q1.1),q1.2))):=ae.mpr ⟨fY B n,r.2,by rw[r.1]⟩;have e:=KD o m;have e:fY (B.map λd:bH=>(d.1,mU bB (d.2.map λq1:aM=>((look FR q1.1),q1.2)))) n=(n,mU bB ((fY B n).2.map λq1:aM=>((look FR q1.1),q1.2))):=e;have fd:=b.fd _ r.2;have i:(((fY B n).2.map λq1:aM=>((look FR q1.1),q1.2)).map (·.1)).Nodup:=by
   have h:=RN fd;rw[z4];unfold List.Nodup at *
   rw[kB]at *
   exact h.imp_of_mem λ{a c} ha hc q z=>q (X4 _ (RM fd a ha) _ (RM fd c hc) z)
  have l:fw (mU bB ((fY B n).2.map λq1:aM=>((look FR q1.1),q1.2))) (look FR f)=fw (fY B n).2 f:=by
   rw[Lu i (Fl _)];exact X3 X4 g (RM fd)
  unfold pk at *
  rw[Zs,Zs,e,j];dsimp only;rw[l]
theorem Dj(u:N.Nodup)(d:∀n∈N,n∈B.map (·.1))(j:∀q∈vo,q.2∈lH)(g:∀q∈vo,q.1∈FV)(x:vo.length<=5):fX B vo N/\cW B vo N=true:=by
 have p:=pL u d;rw[zi]at p;have bl:=b.ln;have l:∀n∈N,n∈(B.map λa:bH=>(a.1,mU bB (a.2.map λq1:aM=>((look FR q1.1),q1.2)))).map (·.1):=λn e=>by
  rw[z4];exact d n e
 obtain⟨s,m⟩:=uc (B.map λa:bH=>(a.1,mU bB (a.2.map λq1:aM=>((look FR q1.1),q1.2)))) (vo.map λq2:aM=>((look FR q2.1),q2.2)) N l () (by rw[zi];omega) λq c=>by
  obtain⟨y,t,rfl⟩:=ae.mp c;exact j y t
 rw[ud λn e=>(jD (l n e)).1]at m;obtain⟨v,f⟩:=uc B vo N d () () j;rw[ud λn e=>(jD (d n e)).1]at f;have w:=Od (pk B N) vo;have ev:lM (pk (B.map λa:bH=>(a.1,mU bB (a.2.map λq1:aM=>((look FR q1.1),q1.2)))) N) (vo.map λq2:aM=>((look FR q2.1),q2.2))=(lM (pk B N) vo).map λq3:cL=>((look FR q3.1),q3.2.1,q3.2.2):=by
  unfold lM;rw[bj,z4,z4];have o:(vo.filter ((λq:AJ×AJ=>!(pk (B.map λa:bH=>(a.1,mU bB (a.2.map λq1:aM=>((look FR q1.1),q1.2)))) N q.1).isEmpty) ∘ λq2:aM=>((look FR q2.1),q2.2)))=vo.filter λq=>!(pk B N q.1).isEmpty:=JA λq c=>by
   show(!(pk _ N (look FR q.1)).isEmpty)=_;rw[GD b (g q c) d]
  rw[o];refine qc λq c=>?_;show lJ (pk _ N (look FR q.1)) (look FR q.1,q.2)=_;rw[GD b (g q (ah.mp c).1) d];rfl
 constructor
 ·refine⟨⟨by omega,λr h=>⟨⟨?_,λq c=>Qq _ (RM (b.fd r h) q c)⟩,?_⟩⟩,⟨⟨⟨by omega,λq c=>Qq _ (g q c)⟩,s⟩,⟨v,by rw[f];omega⟩,λz i=>?_⟩⟩
  ·have:=X5 (b.fd r h);omega
  ·have:=X5 (b.fd r h);rw[zi];omega
  ·rw[f]at i;obtain⟨q,c,_,rfl⟩:=Oc i;exact Qq _ (g q c)
 ·unfold cW;dsimp only;rw[m,f,ev];exact ZT rfl
end
open S1 S6
def tc(c:Nat):Nat:=if c=49 then 99 else if c=50 then 98 else if c=97 then 97 else if c=98 then 50 else 49
abbrev wN(w:AJ):AJ:=Txt.join "" ((BD w).map λa:AJ=>ch ("12abc":AJ) ((4:Int)-((Yi ("12abc":AJ) a:Nat):Int)))
theorem GL:∀c∈SG,cs (ch ("12abc":AJ) ((4:Int)-((Yi ("12abc":AJ) ⟨#[c]⟩:Nat):Int)))=[tc c]/\Builtin.Str.occurrences ("12abc":AJ) ⟨#[c]⟩ 0 ("12abc":AJ).length 1≠[]/\In ("12abc":AJ).length ((4:Int)-((Yi ("12abc":AJ) ⟨#[c]⟩:Nat):Int)):=by unfold P1.In;decide +kernel
theorem SL:∀a∈SG,∀c∈SG,a<c->tc c<tc a:=by decide
theorem RQ:∀{xs ys:O Nat},xs.length=ys.length->(∀c∈xs,c∈SG)->(∀c∈ys,c∈SG)->xs<ys->ys.map tc<xs.map tc
 |[],[],_,_,_,h=>absurd h (List.lt_irrefl _)
 |[],_::_,h,_,_,_=>by cases h
 |_::_,[],h,_,_,_=>by cases h
 |x::xs,y::ys,h,hx,hy,lt=>by
  rw[zk,zk,cQ];rcases cQ.mp lt with q|⟨q,r⟩
  ·exact .inl (SL _ (hx x (ze ..)) _ (hy y (ze ..)) q)
  ·exact .inr ⟨by rw[q],RQ (by simpa using h) (λc a=>hx c (zh _ a)) (λc a=>hy c (zh _ a)) r⟩
theorem T0:∀l:AZ,cs (Txt.join "" l)=l.flatMap cs
 |[]=>by decide +kernel
 |p::ps=>by
  rw[Pp,ja];refine congrArg (cs p++·) ?_;refine congrArg (λg=>List.flatMap g ps) (funext λq=>?_);show cs "" ++ cs q=cs q;rw[show cs ""= [] from by decide +kernel,k5]
theorem RT{w:AJ}(h:Wd w):cs (wN w)=(cs w).map tc:=by
 have h:∀c∈cs w,c∈SG:=h;rw[T0,M6,z4,List.flatMap_map];generalize cs w=l at h
 induction l with
 |nil=>rfl
 |cons c l a=>
  rw[ja,zk,a λd hd=>h d (zh _ hd)];have:=(GL c (h c (ze ..))).1;exact congrArg (·++l.map tc) this
theorem SD{a c:AJ}(d:Wd a)(b:Wd c)(e:a.length=c.length)(h:wV a c=true):wV (wN c) (wN a)=true:=by
 have h:decide (cs a<cs c)=true:=h;show decide (cs (wN c)<cs (wN a))=true;rw[RT d,RT b];exact ZT (RQ (by rw[show(cs a).length=a.length from QN,show(cs c).length=c.length from QN];exact e) d b (Q4 h))
theorem Qs{K:AJ->AJ}(hK:Oa K ws)(hn:ws≠[]):B9 D1 (ws.map K)=K (B9 Yh ws):=by
 have c:ws.map K≠[]:=λz=>hn (aI.mp z);have u:=jE (b:=Yh) hn;have g:=jE (b:=D1) c;have l:=Be hn;have t:=wM c _ (ZN (f:=K) u);obtain⟨y,a,e⟩:=ae.mp g;rw[<-e]at t ⊢;generalize B9 Yh ws=v at *
 rcases IT v y with q|q|q
 ·have:=hK v u y a q;rw[<-tZ,this]at t;cases t
 ·rw[q]
 ·have:=tZ.mpr (l y a);rw[q]at this;cases this
theorem Qt{K:AJ->AJ}{P:O (AJ×AJ)}(hK:Oa K (P.map (·.2)))(d:P≠[])(f:AJ):(lJ (P.map λz=>(z.1,K z.2)) (f,("greatest":AJ))).2.2=(lJ P (f,("least":AJ))).2.2:=by
 have a:P.map (·.2)≠[]:=λz=>d (aI.mp z);have e:(P.map λz=>(z.1,K z.2)).map (·.2)=(P.map (·.2)).map K:=by rw[z4,z4];rfl
 unfold lJ;dsimp only;rw[FY,GB,e,Qs hK a,bj,z4];have u:=jE (b:=Yh) a;generalize B9 Yh (P.map (·.2))=v at *
 have g:P.filter ((λz:AJ×AJ=>decide (z.2=K v)) ∘ λz=>(z.1,K z.2))=P.filter λz=>decide (z.2=v):=JA λz c=>by
  show decide (K z.2=K v)=_;by_cases q:z.2=v
  ·rw[q,ZT rfl,ZT rfl]
  ·rw[z5 q,z5 λr=>q (Ob hK (ZN (f:=λz:AJ×AJ=>z.2) c) u r)]
 rw[g];rfl
theorem Sm(ws:O (AJ×AJ))(f:AJ):has ws f=(fw ws f).isSome:=by
 unfold has fw;rw[dv,cr,KB,List.find?_isSome]
theorem LV{ws:O (AJ×AJ)}{f w:AJ}(h:fw ws f=Z w):look ws f=w:=by
 unfold fw at h;unfold look;rw[h];rfl
def gP(f:AJ)(s:Int)(r:bH):O (AJ×AJ):=match fw r.2 f with
 |some w=>if(w.length:Int)=s then[(r.1,w)]else[]
 |none=>[]
theorem O3{f:AJ}{s:Int}{r:bH}{z:AJ×AJ}(h:z∈gP f s r):z.1=r.1/\fw r.2 f=Z z.2/\(z.2.length:Int)=s:=by
 unfold gP at h;cases e:fw r.2 f with
 |none=>rw[e]at h;cases h
 |some w=>
  rw[e]at h;dsimp only at h;split at h
  ·rename_i q;rw[ag]at h;subst h;exact⟨rfl,rfl,q⟩
  ·cases h
theorem Qu(f:AJ)(s:Int):∀B:O bH,((B.flatMap (gP f s)).map (·.1)).Sublist (B.map (·.1))
 |[]=>List.Sublist.refl _
 |r::B=>by
  rw[ja,ZZ,zk];have a:=Qu f s B;unfold gP;cases fw r.2 f with
  |none=>exact a.cons _
  |some w=>
   dsimp only;split
   ·exact a.cons₂ _
   ·exact a.cons _
theorem X6{P:O (AJ×AJ)}(a:(P.map (·.1)).Nodup)(f:AJ)(t:AJ->AJ):∀{M:AZ},(∀n∈M,n∈P.map (·.1))->pk (P.map λz=>(z.1,[(f,t z.2)])) M f=M.map λn=>(n,t (look P n))
 |[],_=>rfl
 |n::M,h=>by
  have d:=X6 a f t (M:=M) λm g=>h m (zh _ g);obtain⟨z,b,rfl⟩:=ae.mp (h n (ze ..));have c:((P.map λz=>(z.1,[(f,t z.2)])).map (·.1)).Nodup:=by rw[z4];exact a
  have e:fY (P.map λz=>(z.1,[(f,t z.2)])) z.1=(z.1,[(f,t z.2)]):=KD c (r:=(z.1,[(f,t z.2)])) (ae.mpr ⟨z,b,rfl⟩);unfold pk at *
  rw[Zs,zk,e,d,(KN a b).2];have q:fw [(f,t z.2)] f=Z (t z.2):=by unfold fw;rw[ZO,ZT rfl];rfl
  dsimp only;rw[q];rfl
theorem ME{g:α->AJ}(l:O α)(h:∀x∈l,(g x).length=1):((l.map g).map (·.length)).sum=l.length:=by
 induction l with
 |nil=>rfl
 |cons x l a=>
  rw[zk,zk,db,qv,a λy b=>h y (zh _ b),h x (ze ..)];omega
section
variable{B:O bH}(b:Bk B)
include b
theorem MM(f:AJ){s:Int}(hs:1<=s):sJ (λ(a:O aC) (q1:aC)=>bF f s a q1) (λ(a:O aC) (q1:aC)=>Z (eY f s a q1)) B []/\B.foldl (λ(a:O aC) (q1:aC)=>bF f s a q1) []=(B.flatMap (gP f s)).map λz=>(z.1,[(f,z.2)]):=by
 have fa:=Gz (step:=λ(a:O aC) (q1:aC)=>bF f s a q1) (P:=λ(a:O aC) (q1:aC)=>Z (eY f s a q1)) (λr=>(gP f s r).map λz=>(z.1,[(f,z.2)])) B (λa r d=>by
  unfold bF gP C4;dsimp only;rw[GN (RN (b.fd r d)),Sm];cases e:fw r.2 f with
  |none=>
   rw[show(if(U:Y AJ).isSome=true then look r.2 f else("":AJ)) ="" from rfl,z5 (by
    rw[show(("":AJ).length:Int)=0 from by decide +kernel];omega),zS ()]
   exact(Q2 _).symm
  |some w=>
   rw[show(if(Z w:Y AJ).isSome=true then look r.2 f else("":AJ))=look r.2 f from rfl,LV e];dsimp only;by_cases q:(w.length:Int)=s
   ·rw[zr (ZT q),zr q];rfl
   ·rw[zS (by simpa using q),zS q];exact(Q2 _).symm) λa r d h=>by
  have i:=X5 (b.fd r d);have g:=(Qu f s B).length_le;have bl:=b.ln;rw[zi,zi]at g;rw[<-dS,zi]at h;refine⟨by omega,λc=>⟨⟨by omega,?_⟩,mD ()⟩⟩;rw[GN (RN (b.fd r d))]at c ⊢;cases e:has r.2 f with
  |true=>rfl
  |false=>
   exfalso;have c:=Q4 c;unfold C4 at c;rw[e,zS (),show(("":AJ).length:Int)=0 from by decide +kernel]at c;omega
 rw[<-dS]at fa;exact fa
theorem GF(hs:N.Pairwise zT)(nd:N.Nodup)(Q:∀n∈N,n∈B.map (·.1))(f:AJ){s:Int}(h1:1<=s)(h3:s<=3):eZ B N f s/\dF B N f s=true:=by
 have L:=pL nd Q;rw[zi]at L;have bl:=b.ln;obtain⟨d1,t1⟩:=MM b f h1;have sub:=Qu f s B;have E:∀z∈B.flatMap (gP f s),(z.2.length:Int)=s/\Wd z.2:=λz d=>by
  obtain⟨r,W,d⟩:=List.mem_flatMap.mp d;obtain⟨_,g2,J⟩:=O3 d;have fd:=b.fd r W;exact⟨J,fd.2 (f,z.2) ((Qp (RN fd)).mp g2)⟩
 have D:((B.flatMap (gP f s)).map (·.1)).Nodup:=b.nd.sublist sub;have pl:=sub.length_le;rw[zi,zi]at pl;unfold eZ dF;dsimp only;unfold gq gn;dsimp only;unfold jk jj;dsimp only;rw[t1];generalize B.flatMap (gP f s)=P at *
 unfold ji jh;dsimp only;have fa:=Gz (step:=λ(j:O aC) (q2:aC)=>dj f ("12abc":AJ) j q2) (P:=λ(j:O aC) (q2:aC)=>Z (dw f ("12abc":AJ) j q2)) (λq=>[(q.1,[(f,wN (Ap q.2 0).2)])]) (P.map λz=>(z.1,[(f,z.2)])) (λj q _=>S) λj q w X=>by
  obtain⟨z,d,rfl⟩:=ae.mp w;obtain⟨m1,m2⟩:=E z d;rw[mQ,zi,zi]at X;have a0:Ap [(f,z.2)] (0:Int)=(f,z.2):=Fo (k:=0) rfl;have lc:(BD z.2).length<=3:=by rw[Tv];omega
  have c1:∀v∈BD z.2,∃c∈SG,v=⟨#[c]⟩:=λv o=>by
   rw[M6]at o;obtain⟨c,l,rfl⟩:=ae.mp o;exact⟨c,m2 c l,rfl⟩
  show dw f ("12abc":AJ) j (z.1,[(f,z.2)]);unfold dw;dsimp only;rw[a0];dsimp only;refine⟨⟨⟨⟨B7 () (by show(0:Int)<1;decide),by omega⟩,λv o=>?_⟩,?_⟩,mD ()⟩
  ·obtain⟨c,l,rfl⟩:=c1 v o;exact(GL c l).2
  ·rw[ME _ λv _=>u5 _ _,zi,show("":AJ).length=0 from by decide +kernel];omega
 rw[mQ,z4]at fa;have e2:(P.map ((λq:aC=>(q.1,[(f,wN (Ap q.2 0).2)])) ∘ λz=>(z.1,[(f,z.2)])))=P.map λz=>(z.1,[(f,wN z.2)]):=qc λz _=>by
  show(z.1,[(f,wN (Ap [(f,z.2)] (0:Int)).2)])=_;rw[show Ap [(f,z.2)] (0:Int)=(f,z.2) from Fo (k:=0) rfl]
 rw[e2]at fa;unfold jg jf;dsimp only;rw[fa.2];have en:∀t:AJ->AJ,(P.map λz=>(z.1,[(f,t z.2)])).map (λvm:aC=>vm.1)=P.map (·.1):=λt=>by rw[z4];rfl
 unfold je jd;dsimp only;rw[List.map_id',en λz=>z];have m:∀n∈N.filter λg:AJ=>decide (g∈P.map (·.1)),n∈P.map (·.1):=λn i=>Q4 (ah.mp i).2;have Ml:(N.filter λg:AJ=>decide (g∈P.map (·.1))).length<=N.length:=kG _ _;change ∀n∈N.filter (λg:AJ=>decide (g∈P.map λz=>z.1)),_ at m;generalize N.filter (λg:AJ=>decide (g∈P.map λz=>z.1))=M at *
 have C:∀(t:AJ->AJ) (h:AJ),h∈lH->eG (P.map λz=>(z.1,[(f,t z.2)])) [(f,h)] M/\bN (P.map λz=>(z.1,[(f,t z.2)])) [(f,h)] M=if(M.map λn=>(n,t (look P n)))=[]then[]else[lJ (M.map λn=>(n,t (look P n))) (f,h)]:=λt h I=>by
  have A:∀n∈M,n∈(P.map λz=>(z.1,[(f,t z.2)])).map (·.1):=λn i=>by
   have:=m n i;rw[z4];exact this
  obtain⟨vd,G⟩:=uc (P.map λz=>(z.1,[(f,t z.2)])) [(f,h)] M A () (by show 1<=100000;decide) λq w=>by rw[ag.mp w];exact I
  rw[ud (λn i=>(jD (A n i)).1),XJ,X6 D f t m]at G;exact⟨vd,G⟩
 obtain⟨K,l2⟩:=C (λz=>z) "least" (by decide +kernel);obtain⟨g1,g2⟩:=C wN "greatest" (by decide +kernel);unfold jc iZ;dsimp only;rw[l2];unfold iY iW;dsimp only;rw[g2];have len:∀(P:O (AJ×AJ)) (q:AJ×AJ),(if P=[]then[]else[lJ P q]).length<=100000:=λP q=>by
  split
  ·exact Z3 _
  ·exact(by decide:1<=100000)
 refine⟨⟨d1,fa.1,⟨by omega,λn _=>by rw[zi];omega⟩,K,g1,len _ _,len _ _⟩,?_⟩;unfold iV;refine ZT ?_;by_cases e:M=[]
 ·rw[e];rfl
 ·have u:∀t:AJ->AJ,¬ (M.map λn=>(n,t (look P n)))=[]:=λt z=>e (aI.mp z);rw[zS (u _),zS (u λz=>z)];have hK:Oa wN ((M.map λn=>(n,look P n)).map (·.2)):=λa p c l q=>by
   have F:∀a∈(M.map λn=>(n,look P n)).map (·.2),(a.length:Int)=s/\Wd a:=λa p=>by
    obtain⟨y,hy,rfl⟩:=ae.mp p;obtain⟨n,i,rfl⟩:=ae.mp hy;obtain⟨z,d,rfl⟩:=ae.mp (m n i);show((look P z.1).length:Int)=s/\Wd (look P z.1);rw[(KN D d).2];exact E z d
   have w1:=F a p;have H:=F c l;exact SD w1.2 H.2 () q
  have:=Qt hK (u λz=>z) f;rw[z4]at this;show[_]=[_];exact congrArg (λx=>[x]) this.symm
end
open S1 S6
theorem Uj(p:AJ->O (AJ×AJ))(vo:O (AJ×AJ)):lM p vo.reverse=(lM p vo).reverse:=by
 unfold lM;rw[di,kH]
theorem RV{B:O bH}(b:Bk B)(bl:B.length<=14)(x:Int):Av B (B.map λc:bH=>c.1) ej x/\pY B (B.map λc:bH=>c.1) ej x=.nx ej:=by
 obtain⟨A,h,g⟩:=KC x 20 () ();have h:(bw x 20).length=20:=h;generalize e3:bw x 20=xs at *
 obtain⟨C,p,d⟩:=Ue xs () g;have l:=(N8 xs () g).2;have cl:(Bn xs (Z 8) U).length=12:=by
  have:=WL (xs:=xs) (k:=8) ();rw[show((8:Nat):Int)=8 from rfl]at this;rw[this,QP,h]
 obtain⟨E,v,e,a⟩:=XH (B.map λc:bH=>c.1) (Bn xs (Z 8) U) (by rw[zi];omega) b.nd () λz w=>g z (Z0 w);generalize eN:ig (B.map λc:bH=>c.1) (Bn xs (Z 8) U)=N at *
 generalize ev:dX xs=vn at *
 have l:∀q∈vn,q.1∈FV:=λq i=>l _ (ZN (f:=λq:AJ×AJ=>q.1) i);have y:=pL e a;rw[zi]at y;obtain⟨a1,a2⟩:=GC b bl v e a d p;obtain⟨c1,c2⟩:=Dj b e a d l p;have u:In xs.length 7:=B7 () ();have G:=oh (Ap xs 7 / 4) (m:=3) ();obtain⟨g1,g2⟩:=GF b v e a (Ap [("day":AJ),("name":AJ),("names":AJ),("p":AJ)] (Ap xs 7%4)) (s:=1+Ap xs 7 / 4%3) () ();obtain⟨F,o⟩:=uc B vn N a () () d;rw[ud λn j=>(jD (a n j)).1]at o;obtain⟨D,t⟩:=uc B vn.reverse N a () (by rw[kc];omega) λq i=>d q (am.mp i);rw[ud λn j=>(jD (a n j)).1,Uj]at t;have no:((!true)||(!true))=false:=rfl;constructor
 ·refine⟨A,?_⟩;dsimp only;rw[e3,ev,eN,a2,c2,g2];exact⟨⟨C,E⟩,⟨a1,λ_=>c1⟩,λ_=>⟨⟨⟨⟨u,u0 () ()⟩,u⟩,g1⟩,λ_=>⟨D,F⟩⟩⟩
 ·unfold pY;dsimp only;rw[e3,ev,eN,a2,c2,g2,no,zS (),zS (),t,o,ZT rfl];rfl
theorem X7:∀a:O Int,a.length<=63->Rw a/\N7 a=true:=λa h=>by
 obtain⟨b1,b2,i,c⟩:=Sk a 14 () () h;obtain⟨f,g⟩:=Mv (step:=λ(d:Unit) (b:Int)=>(pY (cV a 14) ((cV a 14).map λe:bH=>e.1) d b:wX Unit Bool)) (P:=λd b=>Z (Av (cV a 14) ((cV a 14).map λe:bH=>e.1) d b)) ([(bG a 16)]++Bn a (Z 17) (Z 26)) λx _=>⟨(RV b2 c x).1,.inl (RV b2 c x).2⟩;have cl:=Z1 a (Z 17) (Z 26);constructor
 ·refine⟨b1,zD c (),⟨⟨⟨Ql a 16 () (),mD (by show 1+_<=_;omega)⟩,g⟩,?_⟩⟩;rw[f];trivial
 ·unfold N7;dsimp only;unfold Gv Gu;dsimp only;rw[f];rfl
theorem H1:∀a:O Int,a.length<=63->F_law [.z (.lst (a.map .int))]=Z (.z (.bl true)):=(GS X7).1
theorem H2:∀a:O Int,a.length<=63->F_law [.l (a.map .int)]=Z (.z (.bl true)):=(GS X7).2
end G38
end
open PySem PySem.W PyProof.Rows
namespace PySem.W.Fast
def tw17758575850117089849:=0
def tw11135057407391278797:=0
def tw11877486953547370411:=0
def tw4273568054312898225:=0
def tw1256347809915084483:=0
def tw8155164086901589007:=0
def tw3302832307678185881:=0
def tw5548625042586398889:=0
def tw5629492841653707070:=0
def tw8338745356482252735:=0
def tw4314421637005162331:=0
def tw15544108926259446600:=0
def tw11535162978252906981:=0
def tw4582701949110765128:=0
def tw1402514227724330976:=0
def tw17606635482134691226:=0
def tw9959792856592975820:=0
def tw6086861710534253279:=0
def tw11723517756207494895:=0
def tw12293718749935154046:=0
def tw15892604080670829568:=0
def tw17805013308404728858:=0
def tw15273978025229115586:=0
def tw4515448007663263201:=0
def tw4575561409860356162:=0
def tw13748445110127186742:=0
def tw2694758170265796248:=0
def tw6598264229603988982:=0
def tw2354253937601980893:=0
def tw8729790180855676461:=0
def tw8095252927124625790:=0
def tw14343479725375395381:=0
def tw7721200832455800602:=0
def tw11466986850362349701:=0
def tw14102847460121005840:=0
def tw8234469463307205656:=0
def tw12968370570337029748:=0
def tw4422284512635817835:=0
def tw8889364844275953681:=0
def tw16768345440265524825:=0
def tw17442836972889161402:=0
def tw6002621980321991946:=0
def tw11156715426146191471:=0
def tw14469743819774309356:=0
def tw10999837315184512331:=0
def tw12407674134508448266:=0
def tw10646037477245173184:=0
def tw17241090437447688267:=0
def tw8136569005785596652:=0
def tw18150009620872604742:=0
def tw7264978369497174219:=0
def tw1650994768905573734:=0
def tw4445006545427297883:=0
def tw12174127234037403673:=0
def tw8655468496854271594:=0
def tw13489368344680336911:=0
def tw18235002525826921055:=0
def tw17637427501691692301:=0
def tw5789999511279315931:=0
def tw2132329034628341229:=0
end PySem.W.Fast
set_option maxRecDepth 100000 in
set_option maxHeartbeats 0 in
theorem PySem.Challenge.cw_onefolk_k38_whole_views_turned_about_holds : PySem.Challenge.rw_onefolk_k38_whole_views_turned_about.Holds := by
 w_on;refine PySem.W.holds_law (by decide +kernel) λsaid=>?_
 k_head;(case hw=>w_witness2)
 k_fill
 refine P1.Do (l:=PySem.Challenge.rw_onefolk_k38_whole_views_turned_about) (T:=G38.T) (k:=6) (x := "_law_script") (st:=G38.s_law) (F_law:=G38.F_law) (λt=>t.x_law) ⟨rfl,by decide,by decide⟩ rfl (λw mg base t=>G38.D3 t) rfl rfl G38.H1 G38.H2 (λ_ _ _ _ _ _ _=>rfl) (λw h Y=>PySem.W.km_in_of Y) (λw h _ _ _ _ X T=>⟨_,P1.Cb (by kernel_rfl) X T⟩) ?F
 case F=>
  intro w mg h KX G
  refine' ⟨PySem.W.mg_of KX G _,P1.nU KX G _ _ _ _,P1.nU KX G _ _ _ _,P1.nU KX G _ _ _ _,P1.nU KX G _ _ _ _,P1.nU KX G _ _ _ _,P1.nU KX G _ _ _ _,P1.nU KX G _ _ _ _,P1.nU KX G _ _ _ _,P1.nU KX G _ _ _ _,P1.nU KX G _ _ _ _,P1.nU KX G _ _ _ _,P1.nU KX G _ _ _ _,P1.nU KX G _ _ _ _,P1.nU KX G _ _ _ _,P1.nU KX G _ _ _ _,P1.nU KX G _ _ _ _,P1.nU KX G _ _ _ _,P1.nU KX G _ _ _ _,P1.nU KX G _ _ _ _,P1.nU KX G _ _ _ _,P1.nU KX G _ _ _ _,P1.nU KX G _ _ _ _,P1.nU KX G _ _ _ _,P1.nU KX G _ _ _ _,P1.nU KX G _ _ _ _,qo KX G _,qo KX G _,qo KX G _,qo KX G _,qo KX G _,qo KX G _,qo KX G _,qo KX G _,qo KX G _,_,_,_⟩
  all_goals try (show _=_;k_is)
  all_goals try kernel_rfl
  all_goals (show _=true;kernel_rfl)
