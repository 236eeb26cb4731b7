import PyProof.Rows.All
import Wide.All
import OpenK.AllK
import Wide.FinOn
import Lean
import PySem.Challenge.RW_onefolk_k76_whole_rules_and_rules
open List renaming length_map->zd,size_toArray->zk,mem_cons_of_mem->zr,mem_cons_self->zt,map_cons->zv,length_append->zC,getElem?_eq_getElem->z5,map_map->ZE,length_cons->ZH,map_append->ZI,length_filter_le->ZN,take_of_length_le->ZU,all_eq_true->Z3,append_assoc->qa,getElem?_append_left->qh,length_take->qo,take_append_drop->qr,mem_append_right->qv,filter_filter->qB,getElem?_map->q5,mergeSort_perm->Qr,zip_cons_cons->QE,map_nil->QI,eq_nil_of_length_eq_zero->QN,flatMap_cons->QO,pairwise_mergeSort->QP,getElem?_append_right->QY,rel_of_pairwise_cons->Q1,append_nil->Q2,getElem_of_mem->Q4,getElem_map->jb,filter_cons->jn,any_eq_true->js,foldl_cons->jS,lookup_cons_self->JA,filter_congr->JI,length_drop->kb,mem_map_of_mem->kc,getElem?_replicate->km,take_succ_eq_append_getElem->kq,not_mem_nil->kB,getElem_mem->kC,getElem_inj->kD,mem_of_getElem?->kK,of_mem_zip->kM,nil_append->kP,filter_map->kQ,map_congr_left->kU,lt_irrefl->k9,take_sublist->Kn,getElem_take->Kt,getElem_drop->Kx,mem_cons->KG,getElem?_cons_succ->KS,replicate->aa,mem_map->ae,mem_singleton->af,getElem?_eq_some_iff->ag,mem_iff_getElem->ah,pairwise_cons->am,range->ap,pairwise_append->av,pairwise_map->aw,mem_filter->ax,pairwise_iff_getElem->ay,mem_append->az,mem_range->aI,length_pos_iff->aT,filter_eq_self->ba,nodup_cons->bb,range_succ_eq_map->be,map->bg,contains_iff_mem->bi,mem_of_mem_drop->bo,eq_nil_iff_forall_not_mem->bp,take_append_of_le_length->bq,toList_toArray->bu,zip_nil_right->ca,getD_eq_getElem?_getD->cb,reverse_perm->ck,drop_eq_getElem_cons->cm,extract_eq_take_drop->cr,getElem?_take_of_lt->cw,lookup_cons->cy,all_map->cz,map_id'->da,filter_append_perm->dc,length_nil->de,find?_cons->df,cons->di,getElem?_set_self->dl,drop_eq_nil_of_le->dm,zipWith_map_right->dq,filter_eq_nil_iff->dr,length_singleton->dt,perm_cons->du,countP_mono_left->dv,pairwise_reverse->dy,getElem?_eq_none->dz,perm_append_comm->dA,getElem?_set_ne->dC,mem_of_mem_take->dQ,all_cons->dV,replicate_succ->eh,filterMap_cons->ei,length_reverse->eu,filter_sublist->ez,mem_filterMap->eA,any_map->eF,filter_append->eK,getElem?_set->eM,mapM_toArray->eR,drop_sublist->eW,flatten_cons->eX,zip_nil_left->e7,any_eq_false->e8,length->e9,filter->fm,le_antisymm->ft,zipIdx_cons->fE,countP_cons->fF,map_fst_zip->fH,map_zipWith->fN,cons_ne_nil->fR,getElem_zip->fT,mem_flatMap->f4
open PySem.Heap renaming get?_push_of_some->ze,get?_push_size->zw,lt_size->Zl,size_push->JP,get?_update_ne->ew,get?_push_ne->eP,size_update->fA
open Nat renaming le_refl->zi,le_trans->zl,le_of_ble_eq_true->zz,ne_of_lt->zS,zero_le->ZO,le_of_lt->ZY,lt_of_lt_of_le->qk,zero_add->JY,le_succ->kH,succ_mul->k7,ne_of_gt->k8,succ_le_succ->KO,le_of_eq->bj,mul_le_mul->bI,lt_of_le_of_lt->bS,lt_succ_of_lt->cf,lt_of_succ_lt->ci,le_of_not_lt->cx,min_self->cE,add_zero->cK,add_sub_cancel_left->db,min_eq_left->dk,not_lt->dE,mul_le_mul_right->dS,lt_trans->eC,le_succ_of_le->eQ
open Bool renaming false_eq_true->zI,and_eq_true->Zs,not_eq_true'->qc,false_ne_true->qS,eq_iff_iff->QR,or_eq_true->Q3,and_comm->ke,and_true->kG,false_and->bv,and_false->bz,not_false->bE,decide_and->dg,false_or->ef,true_and->eg
open Array renaming length_toList->ZA,getElem_toList->JS,size_append->ko,getElem?_toList->ky,perm_iff_toList_perm->ai,toList_append->br,append_assoc->bX,toList_inj->cF,toList_map->cG,toList_extract->dL,mem_toList_iff->dP,forIn_toList->eJ,getElem_mem->eU
open Or renaming inr->jI,inl->kA
open Int renaming toNat_natCast->JJ,toNat_of_nonneg->kX,zero_add->cY,emod_lt_of_pos->eG,le_refl->fg
open Prod renaming ext->KM
open Unit renaming unit->gd
local macro_rules|`(())=>`(by first|omega|decide)
open Option renaming isSome_iff_exists->aE,map_eq_some_iff->bc,map_some->bn,isSome_some->bP,isNone_iff_eq_none->cq,getD_some->cS,getD_none->fq,bind_some->fz
open PySem.SetTable renaming leap->aS,bits->ce,runEnd->f6
open Option renaming some->Z,none->O
abbrev Y:=List
abbrev S:=Option
theorem J{α:Sort u}{a:α}:a=a:=rfl
open PySem renaming Value->A0,Addr->A1,Shared->A2,Program->A3,World->A4,Around->A5,Heap->A6,wpAny->A7,model->A8,starEach->A9,sizeLine->AA,Stmt->AB,Keyword->AC,backTo->AD,Obj->AE,codeAny->AF,compareOp->AG,bootBuiltins->AH,Paired->AI,Str->AJ
abbrev f7(x:AJ):=(x==("__debug__":AJ))=false
open PyProof.Rows renaming envOfC->AK,wpS_bind->AL,arrOf->AM
open PySem.W (keepIn cellsFrom_some fnOf codeIn nsIn mg_of kla_obj envX kla_fn)
set_option maxRecDepth 100000
set_option maxHeartbeats 4000000
set_option linter.all false
set_option Elab.async false
open PySem PySem.Spec PyProof.Rows
variable{w:A4}{i:Nat}{t:SortSt}{x:AJ}{a:A1}{prog:A3}{κ:Type}{o:Expr}{h:A6}{items:Array A0}{u:A0}{P:A3}{e:Expr}{k:Nat}{mg:AJ->S A0}{base:A6}{l:PySem.W.OpenLaw}{env:Env}{m:Nat}{AN:Y (A1×AE)}{s:A2}{j:Nat}{M:Model}{A:A5}{Q:S Nat->SortSt->Prop}{us:Y A0}{D:A1}{es:Y Expr}{st:AB}{α:Type}{pos:Pos}{xs:Array Keyed}{c:Expr}{n:Nat}{tg:Expr}{y:AJ}{fp:Y A1}{it:A1}{tn:Nat->A6->Prop}{iter:Expr}{body:Y AB}{C:A1}{op:CmpOp}{AQ:Y A0}{name:AJ}{tpos:Pos}{fd:FuncData}{apos:Pos}{qual:AJ}{scope:Scope}{params:Arguments}{osl sl:Array (S A0)}{p2 cpos:Pos}{XP:(AJ->S A0)->A6->Prop}{YP:A4->A6->Prop}{β:Type}{cl:Y (AJ×A1)}{is:Y Nat}{ifs:Y Expr}{elt tgt:Expr}{el:A1->Env->Sem Unit}{B:A5->Bool->Prop}{RR:A0->A1->Result->A2->Prop}{rk:A0->Nat}{kd:SortKind}{U:Y Keyed}{elts:Y Expr}{x1:Nat}{γ δ τ:Type}{os:OsState}{bmB:Y A0}{newId initId:String}
abbrev At:=Y PySem.Str
abbrev BB:=PySem.Value->PySem.Shared->Prop
abbrev B5:=PySem.W.Frag
abbrev BC:=Y Int
abbrev zb:=@wpAny_bind
abbrev zg:=@wpAny_pure
abbrev zh:=@if_pos
abbrev zo:=@if_neg
abbrev zD:=@decide_eq_false
abbrev z4:=@decide_eq_true
abbrev Zp:=@decide_eq_true_eq
abbrev ZT:=@wpAny_newObj_type
abbrev ZZ:=@wpAny_mono
abbrev qf:=@if_false
abbrev qi:=@PySem.W.mg_none_of
abbrev qA:=@decide_eq_false_iff_not
abbrev qV:=@wpAny_truthy_bool
abbrev Qb:=@PySem.mem_of_lookup
abbrev QA:=@if_true
abbrev QQ:=@wpAny_rule
abbrev QU:=@wpAny_holding
abbrev ja:=@Heap.SameBut.update
abbrev jv:=@wpAny_callSpecial?_slot
abbrev Jn:=@wpAny_standAt
abbrev JE:=@of_decide_eq_true
abbrev JO:=@wpAny_field
abbrev JU:=@wpAny_typeOf
abbrev ka:=@wpAny_call_entry
abbrev kg:=@Option.some.inj
abbrev ki:=@wpAny_Call_Name_kw
abbrev kl:=@wpAny_getItem_str_slice
abbrev kn:=@List.Pairwise.imp
abbrev ku:=@F.slot_enumerate_next
abbrev kF:=@Ne.symm
abbrev kL:=@wpAny_passesOwn
abbrev kR:=@Array.Perm.refl
abbrev Kb:=@List.Perm.refl
abbrev Ki:=@wpAny_pyIter_tuple
abbrev Kj:=@wpAny_pyIter_list
abbrev Kk:=@wpAny_pyIter_enum
abbrev KA:=@wpAny_newList
abbrev KB:=@wpAny_attempt
abbrev KF:=@Prod.mk.injEq
abbrev KI:=@wpAny_comprehension_free
abbrev KL:=@PySem.F.args_tuple_add_2
abbrev KP:=@PySem.F.entry_tuple_add
variable{ps:At}{K:B5}{N:At}{E:BB}{ts:At}
namespace L2
abbrev AY:=Sum Int AJ
def kJ:AY->A0->Bool
 |.inl k,v=>Value.isInt k v
 |.inr x,v=>Value.isStrOf x v
def Ll(w:A4):AY->Int
 |.inl k=>hashInt k
 |.inr x=>hashStr w x
theorem cM:∀{k:AY} {v:A0},kJ k v=true->(∃i t,k=Sum.inl i/\v=Value.int i t)\/(∃x t,k=Sum.inr x/\v=Value.str x t)
 |.inl i,v,h=>by
  obtain⟨t,e⟩:=Value.isInt_shape (k:=i) (v:=v) h;exact .inl ⟨i,t,rfl,e⟩
 |.inr x,v,h=>by
  obtain⟨t,e⟩:=Value.isStrOf_shape (x:=x) (v:=v) h;exact .inr ⟨x,t,rfl,e⟩
theorem Mu(i:Int)(t:Tok):kJ (.inl i) (.int i t)=true:=by simp[kJ,Value.isInt]
theorem Mv(x:AJ)(t:Tok):kJ (.inr x) (.str x t)=true:=by simp[kJ,Value.isStrOf]
theorem Xm(a b:Int):decide ((Sum.inl a:AY)=Sum.inl b)=(a==b):=by
 by_cases e:a=b
 ·subst e;simp
 ·have h:¬ (Sum.inl a:AY)=Sum.inl b:=λq=>e (Sum.inl.inj q);rw[zD h];exact(beq_eq_false_iff_ne.mpr e).symm
theorem Xn(a b:AJ):decide ((Sum.inr a:AY)=Sum.inr b)=decide (a=b):=by
 by_cases e:a=b
 ·subst e;simp
 ·have h:¬ (Sum.inr a:AY)=Sum.inr b:=λq=>e (Sum.inr.inj q);rw[zD h,zD e]
theorem Xo(a:Int)(b:AJ):decide ((Sum.inl a:AY)=Sum.inr b)=false:=zD (λq=>nomatch q)
theorem Xp(a:AJ)(b:Int):decide ((Sum.inr a:AY)=Sum.inl b)=false:=zD (λq=>nomatch q)
def dZ(prog:A3)(w:A4):PySem.KeyKind prog w AY where
 is:=kJ
 hash:=Ll w
 inj:=λv a b f d=>by
  rcases cM f with⟨i,t,rfl,rfl⟩|⟨x,t,rfl,rfl⟩
  ·rcases cM d with⟨j,u,rfl,e⟩|⟨y,u,rfl,e⟩
   ·injection e with e1 _;rw[e1]
   ·exact nomatch e
  ·rcases cM d with⟨j,u,rfl,e⟩|⟨y,u,rfl,e⟩
   ·exact nomatch e
   ·injection e with e1 _;rw[e1]
 byValue:=λk v h=>by
  rcases cM h with⟨i,t,rfl,rfl⟩|⟨x,t,rfl,rfl⟩<;>rfl
 pyHash:=λc h=>by
  rcases cM c with⟨i,t,rfl,rfl⟩|⟨x,t,rfl,rfl⟩
  ·exact wpAny_pyHash_int h
  ·exact wpAny_pyHash_str h
 eqBool:=λg c h=>by
  rcases cM g with⟨i,t,rfl,rfl⟩|⟨x,t,rfl,rfl⟩
  ·rcases cM c with⟨j,u,rfl,rfl⟩|⟨y,u,rfl,rfl⟩
   ·rw[Xm]at h;exact wpAny_eqBool_int h
   ·rw[Xo]at h;exact SeqAt.EqAt.int_str i t y u _ _ _ _ h
  ·rcases cM c with⟨j,u,rfl,rfl⟩|⟨y,u,rfl,rfl⟩
   ·rw[Xp]at h;exact SeqAt.EqAt.str_int x t j u _ _ _ _ h
   ·rw[Xn]at h;exact wpAny_eqBool_str h
 «strs»:=λk x t v h=>by
  rcases cM h with⟨i,u,rfl,e⟩|⟨y,u,rfl,e⟩
  ·exact nomatch e
  ·injection e with e1 _;subst e1;cases v<;>rfl
theorem FJ(prog:A3)(w:A4)(i:Int)(t:Tok):(dZ prog w).is (.inl i) (.int i t)=true:=Mu i t
theorem FN(prog:A3)(w:A4)(x:AJ)(t:Tok):(dZ prog w).is (.inr x) (.str x t)=true:=Mv x t
end L2
namespace L2
inductive V where
 |non|bl (b:Bool)|int (i:Int)|str (x:Str)|byt (b:Array UInt8)|flt (b:UInt64)|ref (a:Addr)|ty (n:String)
 deriving DecidableEq
def B0:V->A0->Prop
 |.non,u=>u=Value.none
 |.bl b,u=>u=Value.bool b
 |.int i,u=>∃t,u=Value.int i t
 |.str x,u=>∃t,u=Value.str x t
 |.byt b,u=>∃t,u=Value.bytes b t
 |.flt b,u=>∃t,u=Value.float b t
 |.ref a,u=>u=Value.ref a
 |.ty n,u=>u=Value.type n
abbrev AX:Y V->Y A0->Prop:=AI B0
def Mw:S V->S A0->Prop
 |some v,Z u=>B0 v u
 |none,O=>True
 |_,_=>False
def KV:Y (κ×V)->Y (κ×A0)->Prop:=AI λ(p:κ×V) (q:κ×A0)=>p.1=q.1/\B0 p.2 q.2
def kV:AY->V
 |.inl i=>.int i
 |.inr x=>.str x
inductive HO where
 |lst (xs:List V)
 |tup (xs:List V)
 |dK (AO:List (AY×V))|dT (AO:List (List AY×V))
 |set (S:Int->Bool) (n:Nat)
 |ins (C dx:Addr) (fs:List (Str×V))
 |own (x:Addr)
 |xd (fs:List (Str×V))
 |met (f x:Addr)
 |rng (lo hi:Int)
 |m5 (o:Obj) (u:HO)
 |Mx (ps:Array Value)
 |ext (φ:Heap->Prop)
abbrev Hp:=A1->S HO
def B8(H:Hp)(a:A1)(o:HO):Hp:=λb=>if b=a then Z o else H b
theorem bH{H:Hp}{o:HO}:B8 H a o a=Z o:=by unfold B8;rw[zh rfl]
theorem bh{H:Hp}{b:A1}{o:HO}(h:b≠a):B8 H a o b=H b:=by unfold B8;rw[zo h]
def iV(h:A6)(a:A1)(items:Array A0):Prop:=∃o,h.get? a=Z o/\o.cls=.type "tuple" ∧ (∃n,o.data=.seq items n)/\o.dict=O
theorem iV.new(h:A6)(items:Array A0):iV (h.push { cls:=.type "tuple",data:=.seq items }) h.objs.size items:=⟨_,zw _ rfl,rfl,⟨_,rfl⟩,rfl⟩
theorem wD{H:Hp}{b:A1}{o u:HO}(h:H a=Z o)(h':H b=Z u)(d:o≠u):a≠b:=by
 intro e;subst e;rw[h]at h';exact d (kg h')
theorem gk{H:Hp}{b:A1}{o:HO}(h:H a=Z o)(h':H b=O):a≠b:=by
 intro e;subst e;rw[h]at h';cases h'
def tq(ps:Array A0):AJ:=match ps[0]? with
 |some (Value.str q _)=>q
 |_ => ""
def tr(ps:Array A0):Array A0:=ps.extract 1 ps.size
def Tp:At:=["most_word","longest_word","ground_of","least_for","nearest_pair"]
def FG(K:B5)(P:A1)(q:AJ):Prop:=∃c o vs x t,K.lookup c=Z o/\o.data=.fields vs/\vs[1]?=Z (.str x t)/\x∈Tp/\vs[11]?=Z (.ref P)/\q=x++(".<locals>.<lambda>":AJ)
def Co(K:B5)(H:Hp):Prop:=∀P q,FG K P q->∃ps,H P=Z (.Mx ps)/\tq ps=q/\0<ps.size
section
variable(P:A3)(w:A4)
def m7(H:Hp)(h:A6)(a:A1):HO->Prop
 |.lst xs=>xs.length<=AA/\∃(AQ:Y A0) (n:Nat),AX xs AQ/\h.get? a=Z { cls:=.type "list",data:=.seq AQ.toArray n }
 |.tup xs=>xs.length<=AA/\∃AQ:Y A0,AX xs AQ/\iV h a AQ.toArray
 |.dK AO=>AO.length<=AA/\(a==sysModules)=false/\∃vs,KV AO vs/\h.DictOf (dZ P w) a vs
 |.dT AO=>AO.length<=AA/\(a==sysModules)=false/\∃xs:Y (Y AY×A1×A0),
   AI (λ(p:Y AY×V) (q:Y AY×A1×A0)=>p.1=q.1/\H q.2.1=Z (.tup (p.1.map kV))/\B0 p.2 q.2.2) AO xs ∧
   ∃o es ep,h.get? a=Z o/\o.ExactDict/\o.data=.dict es ep/\es.toList=xs.map (entryOfKey (tupleKind (dZ P w)))/\(xs.map (·.1)).Nodup
 |.set S n=>h.SetOf (intKind P w) a S n
 |.ins C dx fs=>H dx=Z (.own a)/\fs.length<=1000/\dx≠a/\h.get? a=Z (PySem.W.instObj C dx) ∧
   ∃mA,h.Ns1 dx mA/\(∀f,Mw (fs.lookup f) (mA f))/\PySem.Within mA (fs.map (·.1))
 |.own _=>∃o,h.get? a=Z o
 |.xd fs=>∃mA,h.Ns1 a mA/\∀f,Mw (fs.lookup f) (mA f)
 |.rng lo hi=>∃t u v,h.get? a=Z { cls:=.type "range",data:=.fields #[.int lo t,.int hi u,.int 1 v] }
 |.m5 o u=>h.get? a=Z o/\m7 H h a u
 |.Mx ps=>∃d,h.get? a=Z { cls:=.none,data:=.fields (tr ps++d) }/\TriplesOk (tr ps++d).toList ∧
   ∀pos g,codeAmong pos (tr ps++d).toList=Z g->∃c e vs t,g=.ref c/\H c=Z (.m5 e (.ext λ_=>True))/\e.data=.fields vs/\vs[1]?=Z (.str (tq ps) t)
 |.met f x=>h.get? a=Z (PySem.W.methodObj (.ref f) (.ref x))
 |.ext b=>b h/\(∃o,h.get? a=Z o)/\∀h1 h2:A6,b h1->(∀o,h1.get? a=Z o->h2.get? a=Z o)->b h2
def Tf(H:Hp)(h:A6):Prop:=∀a o,H a=Z o->m7 P w H h a o
end
section
variable{H H':Hp}{h':A6}{o:HO}
end
def Rd(H:Hp)(a:A1)(u:HO):Prop:=H a=Z u\/∃o,H a=Z (.m5 o u)
section
variable{H:Hp}{h':A6}{x e:A1}{o':HO}
end
structure Un (fs ex:List Addr) (H H':Hp) (h h':Heap):Prop where
 keep:∀b o,h.get? b=some o->H b=none->b∉fs->b∉ex->h'.get? b=some o
 slot:∀b o,h.get? b=some o->H b=none->b∈fs->b∉ex->∃sl,h'.get? b=some { o with slots:=sl }
 free:∀b o,h.get? b=some o->H b=none->b∉ex->H' b=none
 there:∀b o,h.get? b=some o->b∉ex->∃o',h'.get? b=some o'
 tups:∀b xs,H b=some (.tup xs)->H' b=some (.tup xs)
 Mz:∀b o u,H b=some (.m5 o u)->H' b=some (.m5 o u)
 FP:∀b ps,H b=some (.Mx ps)->∃more,H' b=some (.Mx (ps++more))
section
variable{fs fs' ex ex':Y A1}{H H1 H2:Hp}{h1 h2 h':A6}{x e:A1}{o:HO}
theorem Un.kept(k:∀b u,h.get? b=Z u->h'.get? b=Z u):Un fs ex H H h h':=
 ⟨λb a q _ _ _=>k b a q,λb a q _ _ _=>⟨a.slots,k b a q⟩,λ_ _ _ n _=>n,λb a q _=>⟨a,k b a q⟩,λ_ _ q=>q,λ_ _ _ q=>q,λ_ ps q=>⟨#[],by rw[q];simp⟩⟩
end
def EA(h:A6)(H:Hp):Y A1:=(ap h.objs.size).filter λa=>(H a).isSome
def FQ(h:A6)(H:Hp):A6:=PySem.W.hideAll h (EA h H)
theorem MF(h:A6)(H:Hp):(FQ h H).objs.size=h.objs.size:=PySem.W.hideAll_size _ _
theorem Tq{H:Hp}{b:A1}{o:AE}(e:(FQ h H).get? b=Z o):h.get? b=Z o/\H b=O:=by
 have e':h.get? b=Z o:=PySem.W.of_hideAll (EA h H) e;refine⟨e',?_⟩;cases q:H b with
 |none=>rfl
 |some x=>
  have a:b∈EA h H:=ax.mpr ⟨aI.mpr (Zl e'),by simp[q]⟩;have z:(FQ h H).get? b=O:=PySem.W.hideAll_none (EA h H) a;rw[z]at e;cases e
def Tr(g h:A6)(L:A1):Y (A1×AE):=(ap h.objs.size).filterMap λa=>if a=L\/(g.get? a).isSome=true then O else(h.get? a).map λo=>(a,o)
def AS(g h:A6)(L d:A1):Y (A1×AE):=(Tr g h L).filter λp=>decide (p.1≠d)
end L2
namespace L2
structure Mod (K:B5) (mg:Str->Option Value) (base:Heap):Prop where
 kin:K.In base
 glob:base.Ns mainGlobals mg
 blt:∃mb,base.Ns builtinsNs mb/\∀x:Str,x ≠ "__name__" → mb x=bootBuiltins x
 nolimit:base.NoLimit
 bmain:∃bm ob,mg "__builtins__"=some (.ref bm)/\bm≠builtinsNs/\base.get? bm=some ob/\ob.cls=.type "module" ∧ ob.dict=some builtinsNs/\ob.data=.plain
structure Cx where
 prog:Program
 w:World
 K:B5
 mg:Str->Option Value
 base:Heap
 A:Around
 N:At
 s₀:Shared
 H₀:Hp
 env:Env
 outer:List Env
 stack:List Env
 ex:List Addr
 fn:Str->Bool
 calm:Bool
 pn:List (Addr×Obj)
 xe:BB
abbrev f8(X:Cx):=A8 X.prog X.w
def FX(l:Y Env):Y A1:=l.filterMap (·.frame)
def Tg(a:Scope)(x:AJ):Prop:=a.names.lookup x=Z .local\/a.names.lookup x=Z .cell\/a.names.lookup x=Z .free
def Cf(a:Scope)(x:AJ):Prop:=a.names.lookup x=Z .local\/a.names.lookup x=Z .cell
def EQ(env:Env)(h:A6)(m:AJ->S A0)(x:AJ)(u:A0):Prop:=
 (env.kindOf x=Z .local/\m x=Z u)\/((env.kindOf x=Z .cell\/env.kindOf x=Z .free)/\∃c,env.cells.lookup x=Z c/\h.IsCell c (Z u))
structure AU (X:Cx) (AN:List (Addr×Obj)) (σ:List (Option V)) (H:Hp) (s:Shared):Prop where
 ok:X.Ok
 os:s.os=X.s₀.os
 bare:AllBare s.gens
 base:Un X.fs X.ex X.H₀ H X.s₀.heap s.heap
 loc:∃m,s.heap.Ns X.env.locals m/\∀(i:Nat) (x:Str) (v:V),X.N[i]?=some x->σ[i]?=some (some v)->Tg X.env.scope x->∃u,B0 v u/\EQ X.env s.heap m x u
 cell:∀x c,X.env.cells.lookup x=some c->∃v,s.heap.IsCell c v
 free:H X.env.locals=none
 wF:∀x c,X.env.cells.lookup x=some c->H c=none
 pin:∀p∈X.pn++AN,s.heap.get? p.1=some p.2/\H p.1=none/\p.1≠X.env.locals/\p.1∉X.fs/\∀v,p.2.data≠.cell v
 hok:Tf X.prog X.w H s.heap
 len:σ.length=X.N.length
section
variable{X:Cx}{σ:Y (S V)}{H H':Hp}{h':A6}
theorem FT(c:N.Nodup)(a:N[i]?=Z x)(b:N[j]?=Z x):i=j:=by
 obtain⟨h1,e1⟩:=ag.mp a;obtain⟨h2,e2⟩:=ag.mp b;exact(kD c).mp (e1.trans e2.symm)
theorem MJ{v:V}{Q:Unit->A2->Prop}(I:AU X AN σ H s)(hN:X.N.Nodup)(hi:X.N[i]?=Z x)(hx:Cf X.env.scope x)(r:B0 v u)(h:∀s',AU X AN (σ.set i (Z v)) H s'->(∃a,Heap.SameBut a s.heap s'.heap/\(a=X.env.locals\/X.env.cells.lookup x=Z a))->Q gd s')(hf:X.fn x=true\/X.env.scope.names.lookup x=Z .local:=by first|exact .inl rfl|exact .inr rfl|assumption):A7 M A (storeName X.env x u) Q E s:=by
 obtain⟨m,D,W⟩:=id I.loc;have a9:(X.env.scope.kind==.class||(X.env.scope.kind==.module&&X.env.locals !=X.env.globals))=false:=by rw[I.ok.kind];rfl
 have a5:i<σ.length:=by rw[I.len];exact(ag.mp hi).1
 have U:=I.cne;have a2:∀{a:A1} {h':A6},(∃o,s.heap.get? a=Z o/\H a=O)->Heap.SameBut a s.heap h'->Tf X.prog X.w H h':=λ{a h'} ha f b ob e=>by
  obtain⟨_,_,a0⟩:=ha;refine(I.hok b ob e).stay (λc B g q=>(f.2 c ?_).trans q) (λ_ q=>q) (λ_ _ q=>q) λ_ _ _ q=>q;rintro rfl;rcases g with rfl|g
  ·rw[a0]at e;cases e
  ·rw[a0]at g;cases g
 rcases hx with hk|hk
 ·refine wpAny_storeName_local hk D (λh' a6 f=>?_) a9;obtain⟨oL,_,_,a7,_⟩:=id D;refine h _ ⟨I.ok,I.os,I.bare,⟨λb o e n t hx=>?_,λb o e n t hx=>?_,I.base.free,λb o e hx=>?_,I.base.tups,I.base.Mz,I.base.FP⟩,⟨_,a6,λj y L e1 e2 e3=>?_⟩,λy c e=>?_,I.free,I.wF,λp hp=>?_,a2 ⟨oL,a7,I.free⟩ f,by simpa using I.len⟩ ⟨_,f,.inl rfl⟩
  ·exact(f.2 b (zS (qk (Zl e) I.ok.above))).trans (I.base.keep b o e n t hx)
  ·obtain⟨sl,e1⟩:=I.base.slot b o e n t hx;exact⟨sl,(f.2 b (zS (qk (Zl e) I.ok.above))).trans e1⟩
  ·obtain⟨o',e1⟩:=I.base.there b o e hx;exact⟨o',(f.2 b (zS (qk (Zl e) I.ok.above))).trans e1⟩
  ·by_cases l:j=i
   ·subst l;rw[hi]at e1;cases e1;rw[dl a5]at e2;cases e2;exact⟨u,r,.inl ⟨hk,by simp⟩⟩
   ·rw[dC (kF l)]at e2;obtain⟨F,P,q⟩:=W j y L e1 e2 e3;refine⟨F,P,?_⟩;rcases q with⟨k,e⟩|⟨k,c,e,z⟩
    ·refine .inl ⟨k,?_⟩;have:y≠x:=λe=>l (FT hN e1 (e▸hi));simp[this,e]
    ·exact .inr ⟨k,c,e,z.sameBut f (U y c e)⟩
  ·obtain⟨B,z⟩:=I.cell y c e;exact⟨B,z.sameBut f (U y c e)⟩
  ·obtain⟨e,n,C,G,d⟩:=I.pin p hp;exact⟨(f.2 p.1 C).trans e,n,C,G,d⟩
 ·have K:X.fn x=true:=by
   rcases hf with z|z
   ·exact z
   ·rw[z]at hk;cases hk
  obtain⟨c,g⟩:=I.ok.has x (.inl hk);obtain⟨B,z⟩:=I.cell x c g;refine wpAny_storeName_cell I.ok.kind hk g z (λh' a4 f=>?_);obtain⟨oc,a3,a8⟩:=id z;refine h { s with heap:=h' } ⟨I.ok,I.os,I.bare,⟨λb o e n t hx=>?_,λb o e n t hx=>?_,I.base.free,λb o e hx=>?_,I.base.tups,I.base.Mz,I.base.FP⟩,⟨m,D.sameBut f (kF (U x c g)),λj y L e1 e2 e3=>?_⟩,λy c' e=>?_,I.free,I.wF,λp hp=>?_,a2 ⟨oc,a3,I.wF x c g⟩ f,by simpa using I.len⟩ ⟨c,f,.inr g⟩
  ·exact(f.2 b (zS (qk (Zl e) (I.ok.cab x c K g)))).trans (I.base.keep b o e n t hx)
  ·obtain⟨sl,e1⟩:=I.base.slot b o e n t hx;exact⟨sl,(f.2 b (zS (qk (Zl e) (I.ok.cab x c K g)))).trans e1⟩
  ·obtain⟨o',e1⟩:=I.base.there b o e hx;exact⟨o',(f.2 b (zS (qk (Zl e) (I.ok.cab x c K g)))).trans e1⟩
  ·by_cases l:j=i
   ·subst l;rw[hi]at e1;cases e1;rw[dl a5]at e2;cases e2;exact⟨u,r,.inr ⟨.inl hk,c,g,a4⟩⟩
   ·rw[dC (kF l)]at e2;obtain⟨F,P,q⟩:=W j y L e1 e2 e3;refine⟨F,P,?_⟩;rcases q with q|⟨k,c',e,z'⟩
    ·exact .inl q
    ·refine .inr ⟨k,c',e,z'.sameBut f ?_⟩;rintro rfl;exact l (FT hN e1 (I.ok.inj _ _ _ e g▸hi))
  ·by_cases a1:c'=c
   ·subst a1;exact⟨_,a4⟩
   ·obtain⟨w2,z2⟩:=I.cell y c' e;exact⟨w2,z2.sameBut f a1⟩
  ·obtain⟨e,n,C,G,d⟩:=I.pin p hp;refine⟨(f.2 p.1 ?_).trans e,n,C,G,d⟩;intro q;rw[q,a3]at e;have q':oc=p.2:=kg e;exact d B (by rw[<-q'];exact a8)
theorem tY{v:V}{Q:Unit->A2->Prop}(I:AU X AN σ H s)(c:X.N.Nodup)(hi:X.N[i]?=Z x)(hx:Cf X.env.scope x)(r:B0 v u)(h:∀s',AU X AN (σ.set i (Z v)) H s'->Q gd s')(b:X.fn x=true\/X.env.scope.names.lookup x=Z .local:=by first|exact .inl rfl|exact .inr rfl|assumption):A7 M A (storeName X.env x u) Q E s:=
 MJ I c hi hx r (λs' a _=>h s' a) b
end
abbrev XK:=A0->S A1->Hp->Prop
abbrev St:=Y (S V)
abbrev VK:=V->Hp->Prop
abbrev TE:=St->Hp->VK->Prop
abbrev TT:=St->Hp->(Bool->Hp->Prop)->Prop
abbrev TA:=St->Hp->(Y V->Hp->Prop)->Prop
structure C4 where
 nx:St->Hp->Prop
 rt:VK
 bk:St->Hp->Prop:=λ_ _=>False
 ct:St->Hp->Prop:=λ_ _=>False
abbrev TS:=C4->St->Hp->Prop
def EP(X:Cx)(AN:Y (A1×AE))(σ:St)(Q:VK)(u:A0)(s':A2):Prop:=∃v H',AU X AN σ H' s'/\B0 v u/\Q v H'
def TP(X:Cx)(AN:Y (A1×AE))(σ:St)(Q:Bool->Hp->Prop)(b:Bool)(s':A2):Prop:=∃H',AU X AN σ H' s'/\Q b H'
def AP(X:Cx)(AN:Y (A1×AE))(σ:St)(Q:Y V->Hp->Prop)(us:Y A0)(s':A2):Prop:=∃vs H',AU X AN σ H' s'/\AX vs us/\Q vs H'
def SP(X:Cx)(AN:Y (A1×AE))(D:C4)(f:Flow)(s':A2):Prop:=
 match f with
 |.next=>∃ σ' H',AU X AN σ' H' s'/\D.nx σ' H'
 |.brk=>∃ σ' H',AU X AN σ' H' s'/\D.bk σ' H'
 |.cont=>∃ σ' H',AU X AN σ' H' s'/\D.ct σ' H'
 |.ret u=>∃v σ' H',AU X AN σ' H' s'/\B0 v u/\D.rt v H'
def PE(X:Cx)(e:Expr)(t:TE):Prop:=
 ∀(AN:Y (A1×AE)) (s:A2) (σ:St) (H:Hp) (Q:VK),AU X AN σ H s->t σ H Q->A7 (f8 X) X.A (eval e X.env) (EP X AN σ Q) X.xe s
def PT(X:Cx)(e:Expr)(t:TT):Prop:=
 ∀(AN:Y (A1×AE)) (s:A2) (σ:St) (H:Hp) (Q:Bool->Hp->Prop),AU X AN σ H s->t σ H Q->A7 (f8 X) X.A (isTrue e X.env (eval e X.env)) (TP X AN σ Q) X.xe s
def PW(X:Cx)(e:Expr)(t:TT):Prop:=
 ∀(a:Sem A0) (AN:Y (A1×AE)) (s:A2) (σ:St) (H:Hp) (Q:Bool->Hp->Prop),AU X AN σ H s->t σ H Q->A7 (f8 X) X.A (isTrue e X.env a) (TP X AN σ Q) X.xe s
def PA(X:Cx)(es:Y Expr)(t:TA):Prop:=
 ∀(pos:Pos) (AN:Y (A1×AE)) (s:A2) (σ:St) (H:Hp) (Q:Y V->Hp->Prop),AU X AN σ H s->t σ H Q->A7 (f8 X) X.A (spliced (AD pos (A9 es X.env))) (AP X AN σ Q) X.xe s
def PS(X:Cx)(st:AB)(t:TS):Prop:=
 ∀(AN:Y (A1×AE)) (s:A2) (σ:St) (H:Hp) (D:C4),AU X AN σ H s->t D σ H->A7 (f8 X) X.A (exec st X.env) (SP X AN D) X.xe s
def Kg(X:Cx)(st:Y AB)(t:TS):Prop:=
 ∀(AN:Y (A1×AE)) (s:A2) (σ:St) (H:Hp) (D:C4),AU X AN σ H s->t D σ H->A7 (f8 X) X.A (execs st X.env) (SP X AN D) X.xe s
theorem gM{t:Sem α}{Q b:α->A2->Prop}(h:A7 M A t Q E s)(c:∀a s,Q a s->b a s):A7 M A t b E s:=ZZ h c λ_ _ x=>x
end L2
namespace L2
section
variable{X:Cx}
def Ff(i:Nat):TE:=λσ H Q=>∃v,σ[i]?=Z (Z v)/\Q v H
def tC(v:V):TE:=λ_ H Q=>Q v H
theorem yx(j:X.N[i]?=Z x)(g:Tg X.env.scope x)(b:f7 x:=by decide)(p:(x==("__classdict__":AJ))=false:=by decide):PE X (.Name x pos) (Ff i):=by
 intro AN s σ H Q I h;obtain⟨v,e,h⟩:=h;obtain⟨m,k,n⟩:=I.loc;obtain⟨u,r,l⟩:=n i x v j e g;have a:EP X AN σ Q u s:=⟨v,H,I,r,h⟩;rcases l with⟨hk,o⟩|⟨hk,c,f,d⟩
 ·exact wpAny_Name (wpAny_loadName_local I.ok.kind hk k o a) b
 ·rcases hk with hk|hk
  ·exact wpAny_Name (wpAny_loadName_cell I.ok.kind hk f d a) b
  ·exact wpAny_Name (wpAny_loadName_free I.ok.kind hk f d a p) b
theorem Xq{i j pos}:PE X (.Constant (.int i) j pos) (tC (.int i)):=λ_ _ _ H _ I h=>wpAny_Constant_int ⟨.int i,H,I.tok _,⟨_,rfl⟩,h⟩
theorem HU{b j pos}:PE X (.Constant (.bool b) j pos) (tC (.bl b)):=λ_ _ _ H _ I h=>Constant_bool ⟨.bl b,H,I,rfl,h⟩
theorem Xr{j pos}:PE X (.Constant .none j pos) (tC .non):=λ_ _ _ H _ I h=>Constant_none ⟨.non,H,I,rfl,h⟩
theorem Xu{x j pos}:PE X (.Constant (.str x) j pos) (tC (.str x)):=λ_ _ _ H _ I h=>Calls.Constant_str ⟨.str x,H,I.tok _,⟨_,rfl⟩,h⟩
def Gl(X:Cx)(x:AJ):Prop:=X.env.kindOf x=Z .globalImplicit
theorem Kh{σ:St}{H:Hp}{Q:BB}(I:AU X AN σ H s)(a:Gl X x)(c:X.mg x=Z u)(h:Q u s)(b:f7 x:=by decide):A7 (f8 X) X.A (eval (.Name x pos) X.env) Q E s:=
 Calls.Name_function_global I.ok.kind a (Calls.loadGlobal_global (by rw[I.ok.glob];exact I.mod.glob.keeps I.bk) c h) b
theorem pR{σ:St}{H:Hp}{Q:BB}(I:AU X AN σ H s)(b:Gl X x)(e:X.mg x=O)(a:AH x=Z u)(h:Q u s)(c:x ≠ "__name__":=by decide)(d:f7 x:=by decide):A7 (f8 X) X.A (eval (.Name x pos) X.env) Q E s:=by
 obtain⟨f,h1,h2⟩:=I.mod.blt;exact Calls.Name_function_global I.ok.kind b (Calls.loadGlobal_builtin (by rw[I.ok.glob];exact I.mod.glob.keeps I.bk) e (by rw[I.ok.blt];exact h1.keeps I.bk) ((h2 x c).trans a) h) d
variable{a b:Expr}{ta tb:TE}
variable{tA tB':TT}{AS:Y Expr}
def F5(t u:TT):TT:=λσ H Q=>t σ H λc H1=>if c=true then Q true H1 else u σ H1 Q
def HM(t:TT):TT:=λσ H Q=>t σ H λc H1=>Q (!c) H1
theorem Xv(b:PT X a tA):PW X (.BoolOp .Or [a] pos) tA:=by
 intro d AN s σ H Q I h;refine isTrue_or (gM (b AN s σ H Q I h) λc f e=>?_);cases c with
 |false=>exact isTrue_or_nil e
 |true=>exact e
theorem GV(f:PT X a tA)(d:PW X (.BoolOp .Or (b::AS) pos) tB'):PW X (.BoolOp .Or (a::b::AS) pos) (F5 tA tB'):=by
 intro e AN s σ H Q I h;refine isTrue_or (gM (f AN s σ H _ I h) λc s1 ⟨H1,I1,q1⟩=>?_);cases c with
 |true=>exact⟨H1,I1,q1⟩
 |false=>exact d e AN s1 σ H1 Q I1 q1
theorem Xw(b:PT X a tA):PT X (.UnaryOp .Not a pos) (HM tA):=by
 intro AN s σ H Q I h;exact isTrue_not (b AN s σ H (λc H1=>Q (!c) H1) I h)
def MG(ta tb:TE):TE:=λσ H Q=>ta σ H λx H1=>∃c,x=.bl c/\if c=true then tb σ H1 Q else Q (.bl false) H1
def K0(ta:TE):TE:=λσ H Q=>ta σ H λx H1=>∃c,x=.bl c/\Q (.bl (!c)) H1
theorem Xx{op}{t:TE}(h:PE X a t):PE X (.BoolOp op [a] pos) t:=λAN s σ H Q I b=>BoolOp_one (h AN s σ H Q I b)
theorem Xy(e:PE X a ta)(d:PE X (.BoolOp .And (b::AS) pos) tb):PE X (.BoolOp .And (a::b::AS) pos) (MG ta tb):=by
 intro AN s σ H Q I h;refine BoolOp_and (gM (e AN s σ H _ I h) λv s1 ⟨x,H1,I1,r1,q1⟩=>?_);obtain⟨c,rfl,q1⟩:=q1;cases r1;refine qV ?_;cases c with
 |true=>exact d AN s1 σ H1 Q I1 q1
 |false=>exact⟨.bl false,H1,I1,rfl,q1⟩
theorem Xz(b:PE X a ta):PE X (.UnaryOp .Not a pos) (K0 ta):=by
 intro AN s σ H Q I h;refine UnaryOp_ (gM (b AN s σ H _ I h) λv s1 ⟨x,H1,I1,r1,q1⟩=>?_);obtain⟨c,rfl,q1⟩:=q1;cases r1;exact not_of (qV ⟨.bl (!c),H1,I1,rfl,q1⟩)
end
end L2
namespace L2
def rE(K:B5)(H:Hp)(a:A1)(xs:Y V):Prop:=
 Rd H a (.lst xs) ∨
  ∃(o:AE) (AQ:Array A0) (n:Nat),K.lookup a=Z o/\o.cls=.type "list" ∧ o.dict=O/\o.data=.seq AQ n/\AQ.size<=AA/\AX xs AQ.toList
def tU(K:B5)(H:Hp)(a:A1)(xs:Y V):Prop:=
 Rd H a (.tup xs) ∨
  ∃(o:AE) (AQ:Array A0) (n:Nat),K.lookup a=Z o/\(o.cls=.type "tuple" ∧ o.dict=O)/\o.data=.seq AQ n/\AQ.size<=AA/\AX xs AQ.toList
def GB:A0->S V
 |.none=>Z .non
 |.bool b=>Z (.bl b)
 |.int i _=>Z (.int i)
 |.str x _=>Z (.str x)
 |.bytes b _=>Z (.byt b)
 |.float b _=>Z (.flt b)
 |.ref a=>Z (.ref a)
 |.type n=>Z (.ty n)
 |_=>O
section
variable{X:Cx}{σ:St}{H:Hp}{xs ys:Y V}
end
section
variable{X:Cx}{σ:St}{H:Hp}
theorem Kg.XC{st:Y AB}{t:TS}(h:Kg X.XC st t):Kg X st t:=λAN s σ H D I a=>
 ZZ (h AN s σ H D (I.wish _) a) (λ_ _ q=>q.adz) λ_ _ z=>False.elim z
end
section
variable{X:Cx}{AS:Y AB}{t u:TS}{te:TE}
def N1:TS:=λD σ H=>D.nx σ H
def Me(t u:TS):TS:=λD σ H=>t { D with nx:=u D } σ H
theorem Tt:Kg X [] N1:=λ_ _ σ H _ I h=>wpAny_execs_nil ⟨σ,H,I,h⟩
theorem O1(h1:PS X st t)(h2:Kg X AS u):Kg X (st::AS) (Me t u):=by
 intro AN s σ H D I h;refine wpAny_execs_cons (gM (h1 AN s σ H { D with nx:=u D } I h) λf b q=>?_);cases f with
 |next=>
  obtain⟨σ',H',a,q⟩:=q;exact h2 AN b σ' H' D a q
 |ret v=>exact q
 |brk=>exact q
 |cont=>exact q
def L8(te:TE):TS:=λD σ H=>te σ H λ_ H1=>D.nx σ H1
theorem Kl(a:PE X e te)(hs:swapsWith e O pos.line X.env=pure false:=by rfl):PS X (.Expr e pos) (L8 te):=by
 intro AN s σ H D I h;exact wpAny_Expr_any (gM (a AN s σ H _ I h) λv s1 ⟨x,H1,I1,r1,q1⟩=>⟨σ,H1,I1,q1⟩) I.quiet hs
def LO(te:TE):TS:=λD σ H=>te σ H D.rt
theorem O2(a:PE X e te):PS X (.Return (Z e) pos) (LO te):=by
 intro AN s σ H D I h;exact wpAny_Return_some (gM (a AN s σ H _ I h) λv s1 ⟨x,H1,I1,r1,q1⟩=>⟨x,σ,H1,I1,r1,q1⟩)
def IU(c:TT)(t u:TS):TS:=λD σ H=>c σ H λb H1=>if b=true then t D σ H1 else u D σ H1
theorem MC{a b:Y AB}{tc:TT}(e:PT X c tc)(f:Kg X a t)(g:Kg X b u):PS X (.If c a b pos) (IU tc t u):=by
 intro AN s σ H D I h;refine wpAny_If (gM (e AN s σ H _ I h) λd s1 ⟨H1,I1,q1⟩=>?_);cases d with
 |true=>exact f AN s1 σ H1 D I1 q1
 |false=>exact g AN s1 σ H1 D I1 q1
end
abbrev TG:=V->St->Hp->(St->Hp->Prop)->Prop
abbrev Wo:=Y V->St->Hp->(St->Hp->Prop)->Prop
def PG(X:Cx)(a:Expr)(t:TG):Prop:=
 ∀(AN:Y (A1×AE)) (s:A2) (σ:St) (H:Hp) (v:V) (u:A0) (Q:St->Hp->Prop),AU X AN σ H s->B0 v u->t v σ H Q →
  A7 (f8 X) X.A (assign a X.env u) (λ_ s'=>∃ σ' H',AU X AN σ' H' s'/\Q σ' H') X.xe s
def O4(X:Cx)(ts:Y Expr)(t:Wo):Prop:=
 ∀(AN:Y (A1×AE)) (s:A2) (σ:St) (H:Hp) (vs:Y V) (us:Y A0) (Q:St->Hp->Prop),AU X AN σ H s->AX vs us->t vs σ H Q →
  A7 (f8 X) X.A (assignInOrder ((assignEach ts X.env).map (·.2)) us) (λ_ s'=>∃ σ' H',AU X AN σ' H' s'/\Q σ' H') X.xe s
section
variable{X:Cx}
def Wq(i:Nat):TG:=λv σ H Q=>Q (σ.set i (Z v)) H
theorem Km(c:X.N.Nodup)(hi:X.N[i]?=Z x)(hx:Cf X.env.scope x)(b:X.fn x=true\/X.env.scope.names.lookup x=Z .local:=by first|exact .inl rfl|exact .inr rfl|assumption):PG X (.Name x pos) (Wq i):=by
 intro AN s σ H v u Q I r h;exact wpAny_assign_Name (tY I c hi hx r (λs' a=>⟨_,H,a,h⟩) b)
def LL:Wo:=λvs σ H Q=>vs=[]/\Q σ H
def LS(t:TG)(u:Wo):Wo:=λvs σ H Q=>∃v r,vs=v::r/\t v σ H λσ' H'=>u r σ' H' Q
theorem Tv:O4 X [] LL:=by
 intro AN s σ H vs us Q I r h;obtain⟨e,h⟩:=h;subst e;cases r;exact assignInOrder_nil ⟨σ,H,I,h⟩
theorem O5{t:TG}{u:Wo}(h1:PG X e t)(h2:O4 X es u)(hs:(assignEach (e::es) X.env).map (·.2)=assign e X.env::(assignEach es X.env).map (·.2):=by rfl):O4 X (e::es) (LS t u):=by
 intro AN s σ H vs us Q I r h;obtain⟨v,b,e1,h⟩:=h;subst e1;cases r with
 |cons r a=>
  rw[hs];refine assignInOrder_cons (gM (h1 AN s σ H _ _ _ I r h) λ_ s1 ⟨σ1,H1,I1,q1⟩=>?_);exact h2 AN s1 σ1 H1 _ _ Q I1 a q1
def L3(K:B5)(n:Nat)(t:Wo):TG:=λv σ H Q=>∃a xs,v=.ref a/\tU K H a xs/\xs.length=n/\t xs σ H Q
theorem XD{t:Wo}(j:X.calm=true)(h:O4 X es t)(f:(assignEach es X.env).length=n:=by rfl)(g:(assignEach es X.env).findIdx? (·.1)=O:=by rfl):PG X (.Tuple es k pos) (L3 X.K n t):=by
 intro AN s σ H v u Q I r c;obtain⟨a,xs,e1,i,m,c⟩:=c;subst e1;cases r;obtain⟨AQ,d,p,q⟩:=I.tuple i;refine assign_Tuple_tuple (I.ok.hd j) p (by simp[f,<-m,d.length]) g λh' hx=>?_;have l:AU X AN σ H { s with heap:=h' }:=I.kept (t':=s.toks) λb o e=>hx b o (zS (Zl e)) e;exact h AN _ σ H xs _ Q l (by simpa using d) c
def FS(te:TE)(g:TG):TS:=λD σ H=>te σ H λx H1=>g x σ H1 D.nx
theorem XF{te:TE}{g:TG}(a:PE X e te)(b:PG X tg g)(hs:swapsWithSole [tg] e pos.line X.env=pure false:=by rfl)(c:swappedStores [tg] e X.env=pure O:=by rfl)(h1:(assignEach [tg] X.env).map (·.2)=[assign tg X.env]:=by rfl):PS X (.Assign [tg] e pos) (FS te g):=by
 intro AN s σ H D I h;refine wpAny_Assign_stores (gM (a AN s σ H _ I h) λv s1 ⟨x,H1,I1,r1,q1⟩=>?_) hs c;rw[h1];exact gM (b AN s1 σ H1 x v _ I1 r1 q1) λ_ d q=>q
theorem XH{te:TE}{pos':Pos}(a:X.N.Nodup)(hi:X.N[i]?=Z x)(hx:Cf X.env.scope x)(d:PE X e te)(hs:swapsWith e (Z (.Name x pos')) pos.line X.env=pure false:=by rfl)(b:X.fn x=true\/X.env.scope.names.lookup x=Z .local:=by first|exact .inl rfl|exact .inr rfl|assumption):
  PS X (.Assign [.Name x pos'] e pos) (FS te (Wq i)):=by
 intro AN s σ H D I h;refine wpAny_Assign_Name (gM (d AN s σ H _ I h) λv s1 ⟨y,H1,I1,r1,q1⟩=>?_) hs;exact tY I1 a hi hx r1 (λf c=>⟨_,H1,c,q1⟩) b
def L5(i j:Nat)(ta:TA):TS:=λD σ H=>ta σ H λvs H1=>∃v w,vs=[v,w]/\D.nx ((σ.set i (Z v)).set j (Z w)) H1
theorem XJ{a b:Expr}{ta:TA}{px py pt:Pos}{kt k2 XM}(u:X.calm=true)(f:X.N.Nodup)(hi:X.N[i]?=Z x)(m:X.N[j]?=Z y)(G:i≠j)(hx:X.env.scope.names.lookup x=Z .local)(g:X.env.scope.names.lookup y=Z .local)(z:PA X [a,b] ta)(t:swappedStores [.Tuple [.Name x px,.Name y py] kt pt] (.Tuple [a,b] k2 XM) X.env=pure (Z [x,y]))(hs:swapsWithSole [.Tuple [.Name x px,.Name y py] kt pt] (.Tuple [a,b] k2 XM) pos.line X.env=pure false:=by rfl):
  PS X (.Assign [.Tuple [.Name x px,.Name y py] kt pt] (.Tuple [a,b] k2 XM) pos) (L5 i j ta):=by
 intro AN s σ H D I h;rw[exec_Assign_arm];refine zb (Jn ?_);rw[hs];refine zb (zg ?_);rw[zo ()];refine zb (Tuple_ (gM (z _ AN s σ H _ I h) λus s1 ⟨vs,H1,I1,r1,q1⟩=>?_));obtain⟨v,w,e1,q1⟩:=q1;subst e1;obtain⟨d,c,rfl,F,r⟩:∃d c,us=[d,c]/\B0 v d/\B0 w c:=by
  cases r1 with
  |cons p q=>
   cases q with
   |cons p' C=>
    cases C;exact⟨_,_,rfl,p,p'⟩
 refine ZT ?_ (by show 2<=AA;decide);have n:AU X AN σ H1 { s1 with heap:=s1.heap.push { cls:=.type "tuple",data:=.seq [d,c].toArray } }:=I1.kept (t':=s1.toks) λb o e=>ze _ e;rw[t];refine zb (zg ?_);show A7 (f8 X) X.A (do rule "assign.swapped-stores"; let items <-unpackItems (.ref s1.heap.objs.size) 2 O;assignInOrder [λv=>bindName X.env y v,λv=>bindName X.env x v] items.reverse;pure Flow.next) _ _ _;refine zb (QQ (zb (unpackItems_tuple (items:=#[d,c]) (I.ok.hd u) (IsTup.new s1.heap _) λh' E=>?_)));have B:=n.kept (h':=h') (t':=s1.toks) λb o e=>E b o (zS (Zl e)) e;show A7 _ _ (assignInOrder [λv=>bindName X.env y v,λv=>bindName X.env x v] [c,d] >>= λ_=>pure Flow.next) _ _ _;refine zb (assignInOrder_cons (wpAny_bindName (tY B f m (.inl g) r (λK l=>?_) (.inr g))));refine assignInOrder_cons (wpAny_bindName (tY l f hi (.inl hx) F (λL k=>assignInOrder_nil (zg ?_)) (.inr hx)));rw[List.set_comm _ _ (kF G)]at k;exact⟨_,H1,k,q1⟩
end
structure It where
 go:Nat->Hp->Prop
 yld:Nat->Hp->V->Hp->Prop
 stop:Nat->Hp->Prop
def pO(X:Cx)(AN:Y (A1×AE))(H:Hp)(b:A1):Prop:=
 H b=O/\b≠X.env.locals/\b∉X.fs/\(b∈X.ex\/X.s₀.heap.objs.size<=b)/\(∀x c,X.env.cells.lookup x=Z c->c≠b)/\∀p∈X.pn++AN,p.1≠b
structure C0 (P:Program) (w:World) (K:B5) (tg:Expr) (J:It) (fp:List Addr) (it:Addr) (tn:Nat->Heap->Prop):Prop where
 mem:it∈fp
 obj:∀i h,tn i h->∀b∈fp,∃o,h.get? b=some o/\∀v,o.data≠.cell v
 keep:∀i h h',tn i h->(∀b∈fp,∀o,h.get? b=some o->h'.get? b=some o)->tn i h'
 item:∀(X:Cx),X.prog=P->X.w=w->X.K=K->X.calm=true->∀(i:Nat) (AN:List (Addr×Obj)) (s:Shared) (σ:St) (H:Hp) (E:BB),AU X AN σ H s->(∀b∈fp,pO X AN H b)->tn i s.heap->J.go i H →
  wpAny (model P w) X.A (pyNext (.ref it)) (λr s1=>∃u,r=some u ∧
   wpAny (model P w) X.A (letOwnedTupleGo tg (.ref it) u) (λ_ s2=>∃x H',AU X AN σ H' s2/\B0 x u/\J.yld i H x H'/\tn (i+1) s2.heap/\∀b∈fp,H' b=none) E s1) E s
 done:∀(X:Cx),X.prog=P->X.w=w->X.K=K->X.calm=true->∀(i:Nat) (AN:List (Addr×Obj)) (s:Shared) (σ:St) (H:Hp) (E:BB),AU X AN σ H s->(∀b∈fp,pO X AN H b)->tn i s.heap->J.stop i H →
  wpAny (model P w) X.A (pyNext (.ref it)) (λr s1=>r=none/\AU X AN σ H s1) E s
 self:∀(A:Around) (i:Nat) (s:Shared) (Q:BB) (E:BB),tn i s.heap->Q (.ref it) s->wpAny (model P w) A (pyIter (.ref it)) Q E s
abbrev TI:=St->Hp->(It->Hp->Prop)->Prop
def Fh(X:Cx)(AN:Y (A1×AE))(σ:St)(tg:Expr)(R:It->Hp->Prop)(c:A0)(a:A2):Prop:=
 ∃(it:A1) (fp:Y A1) (tn:Nat->A6->Prop) (J:It) (H':Hp),c=.ref it/\AU X AN σ H' a/\C0 X.prog X.w X.K tg J fp it tn/\tn 0 a.heap/\(∀b∈fp,pO X AN H' b)/\R J H'
def PI(X:Cx)(tg iter:Expr)(a:TI):Prop:=
 ∀(AN:Y (A1×AE)) (s:A2) (σ:St) (H:Hp) (R:It->Hp->Prop),AU X AN σ H s->a σ H R →
  A7 (f8 X) X.A (eval iter X.env) (λv b=>A7 (f8 X) X.A (pyIter v) (Fh X AN σ tg R) X.xe b) X.xe s
theorem FW{o:AE}{n:String}{vs:Array A0}{Q:Unit->A2->Prop}(e:s.heap.get? it=Z o)(c:o.cls=.type n)(d:o.data=.fields vs)(b:["enumerate","zip","dict_itemiterator","dict_reverseitemiterator","odict_iterator","itertools.zip_longest","itertools.pairwise"].contains n=false)(a:Q gd s):A7 M A (letOwnedTupleGo tg (.ref it) u) Q E s:=by
 unfold letOwnedTupleGo;cases tg<;>first
  |exact zg a
  |(cases u<;>first
    |exact zg a
    |(refine zb (wpAny_load e ?_)
      rw[c,d];show A7 M A (if(["enumerate","zip","dict_itemiterator","dict_reverseitemiterator","odict_iterator","itertools.zip_longest","itertools.pairwise"].contains n&&vs[0]?==Z (rawInt _))=true then _ else _) Q E s;rw[zo (by intro h;rw[b,bv]at h;cases h)];exact zg a))
def Fm(K:B5)(a:A1):It:=
 ⟨λi H=>∃xs x,rE K H a xs/\xs[i]?=Z x,λi H x H'=>H'=H/\∀xs,rE K H a xs->xs[i]?=Z x,λi H=>∃xs,rE K H a xs/\xs.length<=i⟩
def F0(K:B5)(a:A1):It:=
 ⟨λi H=>∃xs x,tU K H a xs/\xs[i]?=Z x,λi H x H'=>H'=H/\∀xs,tU K H a xs->xs[i]?=Z x,λi H=>∃xs,tU K H a xs/\xs.length<=i⟩
def EB(lo:Int)(n:Nat):It:=⟨λi _=>i<n,λi H x H'=>H'=H/\x=.int (lo+i),λi _=>n<=i⟩
theorem MK(a it:A1):C0 P w K tg (Fm K a) [it] it (λi h=>h.IsListIter it a i) where
 mem:=by simp
 obj:=λi h st b f=>by
  have e:b=it:=by simpa using f
  subst e;obtain⟨o,e,c,d⟩:=st;exact⟨o,e,λv z=>by rw[d]at z;cases z⟩
 keep:=λi h h' st k=>st.at λo e=>k it (by simp) o e
 item:=by
  intro X n l q B i AN s σ H E I j st r;subst n l q;obtain⟨xs,x,g,hx⟩:=r;obtain⟨AQ,t,p,F⟩:=I.list g;obtain⟨u,C,L⟩:=t.get hx;obtain⟨f0,f1,f2,f3,m,y⟩:=j it (by simp);refine wpAny_pyNext_list_item st p.isList (x:=u) (by simpa using C) λh' A M=>?_;have G:AU X AN σ H { s with heap:=h' }:=I.turned (t':=s.toks) (λb o f e=>(M.2 b f).trans e) f0 f1 f3 m y;obtain⟨o,e,c,d⟩:=id A;exact⟨u,rfl,FW (s:={ s with heap:=h' }) e c d () ⟨x,H,G,L,⟨rfl,λys D=>by rw[I.FZ D g];exact hx⟩,A,λb f=>(j b f).1⟩⟩
 done:=by
  intro X n l q B i AN s σ H E I j st r;subst n l q;obtain⟨xs,g,hx⟩:=r;obtain⟨AQ,t,p,F⟩:=I.list g;obtain⟨f0,f1,f2,f3,m,y⟩:=j it (by simp);have N:=t.length;exact wpAny_pyNext_list_end (I.ok.hd B) st p.isList (by simp;omega) λh' eb=>⟨rfl,I.turned (t':=s.toks) (λb o f e=>eb b o f e) f0 f1 f3 m y⟩
 self:=λ_ _ _ _ _ st h=>wpAny_pyIter_listiter st h
theorem Jc(a it:A1):C0 P w K tg (F0 K a) [it] it (λi h=>h.IsTupleIter it a i) where
 mem:=by simp
 obj:=λi h st b f=>by
  have e:b=it:=by simpa using f
  subst e;obtain⟨o,e,c,d⟩:=st;exact⟨o,e,λv z=>by rw[d]at z;cases z⟩
 keep:=λi h h' st k=>st.at λo e=>k it (by simp) o e
 item:=by
  intro X n l q B i AN s σ H E I j st r;subst n l q;obtain⟨xs,x,g,hx⟩:=r;obtain⟨AQ,t,p,F⟩:=I.tuple g;obtain⟨u,C,L⟩:=t.get hx;obtain⟨f0,f1,f2,f3,m,y⟩:=j it (by simp);refine wpAny_pyNext_tuple_item st (show s.heap.IsTuple a AQ.toArray from p) (x:=u) (by simpa using C) λh' A M=>?_;have G:AU X AN σ H { s with heap:=h' }:=I.turned (t':=s.toks) (λb o f e=>(M.2 b f).trans e) f0 f1 f3 m y;obtain⟨o,e,c,d⟩:=id A;exact⟨u,rfl,FW (s:={ s with heap:=h' }) e c d () ⟨x,H,G,L,⟨rfl,λys D=>by rw[I.Bl D g];exact hx⟩,A,λb f=>(j b f).1⟩⟩
 done:=by
  intro X n l q B i AN s σ H E I j st r;subst n l q;obtain⟨xs,g,hx⟩:=r;obtain⟨AQ,t,p,F⟩:=I.tuple g;obtain⟨f0,f1,f2,f3,m,y⟩:=j it (by simp);have N:=t.length;exact wpAny_pyNext_tuple_end (I.ok.hd B) st (show s.heap.IsTuple a AQ.toArray from p) (by simp;omega) λh' eb=>⟨rfl,I.turned (t':=s.toks) (λb o f e=>eb b o f e) f0 f1 f3 m y⟩
 self:=λ_ _ _ _ _ st h=>wpAny_pyIter_tupleiter st h
theorem Jd(it:A1)(lo:Int)(n:Nat):C0 P w K tg (EB lo n) [it] it (λi h=>IsRangeIter h it (lo+(i:Nat)*1) ((n:Int)-(i:Nat)) 1) where
 mem:=by simp
 obj:=λi h st b a=>by
  have e:b=it:=by simpa using a
  subst e;exact⟨_,st,λv z=>by
   have x:Data.fields _=Data.cell v:=z;cases x⟩
 keep:=λi h h' st k=>k it (by simp) _ st
 item:=by
  intro X l d m j i AN s σ H E I c st g;subst l d m;obtain⟨f0,f1,f2,f3,f,p⟩:=c it (by simp);have W:=Walks.range (prog:=X.prog) (w:=X.w) (I.ok.hd j) it lo 1 n;refine W.item i s _ _ g st λv h' tk r q kk=>?_;obtain⟨t,rfl⟩:=r;have u:AU X AN σ H { s with heap:=h',toks:=tk }:=I.turned (λb o a e=>kk b o (by simpa using a) e) f0 f1 f3 f p;refine⟨_,rfl,FW (s:={ s with heap:=h',toks:=tk }) (n :="range_iterator") q J J () ⟨.int (lo+i),H,u,⟨t,?_⟩,⟨rfl,rfl⟩,q,λb a=>(c b a).1⟩⟩;rw[Int.mul_one]
 done:=by
  intro X l d m j i AN s σ H E I c st g;subst l d m;obtain⟨f0,f1,f2,f3,f,p⟩:=c it (by simp);exact wpAny_pyNext_range_end (I.ok.hd j) st (by have:n<=i:=g;omega) λh' eb=>⟨rfl,I.turned (t':=s.toks) (λb o a e=>eb b o a e) f0 f1 f3 f p⟩
 self:=λ_ _ _ _ _ st h=>wpAny_pyIter_rangeiter st h
end L2
namespace L2
section
variable{X:Cx}
theorem Ga{σ:St}{H:Hp}{R:It->Hp->Prop}{lo hi:Int}{t u v:Tok}{tk:Nat}(I:AU X AN σ H s)(h1 : -(2 ^ 62)<=lo)(h2:lo<2 ^ 62)(f : -(2 ^ 62)<=hi)(c:hi<2 ^ 62)(q:R (EB lo (hi-lo).toNat) H):A7 (f8 X) X.A (pyIter (.ref s.heap.objs.size)) (Fh X AN σ tg R) E { s with heap:=s.heap.push { cls:=.type "range",data:=.fields #[.int lo t,.int hi u,.int 1 v] },toks:=tk }:=by
 refine wpAny_pyIter_range (IsRange.new ..) (small_one h1 h2 f c) ?_;have a:AU X AN σ H { s with heap:=s.heap.push { cls:=.type "range",data:=.fields #[.int lo t,.int hi u,.int 1 v] },toks:=tk }:=I.kept λb o e=>ze _ e;refine⟨(s.heap.push { cls:=.type "range",data:=.fields #[.int lo t,.int hi u,.int 1 v] }).objs.size,[(s.heap.push { cls:=.type "range",data:=.fields #[.int lo t,.int hi u,.int 1 v] }).objs.size],_,_,H,rfl,
  a.kept (t':=tk) λb o e=>ze _ e,Jd _ lo (hi-lo).toNat,?_,λb d=>?_,q⟩
 ·have e1:lo+((0:Nat):Int)*1=lo:=by simp
  have e2:(((hi-lo).toNat:Nat):Int)-((0:Nat):Int)=Builtin.Range.rangeSize lo hi 1:=by rw[rangeSize_one];split<;>omega
  show IsRangeIter _ _ (lo+((0:Nat):Int)*1) ((((hi-lo).toNat:Nat):Int)-((0:Nat):Int)) 1;rw[e1,e2];exact zw _ rfl
 ·have e:b=(s.heap.push { cls:=.type "range",data:=.fields #[.int lo t,.int hi u,.int 1 v] }).objs.size:=by simpa using d
  subst e;exact a.Gb (zi _) (a.hok.fresh (zi _))
def N9(ta:TA):TI:=λσ H R=>ta σ H λvs H1=>∃j:Int,vs=[.int j] ∧ -(2 ^ 62)<=j/\j<2 ^ 62/\R (EB 0 j.toNat) H1
def Mm(ta:TA):TI:=λσ H R=>ta σ H λvs H1=>∃i j:Int,vs=[.int i,.int j]/\(-(2 ^ 62)<=i/\i<2 ^ 62 ∧ -(2 ^ 62)<=j/\j<2 ^ 62)/\R (EB i (j-i).toNat) H1
theorem MN{a:Expr}{ta:TA}{p:Pos}(b:Gl X "range")(f:X.mg "range"=O)(c:PA X [a] ta)(hs:A9 [a] X.env=[(false,eval a X.env)]:=by rfl):PI X tg (.Call (.Name "range" p) [a] [] pos) (N9 ta):=by
 intro AN s σ H R I h;refine Call_ (pR I b f boot_range (PyProof.Rows.callWith_type1 (gM (c pos AN s σ H _ I h) λus s1 ⟨vs,H1,I1,r1,q1⟩=>?_) hs J));obtain⟨j,e,q1,q2,q⟩:=q1;subst e;cases r1 with
 |cons r d=>
  cases d;obtain⟨t,rfl⟩:=r;exact call_range_1 (Ga I1 () () q1 q2 (by simpa using q))
theorem MP{a b:Expr}{ta:TA}{p:Pos}(f:Gl X "range")(l:X.mg "range"=O)(k:PA X [a,b] ta)(hs:A9 [a,b] X.env=[(false,eval a X.env),(false,eval b X.env)]:=by rfl)(d:A9 [b] X.env=[(false,eval b X.env)]:=by rfl):
  PI X tg (.Call (.Name "range" p) [a,b] [] pos) (Mm ta):=by
 intro AN s σ H R I h;refine Call_ (pR I f l boot_range (PyProof.Rows.callWith_type1 (gM (k pos AN s σ H _ I h) λus s1 ⟨vs,H1,I1,r1,q1⟩=>?_) (by rw[hs,d]) (by rw[d];rfl)));obtain⟨i,j,e,⟨q1,q2,q3,m⟩,q⟩:=q1;subst e;cases r1 with
 |cons r c=>
  cases c with
  |cons g c=>
   cases c;obtain⟨t,rfl⟩:=r;obtain⟨n,rfl⟩:=g;exact call_range_2 (Ga I1 q1 q2 q3 m q)
def ID(c:TI)(g:TG)(tb:TS):TS:=λD σ H=>c σ H λJ H1=>∃W:Nat->Nat->St->Hp->Prop,(∃m,W 0 m σ H1)/\∀i m σ H,W i m σ H →
 (J.stop i H/\D.nx σ H)\/(J.go i H/\∃N:St->Hp->Prop,(∀ σ' H',N σ' H'->∃a,a<m/\W (i+1) a σ' H')/\∀x H',J.yld i H x H'->g x σ H' λb H2=>tb { D with nx:=N,ct:=N,bk:=D.nx } b H2)
def CP(fp:Y A1)(h:A6):Y (A1×AE):=fp.filterMap λb=>(h.get? b).map λo=>(b,o)
theorem nQ{b:A1}{o:AE}(a:b∈fp)(e:h.get? b=Z o):(b,o)∈CP fp h:=eA.mpr ⟨b,a,by rw[e];rfl⟩
theorem XQ{K:TI}{g:TG}{tb:TS}(hp:PassesOwn (f8 X) X.A X.env X.xe)(E:X.calm=true)(hi:PI X tg iter K)(hg:PG X tg g)(k:Kg X body tb)(hs:∀x,foldedSetIterable iter X.env x=pure x:=by intro _;rfl):PS X (.For tg iter body [] pos) (ID K g tb):=by
 intro AN s σ H D I h;refine wpAny_For (gM (hi AN s σ H _ I h) λv s1 h1=>gM h1 λa3 s2 h2=>?_) hs;obtain⟨it,fp,tn,J,H2,e,Q,T,a0,f2,W,⟨P,w0⟩,turn⟩:=h2;subst e;have z:∀{H':Hp},(∀b∈fp,H' b=O)->∀b∈fp,pO X AN H' b:=λM b k=>⟨M b k,(f2 b k).2⟩;refine codeAny_forLoop_any (λn s'=>∃i σ' H',AU X AN σ' H' s'/\tn i s'.heap/\(∀b∈fp,H' b=O)/\W i n σ' H') ?_ P ⟨0,σ,H2,Q,a0,λb k=>(f2 b k).1,w0⟩;rintro n G ⟨i,q,t,F,C,B,w3⟩;rcases turn i n q t w3 with⟨U,qn⟩|⟨go,N,hN,a2⟩
 ·refine kL hp (gM (T.done X rfl rfl rfl E i AN G q t X.xe F (z B) C U) λr s4 ⟨hr,I4⟩=>?_);subst hr;exact wpAny_execs_nil ⟨q,t,I4,qn⟩
 ·refine kL hp (gM (T.item X rfl rfl rfl E i AN G q t X.xe F (z B) C go) λr s4 ⟨u,hr,h4⟩=>?_);subst hr;refine kL hp (gM h4 λ_ s5 ⟨x,H5,I5,r5,y5,st5,fr5⟩=>?_);have a1:=I5.pinned (z fr5) (T.obj _ _ st5);refine kL hp (gM (hg _ s5 q H5 x u _ a1 r5 (a2 x H5 y5)) λ_ s6 ⟨σ6,H6,I6,q6⟩=>?_);refine kL hp (gM (k _ s6 σ6 H6 _ I6 q6) λf y l=>?_);have L:∀{c:St} {a:Hp},AU X (AN++CP fp s5.heap) c a y->N c a->∃m,m<n/\∃i σ' H',AU X AN σ' H' y/\tn i y.heap/\(∀b∈fp,H' b=O)/\W i m σ' H':=λ{c a} j p=>by
   obtain⟨m',hm,w7⟩:=hN c a p;refine⟨m',hm,i+1,c,a,j.tZ,T.keep _ _ _ st5 λb k o e=>(j.pin (b,o) (qv _ (qv _ (nQ k e)))).1,λb k=>?_,w7⟩;obtain⟨o,e,d⟩:=T.obj _ _ st5 b k;exact(j.pin (b,o) (qv _ (qv _ (nQ k e)))).2.1
  cases f with
  |next=>obtain⟨c,a,j,p⟩:=l;exact L j p
  |cont=>obtain⟨c,a,j,p⟩:=l;exact L j p
  |brk=>obtain⟨c,a,j,l⟩:=l;exact⟨c,a,j.tZ,l⟩
  |ret v=>obtain⟨x7,c,a,j,r7,l⟩:=l;exact⟨x7,c,a,j.tZ,r7,l⟩
end
end L2
namespace L2
abbrev R2:=V->V->Hp->VK->Prop
def u9(X:Cx)(f:A0->A0->Sem A0)(r:R2):Prop:=
 ∀(AN:Y (A1×AE)) (s:A2) (σ:St) (H:Hp) (x y:V) (v u:A0) (Q:VK),AU X AN σ H s->B0 x v->B0 y u->r x y H Q →
  A7 (f8 X) X.A (f v u) (EP X AN σ Q) X.xe s
def Wr(X:Cx)(f:A0->Sem A0)(r:V->Hp->VK->Prop):Prop:=
 ∀(AN:Y (A1×AE)) (s:A2) (σ:St) (H:Hp) (x:V) (v:A0) (Q:VK),AU X AN σ H s->B0 x v->r x H Q →
  A7 (f8 X) X.A (f v) (EP X AN σ Q) X.xe s
def m9(X:Cx)(f:A0)(r:Y V->Hp->VK->Prop):Prop:=
 ∀(AN:Y (A1×AE)) (s:A2) (σ:St) (H:Hp) (xs:Y V) (us:Y A0) (Q:VK),AU X AN σ H s->AX xs us->r xs H Q →
  A7 (f8 X) X.A (call f us) (EP X AN σ Q) X.xe s
def IT(X:Cx)(r:V->Hp->(Bool->Hp->Prop)->Prop):Prop:=
 ∀(AN:Y (A1×AE)) (s:A2) (σ:St) (H:Hp) (x:V) (v:A0) (Q:Bool->Hp->Prop),AU X AN σ H s->B0 x v->r x H Q →
  A7 (f8 X) X.A (truthy v) (TP X AN σ Q) X.xe s
def DJ(r:R2)(ta tb:TE):TE:=λσ H Q=>ta σ H λx H1=>tb σ H1 λy H2=>r x y H2 Q
def G1(r:V->Hp->VK->Prop)(ta:TE):TE:=λσ H Q=>ta σ H λx H1=>r x H1 Q
def rI(C:Int->Int->Prop)(g:Int->Int->V):R2:=λx y H Q=>∃i j,x=.int i/\y=.int j/\C i j/\Q (g i j) H
def C'(g:Int->Int->V):R2:=λx y H Q=>∃i j,x=.int i/\y=.int j/\Q (g i j) H
def rU(g:Int->V):V->Hp->VK->Prop:=λx H Q=>∃i,x=.int i/\Q (g i) H
section
variable{X:Cx}{a b:Expr}{ta tb tc:TE}
theorem XR(e:PE X a ta)(j:PE X b tb){σ:St}{H:Hp}{R:V->V->Hp->Prop}(I:AU X AN σ H s)(h:ta σ H λx H1=>tb σ H1 λy H2=>R x y H2){Q:BB}{f:A0->A0->Sem A0}(g:∀v u c x y H2,AU X AN σ H2 c->B0 x v->B0 y u->R x y H2->A7 (f8 X) X.A (f v u) Q X.xe c):
  A7 (f8 X) X.A (eval a X.env) (λv d=>A7 (f8 X) X.A (eval b X.env) (λu i=>A7 (f8 X) X.A (f v u) Q X.xe i) X.xe d) X.xe s:=by
 refine gM (e AN s σ H _ I h) λv s1 ⟨x,H1,I1,r1,q1⟩=>?_;refine gM (j AN s1 σ H1 _ I1 q1) λu c ⟨y,H2,I2,r2,q2⟩=>?_;exact g v u c x y H2 I2 r1 r2 q2
theorem LB{op:Operator}{r:R2}(j:u9 X (binaryOp op) r)(e:PE X a ta)(i:PE X b tb):PE X (.BinOp a op b pos) (DJ r ta tb):=by
 intro AN s σ H Q I h;exact wpAny_BinOp (XR e i I h λv u c x y H2 f d g q=>j AN c σ H2 x y v u Q f d g q)
theorem IS{op:UnaryOp}{r:V->Hp->VK->Prop}(c:Wr X (unaryOp op) r)(b:PE X a ta):PE X (.UnaryOp op a pos) (G1 r ta):=by
 intro AN s σ H Q I h;exact UnaryOp_ (gM (b AN s σ H _ I h) λv s1 ⟨x,H1,I1,r1,q1⟩=>c AN s1 σ H1 x v Q I1 r1 q1)
theorem EF{f:A0->A0->Sem A0}{C:Int->Int->Prop}{g:Int->Int->Int}
  (e:∀(i j:Int) (t u:Tok) (s:A2) (Q:BB) (E:BB),C i j->Q (.int (g i j) s.toks) { s with toks:=s.toks+1 }->A7 (f8 X) X.A (f (.int i t) (.int j u)) Q E s):
  u9 X f (rI C λi j=>.int (g i j)):=by
 intro AN s σ H x y v u Q I a c h;obtain⟨i,j,rfl,rfl,b,q⟩:=h;obtain⟨t,rfl⟩:=a;obtain⟨d,rfl⟩:=c;exact e i j t d s _ _ b ⟨.int (g i j),H,I.tok _,⟨_,rfl⟩,q⟩
theorem HA{f:A0->A0->Sem A0}{g:Int->Int->Int}
  (c:∀(i j:Int) (t u:Tok) (s:A2) (Q:BB) (E:BB),Q (.int (g i j) s.toks) { s with toks:=s.toks+1 }->A7 (f8 X) X.A (f (.int i t) (.int j u)) Q E s):
  u9 X f (C' λi j=>.int (g i j)):=by
 intro AN s σ H x y v u Q I a b h;obtain⟨i,j,rfl,rfl,q⟩:=h;obtain⟨t,rfl⟩:=a;obtain⟨d,rfl⟩:=b;exact c i j t d s _ _ ⟨.int (g i j),H,I.tok _,⟨_,rfl⟩,q⟩
theorem XS{f:A0->A0->Sem A0}{g:Int->Int->Bool}
  (c:∀(i j:Int) (t u:Tok) (s:A2) (Q:BB) (E:BB),Q (.bool (g i j)) s->A7 (f8 X) X.A (f (.int i t) (.int j u)) Q E s):
  u9 X f (C' λi j=>.bl (g i j)):=by
 intro AN s σ H x y v u Q I a b h;obtain⟨i,j,rfl,rfl,q⟩:=h;obtain⟨t,rfl⟩:=a;obtain⟨d,rfl⟩:=b;exact c i j t d s _ _ ⟨.bl (g i j),H,I,rfl,q⟩
def My(i j:Int):Prop:=0<j/\j<1073741824
def IP(i j:Int):Prop:=0<=j/\j<=1000000/\i.natAbs<2 ^ 64
def Ha(i j:Int):Prop:=(-(2 ^ 64)<i/\i<2 ^ 64)\/(-(2 ^ 64)<j/\j<2 ^ 64)
theorem X3:u9 X (binaryOp .Add) (C' λi j=>.int (i+j)):=HA λ_ _ _ _ _ _ _ q=>add_int q
theorem X4:u9 X (binaryOp .Mult) (rI Ha λi j=>.int (i*j)):=EF λ_ _ _ _ _ _ _ a q=>mul_int q a.ok
theorem Tw:u9 X (binaryOp .FloorDiv) (rI My λi j=>.int (i / j)):=EF λi j _ _ _ _ _ a q=>by
 have h1:(0:Int)<j:=a.1;have h2:j<1073741824:=a.2;exact floordiv_int () (by rw[Int.fdiv_eq_ediv_of_nonneg i ()];exact q) (.inl (PyProof.noPylong_small ()))
theorem X5:u9 X (binaryOp .Mod) (rI (λ_ j=>0<j) λi j=>.int (i%j)):=EF λi j _ _ _ _ _ a q=>by
 have h1:(0:Int)<j:=a;exact mod_int' () (by rw[Int.fmod_eq_emod_of_nonneg i ()];exact q)
theorem X6:u9 X (binaryOp .Pow) (rI IP λi j=>.int (i ^ j.toNat)):=EF λ_ _ _ _ _ _ _ a q=>pow_int_small a.1 a.2.1 a.2.2 q
theorem NE{f:A0->Sem A0}{g:Int->Int}
  (b:∀(i:Int) (t:Tok) (s:A2) (Q:BB) (E:BB),Q (.int (g i) s.toks) { s with toks:=s.toks+1 }->A7 (f8 X) X.A (f (.int i t)) Q E s):
  Wr X f (rU λi=>.int (g i)):=by
 intro AN s σ H x v Q I a h;obtain⟨i,rfl,q⟩:=h;obtain⟨t,rfl⟩:=a;exact b i t s _ _ ⟨.int (g i),H,I.tok _,⟨_,rfl⟩,q⟩
theorem X7:Wr X (unaryOp .USub) (rU λi=>.int (-i)):=NE λ_ _ _ _ _ q=>neg_int q
theorem O6{σ:St}{H:Hp}{Q:VK}{k a:Bool}(I:AU X AN σ H s)(q:Q (.bl k) H)(e:k=a):EP X AN σ Q (.bool a) s:=by
 subst e;exact⟨.bl k,H,I,rfl,q⟩
theorem HG:u9 X (AG .Lt) (C' λi j=>.bl (decide (i<j))):=XS λ_ _ _ _ _ _ _ q=>lt_int q
theorem HL:u9 X (AG .Gt) (C' λi j=>.bl (decide (j<i))):=XS λ_ _ _ _ _ _ _ q=>gt_int q
theorem HK:u9 X (AG .GtE) (C' λi j=>.bl (decide (j<=i))):=XS λ_ _ _ _ _ _ _ q=>ge_int q
theorem X8:u9 X (AG .Is) (λx y H Q=>y=.non/\Q (.bl (decide (x=.non))) H):=by
 intro AN s σ H x y v u Q I a b h;obtain⟨rfl,q⟩:=h;cases b;refine is_none_gen (O6 I q ?_);cases x<;>first
  |(cases a;rfl)
  |(obtain⟨t,rfl⟩:=a;rfl)
theorem Tz:u9 X (AG .IsNot) (λx y H Q=>y=.non/\Q (.bl (!decide (x=.non))) H):=by
 intro AN s σ H x y v u Q I a b h;obtain⟨rfl,q⟩:=h;cases b;refine isnot_none_gen (O6 I q ?_);cases x<;>first
  |(cases a;rfl)
  |(obtain⟨t,rfl⟩:=a;rfl)
theorem bK(b:Expr)(h:op≠.In:=by decide)(h2:op≠.NotIn:=by decide):behindInMarks op b=false:=by
 have e1:(op==CmpOp.In)=false:=by cases op<;>first|rfl|exact absurd J h
 have e2:(op==CmpOp.NotIn)=false:=by cases op<;>first|rfl|exact absurd J h2
 cases b<;>simp[behindInMarks,e1,e2]
theorem TF{r:R2}(k:u9 X (AG op) r)(e:PE X a ta)(j:PE X b tb)(i:behindInMarks op b=false):PE X (.Compare a [op] [b] pos) (DJ r ta tb):=by
 intro AN s σ H Q I h;exact wpAny_Compare1 (XR e j I h λv u c x y H2 f d g q=>k AN c σ H2 x y v u Q f d g q) i
def KW(t:TE):TT:=λσ H Q=>t σ H λx H'=>∃k,x=.bl k/\Q k H'
theorem TJ{r:R2}(i:u9 X (AG op) r)(f:PE X a ta)(d:PE X b tb)(g:behindInMarks op b=false):PT X (.Compare a [op] [b] pos) (KW (DJ r ta tb)):=by
 intro AN s σ H Q I h;refine wpAny_isTrue_Compare1 (gM (f AN s σ H _ I h) λv s1 ⟨x,H1,I1,r1,q1⟩=>gM (d AN s1 σ H1 _ I1 q1) λu s2 ⟨y,H2,I2,r2,q2⟩=>
  gM (i AN s2 σ H2 x y v u _ I2 r1 r2 q2) λc s3 ⟨z,H3,I3,r3,k,e,q3⟩=>?_) g
 subst e;cases r3;exact qV ⟨H3,I3,q3⟩
def O7(r d:R2)(ta tb tc:TE):TE:=λσ H Q=>ta σ H λx H1=>tb σ H1 λy H2=>r x y H2 λz a=>∃k,z=.bl k ∧
 (if k=true then tc σ a λc b=>d y c b Q else Q (.bl false) a)
theorem O8{f:CmpOp}{r g:R2}(o:u9 X (AG op) r)(j:u9 X (AG f) g)(l:PE X a ta)(n:PE X b tb)(i:PE X c tc)(m:lastMarks [op,f] [b,c]=false:=by with_unfolding_all rfl):PE X (.Compare a [op,f] [b,c] pos) (O7 r g ta tb tc):=by
 intro AN s σ H Q I h;refine Compare_chain (gM (l AN s σ H _ I h) λv s1 ⟨x,H1,I1,r1,q1⟩=>chain_link (gM (n AN s1 σ H1 _ I1 q1) λu s2 ⟨y,H2,I2,r2,q2⟩=>
  gM (o AN s2 σ H2 x y v u _ I2 r1 r2 q2) λd s3 ⟨z,H3,I3,r3,k,e,q3⟩=>?_)) m
 subst e;cases r3;refine qV ?_;cases k with
 |false=>exact ite_ff ⟨.bl false,H3,I3,rfl,q3⟩
 |true=>exact ite_tt (chain_last (gM (i AN s3 σ H3 _ I3 q3) λw' s4 ⟨z',H4,I4,r4,q4⟩=>j AN s4 σ H4 y z' u w' Q I4 r2 r4 q4))
def Yc(K:B5)(x:V)(H:Hp)(k:Bool):Prop:=
 match x with
 |.non=>k=false
 |.bl b=>k=b
 |.int i=>k=(i != 0)
 |.str y=>y.length<=AA/\k=((y.length:Int) != 0)
 |.byt y=>y.size<=AA/\k=((y.size:Int) != 0)
 |.ref p=>(∃xs,rE K H p xs/\k=!xs.isEmpty)\/(∃xs,tU K H p xs/\k=!xs.isEmpty)\/∃AO,H p=Z (.dK AO)/\k=!AO.isEmpty
 |_=>False
theorem Je{AO:Y (κ×V)}{vs:Y (κ×A0)}(r:KV AO vs):(!vs.isEmpty)=!AO.isEmpty:=by
 cases r<;>rfl
theorem yC{xs:Y V}(r:AX xs AQ):(!AQ.toArray.isEmpty)=!xs.isEmpty:=by
 cases r<;>simp
theorem yD:(AA:Nat)<2 ^ 63:=by rw[sizeLine_eq];decide
theorem Yd:IT X (λx H Q=>∃k,Yc X.K x H k/\Q k H):=by
 intro AN s σ H x v Q I a h;obtain⟨k,e,q⟩:=h;have l:=yD;have j:AA=16777216:=sizeLine_eq;cases x with
 |non=>
  cases a;have e':k=false:=e;subst e';exact truthy_none ⟨H,I,q⟩
 |bl b=>
  cases a;have e':k=b:=e;subst e';exact qV ⟨H,I,q⟩
 |int i=>
  obtain⟨t,rfl⟩:=a;have e':k=(i != 0):=e;subst e';exact PySem.P.truthy_int ⟨H,I,q⟩
 |str y=>
  obtain⟨t,rfl⟩:=a;obtain⟨f,e'⟩:y.length<=AA/\k=((y.length:Int) != 0):=e;subst e';exact PySem.P.truthy_str () ⟨H,I.tok _,q⟩
 |byt y=>
  obtain⟨t,rfl⟩:=a;obtain⟨f,e'⟩:y.size<=AA/\k=((y.size:Int) != 0):=e;subst e';exact PySem.W.truthy_bytes () ⟨H,I.tok _,q⟩
 |ref p=>
  cases a;have e':(∃xs,rE X.K H p xs/\k=!xs.isEmpty)\/(∃xs,tU X.K H p xs/\k=!xs.isEmpty)\/∃AO,H p=Z (.dK AO)/\k=!AO.isEmpty:=e;rcases e' with⟨xs,hx,e'⟩|⟨xs,hx,e'⟩|⟨AO,hx,e'⟩
  ·subst e';obtain⟨AQ,r,pl,d⟩:=I.list hx;have c:=r.length;exact wpAny_truthy_list pl.isList (by simp only[zk];omega) ⟨H,I.tok _,by rw[yC r];exact q⟩
  ·subst e';obtain⟨AQ,r,pl,d⟩:=I.tuple hx;have c:=r.length;exact truthy_tuple pl (by simp only[zk];omega) ⟨H,I.tok _,by rw[yC r];exact q⟩
  ·subst e';obtain⟨d,g,vs,r,m⟩:AO.length<=AA/\(p==sysModules)=false/\∃vs,KV AO vs/\s.heap.DictOf (dZ X.prog X.w) p vs:=I.hok p _ hx;have c:AO.length=vs.length:=Paired.length r;exact wpAny_truthy_dict g m () ⟨H,I.tok _,by rw[Je r];exact q⟩
 |_=>exact(show False from e).elim
theorem O9(c:PE X a ta)(d:∀b,isTrue a X.env b=(do let v <-b;standAt a.pos;holding [v] (truthy v))):
  PT X a (λσ H Q=>ta σ H λx H'=>∃k,Yc X.K x H' k/\Q k H'):=by
 intro AN s σ H Q I h;exact isTrue_plain (gM (c AN s σ H _ I h) λv s1 ⟨x,H1,I1,r1,q1⟩=>Yd AN s1 σ H1 x v Q I1 r1 q1) (d _)
theorem Jf:u9 X (binaryOp .Add) (λx y H Q=>∃i j,x=.str i/\y=.str j/\i.length+j.length<=AA/\Q (.str (i++j)) H):=by
 intro AN s σ H x y v u Q I b c h;obtain⟨i,j,rfl,rfl,a,q⟩:=h;obtain⟨t,rfl⟩:=b;obtain⟨d,rfl⟩:=c;exact add_str (λd tk=>⟨.str (i++j),H,I.tok _,⟨_,rfl⟩,q⟩) a
theorem BD{x:V}(r:AX [x] us):∃u,us=[u]/\B0 x u:=by
 cases r with
 |cons a b=>cases b;exact⟨_,rfl,a⟩
theorem Pa:m9 X (.builtin "abs") (λxs H Q=>∃i,xs=[.int i]/\Q (.int (if i<0 then -i else i)) H):=by
 intro AN s σ H xs us Q I r h;obtain⟨i,rfl,q⟩:=h;obtain⟨u,rfl,t,rfl⟩:=BD r;exact call_abs_int λu tk=>⟨.int (if i<0 then -i else i),H,I.tok _,⟨_,rfl⟩,q⟩
theorem M5:m9 X (.type "int") (λxs H Q=>(∃i,xs=[.int i]/\Q (.int i) H)\/∃k,xs=[.bl k]/\Q (.int (if k then 1 else 0)) H):=by
 intro AN s σ H xs us Q I r h;rcases h with⟨i,rfl,q⟩|⟨k,rfl,q⟩
 ·obtain⟨u,rfl,t,rfl⟩:=BD r;exact call_int_int ⟨.int i,H,I,⟨_,rfl⟩,q⟩
 ·obtain⟨u,rfl,a⟩:=BD r;cases a;exact call_int_bool ⟨.int (if k then 1 else 0),H,I.tok _,⟨_,rfl⟩,q⟩
end
end L2
namespace L2
section
variable{x dx f:A1}{mA:AJ->S A0}{v:A0}
end
theorem Mw.some_of{v:V}{o:S A0}(r:Mw (Z v) o):∃u,o=Z u/\B0 v u:=by
 cases o with
 |none=>exact(show False from r).elim
 |some u=>exact⟨u,rfl,r⟩
section
variable{H H':Hp}{h':A6}{dx:A1}{fs fs':Y (AJ×V)}
end
section
variable{X:Cx}{σ:St}{H:Hp}{dx:A1}{fs:Y (AJ×V)}{f:AJ}{v:V}
end
section
variable{X:Cx}{value:Expr}{f:AJ}{pos':Pos}{ta tv:TE}
end
section
variable{X:Cx}{σ:St}{H:Hp}{Q:BB}{c:A0}{b:Bool}
end
end L2
namespace L2
structure ni (k:Nat) (A:Around):Prop where
 hd:A.handled=none
 dp:A.depth+3*k+5<recursionLimit
 un:A.units+16*k+200<cLine
def NC:TA:=λ_ H Q=>Q [] H
def Go(ta:TE)(tr:TA):TA:=λσ H Q=>ta σ H λx H1=>tr σ H1 λxs H2=>Q (x::xs) H2
section
variable{X:Cx}{te:TE}{t:TA}
theorem yE:PA X [] NC:=λ_ _ _ _ H Q I h=>Calls.spliced_nil ⟨[],H,I,.nil,h⟩
theorem uc(a:PE X e te)(b:PA X es t)(hs:A9 (e::es) X.env=(false,eval e X.env)::A9 es X.env:=by rfl):PA X (e::es) (Go te t):=by
 intro pos AN s σ H Q I h;rw[hs];show A7 _ _ (spliced ((false,eval e X.env)::AD pos (A9 es X.env))) _ _ s;refine Calls.spliced_cons (gM (a AN s σ H _ I h) λu s1 ⟨x,H1,I1,r1,q1⟩=>?_);exact gM (b pos AN s1 σ H1 _ I1 q1) λus s2 ⟨xs,H2,I2,r2,q2⟩=>⟨x::xs,H2,I2,.cons r1 r2,q2⟩
def LA(t:TA):TE:=λσ H Q=>t σ H λxs H1=>xs.length<=AA/\∀p,H1 p=O->Q (.ref p) (B8 H1 p (.tup xs))
def N3(t:TA):TE:=λσ H Q=>t σ H λxs H1=>xs.length<=AA/\∀p,H1 p=O->Q (.ref p) (B8 H1 p (.lst xs))
theorem Ye{x1}(h:PA X es t):PE X (.Tuple es x1 pos) (LA t):=by
 intro AN s σ H Q I a;refine wpAny_Tuple_spliced (gM (h pos AN s σ H _ I a) λus s1 ⟨xs,H1,I1,r,z,q⟩=>⟨by rw[<-r.length];exact z,?_⟩);have c:H1 s1.heap.objs.size=O:=I1.hok.fresh (zi _);refine⟨.ref s1.heap.objs.size,B8 H1 s1.heap.objs.size (.tup xs),I1.laid (t':=s1.toks) (λb u e=>ze _ e) (zi _) ?_,rfl,q _ c⟩;exact⟨z,us,r,⟨_,zw _ rfl,rfl,⟨_,rfl⟩,rfl⟩⟩
theorem Yg(h:PA X es t):PE X (.List es pos) (N3 t):=by
 intro AN s σ H Q I a;refine wpAny_List_spliced (gM (h pos AN s σ H _ I a) λus s1 ⟨xs,H1,I1,r,z,q⟩=>⟨by rw[<-r.length];exact z,?_⟩);have c:H1 s1.heap.objs.size=O:=I1.hok.fresh (zi _);refine⟨.ref s1.heap.objs.size,B8 H1 s1.heap.objs.size (.lst xs),I1.laid (t':=s1.toks) (λb u e=>ze _ e) (zi _) ?_,rfl,q _ c⟩;exact⟨z,us,0,r,zw _ rfl⟩
end
abbrev Sp:=Y V->Hp->VK->XK->Prop
abbrev Ox:=Y Env->Hp->A2->XK->A0->A2->Prop
structure Yh (P:Program) (w:World) (K:B5) (mg:Str->Option Value) (base:Heap) (A:Around) (outer:List Env) (s:Shared) (H:Hp):Prop where
 frames:A.frames=some outer
 mod:Mod K mg base
 bs:∀b o,base.get? b=some o->s.heap.get? b=some o/\H b=none
 bsz:base.objs.size<=s.heap.objs.size
 abb:s.heap.FunFrames base outer
 frf:∀b∈FX outer,H b=none
 hok:Tf P w H s.heap
 bare:AllBare s.gens
 tabs:Co K H
def CE(outer:Y Env)(P:A3)(w:A4)(H:Hp)(s:A2)(Q:VK)(u:A0)(s':A2):Prop:=
 ∃v H',s'.os=s.os/\AllBare s'.gens/\Un (FX outer) [] H H' s.heap s'.heap/\Tf P w H' s'.heap/\B0 v u/\Q v H'
def CR(CX:Ox)(outer:Y Env)(P:A3)(w:A4)(H:Hp)(s:A2)(Q:VK)(E:XK)(r:Result)(s':A2):Prop:=
 match r with
 |.ok (.ret u)=>CE outer P w H s Q u s'
 |.ok _=>False
 |.error e=>CX outer H s E e s'
structure ud (P:Program) (w:World) (K:B5) (mg:Str->Option Value) (base:Heap) (CX:Ox) (k:Nat) (f:Addr) (fd:FuncData) (ps:At) (sp:Sp):Prop where
 len:∀vs H Q E,sp vs H Q E->vs.length=ps.length
 run:∀(A:Around) (outer:List Env) (s:Shared) (H:Hp) (args:Args) (us:List Value) (vs:List V) (Q:VK) (E:XK),ni k A->Yh P w K mg base A outer s H->BindsTo s fd args (ps.zip us)->AX vs us->sp vs H Q E →
  codeAny (model P w) A (.call (.ref f) args) (CR CX outer P w H s Q E) s
section
variable{X:Cx}{σ:St}{H:Hp}{s':A2}
end
def Iq(sp:Sp)(Ws:Y V)(E:XK)(t:TA):TE:=λσ H Q=>t σ H λvs H1=>sp (vs++Ws) H1 Q E
def BY(K:B5)(fd:FuncData)(ps:At)(ds:Y A0):Prop:=
 ∀(s:A2) (us:Y A0),K.In s.heap->(us++ds).length=ps.length->BindsTo s fd ⟨us,[]⟩ (ps.zip (us++ds))
def C2(CX:Ox)(X:Cx)(E:XK):Prop:=∀(AN:Y (A1×AE)) (σ:St) (H:Hp) (s:A2) (e:A0) (s':A2),AU X AN σ H s->CX X.stack H s E e s'->X.xe e s'
section
variable{X:Cx}{CX:Ox}{f:A1}{sp:Sp}{Ws:Y V}{ds:Y A0}{E:XK}{m:AJ}{p:Pos}{ta:TE}{t:TA}
theorem Yi{σ:St}{H:Hp}{Q:VK}{vs:Y V}(F:ud X.prog X.w X.K X.mg X.base CX k f fd ps sp)(i:ni k X.A)(g:BY X.K fd ps ds)(c:AX Ws ds)(hx:C2 CX X E)(I:AU X AN σ H s)(r:AX vs us)(h:sp (vs++Ws) H Q E):A7 (f8 X) X.A (call (.ref f) us) (EP X AN σ Q) X.xe s:=by
 have b:AX (vs++Ws) (us++ds):=r.append c;have d:(us++ds).length=ps.length:=by rw[<-b.length];exact F.len _ _ _ _ h
 refine wpAny_call (codeAny_mono (F.run X.A X.stack s H ⟨us,[]⟩ (us++ds) (vs++Ws) Q E i I.env0 (g s us I.kIn d) b h) λr s' a=>?_);cases r with
 |error e=>exact hx AN σ H s e s' I a
 |ok fl=>
  cases fl with
  |ret u=>exact I.after a
  |next=>exact False.elim a
  |brk=>exact False.elim a
  |cont=>exact False.elim a
theorem TQ(F:ud X.prog X.w X.K X.mg X.base CX k f fd ps sp)(j:ni k X.A)(a:Gl X x)(d:X.mg x=Z (.ref f))(hk:keepIn X.K (.ref f)=true)(i:BY X.K fd ps ds)(c:AX Ws ds)(hx:C2 CX X E)
  (b:PA X (e::es) t) (m:f7 x:=by decide) (l:A9 (e::es) X.env=(false,eval e X.env)::A9 es X.env:=by rfl) (g:(AD pos (A9 es X.env)).any (·.1)=false:=by rfl):
  PE X (.Call (.Name x p) (e::es) [] pos) (Iq sp Ws E t):=by
 intro AN s σ H Q I h;refine ki (Kh I a d ?_ m);refine PySem.W.callWith_K (h₀:=X.base) I.ok.mod.kin hk (gM (b pos AN s σ H _ I h) λus s1 ⟨vs,H1,I1,r,q⟩=>⟨I1.kIn,?_⟩) l g;exact Yi F j i c hx I1 r q
end
section
variable{X:Cx}{CX:Ox}{f:A1}{ks:At}{sp:Sp}{E:XK}{m:AJ}{p kpos:Pos}{kws:Y AC}{te ta:TE}{t tk:TA}{nm:S AJ}
variable{g:Y A0->Y A0->Y A0}{gV:Y V->Y V->Y V}
end
structure cg (N P:At) (sc:Scope):Prop where
 kind:sc.kind=.function
 co:sc.isCoroutine=false
 gen:sc.isGenerator=false
 nd:N.Nodup
 pre:N.take P.length=P
 par:∀x∈P,sc.names.lookup x=some .local\/sc.names.lookup x=some .cell
 Yj:∀y∈sc.names,y.2≠.free
theorem Bm{b:AJ->S NameKind}{x:AJ}:∀{a:Y (AJ×A0)} {m:AJ->S A0},(∀v,(x,v)∉a)->bindL b a m x=m x
 |[],_,_=>rfl
 |(n,v)::r,m,h=>by
  unfold bindL;rw[Bm λw c=>h w (zr _ c)];split
  ·have:x≠n:=by rintro rfl;exact h v zt
   simp[this]
  ·rfl
theorem Bp{b:AJ->S NameKind}{x:AJ}:∀{a:Y (AJ×A0)} {m:AJ->S A0},(∀v,(x,v)∉a)->bindC b a m x=m x
 |[],_,_=>rfl
 |(n,v)::r,m,h=>by
  unfold bindC;rw[Bp λw c=>h w (zr _ c)];split
  ·rfl
  ·have:x≠n:=by rintro rfl;exact h v zt
   simp[this]
theorem Bq{a:AJ->S NameKind}{x:AJ}{v:A0}:∀{P:At} {vs:Y A0} {i:Nat} {m:AJ->S A0},P.Nodup->P[i]?=Z x->vs[i]?=Z v->a x=Z .local →
  bindL a (P.zip vs) m x=Z v
 |[],_,_,_,_,h,_,_=>by simp at h
 |_::_,[],_,_,_,_,h,_=>by simp at h
 |p::P,w::vs,0,m,nd,h1,h2,hk=>by
  simp at h1 h2;subst h1;subst h2;show bindL a ((p,w)::P.zip vs) m p=_;unfold bindL;rw[Bm λv b=>(bb.mp nd).1 (kM b).1,zh hk];simp
 |p::P,w::vs,i+1,m,nd,h1,h2,hk=>by
  show bindL a ((p,w)::P.zip vs) m x=_;unfold bindL;exact Bq (i:=i) (bb.mp nd).2 (by simpa using h1) (by simpa using h2) hk
theorem Br{a:AJ->S NameKind}{x:AJ}{v:A0}:∀{P:At} {vs:Y A0} {i:Nat} {m:AJ->S A0},P.Nodup->P[i]?=Z x->vs[i]?=Z v->a x≠Z .local →
  bindC a (P.zip vs) m x=Z v
 |[],_,_,_,_,h,_,_=>by simp at h
 |_::_,[],_,_,_,_,h,_=>by simp at h
 |p::P,w::vs,0,m,nd,h1,h2,hk=>by
  simp at h1 h2;subst h1;subst h2;show bindC a ((p,w)::P.zip vs) m p=_;unfold bindC;rw[Bp λv b=>(bb.mp nd).1 (kM b).1,zo hk];simp
 |p::P,w::vs,i+1,m,nd,h1,h2,hk=>by
  show bindC a ((p,w)::P.zip vs) m x=_;unfold bindC;exact Br (i:=i) (bb.mp nd).2 (by simpa using h1) (by simpa using h2) hk
def start(N:At)(vs:Y V):St:=vs.map Z++aa (N.length-vs.length) O
def Aj(CX:Ox)(P:A3)(w:A4)(K:B5)(mg:AJ->S A0)(base:A6)(N:At)(qual:AJ)(scope:Scope)(f:A1)(a:A0)(A:A5)(outer:Y Env)(s:A2)(H:Hp)(E:XK):Cx where
 prog:=P
 w:=w
 K:=K
 mg:=mg
 base:=base
 A:=A.deeper (AK qual scope s.heap.objs.size f a)
 N:=N
 s₀:=s
 H₀:=H
 env:=AK qual scope s.heap.objs.size f a
 outer:=outer
 stack:=AK qual scope s.heap.objs.size f a::outer
 ex:=[]
 calm:=true
 fn:=λ_=>true
 pn:=[]
 xe:=λe s'=>A7 (A8 P w) (A.deeper (AK qual scope s.heap.objs.size f a)) (leaving (AK qual scope s.heap.objs.size f a) e) (λ_ b=>CX outer H s E e b) (λe' b=>CX outer H s E e' b) s'
theorem Gd{a:Scope}(h:a.names.lookup x=Z .cell):∃c,(cellsFrom n a.names []).lookup x=Z c:=by
 have q:=cellsFrom_some a.names n [] (.inl h);exact aE.mp q
theorem M6{CX:Ox}{f:A1}{g:A0}{outer:Y Env}{m:A2}{H:Hp}{E:XK}{vs:Y V}(S:cg N ps scope)(C:A.handled=O)(e0:Yh P w K mg base A outer s H)(F:vs.length=ps.length)(r:AX vs us)(x:InCallC s s.heap.objs.size (bindL (AK qual scope s.heap.objs.size f g).kindOf (ps.zip us) λ_=>O) (cellsFrom (s.heap.objs.size+1) scope.names []) (bindC (AK qual scope s.heap.objs.size f g).kindOf (ps.zip us) λ_=>O) m):
  AU (Aj CX P w K mg base N qual scope f g A outer s H E) [] (start N vs) H m:=by
 have G:ps.length<=N.length:=by have:=congrArg e9 S.pre;rw[qo]at this;omega
 obtain⟨h1,tk,rfl,hk⟩:=x.done;have j:∀b:A1,b∉(Aj CX P w K mg base N qual scope f g A outer s H E).ex:=λb z=>absurd (show b∈([]:Y A1) from z) (by simp);refine⟨⟨e0.mod,S.kind,rfl,rfl,zi _,λy z c h1 h2=>?_,λy d=>?_,λy c _ h=>?_,λ_=>C,Around.frames_deeper e0.frames,.inr ⟨rfl,rfl⟩,λb z=>absurd z (j b),e0.bs,e0.bsz,λb _ _=>j b,λb z=>absurd z (j b),e0.abb,e0.frf,e0.tabs⟩,
  rfl,e0.bare,Un.kept hk,⟨_,x.toInCall.ns,λi y v h1 h2 D=>?_⟩,λy c h=>⟨_,x.cell y c h⟩,e0.hok.fresh (zi _),λy c h=>?_,λp hp=>absurd (show p∈([]:Y (A1×AE)) from hp) (by simp),e0.hok.kept hk,?_⟩
 ·exact name_of_addr x.apart (Qb h1) (Qb h2)
 ·have d:scope.names.lookup y=Z .cell\/scope.names.lookup y=Z .free:=d;rcases d with d|d
  ·exact Gd d
  ·exact absurd J (S.Yj _ (Qb d))
 ·exact ZY (x.above y c (Qb h))
 ·have hi:i<vs.length:=by
   unfold start at h2;by_cases hi:i<vs.length
   ·exact hi
   ·rw[QY (by simpa using hi)]at h2;rw[km]at h2;split at h2<;>cases h2
  have B:vs[i]?=Z v:=by
   unfold start at h2;rw[qh (by simpa using hi),q5]at h2;cases e:vs[i]? with
   |none=>rw[e]at h2;cases h2
   |some a=>rw[e]at h2;cases h2;rfl
  obtain⟨u,l,t⟩:=r.get B;have hp:ps[i]?=Z y:=by
   rw[<-S.pre,cw ()];exact h1
  have o:ps.Nodup:=by rw[<-S.pre];exact S.nd.sublist (Kn _ _)
  refine⟨u,t,?_⟩;rcases S.par y (kK hp)with k|k
  ·exact .inl ⟨k,Bq o hp l k⟩
  ·obtain⟨c,e⟩:=Gd (n:=s.heap.objs.size+1) k;refine .inr ⟨.inl k,c,e,?_⟩;have q:=x.cell y c e;rw[Br o hp l (by show scope.names.lookup y≠_;rw[k];decide)]at q;exact q
 ·exact e0.hok.fresh (ZY (x.above y c (Qb h)))
 ·unfold start;show _=N.length;rw[zC,zd,List.length_replicate];omega
theorem HZ{CX:Ox}{f:A1}{z kV j pm a ct oc:A0}{B od:Option A1}{sp:Sp}(C:K.lookup f=Z ⟨oc,od,.func (fnOf name qual params body scope z kV j pm B a ct),osl⟩)(U:codeIn K a qual=true)(S:cg N ps scope)(p:∀vs H Q E,sp vs H Q E->vs.length=ps.length)(a1:∀(A:A5) (outer:Y Env) (s:A2) (H:Hp) (vs:Y V) (Q:VK) (E:XK),ni k (A.deeper (AK qual scope s.heap.objs.size f a))->sp vs H Q E →
   ∃t,Kg (Aj CX P w K mg base N qual scope f a A outer s H E) body t/\t { nx:=λ_ H'=>Q .non H',rt:=Q } (start N vs) H):
  ud P w K mg base CX (k+1) f (fnOf name qual params body scope z kV j pm B a ct) ps sp:=by
 refine⟨p,λA outer s H a2 us vs Q E d e0 M r l=>?_⟩;have D:=p _ _ _ _ l;have m:K.In s.heap:=e0.mod.kin.keeps λb o e=>(e0.bs b o e).1;have a0:s.heap.NoLimit:=e0.mod.nolimit.keeps λb o e=>(e0.bs b o e).1;have L:∀y∈ps.zip us,scope.names.lookup y.1=Z .local\/(scope.names.lookup y.1=Z .cell/\((cellsFrom (s.heap.objs.size+1) scope.names []).lookup y.1).isSome=true):=λ⟨n,v⟩ hy=>by
  rcases S.par n (kM hy).1 with q|q
  ·exact .inl q
  ·exact .inr ⟨q,cellsFrom_some _ _ _ (.inl q)⟩
 refine codeAny_call_function d.depth (m _ _ C) rfl S.co S.gen rfl (PySem.W.codeRec_of m U) (M _ _ _ _ ?_);refine wpAny_newFunctionEnv_cells S.kind L λenv X i x=>?_;subst X;refine⟨a0.keeps x.toInCall.keep,codeAny_func ?_⟩;obtain⟨t,F,G⟩:=a1 A outer s H vs Q E (d.deeper _) l;have I:AU (Aj CX P w K mg base N qual scope f a A outer s H E) [] (start N vs) H i:=M6 S d.hd e0 D r x;refine ZZ (F [] i (start N vs) H _ I G) (λfl s' c=>?_) λe s' c=>c;have h:∀{σ':St} {H':Hp} {v:V} {u:A0},AU (Aj CX P w K mg base N qual scope f a A outer s H E) [] σ' H' s'->B0 v u->Q v H'->CE outer P w H s Q u s':=
  λ{σ' H' v u} J g q=>⟨v,H',J.os,J.bare,J.base,J.hok,g,q⟩
 cases fl with
 |ret u=>
  obtain⟨v,σ',H',J,g,q⟩:=c;exact h J g q
 |next=>
  obtain⟨σ',H',J,q⟩:=c;exact h (v:=V.non) (u:=Value.none) J rfl q
 |brk=>
  obtain⟨_,_,_,q⟩:=c;exact False.elim q
 |cont=>
  obtain⟨_,_,_,q⟩:=c;exact False.elim q
end L2
namespace L2
section
variable{X:Cx}{p:Pos}{t:TA}{id T:String}{r:Y V->Hp->VK->Prop}
def ET(r:Y V->Hp->VK->Prop)(t:TA):TE:=λσ H Q=>t σ H λvs H1=>r vs H1 Q
theorem Pb(d:m9 X (.builtin id) r)(b:Gl X x)(g:X.mg x=O)(a:AH x=Z (.builtin id))(f:PA X (e::es) t)(c:x ≠ "__name__":=by decide)(k:f7 x:=by decide)
  (j:A9 (e::es) X.env=(false,eval e X.env)::A9 es X.env:=by rfl) (i:(AD pos (A9 es X.env)).any (·.1)=false:=by rfl):PE X (.Call (.Name x p) (e::es) [] pos) (ET r t):=by
 intro AN s σ H Q I h;refine ki (pR I b g a ?_ c k);exact PyProof.Rows.callWith_builtin1 (gM (f pos AN s σ H _ I h) λus s1 ⟨vs,H1,I1,r1,q1⟩=>d AN s1 σ H1 vs us Q I1 r1 q1) j i
theorem M7(d:m9 X (.type T) r)(b:Gl X x)(g:X.mg x=O)(a:AH x=Z (.type T))(f:PA X (e::es) t)(c:x ≠ "__name__":=by decide)(k:f7 x:=by decide)
  (j:A9 (e::es) X.env=(false,eval e X.env)::A9 es X.env:=by rfl) (i:(AD pos (A9 es X.env)).any (·.1)=false:=by rfl):PE X (.Call (.Name x p) (e::es) [] pos) (ET r t):=by
 intro AN s σ H Q I h;refine ki (pR I b g a ?_ c k);exact PyProof.Rows.callWith_type1 (gM (f pos AN s σ H _ I h) λus s1 ⟨vs,H1,I1,r1,q1⟩=>d AN s1 σ H1 vs us Q I1 r1 q1) j i
end
end L2
namespace HT
open PySem PyProof.Rows
section
open PySem.SeqAt
open PySem.AutoSeq1 (wpAny_loadPart')
open PySem.MeetsSeq PySem.MeetsSeq2 PySem.MeetsSeq3
end
theorem TX{t b:A1}{vs a:Y A0}{Q:BB}(u:IsTup s.heap t vs.toArray)(r:IsTup s.heap b a.toArray)(g:vs≠[])
  (h1:a=[]->Q (.ref t) s) (h2:a≠[]->Q (.ref s.heap.objs.size) { s with heap:=s.heap.push { cls:=.type "tuple",data:=.seq (vs++a).toArray } })
  (q:vs.length+a.length<=AA):A7 (A8 prog w) A (binaryOp .Add (.ref t) (.ref b)) Q E s:=by
 obtain⟨⟨cls,j,data,sl⟩,f,l,n,o⟩:=id u;obtain⟨⟨cls2,h,v,m⟩,d,i,k,p⟩:=id r;simp only at l o i p;subst l o i p;have e:vs.toArray++a.toArray=(vs++a).toArray:=by simp
 by_cases c:a=[]
 ·exact concat_meets ⟨_,f,rfl⟩ ⟨_,d,rfl⟩ noFill_tuple_add seq_tuple_add PySem.F.slot_tuple_add KP (KL _ _)
   (tuple_addW1 t b vs.toArray a.toArray n k j h sl m (by simpa using g) (by simp[c])) ⟨f,d,h1 c⟩
 ·refine concat_meets ⟨_,f,rfl⟩ ⟨_,d,rfl⟩ noFill_tuple_add seq_tuple_add PySem.F.slot_tuple_add KP (KL _ _)
   (tuple_addW2 t b vs.toArray a.toArray n k j h sl m (by simpa using g) (by simpa using c) (by rw[zk,zk];exact q)) ⟨f,d,?_⟩
  rw[e];exact h2 c
def gY(n d:Nat):S Int->Nat
 |none=>d
 |some v=>if v<0 then(v+(n:Int)).toNat else min v.toNat n
theorem yF(n d:Nat):gY n d O=d:=rfl
theorem CQ(n d k:Nat):gY n d (Z (k:Int))=min k n:=by
 show(if(k:Int)<0 then((k:Int)+(n:Int)).toNat else min (k:Int).toNat n)=min k n;rw[zo (),JJ]
theorem Yk(n d:Nat)(b:d<=n)(o:S Int):gY n d o<=n:=by
 cases o with
 |none=>exact b
 |some v=>
  show(if v<0 then(v+(n:Int)).toNat else min v.toNat n)<=n;by_cases a:v<0
  ·rw[zh a];omega
  ·rw[zo a];exact Nat.min_le_right _ _
theorem Kq(v:Int)(n d:Nat):(if v<0 then max (v+(n:Int)) 0 else min v (n:Int))=((gY n d (Z v):Nat):Int):=by
 show(if v<0 then max (v+(n:Int)) 0 else min v (n:Int))=(((if v<0 then(v+(n:Int)).toNat else min v.toNat n):Nat):Int);by_cases a:v<0
 ·simp only[zh a];omega
 ·simp only[zo a];omega
theorem Jg(lo hi:S Int)(n:Nat):Builtin.Slice.sliceAdjust lo hi 1 (n:Int)=(((gY n 0 lo:Nat):Int),((gY n n hi:Nat):Int)):=by
 have h1:¬ ((1:Int)<0):=by omega
 unfold Builtin.Slice.sliceAdjust;simp only[h1,qf];refine KM ?_ ?_
 ·cases lo with
  |none=>rfl
  |some v=>exact Kq v n 0
 ·cases hi with
  |none=>rfl
  |some v=>exact Kq v n n
theorem Jh(i j:Nat):Builtin.Slice.slicePlaces (i:Int) (j:Int) 1=j-i:=by
 unfold Builtin.Slice.slicePlaces;have h1:(1:Int)>0:=by omega
 simp only[h1,QA,Int.ediv_one];split<;>omega
theorem kO{v:A0}{o:S Int}{Q:S Int->A2->Prop}(p:IsPart v o)(h:Q o s):A7 (A8 prog w) A (Builtin.Slice.slicePartIndex v) Q E s:=by
 cases p with
 |none=>exact slicePart_none h
 |int i t=>exact slicePart_int h
theorem vB{sl:A1}{b d:A0}{lo hi:S Int}{Q:Int×Int×Nat->A2->Prop}(hs:s.heap.IsSliceOf sl b d .none)(pl:IsPart b lo)(e:IsPart d hi)(h:Q (((gY n 0 lo:Nat):Int),1,gY n n hi-gY n 0 lo) s):A7 (A8 prog w) A (Builtin.Slice.sliceApplied (.ref sl) (pure (n:Int))) Q E s:=by
 obtain⟨os,c,f,a⟩:=id hs;unfold Builtin.Slice.sliceApplied Builtin.Slice.sliceFields;refine zb (zb (JO c a (x:=b) J (zb (JO c a (x:=d) J (zb (JO c a (x:=.none) J (zg ?_)))))));refine zb (slicePart_none ?_);show A7 _ _ (if((1:Int)==0)=true then _ else _) _ _ s;rw[zo ()];refine zb (kO pl (zb (kO e (zb (zg ?_)))));show A7 _ _ (match Builtin.Slice.sliceAdjust lo hi 1 (n:Int)with|(lo,hi)=>pure (lo,(1:Int),Builtin.Slice.slicePlaces lo hi 1)) _ _ s;rw[Jg lo hi n];show A7 _ _ (pure (((gY n 0 lo:Nat):Int),(1:Int),Builtin.Slice.slicePlaces ((gY n 0 lo:Nat):Int) ((gY n n hi:Nat):Int) 1)) _ _ s;rw[Jh];exact zg h
theorem Pg(xs:Array A0)(i k:Nat):((ap k).filterMap λ(m:Nat)=>xs[((i:Int)+(m:Int)*1).toNat]?).toArray=((xs.toList.drop i).take k).toArray:=by
 have e:(λ(m:Nat)=>xs[((i:Int)+(m:Int)*1).toNat]?)=λm=>xs[i+m]?:=by
  funext m;have:((i:Int)+(m:Int)*1).toNat=i+m:=by omega
  rw[this]
 rw[e];have:=pick_run xs i k;rw[List.filterMap_map]at this;have e2:((λx=>xs[x]?) ∘ λx=>i+x)=λm=>xs[i+m]?:=rfl;rw[e2]at this;rw[this]
theorem uf{t sl:A1}{c d:A0}{lo hi:S Int}{Q:BB}(b:IsTup s.heap t items)(hs:s.heap.IsSliceOf sl c d .none)(pl:IsPart c lo)(i:IsPart d hi)(e:¬ (gY items.size 0 lo=0/\gY items.size items.size hi=items.size))(h:Q (.ref s.heap.objs.size) { s with heap:=s.heap.push { cls:=.type "tuple",data:=.seq ((items.toList.drop (gY items.size 0 lo)).take (gY items.size items.size hi-gY items.size 0 lo)).toArray } })(l:items.size<=AA):A7 (A8 prog w) A (getItem (.ref t) (.ref sl)) Q E s:=by
 have a:sizeOk (.seq ((items.toList.drop (gY items.size 0 lo)).take (gY items.size items.size hi-gY items.size 0 lo)).toArray):=by
  show((items.toList.drop (gY items.size 0 lo)).take (gY items.size items.size hi-gY items.size 0 lo)).toArray.size<=AA;rw[zk,qo,kb,ZA];omega
 have o:gY items.size items.size hi<=items.size:=Yk _ _ (zi _) hi;obtain⟨os,f,g,n⟩:=id hs;have j:s.TypeIs (.ref sl) "slice":=⟨os,f,g⟩;unfold getItem
 try with_reducible refine QU ?_
 first|refine zb (zg ?_)|skip
 refine zb (wpAny_sequenceKey b.typeIs () ?_);refine zb (jv (name:=Str.ofString "__getitem__") b.typeIs PyProof.Rows.slot_tuple_getitem
  (ka PyProof.Rows.slot_tuple_getitem b.typeIs entry_tuple_getitem ?_ (args_tuple_getitem _ _)))
 show A7 _ _ (Builtin.Tuple.tupleItemsOf (.ref t) >>= _) _ _ s;refine zb (tupleItemsOf_ b ?_);refine zb (JU j ?_);rw[zh ()];refine zb (vB hs pl i ?_);have k:¬ ((((gY items.size 0 lo:Nat):Int)==0&&(1:Int)==1&&(gY items.size items.size hi-gY items.size 0 lo)==items.size)=true):=by
  intro q;rw[Zs,Zs]at q;have q1:((gY items.size 0 lo:Nat):Int)=0:=eq_of_beq q.1.1;have q2:gY items.size items.size hi-gY items.size 0 lo=items.size:=eq_of_beq q.2;exact e ⟨by omega,by omega⟩
 show A7 _ _ (if(((gY items.size 0 lo:Nat):Int)==0&&(1:Int)==1&&(gY items.size items.size hi-gY items.size 0 lo)==items.size)=true then _ else _) _ _ s;rw[zo k,Pg]
 first
  |exact zb (m:=Builtin.Tuple.tupleExact _) (ZT (zg ⟨_,rfl,zg h⟩) a)
  |exact zb (m:=Builtin.Tuple.tupleExact _) (ZT (zb (zg (zg ⟨_,rfl,zg h⟩))) a)
  |exact zb (zb (m:=Builtin.Tuple.tupleExact _) (ZT (zg (zg ⟨_,rfl,zg h⟩)) a))
  |exact zb (zb (m:=Builtin.Tuple.tupleExact _) (ZT (zg ⟨_,rfl,zg h⟩) a))
end HT
namespace L2
abbrev TO:=St->Hp->(S Int->Hp->Prop)->Prop
def PO(X:Cx)(e:S Expr)(t:TO):Prop:=
 ∀(AN:Y (A1×AE)) (s:A2) (σ:St) (H:Hp) (Q:S Int->Hp->Prop),AU X AN σ H s->t σ H Q →
  A7 (f8 X) X.A (evalPart e X.env) (λu s'=>∃o H',AU X AN σ H' s'/\IsPart u o/\Q o H') X.xe s
def TY:TO:=λ_ H Q=>Q O H
def MD(t:TE):TO:=λσ H Q=>t σ H λx H1=>∃i,x=.int i/\Q (Z i) H1
section
variable{X:Cx}{te:TE}{lo hi:S Expr}{tl th:TO}
theorem T3:PO X O TY:=by
 intro AN s σ H Q I h;rw[evalPart_none];exact zg ⟨O,H,I,.none,h⟩
theorem T4(h:PE X e te):PO X (Z e) (MD te):=by
 intro AN s σ H Q I a;rw[evalPart_some];refine gM (h AN s σ H _ I a) λu s1 ⟨x,H1,I1,r1,q1⟩=>?_;obtain⟨i,rfl,q⟩:=q1;obtain⟨t,rfl⟩:=r1;exact⟨Z i,H1,I1,.int i t,q⟩
def De(X:Cx)(r:V->S Int->S Int->Hp->VK->Prop):Prop:=
 ∀(AN:Y (A1×AE)) (s:A2) (σ:St) (H:Hp) (x:V) (v a b:A0) (lo hi:S Int) (sl:A1) (Q:VK),AU X AN σ H s->B0 x v->s.heap.IsSliceOf sl a b .none->IsPart a lo->IsPart b hi->r x lo hi H Q →
  ∃T id,typeLookup (.type T) "__getitem__"=pure (Z (.builtin id))/\s.TypeIs v T/\A7 (f8 X) X.A (getItem v (.ref sl)) (EP X AN σ Q) X.xe s
def HQ(r:V->S Int->S Int->Hp->VK->Prop)(te:TE)(tl th:TO):TE:=λσ H Q=>te σ H λx H1=>tl σ H1 λl H2=>th σ H2 λu a=>r x l u a Q
theorem Ph{r:V->S Int->S Int->Hp->VK->Prop}(j:De X r)(k:PE X e te)(g:PO X lo tl)(a:PO X hi th):PE X (.Subscript e (.Slice lo hi O p2) pos) (HQ r te tl th):=by
 intro AN s σ H Q I h;refine Subscript_ (gM (k AN s σ H _ I h) λv s1 ⟨x,H1,I1,r1,q1⟩=>?_);refine wpAny_Slice (gM (g AN s1 σ H1 _ I1 q1) λvl s2 ⟨l,H2,I2,pl,q2⟩=>gM (a AN s2 σ H2 _ I2 q2) λvu s3 ⟨u,H3,I3,pu,q3⟩=>?_);rw[evalPart_none];refine zg ?_;have d:AU X AN σ H3 { s3 with heap:=s3.heap.push { cls:=.type "slice",data:=.fields #[vl,vu,.none] } }:=I3.kept (t':=s3.toks) λb m q=>ze _ q;obtain⟨T,id,f,i,c⟩:=j AN { s3 with heap:=s3.heap.push { cls:=.type "slice",data:=.fields #[vl,vu,.none] } } σ H3 x v vl vu l u s3.heap.objs.size Q d r1 (Heap.IsSliceOf.new ..) pl pu q3;show A7 (f8 X) X.A (subscriptTail e (.Slice lo hi O p2) v (.ref s3.heap.objs.size)) (EP X AN σ Q) X.xe { s3 with heap:=s3.heap.push { cls:=.type "slice",data:=.fields #[vl,vu,.none] } };exact tail_any (ops:=[.ref s3.heap.objs.size,v]) i f c (by with_unfolding_all rfl)
def Gf(xs:Y V)(lo hi:S Int):Y V:=(xs.drop (HT.gY xs.length 0 lo)).take (HT.gY xs.length xs.length hi-HT.gY xs.length 0 lo)
theorem wG(xs:Y V)(lo hi:S Int):(Gf xs lo hi).length<=xs.length:=by
 unfold Gf;rw[qo,kb];omega
def MA(K:B5):V->S Int->S Int->Hp->VK->Prop:=λx lo hi H Q=>∃a xs,x=.ref a/\tU K H a xs ∧
 ¬ (HT.gY xs.length 0 lo=0/\HT.gY xs.length xs.length hi=xs.length)/\∀p,H p=O->Q (.ref p) (B8 H p (.tup (Gf xs lo hi)))
theorem Yl:De X (MA X.K):=by
 intro AN s σ H x v l m lo hi sl Q I f g pl j h;obtain⟨a,xs,rfl,hx,i,q⟩:=h;cases f;obtain⟨AQ,r,e,d⟩:=I.tuple hx;have c:AQ.toArray.size=xs.length:=by rw[zk];exact r.length.symm
 refine⟨"tuple", _,PyProof.Rows.slot_tuple_getitem.lookup,e.typeIs,?_⟩;refine HT.uf e g pl j (by rw[c];exact i) ?_ (by rw[c];exact d);rw[c];refine⟨.ref s.heap.objs.size,_,I.laid (t':=s.toks) (o:=.tup (Gf xs lo hi)) (λb k q=>ze _ q) (zi _) ?_,rfl,q _ (I.hok.fresh (zi _))⟩;exact⟨zl (wG xs lo hi) d,_,(r.drop (HT.gY xs.length 0 lo)).take (HT.gY xs.length xs.length hi-HT.gY xs.length 0 lo),iV.new _ _⟩
def Hd(K:B5):R2:=λx y H Q=>∃a b xs ys,x=.ref a/\y=.ref b/\tU K H a xs/\tU K H b ys/\xs≠[]/\xs.length+ys.length<=AA ∧
 (ys=[]->Q (.ref a) H)/\(ys≠[]->∀p,H p=O->Q (.ref p) (B8 H p (.tup (xs++ys))))
theorem T5:u9 X (binaryOp .Add) (Hd X.K):=by
 intro AN s σ H x y v u Q I f i h;obtain⟨a,b,xs,ys,rfl,rfl,g,j,hx,e,q1,q2⟩:=h;cases f;cases i;obtain⟨AQ,d,p1,_⟩:=I.tuple g;obtain⟨l,c,p2,_⟩:=I.tuple j;refine HT.TX p1 p2 (λz=>hx (d.CT.mp z)) (λz=>⟨.ref a,H,I,rfl,q1 (c.CT.mp z)⟩) (λz=>?_) (by rw[<-d.length,<-c.length];exact e);refine⟨.ref s.heap.objs.size,_,I.laid (t':=s.toks) (o:=.tup (xs++ys)) (λb k q=>ze _ q) (zi _) ?_,rfl,q2 (λw=>z (c.CT.mpr w)) _ (I.hok.fresh (zi _))⟩;exact⟨by rw[zC];exact e,_,d.append c,iV.new _ _⟩
end
end L2
namespace L2
def Ym(n:Nat)(i:Int):S Nat:=if 0<=i then(if i<n then Z i.toNat else O)else if -(n:Int)<=i then Z (i+n).toNat else O
def yG(xs:Y α)(i:Int):S α:=(Ym xs.length i).bind λj=>xs[j]?
theorem T6{i:Int}(h:Ym n i=Z j):seqIndex? i n=Z j/\j<n ∧ -(n:Int)<=i/\i<n:=by
 unfold Ym at h;by_cases a:0<=i
 ·rw[zh a]at h;by_cases h1:i<n
  ·rw[zh h1]at h;have e:i.toNat=j:=kg h;exact⟨by rw[seqIndex_of a h1,e],by omega,by omega,h1⟩
  ·rw[zo h1]at h;cases h
 ·rw[zo a]at h;by_cases h1 : -(n:Int)<=i
  ·rw[zh h1]at h;have e:(i+n).toNat=j:=kg h;exact⟨by rw[seqIndex_neg () h1,e],by omega,h1,by omega⟩
  ·rw[zo h1]at h;cases h
theorem CV{xs:Y α}{i:Int}{v:α}(h:yG xs i=Z v):∃j,seqIndex? i xs.length=Z j/\xs[j]?=Z v/\j<xs.length ∧ -(xs.length:Int)<=i/\i<xs.length:=by
 unfold yG at h;cases e:Ym xs.length i with
 |none=>rw[e]at h;cases h
 |some j=>
  rw[e]at h;obtain⟨h1,h2,b,a⟩:=T6 e;exact⟨j,h1,h,h2,b,a⟩
def Kr(b:Expr):Prop:=∀o i,subscripted b false o i=operate [o,i] (getItem o i)
def DO(X:Cx)(r:R2):Prop:=
 ∀(value a:Expr) (AN:Y (A1×AE)) (s:A2) (σ:St) (H:Hp) (x y:V) (v u:A0) (Q:VK),AU X AN σ H s->B0 x v->B0 y u->r x y H Q →
  subscripted a false v u=operate [v,u] (getItem v u)->A7 (f8 X) X.A (subscriptTail value a v u) (EP X AN σ Q) X.xe s
def F3(X:Cx)(id:String)(r:V->Y V->Hp->VK->Prop):Prop:=
 ∀(AN:Y (A1×AE)) (s:A2) (σ:St) (H:Hp) (x:V) (xs:Y V) (v:A0) (us:Y A0) (Q:VK),AU X AN σ H s->B0 x v->AX xs us->r x xs H Q →
  A7 (f8 X) X.A (call (.builtin id) (v::us)) (EP X AN σ Q) X.xe s
section
variable{X:Cx}{a b:Expr}{ta tb:TE}
theorem LM{r:R2}(j:DO X r)(e:PE X a ta)(i:PE X b tb)(hs:Kr b):PE X (.Subscript a b pos) (DJ r ta tb):=by
 intro AN s σ H Q I h;exact Subscript_ (XR e i I h λv u c x y H2 f d g q=>j a b AN c σ H2 x y v u Q f d g q (hs _ _))
def GH(K:B5):R2:=λx y H Q=>∃p xs i v,x=.ref p/\y=.int i/\rE K H p xs/\yG xs i=Z v/\Q v H
def FV(K:B5):R2:=λx y H Q=>∃p xs i v,x=.ref p/\y=.int i/\tU K H p xs/\yG xs i=Z v/\Q v H
def Fc:R2:=λx y H Q=>∃z i c,x=.str z/\y=.int i/\z.length<=AA/\yG z.cps.toList i=Z c/\Q (.str ⟨#[c]⟩) H
theorem T7:DO X (GH X.K):=by
 intro value E AN s σ H x y v u Q I k m h c;obtain⟨p,xs,i,z,rfl,rfl,A,g,q⟩:=h;cases k;obtain⟨t,rfl⟩:=m;obtain⟨AQ,r,pl,D⟩:=I.list A;obtain⟨j,h1,h2,B,f,n⟩:=CV g;obtain⟨w,e,o⟩:=r.get h2;have l:=r.length;have C:=yD;have d:EP X AN σ Q w s:=⟨z,H,I,o,q⟩;by_cases b:0<=i
 ·have a:i.toNat=j:=by
   rw[seqIndex_of b n]at h1;exact kg h1
  exact item_listR pl.isList b () (by rw[a];simpa using e) d c
 ·have a:(i+(AQ.toArray.size:Int)).toNat=j:=by
   rw[seqIndex_neg () f]at h1;rw[zk,<-l];exact kg h1
  exact subscriptTail_builtinR (x:=w) pl.isList.typeIs slot_list_getitem.lookup
   (wpAny_getItem_list_neg (Q:=λr s'=>r=w/\EP X AN σ Q r s') pl.isList () (by rw[zk]<;>omega) () (by rw[a];simpa using e) ⟨rfl,d⟩) c
theorem Yn:DO X (FV X.K):=by
 intro value C AN s σ H x y v u Q I b g h c;obtain⟨p,xs,i,z,rfl,rfl,l,a,q⟩:=h;cases b;obtain⟨t,rfl⟩:=g;obtain⟨AQ,r,pl,A⟩:=I.tuple l;obtain⟨j,h1,h2,n,m,B⟩:=CV a;obtain⟨w,e,k⟩:=r.get h2;have f:=r.length;have o:=yD;have d:EP X AN σ Q w s:=⟨z,H,I,k,q⟩;exact subscriptTail_builtinR (x:=w) pl.typeIs slot_tuple_getitem.lookup
  (getItem_tuple (j:=j) (Q:=λr s'=>r=w/\EP X AN σ Q r s') pl () () (by rw[zk,<-f];exact h1) (by simpa using e) ⟨rfl,d⟩) c
theorem Yo:DO X Fc:=by
 intro value p AN s σ H x y v u Q I d g h e;obtain⟨z,i,c,rfl,rfl,n,b,q⟩:=h;obtain⟨t,rfl⟩:=d;obtain⟨o,rfl⟩:=g;obtain⟨j,h1,h2,l,a,k⟩:=CV b;have f:z.cps.toList.length=z.length:=by simp[Str.length]
 rw[f]at h1 a k;have m:=yD;exact tail_any (typeIs_str s z t) slot_str_getitem.lookup (getItem_str (c:=c) (by
  have e1:decide (i < -(2 ^ 63:Int))=false:=zD ();have e2:decide (i>=2 ^ 63)=false:=zD ();rw[e1,e2,Bool.or_false]) (by rw[h1];simpa using h2) ⟨.str ⟨#[c]⟩,H,I.tok _,⟨_,rfl⟩,q⟩) e
def Ix(K:B5):R2:=λx y H Q=>GH K x y H Q\/FV K x y H Q\/Fc x y H Q
theorem Yp:DO X (Ix X.K):=T7.or (Yn.or Yo)
theorem CW(lo hi:S Int)(n:Nat):(sliceBounds lo hi O n).1=((HT.gY n 0 lo:Nat):Int)/\(sliceBounds lo hi O n).2.1=((HT.gY n n hi:Nat):Int)/\(sliceBounds lo hi O n).2.2=1:=by
 refine⟨?_,?_,rfl⟩
 ·cases lo with
  |none=>simp[sliceBounds,HT.gY]
  |some i=>
   simp only[sliceBounds,HT.gY,fq,show(1:Int)>0 by decide,QA];by_cases h:i<0
   ·simp only[h,QA]<;>omega
   ·simp only[h,qf]<;>omega
 ·cases hi with
  |none=>simp[sliceBounds,HT.gY]
  |some i=>
   simp only[sliceBounds,HT.gY,fq,show(1:Int)>0 by decide,QA];by_cases h:i<0
   ·simp only[h,QA]<;>omega
   ·simp only[h,qf]<;>omega
theorem Ak(AQ:Y A0)(lo hi:S Int):slicePick AQ.toArray lo hi O=((AQ.drop (HT.gY AQ.length 0 lo)).take (HT.gY AQ.length AQ.length hi-HT.gY AQ.length 0 lo)).toArray:=by
 obtain⟨h1,h2,a⟩:=CW lo hi AQ.toArray.size;unfold slicePick;rw[h1,h2,a];simp only[sliceRange_one,pick_run,zk]<;>rfl
def Lv(K:B5):V->S Int->S Int->Hp->VK->Prop:=λx lo hi H Q=>∃a xs,x=.ref a/\rE K H a xs/\∀p,H p=O->Q (.ref p) (B8 H p (.lst (Gf xs lo hi)))
theorem T8:De X (Lv X.K):=by
 intro AN s σ H x v k l lo hi sl Q I d e pl i h;obtain⟨a,xs,rfl,hx,q⟩:=h;cases d;obtain⟨AQ,r,c,g⟩:=I.list hx;have f:=r.length;refine⟨"list", _,slot_list_getitem.lookup,c.isList.typeIs,?_⟩;refine wpAny_getItem_list_slice c.isList e pl i .none (by simp) ?_ (by rw[zk]<;>omega);rw[Ak,<-f];refine⟨.ref s.heap.objs.size,_,I.laid (t':=s.toks) (o:=.lst (Gf xs lo hi)) (λb j q=>ze _ q) (zi _) ?_,rfl,q _ (I.hok.fresh (zi _))⟩;exact⟨zl (wG xs lo hi) g,_,0,(r.drop (HT.gY xs.length 0 lo)).take (HT.gY xs.length xs.length hi-HT.gY xs.length 0 lo),zw _ rfl⟩
theorem CZ:m9 X (.builtin "len") (λxs H Q=>∃p ys,xs=[.ref p]/\(rE X.K H p ys\/tU X.K H p ys)/\Q (.int ys.length) H):=by
 intro AN s σ H xs us Q I r h;obtain⟨p,ys,rfl,a,q⟩:=h;obtain⟨u,rfl,d⟩:=BD r;cases d;have f:=yD;rcases a with a|a
 ·obtain⟨AQ,c,pl,e⟩:=I.list a;have b:=c.length;exact Calls.call_len_list pl.isList (by simp only[zk]<;>omega) ⟨.int ys.length,H,I.tok _,⟨s.toks+1,by rw[zk,b]⟩,q⟩
 ·obtain⟨AQ,c,pl,e⟩:=I.tuple a;have b:=c.length;exact len_tuple pl (by simp only[zk]<;>omega) ⟨.int ys.length,H,I.tok _,⟨s.toks+1,by rw[zk,b]⟩,q⟩
theorem Al:m9 X (.type "tuple") (λxs H Q=>∃p ys,xs=[.ref p]/\((rE X.K H p ys/\∀l,H l=O->Q (.ref l) (B8 H l (.tup ys)))\/(tU X.K H p ys/\Q (.ref p) H))):=by
 intro AN s σ H xs us Q I r h;obtain⟨p,ys,rfl,h⟩:=h;obtain⟨u,rfl,g⟩:=BD r;cases g;rcases h with⟨c,q⟩|⟨c,q⟩
 ·obtain⟨AQ,a,pl,d⟩:=I.list c;have j:=a.length;refine call_tuple_list pl.isList (λh' kp=>?_) (by simp only[zk]<;>omega);have f:AU X AN σ H { s with heap:=h' }:=I.kept (t':=s.toks) kp;have i:AU X AN σ (B8 H h'.objs.size (.tup ys)) { s with heap:=h'.push { cls:=.type "tuple",data:=.seq AQ.toArray } }:=
   f.laid (t':=s.toks) (λb o e=>ze _ e) (zi _) (show m7 X.prog X.w _ _ _ (.tup ys) from⟨d,AQ,a,iV.new _ _⟩)
  exact⟨.ref h'.objs.size,_,i,rfl,q _ (f.hok.fresh (zi _))⟩
 ·obtain⟨AQ,a,pl,d⟩:=I.tuple c;exact call_tuple_same pl ⟨.ref p,H,I,rfl,q⟩
def FU(K:B5)(T:String)(x:V)(H:Hp):Prop:=match x with
 |.str _=>T ="str"
 |.int _=>T ="int"
 |.ref p=>(T ="list" ∧ ∃xs,rE K H p xs)\/(T ="tuple" ∧ ∃o,K.lookup p=Z o/\o.cls=.type "tuple" ∧ o.dict=O) ∨
   (T ="dict" ∧ ((∃AO,H p=Z (.dK AO))\/∃AO,H p=Z (.dT AO)))\/(T ="set" ∧ ∃S n,H p=Z (.set S n))
 |_=>False
theorem Yq{σ:St}{H:Hp}{T:String}{x:V}{v:A0}(I:AU X AN σ H s)(r:B0 x v)(ty:FU X.K T x H):
  s.TypeIs v T/\∀a,v=.ref a->∃d,s.heap.get? a=Z d/\d.dict=O:=by
 cases x with
 |str z=>
  obtain⟨t,rfl⟩:=r;cases(show T ="str" from ty);exact⟨typeIs_str s z t,λ_ e=>nomatch e⟩
 |int i=>
  obtain⟨t,rfl⟩:=r;cases(show T ="int" from ty);exact⟨typeIs_int s i t,λ_ e=>nomatch e⟩
 |ref p=>
  cases r;rcases ty with⟨rfl,xs,g⟩|⟨rfl,o,hk,f,b⟩|⟨rfl,hk⟩|⟨rfl,S,n,hk⟩
  ·obtain⟨AQ,_,pl,_⟩:=I.list g;refine⟨pl.isList.typeIs,λa e=>?_⟩;cases e;obtain⟨o,n,e,c,b,_⟩:=pl;exact⟨o,e,b⟩
  ·refine⟨⟨o,I.kIn p o hk,f⟩,λa e=>?_⟩;cases e;exact⟨o,I.kIn _ o hk,b⟩
  ·have z:∃o,s.heap.get? p=Z o/\o.ExactDict:=by
    rcases hk with⟨AO,hk⟩|⟨AO,hk⟩
    ·obtain⟨_,_,_,_,o,_,_,e,ex,_⟩:=I.hok p _ hk;exact⟨o,e,ex⟩
    ·obtain⟨_,_,_,_,o,_,_,e,ex,_⟩:=I.hok p _ hk;exact⟨o,e,ex⟩
   obtain⟨o,e,ex⟩:=z;refine⟨⟨o,e,ex.1⟩,λa e2=>?_⟩;cases e2;exact⟨o,e,ex.2.1⟩
  ·obtain⟨o,_,_,_,e,ex,_⟩:=I.hok p _ hk;refine⟨⟨o,e,ex.1⟩,λa e2=>?_⟩;cases e2;exact⟨o,e,ex.2.1⟩
 |_=>exact False.elim ty
def L0(K:B5)(T:String)(r:V->Y V->Hp->VK->Prop)(to:TE)(t:TA):TE:=λσ H Q=>to σ H λx H1=>FU K T x H1/\t σ H1 λxs H2=>r x xs H2 Q
variable{to:TE}{t:TA}{T id:String}{r:V->Y V->Hp->VK->Prop}
theorem Pj(pa:PlainAttrs T)(k:Slot T name id)(b:typeOf (.builtin id)=pure (.type "method_descriptor"))(i:F3 X id r)(l:PE X o to)(g:PA X (e::es) t)
  (f:attributeBase o name X.env (eval o X.env)=eval o X.env:=by rfl)
  (j:((AD cpos (A9 (e::es) X.env)).all (λx=>!x.1)&&(backToKw cpos (keywordEach [] X.env)).all (λx=>x.1.isSome)
   && decide ((e::es).length+([]:Y AC).length+(if([]:Y AC).isEmpty then 0 else 1)<30))=true:=by rfl)
  (d:(apos.endLine==cpos.line)=true:=by rfl) (hs:A9 (e::es) X.env=(false,eval e X.env)::A9 es X.env:=by rfl) (c:(AD cpos (A9 es X.env)).any (·.1)=false:=by rfl):
  PE X (.Call (.Attribute o name apos) (e::es) [] cpos) (L0 X.K T r to t):=by
 intro AN s σ H Q I h;refine wpAny_Call_method_late f j d J (gM (l AN s σ H _ I h) λv s1 ⟨x,H1,I1,r1,ty,q1⟩=>?_);obtain⟨h1,h2⟩:=Yq I1 r1 ty;refine⟨T,id,pa,k,b,h1,h2,?_⟩;have a:=g cpos AN s1 σ H1 _ I1 q1;rw[hs]at a ⊢;refine Calls.callWith_builtin (by show(false||(AD cpos (A9 es X.env)).any (·.1))=false;rw[c]<;>rfl) (Calls.evalArgs_plain ?_);exact gM a λus s2 ⟨vs,H2,I2,r2,q2⟩=>i AN s2 σ H2 x vs v us Q I2 r1 r2 q2
end
end L2
namespace L2
def FC(X:Cx)(id:String)(r:V->Y V->Hp->VK->Prop):Prop:=
 ∀(AN:Y (A1×AE)) (s:A2) (σ:St) (H:Hp) (x:V) (xs:Y V) (v:A0) (us:Y A0) (Q:VK),AU X AN σ H s->B0 x v->AX xs us->r x xs H Q →
  A7 (f8 X) X.A (call (.builtin id) (v::us)) (EP X AN σ Q) X.xe s
section
variable{X:Cx}{σ:St}{H:Hp}{l b:A1}{xs ys zs:Y V}
theorem Pk(h:n<=AA):Builtin.List.listTooLong n=false:=by
 unfold Builtin.List.listTooLong;exact zD ()
end
section
variable{X:Cx}
def T9:V->Y V->Hp->VK->Prop:=λx vs H Q=>∃l xs y,x=.ref l/\vs=[y]/\H l=Z (.lst xs)/\xs.length<AA/\Q .non (B8 H l (.lst (xs++[y])))
theorem Bt:FC X "list.append" T9:=by
 intro AN s σ H x vs v us Q I b c h;obtain⟨l,xs,y,rfl,rfl,a,f,q⟩:=h;cases b;obtain⟨u,rfl,d⟩:=c.one;obtain⟨z,AQ,n,r,g,e⟩:=I.Ua a;refine call_meets F.slot_list_append ⟨_,e,rfl⟩ F.entry_list_append (F.args_list_append_2 _ _) (PySem.list_append l AQ.toArray n u (by rw[zk];omega)) ⟨e,?_⟩;refine⟨.non,_,I.Yr (its':=AQ++[u]) a e (by simp) (r.append (.cons d .nil)) ?_,rfl,q⟩;rw[zC,dt];omega
def Ub:V->Y V->Hp->VK->Prop:=λx vs H Q=>∃l b xs zs,x=.ref l/\vs=[.ref b]/\H l=Z (.lst xs)/\H b=Z (.lst zs)/\xs.length+zs.length<=AA/\Q .non (B8 H l (.lst (xs++zs)))
theorem M8:FC X "list.extend" Ub:=by
 intro AN s σ H x vs v us Q I f i h;obtain⟨l,b,xs,zs,rfl,rfl,c,d,p,q⟩:=h;cases f;obtain⟨u,rfl,j⟩:=i.one;cases j;obtain⟨z,AQ,n,r,t,e⟩:=I.Ua c;obtain⟨z2,a,k,o,w,e2⟩:=I.Ua d;have g:AQ.toArray.size+a.toArray.size<=AA:=by rw[zk,zk];omega
 have m:¬ (!AQ.toArray.isEmpty&&Builtin.List.listTooLong (AQ.toArray.size+a.toArray.size))=true:=by
  rw[Pk g,bz];exact qS
 refine call_meets F.slot_list_extend ⟨_,e,rfl⟩ F.entry_list_extend (F.args_list_extend_2 _ _)
  (AutoSeq1.list_extend_list_list_0 l AQ.toArray n b a.toArray k m (by rw[zk];omega) ()) ⟨e,e2,?_⟩
 refine⟨.non,_,I.Yr (its':=AQ++a) c e (by simp) (r.append o) ?_,rfl,q⟩;rw[zC];omega
end
section
variable{X:Cx}
end
end L2
namespace L2
section
variable [DecidableEq κ]
def GA(AO:Y (κ×V))(k:κ):S V:=(AO.find? λa=>decide (a.1=k)).map (·.2)
def C3(AO:Y (κ×V))(k:κ)(v:V):Y (κ×V):=
 if(AO.any λa=>decide (a.1=k))=true then AO.map (λa=>if a.1=k then(a.1,v)else a)else AO++[(k,v)]
theorem Gg(AO:Y (κ×V))(k:κ)(v:V):(C3 AO k v).length<=AO.length+1:=by
 unfold C3;split
 ·rw[zd];omega
 ·rw[zC,ZH,de];omega
end
theorem Ku{k:AY}(r:B0 (kV k) u):(dZ P w).is k u=true:=by
 cases k with
 |inl i=>obtain⟨t,e⟩:=(show ∃t,u=Value.int i t from r);subst e;exact FJ P w i t
 |inr x=>obtain⟨t,e⟩:=(show ∃t,u=Value.str x t from r);subst e;exact FN P w x t
theorem Bu{P:A3}{w:A4}:∀{ks:Y AY} {us:Y A0},AX (ks.map kV) us->ItemsAre (dZ P w) ks us
 |[],_,r=>by rw[QI]at r;cases r;exact .nil
 |k::ks,_,r=>by
  rw[zv]at r;cases r with
  |cons h t=>exact .cons (Ku h) (Bu t)
abbrev KT(H:Hp):Y (Y AY×V)->Y (Y AY×A1×A0)->Prop:=AI λp q=>p.1=q.1/\H q.2.1=Z (.tup (p.1.map kV))/\B0 p.2 q.2.2
section
variable{H:Hp}
theorem Wt{u:HO}(ok:Tf P w H h)(e:Rd H a u):m7 P w H h a u:=e.ok ok
theorem wH{AO:Y (AY×V)}(ok:Tf P w H h)(e:Rd H a (.dK AO)):AO.length<=AA/\(a==sysModules)=false/\∃vs,KV AO vs/\h.DictOf (dZ P w) a vs:=
 show m7 P w H h a (.dK AO) from Wt ok e
theorem Pn{ks:Y AY}(ok:Tf P w H h)(e:H a=Z (.tup (ks.map kV))):(tupleKind (dZ P w)).is h ks a:=by
 obtain⟨_,AQ,r,o,h1,h2,⟨n,b⟩,_⟩:=(show m7 P w H h a (.tup (ks.map kV)) from ok a _ e);exact⟨o,AQ.toArray,n,h1,h2,b,by simpa using Bu r⟩
theorem Wu{AO:Y (Y AY×V)}(ok:Tf P w H h)(e:Rd H a (.dT AO)):AO.length<=AA/\(a==sysModules)=false ∧
  ∃xs,KT H AO xs/\h.DictOfH (tupleKind (dZ P w)) a xs:=by
 obtain⟨z,y,xs,r,o,es,ep,h1,h2,f,c,i⟩:=(show m7 P w H h a (.dT AO) from Wt ok e);refine⟨z,y,xs,r,o,es,ep,h1,h2,f,c,λx hx=>?_,i⟩;have g:∀{l:Y (Y AY×V)} {m:Y (Y AY×A1×A0)},KT H l m->∀x∈m,(tupleKind (dZ P w)).is h x.1 x.2.1:=by
  intro l m q
  induction q with
  |nil=>intro x hx;exact nomatch hx
  |@cons p q ps j b t d=>
   intro x hx;rcases List.mem_cons.mp hx with e|hx
   ·subst e;exact Pn ok (by rw[<-b.1];exact b.2.1)
   ·exact d x hx
 exact g r x hx
end
def Ys(H:Hp)(a:A1)(y:V)(r:S V):Prop:=
 (∃AO k,Rd H a (.dK AO)/\y=kV k/\r=GA AO k)\/∃AO k b,Rd H a (.dT AO)/\y=.ref b/\H b=Z (.tup (k.map kV))/\r=GA AO k
section
variable{X:Cx}{σ:St}{H:Hp}{y v:V}{r:A0}{o:S V}
theorem M9{Q:BB}(q:A.units+1<cLine)(I:AU X AN σ H s)(g:Ys H a y (Z v))(n:B0 y u)(h:∀c s',AU X AN σ H s'->B0 v c->Q c s'):
  A7 (f8 X) A (getItem (.ref a) u) Q E s:=by
 rcases g with⟨AO,k,e,j,l⟩|⟨AO,k,b,e,j,eb,l⟩
 ·subst j;obtain⟨z,t,vs,d,i⟩:=wH I.hok e;obtain⟨c,f,m⟩:=Mw.some_of (v:=v) (o:=valueAt vs k) (by rw[l];exact d.val k);exact wpAny_getItem_of (Ku n) i.mapOf f (h c _ (I.tok _) m)
 ·subst j;cases(show u=Value.ref b from n);obtain⟨z,t,xs,d,i⟩:=Wu I.hok e;obtain⟨c,f,m⟩:=Mw.some_of (v:=v) (o:=(atKey xs k).map (·.2)) (by rw[l];exact d.val k);obtain⟨p,hp,r⟩:=bc.mp f;refine wpAny_getItem_heap (tupleKind_room_in1 q) (Pn I.hok eb) i hp ?_;rw[r];exact h c _ (I.tok _) m
end
section
variable{X:Cx}{σ:St}{H:Hp}{AO:Y (AY×V)}{k:AY}
end
def Yt(i:Expr):Prop:=∀a iv,subscripted i false a iv=operate [a,iv] (getItem a iv)
theorem Uc{value b:Expr}{T id:String}{Q:BB}(l:typeLookup (.type T) "__getitem__"=pure (Z (.builtin id)))(hs:Yt b)(h:A7 (A8 prog w) A (eval value env) (λo f=>A7 (A8 prog w) A (eval b env) (λi a=>a.TypeIs o T/\A7 (A8 prog w) A (getItem o i) Q E a) E f) E s):
  A7 (A8 prog w) A (eval (.Subscript value b pos) env) Q E s:=by
 refine Subscript_ (ZZ h (λo f k=>ZZ k (λi a d=>?_) λ_ _ x=>x) λ_ _ x=>x);obtain⟨g,d⟩:=d;unfold subscriptTail;refine zb ?_;rw[getitemInPython_of_ne g.not_modules];refine zb (wpAny_specialOf g l ?_);have c:A7 (A8 prog w) A (subscripted b false o i) (λr e=>A7 (A8 prog w) A (letTemporaryGo value o r >>= λ_=>pure r) Q E e) E a:=by
  rw[hs o i];exact wpAny_operating (ZZ d (λr e j=>zb (wpAny_letTemporaryGo (zg j))) λ_ _ x=>x)
 first
  |exact zg (zb c)
  |exact zb (zg (zb c))
  |exact zb c
theorem Gh{X:Cx}{σ:St}{H:Hp}{y:V}{o:S V}(I:AU X AN σ H s)(g:Ys H a y o):s.TypeIs (.ref a) "dict":=by
 rcases g with⟨AO,k,e,_,_⟩|⟨AO,k,b,e,_,_,_⟩
 ·obtain⟨_,_,vs,_,c⟩:=wH I.hok e;exact c.typeIs
 ·obtain⟨_,_,xs,_,c⟩:=Wu I.hok e;exact c.typeIs
def K2(td ty:TE):TE:=λσ H Q=>td σ H λx H1=>ty σ H1 λy H2=>∃a v,x=.ref a/\Ys H2 a y (Z v)/\Q v H2
section
variable{X:Cx}{i value:Expr}{pos':Pos}{td ty tv:TE}
theorem Ud(b:X.A.units+1<cLine)(e:PE X o td)(hi:PE X i ty)(hs:Yt i):PE X (.Subscript o i pos) (K2 td ty):=by
 intro AN s σ H Q I h;refine Uc PySem.F.slot_dict_getitem.lookup hs (gM (e AN s σ H _ I h) λu s1 ⟨x,H1,I1,rx,q1⟩=>gM (hi AN s1 σ H1 _ I1 q1) λiv s2 ⟨y,H2,I2,ry,a,v,ex,g,q2⟩=>?_);subst ex;obtain rfl:u=Value.ref a:=rx;exact⟨Gh I2 g,M9 b I2 g ry λj f c d=>⟨v,H2,c,d,q2⟩⟩
end
section
variable{X:Cx}
end
def yH(AO c:Y (AY×V)):Y (AY×V):=c.foldl (λb a=>C3 b a.1 a.2) AO
theorem rG:∀(a AO:Y (AY×V)),(yH AO a).length<=AO.length+a.length
 |[],AO=>by show AO.length<=AO.length+0;omega
 |p::r,AO=>by
  have h1:=rG r (C3 AO p.1 p.2);have h2:=Gg AO p.1 p.2;show(yH (C3 AO p.1 p.2) r).length<=_;rw[ZH];omega
structure M1 (X:Cx) (o:Expr) (m:Str) (apos:Pos) (e:Expr) (cpos:Pos):Prop where
 base:attributeBase o m X.env (eval o X.env)=eval o X.env
 few:((backTo cpos (starEach [e] X.env)).all (λx=>!x.1)&&(backToKw cpos (keywordEach [] X.env)).all (λx=>x.1.isSome)
  && decide (([e]:List Expr).length+([]:List Keyword).length+(if([]:List Keyword).isEmpty then 0 else 1)<30))=true
 line:(apos.endLine==cpos.line)=true
 trees:backTo cpos (starEach [e] X.env)=[(false,eval e X.env)]
structure M2 (X:Cx) (o:Expr) (m:Str) (apos:Pos) (e f:Expr) (cpos:Pos):Prop where
 base:attributeBase o m X.env (eval o X.env)=eval o X.env
 few:((backTo cpos (starEach [e,f] X.env)).all (λx=>!x.1)&&(backToKw cpos (keywordEach [] X.env)).all (λx=>x.1.isSome)
  && decide (([e,f]:List Expr).length+([]:List Keyword).length+(if([]:List Keyword).isEmpty then 0 else 1)<30))=true
 line:(apos.endLine==cpos.line)=true
 trees:backTo cpos (starEach [e,f] X.env)=[(false,eval e X.env),(false,eval f X.env)]
section
variable{X:Cx}{σ:St}{H:Hp}{y d:V}{r:A0}{o:S V}
end
section
variable{X:Cx}{f:Expr}{td ty tx:TE}
end
section
variable{X:Cx}{σ:St}{H:Hp}{AO:Y (AY×V)}
end
section
variable{X:Cx}{σ:St}{H:Hp}{y:V}
end
end L2
namespace Att
open PySem PySem.W PySem.Calls PyProof.Rows
theorem xu{P:Params}:∀(c:Y Int) (vs:Y A0),WellAll P h vs (c.map WData.int)->IntsAre vs c:=by
 intro c
 induction c with
 |nil=>
  intro vs w;rw[QI]at w;cases w;exact .nil
 |cons n c d=>
  intro vs w;rw[zv]at w;cases w with
  |cons a b=>
   cases a;exact .cons _ _ (d _ b)
theorem Nb{l:OpenLaw}(s:l.most=Z n){P:Params}{args:Y WData}{f:Y A0}(i:l.row.toRowW.claim.pre args=true)(v:WellAll P h f args):
  ∃a vs b,f=[Value.ref a]/\args=[WData.list (b.map WData.int)]/\h.get? a=Z { cls:=.type "list",data:=.seq vs.toArray }/\IntsAre vs b/\b.length<=n:=by
 have t:WShape.hasAll [] args [.list .int]=true:=(pre_splitW i).1;have g:l.pre.holds [] { args:=args }=true:=(pre_splitW i).2;obtain⟨d,r,rfl,h1,h2⟩:=hasAllW_cons t;obtain rfl:=hasAllW_nil h2;obtain⟨xs,rfl,o⟩:=hasW_list h1;obtain⟨b,rfl⟩:=items_int o;have p:b.length<=n:=by
  unfold OpenLaw.pre at g;have c:(WTm.not (.lt (.lit (.int (n:Int))) (.len (.arg 0)))).holds [] { args:=[.list (b.map .int)] }=true:=by
   have c:=(holds_andW g).1;rw[s]at c;exact c
  have e:=condW_of c (w_not (w_lt w_lit (w_len_list (w_arg J))));rw[zd]at e;refine cx λq=>?_;have u:(n:Int)<((b.length:Nat):Int):=by omega
  first
   |(rw[z4 u]at e;exact absurd e ())
   |(simp at e;omega)
 cases v with
 |cons m k=>
  cases k;cases m with
  |list w j=>exact⟨_,_,b,rfl,rfl,w,xu b _ j,p⟩
theorem Nf(l:OpenLaw)(args:Y WData):l.row.toRowW.claim.post args (.bool true) args=true:=
 postW_of (r:=l.row.toRowW) (X:=(true==true))
  (show WShape.has [] (.bool true) .bool=true by first|rfl|decide|simp[WShape.has,WShape.arms,WShape.armsAll])
  (show(WTm.eq .res (.lit (.bool true))).value [] { args:=args,res:=Z (.bool true),after:=args }=Z (.bool (true==true)) from w_eq_bool (w_res J) w_lit) rfl
theorem Gi{l:OpenLaw}{q:A3}{loose:At}{d:DefRec}(m:l.most=Z n)(H:d.params.defaults=[])(F:∀(w:A4) (h b:A2) (mg i:AJ->S A0) (fa:A1) (o:AE) (pm c g:A0) (a:A1) (vs:List A0) (e:List Int),
   Ground q loose [] XP w h mg i b.heap->YP w b.heap →
   b.heap.get? fa=Z o->o.data=.func (docDef d.name d.params d.body d.scope pm c g)->b.heap.CodeRec c d.name->mg d.name=Z (.ref fa) →
   b.heap.get? a=Z { cls:=.type "list",data:=.seq vs.toArray }->IntsAre vs e->e.length<=n->b.gens=#[] →
   AF (A8 l.prog w) callerA (.call (.ref fa) ⟨[.ref a],[]⟩) (λr s'=>r=.ok (.ret (.bool true))/\OldK b.heap s'.heap/\s'.os=b.os/\AllBare s'.gens) b):
  WalkO q loose XP YP l.row.toRowW d [] (λf vs=>PySem.call f vs):=by
 intro w h b mg i G Y fa o pm c g E kV t y z j A I L K as x P M B N;obtain rfl:E=.none:=Dflts.none j H;obtain rfl:kV=.none:=Dflts.noKw j;obtain⟨a,vs,e,rfl,rfl,p,C,v⟩:=Nb m x B;refine enter_call (codeAny_mono (F w h b mg i fa o pm c g a vs e G Y t (fd_plain y) z A p C v I) λr s' s=>?_);obtain⟨rfl,h2,u,k⟩:=s;exact⟨.inl ⟨.bool true,.bool true,[],rfl,λ_=>J,.bool true,Nf l _,λ_=>⟨List.Pairwise.nil,λ_ D=>(nomatch D)⟩⟩,h2,u,k⟩
section
variable{K:Frag}
end
end Att
namespace L2
theorem qF:∀{vs:Y A0} {a:Y Int},IntsAre vs a->AX (a.map V.int) vs
 |_,_,.nil=>.nil
 |_,_,.cons n t h=>.cons ⟨t,rfl⟩ (qF h)
def CC(H:Hp):Prop:=∀b,H b=O\/(∃o xs,H b=Z (.m5 o (.lst xs)))\/∃ps,H b=Z (.Mx ps)
structure Pq (K:B5) (h:Heap) (TL:List (Addr×Array Value)):Prop where
 all:∀P q,FG K P q->∃ps,TL.lookup P=some ps/\tq ps=q/\0<ps.size
 ok:∀P ps,TL.lookup P=some ps->K.lookup P=none/\h.get? P=some { cls:=.none,data:=.fields #[] }/\isCodeTable h P/\tr ps=#[]
theorem Pr{G:AJ->S A0}{CX:Ox}{fa:A1}{sp:Sp}{c:A2}{vs:Y A0}{A:Y Int}{f:Y (A1×Array A0)}(X:K.In c.heap)(Q:c.heap.Ns mainGlobals mg)(i:c.heap.Ns builtinsNs G)(a3:∀x:AJ,x ≠ "__name__" → G x=AH x)(b8:c.heap.NoLimit)(a4:∃p j,mg "__builtins__"=Z (.ref p)/\p≠builtinsNs/\c.heap.get? p=Z j/\j.cls=.type "module" ∧ j.dict=Z builtinsNs/\j.data=.plain)(hg:c.gens=#[])(t:c.heap.get? a=Z { cls:=.type "list",data:=.seq vs.toArray })(hi:IntsAre vs A)(N:A.length<=AA)(hr:ni k callerA)(F:∀base:A6,K.In base->base.Ns mainGlobals mg->ud P w K mg base CX k fa fd [x] sp)(a5:∀(s:A2) (u:A0),BindsTo s fd ⟨[u],[]⟩ [(x,u)])(a6:∀H:Hp,CC H->rE K H a (A.map V.int)->sp [.ref a] H (λv _=>v=.bl true) λ_ _ _=>False)(b7:∀H e s',CX [] H c (λ_ _ _=>False) e s'->False)(T:Pq K c.heap f):
  AF (A8 P w) callerA (.call (.ref fa) ⟨[.ref a],[]⟩) (λr s'=>r=.ok (.ret (.bool true))/\OldK c.heap s'.heap/\s'.os=c.os/\AllBare s'.gens) c:=by
 have rv:=qF hi;have b0:=hi.length;have nt:f.lookup a=O:=by
  cases e:f.lookup a with
  |none=>rfl
  |some ps=>
   have q:=(T.ok a ps e).2.1;rw[t]at q;cases q
 have a2:∀(H:Hp) (b:A1) (ps:Array A0),f.lookup b=Z ps->m7 P w H c.heap b (.Mx ps):=λH b ps e=>by
  obtain⟨_,g,_,z⟩:=T.ok b ps e;refine⟨#[],by rw[z];exact g,?_,λpos cv q=>?_⟩
  ·rw[z];simp[TriplesOk]
  ·rw[z]at q;cases q
 have W:∀H:Hp,CC H->rE K H a (A.map V.int)->Tf P w H c.heap->(∀b,H b≠O->b=a\/∃ps,f.lookup b=Z ps)->(∀b ps,f.lookup b=Z ps->H b=Z (.Mx ps))->(H a≠O->K.lookup a=O) →
   AF (A8 P w) callerA (.call (.ref fa) ⟨[.ref a],[]⟩) (λr s'=>r=.ok (.ret (.bool true))/\OldK c.heap s'.heap/\s'.os=c.os/\AllBare s'.gens) c:=by
  intro H M hS I C a9 hK;have D:∀{b:A1} {o:AE},c.heap.get? b=Z o->H b=O->(FQ c.heap H).get? b=Z o:=λe n=>abr e n;have TV:∀{b:A1} {o:AE} {es:Array DictEntry} {ep:Nat},c.heap.get? b=Z o->o.data=.dict es ep->H b=O:=λ{b o es ep} e d=>by
   cases q:H b with
   |none=>rfl
   |some u=>
    rcases C b (by rw[q];simp)with e'|⟨ps,e'⟩
    ·subst e';rw[t]at e;cases e;have d':Data.seq vs.toArray _=Data.dict es ep:=d;cases d'
    ·rw[(T.ok b ps e').2.1]at e;cases e;cases d
  have B:∀{b:A1} {m:AJ->S A0},c.heap.Ns b m->(FQ c.heap H).Ns b m:=λ{b m} ⟨o,es,ep,e,d,r⟩=>⟨o,es,ep,D e (TV e d),d,r⟩;have L:K.In (FQ c.heap H):=λb o e=>D (X b o e) (by
   cases q:H b with
   |none=>rfl
   |some u=>
    rcases C b (by rw[q];simp)with e'|⟨ps,e'⟩
    ·subst e';rw[hK (by rw[q];simp)]at e;cases e
    ·rw[(T.ok b ps e').1]at e;cases e)
  have hM:Mod K mg (FQ c.heap H):=⟨L,B Q,⟨G,B i,a3⟩,let ⟨mc,h1,h2⟩:=b8;⟨mc,B h1,h2⟩,let ⟨p,j,b1,b2,b3,b4,b5,b6⟩:=a4;⟨p,j,b1,b2,D b3 (by
   cases q:H p with
   |none=>rfl
   |some u=>
    rcases C p (by rw[q];simp)with e'|⟨ps,e'⟩
    ·subst e';rw[t]at b3;cases b3;injection b4 with z;exact absurd z ()
    ·rw[(T.ok p ps e').2.1]at b3;cases b3;cases b4),b4,b5,b6⟩⟩
  have e0:Yh P w K mg (FQ c.heap H) callerA [] c H:=⟨rfl,hM,λb o e=>Tq e,bj (MF _ _),trivial,λb i=>absurd (show b∈([]:Y A1) from i) (by simp),I,.of_eq hg,λP q k=>by
   obtain⟨ps,l,r⟩:=T.all P q k;exact⟨ps,a9 P ps l,r⟩⟩
  refine codeAny_mono ((F _ L (B Q)).run callerA [] c H ⟨[.ref a],[]⟩ [.ref a] [.ref a] _ _ hr e0 (a5 c (.ref a)) (.cons J .nil) (a6 H M hS)) λr s' h=>?_;cases r with
  |error e=>exact(b7 H e s' h).elim
  |ok fl=>
   cases fl with
   |next=>exact False.elim h
   |brk=>exact False.elim h
   |cont=>exact False.elim h
   |ret u=>
    obtain⟨v,H',os,a8,E,a1,r',q⟩:=h;have q':v=.bl true:=q;subst q';obtain rfl:u=Value.bool true:=r';have U:∀b o,c.heap.get? b=Z o->s'.heap.get? b=Z o\/(isCodeTable c.heap b/\o.cls=.none/\∃vs a0,o.data=.fields vs/\s'.heap.get? b=Z { o with data:=.fields (vs++a0) }):=λb o e=>by
     cases q:H b with
     |none=>exact .inl (E.keep b o e q (by intro z;exact absurd (show b∈([]:Y A1) from z) (by simp)) (by simp))
     |some u=>
      rcases M b with z|⟨j,xs,z⟩|⟨ps,z⟩
      ·rw[q]at z;cases z
      ·have z2:=E.Mz b j _ z;obtain⟨e1,_⟩:=I b _ z;obtain⟨e2,_⟩:=a1 b _ z2;rw[e]at e1;cases e1;exact .inl e2
      ·rcases C b (by rw[q];simp)with e'|⟨a7,e'⟩
       ·subst e';obtain⟨a0,g,_⟩:=I b _ z;rw[t]at g;cases g
       ·obtain⟨_,g,ct,_⟩:=T.ok b a7 e';rw[e]at g;cases g;obtain⟨m1,z2⟩:=E.FP b ps z;obtain⟨m2,g2,_⟩:=a1 b _ z2;exact .inr ⟨ct,rfl,#[],_,rfl,by rw[g2,Array.empty_append]⟩
    refine⟨rfl,⟨λb o e=>(U b o e).imp id .inl,λb o e=>?_⟩,os,a8⟩;rcases U b o e with z|⟨_,_,_,_,_,z⟩<;>exact⟨_,z⟩
 cases hk:K.lookup a with
 |some o=>
  have e:=X a o hk;rw[t]at e;cases e;refine W (λb=>(f.lookup b).map .Mx) (λb=>?_) (.inr ⟨_,vs.toArray,_,hk,rfl,rfl,rfl,by rw[zk,b0];exact N,by simpa using rv⟩) (λb u z=>?_) (λb z=>?_) (λb ps e=>by show(f.lookup b).map _=_;rw[e];rfl) λz=>absurd (by show(f.lookup a).map _=O;rw[nt];rfl) z
  ·cases e:f.lookup b with
   |none=>exact .inl (by show(f.lookup b).map HO.Mx=O;rw[e];rfl)
   |some ps=>exact .inr (.inr ⟨ps,by show(f.lookup b).map HO.Mx=_;rw[e];rfl⟩)
  ·have z:(f.lookup b).map HO.Mx=Z u:=z;cases e:f.lookup b with
   |none=>rw[e]at z;cases z
   |some ps=>rw[e]at z;cases z;exact a2 _ b ps e
  ·cases e:f.lookup b with
   |none=>exact absurd (by show(f.lookup b).map HO.Mx=O;rw[e];rfl) z
   |some ps=>exact .inr ⟨ps,rfl⟩
 |none=>
  refine W (λb=>if b=a then Z (.m5 { cls:=.type "list",data:=.seq vs.toArray } (.lst (A.map V.int)))else(f.lookup b).map .Mx) (λb=>?_) (.inl (.inr ⟨{ cls:=.type "list",data:=.seq vs.toArray },zh rfl⟩)) (λb u z=>?_) (λb z=>?_) (λb ps e=>?_) λ_=>hk
  ·by_cases i:b=a
   ·exact .inr (.inl ⟨_,_,zh i⟩)
   ·cases e:f.lookup b with
    |none=>exact .inl ((zo i).trans (by rw[e];rfl))
    |some ps=>exact .inr (.inr ⟨ps,(zo i).trans (by rw[e];rfl)⟩)
  ·by_cases i:b=a
   ·have y:=(zh i).symm.trans z;cases y;subst i;exact⟨t,by rw[zd];exact N,vs,_,rv,t⟩
   ·have y:=(zo i).symm.trans z;cases e:f.lookup b with
    |none=>rw[e]at y;cases y
    |some ps=>rw[e]at y;cases y;exact a2 _ b ps e
  ·by_cases i:b=a
   ·exact .inl i
   ·cases e:f.lookup b with
    |none=>exact absurd ((zo i).trans (by rw[e];rfl)) z
    |some ps=>exact .inr ⟨ps,rfl⟩
  ·have i:b≠a:=λz=>by rw[z,nt]at e;cases e
   exact(zo i).trans (by rw[e];rfl)
end L2
namespace L2
theorem Ue{q:A3}{loose:At}{d:DefRec}{K:Params->B5}{CX:A4->Ox}{sp:A4->Sp}(t:l.most=Z n)(I:n<=AA)(P:d.params.defaults=[])(C:ni k callerA)(z:∀(w:A4) (h:A6),YP w h->(K w.params).In h)(F:∀(w:A4) (mg:AJ->S A0) (fa:A1) (h:A6),(K w.params).In h->h.Ns mainGlobals mg->mg d.name=Z (.ref fa) →
   ∃fd:FuncData,(∀(s:A2) (u:A0),BindsTo s fd ⟨[u],[]⟩ [(x,u)]) ∧
    ∀base:A6,(K w.params).In base->base.Ns mainGlobals mg->ud l.prog w (K w.params) mg base (CX w) k fa fd [x] (sp w))(E:∀(w:A4) (H:Hp) (a:A1) (c:List Int),c.length<=n->CC H->rE (K w.params) H a (c.map V.int)->sp w [.ref a] H (λv _=>v=.bl true) λ_ _ _=>False)(Q:∀(w:A4) (H:Hp) (s:A2) (e:A0) (s':A2),CX w [] H s (λ_ _ _=>False) e s'->False)(N:∀(w:A4) (h:A6) (mg p:AJ->S A0) (D:ExcName->S A0) (ls:At),(K w.params).In h->Top q ls D mg p h->∃j,Pq (K w.params) h j):
  PySem.W.WalkO q loose XP YP l.row.toRowW d [] (λf vs=>PySem.call f vs):=by
 refine Att.Gi t P λw a1 X mg p fa o pm cd a0 a vs c G Y ho hd a2 L y M m U=>?_;have i:=z w _ Y;obtain⟨fd,hb,r⟩:=F w mg fa _ i G.T.g L;obtain⟨j,tl⟩:=N w _ _ _ _ _ i G.T;exact Pr i G.T.g G.T.b G.T.builtins G.T.nolimit G.T.bmain U y M (zl m I) C r hb (λH A B=>E w H a c m A B) (λH e s'=>Q w H X e s') tl
theorem Pu{q:A3}{loose:At}{d:DefRec}{K:Params->B5}{CX:Ox}{sp:B5->Sp}(o:l.most=Z n)(t:n<=AA)(c:d.params.defaults=[])(B:ni k callerA)(p:∀(w:A4) (h:A6),YP w h->(K w.params).In h)(F:∀(w:A4) (mg:AJ->S A0) (fa:A1) (h:A6),(K w.params).In h->h.Ns mainGlobals mg->mg d.name=Z (.ref fa) →
   ∃fd:FuncData,(∀(s:A2) (u:A0),BindsTo s fd ⟨[u],[]⟩ [(x,u)]) ∧
    ∀base:A6,(K w.params).In base->base.Ns mainGlobals mg->ud l.prog w (K w.params) mg base CX k fa fd [x] (sp (K w.params)))(r:∀(K:B5) (H:Hp) (a:A1) (b:Y Int),b.length<=n->CC H->rE K H a (b.map V.int)->sp K [.ref a] H (λv _=>v=.bl true) λ_ _ _=>False)(i:∀(H:Hp) (s:A2) (e:A0) (s':A2),CX [] H s (λ_ _ _=>False) e s'->False)(y:∀(w:A4) (h:A6) (mg j:AJ->S A0) (g:ExcName->S A0) (A:At),(K w.params).In h->Top q A g mg j h->∃z,Pq (K w.params) h z):
  PySem.W.WalkO q loose XP YP l.row.toRowW d [] (λf vs=>PySem.call f vs):=
 Ue (K:=K) (CX:=λ_=>CX) (sp:=λw=>sp (K w.params)) o t c B p F (λw H a b h1 h2 m=>r (K w.params) H a b h1 h2 m) (λ_ H s e s'=>i H s e s') y
end L2
namespace L2
def qG(s:AB):Arguments:=match s with
 |.FunctionDef _ a _ _ _ _ _ _ _ _=>a
 |_=>{ posonlyargs:=[],args:=[],vararg:=O,kwonlyargs:=[],kw_defaults:=[],kwarg:=O,defaults:=[] }
def iW(s:AB):Y AB:=match s with
 |.FunctionDef _ _ b _ _ _ _ _ _ _=>b
 |_=>[]
def aQ(s:AB):Scope:=match s with
 |.FunctionDef _ _ _ _ _ _ a _ _ _=>a
 |_=>{ kind:=.function,names:=[],isGenerator:=false,isCoroutine:=false }
abbrev Ji:Ox:=λ_ _ _ _ _ _=>False
abbrev E0:XK:=λ_ _ _=>False
theorem LI{X:Cx}:C2 Ji X E0:=λ_ _ _ _ _ _ _ h=>h.elim
structure D6 (K:B5) (x qual:Str) (st:Stmt) (f:Addr) (fd:FuncData):Prop where
 ex:∃(oc:Value) (od:Option Addr) (kV doc pm:Value) (an:Option Addr) (cdv ct:Value) (osl:Array (Option Value)),
  fd=fnOf x qual (qG st) (iW st) (aQ st) .none kV doc pm an cdv ct/\K.lookup f=some ⟨oc,od,.func fd,osl⟩/\codeIn K cdv qual=true
 kp:keepIn K (.ref f)=true
theorem Px{f:A1}{g:A0}{e b:S A1}{kV d pm a ct:A0}(l:K.lookup f=Z ⟨g,e,.func (fnOf x qual (qG st) (iW st) (aQ st) .none kV d pm b a ct),osl⟩)(c:codeIn K a qual=true)(k:keepIn K (.ref f)=true):D6 K x qual st f (fnOf x qual (qG st) (iW st) (aQ st) .none kV d pm b a ct):=⟨⟨g,e,kV,d,pm,b,a,ct,osl,rfl,l,c⟩,k⟩
section
variable{X:Cx}
theorem pv(i:Nat)(d:X.N[i]?=Z x:=by rfl)(a:Tg X.env.scope x:=by first|exact kA rfl|exact jI (kA J)|exact jI (jI J))(c:f7 x:=by decide)(b:(x==("__classdict__":AJ))=false:=by decide):PE X (.Name x pos) (Ff i):=yx d a c b
end
def AV(H H':Hp):Prop:=∀b o,H b=Z o->H' b=Z o
theorem AV.refl(H:Hp):AV H H:=λ_ _ h=>h
end L2
variable{H:L2.Hp}{X:L2.Cx}{σ:L2.St}{ta te:L2.TE}{vs:Y L2.V}{AO:Y (L2.AY×L2.V)}{sp:L2.Sp}{ks:Y L2.AY}{H0:L2.Hp}{bV:Y (Y L2.AY)}
namespace P1
open L2
inductive Dt where
 |non|bl (b:Bool)|int (i:Int)|str (x:Str)|tup (xs:List Dt)|lst (xs:List Dt)|emp
inductive Bx where
 |z (d:Dt)|l (ds:List Dt)|o (ds:List Dt)|n (AO:List (AY×Dt))|m (AO:List (AY×Dt)) (w:Option Addr)
abbrev Ev:=Y (S Bx)
def HP(K:B5)(H:Hp)(a:A1)(xs:Y V):Prop:=
 (∃o,H a=Z (.m5 o (.lst xs))) ∨
  ∃(o:AE) (AQ:Array A0) (n:Nat),K.lookup a=Z o/\o.cls=.type "list" ∧ o.dict=O/\o.data=.seq AQ n/\AQ.size<=AA/\AX xs AQ.toList
mutual
def AW(K:B5)(H:Hp):Dt->V->Prop
 |.non,v=>v=.non
 |.bl b,v=>v=.bl b
 |.int i,v=>v=.int i
 |.str x,v=>v=.str x/\x.length<=AA
 |.tup ds,v=>∃a vs,v=.ref a/\tU K H a vs/\aU K H ds vs
 |.lst ds,v=>∃a vs,v=.ref a/\HP K H a vs/\aU K H ds vs
 |.emp,v=>∃a o,v=.ref a/\H a=Z (.m5 o (.dK []))
def aU(K:B5)(H:Hp):Y Dt->Y V->Prop
 |[],vs=>vs=[]
 |d::ds,vs=>∃v r,vs=v::r/\AW K H d v/\aU K H ds r
end
structure Kp (H H':Hp):Prop where
 t:∀a xs,H a=some (.tup xs)->H' a=some (.tup xs)
 f:∀a o u,H a=some (.m5 o u)->H' a=some (.m5 o u)
theorem Kp.lst{xs:Y V}{o:HO}(h:H a=Z (.lst xs)):Kp H (B8 H a o):=by
 refine⟨λb ys e=>?_,λb c u e=>?_⟩
 ·rw[bh (wD e h (by intro z;cases z))];exact e
 ·rw[bh (wD e h (by intro z;cases z))];exact e
theorem aU.nil:aU K H [] []:=by simp only[aU]
theorem aU.cons{K:B5}{H:Hp}{d:Dt}{v:V}{ds:Y Dt}{vs:Y V}(h:AW K H d v)(t:aU K H ds vs):aU K H (d::ds) (v::vs):=by
 simp only[aU];exact⟨v,vs,rfl,h,t⟩
def GN:AY->Prop
 |.inl _=>True
 |.inr x=>x.length<=AA
def Py(K:B5)(H:Hp)(AO:Y (AY×Dt))(ks:Y (AY×V)):Prop:=ks.map (·.1)=AO.map (·.1)/\aU K H (AO.map (·.2)) (ks.map (·.2))/\∀p∈AO,GN p.1
def aY(K:B5)(H:Hp):Bx->V->Prop
 |.z d,v=>AW K H d v
 |.l ds,v=>∃a vs,v=.ref a/\Rd H a (.lst vs)/\aU K H ds vs
 |.o ds,v=>∃a vs,v=.ref a/\H a=Z (.lst vs)/\aU K H ds vs
 |.n AO,v=>∃a ks,v=.ref a/\Rd H a (.dK ks)/\Py K H AO ks
 |.m AO w,v=>∃a ks,v=.ref a/\H a=Z (.dK ks)/\Py K H AO ks/\∀b,w=Z b->b=a
def nj:Bx->S (Y Dt)
 |.z (.lst ds)=>Z ds
 |.l ds=>Z ds
 |.o ds=>Z ds
 |_=>O
abbrev rH(K:B5)(H:Hp):Y Bx->Y V->Prop:=AI (aY K H)
def Nw(H:Hp):Bx->V->Prop
 |.o _,v=>∀a,v=.ref a->H a=O
 |.m _ _,v=>∀a,v=.ref a->H a=O
 |_,_=>True
def loose:Bx->Bool
 |.z _=>false
 |_=>true
def Jj:Bx->Bool
 |.o _=>true
 |.m _ _=>true
 |_=>false
structure eV (K:B5) (H0 H:Hp) (σ:L2.St) (ρ:Ev):Prop where
 len:σ.length=ρ.length
 val:∀(i:Nat) b,ρ[i]?=some (some b)->∃v,σ[i]?=some (some v)/\aY K H b v
 own:∀(i j:Nat) c a b,ρ[i]?=some (some c)->Jj c=true->σ[i]?=some (some (.ref a))->ρ[j]?=some (some b)->loose b=true->σ[j]?=some (some (.ref a))->i=j
 base:AV H0 H
 new:∀(i:Nat) c a,ρ[i]?=some (some c)->Jj c=true->σ[i]?=some (some (.ref a))->H0 a=none
def tF(K:B5)(f:Ev->S Bx):TE:=λσ H Q=>∃H0 ρ b,eV K H0 H σ ρ/\f ρ=Z b/\∀v H',AV H H'->Nw H b v->aY K H' b v->Q v H'
def G0(K:B5)(f:Ev->S (Y Bx)):TA:=λσ H Q=>∃H0 ρ a,eV K H0 H σ ρ/\f ρ=Z a/\∀vs H',AV H H'->rH K H' a vs->Q vs H'
def D4(K:B5)(f:Ev->S Bool):TT:=λσ H Q=>∃H0 ρ b,eV K H0 H σ ρ/\f ρ=Z b/\∀H',AV H H'->Q b H'
def PV(X:Cx)(e:Expr)(f:Ev->S Bx):Prop:=PE X e (tF X.K f)
structure QV (X:Cx) (e:Expr) (f:Ev->Option Bx):Prop where
 run:PV X e f
def DL(X:Cx)(es:Y Expr)(f:Ev->S (Y Bx)):Prop:=PA X es (G0 X.K f)
structure Kv (X:Cx) (es:List Expr) (f:Ev->Option (List Bx)):Prop where
 run:DL X es f
def PB(X:Cx)(e:Expr)(f:Ev->S Bool):Prop:=PT X e (D4 X.K f)
structure QB (X:Cx) (e:Expr) (f:Ev->Option Bool):Prop where
 run:PB X e f
theorem Gj{t t':TE}(h:PE X e t)(m:∀ σ H Q,t' σ H Q->t σ H Q):PE X e t':=λAN s σ H Q I q=>h AN s σ H Q I (m σ H Q q)
theorem FR{e:Y Expr}{t t':TA}(h:PA X e t)(m:∀ σ H Q,t' σ H Q->t σ H Q):PA X e t':=λpos AN s σ H Q I q=>h pos AN s σ H Q I (m σ H Q q)
theorem ES{t t':TT}(h:PT X e t)(m:∀ σ H Q,t' σ H Q->t σ H Q):PT X e t':=λAN s σ H Q I q=>h AN s σ H Q I (m σ H Q q)
theorem LU{t t':TT}(h:PW X e t)(m:∀ σ H Q,t' σ H Q->t σ H Q):PW X e t':=λa AN s σ H Q I q=>h a AN s σ H Q I (m σ H Q q)
theorem Ug{e:AB}{t t':TS}(h:PS X e t)(m:∀D σ H,t' D σ H->t D σ H):PS X e t':=λAN s σ H D I q=>h AN s σ H D I (m D σ H q)
theorem Yu{e:Y AB}{t t':TS}(h:Kg X e t)(m:∀D σ H,t' D σ H->t D σ H):Kg X e t':=λAN s σ H D I q=>h AN s σ H D I (m D σ H q)
def rF(K:B5)(g:Bx->Bx->S Bx):R2:=λx y H Q=>∃a b c,aY K H a x/\aY K H b y/\g a b=Z c/\∀w H',AV H H'->Nw H c w->aY K H' c w->Q w H'
def FY(K:B5)(g:Bx->S Bx):V->Hp->VK->Prop:=λx H Q=>∃a c,aY K H a x/\g a=Z c/\∀w H',AV H H'->Nw H c w->aY K H' c w->Q w H'
def F1(K:B5)(g:Y Bx->S Bx):Y V->Hp->VK->Prop:=λxs H Q=>∃a c,rH K H a xs/\g a=Z c/\∀w H',AV H H'->Nw H c w->aY K H' c w->Q w H'
abbrev Dd(X:Cx)(f:A0->A0->Sem A0)(g:Bx->Bx->S Bx):Prop:=u9 X f (rF X.K g)
abbrev FK(X:Cx)(f:A0->Sem A0)(g:Bx->S Bx):Prop:=Wr X f (FY X.K g)
abbrev pI(X:Cx)(f:A0)(g:Y Bx->S Bx):Prop:=m9 X f (F1 X.K g)
theorem u9.imp{X:Cx}{f:A0->A0->Sem A0}{r a:R2}(h:u9 X f r)(m:∀x y H Q,a x y H Q->r x y H Q):u9 X f a:=λAN s σ H x y v u Q I b c q=>h AN s σ H x y v u Q I b c (m x y H Q q)
theorem Wr.imp{X:Cx}{f:A0->Sem A0}{r a:V->Hp->VK->Prop}(h:Wr X f r)(m:∀x H Q,a x H Q->r x H Q):Wr X f a:=λAN s σ H x v Q I b q=>h AN s σ H x v Q I b (m x H Q q)
def b2(g:Bx->Bx->S Bx)(fa fb:Ev->S Bx):Ev->S Bx:=λρ=>(fa ρ).bind λx=>(fb ρ).bind λy=>g x y
def b1(g:Bx->S Bx)(fa:Ev->S Bx):Ev->S Bx:=λρ=>(fa ρ).bind g
def cQ(g:Y Bx->S Bx)(fs:Ev->S (Y Bx)):Ev->S Bx:=λρ=>(fs ρ).bind g
theorem AT{o:S α}{f:α->S β}{b:β}(h:o.bind f=Z b):∃a,o=Z a/\f a=Z b:=by
 cases o with
 |none=>cases h
 |some a=>exact⟨a,rfl,h⟩
theorem Pz{g:Bx->Bx->S Bx}{fa fb:Ev->S Bx}(σ:L2.St)(H:Hp)(Q:VK)(h:tF K (b2 g fa fb) σ H Q):DJ (rF K g) (tF K fa) (tF K fb) σ H Q:=by
 obtain⟨H0,ρ,c,E,e,q⟩:=h;obtain⟨a,ea,e⟩:=AT e;obtain⟨b,eb,e⟩:=AT e;refine⟨H0,ρ,a,E,ea,λv H1 f p l=>⟨H0,ρ,b,E.grow f,eb,λu H2 d o n=>?_⟩⟩;exact⟨a,b,c,l.same d,n,e,λw j i m k=>q w j ((f.trans d).trans i) (m.old (f.trans d)) k⟩
theorem L6{g:Bx->S Bx}{fa:Ev->S Bx}(σ:L2.St)(H:Hp)(Q:VK)(h:tF K (b1 g fa) σ H Q):G1 (FY K g) (tF K fa) σ H Q:=by
 obtain⟨H0,ρ,c,E,e,q⟩:=h;obtain⟨a,ea,e⟩:=AT e;exact⟨H0,ρ,a,E,ea,λv H1 b l i=>⟨a,c,i,e,λw f d j k=>q w f (b.trans d) (j.old b) k⟩⟩
theorem CO{g:Y Bx->S Bx}{fs:Ev->S (Y Bx)}(σ:L2.St)(H:Hp)(Q:VK)(h:tF K (cQ g fs) σ H Q):ET (F1 K g) (G0 K fs) σ H Q:=by
 obtain⟨H0,ρ,c,E,e,q⟩:=h;obtain⟨a,ea,e⟩:=AT e;exact⟨H0,ρ,a,E,ea,λv H1 b i=>⟨a,c,i,e,λw f d j k=>q w f (b.trans d) (j.old b) k⟩⟩
section
variable{a b:Expr}{fa fb fc f:Ev->S Bx}{fs:Ev->S (Y Bx)}
theorem aV{op:Operator}{g:Bx->Bx->S Bx}(e:Dd X (binaryOp op) g)(d:QV X a fa)(c:QV X b fb):QV X (.BinOp a op b pos) (b2 g fa fb):=⟨have d:=d.run;have c:=c.run;Gj (LB e d c) Pz⟩
theorem Kw{op:UnaryOp}{g:Bx->S Bx}(c:FK X (unaryOp op) g)(b:QV X a fa):QV X (.UnaryOp op a pos) (b1 g fa):=⟨have b:=b.run;Gj (IS c b) L6⟩
theorem fW{g:Bx->Bx->S Bx}(f:Dd X (AG op) g)(d:QV X a fa)(c:QV X b fb)(e:behindInMarks op b=false):QV X (.Compare a [op] [b] pos) (b2 g fa fb):=⟨have d:=d.run;have c:=c.run;Gj (TF f d c e) Pz⟩
def yI:Bx->S Bool
 |.z (.bl b)=>Z b
 |_=>O
theorem uh{b:Bx}{v:V}{k:Bool}(h:aY K H b v)(e:yI b=Z k):v=.bl k:=by
 cases b with
 |z d=>
  cases d<;>first|(cases e;done)|skip;cases e;simpa only[aY,AW]using h
 |_=>cases e
theorem He(σ:L2.St)(H:Hp)(Q:Bool->Hp->Prop)(h:D4 K (λρ=>(f ρ).bind yI) σ H Q):tF K f σ H (λx H'=>∃k,x=.bl k/\Q k H'):=by
 obtain⟨H0,ρ,k,E,e,q⟩:=h;obtain⟨b,eb,e⟩:=AT e;exact⟨H0,ρ,b,E,eb,λv H1 a d c=>⟨k,uh c e,q H1 a⟩⟩
theorem cR{g:Bx->Bx->S Bx}(f:Dd X (AG op) g)(d:QV X a fa)(c:QV X b fb)(e:behindInMarks op b=false):QB X (.Compare a [op] [b] pos) (λρ=>(b2 g fa fb ρ).bind yI):=⟨have d:=d.run;have c:=c.run;ES (TJ f d c e) λσ H Q h=>Pz σ H _ (He σ H Q h)⟩
def DA(g g':Bx->Bx->S Bx)(fa fb fc:Ev->S Bx):Ev->S Bx:=λρ=>(fa ρ).bind λx=>(fb ρ).bind λy=>(g x y).bind λr=>(yI r).bind λk=>if k=true then(fc ρ).bind λw=>g' y w else Z (.z (.bl false))
theorem MT{g g':Bx->Bx->S Bx}(σ:L2.St)(H:Hp)(Q:VK)(h:tF K (DA g g' fa fb fc) σ H Q):O7 (rF K g) (rF K g') (tF K fa) (tF K fb) (tF K fc) σ H Q:=by
 obtain⟨H0,ρ,d,E,e,q⟩:=h;obtain⟨a,ea,e⟩:=AT e;obtain⟨b,eb,e⟩:=AT e;obtain⟨r,er,e⟩:=AT e;obtain⟨k,ek,e⟩:=AT e;refine⟨H0,ρ,a,E,ea,λv H1 i F C=>⟨H0,ρ,b,E.grow i,eb,λu H2 m M l=>?_⟩⟩;refine⟨a,b,r,C.same m,l,er,λw B n G D=>⟨k,uh D ek,?_⟩⟩;have c:=(i.trans m).trans n;cases k with
 |false=>
  rw[zo qS]at e ⊢;cases e;exact q _ B c trivial (by simp only[aY,AW])
 |true=>
  rw[zh rfl]at e ⊢;obtain⟨j,z,e⟩:=AT e;refine⟨H0,ρ,j,E.grow c,z,λx I f L o=>?_⟩;exact⟨b,j,d,(l.same n).same f,o,e,λy p s A t=>q y p ((c.trans f).trans s) (A.old (c.trans f)) t⟩
theorem PJ{d:CmpOp}{g g':Bx->Bx->S Bx}(k:Dd X (AG op) g)(i:Dd X (AG d) g')(f:QV X a fa)(h:QV X b fb)(e:QV X c fc)(j:lastMarks [op,d] [b,c]=false:=by with_unfolding_all rfl):QV X (.Compare a [op,d] [b,c] pos) (DA g g' fa fb fc):=⟨have f:=f.run;have h:=h.run;have e:=e.run;Gj (O8 k i f h e j) MT⟩
def Am(ρ:Ev)(i:Nat):S Bx:=match ρ[i]? with
 |some (Z (.o ds))=>Z (.l ds)
 |some (Z (.m AO _))=>Z (.n AO)
 |some (Z b)=>Z b
 |_=>O
theorem PK{ρ:Ev}{b:Bx}(E:eV K H0 H σ ρ)(e:Am ρ i=Z b):∃v,σ[i]?=Z (Z v)/\aY K H b v:=by
 unfold Am at e;split at e
 ·rename_i ds h;cases e;obtain⟨v,e1,a,vs,e2,q,r⟩:=E.val i _ h;exact⟨v,e1,a,vs,e2,.inl q,r⟩
 ·rename_i ds h;cases e;obtain⟨v,e1,a,vs,e2,q,r⟩:=E.val i _ h;exact⟨v,e1,a,vs,e2,.inl q,r.1⟩
 ·rename_i c h;cases e;exact E.val i _ h
 ·cases e
theorem Dg{ρ:Ev}{b:Bx}(e:Am ρ i=Z b):Jj b=false:=by
 unfold Am at e;split at e
 ·cases e;rfl
 ·cases e;rfl
 ·rename_i a h1 h2 c;cases e;cases b with
  |o ds=>exact absurd J (h1 ds)
  |m ds _=>exact absurd J (h2 ds _)
  |_=>rfl
 ·cases e
theorem ak(i:Nat)(f:X.N[i]?=Z x:=by rfl)(a:Tg X.env.scope x:=by first|exact kA rfl|exact jI (kA J)|exact jI (jI J))(d:f7 x:=by decide)(c:(x==("__classdict__":AJ))=false:=by decide):QV X (.Name x pos) (λρ=>Am ρ i):=⟨Gj (yx f a d c) λσ H Q h=>by
 obtain⟨H0,ρ,b,E,e,q⟩:=h;obtain⟨v,e1,r⟩:=PK E e;refine⟨v,e1,q v H (AV.refl H) ?_ r⟩;cases b with
 |o ds=>have:=Dg e;cases this
 |m ds _=>have:=Dg e;cases this
 |_=>trivial⟩
def cB(d:Dt):Ev->S Bx:=λ_=>Z (.z d)
theorem Uh{v:V}{d:Dt}(h:PE X e (tC v))(r:∀H,AW X.K H d v):PV X e (cB d):=Gj h λσ H Q q=>by
 obtain⟨H0,ρ,b,E,e,q⟩:=q;cases e;exact q v H (AV.refl H) trivial (r H)
theorem aC{i j}:QV X (.Constant (.int i) j pos) (cB (.int i)):=⟨Uh Xq λH=>by simp only[AW]⟩
theorem um{i j}:QV X (.Constant (.bool i) j pos) (cB (.bl i)):=⟨Uh HU λH=>by simp only[AW]⟩
theorem nR{j}:QV X (.Constant .none j pos) (cB .non):=⟨Uh Xr λH=>by simp only[AW]⟩
theorem PL{j}(hx:x.length<=AA:=by decide):PV X (.Constant (.str x) j pos) (cB (.str x)):=Uh Xu λH=>by unfold AW;exact⟨rfl,hx⟩
def Ui:Bx->S Bool
 |.z .non=>Z false
 |.z (.bl b)=>Z b
 |.z (.int i)=>Z (i != 0)
 |.z (.str x)=>Z ((x.length:Int) != 0)
 |.z (.tup ds)=>Z (!ds.isEmpty)
 |.z (.lst ds)=>Z (!ds.isEmpty)
 |.l ds=>Z (!ds.isEmpty)
 |.o ds=>Z (!ds.isEmpty)
 |.z .emp=>O
 |.n _=>O
 |.m _ _=>O
theorem Uj{b:Bx}{v:V}{k:Bool}(r:aY K H b v)(e:Ui b=Z k):Yc K v H k:=by
 cases b with
 |z d=>
  cases d with
  |non=>cases e;simp only[aY,AW]at r;subst r;rfl
  |bl b=>cases e;simp only[aY,AW]at r;subst r;rfl
  |int b=>cases e;simp only[aY,AW]at r;subst r;rfl
  |str x=>cases e;simp only[aY,AW]at r;obtain⟨rfl,h⟩:=r;exact⟨h,rfl⟩
  |tup ds=>
   cases e;simp only[aY,AW]at r;obtain⟨a,vs,rfl,q,r⟩:=r;exact .inr (.inl ⟨vs,q,r.isEmpty⟩)
  |lst ds=>
   cases e;obtain⟨a,vs,rfl,q,r⟩:=r.Fv rfl;exact .inl ⟨vs,q,r.isEmpty⟩
  |emp=>cases e
 |l ds=>
  cases e;obtain⟨a,vs,rfl,q,r⟩:=r.Fv rfl;exact .inl ⟨vs,q,r.isEmpty⟩
 |o ds=>
  cases e;obtain⟨a,vs,rfl,q,r⟩:=r.Fv rfl;exact .inl ⟨vs,q,r.isEmpty⟩
 |n _=>cases e
 |m _ _=>cases e
theorem pU(h:QV X e f)(g:∀a,isTrue e X.env a=(do let v <-a;standAt e.pos;holding [v] (truthy v)):=by intro _;rfl):QB X e (λρ=>(f ρ).bind Ui):=⟨have h:=h.run;ES (O9 h g) λσ H Q q=>by
 obtain⟨H0,ρ,k,E,e,q⟩:=q;obtain⟨b,eb,e⟩:=AT e;exact⟨H0,ρ,b,E,eb,λv H1 c i d=>⟨k,Uj d e,q H1 c⟩⟩⟩
def Ti(p q:Ev->S Bool):Ev->S Bool:=λρ=>(p ρ).bind λc=>if c=true then Z true else q ρ
def Ao(p:Ev->S Bool):Ev->S Bool:=λρ=>(p ρ).bind λc=>Z (!c)
def IR(X:Cx)(e:Expr)(f:Ev->S Bool):Prop:=PW X e (D4 X.K f)
structure DT (X:Cx) (e:Expr) (f:Ev->Option Bool):Prop where
 run:IR X e f
variable{p q:Ev->S Bool}{AS:Y Expr}
theorem qH(b:QB X a p):DT X (.BoolOp .Or [a] pos) p:=⟨have b:=b.run;Xv b⟩
theorem Yv(σ:L2.St)(H:Hp)(Q:Bool->Hp->Prop)(h:D4 K (Ti p q) σ H Q):F5 (D4 K p) (D4 K q) σ H Q:=by
 obtain⟨H0,ρ,k,E,e,w⟩:=h;obtain⟨c,d,e⟩:=AT e;refine⟨H0,ρ,c,E,d,λH1 a=>?_⟩;cases c with
 |true=>rw[zh rfl]at e ⊢;cases e;exact w H1 a
 |false=>rw[zo qS]at e ⊢;exact⟨H0,ρ,k,E.grow a,e,λH2 b=>w H2 (a.trans b)⟩
theorem vC(d:QB X a p)(c:DT X (.BoolOp .Or (b::AS) pos) q):DT X (.BoolOp .Or (a::b::AS) pos) (Ti p q):=⟨have d:=d.run;have c:=c.run;LU (GV d c) Yv⟩
theorem Ng(h:DT X e p):QB X e p:=⟨have h:=h.run;h.pt⟩
theorem rW(b:QB X a p):QB X (.UnaryOp .Not a pos) (Ao p):=⟨have b:=b.run;ES (Xw b) λσ H Q h=>by
 obtain⟨H0,ρ,k,E,e,w⟩:=h;obtain⟨c,f,e⟩:=AT e;cases e;exact⟨H0,ρ,c,E,f,λH1 d=>w H1 d⟩⟩
def yJ(fa fb:Ev->S Bx):Ev->S Bx:=λρ=>((fa ρ).bind yI).bind λc=>if c=true then fb ρ else Z (.z (.bl false))
def Uk(fa:Ev->S Bx):Ev->S Bx:=λρ=>((fa ρ).bind yI).bind λc=>Z (.z (.bl (!c)))
theorem vD{op}(h:QV X a fa):QV X (.BoolOp op [a] pos) fa:=⟨have h:=h.run;Xx h⟩
theorem pW(f:QV X a fa)(g:QV X (.BoolOp .And (b::AS) pos) fb):QV X (.BoolOp .And (a::b::AS) pos) (yJ fa fb):=⟨have f:=f.run;have g:=g.run;Gj (Xy f g) λσ H Q h=>by
 obtain⟨H0,ρ,k,E,e,w⟩:=h;obtain⟨c,i,e⟩:=AT e;obtain⟨x,ex,i⟩:=AT i;refine⟨H0,ρ,x,E,ex,λv H1 d o m=>⟨c,uh m i,?_⟩⟩;cases c with
 |true=>rw[zh rfl]at e ⊢;exact⟨H0,ρ,k,E.grow d,e,λv H2 j l n=>w v H2 (d.trans j) (l.old d) n⟩
 |false=>rw[zo qS]at e ⊢;cases e;exact w _ H1 d trivial (by simp only[aY,AW])⟩
theorem Yw(b:QV X a fa):QV X (.UnaryOp .Not a pos) (Uk fa):=⟨have b:=b.run;Gj (Xz b) λσ H Q h=>by
 obtain⟨H0,ρ,k,E,e,w⟩:=h;obtain⟨c,d,e⟩:=AT e;obtain⟨x,ex,d⟩:=AT d;cases e;exact⟨H0,ρ,x,E,ex,λv H1 f i g=>⟨c,uh g d,w _ H1 f trivial (by simp only[aY,AW])⟩⟩⟩
theorem Kz:DL X [] (λ_=>Z []):=FR yE λσ H Q h=>by
 obtain⟨H0,ρ,a,E,e,q⟩:=h;cases e;exact q [] H (AV.refl H) .nil
def ao(f:Ev->S Bx)(fs:Ev->S (Y Bx)):Ev->S (Y Bx):=λρ=>(f ρ).bind λb=>(fs ρ).bind λa=>Z (b::a)
theorem Gk(h1:PV X e f)(h2:DL X es fs)(hs:A9 (e::es) X.env=(false,eval e X.env)::A9 es X.env:=by rfl):DL X (e::es) (ao f fs):=FR (uc h1 h2 hs) λσ H Q h=>by
 obtain⟨H0,ρ,k,E,e,q⟩:=h;obtain⟨b,eb,e⟩:=AT e;obtain⟨d,g,e⟩:=AT e;cases e;refine⟨H0,ρ,b,E,eb,λv H1 c l i=>⟨H0,ρ,d,E.grow c,g,λvs H2 a j=>?_⟩⟩;exact q (v::vs) H2 (c.trans a) (.cons (i.same a) j)
def uo:Bx->S Bx
 |.z d=>Z (.z d)
 |.o ds=>Z (.z (.lst ds))
 |.l _=>O
 |.n _=>O
 |.m _ _=>O
theorem Jk{a:A1}(I:L2.AU X AN σ H s)(h:H a=Z (.lst vs)):∃o,L2.AU X AN σ (B8 H a (.m5 o (.lst vs))) s:=by
 obtain⟨z,AQ,n,r,e⟩:=I.hok a _ h;refine⟨{ cls:=.type "list",data:=.seq AQ.toArray n },⟨I.ok,I.os,I.bare,⟨I.base.keep,I.base.slot,λb d q1 q2 q3=>?_,I.base.there,λb xs q=>?_,λb d u q=>?_,λb ps q=>?_⟩,I.loc,I.cell,?_,λx c q=>?_,λp hp=>?_,?_,I.len⟩⟩
 ·have:=I.base.free b d q1 q2 q3;rw[bh (gk h this).symm];exact this
 ·have:=I.base.tups b xs q;rw[bh (wD this h (by intro z;cases z))];exact this
 ·have:=I.base.Mz b d u q;rw[bh (wD this h (by intro z;cases z))];exact this
 ·obtain⟨m,this⟩:=I.base.FP b ps q;rw[bh (wD this h (by intro z;cases z))];exact⟨m,this⟩
 ·rw[bh (gk h I.free).symm];exact I.free
 ·rw[bh (gk h (I.wF x c q)).symm];exact I.wF x c q
 ·obtain⟨q1,q2,q3⟩:=I.pin p hp;refine⟨q1,?_,q3⟩;rw[bh (gk h q2).symm];exact q2
 ·intro b u q;by_cases f:b=a
  ·subst f;rw[bH]at q;cases q;exact⟨e,z,AQ,n,r,e⟩
  ·rw[bh f]at q;refine(I.hok b u q).stay (λc v _ w=>w) (λc w=>?_) (λc xs w=>?_) λc o' g w=>?_
   ·rw[bh (wD w h (by intro z;cases z))];exact w
   ·rw[bh (wD w h (by intro z;cases z))];exact w
   ·rw[bh (wD w h (by intro z;cases z))];exact w
theorem gn(h:QV X e f):QV X e (b1 uo f):=⟨by
 have h:=h.run;intro AN s σ H Q I q;obtain⟨H0,ρ,b,E,e,q⟩:=q;obtain⟨x,ex,e⟩:=AT e;cases x with
 |z d=>
  cases e;exact h AN s σ H Q I ⟨H0,ρ,_,E,ex,λv H' s' i g=>q v H' s' trivial g⟩
 |l ds=>cases e
 |n ds=>cases e
 |m ds _=>cases e
 |o ds=>
  cases e;refine gM (h AN s σ H (λv H'=>AV H H'/\Nw H (.o ds) v/\aY X.K H' (.o ds) v) I ⟨H0,ρ,_,E,ex,λv H' s' i g=>⟨s',i,g⟩⟩) λu B y=>?_;obtain⟨v,H1,t,r,s',i,g⟩:=y;obtain⟨a,vs,rfl,k,A⟩:=g;obtain⟨o,w⟩:=Jk t k;refine⟨.ref a,_,w,r,q _ _ (λc p j=>?_) trivial ?_⟩
  ·rw[bh (gk j (i a J))];exact s' c p j
  ·simp only[aY,AW];exact⟨a,vs,rfl,.inl ⟨o,bH⟩,A.kp (.lst k)⟩⟩
def Dh:Y Bx->S (Y Dt)
 |[]=>Z []
 |.z d::r=>(Dh r).bind λds=>Z (d::ds)
 |_=>O
theorem yK{K:B5}{H:Hp}:∀{bs:Y Bx} {vs:Y V} {ds:Y Dt},rH K H bs vs->Dh bs=Z ds->aU K H ds vs
 |_,_,_,.nil,e=>by cases e;exact aU.nil
 |b::bs,_,_,.cons h t,e=>by
  cases b with
  |z d=>
   simp only[Dh]at e;obtain⟨a,e1,e2⟩:=AT e;cases e2;exact aU.cons h (yK t e1)
  |_=>cases e
theorem yL:∀{bs:Y Bx} {ds:Y Dt},Dh bs=Z ds->ds.length=bs.length
 |[],_,e=>by cases e;rfl
 |.z d::r,_,e=>by
  simp only[Dh]at e;obtain⟨a,e1,e2⟩:=AT e;cases e2;simp[yL e1]
 |.l _::_,_,e=>by cases e
 |.o _::_,_,e=>by cases e
 |.n _::_,_,e=>by cases e
 |.m _ _::_,_,e=>by cases e
def fB(bs:Y Bx):S Bx:=if bs.length<=1000 then(Dh bs).bind λds=>Z (.z (.tup ds))else O
def qZ(bs:Y Bx):S Bx:=if bs.length<=1000 then(Dh bs).bind λds=>Z (.o ds)else O
theorem bN{p:A1}{o:HO}(h:H p=O):AV H (B8 H p o):=λb u e=>by rw[bh (gk e h)];exact e
theorem Wv(h:n<=1000):n<=AA:=zl h ()
theorem cN{x1}(h:Kv X es fs):QV X (.Tuple es x1 pos) (cQ fB fs):=⟨have h:=h.run;Gj (Ye h) λσ H Q q=>by
 obtain⟨H0,ρ,c,E,e,q⟩:=q;obtain⟨g,b,e⟩:=AT e;refine⟨H0,ρ,g,E,b,λvs H1 d i=>?_⟩;unfold fB at e;split at e
 ·rename_i f;obtain⟨ds,e1,e⟩:=AT e;cases e;have a:=yK i e1;refine⟨Wv (by rw[a.length,yL e1];exact f),λp hp=>q _ _ (d.trans (bN hp)) trivial ?_⟩;simp only[aY,AW];exact⟨p,vs,rfl,.inl (.inl bH),a.kp (.of (bN hp))⟩
 ·cases e⟩
theorem kW(h:Kv X es fs):QV X (.List es pos) (cQ qZ fs):=⟨have h:=h.run;Gj (Yg h) λσ H Q q=>by
 obtain⟨H0,ρ,c,E,e,q⟩:=q;obtain⟨i,f,e⟩:=AT e;refine⟨H0,ρ,i,E,f,λvs H1 b j=>?_⟩;unfold qZ at e;split at e
 ·rename_i g;obtain⟨ds,e1,e⟩:=AT e;cases e;have d:=yK j e1;refine⟨Wv (by rw[d.length,yL e1];exact g),λp hp=>q _ _ (b.trans (bN hp)) (λa ea=>by cases ea;exact b.free hp) ?_⟩;exact⟨p,vs,rfl,bH,d.kp (.of (bN hp))⟩
 ·cases e⟩
theorem bU{id:String}{g:Y Bx->S Bx}{p:Pos}(f:pI X (.builtin id) g)(c:Gl X x)(h:X.mg x=O)(b:AH x=Z (.builtin id))(a:Kv X (e::es) fs)(d:x ≠ "__name__":=by decide)(k:f7 x:=by decide)(j:A9 (e::es) X.env=(false,eval e X.env)::A9 es X.env:=by rfl)(i:(AD pos (A9 es X.env)).any (·.1)=false:=by rfl):QV X (.Call (.Name x p) (e::es) [] pos) (cQ g fs):=⟨have a:=a.run;Gj (Pb f c h b a d k j i) CO⟩
theorem ju{T:String}{g:Y Bx->S Bx}{p:Pos}(f:pI X (.type T) g)(c:Gl X x)(h:X.mg x=O)(b:AH x=Z (.type T))(a:Kv X (e::es) fs)(d:x ≠ "__name__":=by decide)(k:f7 x:=by decide)(j:A9 (e::es) X.env=(false,eval e X.env)::A9 es X.env:=by rfl)(i:(AD pos (A9 es X.env)).any (·.1)=false:=by rfl):QV X (.Call (.Name x p) (e::es) [] pos) (cQ g fs):=⟨have a:=a.run;Gj (M7 f c h b a d k j i) CO⟩
end
inductive An where
 |nx (ρ:Ev)|rt (b:Bx)|bk (ρ:Ev)|ct (ρ:Ev)
def FF(K:B5)(H0:Hp)(D:C4):An->Prop
 |.nx ρ=>∀ σ H,eV K H0 H σ ρ->D.nx σ H
 |.rt b=>∀v H,AV H0 H->Nw H0 b v->aY K H b v->D.rt v H
 |.bk ρ=>∀ σ H,eV K H0 H σ ρ->D.bk σ H
 |.ct ρ=>∀ σ H,eV K H0 H σ ρ->D.ct σ H
def tG(K:B5)(g:Ev->S An):TS:=λD σ H=>∃H0 ρ r,eV K H0 H σ ρ/\g ρ=Z r/\FF K H0 D r
def G2(X:Cx)(st:AB)(g:Ev->S An):Prop:=PS X st (tG X.K g)
structure PN (X:Cx) (st:Stmt) (g:Ev->Option An):Prop where
 run:G2 X st g
def O4(X:Cx)(st:Y AB)(g:Ev->S An):Prop:=Kg X st (tG X.K g)
structure PX (X:Cx) (st:List Stmt) (g:Ev->Option An):Prop where
 run:O4 X st g
def aH(g1 g2:Ev->S An):Ev->S An:=λρ=>(g1 ρ).bind λr=>match r with
 |.nx a=>g2 a
 |r=>Z r
section
variable{a b:Expr}{fa fb fc f:Ev->S Bx}{fs:Ev->S (Y Bx)}{AS:Y AB}{g g1 g2:Ev->S An}
theorem aM  :PX X [] (λρ=>Z (.nx ρ)):=⟨Yu Tt λD σ H h=>by
 obtain⟨H0,ρ,r,E,e,q⟩:=h;cases e;exact q σ H E⟩
theorem aA(h1:PN X st g1)(h2:PX X AS g2):PX X (st::AS) (aH g1 g2):=⟨have h1:=h1.run;have h2:=h2.run;Yu (O1 h1 h2) λD σ H h=>by
 obtain⟨H0,ρ,r,E,e,q⟩:=h;obtain⟨c,e1,e⟩:=AT e;refine⟨H0,ρ,c,E,e1,?_⟩;cases c with
 |nx a=>exact λσ' H' d=>⟨H0,a,r,d,e,q⟩
 |rt b=>cases e;exact q
 |bk a=>cases e;exact q
 |ct a=>cases e;exact q⟩
def Qa:Bx->S An
 |.l _=>O
 |.n _=>O
 |b=>Z (.rt b)
theorem cj(h:QV X e f):PN X (.Return (Z e) pos) (λρ=>(f ρ).bind Qa):=⟨have h:=h.run;Ug (O2 h) λD σ H h=>by
 obtain⟨H0,ρ,r,E,e,q⟩:=h;obtain⟨b,eb,e⟩:=AT e;refine⟨H0,ρ,b,E,eb,λv H1 a g c=>?_⟩;cases b with
 |l ds=>cases e
 |z d=>cases e;exact q v H1 (E.base.trans a) trivial c
 |o ds=>cases e;exact q v H1 (E.base.trans a) (g.old E.base) c
 |n ds=>cases e
 |m ds _=>cases e;exact q v H1 (E.base.trans a) (g.old E.base) c⟩
def Di(i:Nat)(ρ:Ev):S An:=match ρ[i]? with
 |some (Z b)=>Qa b
 |_=>O
theorem KC(i:Nat){p:Pos}(j:X.N[i]?=Z x:=by rfl)(g:Tg X.env.scope x:=by first|exact kA rfl|exact jI (kA J)|exact jI (jI J))(k:f7 x:=by decide)(s:(x==("__classdict__":AJ))=false:=by decide):PN X (.Return (Z (.Name x p)) pos) (Di i):=⟨Ug (O2 (yx j g k s)) λD σ H h=>by
 obtain⟨H0,ρ,r,E,e,q⟩:=h;unfold Di at e;split at e
 ·rename_i b f;obtain⟨v,e1,c⟩:=E.val i b f;refine⟨v,e1,?_⟩;cases b with
  |l ds=>cases e
  |z d=>cases e;exact q v H E.base trivial c
  |o ds=>cases e;exact q v H E.base (λa ea=>E.new i _ a f J (by rw[e1,ea])) c
  |n ds=>cases e
  |m ds _=>cases e;exact q v H E.base (λa ea=>E.new i _ a f J (by rw[e1,ea])) c
 ·cases e⟩
def wI(p:Ev->S Bool)(g1 g2:Ev->S An):Ev->S An:=λρ=>(p ρ).bind λk=>if k=true then g1 ρ else g2 ρ
theorem iJ{p:Ev->S Bool}{u v:Y AB}(a:QB X c p)(b:PX X u g1)(d:PX X v g2):PN X (.If c u v pos) (wI p g1 g2):=⟨have a:=a.run;have b:=b.run;have d:=d.run;Ug (MC a b d) λD σ H h=>by
 obtain⟨H0,ρ,r,E,e,q⟩:=h;obtain⟨k,ek,e⟩:=AT e;refine⟨H0,ρ,k,E,ek,λH1 f=>?_⟩;cases k with
 |true=>rw[zh rfl]at e ⊢;exact⟨H0,ρ,r,E.grow f,e,q⟩
 |false=>rw[zo qS]at e ⊢;exact⟨H0,ρ,r,E.grow f,e,q⟩⟩
theorem Ch{l:Y α}{x y:α}(h:(l.set i x)[j]?=Z y):(j=i/\y=x/\i<l.length)\/(j≠i/\l[j]?=Z y):=by
 rw[eM]at h;by_cases e:i=j
 ·subst e;rw[zh rfl]at h;split at h
  ·cases h;exact .inl ⟨rfl,rfl,by assumption⟩
  ·cases h
 ·rw[zo e]at h;exact .inr ⟨λz=>e z.symm,h⟩
theorem Ww{l:Y α}(x:α)(h:j≠i):(l.set i x)[j]?=l[j]?:=by
 rw[eM,zo (kF h)]
def Qc(ρ:Ev)(i:Nat):Bx->S Ev
 |.l _=>O
 |.n _=>O
 |b=>Z (ρ.set i (Z b))
theorem Ul{H1:Hp}{ρ ρ':Ev}{b:Bx}{v:V}(E:eV K H0 H σ ρ)(s:AV H H1)(r:aY K H1 b v)(n:Nw H b v)(e:Qc ρ i b=Z ρ'):eV K H0 H1 (σ.set i (Z v)) ρ':=by
 cases b with
 |l ds=>cases e
 |z d=>cases e;exact E.set s r (.inr J) n
 |o d=>cases e;exact E.set s r (.inl J) n
 |n ds=>cases e
 |m d _=>cases e;exact E.set s r (.inl J) n
theorem bB(i:Nat){p:Pos}(c:X.N.Nodup)(a:QV X e f)(hi:X.N[i]?=Z x:=by rfl)(hx:Cf X.env.scope x:=by first|exact kA rfl|exact jI J)(hs:swapsWith e (Z (.Name x p)) pos.line X.env=pure false:=by rfl)(j:X.fn x=true\/X.env.scope.names.lookup x=Z .local:=by first|exact .inl rfl|exact .inr J):PN X (.Assign [.Name x p] e pos) (λρ=>(f ρ).bind λb=>(Qc ρ i b).bind λρ'=>Z (.nx ρ')):=⟨have a:=a.run;Ug (XH c hi hx a hs j) λD σ H h=>by
 obtain⟨H0,ρ,r,E,e,q⟩:=h;obtain⟨b,eb,e⟩:=AT e;obtain⟨ρ',d,e⟩:=AT e;cases e;exact⟨H0,ρ,b,E,eb,λv H1 g l k=>q _ _ (Ul E g k l d)⟩⟩
def Lo(σ:L2.St)(ρ:Ev)(σ':L2.St)(ρ':Ev):Prop:=∀(j:Nat) b,loose b=true->ρ'[j]?=Z (Z b)->ρ[j]?=Z (Z b)/\σ'[j]?=σ[j]?
theorem Lo.refl{σ:L2.St}{ρ:Ev}:Lo σ ρ σ ρ:=λ_ _ _ e=>⟨e,rfl⟩
theorem Lo.set{ρ:Ev}(i:Nat)(v:V)(d:Dt):Lo σ ρ (σ.set i (Z v)) (ρ.set i (Z (.z d))):=λj b l e=>by
 rcases Ch e with⟨rfl,e',_⟩|⟨a,e'⟩
 ·cases e';cases l
 ·exact⟨e',Ww _ a⟩
def F7(K:B5)(g:Dt->Ev->S Ev):TG:=λv σ H Q=>∃H0 ρ d a,eV K H0 H σ ρ/\AW K H d v/\g d ρ=Z a/\∀ σ',eV K H0 H σ' a->Lo σ ρ σ' a->Q σ' H
def DH(X:Cx)(t:Expr)(g:Dt->Ev->S Ev):Prop:=PG X t (F7 X.K g)
structure Tj (X:Cx) (t:Expr) (g:Dt->Ev->Option Ev):Prop where
 run:DH X t g
theorem aO(i:Nat)(f:X.N.Nodup)(hi:X.N[i]?=Z x:=by rfl)(hx:Cf X.env.scope x:=by first|exact kA rfl|exact jI J)(a:X.fn x=true\/X.env.scope.names.lookup x=Z .local:=by first|exact .inl rfl|exact .inr J):Tj X (.Name x pos) (λd ρ=>Z (ρ.set i (Z (.z d)))):=⟨λAN s σ H v u Q I r h=>by
 obtain⟨H0,ρ,d,g,E,c,e,q⟩:=h;cases e;exact Km f hi hx a AN s σ H v u Q I r (q _ (E.set (b:=.z d) (AV.refl H) c (.inr J) trivial) (Lo.set i v d))⟩
theorem gc(i:Nat)(f:X.N.Nodup:=by show List.Nodup (_++_);decide +kernel)(hi:X.N[i]?=Z x:=by rfl)(hx:Cf X.env.scope x:=by first|exact kA rfl|exact jI J)(a:X.fn x=true\/X.env.scope.names.lookup x=Z .local:=by first|exact .inl rfl|exact .inr J):Tj X (.Name x pos) (λd ρ=>Z (ρ.set i (Z (.z d)))):=aO i f hi hx a
def LX(K:B5)(g:Y Dt->Ev->S Ev):Wo:=λvs σ H Q=>∃H0 ρ ds a,eV K H0 H σ ρ/\aU K H ds vs/\g ds ρ=Z a/\∀ σ',eV K H0 H σ' a->Lo σ ρ σ' a->Q σ' H
def Iy(X:Cx)(t:Y Expr)(g:Y Dt->Ev->S Ev):Prop:=L2.O4 X t (LX X.K g)
structure Um (X:Cx) (t:List Expr) (g:List Dt->Ev->Option Ev):Prop where
 run:Iy X t g
def pZ:Y Dt->Ev->S Ev
 |[],ρ=>Z ρ
 |_,_=>O
def cW(g:Dt->Ev->S Ev)(gs:Y Dt->Ev->S Ev):Y Dt->Ev->S Ev
 |d::ds,ρ=>(g d ρ).bind (gs ds)
 |_,_=>O
theorem jZ  :Um X [] pZ:=⟨λAN s σ H vs us Q I r h=>by
 obtain⟨H0,ρ,ds,b,E,a,e,q⟩:=h;cases ds with
 |nil=>cases e;unfold aU at a;exact Tv AN s σ H vs us Q I r ⟨a,q _ E Lo.refl⟩
 |cons d ds=>cases e⟩
theorem cD{t:Expr}{ts:Y Expr}{gt:Dt->Ev->S Ev}{gs:Y Dt->Ev->S Ev}(h1:Tj X t gt)(h2:Um X ts gs)(hs:(assignEach (t::ts) X.env).map (·.2)=assign t X.env::(assignEach ts X.env).map (·.2):=by rfl):Um X (t::ts) (cW gt gs):=⟨have h1:=h1.run;have h2:=h2.run;λAN s σ H vs us Q I r h=>by
 obtain⟨H0,ρ,ds,m,E,b,e,q⟩:=h;cases ds with
 |nil=>cases e
 |cons d ds=>
  unfold aU at b;obtain⟨v,k,rfl,l,n⟩:=b;simp only[cW]at e;obtain⟨a,e1,e⟩:=AT e;exact O5 h1 h2 hs AN s σ H _ us Q I r ⟨v,k,rfl,H0,ρ,d,a,E,l,e1,λo f g=>⟨H0,a,ds,m,f,n,e,λc j i=>q c j (g.trans i)⟩⟩⟩
def nq(n:Nat)(gs:Y Dt->Ev->S Ev):Dt->Ev->S Ev
 |.tup ds,ρ=>if ds.length=n then gs ds ρ else O
 |_,_=>O
theorem nT{ts:Y Expr}{gs:Y Dt->Ev->S Ev}(j:X.calm=true)(h:Um X ts gs)(g:(assignEach ts X.env).length=n:=by rfl)(i:(assignEach ts X.env).findIdx? (·.1)=O:=by rfl):Tj X (.Tuple ts k pos) (nq n gs):=⟨have h:=h.run;λAN s σ H v u Q I r f=>by
 obtain⟨H0,ρ,d,m,E,c,e,q⟩:=f;cases d with
 |tup ds=>
  simp only[nq]at e;split at e
  ·rename_i l;unfold AW at c;obtain⟨a,vs,rfl,o,b⟩:=c;exact XD j h g i AN s σ H _ u Q I r ⟨a,vs,rfl,o,by rw[b.length];exact l,H0,ρ,ds,m,E,b,e,q⟩
  ·cases e
 |_=>cases e⟩
theorem Dj{gt:Dt->Ev->S Ev}(c:QV X e f)(a:Tj X tg gt)(hs:swapsWithSole [tg] e pos.line X.env=pure false:=by rfl)(g:swappedStores [tg] e X.env=pure O:=by rfl)(h1:(assignEach [tg] X.env).map (·.2)=[assign tg X.env]:=by rfl):PN X (.Assign [tg] e pos) (λρ=>(f ρ).bind λb=>match b with|.z d=>(gt d ρ).bind λρ'=>Z (.nx ρ')|_=>O):=⟨have c:=c.run;have a:=a.run;Ug (XF c a hs g h1) λD σ H h=>by
 obtain⟨H0,ρ,r,E,e,q⟩:=h;obtain⟨b,eb,e⟩:=AT e;refine⟨H0,ρ,b,E,eb,λv H1 j m l=>?_⟩;cases b with
 |z d=>
  obtain⟨ρ',i,e⟩:=AT e;cases e;exact⟨H0,ρ,d,ρ',E.grow j,l,i,λσ' k _=>q _ _ k⟩
 |_=>cases e⟩
def Uo(i j:Nat)(ρ:Ev):Y Bx->S An
 |[.z d,.z d']=>Z (.nx ((ρ.set i (Z (.z d))).set j (Z (.z d'))))
 |_=>O
theorem Yx(i j:Nat){px py pt:Pos}{kt k2 XM}(n:X.calm=true)(g:X.N.Nodup)(c:Kv X [a,b] fs)(hi:X.N[i]?=Z x:=by rfl)(o:X.N[j]?=Z y:=by rfl)(w:i≠j:=by decide)(hx:X.env.scope.names.lookup x=Z .local:=by rfl)(l:X.env.scope.names.lookup y=Z .local:=by rfl)(f:swappedStores [.Tuple [.Name x px,.Name y py] kt pt] (.Tuple [a,b] k2 XM) X.env=pure (Z [x,y]):=by rfl)(hs:swapsWithSole [.Tuple [.Name x px,.Name y py] kt pt] (.Tuple [a,b] k2 XM) pos.line X.env=pure false:=by rfl):PN X (.Assign [.Tuple [.Name x px,.Name y py] kt pt] (.Tuple [a,b] k2 XM) pos) (λρ=>(fs ρ).bind (Uo i j ρ)):=⟨have c:=c.run;Ug (XJ n g hi o w hx l c f hs) λD σ H h=>by
 obtain⟨H0,ρ,r,E,e,q⟩:=h;obtain⟨s,eb,e⟩:=AT e;refine⟨H0,ρ,s,E,eb,λvs H1 m u=>?_⟩;unfold Uo at e;split at e
 ·rename_i d k;cases e;cases u with
  |cons p t=>
   cases t with
   |cons p' v=>
    cases v;refine⟨_,_,rfl,q _ _ ?_⟩;exact((E.grow m).set (b:=.z d) (AV.refl H1) p (.inr J) trivial).set (b:=.z k) (AV.refl H1) p' (.inr J) trivial
 ·cases e⟩
def Uq(ρ:Ev)(i:Nat):Bx->S An
 |.z d=>match ρ[i]? with
  |some (Z (.o ds))=>if ds.length<AA then Z (.nx (ρ.set i (Z (.o (ds++[d])))))else O
  |_=>O
 |_=>O
theorem Dk(i:Nat){p:Pos}(j:QV X e f)(o:X.N[i]?=Z x:=by rfl)(n:Tg X.env.scope x:=by first|exact kA rfl|exact jI (kA J)|exact jI (jI J))(w:f7 x:=by decide)(A:(x==("__classdict__":AJ))=false:=by decide)(l:A9 [e] X.env=[(false,eval e X.env)]:=by rfl)(B:attributeBase (.Name x p) "append" X.env (eval (.Name x p) X.env)=eval (.Name x p) X.env:=by rfl)(C:((AD cpos (A9 [e] X.env)).all (λx=>!x.1)&&(backToKw cpos (keywordEach [] X.env)).all (λx=>x.1.isSome)&&decide ([e].length+([]:Y AC).length+(if([]:Y AC).isEmpty then 0 else 1)<30))=true:=by rfl)(t:(apos.endLine==cpos.line)=true:=by rfl)(hs:swapsWith (.Call (.Attribute (.Name x p) "append" apos) [e] [] cpos) O pos.line X.env=pure false:=by rfl):PN X (.Expr (.Call (.Attribute (.Name x p) "append" apos) [e] [] cpos) pos) (λρ=>(f ρ).bind (Uq ρ i)):=⟨have j:=j.run;Ug (Kl (Pj PySem.F.plainAttrs_list PySem.F.slot_list_append PySem.F.type_list_append Bt (yx (i:=i) o n w A) (uc j yE (by rw[l]<;>rfl)) B C t (by rw[l]<;>rfl) J) hs) λD σ H h=>by
  obtain⟨H0,ρ,r,E,e,q⟩:=h;obtain⟨b,eb,e⟩:=AT e;cases b with
  |z d=>
   simp only[Uq]at e;split at e
   ·rename_i ds k;split at e
    ·rename_i y;cases e;obtain⟨v,e1,a,vs,rfl,g,m⟩:=E.val i _ k;refine⟨_,e1,.inl ⟨rfl,vs,.inl (.inl g)⟩,H0,ρ,_,E,eb,λu H1 c I G=>?_⟩;have s:=E.grow c;refine⟨a,vs,u,rfl,rfl,c _ _ g,by rw[m.length];exact y,q _ _ ?_⟩;exact s.Yr k e1 (c _ _ g) ((m.kp (.of c)).append (aU.cons G aU.nil))
    ·cases e
   ·cases e
  |_=>cases e⟩
end
def FH(x:AJ):It:=⟨λi _=>i<x.cps.size,λi H v H'=>H'=H/\∃c,x.cps[i]?=Z c/\v=.str ⟨#[c]⟩,λi _=>x.cps.size<=i⟩
def NA(h:A6)(it:A1)(x:AJ)(i:Nat):Prop:=∃t,h.IsStrIter it "str_ascii_iterator" x t i\/h.IsStrIter it "str_iterator" x t i
theorem Gm(it:A1)(x:AJ):C0 P w K tg (FH x) [it] it (λi h=>NA h it x i) where
 mem:=by simp
 obj:=λi h st b a=>by
  have e:b=it:=by simpa using a
  subst e;obtain⟨t,⟨o,e,c,d⟩|⟨o,e,c,d⟩⟩:=st
  ·exact⟨o,e,λv z=>by rw[d]at z;cases z⟩
  ·exact⟨o,e,λv z=>by rw[d]at z;cases z⟩
 keep:=λi h h' st k=>by
  obtain⟨t,⟨o,e,c⟩|⟨o,e,c⟩⟩:=st
  ·exact⟨t,.inl ⟨o,k it (by simp) o e,c⟩⟩
  ·exact⟨t,.inr ⟨o,k it (by simp) o e,c⟩⟩
 item:=by
  intro X q m u p i AN s σ H E I j st n;subst q m u;obtain⟨f0,f1,f2,f3,f,l⟩:=j it (by simp);have hi:i<x.cps.size:=n;have hx:x.cps[i]?=Z x.cps[i]:=by simp[hi]
  obtain⟨t,st|st⟩:=st
  ·refine wpAny_pyNext_ascii_item st hx λh' g y=>?_;have r:L2.AU X AN σ H { s with heap:=h',toks:=s.toks+1 }:=I.turned (λb o a e=>(y.2 b a).trans e) f0 f1 f3 f l;obtain⟨o,e,c,d⟩:=id g;exact⟨_,rfl,FW (s:={ s with heap:=h',toks:=s.toks+1 }) e c d () ⟨.str ⟨#[x.cps[i]]⟩,H,r,⟨_,rfl⟩,⟨rfl,_,hx,rfl⟩,⟨t,.inl g⟩,λb a=>(j b a).1⟩⟩
  ·refine wpAny_pyNext_wide_item st hx λh' g y=>?_;have r:L2.AU X AN σ H { s with heap:=h',toks:=s.toks+1 }:=I.turned (λb o a e=>(y.2 b a).trans e) f0 f1 f3 f l;obtain⟨o,e,c,d⟩:=id g;exact⟨_,rfl,FW (s:={ s with heap:=h',toks:=s.toks+1 }) e c d () ⟨.str ⟨#[x.cps[i]]⟩,H,r,⟨_,rfl⟩,⟨rfl,_,hx,rfl⟩,⟨t,.inr g⟩,λb a=>(j b a).1⟩⟩
 done:=by
  intro X q m u p i AN s σ H E I j st n;subst q m u;obtain⟨f0,f1,f2,f3,f,l⟩:=j it (by simp);have hx:x.cps[i]?=O:=by have:x.cps.size<=i:=n;simp[this]
  obtain⟨t,st|st⟩:=st
  ·exact wpAny_pyNext_ascii_end (I.ok.hd p) st hx λh' eb=>⟨rfl,I.turned (t':=s.toks) (λb o a e=>eb b o a e) f0 f1 f3 f l⟩
  ·exact wpAny_pyNext_wide_end (I.ok.hd p) st hx λh' eb=>⟨rfl,I.turned (t':=s.toks) (λb o a e=>eb b o a e) f0 f1 f3 f l⟩
 self:=λ_ _ _ _ _ st h=>by
  obtain⟨t,st|st⟩:=st
  ·exact wpAny_pyIter_striter_ascii st h
  ·exact wpAny_pyIter_striter_wide st h
def LV(K:B5)(tl:TE):TI:=λσ H R=>tl σ H λx H1=>(∃a,x=.ref a/\(∃xs,rE K H1 a xs)/\R (Fm K a) H1)\/(∃a,x=.ref a/\(∃xs,tU K H1 a xs)/\R (F0 K a) H1)\/∃y,x=.str y/\R (FH y) H1
theorem Qd{l:Expr}{tl:TE}(j:PE X l tl):PI X tg l (LV X.K tl):=by
 intro AN s σ H R I h;refine gM (j AN s σ H _ I h) λv s1 ⟨x,H1,I1,r1,q1⟩=>?_;have c:∀(o:AE) (b:A1),b∈[s1.heap.objs.size]->pO X AN H1 b:=λo b k=>by
  have e:b=s1.heap.objs.size:=by simpa using k
  subst e;exact I1.Gb (zi _) (I1.hok.fresh (zi _))
 rcases q1 with⟨a,e,⟨xs,d⟩,q⟩|⟨a,e,⟨xs,d⟩,q⟩|⟨y,e,q⟩
 ·subst e;cases r1;obtain⟨AQ,g,p,i⟩:=I1.list d;refine Kj p.isList ?_;exact⟨s1.heap.objs.size,[s1.heap.objs.size],_,_,H1,rfl,I1.kept (t':=s1.toks) λb o e=>ze _ e,MK a _,⟨_,zw _ rfl,rfl,rfl⟩,c default,q⟩
 ·subst e;cases r1;obtain⟨AQ,g,p,i⟩:=I1.tuple d;refine Ki (show s1.heap.IsTuple a AQ.toArray from p) ?_;exact⟨s1.heap.objs.size,[s1.heap.objs.size],_,_,H1,rfl,I1.kept (t':=s1.toks) λb o e=>ze _ e,Jc a _,⟨_,zw _ rfl,rfl,rfl⟩,c default,q⟩
 ·subst e;obtain⟨t,rfl⟩:=r1;cases f:y.cps.all (· < 128)with
  |true=>
   refine wpAny_pyIter_ascii f ?_;exact⟨s1.heap.objs.size,[s1.heap.objs.size],_,_,H1,rfl,I1.kept (t':=s1.toks) λb o e=>ze _ e,Gm _ y,⟨t,.inl ⟨_,zw _ rfl,rfl,rfl⟩⟩,c default,q⟩
  |false=>
   refine wpAny_pyIter_wide f ?_;exact⟨s1.heap.objs.size,[s1.heap.objs.size],_,_,H1,rfl,I1.kept (t':=s1.toks) λb o e=>ze _ e,Gm _ y,⟨t,.inr ⟨_,zw _ rfl,rfl,rfl⟩⟩,c default,q⟩
def BE(K:B5)(J:It)(ds:Y Dt)(a:Hp):Prop:=∀(i:Nat) (H:Hp),AV a H →
 (∀d,ds[i]?=Z d->J.go i H/\∀x H',J.yld i H x H'->AV H H'/\AW K H' d x)/\(ds.length<=i->J.stop i H)
def CY(x:AJ):Y Dt:=x.cps.toList.map λc=>.str ⟨#[c]⟩
def Jl(lo:Int)(n:Nat):Y Dt:=(ap n).map λk=>.int (lo+(k:Nat))
def iF(K:B5)(f:Ev->S (Y Dt)):TI:=λσ H R=>∃H0 ρ ds,eV K H0 H σ ρ/\f ρ=Z ds/\∀J H',AV H H' →
 (∀b,AV b H'->(∀a,H a=O->b a=H' a)->(∀a o u,H' a=Z (.m5 o u)->b a=H' a)->(∀a vs,H' a=Z (.tup vs)->b a=H' a)->BE K J ds b)->R J H'
def GO(X:Cx)(tg iter:Expr)(f:Ev->S (Y Dt)):Prop:=PI X tg iter (iF X.K f)
structure CM (X:Cx) (tg iter:Expr) (f:Ev->Option (List Dt)):Prop where
 run:GO X tg iter f
def Ur:Bx->S (Y Dt)
 |.z (.lst ds)=>Z ds
 |.z (.tup ds)=>Z ds
 |.z (.str x)=>Z (CY x)
 |.o ds=>Z ds
 |_=>O
section
variable{f:Ev->S Bx}{fs:Ev->S (Y Bx)}
theorem Dl(h:QV X e f):CM X tg e (λρ=>(f ρ).bind Ur):=⟨have h:=h.run;λAN s σ H R I q=>by
 refine Qd h AN s σ H R I ?_;obtain⟨H0,ρ,ds,E,e,q⟩:=q;obtain⟨b,eb,e⟩:=AT e;refine⟨H0,ρ,b,E,eb,λv H1 t y j=>?_⟩;cases b with
 |z d=>
  cases d with
  |tup k=>
   cases e;simp only[aY,AW]at j;obtain⟨a,vs,rfl,c,p⟩:=j;refine .inr (.inl ⟨a,rfl,⟨vs,c⟩,q _ _ t λw u r g i=>.tup ?_ (p.part g i)⟩);rcases c with (c|⟨o,c⟩)|c
   ·exact .inl (.inl ((i _ _ c).trans c))
   ·exact .inl (.inr ⟨o,(g _ _ _ c).trans c⟩)
   ·exact .inr c
  |lst k=>
   cases e;simp only[aY,AW]at j;obtain⟨a,vs,rfl,c,p⟩:=j;refine .inl ⟨a,rfl,⟨vs,c.sq⟩,q _ _ t λw u r g i=>.list ?_ (p.part g i)⟩;rcases c with⟨o,c⟩|c
   ·exact .inl (.inr ⟨o,(g _ _ _ c).trans c⟩)
   ·exact .inr c
  |str x=>
   cases e;simp only[aY,AW]at j;obtain⟨rfl,_⟩:=j;exact .inr (.inr ⟨x,rfl,q _ _ t λw u r g i=>.str x⟩)
  |_=>cases e
 |l k=>cases e
 |n k=>cases e
 |m k=>cases e
 |o k=>
  cases e;obtain⟨a,vs,rfl,c,p⟩:=j;refine .inl ⟨a,rfl,⟨vs,.inl (.inl c)⟩,q _ _ t λw u r g i=>.list (.inl (.inl ((r a (y a J)).trans c))) (p.part g i)⟩⟩
def Yy:Y Bx->S (Y Dt)
 |[.z (.int j)]=>if -(2 ^ 62)<=j/\j<2 ^ 62 then Z (Jl 0 j.toNat)else O
 |_=>O
def Yz:Y Bx->S (Y Dt)
 |[.z (.int i),.z (.int j)]=>if(-(2 ^ 62)<=i/\i<2 ^ 62) ∧ -(2 ^ 62)<=j/\j<2 ^ 62 then Z (Jl i (j-i).toNat)else O
 |_=>O
theorem iY{p:Pos}(c:Gl X "range")(f:X.mg "range"=O)(a:Kv X [e] fs)(hs:A9 [e] X.env=[(false,eval e X.env)]:=by rfl):CM X tg (.Call (.Name "range" p) [e] [] pos) (λρ=>(fs ρ).bind Yy):=⟨have a:=a.run;λAN s σ H R I q=>by
 refine MN c f a hs AN s σ H R I ?_;obtain⟨H0,ρ,ds,E,e,q⟩:=q;obtain⟨g,eb,e⟩:=AT e;refine⟨H0,ρ,g,E,eb,λvs H1 d h=>?_⟩;unfold Yy at e;split at e
 ·rename_i j;split at e
  ·rename_i b;cases e;cases h with
   |cons p t=>
    cases t;simp only[aY,AW]at p;subst p;exact⟨j,rfl,b.1,b.2,q _ _ d λi _ _ _ _=>.rng 0 _⟩
  ·cases e
 ·cases e⟩
theorem Qe{e':Expr}{p:Pos}(d:Gl X "range")(g:X.mg "range"=O)(b:Kv X [e,e'] fs)(hs:A9 [e,e'] X.env=[(false,eval e X.env),(false,eval e' X.env)]:=by rfl)(c:A9 [e'] X.env=[(false,eval e' X.env)]:=by rfl):CM X tg (.Call (.Name "range" p) [e,e'] [] pos) (λρ=>(fs ρ).bind Yz):=⟨have b:=b.run;λAN s σ H R I q=>by
 refine MP d g b hs c AN s σ H R I ?_;obtain⟨H0,ρ,ds,E,e,q⟩:=q;obtain⟨h,eb,e⟩:=AT e;refine⟨H0,ρ,h,E,eb,λvs H1 f k=>?_⟩;unfold Yz at e;split at e
 ·rename_i i j;split at e
  ·rename_i a;cases e;cases k with
   |cons p t=>
    cases t with
    |cons p' l=>
     cases l;simp only[aY,AW]at p p';subst p p';exact⟨i,j,rfl,⟨a.1.1,a.1.2,a.2.1,a.2.2⟩,q _ _ f λm _ _ _ _=>.rng i _⟩
  ·cases e
 ·cases e⟩
def xG(gt:Dt->Ev->S Ev)(gb:Ev->S An):Y Dt->Ev->S An
 |[],ρ=>Z (.nx ρ)
 |d::ds,ρ=>(gt d ρ).bind λc=>(gb c).bind λr=>match r with
  |.nx a=>xG gt gb ds a
  |.ct a=>xG gt gb ds a
  |.bk a=>Z (.nx a)
  |.rt b=>Z (.rt b)
noncomputable def nU(H:Hp)(σ:L2.St)(ρ:Ev):Hp:=λa=>@ite _ (∃(i:Nat) (c:Bx),ρ[i]?=Z (Z c)/\Jj c=true/\σ[i]?=Z (Z (.ref a))) (Classical.propDecidable _) O (H a)
theorem Dm{ρ:Ev}:AV (nU H σ ρ) H:=λa o e=>by
 unfold nU at e;split at e
 ·cases e
 ·exact e
theorem uq{ρ:Ev}(E:eV K H0 H σ ρ)(h:∀vs,H a≠Z (.lst vs))(h2:∀vs,H a≠Z (.dK vs)):nU H σ ρ a=H a:=by
 unfold nU;split
 ·rename_i e;obtain⟨i,c,e1,g,e2⟩:=e;obtain⟨v,e3,d⟩:=E.val i _ e1;rw[e2]at e3;cases e3;cases c with
  |o ds=>obtain⟨f,vs,b,q,_⟩:=d;cases b;exact absurd q (h vs)
  |m ds _=>obtain⟨f,vs,b,q,_⟩:=d;cases b;exact absurd q (h2 vs)
  |_=>cases g
 ·rfl
theorem Qf{gt:Dt->Ev->S Ev}{gb:Ev->S An}{J:It}{ds:List Dt}{H1:Hp}{ρ:Ev}{D:C4}{r:An}(n:eV X.K H0 H1 σ ρ)(Y:BE X.K J ds (nU H1 σ ρ))(e:xG gt gb ds ρ=Z r)(q:FF X.K H0 D r):
  ∃W:Nat->Nat->L2.St->Hp->Prop,(∃m,W 0 m σ H1)/\∀i m σ H,W i m σ H →
   (J.stop i H/\D.nx σ H)\/(J.go i H/\∃N:L2.St->Hp->Prop,(∀ σ' H',N σ' H'->∃o,o<m/\W (i+1) o σ' H')/\∀x H',J.yld i H x H'->F7 X.K gt x σ H' λc H2=>tG X.K gb { D with nx:=N,ct:=N,bk:=D.nx } c H2):=by
 have k:=n.sans;have q2:=q.rebase n.sub;generalize nU H1 σ ρ=Hs at Y k q2;refine⟨λi m σ' H'=>m=ds.length-i/\i<=ds.length/\∃d,eV X.K Hs H' σ' d/\xG gt gb (ds.drop i) d=Z r,⟨ds.length,by simp,ZO _,ρ,k,by simpa using e⟩,?_⟩;rintro i m σ' H' ⟨rfl,B,d,h,e'⟩;obtain⟨y1,y2⟩:=Y i H' h.base;by_cases g:i<ds.length
 ·right;have v:ds[i]?=Z ds[i]:=by simp[g]
  obtain⟨y,t⟩:=y1 _ v;rw[cm g]at e';simp only[xG]at e';obtain⟨l,e1,e'⟩:=AT e';obtain⟨s,e2,e'⟩:=AT e';refine⟨y,λc H2=>∃a,eV X.K Hs H2 c a/\xG gt gb (ds.drop (i+1)) a=Z r,λc H2 ⟨a,f,e3⟩=>⟨ds.length-(i+1),by omega,rfl,g,a,f,e3⟩,λx H2 w=>?_⟩;obtain⟨u,z⟩:=t x H2 w;refine⟨Hs,d,ds[i],l,h.grow u,z,e1,λC f _=>⟨Hs,l,s,f,e2,?_⟩⟩;cases s with
  |nx a=>exact λc A j=>⟨a,j,e'⟩
  |ct a=>exact λc A j=>⟨a,j,e'⟩
  |bk a=>cases e';exact q2
  |rt b=>cases e';exact q2
 ·left;have p:ds.length<=i:=by omega
  refine⟨y2 p,?_⟩;rw[dm p]at e';cases e';exact q2 σ' H' h
theorem mL{fi:Ev->S (Y Dt)}{gt:Dt->Ev->S Ev}{gb:Ev->S An}(hp:PassesOwn (f8 X) X.A X.env X.xe)(t:X.calm=true)(hi:CM X tg iter fi)(g:Tj X tg gt)(j:PX X body gb)(hs:∀x,foldedSetIterable iter X.env x=pure x:=by intro _;rfl):PN X (.For tg iter body [] pos) (λρ=>(fi ρ).bind λds=>xG gt gb ds ρ):=⟨have hi:=hi.run;have g:=g.run;have j:=j.run;Ug (XQ hp t hi g j hs) λD σ H h=>by
 obtain⟨H0,ρ,r,E,e,q⟩:=h;obtain⟨ds,n,e⟩:=AT e;refine⟨H0,ρ,ds,E,n,λJ H1 l y=>?_⟩;have f:=E.grow l;refine Qf f ?_ e q;refine y _ Dm (λa b=>?_) (λa o u b=>uq f (λvs z=>by rw[b]at z;cases z) (λvs z=>by rw[b]at z;cases z)) λa vs b=>uq f (λvs z=>by rw[b]at z;cases z) (λvs z=>by rw[b]at z;cases z);unfold nU;split
 ·rename_i p;obtain⟨i,c,e1,B,e2⟩:=p;obtain⟨v,e3,k⟩:=E.val i _ e1;rw[e2]at e3;cases e3;cases c with
  |o ds=>obtain⟨s,vs,d,q,_⟩:=k;cases d;rw[b]at q;cases q
  |m ds _=>obtain⟨s,vs,d,q,_⟩:=k;cases d;rw[b]at q;cases q
  |_=>cases B
 ·rfl⟩
end
def C6(a:Y (AJ×A1)):Y (AJ×A1)->Prop
 |[]=>True
 |(n,c)::r=>a.lookup n=Z c/\C6 a r
structure IF (X:Cx) (scope:Scope) (cl:List (Str×Addr)) (x:Str) (i:Nat):Prop where
 n:X.N[i]?=some x
 k:X.env.kindOf x=some .cell\/X.env.kindOf x=some .free
 k':(relabel scope X.env).names.lookup x=some .cell\/(relabel scope X.env).names.lookup x=some .free
 c:∃c,cl.lookup x=some c
def Jm(X:Cx)(scope:Scope)(cl:Y (AJ×A1)):At->Y Nat->Prop
 |[],[]=>True
 |x::xs,i::is=>IF X scope cl x i/\Jm X scope cl xs is
 |_,_=>False
def YB(a:Y (AJ×NameKind))(x:AJ):Bool:=match a.lookup x with
 |some .cell=>true
 |_=>false
def wJ(X:Cx)(a:At)(scope:Scope)(cl:Y (AJ×A1))(C:A1)(s₀:A2)(H₀:Hp)(fp:Y A1):Cx:=
 { X with N:=a,s₀:=s₀,H₀:=H₀,env:=compEnvC scope (cellsFrom (C+1) scope.names cl) C X.env,outer:=X.stack,ex:=fp,fn:=YB scope.names,pn:=[],xe:=λ_ _=>False }
structure YC (h:Heap) (cs:List (Str×Addr)):Prop where
 inj:∀x y c,cs.lookup x=some c->cs.lookup y=some c->x=y
 cell:∀x c,cs.lookup x=some c->∃v,h.IsCell c v
theorem iK{n:AJ}{a:α}{l:Y (AJ×α)}(h:x≠n):((n,a)::l).lookup x=l.lookup x:=by
 rw[cy,beq_eq_false_iff_ne.mpr h]
theorem Qg:∀(f:Y (AJ×NameKind)) (h:A6) (acc:Y (AJ×A1)),YC h acc->YC (pushCells h f) (cellsFrom h.objs.size f acc)
 |[],_,_,x=>x
 |(n,k)::r,h,acc,x=>by
  unfold pushCells cellsFrom;split
  ·have g:∀y c,acc.lookup y=Z c->c≠h.objs.size:=λy c e=>let ⟨_,q⟩:=x.cell y c e;zS q.lt;have:=Qg r (h.push { cls:=.type "cell",data:=.cell O }) ((n,h.objs.size)::acc) ⟨λy z c e1 e2=>?_,λy c e=>?_⟩
   ·rwa [JP]at this
   ·by_cases a:y=n<;>by_cases d:z=n
    ·rw[a,d]
    ·subst a;rw[JA]at e1;rw[iK d]at e2;cases e1;exact absurd J (g _ _ e2)
    ·subst d;rw[JA]at e2;rw[iK a]at e1;cases e2;exact absurd J (g _ _ e1)
    ·rw[iK a]at e1;rw[iK d]at e2;exact x.inj y z c e1 e2
   ·by_cases a:y=n
    ·subst a;rw[JA]at e;cases e;exact⟨O,_,zw _ rfl,rfl⟩
    ·rw[iK a]at e;obtain⟨v,q⟩:=x.cell y c e;exact⟨v,q.keeps λb o e=>ze _ e⟩
  ·exact Qg r h acc x
theorem uw:∀(a:Y (AJ×NameKind)) (n:Nat) (acc:Y (AJ×A1)) (x:AJ) (c:A1),(cellsFrom n a acc).lookup x=Z c->acc.lookup x=Z c\/n<=c
 |[],_,_,_,_,e=>.inl e
 |(m,k)::r,n,acc,x,c,e=>by
  unfold cellsFrom at e;split at e
  ·rcases uw r _ _ x c e with h|h
   ·by_cases hx:x=m
    ·subst hx;rw[JA]at h;cases h;exact .inr (zi _)
    ·rw[iK hx]at h;exact .inl h
   ·exact .inr ()
  ·exact uw r _ _ x c e
theorem Dn:∀(b:Y (AJ×NameKind)) (n:Nat) (acc:Y (AJ×A1)) (x:AJ),(x,NameKind.cell)∉b->(cellsFrom n b acc).lookup x=acc.lookup x
 |[],_,_,_,_=>rfl
 |(m,k)::r,n,acc,x,h=>by
  unfold cellsFrom;have a:(x,NameKind.cell)∉r:=λz=>h (zr _ z);split
  ·rename_i hk;rw[Dn r _ _ x a,iK λz=>h (by rw[z,<-beq_iff_eq.mp hk];exact zt ..)]
  ·exact Dn r _ _ x a
theorem Jo:∀(a:Y (AJ×NameKind)) (n:Nat) (acc:Y (AJ×A1)) (x:AJ),((x,NameKind.cell)∈a\/∃c,acc.lookup x=Z c)->∃c,(cellsFrom n a acc).lookup x=Z c
 |[],_,_,_,h=>h.elim (λz=>by simp at z) λz=>z
 |(m,k)::r,n,acc,x,h=>by
  unfold cellsFrom;split
  ·refine Jo r _ _ x ?_;by_cases hx:x=m
   ·exact .inr ⟨n,by rw[hx,JA]⟩
   ·rw[iK hx];exact h.imp_left λz=>(List.mem_cons.mp z).elim (λz=>absurd (congrArg Prod.fst z) hx) λz=>z
  ·rename_i hk;exact Jo r _ _ x (h.imp_left λz=>(List.mem_cons.mp z).elim (λz=>by cases z;exact absurd J hk) λz=>z)
theorem Nh{g:A1}{Q:Env->A2->Prop}(h:Q (newEnv scope s.heap.objs.size g (cellsFrom (s.heap.objs.size+1) scope.names cl) qual O .none (Z env) builtinsNs) { s with heap:=pushCells (s.heap.push { cls:=.type "dict",data:=.dict #[] }) scope.names }):
  A7 M A (newFunctionEnv scope g cl [] qual O .none (Z env)) Q E s:=by
 simp only[newFunctionEnv,bP,QA];refine zb (wpAny_alloc ?_);refine zb (wpAny_layCells _ (λname a b=>by cases a==NameKind.cell<;>simp) _ _ _ _ ?_);rw[show({ s with heap:=s.heap.push { cls:=.type "dict",data:=.dict #[] } }:A2).heap.objs.size=s.heap.objs.size+1 from JP ..];rw[List.forIn_nil];exact zb (zg (zg h))
structure p7 (X:Cx) (scope:Scope) (cl:List (Str×Addr)) (xs:At) (is:List Nat):Prop where
 clos:closureFor scope X.env=pure cl
 kind:scope.kind=.function
 cell:∀y∈scope.names,y.2=.cell->cl.lookup y.1=none
 names:∀y∈scope.names,y.2=.local->scope.names.lookup y.1=some .local
 sub:C6 X.env.cells cl
 has:∀x,((relabel scope X.env).names.lookup x=some .cell\/(relabel scope X.env).names.lookup x=some .free)->(x,NameKind.cell)∈scope.names\/∃c,cl.lookup x=some c
 cap:Jm X scope cl xs is
def rY(is:Y Nat)(σ:L2.St):L2.St:=is.map λi=>(σ[i]?).bind λv=>v
def kY(is:Y Nat)(ρ:Ev):Ev:=is.map λi=>Am ρ i
def Oz(n m:Nat)(g:Dt->Ev->S Ev):Prop:=∀d ρ a,g d ρ=Z a->a.length=ρ.length/\∀j,j<n\/m<=j->a[j]?=ρ[j]?
def Us(n m:Nat)(g:Y Dt->Ev->S Ev):Prop:=∀d ρ a,g d ρ=Z a->a.length=ρ.length/\∀j,j<n\/m<=j->a[j]?=ρ[j]?
theorem bY(h:n<=i:=by decide)(h':i<m:=by decide):Oz n m (λd ρ=>Z (ρ.set i (Z (.z d)))):=λd ρ a e=>by
 cases e;exact⟨by rw[List.length_set],λj b=>Ww _ ()⟩
theorem xQ:Us n m pZ:=λd ρ a e=>by
 cases d with
 |nil=>cases e;exact⟨rfl,λ_ _=>J⟩
 |cons=>cases e
theorem jP{g:Dt->Ev->S Ev}{gs:Y Dt->Ev->S Ev}(h:Oz n m g)(hs:Us n m gs):Us n m (cW g gs):=λd ρ l e=>by
 cases d with
 |nil=>cases e
 |cons d ds=>
  simp only[cW]at e;obtain⟨k,e1,e⟩:=AT e;obtain⟨a,b⟩:=h _ _ _ e1;obtain⟨i,f⟩:=hs _ _ _ e;exact⟨i.trans a,λj c=>(f j c).trans (b j c)⟩
theorem Dp{gs:Y Dt->Ev->S Ev}(hs:Us n m gs):Oz n m (nq k gs):=λd ρ a e=>by
 cases d with
 |tup ds=>
  simp only[nq]at e;split at e
  ·exact hs _ _ _ e
  ·cases e
 |_=>cases e
def vG(gt:Dt->Ev->S Ev)(p:Ev->S Bool)(fs:Ev->S (Y Dt))(ρ:Ev):Y Dt->S (Y Dt)
 |[]=>Z []
 |d::ds=>(gt d ρ).bind λa=>(p a).bind λk=>if k=true then(fs a).bind λys=>(vG gt p fs ρ ds).bind λzs=>Z (ys++zs)else vG gt p fs ρ ds
def YD:Bx->S (Y Dt)
 |.z y=>Z [y]
 |_=>O
def Bv(gt:Dt->Ev->S Ev)(p:Ev->S Bool)(fe:Ev->S Bx)(ρ:Ev):Y Dt->S (Y Dt):=vG gt p (λρ=>(fe ρ).bind YD) ρ
theorem Bw{b:Bx}{ys:Y Dt}(h:YD b=Z ys):∃y,b=.z y/\ys=[y]:=by
 cases b<;>cases h;exact⟨_,rfl,rfl⟩
theorem vH{gt:Dt->Ev->S Ev}{p:Ev->S Bool}{fe:Ev->S Bx}{ρ:Ev}:∀{ds out:Y Dt},Bv gt p fe ρ ds=Z out->out.length<=ds.length
 |[],_,e=>by cases e;exact zi _
 |d::ds,out,e=>by
  simp only[Bv,vG]at e;obtain⟨f,_,e⟩:=AT e;obtain⟨k,_,e⟩:=AT e;cases k with
  |false=>
   rw[zo qS]at e;exact zl (vH (gt:=gt) (p:=p) (fe:=fe) e) (by simp)
  |true=>
   rw[zh rfl]at e;obtain⟨ys,a,e⟩:=AT e;obtain⟨zs,c,e⟩:=AT e;obtain⟨b,_,a⟩:=AT a;obtain⟨y,_,rfl⟩:=Bw a;cases e;simpa using vH (gt:=gt) (p:=p) (fe:=fe) c
def C1(X:Cx)(ifs:Y Expr)(p:Ev->S Bool):Prop:=(ifs=[]/\p=λ_=>Z true)\/∃c,ifs=[c]/\PB X c p
structure rZ (X:Cx) (ifs:List Expr) (p:Ev->Option Bool):Prop where
 run:C1 X ifs p
section
variable{xs:At}{gt:Dt->Ev->S Ev}{p:Ev->S Bool}{fe:Ev->S Bx}{fi:Ev->S (Y Dt)}
theorem Qh{s:Hp}{d:A2}(a:L2.AU X AN σ s d)(O:p7 X scope cl xs is)(w:∀b∈fp,pO X AN s b)(A:∀b∈fp,b<d.heap.objs.size):
  L2.AU (wJ X (xs++ts) scope cl d.heap.objs.size d s fp) [] (rY is σ++aa ts.length none) s { d with heap:=pushCells (d.heap.push { cls:=.type "dict",data:=.dict #[] }) scope.names }:=by
 obtain⟨G,L⟩:=O.cap.get;have g:=O.sub;have U:(d.heap.push { cls:=.type "dict",data:=.dict #[] }).objs.size=d.heap.objs.size+1:=JP ..;have hk:∀b o,d.heap.get? b=Z o->(pushCells (d.heap.push { cls:=.type "dict",data:=.dict #[] }) scope.names).get? b=Z o:=λb o e=>pushCells_keeps _ _ b o (ze _ e);have C:YC (pushCells (d.heap.push { cls:=.type "dict",data:=.dict #[] }) scope.names) (cellsFrom (d.heap.objs.size+1) scope.names cl):=by
  rw[<-U];refine Qg _ _ _ ⟨λx y c e1 e2=>a.ok.inj x y c (g.get e1) (g.get e2),λx c e=>?_⟩;obtain⟨v,q⟩:=a.cell x c (g.get e);exact⟨v,q.keeps λb o e=>ze _ e⟩
 have D:∀x c,(cellsFrom (d.heap.objs.size+1) scope.names cl).lookup x=Z c->X.env.cells.lookup x=Z c\/d.heap.objs.size<c:=λx c e=>(uw _ _ _ x c e).imp_left g.get;refine⟨⟨a.ok.mod,O.kind,a.ok.glob,a.ok.blt,zi _,C.inj,λx hx=>Jo _ _ _ x (O.has x hx),λx c hx e=>?_,a.ok.hd,a.ok.frames,.inl rfl,λb f=>⟨zS (A b f),λx c e=>?_⟩,a.bs,zl a.ok.bsz a.sz,λb o e f=>?_,λb f N=>?_,a.stack,a.Ut,a.ok.tabs.go a.base.FP⟩,
  rfl,a.bare,Un.kept hk,⟨_,(Heap.Ns.new d.heap (.type "dict")).keeps (pushCells_keeps _ _),λj x v e1 e2 _=>?_⟩,C.cell,a.hok.fresh (zi _),λx c e=>(D x c e).elim (a.wF x c) λh=>a.hok.fresh (ZY h),λq H=>absurd (show q∈([]:Y (A1×AE)) from H) (by simp),a.hok.kept hk,?_⟩
 ·refine(uw _ _ _ x c e).elim (λh=>?_) λh=>ZY h;have hx:(x,NameKind.cell)∈scope.names:=by
   have hx:YB scope.names x=true:=hx;unfold YB at hx;split at hx
   ·rename_i q;exact mem_of_lookup q
   ·cases hx
  rw[O.cell _ hx rfl]at h;cases h
 ·rcases D x c e with h|h
  ·exact(w b f).2.2.2.2.1 x c h
  ·exact k8 (eC (A b f) h)
 ·obtain⟨_,_,_,z,_⟩:=w b f;rcases z with z|z
  ·exact a.ok.afZ b o e z
  ·exact absurd (qk (Zl e) (zl a.ok.bsz z)) (Nat.lt_irrefl _)
 ·obtain⟨_,n1,W,_⟩:=w b f;rcases List.mem_cons.mp (a.YF b N)with z|z
  ·exact n1 z
  ·exact W z
 ·have B:j<is.length:=by
   by_cases B:j<is.length
   ·exact B
   ·rw[QY (by simp[rY];omega)]at e2;rw[km]at e2;split at e2<;>cases e2
  have F:xs[j]?=Z x:=by
   have e1:(xs++ts)[j]?=Z x:=e1;rw[qh ()]at e1;exact e1
  obtain⟨i,E,m⟩:=L j x F;have e3:σ[i]?=Z (Z v):=by
   rw[qh (by simp[rY];omega)]at e2;unfold rY at e2;rw[q5,E]at e2;cases q:σ[i]? with
   |none=>rw[bn,q]at e2;cases e2
   |some o=>
    rw[bn,q]at e2;have:o=Z v:=by simpa using e2
    rw[this]
  have P:Tg X.env.scope x:=by
   rcases m.k with k|k
   ·exact .inr (.inl k)
   ·exact .inr (.inr k)
  obtain⟨m',a0,Q⟩:=a.loc;obtain⟨u,r,l⟩:=Q i x v m.n e3 P;refine⟨u,r,?_⟩;rcases l with⟨k,_⟩|⟨k,c,ec,I⟩
  ·rcases m.k with t|t<;>(rw[k]at t;cases t)
  ·obtain⟨c',p⟩:=m.c;have:=g.get p;rw[ec]at this;cases this;refine .inr ⟨m.k',c,(Dn _ _ _ x λz=>by rw[O.cell _ z rfl]at p;cases p).trans p,?_⟩;obtain⟨o,K,M⟩:=I;exact⟨o,hk c o K,M⟩
 ·show(rY is σ++aa ts.length none).length=(xs++ts).length;simp[rY,G]
structure DM (Hb:Hp) (σ:L2.St) (ρ:Ev) (n:Nat):Prop where
 own:∀(j:Nat) c,ρ[j]?=some (some c)->Jj c=false
 lt:∀(j:Nat) b,ρ[j]?=some (some b)->j<n
 old:∀(j:Nat) c a,ρ[j]?=some (some c)->loose c=true->σ[j]?=some (some (.ref a))->Hb a≠none
def Fx(σ σ':L2.St)(ρ:Ev):Prop:=∀(j:Nat) c,loose c=true->ρ[j]?=Z (Z c)->σ'[j]?=σ[j]?
theorem DD{ρ:Ev}(E:eV K H0 H σ ρ)(j:Nat)(c:Bx)(a:A1)(e:ρ[j]?=Z (Z c))(h:loose c=true)(ea:σ[j]?=Z (Z (.ref a))):H a≠O:=λz=>by
 obtain⟨v,e1,b⟩:=E.val j _ e;rw[ea]at e1;cases e1;cases c with
 |z d=>cases h
 |l g=>
  obtain⟨f,vs,e2,q,_⟩:=b;cases e2;rcases q with q|⟨o,q⟩<;>(rw[z]at q;cases q)
 |n g=>
  obtain⟨f,vs,e2,q,_⟩:=b;cases e2;rcases q with q|⟨o,q⟩<;>(rw[z]at q;cases q)
 |o g=>
  obtain⟨f,vs,e2,q,_⟩:=b;cases e2;rw[z]at q;cases q
 |m g _=>
  obtain⟨f,vs,e2,q,_⟩:=b;cases e2;rw[z]at q;cases q
def Ni(X:Cx)(el:A1->Env->Sem Unit)(fs:Ev->S (Y Dt))(Ac:A1->Hp->Y Dt->HO->Prop)(N n:Nat):Prop:=∀(AN:Y (A1×AE)) (s:A2) (σ:L2.St) (H a:Hp) (ρ:Ev) (D:A1) (o:HO) (b ys:Y Dt),L2.AU X AN σ H s->eV X.K a H σ ρ->DM a σ ρ n->a D=O->fs ρ=Z ys->H D=Z o->Ac D H b o->b.length+ys.length<=N →
 A7 (f8 X) X.A (el D X.env) (λ_ s'=>∃ σ' H' o',L2.AU X AN σ' H' s'/\eV X.K a H' σ' ρ/\Fx σ σ' ρ/\H' D=Z o'/\Ac D H' (b++ys) o') X.xe s
theorem YG{fs:Ev->S (Y Dt)}{Ac:A1->Hp->Y Dt->HO->Prop}{N:Nat}(h:∀(AN:Y (A1×AE)) (s:A2) (σ:L2.St) (H c:Hp) (ρ:Ev) (D:A1) (o:HO) (b ys:Y Dt),L2.AU X AN σ H s->eV X.K c H σ ρ->fs ρ=Z ys->H D=Z o->Ac D H b o->b.length+ys.length<=N →
  A7 (f8 X) X.A (el D X.env) (λ_ s'=>∃a o',L2.AU X AN σ (B8 a D o') s'/\AV H a/\Kp a (B8 a D o')/\Ac D (B8 a D o') (b++ys) o') X.xe s):Ni X el fs Ac N n:=λAN s σ H c ρ D o b ys I E P d e1 e2 a1 l=>by
 refine ZZ (h AN s σ H c ρ D o b ys I E e1 e2 a1 l) (λ_ s' ⟨a,o',I',s9,kp,a'⟩=>?_) λ_ _ z=>z;exact⟨σ,_,o',I',(E.grow s9).grown P d kp,λ_ _ _ _=>J,bH,a'⟩
structure KD (B:Around->Bool->Prop) (P:Program) (w:World) (K:B5) (tg:Expr) (J:It) (fp:List Addr) (it:Addr) (tn:Nat->Heap->Prop):Prop where
 obj:∀i h,tn i h->∀b∈fp,∃o,h.get? b=some o/\∀v,o.data≠.cell v
 keep:∀i h h',tn i h->(∀b∈fp,∀o,h.get? b=some o->h'.get? b=some o)->tn i h'
 item:∀(X:Cx),X.prog=P->X.w=w->X.K=K->B X.A X.calm->∀(i:Nat) (AN:List (Addr×Obj)) (s:Shared) (σ:L2.St) (H:Hp) (E:BB),L2.AU X AN σ H s->(∀b∈fp,pO X AN H b)->tn i s.heap->J.go i H →
  wpAny (model P w) X.A (pyNext (.ref it)) (λr s1=>∃u,r=some u ∧
   wpAny (model P w) X.A (letOwnedTupleGo tg (.ref it) u) (λ_ s2=>∃x H',L2.AU X AN σ H' s2/\B0 x u/\J.yld i H x H'/\tn (i+1) s2.heap/\∀b∈fp,H' b=none) E s1) E s
 done:∀(X:Cx),X.prog=P->X.w=w->X.K=K->B X.A X.calm->∀(i:Nat) (AN:List (Addr×Obj)) (s:Shared) (σ:L2.St) (H:Hp) (E:BB),L2.AU X AN σ H s->(∀b∈fp,pO X AN H b)->tn i s.heap->J.stop i H →
  wpAny (model P w) X.A (pyNext (.ref it)) (λr s1=>r=none/\L2.AU X AN σ H s1) E s
 self:∀(A:Around) (i:Nat) (s:Shared) (Q:BB) (E:BB),tn i s.heap->Q (.ref it) s->wpAny (model P w) A (pyIter (.ref it)) Q E s
abbrev Gn:A5->Bool->Prop:=λ_ c=>c=true
theorem KH{J:It}(T:C0 P w K tg J fp it tn):KD Gn P w K tg J fp it tn:=⟨T.obj,T.keep,T.item,T.done,T.self⟩
theorem BJ{comp:Expr}{d:Nat}{d4:Pos}{Ac:A1->Hp->List Dt->HO->Prop}{fs:Ev->S (List Dt)}{N:Nat}{l:Hp}{J:It}{ds o0 out:List Dt}{o:HO}{ρ:Ev}{R:Result->A2->Prop}(a9:B X.A X.calm)(hx:X.xe=λ_ _=>False)(Jp:DH X tgt gt)(b8:C1 X ifs p)(d0:Ni X el fs Ac N m)(b7:Oz n m gt)(d1:n<=m)(I:L2.AU X AN σ H s)(E:eV X.K l H σ ρ)(P:DM l σ ρ n)(hD:l D=O)(d2:H D=Z o)(hA:Ac D H o0 o)(T:KD B X.prog X.w X.K tgt J fp it tn)(st:tn 0 s.heap)(hf:∀b∈fp,pO X AN H b)(Y:BE X.K J ds l)(d6:vG gt p fs ρ ds=Z out)(hN:o0.length+out.length<=N)(Wx:∀{D:A1} {H H':Hp} {t:List Dt} {o:HO},Kp H H'->Ac D H t o->Ac D H' t o)(d3:∀(it:A0) (D:A1) (env:Env),compTurn comp d it (.ref D) env=(standAt d4 >>= λ_=>pyNext it >>= λr=>match r with
   |none=>pure (.done .next)
   |some v=>letOwnedTupleGo tgt it v >>= λ_=>assign tgt env v >>= λ_=>(forIn ifs true λc r=>if r=true then isTrue c env (eval c env) >>= λok=>pure (ForInStep.yield ok)else pure (ForInStep.yield r)) >>= λok=>if ok=true then el D env >>= λ_=>again (.compLoop comp d it (.ref D) env)else again (.compLoop comp d it (.ref D) env)))(c6:∀{it acc:A0} {env:Env} {Q:Fin->A2->Prop} {E:BB} {s:A2},A7 (f8 X) X.A ((compTurn comp d it acc env).onRaise (λx=>noteFrame x env >>= λ_=>theTreesLotGoes x)) Q E s->A7 (f8 X) (X.A.under (.compLoop comp d it acc env)) ((f8 X).den (.compLoop comp d it acc env)) Q E s)(hR:∀s' σ' H' o',L2.AU X AN σ' H' s'->eV X.K l H' σ' ρ->Fx σ σ' ρ->H' D=Z o'->Ac D H' (o0++out) o'->R (.ok .next) s'):
  AF (f8 X) X.A (.compLoop comp d (.ref it) (.ref D) X.env) R s:=by
 have a7:∀{H':Hp},(∀b∈fp,H' b=O)->∀b∈fp,pO X AN H' b:=λ{H'} hn b C=>⟨hn b C,(hf b C).2⟩;refine codeAny_loop rfl (λk s'=>∃(i:Nat) (σ':L2.St) (H':Hp) (t o2:List Dt) (o:HO),k=ds.length-i/\i<=ds.length/\L2.AU X AN σ' H' s'/\tn i s'.heap/\(∀b∈fp,H' b=O)/\eV X.K l H' σ' ρ/\Fx σ σ' ρ/\H' D=Z o/\Ac D H' t o/\vG gt p fs ρ (ds.drop i)=Z o2/\t++o2=o0++out) ?_ ds.length
  ⟨0,σ,H,o0,out,o,by simp,ZO _,I,st,λb C=>(hf b C).1,E,λ_ _ _ _=>rfl,d2,hA,by simpa using d6,rfl⟩
 rintro k s4 ⟨i,a3,H4,t,o2,o,rfl,hi,I4,b4,a8,E4,F4,a2,W,g,ho⟩;have P4:=P.fx F4;refine c6 (wpAny_noted ?_);rw[d3];obtain⟨y1,y2⟩:=Y i H4 E4.base;by_cases a4:i<ds.length
 ·have hd:ds[i]?=Z ds[i]:=by simp[a4]
  obtain⟨go,yl⟩:=y1 _ hd;rw[cm a4]at g;simp only[vG]at g;obtain⟨y,e1,g⟩:=AT g;obtain⟨k,ek,g⟩:=AT g;obtain⟨c8,a6⟩:=b7 _ _ _ e1;have b3:∀{a1:L2.St} {H5:Hp},eV X.K l H5 a1 y->eV X.K l H5 a1 ρ:=λE5=>E5.forget c8 λj b e=>by rw[a6 j (.inl (P.lt j b e))];exact e
  refine zb (Jn (zb ?_));refine gM (T.item X rfl rfl rfl a9 i AN s4 a3 H4 _ I4 (a7 a8) b4 go) λr s5 ⟨u,hr,h5⟩=>?_;subst hr;refine zb (gM h5 λ_ s6 ⟨x,H6,I6,r6,y6,DE,fr6⟩=>?_);obtain⟨sm,rx⟩:=yl x H6 y6;have E4:=E4.grow sm;have a2:=sm _ _ a2;have W:=Wx (.of sm) W;have b9:=I6.pinned (a7 fr6) (T.obj _ _ DE);have ha:=Jp _ s6 a3 H6 x u (λσ' H'=>H'=H6/\eV X.K l H6 σ' y/\Lo a3 ρ σ' y) b9 r6 ⟨l,ρ,ds[i],y,E4,rx,e1,λσ' E' L'=>⟨rfl,E',L'⟩⟩;rw[hx]at ha;refine zb (ZZ ha (λ_ s7 h7=>?_) λ_ _ z=>z.elim);obtain⟨G,H7,I7,rfl,E7,L7⟩:=h7;have P7:DM l G y m:=by
   refine⟨λj c e=>?_,λj c e=>?_,λj c a e F ea=>?_⟩
   ·cases c with
    |o ds=>exact P.own j _ (L7 j _ rfl e).1
    |m ds _=>exact P.own j _ (L7 j _ rfl e).1
    |_=>rfl
   ·refine Nat.lt_of_not_le λh=>?_;rw[a6 j (.inr h)]at e;exact absurd (qk (P.lt j c e) d1) (dE.mpr h)
   ·obtain⟨e',ee⟩:=L7 j c F e;exact P4.old j c a e' F (by rw[<-ee];exact ea)
  have Wy:∀{a1:L2.St},Fx G a1 y->Fx σ a1 ρ:=λf j c F e=>by
   have e':y[j]?=Z (Z c):=by rw[a6 j (.inl (P.lt j c e))];exact e
   exact(f j c F e').trans ((L7 j c F e').2.trans (F4 j c F e))
  have ht:A7 (f8 X) X.A (forIn ifs true λc r=>if r=true then do let ok <-isTrue c X.env (eval c X.env);pure (ForInStep.yield ok)else pure (ForInStep.yield r))
    (λok U=>ok=k/\∃q,L2.AU X (AN++CP fp s6.heap) G q U/\AV H7 q) (notedBy (f8 X) X.A X.env λe s'=>R (.error e) s') s7:=by
   rcases b8 with⟨rfl,rfl⟩|⟨c,rfl,hc⟩
   ·cases ek;exact wpAny_tests_nil ⟨rfl,H7,I7,AV.refl H7⟩
   ·refine wpAny_tests_one ?_;have:=hc _ s7 G H7 (λb q=>b=k/\AV H7 q) I7 ⟨l,y,k,E7,ek,λq U=>⟨rfl,U⟩⟩;rw[hx]at this;exact ZZ this (λb U ⟨q,I8,eb,s8'⟩=>⟨eb,q,I8,s8'⟩) λ_ _ z=>z.elim
  refine zb (ZZ ht (λok U h8=>?_) λ_ _ z=>z);obtain⟨rfl,q,I8,M⟩:=h8;have Qi:∀{a0:L2.St} {L:Hp} {s9:A2},L2.AU X (AN++CP fp s6.heap) a0 L s9->L2.AU X AN a0 L s9/\tn (i+1) s9.heap/\∀b∈fp,L b=O:=λ{a0 L s9} I9=>by
   refine⟨I9.tZ,T.keep _ _ _ DE λb C o e=>(I9.pin (b,o) (qv _ (qv _ (nQ C e)))).1,λb C=>?_⟩;obtain⟨o,e,d⟩:=T.obj _ _ DE b C;exact(I9.pin (b,o) (qv _ (qv _ (nQ C e)))).2.1
  cases ok with
  |false=>
   rw[zo qS]at g;obtain⟨I9,c5,b5⟩:=Qi I8;exact zg ⟨rfl,ds.length-(i+1),by omega,i+1,G,q,t,o2,o,rfl,a4,I9,c5,b5,b3 (E7.grow M),Wy (λ_ _ _ _=>rfl),M _ _ a2,Wx (.of M) W,g,ho⟩
  |true=>
   rw[zh rfl]at g;obtain⟨ys,eb,g⟩:=AT g;obtain⟨zs,e5,g⟩:=AT g;cases g;have F:=congrArg e9 ho;simp only[zC]at F;have he:=d0 _ U G q l y D o t ys I8 (E7.grow M) P7 hD eb (M _ _ a2) (Wx (.of M) W) ();rw[hx]at he;refine zb (ZZ he (λ_ e2 c9=>?_) λ_ _ z=>z.elim);obtain⟨a0,L,o',c0,E9,F9,e0,a5⟩:=c9;obtain⟨d5,c4,b6⟩:=Qi c0;exact zg ⟨rfl,ds.length-(i+1),by omega,i+1,a0,L,t++ys,zs,o',rfl,a4,d5,c4,b6,b3 E9,Wy F9,e0,a5,e5,by rw[qa];exact ho⟩
 ·have b0:ds.length<=i:=by omega
  rw[dm b0]at g;cases g;refine zb (Jn (zb ?_));refine gM (T.done X rfl rfl rfl a9 i AN s4 a3 H4 _ I4 (a7 a8) b4 (y2 b0)) λr s5 ⟨hr,I5⟩=>?_;subst hr;rw[Q2]at ho;exact zg (hR s5 a3 H4 o I5 E4 F4 a2 (by rw[<-ho];exact W))
theorem BK{R:Result->A2->Prop}{d:Nat}{g:Expr}{it acc:A0}(f:(clausesOf e)[d]?=Z ⟨g,iter,ifs,0⟩)(i:∀{Q:Fin->A2->Prop} {E:BB},A7 (A8 prog w) A ((compStart e d it acc env).onRaise (λx=>do noteFrame x env;standAt theWindowsPlace)) Q E s->A7 (A8 prog w) (A.under (.compStart e d it acc env)) ((A8 prog w).den (.compStart e d it acc env)) Q E s)(b:Code.quiet (.compLoop e d it acc env)=true:=by rfl)(c:AF (A8 prog w) A (.compLoop e d it acc env) R s)(h:A7 (A8 prog w) A (pyIter it) (λa s'=>AF (A8 prog w) A (.compLoop e d a acc env) R s') (notedBy (A8 prog w) A env λx s'=>R (.error x) s') s):
  AF (A8 prog w) A (.compStart e d it acc env) R s:=by
 refine codeAny_of_tree (i ?_);refine wpAny_notedAt ?_;unfold compStart;rw[f];show A7 _ _ (ask >>= _) _ _ s;refine zb (wpAny_askSetting (wpAny_ite ?_));split
 ·exact zg (And.intro b c)
 ·refine zb (QQ ?_);show A7 _ _ (standAt iter.pos >>= _) _ _ s;exact zb (Jn (zb (ZZ h (λa s' h'=>zg (And.intro b h')) λ_ _ x=>x)))
def wK(H:Hp)(D:A1):Hp:=λb=>if b=D then O else H b
theorem p8{b:A1}(h:b≠D):wK H D b=H b:=zo h
theorem yM:AV (wK H D) H:=λb o e=>by
 by_cases h:b=D
 ·rw[wK,zh h]at e;cases e
 ·rw[p8 h]at e;exact e
def CH(fi:Ev->S (Y Dt))(gt:Dt->Ev->S Ev)(p:Ev->S Bool)(fs:Ev->S (Y Dt)):Ev->S (Y Dt):=λρ=>(fi ρ).bind λds=>vG gt p fs ρ ds
theorem Gp{comp:Expr}{d:Nat}{Ac:A1->Hp->List Dt->HO->Prop}{fs:Ev->S (List Dt)}{N:Nat}(a5:X.calm=true)(hx:X.xe=λ_ _=>False)(hi:GO X tgt iter fi)(Jp:DH X tgt gt)(a8:C1 X ifs p)(a3:Ni X el fs Ac N m)(a7:Oz n m gt)(a4:n<=m)(t:∀{D:A1} {H H':Hp} {f:List Dt} {o:HO},Kp H H'->Ac D H f o->Ac D H' f o)(F:∀{D:A1} {H:Hp} {f:List Dt} {o:HO},Ac D H f o->(∀C u,o≠.m5 C u)/\∀vs,o≠.tup vs)(hs:∀x,foldedSetIterable iter X.env x=pure x)(a0:∀(it:A0) (D:A1) (env:Env),compTurn comp d it (.ref D) env=(standAt iter.pos >>= λ_=>pyNext it >>= λr=>match r with
   |none=>pure (.done .next)
   |some v=>letOwnedTupleGo tgt it v >>= λ_=>assign tgt env v >>= λ_=>(forIn ifs true λc r=>if r=true then isTrue c env (eval c env) >>= λok=>pure (ForInStep.yield ok)else pure (ForInStep.yield r)) >>= λok=>if ok=true then el D env >>= λ_=>again (.compLoop comp d it (.ref D) env)else again (.compLoop comp d it (.ref D) env)))(b0:∀{it acc:A0} {env:Env} {R:Result->A2->Prop} {s:A2},AF (f8 X) X.A (.compLoop comp d it acc env) R s->A7 (f8 X) X.A (pyIter it) (λa9 s'=>AF (f8 X) X.A (.compLoop comp d a9 acc env) R s') (notedBy (f8 X) X.A env λx s'=>R (.error x) s') s->AF (f8 X) X.A (.compStart comp d it acc env) R s)(a2:∀{it acc:A0} {env:Env} {Q:Fin->A2->Prop} {E:BB} {s:A2},A7 (f8 X) X.A ((compTurn comp d it acc env).onRaise (λx=>noteFrame x env >>= λ_=>theTreesLotGoes x)) Q E s->A7 (f8 X) (X.A.under (.compLoop comp d it acc env)) ((f8 X).den (.compLoop comp d it acc env)) Q E s):
  Ni X (λD env=>do let x <-eval iter env;standAt iter.pos;let x <-foldedSetIterable iter env x;let _ <-runOwn (.compStart comp d (<-holding [x] (pyIter x)) (.ref D) env) env) (CH fi gt p fs) Ac N n:=by
 intro AN s σ H L ρ D o f ys I E P hD e U l k;obtain⟨ds,ed,e⟩:=AT e;refine zb (ZZ (hi AN s σ H (λJ H'=>AV H H'/\∀g,AV g H'->(∀a,H a=O->g a=H' a)->(∀a o u,H' a=Z (.m5 o u)->g a=H' a)->(∀a vs,H' a=Z (.tup vs)->g a=H' a)->BE X.K J ds g) I ⟨L,ρ,ds,E,ed,λJ H' s' y=>⟨s',y⟩⟩) (λv s1 h1=>?_) λ_ _ z=>z);refine zb (Jn (zb (wpAny_of_eq (hs v) (zb (QU (ZZ h1 (λb3 s2 h2=>?_) λ_ _ z=>z))))));obtain⟨it,fp,tn,J,H2,rfl,I2,T,st,hf,i,Y⟩:=h2;have q:=i _ _ U;have a1:=t (.of i) l;have Yb:BE X.K J ds (wK H2 D):=Y _ yM (λa b=>p8 λz=>by rw[z,U]at b;cases b) (λa C u b=>p8 λz=>by rw[z,q]at b;cases b;exact(F l).1 _ _ rfl) λa vs b=>p8 λz=>by rw[z,q]at b;cases b;exact(F l).2 _ rfl
 have M:AV L (wK H2 D):=λa u ea=>by rw[p8 (gk ea hD)];exact i _ _ (E.base _ _ ea)
 have E2:eV X.K (wK H2 D) H2 σ ρ:=(E.grow i).onto P.own yM;have P2:DM (wK H2 D) σ ρ n:=⟨P.own,P.lt,λj c a ec k ea z=>P.old j c a ec k ea (M.free z)⟩;have lp:∀{R:Result->A2->Prop},(∀s' σ' H' o',L2.AU X AN σ' H' s'->eV X.K (wK H2 D) H' σ' ρ->Fx σ σ' ρ->H' D=Z o'->Ac D H' (f++ys) o'->R (.ok .next) s')->AF (f8 X) X.A (.compStart comp d (.ref it) (.ref D) X.env) R s2:=λhR=>
  have h:=BJ (B:=Gn) a5 hx Jp a8 a3 a7 a4 I2 E2 P2 (zh rfl) q a1 (KH T) st hf Yb e k t a0 a2 hR
  b0 h (T.self _ 0 _ _ _ st h)
 exact zb (wpAny_runOwn (lp λs' σ' H' o' W G F' a6 a'=>zg ⟨σ',H',o',W,G.onto P.own (M.trans G.base),F',a6,a'⟩))
theorem BL{comp:Expr}{mk:Sem A0}{o0:AE}{O0:HO}{Ac:A1->Hp->List Dt->HO->Prop}{fs:Ev->S (List Dt)}{N:Nat}{H2:Hp}{a:A2}{J:It}{ds out:List Dt}{ρ:Ev}(O:p7 X scope cl xs is)(b4:B X.A X.calm)(Jp:∀C k l fp,DH (wJ X (xs++ts) scope cl C k l fp) tgt gt)(c0:∀C k l fp,C1 (wJ X (xs++ts) scope cl C k l fp) ifs p)(b9:∀C k l fp,Ni (wJ X (xs++ts) scope cl C k l fp) el fs Ac N m)(b8:Oz is.length m gt)(a8:is.length<=m)(G:L2.AU X AN σ H2 a)(Ec:eV X.K H2 H2 (rY is σ++aa ts.length none) (kY is ρ++aa ts.length none))(T:KD B X.prog X.w X.K tgt J fp it tn)(st:tn 0 a.heap)(hf:∀b∈fp,pO X AN H2 b)(Y:BE X.K J ds H2)(b6:vG gt p fs (kY is ρ++aa ts.length none) ds=Z out)(a4:out.length<=N)(a2:∀(D C:A1) (s':A2) (H':Hp) (o:HO),H2 D=none->L2.AU X AN σ H' s'->pO X AN H' C->(∃m,s'.heap.Ns C m)->AV H2 H'->H' D=Z o->Ac D H' out o->RR (.ref D) C (.ok .next) s')(a3:∀{Q:BB},Q (.ref a.heap.objs.size) { a with heap:=a.heap.push o0 }->A7 (f8 X) X.A mk Q E a)(b7:∀H,m7 X.prog X.w H (a.heap.push o0) a.heap.objs.size O0)(a0:∀H,Ac a.heap.objs.size H [] O0)(Wx:∀{D:A1} {H H':Hp} {o1:List Dt} {o:HO},Kp H H'->Ac D H o1 o->Ac D H' o1 o)(a1:∀(it:A0) (D:A1) (env:Env),compTurn comp 0 it (.ref D) env=(standAt iter.pos >>= λ_=>pyNext it >>= λr=>match r with
   |none=>pure (.done .next)
   |some v=>letOwnedTupleGo tgt it v >>= λ_=>assign tgt env v >>= λ_=>(forIn ifs true λc r=>if r=true then isTrue c env (eval c env) >>= λok=>pure (ForInStep.yield ok)else pure (ForInStep.yield r)) >>= λok=>if ok=true then el D env >>= λ_=>again (.compLoop comp 0 it (.ref D) env)else again (.compLoop comp 0 it (.ref D) env)))(c6:∀{it acc:A0} {env:Env} {R:Result->A2->Prop} {s:A2},AF (f8 X) X.A (.compLoop comp 0 it acc env) R s->A7 (f8 X) X.A (pyIter it) (λc4 s'=>AF (f8 X) X.A (.compLoop comp 0 c4 acc env) R s') (notedBy (f8 X) X.A env λx s'=>R (.error x) s') s->AF (f8 X) X.A (.compStart comp 0 it acc env) R s)(a7:∀{it acc:A0} {env:Env} {Q:Fin->A2->Prop} {E:BB} {s:A2},A7 (f8 X) X.A ((compTurn comp 0 it acc env).onRaise (λx=>noteFrame x env >>= λ_=>theTreesLotGoes x)) Q E s->A7 (f8 X) (X.A.under (.compLoop comp 0 it acc env)) ((f8 X).den (.compLoop comp 0 it acc env)) Q E s):
  A7 (f8 X) X.A mk (λacc b5=>A7 (f8 X) X.A (newFunctionEnv scope X.env.globals cl [] X.env.qual none .none (Z X.env)) (λI a6=>
   AF (f8 X) X.A (.compStart comp 0 (.ref it) acc { I with scope:=relabel scope X.env }) (RR acc I.locals) a6) E b5) E a:=by
 refine a3 (Nh ?_);have F:H2 a.heap.objs.size=none:=G.hok.fresh (zi _);have t:L2.AU X AN σ (B8 H2 a.heap.objs.size O0) { a with heap:=a.heap.push o0 }:=
  G.laid (t':=a.toks) (λb o e=>ze _ e) (zi _) (b7 _)
 have M:∀b∈fp,b<a.heap.objs.size:=λb d=>let ⟨o,e,_⟩:=T.obj 0 _ st b d;Zl e;have u:∀b∈fp,pO X AN (B8 H2 a.heap.objs.size O0) b:=λb d=>⟨by rw[bh (zS (M b d))];exact(hf b d).1,(hf b d).2⟩;have L:tn 0 (a.heap.push o0):=T.keep 0 _ _ st λb d o e=>ze _ e;have n:∀b∈fp,b<(a.heap.push o0).objs.size:=λb d=>by rw[JP];exact cf (M b d)
 generalize b0:({ a with heap:=a.heap.push o0 }:A2)=s3 at *
 have c5:s3.heap=a.heap.push o0:=by rw[<-b0]
 rw[<-c5]at L n;have IC:=Qh (ts:=ts) t O u n;have P:tn 0 (pushCells (s3.heap.push { cls:=.type "dict",data:=.dict #[] }) scope.names):=T.keep 0 _ _ L λb d o e=>pushCells_keeps _ _ b o (ze _ e);have b3:∀b∈fp,pO (wJ X (xs++ts) scope cl s3.heap.objs.size s3 (B8 H2 a.heap.objs.size O0) fp) [] (B8 H2 a.heap.objs.size O0) b:=λb d=>by
  obtain⟨f0,f1,f2,f3,y,f5⟩:=u b d;refine⟨f0,zS (n b d),λz=>?_,.inl d,λx c e z=>?_,λq hq=>absurd (show q∈([]:List (A1×AE)) from hq) (by simp)⟩
  ·rcases List.mem_cons.mp (t.YF b z)with q|q
   ·exact f1 q
   ·exact f2 q
  ·rcases uw _ _ _ x c e with h|h
   ·exact y x c (O.sub.get h) z
   ·rw[z]at h;exact absurd (qk (n b d) (Nat.le_of_succ_le h)) (Nat.lt_irrefl _)
 have P0:DM H2 (rY is σ++aa ts.length none) (kY is ρ++aa ts.length none) is.length:=by
  have g:∀(j:Nat) c,(kY is ρ++aa ts.length none)[j]?=Z (Z c)->j<is.length/\Jj c=false:=λj c e=>by
   by_cases hj:j<is.length
   ·refine⟨hj,?_⟩;rw[qh (by simp[kY];omega)]at e;unfold kY at e;rw[q5]at e;cases q:is[j]? with
    |none=>rw[q]at e;cases e
    |some i=>rw[q]at e;exact Dg (by simpa using e)
   ·rw[QY (by simp[kY];omega),km]at e;split at e<;>cases e
  exact⟨λj c e=>(g j c e).2,λj c e=>(g j c e).1,DD Ec⟩
 have h:=BJ (B:=B) (X:=wJ X (xs++ts) scope cl s3.heap.objs.size s3 (B8 H2 a.heap.objs.size O0) fp) (R:=RR (.ref a.heap.objs.size) s3.heap.objs.size) (o0:=[]) b4 rfl (Jp _ _ _ _) (c0 _ _ _ _) (b9 _ _ _ _) b8 a8 IC (Ec.grow (bN F)) P0 F bH (a0 _) T P b3 Y b6 (by simpa using a4) Wx a1 a7 λW c8 U o5 f E5 _ a9 a5=>by
  have IB:L2.AU X AN σ U W:=t.call' (ch:=fp) f.os f.base f.hok f.bare λb d=>by
   obtain⟨f0,f1,f2,f3,y,f5⟩:=u b d;exact⟨f3,f1,y,f5⟩
  obtain⟨m,hn,_⟩:=f.loc;exact a2 _ _ W U o5 F IB (t.Gb (zi _) f.free) ⟨m,hn⟩ E5.base a9 a5
 exact c6 h (T.self _ 0 _ _ _ P h)
def KJ(K:B5)(_:A1)(H:Hp)(a:Y Dt)(o:HO):Prop:=∃us,o=.lst us/\aU K H a us
theorem KJ.kp{K:B5}{D:A1}{H H':Hp}{a:Y Dt}{o:HO}(k:Kp H H'):KJ K D H a o->KJ K D H' a o:=λ⟨us,e,r⟩=>⟨us,e,r.kp k⟩
def Uv(fe:Ev->S Bx):Ev->S (Y Dt):=λρ=>(fe ρ).bind YD
theorem KN(h:PV X elt fe):Ni X (λD env=>do let _ <-call (.builtin "list.append") [.ref D,<-eval elt env]) (Uv fe) (KJ X.K) 100000 n:=by
 refine YG λAN s σ H Hb ρ D o o1 ys I En g hD ⟨us,e,r4⟩ hl=>?_;subst e;obtain⟨b,eb,g⟩:=AT g;obtain⟨y,rfl,rfl⟩:=Bw g;refine zb (ZZ (h AN s σ H (λv a=>AV H a/\AW X.K a y v) I ⟨Hb,ρ,_,En,eb,λv a i _ d=>⟨i,d⟩⟩) (λv i l=>?_) λ_ _ z=>z);obtain⟨c,a,m,p,f,d⟩:=l;have k:=f _ _ hD;refine zb (ZZ ((Bt (X:=X)) _ i σ a (.ref D) [c] (.ref D) [v] (λw j=>j=B8 a D (.lst (us++[c]))) m J (.cons p .nil) ⟨_,us,c,rfl,rfl,k,by rw[r4.length];have t:(100000:Nat)<AA:=();simp at hl;omega,rfl⟩) (λw x q=>?_) λ_ _ z=>z);obtain⟨u,j,r,_,rfl⟩:=q;have kp:Kp a (B8 a D (.lst (us++[c]))):=.lst k;exact zg ⟨a,_,r,f,kp,us++[c],rfl,((r4.kp (.of f)).append (aU.cons d aU.nil)).kp kp⟩
theorem Gq{H2:Hp}{k:A2}{J:It}{ds out:List Dt}{ρ:Ev}(O:p7 X scope cl xs is)(q:B X.A X.calm)(G:∀C j i fp,DH (wJ X (xs++ts) scope cl C j i fp) tgt gt)(s:∀C j i fp,C1 (wJ X (xs++ts) scope cl C j i fp) ifs p)(u:∀C j i fp,PV (wJ X (xs++ts) scope cl C j i fp) elt fe)(I:Oz is.length (is.length+ts.length) gt)(z:L2.AU X AN σ H2 k)(y:eV X.K H2 H2 (rY is σ++aa ts.length none) (kY is ρ++aa ts.length none))(T:KD B X.prog X.w X.K tgt J fp it tn)(st:tn 0 k.heap)(F:∀b∈fp,pO X AN H2 b)(Y:BE X.K J ds H2)(v:ds.length<=100000)(l:Bv gt p fe (kY is ρ++aa ts.length none) ds=Z out)(H:∀(D C:A1) (s':A2) (H':Hp) (us:List V),H2 D=none->L2.AU X AN σ H' s'->pO X AN H' C->(∃m,s'.heap.Ns C m)->AV H2 H'->H' D=Z (.lst us)->aU X.K H' out us->RR (.ref D) C (.ok .next) s'):
  A7 (f8 X) X.A (newList []) (λacc t=>A7 (f8 X) X.A (newFunctionEnv scope X.env.globals cl [] X.env.qual none .none (Z X.env)) (λn x=>
   AF (f8 X) X.A (.compStart (.ListComp elt [⟨tgt,iter,ifs,0⟩] scope pos) 0 (.ref it) acc { n with scope:=relabel scope X.env }) (RR acc n.locals) x) E t) E k:=
 BL (B:=B) (Ac:=KJ X.K) (O0:=.lst []) (N:=100000) O q G s (λC j i fp=>KN (u C j i fp)) I (Nat.le_add_right ..) z y T st F Y l (zl (vH l) v) (λD C s' H' o a b c d e f g=>by obtain⟨us,rfl,r⟩:=g;exact H D C s' H' us a b c d e f r)
  ZT (λ_=>⟨ZO _,[],0,.nil,zw _ rfl⟩) (λ_=>⟨[],rfl,aU.nil⟩) KJ.kp (λ_ _ _=>rfl) codeAny_compStart_list λh=>h
end
def iC(K:B5)(f:Ev->S (Y Dt)):TI:=λσ H R=>∃H0 ρ ds,eV K H0 H σ ρ/\f ρ=Z ds/\∀J H',AV H H'->BE K J ds H'->R J H'
def FM(X:Cx)(tg iter:Expr)(f:Ev->S (Y Dt)):Prop:=PI X tg iter (iC X.K f)
structure D7 (X:Cx) (tg iter:Expr) (f:Ev->Option (List Dt)):Prop where
 run:FM X tg iter f
def Uw:Bx->S (Y Dt)
 |.z (.lst ds)=>Z ds
 |.z (.tup ds)=>Z ds
 |.z (.str x)=>Z (CY x)
 |.o ds=>Z ds
 |.l ds=>Z ds
 |_=>O
section
variable{f:Ev->S Bx}{fs:Ev->S (Y Bx)}{xs:At}{gt:Dt->Ev->S Ev}{p:Ev->S Bool}{fe:Ev->S Bx}{fi:Ev->S (Y Dt)}
theorem Qj(h:CM X tgt iter fi):D7 X tgt iter fi:=⟨have h:=h.run;λAN s σ H R I q=>by
 obtain⟨H0,ρ,ds,E,e,q⟩:=q;exact h AN s σ H R I ⟨H0,ρ,ds,E,e,λJ H' s' y=>q J H' s' (y H' (AV.refl H') (λ_ _=>rfl) (λ_ _ _ _=>rfl) λ_ _ _=>rfl)⟩⟩
theorem dw(h:QV X e f):D7 X tgt e (λρ=>(f ρ).bind Uw):=⟨have h:=h.run;λAN s σ H R I q=>by
 refine Qd h AN s σ H R I ?_;obtain⟨H0,ρ,ds,E,e,q⟩:=q;obtain⟨b,eb,e⟩:=AT e;refine⟨H0,ρ,b,E,eb,λv H1 j p i=>?_⟩;cases b with
 |z d=>
  cases d with
  |tup k=>
   cases e;simp only[aY,AW]at i;obtain⟨a,vs,rfl,c,g⟩:=i;exact .inr (.inl ⟨a,rfl,⟨vs,c⟩,q _ _ j (.tup c g)⟩)
  |lst k=>
   cases e;obtain⟨a,vs,rfl,c,g⟩:=i.Fv rfl;exact .inl ⟨a,rfl,⟨vs,c⟩,q _ _ j (.list c g)⟩
  |str x=>
   cases e;simp only[aY,AW]at i;obtain⟨rfl,_⟩:=i;exact .inr (.inr ⟨x,rfl,q _ _ j (.str x)⟩)
  |_=>cases e
 |l k=>
  cases e;obtain⟨a,vs,rfl,c,g⟩:=i.Fv rfl;exact .inl ⟨a,rfl,⟨vs,c⟩,q _ _ j (.list c g)⟩
 |o k=>
  cases e;obtain⟨a,vs,rfl,c,g⟩:=i.Fv rfl;exact .inl ⟨a,rfl,⟨vs,c⟩,q _ _ j (.list c g)⟩
 |n _=>cases e
 |m _ _=>cases e⟩
def dN(fi:Ev->S (Y Dt))(gt:Dt->Ev->S Ev)(p:Ev->S Bool)(fe:Ev->S Bx)(is:Y Nat)(n:Nat):Ev->S Bx:=λρ=>(fi ρ).bind λds=>
 if ds.length<=100000 then(Bv gt p fe (kY is ρ++aa n O) ds).bind λout=>Z (.o out)else O
theorem dY(ts:At)(O:p7 X scope cl xs is)(t:X.calm=true)(hi:D7 X tgt iter fi)(g:∀C c d fp,Tj (wJ X (xs++ts) scope cl C c d fp) tgt gt)(j:∀C c d fp,rZ (wJ X (xs++ts) scope cl C c d fp) ifs p)(i:∀C c d fp,QV (wJ X (xs++ts) scope cl C c d fp) elt fe)(L:Oz is.length (is.length+ts.length) gt)(hs:∀x,foldedSetIterable iter X.env x=pure x:=by intro _;rfl):QV X (.ListComp elt [⟨tgt,iter,ifs,0⟩] scope pos) (dN fi gt p fe is ts.length):=⟨have hi:=hi.run;have g:=λC c d fp=>(g C c d fp).run;have j:=λC c d fp=>(j C c d fp).run;have i:=λC c d fp=>(i C c d fp).run;λAN s σ H Q I h=>by
 obtain⟨H0,ρ,b,E,e,q⟩:=h;obtain⟨ds,z,e⟩:=AT e;split at e
 ·rename_i r;obtain⟨out,M,e⟩:=AT e;cases e;rw[eval_ListComp];refine KI (use:=none) rfl hs O.clos O.kind O.names ?_;refine gM (hi AN s σ H (λJ H'=>AV H H'/\BE X.K J ds H') I ⟨H0,ρ,ds,E,z,λJ H' s' y=>⟨s',y⟩⟩) λv s1 h1=>gM h1 λa0 s2 h2=>?_;obtain⟨it,fp,tn,J,H2,rfl,l,T,st,P,f,Y⟩:=h2;refine Gq (B:=Gn) (RR:=λG C=>compPost (f8 X) X.A X.xe none (EP X AN σ Q) G C) (ts:=ts) (xs:=xs) O t g j i L l ((E.grow f).caps is ts.length) (KH T) st P Y r M ?_;intro D C s' H' us u k F ⟨m,hn⟩ s2' hD' r';refine⟨m,hn,λh' N=>⟨.ref D,H',?_,rfl,q _ _ (f.trans s2') (λa ea=>by cases ea;exact f.free u) ⟨D,us,rfl,hD',r'⟩⟩⟩;obtain⟨f0,f1,f2,f3,n,U⟩:=F;exact k.turned (t':=s'.toks) (λb o W e=>(N.2 b W).trans e) f0 f1 f3 n U
 ·cases e⟩
theorem Dq(i:Nat){py spos:Pos}(ts:At)(O:p7 X scope cl xs is)(a4:X.calm=true)(U:X.N.Nodup)(hi:D7 X tgt iter fi)(l:∀C c d fp,Tj (wJ X (xs++ts) scope cl C c d fp) tgt gt)(t:∀C c d fp,rZ (wJ X (xs++ts) scope cl C c d fp) ifs p)(n:∀C c d fp,QV (wJ X (xs++ts) scope cl C c d fp) elt fe)(a6:Oz is.length (is.length+ts.length) gt)(a7:swapsWith (.ListComp elt [⟨tgt,iter,ifs,0⟩] scope pos) (Z (.Name y py)) spos.line X.env=pure true:=by with_unfolding_all rfl)(hy:X.N[i]?=Z y:=by rfl)(hx:Cf X.env.scope y:=by first|exact kA rfl|exact jI rfl)(hf:X.fn y=true\/X.env.scope.names.lookup y=Z .local:=by first|exact .inl rfl|exact .inr rfl)(hs:∀x,foldedSetIterable iter X.env x=pure x:=by intro _;rfl):PN X (.Assign [.Name y py] (.ListComp elt [⟨tgt,iter,ifs,0⟩] scope pos) spos) (λρ=>(dN fi gt p fe is ts.length ρ).bind λb=>(Qc ρ i b).bind λρ'=>Z (.nx ρ')):=⟨have hi:=hi.run;have l:=λC c d fp=>(l C c d fp).run;have t:=λC c d fp=>(t C c d fp).run;have n:=λC c d fp=>(n C c d fp).run;λAN s σ H D I h=>by
 obtain⟨H0,ρ,r,E,e,q⟩:=h;obtain⟨b,eb,e⟩:=AT e;obtain⟨ds,ed,eb⟩:=AT eb;split at eb
 ·rename_i a0;obtain⟨out,eo,eb⟩:=AT eb;cases eb;cases e;rw[exec_Assign_Name_used _ _ _ _ a7];refine zb (Jn (zb ?_));show A7 _ X.A (do let _ <-comprehension (.ListComp elt [⟨tgt,iter,ifs,0⟩] scope pos) scope X.env _ (newList []) false (eval iter X.env) (Z (assign (.Name y py) X.env))) _ _ s;refine zb (ZZ (KI (use:=Z (assign (.Name y py) X.env)) (Q:=λ_ s'=>SP X AN D .next s') rfl hs O.clos O.kind O.names ?_) (λ_ s' P=>zg (zg P)) λ_ _ e=>e);refine gM (hi AN s σ H (λJ H'=>AV H H'/\BE X.K J ds H') I ⟨H0,ρ,ds,E,ed,λJ H' s' y=>⟨s',y⟩⟩) λv s1 h1=>gM h1 λa9 s2 h2=>?_;obtain⟨it,fp,tn,J,H2,rfl,L,T,st,M,j,Y⟩:=h2;refine Gq (B:=Gn) (RR:=λa5 C=>compPost (f8 X) X.A X.xe (Z (assign (.Name y py) X.env)) (λ_ s'=>SP X AN D .next s') a5 C) (ts:=ts) (xs:=xs) O a4 l t n a6 L ((E.grow j).caps is ts.length) (KH T) st M Y a0 eo ?_;intro f C s' H' us hD u fC ⟨m,hn⟩ s2' hD' r';show A7 _ X.A (assign (.Name y py) X.env (.ref f)) _ _ s';obtain⟨f0,f1,f2,f3,W,f5⟩:=fC;obtain⟨g,a3,ep,a8,F,a2⟩:=id hn;have a1:L2.AU X (AN++[(C,g)]) σ H' s':=u.ade λpp hp=>by
   rcases az.mp hp with z|z
   ·exact u.pin pp (qv _ z)
   ·have:pp=(C,g):=by simpa using z
    subst this;exact⟨a8,f0,f1,f2,λv z=>by rw[F]at z;cases z⟩
  refine gM (L2.Km U hy hx hf (AN++[(C,g)]) s' σ H' (.ref f) (.ref f) (λσ' k=>σ'=σ.set i (Z (.ref f))/\k=H') a1 rfl ⟨rfl,rfl⟩) λ_ s'' ⟨σ',k,J',e1,e2⟩=>?_;subst e1 e2;have G:=(J'.pin (C,g) (by simp)).1;refine⟨m,⟨g,a3,ep,G,F,a2⟩,λh' sb=>?_⟩;refine⟨σ.set i (Z (.ref f)),k,J'.tZ.turned (t':=s''.toks) (λb o hb e=>(sb.2 b hb).trans e) f0 f1 f3 W f5,q _ _ ?_⟩;exact E.set (j.trans s2') (b:=.o out) ⟨f,us,rfl,hD',r'⟩ (.inl rfl) λa ea=>by cases ea;exact j.free hD
 ·cases eb⟩
def B9:Bx->Bx
 |.o ds=>.l ds
 |.m ds _=>.n ds
 |b=>b
def NH:Bx->Bool
 |.o _=>true
 |.m _ _=>true
 |_=>false
def Qk(K:B5)(n:Nat)(F:Y Bx->S Bx):Sp:=λvs H Q _=>vs.length=n/\∃a r,rH K H a vs/\a.all (λb=>!NH b)=true/\F a=Z r/\∀v H',AV H H'->Nw H r v->aY K H' r v->Q v H'
def eY(n:Nat)(g:Ev->S An):Y Bx->S Bx:=λa=>(g (a.map Z++aa (n-a.length) O)).bind λr=>match r with
 |.rt b=>Z b
 |.nx _=>Z (.z .non)
 |_=>O
theorem eV.start{K:B5}{H:Hp}{N:At}{bs:Y Bx}{vs:Y V}(r:rH K H bs vs)(l:bs.all (λb=>!NH b)=true):eV K H H (L2.start N vs) (bs.map Z++aa (N.length-bs.length) O):=by
 have k:bs.length=vs.length:=Paired.length r;have g:∀(i:Nat) b,(bs.map Z++aa (N.length-bs.length) O)[i]?=Z (Z b)->bs[i]?=Z b:=λi b e=>by
  by_cases hi:i<bs.length
  ·rw[qh (by simpa using hi),q5]at e;cases q:bs[i]? with
   |none=>rw[q]at e;cases e
   |some n=>rw[q]at e;simpa using e
  ·rw[QY (by simp;omega),km]at e;split at e<;>cases e
 have f:∀(i:Nat) c,(bs.map Z++aa (N.length-bs.length) O)[i]?=Z (Z c)->Jj c=true->False:=λi c e d=>by
  have:=List.all_eq_true.mp l _ (kK (g i _ e));cases c with
  |o ds=>cases this
  |m ds _=>cases this
  |_=>cases d
 refine⟨?_,λi b e=>?_,λi j c a b e d=>(f i c e d).elim,AV.refl H,λi c a e d=>(f i c e d).elim⟩
 ·unfold L2.start;simp[k]
 ·have e':=g i b e;have hi:i<bs.length:=(ag.mp e').1;have:∀{bs:Y Bx} {vs:Y V} {i:Nat} {b:Bx},AI (aY K H) bs vs->bs[i]?=Z b->∃v,vs[i]?=Z v/\aY K H b v:=by
   intro bs vs i b r
   induction r generalizing i with
   |nil=>intro e;simp at e
   |cons p t h=>
    intro e;cases i with
    |zero=>simp at e;subst e;exact⟨_,rfl,p⟩
    |succ i=>obtain⟨v,e1,e2⟩:=h (i:=i) (by simpa using e);exact⟨v,by simpa using e1,e2⟩
  obtain⟨v,e1,e2⟩:=this r e';refine⟨v,?_,e2⟩;unfold L2.start;rw[qh (by simp;omega),q5,e1];rfl
end
theorem Ic{f:A1}{g:Ev->Option An}(F:D6 K x qual st f fd)(S:cg N ps (aQ st))(l:∀(a:A0) (A:A5) (outer:Y Env) (s:A2) (H:Hp) (E:XK),ni k (A.deeper (AK qual (aQ st) s.heap.objs.size f a))->O4 (Aj Ji P w K mg base N qual (aQ st) f a A outer s H E).XC (iW st) g):
  ud P w K mg base Ji (k+1) f fd ps (Qk K ps.length (eY N.length g)):=by
 refine F.ok S (λvs H Q E h=>h.1) λa A outer s H vs Q E m h=>?_;obtain⟨o,p,r,i,n,e,q⟩:=h;refine⟨_,l a A outer s H E m,?_⟩;obtain⟨c,er,e⟩:=AT e;refine⟨H,_,c,eV.start i n,er,?_⟩;cases c with
 |rt b=>cases e;exact λv H' s' d c=>q v H' s' d c
 |nx ρ=>cases e;exact λσ H' j=>q _ H' j.base trivial (by unfold aY AW;rfl)
 |bk ρ=>cases e
 |ct ρ=>cases e
section
variable{f:A1}{F:Y Bx->S Bx}{p:Pos}{fs:Ev->S (Y Bx)}
theorem Gr{K:B5}{H:Hp}:∀{bs:Y Bx} {vs:Y V},rH K H bs vs->rH K H (bs.map B9) vs
 |_,_,.nil=>.nil
 |b::bs,_,.cons h t=>by
  refine .cons ?_ (Gr t);cases b with
  |z d=>exact h
  |l ds=>exact h
  |o ds=>obtain⟨a,vs,e,q,r⟩:=h;exact⟨a,vs,e,.inl q,r⟩
  |n ds=>exact h
  |m ds _=>obtain⟨a,vs,e,q,r⟩:=h;exact⟨a,vs,e,.inl q,r.1⟩
theorem KQ:∀bs:Y Bx,(bs.map B9).all (λb=>!NH b)=true
 |[]=>rfl
 |b::bs=>by
  rw[zv,dV,KQ bs];cases b<;>rfl
def bR(n:Nat)(F:Y Bx->S Bx)(fs:Ev->S (Y Bx)):Ev->S Bx:=λρ=>(fs ρ).bind λa=>if a.length=n then F (a.map B9)else O
theorem Ux(G:ud X.prog X.w X.K X.mg X.base Ji k f fd ps (Qk X.K n F))(u:ni k X.A)(i:Gl X x)(o:X.mg x=Z (.ref f))(hk:keepIn X.K (.ref f)=true)(t:BY X.K fd ps [])(a:Kv X (e::es) fs)(z:f7 x:=by decide)(y:A9 (e::es) X.env=(false,eval e X.env)::A9 es X.env:=by rfl)(s:(AD pos (A9 es X.env)).any (·.1)=false:=by rfl):QV X (.Call (.Name x p) (e::es) [] pos) (bR n F fs):=⟨have a:=a.run;Gj (TQ G u i o hk t .nil (LI) a z y s) λσ H Q h=>by
 obtain⟨H0,ρ,r,E,e,q⟩:=h;obtain⟨d,eb,e⟩:=AT e;refine⟨H0,ρ,d,E,eb,λvs H1 b c=>?_⟩;split at e
 ·rename_i j;rw[Q2];exact⟨by rw[<-Paired.length c];exact j,_,r,Gr c,KQ d,e,λv H2 g l m=>q v H2 (b.trans g) (l.old b) m⟩
 ·cases e⟩
end
end P1
variable{b:P1.Bx}{d:P1.Dt}{q:P1.Ev->S Bool}{fs:P1.Ev->S (Y P1.Bx)}{g:P1.Ev->S P1.An}{r:P1.Dt}{f:P1.Ev->S P1.Bx}{p:P1.Ev->S Bool}{ds:Y P1.Dt}{F:Y P1.Bx->S P1.Bx}{fa:P1.Ev->S P1.Bx}{ρ:P1.Ev}{fb fc:P1.Ev->S P1.Bx}{g1 g2:P1.Ev->S P1.An}{gt:P1.Dt->P1.Ev->S P1.Ev}{gb:P1.Ev->S P1.An}{fi:P1.Ev->S (Y P1.Dt)}{fe:P1.Ev->S P1.Bx}{Ac:A1->L2.Hp->Y P1.Dt->L2.HO->Prop}{fk:P1.Dt->S P1.Bx}{fo fv:P1.Ev->S P1.Bx}{fx:P1.Ev->S P1.Dt}{fr:P1.Ev->S (Y (AJ×P1.Dt))}{f1:P1.Ev->S P1.Bx}{gx:P1.Ev->S P1.Dt}{tab:Y (AJ×(Y P1.Bx->S P1.Bx))}{kf:Y P1.Dt->S (Y (Y L2.AY))}{jM:P1.Bx}
namespace P1
open L2 SeqAt
open AutoSeq1 (wpAny_loadPart')
def Gs(h:A6)(a:A1):Prop:=∃o ep,h.get? a=Z o/\o.ExactDict/\o.data=.dict #[] ep
section
variable{b:A1}
theorem ux{vs:Y (AY×A0)}(q:AO=[])(r:KV AO vs)(d:h.DictOf (dZ P w) a vs):Gs h a:=by
 subst q;cases r;obtain⟨o,es,ep,h1,h2,c,_,b,_⟩:=d;have:es=#[]:=by
  have:=b.length;apply Array.eq_empty_of_size_eq_zero;simpa using this
 subst this;exact⟨o,ep,h1,h2,c⟩
theorem Wz(e:(a==sysModules)=false)(f:(b==sysModules)=false)(g:Gs s.heap a)(d:Gs s.heap b)(c:A.units<cLine):RcAt A s (.ref a) (.ref b) true:=λprog w E Q h=>
 PySem.W.keq_eq (knd:=strKind prog w) e f (g.dict prog w) (d.dict prog w) c (λ_=>.nil) h
theorem MM(e:(a==sysModules)=false)(f:(b==sysModules)=false)(g:Gs s.heap a)(d:Gs s.heap b)(c:A.units<cLine):RcNeAt A s (.ref a) (.ref b) false:=λprog w E Q h=>
 PySem.W.keq_ne (r:=true) (knd:=strKind prog w) e f (g.dict prog w) (d.dict prog w) c (λ_=>.nil) h
theorem Gu(o:AE)(b:AJ)(u:Tok):Meets (Builtin.«dict.__eq__» ⟨[.ref a,.str b u],[]⟩) (λ_ R s=>(s.heap.get? a=Z o/\o.cls=.type "dict")/\R (.ok (.ret .notImplemented)) s):=
 .of_wp λprog w A R s h=>by
  have c:s.TypeIs (.ref a) "dict":=⟨o,h.1.1,h.1.2⟩;show A7 _ _ (Builtin.Dict.dictSlotArgs "__eq__" ⟨[.ref a,.str b u],[]⟩ >>= _) _ _ s;refine zb ?_;unfold Builtin.Dict.dictSlotArgs;refine zb (wpAny_notOrdered_dict c ?_);show A7 _ _ (pure (Value.ref a,Value.str b u)) _ _ s;refine zg ?_;refine zb (wpAny_isInstance (T :="str") (typeIs_str s b u) PySem.F.sub_str_dict ?_);simp only[bE,QA];refine zb (QQ ?_);exact zg ⟨_,rfl,h.2⟩
theorem Gv(b:AJ)(u:Tok)(es:Array DictEntry)(ep:Nat)(e:S A1)(sl:Array (S A0)):Meets (Builtin.«str.__eq__» ⟨[.str b u,.ref a],[]⟩) (λ_ R s=>s.heap.get? a=Z { cls:=.type "dict",dict:=e,data:=.dict es ep,slots:=sl }/\R (.ok (.ret .notImplemented)) s):=
 .of_wp λprog w A R s h=>by obtain⟨hp,g,d,tk,os⟩:=s;obtain⟨c,h⟩:=h;wp_walk using wpAny_loadPart' c,wpAny_load c;exact⟨_,rfl,h⟩
theorem BP(x:AJ)(t:Tok)(d:Gs s.heap a)(g:A.units<cLine):RcAt A s (.str x t) (.ref a) false:=λprog w E Q h=>by
 obtain⟨⟨l,i,n,sl⟩,ep,c,⟨e,m,j⟩,f⟩:=d;simp only at e f;subst e f;exact rc_eq_decline_or (k:=false) (typeIs_str s x t) ⟨_,c,rfl⟩ () PySem.F.sub_dict_str PySem.F.slot_str_eq PySem.F.slot_dict_eq_refl
  (λ_ b=>call_meets PySem.F.slot_str_eq (typeIs_str s x t) PySem.F.entry_str_eq (PySem.F.args_str_eq_2 _ _) (Gv x t #[] ep i sl) ⟨c,b⟩)
  (λ_ b=>call_meets PySem.F.slot_dict_eq_refl ⟨_,c,rfl⟩ PySem.F.entry_dict_eq (PySem.F.args_dict_eq_2 _ _) (Gu _ x t) ⟨⟨c,rfl⟩,b⟩)
  (λ_ b=>wpAny_of_eq (rfl:isSame (.str x t) (.ref a)=pure false) b) (.inr g) h
theorem Gw(o:AE)(b:AJ)(u:Tok):Meets (Builtin.«dict.__ne__» ⟨[.ref a,.str b u],[]⟩) (λ_ R s=>(s.heap.get? a=Z o/\o.cls=.type "dict")/\R (.ok (.ret .notImplemented)) s):=
 .of_wp λprog w A R s h=>by
  have c:s.TypeIs (.ref a) "dict":=⟨o,h.1.1,h.1.2⟩;show A7 _ _ (Builtin.Dict.dictSlotArgs "__ne__" ⟨[.ref a,.str b u],[]⟩ >>= _) _ _ s;refine zb ?_;unfold Builtin.Dict.dictSlotArgs;refine zb (wpAny_notOrdered_dict c ?_);show A7 _ _ (pure (Value.ref a,Value.str b u)) _ _ s;refine zg ?_;refine zb (wpAny_isInstance (T :="str") (typeIs_str s b u) PySem.F.sub_str_dict ?_);simp only[bE,QA];refine zb (QQ ?_);exact zg ⟨_,rfl,h.2⟩
theorem Gx(b:AJ)(u:Tok)(es:Array DictEntry)(ep:Nat)(e:S A1)(sl:Array (S A0)):Meets (Builtin.«str.__ne__» ⟨[.str b u,.ref a],[]⟩) (λ_ R s=>s.heap.get? a=Z { cls:=.type "dict",dict:=e,data:=.dict es ep,slots:=sl }/\R (.ok (.ret .notImplemented)) s):=
 .of_wp λprog w A R s h=>by obtain⟨hp,g,d,tk,os⟩:=s;obtain⟨c,h⟩:=h;wp_walk using wpAny_loadPart' c,wpAny_load c;exact⟨_,rfl,h⟩
theorem Nj(x:AJ)(t:Tok)(d:Gs s.heap a)(g:A.units<cLine):RcNeAt A s (.str x t) (.ref a) true:=λprog w E Q h=>by
 obtain⟨⟨l,i,n,sl⟩,ep,c,⟨e,m,j⟩,f⟩:=d;simp only at e f;subst e f;exact rc_ne_decline_or (k:=false) (typeIs_str s x t) ⟨_,c,rfl⟩ () PySem.F.sub_dict_str PySem.F.slot_str_ne PySem.F.slot_dict_ne_refl
  (λ_ b=>call_meets PySem.F.slot_str_ne (typeIs_str s x t) PySem.F.entry_str_ne (PySem.F.args_str_ne_2 _ _) (Gx x t #[] ep i sl) ⟨c,b⟩)
  (λ_ b=>call_meets PySem.F.slot_dict_ne_refl ⟨_,c,rfl⟩ PySem.F.entry_dict_ne (PySem.F.args_dict_ne_2 _ _) (Gw _ x t) ⟨⟨c,rfl⟩,b⟩)
  (λ_ b=>wpAny_of_eq (rfl:isSame (.str x t) (.ref a)=pure false) b) (.inr g) h
theorem Nk(x:AJ)(t:Tok)(d:Gs s.heap a)(b:A.units<cLine):EqAt A s (.str x t) (.ref a) false:=λprog w E Q h=>by
 unfold eqBool;refine QU ?_;refine wpAny_ite_split (λc=>absurd (eq_of_beq c) nofun) (λ_=>?_);exact zb (BP x t d b prog w E _ (qV h))
end
mutual
def q8:Dt->Nat
 |.tup xs=>uy xs+1
 |.lst xs=>uy xs+1
 |_=>1
def uy:Y Dt->Nat
 |[]=>0
 |d::ds=>max (q8 d) (uy ds)
end
mutual
def tW:Dt->Dt->S Bool
 |.non,.non=>Z true
 |.non,.bl _=>Z false|.non,.int _=>Z false|.non,.str _=>Z false|.non,.tup _=>Z false|.non,.lst _=>Z false
 |.bl a,.bl b=>Z (a==b)
 |.bl a,.int b=>Z ((if a then 1 else 0)==b)
 |.bl _,.non=>Z false|.bl _,.str _=>Z false|.bl _,.tup _=>Z false|.bl _,.lst _=>Z false
 |.int a,.int b=>Z (a==b)
 |.int a,.bl b=>Z (a==(if b then 1 else 0))
 |.int _,.non=>Z false|.int _,.str _=>Z false|.int _,.tup _=>Z false|.int _,.lst _=>Z false
 |.str a,.str b=>Z (a==b)
 |.str _,.non=>Z false|.str _,.bl _=>Z false|.str _,.int _=>Z false|.str _,.tup _=>Z false|.str _,.lst _=>Z false|.str _,.emp=>Z false
 |.tup xs,.tup ys=>jw xs ys
 |.tup _,.non=>Z false|.tup _,.bl _=>Z false|.tup _,.int _=>Z false|.tup _,.str _=>Z false|.tup _,.lst _=>Z false
 |.lst xs,.lst ys=>jw xs ys
 |.emp,.emp=>Z true
 |.lst _,.non=>Z false|.lst _,.bl _=>Z false|.lst _,.int _=>Z false|.lst _,.str _=>Z false|.lst _,.tup _=>Z false
 |_,_=>O
def jw:Y Dt->Y Dt->S Bool
 |[],[]=>Z true
 |[],_::_=>Z false
 |_::_,[]=>Z false
 |x::xs,y::ys=>match tW x y with
  |some b=>match jw xs ys with
   |some c=>Z (b&&c)
   |none=>O
  |none=>O
end
mutual
theorem Gy:∀{d:Dt} {k:Bool},tW d d=Z k->k=true
 |.non,_,e=>by cases e;rfl
 |.bl b,_,e=>by cases e;simp
 |.int b,_,e=>by cases e;simp
 |.str b,_,e=>by cases e;simp
 |.tup xs,_,e=>vI (ds:=xs) e
 |.lst xs,_,e=>vI (ds:=xs) e
 |.emp,_,e=>by cases e;rfl
theorem vI:∀{ds:Y Dt} {k:Bool},jw ds ds=Z k->k=true
 |[],_,e=>by simp only[jw]at e;cases e;rfl
 |d::ds,_,e=>by
  simp only[jw]at e;cases h:tW d d with
  |none=>rw[h]at e;cases e
  |some b=>
   rw[h]at e;simp only at e;cases h2:jw ds ds with
   |none=>rw[h2]at e;cases e
   |some c=>
    rw[h2]at e;cases e;rw[Gy h,vI h2];rfl
end
theorem xR(xs ys:Y Dt):tW (.tup xs) (.tup ys)=jw xs ys:=rfl
theorem qb:∀{xs ys:Y Dt} {k:Bool},jw xs ys=Z k->∃e:Nat->Bool,(∀(j:Nat) x y,xs[j]?=Z x->ys[j]?=Z y->tW x y=Z (e j))/\k=((ap (min xs.length ys.length)).all e&&xs.length==ys.length)
 |[],[],k,h=>by simp only[jw]at h;cases h;exact⟨λ_=>true,λj x y e=>by simp at e,by simp⟩
 |[],y::ys,k,h=>by simp only[jw]at h;cases h;exact⟨λ_=>true,λj x y e=>by simp at e,by simp⟩
 |x::xs,[],k,h=>by simp only[jw]at h;cases h;exact⟨λ_=>true,λj x y _ e=>by simp at e,by simp⟩
 |x::xs,y::ys,k,h=>by
  simp only[jw]at h;cases h1:tW x y with
  |none=>rw[h1]at h;cases h
  |some b=>
   rw[h1]at h;simp only at h;cases h2:jw xs ys with
   |none=>rw[h2]at h;cases h
   |some c=>
    rw[h2]at h;cases h;obtain⟨e,g,d⟩:=qb h2;refine⟨λj=>match j with|0=>b|j+1=>e j,λj u v a ev=>?_,?_⟩
    ·cases j with
     |zero=>simp at a ev;subst a ev;exact h1
     |succ j=>exact g j u v (by simpa using a) (by simpa using ev)
    ·have:min (x::xs).length (y::ys).length=min xs.length ys.length+1:=by simp only[ZH];omega
     rw[this,be,dV,cz,d];have f:((x::xs).length==(y::ys).length)=(xs.length==ys.length):=by
      rw[QR];simp
     rw[f,Bool.and_assoc];rfl
theorem qd:∀{ds:Y Dt} {j:Nat} {d:Dt},ds[j]?=Z d->q8 d<=uy ds
 |[],_,_,e=>by simp at e
 |d::ds,0,_,e=>by simp at e;subst e;simp only[uy];exact Nat.le_max_left _ _
 |d::ds,j+1,_,e=>by
  simp only[uy];exact zl (qd (ds:=ds) (j:=j) (by simpa using e)) (Nat.le_max_right _ _)
theorem xT(I:L2.AU X AN σ H s)(h:tU X.K H a vs):∃b,s.heap.get? a=Z b/\b.cls=.type "tuple":=by
 obtain⟨AQ,_,⟨b,e,c,_⟩,_⟩:=I.tuple h;exact⟨b,e,c⟩
theorem xU(I:L2.AU X AN σ H s)(h:rE X.K H a vs):∃b,s.heap.get? a=Z b/\b.cls=.type "list":=by
 obtain⟨AQ,_,⟨b,n,e,c,_⟩,_⟩:=I.list h;exact⟨b,e,c⟩
theorem xV(I:L2.AU X AN σ H s){o:AE}(h:H a=Z (.m5 o (.dK []))):∃b,s.heap.get? a=Z b/\b.cls=.type "dict":=by
 obtain⟨e,_,_,vs,_,b,es,ep,e2,ex,_⟩:=I.hok a _ h;exact⟨b,e2,ex.1⟩
theorem vJ{n m:String}(h:∃b,s.heap.get? a=Z b/\b.cls=.type n)(q:∃b,s.heap.get? a=Z b/\b.cls=.type m)(d:n≠m):False:=by
 obtain⟨o,e,c⟩:=h;obtain⟨o',e',c'⟩:=q;rw[e]at e';cases e';rw[c]at c';exact d (by injection c')
mutual
theorem AW.inj(I:L2.AU X AN σ H s):∀{d e:Dt} {v:V},AW X.K H d v->AW X.K H e v->d=e
 |.non,e,v,h,q=>by
  simp only[AW]at h;subst h;cases e<;>simp only[AW]at q<;>first|rfl|(cases q;done)|(obtain⟨a,b,z,_⟩:=q;cases z;done)|(obtain⟨z,_⟩:=q;cases z;done)
 |.bl _,e,v,h,q=>by
  simp only[AW]at h;subst h;cases e<;>simp only[AW]at q<;>first|(cases q;rfl)|(cases q;done)|(obtain⟨a,b,z,_⟩:=q;cases z;done)|(obtain⟨z,_⟩:=q;cases z;done)
 |.int _,e,v,h,q=>by
  simp only[AW]at h;subst h;cases e<;>simp only[AW]at q<;>first|(cases q;rfl)|(cases q;done)|(obtain⟨a,b,z,_⟩:=q;cases z;done)|(obtain⟨z,_⟩:=q;cases z;done)
 |.str x,e,v,h,q=>by
  simp only[AW]at h;have i:v=.str x:=h.1;subst i;cases e with
  |str y=>
   simp only[AW]at q;have z:V.str x=V.str y:=q.1;injection z with z;rw[z]
  |tup es=>simp only[AW]at q;obtain⟨a,b,z,_⟩:=q;cases z
  |lst es=>simp only[AW]at q;obtain⟨a,b,z,_⟩:=q;cases z
  |emp=>simp only[AW]at q;obtain⟨a,b,z,_⟩:=q;cases z
  |_=>simp only[AW]at q;cases q
 |.tup ds,e,v,h,q=>by
  simp only[AW]at h;obtain⟨a,vs,rfl,f,r⟩:=h;cases e with
  |tup es=>
   simp only[AW]at q;obtain⟨b,us,z,c,g⟩:=q;cases z;have:=I.Bl f c;subst this;rw[aU.inj I r g]
  |lst es=>
   simp only[AW]at q;obtain⟨b,us,z,c,g⟩:=q;cases z;exact(vJ (xT I f) (xU I c.sq) ()).elim
  |emp=>
   simp only[AW]at q;obtain⟨b,o,z,c⟩:=q;cases z;exact(vJ (xT I f) (xV I c) ()).elim
  |str x=>simp only[AW]at q;have z:=q.1;cases z
  |_=>simp only[AW]at q;cases q
 |.lst ds,e,v,h,q=>by
  simp only[AW]at h;obtain⟨a,vs,rfl,f,r⟩:=h;cases e with
  |lst es=>
   simp only[AW]at q;obtain⟨b,us,z,c,g⟩:=q;cases z;have:=I.FZ f.sq c.sq;subst this;rw[aU.inj I r g]
  |tup es=>
   simp only[AW]at q;obtain⟨b,us,z,c,g⟩:=q;cases z;exact(vJ (xU I f.sq) (xT I c) ()).elim
  |emp=>
   simp only[AW]at q;obtain⟨b,o,z,c⟩:=q;cases z;exact(vJ (xU I f.sq) (xV I c) ()).elim
  |str x=>simp only[AW]at q;have z:=q.1;cases z
  |_=>simp only[AW]at q;cases q
 |.emp,e,v,h,q=>by
  simp only[AW]at h;obtain⟨a,o,rfl,f⟩:=h;cases e with
  |emp=>rfl
  |tup es=>
   simp only[AW]at q;obtain⟨b,us,z,c,g⟩:=q;cases z;exact(vJ (xV I f) (xT I c) ()).elim
  |lst es=>
   simp only[AW]at q;obtain⟨b,us,z,c,g⟩:=q;cases z;exact(vJ (xV I f) (xU I c.sq) ()).elim
  |str x=>simp only[AW]at q;have z:=q.1;cases z
  |_=>simp only[AW]at q;cases q
theorem aU.inj(I:L2.AU X AN σ H s):∀{ds es:Y Dt} {vs:Y V},aU X.K H ds vs->aU X.K H es vs->ds=es
 |[],es,vs,h,q=>by
  simp only[aU]at h;subst h;cases es with
  |nil=>rfl
  |cons e es=>simp only[aU]at q;obtain⟨_,_,z,_⟩:=q;cases z
 |d::ds,es,vs,h,q=>by
  simp only[aU]at h;obtain⟨v,r,rfl,h1,h2⟩:=h;cases es with
  |nil=>simp only[aU]at q;cases q
  |cons e es=>
   simp only[aU]at q;obtain⟨a,b,z,q1,q2⟩:=q;cases z;rw[AW.inj I h1 q1,aU.inj I h2 q2]
end
theorem WD(I:L2.AU X AN σ H s):∀(n:Nat) {A:A5} {d e:Dt} {x y:V} {u v:A0} {k:Bool},min (q8 d) (q8 e)<=n->A.units+n<cLine->AW X.K H d x->AW X.K H e y->B0 x u->B0 y v->tW d e=Z k->EqAt A s u v k:=by
 intro n
 induction n with
 |zero=>
  intro A d e x y u v k P;have h1:1<=q8 d:=by cases d<;>simp only[q8]<;>omega
  have h2:1<=q8 e:=by cases e<;>simp only[q8]<;>omega
  omega
 |succ n ih=>
  intro A d e x y u v k P hA w c B g ek;have h:A.units<cLine:=by omega
  by_cases N:u=v/\∃a,u=.ref a
  ·obtain⟨rfl,a,rfl⟩:=N;have hx:x=.ref a:=by have:=B.abs;simpa[GB]using this.symm
   have hy:y=.ref a:=by have:=g.abs;simpa[GB]using this.symm
   subst hx hy;have:=AW.inj I w c;subst this;rw[Gy ek];exact EqAt.same _
  ·have items:∀{ds es:Y Dt} {vs us:Y V} {AQ m:Y A0} {f:Nat->Bool},min (uy ds) (uy es)<=n->aU X.K H ds vs->aU X.K H es us->AX vs AQ->AX us m->(∀(j:Nat) x y,ds[j]?=Z x->es[j]?=Z y->tW x y=Z (f j)) →
     ∀j (h1:j<AQ.toArray.size) (h2:j<m.toArray.size),EqAt A.in1 s AQ.toArray[j] m.toArray[j] (f j):=by
    intro ds es vs us AQ m f hm r1 r2 w1 w2 G j h1 h2;have l1:=w1.length;have l2:=w2.length;have l3:=r1.length;have l4:=r2.length;have j1:j<AQ.length:=by simpa using h1
    have j2:j<m.length:=by simpa using h2
    have Q:ds[j]?=Z ds[j]:=by simp
    have d2:es[j]?=Z es[j]:=by simp
    obtain⟨a,ea,D⟩:=r1.get Q;obtain⟨b,eb,C⟩:=r2.get d2;obtain⟨p,ep,rp⟩:=w1.get ea;obtain⟨q,eq,rq⟩:=w2.get eb;have e1:AQ.toArray[j]=p:=by simpa[j1]using ep
    have e2:m.toArray[j]=q:=by simpa[j2]using eq
    rw[e1,e2];have m1:=qd Q;have m2:=qd d2;exact ih () (by rw[units_in1];omega) D C rp rq (G j _ _ Q d2)
   cases d with
   |non=>
    cases w;cases B;cases e with
    |non=>cases c;cases g;cases ek;exact EqAt.same _
    |bl b=>cases c;cases g;cases ek;exact EqAt.none_bool b
    |int b=>cases c;obtain⟨t,rfl⟩:=g;cases ek;exact EqAt.none_int b t
    |str b=>obtain⟨rfl,_⟩:=c;obtain⟨t,rfl⟩:=g;cases ek;exact EqAt.none_str b t
    |tup es=>obtain⟨b,us,rfl,i,_⟩:=c;cases g;cases ek;obtain⟨_,_,p,_⟩:=I.tuple i;exact EqAt.none_tuple p h
    |lst es=>obtain⟨b,us,rfl,i,_⟩:=c;cases g;cases ek;obtain⟨_,_,p,_⟩:=I.list i.sq;exact EqAt.none_list p.isList h
    |emp=>cases ek
   |bl a=>
    cases w;cases B;cases e with
    |non=>cases c;cases g;cases ek;exact EqAt.bool_none a
    |bl b=>cases c;cases g;cases ek;exact EqAt.bool_bool a b
    |int b=>cases c;obtain⟨t,rfl⟩:=g;cases ek;exact EqAt.bool_int a b t
    |str b=>obtain⟨rfl,_⟩:=c;obtain⟨t,rfl⟩:=g;cases ek;exact EqAt.bool_str a b t
    |tup es=>obtain⟨b,us,rfl,i,_⟩:=c;cases g;cases ek;obtain⟨_,_,p,_⟩:=I.tuple i;exact EqAt.bool_tuple a p h
    |lst es=>obtain⟨b,us,rfl,i,_⟩:=c;cases g;cases ek;obtain⟨_,_,p,_⟩:=I.list i.sq;exact EqAt.bool_list a p.isList h
    |emp=>cases ek
   |int a=>
    cases w;obtain⟨l,rfl⟩:=B;cases e with
    |non=>cases c;cases g;cases ek;exact EqAt.int_none a l
    |bl b=>cases c;cases g;cases ek;exact EqAt.int_bool a l b
    |int b=>cases c;obtain⟨t,rfl⟩:=g;cases ek;exact EqAt.int_int a l b t
    |str b=>obtain⟨rfl,_⟩:=c;obtain⟨t,rfl⟩:=g;cases ek;exact EqAt.int_str a l b t
    |tup es=>obtain⟨b,us,rfl,i,_⟩:=c;cases g;cases ek;obtain⟨_,_,p,_⟩:=I.tuple i;exact EqAt.int_tuple a l p h
    |lst es=>obtain⟨b,us,rfl,i,_⟩:=c;cases g;cases ek;obtain⟨_,_,p,_⟩:=I.list i.sq;exact EqAt.int_list a l p.isList h
    |emp=>cases ek
   |str a=>
    obtain⟨rfl,_⟩:=w;obtain⟨l,rfl⟩:=B;cases e with
    |non=>cases c;cases g;cases ek;exact EqAt.str_none a l
    |bl b=>cases c;cases g;cases ek;exact EqAt.str_bool a l b
    |int b=>cases c;obtain⟨t,rfl⟩:=g;cases ek;exact EqAt.str_int a l b t
    |str b=>obtain⟨rfl,_⟩:=c;obtain⟨t,rfl⟩:=g;cases ek;exact EqAt.str_str a l b t
    |tup es=>obtain⟨b,us,rfl,i,_⟩:=c;cases g;cases ek;obtain⟨_,_,p,_⟩:=I.tuple i;exact EqAt.str_tuple a l p h
    |lst es=>obtain⟨b,us,rfl,i,_⟩:=c;cases g;cases ek;obtain⟨_,_,p,_⟩:=I.list i.sq;exact EqAt.str_list a l p.isList h
    |emp=>
     simp only[AW]at c;obtain⟨p,o,rfl,e⟩:=c;cases g;cases ek;obtain⟨_,_,vs,r,q⟩:=wH I.hok (.inr ⟨o,e⟩);exact Nk a l (ux J r q) h
   |tup ds=>
    obtain⟨a,vs,rfl,U,D⟩:=w;cases B;obtain⟨AQ,F,p,_⟩:=I.tuple U;cases e with
    |non=>cases c;cases g;cases ek;exact EqAt.tuple_none p h
    |bl b=>cases c;cases g;cases ek;exact EqAt.tuple_bool b p h
    |int b=>cases c;obtain⟨t,rfl⟩:=g;cases ek;exact EqAt.tuple_int b t p h
    |str b=>obtain⟨rfl,_⟩:=c;obtain⟨t,rfl⟩:=g;cases ek;exact EqAt.tuple_str b t p h
    |lst es=>obtain⟨b,us,rfl,i,_⟩:=c;cases g;cases ek;obtain⟨_,_,p2,_⟩:=I.list i.sq;exact EqAt.tuple_list p p2.isList h
    |tup es=>
     obtain⟨b,us,rfl,W,C⟩:=c;cases g;obtain⟨m,E,p2,_⟩:=I.tuple W;change jw _ _=Z _ at ek;obtain⟨f,G,rfl⟩:=qb ek;have M:a≠b:=λz=>N ⟨by rw[z],a,rfl⟩;have z:=EqAt.of_refs M (RcAt.tuples (A:=A) (e:=f) p p2 h (items (by simp only[q8]at P;omega) D C F E G));have q1:AQ.toArray.size=ds.length:=by rw[zk,<-F.length,D.length]
     have q2:m.toArray.size=es.length:=by rw[zk,<-E.length,C.length]
     rw[q1,q2]at z;exact z
    |emp=>cases ek
   |lst ds=>
    obtain⟨a,vs,rfl,U,D⟩:=w;cases B;obtain⟨AQ,F,p,_⟩:=I.list U.sq;cases e with
    |non=>cases c;cases g;cases ek;exact EqAt.list_none p.isList h
    |bl b=>cases c;cases g;cases ek;exact EqAt.list_bool b p.isList h
    |int b=>cases c;obtain⟨t,rfl⟩:=g;cases ek;exact EqAt.list_int b t p.isList h
    |str b=>obtain⟨rfl,_⟩:=c;obtain⟨t,rfl⟩:=g;cases ek;exact EqAt.list_str b t p.isList h
    |tup es=>obtain⟨b,us,rfl,i,_⟩:=c;cases g;cases ek;obtain⟨_,_,p2,_⟩:=I.tuple i;exact EqAt.list_tuple p.isList p2 h
    |lst es=>
     obtain⟨b,us,rfl,W,C⟩:=c;cases g;obtain⟨m,E,p2,_⟩:=I.list W.sq;change jw _ _=Z _ at ek;obtain⟨f,G,rfl⟩:=qb ek;have M:a≠b:=λz=>N ⟨by rw[z],a,rfl⟩;have q1:AQ.toArray.size=ds.length:=by rw[zk,<-F.length,D.length]
     have q2:m.toArray.size=es.length:=by rw[zk,<-E.length,C.length]
     by_cases a0:AQ.toArray.size=m.toArray.size
     ·have z:=EqAt.of_refs M (RcAt.lists (A:=A) (e:=f) p.isList p2.isList a0 h (items (by simp only[q8]at P;omega) D C F E G));have L:ds.length=es.length:=by omega
      rw[q1]at z;rw[L,cE,beq_self_eq_true,kG,<-L];exact z
     ·have L:(ds.length==es.length)=false:=by rw[beq_eq_false_iff_ne];omega
      rw[L,bz];exact EqAt.of_refs M (RcAt.lists_lengths p.isList p2.isList (by simpa using a0) h)
    |emp=>cases ek
   |emp=>
    cases e<;>first|(cases ek;done)|skip;simp only[AW]at w c;obtain⟨a,o,rfl,e1⟩:=w;obtain⟨b,o',rfl,e2⟩:=c;cases B;cases g;cases ek;obtain⟨_,m1,vs,r,q⟩:=wH I.hok (.inr ⟨o,e1⟩);obtain⟨_,m2,a1,r',q'⟩:=wH I.hok (.inr ⟨o',e2⟩);exact EqAt.of_refs (λz=>N ⟨by rw[z],a,rfl⟩) (Wz m1 m2 (ux J r q) (ux J r' q') h)
theorem Gz(I:L2.AU X AN σ H s){es:Y Dt}{us:Y V}{c:Y A0}{f:Nat->Bool}(E:min (uy ds) (uy es)<=n)(z:A.units+n+1<cLine)(i:aU X.K H ds vs)(e:aU X.K H es us)(h:AX vs AQ)(g:AX us c)(u:∀(j:Nat) x y,ds[j]?=Z x->es[j]?=Z y->tW x y=Z (f j)):∀j (h1:j<AQ.toArray.size) (h2:j<c.toArray.size),EqAt A.in1 s AQ.toArray[j] c.toArray[j] (f j):=by
 intro j h1 h2;have F:=h.length;have D:=g.length;have B:=i.length;have C:=e.length;have k:j<AQ.length:=by simpa using h1
 have t:j<c.length:=by simpa using h2
 have d:ds[j]?=Z (ds[j]'()):=by simp
 have d2:es[j]?=Z (es[j]'()):=by simp
 obtain⟨a,ea,v⟩:=i.get d;obtain⟨b,eb,l⟩:=e.get d2;obtain⟨p,ep,r⟩:=h.get ea;obtain⟨q,o,m⟩:=g.get eb;have e1:AQ.toArray[j]=p:=by simpa[k]using ep
 have e2:c.toArray[j]=q:=by simpa[t]using o
 rw[e1,e2];have w:=qd d;have m2:=qd d2;exact WD I n () (by rw[units_in1];omega) v l r m (u j _ _ d d2)
def Uy(K:B5)(H:Hp):Dt->V->Prop
 |.lst ds,v=>∃a vs,v=.ref a/\rE K H a vs/\aU K H ds vs
 |d,v=>AW K H d v
def pP:Bx->Bool
 |.n _=>true
 |.m _ _=>true
 |_=>false
def toD:Bx->Dt
 |.z d=>d
 |.l ds=>.lst ds
 |.o ds=>.lst ds
 |.n _=>.non
 |.m _ _=>.non
theorem KR(I:L2.AU X AN σ H s){e:Dt}{x y:V}{v:A0}{k:Bool}(P:min (q8 d) (q8 e)<=100)(hA:X.A.units+100<cLine)(z:Uy X.K H d x)(h:Uy X.K H e y)(B:B0 x u)(i:B0 y v)(ek:tW d e=Z k):RcAt X.A s u v k/\RcNeAt X.A s u v (!k):=by
 have g:X.A.units<cLine:=by omega
 cases d with
 |non=>
  cases z;cases B;cases e with
  |non=>
   cases h;cases i;cases ek;exact⟨.none_none,.none_none⟩
  |bl c=>
   cases h;cases i;cases ek;exact⟨.none_bool c,.none_bool c⟩
  |int c=>
   cases h;obtain⟨t2,rfl⟩:=i;cases ek;exact⟨.none_int c t2,.none_int c t2⟩
  |str c=>
   obtain⟨rfl,_⟩:=h;obtain⟨t2,rfl⟩:=i;cases ek;exact⟨.none_str c t2,.none_str c t2⟩
  |tup c=>
   obtain⟨a2,w,rfl,j,l⟩:=h;cases i;obtain⟨t,m,p2,_⟩:=I.tuple j;cases ek;exact⟨.none_tuple p2 g,.none_tuple p2 g⟩
  |lst c=>
   obtain⟨a2,w,rfl,j,l⟩:=h;cases i;obtain⟨t,m,p2,_⟩:=I.list j;cases ek;exact⟨.none_list p2.isList g,.none_list p2.isList g⟩
  |emp=>cases ek
 |bl x1=>
  cases z;cases B;cases e with
  |non=>
   cases h;cases i;cases ek;exact⟨.bool_none x1,.bool_none x1⟩
  |bl c=>
   cases h;cases i;cases ek;exact⟨.bool_bool x1 c,.bool_bool x1 c⟩
  |int c=>
   cases h;obtain⟨t2,rfl⟩:=i;cases ek;exact⟨.bool_int x1 c t2,.bool_int x1 c t2⟩
  |str c=>
   obtain⟨rfl,_⟩:=h;obtain⟨t2,rfl⟩:=i;cases ek;exact⟨.bool_str x1 c t2,.bool_str x1 c t2⟩
  |tup c=>
   obtain⟨a2,w,rfl,j,l⟩:=h;cases i;obtain⟨t,m,p2,_⟩:=I.tuple j;cases ek;exact⟨.bool_tuple x1 p2 g,.bool_tuple x1 p2 g⟩
  |lst c=>
   obtain⟨a2,w,rfl,j,l⟩:=h;cases i;obtain⟨t,m,p2,_⟩:=I.list j;cases ek;exact⟨.bool_list x1 p2.isList g,.bool_list x1 p2.isList g⟩
  |emp=>cases ek
 |int x1=>
  cases z;obtain⟨t1,rfl⟩:=B;cases e with
  |non=>
   cases h;cases i;cases ek;exact⟨.int_none x1 t1,.int_none x1 t1⟩
  |bl c=>
   cases h;cases i;cases ek;exact⟨.int_bool x1 t1 c,.int_bool x1 t1 c⟩
  |int c=>
   cases h;obtain⟨t2,rfl⟩:=i;cases ek;exact⟨.int_int x1 t1 c t2,.int_int x1 t1 c t2⟩
  |str c=>
   obtain⟨rfl,_⟩:=h;obtain⟨t2,rfl⟩:=i;cases ek;exact⟨.int_str x1 t1 c t2,.int_str x1 t1 c t2⟩
  |tup c=>
   obtain⟨a2,w,rfl,j,l⟩:=h;cases i;obtain⟨t,m,p2,_⟩:=I.tuple j;cases ek;exact⟨.int_tuple x1 t1 p2 g,.int_tuple x1 t1 p2 g⟩
  |lst c=>
   obtain⟨a2,w,rfl,j,l⟩:=h;cases i;obtain⟨t,m,p2,_⟩:=I.list j;cases ek;exact⟨.int_list x1 t1 p2.isList g,.int_list x1 t1 p2.isList g⟩
  |emp=>cases ek
 |str x1=>
  obtain⟨rfl,_⟩:=z;obtain⟨t1,rfl⟩:=B;cases e with
  |non=>
   cases h;cases i;cases ek;exact⟨.str_none x1 t1,.str_none x1 t1⟩
  |bl c=>
   cases h;cases i;cases ek;exact⟨.str_bool x1 t1 c,.str_bool x1 t1 c⟩
  |int c=>
   cases h;obtain⟨t2,rfl⟩:=i;cases ek;exact⟨.str_int x1 t1 c t2,.str_int x1 t1 c t2⟩
  |str c=>
   obtain⟨rfl,_⟩:=h;obtain⟨t2,rfl⟩:=i;cases ek;exact⟨.str_str x1 t1 c t2,.str_str x1 t1 c t2⟩
  |tup c=>
   obtain⟨a2,w,rfl,j,l⟩:=h;cases i;obtain⟨t,m,p2,_⟩:=I.tuple j;cases ek;exact⟨.str_tuple x1 t1 p2 g,.str_tuple x1 t1 p2 g⟩
  |lst c=>
   obtain⟨a2,w,rfl,j,l⟩:=h;cases i;obtain⟨t,m,p2,_⟩:=I.list j;cases ek;exact⟨.str_list x1 t1 p2.isList g,.str_list x1 t1 p2.isList g⟩
  |emp=>
   simp only[Uy,AW]at h;obtain⟨p,o,rfl,e⟩:=h;cases i;cases ek;obtain⟨_,_,vs,r,q⟩:=wH I.hok (.inr ⟨o,e⟩);exact⟨BP x1 t1 (ux J r q) g,Nj x1 t1 (ux J r q) g⟩
 |tup x1=>
  obtain⟨a1,W,rfl,L,C⟩:=z;cases B;obtain⟨F,D,p1,_⟩:=I.tuple L;cases e with
  |non=>
   cases h;cases i;cases ek;exact⟨.tuple_none p1 g,.tuple_none p1 g⟩
  |bl c=>
   cases h;cases i;cases ek;exact⟨.tuple_bool c p1 g,.tuple_bool c p1 g⟩
  |int c=>
   cases h;obtain⟨t2,rfl⟩:=i;cases ek;exact⟨.tuple_int c t2 p1 g,.tuple_int c t2 p1 g⟩
  |str c=>
   obtain⟨rfl,_⟩:=h;obtain⟨t2,rfl⟩:=i;cases ek;exact⟨.tuple_str c t2 p1 g,.tuple_str c t2 p1 g⟩
  |tup c=>
   obtain⟨a2,w,rfl,j,l⟩:=h;cases i;obtain⟨t,m,p2,_⟩:=I.tuple j;change jw _ _=Z _ at ek;obtain⟨f,M,rfl⟩:=qb ek;have q1:F.toArray.size=x1.length:=by rw[zk,<-D.length,C.length]
   have q2:t.toArray.size=c.length:=by rw[zk,<-m.length,l.length]
   have it:=Gz I (n:=99) (A:=X.A) (by simp only[q8]at P;omega) () C l D m M;rw[<-q1,<-q2];exact⟨.tuples p1 p2 g it,.tuples p1 p2 g it⟩
  |lst c=>
   obtain⟨a2,w,rfl,j,l⟩:=h;cases i;obtain⟨t,m,p2,_⟩:=I.list j;cases ek;exact⟨.tuple_list p1 p2.isList g,.tuple_list p1 p2.isList g⟩
  |emp=>cases ek
 |lst x1=>
  obtain⟨a1,W,rfl,L,C⟩:=z;cases B;obtain⟨F,D,p1,_⟩:=I.list L;cases e with
  |non=>
   cases h;cases i;cases ek;exact⟨.list_none p1.isList g,.list_none p1.isList g⟩
  |bl c=>
   cases h;cases i;cases ek;exact⟨.list_bool c p1.isList g,.list_bool c p1.isList g⟩
  |int c=>
   cases h;obtain⟨t2,rfl⟩:=i;cases ek;exact⟨.list_int c t2 p1.isList g,.list_int c t2 p1.isList g⟩
  |str c=>
   obtain⟨rfl,_⟩:=h;obtain⟨t2,rfl⟩:=i;cases ek;exact⟨.list_str c t2 p1.isList g,.list_str c t2 p1.isList g⟩
  |tup c=>
   obtain⟨a2,w,rfl,j,l⟩:=h;cases i;obtain⟨t,m,p2,_⟩:=I.tuple j;cases ek;exact⟨.list_tuple p1.isList p2 g,.list_tuple p1.isList p2 g⟩
  |lst c=>
   obtain⟨a2,w,rfl,j,l⟩:=h;cases i;obtain⟨t,m,p2,_⟩:=I.list j;change jw _ _=Z _ at ek;obtain⟨f,M,rfl⟩:=qb ek;have q1:F.toArray.size=x1.length:=by rw[zk,<-D.length,C.length]
   have q2:t.toArray.size=c.length:=by rw[zk,<-m.length,l.length]
   have it:=Gz I (n:=99) (A:=X.A) (by simp only[q8]at P;omega) () C l D m M;by_cases G:F.toArray.size=t.toArray.size
   ·have E:x1.length=c.length:=by omega
    rw[E,cE,beq_self_eq_true,kG,<-E,<-q1];exact⟨.lists p1.isList p2.isList G g it,.lists p1.isList p2.isList G g it⟩
   ·have E:(x1.length==c.length)=false:=by rw[beq_eq_false_iff_ne];omega
    rw[E,bz];exact⟨.lists_lengths p1.isList p2.isList (by simpa using G) g,.lists_lengths p1.isList p2.isList (by simpa using G) g⟩
  |emp=>cases ek
 |emp=>
  cases e<;>first|(cases ek;done)|skip;simp only[Uy,AW]at z h;obtain⟨a,o,rfl,e1⟩:=z;obtain⟨b,o',rfl,e2⟩:=h;cases B;cases i;cases ek;obtain⟨_,N,vs,r,q⟩:=wH I.hok (.inr ⟨o,e1⟩);obtain⟨_,m2,a0,U,Q⟩:=wH I.hok (.inr ⟨o',e2⟩);exact⟨Wz N m2 (ux J r q) (ux J U Q) g,MM N m2 (ux J r q) (ux J U Q) g⟩
def BI(a b:Bx):S Bx:=if pP a=true\/pP b=true then O else if min (q8 (toD a)) (q8 (toD b))<=100 then(tW (toD a) (toD b)).bind λk=>Z (.z (.bl k))else O
def Js(a b:Bx):S Bx:=if pP a=true\/pP b=true then O else if min (q8 (toD a)) (q8 (toD b))<=100 then(tW (toD a) (toD b)).bind λk=>Z (.z (.bl (!k)))else O
theorem of_eq(g:X.A.units+100<cLine):Dd X (AG .Eq) BI:=by
 intro AN s σ H x y v u Q I f j h;obtain⟨a,b,c,o,l,e,q⟩:=h;unfold BI at e;split at e
 ·cases e
 rename_i d;have i:pP a=false:=by cases h:pP a with|false=>rfl|true=>exact absurd (.inl h) d
 have n:pP b=false:=by cases h:pP b with|false=>rfl|true=>exact absurd (.inr h) d
 split at e
 ·rename_i m;obtain⟨k,ek,e⟩:=AT e;cases e;exact(KR I m g (o.toD i) (l.toD n) f j ek).1 X.prog X.w X.xe _ ⟨.bl k,H,I,rfl,q _ H (AV.refl H) trivial (by unfold aY AW;rfl)⟩
 ·cases e
theorem yN(g:X.A.units+100<cLine):Dd X (AG .NotEq) Js:=by
 intro AN s σ H x y v u Q I f j h;obtain⟨a,b,c,o,l,e,q⟩:=h;unfold Js at e;split at e
 ·cases e
 rename_i d;have i:pP a=false:=by cases h:pP a with|false=>rfl|true=>exact absurd (.inl h) d
 have n:pP b=false:=by cases h:pP b with|false=>rfl|true=>exact absurd (.inr h) d
 split at e
 ·rename_i m;obtain⟨k,ek,e⟩:=AT e;cases e;exact(KR I m g (o.toD i) (l.toD n) f j ek).2 X.prog X.w X.xe _ ⟨.bl (!k),H,I,rfl,q _ H (AV.refl H) trivial (by unfold aY AW;rfl)⟩
 ·cases e
theorem Aq{i:Int}:aY K H (.z (.int i)) (.int i):=by unfold aY AW;rfl
theorem UG{b:Bool}:aY K H (.z (.bl b)) (.bl b):=by unfold aY AW;rfl
theorem UJ(h:x.length<=AA):aY K H (.z (.str x)) (.str x):=by unfold aY AW;exact⟨rfl,h⟩
theorem GC{i:Int}{v:V}(h:aY K H (.z (.int i)) v):v=.int i:=by simpa only[aY,AW]using h
theorem UL{v:V}(h:aY K H (.z (.str x)) v):v=.str x/\x.length<=AA:=by simpa only[aY,AW]using h
theorem E6{v:V}(h:aY K H (.z (.tup ds)) v):∃a vs,v=.ref a/\tU K H a vs/\aU K H ds vs:=by simpa only[aY,AW]using h
def i2(g:Int->Int->S Dt):Bx->Bx->S Bx
 |.z (.int i),.z (.int j)=>(g i j).bind λd=>Z (.z d)
 |_,_=>O
theorem GD{f:A0->A0->Sem A0}{r:R2}{g:Int->Int->S Dt}(o:u9 X f r)(h:∀i j d H Q,g i j=Z d->(∀v,AW X.K H d v->Q v H)->r (.int i) (.int j) H Q):Dd X f (i2 g):=u9.imp o λx y H Q q=>by
 obtain⟨a,b,c,n,m,e,q⟩:=q;unfold i2 at e;split at e
 ·rename_i i j;obtain⟨d,l,e⟩:=AT e;cases e;rw[GC n,GC m];exact h i j d H Q l λv k=>q v H (AV.refl H) trivial k
 ·cases e
theorem EK{i:Int}:AW K H (.int i) (.int i):=by unfold AW;rfl
theorem DV{b:Bool}:AW K H (.bl b) (.bl b):=by unfold AW;rfl
abbrev Db:=i2 λi j=>Z (.bl (decide (j<i)))
abbrev YH:=i2 λi j=>Z (.bl (decide (j<=i)))
abbrev qe:=i2 λi j=>if 0<j/\j<1073741824 then Z (.int (i / j))else O
abbrev iZ:=i2 λi j=>if 0<j then Z (.int (i%j))else O
abbrev YJ:=i2 λi j=>if 0<=j/\j<=1000/\i.natAbs<2 ^ 64 then Z (.int (i ^ j.toNat))else O
theorem WK:Dd X (AG .Gt) Db:=GD HL λi j d H Q e q=>by cases e;exact⟨i,j,rfl,rfl,q _ DV⟩
theorem GF:Dd X (AG .GtE) YH:=GD HK λi j d H Q e q=>by cases e;exact⟨i,j,rfl,rfl,q _ DV⟩
theorem lR:Dd X (binaryOp .FloorDiv) qe:=GD Tw λi j d H Q e q=>by
 split at e
 ·rename_i h;cases e;exact⟨i,j,rfl,rfl,h,q _ EK⟩
 ·cases e
theorem c7:Dd X (binaryOp .Mod) iZ:=GD X5 λi j d H Q e q=>by
 split at e
 ·rename_i h;cases e;exact⟨i,j,rfl,rfl,h,q _ EK⟩
 ·cases e
theorem YK:Dd X (binaryOp .Pow) YJ:=GD X6 λi j d H Q e q=>by
 split at e
 ·rename_i h;cases e;exact⟨i,j,rfl,rfl,⟨h.1,by omega,h.2.2⟩,q _ EK⟩
 ·cases e
def Ar:Bx->S Bx
 |.z (.int i)=>Z (.z (.int (-i)))
 |_=>O
theorem Dr:FK X (unaryOp .USub) Ar:=Wr.imp X7 λx H Q q=>by
 obtain⟨a,c,b,e,q⟩:=q;unfold Ar at e;split at e
 ·rename_i i;cases e;exact⟨i,GC b,q _ H (AV.refl H) trivial Aq⟩
 ·cases e
def Jt:Nat:=1000000
theorem UW:Jt<=AA:=by decide
theorem YL{l b:A1}{us:Y V}{Q:VK}(I:L2.AU X AN σ H s)(i:rE X.K H l vs)(n:rE X.K H b us)(j:vs.length+us.length<=AA)(q:∀p,H p=O->Q (.ref p) (B8 H p (.lst (vs++us)))):
  A7 (f8 X) X.A (binaryOp .Add (.ref l) (.ref b)) (EP X AN σ Q) X.xe s:=by
 obtain⟨AQ,h,⟨⟨u,v,B,sl⟩,r,e1,c1,f,g⟩,z1⟩:=I.list i;obtain⟨a,c,⟨⟨cls2,y,t,m⟩,k,e2,c2,d2,d⟩,z2⟩:=I.list n;simp only at c1 f g c2 d2 d;subst c1 f g c2 d2 d;have C:=h.length;have z:=c.length;have e:AQ.toArray++a.toArray=(AQ++a).toArray:=by simp
 refine concat_meets ⟨_,e1,rfl⟩ ⟨_,e2,rfl⟩ noFill_list_add seq_list_add PySem.F.slot_list_add PySem.F.entry_list_add (PySem.F.args_list_add_2 _ _) (list_addW l b AQ.toArray a.toArray r k O O sl m (by rw[zk,zk];omega)) ⟨e1,e2,?_⟩;rw[e];exact⟨.ref s.heap.objs.size,_,I.laid (t':=s.toks) (o:=.lst (vs++us)) (λb x q=>ze _ q) (zi _) ⟨by rw[zC];exact j,_,0,h.append c,zw _ rfl⟩,rfl,q _ (I.hok.fresh (zi _))⟩
theorem YM{l b:A1}{us:Y V}{Q:VK}(I:L2.AU X AN σ H s)(e:tU X.K H l vs)(f:tU X.K H b us)(k:vs.length+us.length<=AA)(q0:vs=[]->Q (.ref b) H)(q1:us=[]->Q (.ref l) H)(q2:∀p,H p=O->Q (.ref p) (B8 H p (.tup (vs++us)))):
  A7 (f8 X) X.A (binaryOp .Add (.ref l) (.ref b)) (EP X AN σ Q) X.xe s:=by
 by_cases a:vs=[]
 ·obtain⟨AQ,n,⟨⟨q,j,t,sl⟩,e1,c1,o,c⟩,z1⟩:=I.tuple e;obtain⟨g,u,⟨⟨cls2,h,r,m⟩,e2,c2,i,d⟩,z2⟩:=I.tuple f;simp only at c1 c c2 d;subst c1 c c2 d;have:AQ=[]:=n.CT.mpr a;exact concat_meets ⟨_,e1,rfl⟩ ⟨_,e2,rfl⟩ noFill_tuple_add seq_tuple_add PySem.F.slot_tuple_add KP (KL _ _)
   (tuple_addW0 l b AQ.toArray g.toArray o i j h sl m (by simp[this])) ⟨e1,e2,⟨.ref b,H,I,rfl,q0 a⟩⟩
 ·exact T5 AN s σ H (.ref l) (.ref b) (.ref l) (.ref b) Q I J J ⟨l,b,vs,us,rfl,rfl,e,f,a,k,q1,λ_=>q2⟩
def fD:Bx->Bx->S Bx
 |.z (.int i),.z (.int j)=>Z (.z (.int (i+j)))
 |.z (.str i),.z (.str j)=>if i.length+j.length<=Jt then Z (.z (.str (i++j)))else O
 |.z (.tup xs),.z (.tup ys)=>if xs.length+ys.length<=Jt then Z (.z (.tup (xs++ys)))else O
 |a,b=>(nj a).bind λxs=>(nj b).bind λys=>if xs.length+ys.length<=Jt then Z (.o (xs++ys))else O
theorem CI(i j:AJ):(i++j).length=i.length+j.length:=by
 show(i.cps++j.cps).size=_;rw[ko];rfl
theorem cT:Dd X (binaryOp .Add) fD:=by
 intro AN s σ H x y v u Q I g n h;obtain⟨a,b,c,r,o,e,q⟩:=h;have w:=UW;unfold fD at e;split at e
 ·rename_i i j;cases e;exact X3 AN s σ H x y v u Q I g n ⟨i,j,GC r,GC o,q _ H (AV.refl H) trivial Aq⟩
 ·rename_i i j;split at e
  ·rename_i t;cases e;exact Jf AN s σ H x y v u Q I g n ⟨i,j,(UL r).1,(UL o).1,by omega,q _ H (AV.refl H) trivial (UJ (by rw[CI];omega))⟩
  ·cases e
 ·rename_i xs ys;split at e
  ·rename_i t;cases e;obtain⟨l,vs,rfl,sl,f⟩:=E6 r;obtain⟨m,us,rfl,k,d⟩:=E6 o;cases g;cases n;have h1:=f.length;have h2:=d.length;refine YM I sl k () (λz=>q _ H (AV.refl H) trivial ?_) (λz=>q _ H (AV.refl H) trivial ?_) λp hp=>q _ _ (bN hp) trivial ?_
   ·unfold aY AW;refine⟨m,us,rfl,k,?_⟩;have:xs=[]:=by subst z;exact QN (by simpa using h1.symm)
    rw[this,kP];exact d
   ·unfold aY AW;refine⟨l,vs,rfl,sl,?_⟩;have:ys=[]:=by subst z;exact QN (by simpa using h2.symm)
    rw[this,Q2];exact f
   ·unfold aY AW;exact⟨p,_,rfl,.inl (.inl bH),(f.append d).kp (.of (bN hp))⟩
  ·cases e
 ·obtain⟨xs,ea,e⟩:=AT e;obtain⟨ys,eb,e⟩:=AT e;split at e
  ·rename_i t;cases e;obtain⟨l,vs,rfl,sl,f⟩:=r.Fv ea;obtain⟨m,us,rfl,k,d⟩:=o.Fv eb;cases g;cases n;have h1:=f.length;have h2:=d.length;refine YL I sl k () λp hp=>q _ _ (bN hp) (λa ea=>by cases ea;exact hp) ⟨p,_,rfl,bH,(f.append d).kp (.of (bN hp))⟩
  ·cases e
def su:Bx->Bx->S Bx
 |.z (.int i),.z (.int j)=>if(-(2 ^ 64)<i/\i<2 ^ 64)\/(-(2 ^ 64)<j/\j<2 ^ 64)then Z (.z (.int (i*j)))else O
 |.z (.str x),.z (.int n)=>if n<=1000 ∧ -1000<=n/\x.length<=1000 then Z (.z (.str (Txt.mul x n)))else O
 |_,_=>O
theorem rJ(x:Array Nat):∀(n:Nat) (acc:Array Nat),((aa n x).foldl (·++·) acc).size=acc.size+n*x.size
 |0,acc=>by simp
 |n+1,acc=>by
  rw[eh,jS,rJ x n,ko,k7];omega
theorem Du(x:AJ)(n:Int):(Txt.mul x n).length<=n.toNat*x.length+x.length:=by
 unfold Txt.mul;split
 ·exact ZO _
 ·split
  ·exact Nat.le_add_left _ _
  ·show((aa n.toNat x.cps).foldl (·++·) #[]).size<=_;rw[rJ];show(#[]:Array Nat).size+n.toNat*x.cps.size<=n.toNat*x.cps.size+x.cps.size;simp
theorem nW:Dd X (binaryOp .Mult) su:=by
 intro AN s σ H x y v u Q I g m h;obtain⟨a,b,c,o,l,e,q⟩:=h;unfold su at e;split at e
 ·rename_i i j;split at e
  ·rename_i d;cases e;exact X4 AN s σ H x y v u Q I g m ⟨i,j,GC o,GC l,d,q _ H (AV.refl H) trivial Aq⟩
  ·cases e
 ·rename_i f n;split at e
  ·rename_i d;cases e;obtain⟨rfl,hx⟩:=UL o;have r:=GC l;subst r;obtain⟨t,rfl⟩:=g;obtain⟨w,rfl⟩:=m;have z:AA=16777216:=sizeLine_eq;have A:n.toNat*f.length<=1000*1000:=bI () d.2.2;refine SB.mul ⟨?_,λh1 h2=>?_,λh1 h2=>?_⟩ λw k=>⟨.str _,H,I.tok _,⟨_,rfl⟩,q _ H (AV.refl H) trivial (UJ (zl (Du f n) ()))⟩
   ·have e1:decide (n < -(2 ^ 63:Int))=false:=zD ();have e2:decide (n>=2 ^ 63)=false:=zD ();rw[e1,e2];rfl
   ·have p:0<n:=by omega
    have:(1000:Int)<=(2 ^ 63-1) / n:=(Int.le_ediv_iff_mul_le p).mpr ();omega
   ·show decide (f.length*n.toNat>AA)=false;rw[Nat.mul_comm];exact zD ()
  ·cases e
 ·cases e
def ML(i j:AJ):Bool:=!(Builtin.Str.occurrences j i 0 j.length 1).isEmpty
def Qm:Dt->Bool
 |.non=>true
 |.bl _=>true
 |.int _=>true
 |.str _=>true
 |_=>false
def EX(x:Dt)(ys:Y Dt):S Bool:=if Qm x=true/\ys.all Qm=true then Z (ys.any λy=>match tW y x with|some true=>true|_=>false)else O
def qg:Bx->S (Y Dt)
 |.z (.lst ds)=>Z ds
 |.z (.tup ds)=>Z ds
 |.l ds=>Z ds
 |.o ds=>Z ds
 |_=>O
def NF:Bx->Bx->S Bool
 |.z (.str i),.z (.str j)=>Z (ML i j)
 |.z d,b=>(qg b).bind λys=>EX d ys
 |_,_=>O
def inF(a b:Bx):S Bx:=(NF a b).bind λk=>Z (.z (.bl k))
theorem yO{v:V}(h:aY K H b v)(e:qg b=Z ds):∃a vs,v=.ref a/\(rE K H a vs\/tU K H a vs)/\aU K H ds vs:=by
 cases b with
 |z d=>
  cases d<;>first|(cases e;done)|skip
  ·cases e;obtain⟨a,vs,e,q,r⟩:=E6 h;exact⟨a,vs,e,.inr q,r⟩
  ·cases e;obtain⟨a,vs,e,q,r⟩:=h.Fv rfl;exact⟨a,vs,e,.inl q,r⟩
 |l c=>
  cases e;obtain⟨a,vs,e,q,r⟩:=h.Fv rfl;exact⟨a,vs,e,.inl q,r⟩
 |o c=>
  cases e;obtain⟨a,vs,e,q,r⟩:=h.Fv rfl;exact⟨a,vs,e,.inl q,r⟩
 |n _=>cases e
 |m _ _=>cases e
def yP:Bx->Bool
 |.z .non=>true
 |_=>false
theorem BR{v:V}(h:aY K H b v):decide (v=.non)=yP b:=by
 cases b with
 |z d=>
  cases d<;>simp only[aY,AW]at h
  ·subst h;rfl
  ·subst h;rfl
  ·subst h;rfl
  ·obtain⟨rfl,_⟩:=h;rfl
  ·obtain⟨_,_,rfl,_⟩:=h;rfl
  ·obtain⟨_,_,rfl,_⟩:=h;rfl
  ·obtain⟨_,_,rfl,_⟩:=h;rfl
 |l ds=>obtain⟨_,_,rfl,_⟩:=h;rfl
 |o ds=>obtain⟨_,_,rfl,_⟩:=h;rfl
 |n ds=>obtain⟨_,_,rfl,_⟩:=h;rfl
 |m ds _=>obtain⟨_,_,rfl,_⟩:=h;rfl
def YQ(a:Bx):Bx->S Bx
 |.z .non=>Z (.z (.bl (yP a)))
 |_=>O
def wL(a:Bx):Bx->S Bx
 |.z .non=>Z (.z (.bl (!yP a)))
 |_=>O
theorem CB:Dd X (AG .Is) YQ:=u9.imp X8 λx y H Q q=>by
 obtain⟨a,b,c,f,d,e,q⟩:=q;unfold YQ at e;split at e
 ·cases e;simp only[aY,AW]at d;exact⟨d,by rw[BR f];exact q _ H (AV.refl H) trivial UG⟩
 ·cases e
theorem xW:Dd X (AG .IsNot) wL:=u9.imp Tz λx y H Q q=>by
 obtain⟨a,b,c,f,d,e,q⟩:=q;unfold wL at e;split at e
 ·cases e;simp only[aY,AW]at d;exact⟨d,by rw[BR f];exact q _ H (AV.refl H) trivial UG⟩
 ·cases e
def fG:Bx->Bx->S Bx
 |.z (.str x),.z (.int i)=>(yG x.cps.toList i).bind λc=>Z (.z (.str ⟨#[c]⟩))
 |b,.z (.int i)=>(qg b).bind λds=>(yG ds i).bind λd=>Z (.z d)
 |_,_=>O
theorem U0{i:Int}(r:aU K H ds vs)(e:yG ds i=Z d):∃v,yG vs i=Z v/\AW K H d v:=by
 unfold yG at e ⊢;rw[r.length];obtain⟨j,a,e⟩:=AT e;rw[a];exact r.get e
theorem bw{a b:Expr}(k:QV X a fa)(m:QV X b fb)(hs:Kr b:=by intro _ _;with_unfolding_all rfl):QV X (.Subscript a b pos) (b2 fG fa fb):=⟨have k:=k.run;have m:=m.run;Gj (LM Yp k m hs) λσ H Q h=>by
 obtain⟨H0,ρ,c,E,e,q⟩:=h;obtain⟨a,ea,e⟩:=AT e;obtain⟨b,eb,e⟩:=AT e;refine⟨H0,ρ,a,E,ea,λv H1 j C z=>⟨H0,ρ,b,E.grow j,eb,λu H2 g B r=>?_⟩⟩;have l:=z.same g;unfold fG at e;split at e
 ·rename_i x i;obtain⟨c',A,e⟩:=AT e;cases e;exact .inr (.inr ⟨_,_,c',(UL l).1,GC r,(UL l).2,A,q _ _ (j.trans g) trivial (UJ (by show(1:Nat)<=AA;decide))⟩)
 ·obtain⟨ds,t,e⟩:=AT e;obtain⟨d,s,e⟩:=AT e;cases e;obtain⟨p,vs,rfl,f,y⟩:=yO l t;obtain⟨w,o,n⟩:=U0 y s;have hi:=GC r;rcases f with f|f
  ·exact .inl ⟨p,vs,_,w,rfl,hi,f,o,q _ _ (j.trans g) trivial n⟩
  ·exact .inr (.inl ⟨p,vs,_,w,rfl,hi,f,o,q _ _ (j.trans g) trivial n⟩)
 ·cases e⟩
theorem YS:AH "int"=Z (.type "int"):=by decide +kernel
theorem qj:AH "tuple"=Z (.type "tuple"):=by decide +kernel
theorem U4:AH "dict"=Z (.type "dict"):=by decide +kernel
theorem nY:AH "len"=Z (.builtin "len"):=by decide +kernel
theorem YT:AH "abs"=Z (.builtin "abs"):=by decide +kernel
theorem yQ:AH "all"=Z (.builtin "all"):=by decide +kernel
theorem YW:AH "any"=Z (.builtin "any"):=by decide +kernel
theorem YX:AH "min"=Z (.builtin "min"):=by decide +kernel
theorem gB:AH "sorted"=Z (.builtin "sorted"):=by decide +kernel
def IN(K:B5)(f:Ev->S (S Int)):TO:=λσ H Q=>∃H0 ρ o,eV K H0 H σ ρ/\f ρ=Z o/\∀H',AV H H'->Q o H'
def MX(X:Cx)(e:S Expr)(f:Ev->S (S Int)):Prop:=PO X e (IN X.K f)
structure DZ (X:Cx) (e:Option Expr) (f:Ev->Option (Option Int)):Prop where
 run:MX X e f
theorem GI{e:S Expr}{t t':TO}(h:PO X e t)(m:∀ σ H Q,t' σ H Q->t σ H Q):PO X e t':=λAN s σ H Q I q=>h AN s σ H Q I (m σ H Q q)
def jx:Ev->S (S Int):=λ_=>Z O
theorem gq  :DZ X O jx:=⟨GI T3 λσ H Q h=>by
 obtain⟨H0,ρ,o,E,e,q⟩:=h;cases e;exact q H (AV.refl H)⟩
def YZ:Bx->S (S Int)
 |.z (.int i)=>Z (Z i)
 |_=>O
def iM(f:Ev->S Bx):Ev->S (S Int):=λρ=>(f ρ).bind YZ
theorem cX(h:QV X e f):DZ X (Z e) (iM f):=⟨have h:=h.run;GI (T4 h) λσ H Q q=>by
 obtain⟨H0,ρ,o,E,e,q⟩:=q;obtain⟨b,eb,e⟩:=AT e;refine⟨H0,ρ,b,E,eb,λv H1 a d c=>?_⟩;unfold YZ at e;split at e
 ·rename_i i;cases e;exact⟨i,GC c,q H1 a⟩
 ·cases e⟩
def Be(xs:Y Dt)(lo hi:S Int):Y Dt:=(xs.drop (HT.gY xs.length 0 lo)).take (HT.gY xs.length xs.length hi-HT.gY xs.length 0 lo)
theorem GJ(r:aU K H ds vs)(lo hi:S Int):aU K H (Be ds lo hi) (Gf vs lo hi):=by
 unfold Be Gf;rw[r.length];exact(r.drop _).take _
theorem Qn(ds:Y Dt){lo hi:S Int}(h1:HT.gY ds.length 0 lo=0)(h2:HT.gY ds.length ds.length hi=ds.length):Be ds lo hi=ds:=by
 unfold Be;rw[h1,h2];simp
def Y0(b:Bx)(lo hi:S Int):S Bx:=match b with
 |.z (.str x)=>Z (.z (.str (Txt.slice x lo hi)))
 |.z (.tup ds)=>Z (.z (.tup (Be ds lo hi)))
 |b=>(nj b).bind λds=>Z (.o (Be ds lo hi))
def MR(K:B5):V->S Int->S Int->Hp->VK->Prop:=λx lo hi H Q=>∃b c,aY K H b x/\Y0 b lo hi=Z c/\∀w H',AV H H'->Nw H c w->aY K H' c w->Q w H'
theorem Y4:De X (MR X.K):=by
 intro AN s σ H x v E G lo hi sl Q I n w pl g h;obtain⟨b,c,A,e,q⟩:=h;unfold Y0 at e;split at e
 ·rename_i y;cases e;obtain⟨rfl,f⟩:=UL A;obtain⟨t,rfl⟩:=n;refine⟨"str", _,F.slot_str_getitem.lookup,typeIs_str _ _ _,?_⟩;obtain⟨o,e1,e2,e3⟩:=w;have z:∀M k,EP X AN σ Q (.str (Txt.slice y lo hi) M) { s with toks:=k }:=λM k=>⟨.str _,H,I.tok _,⟨_,rfl⟩,q _ H (AV.refl H) trivial (UJ (zl (Txt.slice_le y _ _) f))⟩;cases pl with
  |none=>
   cases g with
   |none=>exact kl (l:=O) (u:=O) (st:=O) ⟨o,e1,e2,e3⟩ J (post_val_or_str ⟨zl (Txt.slice_le y _ _) f,z⟩)
   |int j C=>exact kl (l:=O) (u:=Z (j,C)) (st:=O) ⟨o,e1,e2,e3⟩ J (post_val_or_str ⟨zl (Txt.slice_le y _ _) f,z⟩)
  |int i L=>
   cases g with
   |none=>exact kl (l:=Z (i,L)) (u:=O) (st:=O) ⟨o,e1,e2,e3⟩ J (post_val_or_str ⟨zl (Txt.slice_le y _ _) f,z⟩)
   |int j C=>exact kl (l:=Z (i,L)) (u:=Z (j,C)) (st:=O) ⟨o,e1,e2,e3⟩ J (post_val_or_str ⟨zl (Txt.slice_le y _ _) f,z⟩)
 ·rename_i ds;cases e;obtain⟨a,vs,rfl,B,m⟩:=E6 A;by_cases d:HT.gY vs.length 0 lo=0/\HT.gY vs.length vs.length hi=vs.length
  ·cases n;obtain⟨AQ,r,N,U⟩:=I.tuple B;have D:AQ.toArray.size=vs.length:=by rw[zk];exact r.length.symm
   refine⟨"tuple", _,PyProof.Rows.slot_tuple_getitem.lookup,N.typeIs,KY N w pl g (by rw[D];exact d.1) (by rw[D];exact d.2) ⟨.ref a,H,I,rfl,q _ H (AV.refl H) trivial ?_⟩⟩;rw[Qn ds (by rw[<-m.length];exact d.1) (by rw[<-m.length];exact d.2)];exact A
  ·refine Yl AN s σ H _ v E G lo hi sl Q I n w pl g ⟨a,vs,rfl,B,d,λp hp=>q _ _ (bN hp) trivial ?_⟩;unfold aY AW;exact⟨p,_,rfl,.inl (.inl bH),(GJ m lo hi).kp (.of (bN hp))⟩
 ·obtain⟨ds,P,e⟩:=AT e;cases e;obtain⟨a,vs,rfl,B,m⟩:=A.Fv P;exact T8 AN s σ H _ v E G lo hi sl Q I n w pl g ⟨a,vs,rfl,B,λp hp=>q _ _ (bN hp) (λa ea=>by cases ea;exact hp) ⟨p,_,rfl,bH,(GJ m lo hi).kp (.of (bN hp))⟩⟩
def yR(f:Ev->S Bx)(fl fh:Ev->S (S Int)):Ev->S Bx:=λρ=>(f ρ).bind λb=>(fl ρ).bind λlo=>(fh ρ).bind λhi=>Y0 b lo hi
theorem lU{lo hi:S Expr}{fl fh:Ev->S (S Int)}(j:QV X e f)(i:DZ X lo fl)(g:DZ X hi fh):QV X (.Subscript e (.Slice lo hi O p2) pos) (yR f fl fh):=⟨have j:=j.run;have i:=i.run;have g:=g.run;Gj (Ph Y4 j i g) λσ H Q h=>by
 obtain⟨H0,ρ,c,E,e,q⟩:=h;obtain⟨b,eb,e⟩:=AT e;obtain⟨lo,el,e⟩:=AT e;obtain⟨hi,o,e⟩:=AT e;refine⟨H0,ρ,b,E,eb,λv H1 d u p=>⟨H0,ρ,lo,E.grow d,el,λH2 a=>⟨H0,ρ,hi,E.grow (d.trans a),o,λt k=>?_⟩⟩⟩;have l:=(d.trans a).trans k;exact⟨b,c,(p.same a).same k,e,λw s r m n=>q w s (l.trans r) (m.old l) n⟩⟩
def q9:Y Bx->S Bx
 |[.z (.str x)]=>Z (.z (.int x.length))
 |[b]=>(qg b).bind λds=>Z (.z (.int ds.length))
 |_=>O
theorem BG(r:rH K H [b] vs):∃v,vs=[v]/\aY K H b v:=by
 cases r with
 |cons p t=>cases t;exact⟨_,rfl,p⟩
theorem DI{c:Bx}(r:rH K H [b,c] vs):∃v u,vs=[v,u]/\aY K H b v/\aY K H c u:=by
 cases r with
 |cons p t=>
  cases t with
  |cons p' a=>cases a;exact⟨_,_,rfl,p,p'⟩
theorem nZ:pI X (.builtin "len") q9:=m9.imp (CZ.or U5) λxs H Q q=>by
 obtain⟨h,c,b,e,q⟩:=q;unfold q9 at e;split at e
 ·rename_i x;cases e;obtain⟨v,rfl,a⟩:=BG b;obtain⟨rfl,hx⟩:=UL a;exact .inr ⟨x,rfl,hx,q _ H (AV.refl H) trivial Aq⟩
 ·obtain⟨ds,d,e⟩:=AT e;cases e;obtain⟨v,rfl,a⟩:=BG b;obtain⟨p,vs,rfl,g,f⟩:=yO a d;exact .inl ⟨p,vs,rfl,g,by rw[f.length];exact q _ H (AV.refl H) trivial Aq⟩
 ·cases e
def Qo:Y Bx->S Bx
 |[.z (.int i)]=>Z (.z (.int (if i<0 then -i else i)))
 |_=>O
theorem Y5:pI X (.builtin "abs") Qo:=m9.imp Pa λxs H Q q=>by
 obtain⟨d,c,a,e,q⟩:=q;unfold Qo at e;split at e
 ·rename_i i;cases e;obtain⟨v,rfl,b⟩:=BG a;have:=GC b;subst this;exact⟨i,rfl,q _ H (AV.refl H) trivial Aq⟩
 ·cases e
def Qp:Y Bx->S Bx
 |[.z (.int i)]=>Z (.z (.int i))
 |[.z (.bl k)]=>Z (.z (.int (if k then 1 else 0)))
 |_=>O
theorem Y6:pI X (.type "int") Qp:=m9.imp M5 λxs H Q q=>by
 obtain⟨d,c,b,e,q⟩:=q;unfold Qp at e;split at e
 ·rename_i i;cases e;obtain⟨v,rfl,a⟩:=BG b;have:=GC a;subst this;exact .inl ⟨i,rfl,q _ H (AV.refl H) trivial Aq⟩
 ·rename_i k;cases e;obtain⟨v,rfl,a⟩:=BG b;simp only[aY,AW]at a;subst a;exact .inr ⟨k,rfl,q _ H (AV.refl H) trivial Aq⟩
 ·cases e
def n6:Y Bx->S Bx
 |[b]=>(qg b).bind λds=>Z (.z (.tup ds))
 |_=>O
theorem ql:pI X (.type "tuple") n6:=m9.imp Al λxs H Q q=>by
 obtain⟨i,c,g,e,q⟩:=q;unfold n6 at e;split at e
 ·obtain⟨ds,f,e⟩:=AT e;cases e;obtain⟨v,rfl,h⟩:=BG g;obtain⟨p,vs,rfl,a,d⟩:=yO h f;refine⟨p,vs,rfl,?_⟩;rcases a with a|a
  ·refine .inl ⟨a,λl b=>q _ _ (bN b) trivial ?_⟩;unfold aY AW;exact⟨l,vs,rfl,.inl (.inl bH),d.kp (.of (bN b))⟩
  ·refine .inr ⟨a,q _ H (AV.refl H) trivial ?_⟩;unfold aY AW;exact⟨p,vs,rfl,a,d⟩
 ·cases e
def yS:Y Dt->S (Y Bool)
 |[]=>Z []
 |.bl b::ds=>(yS ds).bind λbs=>Z (b::bs)
 |_=>O
theorem sE{K:B5}{H:Hp}:∀{ds:Y Dt} {bs:Y Bool} {vs:Y V} {us:Y A0},yS ds=Z bs->aU K H ds vs->AX vs us->us=bs.map Value.bool
 |[],_,_,_,e,r,w=>by
  cases e;simp only[aU]at r;subst r;cases w;rfl
 |d::ds,_,_,_,e,r,w=>by
  simp only[aU]at r;obtain⟨v,a,rfl,h1,h2⟩:=r;cases d<;>first|(cases e;done)|skip;simp only[yS]at e;obtain⟨bs,e1,e⟩:=AT e;cases e;simp only[AW]at h1;subst h1;cases w with
  |cons p t=>
   cases p;rw[sE e1 h2 t];rfl
theorem C7(bs:Y Bool):((ap bs.length).all λi=>bs.getD i false)=bs.all id:=by
 rw[QR,Z3,Z3];constructor
 ·intro h b a;obtain⟨i,hi,rfl⟩:=ah.mp a;have:=h i (by simpa using hi);simpa[List.getD,hi]using this
 ·intro h i hi;have hi:i<bs.length:=by simpa using hi
  have:=h bs[i] (kC hi);simpa[List.getD,hi]using this
theorem C5(bs:Y Bool):((ap bs.length).any λi=>bs.getD i false)=bs.any id:=by
 rw[QR,js,js];constructor
 ·rintro⟨i,hi,h⟩;have hi:i<bs.length:=by simpa using hi
  exact⟨bs[i],kC hi,by simpa[List.getD,hi]using h⟩
 ·rintro⟨b,a,h⟩;obtain⟨i,hi,rfl⟩:=ah.mp a;exact⟨i,by simpa using hi,by simpa[List.getD,hi]using h⟩
def By:Y Bx->S Bx
 |[b]=>(nj b).bind λds=>(yS ds).bind λbs=>Z (.z (.bl (bs.all id)))
 |_=>O
def C9:Y Bx->S Bx
 |[b]=>(nj b).bind λds=>(yS ds).bind λbs=>Z (.z (.bl (bs.any id)))
 |_=>O
theorem wM(bs:Y Bool):TruthOf prog w A (λi v=>(bs.map Value.bool).toArray[i]?=Z v) λi=>bs.getD i false:=λi v s Q E h q=>by
 have h':(bs.map Value.bool)[i]?=Z v:=by simpa using h
 rw[q5]at h';cases e:bs[i]? with
 |none=>rw[e]at h';cases h'
 |some b=>
  rw[e]at h';cases h';have:bs.getD i false=b:=by simp[List.getD,e]
  have a:Q b s:=by rw[<-this];exact q
  exact qV a
theorem yU(m:X.calm=true):pI X (.builtin "all") By:=by
 intro AN s σ H xs us Q I r h;obtain⟨F,c,y,e,q⟩:=h;unfold By at e;split at e
 ·obtain⟨ds,l,e⟩:=AT e;obtain⟨ks,ek,e⟩:=AT e;cases e;obtain⟨v,rfl,z⟩:=BG y;obtain⟨a,vs,rfl,D,C⟩:=z.Fv l;obtain⟨u,rfl,j⟩:=BD r;cases j;obtain⟨AQ,w,pl,E⟩:=I.list D;have d:=sE ek C w;have t:a<s.heap.objs.size:=by obtain⟨o,n,e,_⟩:=pl;exact Zl e
  refine call_all_walk (Kj pl.isList ?_);refine⟨s.heap.objs.size,_,_,_,_,_,λi=>ks.getD i false,rfl,Walks.list (by show X.A.handled=O;exact I.ok.hd m) s.heap.objs.size a (zS t) AQ.toArray,⟨⟨_,zw _ rfl,rfl,rfl⟩,pl.isList.push _⟩,?_,λh' tk k=>?_⟩
  ·rw[d];exact wM ks
  ·have g:AQ.toArray.size=ks.length:=by rw[d];simp
   rw[g,C7];have p:L2.AU X AN σ H { s with heap:=s.heap.push { cls:=.type "list_iterator",data:=.fields #[.ref a,.int 0 0] } }:=I.kept (t':=s.toks) λb o e=>ze _ e;refine⟨.bl _,H,?_,rfl,q _ H (AV.refl H) trivial UG⟩;obtain⟨f0,f1,f2,f3,f,x⟩:=I.Gb (b:=s.heap.objs.size) (H':=H) (zi _) (I.hok.fresh (zi _));exact p.turned (it:=s.heap.objs.size) (λb o B e=>k b o (by simpa using B) e) f0 f1 f3 f x
 ·cases e
theorem Y7(m:X.calm=true):pI X (.builtin "any") C9:=by
 intro AN s σ H xs us Q I r h;obtain⟨F,c,y,e,q⟩:=h;unfold C9 at e;split at e
 ·obtain⟨ds,l,e⟩:=AT e;obtain⟨ks,ek,e⟩:=AT e;cases e;obtain⟨v,rfl,z⟩:=BG y;obtain⟨a,vs,rfl,D,C⟩:=z.Fv l;obtain⟨u,rfl,j⟩:=BD r;cases j;obtain⟨AQ,w,pl,E⟩:=I.list D;have d:=sE ek C w;have t:a<s.heap.objs.size:=by obtain⟨o,n,e,_⟩:=pl;exact Zl e
  refine call_any_walk (Kj pl.isList ?_);refine⟨s.heap.objs.size,_,_,_,_,_,λi=>ks.getD i false,rfl,Walks.list (by show X.A.handled=O;exact I.ok.hd m) s.heap.objs.size a (zS t) AQ.toArray,⟨⟨_,zw _ rfl,rfl,rfl⟩,pl.isList.push _⟩,?_,λh' tk k=>?_⟩
  ·rw[d];exact wM ks
  ·have g:AQ.toArray.size=ks.length:=by rw[d];simp
   rw[g,C5];have p:L2.AU X AN σ H { s with heap:=s.heap.push { cls:=.type "list_iterator",data:=.fields #[.ref a,.int 0 0] } }:=I.kept (t':=s.toks) λb o e=>ze _ e;refine⟨.bl _,H,?_,rfl,q _ H (AV.refl H) trivial UG⟩;obtain⟨f0,f1,f2,f3,f,x⟩:=I.Gb (b:=s.heap.objs.size) (H':=H) (zi _) (I.hok.fresh (zi _));exact p.turned (it:=s.heap.objs.size) (λb o B e=>k b o (by simpa using B) e) f0 f1 f3 f x
 ·cases e
end P1
namespace P1
open L2
def gv(i:Nat):Ev->S Bx:=λρ=>Am ρ i
def uD(g:Bx->Bx->S Bx)(fa fb:Ev->S Bx):Ev->S Bool:=λρ=>(b2 g fa fb ρ).bind yI
def tV(f:Ev->S Bx):Ev->S Bool:=λρ=>(f ρ).bind Ui
def aG:Ev->S (Y Bx):=λ_=>Z []
def f9:Ev->S An:=λρ=>Z (.nx ρ)
def fX(f:Ev->S Bx):Ev->S An:=λρ=>(f ρ).bind Qa
def Au(i:Nat)(f:Ev->S Bx):Ev->S An:=λρ=>(f ρ).bind λb=>(Qc ρ i b).bind λa=>Z (.nx a)
def Nm(gt:Dt->Ev->S Ev)(f:Ev->S Bx):Ev->S An:=λρ=>(f ρ).bind λb=>match b with|.z d=>(gt d ρ).bind λa=>Z (.nx a)|_=>O
def Y8(i j:Nat)(fs:Ev->S (Y Bx)):Ev->S An:=λρ=>(fs ρ).bind (Uo i j ρ)
def Np(i:Nat)(f:Ev->S Bx):Ev->S An:=λρ=>(f ρ).bind (Uq ρ i)
def nu(fi:Ev->S (Y Dt))(gt:Dt->Ev->S Ev)(gb:Ev->S An):Ev->S An:=λρ=>(fi ρ).bind λds=>xG gt gb ds ρ
def Y9(f:Ev->S Bx):Ev->S (Y Dt):=λρ=>(f ρ).bind Ur
def yV(f:Ev->S Bx):Ev->S (Y Dt):=λρ=>(f ρ).bind Uw
def Jb(fs:Ev->S (Y Bx)):Ev->S (Y Dt):=λρ=>(fs ρ).bind Yy
def EH(fs:Ev->S (Y Bx)):Ev->S (Y Dt):=λρ=>(fs ρ).bind Yz
def jQ(i:Nat):Dt->Ev->S Ev:=λd ρ=>Z (ρ.set i (Z (.z d)))
def mO:Ev->S Bool:=λ_=>Z true
theorem cJ:rZ X [] mO:=⟨.inl ⟨rfl,rfl⟩⟩
theorem fK(h:QB X c p):rZ X [c] p:=⟨have h:=h.run;.inr ⟨c,rfl,h⟩⟩
theorem Za:Jm X scope cl [] []:=trivial
theorem U6{xs:At}(n:X.N[i]?=Z x)(k:X.env.kindOf x=Z .cell\/X.env.kindOf x=Z .free)(a:(relabel scope X.env).names.lookup x=Z .cell\/(relabel scope X.env).names.lookup x=Z .free)(c:∃c,cl.lookup x=Z c)(r:Jm X scope cl xs is):Jm X scope cl (x::xs) (i::is):=⟨⟨n,k,a,c⟩,r⟩
theorem mem_of_lookup{a:Y (AJ×NameKind)}{x:AJ}{k:NameKind}:a.lookup x=Z k->(x,k)∈a:=Qb
theorem Zb{xs:At}(clos:closureFor scope X.env=pure cl)(kind:scope.kind=.function)(cell:scope.names.all (λy=>decide (y.2≠.cell)||(cl.lookup y.1).isNone)=true)(names:scope.names.all (λy=>decide (y.2=.local->scope.names.lookup y.1=Z .local))=true)(sub:C6 X.env.cells cl)(has:(relabel scope X.env).names.all (λy=>!(y.2==.cell||y.2==.free)||(cl.lookup y.1).isSome||scope.names.contains (y.1,.cell))=true)(cap:Jm X scope cl xs is):p7 X scope cl xs is where
 clos:=clos
 kind:=kind
 cell:=λy a b=>by
  have:=List.all_eq_true.mp cell y a;simp only[b,ne_eq,not_true_eq_false,decide_false,ef,cq]at this;exact this
 names:=λy a=>JE (List.all_eq_true.mp names y a)
 sub:=sub
 has:=λx hx=>by
  have h:∃k,(relabel scope X.env).names.lookup x=Z k/\(k==NameKind.cell||k==NameKind.free)=true:=by
   rcases hx with hx|hx
   ·exact⟨_,hx,rfl⟩
   ·exact⟨_,hx,rfl⟩
  obtain⟨k,e,hk⟩:=h;have:=List.all_eq_true.mp has _ (mem_of_lookup e);simp only[hk,Bool.not_true,ef,Q3]at this;rcases this with h|h
  ·exact .inr (aE.mp h)
  ·exact .inl (bi.mp h)
 cap:=cap
theorem KZ(r:ni k A):A.units+100<cLine:=by have:=r.un;omega
theorem Zc(h:∀b:Y Int,b.length<=63->F [.z (.lst (b.map .int))]=Z (.z (.bl true)))(j:∀b:Y Int,b.length<=63->F [.l (b.map .int)]=Z (.z (.bl true)))(K:B5)(H:Hp)(a:A1)(b:Y Int)(f:b.length<=63)(_:CC H)(c:rE K H a (b.map V.int)):
  Qk K 1 F [.ref a] H (λv _=>v=.bl true) λ_ _ _=>False:=by
 have g:∀d:Y Int,aU K H (d.map Dt.int) (d.map V.int):=λd=>by
  induction d with
  |nil=>exact aU.nil
  |cons m d i=>exact aU.cons (by unfold AW;rfl) i
 have e:∀v (H':Hp),AV H H'->Nw H (.z (.bl true)) v->aY K H' (.z (.bl true)) v->v=.bl true:=λv H' _ _ r=>by simpa only[aY,AW]using r
 rcases c with c|c
 ·exact⟨rfl,[.l (b.map .int)],_,.cons ⟨a,_,rfl,c,g b⟩ .nil,rfl,j b f,e⟩
 ·refine⟨rfl,[.z (.lst (b.map .int))],_,.cons ?_ .nil,rfl,h b f,e⟩;unfold aY AW;exact⟨a,_,rfl,.inr c,g b⟩
theorem Mk{f:A1}(F:D6 K x qual st f fd)(S:cg N ps (aQ st))(b:N.length=n)(c:ps.length=m)(d:∀(a:A0) (A:A5) (outer:Y Env) (s:A2) (H:Hp) (E:XK),ni k (A.deeper (AK qual (aQ st) s.heap.objs.size f a))->O4 (Aj Ji P w K mg base N qual (aQ st) f a A outer s H E).XC (iW st) g):
  ud P w K mg base Ji (k+1) f fd ps (Qk K m (eY n g)):=by
 subst b c;exact Ic F S d
section
variable{st:Expr}{fs:Ev->S Bx}
theorem Ju(n:Nat):Builtin.Slice.slicePlaces ((n:Int)-1) (-1) (-1)=n:=by
 unfold Builtin.Slice.slicePlaces;simp only[show ¬ ((-1:Int)>0) by decide,qf,show -(-1:Int)=1 by decide,Int.ediv_one];split<;>omega
theorem vK{sl:A1}{u:Tok}{Q:Int×Int×Nat->A2->Prop}(hs:s.heap.IsSliceOf sl .none .none (.int (-1) u))(h:Q ((n:Int)-1,-1,n) s):A7 (A8 prog w) A (Builtin.Slice.sliceApplied (.ref sl) (pure (n:Int))) Q E s:=by
 obtain⟨os,b,c,a⟩:=id hs;unfold Builtin.Slice.sliceApplied Builtin.Slice.sliceFields;refine zb (zb (JO b a (x:=.none) J (zb (JO b a (x:=.none) J (zb (JO b a (x:=.int (-1) u) J (zg ?_)))))));refine zb (HT.kO (.int (-1) u) ?_);show A7 _ _ (if((-1:Int)==0)=true then _ else _) _ _ s;rw[zo ()];refine zb (HT.kO .none (zb (HT.kO .none (zb (zg ?_)))));show A7 _ _ (pure ((n:Int)-1,(-1:Int),Builtin.Slice.slicePlaces ((n:Int)-1) (-1) (-1))) _ _ s;rw[Ju];exact zg h
theorem Dv{α β:Type}{f:α->S β}{g:α->β}:∀l:Y α,(∀a∈l,f a=Z (g a))->l.filterMap f=l.map g
 |[],_=>rfl
 |a::l,h=>by
  rw[ei,h a (zt ..),zv,Dv l λb c=>h b (zr _ c)]
theorem Qq(xs:Array A0):((ap xs.size).filterMap λ(m:Nat)=>xs[(((xs.size:Nat):Int)-1+(m:Int)*(-1)).toNat]?).toArray=xs.toList.reverse.toArray:=by
 congr 1;rw[Dv (g:=λm=>xs.toList.getD (xs.size-1-m) .none)]
 ·apply List.ext_getElem
  ·simp
  ·intro k h1 h2;have hk:k<xs.size:=by simpa using h1
   rw[jb,List.getElem_range,List.getElem_reverse,cb,z5 (by simp;omega)];simp
 ·intro m b;have b:=aI.mp b;have e:(((xs.size:Nat):Int)-1+(m:Int)*(-1)).toNat=xs.size-1-m:=by omega
  have a:xs.size-1-m<xs.size:=by omega
  rw[e,Array.getElem?_eq_getElem a,cb,z5 (by simpa using a)];simp
theorem uE{t sl:A1}{u:Tok}{Q:BB}(b:IsTup s.heap t items)(hs:s.heap.IsSliceOf sl .none .none (.int (-1) u))(h:Q (.ref s.heap.objs.size) { s with heap:=s.heap.push { cls:=.type "tuple",data:=.seq items.toList.reverse.toArray } })(c:items.size<=AA):A7 (A8 prog w) A (getItem (.ref t) (.ref sl)) Q E s:=by
 have a:sizeOk (.seq items.toList.reverse.toArray):=by
  show items.toList.reverse.toArray.size<=AA;rw[zk,eu,ZA];exact c
 obtain⟨os,d,e,i⟩:=id hs;have f:s.TypeIs (.ref sl) "slice":=⟨os,d,e⟩;unfold getItem
 try with_reducible refine QU ?_
 first|refine zb (zg ?_)|skip
 refine zb (wpAny_sequenceKey b.typeIs () ?_);refine zb (jv (name:=Str.ofString "__getitem__") b.typeIs PyProof.Rows.slot_tuple_getitem
  (ka PyProof.Rows.slot_tuple_getitem b.typeIs entry_tuple_getitem ?_ (args_tuple_getitem _ _)))
 show A7 _ _ (Builtin.Tuple.tupleItemsOf (.ref t) >>= _) _ _ s;refine zb (tupleItemsOf_ b ?_);refine zb (JU f ?_);rw[zh ()];refine zb (vK hs ?_);have g:¬ ((((items.size:Int)-1)==0&&(-1:Int)==1&&items.size==items.size)=true):=by
  rw[show((-1:Int)==1)=false from rfl,bz,bv];exact qS
 show A7 _ _ (if(((items.size:Int)-1)==0&&(-1:Int)==1&&items.size==items.size)=true then _ else _) _ _ s;rw[zo g,Qq]
 first
  |exact zb (m:=Builtin.Tuple.tupleExact _) (ZT (zg ⟨_,rfl,zg h⟩) a)
  |exact zb (m:=Builtin.Tuple.tupleExact _) (ZT (zb (zg (zg ⟨_,rfl,zg h⟩))) a)
  |exact zb (zb (m:=Builtin.Tuple.tupleExact _) (ZT (zg (zg ⟨_,rfl,zg h⟩)) a))
  |exact zb (zb (m:=Builtin.Tuple.tupleExact _) (ZT (zg ⟨_,rfl,zg h⟩) a))
def Nq:Bx->Bx->S Bx
 |.z (.tup ds),.z (.int i)=>if i = -1 then Z (.z (.tup ds.reverse))else O
 |_,_=>O
theorem Nr{a c:Bx}(h:Nq a b=Z c):∃ds,a=.z (.tup ds)/\b=.z (.int (-1))/\c=.z (.tup ds.reverse):=by
 unfold Nq at h;split at h
 ·rename_i ds i;split at h
  ·rename_i hi;subst hi;cases h;exact⟨ds,rfl,rfl,rfl⟩
  ·cases h
 ·cases h
theorem Zd(n:QV X e f)(l:QV X st fs)(D:∀v i:A0,subscripted (.Slice O O (Z st) p2) false v i=operate [v,i] (getItem v i):=by intro _ _;with_unfolding_all rfl):QV X (.Subscript e (.Slice O O (Z st) p2) pos) (b2 Nq f fs):=⟨by
 have n:=n.run;have l:=l.run;intro AN s σ H Q I h;obtain⟨H0,ρ,c,E,g,q⟩:=h;obtain⟨a,ea,g⟩:=AT g;obtain⟨b,eb,g⟩:=AT g;refine Subscript_ (gM (n AN s σ H (λx H1=>AV H H1/\aY X.K H1 a x) I ⟨H0,ρ,a,E,ea,λv H1 k L m=>⟨k,m⟩⟩) λv k ⟨x,H1,I1,m,U7,BG⟩=>?_);refine wpAny_Slice ?_;rw[evalPart_none];refine zg ?_;refine zg ?_;rw[evalPart_some];refine gM (l AN k σ H1 (λy H2=>AV H1 H2/\aY X.K H2 b y) I1 ⟨H0,ρ,b,E.grow U7,eb,λv H2 d M t=>⟨d,t⟩⟩) λvk d ⟨y,H2,I2,t,K1,DI⟩=>?_;obtain⟨ds,rfl,rfl,rfl⟩:=Nr g;have C:y=.int (-1):=by simpa only[aY,AW]using DI
 subst C;obtain⟨tk,rfl⟩:=t;obtain⟨p,vs,rfl,G,F⟩:∃p vs,x=.ref p/\tU X.K H2 p vs/\aU X.K H2 ds vs:=by
  have:=BG.same K1;simpa only[aY,AW]using this
 cases m;have j:L2.AU X AN σ H2 { d with heap:=d.heap.push { cls:=.type "slice",data:=.fields #[.none,.none,.int (-1) tk] } }:=I2.kept (t':=d.toks) λb B q=>ze _ q;obtain⟨AQ,r,z,u⟩:=j.tuple G;show A7 (f8 X) X.A (subscriptTail e (.Slice O O (Z st) p2) (.ref p) (.ref d.heap.objs.size)) (EP X AN σ Q) X.xe { d with heap:=d.heap.push { cls:=.type "slice",data:=.fields #[.none,.none,.int (-1) tk] } };refine tail_any (ops:=[.ref p,.ref d.heap.objs.size]) z.typeIs PyProof.Rows.slot_tuple_getitem.lookup (uE z (Heap.IsSliceOf.new ..) ?_ (by rw[zk,<-r.length];exact u)) (D _ _);refine⟨.ref _,_,j.laid (t':=d.toks) (o:=.tup vs.reverse) (λb B q=>ze _ q) (zi _) ?_,rfl,q _ _ ((U7.trans K1).trans (bN (j.hok.fresh (zi _)))) trivial ?_⟩
 ·exact⟨by rw[eu];exact u,_,r.reverse,iV.new _ _⟩
 ·simp only[aY,AW];exact⟨_,_,rfl,.inl (.inl bH),(aU.rev F).kp (.of (bN (j.hok.fresh (zi _))))⟩⟩
end
def D3:Bx->Bx->S Bx
 |.z (.int i),.z (.int j)=>Z (.z (.bl (decide (i<j))))
 |.z (.str x),.z (.str y)=>Z (.z (.bl (decide (x.cps.toList<y.cps.toList))))
 |_,_=>O
theorem Qs:Dd X (AG .Lt) D3:=by
 intro AN s σ H x y v u Q I d f h;obtain⟨a,b,c,k,g,e,q⟩:=h;unfold D3 at e;split at e
 ·rename_i i j;cases e;exact HG AN s σ H x y v u Q I d f ⟨i,j,GC k,GC g,q _ H (AV.refl H) trivial (by unfold aY;exact DV)⟩
 ·rename_i i j;cases e;obtain⟨rfl,_⟩:=UL k;obtain⟨rfl,_⟩:=UL g;obtain⟨t,rfl⟩:=d;obtain⟨l,rfl⟩:=f;exact PySem.P.lt_str ⟨.bl _,H,I,rfl,q _ H (AV.refl H) trivial (by unfold aY;exact DV)⟩
 ·cases e
def yW:Y Dt->S At
 |[]=>Z []
 |.str x::r=>(yW r).bind λys=>Z (x::ys)
 |_=>O
theorem vL{K:B5}{H:Hp}:∀{ds:Y Dt} {vs:Y V} {ys:At},aU K H ds vs->yW ds=Z ys->vs=ys.map V.str/\∀y∈ys,y.length<=AA
 |[],_,_,h,e=>by cases e;simp only[aU]at h;subst h;exact⟨rfl,λy a=>by cases a⟩
 |.str x::ds,_,_,h,e=>by
  simp only[yW]at e;obtain⟨ys,e1,e2⟩:=AT e;cases e2;simp only[aU]at h;obtain⟨v,r,rfl,c,b⟩:=h;obtain⟨rfl,hx⟩:v=.str x/\x.length<=AA:=by simpa only[AW]using c
  obtain⟨rfl,h2⟩:=vL b e1;refine⟨rfl,λy a=>?_⟩;rcases List.mem_cons.mp a with rfl|a
  ·exact hx
  ·exact h2 y a
 |.non::_,_,_,_,e=>by cases e
 |.bl _::_,_,_,_,e=>by cases e
 |.int _::_,_,_,_,e=>by cases e
 |.tup _::_,_,_,_,e=>by cases e
 |.lst _::_,_,_,_,e=>by cases e
 |.emp::_,_,_,_,e=>by cases e
theorem GK{K:B5}{H:Hp}:∀{ys:At},(∀y∈ys,y.length<=AA)->aU K H (ys.map Dt.str) (ys.map V.str)
 |[],_=>aU.nil
 |y::ys,h=>aU.cons (by unfold AW;exact⟨rfl,h y (zt ..)⟩) (GK λz a=>h z (zr _ a))
theorem sG:∀{ys:At} {AQ:Y A0},AX (ys.map V.str) AQ->StrsAre AQ ys
 |[],_,h=>by cases h;exact .nil
 |y::ys,_,h=>by
  cases h with
  |cons r t=>
   obtain⟨tk,rfl⟩:=r;exact .cons y tk (sG t)
theorem BW:∀{AQ:Y A0} {ys:At},StrsAre AQ ys->AX (ys.map V.str) AQ
 |_,_,.nil=>.nil
 |_,_,.cons y t h=>.cons ⟨t,rfl⟩ (BW h)
theorem Dw:m9 X (.builtin "sorted") (λxs H Q=>∃p ys,xs=[.ref p]/\rE X.K H p (ys.map V.str)/\ys.length<64/\∀l zs,H l=O->zs.Perm ys->sortedS zs=true->Q (.ref l) (B8 H l (.lst (zs.map V.str)))):=by
 intro AN s σ H xs us Q I r h;obtain⟨p,ys,rfl,m,t,q⟩:=h;obtain⟨u,rfl,f⟩:=BD r;cases f;obtain⟨AQ,d,pl,c⟩:=I.list m;have j:=d.length;rw[zd]at j c;refine sorted_strs pl.isList (sG d) () λout zs g hp i=>?_;obtain⟨n,k⟩:=sortedAll_at s.heap AQ out;refine⟨.ref (s.heap.objs.size+1),_,I.laid (t':=s.toks) (a:=s.heap.objs.size+1) (o:=.lst (zs.map V.str)) (λb o e=>sortedAll_old e) (kH _) ?_,rfl,q _ zs (I.hok.fresh (kH _)) hp i⟩;refine⟨by rw[zd,hp.length_eq];exact c,out.toList,n,BW g,?_⟩;rw[k]
def Ag(a b:AJ):Prop:=ltCps b.cps.toList a.cps.toList=false
theorem uF:∀(p:AJ) (l:At),risingS p l=true->(p::l).Pairwise Ag
 |p,[],_=>by simp
 |p,x::r,h=>by
  have h':(!ltCps x.cps.toList p.cps.toList&&risingS x r)=true:=h;rw[Zs]at h';have c:=uF x r h'.2;have hx:Ag p x:=by simpa[Ag]using h'.1
  refine am.mpr ⟨λy b=>?_,c⟩;rcases List.mem_cons.mp b with rfl|b
  ·exact hx
  ·have a:Ag x y:=Q1 c b;unfold Ag at hx a ⊢;rw[ltCps_eq]at hx a ⊢;simp only[qA]at hx a ⊢;exact List.le_trans (α:=Nat) hx a
theorem Dy{l:At}(h:sortedS l=true):l.Pairwise Ag:=by
 cases l with
 |nil=>exact .nil
 |cons p l=>exact uF p l h
theorem GP{a b:AJ}(h:Ag a b)(h':Ag b a):a=b:=by
 unfold Ag at h h';rw[ltCps_eq]at h h';simp only[qA]at h h';have:=ft (as:=a.cps.toList) (bs:=b.cps.toList) h h';cases a;cases b;simp only[Str.mk.injEq];exact cF.mp this
theorem Dz:∀{l c:At},l.Perm c->l.Pairwise Ag->c.Pairwise Ag->l=c
 |[],c,h,_,_=>by rw[List.nil_perm.mp h]
 |a::l,[],h,_,_=>by cases List.perm_nil.mp h
 |a::l,b::c,h,p,p'=>by
  have e:a=b:=by
   have f:a∈b::c:=h.mem_iff.mp (zt ..);have d:b∈a::l:=h.mem_iff.mpr (zt ..);rcases List.mem_cons.mp f with h1|h1
   ·exact h1
   ·rcases List.mem_cons.mp d with h2|h2
    ·exact h2.symm
    ·exact GP (Q1 p h2) (Q1 p' h1)
  subst e;rw[Dz ((du a).mp h) (am.mp p).2 (am.mp p').2]
def Nt(a b:AJ):Bool:=!ltCps b.cps.toList a.cps.toList
def wN(ys:At):At:=ys.mergeSort Nt
theorem sH(ys:At):(wN ys).Perm ys:=Qr ys Nt
theorem yX(ys:At):(wN ys).Pairwise Ag:=by
 have h:=QP (le:=Nt) (λa b c h1 h2=>by
  unfold Nt at *
  rw[ltCps_eq]at *
  simp only[qc,qA]at *
  exact List.le_trans (α:=Nat) h1 h2) (λa b=>by
  unfold Nt;rw[ltCps_eq,ltCps_eq];simp only[Q3,qc,qA];exact List.le_total a.cps.toList b.cps.toList) ys
 exact h.imp λ{a b} hh=>by simpa[Nt,Ag]using hh
theorem Qt{ys zs:At}(hp:zs.Perm ys)(hs:sortedS zs=true):zs=wN ys:=Dz (hp.trans (sH ys).symm) (Dy hs) (yX ys)
def GQ:Y Bx->S Bx
 |[b]=>(nj b).bind λds=>(yW ds).bind λys=>if ys.length<64 then Z (.o ((wN ys).map Dt.str))else O
 |_=>O
theorem Nu:pI X (.builtin "sorted") GQ:=m9.imp Dw λxs H Q q=>by
 obtain⟨s,c,m,e,q⟩:=q;unfold GQ at e;split at e
 ·rename_i b;obtain⟨ds,i,e⟩:=AT e;obtain⟨ys,k,e⟩:=AT e;split at e
  ·rename_i j;cases e;obtain⟨v,rfl,n⟩:=BG m;obtain⟨p,vs,rfl,r,o⟩:=n.Fv i;obtain⟨rfl,g⟩:=vL o k;refine⟨p,ys,rfl,r,j,λl zs d hp f=>?_⟩;rw[Qt hp f];refine q _ _ (bN d) (λa ea=>by cases ea;exact d) ⟨l,_,rfl,bH,GK λy h=>g y ((sH ys).mem_iff.mp h)⟩
  ·cases e
 ·cases e
def GR(x:AJ)(b:Bx):S Bx:=(nj b).bind λds=>(yW ds).bind λys=>if(ys.map (·.length)).sum+ys.length*x.length<=100000 then Z (.z (.str (Txt.join x ys)))else O
theorem U8:F3 X "str.join" (λx xs H Q=>∃y p ys,x=.str y/\xs=[.ref p]/\rE X.K H p (ys.map V.str)/\(ys.map (·.length)).sum+ys.length*y.length<=100000/\Q (.str (Txt.join y ys)) H):=by
 intro AN s σ H x xs v us Q I a d h;obtain⟨y,p,ys,rfl,rfl,e,i,q⟩:=h;obtain⟨t,rfl⟩:=a;obtain⟨u,rfl,b⟩:=BD d;cases b;obtain⟨AQ,c,pl,f⟩:=I.list e;exact join_list pl.isList (sG c) () λg k=>⟨.str _,H,I.tok _,⟨_,rfl⟩,q⟩
theorem U9{p1:Pos}(h:QV X e f)(hx:x.length<=AA:=by decide)(m:attributeBase (.Constant (.str x) j p1) "join" X.env (eval (.Constant (.str x) j p1) X.env)=eval (.Constant (.str x) j p1) X.env:=by rfl)(g:((AD cpos (A9 [e] X.env)).all (λx=>!x.1)&&(backToKw cpos (keywordEach [] X.env)).all (λx=>x.1.isSome)&&decide ([e].length+([]:Y AC).length+(if([]:Y AC).isEmpty then 0 else 1)<30))=true:=by rfl)(i:(apos.endLine==cpos.line)=true:=by rfl)(hs:A9 [e] X.env=(false,eval e X.env)::A9 [] X.env:=by rfl):QV X (.Call (.Attribute (.Constant (.str x) j p1) "join" apos) [e] [] cpos) (b1 (GR x) f):=⟨have h:=h.run;Gj (Pj (T :="str") F.plainAttrs_str F.slot_str_join F.type_str_join U8 (PL (hx:=hx)) (Gk h Kz hs) m g i hs J) λσ H Q q=>by
  obtain⟨H0,ρ,c,E,e,q⟩:=q;obtain⟨a,ea,e⟩:=AT e;refine⟨H0,ρ,_,E,rfl,λv H1 b A r=>?_⟩;obtain⟨rfl,B⟩:v=.str x/\x.length<=AA:=by simpa only[aY,AW]using r
  refine⟨rfl,H0,ρ,[a],E.grow b,by simp only[ao,ea,fz],λvs H2 d u=>?_⟩;obtain⟨w,rfl,l⟩:=BG u;unfold GR at e;obtain⟨ds,k,e⟩:=AT e;obtain⟨ys,n,e⟩:=AT e;split at e
  ·rename_i s;cases e;obtain⟨p,z,rfl,t,o⟩:=l.Fv k;obtain⟨rfl,y⟩:=vL o n;refine⟨x,p,ys,rfl,rfl,t,s,q _ _ (b.trans d) trivial ?_⟩;unfold aY AW;exact⟨rfl,joinOk_length (joinOk_of ())⟩
  ·cases e⟩
def Qu:Y Bx->S Bx
 |[.z (.int a),.z (.int b)]=>Z (.z (.int (if b<a then b else a)))
 |_=>O
theorem MW{a:Bx}(h:rH K H [a,b] vs):∃v w,vs=[v,w]/\aY K H a v/\aY K H b w:=by
 cases h with
 |cons p t=>
  cases t with
  |cons p' c=>cases c;exact⟨_,_,rfl,p,p'⟩
theorem Ze(j:X.calm=true):pI X (.builtin "min") Qu:=by
 intro AN s σ H xs us Q I r h;obtain⟨p,c,l,e,q⟩:=h;unfold Qu at e;split at e
 ·rename_i a b;cases e;obtain⟨v,w,rfl,m,n⟩:=MW l;have f:=GC m;have g:=GC n;subst f g;obtain⟨u,o,rfl,i,k⟩:=AX.two r;obtain⟨t,rfl⟩:=i;obtain⟨x,rfl⟩:=k;refine min_two_ints (I.ok.hd j) λh' tk kp=>?_;by_cases d:b<a
  ·rw[zh d]at q ⊢;exact⟨.int b,H,I.kept kp,⟨_,rfl⟩,q _ H (AV.refl H) trivial Aq⟩
  ·rw[zo d]at q ⊢;exact⟨.int a,H,I.kept kp,⟨_,rfl⟩,q _ H (AV.refl H) trivial Aq⟩
 ·cases e
def GX(AO:Y (AY×Dt))(x:AY):S Dt:=(AO.find? λa=>decide (a.1=x)).map (·.2)
def Nv(AO:Y (AY×Dt))(x:AY)(d:Dt):Y (AY×Dt):=
 if(AO.any λa=>decide (a.1=x))=true then AO.map (λa=>if a.1=x then(a.1,d)else a)else AO++[(x,d)]
section
variable{ek:Expr}{fk:Ev->S Bx}{pos':Pos}
def DB:Bx->S AY
 |.z (.str x)=>Z (.inr x)
 |.z (.int i)=>Z (.inl i)
 |_=>O
theorem Va{k:AY}{v:V}(e:DB b=Z k)(r:aY K H b v):v=kV k/\GN k:=by
 unfold DB at e;split at e
 ·cases e;simp only[aY,AW]at r;exact r
 ·cases e;simp only[aY,AW]at r;exact⟨r,trivial⟩
 ·cases e
def uG:Bx->Bx->S Bx
 |.n AO,b=>(DB b).bind λk=>(GX AO k).bind λd=>Z (.z d)
 |_,_=>O
theorem Jv{a c:Bx}(h:uG a b=Z c):∃AO k d,a=.n AO/\DB b=Z k/\GX AO k=Z d/\c=.z d:=by
 unfold uG at h;split at h
 ·obtain⟨k,ek,h⟩:=AT h;obtain⟨d,e,h⟩:=AT h;cases h;exact⟨_,k,d,rfl,ek,e,rfl⟩
 ·cases h
theorem xX(u:X.A.units+100<cLine)(f:QV X o fo)(hk:QV X ek fk)(hs:Yt ek:=by intro _ _;rfl):QV X (.Subscript o ek pos) (b2 uG fo fk):=⟨have f:=f.run;have hk:=hk.run;Gj (Ud () f hk hs) λσ H Q h=>by
 obtain⟨H0,ρ,c,E,e,q⟩:=h;obtain⟨a,ea,e⟩:=AT e;obtain⟨b,eb,e⟩:=AT e;refine⟨H0,ρ,a,E,ea,λv H1 i z r=>⟨H0,ρ,b,E.grow i,eb,λw H2 g y t=>?_⟩⟩;obtain⟨AO,x,d,rfl,n,k,rfl⟩:=Jv e;obtain⟨p,ks,rfl,s,m⟩:=r.same g;obtain⟨j,ev,l⟩:=m.look k;obtain⟨rfl,_⟩:=Va n t;exact⟨p,j,rfl,.inl ⟨ks,x,s,rfl,ev.symm⟩,q _ _ (i.trans g) trivial l⟩⟩
end
section
variable{a b:Expr}
theorem bL{j}(hx:x.length<=AA:=by decide):QV X (.Constant (.str x) j pos) (cB (.str x)):=⟨P1.PL (hx:=hx)⟩
end
section
variable{a b:Expr}
variable{AS:Y Expr}
theorem aj(h1:QV X e f)(h2:Kv X es fs)(hs:A9 (e::es) X.env=(false,eval e X.env)::A9 es X.env:=by rfl):Kv X (e::es) (ao f fs):=⟨P1.Gk (h1:=h1.run) (h2:=h2.run) (hs:=hs)⟩
theorem au  :Kv X [] (λ_=>Z []):=⟨P1.Kz ⟩
end
theorem IM{f:A1}(F:D6 K x qual st f fd)(S:cg N ps (aQ st))(b:N.length=n)(c:ps.length=m)(d:∀(a:A0) (A:A5) (outer:Y Env) (s:A2) (H:Hp) (E:XK),ni k (A.deeper (AK qual (aQ st) s.heap.objs.size f a))->PX (Aj Ji P w K mg base N qual (aQ st) f a A outer s H E).XC (iW st) g):
  ud P w K mg base Ji (k+1) f fd ps (Qk K m (eY n g)):=Mk F S b c λa A outer s H E e=>(d a A outer s H E e).run
def kill(is:Y Nat)(ρ:Ev):Ev:=is.foldl (λρ i=>ρ.set i O) ρ
def jc(is:Y Nat):Ev->S An:=λρ=>Z (.nx (kill is ρ))
theorem Qv{a:Y AB}(is:Y Nat)(h:O4 X a g):O4 X a (aH g (jc is)):=Yu h λD σ H q=>by
 obtain⟨H0,ρ,r,E,e,q⟩:=q;obtain⟨c,e1,e⟩:=AT e;refine⟨H0,ρ,c,E,e1,?_⟩;cases c with
 |nx f=>cases e;exact λσ' H' d=>q σ' H' (d.kill is)
 |rt b=>cases e;exact q
 |bk b=>cases e;exact q
 |ct b=>cases e;exact q
theorem dh{a:Y AB}(is:Y Nat)(h:PX X a g):PX X a (aH g (jc is)):=⟨Qv is h.run⟩
end P1
namespace S1
section
variable(rk:A0->Nat)
def at_(xs:Array Keyed)(i:Nat):Nat:=match xs[i]? with
 |some p=>rk p.1
 |none=>0
def Up(xs:Array Keyed)(k:Nat):Prop:=∀i j,i<=j->j<k->at_ rk xs i<=at_ rk xs j
def ER(xs:Array Keyed)(k:Nat):Prop:=∀i j,i<=j->j<k->at_ rk xs j<=at_ rk xs i
structure Bs (kd:SortKind) (b:Array Keyed) (st:SortSt):Prop where
 pm:(arrOf st).Perm b
 kd:kindOf st=kd
 fl:failedOf st=none
 pd:pendingOf st=#[]
variable{rk}{b:Array Keyed}
theorem qm{ys:Array Keyed}(h:xs[i]?=ys[j]?):at_ rk xs i=at_ rk ys j:=by unfold at_;rw[h]
theorem Zf{p d:Nat}(hs:p<xs.size)(a:d<=p)(k:Nat):at_ rk (bubble xs p d) k=if k=p-d then at_ rk xs p else if p-d<k/\k<=p then at_ rk xs (k-1)else at_ rk xs k:=by
 have e:=getElem?_bubble hs d a k;by_cases q:k=p-d
 ·simp only[zh q]at e ⊢;exact qm e
 ·simp only[zo q]at e ⊢;by_cases q2:p-d<k/\k<=p
  ·simp only[zh q2]at e ⊢;exact qm e
  ·simp only[zo q2]at e ⊢;exact qm e
theorem Jw(a:j<=xs.size)(k:Nat):at_ rk (mirror xs i j ((j-i) / 2)) k=if i<=k/\k<j then at_ rk xs (i+j-1-k)else at_ rk xs k:=by
 have e:=getElem?_mirror_all (i:=i) a k;by_cases q:i<=k/\k<j
 ·simp only[zh q]at e ⊢;exact qm e
 ·simp only[zo q]at e ⊢;exact qm e
end
section
variable{b:Array Keyed}
def Ah(prog:A3)(w:A4)(A:A5)(s:A2)(kd:SortKind)(rk:A0->Nat)(b:Array Keyed):Prop:=
 ∀(E:BB) (p q:Keyed) (Q:Bool->A2->Prop),p∈b.toList->q∈b.toList->Q (decide (rk p.1<rk q.1)) s->A7 (A8 prog w) A (keyLt' kd p.1 q.1) Q E s
theorem LP{st:SortSt}{Q:S Bool->SortSt->Prop}(f:Ah prog w A s kd rk b)(B:Bs kd b st)(hi:i<b.size)(e:j<b.size)(h:Q (Z (decide (at_ rk (AM st) i<at_ rk (AM st) j))) st):wpS (A8 prog w) A E s (ltAt' i j) Q st:=by
 have a:∀k,k<b.size->∃p,(AM st)[k]?=Z p/\p∈b.toList:=λk hk=>by
  have d:k<(AM st).size:=by rw[B.sz];exact hk
  exact⟨(AM st)[k],getElem?_pos _ k d,(ai.mp B.pm).mem_iff.mp (by simp)⟩
 obtain⟨p,e1,c⟩:=a i hi;obtain⟨q,e2,m2⟩:=a j e;have h:Q (Z (decide (rk p.1<rk q.1))) st:=by unfold at_ at h;rw[e1,e2]at h;exact h
 rw[ltAt'_eq];refine AL (wpS_get ?_);show wpS _ _ _ _ (elem' (AM st) i >>= λx=>elem' (AM st) j >>= λy=>lt' x y) Q st;rw[elem'_eq,elem'_eq,e1,e2];refine AL (wpS_pure ?_);refine AL (wpS_pure ?_);rw[lt'_eq];refine AL (wpS_get ?_);rw[B.kd];exact AL (wpS_lift (KB (f _ p q _ c m2 ⟨rfl,wpS_pure h⟩)))
theorem LJ{st:SortSt}{a:Nat}{Q:AscSt->SortSt->Prop}(l:Ah prog w A s kd rk b)(o:n<=b.size)(r:1<=a)(k:a<=n)(B:Bs kd b st)(hs:Up rk (AM st) a)(h:∀m,a<=m->m<=n->Up rk (AM st) m->(m=n\/at_ rk (AM st) m<at_ rk (AM st) (m-1))->Q (O,m) st):wpS (A8 prog w) A E s (ascLoop a n) Q st:=by
 unfold ascLoop;refine wpS_forRange (I:=λx c t=>t=st/\c=(O,x)/\Up rk (AM st) x) ?_ ?_ ⟨rfl,rfl,hs⟩
 ·rintro x c t f p ⟨rfl,rfl,d⟩;refine AL (LP l B () () ?_);by_cases q:at_ rk (AM t) x<at_ rk (AM t) (x-1)
  ·simp only[q,decide_true,QA];exact wpS_pure (h x f () d (.inr q))
  ·simp only[q,decide_false,zI,qf];refine wpS_pure ⟨rfl,rfl,λi j g u=>?_⟩;by_cases hx:j<x
   ·exact d i j g hx
   ·have e:j=x:=by omega
    subst e;by_cases hi:i=j
    ·rw[hi];exact zi _
    ·have:=d i (j-1) () ();omega
 ·rintro c t ⟨rfl,rfl,d⟩;rw[show max a n=n by omega]at d ⊢;exact h n k (zi _) d (.inl J)
theorem t3{st:SortSt}(l:Ah prog w A s kd rk b)(f:n<=b.size)(h1:1<=m)(g:m<=n)(B:Bs kd b st)(hs:ER rk (AM st) m)(h:∀k t,Bs kd b t->1<=k->k<=n->Up rk (AM t) k->Q (Z k) t):wpS (A8 prog w) A E s (tail3 m n) Q st:=by
 unfold tail3;have c:m<=(AM st).size:=by rw[B.sz];omega
 refine AL (wpS_reverse ?_);have a:Bs kd b (PyProof.Rows.setArr st (mirror (AM st) 0 m ((m-0) / 2))):=B.arr (mirror_perm _ _ _ _);refine AL (LJ l f h1 g a (λi j p o=>?_) λk q d e _=>wpS_pure (h k _ a () d e));show at_ rk (mirror (AM st) 0 m ((m-0) / 2)) i<=at_ rk (mirror (AM st) 0 m ((m-0) / 2)) j;rw[Jw c,Jw c,zh ⟨by omega,by omega⟩,zh ⟨by omega,by omega⟩];exact hs _ _ () ()
def Rn(prog:A3)(w:A4)(A:A5)(kd:SortKind)(rk:A0->Nat)(b:Array Keyed):Prop:=∀(E:BB) (s:A2) (st:SortSt) (Q:Unit->SortSt->Prop),Ah prog w A s kd rk b->Bs kd b st->2<=b.size →
 (∀t,(AM t).Perm b->failedOf t=O->Up rk (AM t) b.size->Q gd t)->wpS (A8 prog w) A E s sortRuns' Q st
def Dx(a:A1)(s s':A2):Prop:=∀c o,c≠a->s.heap.get? c=Z o->s'.heap.get? c=Z o
theorem Zg{vs:Y A0}{P:Fin->A2->Prop}(f:s.heap.get? a=Z (seqObj "list" vs.toArray n))(u:2<=vs.length->∀s',Dx a s s'->∀Q:SortKind->A2->Prop,Q kd s'->A7 (A8 prog w) A (keyKind' vs.toArray) Q E s')(z:∀s',Dx a s s'->Ah prog w A s' kd rk (pairsOf vs))(p:vs.length<=AA)(r:Rn prog w A kd rk (pairsOf vs))(h:∀st:SortSt,(AM st).Perm (pairsOf vs)->Up rk (AM st) (pairsOf vs).size->P (.done (.ret .none)) { s with heap:=sortedHeap s.heap a vs ((AM st).map (·.2)) }):
  A7 (A8 prog w) A (Builtin.«list.sort» ⟨[.ref a],[]⟩) P E s:=by
 rw[list_sort_plain];have x:=Zl f;refine zb (listItems_at f J (zb (listUpdate_at f J ?_)));obtain⟨e1,g1⟩:∃e1,(s.heap.update a (Obj.mapSeq λ_=>#[])).get? a=Z (seqObj "list" #[] e1):=⟨_,get?_update_seq f λ_=>#[]⟩;refine zb (seqEpoch_at g1 J (zb (wpAny_newTuple (zb (KA (QU ?_))))));have z1:(s.heap.update a (Obj.mapSeq λ_=>#[])).objs.size=s.heap.objs.size:=fA ..;have k:∀c,c<s.heap.objs.size->(((s.heap.update a (Obj.mapSeq λ_=>#[])).push (seqObj "tuple" vs.toArray 0)).push (seqObj "list" #[] 0)).get? c=(s.heap.update a (Obj.mapSeq λ_=>#[])).get? c:=λc d=>by
  rw[eP _ _ _ (by rw[size_push',z1];exact zS (cf d)),eP _ _ _ (by rw[z1];exact zS d)]
 have b:=(k a x).trans g1;have l:Dx a s { s with heap:=((s.heap.update a (Obj.mapSeq λ_=>#[])).push (seqObj "tuple" vs.toArray 0)).push (seqObj "list" #[] 0) }:=λc o d e=>by
  show(((s.heap.update a (Obj.mapSeq λ_=>#[])).push (seqObj "tuple" vs.toArray 0)).push (seqObj "list" #[] 0)).get? c=Z o;rw[k c (Zl e),ew _ _ _ _ d];exact e
 show A7 _ _ _ _ _ { s with heap:=((s.heap.update a (Obj.mapSeq λ_=>#[])).push (seqObj "tuple" vs.toArray 0)).push (seqObj "list" #[] 0) };have B:vs.toArray.size=vs.length:=by simp
 have g:∀st:SortSt,(AM st).Perm (pairsOf vs)->((AM st).map (·.2)).size<=AA+1:=λst hp=>by
  have q:((AM st).map (·.2)).size=vs.length:=(Array.size_map ..).trans (hp.size_eq.trans (pairsOf_size _));rw[q];exact eQ p
 by_cases h2:vs.toArray.size<2
 ·simp only[zh h2];refine zb (zg ?_);rw[StateT.run_pure];refine zb (zg (zb (seqEpoch_at b J (zb (listUpdate_at b J ?_ (hsz2:=g (SortSt.mk' general' (pairsOf vs) #[] 7 O) (kR _)))))));simp only[bne_self_eq_false,zI,qf];refine zg (h (SortSt.mk' general' (pairsOf vs) #[] 7 O) (kR _) λi j C v=>?_);rw[pairsOf_size]at v;rw[show i=j by omega];exact zi _
 ·simp only[zo h2];refine zb (u () _ l _ ?_);refine zb (ZZ (r _ _ (SortSt.mk' kd (pairsOf vs) #[] 7 O) (λ_ t=>(AM t).Perm (pairsOf vs)/\failedOf t=O/\Up rk (AM t) (pairsOf vs).size) (z _ l) ⟨kR _,rfl,rfl,rfl⟩ (by rw[pairsOf_size];omega) λt q1 q2 q3=>⟨q1,q2,q3⟩) ?_ λ_ _ q=>q);rintro⟨⟨⟩,t⟩ s' ⟨rfl,hp,y,m⟩;dsimp only;refine zb (seqEpoch_at b J (zb (listUpdate_at b J ?_ (hsz2:=g t hp))));rw[y];simp only[bne_self_eq_false,zI,qf];exact zg (h t hp m)
theorem Jx{x:A0}{vs:Y A0}{Q:BB}(j:∀(d:BB) (f:Y A0->A2->Prop),(∀h' tk,s.heap.objs.size<=h'.objs.size->(∀c o,s.heap.get? c=Z o->h'.get? c=Z o)->f vs { s with heap:=h',toks:=tk })->A7 (A8 prog w) A.in1 (collect x) f d s)
  (r:2<=vs.length->∀(d:BB) (a:A5) (s':A2),(∀c o,s.heap.get? c=Z o->s'.heap.get? c=Z o)->∀Q:SortKind->A2->Prop,Q kd s'->A7 (A8 prog w) a (keyKind' vs.toArray) Q d s') (v:∀(a:A5) (s':A2),(∀c o,s.heap.get? c=Z o->s'.heap.get? c=Z o)->Ah prog w a s' kd rk (pairsOf vs)) (k:vs.length<=AA) (p:∀a:A5,Rn prog w a kd rk (pairsOf vs))
  (h:∀(l:A1) (h':A6) (tk n:Nat) (st:SortSt),(AM st).Perm (pairsOf vs)->Up rk (AM st) (pairsOf vs).size->s.heap.objs.size<=l->(∀c o,s.heap.get? c=Z o->h'.get? c=Z o)->h'.get? l=Z (seqObj "list" ((AM st).map (·.2)) n)->Q (.ref l) { s with heap:=h',toks:=tk }):
  A7 (A8 prog w) A (call (.builtin "sorted") [x]) Q E s:=by
 refine Calls.call_function_entry kind_sorted plain_sorted entry_sorted (args_sorted1 _) ?_;unfold Builtin.«sorted»;refine zb (m:=checkCount "sorted" 1 1 _) (zg (zb (j _ _ λh1 tk u ext=>zb (KA ?_))));have b:(h1.push (seqObj "list" vs.toArray 0)).get? h1.objs.size=Z (seqObj "list" vs.toArray 0):=zw _ rfl;have g:∀s':A2,Dx h1.objs.size { s with heap:=h1.push (seqObj "list" vs.toArray 0),toks:=tk } s'->∀c o,s.heap.get? c=Z o->s'.heap.get? c=Z o:=λs' q c o e=>
  q c o (zS (Zl (ext c o e))) (ze _ (ext c o e))
 refine zb (QU (ka slot_list_sort ⟨_,b,rfl⟩ entry_list_sort (Zg b (λq s' o=>r q _ _ s' (g s' o)) (λs' o=>v _ s' (g s' o)) k (p _) λst q1 q2=>⟨_,rfl,zg ⟨_,rfl,?_⟩⟩) (args_list_sort _)));obtain⟨n,t⟩:=sortedHeap_at (out:=(AM st).map (·.2)) b;refine h h1.objs.size _ tk n st q1 q2 u (λc o e=>?_) t;have i:=Zl (ext c o e);rw[sortedHeap_old (zS i) (by rw[JP];exact cf i)];exact ze _ (ext c o e)
end
end S1
namespace S1
open L2
theorem Nx(fb:Bool)(x y:A0):keyLt' (tuples' fb) x y=(do
  let xs <-Builtin.List.listItems x
  let ys <-Builtin.List.listItems y
  for ((p,q),i) in (xs.toList.zip ys.toList).zipIdx do
   if !(<-eqBool p q)then return <-oneLt' (fb&&i==0) p q
  return decide (xs.size<ys.size)):=rfl
def K3:AY->AY->Bool
 |.inl a,.inl b=>decide (a<b)
 |.inr x,.inr y=>decide (x.cps.toList<y.cps.toList)
 |.inl _,.inr _=>true
 |.inr _,.inl _=>false
def K4:AY->AY->Bool
 |.inl _,.inl _=>true
 |.inr _,.inr _=>true
 |_,_=>false
def gO:Y AY->Y AY->Bool
 |[],[]=>false
 |[],_::_=>true
 |_::_,[]=>false
 |x::xs,y::ys=>if x=y then gO xs ys else K3 x y
def Vb:Y AY->Y AY->Prop
 |x::xs,y::ys=>K4 x y=true/\Vb xs ys
 |_,_=>True
theorem Cc{x y:AY}{p q:A0}{Q:Bool->A2->Prop}(hp:kJ x p=true)(c:kJ y q=true)(h:Q (decide (x=y)) s):A7 (A8 prog w) A (eqBool p q) Q E s:=
 (dZ prog w).eqBool (a:=x) (b:=y) hp c h
theorem Zh{fb:Bool}{x y:AY}{p q:A0}{Q:Bool->A2->Prop}(hs:K4 x y=true)(hp:kJ x p=true)(a:kJ y q=true)(h:Q (K3 x y) s):A7 (A8 prog w) A (oneLt' fb p q) Q E s:=by
 rcases cM hp with⟨i,t,rfl,rfl⟩|⟨z,t,rfl,rfl⟩
 ·rcases cM a with⟨j,u,rfl,rfl⟩|⟨z,u,rfl,rfl⟩
  ·cases fb with
   |true=>exact oneLt_int h
   |false=>
    rw[oneLt'_eq];simp only[zI,qf];refine zb (show A7 _ _ (AG .Lt (.int i t) (.int j u)) _ _ _ from lt_int ?_);exact qV h
  ·cases hs
 ·rcases cM a with⟨j,u,rfl,rfl⟩|⟨b,u,rfl,rfl⟩
  ·cases hs
  ·cases fb with
   |true=>exact oneLt_str h
   |false=>
    rw[oneLt'_eq];simp only[zI,qf];refine zb (show A7 _ _ (AG .Lt (.str z t) (.str b u)) _ _ _ from PySem.P.lt_str ?_);exact qV h
def Ks(ks:Y AY)(AQ:Y A0):Prop:=AI (λk v=>kJ k v=true) ks AQ
def CS:Y AY->Y AY->S Bool
 |x::xs,y::ys=>if x=y then CS xs ys else Z (K3 x y)
 |_,_=>O
theorem Qw:∀ks a:Y AY,gO ks a=match CS ks a with|some r=>r|none=>decide (ks.length<a.length)
 |[],[]=>rfl
 |[],_::_=>by simp[gO,CS]
 |_::_,[]=>rfl
 |x::xs,y::ys=>by
  simp only[gO,CS];by_cases e:x=y
  ·rw[zh e,zh e,Qw xs ys];simp only[ZH,Nat.add_lt_add_iff_right]
  ·rw[zo e,zo e]
def turn(fb:Bool):(A0×A0)×Nat->S Bool×Unit->Sem (ForInStep (S Bool×Unit)):=λx _=>match x with
 |((p,q),i)=>do
  let e <-eqBool p q
  if(!e)=true then do
    let r <-oneLt' (fb&&i==0) p q
    pure (ForInStep.done (Z r,gd))
   else pure (ForInStep.yield (O,gd))
theorem EN(fb:Bool):∀(ks b:Y AY) (AQ a:Y A0) (i:Nat) (R:S Bool×Unit->A2->Prop),Ks ks AQ->Ks b a->Vb ks b->R (CS ks b,gd) s->A7 (A8 prog w) A (forIn ((AQ.zip a).zipIdx i) ((O,gd):S Bool×Unit) (turn fb)) R E s:=by
 intro ks
 induction ks with
 |nil=>intro b AQ a i R h _ _ h1;cases h;exact zg h1
 |cons x xs f=>
  intro b AQ a i R h h' c h1;cases h with
  |@cons _ p _ AQ hp hk=>
   cases h' with
   |nil=>exact zg h1
   |@cons y q ys a d g=>
    rw[QE,fE,List.forIn_cons];refine zb ?_;show A7 _ _ (eqBool p q >>= _) _ _ _;refine zb (Cc hp d ?_);by_cases e:x=y
    ·simp only[e,decide_true,Bool.not_true,zI,qf];refine zg (f ys AQ a (i+1) R hk g c.2 ?_);simp only[CS,zh e]at h1;exact h1
    ·simp only[e,decide_false,bE,QA];refine zb (Zh c.1 hp d (zg (zg ?_)));simp only[CS,zo e]at h1;exact h1
theorem Zi{fb:Bool}{c:A1}{oa g:AE}{d:Y A0}{b:Y AY}{Q:Bool->A2->Prop}(j:s.heap.get? a=Z oa)(o:oa.data=.seq AQ.toArray n)(i:s.heap.get? c=Z g)(p:g.data=.seq d.toArray m)(hk:Ks ks AQ)(f:Ks b d)(hs:Vb ks b)(h:Q (gO ks b) s):A7 (A8 prog w) A (keyLt' (tuples' fb) (.ref a) (.ref c)) Q E s:=by
 rw[Nx];refine zb (listItems_at j o (zb (listItems_at i p ?_)));have k:AQ.length=ks.length:=(Paired.length hk).symm;have l:d.length=b.length:=(Paired.length f).symm;refine zb (EN fb ks b AQ d 0 _ hk f hs ?_);rw[Qw]at h;cases e:CS ks b with
 |some r=>rw[e]at h;exact zg h
 |none=>
  rw[e]at h;refine zg ?_;simpa[k,l]using h
theorem Vc(x:AY):K3 x x=false:=by
 cases x with
 |inl a=>simp[K3]
 |inr a=>simp[K3]
theorem Ny{x y z:AY}(h:K3 x y=true)(h':K3 y z=true):K3 x z=true:=by
 cases x<;>cases y<;>cases z<;>simp only[K3,Zp,zI,reduceCtorEq]at h h' ⊢
 ·omega
 ·exact List.lt_trans h h'
theorem Vd{x y:AY}(h:K3 x y=false)(h':K3 y x=false):x=y:=by
 cases x<;>cases y<;>simp only[K3,qA,Bool.true_eq_false,reduceCtorEq]at h h'
 ·congr 1;omega
 ·rename_i a b;have:=ft (as:=a.cps.toList) (bs:=b.cps.toList) h' h;cases a;cases b;simp only at this;rw[cF.mp this]
theorem yZ:∀xs:Y AY,gO xs xs=false
 |[]=>rfl
 |x::xs=>by simp only[gO,QA];exact yZ xs
theorem kZ:∀{xs ys zs:Y AY},gO xs ys=true->gO ys zs=true->gO xs zs=true
 |[],[],_,h,_=>by cases h
 |[],_::_,[],_,h'=>by cases h'
 |[],_::_,_::_,_,_=>rfl
 |_::_,[],_,h,_=>by cases h
 |_::_,_::_,[],_,h'=>by cases h'
 |x::xs,y::ys,z::zs,h,h'=>by
  simp only[gO]at h h' ⊢;by_cases e1:x=y
  ·subst e1;rw[zh rfl]at h;by_cases e2:x=z
   ·subst e2;rw[zh rfl]at h' ⊢;exact kZ h h'
   ·rw[zo e2]at h' ⊢;exact h'
  ·rw[zo e1]at h;by_cases e2:y=z
   ·subst e2;rw[zo e1];exact h
   ·rw[zo e2]at h';have:=Ny h h';rw[zo (λe=>by subst e;rw[Vc]at this;cases this)];exact this
theorem uH:∀{xs ys:Y AY},gO xs ys=false->gO ys xs=false->xs=ys
 |[],[],_,_=>rfl
 |[],_::_,h,_=>by cases h
 |_::_,[],_,h'=>by cases h'
 |x::xs,y::ys,h,h'=>by
  simp only[gO]at h h';by_cases e:x=y
  ·subst e;rw[zh rfl]at h h';rw[uH h h']
  ·rw[zo e]at h;rw[zo (kF e)]at h';exact absurd (Vd h h') e
def mQ(xs ys:Y AY):Bool:=!gO ys xs
theorem lq(a b c:Y AY)(h:mQ a b=true)(h':mQ b c=true):mQ a c=true:=by
 unfold mQ at *
 simp only[qc]at *
 cases d:gO c a with
 |false=>rfl
 |true=>
  cases f:gO a b with
  |true=>rw[kZ d f]at h';cases h'
  |false=>
   have e:=uH f h;subst e;rw[d]at h';cases h'
theorem lu(a b:Y AY):(mQ a b||mQ b a)=true:=by
 unfold mQ;cases h:gO b a with
 |false=>rfl
 |true=>
  cases h':gO a b with
  |false=>rfl
  |true=>have:=kZ h h';rw[yZ]at this;cases this
theorem qI{a b:Y AY}(h:mQ a b=true)(h':mQ b a=true):a=b:=by
 unfold mQ at *
 simp only[qc]at *
 exact uH h' h
theorem qp{α:Type}{le:α->α->Prop}(d:∀a b,le a b->le b a->a=b):∀{l c:Y α},l.Perm c->l.Pairwise le->c.Pairwise le->l=c
 |[],c,h,_,_=>by rw[List.nil_perm.mp h]
 |a::l,[],h,_,_=>by cases List.perm_nil.mp h
 |a::l,b::c,h,p,p'=>by
  have e:a=b:=by
   have g:a∈b::c:=h.mem_iff.mp (zt ..);have f:b∈a::l:=h.mem_iff.mpr (zt ..);rcases List.mem_cons.mp g with h1|h1
   ·exact h1
   ·rcases List.mem_cons.mp f with h2|h2
    ·exact h2.symm
    ·exact d a b (Q1 p h2) (Q1 p' h1)
  subst e;rw[qp d ((du a).mp h) (am.mp p).2 (am.mp p').2]
def sI(bV:Y (Y AY)):Y (Y AY):=bV.mergeSort mQ
theorem wO(bV:Y (Y AY)):(sI bV).Perm bV:=Qr ..
theorem GZ(bV:Y (Y AY)):(sI bV).Pairwise (λa b=>mQ a b=true):=QP lq lu bV
theorem BX{out:Y (Y AY)}(hp:out.Perm bV)(hs:out.Pairwise (λa b=>mQ a b=true)):out=sI bV:=qp (λ_ _=>qI) (hp.trans (wO bV).symm) hs (GZ bV)
def Bi(bV:Y (Y AY))(k:Y AY):Nat:=bV.countP λu=>gO u k
theorem BZ{α:Type}{p q:α->Bool}:∀{l:Y α},(∀x∈l,p x=true->q x=true)->(∃x∈l,p x=false/\q x=true)->l.countP p<l.countP q
 |[],_,⟨x,hx,_⟩=>by cases hx
 |a::l,h,⟨x,hx,h1,h2⟩=>by
  have le:l.countP p<=l.countP q:=dv λy b=>h y (zr _ b);rw[fF,fF];rcases List.mem_cons.mp hx with rfl|hx
  ·rw[h1,h2];simp;omega
  ·have:=BZ (λy b=>h y (zr _ b)) ⟨x,hx,h1,h2⟩;have c:=h a (zt ..);cases hp:p a with
   |true=>rw[c hp];simp;omega
   |false=>simp;omega
theorem xY{a b:Y AY}(e:a∈bV):decide (Bi bV a<Bi bV b)=gO a b:=by
 cases h:gO a b with
 |true=>
  refine z4 (BZ (λu _ c=>kZ c h) ⟨a,e,yZ a,h⟩)
 |false=>
  refine zD (dE.mpr (dv λu _ c=>?_));cases d:gO b a with
  |true=>exact kZ c d
  |false=>rw[uH h d];exact c
def rA(h:A6)(ks:Y AY)(v:A0):Prop:=∃(a:A1) (o:AE) (AQ:Y A0) (n:Nat),v=.ref a/\h.get? a=Z o/\o.cls=.type "tuple" ∧ o.data=.seq AQ.toArray n/\Ks ks AQ
theorem K5{f:α->Sem β}:∀(xs:Y α) (ys:Y β) (Q:Y β->A2->Prop),AI (λx y=>∀(c:BB) (a:β->A2->Prop),a y s->A7 (A8 prog w) A (f x) a c s) xs ys->Q ys s->A7 (A8 prog w) A (xs.mapM f) Q E s:=by
 intro xs
 induction xs with
 |nil=>intro ys Q p h;cases p;rw[List.mapM_nil];exact zg h
 |cons x xs b=>
  intro ys Q p q;cases p with
  |cons h t=>
   rw[List.mapM_cons];exact zb (h _ _ (zb (b _ _ t (zg q))))
theorem Qx(v:A0):firstOfTuple' v=(do
  if(<-typeOf v) != .type "tuple" then return O
  return (<-Builtin.List.listItems v)[0]?):=rfl
theorem Nz{k:AY}{v:A0}(q:rA s.heap (k::ks) v):∃u,kJ k u=true/\∀(e:BB) (b:S A0->A2->Prop),b (Z u) s->A7 (A8 prog w) A (firstOfTuple' v) b e s:=by
 obtain⟨a,o,AQ,n,rfl,g,c,d,p⟩:=q;cases p with
 |@cons _ u _ AQ hp t=>
  refine⟨u,hp,λe b h=>?_⟩;rw[Qx];refine zb (JU (T :="tuple") ⟨o,g,c⟩ ?_);rw[zo ()];exact zb (listItems_at g d (zg h))
theorem Qy{k:AY}(h:kJ k u=true)(b:BB)(a:BB)(q:a (.type (if k.isLeft then "int" else "str")) s):A7 (A8 prog w) A (typeOf u) a b s:=by
 rcases cM h with⟨i,t,rfl,rfl⟩|⟨x,t,rfl,rfl⟩
 ·exact JU (typeIs_int s i t) q
 ·exact JU (typeIs_str s x t) q
theorem Ca{vs:Y A0}{Q:SortKind->A2->Prop}(i:AI (rA s.heap) bV vs)(g:∀k∈bV,k≠[])(F:∀k∈bV,∀l∈bV,Vb k l)(h2:1<=vs.length)(h:Q (tuples' true) s):A7 (A8 prog w) A (keyKind' vs.toArray) Q E s:=by
 have H:∀(bV:Y (Y AY)) (vs:Y A0),AI (rA s.heap) bV vs->(∀k∈bV,k≠[])->∃us:Y A0,AI (λv u=>∀(c:BB) (a:S A0->A2->Prop),a (Z u) s->A7 (A8 prog w) A (firstOfTuple' v) a c s) vs us/\AI (λ(k:Y AY) u=>∃x r,k=x::r/\kJ x u=true) bV us:=by
  intro bV vs i
  induction i with
  |nil=>intro _;exact⟨[],.nil,.nil⟩
  |@cons k v bV vs q t d=>
   intro g;obtain⟨us,p1,p2⟩:=d λk hk=>g k (zr _ hk);cases k with
   |nil=>exact absurd J (g _ (zt ..))
   |cons x r=>
    obtain⟨u,e,B⟩:=Nz (prog:=prog) (w:=w) (A:=A) q;exact⟨u::us,.cons B p1,.cons ⟨x,r,rfl,e⟩ p2⟩
 obtain⟨us,p1,p2⟩:=H bV vs i g;have C:us.length=vs.length:=(Paired.length p1).symm;have G:∀{l:Y A0} {n:Y A0},AI (λv u=>∀(c:BB) (a:S A0->A2->Prop),a (Z u) s->A7 (A8 prog w) A (firstOfTuple' v) a c s) l n->AI (λv u=>∀(c:BB) (a:S A0->A2->Prop),a u s->A7 (A8 prog w) A (firstOfTuple' v) a c s) l (n.map Z):=λh=>by
  induction h with
  |nil=>exact .nil
  |cons q t d=>exact .cons q d
 rw[keyKind'_eq,eR,map_eq_pure_bind];refine zb (zb (K5 vs (us.map Z) _ (G p1) (zg ?_)));have o:(us.map Z).toArray.all (·.isSome)=true:=by simp
 rw[zh o];refine zb (QQ ?_);have I:(us.map Z).toArray.filterMap id=us.toArray:=by simp
 rw[I,oneTypeOnly'_eq,eR,map_eq_pure_bind];have ty:∀(bV:Y (Y AY)) (us:Y A0),AI (λ(k:Y AY) u=>∃x r,k=x::r/\kJ x u=true) bV us->∃ts:Y A0,AI (λu t=>∀(c:BB) (a:BB),a t s->A7 (A8 prog w) A (typeOf u) a c s) us ts/\AI (λ(k:Y AY) t=>∃x r,k=x::r/\t=.type (if x.isLeft then "int" else "str")) bV ts:=by
  intro bV us hp
  induction hp with
  |nil=>exact⟨[],.nil,.nil⟩
  |@cons k u bV us q t d=>
   obtain⟨ts,q1,q2⟩:=d;obtain⟨x,r,rfl,hx⟩:=q;exact⟨_::ts,.cons (λc a h=>Qy hx c a h) q1,.cons ⟨x,r,rfl,rfl⟩ q2⟩
 obtain⟨ts,q1,q2⟩:=ty bV us p2;refine zb (zb (zb (K5 us ts _ q1 (zg ?_))));have y:ts.length=vs.length:=by rw[<-Paired.length q1,C]
 cases q2 with
 |nil=>simp at y;omega
 |@cons M K L j p z=>
  obtain⟨b,r,rfl,rfl⟩:=p;have same:∀t∈j,t=Value.type (if b.isLeft then "int" else "str"):=by
   have D:∀(bV:Y (Y AY)) (ts:Y A0),AI (λ(k:Y AY) t=>∃x r,k=x::r/\t=Value.type (if x.isLeft then "int" else "str")) bV ts->(∀k∈bV,Vb (b::r) k)->∀t∈ts,t=Value.type (if b.isLeft then "int" else "str"):=by
    intro bV ts hp
    induction hp with
    |nil=>intro _ t f;cases f
    |@cons k t bV ts q _ d=>
     intro m u e;rcases List.mem_cons.mp e with rfl|e
     ·obtain⟨x,N,rfl,rfl⟩:=q;have:=(m _ (zt ..)).1;cases b<;>cases x<;>first|rfl|cases this
     ·exact d (λk hk=>m k (zr _ hk)) u e
   exact D _ _ z λk hk=>F _ (zt ..) k (zr _ hk)
  have e0:(Value.type (if b.isLeft then "int" else "str")::j).toArray[0]?=Z (Value.type (if b.isLeft then "int" else "str")):=by simp
  have e1:((Value.type (if b.isLeft then "int" else "str")::j).toArray.all λx=>x==Value.type (if b.isLeft then "int" else "str"))=true:=by
   simp only[List.all_toArray,Z3];intro t f;rcases List.mem_cons.mp f with rfl|f
   ·simp
   ·rw[same t f];simp
  rw[e0];simp only[e1,QA];refine zg (zg ?_);have e2:((Z (Value.type (if b.isLeft then "int" else "str"))).any λx=>x !=Value.type "tuple")=true:=by
   cases b with
   |inl _=>exact(by decide:((Z (Value.type "int")).any λx=>x !=Value.type "tuple")=true)
   |inr _=>exact(by decide:((Z (Value.type "str")).any λx=>x !=Value.type "tuple")=true)
  rw[e2];exact h
def BM(bV:Y (Y AY))(vs:Y A0)(v:A0):Y AY:=match (vs.zip bV).find? (λp=>p.1==v)with
 |some p=>p.2
 |none=>[]
theorem jy{h:A6}:∀{bV:Y (Y AY)} {vs:Y A0},AI (rA h) bV vs->∀v∈vs,BM bV vs v∈bV/\rA h (BM bV vs v) v
 |_,_,.nil,v,hv=>by cases hv
 |k::bV,u::vs,.cons q t,v,hv=>by
  unfold BM;rw[QE,df];by_cases e:u=v
  ·subst e;simp only[beq_self_eq_true];exact⟨zt ..,q⟩
  ·have e':(u==v)=false:=by simpa using e
   simp only[e'];have b:v∈vs:=by
    rcases List.mem_cons.mp hv with h|h
    ·exact absurd h.symm e
    ·exact h
   have a:=jy t v b;exact⟨zr _ a.1,a.2⟩
theorem qt{h:A6}:∀{bV:Y (Y AY)} {vs:Y A0},AI (rA h) bV vs->∀(K:A0->Y AY),(∀v∈vs,rA h (K v) v)->vs.map K=bV
 |_,_,.nil,_,_=>rfl
 |k::bV,v::vs,.cons q t,K,hK=>by
  rw[zv,(hK v (zt ..)).inj q,qt t K λu a=>hK u (zr _ a)]
theorem za{h:A6}:∀{vs:Y A0} {K:A0->Y AY},(∀v∈vs,rA h (K v) v)->AI (rA h) (vs.map K) vs
 |[],_,_=>.nil
 |v::vs,K,hK=>.cons (hK v (zt ..)) (za λu a=>hK u (zr _ a))
theorem G3{vs:Y A0}(f:AI (rA s.heap) bV vs)(t:∀k∈bV,∀l∈bV,Vb k l):Ah prog w A s (tuples' true) (λv=>Bi bV (BM bV vs v)) (pairsOf vs):=by
 intro E p q Q hp i h;rw[pairsOf_toList]at hp i;obtain⟨b,t1⟩:=jy f p.1 (mem_zip_self hp).2;obtain⟨m2,t2⟩:=jy f q.1 (mem_zip_self i).2;rw[xY b]at h;have m:=t _ b _ m2;obtain⟨a,o,AQ,n,e,g,c,d,k⟩:=t1;obtain⟨z,o',y,x,e',j,c',r,u⟩:=t2;rw[e,e'];exact Zi g d j r k u m h
theorem Qz{vs:Y A0}(a:AI (rA h) bV vs)(hp:xs.Perm (pairsOf vs))(f:Up (λv=>Bi bV (BM bV vs v)) xs (pairsOf vs).size):AI (rA h) (sI bV) (xs.map (·.2)).toList:=by
 have b:xs.toList.Perm (vs.zip vs):=by rw[<-pairsOf_toList];exact ai.mp hp
 have c:∀p∈xs.toList,p.1=p.2/\p.1∈vs:=λp q=>mem_zip_self (b.mem_iff.mp q);have e:(xs.map (·.2)).toList=xs.toList.map (·.1):=by
  rw[cG];exact kU λp q=>(c p q).1.symm
 have pv:(xs.toList.map (·.1)).Perm vs:=by
  have:=b.map Prod.fst;rwa [fH (zi _)]at this
 have k:sI bV=(xs.toList.map (·.1)).map (BM bV vs):=by
  refine(BX ?_ ?_).symm
  ·have:=pv.map (BM bV vs);rwa [qt a _ λv q=>(jy a v q).2]at this
  ·rw[ay];intro i j hi l m;have g:i<xs.size:=by simpa using hi
   have d:j<xs.size:=by simpa using l
   have u:=f i j (ZY m) (by rw[<-hp.size_eq];exact d);unfold at_ at u;rw[getElem?_pos xs i g,getElem?_pos xs j d]at u;have m2:=(jy a xs[j].1 (c xs[j] (by simp)).2).1;simp only[jb,JS];unfold mQ;rw[<-xY m2,zD (dE.mpr u)];rfl
 rw[k,e];refine za λv q=>(jy a v ?_).2;exact pv.mem_iff.mp q
end S1
namespace P1
open L2 S1
theorem zc{l:A1}{o:AE}{T:String}{vs:Y A0}{Q:Y A0->A2->Prop}(g:s.heap.get? l=Z o)(a:o.cls=.type T)(b:T ="list" ∨ T ="tuple")(d:o.data=.seq vs.toArray n)(i:vs.length<=AA)(h:∀h' tk,s.heap.objs.size<=h'.objs.size->(∀c o,s.heap.get? c=Z o->h'.get? c=Z o)->Q vs { s with heap:=h',toks:=tk }):A7 (A8 prog w) A (collect (.ref l)) Q E s:=by
 unfold collect;refine zb (wpAny_runValue (codeAny_builtin entry_proto_collect' ?_));show A7 _ _ (newList [] >>= λq=>again (.builtin "list.__iadd__" ⟨[q,.ref l],[]⟩)) _ _ s;refine zb (KA (zg ⟨Code.quiet_builtin _ (by decide +kernel),codeAny_builtin entry_list_iadd' ?_⟩));show A7 _ _ (Builtin.List.listExtendWith (.ref s.heap.objs.size) (.ref l) (.ref s.heap.objs.size)) _ _ _;unfold Builtin.List.listExtendWith;have g1:(s.heap.push (seqObj "list" #[] 0)).get? l=Z o:=ze _ g;refine zb (JU (T:=T) ⟨o,g1,a⟩ ?_);have f:(Value.type T==Value.type "list" || Value.type T==Value.type "tuple")=true:=by rcases b with rfl|rfl<;>decide
 rw[zh (by rw[Bool.or_assoc,f];simp)];refine zb (listItems_at g1 d (zb (listItems_at (xs:=#[]) (n:=0) (zw _ J) J ?_)));rw[zo (by simp)];have g2:(s.heap.push (seqObj "list" #[] 0)).get? s.heap.objs.size=Z (seqObj "list" #[] 0):=zw _ rfl;refine zb (listUpdate_at (xs:=#[]) (n:=0) g2 J (zg ?_) (ZO _) (by show(#[]++vs.toArray).size<=AA+1;simp only[ko,zk,de];omega));show A7 (A8 prog w) A (load s.heap.objs.size >>= _) Q E _;refine zb (wpAny_load (get?_update_seq g2 _) ?_);show A7 _ _ (pure ((#[]:Array A0)++vs.toArray).toList) Q E _;rw[show((#[]:Array A0)++vs.toArray).toList=vs by simp];refine zg (h _ s.toks ?_ λc j e=>?_)
 ·rw[fA,size_push'];exact kH _
 ·rw[ew _ _ _ _ (zS (Zl e))];exact ze _ e
def Zj:Dt->S AY
 |.int i=>Z (.inl i)
 |.str x=>Z (.inr x)
 |_=>O
def Cd:Y Dt->S (Y AY)
 |[]=>Z []
 |d::ds=>(Zj d).bind λk=>(Cd ds).bind λks=>Z (k::ks)
def Ce:Dt->S (Y AY)
 |.tup ds=>Cd ds
 |_=>O
def sJ:Y Dt->S (Y (Y AY))
 |[]=>Z []
 |d::ds=>(Ce d).bind λk=>(sJ ds).bind λks=>Z (k::ks)
def dK:AY->Dt
 |.inl i=>.int i
 |.inr x=>.str x
def BQ(ks:Y AY):Dt:=.tup (ks.map dK)
theorem Ve{k:AY}(h:Zj d=Z k):d=dK k:=by
 cases d<;>cases h<;>rfl
theorem G4:∀{ds:Y Dt} {ks:Y AY},Cd ds=Z ks->ds=ks.map dK
 |[],_,h=>by cases h;rfl
 |d::ds,_,h=>by
  obtain⟨k,e1,h⟩:=AT h;obtain⟨ks,e2,h⟩:=AT h;cases h;rw[zv,Ve e1,G4 e2]
theorem G5(h:Ce d=Z ks):d=BQ ks:=by
 cases d with
 |tup ds=>exact congrArg Dt.tup (G4 h)
 |_=>cases h
theorem qJ:∀{ds:Y Dt} {bV:Y (Y AY)},sJ ds=Z bV->ds=bV.map BQ
 |[],_,h=>by cases h;rfl
 |d::ds,_,h=>by
  obtain⟨k,e1,h⟩:=AT h;obtain⟨ks,e2,h⟩:=AT h;cases h;rw[zv,G5 e1,qJ e2]
theorem Vf{k:AY}{v:V}(h:AW K H (dK k) v):v=kV k:=by
 cases k with
 |inl i=>exact(show v=.int i by simpa only[dK,AW]using h)
 |inr x=>exact(show v=.str x/\x.length<=AA by simpa only[dK,AW]using h).1
theorem Cg{K:B5}{H:Hp}:∀{ks:Y AY} {vs:Y V},aU K H (ks.map dK) vs->vs=ks.map kV
 |[],_,h=>by simp only[QI,aU]at h;exact h
 |k::ks,_,h=>by
  simp only[zv,aU]at h;obtain⟨v,r,rfl,h1,h2⟩:=h;rw[Vf h1,Cg h2,zv]
theorem IH(X:Cx):∀{us:Y A0},AX (ks.map kV) us->Ks ks us:=by
 induction ks with
 |nil=>intro us h;cases h;exact .nil
 |cons k ks a=>
  intro us h;cases h with
  |cons r t=>exact .cons (Ku (P:=X.prog) (w:=X.w) r) (a t)
theorem xZ{AN:Y (A1×AE)}{σ:L2.St}{H:Hp}{s:A2}(I:AU X AN σ H s):∀{bV:Y (Y AY)} {vs:Y V} {AQ:Y A0},aU X.K H (bV.map BQ) vs->AX vs AQ->AI (rA s.heap) bV AQ
 |[],_,_,h,r=>by
  simp only[QI,aU]at h;subst h;cases r;exact .nil
 |k::bV,_,_,h,r=>by
  simp only[zv,aU]at h;obtain⟨v,vs,rfl,h1,h2⟩:=h;cases r with
  |cons e j=>
   refine .cons ?_ (xZ I h2 j);simp only[BQ,AW]at h1;obtain⟨a,l,rfl,i,f⟩:=h1;obtain⟨AQ,b,⟨o,g,c,n,d⟩,_⟩:=I.tuple i;cases e;rw[Cg f]at b;exact⟨a,o,AQ,n,rfl,g,c,d,IH X b⟩
theorem Ci{AN:Y (A1×AE)}{σ:L2.St}{H:Hp}{s:A2}(I:AU X AN σ H s){bV:Y (Y AY)}{vs:Y V}{AQ:Y A0}(h:aU X.K H (bV.map BQ) vs)(r:AX vs AQ):∀{c:Y (Y AY)} {out:Y A0},AI (rA s.heap) c out->(∀u∈out,u∈AQ)->∃zs,AX zs out/\aU X.K H (c.map BQ) zs
 |_,_,.nil,_=>⟨[],.nil,aU.nil⟩
 |l::c,u::out,.cons q t,hm=>by
  obtain⟨zs,z1,z2⟩:=Ci I h r t λx hx=>hm x (zr _ hx);have f:∀(bV:Y (Y AY)) (vs:Y V) (AQ:Y A0),aU X.K H (bV.map BQ) vs->AX vs AQ->u∈AQ->∃v,B0 v u/\AW X.K H (BQ l) v:=by
   intro bV
   induction bV with
   |nil=>
    intro vs AQ h r a;simp only[QI,aU]at h;subst h;cases r;cases a
   |cons k bV d=>
    intro vs AQ h r a;simp only[zv,aU]at h;obtain⟨v,vs,rfl,h1,h2⟩:=h;cases r with
    |@cons _ j _ _ b i=>
     rcases List.mem_cons.mp a with rfl|a
     ·have e:k=l:=by
       have:=xZ I (bV:=[k]) (vs:=[v]) (AQ:=[u]) (by simp only[zv,QI];exact aU.cons h1 aU.nil) (.cons b .nil);cases this with
       |cons g _=>exact g.inj q
      subst e;exact⟨v,b,h1⟩
     ·exact d vs _ h2 i a
  obtain⟨v,b,h1⟩:=f bV vs AQ h r (hm u (zt ..));exact⟨v::zs,.cons b z1,by rw[zv];exact aU.cons h1 z2⟩
def G6(k l:Y AY):Bool:=((k.zip l).all λp=>K4 p.1 p.2)
theorem zf:∀{k l:Y AY},G6 k l=true->Vb k l
 |[],_,_=>by simp[Vb]
 |_::_,[],_=>by simp[Vb]
 |x::k,y::l,h=>by
  unfold G6 at h;rw[QE,dV,Zs]at h;exact⟨h.1,zf h.2⟩
theorem yc{v:V}(h:aY K H b v)(e:qg b=Z ds):∃a vs,v=.ref a/\(rE K H a vs\/tU K H a vs)/\aU K H ds vs:=by
 cases b with
 |z d=>
  cases d<;>first|(cases e;done)|skip
  ·cases e;simp only[aY,AW]at h;obtain⟨a,vs,e,q,r⟩:=h;exact⟨a,vs,e,.inr q,r⟩
  ·cases e;simp only[aY,AW]at h;obtain⟨a,vs,e,q,r⟩:=h;exact⟨a,vs,e,.inl q.sq,r⟩
 |l c=>cases e;obtain⟨a,vs,e,q,r⟩:=h;exact⟨a,vs,e,.inl (.inl q),r⟩
 |o c=>cases e;obtain⟨a,vs,e,q,r⟩:=h;exact⟨a,vs,e,.inl (.inl (.inl q)),r⟩
 |n _=>cases e
 |m _ _=>cases e
end P1
namespace S6
def LD(xs:Array Nat):Prop:=∀i j,i<j->j<xs.size->xs.getD i 0<xs.getD j 0
def It(h:A6)(it a:A1)(first:A0)(i n ep:Nat):Prop:=∃o,h.get? it=Z o/\o.cls=.type "set_iterator" ∧ o.data=.fields #[first,.int (i:Int) 0,.ref a,.int (n:Int) 0,.int (ep:Int) 0]
section
variable{ep:Nat}{es:Array (Int×A0)}{t:SetTable}
end
end S6
namespace S6
open P1
section
variable{ep:Nat}{es:Array (Int×A0)}{t:SetTable}
end
theorem wQ{R:α->β->Prop}:∀{l a:Y β},a.Perm l->∀{ys:Y α},AI R ys l->∃b,b.Perm ys/\AI R b a:=by
 intro l a hp
 replace hp:=hp.symm
 induction hp with
 |nil=>intro ys h;exact⟨ys,.refl _,h⟩
 |cons x _ c=>intro ys h;cases h with|cons r t=>obtain⟨zs,z1,z2⟩:=c t;exact⟨_::zs,z1.cons _,.cons r z2⟩
 |swap x y l=>intro ys h;cases h with|cons r t=>cases t with|cons i j=>exact⟨_,List.Perm.swap _ _ _,.cons i (.cons r j)⟩
 |trans _ _ d g=>intro ys h;obtain⟨zs,z1,z2⟩:=d h;obtain⟨us,e,f⟩:=g z2;exact⟨us,e.trans z1,f⟩
section
variable{R:Result->A2->Prop}{I:A1}{wr:Y A1}{P:Nat->A0->Prop}{St:Nat->A2->Prop}{C:A6->Y κ->Prop}{val:Nat->κ}
end
end S6
namespace S6
open PySem
structure Tb (t:SetTable):Prop where
 mask:t.mask=7\/t.mask=31\/t.mask=127
 dum:t.dummies=#[]
 rise:LD t.place
 bd:∀j:Nat,j∈t.place->j<=t.mask
 full:t.place.size<=t.mask
def MO(a:Nat)(p:SetTable.Probe):SetTable.Probe:=
 if p.more>0 then { p with j:=p.j+1,more:=p.more-1 }else
 { p with j:=(aS a p.i p.perturb).1,more:=f6 a (aS a p.i p.perturb).1-(aS a p.i p.perturb).1,i:=(aS a p.i p.perturb).1,perturb:=(aS a p.i p.perturb).2 }
def HE(a i perturb:Nat):SetTable.Probe:={ j:=i,more:=f6 a i-i,i,perturb,dummy:=O }
def EM(a:Nat)(h:Int):Nat->SetTable.Probe
 |0=>HE a (ce h%(a+1)) (ce h)
 |n+1=>MO a (EM a h n)
def nx(M i:Nat):Nat:=(i*5+1)%M
def lp(a:Nat)(h:Int):Nat->Nat×Nat
 |0=>(ce h%(a+1),ce h)
 |l+1=>aS a (lp a h l).1 (lp a h l).2
structure Tok (t:SetTable) (es:Array (Int×Value)):Prop extends Tb t where
 size:t.place.size=es.size
 reach:∀(i j:Nat) e,t.place[i]?=some j->es[i]?=some e->∃n,n<10*SetTable.turns t.mask/\(EM t.mask e.1 n).j=j/\∀m,m<n->(EM t.mask e.1 m).j∈t.place
theorem Dv{α β:Type}{f:α->S β}{g:α->β}:∀{xs:Y α},(∀x∈xs,f x=Z (g x))->xs.filterMap f=xs.map g
 |[],_=>rfl
 |x::xs,h=>by
  rw[ei,h x (zt ..),zv,Dv λy a=>h y (zr _ a)]
end S6
namespace S6
open P1 L2
abbrev MH(prog:A3)(w:A4)(ks:Y AY):Int:=tupleKeyHash (dZ prog w) ks
def TE(prog:A3)(w:A4)(h:A6)(z:Y AY×A1)(e:Int×A0):Prop:=e=(MH prog w z.1,.ref z.2)/\IsTupleKey (dZ prog w) h z.1 z.2
end S6
namespace S1
open L2
end S1
namespace S6
end S6
namespace S1
def DU:Bool->Keyed->Array Keyed->Nat->Nat->Nat->StateT SortSt Sem (S Nat):=sortPriv% PySem.Builtin.gallop
def GE:Array Keyed->Array Keyed->StateT SortSt Sem (Array Keyed):=sortPriv% PySem.Builtin.mergeLo
def FB:Array Keyed->Array Keyed->StateT SortSt Sem (Array Keyed):=sortPriv% PySem.Builtin.mergeHi
def Au:Nat->StateT SortSt Sem Unit:=sortPriv% PySem.Builtin.setMinGallop
section
variable{b:Array Keyed}
theorem G7{p q:Keyed}{st:SortSt}{Q:S Bool->SortSt->Prop}(d:Ah prog w A s kd rk b)(hk:kindOf st=kd)(c:p∈b.toList)(a:q∈b.toList)(h:Q (Z (decide (rk p.1<rk q.1))) st):wpS (A8 prog w) A E s (lt' p q) Q st:=by
 rw[lt'_eq];refine AL (wpS_get ?_);rw[hk];exact AL (wpS_lift (KB (d _ p q _ c a ⟨rfl,wpS_pure h⟩)))
theorem uI{st:SortSt}{Q:Keyed->SortSt->Prop}{p:Keyed}(e:xs[i]?=Z p)(h:Q p st):wpS (A8 prog w) A E s (elem' xs i) Q st:=by
 rw[elem'_eq,e];exact wpS_pure h
theorem K6{lo hi:Nat}{P:Nat->Prop}[DecidablePred P]{st:SortSt}{f:Nat->S β×Nat×Nat->StateT SortSt Sem (ForInStep (S β×Nat×Nat))}{Q:S β×Nat×Nat->SortSt->Prop}(g:∀i j,i<=j->j<n->P j->P i)(r:∀x lo hi,lo<=hi->hi<=n->∀a:ForInStep (S β×Nat×Nat)->SortSt->Prop,(lo>=hi->a (.done (O,lo,hi)) st)->(lo<hi->P (lo+(hi-lo) / 2)->a (.yield (O,lo+(hi-lo) / 2+1,hi)) st)->(lo<hi->¬ P (lo+(hi-lo) / 2)->a (.yield (O,lo,lo+(hi-lo) / 2)) st)->wpS (A8 prog w) A E s (f x (O,lo,hi)) a st)(h1:lo<=hi)(h2:hi<=n)(o:∀i,i<lo->P i)(l:∀i,hi<=i->i<n->¬ P i)(h:∀k,k<=n->(∀i,i<k->P i)->(∀i,k<=i->i<n->¬ P i)->Q (O,k,k) st):wpS (A8 prog w) A E s (forIn [0:n] (O,lo,hi) f) Q st:=by
 refine wpS_forRange (I:=λx c t=>t=st/\∃lo hi,c=(O,lo,hi)/\lo<=hi/\hi<=n/\hi-lo<=n-x/\(∀i,i<lo->P i)/\∀i,hi<=i->i<n->¬ P i) ?_ ?_ ⟨rfl,lo,hi,rfl,h1,h2,by omega,o,l⟩
 ·rintro x c t _ hx ⟨rfl,lo,hi,rfl,a1,a2,m,b,d⟩;refine r x lo hi a1 a2 _ (λu=>?_) (λq p=>?_) λq p=>?_
  ·have e:hi=lo:=by omega
   subst e;exact h hi a2 b d
  ·exact⟨rfl,_,_,rfl,by omega,a2,by omega,λi v=>g i _ () () p,d⟩
  ·exact⟨rfl,_,_,rfl,by omega,by omega,by omega,b,λi q1 q2 z=>p (g _ i q1 q2 z)⟩
 ·rintro c t ⟨rfl,lo,hi,rfl,a1,a2,m,b,d⟩;have e:hi=lo:=by omega
  subst e;exact h hi a2 b d
theorem QC{left:Bool}{d:Keyed}{base a:Nat}{st:SortSt}(D:Ah prog w A s kd rk b)(hk:kindOf st=kd)(mk:d∈b.toList)(F:∀i,i<n->∃p,xs[base+i]?=Z p/\p∈b.toList)(H:a<n)(L:∀i j,i<=j->j<n->at_ rk xs (base+i)<=at_ rk xs (base+j))(h:∀k,k<=n->(∀i,i<k->if left=true then at_ rk xs (base+i)<rk d.1 else at_ rk xs (base+i)<=rk d.1)->(∀i,k<=i->i<n->if left=true then rk d.1<=at_ rk xs (base+i)else rk d.1<at_ rk xs (base+i))->Q (Z k) st):wpS (A8 prog w) A E s (DU left d xs base n a) Q st:=by
 let P:Nat->Prop:=λi=>if left=true then at_ rk xs (base+i)<rk d.1 else at_ rk xs (base+i)<=rk d.1
 have N:∀i,Decidable (P i):=λi=>by
  show Decidable (if left=true then _ else _);cases left
  ·exact Nat.decLe _ _
  ·exact Nat.decLt _ _
 have r:∀i j,i<=j->j<n->P j->P i:=λi j M G p=>by
  have:=L i j M G;cases left
  ·have p:at_ rk xs (base+j)<=rk d.1:=p;show at_ rk xs (base+i)<=rk d.1;omega
  ·have p:at_ rk xs (base+j)<rk d.1:=p;show at_ rk xs (base+i)<rk d.1;omega
 have u:∀{i:Nat} {Q:S Bool->SortSt->Prop},i<n->Q (Z (decide (P i))) st->wpS (A8 prog w) A E s (do let x <-elem' xs (base+i);if left=true then lt' x d else do let z <-lt' d x;pure (z.map (!·))) Q st:=λ{i Q} hi hq=>by
  obtain⟨p,e,m⟩:=F i hi;have ea:at_ rk xs (base+i)=rk p.1:=by unfold at_;rw[e]
  refine AL (uI e ?_);cases left
  ·rw[zo ()];refine AL (G7 D hk mk m (wpS_pure ?_));have:(Option.map (λx=>!x) (Z (decide (rk d.1<rk p.1))))=Z (decide (P i)):=by
    show Z (!decide _)=_;refine congrArg Z ?_;rw[<-decide_not];exact decide_eq_decide.mpr (by show _↔at_ rk xs (base+i)<=rk d.1;omega)
   rw[this];exact hq
  ·rw[zh rfl];refine G7 D hk m mk ?_;have:decide (rk p.1<rk d.1)=decide (P i):=decide_eq_decide.mpr (by show _↔at_ rk xs (base+i)<rk d.1;rw[ea]);rw[this];exact hq
 have C:∀k,k<=n->(∀i,i<k->P i)->(∀i,k<=i->i<n->¬ P i)->Q (Z k) st:=λk v B y=>h k v B λi q1 q2=>by
  have:=y i q1 q2;cases left
  ·have this:¬ at_ rk xs (base+i)<=rk d.1:=this;show rk d.1<at_ rk xs (base+i);omega
  ·have this:¬ at_ rk xs (base+i)<rk d.1:=this;show rk d.1<=at_ rk xs (base+i);omega
 clear h;unfold DU;refine AL (u H ?_);dsimp only;by_cases p0:P a
 ·rw[z4 p0,zh rfl];refine AL (wpS_mono (wpS_forRange (I:=λx c t=>t=st/\∃l o,c=(O,l,o)/\x+1<=o/\l<o/\a+l<n/\P (a+l)) (Q:=λc t=>t=st/\∃l o,c=(O,l,o)/\a+l+1<=a+min o (n-a)/\a+min o (n-a)<=n/\(∀i,i<a+l+1->P i)/\∀i,a+min o (n-a)<=i->i<n->¬ P i) ?_ ?_ ⟨rfl,0,1,rfl,by omega,by omega,by omega,p0⟩) ?_)
  ·rintro x c t _ hx ⟨rfl,l,o,rfl,a1,a2,q,f⟩;dsimp only;by_cases g:o>=n-a
   ·rw[zh g];exact wpS_pure ⟨rfl,l,o,rfl,by omega,by omega,λi hi=>r i _ () q f,λi q1 q2=>by omega⟩
   ·rw[zo g];refine AL (u () ?_);dsimp only;by_cases p:P (a+o)
    ·rw[z4 p,zo ()];exact wpS_pure ⟨rfl,o,2*o+1,rfl,by omega,by omega,by omega,p⟩
    ·rw[zD p,zh ()];exact wpS_pure ⟨rfl,l,o,rfl,by omega,by omega,λi hi=>r i _ () q f,λi q1 q2 z=>p (r _ i () q2 z)⟩
  ·rintro c t ⟨rfl,l,o,rfl,a1,a2,q,f⟩;exact⟨rfl,l,o,rfl,by omega,by omega,λi hi=>r i _ () q f,λi q1 q2=>by omega⟩
  rintro c t ⟨rfl,l,o,rfl,a1,a2,q,f⟩;dsimp only;refine AL (K6 r ?_ a1 a2 q f λk v B y=>wpS_pure (C k v B y));intro x lo hi b1 b2 K g1 g2 g3;dsimp only;by_cases g:lo>=hi
  ·rw[zh g];exact wpS_pure (g1 g)
  ·rw[zo g];refine AL (u () ?_);dsimp only;by_cases p:P (lo+(hi-lo) / 2)
   ·rw[z4 p,zh rfl];exact wpS_pure (g2 () p)
   ·rw[zD p,zo ()];exact wpS_pure (g3 () p)
 ·rw[zD p0,zo ()];refine AL (wpS_mono (wpS_forRange (I:=λx c t=>t=st/\∃l o,c=(O,l,o)/\x+1<=o/\l<o/\l<=a/\¬ P (a-l)) (Q:=λc t=>t=st/\∃l o,c=(O,l,o)/\a+1-min o (a+1)<=a-l/\a-l<=n/\(∀i,i<a+1-min o (a+1)->P i)/\∀i,a-l<=i->i<n->¬ P i) ?_ ?_ ⟨rfl,0,1,rfl,by omega,by omega,by omega,p0⟩) ?_)
  ·rintro x c t _ hx ⟨rfl,l,o,rfl,a1,a2,q,f⟩;dsimp only;by_cases g:o>=a+1
   ·rw[zh g];exact wpS_pure ⟨rfl,l,o,rfl,by omega,by omega,λi hi=>by omega,λi q1 q2 z=>f (r _ i q1 q2 z)⟩
   ·rw[zo g];refine AL (u () ?_);dsimp only;by_cases p:P (a-o)
    ·rw[z4 p,zh rfl];exact wpS_pure ⟨rfl,l,o,rfl,by omega,by omega,λi hi=>r i _ () () p,λi q1 q2 z=>f (r _ i q1 q2 z)⟩
    ·rw[zD p,zo ()];exact wpS_pure ⟨rfl,o,2*o+1,rfl,by omega,by omega,by omega,p⟩
  ·rintro c t ⟨rfl,l,o,rfl,a1,a2,q,f⟩;exact⟨rfl,l,o,rfl,by omega,by omega,λi hi=>by omega,λi q1 q2 z=>f (r _ i q1 q2 z)⟩
  rintro c t ⟨rfl,l,o,rfl,a1,a2,q,f⟩;dsimp only;refine AL (K6 r ?_ a1 a2 q f λk v B y=>wpS_pure (C k v B y));intro x lo hi b1 b2 K g1 g2 g3;dsimp only;by_cases g:lo>=hi
  ·rw[zh g];exact wpS_pure (g1 g)
  ·rw[zo g];refine AL (u () ?_);dsimp only;by_cases p:P (lo+(hi-lo) / 2)
   ·rw[z4 p,zh rfl];exact wpS_pure (g2 () p)
   ·rw[zD p,zo ()];exact wpS_pure (g3 () p)
end
section
variable(le:Keyed->Keyed->Prop)
structure Mg (W out xs ys:List Keyed):Prop where
 pm:(out++xs++ys).Perm W
 so:out.Pairwise le
 lo:∀x∈out,∀y∈xs++ys,le x y
 sx:xs.Pairwise le
 sy:ys.Pairwise le
variable{le}{W out xs ys:Y Keyed}
end
abbrev Sm(st t:SortSt):Prop:=kindOf t=kindOf st/\failedOf t=failedOf st/\AM t=AM st/\pendingOf t=pendingOf st
theorem QD(x:Array Keyed)(i k:Nat):(x.extract i (i+k)).toList=(x.toList.drop i).take k:=by
 rw[dL,cr,db]
theorem wR{x:Array Keyed}(h:i<x.size):at_ rk x i=rk x[i].1:=by unfold at_;rw[getElem?_pos x i h]
section
variable{b:Array Keyed}
abbrev Le(rk:A0->Nat):Keyed->Keyed->Prop:=λp q=>rk p.1<=rk q.1
abbrev Rt(rk:A0->Nat)(W:Y Keyed)(r:Array Keyed):Prop:=r.toList.Perm W/\r.toList.Pairwise (Le rk)
theorem rK{x:Array Keyed}(h:x.toList.Pairwise (Le rk))(b:i<=j)(a:j<x.size):rk x[i].1<=rk x[j].1:=by
 by_cases e:i=j
 ·subst e;exact zi _
 ·have:=ay.mp h i j (by simp;omega) (by simpa using a) ();simpa using this
section
variable{W:Y Keyed}{x y:Array Keyed}
abbrev Mo(rk:A0->Nat)(W:Y Keyed)(x y out:Array Keyed)(i j:Nat):Prop:=Mg (Le rk) W out.toList (x.toList.drop i) (y.toList.drop j)
theorem DG{g:Nat}{Q:Unit->SortSt->Prop}(h:∀t',Sm t t'->Q ⟨⟩ t'):wpS (A8 prog w) A E s (Au g) Q t:=by
 unfold Au;exact wpS_modify (h _ ⟨rfl,rfl,rfl,rfl⟩)
theorem Sm.tr{u v:SortSt}(h:Sm t u)(h':Sm u v):Sm t v:=⟨h'.1.trans h.1,h'.2.1.trans h.2.1,h'.2.2.1.trans h.2.2.1,h'.2.2.2.trans h.2.2.2⟩
theorem yd{left:Bool}{d:Keyed}{z:Array Keyed}{e:Nat}(r:Ah prog w A s kd rk b)(hk:kindOf t=kd)(mk:d∈b.toList)(m:∀p∈z.toList,p∈b.toList)(j:z.toList.Pairwise (Le rk))(u:i+n<=z.size)(l:e<n)(h:∀k,k<=n->(∀a (q:a<z.size),i<=a->a<i+k->if left=true then rk z[a].1<rk d.1 else rk z[a].1<=rk d.1)->(∀a (q:a<z.size),i+k<=a->a<i+n->if left=true then rk d.1<=rk z[a].1 else rk d.1<rk z[a].1)->Q (Z k) t):wpS (A8 prog w) A E s (DU left d z i n e) Q t:=by
 refine QC (rk:=rk) r hk mk (λa y=>⟨z[i+a]'(),getElem?_pos z _ (),m _ (by simp)⟩) l (λa c v x=>?_) λk o g f=>h k o (λa q q1 q2=>?_) λa q q1 q2=>?_
 ·rw[wR (show i+a<z.size by omega),wR (show i+c<z.size by omega)];exact rK j () _
 ·have:=g (a-i) ();rw[show i+(a-i)=a by omega,wR q]at this;exact this
 ·have:=f (a-i) () ();rw[show i+(a-i)=a by omega,wR q]at this;exact this
theorem Zk{st:SortSt}{Q:Array Keyed->SortSt->Prop}(U:Ah prog w A s kd rk b)(hk:kindOf st=kd)(mx:∀p∈x.toList,p∈b.toList)(my:∀p∈y.toList,p∈b.toList)(H:x.toList.Pairwise (Le rk))(G:y.toList.Pairwise (Le rk))(hx:0<x.size)(hy:0<y.size)
  (first:∀k (q:k<x.size),rk y[0].1<=rk x[k].1) (F:∀k (q:k<y.size) (z:x.size-1<x.size),rk y[k].1<=rk x[x.size-1].1)
  (h:∀r t,Sm st t->Rt rk (x.toList++y.toList) r->Q r t):wpS (A8 prog w) A E s (GE x y) Q st:=by
 have ex:∀{i:Nat} {t:SortSt} {Q:Keyed->SortSt->Prop} (hi:i<x.size),Q x[i] t->wpS (A8 prog w) A E s (elem' x i) Q t:=λhi N=>uI (getElem?_pos x _ hi) N;have D:∀{i:Nat} {t:SortSt} {Q:Keyed->SortSt->Prop} (hi:i<y.size),Q y[i] t->wpS (A8 prog w) A E s (elem' y i) Q t:=λhi N=>uI (getElem?_pos y _ hi) N;have a2:∀{i:Nat} (hi:i<x.size),x[i]∈b.toList:=λhi=>mx _ (by simp);have a4:∀{i:Nat} (hi:i<y.size),y[i]∈b.toList:=λhi=>my _ (by simp);have a6:∀r t,Sm st t->Rt rk (x.toList++y.toList) r->Q r t:=h;unfold GE;refine AL (wpS_lift (QQ ⟨rfl,?_⟩));dsimp only;refine AL (D hy ?_);have M0:Mo rk (x.toList++y.toList) x y #[] 0 0:=⟨by simp,by simp,λa C=>(by cases C),H,G⟩;have M1:=M0.pY hy λk q _=>first k q;rw[show(#[]:Array Keyed).push y[0]=#[y[0]] from rfl]at M1;by_cases c1:(1==y.size)=true
 ·rw[zh c1];exact wpS_pure (h _ _ ⟨rfl,rfl,rfl,rfl⟩ (M1.zj c1))
 rw[zo c1];by_cases c2:(0+1==x.size)=true
 ·rw[zh c2];exact wpS_pure (h _ _ ⟨rfl,rfl,rfl,rfl⟩ (M1.last c2 F))
 rw[zo c2];have n1:1<y.size:=by
  have:¬ 1=y.size:=by simpa using c1
  omega
 have n2:0+1<x.size:=by
  have:¬ 0+1=x.size:=by simpa using c2
  omega
 refine AL (wpS_get ?_);refine AL (wpS_mono (wpS_forRange (I:=λn c t=>Sm st t/\∃out i j g,c=(O,out,i,j,g)/\Mo rk (x.toList++y.toList) x y out i j/\i+1<x.size/\j<y.size/\n+1<=i+j) (Q:=λc t=>Sm st t/\∃r c',c=(Z r,c')/\Rt rk (x.toList++y.toList) r) ?_ ?_ ⟨⟨rfl,rfl,rfl,rfl⟩,_,0,1,_,rfl,M1,n2,n1,by omega⟩) ?_)
 ·rintro n c t _ hn ⟨S,out,i,j,g,rfl,M,hi,l,m⟩;dsimp only;refine AL (wpS_mono (wpS_forRange (I:=λn c t=>Sm st t/\∃out i' f p q,c=(O,out,i',f,p,q)/\Mo rk (x.toList++y.toList) x y out i' f/\i'+1<x.size/\f<y.size/\i+j+n<=i'+f)
   (Q:=λc t=>Sm st t/\((∃r c',c=(Z r,c')/\Rt rk (x.toList++y.toList) r)\/∃out i' f p q,c=(O,out,i',f,p,q)/\Mo rk (x.toList++y.toList) x y out i' f/\i'+1<x.size/\f<y.size/\i+j+1<=i'+f)) ?_ ?_ ⟨S,_,i,j,0,0,rfl,M,hi,l,by omega⟩) ?_)
  ·rintro n' c t _ a5 ⟨S,out,i',f,p,q,rfl,M,hi,l,B⟩;dsimp only;refine AL (D l (AL (ex (ci hi) (AL (G7 U (S.1.trans hk) (a4 l) (a2 _) ?_)))));dsimp only;by_cases c:rk y[f].1<rk x[i'].1
   ·rw[z4 c,zh rfl];refine AL (D l ?_);have v:=M.pY l λk z hk=>zl (ZY c) (rK H hk z);by_cases d:(f+1==y.size)=true
    ·rw[zh d];exact wpS_pure ⟨S,.inl ⟨_,_,rfl,v.zj d⟩⟩
    ·rw[zo d];have a3:f+1<y.size:=by
      have:¬ f+1=y.size:=by simpa using d
      omega
     split
     ·exact wpS_pure ⟨S,.inr ⟨_,_,_,_,_,rfl,v,hi,a3,by omega⟩⟩
     ·exact wpS_pure ⟨S,_,_,_,_,_,rfl,v,hi,a3,by omega⟩
   ·rw[zD c,zo ()];refine AL (ex (ci hi) ?_);have v:=M.pX (ci hi) λk z hk=>zl (cx c) (rK G hk z);by_cases d:(i'+1+1==x.size)=true
    ·rw[zh d];exact wpS_pure ⟨S,.inl ⟨_,_,rfl,v.last d F⟩⟩
    ·rw[zo d];have a1:i'+1+1<x.size:=by
      have:¬ i'+1+1=x.size:=by simpa using d
      omega
     split
     ·exact wpS_pure ⟨S,.inr ⟨_,_,_,_,_,rfl,v,a1,l,by omega⟩⟩
     ·exact wpS_pure ⟨S,_,_,_,_,_,rfl,v,a1,l,by omega⟩
  ·rintro c t ⟨S,out,i',f,p,q,rfl,M,hi,l,B⟩;exact⟨S,.inr ⟨_,_,_,_,_,rfl,M,hi,l,by omega⟩⟩
  rintro c t ⟨S,⟨r,c',rfl,R⟩|⟨out,i',f,p,q,rfl,M,hi,l,B⟩⟩
  ·exact wpS_pure ⟨S,r,_,rfl,R⟩
  dsimp only;refine AL (wpS_lift (QQ ⟨rfl,?_⟩));refine AL (wpS_mono (wpS_forRange (I:=λn c t=>Sm st t/\∃out i' f g p q,c=(O,out,i',f,g,p,q)/\Mo rk (x.toList++y.toList) x y out i' f/\i'+1<x.size/\f<y.size/\i+j+1<=i'+f)
   (Q:=λc t=>Sm st t/\((∃r c',c=(Z r,c')/\Rt rk (x.toList++y.toList) r)\/∃out i' f g p q,c=(O,out,i',f,g,p,q)/\Mo rk (x.toList++y.toList) x y out i' f/\i'+1<x.size/\f<y.size/\i+j+1<=i'+f)) ?_ ?_ ⟨S,_,i',f,_,p,q,rfl,M,hi,l,B⟩) ?_)
  ·rintro n' c t _ a5 ⟨S,out,i',f,g,p,q,rfl,M,hi,l,B⟩;dsimp only;by_cases gz:g>1
   all_goals first
    |rw[zh gz]
    |rw[zo gz]
   all_goals
    refine AL (DG λt' o=>?_)
    replace o:=Sm.tr S o
    refine AL (D l (AL (yd (rk:=rk) U (o.1.trans hk) (a4 l) mx H () () λk k1 k2 k3=>?_)));simp only[zI,qf]at k2 k3;dsimp only;by_cases kz:k>0
    case' pos=>
     rw[zh kz];have M1:=M.pXs (n:=k) λa p q1 q2 c z P=>zl (k2 a p q1 q2) (rK G P z);by_cases d:(i'+k+1==x.size)=true
     ·rw[zh d];exact wpS_pure ⟨o,.inl ⟨_,_,rfl,M1.last d F⟩⟩
     rw[zo d];by_cases e:(i'+k==x.size)=true
     ·rw[zh e];exact wpS_pure ⟨o,.inl ⟨_,_,rfl,M1.abV e⟩⟩
     rw[zo e];have a7:i'+k+1<x.size:=by
      have:¬ i'+k+1=x.size:=by simpa using d
      have:¬ i'+k=x.size:=by simpa using e
      omega
     have l1:∀a (q:a<x.size),i'+k<=a->rk y[f].1<rk x[a].1:=λa q q1=>k3 a q q1 ();have m1:i+j+1<=i'+k+f:=by omega
     generalize out++x.extract i' (i'+k)=o1 at *
     generalize i'+k=i1 at *
    case' neg=>
     rw[zo kz];have M1:=M;have a7:=hi;have m1:=B;have l1:∀a (q:a<x.size),i'<=a->rk y[f].1<rk x[a].1:=λa q q1=>k3 a q () ();generalize out=o1 at *
     generalize i'=i1 at *
    all_goals
     refine AL (D l ?_);have M2:=M1.pY l λa z C=>ZY (l1 a z C);by_cases d:(f+1==y.size)=true
     ·rw[zh d];exact wpS_pure ⟨o,.inl ⟨_,_,rfl,M2.zj d⟩⟩
     rw[zo d];have a8:f+1<y.size:=by
      have:¬ f+1=y.size:=by simpa using d
      omega
     have K:i1<x.size:=by omega
     refine AL (ex K (AL (yd (rk:=rk) U (o.1.trans hk) (a2 K) my G () () λu u1 u2 u3=>?_)));simp only[QA]at u2 u3;dsimp only;by_cases uz:u>0
     case' pos=>
      rw[zh uz];have L:=M2.pYs (n:=u) λa p q1 q2 c z P=>zl (ZY (u2 a p q1 q2)) (rK H P z);by_cases d:(f+1+u==y.size)=true
      ·rw[zh d];exact wpS_pure ⟨o,.inl ⟨_,_,rfl,L.zj d⟩⟩
      rw[zo d];have W:f+1+u<y.size:=by
       have:¬ f+1+u=y.size:=by simpa using d
       omega
      have l3:∀a (q:a<y.size),f+1+u<=a->rk x[i1].1<=rk y[a].1:=λa q q1=>u3 a q q1 ();have m3:i+j+1<=i1+(f+1+u):=by omega
      generalize o1.push y[f]++y.extract (f+1) (f+1+u)=o3 at *
      generalize f+1+u=j3 at *
     case' neg=>
      rw[zo uz];have L:=M2;have W:=a8;have l3:∀a (q:a<y.size),f+1<=a->rk x[i1].1<=rk y[a].1:=λa q q1=>u3 a q () ();have m3:i+j+1<=i1+(f+1):=by omega
      generalize o1.push y[f]=o3 at *
      generalize f+1=j3 at *
     all_goals
      refine AL (ex K ?_);have X:=L.pX K λa z C=>l3 a z C;by_cases d:(i1+1+1==x.size)=true
      ·rw[zh d];exact wpS_pure ⟨o,.inl ⟨_,_,rfl,X.last d F⟩⟩
      rw[zo d];have a0:i1+1+1<x.size:=by
       have:¬ i1+1+1=x.size:=by simpa using d
       omega
      split
      ·exact wpS_pure ⟨o,.inr ⟨_,_,_,_,_,_,rfl,X,a0,W,by omega⟩⟩
      ·exact wpS_pure ⟨o,_,_,_,_,_,_,rfl,X,a0,W,by omega⟩
  ·rintro c t z;exact⟨z.1,.inr z.2⟩
  rintro c t ⟨S,⟨r,c',rfl,R⟩|⟨out,i',f,g,p,q,rfl,M,hi,l,B⟩⟩
  ·exact wpS_pure ⟨S,r,_,rfl,R⟩
  dsimp only;refine AL (wpS_modify (wpS_pure ⟨S,_,_,_,_,rfl,M,hi,l,by omega⟩))
 ·rintro c t ⟨S,out,i,j,g,rfl,M,hi,l,m⟩;omega
 ·rintro c t ⟨S,r,c',rfl,R⟩;exact wpS_pure (a6 r t S R)
end
end
theorem Vg(x:Array Keyed){a:Nat}(h:a<=i):(x.extract a i).toList=(x.toList.take i).drop a:=by
 rw[dL,cr,List.drop_take]
section
variable{b:Array Keyed}
abbrev Ge(rk:A0->Nat):Keyed->Keyed->Prop:=λp q=>rk q.1<=rk p.1
variable{W:Y Keyed}{x y:Array Keyed}
abbrev Mp(rk:A0->Nat)(W:Y Keyed)(x y out:Array Keyed)(i j:Nat):Prop:=Mg (Ge rk) W out.toList (x.toList.take i).reverse (y.toList.take j).reverse
theorem Zm{st:SortSt}{Q:Array Keyed->SortSt->Prop}(hC:Ah prog w A s kd rk b)(hk:kindOf st=kd)(mx:∀p∈x.toList,p∈b.toList)(my:∀p∈y.toList,p∈b.toList)(X:x.toList.Pairwise (Le rk))(W:y.toList.Pairwise (Le rk))(hx:0<x.size)(hy:0<y.size)
  (first:∀k (q:k<x.size) (z:0<y.size),rk y[0].1<=rk x[k].1) (a7:∀k (q:k<y.size) (z:x.size-1<x.size),rk y[k].1<=rk x[x.size-1].1)
  (h:∀r t,Sm st t->Rt rk (x.toList++y.toList) r->Q r t):wpS (A8 prog w) A E s (FB x y) Q st:=by
 have ex:∀{i:Nat} {t:SortSt} {Q:Keyed->SortSt->Prop} (hi:i<x.size),Q x[i] t->wpS (A8 prog w) A E s (elem' x i) Q t:=λhi hq=>uI (getElem?_pos x _ hi) hq;have ey:∀{i:Nat} {t:SortSt} {Q:Keyed->SortSt->Prop} (hi:i<y.size),Q y[i] t->wpS (A8 prog w) A E s (elem' y i) Q t:=λhi hq=>uI (getElem?_pos y _ hi) hq;have a4:∀{i:Nat} (hi:i<x.size),x[i]∈b.toList:=λhi=>mx _ (by simp);have a6:∀{i:Nat} (hi:i<y.size),y[i]∈b.toList:=λhi=>my _ (by simp);unfold FB;refine AL (wpS_lift (QQ ⟨rfl,?_⟩));dsimp only;have a1:x.size-1<x.size:=by omega
 refine AL (ex a1 ?_);have M0:Mp rk (x.toList++y.toList) x y #[] x.size y.size:=⟨by
  rw[ZU (by simp),ZU (by simp)];exact(ck _).append (ck _),by simp,λa L=>(by cases L),by rw[ZU (by simp)];exact dy.mpr X,by rw[ZU (by simp)];exact dy.mpr W⟩
 have M1:=M0.pX hx a1 λk q _=>a7 k q a1;rw[show(#[]:Array Keyed).push x[x.size-1]=#[x[x.size-1]] from rfl]at M1;by_cases c1:(x.size-1==0)=true
 ·rw[zh c1];exact wpS_pure (h _ _ ⟨rfl,rfl,rfl,rfl⟩ (M1.zj c1))
 rw[zo c1];by_cases c2:(y.size==1)=true
 ·rw[zh c2];exact wpS_pure (h _ _ ⟨rfl,rfl,rfl,rfl⟩ (M1.first c2 first))
 rw[zo c2];have n1:0<x.size-1:=by
  have:¬ x.size-1=0:=by simpa using c1
  omega
 have n2:1<y.size:=by
  have:¬ y.size=1:=by simpa using c2
  omega
 refine AL (wpS_get ?_);refine AL (wpS_mono (wpS_forRange (I:=λn c t=>Sm st t/\∃out i j g,c=(O,i,j,out,g)/\Mp rk (x.toList++y.toList) x y out i j/\0<i/\i<=x.size/\1<j/\j<=y.size/\i+j+n+1<=x.size+y.size) (Q:=λc t=>Sm st t/\∃r c',c=(Z r,c')/\Rt rk (x.toList++y.toList) r) ?_ ?_ ?_) ?_)
 ·rintro n c t _ hn ⟨S,out,i,j,g,rfl,M,hi,o,v,B,m⟩;dsimp only;refine AL (wpS_mono (wpS_forRange (I:=λn c t=>Sm st t/\∃out i' f p q,c=(O,i',f,out,p,q)/\Mp rk (x.toList++y.toList) x y out i' f/\0<i'/\i'<=x.size/\1<f/\f<=y.size/\i'+f+n<=i+j)
   (Q:=λc t=>Sm st t/\((∃r c',c=(Z r,c')/\Rt rk (x.toList++y.toList) r)\/∃out i' f p q,c=(O,i',f,out,p,q)/\Mp rk (x.toList++y.toList) x y out i' f/\0<i'/\i'<=x.size/\1<f/\f<=y.size/\i'+f+1<=i+j)) ?_ ?_ ⟨S,_,i,j,0,0,rfl,M,hi,o,v,B,by omega⟩) ?_)
  ·rintro n' c t _ a8 ⟨S,out,i',f,p,q,rfl,M,hi,o,v,B,H⟩;dsimp only;have C:i'-1<x.size:=by omega
   have D:f-1<y.size:=by omega
   refine AL (ey D (AL (ex C (AL (G7 hC (S.1.trans hk) (a6 D) (a4 C) ?_)))));dsimp only;by_cases c:rk y[f-1].1<rk x[i'-1].1
   ·rw[z4 c,zh rfl];refine AL (ex C ?_);have F:=M.pX hi C λk z hk=>zl (rK W (show k<=f-1 by omega) D) (ZY c);by_cases d:(i'-1==0)=true
    ·rw[zh d];exact wpS_pure ⟨S,.inl ⟨_,_,rfl,F.zj d⟩⟩
    ·rw[zo d];have a3:0<i'-1:=by
      have:¬ i'-1=0:=by simpa using d
      omega
     split
     ·exact wpS_pure ⟨S,.inr ⟨_,_,_,_,_,rfl,F,a3,by omega,v,B,by omega⟩⟩
     ·exact wpS_pure ⟨S,_,_,_,_,_,rfl,F,a3,by omega,v,B,by omega⟩
   ·rw[zD c,zo ()];refine AL (ey D ?_);have F:=M.pY () D λk z hk=>zl (rK X (show k<=i'-1 by omega) C) (cx c);by_cases d:(f-1==1)=true
    ·rw[zh d];exact wpS_pure ⟨S,.inl ⟨_,_,rfl,F.first d first⟩⟩
    ·rw[zo d];have a5:1<f-1:=by
      have:¬ f-1=1:=by simpa using d
      omega
     split
     ·exact wpS_pure ⟨S,.inr ⟨_,_,_,_,_,rfl,F,hi,o,a5,by omega,by omega⟩⟩
     ·exact wpS_pure ⟨S,_,_,_,_,_,rfl,F,hi,o,a5,by omega,by omega⟩
  ·rintro c t ⟨S,out,i',f,p,q,rfl,M,hi,o,v,B,H⟩;exact⟨S,.inr ⟨_,_,_,_,_,rfl,M,hi,o,v,B,by omega⟩⟩
  rintro c t ⟨S,⟨r,c',rfl,R⟩|⟨out,i',f,p,q,rfl,M,hi,o,v,B,H⟩⟩
  ·exact wpS_pure ⟨S,r,_,rfl,R⟩
  dsimp only;refine AL (wpS_lift (QQ ⟨rfl,?_⟩));refine AL (wpS_mono (wpS_forRange (I:=λn c t=>Sm st t/\∃out i' f g p q,c=(O,i',f,out,g,p,q)/\Mp rk (x.toList++y.toList) x y out i' f/\0<i'/\i'<=x.size/\1<f/\f<=y.size/\i'+f+1<=i+j)
   (Q:=λc t=>Sm st t/\((∃r c',c=(Z r,c')/\Rt rk (x.toList++y.toList) r)\/∃out i' f g p q,c=(O,i',f,out,g,p,q)/\Mp rk (x.toList++y.toList) x y out i' f/\0<i'/\i'<=x.size/\1<f/\f<=y.size/\i'+f+1<=i+j)) ?_ ?_ ⟨S,_,i',f,_,p,q,rfl,M,hi,o,v,B,H⟩) ?_)
  ·rintro n' c t _ a8 ⟨S,out,i',f,g,p,q,rfl,M,hi,o,v,B,H⟩;dsimp only;by_cases gz:g>1
   all_goals first
    |rw[zh gz]
    |rw[zo gz]
   all_goals
    refine AL (DG λt' l=>?_)
    replace l:=Sm.tr S l
    have D:f-1<y.size:=by omega
    refine AL (ey D (AL (yd (rk:=rk) hC (l.1.trans hk) (a6 D) mx X () () λk k1 k2 k3=>?_)));simp only[zI,qf,JY]at k2 k3;dsimp only;by_cases kz:i'-k>0
    case' pos=>
     rw[zh kz];have M1:=M.pXs (a:=k) k1 λc p q1 q2 e z he=>zl (rK W (show e<=f-1 by omega) D) (ZY (k3 c p q1 q2));by_cases d:(k==0)=true
     ·rw[zh d];exact wpS_pure ⟨l,.inl ⟨_,_,rfl,M1.zj d⟩⟩
     rw[zo d];have P:0<k:=by
      have:¬ k=0:=by simpa using d
      omega
     have a0:k<=x.size:=by omega
     have l1:∀a (q:a<x.size),a<k->rk x[a].1<=rk y[f-1].1:=λa q q1=>k2 a q (ZO _) q1;have m1:k+f+1<=i+j:=by omega
     generalize out++(x.extract k i').reverse=o1 at *
     generalize k=i1 at P a0 l1 m1 M1 ⊢
    case' neg=>
     rw[zo kz];have M1:=M;have P:=hi;have a0:=o;have m1:=H;have l1:∀a (q:a<x.size),a<i'->rk x[a].1<=rk y[f-1].1:=λa q q1=>k2 a q (ZO _) ();generalize out=o1 at *
     generalize i'=i1 at P a0 l1 m1 M1 ⊢
    all_goals
     refine AL (ey D ?_);have M2:=M1.pY () D λa z L=>l1 a z L;by_cases d:(f-1==1)=true
     ·rw[zh d];exact wpS_pure ⟨l,.inl ⟨_,_,rfl,M2.first d first⟩⟩
     rw[zo d];have a9:1<f-1:=by
      have:¬ f-1=1:=by simpa using d
      omega
     have C:i1-1<x.size:=by omega
     refine AL (ex C (AL (yd (rk:=rk) hC (l.1.trans hk) (a4 C) my W () () λu u1 u2 u3=>?_)));simp only[QA,JY]at u2 u3;dsimp only;by_cases uz:f-1-u>0
     case' pos=>
      rw[zh uz];have G:=M2.pYs (a:=u) u1 λc p q1 q2 e z he=>zl (rK X (show e<=i1-1 by omega) C) (u3 c p q1 q2);by_cases d:(u==1)=true
      ·rw[zh d];exact wpS_pure ⟨l,.inl ⟨_,_,rfl,G.first d first⟩⟩
      rw[zo d];by_cases e:(u==0)=true
      ·rw[zh e];exact wpS_pure ⟨l,.inl ⟨_,_,rfl,G.abV e⟩⟩
      rw[zo e];have N:1<u:=by
       have:¬ u=1:=by simpa using d
       have:¬ u=0:=by simpa using e
       omega
      have K:u<=y.size:=by omega
      have U:∀a (q:a<y.size),a<u->rk y[a].1<=rk x[i1-1].1:=λa q q1=>ZY (u2 a q (ZO _) q1);have m3:i1+u+1<=i+j:=by omega
      generalize o1.push y[f-1]++(y.extract u (f-1)).reverse=o3 at *
      generalize u=j3 at N K U m3 G ⊢
     case' neg=>
      rw[zo uz];have G:=M2;have N:=a9;have K:f-1<=y.size:=by omega
      have U:∀a (q:a<y.size),a<f-1->rk y[a].1<=rk x[i1-1].1:=λa q q1=>ZY (u2 a q (ZO _) ());have m3:i1+(f-1)+1<=i+j:=by omega
      generalize o1.push y[f-1]=o3 at *
      generalize f-1=j3 at N K U m3 G ⊢
     all_goals
      refine AL (ex C ?_);have M4:=G.pX P C λa z L=>U a z L;by_cases d:(i1-1==0)=true
      ·rw[zh d];exact wpS_pure ⟨l,.inl ⟨_,_,rfl,M4.zj d⟩⟩
      rw[zo d];have a2:0<i1-1:=by
       have:¬ i1-1=0:=by simpa using d
       omega
      split
      ·exact wpS_pure ⟨l,.inr ⟨_,_,_,_,_,_,rfl,M4,a2,by omega,N,K,by omega⟩⟩
      ·exact wpS_pure ⟨l,_,_,_,_,_,_,rfl,M4,a2,by omega,N,K,by omega⟩
  ·rintro c t z;exact⟨z.1,.inr z.2⟩
  rintro c t ⟨S,⟨r,c',rfl,R⟩|⟨out,i',f,g,p,q,rfl,M,hi,o,v,B,H⟩⟩
  ·exact wpS_pure ⟨S,r,_,rfl,R⟩
  dsimp only;refine AL (DG λt' l=>wpS_pure ⟨Sm.tr S l,_,_,_,_,rfl,M,hi,o,v,B,by omega⟩)
 ·rintro c t ⟨S,out,i,j,g,rfl,M,hi,o,v,B,m⟩;omega
 ·exact⟨⟨rfl,rfl,rfl,rfl⟩,_,x.size-1,y.size,_,rfl,M1,n1,by omega,n2,zi _,by omega⟩
 ·rintro c t ⟨S,r,c',rfl,R⟩;exact wpS_pure (h r t S R)
end
def EL:Nat->StateT SortSt Sem Bool:=sortPriv% PySem.Builtin.mergeAt
theorem G8{f:Array Keyed->Keyed×Nat->Array Keyed}{c:Nat}(d:∀a p j,f a (p,j)=a.setIfInBounds (c+j) p):∀(M:Y Keyed) (a:Array Keyed) (b:Nat) (U Z V:Y Keyed),a.toList=U++Z++V->U.length=c+b->Z.length=M.length->((M.zipIdx b).foldl f a).toList=U++M++V
 |[],a,b,U,Z,V,e,_,h=>by
  have:Z=[]:=QN h;subst this;exact e
 |p::M,a,b,U,[],V,_,_,h=>by cases h
 |p::M,a,b,U,z::Z,V,e,hu,h=>by
  rw[fE,jS,d];have:=G8 d M (a.setIfInBounds (c+b) p) (b+1) (U++[p]) Z V (by
   rw[Array.toList_setIfInBounds,e,<-hu,qa,List.set_append_right _ _ (zi _),Nat.sub_self];simp) (by rw[zC,hu];rfl) (by simpa using h)
  rw[this];simp
section
variable{b:Array Keyed}
theorem DK{g:Y Keyed}{V:Y Keyed}{a:Array Keyed}(e:a.toList=U++g++V)(hi:i<g.length):a[U.length+i]?=Z g[i]:=by
 rw[<-ky,e,qa,QY (),db,qh hi,z5 hi]
theorem DN{g:Y Keyed}{V:Y Keyed}{a:Array Keyed}(e:a.toList=U++g++V)(hi:i<g.length):at_ rk a (U.length+i)=rk g[i].1:=by unfold at_;rw[DK e hi]
theorem QF{g:Y Keyed}(h:g.Pairwise (Le rk))(b:i<=j)(a:j<g.length):rk g[i].1<=rk g[j].1:=by
 by_cases e:i=j
 ·subst e;exact zi _
 ·exact ay.mp h i j () a ()
theorem K7{left:Bool}{c:Keyed}{a:Array Keyed}{g V:Y Keyed}{base f:Nat}(z:Ah prog w A s kd rk b)(hk:kindOf t=kd)(mk:c∈b.toList)(r:∀p∈g,p∈b.toList)(e:a.toList=U++g++V)(u:base=U.length)(o:n=g.length)(y:g.Pairwise (Le rk))(q:f<n)(h:∀k,k<=g.length->(∀p∈g.take k,if left=true then rk p.1<rk c.1 else rk p.1<=rk c.1)->(∀p∈g.drop k,if left=true then rk c.1<=rk p.1 else rk c.1<rk p.1)->Q (Z k) t):wpS (A8 prog w) A E s (DU left c a base n f) Q t:=by
 subst u o;refine QC (rk:=rk) z hk mk (λi hi=>⟨g[i],DK e hi,r _ (by simp)⟩) q (λi j x d=>?_) λk v m l=>h k v (λp hp=>?_) λp hp=>?_
 ·rw[DN e (show i<g.length by omega),DN e d];exact QF y x d
 ·obtain⟨i,hi,rfl⟩:=Q4 hp;rw[qo]at hi;rw[Kt];have:=m i ();rw[DN e (show i<g.length by omega)]at this;exact this
 ·obtain⟨i,hi,rfl⟩:=Q4 hp;rw[kb]at hi;rw[Kx];have:=l (k+i) () ();rw[DN e (show k+i<g.length by omega)]at this;exact this
theorem Vh{σ:Type}{t t':σ}{Q:PUnit->σ->Prop}(h:Q ⟨⟩ t'):wpS M A E s (set t':StateT σ Sem PUnit) Q t:=by
 unfold wpS;rw[StateT.run_set];exact zg ⟨rfl,h⟩
theorem Zn{st:SortSt}{o B p l K q:Nat}{Q:Bool->SortSt->Prop}{g g' V:Y Keyed}(L:Ah prog w A s kd rk b)(hk:kindOf st=kd)(N:failedOf st=O)(hm:∀z∈(AM st).toList,z∈b.toList)(e:(AM st).toList=U++(g++g')++V)(p1:(pendingOf st)[i]?=Z (o,B,p))(p2:(pendingOf st)[i+1]?=Z (l,K,q))(ea:o=U.length)(en:B=g.length)(eb:l=o+B)(em:K=g'.length)(hg:g≠[])(a4:g'≠[])(D:g.Pairwise (Le rk))(F:g'.Pairwise (Le rk))(h:∀t m,kindOf t=kd->failedOf t=O->pendingOf t=((pendingOf st).setIfInBounds i (o,B+K,p)).eraseIdxIfInBounds (i+1)->m.Perm (g++g')->m.Pairwise (Le rk)->(AM t).toList=U++m++V->Q true t):wpS (A8 prog w) A E s (EL i) Q st:=by
 have hx:0<g.length:=aT.mpr hg;have v:0<g'.length:=aT.mpr a4;have e1:(AM st).toList=U++g++(g'++V):=by rw[e];simp
 have e2:(AM st).toList=(U++g)++g'++V:=by rw[e];simp
 have P:l=(U++g).length:=by rw[zC,eb,ea,en]
 have mg:∀z∈g,z∈b.toList:=λz C=>hm z (by rw[e];simp[C]);have X:∀z∈g',z∈b.toList:=λz C=>hm z (by rw[e];simp[C]);have g0:∀z∈g',rk g'[0].1<=rk z.1:=λz C=>by
  obtain⟨j,hj,rfl⟩:=Q4 C;exact QF F (ZO _) hj
 have gl:∀z∈g,rk z.1<=rk (g[g.length-1]'()).1:=λz C=>by
  obtain⟨j,hj,rfl⟩:=Q4 C;exact QF D () ()
 unfold EL;refine AL (wpS_get ?_);rw[p1,p2];dsimp only;refine AL (Vh ?_);refine AL (uI (p:=g'[0]) (by rw[P];exact DK e2 v) ?_);refine AL (K7 (rk:=rk) L hk (X _ (by simp)) mg e1 ea en D () λk k1 M k3=>?_);simp only[zI,qf]at M k3;dsimp only;by_cases c:(B-k==0)=true
 ·rw[zh c];have c:B-k=0:=by simpa using c
  rw[ZU ()]at M;exact wpS_pure (h _ (g++g') hk N J (Kb _) (av.mpr ⟨D,F,λx hx y v=>zl (M x hx) (g0 y v)⟩) e)
 rw[zo c];have c:¬ B-k=0:=by simpa using c
 have ix:o+k+(B-k)-1=U.length+(g.length-1):=by omega
 rw[ix];refine AL (uI (DK e1 (show g.length-1<g.length by omega)) ?_);refine AL (K7 (rk:=rk) L hk (mg _ (by simp)) X e2 P em F () λn n1 n2 W=>?_);simp only[QA]at n2 W;dsimp only;by_cases d:(n==0)=true
 ·rw[zh d];have d:n=0:=by simpa using d
  subst d;exact wpS_pure (h _ (g++g') hk N J (Kb _) (av.mpr ⟨D,F,λx hx y v=>zl (gl x hx) (W y v)⟩) e)
 rw[zo d];have d:¬ n=0:=by simpa using d
 have ex:((AM st).extract (o+k) l).toList=g.drop k:=by
  rw[Vg _ (),e2,qa,bq (),ZU (),ea,<-List.drop_drop,List.drop_left]
 have G:((AM st).extract l (l+n)).toList=g'.take n:=by
  rw[QD,e2,P,qa,List.drop_left,bq n1]
 have zx:((AM st).extract (o+k) l).size=g.length-k:=by rw[<-ZA,ex,kb]
 have zy:((AM st).extract l (l+n)).size=n:=by rw[<-ZA,G,qo];omega
 have gx:∀{j:Nat} (q:j<((AM st).extract (o+k) l).size),((AM st).extract (o+k) l)[j]=g[k+j]'():=λ{j} q=>by
  rw[<-JS];simp only[ex,Kx]
 have gy:∀{j:Nat} (q:j<((AM st).extract l (l+n)).size),((AM st).extract l (l+n))[j]=g'[j]'():=λ{j} q=>by
  rw[<-JS];simp only[G,Kt]
 have first:∀j (q:j<((AM st).extract (o+k) l).size) (z:0<((AM st).extract l (l+n)).size),rk ((AM st).extract l (l+n))[0].1<=rk ((AM st).extract (o+k) l)[j].1:=λj q z=>by
  have m:((AM st).extract (o+k) l)[j]∈g.drop k:=by rw[<-ex];exact dP.mpr (eU _)
  rw[gy];exact ZY (k3 _ m)
 have a0:∀j (q:j<((AM st).extract l (l+n)).size) (z:((AM st).extract (o+k) l).size-1<((AM st).extract (o+k) l).size),rk ((AM st).extract l (l+n))[j].1<=rk (((AM st).extract (o+k) l)[((AM st).extract (o+k) l).size-1]).1:=λj q z=>by
  have m:((AM st).extract l (l+n))[j]∈g'.take n:=by rw[<-G];exact dP.mpr (eU _)
  rw[gx];have:k+(((AM st).extract (o+k) l).size-1)=g.length-1:=by omega
  simp only[this];exact ZY (n2 _ m)
 have mx:∀p∈((AM st).extract (o+k) l).toList,p∈b.toList:=λp hp=>mg p (by rw[ex]at hp;exact bo hp);have my:∀p∈((AM st).extract l (l+n)).toList,p∈b.toList:=λp hp=>X p (by rw[G]at hp;exact dQ hp);have sx:((AM st).extract (o+k) l).toList.Pairwise (Le rk):=by rw[ex];exact D.sublist (eW _ _)
 have sy:((AM st).extract l (l+n)).toList.Pairwise (Le rk):=by rw[G];exact F.sublist (Kn _ _)
 have a1:∀(t:SortSt) (r:Array Keyed) (u:SortSt),Sm t u->kindOf t=kd->failedOf t=O->AM t=AM st->pendingOf t=((pendingOf st).setIfInBounds i (o,B+K,p)).eraseIdxIfInBounds (i+1)->Rt rk (((AM st).extract (o+k) l).toList++((AM st).extract l (l+n)).toList) r →
   ∀(f:Array Keyed->Keyed×Nat->Array Keyed),(∀a p j,f a (p,j)=a.setIfInBounds (o+k+j) p)->Q (failedOf u).isNone (SortSt.mk' (kindOf u) (r.toList.zipIdx.foldl f (AM u)) (pendingOf u) (gallopOf u) (failedOf u)):=λt r u S tk tf ta tp R f a3=>by
  rw[S.2.1,tf];rw[ex,G]at R;have hr:r.toList.length=(g.drop k++g'.take n).length:=R.1.length_eq;have fs:=G8 a3 r.toList (AM u) 0 (U++g.take k) (g.drop k++g'.take n) (g'.drop n++V) (by
   rw[S.2.2.1,ta,e]
   conv=>lhs;rw[<-qr k g,<-qr n g']
   simp only[qa]) (by rw[zC,qo];omega) hr.symm
  refine h _ (g.take k++r.toList++g'.drop n) (S.1.trans tk) J (S.2.2.2.trans tp) ?_ ?_ ?_
  ·refine(((R.1.append_left _).append_right _).trans (List.Perm.of_eq ?_))
   conv=>rhs;rw[<-qr k g,<-qr n g']
   simp only[qa]
  ·have H:=D;have I:=F;rw[<-qr k g]at H;rw[<-qr n g']at I;have H:=av.mp H;have I:=av.mp I;have a2:∀x∈g.take k,∀y∈g',Le rk x y:=λx hx y v=>zl (M x hx) (g0 y v);have a5:∀x∈g,∀y∈g'.drop n,Le rk x y:=λx hx y v=>zl (gl x hx) (W y v);refine av.mpr ⟨av.mpr ⟨H.1,R.2,λx hx y v=>?_⟩,I.2.1,λx hx y v=>?_⟩
   ·rcases az.mp (R.1.mem_iff.mp v)with q|q
    ·exact H.2.2 x hx y q
    ·exact a2 x hx y (dQ q)
   ·rcases az.mp hx with q|q
    ·exact a2 x q y (bo v)
    ·rcases az.mp (R.1.mem_iff.mp q)with q|q
     ·exact a5 x (bo q) y v
     ·exact I.2.2 x q y v
  ·show(r.toList.zipIdx.foldl f (AM u)).toList=_;rw[fs];simp
 have px:0<((AM st).extract (o+k) l).size:=by omega
 have py:0<((AM st).extract l (l+n)).size:=by omega
 split
 ·exact AL (Zk (rk:=rk) L hk mx my sx sy px py (λj q=>first j q py) a0 λr u S R=>AL (wpS_modify (AL (wpS_get (wpS_pure (a1 _ r u S hk N J J R _ λ_ _ _=>J))))))
 ·exact AL (Zm (rk:=rk) L hk mx my sx sy px py first a0 λr u S R=>AL (wpS_modify (AL (wpS_get (wpS_pure (a1 _ r u S hk N J J R _ λ_ _ _=>J))))))
end
section
variable(rk:A0->Nat)(lo:Nat)
abbrev al(xs:Array Keyed)(i:Nat):Nat:=at_ rk xs (lo+i)
def Tn(xs:Array Keyed)(k:Nat):Prop:=∀i j,i<=j->j<k->al rk lo xs i<=al rk lo xs j
def Zo(xs:Array Keyed)(k:Nat):Prop:=∀i j,i<=j->j<k->al rk lo xs j<=al rk lo xs i
structure Bo (b:Array Keyed) (u st:SortSt):Prop where
 pm:(arrOf st).Perm b
 kd:kindOf st=kindOf u
 fl:failedOf st=failedOf u
 pd:pendingOf st=pendingOf u
 ot:∀k,k<lo->(arrOf st)[k]?=(arrOf u)[k]?
end
section
variable{b:Array Keyed}{lo:Nat}{u:SortSt}
theorem K8{Q:S Bool->SortSt->Prop}(f:Ah prog w A s (kindOf u) rk b)(B:Bo lo b u t)(hi:i<b.size)(e:j<b.size)(h:Q (Z (decide (at_ rk (AM t) i<at_ rk (AM t) j))) t):wpS (A8 prog w) A E s (ltAt' i j) Q t:=by
 have a:∀k,k<b.size->∃p,(AM t)[k]?=Z p/\p∈b.toList:=λk hk=>by
  have d:k<(AM t).size:=by rw[B.sz];exact hk
  exact⟨(AM t)[k],getElem?_pos _ k d,(ai.mp B.pm).mem_iff.mp (by simp)⟩
 obtain⟨p,e1,c⟩:=a i hi;obtain⟨q,e2,m2⟩:=a j e;have h:Q (Z (decide (rk p.1<rk q.1))) t:=by unfold at_ at h;rw[e1,e2]at h;exact h
 rw[ltAt'_eq];exact AL (wpS_get (AL (uI e1 (AL (uI e2 (G7 f B.kd c m2 h))))))
theorem GM{f:Nat->S β×Nat->StateT SortSt Sem (ForInStep (S β×Nat))}{a:Nat}{Q:S β×Nat->SortSt->Prop}(o:∀x m,∀d:ForInStep (S β×Nat)->SortSt->Prop,1<=m->m<n->(al rk lo (AM t) m<al rk lo (AM t) (m-1)->d (.done (O,m)) t)->(¬ al rk lo (AM t) m<al rk lo (AM t) (m-1)->d (.yield (O,m+1)) t)->wpS (A8 prog w) A E s (f x (O,m)) d t)(v:1<=a)(r:a<=n)(b:Tn rk lo (AM t) a)(h:∀m,a<=m->m<=n->Tn rk lo (AM t) m->(m=n\/al rk lo (AM t) m<al rk lo (AM t) (m-1))->Q (O,m) t):wpS (A8 prog w) A E s (forIn [a:n] (O,a) f) Q t:=by
 refine wpS_forRange (I:=λx c g=>g=t/\c=(O,x)/\Tn rk lo (AM t) x) ?_ ?_ ⟨rfl,rfl,b⟩
 ·rintro x c g l k ⟨rfl,rfl,b⟩;refine o x x _ () k (λq=>h x l () b (.inr q)) λq=>⟨rfl,rfl,λi j p u=>?_⟩;by_cases hx:j<x
  ·exact b i j p hx
  ·have e:j=x:=by omega
   subst e;by_cases hi:i=j
   ·rw[hi];exact zi _
   ·have:=b i (j-1) () ();omega
 ·rintro c g ⟨rfl,rfl,b⟩;rw[show max a n=n by omega]at b ⊢;exact h n r (zi _) b (.inl J)
theorem QG(a:lo+j<=xs.size)(k:Nat):al rk lo (mirror xs (lo+i) (lo+j) ((lo+j-(lo+i)) / 2)) k=if i<=k/\k<j then al rk lo xs (i+j-1-k)else al rk lo xs k:=by
 unfold al;rw[Jw a];by_cases q:i<=k/\k<j
 ·rw[zh q,zh ⟨by omega,by omega⟩];congr 1;omega
 ·rw[zo q,zo ()]
theorem DP(b:lo+j<=xs.size)(a:∀k,i<=k->k<j->al rk lo xs k=al rk lo xs (j-1))(k:Nat):al rk lo (mirror xs (lo+i) (lo+j) ((lo+j-(lo+i)) / 2)) k=al rk lo xs k:=by
 rw[QG b];by_cases q:i<=k/\k<j
 ·rw[zh q,a (i+j-1-k) () (),a k q.1 q.2]
 ·rw[zo q]
theorem grow{ys:Array Keyed}{x:Nat}(dn:Zo rk lo xs x)(hk:∀k,al rk lo ys k=al rk lo xs k)(b:1<=x->al rk lo xs x<=al rk lo xs (x-1)):Zo rk lo ys (x+1):=λi j c d=>by
 rw[hk,hk];by_cases hx:j<x
 ·exact dn i j c hx
 ·have a:j=x:=by omega
  subst a;by_cases hi:i=j
  ·rw[hi];exact zi _
  ·have:=dn i (j-1) () ();have:=b ();omega
theorem Hm(K:Ah prog w A s (kindOf u) rk b)(hn:lo+n<=b.size)(h1:1<=n)(B:Bo lo b u t)(h:∀k t,Bo lo b u t->1<=k->k<=n->Tn rk lo (AM t) k->Q (Z k) t):wpS (A8 prog w) A E s (countRun' lo n) Q t:=by
 rw[countRun'_eq];have P:∀{t:SortSt},Bo lo b u t->∀m,∀v:S Bool->SortSt->Prop,1<=m->m<n->v (Z (decide (al rk lo (AM t) m<al rk lo (AM t) (m-1)))) t->wpS (A8 prog w) A E s (ltAt' (lo+m) (lo+m-1)) v t:=λ{t} B m v q1 q2 hq=>by
  refine K8 K B () () ?_;rw[show lo+m-1=lo+(m-1) by omega];exact hq
 refine AL (GM (rk:=rk) (lo:=lo) (λx m v q1 q2 g1 g2=>?_) (zi 1) h1 (λi j y o=>by rw[show i=j by omega];exact zi _) λm U m2 F or=>?_)
 ·refine AL (P B m _ q1 q2 ?_);dsimp only;by_cases c:al rk lo (AM t) m<al rk lo (AM t) (m-1)
  ·rw[z4 c,zh rfl];exact wpS_pure (g1 c)
  ·rw[zD c,zo ()];exact wpS_pure (g2 c)
 dsimp only;by_cases N:m=n
 ·rw[zh (show(m==n)=true by simpa using N)];exact wpS_pure (h m t B U m2 F)
 rw[zo (show ¬ (m==n)=true by simpa using N)];have W:=or.resolve_left N;have M:lo+m<=(AM t).size:=by rw[B.sz];omega
 by_cases g1:m>1
 case' pos=>
  rw[zh g1];refine AL (K8 K B () () ?_);dsimp only;by_cases q:at_ rk (AM t) lo<at_ rk (AM t) (lo+m-1)
  ·rw[z4 q,zh rfl];exact wpS_pure (h m t B U m2 F)
  rw[zD q,zo ()];have L:∀k,0<=k->k<m->al rk lo (AM t) k=al rk lo (AM t) (m-1):=λk _ hk=>by
   have a1:=F 0 k () hk;have a2:=F k (m-1) () ();have q:¬ al rk lo (AM t) 0<al rk lo (AM t) (m-1):=by
    show ¬ at_ rk (AM t) (lo+0)<at_ rk (AM t) (lo+(m-1));rw[cK,show lo+(m-1)=lo+m-1 by omega];exact q
   omega
  have e:=DP (rk:=rk) (i:=0) M L;rw[cK]at e;have G:=B.mir (zi lo) (show lo+m<=b.size by omega);refine AL (wpS_reverse ?_);have z:Zo rk lo (AM (PyProof.Rows.setArr t (mirror (AM t) lo (lo+m) ((lo+m-lo) / 2)))) (m+1):=grow (xs:=AM t) (λi j y o=>by rw[L i () (),L j () ()];exact zi _) e λ_=>ZY W;generalize PyProof.Rows.setArr t (mirror (AM t) lo (lo+m) ((lo+m-lo) / 2))=t1 at G z ⊢
 case' neg=>
  rw[zo g1];have e1:m=1:=by omega
  have G:=B;have z:Zo rk lo (AM t) (m+1):=grow (xs:=AM t) (λi j y o=>by rw[show i=j by omega];exact zi _) (λ_=>J) λ_=>ZY W;generalize t=t1 at G z ⊢
 all_goals
  refine AL (wpS_lift (QQ ⟨rfl,?_⟩));refine AL (wpS_mono (wpS_forRange (I:=λx c t=>∃e,c=(O,x,e)/\Bo lo b u t/\Zo rk lo (AM t) x/\e+1<=x/\∀i,x-(e+1)<=i->i<x->al rk lo (AM t) i=al rk lo (AM t) (x-1))
   (Q:=λc t=>∃k e,c=(O,k,e)/\m+1<=k/\k<=n/\Bo lo b u t/\Zo rk lo (AM t) k/\e+1<=k/\∀i,k-(e+1)<=i->i<k->al rk lo (AM t) i=al rk lo (AM t) (k-1)) ?_ ?_ ⟨0,rfl,G,z,by omega,λi q1 q2=>by rw[show i=m+1-1 by omega]⟩) ?_)
  ·rintro x c a a3 a0 ⟨e,rfl,d,dn,p,f⟩;have M:lo+x<=(AM a).size:=by rw[d.sz];omega
   dsimp only;refine AL (P d x _ () a0 ?_);dsimp only;by_cases q:al rk lo (AM a) x<al rk lo (AM a) (x-1)
   ·rw[z4 q,zh rfl];by_cases g:e>0
    ·rw[zh g];refine AL (wpS_reverse (wpS_pure ?_));have C:=DP (rk:=rk) M f;rw[show lo+x-(e+1)=lo+(x-(e+1)) by omega];exact⟨0,rfl,d.mir () (),grow dn C λ_=>by omega,by omega,λi q1 q2=>by rw[show i=x+1-1 by omega]⟩
    ·rw[zo g];exact wpS_pure ⟨0,rfl,d,grow dn (λ_=>J) λ_=>by omega,by omega,λi q1 q2=>by rw[show i=x+1-1 by omega]⟩
   ·rw[zD q,zo ()];refine AL (K8 K d () () ?_);dsimp only;rw[show lo+x-1=lo+(x-1) by omega];by_cases q2:al rk lo (AM a) (x-1)<al rk lo (AM a) x
    ·rw[z4 q2,zh rfl];exact wpS_pure ⟨x,e,rfl,a3,by omega,d,dn,p,f⟩
    ·rw[zD q2,zo ()];refine wpS_pure ⟨e+1,rfl,d,grow dn (λ_=>J) λ_=>by omega,by omega,λi q3 q4=>?_⟩;rw[show x+1-1=x by omega];by_cases hi:i=x
     ·rw[hi]
     ·rw[f i () ()];omega
  ·rintro c a ⟨e,rfl,d,dn,p,f⟩;rw[show max (m+1) n=n by omega]at dn p f ⊢;exact⟨n,e,rfl,by omega,zi _,d,dn,p,f⟩
  rintro c a ⟨k,e,rfl,k1,k2,d,dn,p,f⟩;have a5:lo+k<=(AM a).size:=by rw[d.sz];omega
  dsimp only;by_cases g:e>0
  case' pos=>
   rw[zh g];refine AL (wpS_reverse ?_);have C:=DP (rk:=rk) a5 f;rw[show lo+k-(e+1)=lo+(k-(e+1)) by omega];have l:=d.mir (show lo<=lo+(k-(e+1)) by omega) (show lo+k<=b.size by omega);have D:Zo rk lo (AM (PyProof.Rows.setArr a (mirror (AM a) (lo+(k-(e+1))) (lo+k) ((lo+k-(lo+(k-(e+1)))) / 2)))) k:=λi j y o=>by
    show al rk lo (mirror (AM a) _ _ _) j<=al rk lo (mirror (AM a) _ _ _) i;rw[C,C];exact dn i j y o
   generalize PyProof.Rows.setArr a (mirror (AM a) (lo+(k-(e+1))) (lo+k) ((lo+k-(lo+(k-(e+1)))) / 2))=t2 at l D ⊢
  case' neg=>
   rw[zo g];have l:=d;have D:=dn;generalize a=t2 at l D ⊢
  all_goals
   refine AL (wpS_reverse ?_);have a6:lo+k<=(AM t2).size:=by rw[l.sz];omega
   have H:=l.mir (zi lo) (show lo+k<=b.size by omega);have X:Tn rk lo (AM (PyProof.Rows.setArr t2 (mirror (AM t2) lo (lo+k) ((lo+k-lo) / 2)))) k:=λi j y o=>by
    have e:=QG (rk:=rk) (i:=0) a6;rw[cK]at e;show al rk lo (mirror (AM t2) _ _ _) i<=al rk lo (mirror (AM t2) _ _ _) j;rw[e,e,zh ⟨by omega,by omega⟩,zh ⟨by omega,by omega⟩];exact D _ _ () ()
   generalize PyProof.Rows.setArr t2 (mirror (AM t2) lo (lo+k) ((lo+k-lo) / 2))=t3 at H X ⊢;refine AL (GM (rk:=rk) (lo:=lo) (λx r v q1 q2 g1 g2=>?_) (show 1<=k by omega) k2 X λr p1 p2 a4 _=>wpS_pure (h r t3 H () p2 a4));refine AL (P H r _ q1 q2 ?_);dsimp only;by_cases c:al rk lo (AM t3) r<al rk lo (AM t3) (r-1)
   ·rw[z4 c,zh rfl];exact wpS_pure (g1 c)
   ·rw[zD c,zo ()];exact wpS_pure (g2 c)
theorem QH{p d:Nat}(hs:lo+p<xs.size)(a:d<=p)(k:Nat):al rk lo (bubble xs (lo+p) d) k=if k=p-d then al rk lo xs p else if p-d<k/\k<=p then al rk lo xs (k-1)else al rk lo xs k:=by
 unfold al;rw[Zf hs ()];by_cases q:k=p-d
 ·rw[zh q,zh ()]
 ·rw[zo q,zo ()];by_cases q2:p-d<k/\k<=p
  ·rw[zh q2,zh ⟨by omega,by omega⟩];congr 1;omega
  ·rw[zo q2,zo ()]
theorem HV{m:Nat}{Q:Bool->SortSt->Prop}(G:Ah prog w A s (kindOf u) rk b)(L:lo+n<=b.size)(N:m<=n)(B:Bo lo b u t)(hs:Tn rk lo (AM t) m)(h:∀t,Bo lo b u t->Tn rk lo (AM t) n->Q true t):wpS (A8 prog w) A E s (binarySort' lo n m) Q t:=by
 rw[binarySort'_eq];refine AL (wpS_mono (wpS_forRange (I:=λk c t=>c=(O,gd)/\Bo lo b u t/\Tn rk lo (AM t) (min k n)) (Q:=λc t=>c=(O,gd)/\Bo lo b u t/\Tn rk lo (AM t) n) ?_ ?_ ?_) ?_)
 ·rintro k c t M P ⟨rfl,d,f⟩;rw[show min k n=k by omega]at f;refine AL (wpS_mono (wpS_forRange (I:=λx c a=>a=t/\∃l r,c=(O,l,r)/\l<=r/\r<=k/\r-l<=k-x/\(∀i,i<l->al rk lo (AM t) i<=al rk lo (AM t) k)/\(∀i,r<=i->i<k->al rk lo (AM t) k<al rk lo (AM t) i))
   (Q:=λc a=>a=t/\∃l r,c=(O,l,r)/\l<=k/\(∀i,i<l->al rk lo (AM t) i<=al rk lo (AM t) k)/\(∀i,l<=i->i<k->al rk lo (AM t) k<al rk lo (AM t) i)) ?_ ?_ ?_) ?_)
  ·rintro x c a _ hx ⟨rfl,l,r,rfl,D,p,H,g,hi⟩;dsimp only;by_cases y:l>=r
   ·rw[zh y];have e:l=r:=by omega
    subst e;exact wpS_pure ⟨rfl,l,l,rfl,p,g,hi⟩
   ·rw[zo y];refine AL (K8 G d () () ?_);dsimp only;by_cases q:al rk lo (AM a) k<al rk lo (AM a) ((l+r) / 2)
    ·rw[z4 q,zh rfl];refine wpS_pure ⟨rfl,l,(l+r) / 2,rfl,by omega,by omega,by omega,g,λi q1 q2=>?_⟩;have:=f ((l+r) / 2) i q1 q2;omega
    ·rw[zD q,zo ()];refine wpS_pure ⟨rfl,(l+r) / 2+1,r,rfl,by omega,by omega,by omega,λi q1=>?_,hi⟩;have:=f i ((l+r) / 2) () ();omega
  ·rintro c a ⟨rfl,l,r,rfl,D,p,H,g,hi⟩;have e:l=r:=by omega
   subst e;exact⟨rfl,l,l,rfl,p,g,hi⟩
  ·exact⟨rfl,0,k,rfl,by omega,by omega,by omega,λi hi=>by omega,λi q1 q2=>by omega⟩
  ·rintro c a ⟨rfl,l,r,rfl,K,g,hi⟩;show wpS _ _ _ _ (moveDown' (lo+k) (lo+l) >>= λ_=>pure (ForInStep.yield (O,gd))) _ _;rw[moveDown'_eq];have v:lo+k<(AM a).size:=by rw[d.sz];omega
   refine AL (wpS_modify (wpS_pure ⟨rfl,⟨(bubble_perm _ _ _).trans d.pm,d.kd,d.fl,d.pd,λj o=>?_⟩,?_⟩))
   ·show(bubble (AM a) (lo+k) (lo+k-(lo+l)))[j]?=_;rw[getElem?_bubble v _ (),zo (),zo ()];exact d.ot j o
   rw[show min (k+1) n=k+1 by omega];intro i j C o;show al rk lo (bubble (AM a) (lo+k) (lo+k-(lo+l))) i<=al rk lo (bubble (AM a) (lo+k) (lo+k-(lo+l))) j;rw[show lo+k-(lo+l)=k-l by omega,QH v (),QH v (),show k-(k-l)=l by omega]
   repeat' split
   all_goals first
    |(exfalso;omega)
    |exact zi _
    |exact g _ ()
    |exact ZY (hi _ () ())
    |exact f _ _ () ()
 ·rintro c t ⟨F,d,f⟩;refine⟨F,d,?_⟩;rwa [show min (max (max m 1) n) n=n by omega]at f
 ·refine⟨rfl,B,λi j C o=>?_⟩;by_cases z:m=0
  ·rw[show i=j by omega];exact zi _
  ·exact hs i j C ()
 ·rintro c t ⟨rfl,d,f⟩;exact wpS_pure (h t d f)
end
section
variable(rk:A0->Nat)
def Ds:Nat->Y (Y Keyed)->Y (Nat×Nat×Nat)->Prop
 |_,[],[]=>True
 |lo,g::gs,(a,n,_)::ps=>a=lo/\n=g.length/\g≠[]/\g.Pairwise (Le rk)/\Ds (lo+g.length) gs ps
 |_,_,_=>False
variable{rk}
theorem Ds.two:∀{i:Nat} {gs:Y (Y Keyed)} {ps:Y (Nat×Nat×Nat)} {lo:Nat},Ds rk lo gs ps->i+1<ps.length->∃G g g' b p q,gs=G++g::g'::b/\ps[i]?=Z (lo+G.flatten.length,g.length,p)/\ps[i+1]?=Z (lo+G.flatten.length+g.length,g'.length,q)/\g≠[]/\g'≠[]/\g.Pairwise (Le rk)/\g'.Pairwise (Le rk) ∧
   ∀m:Y Keyed,m.length=g.length+g'.length->m.Pairwise (Le rk)->Ds rk lo (G++m::b) ((ps.set i (lo+G.flatten.length,g.length+g'.length,p)).eraseIdx (i+1))
 |0,g::g'::b,(a,n,p)::(a',n',q)::ps,lo,h,_=>by
  obtain⟨rfl,rfl,h1,h2,rfl,rfl,j,f,d⟩:=h;refine⟨[],g,g',b,p,q,rfl,rfl,rfl,h1,j,h2,f,λm c l=>⟨rfl,c.symm,?_,l,?_⟩⟩
  ·intro e;rw[e]at c;have:=aT.mpr h1;simp at c;omega
  ·rw[c,<-Nat.add_assoc];exact d
 |i+1,g::gs,(a,n,p)::ps,lo,h,hi=>by
  obtain⟨G,k,r,b,p',o,e,e1,e2,h1,h2,j,f,d⟩:=Ds.two (i:=i) h.2.2.2.2 (by simpa using hi);have ex:lo+g.length+G.flatten.length=lo+(g::G).flatten.length:=by rw[eX,zC];omega
  rw[ex]at e1 e2 d;exact⟨g::G,k,r,b,p',o,by rw[e];rfl,e1,e2,h1,h2,j,f,λm c l=>⟨h.1,h.2.1,h.2.2.1,h.2.2.2.1,d m c l⟩⟩
 |_,[],[],_,_,hi=>by cases hi
 |0,_,[_],_,_,hi=>by simp at hi
 |_,[],_::_,_,h,_=>h.elim
 |_,_::_,[],_,h,_=>h.elim
 |0,[_],_::_::_,_,h,_=>h.2.2.2.2.elim
end
section
variable{b:Array Keyed}
structure St (rk:Value->Nat) (kd:SortKind) (b:Array Keyed) (R:List Keyed) (gs:List (List Keyed)) (t:SortSt):Prop where
 kd:kindOf t=kd
 fl:failedOf t=none
 pm:(arrOf t).Perm b
 ar:(arrOf t).toList=gs.flatten++R
 ds:Ds rk 0 gs (pendingOf t).toList
theorem QJ{R:Y Keyed}{gs:Y (Y Keyed)}{Q:Bool->SortSt->Prop}(D:Ah prog w A s kd rk b)(S:St rk kd b R gs t)(hi:i+1<(pendingOf t).size)(h:∀a t',St rk kd b R a t'->a.flatten.length=gs.flatten.length->a.length+1=gs.length->Q true t'):wpS (A8 prog w) A E s (EL i) Q t:=by
 obtain⟨G,g,f,d,p,q,e,e1,e2,h1,h2,x,o,l⟩:=Ds.two S.ds (i:=i) (by simpa using hi);rw[JY]at e1 e2 l;rw[ky]at e1 e2;have j:(AM t).toList=G.flatten++(g++f)++(d.flatten++R):=by rw[S.ar,e];simp
 have B:∀z∈(AM t).toList,z∈b.toList:=λz y=>(ai.mp S.pm).mem_iff.mp y;refine Zn (rk:=rk) D S.kd S.fl B j e1 e2 J J J J h1 h2 x o λt' m C r u k v n=>?_;have c:m.length=g.length+f.length:=by rw[k.length_eq,zC]
 refine h (G++m::d) t' ⟨C,r,?_,by rw[n];simp,?_⟩ (by rw[e];simp[c];omega) (by rw[e];simp only[zC,ZH];omega)
 ·refine Array.Perm.trans ?_ S.pm;rw[ai,n,j];exact(k.append_left _).append_right _
 ·rw[u];have:=l m c v;simpa using this
theorem G9{st:SortSt}{Q:Unit->SortSt->Prop}(G:Ah prog w A s kd rk b)(B:Bs kd b st)(h2:2<=b.size)
  (h:∀t,(AM t).Perm b->failedOf t=O->Up rk (AM t) b.size->Q gd t):wpS (A8 prog w) A E s sortRuns' Q st:=by
 rw[sortRuns'_eq];refine AL (wpS_get ?_);rw[B.sz];generalize minRun' b.size b.size 0=mr;dsimp only;refine AL (wpS_mono (wpS_forRange (I:=λx c t=>∃gs R,c=(O,gs.flatten.length)/\St rk kd b R gs t/\x<=gs.flatten.length) (Q:=λc t=>c.1=O/\∃gs,St rk kd b [] gs t) ?_ ?_ ⟨[],(AM st).toList,rfl,⟨B.kd,B.fl,B.pm,rfl,by rw[B.pd];trivial⟩,ZO _⟩) ?_)
 ·rintro x c t _ hx ⟨gs,R,rfl,S,v⟩;have U:gs.flatten.length+R.length=b.size:=by
   rw[<-zC,<-S.ar,ZA];exact S.pm.size_eq
  dsimp only;by_cases ge:gs.flatten.length>=b.size
  ·rw[zh ge];have:R=[]:=QN ();subst this;exact wpS_pure ⟨rfl,gs,S⟩
  rw[zo ge];refine AL (Hm (rk:=rk) (u:=t) (lo:=gs.flatten.length) (by rw[S.kd];exact G) () () ⟨S.pm,rfl,rfl,rfl,λ_ _=>J⟩ λn t' B' n1 n2 L=>?_);have body:∀(t1:SortSt) (m:Nat),Bo gs.flatten.length b t t1->1<=m->m<=b.size-gs.flatten.length->Tn rk gs.flatten.length (AM t1) m->∃g r,g.length=m/\g≠[]/\g.Pairwise (Le rk)/\St rk kd b (g++r) gs t1:=λt1 m l F m2 L=>by
   have z1:(AM t1).toList.length=b.size:=by rw[ZA];exact l.sz
   have e:(AM t1).toList.take gs.flatten.length=gs.flatten:=by
    apply List.ext_getElem?;intro k;by_cases hk:k<gs.flatten.length
    ·rw[cw hk,ky,l.ot k hk,<-ky,S.ar,qh hk]
    ·rw[dz (by rw[qo];omega),dz ()]
   have o:(((AM t1).toList.drop gs.flatten.length).take m).length=m:=by rw[qo,kb,z1];omega
   refine⟨((AM t1).toList.drop gs.flatten.length).take m,((AM t1).toList.drop gs.flatten.length).drop m,o,λz=>by rw[z]at o;simp at o;omega,ay.mpr λi j hi M a0=>?_,⟨l.kd.trans S.kd,l.fl.trans S.fl,l.pm,?_,by rw[l.pd];exact S.ds⟩⟩
   ·rw[o]at hi M;have:=L i j () M;unfold al at this;rw[wR (show gs.flatten.length+i<(AM t1).size by rw[l.sz];omega),wR (show gs.flatten.length+j<(AM t1).size by rw[l.sz];omega)]at this;rw[Kt,Kt,Kx,Kx];exact this
   ·rw[qr]
    conv=>rhs;lhs;rw[<-e]
    exact(qr _ _).symm
  have C:Ah prog w A s (kindOf t) rk b:=by rw[S.kd];exact G
  dsimp only;have e0:minRun' b.size b.size 0=minRun' b.size b.size 0:=rfl;generalize a2:minRun' b.size b.size 0=mr;by_cases c:n<mr
  case' pos=>
   rw[zh c];refine AL (wpS_lift (QQ ⟨rfl,AL (HV (rk:=rk) (u:=t) C () () B' L λt1 l H=>?_)⟩));rw[zo ()];have F:1<=min (b.size-gs.flatten.length) mr:=by omega
   have m2:min (b.size-gs.flatten.length) mr<=b.size-gs.flatten.length:=by omega
   generalize min (b.size-gs.flatten.length) mr=m at *
  case' neg=>
   rw[zo c];have l:=B';have H:=L;have F:=n1;have m2:=n2;generalize t'=t1 at l H ⊢;generalize n=m at F m2 H ⊢
  all_goals
   obtain⟨g,r,o,hg,K,S1⟩:=body t1 m l F m2 H;have X:∀d t2,St rk kd b (g++r) d t2->d.flatten.length=gs.flatten.length->∃N a1,((O:Option Unit),gs.flatten.length+m)=(O,N.flatten.length)/\St rk kd b a1 N (setPending t2 ((pendingOf t2).push (gs.flatten.length,m,0)))/\x+1<=N.flatten.length:=λd t2 f e2=>by
    have l2:(d++[g]).flatten.length=gs.flatten.length+m:=by simp[<-e2,o]
    refine⟨d++[g],r,by rw[l2],⟨f.kd,f.fl,f.pm,?_,?_⟩,by rw[l2];omega⟩
    ·show(AM t2).toList=_;rw[f.ar];simp
    ·have:=f.ds.snoc (q:=0) hg K;rw[JY,e2,o]at this;show Ds rk 0 _ ((pendingOf t2).push _).toList;rw[Array.toList_push];exact this
   refine AL (wpS_get ?_);split
   ·refine AL (wpS_mono (wpS_forRange (I:=λx c t=>c=(O,gd)/\∃d,St rk kd b (g++r) d t/\d.flatten.length=gs.flatten.length) (Q:=λc t=>c=(O,gd)/\∃d,St rk kd b (g++r) d t/\d.flatten.length=gs.flatten.length) ?_ (λ_ _ q=>q) ⟨rfl,gs,S1,rfl⟩) ?_)
    ·rintro y c t2 _ _ ⟨rfl,d,f,e2⟩;refine AL (wpS_get ?_);by_cases z:(pendingOf t2).size>1
     ·rw[zh z];split
      ·split
       ·exact wpS_pure ⟨rfl,d,f,e2⟩
       ·refine AL (QJ G f () λW t3 P e3 _=>?_);rw[zo ()];exact wpS_pure ⟨rfl,W,P,e3.trans e2⟩
      ·exact wpS_pure ⟨rfl,d,f,e2⟩
     ·rw[zo z];exact wpS_pure ⟨rfl,d,f,e2⟩
    ·rintro c t2 ⟨rfl,d,f,e2⟩;dsimp only;refine AL (wpS_modify (AL (wpS_modify (wpS_pure ?_))));refine X d _ ⟨f.kd,f.fl,f.pm,f.ar,?_⟩ e2;show Ds rk 0 _ ((pendingOf t2).modify _ _).toList;rw[Array.toList_modify];exact f.ds.pw λa n q=>⟨_,rfl⟩
   ·exact AL (wpS_modify (wpS_pure (X gs t1 S1 J)))
 ·rintro c t ⟨gs,R,rfl,S,v⟩;have U:gs.flatten.length+R.length=b.size:=by
   rw[<-zC,<-S.ar,ZA];exact S.pm.size_eq
  have:R=[]:=QN ();subst this;exact⟨rfl,gs,S⟩
 rintro⟨c,lo⟩ t ⟨hc,gs,S⟩;simp only at hc;subst hc;dsimp only;refine AL (wpS_mono (wpS_forRange (I:=λx c t=>c=(O,gd)/\∃gs,St rk kd b [] gs t/\(gs.length+x<=b.size\/gs.length<=1)) (Q:=λc t=>c=(O,gd)/\∃gs,St rk kd b [] gs t/\gs.length<=1) ?_ ?_ ⟨rfl,gs,S,.inl ?_⟩) ?_)
 ·rintro x c t _ hx ⟨rfl,gs,S,v⟩;have lp:gs.length=(pendingOf t).size:=by rw[S.ds.len,ZA]
  refine AL (wpS_get ?_);by_cases z:(pendingOf t).size<=1
  ·rw[zh z];exact wpS_pure ⟨rfl,gs,S,by omega⟩
  rw[zo z];have le:∀(p:Prop) [Decidable p] (a:Nat),(if p then a-1 else a)<=a:=λp _ a=>by split<;>omega
  refine AL (QJ G S (bS (KO (le _ _)) ()) λW t3 P e3 l3=>?_);rw[zo ()];exact wpS_pure ⟨rfl,W,P,by omega⟩
 ·rintro c t ⟨rfl,gs,S,v⟩;exact⟨rfl,gs,S,by omega⟩
 ·have:∀{gs:Y (Y Keyed)} {ps:Y (Nat×Nat×Nat)} {lo:Nat},Ds rk lo gs ps->gs.length<=gs.flatten.length:=by
   intro gs
   induction gs with
   |nil=>intro ps lo _;exact zi _
   |cons g gs ih=>
    intro ps lo h;cases ps with
    |nil=>exact h.elim
    |cons p ps=>
     obtain⟨a,n,q⟩:=p;have:=ih h.2.2.2.2;have:=aT.mpr h.2.2.1;rw[eX,zC,ZH];omega
  have:=this S.ds;have U:gs.flatten.length=b.size:=by
   have:=congrArg e9 S.ar;rw[Q2,ZA]at this;exact this.symm.trans S.pm.size_eq
  omega
 ·rintro c t ⟨rfl,gs,S,v⟩;refine wpS_pure (h t S.pm S.fl ?_);have D:=S.ar;have ds:=S.ds;have U:=S.pm.size_eq
  match gs,v,D,ds with
  |[],_,D,ds=>
   have:(AM t).size=0:=by rw[<-ZA,D];rfl
   omega
  |[g],_,D,ds=>
   generalize (pendingOf t).toList=ps at ds
   match ps,ds with
   |(a,n,q)::_,ds=>
    have K:=ds.2.2.2.1;have e:(AM t).toList=g:=by rw[D];simp
    rw[<-e]at K;intro i j a0 M;rw[wR (show i<(AM t).size by omega),wR (show j<(AM t).size by omega)];exact rK K a0 ()
end
theorem Zr{b:Array Keyed}:Rn prog w A kd rk b:=λ_ _ _ _ a B h2 q=>G9 a B h2 q
end S1
namespace P1
open L2 S6
section
variable{fs:Ev->S At}{p:Pos}
end
section
variable{xs:At}
end
section
variable{xs:At}
variable{fs:Ev->S At}{p':Pos}
end
end P1
namespace P1
open L2 S1 S6
section
variable [DecidableEq α]
end
section
def Vi(ks:Y AY):Bool:=ks.any λk=>k.isRight
variable{fs:Ev->S (Y (Y AY))}{p:Pos}
end
end P1
namespace P1
open L2
section
variable{kx vx:Expr}{xs:At}{fk:Ev->S Bx}
end
section
variable{ks:Y (AY×V)}{o:AE}
end
section
variable{fd:Ev->S Bx}{xs:At}
end
def two(a b:AJ)(i:Nat):AJ:=if i=0 then a else b
theorem Jy{R:α->β->Prop}:∀{xs:Y α} {ys:Y β},AI R xs ys->∀{i:Nat} {x:α},xs[i]?=Z x->∃y,ys[i]?=Z y/\R x y:=by
 intro xs ys h
 induction h with
 |nil=>intro i x q;simp at q
 |cons r _ a=>
  intro i x q;cases i with
  |zero=>simp at q;subst q;exact⟨_,rfl,r⟩
  |succ i=>
   rw[KS]at q;obtain⟨y,y1,y2⟩:=a q;exact⟨y,by rw[KS];exact y1,y2⟩
section
variable{p px spos:Pos}{f:A1}{G:A1->Y (AY×Dt)->Y Bx->S (Y (AY×Dt))}
end
def WL:S Bool->Bool
 |some true=>true
 |_=>false
def QK(x:Dt)(ys:Y Dt):S Bool:=if(ys.all λy=>(tW y x).isSome&&decide (min (q8 y) (q8 x)<=60))=true then Z (ys.any λy=>WL (tW y x))else O
def Cb(a b:Bx):S Bx:=match a with
 |.z d=>(qg b).bind λys=>(QK d ys).bind λk=>Z (.z (.bl k))
 |_=>O
theorem QL(I:L2.AU X AN σ H s)(E:X.A.units+100<cLine){x:V}(r:AW X.K H d x)(t:B0 x u){ys:Y Dt}(rs:aU X.K H ys vs)(m:AX vs AQ){k:Bool}(hk:QK d ys=Z k):
  ∃e:A0->Bool,(∀y,y∈AQ->SeqAt.EqAt X.A.in1 s y u (e y))/\AQ.any e=k:=by
 unfold QK at hk;split at hk
 ·rename_i n;injection hk with hk;rw[Z3]at n;have at_:∀(i:Nat) y,AQ[i]?=Z y->∃c,ys[i]?=Z c/\SeqAt.EqAt X.A.in1 s y u (WL (tW c d)):=λi y g=>by
   have w:=m.length;have C:=rs.length;have hi:i<AQ.length:=(ag.mp g).1;have a:i<ys.length:=by omega
   obtain⟨v,ev,z⟩:=rs.get (show ys[i]?=Z ys[i] by simp[a]);obtain⟨F,o,D⟩:=m.get ev;rw[g]at o;cases o;refine⟨ys[i],by simp[a],?_⟩;have j:=n ys[i] (kC a);rw[Zs]at j;obtain⟨b,p⟩:=aE.mp j.1;have:=WD I 60 (A:=X.A.in1) (JE j.2) (by rw[units_in1];omega) z r D t p;rw[p];cases b<;>exact this
  classical
  refine⟨λy=>decide (∃(i:Nat) (c:Dt),AQ[i]?=Z y/\ys[i]?=Z c/\WL (tW c d)=true),λy g=>?_,?_⟩
  ·dsimp only;by_cases q:∃(i:Nat) (c:Dt),AQ[i]?=Z y/\ys[i]?=Z c/\WL (tW c d)=true
   ·rw[z4 q];obtain⟨i,c,h1,h2,f⟩:=q;obtain⟨c',e1,e2⟩:=at_ i y h1;rw[h2]at e1;cases e1;rw[f]at e2;exact e2
   ·rw[zD q];obtain⟨i,hi,l⟩:=Q4 g;have h1:AQ[i]?=Z y:=by rw[z5 hi,l]
    obtain⟨c,e1,e2⟩:=at_ i y h1;have:WL (tW c d)=false:=by
     cases B:WL (tW c d)with
     |false=>rfl
     |true=>exact absurd ⟨i,c,h1,e1,B⟩ q
    rw[this]at e2;exact e2
  ·rw[<-hk,QR,js,js];constructor
   ·rintro⟨y,g,h⟩;obtain⟨i,c,h1,h2,f⟩:=JE h;exact⟨c,kK h2,f⟩
   ·rintro⟨c,j,f⟩;obtain⟨i,hi,l⟩:=Q4 j;have w:=m.length;have C:=rs.length;have a:i<AQ.length:=by omega
    exact⟨AQ[i],kC a,z4 ⟨i,c,by simp[a],by rw[z5 hi,l],f⟩⟩
 ·cases hk
theorem DR(m:X.A.units+100<cLine):Dd X (AG .In) Cb:=by
 intro AN s σ H x y v u Q I l z h;obtain⟨a,b,c,o,B,e,q⟩:=h;unfold Cb at e;split at e
 ·rename_i d;obtain⟨ys,t,e⟩:=AT e;obtain⟨k,ek,e⟩:=AT e;cases e;obtain⟨p,vs,rfl,g,n⟩:=yc B t;cases z;rcases g with g|g
  ·obtain⟨AQ,j,pl,r⟩:=I.list g;obtain⟨f,f1,f2⟩:=QL I m o l n j ek;refine SeqAt.in_listAt f pl.isList (λw i=>f1 w (by simpa using i)) ⟨.bl k,H,I,by rw[show AQ.toArray.any f=AQ.any f by simp,f2];rfl,q _ H (AV.refl H) trivial (by simp only[aY,AW])⟩
  ·obtain⟨AQ,j,pl,r⟩:=I.tuple g;obtain⟨f,f1,f2⟩:=QL I m o l n j ek;refine SeqAt.in_tupleAt f pl (λw i=>f1 w (by simpa using i)) ⟨.bl k,H,I,by rw[show AQ.toArray.any f=AQ.any f by simp,f2];rfl,q _ H (AV.refl H) trivial (by simp only[aY,AW])⟩
 ·cases e
section
variable{st:Y AB}
end
open AutoSeq1 (wpAny_loadPart')
open SeqAt
theorem Md(I:L2.AU X AN σ H s){xs:Y V}(h:tU X.K H a xs):∃AQ:Y A0,AX xs AQ/\iV s.heap a AQ.toArray:=by
 rcases h with h|⟨o,AQ,n,hk,b,c,d,r⟩
 ·obtain⟨z,AQ,r,p⟩:=h.ok I.hok;exact⟨AQ,r,p⟩
 ·exact⟨AQ.toList,r,o,I.kIn a o hk,b.1,⟨n,by simpa using c⟩,b.2⟩
section
variable{fx:Ev->S Bx}
end
section
variable{t:Ev->S Bool}
end
section
variable{h':A6}
theorem K9{t':Nat}{e:A1}{xs:Y V}(I:L2.AU X AN σ H s)(k:∀b o,b≠e->b≠it->s.heap.get? b=Z o->h'.get? b=Z o)(fe:pO X AN H e)(fi:pO X AN H it)(p:∃o,h'.get? e=Z o)(hi:∃o,h'.get? it=Z o)(new:m7 X.prog X.w (B8 H s.heap.objs.size (.tup xs)) h' s.heap.objs.size (.tup xs)):L2.AU X AN σ (B8 H s.heap.objs.size (.tup xs)) { s with heap:=h',toks:=t' }:=by
 have i:H s.heap.objs.size=O:=I.hok.fresh (zi _);have f:∀b u,H b=Z u->b≠s.heap.objs.size:=λb u q z=>by rw[z,i]at q;cases q
 have h:∀b u,H b=Z u->b≠e/\b≠it:=λb u q=>⟨λz=>(by rw[z,fe.1]at q;cases q),λz=>(by rw[z,fi.1]at q;cases q)⟩;have g:∀b,b∉[e,it]->b≠e/\b≠it:=λb d=>⟨λz=>d (by simp[z]),λz=>d (by simp[z])⟩;refine I.step (g':=s.gens) (d':=s.drawn) (ch:=[e,it]) (λb d=>?_) (λb o _ _ a q _=>k b o (g b a).1 (g b a).2 q) (λb o _ _ a q _=>⟨o.slots,k b o (g b a).1 (g b a).2 q⟩) (λb o _ q n=>?_)
  (λb o a q=>⟨o,k b o (g b a).1 (g b a).2 q⟩) (λb ys q=>?_) (λb o u q=>?_) (λb ps q=>⟨#[],?_⟩) (λm j=>?_) (λb u q=>?_) I.bare
 ·rcases List.mem_cons.mp d with rfl|d
  ·exact⟨fe.2.2.2.1,fe.2.1,fe.2.2.2.2.1,fe.2.2.2.2.2⟩
  ·cases af.mp d;exact⟨fi.2.2.2.1,fi.2.1,fi.2.2.2.2.1,fi.2.2.2.2.2⟩
 ·rw[bh (zS (Zl q))];exact n
 ·rw[bh (f b _ q)];exact q
 ·rw[bh (f b _ q)];exact q
 ·rw[bh (f b _ q),q];simp
 ·obtain⟨o,es,ep,l,r⟩:=j;exact⟨o,es,ep,k _ o (kF fe.2.1) (kF fi.2.1) l,r⟩
 ·by_cases d:b=s.heap.objs.size
  ·subst d;rw[bH]at q;cases q;exact new
  ·rw[bh d]at q;refine(I.hok b u q).stay (λc v a w=>k c v ?_ ?_ w) (λc w=>?_) (λc ys w=>?_) λc o' t w=>?_
   ·rcases a with rfl|z
    ·exact(h _ _ q).1
    ·exact(h _ _ z).1
   ·rcases a with rfl|z
    ·exact(h _ _ q).2
    ·exact(h _ _ z).2
   ·rw[bh (f c _ w)];exact w
   ·rw[bh (f c _ w)];exact w
   ·rw[bh (f c _ w)];exact w
end
def FA(K:B5)(l:A1):It:=
 ⟨λi H=>∃xs x,rE K H l xs/\xs[i]?=Z x,λi H v H'=>∃p x,H p=O/\(∀xs,rE K H l xs->xs[i]?=Z x)/\v=.ref p/\H'=B8 H p (.tup [.int i,x]),λi H=>∃xs,rE K H l xs/\xs.length<=i⟩
theorem NK(l e it:A1)(C:e≠it):
  C0 P w K (.Tuple elts x1 tpos) (FA K l) [e,it] e (λi h=>(∃c,IsEnum h e it i c)/\h.IsListIter it l i) where
 mem:=by simp
 obj:=λi h st b a=>by
  obtain⟨⟨c,h1⟩,o,h2,_,N⟩:=st;rcases List.mem_cons.mp a with rfl|a
  ·exact⟨_,h1,λv z=>by cases z⟩
  ·cases af.mp a;exact⟨o,h2,λv z=>by rw[N]at z;cases z⟩
 keep:=λi h h' st k=>by
  obtain⟨⟨c,h1⟩,h2⟩:=st;exact⟨⟨c,k e (by simp) _ h1⟩,h2.at λo q=>k it (by simp) o q⟩
 item:=by
  intro X n j m A i AN s σ H E I f st r;subst n j m;obtain⟨⟨c,h1⟩,h2⟩:=st;obtain⟨xs,x,d,hx⟩:=r;obtain⟨AQ,t,p,hz⟩:=I.list d;obtain⟨u,L,ru⟩:=t.get hx;have fe:=f e (by simp);have fi:=f it (by simp);refine wpAny_pyNext_enum_item h1 h2 p.isList (x:=u) (by simpa using L) C λa1 M G hT a2 hk=>⟨_,rfl,?_⟩;refine wpAny_letOwnedTupleGo_enum M λD B g=>?_;have elt:e<s.heap.objs.size:=Zl h1;have W:it<s.heap.objs.size:=by obtain⟨_,q,_⟩:=h2;exact Zl q
  have a0:D.get? s.heap.objs.size=Z { cls:=.type "tuple",data:=.seq #[.int i s.toks,u] }:=(g.2 _ (k8 elt)).trans hT;have y:D.IsListIter it l (i+1):=G.at λo q=>(g.2 it (kF C)).trans q;refine⟨.ref s.heap.objs.size,B8 H s.heap.objs.size (.tup [.int i,x]),K9 (t':=s.toks+1) I (λb o F n2 q=>(g.2 b F).trans (hk b o F n2 q)) fe fi ⟨_,B⟩ (by obtain⟨o,q,_⟩:=y;exact⟨o,q⟩) ?_,rfl,⟨_,x,I.hok.fresh (zi _),λys U=>by rw[I.FZ U d];exact hx,rfl,rfl⟩,⟨⟨_,by simpa using B⟩,y⟩,λb a=>?_⟩
  ·exact⟨by show 2<=AA;decide,[.int i s.toks,u],.cons ⟨_,rfl⟩ (.cons ru .nil),_,a0,rfl,⟨_,rfl⟩,rfl⟩
  ·rcases List.mem_cons.mp a with rfl|a
   ·rw[bh (zS elt)];exact fe.1
   ·cases af.mp a;rw[bh (zS W)];exact fi.1
 done:=by
  intro X n j m A i AN s σ H E I f st r;subst n j m;obtain⟨⟨c,h1⟩,h2⟩:=st;obtain⟨xs,d,hx⟩:=r;obtain⟨AQ,t,p,hz⟩:=I.list d;obtain⟨f0,f1,f2,f3,Q,f5⟩:=f it (by simp);have hl:=t.length;exact wpAny_pyNext_enum_end (I.ok.hd A) h1 h2 p.isList (by simp;omega) λh' eb=>⟨rfl,I.turned (t':=s.toks) (λb o a e=>eb b o a e) f0 f1 f3 Q f5⟩
 self:=λ_ _ _ _ _ st h=>by
  obtain⟨⟨c,h1⟩,_⟩:=st;exact Kk h1 h
def QS(ds:Y Dt):Y Dt:=(ap ds.length).zipWith (λk d=>.tup [.int (k:Nat),d]) ds
section
variable{p:Pos}
def N2(K:B5)(ta:TA):TI:=λσ H R=>ta σ H λvs H1=>∃l,vs=[.ref l]/\(∃xs,rE K H1 l xs)/\R (FA K l) H1
theorem Vj{ta:TA}(d:Gl X "enumerate")(j:X.mg "enumerate"=O)(i:PA X [e] ta)(hs:A9 [e] X.env=[(false,eval e X.env)]:=by rfl):PI X (.Tuple elts x1 tpos) (.Call (.Name "enumerate" p) [e] [] pos) (N2 X.K ta):=by
 intro AN s σ H R I h;refine Call_ (pR I d j boot_enumerate (PyProof.Rows.callWith_type1 (gM (i pos AN s σ H _ I h) λus s1 ⟨vs,H1,I1,r1,q1⟩=>?_) hs J));obtain⟨l,rfl,⟨xs,k⟩,q⟩:=q1;obtain⟨u,rfl,g⟩:=BD r1;cases g;obtain⟨AQ,n,p,o⟩:=I1.list k;refine call_enumerate_list p.isList λh' c f m hk=>?_;refine Kk c ?_;refine⟨s1.heap.objs.size+1,[s1.heap.objs.size+1,s1.heap.objs.size],_,_,H1,rfl,I1.kept (t':=s1.toks) hk,NK l _ _ (k8 (Nat.lt_succ_self _)),⟨⟨_,c⟩,f⟩,λb a=>?_,q⟩;rcases List.mem_cons.mp a with rfl|a
 ·exact I1.Gb (kH _) (I1.hok.fresh (kH _))
 ·cases af.mp a;exact I1.Gb (zi _) (I1.hok.fresh (zi _))
def Hf:Y Bx->S (Y Dt)
 |[b]=>(nj b).bind λds=>Z (QS ds)
 |_=>O
theorem QT(d:Gl X "enumerate")(j:X.mg "enumerate"=O)(i:DL X [e] fs)(hs:A9 [e] X.env=[(false,eval e X.env)]:=by rfl):FM X (.Tuple elts x1 tpos) (.Call (.Name "enumerate" p) [e] [] pos) (λρ=>(fs ρ).bind Hf):=λAN s σ H R I q=>by
 refine Vj d j i hs AN s σ H R I ?_;obtain⟨H0,ρ,ds,E,e,q⟩:=q;obtain⟨k,eb,e⟩:=AT e;refine⟨H0,ρ,k,E,eb,λvs H1 f l=>?_⟩;unfold Hf at e;split at e
 ·rename_i b;obtain⟨o,g,e⟩:=AT e;cases e;obtain⟨v,rfl,m⟩:=BG l;obtain⟨a,h,rfl,c,n⟩:=m.Fv g;exact⟨a,rfl,⟨h,c⟩,q _ _ f (.enum c n)⟩
 ·cases e
theorem QW(a:Gl X "enumerate")(c:X.mg "enumerate"=O)(b:Kv X [e] fs)(hs:A9 [e] X.env=[(false,eval e X.env)]:=by rfl):D7 X (.Tuple elts x1 tpos) (.Call (.Name "enumerate" p) [e] [] pos) (λρ=>(fs ρ).bind Hf):=⟨QT a c b.run hs⟩
end
def Vl(ρ:Ev)(i:Nat):Bx->S An
 |.o zs=>match ρ[i]? with
  |some (Z (.o ds))=>if ds.length+zs.length<=AA then Z (.nx (ρ.set i (Z (.o (ds++zs)))))else O
  |_=>O
 |_=>O
def QX(i:Nat)(f:Ev->S Bx):Ev->S An:=λρ=>(f ρ).bind (Vl ρ i)
theorem Zt(i:Nat){p:Pos}(A:PV X e f)(s:X.N[i]?=Z x:=by rfl)(m:Tg X.env.scope x:=by first|exact kA rfl|exact jI (kA J)|exact jI (jI J))(w:f7 x:=by decide)(y:(x==("__classdict__":AJ))=false:=by decide)(k:A9 [e] X.env=[(false,eval e X.env)]:=by rfl)(C:attributeBase (.Name x p) "extend" X.env (eval (.Name x p) X.env)=eval (.Name x p) X.env:=by rfl)(z:((AD cpos (A9 [e] X.env)).all (λx=>!x.1)&&(backToKw cpos (keywordEach [] X.env)).all (λx=>x.1.isSome)
   && decide ([e].length+([]:Y AC).length+(if([]:Y AC).isEmpty then 0 else 1)<30))=true:=by rfl)(B:(apos.endLine==cpos.line)=true:=by rfl)(hs:swapsWith (.Call (.Attribute (.Name x p) "extend" apos) [e] [] cpos) O pos.line X.env=pure false:=by rfl):
  G2 X (.Expr (.Call (.Attribute (.Name x p) "extend" apos) [e] [] cpos) pos) (QX i f):=
 Ug (Kl (Pj PySem.F.plainAttrs_list PySem.F.slot_list_extend PySem.F.type_list_extend M8 (yx (i:=i) s m w y) (uc A yE (by rw[k]<;>rfl)) C z B (by rw[k]<;>rfl) J) hs) λD σ H h=>by
  obtain⟨H0,ρ,r,E,e,q⟩:=h;obtain⟨b,eb,e⟩:=AT e;cases b with
  |o zs=>
   simp only[Vl]at e;split at e
   ·rename_i ds g;split at e
    ·rename_i n;cases e;obtain⟨v,e1,a,vs,rfl,d,j⟩:=E.val i _ g;refine⟨_,e1,.inl ⟨rfl,vs,.inl (.inl d)⟩,H0,ρ,_,E,eb,λu H1 c L I=>?_⟩;have t:=E.grow c;obtain⟨b,G,rfl,K,l⟩:=I;refine⟨a,b,vs,G,rfl,rfl,c _ _ d,K,by rw[j.length,l.length];exact n,q _ _ ?_⟩;exact t.Yr g e1 (c _ _ d) ((j.kp (.of c)).append l)
    ·cases e
   ·cases e
  |_=>cases e
theorem Zu(i:Nat){p:Pos}(l:QV X e f)(b:X.N[i]?=Z x:=by rfl)(a:Tg X.env.scope x:=by first|exact kA rfl|exact jI (kA J)|exact jI (jI J))(h:f7 x:=by decide)(j:(x==("__classdict__":AJ))=false:=by decide)(d:A9 [e] X.env=[(false,eval e X.env)]:=by rfl)(g:attributeBase (.Name x p) "extend" X.env (eval (.Name x p) X.env)=eval (.Name x p) X.env:=by rfl)(k:((AD cpos (A9 [e] X.env)).all (λx=>!x.1)&&(backToKw cpos (keywordEach [] X.env)).all (λx=>x.1.isSome)
   && decide ([e].length+([]:Y AC).length+(if([]:Y AC).isEmpty then 0 else 1)<30))=true:=by rfl)(c:(apos.endLine==cpos.line)=true:=by rfl)(hs:swapsWith (.Call (.Attribute (.Name x p) "extend" apos) [e] [] cpos) O pos.line X.env=pure false:=by rfl):
  PN X (.Expr (.Call (.Attribute (.Name x p) "extend" apos) [e] [] cpos) pos) (QX i f):=⟨Zt i l.run b a h j d g k c hs⟩
section
variable{ek ev:Expr}{fk:Ev->S Bx}
end
section
variable{st:Expr}{fs:Ev->S Bx}
end
theorem Jz{t:A1}{xs:Array A0}{Q:BB}(d:A.handled=O)(hi:s.heap.IsTupleIter it t i)(h:s.heap.IsTuple t xs)(hx:xs[i]?=O)(g:∀h' e,Heap.ExtBut it s.heap h'->(∃o,h'.get? e=Z o/\o.cls=.type "StopIteration")->E (.ref e) { s with heap:=h' }):A7 (A8 prog w) A (Builtin.SmallTypes.nextOf (.ref it)) Q E s:=by
 obtain⟨o,c,j,b⟩:=id hi;obtain⟨p,hp,_,n,f⟩:=h;unfold Builtin.SmallTypes.nextOf;refine zb (jv (name:=Str.ofString "__next__") hi.typeIs F.slot_tuple_iterator_next (ka F.slot_tuple_iterator_next hi.typeIs F.entry_tuple_iterator_next ?_ (F.args_tuple_iterator_next_1 _)));show A7 _ _ (field (.ref it) 0 >>= _) _ _ s;refine zb (JO c b (x:=.ref t) J ?_);show A7 _ _ (if(Value.ref t==Value.none)=true then _ else _) _ _ s;rw[zo (show ¬ ((Value.ref t==Value.none)=true) from qS)];show A7 _ _ (field (.ref it) 1 >>= _) _ _ s;refine zb (JO c b (x:=.int i 0) J ?_);show A7 _ _ (seqItems? (.ref t) >>= _) _ _ s;refine zb (wpAny_seqItems hp f ?_);simp only[JJ,hx];refine zb (QQ (zb (wpAny_setField c b (by simp) ?_)));show A7 _ _ (newExc (.type "StopIteration") [] >>= _) _ _ _;refine zb ?_;simp only[newExc,newTuple];refine zb (ZT ?_ (by size_fits));refine zb (m:=firstArgMember _ _) (wpAny_of_eq (a:=Value.none) (by first|rfl|(simp only[firstArgMember];rfl)) ?_);refine ZT ?_ (by size_fits);simp only[raiseNew];refine zb (wpAny_handled ?_)
 first|rw[show A.in1.handled=O from d]|rw[d]
 refine zb (zg (wpAny_throw ?_));exact g _ _ (((ja ..).extBut.push _).push _) ⟨_,zw _ rfl,rfl⟩
theorem ad{a b:Nat}(h:a≠b):@Ne A1 a b:=h
theorem Cj:entryFor table "dict.update.loop"=Z Builtin.«dict.update.loop»:=entryFor_of_tree (by kernel_rfl)
section
variable{K:Type} [DecidableEq K] {knd:KeyKind prog w K}
end
def QZ(ps:Y (AJ×Dt)):Y (AY×Dt):=ps.foldl (λa p=>Nv a (.inr p.1) p.2) []
theorem Ck{K:B5}{H:Hp}:∀{ps:Y (AJ×Dt)} {us:Y V} {acc:Y (AY×Dt)} {ks:Y (AY×V)},Py K H acc ks->aU K H (ps.map (·.2)) us->(∀p∈ps,p.1.length<=AA)->Py K H (ps.foldl (λacc p=>Nv acc (.inr p.1) p.2) acc) (yH ks ((ps.map λp=>(Sum.inr p.1:AY)).zip us))
 |[],us,acc,ks,h,r,_=>by simpa[yH]using h
 |p::ps,us,acc,ks,h,r,hl=>by
  obtain⟨u,d,rfl,c,b⟩:∃v r,us=v::r/\AW K H p.2 v/\aU K H (ps.map (·.2)) r:=by simpa only[zv,aU]using r
  exact Ck (ps:=ps) (us:=d) (acc:=Nv acc (.inr p.1) p.2) (ks:=C3 ks (Sum.inr p.1) u) (h.put (x:=Sum.inr p.1) c (hl p (zt ..))) b λq a=>hl q (zr _ a)
section
variable{ea eb:Expr}{p1 pos1 pos2:Pos}
end
theorem lO(xs:At)(is:Y Nat)(f:closureFor scope X.env=pure cl:=by with_unfolding_all rfl)(e:scope.kind=.function:=by rfl)(a:scope.names.all (λy=>decide (y.2≠.cell)||(cl.lookup y.1).isNone)=true:=by rfl)(b:scope.names.all (λy=>decide (y.2=.local->scope.names.lookup y.1=Z .local))=true:=by decide +kernel)(d:C6 X.env.cells cl:=by repeat (first|exact trivial|refine⟨rfl,?_⟩))(has:(relabel scope X.env).names.all (λy=>!(y.2==.cell||y.2==.free)||(cl.lookup y.1).isSome||scope.names.contains (y.1,.cell))=true:=by rfl)(c:Jm X scope cl xs is:=by repeat (first|exact Za|refine U6 J (by first|exact .inl rfl|exact .inr J) (by first|exact .inl rfl|exact .inr J) ⟨_,rfl⟩ ?_)):p7 X scope cl xs is:=Zb f e a b d has c
theorem n8{a:Scope}(h1:a.kind=.function:=by rfl)(h2:a.isCoroutine=false:=by rfl)(c:a.isGenerator=false:=by rfl)(b:N.Nodup:=by decide +kernel)(f:N.take ps.length=ps:=by rfl)(d:∀x∈ps,a.names.lookup x=Z .local\/a.names.lookup x=Z .cell:=by decide +kernel)(e:∀y∈a.names,y.2≠.free:=by decide +kernel):cg N ps a:=⟨h1,h2,c,b,f,d,e⟩
instance:Inhabited Dt:=⟨.non⟩
theorem Ap(a:α)(f:α->S β):(Z a).bind f=f a:=(fz a f).trans (Eq.refl _)
def B4:S Prop->Prop
 |none=>True
 |some p=>p
def aW:S Prop->S Prop->S Prop
 |none,q=>q
 |some p,O=>Z p
 |some p,Z q=>Z (p/\q)
def xJ(c:Prop):S Prop->S Prop
 |none=>O
 |some p=>Z (c->p)
theorem aB{p q:S Prop}(h:B4 (aW p q)):B4 p/\B4 q:=by
 cases p with
 |none=>exact⟨trivial,h⟩
 |some p=>cases q with
  |none=>exact⟨h,trivial⟩
  |some q=>exact h
theorem jd{c:Prop}{p:S Prop}(h:B4 (xJ c p))(a:c):B4 p:=by
 cases p with
 |none=>trivial
 |some p=>exact h a
structure R {α β:Type} (f:Ev->Option β) (ρ:Ev) (c:α->β) where
 v:α
 D:Option Prop
 ok:B4 D->f ρ=some (c v)
abbrev zE(e:α->Dt):α->Bx:=λa=>.z (e a)
abbrev oE(e:α->Dt):Y α->Bx:=λxs=>.o (xs.map e)
abbrev lE(e:α->Dt):Y α->Bx:=λxs=>.l (xs.map e)
abbrev tE:Bool->Bool:=λb=>b
abbrev iE(e:α->Dt):Y α->Y Dt:=λxs=>xs.map e
abbrev eI:Int->Dt:=Dt.int
abbrev eB:Bool->Dt:=Dt.bl
abbrev eS:AJ->Dt:=Dt.str
abbrev eD:Dt->Dt:=λd=>d
abbrev eL(e:α->Dt):Y α->Dt:=λxs=>.lst (xs.map e)
abbrev eT(e:α->Dt):Y α->Dt:=λxs=>.tup (xs.map e)
abbrev eO(e:α->Dt):S α->Dt:=λo=>match o with|none=>.non|some a=>e a
abbrev EZ(a:α->Dt):α->Dt:=λx=>.tup [a x]
abbrev yg(a:α->Dt)(b:β->Dt):α×β->Dt:=λx=>.tup [a x.1,b x.2]
abbrev Vm(a:α->Dt)(b:β->Dt)(c:γ->Dt):α×β×γ->Dt:=λx=>.tup [a x.1,b x.2.1,c x.2.2]
abbrev Vn(a:α->Dt)(b:β->Dt)(c:γ->Dt)(d:δ->Dt):α×β×γ×δ->Dt:=λx=>.tup [a x.1,b x.2.1,c x.2.2.1,d x.2.2.2]
structure RL {α:Type} (f:Ev->Option Bx) (ρ:Ev) (e:α->Dt) where
 v:List α
 D:Option Prop
 b:Bx
 lk:nj b=some (v.map e)
 ok:B4 D->f ρ=some b
section
variable{e:α->Dt}{e':β->Dt}
def je(a:R f ρ (oE e)):RL f ρ e:=⟨a.v,a.D,_,rfl,a.ok⟩
def jk(a:R f ρ (lE e)):RL f ρ e:=⟨a.v,a.D,_,rfl,a.ok⟩
def zm(a:R f ρ (zE (eL e))):RL f ρ e:=⟨a.v,a.D,_,rfl,a.ok⟩
def Lp(b:Bx)(ds:Y Dt):Prop:=b=.z (.lst ds)\/b=.l ds
theorem zp(h:nj b=Z ds):Lp (P1.B9 b) ds:=by
 cases b with
 |z d=>cases d<;>cases h;exact .inl rfl
 |l d=>cases h;exact .inr rfl
 |o d=>cases h;exact .inr rfl
 |n d=>cases h
 |m d _=>cases h
def aq(i:Nat)(c:α->Bx)(a:α)(h:Am ρ i=Z (c a)):R (gv i) ρ c:=⟨a,O,λ_=>h⟩
def jR(i:Nat)(e:α->Dt)(a:Y α)(h:Lp b (a.map e))(hi:ρ[i]?=Z (Z b)):RL (gv i) ρ e:=⟨a,O,b,h.Fv,λ_=>h.get hi⟩
def pJ(d:Dt)(e:α->Dt)(a:α)(h:d=e a):R (cB d) ρ (zE e):=⟨a,O,λ_=>by rw[h];rfl⟩
def gw(a:R f ρ (zE e)):R f ρ (zE eD):=⟨e a.v,a.D,a.ok⟩
def JB(a:R f ρ (zE e)):R f ρ (zE (eO e)):=⟨Z a.v,a.D,a.ok⟩
def Zv:R (cB .non) ρ (zE (eO e)):=⟨O,O,λ_=>J⟩
def jm[Inhabited α](a:R f ρ (zE (eO e))):R f ρ (zE e):=⟨a.v.getD default,aW a.D (Z (a.v.isSome=true)),λh=>by
 obtain⟨h1,h2⟩:=aB h;rw[a.ok h1];have h2:a.v.isSome=true:=h2;cases b:a.v with
 |none=>rw[b]at h2;cases h2
 |some x=>rfl⟩
def HI(a:R f ρ (oE e)):R (b1 uo f) ρ (zE (eL e)):=⟨a.v,a.D,λh=>by simp only[b1,a.ok h,Ap,uo]⟩
def jo(a:R f ρ (zE e)):R (b1 uo f) ρ (zE e):=⟨a.v,a.D,λh=>by simp only[b1,a.ok h,Ap,uo]⟩
def Q0(a:R f ρ (zE eI)):R (b1 Ar f) ρ (zE eI):=⟨-a.v,a.D,λh=>by simp only[b1,a.ok h,Ap,Ar]⟩
def jq(a:R fa ρ (zE eI))(b:R fb ρ (zE eI)):R (b2 fD fa fb) ρ (zE eI):=⟨a.v+b.v,aW a.D b.D,λh=>by
 obtain⟨h1,h2⟩:=aB h;simp only[b2,a.ok h1,b.ok h2,Ap,fD]⟩
def E8(a b:Int):Prop:=(-18446744073709551616<a/\a<18446744073709551616)\/(-18446744073709551616<b/\b<18446744073709551616)
def WM(a:R fa ρ (zE eI))(b:R fb ρ (zE eI)):R (b2 su fa fb) ρ (zE eI):=⟨a.v*b.v,aW (aW a.D b.D) (Z (E8 a.v b.v)),λh=>by
 obtain⟨h,c⟩:=aB h;obtain⟨h1,h2⟩:=aB h;simp only[b2,a.ok h1,b.ok h2,Ap];exact zh c⟩
def DW(n:Int)(a : -18446744073709551616<n/\n<18446744073709551616)(b:R fb ρ (zE eI)):R (b2 su (cB (.int n)) fb) ρ (zE eI):=⟨n*b.v,b.D,λh=>by
 simp only[b2,b.ok h,Ap,cB];exact zh (.inl a)⟩
def La(a:R fa ρ (zE eI))(n:Int)(b : -18446744073709551616<n/\n<18446744073709551616):R (b2 su fa (cB (.int n))) ρ (zE eI):=⟨a.v*n,a.D,λh=>by
 simp only[b2,a.ok h,Ap,cB];exact zh (.inr b)⟩
def Zw(a:R fa ρ (zE eI))(b:R fb ρ (zE eI)):R (b2 qe fa fb) ρ (zE eI):=⟨a.v / b.v,aW (aW a.D b.D) (Z (0<b.v/\b.v<1073741824)),λh=>by
 obtain⟨h,c⟩:=aB h;obtain⟨h1,h2⟩:=aB h;have c:0<b.v/\b.v<1073741824:=c;simp only[b2,a.ok h1,b.ok h2,Ap,i2,zh c]⟩
def oh(a:R fa ρ (zE eI))(n:Int)(b:0<n/\n<1073741824):R (b2 qe fa (cB (.int n))) ρ (zE eI):=⟨a.v / n,a.D,λh=>by
 simp only[b2,a.ok h,Ap,i2,cB,zh b]⟩
def LF(a:R fa ρ (zE eI))(b:R fb ρ (zE eI)):R (b2 iZ fa fb) ρ (zE eI):=⟨a.v%b.v,aW (aW a.D b.D) (Z (0<b.v)),λh=>by
 obtain⟨h,c⟩:=aB h;obtain⟨h1,h2⟩:=aB h;have c:0<b.v:=c;simp only[b2,a.ok h1,b.ok h2,Ap,i2,zh c]⟩
def dB(a:R fa ρ (zE eI))(n:Int)(b:0<n):R (b2 iZ fa (cB (.int n))) ρ (zE eI):=⟨a.v%n,a.D,λh=>by
 simp only[b2,a.ok h,Ap,i2,cB,zh b]⟩
def Zx(a b:Int)(n:Nat)(h:0<=b/\b<=1000/\a.natAbs<18446744073709551616)(c:b.toNat=n):R (b2 YJ (cB (.int a)) (cB (.int b))) ρ (zE eI):=⟨a ^ n,O,λ_=>by
 simp only[b2,Ap,cB];show((if 0<=b/\b<=1000/\a.natAbs<2 ^ 64 then Z (Dt.int (a ^ b.toNat))else O).bind λd=>Z (Bx.z d))=_;rw[zh h,c];rfl⟩
def F6(a:R fa ρ (zE eI))(b:R fb ρ (zE eI)):R (b2 Db fa fb) ρ (zE eB):=⟨decide (b.v<a.v),aW a.D b.D,λh=>by
 obtain⟨h1,h2⟩:=aB h;simp only[b2,a.ok h1,b.ok h2,Ap,i2]⟩
def CD(a:R fa ρ (zE eI))(b:R fb ρ (zE eI)):R (b2 YH fa fb) ρ (zE eB):=⟨decide (b.v<=a.v),aW a.D b.D,λh=>by
 obtain⟨h1,h2⟩:=aB h;simp only[b2,a.ok h1,b.ok h2,Ap,i2]⟩
def WQ(a:R fa ρ (zE eI))(b:R fb ρ (zE eI)):R (b2 D3 fa fb) ρ (zE eB):=⟨decide (a.v<b.v),aW a.D b.D,λh=>by
 obtain⟨h1,h2⟩:=aB h;simp only[b2,a.ok h1,b.ok h2,Ap,D3]⟩
def Vo(x y:AJ):Bool:=decide (x.cps.toList<y.cps.toList)
end
class BA {α:Type} [DecidableEq α] (e:α->Dt) (n:outParam Nat):Prop where
 eq:∀a b,tW (e a) (e b)=some (decide (a=b))
 dp:∀a,q8 (e a)<=n
class C8 {α:Type} (e:α->Dt):Prop where
 l:∀a,tW .non (e a)=some false
 r:∀a,tW (e a) .non=some false
instance:BA eI 1:=⟨λa b=>rfl,λa=>by simp[q8]⟩
instance:BA eB 1:=⟨λa b=>rfl,λa=>by simp[q8]⟩
instance:BA eS 1:=⟨λa b=>rfl,λa=>by simp[q8]⟩
instance:C8 eI:=⟨λa=>rfl,λa=>rfl⟩
instance:C8 eB:=⟨λa=>rfl,λa=>rfl⟩
instance:C8 eS:=⟨λa=>rfl,λa=>rfl⟩
section
variable [DecidableEq α] [DecidableEq β] [DecidableEq γ] [DecidableEq δ] {e:α->Dt}{e':β->Dt}{e'':γ->Dt}{e3:δ->Dt}{l:Nat}
theorem zq[BA e n]:∀xs ys:Y α,jw (xs.map e) (ys.map e)=Z (decide (xs=ys))
 |[],[]=>by simp[jw]
 |[],y::ys=>by simp[jw]
 |x::xs,[]=>by simp[jw]
 |x::xs,y::ys=>by
  simp only[zv,jw,BA.eq,zq xs ys];congr 1;by_cases h:x=y<;>by_cases h':xs=ys<;>simp[h,h']
theorem zu[BA e n]:∀xs:Y α,uy (xs.map e)<=n
 |[]=>by simp[uy]
 |x::xs=>by
  have:=BA.dp (e:=e) x;have:=zu xs;simp only[zv,uy];omega
instance [BA e n]:BA (eL e) (n+1):=⟨λa b=>zq a b,λa=>by simp only[q8];have:=zu (e:=e) a;omega⟩
instance [BA e n]:BA (eT e) (n+1):=⟨λa b=>zq a b,λa=>by simp only[q8];have:=zu (e:=e) a;omega⟩
instance:C8 (eL e):=⟨λa=>rfl,λa=>rfl⟩
instance:C8 (eT e):=⟨λa=>rfl,λa=>rfl⟩
instance:C8 (EZ e):=⟨λa=>rfl,λa=>rfl⟩
instance:C8 (yg e e'):=⟨λa=>rfl,λa=>rfl⟩
instance:C8 (Vm e e' e''):=⟨λa=>rfl,λa=>rfl⟩
instance:C8 (Vn e e' e'' e3):=⟨λa=>rfl,λa=>rfl⟩
instance [BA e n]:BA (EZ e) (n+1):=⟨λa b=>by
 simp only[xR,jw,BA.eq,kG],λa=>by
 have:=BA.dp (e:=e) a;simp only[q8,uy];omega⟩
theorem D5{a b:Nat}(h:a<=n)(h':b<=m):max a b<=max n m:=Nat.max_le.mpr ⟨zl h (Nat.le_max_left ..),zl h' (Nat.le_max_right ..)⟩
theorem EO{a:Nat}(h:a<=n):max a 0<=n:=Nat.max_le.mpr ⟨h,ZO _⟩
instance [BA e n] [BA e' m]:BA (yg e e') (max n m+1):=⟨λa b=>by
 obtain⟨a,a'⟩:=a;obtain⟨b,b'⟩:=b;simp only[xR,jw,BA.eq,KF,dg,kG],λa=>KO (D5 (BA.dp (e:=e) a.1) (EO (BA.dp (e:=e') a.2)))⟩
instance [BA e n] [BA e' m] [BA e'' k]:BA (Vm e e' e'') (max n (max m k)+1):=⟨λa b=>by
 obtain⟨a,a',a2⟩:=a;obtain⟨b,b',b2⟩:=b;simp only[xR,jw,BA.eq,KF,dg,kG],λa=>KO (D5 (BA.dp (e:=e) a.1) (D5 (BA.dp (e:=e') a.2.1) (EO (BA.dp (e:=e'') a.2.2))))⟩
instance [BA e n] [BA e' m] [BA e'' k] [BA e3 l]:BA (Vn e e' e'' e3) (max n (max m (max k l))+1):=⟨λa b=>by
 obtain⟨a,a',a2,a3⟩:=a;obtain⟨b,b',b2,b3⟩:=b;simp only[xR,jw,BA.eq,KF,dg,kG],λa=>KO (D5 (BA.dp (e:=e) a.1) (D5 (BA.dp (e:=e') a.2.1) (D5 (BA.dp (e:=e'') a.2.2.1) (EO (BA.dp (e:=e3) a.2.2.2)))))⟩
instance [BA e n] [C8 e]:BA (eO e) (n+1):=⟨λa b=>by
 cases a with
 |none=>cases b with
  |none=>exact rfl
  |some b=>exact(C8.l (e:=e) b).trans (by simp)
 |some a=>cases b with
  |none=>exact(C8.r (e:=e) a).trans (by simp)
  |some b=>exact(BA.eq (e:=e) a b).trans (by simp),λa=>by
 cases a with
 |none=>show q8 .non<=n+1;simp[q8]
 |some a=>exact eQ (BA.dp (e:=e) a)⟩
end
section
variable{e:α->Dt}{e':β->Dt}
def BO[DecidableEq α][BA e n](c:n<=100)(a:R fa ρ (zE e))(b:R fb ρ (zE e)):R (b2 BI fa fb) ρ (zE eB):=⟨decide (a.v=b.v),aW a.D b.D,λh=>by
 obtain⟨h1,h2⟩:=aB h;have:=BA.dp (e:=e) a.v;simp only[b2,a.ok h1,b.ok h2,Ap,BI,pP,toD,zI,or_self,qf,BA.eq];rw[zh ()]⟩
def F2[DecidableEq α][BA e n](c:n<=100)(a:R fa ρ (zE e))(b:R fb ρ (zE e)):R (b2 Js fa fb) ρ (zE eB):=⟨!decide (a.v=b.v),aW a.D b.D,λh=>by
 obtain⟨h1,h2⟩:=aB h;have:=BA.dp (e:=e) a.v;simp only[b2,a.ok h1,b.ok h2,Ap,Js,pP,toD,zI,or_self,qf,BA.eq];rw[zh ()]⟩
theorem yh(h:nj b=Z ds):toD b=.lst ds/\pP b=false:=by
 cases b with
 |z d=>cases d<;>cases h;exact⟨rfl,rfl⟩
 |l d=>cases h;exact⟨rfl,rfl⟩
 |o d=>cases h;exact⟨rfl,rfl⟩
 |n d=>cases h
 |m d _=>cases h
def ME[DecidableEq α][BA e n](c:n+1<=100)(a:RL fa ρ e)(b:RL fb ρ e):R (b2 BI fa fb) ρ (zE eB):=⟨decide (a.v=b.v),aW a.D b.D,λh=>by
 obtain⟨h1,h2⟩:=aB h;have:=BA.dp (e:=eL e) a.v;simp only[b2,a.ok h1,b.ok h2,Ap,BI,(yh a.lk).1,(yh a.lk).2,(yh b.lk).1,(yh b.lk).2,zI,or_self,qf];have e1:=BA.eq (e:=eL e) a.v b.v;rw[zh (zl (Nat.min_le_left _ _) (zl (BA.dp (e:=eL e) a.v) c)),e1,Ap]⟩
def sO(a b:Dt):Bool:=(tW a b).getD false
def Lb(a b:Dt):Prop:=(tW a b).isSome=true/\min (q8 a) (q8 b)<=100
def Cm(a:R fa ρ (zE eD))(b:R fb ρ (zE eD)):R (b2 BI fa fb) ρ (zE eB):=⟨sO a.v b.v,aW (aW a.D b.D) (Z (Lb a.v b.v)),λh=>by
 obtain⟨h,c⟩:=aB h;obtain⟨h1,h2⟩:=aB h;obtain⟨c,d⟩:Lb a.v b.v:=c;simp only[b2,a.ok h1,b.ok h2,Ap,BI,pP,toD,zI,or_self,qf,zh d];cases e:tW a.v b.v with
 |none=>rw[e]at c;cases c
 |some k=>simp only[sO,e,Ap,cS];exact zh d⟩
def Gc(a:R fa ρ (zE eD))(b:R fb ρ (zE eD)):R (b2 Js fa fb) ρ (zE eB):=⟨!sO a.v b.v,aW (aW a.D b.D) (Z (Lb a.v b.v)),λh=>by
 obtain⟨h,c⟩:=aB h;obtain⟨h1,h2⟩:=aB h;obtain⟨c,d⟩:Lb a.v b.v:=c;simp only[b2,a.ok h1,b.ok h2,Ap,Js,pP,toD,zI,or_self,qf,zh d];cases e:tW a.v b.v with
 |none=>rw[e]at c;cases c
 |some k=>simp only[sO,e,Ap,cS];exact zh d⟩
def Q5(a:R fa ρ (zE (eO e)))(b:∀x,yP (.z (e x))=false):R (b2 YQ fa (cB .non)) ρ (zE eB):=⟨a.v.isNone,a.D,λh=>by
 simp only[b2,a.ok h,Ap,cB,YQ];cases c:a.v with
 |none=>rfl
 |some x=>simp only[Option.isNone_some,b]⟩
def yj(a:R fa ρ (zE (eO e)))(b:∀x,yP (.z (e x))=false):R (b2 wL fa (cB .non)) ρ (zE eB):=⟨a.v.isSome,a.D,λh=>by
 simp only[b2,a.ok h,Ap,cB,wL];cases c:a.v with
 |none=>rfl
 |some x=>simp only[bP,b,bE]⟩
def wU(a:R fa ρ (zE eB))(b:R fb ρ (zE eB)):R (yJ fa fb) ρ (zE eB):=⟨a.v&&b.v,aW a.D (xJ (a.v=true) b.D),λh=>by
 obtain⟨h1,h2⟩:=aB h;simp only[yJ,a.ok h1,Ap,yI];cases c:a.v with
 |true=>simp only[QA,eg];exact b.ok (jd h2 c)
 |false=>simp only[zI,qf,bv]⟩
def MY(a:R fa ρ (zE eB)):R (Uk fa) ρ (zE eB):=⟨!a.v,a.D,λh=>by simp only[Uk,a.ok h,Ap,yI]⟩
def Hg(a:R fa ρ (zE eB)):R (tV fa) ρ tE:=⟨a.v,a.D,λh=>by simp only[tV,a.ok h,Ap,Ui]⟩
def eZ{g:Bx->Bx->S Bx}(a:R (b2 g fa fb) ρ (zE eB)):R (uD g fa fb) ρ tE:=⟨a.v,a.D,λh=>by simp only[uD,a.ok h,Ap,yI]⟩
def NP(a:R p ρ tE)(b:R q ρ tE):R (Ti p q) ρ tE:=⟨a.v||b.v,aW a.D (xJ (a.v=false) b.D),λh=>by
 obtain⟨h1,h2⟩:=aB h;simp only[Ti,a.ok h1,Ap];cases c:a.v with
 |true=>simp only[QA,Bool.true_or]
 |false=>simp only[zI,qf,ef];exact b.ok (jd h2 c)⟩
def zA(a:R p ρ tE):R (Ao p) ρ tE:=⟨!a.v,a.D,λh=>by simp only[Ao,a.ok h,Ap]⟩
def Hn{g g':Bx->Bx->S Bx}(a:R (b2 g fa fb) ρ (zE eB))(b:R (b2 g' fb fc) ρ (zE eB)):R (DA g g' fa fb fc) ρ (zE eB):=⟨a.v&&b.v,aW a.D (xJ (a.v=true) b.D),λh=>by
 obtain⟨h1,e⟩:=aB h;have e1:=a.ok h1;simp only[b2]at e1;obtain⟨x,ex,e1⟩:=AT e1;obtain⟨y,c,e1⟩:=AT e1;simp only[DA,ex,c,Ap,e1,yI];cases d:a.v with
 |true=>
  have e2:=b.ok (jd e d);simp only[b2,c,Ap]at e2;simp only[QA,eg];exact e2
 |false=>simp only[zI,qf,bv]⟩
end
section
variable{ε:Type}{fd:Ev->S Bx}{e:α->Dt}{e':β->Dt}{e'':γ->Dt}{e3:δ->Dt}
def Zy(e:α->Dt):R (cQ fB aG) ρ (zE (eT e)):=⟨[],O,λ_=>J⟩
def Zz(a:R fa ρ (zE e)):R (cQ fB (ao fa aG)) ρ (zE (EZ e)):=⟨a.v,a.D,λh=>by
 simp only[cQ,ao,aG,a.ok h,Ap];rfl⟩
def sS(a:R fa ρ (zE e))(b:R fb ρ (zE e')):R (cQ fB (ao fa (ao fb aG))) ρ (zE (yg e e')):=⟨(a.v,b.v),aW a.D b.D,λh=>by
 obtain⟨h1,h2⟩:=aB h;simp only[cQ,ao,aG,a.ok h1,b.ok h2,Ap];rfl⟩
def DX(a:R fa ρ (zE e))(b:R fb ρ (zE e'))(c:R fc ρ (zE e'')):R (cQ fB (ao fa (ao fb (ao fc aG)))) ρ (zE (Vm e e' e'')):=⟨(a.v,b.v,c.v),aW a.D (aW b.D c.D),λh=>by
 obtain⟨h1,h⟩:=aB h;obtain⟨h2,d⟩:=aB h;simp only[cQ,ao,aG,a.ok h1,b.ok h2,c.ok d,Ap];rfl⟩
def DY(a:R fa ρ (zE e))(b:R fb ρ (zE e'))(c:R fc ρ (zE e''))(d:R fd ρ (zE e3)):R (cQ fB (ao fa (ao fb (ao fc (ao fd aG))))) ρ (zE (Vn e e' e'' e3)):=⟨(a.v,b.v,c.v,d.v),aW a.D (aW b.D (aW c.D d.D)),λh=>by
 obtain⟨h1,h⟩:=aB h;obtain⟨h2,h⟩:=aB h;obtain⟨g,f⟩:=aB h;simp only[cQ,ao,aG,a.ok h1,b.ok h2,c.ok g,d.ok f,Ap];rfl⟩
def dO(e:α->Dt):R aG ρ (λxs:Y α=>xs.map (zE e)):=⟨[],O,λ_=>J⟩
def aJ(a:R fa ρ (zE e))(t:R fs ρ (λxs:Y α=>xs.map (zE e))):R (ao fa fs) ρ (λxs:Y α=>xs.map (zE e)):=⟨a.v::t.v,aW a.D t.D,λh=>by
 obtain⟨h1,h2⟩:=aB h;simp only[ao,a.ok h1,t.ok h2,Ap,zv]⟩
theorem uJ:∀xs:Y α,Dh (xs.map (zE e))=Z (xs.map e)
 |[]=>rfl
 |x::xs=>by simp only[zv,Dh,uJ xs,Ap]
def qu(t:R fs ρ (λxs:Y α=>xs.map (zE e)))(a:t.v.length<=1000):R (cQ qZ fs) ρ (oE e):=⟨t.v,t.D,λh=>by
 simp only[cQ,t.ok h,Ap,qZ,zd,zh a,uJ]⟩
def ZC(t:R fs ρ (λxs:Y α=>xs.map (zE e)))(a:t.v.length<=1000):R (cQ fB fs) ρ (zE (eT e)):=⟨t.v,t.D,λh=>by
 simp only[cQ,t.ok h,Ap,fB,zd,zh a,uJ]⟩
def lC(t:R fs ρ (λxs:Y Dt=>xs.map (zE eD)))(a:t.v.length<=1000):R (cQ fB fs) ρ (zE eD):=⟨.tup t.v,t.D,λh=>by
 simp only[cQ,t.ok h,Ap,fB,zd,zh a,uJ,List.map_id_fun',id]⟩
def As[Inhabited α](xs:Y α)(i:Int):α:=(yG xs i).getD default
def In(n:Nat)(i:Int):Prop:=-(n:Int)<=i/\i<n
theorem qK{xs:Y α}{i:Int}(h:In xs.length i):∃x,yG xs i=Z x:=by
 obtain⟨h1,h2⟩:=h;unfold yG Ym;by_cases a:0<=i
 ·rw[zh a,zh h2];exact⟨xs[i.toNat]'(),z5 ()⟩
 ·rw[zo a,zh h1];exact⟨xs[(i+xs.length).toNat]'(),z5 ()⟩
theorem ZD{xs:Y α}{i:Int}{x:α}(h:yG xs i=Z x):yG (xs.map e) i=Z (e x):=by
 unfold yG at h ⊢;rw[zd];obtain⟨j,a,h⟩:=AT h;rw[a,Ap,q5,h];rfl
theorem Q6[Inhabited α]{xs:Y α}{i:Int}(h:In xs.length i):yG (xs.map e) i=Z (e (As xs i)):=by
 obtain⟨x,hx⟩:=qK h;rw[ZD hx];unfold As;rw[hx];rfl
theorem Vq{i:Int}(h:nj b=Z ds):fG b (.z (.int i))=(yG ds i).bind λd=>Z (.z d):=by
 cases b with
 |z d=>cases d<;>cases h;rfl
 |l d=>cases h;rfl
 |o d=>cases h;rfl
 |n d=>cases h
 |m d _=>cases h
def jW[Inhabited α](a:RL fa ρ e)(b:R fb ρ (zE eI)):R (b2 fG fa fb) ρ (zE e):=⟨As a.v b.v,aW (aW a.D b.D) (Z (In a.v.length b.v)),λh=>by
 obtain⟨h,c⟩:=aB h;obtain⟨h1,h2⟩:=aB h;simp only[b2,a.ok h1,b.ok h2,Ap,Vq a.lk,Q6 (show In a.v.length b.v from c)]⟩
def Hh[Inhabited α](a:R fa ρ (zE (eT e)))(b:R fb ρ (zE eI)):R (b2 fG fa fb) ρ (zE e):=⟨As a.v b.v,aW (aW a.D b.D) (Z (In a.v.length b.v)),λh=>by
 obtain⟨h,c⟩:=aB h;obtain⟨h1,h2⟩:=aB h;simp only[b2,a.ok h1,b.ok h2,Ap,fG,qg,Q6 (show In a.v.length b.v from c)]⟩
def ch(x:AJ)(i:Int):AJ:=⟨#[(yG x.cps.toList i).getD 0]⟩
def Ld(a:R fa ρ (zE eS))(b:R fb ρ (zE eI)):R (b2 fG fa fb) ρ (zE eS):=⟨ch a.v b.v,aW (aW a.D b.D) (Z (In a.v.length b.v)),λh=>by
 obtain⟨h,c⟩:=aB h;obtain⟨h1,h2⟩:=aB h;obtain⟨x,hx⟩:=qK (xs:=a.v.cps.toList) (i:=b.v) (show In a.v.length b.v from c);simp only[b2,a.ok h1,b.ok h2,Ap,fG,hx,ch,cS]⟩
def fY(d:Dt)(i:Int):Dt:=match fG (.z d) (.z (.int i))with|some (.z y)=>y|_=>.non
def Ai(d:Dt)(i:Int):Prop:=match d with
 |.tup ds=>In ds.length i
 |.lst ds=>In ds.length i
 |.str x=>In x.length i
 |_=>False
def lV(a:R fa ρ (zE eD))(b:R fb ρ (zE eI)):R (b2 fG fa fb) ρ (zE eD):=⟨fY a.v b.v,aW (aW a.D b.D) (Z (Ai a.v b.v)),λh=>by
 obtain⟨h,d⟩:=aB h;obtain⟨h1,h2⟩:=aB h;have d:Ai a.v b.v:=d;simp only[b2,a.ok h1,b.ok h2,Ap];show fG (.z a.v) (.z (.int b.v))=Z (.z (fY a.v b.v));unfold fY;cases e:a.v with
 |tup ds=>
  rw[e]at d;obtain⟨x,hx⟩:=qK (show In ds.length b.v from d);simp only[fG,qg,Ap,hx]
 |lst ds=>
  rw[e]at d;obtain⟨x,hx⟩:=qK (show In ds.length b.v from d);simp only[fG,qg,Ap,hx]
 |str x=>
  rw[e]at d;obtain⟨c,hx⟩:=qK (xs:=x.cps.toList) (show In x.length b.v from d);simp only[fG,Ap,hx]
 |non=>rw[e]at d;exact absurd d id
 |bl _=>rw[e]at d;exact absurd d id
 |int _=>rw[e]at d;exact absurd d id
 |emp=>rw[e]at d;exact absurd d id⟩
def lD(a:R fa ρ (zE e))(g:α->β)(e':β->Dt)(i:Int)(h:∀x,fG (.z (e x)) (.z (.int i))=Z (.z (e' (g x)))):R (b2 fG fa (cB (.int i))) ρ (zE e'):=⟨g a.v,a.D,λb=>by
 simp only[b2,a.ok b,Ap,cB,h]⟩
def BF(xs:Y α)(lo hi:S Int):Y α:=(xs.drop (HT.gY xs.length 0 lo)).take (HT.gY xs.length xs.length hi-HT.gY xs.length 0 lo)
theorem Lf(xs:Y α)(lo hi:S Int):Be (xs.map e) lo hi=(BF xs lo hi).map e:=by
 unfold Be BF;rw[zd,List.map_take,List.map_drop]
abbrev pE:S Int->S Int:=λo=>o
def zB:R jx ρ pE:=⟨O,O,λ_=>J⟩
def zF(a:R fa ρ (zE eI)):R (iM fa) ρ pE:=⟨Z a.v,a.D,λh=>by simp only[iM,a.ok h,Ap,YZ]⟩
variable{fl fh:Ev->S (S Int)}
theorem Vr{lo hi:S Int}(h:nj b=Z ds):Y0 b lo hi=Z (.o (Be ds lo hi)):=by
 cases b with
 |z d=>cases d<;>cases h;rfl
 |l d=>cases h;rfl
 |o d=>cases h;rfl
 |n d=>cases h
 |m d _=>cases h
def Fu(a:RL fa ρ e)(l:R fl ρ pE)(u:R fh ρ pE):R (yR fa fl fh) ρ (oE e):=⟨BF a.v l.v u.v,aW a.D (aW l.D u.D),λh=>by
 obtain⟨h1,h⟩:=aB h;obtain⟨h2,b⟩:=aB h;simp only[yR,a.ok h1,l.ok h2,u.ok b,Ap,Vr a.lk,Lf]⟩
def Hi(a:R fa ρ (zE (eT e)))(l:R fl ρ pE)(u:R fh ρ pE):R (yR fa fl fh) ρ (zE (eT e)):=⟨BF a.v l.v u.v,aW a.D (aW l.D u.D),λh=>by
 obtain⟨h1,h⟩:=aB h;obtain⟨h2,b⟩:=aB h;simp only[yR,a.ok h1,l.ok h2,u.ok b,Ap,Y0,Lf]⟩
def Lg(a:R fa ρ (zE eS))(l:R fl ρ pE)(u:R fh ρ pE):R (yR fa fl fh) ρ (zE eS):=⟨Txt.slice a.v l.v u.v,aW a.D (aW l.D u.D),λh=>by
 obtain⟨h1,h⟩:=aB h;obtain⟨h2,b⟩:=aB h;simp only[yR,a.ok h1,l.ok h2,u.ok b,Ap,Y0]⟩
def IY(a:R fa ρ (zE (eT e))):R (b2 Nq fa (b1 Ar (cB (.int 1)))) ρ (zE (eT e)):=⟨a.v.reverse,a.D,λh=>by
 simp only[b2,b1,a.ok h,Ap,cB,Ar,Nq,QA,zE,eT,List.map_reverse]⟩
def Av(n:Nat):Prop:=n<=1000000
def Ea(a:R fa ρ (zE eS))(b:R fb ρ (zE eS)):R (b2 fD fa fb) ρ (zE eS):=⟨a.v++b.v,aW (aW a.D b.D) (Z (Av (a.v.length+b.v.length))),λh=>by
 obtain⟨h,c⟩:=aB h;obtain⟨h1,h2⟩:=aB h;simp only[b2,a.ok h1,b.ok h2,Ap,fD,zh (show a.v.length+b.v.length<=Jt from c)]⟩
def Q7(a:R fa ρ (zE (eT e)))(b:R fb ρ (zE (eT e))):R (b2 fD fa fb) ρ (zE (eT e)):=⟨a.v++b.v,aW (aW a.D b.D) (Z (Av (a.v.length+b.v.length))),λh=>by
 obtain⟨h,c⟩:=aB h;obtain⟨h1,h2⟩:=aB h;simp only[b2,a.ok h1,b.ok h2,Ap,fD,zd,zh (show a.v.length+b.v.length<=Jt from c),zE,eT,ZI]⟩
theorem Q8{e:Bx}{f:Y Dt}(h:nj b=Z ds)(h':nj e=Z f)(c:ds.length+f.length<=Jt):fD b e=Z (.o (ds++f)):=by
 cases b with
 |z d=>
  cases d<;>cases h;cases e with
  |z a=>cases a<;>cases h';exact zh c
  |l a=>cases h';exact zh c
  |o a=>cases h';exact zh c
  |n a=>cases h'
  |m a=>cases h'
 |l d=>
  cases h;cases e with
  |z a=>cases a<;>cases h';exact zh c
  |l a=>cases h';exact zh c
  |o a=>cases h';exact zh c
  |n a=>cases h'
  |m a=>cases h'
 |o d=>
  cases h;cases e with
  |z a=>cases a<;>cases h';exact zh c
  |l a=>cases h';exact zh c
  |o a=>cases h';exact zh c
  |n a=>cases h'
  |m a=>cases h'
 |n d=>cases h
 |m d _=>cases h
def JC(a:RL fa ρ e)(b:RL fb ρ e):R (b2 fD fa fb) ρ (oE e):=⟨a.v++b.v,aW (aW a.D b.D) (Z (Av (a.v.length+b.v.length))),λh=>by
 obtain⟨h,c⟩:=aB h;obtain⟨h1,h2⟩:=aB h;simp only[b2,a.ok h1,b.ok h2,Ap];rw[Q8 a.lk b.lk (by rw[zd,zd];exact c)];simp only[oE,ZI]⟩
def ZF(a:R fa ρ (zE eS))(b:R fb ρ (zE eI)):R (b2 su fa fb) ρ (zE eS):=⟨Txt.mul a.v b.v,aW (aW a.D b.D) (Z (b.v<=1000 ∧ -1000<=b.v/\a.v.length<=1000)),λh=>by
 obtain⟨h,c⟩:=aB h;obtain⟨h1,h2⟩:=aB h;simp only[b2,a.ok h1,b.ok h2,Ap];exact zh c⟩
theorem Q9(h:nj b=Z ds):q9 [b]=Z (.z (.int ds.length)):=by
 cases b with
 |z d=>cases d<;>cases h;rfl
 |l d=>cases h;rfl
 |o d=>cases h;rfl
 |n d=>cases h
 |m d _=>cases h
theorem Ra(h:nj b=Z ds):qg b=Z ds:=by
 cases b with
 |z d=>cases d<;>cases h;rfl
 |l d=>cases h;rfl
 |o d=>cases h;rfl
 |n d=>cases h
 |m d _=>cases h
def CU(a:RL fa ρ e):R (cQ q9 (ao fa aG)) ρ (zE eI):=⟨(a.v.length:Int),a.D,λh=>by
 simp only[cQ,ao,aG,a.ok h,Ap,Q9 a.lk,zd]⟩
def sU(a:R fa ρ (zE eS)):R (cQ q9 (ao fa aG)) ρ (zE eI):=⟨(a.v.length:Int),a.D,λh=>by
 simp only[cQ,ao,aG,a.ok h,Ap,q9]⟩
def uK(a:RL fa ρ e):R (cQ n6 (ao fa aG)) ρ (zE (eT e)):=⟨a.v,a.D,λh=>by
 simp only[cQ,ao,aG,a.ok h,Ap,n6,Ra a.lk]⟩
def LN(a:R fa ρ (zE eI)):R (cQ Qo (ao fa aG)) ρ (zE eI):=⟨if a.v<0 then -a.v else a.v,a.D,λh=>by
 simp only[cQ,ao,aG,a.ok h,Ap,Qo]⟩
def ZG(a:R fa ρ (zE eB)):R (cQ Qp (ao fa aG)) ρ (zE eI):=⟨if a.v=true then 1 else 0,a.D,λh=>by
 simp only[cQ,ao,aG,a.ok h,Ap,Qp]⟩
theorem vM:∀l:Y Bool,yS (l.map eB)=Z l
 |[]=>rfl
 |a::l=>by simp only[zv,yS,vM l,Ap]
def Hj(a:RL fa ρ eB):R (cQ By (ao fa aG)) ρ (zE eB):=⟨a.v.all id,a.D,λh=>by
 simp only[cQ,ao,aG,a.ok h,Ap,By,a.lk,vM]⟩
def HH(a:RL fa ρ eB):R (cQ C9 (ao fa aG)) ρ (zE eB):=⟨a.v.any id,a.D,λh=>by
 simp only[cQ,ao,aG,a.ok h,Ap,C9,a.lk,vM]⟩
def LW(a:R fa ρ (zE eI))(b:R fb ρ (zE eI)):R (cQ Qu (ao fa (ao fb aG))) ρ (zE eI):=⟨if b.v<a.v then b.v else a.v,aW a.D b.D,λh=>by
 obtain⟨h1,h2⟩:=aB h;simp only[cQ,ao,aG,a.ok h1,b.ok h2,Ap,Qu]⟩
theorem BT:∀l:At,yW (l.map eS)=Z l
 |[]=>rfl
 |a::l=>by simp only[zv,yW,BT l,Ap]
def ZJ(s:AJ)(a:RL fa ρ eS):R (b1 (GR s) fa) ρ (zE eS):=⟨Txt.join s a.v,aW a.D (Z ((a.v.map (·.length)).sum+a.v.length*s.length<=100000)),λh=>by
 obtain⟨h,b⟩:=aB h;simp only[b1,a.ok h,Ap,GR,a.lk,BT];exact zh b⟩
def Vs(a:RL fa ρ eS):R (cQ GQ (ao fa aG)) ρ (oE eS):=⟨wN a.v,aW a.D (Z (a.v.length<64)),λh=>by
 obtain⟨h,b⟩:=aB h;simp only[cQ,ao,aG,a.ok h,Ap,GQ,a.lk,BT];exact zh b⟩
def Hl(a:R fa ρ (zE e))(g:α->β)(e':β->Dt)(lo hi:S Int)(c:fl ρ=Z lo)(d:fh ρ=Z hi)(h:∀x,Y0 (.z (e x)) lo hi=Z (.z (e' (g x)))):R (yR fa fl fh) ρ (zE e'):=⟨g a.v,a.D,λb=>by
 simp only[yR,a.ok b,c,d,Ap,h]⟩
def JD(a:R f ρ (zE e))(g:α->β)(e':β->Dt)(h:∀x,e x=e' (g x)):R f ρ (zE e'):=⟨g a.v,a.D,λb=>by rw[a.ok b];exact congrArg (λd=>Z (Bx.z d)) (h a.v)⟩
def NQ:Dt->Int
 |.int i=>i
 |_=>0
def Aw:Dt->AJ
 |.str x=>x
 |_=>⟨#[]⟩
def ou(a:R f ρ (zE eD))(g:Dt->α)(e:α->Dt):R f ρ (zE e):=⟨g a.v,aW a.D (Z (a.v=e (g a.v))),λb=>by
 obtain⟨h1,h2⟩:=aB b;have h2:a.v=e (g a.v):=h2;rw[a.ok h1];show Z (Bx.z a.v)=Z (Bx.z (e (g a.v)));rw[<-h2]⟩
class Ct {α:Type} (e:α->Dt):Prop where
 f:∀a,Qm (e a)=true
instance:Ct eI:=⟨λ_=>rfl⟩
instance:Ct eB:=⟨λ_=>rfl⟩
instance:Ct eS:=⟨λ_=>rfl⟩
end
structure AR {γ:Type} (cA:γ->List Bx->Prop) (fs:Ev->Option (List Bx)) (ρ:Ev) where
 v:γ
 D:Option Prop
 bs:List Bx
 h:cA v bs
 ok:B4 D->fs ρ=some bs
section
variable{ε σ:Type}{fd:Ev->S Bx}{e:α->Dt}{e':β->Dt}{e'':γ->Dt}{e3:δ->Dt}
def aN:Unit->Y Bx->Prop:=λ_ a=>a=[]
def aZ(e:α->Dt)(t:γ->Y Bx->Prop):α×γ->Y Bx->Prop:=λx a=>∃r,a=.z (e x.1)::r/\t x.2 r
def aL(e:α->Dt)(t:γ->Y Bx->Prop):Y α×γ->Y Bx->Prop:=λx a=>∃b r,a=b::r/\nj b=Z (x.1.map e)/\t x.2 r
def bx:AR aN aG ρ:=⟨gd,O,[],rfl,λ_=>J⟩
def bf{t:γ->Y Bx->Prop}(a:R fa ρ (zE e))(r:AR t fs ρ):AR (aZ e t) (ao fa fs) ρ:=⟨(a.v,r.v),aW a.D r.D,_,⟨_,rfl,r.h⟩,λh=>by
 obtain⟨h1,h2⟩:=aB h;simp only[ao,a.ok h1,r.ok h2,Ap]⟩
def Ho{t:γ->Y Bx->Prop}(a:RL fa ρ e)(r:AR t fs ρ):AR (aL e t) (ao fa fs) ρ:=⟨(a.v,r.v),aW a.D r.D,_,⟨_,_,rfl,a.lk,r.h⟩,λh=>by
 obtain⟨h1,h2⟩:=aB h;simp only[ao,a.ok h1,r.ok h2,Ap]⟩
def AZ{b:γ->Y Bx->Prop}{c:α->Bx}{T:γ->α}{d:γ->Option Prop}(S:∀v bs,b v bs->bs.length=n/\(B4 (d v)->F (bs.map B9)=Z (c (T v))))(a:AR b fs ρ):R (bR n F fs) ρ c:=⟨T a.v,aW a.D (d a.v),λh=>by
 obtain⟨h1,h2⟩:=aB h;obtain⟨f,e⟩:=S a.v a.bs a.h;simp only[bR,a.ok h1,Ap,zh f,e h2]⟩
theorem ZK{bs:Y Bx}{c:α->Bx}(x:R g (bs.map Z++aa (n-bs.length) O) (λr=>An.rt (c r)))(h:B4 x.D):eY n g bs=Z (c x.v):=by
 unfold eY;rw[x.ok h];rfl
def Rb(xs:Y α)(P:α->S Prop):S Prop:=Z (∀x∈xs,B4 (P x))
theorem uL{fs:Ev->S (Y Dt)}{c:Ev}{g:α->Y Dt}{π:α->Bool}:∀xs:Y α,(∀x∈xs,∃a,gt (e x) c=Z a/\p a=Z (π x)/\(π x=true->fs a=Z (g x)))->vG gt p fs c (xs.map e)=Z ((xs.filter π).flatMap g)
 |[],_=>rfl
 |x::xs,h=>by
  obtain⟨a,h1,h2,d⟩:=h x (zt ..);have b:=uL (g:=g) (π:=π) xs λy f=>h y (zr _ f);cases hp:π x with
  |true=>simp only[zv,vG,h1,Ap,h2,hp,QA,d hp,b,jn,QO]
  |false=>simp only[zv,vG,h1,Ap,h2,hp,b,jn,zI,qf]
theorem Hq{g:α->β}:∀xs:Y α,xs.flatMap (λx=>[e' (g x)])=(xs.map g).map e'
 |[]=>rfl
 |x::xs=>by rw[QO,Hq xs];rfl
theorem uM{b:Ev}{g:α->β}{π:α->Bool}(xs:Y α)(h:∀x∈xs,∃a,gt (e x) b=Z a/\p a=Z (π x)/\(π x=true->fe a=Z (.z (e' (g x))))):Bv gt p fe b (xs.map e)=Z (((xs.filter π).map g).map e'):=by
 rw[<-Hq];exact uL xs λx hx=>let ⟨a,h1,h2,h3⟩:=h x hx;⟨a,h1,h2,λhp=>by rw[h3 hp];rfl⟩
theorem Bz{b:Ev}{g:α->β}(xs:Y α)(h:∀x∈xs,∃a,gt (e x) b=Z a/\fe a=Z (.z (e' (g x)))):Bv gt mO fe b (xs.map e)=Z ((xs.map g).map e'):=
 (uM (π:=λ_=>true) xs λx hx=>let ⟨a,h1,h2⟩:=h x hx;⟨a,h1,rfl,λ_=>h2⟩).trans (by rw[ba.mpr λ_ _=>J])
def oA(it:R fi ρ (iE e))(a:α->Ev)(d:∀x,gt (e x) (kY is ρ++aa n O)=Z (a x))(b:∀x,R fe (a x) (zE e')):R (dN fi gt mO fe is n) ρ (oE e'):=⟨it.v.map λx=>(b x).v,aW (aW it.D (Z (it.v.length<=100000))) (Rb it.v λx=>(b x).D),λh=>by
 obtain⟨h,c⟩:=aB h;obtain⟨h1,h2⟩:=aB h;have c:∀x∈it.v,B4 (b x).D:=c;simp only[dN,it.ok h1,Ap,zd,zh (show it.v.length<=100000 from h2),Bz it.v λx hx=>⟨a x,d x,(b x).ok (c x hx)⟩]⟩
def yp(it:R fi ρ (iE e))(a:α->Ev)(c:∀x,gt (e x) (kY is ρ++aa n O)=Z (a x))(b:∀x,R fe (a x) (zE e'))(d:∀x,(b x).D=O):R (dN fi gt mO fe is n) ρ (oE e'):=⟨it.v.map λx=>(b x).v,aW it.D (Z (it.v.length<=100000)),λh=>by
 obtain⟨h1,h2⟩:=aB h;simp only[dN,it.ok h1,Ap,zd,zh (show it.v.length<=100000 from h2),Bz it.v λx hx=>⟨a x,c x,(b x).ok (by rw[d x];trivial)⟩]⟩
def qL(it:R fi ρ (iE e))(a:α->Ev)(d:∀x,gt (e x) (kY is ρ++aa n O)=Z (a x))(t:∀x,R p (a x) tE)(b:∀x,R fe (a x) (zE e')):R (dN fi gt p fe is n) ρ (oE e'):=⟨(it.v.filter λx=>(t x).v).map λx=>(b x).v,aW (aW it.D (Z (it.v.length<=100000))) (Rb it.v λx=>aW (t x).D (xJ ((t x).v=true) (b x).D)),λh=>by
 obtain⟨h,c⟩:=aB h;obtain⟨h1,h2⟩:=aB h;have c:∀x∈it.v,B4 (aW (t x).D (xJ ((t x).v=true) (b x).D)):=c;simp only[dN,it.ok h1,Ap,zd,zh (show it.v.length<=100000 from h2),uM it.v λx hx=>⟨a x,d x,(t x).ok (aB (c x hx)).1,λf=>(b x).ok (jd (aB (c x hx)).2 f)⟩]⟩
def Hr(it:R fi ρ (iE e))(a:α->Ev)(c:∀x,gt (e x) (kY is ρ++aa n O)=Z (a x))(t:∀x,R p (a x) tE)(b:∀x,R fe (a x) (zE e'))(d:∀x,(t x).D=O)(f:∀x,(b x).D=O):R (dN fi gt p fe is n) ρ (oE e'):=⟨(it.v.filter λx=>(t x).v).map λx=>(b x).v,aW it.D (Z (it.v.length<=100000)),λh=>by
 obtain⟨h1,h2⟩:=aB h;simp only[dN,it.ok h1,Ap,zd,zh (show it.v.length<=100000 from h2),uM it.v λx hx=>⟨a x,c x,(t x).ok (by rw[d x];trivial),λ_=>(b x).ok (by rw[f x];trivial)⟩]⟩
def Ax(a:RL fa ρ e):R (yV fa) ρ (iE e):=⟨a.v,a.D,λh=>by
 have:Uw a.b=Z (a.v.map e):=by
  have:=a.lk
  revert this
  generalize a.b=b;generalize a.v.map e=ds;intro this;cases b with
  |z d=>cases d<;>cases this;rfl
  |l d=>cases this;rfl
  |o d=>cases this;rfl
  |n d=>cases this
  |m d _=>cases this
 simp only[yV,a.ok h,Ap,this]⟩
def Eb(a:R fa ρ (zE (eT e))):R (yV fa) ρ (iE e):=⟨a.v,a.D,λh=>by simp only[yV,a.ok h,Ap,Uw]⟩
def GS(a:R fa ρ (oE e)):R (Y9 fa) ρ (iE e):=⟨a.v,a.D,λh=>by simp only[Y9,a.ok h,Ap,Ur]⟩
def MQ(a:R fa ρ (zE (eT e))):R (Y9 fa) ρ (iE e):=⟨a.v,a.D,λh=>by simp only[Y9,a.ok h,Ap,Ur]⟩
def rng(i:Int)(n:Nat):Y Int:=(ap n).map λk:Nat=>i+(k:Int)
theorem Ed(i:Int)(n:Nat):Jl i n=(rng i n).map eI:=by
 unfold Jl rng;rw[ZE];rfl
def Rg(j:Int):Prop:=-4611686018427387904<=j/\j<4611686018427387904
def zG(a:R fa ρ (zE eI)):R (Jb (ao fa aG)) ρ (iE eI):=⟨rng 0 a.v.toNat,aW a.D (Z (Rg a.v)),λh=>by
 obtain⟨h,b⟩:=aB h;simp only[Jb,ao,aG,a.ok h,Ap];show(if -(2 ^ 62)<=a.v/\a.v<2 ^ 62 then Z (Jl 0 a.v.toNat)else O)=_;exact(zh b).trans (by rw[Ed])⟩
def ZL(n:Int)(m:Nat)(b:n.toNat=m)(a:Rg n):R (Jb (ao (cB (.int n)) aG)) ρ (iE eI):=⟨rng 0 m,O,λ_=>by
 simp only[Jb,ao,aG,Ap,cB];show(if -(2 ^ 62)<=n/\n<2 ^ 62 then Z (Jl 0 n.toNat)else O)=_;exact(zh a).trans (by rw[Ed,b])⟩
def Lc(a:R fa ρ (zE eI))(b:R fb ρ (zE eI)):R (EH (ao fa (ao fb aG))) ρ (iE eI):=⟨rng a.v (b.v-a.v).toNat,aW (aW a.D b.D) (Z (Rg a.v/\Rg b.v)),λh=>by
 obtain⟨h,c⟩:=aB h;obtain⟨h1,h2⟩:=aB h;simp only[EH,ao,aG,a.ok h1,b.ok h2,Ap];show(if(-(2 ^ 62)<=a.v/\a.v<2 ^ 62) ∧ -(2 ^ 62)<=b.v/\b.v<2 ^ 62 then Z (Jl a.v (b.v-a.v).toNat)else O)=_;exact(zh c).trans (by rw[Ed])⟩
end
section
variable{ε σ:Type}{fd:Ev->S Bx}{e:α->Dt}{e':β->Dt}{k:Ev->S An}{cO:γ->An}
theorem oF{ρ':Ev}(h:g1 ρ=Z (.nx ρ')):aH g1 k ρ=k ρ':=by
 unfold aH;rw[h];rfl
def cI(x:R (aH g (aH g1 k)) ρ cO):R (aH (aH g g1) k) ρ cO:=⟨x.v,x.D,λh=>by
 rw[<-x.ok h];unfold aH;cases g ρ with
 |none=>rfl
 |some o=>cases o<;>rfl⟩
def dj(x:R k ρ cO):R (aH f9 k) ρ cO:=⟨x.v,x.D,λh=>x.ok h⟩
def eH(x:γ)(h:cO x=.nx (kill is ρ)):R (jc is) ρ cO:=⟨x,O,λ_=>by rw[h];rfl⟩
def cZ{c:α->Bx}(inj:α->γ)(a:R f ρ c)(h:∀x,cO (inj x)=.rt (c x))(b:∀x,Qa (c x)=Z (.rt (c x))):R (aH (fX f) k) ρ cO:=⟨inj a.v,a.D,λd=>by
 have:fX f ρ=Z (.rt (c a.v)):=by unfold fX;rw[a.ok d,Ap,b]
 unfold aH;rw[this,h];rfl⟩
def Rc{c:α->Bx}(i:Nat)(inj:α->γ)(a:α)(hi:ρ[i]?=Z (Z (c a)))(h:∀x,cO (inj x)=.rt (c x))(b:∀x,Qa (c x)=Z (.rt (c x))):R (aH (Di i) k) ρ cO:=⟨inj a,O,λd=>by
 have:Di i ρ=Z (.rt (c a)):=by unfold Di;rw[hi];exact b a
 unfold aH;rw[this,h];rfl⟩
def bW{c:α->Bx}(i:Nat)(a:R f ρ c)(b:∀x,Qc ρ i (c x)=Z (ρ.set i (Z (c x))))(K:∀x,R k (ρ.set i (Z (c x))) cO):R (aH (Au i f) k) ρ cO:=⟨(K a.v).v,aW a.D (K a.v).D,λd=>by
 obtain⟨h1,h2⟩:=aB d;rw[oF (ρ':=ρ.set i (Z (c a.v))) (by unfold Au;rw[a.ok h1,Ap,b,Ap])];exact(K a.v).ok h2⟩
def Lh(a:R f ρ (zE e))(b:α->Ev)(c:∀x,gt (e x) ρ=Z (b x))(K:∀x,R k (b x) cO):R (aH (Nm gt f) k) ρ cO:=⟨(K a.v).v,aW a.D (K a.v).D,λd=>by
 obtain⟨h1,h2⟩:=aB d;rw[oF (ρ':=b a.v) (by unfold Nm;rw[a.ok h1,Ap];simp only[c,Ap])];exact(K a.v).ok h2⟩
def MI(i j:Nat)(a:R fa ρ (zE e))(b:R fb ρ (zE e'))(K:∀x y,R k ((ρ.set i (Z (.z (e x)))).set j (Z (.z (e' y)))) cO):R (aH (Y8 i j (ao fa (ao fb aG))) k) ρ cO:=⟨(K a.v b.v).v,aW (aW a.D b.D) (K a.v b.v).D,λc=>by
 obtain⟨h1,d⟩:=aB c;obtain⟨h1,h2⟩:=aB h1;rw[oF (ρ':=(ρ.set i (Z (.z (e a.v)))).set j (Z (.z (e' b.v)))) (by unfold Y8;simp only[ao,aG,a.ok h1,b.ok h2,Ap,Uo])];exact(K a.v b.v).ok d⟩
def Li(i:Nat)(xs:Y α)(hi:ρ[i]?=Z (Z (.o (xs.map e))))(a:R f ρ (zE e))(K:∀ys:Y α,R k (ρ.set i (Z (.o (ys.map e)))) cO):R (aH (Np i f) k) ρ cO:=⟨(K (xs++[a.v])).v,aW (aW a.D (Z (Av xs.length))) (K (xs++[a.v])).D,λb=>by
 obtain⟨h1,c⟩:=aB b;obtain⟨h1,h2⟩:=aB h1;have h2:xs.length<=1000000:=h2;rw[oF (ρ':=ρ.set i (Z (.o ((xs++[a.v]).map e)))) (by
  unfold Np;rw[a.ok h1,Ap];simp only[Uq,hi,zd,ZI,zv,QI];rw[zh (bS h2 ())])]
 exact(K _).ok c⟩
def jT(t:R p ρ tE)(a:R (aH g1 k) ρ cO)(b:R (aH g2 k) ρ cO):R (aH (wI p g1 g2) k) ρ cO:=⟨if t.v=true then a.v else b.v,aW t.D (aW (xJ (t.v=true) a.D) (xJ (t.v=false) b.D)),λf=>by
 obtain⟨h1,h2⟩:=aB f;obtain⟨h2,g⟩:=aB h2;have e1:∀c,t.v=c->aH (wI p g1 g2) k ρ=aH (if c=true then g1 else g2) k ρ:=λc e=>by
  unfold aH wI;rw[t.ok h1,Ap,e];cases c<;>rfl
 cases d:t.v with
 |true=>rw[e1 true d];simp only[QA];exact a.ok (jd h2 d)
 |false=>rw[e1 false d];simp only[zI,qf];exact b.ok (jd g d)⟩
def Rf(E:σ->Ev)(t:R p ρ tE)(a:R g1 ρ (λs=>An.nx (E s)))(b:R g2 ρ (λs=>An.nx (E s)))(K:∀s,R k (E s) cO):R (aH (wI p g1 g2) k) ρ cO:=⟨(K (if t.v=true then a.v else b.v)).v,aW (aW t.D (aW (xJ (t.v=true) a.D) (xJ (t.v=false) b.D))) (K (if t.v=true then a.v else b.v)).D,λe=>by
 obtain⟨h,d⟩:=aB e;obtain⟨h1,h2⟩:=aB h;obtain⟨h2,f⟩:=aB h2;rw[oF (ρ':=E (if t.v=true then a.v else b.v)) (by
  unfold wI;rw[t.ok h1,Ap];cases c:t.v with
  |true=>simp only[QA];exact a.ok (jd h2 c)
  |false=>simp only[zI,qf];exact b.ok (jd f c))]
 exact(K _).ok d⟩
def vN(step:σ->α->σ)(P:σ->α->S Prop):Y α->σ->Prop
 |[],_=>True
 |x::xs,s=>B4 (P s x)/\vN step P xs (step s x)
theorem zH{gb:Ev->S An}(E:σ->Ev)(a:σ->α->Ev)(b:∀s x,gt (e x) (E s)=Z (a s x))(body:∀s x,R gb (a s x) (λs=>An.nx (E s))):∀(xs:Y α) (s:σ),vN (λs x=>(body s x).v) (λs x=>(body s x).D) xs s->xG gt gb (xs.map e) (E s)=Z (.nx (E (xs.foldl (λs x=>(body s x).v) s)))
 |[],s,_=>rfl
 |x::xs,s,h=>by
  simp only[zv,xG,b,Ap,(body s x).ok h.1,jS];exact zH E a b body xs _ h.2
def Cp(E:σ->Ev)(a:σ)(f:ρ=E a)(it:R fi ρ (iE e))(b:σ->α->Ev)(d:∀s x,gt (e x) (E s)=Z (b s x))(body:∀s x,R gb (b s x) (λs=>An.nx (E s)))(K:∀s,R k (E s) cO):R (aH (nu fi gt gb) k) ρ cO:=⟨(K (it.v.foldl (λs x=>(body s x).v) a)).v,aW (aW it.D (Z (vN (λs x=>(body s x).v) (λs x=>(body s x).D) it.v a))) (K (it.v.foldl (λs x=>(body s x).v) a)).D,λg=>by
 obtain⟨h,c⟩:=aB g;obtain⟨h1,h2⟩:=aB h;rw[oF (ρ':=E (it.v.foldl (λs x=>(body s x).v) a)) (by
  unfold nu;rw[it.ok h1,Ap];subst f;exact zH E b d body it.v a h2)]
 exact(K _).ok c⟩
def ZM(E:σ->Ev)(a:σ)(g:ρ=E a)(it:R fi ρ (iE e))(b:σ->α->Ev)(f:∀s x,gt (e x) (E s)=Z (b s x))(body:∀s x,R gb (b s x) (λs=>An.nx (E s)))(i:∀s x,(body s x).D=O)(K:∀s,R k (E s) cO):R (aH (nu fi gt gb) k) ρ cO:=⟨(K (it.v.foldl (λs x=>(body s x).v) a)).v,aW it.D (K (it.v.foldl (λs x=>(body s x).v) a)).D,λh=>by
 obtain⟨h1,c⟩:=aB h;have h2:∀(xs:Y α) (s:σ),vN (λs x=>(body s x).v) (λs x=>(body s x).D) xs s:=λxs=>by
  induction xs with
  |nil=>intro s;trivial
  |cons x xs d=>intro s;exact⟨by show B4 (body s x).D;rw[i s x];trivial,d _⟩
 rw[oF (ρ':=E (it.v.foldl (λs x=>(body s x).v) a)) (by
  unfold nu;rw[it.ok h1,Ap];subst g;exact zH E b f body it.v a (h2 _ _))]
 exact(K _).ok c⟩
inductive nM (σ τ:Type) where
 |nx (s:σ)|rt (r:τ)|bk (s:σ)|ct (s:σ)
def cC(E:σ->Ev)(c:τ->Bx):nM σ τ->An
 |.nx s=>.nx (E s)
 |.rt r=>.rt (c r)
 |.bk s=>.bk (E s)
 |.ct s=>.ct (E s)
def jl(step:σ->α->nM σ τ):Y α->σ->nM σ τ
 |[],s=>.nx s
 |x::xs,s=>match step s x with
  |.nx s'=>jl step xs s'
  |.ct s'=>jl step xs s'
  |.bk s'=>.nx s'
  |.rt r=>.rt r
def nA(step:σ->α->nM σ τ)(P:σ->α->S Prop):Y α->σ->Prop
 |[],_=>True
 |x::xs,s=>B4 (P s x)/\match step s x with
  |.nx s'=>nA step P xs s'
  |.ct s'=>nA step P xs s'
  |.bk _=>True
  |.rt _=>True
theorem Ef{c:τ->Bx}(E:σ->Ev)(a:σ->α->Ev)(b:∀s x,gt (e x) (E s)=Z (a s x))(body:∀s x,R gb (a s x) (cC E c)):∀(xs:Y α) (s:σ),nA (λs x=>(body s x).v) (λs x=>(body s x).D) xs s->xG gt gb (xs.map e) (E s)=Z (cC E c (jl (λs x=>(body s x).v) xs s))
 |[],s,_=>rfl
 |x::xs,s,h=>by
  obtain⟨h1,h2⟩:=h;dsimp only at h2;simp only[zv,xG,b,Ap,(body s x).ok h1,jl]
  revert h2
  cases(body s x).v with
  |nx s'=>intro h2;exact Ef E a b body xs s' h2
  |ct s'=>intro h2;exact Ef E a b body xs s' h2
  |bk s'=>intro _;rfl
  |rt r=>intro _;rfl
theorem zJ(step:σ->α->nM σ τ):∀(xs:Y α) (s:σ),(∃s',jl step xs s=.nx s')\/∃r,jl step xs s=.rt r
 |[],s=>.inl ⟨s,rfl⟩
 |x::xs,s=>by
  unfold jl;cases step s x with
  |nx s'=>exact zJ step xs s'
  |ct s'=>exact zJ step xs s'
  |bk s'=>exact .inl ⟨s',rfl⟩
  |rt r=>exact .inr ⟨r,rfl⟩
def Bn(r:nM σ τ)(inj:τ->γ)(K:σ->γ):γ:=match r with
 |.rt r=>inj r
 |.nx s=>K s
 |.bk s=>K s
 |.ct s=>K s
def yq(r:nM σ τ)(K:σ->Prop):Prop:=match r with
 |.rt _=>True
 |.nx s=>K s
 |.bk s=>K s
 |.ct s=>K s
def Vt(r:nM σ τ)(K:σ->S Prop):S Prop:=Z (yq r λs=>B4 (K s))
def JF{c:τ->Bx}(E:σ->Ev)(a:σ)(g:ρ=E a)(it:R fi ρ (iE e))(b:σ->α->Ev)(f:∀s x,gt (e x) (E s)=Z (b s x))(body:∀s x,R gb (b s x) (cC E c))(inj:τ->γ)(i:∀r,cO (inj r)=.rt (c r))(K:∀s,R k (E s) cO):R (aH (nu fi gt gb) k) ρ cO:=⟨Bn (jl (λs x=>(body s x).v) it.v a) inj λs=>(K s).v,aW (aW it.D (Z (nA (λs x=>(body s x).v) (λs x=>(body s x).D) it.v a))) (Vt (jl (λs x=>(body s x).v) it.v a) λs=>(K s).D),λj=>by
 obtain⟨h,d⟩:=aB j;obtain⟨h1,h2⟩:=aB h;have e1:nu fi gt gb ρ=Z (cC E c (jl (λs x=>(body s x).v) it.v a)):=by
  unfold nu;rw[it.ok h1,Ap];subst g;exact Ef E b f body it.v a h2
 rcases zJ (λs x=>(body s x).v) it.v a with⟨s',es⟩|⟨r,es⟩
 ·rw[es]at e1 d ⊢;rw[oF e1];exact(K s').ok d
 ·rw[es]at e1 ⊢;show aH (nu fi gt gb) k ρ=Z (cO (inj r));unfold aH;rw[e1,i];rfl⟩
class Ky {κ:Type} (c:κ->AY):Prop where
 inj:∀a b,c a=c b->a=b
abbrev kS:AJ->AY:=Sum.inr
abbrev kI:Int->AY:=Sum.inl
instance:Ky kS:=⟨λ_ _ h=>by cases h;rfl⟩
instance:Ky kI:=⟨λ_ _ h=>by cases h;rfl⟩
abbrev mE(e:α->Dt):Y (AJ×α)->Bx:=λm=>.m (m.map λq=>(kS q.1,e q.2)) O
abbrev nE(e:α->Dt):Y (AJ×α)->Bx:=λm=>.n (m.map λq=>(kS q.1,e q.2))
section
variable [DecidableEq κ] {c:κ->AY}
def look[Inhabited α](m:Y (κ×α))(x:κ):α:=((m.find? λq=>decide (q.1=x)).map (·.2)).getD default
def has(m:Y (κ×α))(x:κ):Bool:=m.any λq=>decide (q.1=x)
def put(m:Y (κ×α))(x:κ)(a:α):Y (κ×α):=if has m x=true then m.map (λq=>if q.1=x then(q.1,a)else q)else m++[(x,a)]
theorem WR[Ky c](a b:κ):decide (c a=c b)=decide (a=b):=by
 by_cases h:a=b
 ·rw[h];simp
 ·rw[zD h,zD λz=>h (Ky.inj (c:=c) _ _ z)]
theorem Rh[Ky c](m:Y (κ×α))(x:κ):GX (m.map λq=>(c q.1,e q.2)) (c x)=((m.find? λq=>decide (q.1=x)).map (·.2)).map e:=by
 unfold GX;rw[List.find?_map];simp only[Option.map_map,Function.comp_def,WR]
theorem Ri[Ky c][Inhabited α]{m:Y (κ×α)}{x:κ}(h:has m x=true):GX (m.map λq=>(c q.1,e q.2)) (c x)=Z (e (look m x)):=by
 rw[Rh];unfold look;unfold has at h;rw[js]at h;obtain⟨q,a,hx⟩:=h;cases b:m.find? λq=>decide (q.1=x)with
 |none=>exact absurd hx (by simpa using List.find?_eq_none.mp b q a)
 |some q=>rfl
theorem Vu[Ky c](m:Y (κ×α))(x:κ)(a:α):Nv (m.map λq=>(c q.1,e q.2)) (c x) (e a)=(put m x a).map λq=>(c q.1,e q.2):=by
 unfold Nv put has;rw[eF];simp only[Function.comp_def,WR];by_cases h:(m.any λq=>decide (q.1=x))=true
 ·rw[zh h,zh h];rw[ZE,ZE];refine kU λq _=>?_;simp only[Function.comp];by_cases b:q.1=x
  ·simp[b]
  ·have h':¬ c q.1=c x:=λz=>b (Ky.inj (c:=c) _ _ z);simp[b,h']
 ·rw[zo h,zo h];simp
end
def Eh[Inhabited α](a:R fa ρ (nE e))(b:R fb ρ (zE eS)):R (b2 uG fa fb) ρ (zE e):=⟨look a.v b.v,aW (aW a.D b.D) (Z (has a.v b.v=true)),λh=>by
 obtain⟨h,d⟩:=aB h;obtain⟨h1,h2⟩:=aB h;simp only[b2,a.ok h1,b.ok h2,Ap,uG,DB,Ri (c:=kS) (show has a.v b.v=true from d)]⟩
end
section
variable{fs:Ev->S At}{e:α->Dt}
theorem Ei(h:nj b=Z ds):qg b=Z ds:=by
 cases b with
 |z d=>cases d<;>first|exact h|(cases h;done)
 |l _=>exact h
 |o _=>exact h
 |n _=>cases h
 |m _ _=>cases h
theorem WT(n:Nat):∃m,m=n:=⟨n,rfl⟩
noncomputable def kN(n:Nat):Nat:=Classical.choose (WT n)
theorem Rj(n:Nat):kN n=n:=Classical.choose_spec (WT n)
noncomputable def Rk(n:Int)(m:Nat)(b:n.toNat=m)(a:Rg n):R (Jb (ao (cB (.int n)) aG)) ρ (iE eI):=⟨rng 0 (kN m),O,λh=>by rw[Rj];exact(ZL n m b a).ok h⟩
end
end P1
namespace P1
open L2 S1 S6
class lW {α:Type} (e:α->Dt) where
 k:α->AY
 ok:∀a,Zj (e a)=some (k a)
 inj:∀a b,k a=k b->a=b
 same:∀a b,K4 (k a) (k b)=true
instance:lW eI:=⟨λi=>.inl i,λ_=>rfl,λa b h=>by cases h;rfl,λ_ _=>rfl⟩
instance:lW eS:=⟨λi=>.inr i,λ_=>rfl,λa b h=>by cases h;rfl,λ_ _=>rfl⟩
class nO {α:Type} (e:α->Dt) where
 k:α->List AY
 ok:∀a,Ce (e a)=some (k a)
 inj:∀a b,k a=k b->a=b
 shp:∀a b,G6 (k a) (k b)=true
 ne:∀a,(k a).isEmpty=false
class ZP {α:Type} (e:α->Dt) [nO e]:Prop where
 tx:∀a,Vi (nO.k e a)=true
section
variable{e:α->Dt}{e':β->Dt}{e'':γ->Dt}{e3:δ->Dt}
instance [lW e] [lW e']:nO (yg e e'):=⟨λq=>[lW.k e q.1,lW.k e' q.2],λq=>by simp only[Ce,Cd,lW.ok,Ap],λa b h=>by
 simp only[di.injEq,and_true]at h;exact KM (lW.inj _ _ h.1) (lW.inj _ _ h.2),λa b=>by simp[G6,lW.same],λ_=>rfl⟩
instance [lW e] [lW e'] [lW e'']:nO (Vm e e' e''):=⟨λq=>[lW.k e q.1,lW.k e' q.2.1,lW.k e'' q.2.2],λq=>by simp only[Ce,Cd,lW.ok,Ap],λa b h=>by
 simp only[di.injEq,and_true]at h;exact KM (lW.inj _ _ h.1) (KM (lW.inj _ _ h.2.1) (lW.inj _ _ h.2.2)),λa b=>by simp[G6,lW.same],λ_=>rfl⟩
instance [lW e] [lW e'] [lW e''] [lW e3]:nO (Vn e e' e'' e3):=⟨λq=>[lW.k e q.1,lW.k e' q.2.1,lW.k e'' q.2.2.1,lW.k e3 q.2.2.2],λq=>by simp only[Ce,Cd,lW.ok,Ap],λa b h=>by
 simp only[di.injEq,and_true]at h;exact KM (lW.inj _ _ h.1) (KM (lW.inj _ _ h.2.1) (KM (lW.inj _ _ h.2.2.1) (lW.inj _ _ h.2.2.2))),λa b=>by simp[G6,lW.same],λ_=>rfl⟩
instance [lW e]:ZP (yg e eS):=⟨λa=>by simp[nO.k,Vi,lW.k]⟩
instance [lW e] [lW e']:ZP (Vm e eS e'):=⟨λa=>by simp[nO.k,Vi,lW.k]⟩
instance [lW e] [lW e'] [lW e'']:ZP (Vn e eS e' e''):=⟨λa=>by simp[nO.k,Vi,lW.k]⟩
variable{fs:Ev->S (Y (Y AY))}
theorem sV[nO e]:∀xs:Y α,sJ (xs.map e)=Z (xs.map (nO.k e))
 |[]=>rfl
 |x::xs=>by simp only[zv,sJ,nO.ok,Ap,sV xs]
def Vv(e:α->Dt)[nO e](a b:α):Bool:=mQ (nO.k e a) (nO.k e b)
def fZ(e:α->Dt)[nO e](xs:Y α):Y α:=xs.mergeSort (Vv e)
theorem jz[nO e](xs:Y α):(fZ e xs).Perm xs:=Qr ..
theorem sW[nO e](xs:Y α):(fZ e xs).Pairwise (λa b=>Vv e a b=true):=QP (le:=Vv e) (λa b c=>lq (nO.k e a) (nO.k e b) (nO.k e c)) (λa b=>lu (nO.k e a) (nO.k e b)) xs
theorem Rm[nO e]{a b:α}(h:Vv e a b=true)(h':Vv e b a=true):a=b:=nO.inj _ _ (qI h h')
theorem Ht[nO e]{xs out:Y α}(hp:out.Perm xs)(hs:out.Pairwise (λa b=>Vv e a b=true)):out=fZ e xs:=qp (λ_ _=>Rm) (hp.trans (jz xs).symm) hs (sW xs)
theorem NT[nO e](xs:Y α):sI (xs.map (nO.k e))=(fZ e xs).map (nO.k e):=by
 refine(BX ((jz xs).map _) (aw.mpr (sW xs))).symm
theorem ZQ[nO e](xs:Y α):(xs.map (nO.k e)).map BQ=xs.map e:=by
 rw[ZE];exact kU λa _=>(G5 (nO.ok a)).symm
end
end P1
namespace P1
open L2
section
variable{fd fk:Ev->S Bx}{e:α->Dt}{e':β->Dt}{k:Ev->S An}{cO:γ->An}
end
section
variable{e:α->Dt}
def j4[DecidableEq α](x:α)(ys:Y α):Bool:=decide (x∈ys)
theorem uN[DecidableEq α]{x:α}{ys:Y α}:j4 x ys=true↔x∈ys:=by unfold j4;rw[Zp]
theorem Ro[DecidableEq α][BA e n](b:n<=60)(x:α)(ys:Y α):QK (e x) (ys.map e)=Z (decide (x∈ys)):=by
 unfold QK;rw[zh]
 ·congr 1;rw[eF,QR,js,Zp];constructor
  ·rintro⟨y,a,h⟩;simp only[Function.comp,BA.eq]at h;by_cases q:y=x
   ·exact q▸a
   ·simp[q,WL]at h
  ·intro h;exact⟨x,h,by simp[Function.comp,BA.eq,WL]⟩
 ·rw[cz,Z3];intro y _;have:=BA.dp (e:=e) y;simp only[Function.comp,BA.eq,bP,eg,Zp];omega
def Lj[DecidableEq α][BA e n](c:n<=60)(a:R fa ρ (zE e))(b:RL fb ρ e):R (b2 Cb fa fb) ρ (zE eB):=⟨j4 a.v b.v,aW a.D b.D,λh=>by
 obtain⟨h1,h2⟩:=aB h;simp only[b2,a.ok h1,b.ok h2,Ap,Cb,Ei b.lk,Ro c,j4]⟩
end
end P1
namespace P1
open L2 S1 S6
def kT(xs:At):Y AY:=xs.map Sum.inr
def IL(a b:At):Bool:=mQ (kT a) (kT b)
section
variable{e:α->Dt}
theorem map_some(e:α->Dt)(xs:Y α):(xs.map Z).map (eO e)=xs.map e:=by rw[ZE];rfl
end
end P1
namespace P1
open L2
section
variable{k:Ev->S An}{cO:α->An}
end
section
variable{e:α->Dt}
end
section
variable{σ:Type}{k:Ev->S An}{cO:γ->An}
end
section
variable{e:α->Dt}
def EG(fs:Ev->S (Y Bx)):Ev->S (Y Dt):=λρ=>(fs ρ).bind Hf
def wV(xs:Y α):Y (Int×α):=(ap xs.length).zipWith (λ(k:Nat) x=>((k:Int),x)) xs
theorem NZ(xs:Y α):QS (xs.map e)=(wV xs).map (yg eI e):=by
 unfold QS wV;rw[zd,dq,fN]
def Vw(a:RL fa ρ e):R (EG (ao fa aG)) ρ (iE (yg eI e)):=⟨wV a.v,a.D,λh=>by
 simp only[EG,ao,aG,a.ok h,Ap,Hf,a.lk,NZ]⟩
end
section
variable{σ:Type}
theorem Ln{step:σ->α->σ}{P:σ->α->S Prop}(I:Nat->σ->Prop):∀(xs:Y α) (m:Nat) (a:σ),I m a->(∀k x s,xs[k]?=Z x->I (m+k) s->B4 (P s x)/\I (m+k+1) (step s x))->vN step P xs a/\I (m+xs.length) (xs.foldl step a)
 |[],m,a,h0,_=>⟨trivial,h0⟩
 |x::xs,m,a,h0,hs=>by
  obtain⟨h1,h2⟩:=hs 0 x a J h0;have:=Ln I xs (m+1) (step a x) h2 λk y s e h=>by
   have:=hs (k+1) y s (by simpa using e) (by rw[show m+(k+1)=m+1+k by omega];exact h);rw[show m+(k+1)+1=m+1+k+1 by omega]at this;exact this
  refine⟨⟨h1,this.1⟩,?_⟩;rw[ZH,show m+(xs.length+1)=m+1+xs.length by omega];exact this.2
theorem Vx{i:Int}{x:Int}(h:(rng i n)[k]?=Z x):x=i+k/\k<n:=by
 unfold rng at h;rw[q5]at h;cases hk:(ap n)[k]? with
 |none=>rw[hk]at h;cases h
 |some j=>
  rw[hk]at h;have a:k<n:=by simpa using(ag.mp hk).1
  have:j=k:=by
   rw[List.getElem?_range a]at hk;cases hk;rfl
  subst this;cases h;exact⟨rfl,a⟩
theorem j5(i:Int)(n:Nat):(rng i n).length=n:=by unfold rng;simp
theorem Lq{i:Int}{x:Int}(h:x∈rng i n):i<=x/\x<i+n:=by
 unfold rng at h;obtain⟨k,hk,rfl⟩:=ae.mp h;have:=aI.mp hk;omega
theorem nC{step:σ->Int->σ}{P:σ->Int->S Prop}(I:Nat->σ->Prop)(n:Nat)(a:σ)(b:I 0 a)(hs:∀(k:Nat) s,k<n->I k s->B4 (P s k)/\I (k+1) (step s k)):vN step P (rng 0 n) a/\I n ((rng 0 n).foldl step a):=by
 have:=Ln (P:=P) I (rng 0 n) 0 a b λk x s e h=>by
  obtain⟨rfl,hk⟩:=Vx e;rw[JY]at h ⊢;rw[cY];exact hs k s hk h
 rw[j5,JY]at this;exact this
theorem Hu{step:Unit->α->nM Unit Bool}{P:Unit->α->S Prop}:∀xs:Y α,(∀x∈xs,B4 (P gd x)/\(step gd x=.nx gd\/step gd x=.ct gd))->jl step xs gd=.nx gd/\nA step P xs gd
 |[],_=>⟨rfl,trivial⟩
 |x::xs,h=>by
  obtain⟨h1,h2⟩:=h x (zt ..);have a:=Hu (P:=P) xs λy b=>h y (zr _ b);rcases h2 with h2|h2
  ·exact⟨by unfold jl;rw[h2];exact a.1,h1,by rw[h2];exact a.2⟩
  ·exact⟨by unfold jl;rw[h2];exact a.1,h1,by rw[h2];exact a.2⟩
theorem vO[Inhabited α]{xs:Y α}{i:Int}(h:In xs.length i):As xs i∈xs:=by
 obtain⟨x,hx⟩:=qK h;unfold As;rw[hx];unfold yG at hx;obtain⟨j,_,hx⟩:=AT hx;exact kK hx
theorem ZR[Inhabited α]{xs:Y α}{x:α}(h:xs[k]?=Z x):As xs (k:Int)=x:=by
 have a:k<xs.length:=(ag.mp h).1;unfold As yG Ym;rw[zh (),zh (),Ap,JJ,h];rfl
theorem vP[Inhabited α](xs:Y α)(k:Nat)(h:k<xs.length):As xs (k:Int)=xs[k]:=ZR (z5 h)
theorem B6{i:Int}(a:0<=i)(h1:i<n):In n i:=⟨by omega,h1⟩
theorem ZS(h:k<n):In n (k:Int):=⟨by omega,by omega⟩
theorem qw{x m:Int}(a:0<m)(h:m<=n):In n (x%m):=B6 (Int.emod_nonneg _ ()) (Int.lt_of_lt_of_le (eG _ a) h)
theorem rM(x:Int){m:Int}(a:0<m):0<=x%m/\x%m<m:=⟨Int.emod_nonneg _ (),eG _ a⟩
theorem uO{j:Int}(a:0<=j)(h1:j<=1000000):Rg j:=⟨by omega,by omega⟩
theorem WW{a b:Int}(c:0<=a)(h1:a<18446744073709551616):E8 a b:=.inl ⟨by omega,h1⟩
theorem Hv{xs:Y α}(h:k<=xs.length):BF xs (Z (k:Int)) O=xs.drop k:=by
 unfold BF;rw[HT.CQ,HT.yF,dk h,ZU (by simp)]
theorem ZV{xs:Y α}(h:k<=xs.length):BF xs O (Z (k:Int))=xs.take k:=by
 unfold BF;rw[HT.CQ,HT.yF,dk h,Nat.sub_zero,List.drop_zero]
theorem lX(x y:AJ):(x++y).length=x.length+y.length:=by
 show(x.cps++y.cps).size=_;rw[ko];rfl
theorem vQ(x:AJ)(i:Int):(ch x i).length=1:=rfl
theorem slice_le(x:AJ)(l u:S Int):(Txt.slice x l u).length<=x.length:=PyProof.Txt.length_slice_le x l u
end
section
variable [Inhabited α] {e:α->Dt}{k:Ev->S An}{cO:γ->An}
end
section
variable{e:α->Dt}{k:Ev->S An}{cO:γ->An}
def MZ(i:Nat)(xs:Y α)(hi:ρ[i]?=Z (Z (.o (xs.map e))))(a:R f ρ (oE e))(K:∀ys:Y α,R k (ρ.set i (Z (.o (ys.map e)))) cO):R (aH (QX i f) k) ρ cO:=⟨(K (xs++a.v)).v,aW (aW a.D (Z (Av (xs.length+a.v.length)))) (K (xs++a.v)).D,λb=>by
 obtain⟨h1,c⟩:=aB b;obtain⟨h1,h2⟩:=aB h1;have h2:xs.length+a.v.length<=1000000:=h2;rw[oF (ρ':=ρ.set i (Z (.o ((xs++a.v).map e)))) (by
  unfold QX;rw[a.ok h1,Ap];show Vl ρ i (.o (a.v.map e))=_;simp only[Vl,hi,zd,ZI];rw[zh (zl h2 ())])]
 exact(K _).ok c⟩
end
section
variable{e:α->Dt}{k:Ev->S An}{cO:γ->An}
end
section
variable{e:α->Dt}
end
section
variable{e:α->Dt}{e':β->Dt}
def WX(ps:Y (AJ×α)):Y (AJ×α):=ps.foldl (λa p=>put a p.1 p.2) []
theorem N5(ps:Y (AJ×α)):QZ (ps.map λp=>(p.1,e p.2))=(WX ps).map λp=>(kS p.1,e p.2):=by
 unfold QZ WX;have:∀(ps a:Y (AJ×α)),(ps.map λp=>(p.1,e p.2)).foldl (λa p=>Nv a (kS p.1) p.2) (a.map λp=>(kS p.1,e p.2))=(ps.foldl (λa p=>put a p.1 p.2) a).map λp=>(kS p.1,e p.2):=by
  intro ps
  induction ps with
  |nil=>intro a;rfl
  |cons p ps b=>
   intro a;simp only[zv,jS];rw[Vu (c:=kS),b]
 exact this ps []
def ZW{e3:γ->Dt}(a:R fa ρ (zE e))(b:R fb ρ (zE e'))(g:α->β->γ)(h:∀x y,fD (.z (e x)) (.z (e' y))=Z (.z (e3 (g x y)))):R (b2 fD fa fb) ρ (zE e3):=⟨g a.v b.v,aW a.D b.D,λc=>by
 obtain⟨h1,h2⟩:=aB c;simp only[b2,a.ok h1,b.ok h2,Ap,zE,h]⟩
end
def RP(f:Ev->S β)(ρ:Ev)(c:α->β)(v:α)(D:S Prop):Prop:=B4 D->f ρ=Z (c v)
theorem R.tp{f:Ev->S β}{c:α->β}{b:α}{a:S Prop}(x:R f ρ c)(d:x.v=b:=by kernel_rfl)(e:x.D=a:=by kernel_rfl):RP f ρ c b a:=λh=>by
 subst d e;exact x.ok h
theorem EJ{p:Y α->Prop}(h:∀a,p [a]):∀us:Y α,us.length=1->p us
 |[a],_=>h a
theorem EI{p:Y α->Prop}(h:∀a b,p [a,b]):∀us:Y α,us.length=2->p us
 |[a,b],_=>h a b
theorem MV{p:Y α->Prop}(h:∀a b c,p [a,b,c]):∀us:Y α,us.length=3->p us
 |[a,b,c],_=>h a b c
theorem NB{p:Y α->Prop}(h:∀a b c d,p [a,b,c,d]):∀us:Y α,us.length=4->p us
 |[a,b,c,d],_=>h a b c d
theorem Mb{p:Y α->Prop}(h:∀a b c d e,p [a,b,c,d,e]):∀us:Y α,us.length=5->p us
 |[a,b,c,d,e],_=>h a b c d e
end P1
namespace P1
open L2 S1
end P1
namespace P1
open L2
section
variable{AS:Y AB}
end
section
variable{ks:Y V}{o:AE}
theorem IG(j:∀f u,X.H₀ a≠Z (.m5 f u))(I:L2.AU X AN σ H s)(e:H a=Z (.m5 o (.lst ks))):L2.AU X AN σ (B8 H a (.lst ks)) s:=by
 have g:∀{b:A1} {u:HO},H b=Z u->u≠.m5 o (.lst ks)->b≠a:=λq n z=>by subst z;rw[e]at q;cases q;exact n rfl
 have h:∀{b:A1},H b=O->b≠a:=λq z=>by subst z;rw[e]at q;cases q
 refine⟨I.ok,I.os,I.bare,⟨I.base.keep,I.base.slot,λb f q n hx=>?_,I.base.there,λb xs q=>?_,λb f u q=>?_,λb ps q=>?_⟩,I.loc,I.cell,?_,λx c q=>?_,λp hp=>?_,λb f q=>?_,I.len⟩
 ·have:=I.base.free b f q n hx;rw[bh (h this)];exact this
 ·have:=I.base.tups b xs q;rw[bh (g this λz=>by cases z)];exact this
 ·have:=I.base.Mz b f u q;rw[bh (λz=>by subst z;exact j _ _ q)];exact this
 ·obtain⟨m,this⟩:=I.base.FP b ps q;exact⟨m,by rw[bh (g this λz=>by cases z)];exact this⟩
 ·have:=I.free;rw[bh (h this)];exact this
 ·have:=I.wF x c q;rw[bh (h this)];exact this
 ·obtain⟨p1,p2,p3⟩:=I.pin p hp;exact⟨p1,by rw[bh (h p2)];exact p2,p3⟩
 ·have st:∀{c:A1} {w:HO},m7 X.prog X.w H s.heap c w->m7 X.prog X.w (B8 H a (.lst ks)) s.heap c w:=λx=>
   x.stay (λ_ _ _ r=>r) (λd r=>by rw[bh (g r λz=>by cases z)];exact r) (λd xs r=>by rw[bh (g r λz=>by cases z)];exact r) λd o' k r=>by rw[bh (g r λz=>by cases z)];exact r
  by_cases i:b=a
  ·subst i;rw[bH]at q;cases q;exact st (I.hok _ _ e).2
  ·rw[bh i]at q;exact st (I.hok _ _ q)
end
section
variable{M0 M1 M2 er:Expr}{f0 f2:Ev->S Bx}{d0 d2:Dt}{z0 z1 z2 z3:Pos}
end
section
variable{st:Y AB}{fr:Ev->S Bx}{i':Nat}{W:Y Nat}{z:Pos}
end
section
variable{a b c:Ev->S An}
end
end P1
namespace P1
open L2 S6
section
variable{kx vx t1 i1 t2 i2:Expr}{f1 f2:Y Expr}{xs:At}{g1 g2:Dt->Ev->S Ev}{p1 p2:Ev->S Bool}{fk:Ev->S Bx}{fi1 fi2:Ev->S (Y Dt)}{fs:Ev->S (Y Dt)}{N:Nat}
def cls2(fi:Ev->S (Y Dt))(gt:Dt->Ev->S Ev)(p:Ev->S Bool)(fs:Ev->S (Y Dt))(is:Y Nat)(n:Nat):Ev->S (Y Dt):=λρ=>(fi ρ).bind λds=>vG gt p fs (kY is ρ++aa n O) ds
def Ej(fi:Ev->S (Y Dt))(gt:Dt->Ev->S Ev)(p:Ev->S Bool)(fs:Ev->S (Y Dt))(is:Y Nat)(n:Nat):Ev->S Bx:=λρ=>(cls2 fi gt p fs is n ρ).bind λout=>if out.length<=100000 then Z (.o out)else O
theorem KJ.no{a:Y Dt}{o:HO}:KJ K D H a o->(∀b u,o≠.m5 b u)/\∀vs,o≠.tup vs:=λ⟨_,e,_⟩=>by subst e;exact⟨λ_ _ z=>(by cases z),λ_ z=>(by cases z)⟩
end
end P1
namespace P1
open L2
section
variable{e:α->Dt}{e':β->Dt}{fs:Ev->S (Y Dt)}
theorem zK{g:α->Y β}:∀xs:Y α,(xs.flatMap g).map e'=xs.flatMap λx=>(g x).map e'
 |[]=>rfl
 |x::xs=>by rw[QO,ZI,zK xs];rfl
def LH(it:R fi ρ (iE e))(a:α->Ev)(c:∀x,gt (e x) (kY is ρ++aa n O)=Z (a x))(b:∀x,R fs (a x) (iE e')):R (cls2 fi gt mO fs is n) ρ (iE e'):=⟨it.v.flatMap λx=>(b x).v,aW it.D (Rb it.v λx=>(b x).D),λh=>by
 obtain⟨h1,h2⟩:=aB h;have h2:∀x∈it.v,B4 (b x).D:=h2;simp only[cls2,it.ok h1,Ap];rw[uL (π:=λ_=>true) (g:=λx=>(b x).v.map e') it.v λx hx=>⟨a x,c x,rfl,λ_=>(b x).ok (h2 x hx)⟩,ba.mpr λ_ _=>J];rw[iE,zK]⟩
def ZX(it:R fi ρ (iE e))(a:α->Ev)(c:∀x,gt (e x) ρ=Z (a x))(t:∀x,R p (a x) tE)(b:∀x,R fe (a x) (zE e')):R (CH fi gt p (Uv fe)) ρ (iE e'):=⟨(it.v.filter λx=>(t x).v).map λx=>(b x).v,aW it.D (Rb it.v λx=>aW (t x).D (xJ ((t x).v=true) (b x).D)),λh=>by
 obtain⟨h1,h2⟩:=aB h;have h2:∀x∈it.v,B4 (aW (t x).D (xJ ((t x).v=true) (b x).D)):=h2;simp only[CH,it.ok h1,Ap];exact uM it.v λx hx=>⟨a x,c x,(t x).ok (aB (h2 x hx)).1,λd=>(b x).ok (jd (aB (h2 x hx)).2 d)⟩⟩
def Vy(a:R (cls2 fi gt p fs is n) ρ (iE e)):R (Ej fi gt p fs is n) ρ (oE e):=⟨a.v,aW a.D (Z (a.v.length<=100000)),λh=>by
 obtain⟨h1,h2⟩:=aB h;simp only[Ej,a.ok h1,Ap,zd,zh (show a.v.length<=100000 from h2)]⟩
end
def hx(h:A6)(a:A1):HO:=.ext λh'=>h'.get? a=h.get? a
section
variable{H2:Hp}{as:Y A1}
end
section
variable{l:A1}{gs:Y (Int×A1×Y Dt)}{k:Int}{x:Dt}{u:V}
end
section
variable{e1 e2 ev:Expr}{f2:Ev->S Bx}{w:AJ}{pw py py2 py3 px p1 p3 p4 pl a1 a2 c1 c2:Pos}
end
end P1
namespace P1
open L2 S6
section
variable{kx vx t1 i1 t2 i2:Expr}{f1 f2:Y Expr}{xs:At}{g1 g2:Dt->Ev->S Ev}{p1 p2:Ev->S Bool}{fk:Ev->S Bx}{fi1 fi2:Ev->S (Y Dt)}
end
end P1
namespace P1
open L2
section
variable{e:α->Dt}{e0:β->Dt}{fd f2:Ev->S Bx}{kk:Ev->S An}{cO:γ->An}
end
section
variable{e:α->Dt}{fs:Ev->S (Y Dt)}
end
section
variable{a:Expr}
end
theorem dD{bs:Y Bx}{c:α->Bx}{v:α}{D:S Prop}(x:RP g (bs.map Z++aa (n-bs.length) O) (λr=>An.rt (c r)) v D)(h:B4 D):eY n g bs=Z (c v):=ZK x.r h
section
variable{e:α->Dt}
end
open PySem.Builtin PySem.Builtin.Str
section
variable{fx:Ev->S Bx}
end
section
variable{g:Ev->S AJ}
end
section
variable{e1 e2 e3:Expr}{gr:Ev->S An}{tR tQ:TS}{xr xj y1 y2:AJ}{AS no:Y AB}{kk:Nat}{p0 p00 p01 p02 q1 q2 pt pj pa px pb pif pf2 px3 a1 c1 pe1 pr a2 pj2 c2 pe2:Pos}
end
section
variable{e:α->Dt}{ea:β->Dt}{eb:δ->Dt}{kk:Ev->S An}{cO:γ->An}
end
end P1
namespace P1
open L2 S1
section
variable{f:A1}{p:Pos}
end
end P1
namespace P1
open L2 S1 S6
theorem EU{p:Y α->Prop}(h:p []):∀us:Y α,us.length=0->p us
 |[],_=>h
section
variable{e:α->Dt}{g:Ev->S Bx}{c:α->Bx}
end
def BV(d:Dt):R (cB d) ρ (zE eD):=pJ d eD d rfl
def B7(i:Int):R (cB (.int i)) ρ (zE eI):=pJ (.int i) eI i rfl
def yr(s:AJ):R (cB (.str s)) ρ (zE eS):=pJ (.str s) eS s rfl
abbrev Nn(K:B5)(n:AJ)(f:A1):Prop:=nsIn K mainGlobals n=Z (Z (.ref f))
abbrev Lk(K:B5)(f:A1)(n:AJ)(st:AB)(d:A0)(b:S A1)(sl:Array (S A0))(kV e pm:A0)(c:S A1)(a ct:A0):Prop:=K.lookup f=Z ⟨d,b,.func (fnOf n n (qG st) (iW st) (aQ st) .none kV e pm c a ct),sl⟩
end P1
namespace P1
open L2
section
variable{e:α->Dt}
end
section
variable{Ex:BB}{outer:Y Env}{L e T:A1}{C fl:A0}{dx:S A1}{Q:Unit->A2->Prop}
end
section
variable{H':Hp}{h':A6}{ch:Y A1}
end
section
variable{g:Array GenState}{d:Drawn}{t:Nat}{fI e:A1}{AS:Y A0}{B:String}
end
section
variable{g:Array GenState}{d:Drawn}{t:Nat}{e:A1}
end
section
variable{g:Array GenState}{d:Drawn}{t:Nat}{e dx:A1}{v:A0}{vs:Array A0}{m:AJ->S A0}
end
section
variable{value:Expr}{tv:TE}{f:AJ}{pos' p:Pos}{B:String}{t:TA}
end
section
variable{f:AJ}{p:Pos}{B:String}
end
section
variable{E:XK}
end
section
variable{Cn f:A1}{iv iy:Nat}{n cn:AJ}{np hp p py pa:Pos}{b0:AB}{suite:Y AB}{ts:A1->TS}{tf:TE}{t:TA}
end
section
variable{d:A1}{fs:Y (AJ×V)}{f:AJ}
end
section
variable{f:AJ}{E:XK}{gy:Ev->S Dt}{p:Pos}{AS a b:Y AB}{B:String}{pc:Ev->S Bool}
end
section
variable{f h:A1}{p q:Pos}
end
end P1
namespace P1
open L2 S6
section
variable{xs:At}
end
section
variable{e2 se:Expr}{fS:Ev->S At}{no AS:Y AB}{tR tQ:TS}{p0 p02 px pb pif pk:Pos}{f:AJ}{E:XK}
end
end P1
namespace P1
open L2
section
variable{e1 e2 e3:Expr}{gr:Ev->S An}{xr xj y1 y2:AJ}{AS no:Y AB}{kk:Nat}{p0 p00 p01 p02 q1 q2 pt pj pa px pb pif pf2 px3 a1 c1 pe1 pr a2 pj2 c2 pe2:Pos}{f:AJ}{E:XK}
end
section
variable{Cn f:A1}{iv:Nat}{n cn:AJ}{np hp p pa:Pos}{b0:AB}{suite:Y AB}{ts:A1->TS}{tf:TE}{t:TA}
end
section
variable{fx:Ev->S Bx}
end
section
variable{l:A1}{xs:Array A0}
end
theorem qF:∀{AQ:Y A0} {a:Y Int},IntsAre AQ a->AX (a.map V.int) AQ
 |_,_,.nil=>.nil
 |_,_,.cons y t h=>.cons ⟨t,rfl⟩ (qF h)
section
variable{e:α->Dt}
end
section
variable{e:α->Dt}{ea:β->Dt}{eb:δ->Dt}
end
section
variable{e:α->Dt}{g:Ev->S β}{c:γ->β}
end
section
variable{E:XK}
end
section
variable{f:AJ}{E:XK}{gy:Ev->S Dt}{p p1 epos:Pos}{AS:Y AB}
end
def Rp:Dt->Bool
 |.non=>true
 |.tup _=>true
 |_=>false
def Fn:Dt->Bool
 |.non=>true
 |_=>false
section
variable{l:Expr}{z:AJ}
end
instance {σ τ:Type} [Inhabited σ]:Inhabited (nM σ τ):=⟨.nx default⟩
section
variable{e:α->Dt}
theorem JG(a:∀x,∃ds,e x=.tup ds)(ys:Y (S α)):(ys.map (eO e)).all Rp=true/\(Fn ∘ eO e)=Option.isNone:=by
 refine⟨?_,?_⟩
 ·rw[Z3];intro d b;obtain⟨o,_,rfl⟩:=ae.mp b;cases o with
  |none=>rfl
  |some x=>obtain⟨ds,q⟩:=a x;show Rp (e x)=true;rw[q];rfl
 ·funext o;cases o with
  |none=>rfl
  |some x=>obtain⟨ds,q⟩:=a x;show Fn (e x)=false;rw[q];rfl
end
section
variable{e2:Expr}{fx fy:Ev->S Bx}
end
section
variable{f:AJ}{E:XK}{gy:Ev->S Dt}{sts AS:Y AB}{p0 p00 p01 p02:Pos}
end
structure DQ (K:B5) (mg:Str->Option Value) (x:Str) (st:Stmt) (ps:At) where
 f:Addr
 fd:FuncData
 F:D6 K x x st f fd
 b:BY K fd ps []
 m:mg x=some (.ref f)
 k:keepIn K (.ref f)=true
def oG{f:A1}{e b:S A1}{i kV m pm d ct:A0}(X:K.In h)(G:h.Ns mainGlobals mg)(a:Nn K x f)(l:Lk K f x st i e sl kV m pm b d ct)(c:codeIn K d x=true)(k:keepIn K (.ref f)=true)(j:∀(kV g pm:A0) (b:S A1) (n ct:A0) (us:Y A0),us.length=ps.length->bindArgs (fnOf x x (qG st) (iW st) (aQ st) .none kV g pm b n ct) ⟨us,[]⟩=pure (ps.zip us):=by intro _ _ _ _ _ _;first|exact P1.EJ λ_=>J|exact P1.EI λ_ _=>J|exact P1.MV λ_ _ _=>J|exact P1.NB λ_ _ _ _=>J|exact P1.Mb λ_ _ _ _ _=>J|exact P1.EU J):DQ K mg x st ps:=
 ⟨f,_,Px l c k,(Px l c k).binds j,mg_of X G a,k⟩
abbrev Ok(P:A3)(w:A4)(base:A6)(d:DQ K mg x st ps)(k n:Nat)(F:Y Bx->S Bx):Prop:=ud P w K mg base Ji k d.f d.fd ps (Qk K n F)
theorem Fw(d:DQ K mg x st ps)(S:cg N ps (aQ st))(h:∀(a:A0) (A:A5) (outer:Y Env) (s:A2) (H:Hp) (E:XK),ni k (A.deeper (AK x (aQ st) s.heap.objs.size d.f a))->(A.deeper (AK x (aQ st) s.heap.objs.size d.f a)).units+100<cLine->N.Nodup->PX (Aj Ji P w K mg base N x (aQ st) d.f a A outer s H E).XC (iW st) g)(c:N.length=n:=by rfl)(e:ps.length=m:=by rfl):Ok P w base d (k+1) m (eY n g):=IM d.F S c e λa A outer s H E b=>h a A outer s H E b (KZ b) S.nd
section
variable{p:Pos}
theorem bZ(d:DQ X.K X.mg x st ps)(G:Ok X.prog X.w X.base d k n F)(h:ni m X.A)(c:Kv X (e::es) fs)(a:Gl X x:=by rfl)(f:k<=m:=by decide)(j:f7 x:=by decide)(i:A9 (e::es) X.env=(false,eval e X.env)::A9 es X.env:=by rfl)(g:(AD pos (A9 es X.env)).any (·.1)=false:=by rfl):QV X (.Call (.Name x p) (e::es) [] pos) (bR n F fs):=
 Ux G (h.mono f) a d.m d.k d.b c j i g
end
theorem DF{q:A3}{loose:At}{d:DefRec}{K:Params->B5}{T:B5->(AJ->S A0)->Type}{F_law:Y Bx->S Bx}(c:∀{K mg},T K mg->DQ K mg "law" st [x])(hk:ni k callerA)(C:d.name ="law")(G:∀(w:A4) (mg:AJ->S A0) (base:A6) (t:T (K w.params) mg),Ok l.prog w base (c t) k 1 F_law)(o:l.most=Z 63)(L:d.params.defaults=[])(h1:∀b:Y Int,b.length<=63->F_law [.z (.lst (b.map .int))]=Z (.z (.bl true)))(h2:∀b:Y Int,b.length<=63->F_law [.l (b.map .int)]=Z (.z (.bl true)))(M:∀(kV g pm:A0) (i:S A1) (j ct u:A0),bindArgs (fnOf "law" "law" (qG st) (iW st) (aQ st) .none kV g pm i j ct) ⟨[u],[]⟩=pure [(x,u)])(p:∀(w:A4) (h:A6),YP w h->(K w.params).In h)(I:∀(w:A4) (h:A6) (mg E:AJ->S A0) (B:ExcName->S A0) (P:At),(K w.params).In h->Top q P B mg E h->∃A,L2.Pq (K w.params) h A)(F:∀(w:A4) (mg:AJ->S A0) (h:A6),(K w.params).In h->h.Ns mainGlobals mg->T (K w.params) mg):
  PySem.W.WalkO q loose XP YP l.row.toRowW d [] (λf vs=>PySem.call f vs):=
 L2.Pu (n:=63) (k:=k) (x:=x) (CX:=Ji) (sp:=λK=>Qk K 1 F_law) o () L hk p (λw mg fa h X N e=>by
  have t:=F w mg h X N;have D:=(c t).m;rw[C,D]at e;cases e;refine⟨(c t).fd,λs u=>?_,λbase _ _=>G w mg base t⟩;obtain⟨oc,od,kV,g,pm,i,j,ct,osl,e,Q,U⟩:=(c t).F.ex;rw[e];exact .of_eq (M kV g pm i j ct u)) (λK H a b v r y=>Zc h1 h2 K H a b v r y) (λ_ _ _ _ z=>z) I
section
variable{f:A1}{sp:A1->Y V->Hp->VK->Prop}{p:Pos}{t:TA}
end
section
variable{p0 p1:Pos}{xs:At}{e:A1}{a:Expr}{ta:TA}
end
section
variable{f:AJ}{E:XK}{p:Pos}
end
section
variable{g:Array GenState}{d:Drawn}{t:Nat}{AS:Y A0}{B:String}
end
section
variable{E:XK}{p:Pos}{B:String}{t:TA}
end
def Eg(j:Int)(ds:Y Dt):Y Dt:=(ap ds.length).zipWith (λk d=>.tup [.int (j+(k:Nat)),d]) ds
section
variable{p kp cp:Pos}{j:Int}{kk:Nat}
end
section
variable{e:α->Dt}
def jr(j:Int)(xs:Y α):Y (Int×α):=(ap xs.length).zipWith (λ(k:Nat) x=>(j+(k:Int),x)) xs
end
section
variable{g:Ev->S AJ}
variable{e:α->Dt}
end
section
variable{e:α->Dt}{σ':Type}
def qE(e:α->Dt):S (Y α)->Bx
 |none=>.z .non
 |some l=>.o (l.map e)
def EE(e:α->Dt):S (Y α)->Bx
 |none=>.z .non
 |some l=>.l (l.map e)
def Vz:R (cB .non) ρ (qE e):=⟨O,O,λ_=>J⟩
def uP(a:R fa ρ (oE e)):R fa ρ (qE e):=⟨Z a.v,a.D,λh=>a.ok h⟩
theorem HR{v:S (Y α)}(h:ρ[i]?=Z (Z (qE e v))):Am ρ i=Z (EE e v):=by
 unfold Am;rw[h];cases v<;>rfl
def Ek(i:Nat)(e:α->Dt)(v:S (Y α))(h:ρ[i]?=Z (Z (qE e v))):R (gv i) ρ (EE e):=⟨v,O,λ_=>HR h⟩
class Rq (c:Option (List α)->Bx) (e:outParam (α->Dt)):Prop where
 d:∀v,toD (c v)=eO (eL e) v/\pP (c v)=false
instance:Rq (qE e) e:=⟨λv=>by cases v<;>exact⟨rfl,rfl⟩⟩
instance:Rq (EE e) e:=⟨λv=>by cases v<;>exact⟨rfl,rfl⟩⟩
instance:Rq (zE (eO (eL e))) e:=⟨λv=>⟨rfl,rfl⟩⟩
def GU[DecidableEq α][BA (eO (eL e)) n]{g f:S (Y α)->Bx}[Rq g e][Rq f e](k:n<=100)(a:R fa ρ g)(b:R fb ρ f):R (b2 BI fa fb) ρ (zE eB):=⟨decide (a.v=b.v),aW a.D b.D,λh=>by
 obtain⟨h1,h2⟩:=aB h;have:=BA.dp (e:=eO (eL e)) a.v;obtain⟨j,i⟩:=Rq.d (c:=g) (e:=e) a.v;obtain⟨d2,m2⟩:=Rq.d (c:=f) (e:=e) b.v;simp only[b2,a.ok h1,b.ok h2,Ap,BI,j,d2,i,m2,zI,or_self,qf,BA.eq];rw[zh ()]⟩
def Lr[DecidableEq α][BA (eO (eL e)) n]{g f:S (Y α)->Bx}[Rq g e][Rq f e](k:n<=100)(a:R fa ρ g)(b:R fb ρ f):R (b2 Js fa fb) ρ (zE eB):=⟨!decide (a.v=b.v),aW a.D b.D,λh=>by
 obtain⟨h1,h2⟩:=aB h;have:=BA.dp (e:=eO (eL e)) a.v;obtain⟨j,i⟩:=Rq.d (c:=g) (e:=e) a.v;obtain⟨d2,m2⟩:=Rq.d (c:=f) (e:=e) b.v;simp only[b2,a.ok h1,b.ok h2,Ap,Js,j,d2,i,m2,zI,or_self,qf,BA.eq];rw[zh ()]⟩
end
theorem N6(l:A1)(items:Array A0)(n:Nat)(a:S A1)(sl:Array (S A0)):
  Meets (Builtin.«enumerate.__new__» ⟨[.type "enumerate", .ref l],[]⟩) (λ_ R s=>s.heap.get? l=Z ⟨.type "tuple",a,.seq items n,sl⟩ ∧
   R (.ok (.ret (.ref (s.heap.push { cls:=.type "tuple_iterator",data:=.fields #[.ref l,.int 0 0] }).objs.size)))
    { s with heap:=(s.heap.push { cls:=.type "tuple_iterator",data:=.fields #[.ref l,.int 0 0] }).push { cls:=.type "enumerate",data:=.fields #[.none,.bool false,.ref s.heap.objs.size,rawInt 0,.none,.none] } }):=
 .of_wp λprog w A R s ⟨hl,h⟩=>by
  obtain⟨hp,g,d,tk,os⟩:=s;have b:=sub_enumerate;have m2:Heap.IsTuple (Shared.heap ⟨hp,g,d,tk,os⟩) l items:=⟨_,hl,rfl,n,rfl⟩
  wp_walk using AutoSeq1.wpAny_loadPart' hl
  refine wpAny_stack_any λst=>zg ?_;split
  ·rename_i c _ _ _ _ _;cases(c==Value.type "enumerate")
   ·wp_walk using AutoSeq1.wpAny_loadPart' hl,Ki m2
    exact⟨_,rfl,h⟩
   ·wp_walk using AutoSeq1.wpAny_loadPart' hl,Ki m2
    exact⟨_,rfl,h⟩
  ·wp_walk using AutoSeq1.wpAny_loadPart' hl,Ki m2
   exact⟨_,rfl,h⟩
theorem Rr{l:A1}{Q:BB}(f:s.heap.IsTuple l items)(h:∀h',IsEnum h' (s.heap.objs.size+1) s.heap.objs.size 0 .none->h'.IsTupleIter s.heap.objs.size l 0->(∀b o,s.heap.get? b=Z o->h'.get? b=Z o)->Q (.ref (s.heap.objs.size+1)) { s with heap:=h' }):
  A7 (A8 prog w) A (call (.type "enumerate") [.ref l]) Q E s:=by
 obtain⟨⟨c,k,m,sl⟩,j,g,n,i⟩:=f;cases g;cases i;refine callType_new F.called_enumerate () (F.typeCall_enumerate_1 _) (F.newCall_enumerate_1 _) (λe=>F.args_object_init_2 e _) F.entry_enumerate_new (N6 l items n k sl) ⟨j,?_⟩;have d:(s.heap.push { cls:=.type "tuple_iterator",data:=.fields #[.ref l,.int 0 0] }).objs.size=s.heap.objs.size+1:=JP ..;show _/\_;rw[d];have a:=zw (s.heap.push { cls:=.type "tuple_iterator",data:=.fields #[.ref l,.int 0 0] }) (o:={ cls:=.type "enumerate",data:=.fields #[.none,.bool false,.ref s.heap.objs.size,rawInt 0,.none,.none] }) rfl;rw[d]at a;exact⟨⟨_,a,rfl⟩,h _ a ⟨_,ze _ (zw _ J),rfl,rfl⟩ λb o x=>ze _ (ze _ x)⟩
theorem Ru{e l:A1}{j:Int}{x n:A0}{Q:S A0->A2->Prop}(f:IsEnum s.heap e it j n)(h:s.heap.IsTupleIter it l i)(m:s.heap.IsTuple l items)(hx:items[i]?=Z x)(g:e≠it)(q:∀h',IsEnumOut h' e it (j+1) x s.heap.objs.size->h'.IsTupleIter it l (i+1)->h'.get? s.heap.objs.size=Z { cls:=.type "tuple",data:=.seq #[.int j s.toks,x] }->(∀b o,b≠e->b≠it->s.heap.get? b=Z o->h'.get? b=Z o)->Q (Z (.ref s.heap.objs.size)) { s with heap:=h',toks:=s.toks+1 }):
  A7 (A8 prog w) A (pyNext (.ref e)) Q E s:=by
 have d:s.TypeIs (.ref e) "enumerate":=⟨_,f,rfl⟩;unfold pyNext;exact zb (KB (jv (name:=Str.ofString "__next__") d ku (ka ku d F.entry_enumerate_next (acs f h m hx g λh' a b c k=>zg (q h' a b c k)) (F.args_enumerate_next_1 _))))
theorem VB{e l:A1}{j:Int}{h:A0}{Q:S A0->A2->Prop}(f:A.handled=O)(c:IsEnum s.heap e it j h)(d:s.heap.IsTupleIter it l i)(g:s.heap.IsTuple l items)(hx:items[i]?=O)(q:∀h',Heap.ExtBut it s.heap h'->Q O { s with heap:=h' }):A7 (A8 prog w) A (pyNext (.ref e)) Q E s:=by
 have a:s.TypeIs (.ref e) "enumerate":=⟨_,c,rfl⟩;unfold pyNext;refine zb (KB (jv (name:=Str.ofString "__next__") a ku (ka ku a F.entry_enumerate_next ?_ (F.args_enumerate_next_1 _))));show A7 _ _ (field (.ref e) 2 >>= _) _ _ _;refine zb (JO c J (x:=.ref it) J (zb (Jz f d g hx λh' x he' ⟨o,ho,hc⟩=>?_)));exact zb (wpAny_isInstance (T :="StopIteration") (b:=true) ⟨o,ho,hc⟩ isSubtype_stop (zg (q _ he')))
def Fk(K:B5)(l:A1)(j:Int):It:=
 ⟨λi H=>∃xs x,tU K H l xs/\xs[i]?=Z x,λi H v H'=>∃p x,H p=O/\(∀xs,tU K H l xs->xs[i]?=Z x)/\v=.ref p/\H'=B8 H p (.tup [.int (j+i),x]),λi H=>∃xs,tU K H l xs/\xs.length<=i⟩
theorem Rv(l e it:A1)(j:Int)(B:e≠it):
  C0 P w K (.Tuple elts x1 tpos) (Fk K l j) [e,it] e (λi h=>(∃c,IsEnum h e it (j+(i:Nat)) c)/\h.IsTupleIter it l i) where
 mem:=by simp
 obj:=λi h st b a=>by
  obtain⟨⟨c,h1⟩,o,h2,_,Q⟩:=st;rcases List.mem_cons.mp a with rfl|a
  ·exact⟨_,h1,λv z=>by cases z⟩
  ·cases af.mp a;exact⟨o,h2,λv z=>by rw[Q]at z;cases z⟩
 keep:=λi h h' st k=>by
  obtain⟨⟨c,h1⟩,h2⟩:=st;exact⟨⟨c,k e (by simp) _ h1⟩,h2.at λo q=>k it (by simp) o q⟩
 item:=by
  intro X r m n C i AN s σ H E I f st t;subst r m n;obtain⟨⟨c,h1⟩,h2⟩:=st;obtain⟨xs,x,d,hx⟩:=t;obtain⟨AQ,y,p,hz⟩:=I.tuple d;obtain⟨u,M,ru⟩:=y.get hx;have fe:=f e (by simp);have fi:=f it (by simp);refine Ru h1 h2 (show s.heap.IsTuple l AQ.toArray from p) (x:=u) (by simpa using M) B λa2 N L hT hk=>⟨_,rfl,?_⟩;refine wpAny_letOwnedTupleGo_enum N λF D g=>?_;have elt:e<s.heap.objs.size:=Zl h1;have a0:it<s.heap.objs.size:=by obtain⟨_,q,_⟩:=h2;exact Zl q
  have a1:F.get? s.heap.objs.size=Z { cls:=.type "tuple",data:=.seq #[.int (j+(i:Nat)) s.toks,u] }:=(g.2 _ (k8 elt)).trans hT;have A:F.IsTupleIter it l (i+1):=L.at λo q=>(g.2 it (kF B)).trans q;have ej:j+(i:Nat)+1=j+((i+1:Nat):Int):=by omega
  refine⟨.ref s.heap.objs.size,B8 H s.heap.objs.size (.tup [.int (j+i),x]),K9 (t':=s.toks+1) I (λb o G n2 q=>(g.2 b G).trans (hk b o G n2 q)) fe fi ⟨_,D⟩ (by obtain⟨o,q,_⟩:=A;exact⟨o,q⟩) ?_,rfl,⟨_,x,I.hok.fresh (zi _),λys W=>by rw[I.Bl W d];exact hx,rfl,rfl⟩,⟨⟨_,by rw[<-ej];exact D⟩,A⟩,λb a=>?_⟩
  ·exact⟨by show 2<=AA;decide,[.int (j+(i:Nat)) s.toks,u],.cons ⟨_,rfl⟩ (.cons ru .nil),_,a1,rfl,⟨_,rfl⟩,rfl⟩
  ·rcases List.mem_cons.mp a with rfl|a
   ·rw[bh (zS elt)];exact fe.1
   ·cases af.mp a;rw[bh (zS a0)];exact fi.1
 done:=by
  intro X r m n C i AN s σ H E I f st t;subst r m n;obtain⟨⟨c,h1⟩,h2⟩:=st;obtain⟨xs,d,hx⟩:=t;obtain⟨AQ,y,p,hz⟩:=I.tuple d;obtain⟨f0,f1,f2,f3,U,f5⟩:=f it (by simp);have hl:=y.length;exact VB (I.ok.hd C) h1 h2 (show s.heap.IsTuple l AQ.toArray from p) (by simp;omega) λh' eb=>⟨rfl,I.turned (t':=s.toks) (λb o a e=>eb b o a e) f0 f1 f3 U f5⟩
 self:=λ_ _ _ _ _ st h=>by
  obtain⟨⟨c,h1⟩,_⟩:=st;exact Kk h1 h
section
variable{p:Pos}
def Mc(K:B5)(ta:TA):TI:=λσ H R=>ta σ H λvs H1=>∃l,vs=[.ref l]/\(∃xs,tU K H1 l xs)/\R (Fk K l 0) H1
theorem Z0{ta:TA}(d:Gl X "enumerate")(j:X.mg "enumerate"=O)(i:PA X [e] ta)(hs:A9 [e] X.env=[(false,eval e X.env)]:=by rfl):PI X (.Tuple elts x1 tpos) (.Call (.Name "enumerate" p) [e] [] pos) (Mc X.K ta):=by
 intro AN s σ H R I h;refine Call_ (pR I d j boot_enumerate (PyProof.Rows.callWith_type1 (gM (i pos AN s σ H _ I h) λus s1 ⟨vs,H1,I1,r1,q1⟩=>?_) hs J));obtain⟨l,rfl,⟨xs,k⟩,q⟩:=q1;obtain⟨u,rfl,g⟩:=BD r1;cases g;obtain⟨AQ,m,p,n⟩:=I1.tuple k;refine Rr (show s1.heap.IsTuple l AQ.toArray from p) λh' c f hk=>?_;refine Kk c ?_;refine⟨s1.heap.objs.size+1,[s1.heap.objs.size+1,s1.heap.objs.size],_,_,H1,rfl,I1.kept (t':=s1.toks) hk,Rv l _ _ 0 (k8 (Nat.lt_succ_self _)),⟨⟨_,by rw[show(0:Int)+((0:Nat):Int)=0 by simp];exact c⟩,f⟩,λb a=>?_,q⟩;rcases List.mem_cons.mp a with rfl|a
 ·exact I1.Gb (kH _) (I1.hok.fresh (kH _))
 ·cases af.mp a;exact I1.Gb (zi _) (I1.hok.fresh (zi _))
def VD:Y Bx->S (Y Dt)
 |[.z (.tup ds)]=>Z (Eg 0 ds)
 |_=>O
theorem VF(g:Gl X "enumerate")(k:X.mg "enumerate"=O)(j:Kv X [e] fs)(hs:A9 [e] X.env=[(false,eval e X.env)]:=by rfl):CM X (.Tuple elts x1 tpos) (.Call (.Name "enumerate" p) [e] [] pos) (λρ=>(fs ρ).bind VD):=⟨λAN s σ H R I q=>by
 refine Z0 g k j.run hs AN s σ H R I ?_;obtain⟨H0,ρ,ds,E,e,q⟩:=q;obtain⟨l,eb,e⟩:=AT e;refine⟨H0,ρ,l,E,eb,λvs H1 h m=>?_⟩;unfold VD at e;split at e
 ·rename_i u;cases e;obtain⟨v,rfl,f⟩:=BG m;simp only[aY,AW]at f;obtain⟨a,i,rfl,b,n⟩:=f;refine⟨a,rfl,⟨i,b⟩,q _ _ h λr hs t d c=>.enT 0 ?_ (n.part d c)⟩;rcases b with (b|⟨o,b⟩)|b
  ·exact .inl (.inl ((c _ _ b).trans b))
  ·exact .inl (.inr ⟨o,(d _ _ _ b).trans b⟩)
  ·exact .inr b
 ·cases e⟩
end
section
variable{e:α->Dt}
def Z1(fs:Ev->S (Y Bx)):Ev->S (Y Dt):=λρ=>(fs ρ).bind VD
def GY(a:R fa ρ (zE (eT e))):R (Z1 (ao fa aG)) ρ (iE (yg eI e)):=⟨jr 0 a.v,a.D,λh=>by
 have b:Eg 0 (a.v.map e)=(jr 0 a.v).map (yg eI e):=by
  unfold Eg jr;rw[zd,dq,fN]
 simp only[Z1,ao,aG,a.ok h,Ap,zE,eT,VD,b]⟩
end
section
variable{e:α->Dt}
end
section
variable{AS:Y AB}{ga:Ev->S An}
end
section
variable{f:A1}{Fa Fb:Y Bx->S Bx}{p spos:Pos}
end
section
variable{e:α->Dt}
end
end P1
namespace P1
open L2 S1 S6
section
variable{e:α->Dt}
def WY(a:R fa ρ (EE e)):R fa ρ (lE e):=⟨a.v.getD [],aW a.D (Z (a.v.isSome=true)),λh=>by
 obtain⟨h1,h2⟩:=aB h;have h2:a.v.isSome=true:=h2;rw[a.ok h1];cases z:a.v with
 |none=>rw[z]at h2;cases h2
 |some l=>rfl⟩
end
end P1
namespace P1
open L2
section
variable{e:α->Dt}
def Hw(a:R fa ρ (qE e)):R (b1 uo fa) ρ (zE (eO (eL e))):=⟨a.v,a.D,λh=>by
 unfold b1;rw[a.ok h];cases a.v<;>rfl⟩
end
section
variable{R:Result->A2->Prop}{I:A1}{wr:Y A1}{P:Nat->A0->Prop}{St:Nat->A6->Prop}
end
section
variable{e:α->Dt}
end
def DE{α:Type}:Y α->Y α
 |[]=>[]
 |x::xs=>x::DE (xs.drop 5)
termination_by l=>l.length
decreasing_by simp;omega
section
variable{st:Expr}{fs:Ev->S Bx}
end
section
variable{e:α->Dt}
end
section
variable{AS:Y AB}{W:Y Nat}
end
section
variable{e:α->Dt}
end
section
variable{st:Y AB}{fr:Ev->S Bx}{W:Y Nat}{z:Pos}{Φ:Hp->Hp->L2.St->Ev->Prop}
end
section
variable{AS:Y AB}
end
end P1
namespace P1
open L2 S6
section
variable{p p' pos':Pos}
end
end P1
namespace P1
open L2 S1
section
variable{T:Y AY->A0->Prop}(inj:∀ k l v,T k v->T l v->k=l)
include inj
end
end P1
namespace P1
open L2 S1 S6
section
variable{e:α->Dt}{e':β->Dt}
end
end P1
namespace P1
open L2
theorem JH{pos':Pos}{c f:A0}(l:Y A0)(h:TriplesOk l)(d:codeAmong pos' (l++[rawInt pos.line,rawInt pos.col,c])=Z f):codeAmong pos' l=Z f\/f=c:=by
 fun_induction TriplesOk l with
 |case1=>
  simp only[kP,codeAmong,rawInt]at d;split at d
  ·cases d;exact .inr rfl
  ·cases d
 |case2 a t b u x AS g=>
  simp only[List.cons_append,codeAmong]at d ⊢;split at d
  ·rename_i e;rw[zh e];exact .inl d
  ·rename_i e;rw[zo e];exact g h d
 |case3 l h1 h2=>exact h.elim
def Z2(K:B5)(c P:A1)(q:AJ):Prop:=∃o vs b tf d tg inF a tt x t,K.lookup c=Z o/\o.cls=.type "code" ∧ o.data=.fields vs/\vs[11]?=Z (.ref P)/\vs.getD 11 .none=.ref P/\vs.getD 18 .none=.str b tf ∧
 vs.getD 7 .none=.int d tg/\vs.getD 9 .none=.bool inF/\vs.getD 10 .none=.int a tt/\c≠P/\vs[1]?=Z (.str x t)/\x∈Tp/\q=x++(".<locals>.<lambda>":AJ)
abbrev xK:HO:=.ext λ_=>True
structure W0 (H:Hp) (f:Addr) (q:Str) (params:Arguments) (body:Expr) (scope:Scope) (clos:List (Str×Addr)) (pm:Value):Prop where
 at_:∃c' ctv oc vs t,H f=some (.m5 (kla_obj "<lambda>" q params body scope clos pm c' ctv) xK)/\H c'=some (.m5 oc xK)/\oc.data=.fields vs/\vs[1]?=some (.str q t)
theorem El{o:AE}(e:h.get? a=Z o):m7 P w H h a (.m5 o xK):=⟨e,trivial,⟨o,e⟩,λ_ _ _ _=>trivial⟩
theorem Rw{c P:A1}{q:AJ}{body:Expr}{y:Y (AJ×A1)}{R:BB}(I:L2.AU X AN σ H s)(hK:Z2 X.K c P q)(a2:X.env.code=.ref c)(hq:X.env.qual++("<lambda>":AJ)=q)(a8:defaultsOf params X.env=([],[]))(a6:closureFor scope X.env=pure y)(h:∀f H' s',L2.AU X AN σ H' s'->AV H H'->H f=O->W0 H' f q params body scope y ((X.mg "__name__").getD .none)->R (.ref f) s'):A7 M A (eval (.Lambda params body scope pos) X.env) R E s:=by
 refine PySem.W.kla_eval a8 ?_;rw[show X.env.qual++("<lambda>":AJ)=q from hq];obtain⟨ps,x,a1,c6⟩:=(I.ok.tabs.go I.base.FP) P q hK.tab;obtain⟨a4,D,B,a3⟩:=I.hok P _ x;have G:s.heap.Ns mainGlobals X.mg:=I.mod.glob.keeps I.bk;have C:=hK.hd I.kIn;obtain⟨U,N,b1,b2,b3,b4,b5,Q⟩:=I.mod.bmain;have c4:mainGlobals≠P:=λz=>by
  obtain⟨o,es,ep,e,i,_⟩:=G;rw[z,D]at e;cases e;cases i
 have p:=I.bk _ _ b3;have F:U≠P:=λz=>by rw[z,D]at p;cases p;cases b4
 have a7:U≠mainGlobals:=λz=>by
  obtain⟨o,es,ep,e,i,_⟩:=G;rw[z,e]at p;cases p;rw[i]at Q;cases Q
 have hB:s.heap.BuiltinsAt X.mg P:=⟨U,N,b1,b2,a7,F,p,b4,b5,Q⟩;cases hf:codeAmong pos (tr ps++a4).toList with
 |some L=>
  obtain⟨c',a,vs,t,rfl,g1,g2,g3⟩:=a3 pos L hf;refine PySem.W.kla_makeFunctionHit (mg:=X.mg) a6 I.ok.glob G a2 C D B hf hB λm h' tk hk c8=>?_;have l:L2.AU X AN σ H { s with heap:=h',toks:=tk }:=I.kept hk;have j:H h'.objs.size=O:=l.hok.fresh (zi _);have k:AV H (B8 H h'.objs.size (.m5 (kla_obj "<lambda>" q params body scope y ((X.mg "__name__").getD .none) c' m) xK)):=bN j;refine h h'.objs.size _ _ (l.laid (t':=tk) (λb u e=>ze _ e) (zi _) (El (zw _ J))) k j ⟨c',m,a,vs,t,bH,k _ _ g1,g2,?_⟩;rw[a1]at g3;exact g3
 |none=>
  refine PySem.W.kla_makeFunction (mg:=X.mg) a6 I.ok.glob G a2 C D B hf c4 hB λc' m h' tk hx a5 b9 b7 a0=>?_;obtain⟨c5,a,vs,t,e2,b8,i,hv⟩:=b7;cases e2;have a9:H c'=O:=I.hok.fresh a5;have nP:∀b,H b=O->b≠P:=λb n z=>by rw[z,x]at n;cases n
  have c9:=a0;have g:AV H (B8 H c' (.m5 a xK)):=bN a9;have u:Un X.fs [] H (B8 H c' (.m5 a xK)) s.heap h':=by
   refine⟨λb o e n _ _=>hx b o (nP b n) e,λb o e n _ _=>⟨o.slots,hx b o (nP b n) e⟩,λb o e n _=>?_,λb o e _=>?_,λb xs e=>g _ _ e,λb o u e=>g _ _ e,λb ps e=>⟨#[],by rw[g _ _ e];simp⟩⟩
   ·rw[bh (zS (qk (Zl e) a5))];exact n
   ·by_cases r:b=P
    ·subst r;exact⟨_,a0⟩
    ·exact⟨o,hx b o r e⟩
  have c0:Tf X.prog X.w (B8 H c' (.m5 a xK)) h':=λb N e=>by
   by_cases r:b=c'
   ·subst r;rw[bH]at e;cases e;exact El b8
   ·rw[bh r]at e;by_cases F:b=P
    ·subst F;rw[x]at e;cases e;refine⟨a4++#[rawInt pos.line,rawInt pos.col,.ref c'],?_,?_,λpos' L z=>?_⟩
     ·rw[<-bX];exact a0
     ·rw[<-bX,br];exact TriplesOk_snoc _ _ _ _ B
     ·rw[<-bX,br]at z;rcases JH _ B z with z|z
      ·obtain⟨d,od,ws,t',e1,e2,e3,e4⟩:=a3 pos' L z;exact⟨d,od,ws,t',e1,g _ _ e2,e3,e4⟩
      ·exact⟨c',a,vs,t,z,bH,i,by rw[a1];exact hv⟩
    ·refine(I.hok b N e).stay (λd v i q'=>hx d v (λz=>?_) q') (λd z=>g _ _ z) (λd xs z=>g _ _ z) λd o φ z=>g _ _ z;subst z;rcases i with z|z
     ·exact F z.symm
     ·rw[x]at z;cases z
  have l:L2.AU X AN σ (B8 H c' (.m5 a xK)) { s with heap:=h',toks:=tk }:=I.un u c0;have j:(B8 H c' (.m5 a xK)) h'.objs.size=O:=l.hok.fresh (zi _);have b0:H h'.objs.size=O:=by rw[bh (k8 b9)]at j;exact j
  have k:AV (B8 H c' (.m5 a xK)) (B8 (B8 H c' (.m5 a xK)) h'.objs.size (.m5 (kla_obj "<lambda>" q params body scope y ((X.mg "__name__").getD .none) c' m) xK)):=bN j;exact h h'.objs.size _ _ (l.laid (t':=tk) (λb u e=>ze _ e) (zi _) (El (zw _ J))) (g.trans k) b0 ⟨c',m,a,vs,t,bH,k _ _ bH,i,hv⟩
def Rx(X:Cx)(scope:Scope)(cl:Y (AJ×A1)):At->Y Nat->Prop
 |[],[]=>True
 |x::xs,i::is=>(X.N[i]?=Z x/\(X.env.kindOf x=Z .cell\/X.env.kindOf x=Z .free)/\scope.names.lookup x=Z .free/\∃c,cl.lookup x=Z c)/\Rx X scope cl xs is
 |_,_=>False
structure Ls (X:Cx) (scope:Scope) (cl:List (Str×Addr)) (x:Str) (xs:At) (is:List Nat):Prop where
 clos:closureFor scope X.env=pure cl
 kind:scope.kind=.function
 co:scope.isCoroutine=false
 gen:scope.isGenerator=false
 W3:∀y∈scope.names,y.2≠.cell
 par:scope.names.lookup x=some .local
 sub:C6 X.env.cells cl
 has:∀y∈scope.names,y.2=.free->∃c,cl.lookup y.1=some c
 cap:Rx X scope cl xs is
def Do(X:Cx)(A:A5)(a:At)(env:Env)(s₀:A2)(H₀:Hp):Cx:=
 { X with A:=A.deeper env,N:=a,s₀:=s₀,H₀:=H₀,env:=env,outer:=X.stack,stack:=env::X.stack,ex:=[],calm:=true,fn:=λ_=>false,pn:=[],xe:=λ_ _=>False }
section
variable{q:AJ}{body:Expr}{xs:At}{f c':A1}{pm:A0}
theorem VG{h1:A6}{t1:Nat}{v:V}(I:L2.AU X AN σ H s)(O:Ls X scope cl x xs is)(L:A.frames=Z X.stack)(N:A.handled=none)(r:B0 v u)(C:h1.Ns s.heap.objs.size (λy=>[(x,u)].reverse.lookup y))(hk:∀b o,s.heap.get? b=Z o->h1.get? b=Z o):
  L2.AU (Do X A (x::xs) (envX q scope s.heap.objs.size f (.ref c') cl) s H) [] (Z v::rY is σ) H { s with heap:=h1,toks:=t1 }:=by
 obtain⟨F,P⟩:=O.cap.get;have t:∀b:A1,b∉(Do X A (x::xs) (envX q scope s.heap.objs.size f (.ref c') cl) s H).ex:=λb z=>absurd (show b∈([]:Y A1) from z) (by simp);have d:∀y c,cl.lookup y=Z c->X.env.cells.lookup y=Z c:=λy c e=>O.sub.get e;refine⟨⟨I.ok.mod,O.kind,rfl,rfl,zi _,λy z c e1 e2=>I.ok.inj y z c (d _ _ e1) (d _ _ e2),λy a=>?_,λy c h _=>absurd h (by show ¬ (false=true);simp),λ_=>N,Around.frames_deeper L,.inr ⟨rfl,rfl⟩,λb z=>absurd z (t b),I.bs,zl I.ok.bsz I.sz,λb _ _=>t b,λb z=>absurd z (t b),I.stack,I.Ut,I.ok.tabs.go I.base.FP⟩,
  rfl,I.bare,Un.kept hk,⟨_,C,λj y w e1 e2 _=>?_⟩,λy c e=>?_,I.hok.fresh (zi _),λy c e=>I.wF y c (d _ _ e),λp hp=>absurd (show p∈([]:Y (A1×AE)) from hp) (by simp),I.hok.kept hk,?_⟩
 ·have a:scope.names.lookup y=Z .cell\/scope.names.lookup y=Z .free:=a;rcases a with a|a
  ·exact absurd J (O.W3 _ (Qb a))
  ·exact O.has _ (Qb a) rfl
 ·cases j with
  |zero=>
   have e1:Z x=Z y:=e1;have e2:Z (Z v)=Z (Z w):=e2;cases e1;cases e2;exact⟨u,r,.inl ⟨O.par,by simp⟩⟩
  |succ j=>
   have e1:xs[j]?=Z y:=e1;have e2:(rY is σ)[j]?=Z (Z w):=e2;obtain⟨i,D,n,k,G,c,B⟩:=P j y e1;have e3:σ[i]?=Z (Z w):=by
    unfold rY at e2;rw[q5,D]at e2;cases q:σ[i]? with
    |none=>rw[bn,q]at e2;cases e2
    |some o=>
     rw[bn,q]at e2;have:o=Z w:=by simpa using e2
     rw[this]
   have Q:Tg X.env.scope y:=by
    rcases k with k|k
    ·exact .inr (.inl k)
    ·exact .inr (.inr k)
   obtain⟨m',a0,U⟩:=I.loc;obtain⟨E,r',l⟩:=U i y w n e3 Q;refine⟨E,r',?_⟩;rcases l with⟨W,_⟩|⟨_,c2,M,K⟩
   ·rcases k with k|k<;>(rw[W]at k;cases k)
   ·have:=d _ _ B;rw[M]at this;cases this;obtain⟨o,g,m⟩:=K;exact .inr ⟨.inr G,_,B,o,hk _ o g,m⟩
 ·obtain⟨v',o,g,m⟩:=I.cell y c (d _ _ e);exact⟨v',o,hk _ _ g,m⟩
 ·show(Z v::rY is σ).length=(x::xs).length;simp[rY,F]
theorem VH{y:Bx}{v:V}(I:L2.AU X AN σ H s)(O:Ls X scope cl x xs is)(hA:A.frames=Z X.stack)(hh:A.handled=none)(N:A.depth<recursionLimit)(L:W0 H f q params body scope cl pm)(P:∀a7 ct u,bindArgs (kla_fn "<lambda>" q params body scope cl pm a7 ct) ⟨[u],[]⟩=pure [(x,u)])(hb:∀f c' s H,PV (Do X A (x::xs) (envX q scope s.heap.objs.size f (.ref c') cl) s H) body fb)(E:eV X.K H0 H σ ρ)(r:B0 v u)(rd:AW X.K H d v)(e:fb (Z (.z d)::kY is ρ)=Z y):
  A7 (f8 X) A (call (.ref f) [u]) (λC s'=>∃g H',L2.AU X AN σ H' s'/\B0 g C/\AV H H'/\Nw H y g/\aY X.K H' y g) (λ_ _=>False) s:=by
 obtain⟨c',a8,oc,vs,t,a1,a2,a3,U⟩:=L.at_;have hf:=(I.hok _ _ a1).1;have hc:=(I.hok _ _ a2).1;refine wpAny_call (PySem.W.kla_callFunE N hf rfl O.co O.gen rfl ⟨c',oc,vs,t,rfl,hc,a3,U⟩ ?_);rw[P];refine zg (wpAny_newFunctionEnv O.W3 (λz hz=>by rw[af.mp hz];exact O.par) (λa6 a5 B=>⟨(I.nolimit).fresh _ B,?_⟩) O.kind);show AF _ _ (.expr body (envX q scope s.heap.objs.size f (.ref c') cl)) _ _;have a0:∀b o,s.heap.get? b=Z o->a6.get? b=Z o:=λb o e=>B.extBut b o (zS (Zl e)) (ze _ e);have J:=VG (t1:=s.toks+1) (c':=c') (f:=f) (q:=q) I O hA hh r a5 a0;have E0:=E.caps is 0;have E1:eV X.K H H (Z v::rY is σ) (Z (.z d)::kY is ρ):=by
  have D:=E0.len;simp only[List.replicate_zero,Q2]at E0 D;refine⟨by simpa using D,λi b e=>?_,λi j c a b e h=>?_,AV.refl H,λi c a e h=>?_⟩
  ·cases i with
   |zero=>cases e;exact⟨v,rfl,rd⟩
   |succ i=>exact E0.val i b (by simpa using e)
  ·cases i with
   |zero=>cases e;cases h
   |succ i=>
    intro h1 h2 F G;cases j with
    |zero=>cases h2;cases F
    |succ j=>rw[E0.own i j c a b (by simpa using e) h (by simpa using h1) (by simpa using h2) F (by simpa using G)]
  ·cases i with
   |zero=>cases e;cases h
   |succ i=>intro h1;exact E0.new i c a (by simpa using e) h (by simpa using h1)
 refine PySem.W.kla_codeExpr (ZZ (hb f c' s H [] _ _ _ (λg H'=>AV H H'/\Nw H y g/\aY X.K H' y g) J ⟨H,_,y,E1,e,λg H' m p n=>⟨m,p,n⟩⟩) (λC s' l=>?_) λe s' l=>l.elim);obtain⟨g,H',k,rv,m,p,n⟩:=l;obtain⟨v2,H2,I2,M,s2,n2,r2⟩:=I.after (Q:=λg H'=>AV H H'/\Nw H y g/\aY X.K H' y g) ⟨g,H',k.os,k.bare,k.base,k.hok,rv,m,p,n⟩;exact⟨v2,H2,I2,M,s2,n2,r2⟩
end
end P1
namespace P1
open L2 S1
def BH(Ry:Dt->Bool)(fk:Dt->S Bx):Y Dt->S (Y (Dt×Dt))
 |[]=>Z []
 |d::ds=>match fk d with
  |some (.z k)=>if Ry k=true then(BH Ry fk ds).bind λr=>Z ((d,k)::r)else O
  |_=>O
theorem nD{H1:Hp}{S:A1}{o:HO}(s:AV H1 H)(h:H1 S=O):AV H1 (B8 H S o):=λa u e=>by
 rw[bh (gk e h)];exact s a u e
theorem JK{Ry:Dt->Bool}{r:Y (Dt×Dt)}(h:BH Ry fk (d::ds)=Z r):∃k a,fk d=Z (.z k)/\Ry k=true/\BH Ry fk ds=Z a/\r=(d,k)::a:=by
 simp only[BH]at h;split at h
 ·rename_i k hk;split at h
  ·rename_i ok;obtain⟨a,e,h⟩:=AT h;cases h;exact⟨k,a,hk,ok,e,rfl⟩
  ·cases h
 ·cases h
theorem Rz{H':Hp}{xs:Y V}(h:rE K H a xs)(s:AV H H'):rE K H' a xs:=by
 rcases h with (h|⟨o,h⟩)|h
 ·exact .inl (.inl (s _ _ h))
 ·exact .inl (.inr ⟨o,s _ _ h⟩)
 ·exact .inr h
section
variable{R:Result->A2->Prop}
end
section
variable{body:Expr}{Z4 p kpos:Pos}{xs:At}{c P:A1}{q:AJ}{bt:Dt->Dt->Bool}{Ry:Dt->Bool}
end
end P1
namespace P1
open L2
end P1
namespace P1
open L2 S1
end P1
namespace P1
open L2 S1 S6
section
variable{e:α->Dt}{e':β->Dt}
theorem Cq{Ry:Dt->Bool}{fk:Dt->S Bx}{g:α->β}(a:∀y,Ry (e' y)=true):∀{xs:Y α},(∀x∈xs,fk (e x)=Z (.z (e' (g x))))->BH Ry fk (xs.map e)=Z (xs.map λx=>(e x,e' (g x)))
 |[],_=>rfl
 |x::xs,h=>by
  rw[zv,BH,h x (zt ..)];simp only[a,QA];rw[Cq a λz b=>h z (zr _ b),Ap];rfl
def hk(q:AJ×β):Y AY:=[.inr q.1]
end
end P1
namespace P1
open L2
section
variable [Inhabited α] {e:α->Dt}{k:Ev->S An}{cO:γ->An}
end
theorem MU{f c:A1}(F:D6 K x qual st f fd)(d:fd.code=.ref c)(S:cg N ps (aQ st))(j:N.length=n)(u:ps.length=m)(z:∀(A:A5) (outer:Y Env) (s:A2) (H:Hp) (E:XK),ni k (A.deeper (AK qual (aQ st) s.heap.objs.size f (.ref c)))->PX (Aj Ji P w K mg base N qual (aQ st) f (.ref c) A outer s H E).XC (iW st) g):
  ud P w K mg base Ji (k+1) f fd ps (Qk K m (eY n g)):=by
 subst j u;obtain⟨U,L,kV,D,pm,M,C,ct,osl,rfl,i,t⟩:=F.ex;have d:C=.ref c:=d;subst d;refine HZ i t S (λvs H Q E h=>h.1) λA outer s H vs Q E o h=>?_;refine⟨_,Kg.XC (z A outer s H E o).run,?_⟩;obtain⟨G,I,r,l,p,e,q⟩:=h;obtain⟨a,er,e⟩:=AT e;refine⟨H,_,a,eV.start l p,er,?_⟩;cases a with
 |rt b=>cases e;exact λv H' s' B a=>q v H' s' B a
 |nx ρ=>cases e;exact λσ H' y=>q _ H' y.base trivial (by unfold aY AW;rfl)
 |bk ρ=>cases e
 |ct ρ=>cases e
section
variable{f:A1}{p:Pos}
end
end P1
namespace P1
open PySem PySem.Spec PySem.Calls PyProof.Rows L2
section
variable{D:Y (AJ×A1)}{k:AJ}{tk:Tok}
end
section
variable{D:Y (AJ×A1)}{dn:AJ}{ek:Expr}{p0 p1 p3 q0 q1 q2 q3:Pos}{AS:Y AB}{fh:Ev->S Bx}
end
end P1
namespace P1
open L2
def qx(o:AE):S (AJ×A1):=match o.data with
 |.fields vs=>match vs[1]?,vs[11]? with
  |some (Value.str x _),Z (Value.ref P)=>if Tp.contains x=true then Z (x,P)else O
  |_,_=>O
 |_=>O
def TN(K:B5):Y (A1×AJ):=K.filterMap λp=>(qx p.2).map λq=>(q.2,q.1)
def FI(x:AJ):Array A0:=#[.str (x++(".<locals>.<lambda>":AJ)) 0]
def Z5(K:B5):Y (A1×Array A0):=(TN K).map λp=>(p.1,FI p.2)
def CA(K:B5)(x:AJ):S A1:=match nsIn K mainGlobals x with
 |some (Z (.ref f))=>match K.lookup f with
  |some a=>match a.data with
   |.func fd=>match fd.code with
    |.ref c=>Z c
    |_=>O
   |_=>O
  |none=>O
 |_=>O
def yt(p:A3)(K:B5)(c:A1)(x:AJ)(P:A1):Bool:=(recsOf p).any (λd=>d.name==x)&&CA K x==Z c&&(K.lookup c).bind qx==Z (x,P)&&(K.lookup P).isNone&&(TN K).lookup P==Z x
def VJ(p:A3)(K:B5):Bool:=K.all λr=>match qx r.2 with
 |none=>true
 |some (x,P)=>yt p K r.1 x P
theorem sX{α β γ:Type}[BEq α]{a:α}(f:β->γ):∀l:Y (α×β),(l.map λp=>(p.1,f p.2)).lookup a=(l.lookup a).map f
 |[]=>rfl
 |(b,c)::l=>by
  simp only[zv,cy];split
  ·rfl
  ·exact sX f l
theorem vR{α β:Type}[BEq α][LawfulBEq α]{a:α}{b:β}:∀{l:Y (α×β)},l.lookup a=Z b->(a,b)∈l
 |[],h=>by cases h
 |(c,d)::l,h=>by
  rw[cy]at h;split at h
  ·rename_i e;cases h;rw[eq_of_beq e];exact zt ..
  ·exact zr _ (vR h)
theorem N7{o:AE}{P:A1}(h:qx o=Z (x,P)):∃vs t,o.data=.fields vs/\vs[1]?=Z (.str x t)/\vs[11]?=Z (.ref P):=by
 unfold qx at h;cases a:o.data with
 |fields vs=>
  rw[a]at h;dsimp only at h;split at h
  ·rename_i y t Q e1 e2;split at h
   ·cases h;exact⟨vs,t,rfl,e1,e2⟩
   ·cases h
  ·cases h
 |_=>rw[a]at h;cases h
theorem CL{p:A3}{F:AJ->S A0}{A:ExcName->S A0}{Q:At}(g:VJ p K=true)(X:K.In h)(T:Top p Q A mg F h):L2.Pq K h (Z5 K):=by
 have n:∀c o x P,(c,o)∈K->qx o=Z (x,P)->yt p K c x P=true:=λc o x P m e=>by
  have:=List.all_eq_true.mp g _ m;simp only[e]at this;exact this
 refine⟨λP q k=>?_,λP ps e=>?_⟩
 ·obtain⟨c,o,vs,x,t,e,d,v,m,f,l⟩:=k;subst l;have er:qx o=Z (x,P):=by
   unfold qx;simp only[d,v,f];rw[zh (bi.mpr m)]
  have z:=n c o x P (vR e) er;simp only[yt,Zs,beq_iff_eq]at z;refine⟨FI x,?_,rfl,Nat.zero_lt_one⟩;unfold Z5;rw[sX,z.2];rfl
 ·unfold Z5 at e;rw[sX]at e;obtain⟨x,ex,rfl⟩:=bc.mp e;have m:=vR ex;obtain⟨⟨c,o⟩,G,i⟩:=eA.mp m;obtain⟨⟨D,w⟩,i,l⟩:=bc.mp i;obtain⟨q1,q2⟩:=Prod.mk.inj l;have q1:w=P:=q1;have q2:D=x:=q2;rw[q1,q2]at i;have z:=n c o x P G i;simp only[yt,Zs,beq_iff_eq,js,cq]at z;obtain⟨⟨⟨⟨⟨d,C,hx⟩,b⟩,u⟩,s⟩,_⟩:=z;obtain⟨a,o1,fd,c1,H,t1,t2,t3,I,_,j⟩:=T.tab d C;rw[hx]at t1;obtain⟨o',M,E⟩:=Option.bind_eq_some_iff.mp u;obtain⟨vs,t,B,_,y⟩:=N7 E;have U:c1=c:=by
   unfold CA at b;split at b
   ·rename_i f N;have:=mg_of X T.g N;rw[t1]at this;cases this;split at b
    ·rename_i ob L;have:=X _ _ L;rw[t2]at this;cases this;split at b
     ·rename_i a0 r;rw[t3]at r;cases r;rw[I]at b;cases b;rfl
     ·cases b
    ·cases b
   ·cases b
  subst U;have pp:H=P:=by
   obtain⟨⟨W,ws,e1,_,e2,e3⟩,_⟩:=j;rw[X _ _ M]at e1;cases e1;rw[B]at e2;cases e2;rw[y]at e3;cases e3;rfl
  subst pp;exact⟨s,j.2,j.isCodeTable,rfl⟩
def Z6(K:B5)(fd:FuncData)(q:AJ):Bool:=match fd.code with
 |.ref c=>match K.lookup c with
  |some o=>match o.data with
   |.fields vs=>o.cls==.type "code" && (match vs[11]?,vs[1]?,vs.getD 18 .none,vs.getD 7 .none,vs.getD 9 .none,vs.getD 10 .none with
    |some (Value.ref P),Z (Value.str x _),Value.str _ _,Value.int _ _,Value.bool _,Value.int _ _=>!(c==P)&&Tp.contains x&&q==x++(".<locals>.<lambda>":AJ)
    |_,_,_,_,_,_=>false)
   |_=>false
  |none=>false
 |_=>false
theorem VL{q:AJ}(h:Z6 K fd q=true):∃c P,fd.code=.ref c/\Z2 K c P q:=by
 unfold Z6 at h;split at h;rotate_left
 ·cases h
 rename_i c n;split at h;rotate_left
 ·cases h
 rename_i o u;split at h;rotate_left
 ·cases h
 rename_i vs r;rw[Zs]at h;obtain⟨h1,h⟩:=h;split at h;rotate_left
 ·cases h
 rename_i P x t f tf i m b j s a e1 e l p g;simp only[Zs,qc,beq_eq_false_iff_ne,ne_eq,beq_iff_eq]at h;obtain⟨⟨h2,k⟩,d⟩:=h;exact⟨c,P,n,o,vs,f,tf,i,m,b,j,s,x,t,u,eq_of_beq h1,r,a,by rw[Array.getD_eq_getD_getElem?,a];rfl,e,l,p,g,h2,e1,bi.mp k,d⟩
theorem Z7{xs:At}(i:closureFor scope X.env=pure cl)(g:scope.kind=.function)(b:scope.isCoroutine=false)(c:scope.isGenerator=false)(h:(scope.names.all λy=>!(y.2==.cell))=true)(j:scope.names.lookup x=Z .local)(f:C6 X.env.cells cl)(has:(scope.names.all λy=>!(y.2==.free)||(cl.lookup y.1).isSome)=true)(d:Rx X scope cl xs is):Ls X scope cl x xs is:=by
 refine⟨i,g,b,c,λy a e=>?_,j,f,λy a e=>?_,d⟩
 ·have:=List.all_eq_true.mp h y a;rw[e]at this;simp at this
 ·have:=List.all_eq_true.mp has y a;rw[e]at this;exact aE.mp (by simpa using this)
section
variable{e:α->Dt}{c:β->Bx}{fh:Ev->S Bx}{k:Ev->S An}{cO:γ->An}{tt:Y (AJ×(Y α->β)×(Y α->S Prop))}
end
end P1
namespace P1
open PySem PySem.Spec PySem.Calls PyProof.Rows L2 S1
section
variable{R:Result->A2->Prop}{I:A1}{wr:Y A1}{P:Nat->A0->Prop}{St:Nat->A6->Prop}
end
theorem vU{h':A6}{AQ:Array A0}(t:iV h a AQ)(k:∀o,h.get? a=Z o->h'.get? a=Z o):iV h' a AQ:=let ⟨o,e,r⟩:=t;⟨o,k _ e,r⟩
end P1
namespace P1
open L2
section
variable{K:Type} [DecidableEq K] {knd:KeyKind prog w K}
theorem Hx{p:A1}{x y:A0}{Q:Y A0->A2->Prop}(hp:iV s.heap p #[x,y])(h:Q [x,y] s):A7 (A8 prog w) A (Builtin.Dict.pairItems (.ref p)) Q E s:=by
 obtain⟨o,a,b,⟨n,c⟩,_⟩:=hp;unfold Builtin.Dict.pairItems;refine zb (JU (T :="tuple") ⟨_,a,b⟩ ?_);rw[zh ()];exact zb (wpAny_seqItems a c (zg h))
end
def sY:Y Dt->S (Y (AJ×Dt))
 |[]=>Z []
 |.tup [.str x,d]::ds=>(sY ds).bind λr=>Z ((x,d)::r)
 |_=>O
theorem zL(I:L2.AU X AN σ H s):∀{ds:Y Dt} {ps:Y (AJ×Dt)} {vs:Y V} {AQ:Y A0},sY ds=Z ps->aU X.K H ds vs->AX vs AQ →
  ∃(us:Y V) (b:Y A0),us.length=ps.length/\b.length=ps.length/\AQ.length=ps.length/\AX us b/\aU X.K H (ps.map (·.2)) us/\(∀p∈ps,p.1.length<=AA) ∧
   ∀(j:Nat) (k:AY) (v:A0),((ps.map λp=>(Sum.inr p.1:AY)).zip b)[j]?=Z (k,v)->∃a x,AQ[j]?=Z (.ref a)/\iV s.heap a #[x,v]/\(dZ X.prog X.w).is k x=true
 |[],ps,vs,AQ,e,r,w=>by
  cases e;simp only[aU]at r;subst r;cases w;exact⟨[],[],rfl,rfl,rfl,.nil,aU.nil,λp h=>(by cases h),λj k v h=>by simp at h⟩
 |d::ds,ps,vs,AQ,e,r,w=>by
  unfold sY at e;split at e
  ·cases ‹_::_=([]:Y Dt)›
  ·rename_i x d0 a0 l;cases l;obtain⟨U,e1,e2⟩:=AT e;cases e2;obtain⟨v,vr,rfl,f,L⟩:∃v r,vs=v::r/\AW X.K H (.tup [.str x,d0]) v/\aU X.K H ds r:=by simpa only[aU]using r
   simp only[AW]at f;obtain⟨p,P,rfl,E,i⟩:=f;simp only[aU]at i;obtain⟨kx,AS,rfl,hk,G,W,rfl,m,rfl⟩:=i;simp only[AW]at hk;obtain⟨rfl,u⟩:=hk;cases w with
   |cons N rw=>
    cases N;obtain⟨us,b,F,D,t,M,A,o,g⟩:=zL I e1 L rw;obtain⟨Q,n,t1⟩:=Md I E;cases n with
    |cons q1 q2=>cases q2 with
     |cons q3 B=>
      cases B;rename_i q C;refine⟨G::us,C::b,by simp[F],by simp[D],by simp[t],.cons q3 M,aU.cons m A,λz c=>?_,λj k v h=>?_⟩
      ·rcases List.mem_cons.mp c with rfl|c
       ·exact u
       ·exact o z c
      ·cases j with
       |zero=>
        simp only[zv,QE,List.getElem?_cons_zero,Option.some.injEq,KF]at h;obtain⟨rfl,rfl⟩:=h;exact⟨p,q,rfl,t1,Ku (k:=Sum.inr x) q1⟩
       |succ j=>
        simp only[zv,QE,KS]at h;obtain⟨a,y,g1,g2⟩:=g j k v h;exact⟨a,y,by simpa using g1,g2⟩
  ·cases e
theorem Lw:∀{ks:Y AY} {us:Y V} {a:Y A0},AX us a->KV (ks.zip us) (ks.zip a)
 |[],_,_,_=>by simp;exact .nil
 |k::ks,_,_,.nil=>by simp;exact .nil
 |k::ks,_,_,.cons r t=>.cons ⟨rfl,r⟩ (Lw t)
end P1
namespace L2
end L2
namespace P1
open L2
section
variable{a b:Expr}
end
end P1
namespace P1
open L2 S1 S6
section
variable{e:α->Dt}{e':β->Dt}{e3:γ->Dt}{k:Ev->S An}{cO:δ->An}
theorem zM:∀xs:Y (AJ×α),sY (xs.map (yg eS e))=Z (xs.map λp=>(p.1,e p.2))
 |[]=>rfl
 |x::xs=>by
  simp only[zv,yg,eS,sY];rw[show sY (xs.map λq=>Dt.tup [.str q.1,e q.2])=_ from zM xs,Ap]
end
end P1
namespace P1
open L2
section
variable{f k v:Expr}{ff fk:Ev->S Bx}{keys:Y (S Expr)}{values:Y Expr}
end
section
variable{e:α->Dt}{fk:Ev->S Bx}
end
end P1
namespace P1
open L2 S1
def VN(bV:Y (Y AY)):Bool:=decide (bV.length<=100000)&&(bV.all (λk=>!k.isEmpty)&&bV.all λk=>bV.all λl=>G6 k l)
def mR:Y Bx->S Bx
 |[b]=>(qg b).bind λds=>(sJ ds).bind λbV=>if VN bV=true then Z (.o ((sI bV).map BQ))else O
 |_=>O
theorem nF:pI X (.builtin "sorted") mR:=by
 intro AN s σ H xs us Q I rx h;obtain⟨bs,c,E,e,q⟩:=h;unfold mR at e;split at e
 ·rename_i b;obtain⟨ds,U,e⟩:=AT e;obtain⟨bV,ek,e⟩:=AT e;split at e
  ·rename_i A;cases e;simp only[VN,Zs,Zp,Z3,qc]at A;obtain⟨C,W,B⟩:=A;obtain⟨v,rfl,r1⟩:=BG E;obtain⟨p,vs,rfl,r,w⟩:=yc r1 U;obtain⟨u,rfl,ru⟩:=BD rx;cases ru;have a2:=qJ ek;subst a2;have L:∃(AQ:Y A0) (o:AE) (T:String) (n:Nat),AX vs AQ/\s.heap.get? p=Z o/\o.cls=.type T/\(T ="list" ∨ T ="tuple")/\o.data=.seq AQ.toArray n/\vs.length<=AA:=by
    rcases r with r|r
    ·obtain⟨AQ,f,pl,j⟩:=I.list r;obtain⟨o,g,c,n,d⟩:=pl.isList;exact⟨AQ,o,_,n,f,g,c,.inl rfl,d,j⟩
    ·obtain⟨AQ,f,⟨o,g,c,n,d⟩,j⟩:=I.tuple r;exact⟨AQ,o,_,n,f,g,c,.inr rfl,d,j⟩
   obtain⟨AQ,o,T,n,f,g,K,hT,M,j⟩:=L;have F:AQ.length=bV.length:=by rw[<-f.length,w.length,zd]
   have tv:=xZ I w f;refine Jx (kd:=tuples' true) (rk:=λv=>Bi bV (BM bV AQ v)) (vs:=AQ) (λE' Q' t=>zc g K hT M (by rw[<-f.length];exact j) t)
    (λh2 E' N s' k Q' t=>Ca (Paired.imp' (λ_ _ z=>rA.keep z k) tv) (λk hk=>by have:=W k hk;cases k with|nil=>cases this|cons _ _=>exact fR _ _) (λk hk l i=>zf (B k hk l i)) () t)
    (λN s' k=>G3 (Paired.imp' (λ_ _ z=>rA.keep z k) tv) λk hk l i=>zf (B k hk l i)) (by rw[F];exact zl C ()) (λ_=>Zr) λl h' tk m st hp up i ext D=>?_
   have out:=Qz tv hp up;have P:∀u∈((AM st).map (·.2)).toList,u∈AQ:=λu y=>by
    rw[cG]at y;obtain⟨pr,a1,rfl⟩:=ae.mp y;have G:pr∈AQ.zip AQ:=by rw[<-pairsOf_toList];exact(ai.mp hp).mem_iff.mp a1
    have:=mem_zip_self G;rw[<-this.1];exact this.2
   obtain⟨zs,z1,z2⟩:=Ci I w f out P;have a0:zs.length=bV.length:=by rw[z2.length,zd,(wO bV).length_eq]
   have x:H l=O:=I.hok.fresh i;refine⟨.ref l,_,I.laid (t':=tk) (a:=l) (o:=.lst zs) ext i ⟨by rw[a0];exact zl C (),_,m,z1,?_⟩,rfl,q _ _ (bN x) (λa ea=>by cases ea;exact x) ⟨l,zs,rfl,bH,z2.kp (.of (bN x))⟩⟩;rw[D]
  ·cases e
 ·cases e
def VP(X:Cx)(A:A5)(σ:L2.St)(H1:Hp)(f:A1)(fk:Dt->S Bx):Prop:=∀(AN:Y (A1×AE)) (s:A2) (H:Hp) (d k:Dt) (v:V) (u:A0),L2.AU X AN σ H s->AV H1 H->B0 v u->AW X.K H d v->fk d=Z (.z k) →
 A7 (f8 X) A (call (.ref f) [u]) (λb s'=>∃a H',L2.AU X AN σ H' s'/\B0 a b/\AV H H'/\AW X.K H' k a) (λ_ _=>False) s
def qy(X:Cx)(kf:Y Dt->S (Y (Y AY))):Prop:=∀(AN:Y (A1×AE)) (σ:L2.St) (H:Hp) (s:A2) (ks:Y Dt) (vs:Y V) (us:Y A0) (bV:Y (Y AY)),L2.AU X AN σ H s->aU X.K H ks vs->AX vs us->kf ks=Z bV →
 ∃(kd:SortKind) (K:A0->Y AY),us.map K=bV/\(2<=us.length->∀(A:A5) (E:BB) (Q:SortKind->A2->Prop),Q kd s->A7 (f8 X) A (keyKind' us.toArray) Q E s)/\∀A:A5,Ah X.prog X.w A s kd (λv=>Bi bV (K v)) (pairsOf us)
def uQ(ds:Y Dt)(bV:Y (Y AY)):Bool:=decide bV.Nodup||(match sJ ds with|some a=>(a.zip bV).all λp=>(a.zip bV).all λq=>!decide (p.2=q.2)||decide (p.1=q.1)|none=>false)
def Z8(a b:Dt×Y AY):Bool:=mQ a.2 b.2
def Cr(ds:Y Dt)(bV:Y (Y AY)):Y Dt:=((ds.zip bV).mergeSort Z8).map (·.1)
def mU(kf:Y Dt->S (Y (Y AY)))(fe:Ev->S Bx)(fk:Ev->Dt->S Bx):Ev->S Bx:=λρ=>(fe ρ).bind λb=>(qg b).bind λds=>(BH (λ_=>true) (fk ρ) ds).bind λr=>(kf (r.map (·.2))).bind λbV=>if(decide (ds.length<=100000)&&uQ ds bV)=true then Z (.o (Cr ds bV))else O
theorem vV{fk:Dt->S Bx}:∀{ds:Y Dt} {r:Y (Dt×Dt)},BH (λ_=>true) fk ds=Z r->r.length=ds.length/\∀(i:Nat) (d:Dt),ds[i]?=Z d->∃k:Dt,r[i]?=Z (d,k)/\fk d=Z (.z k)
 |[],r,h=>by cases h;exact⟨rfl,λi d e=>by cases e⟩
 |d::ds,r,h=>by
  obtain⟨k,b,h1,_,h2,rfl⟩:=JK h;obtain⟨l,m⟩:=vV h2;refine⟨congrArg (·+1) l,λi a e=>?_⟩;cases i with
  |zero=>cases e;exact⟨k,rfl,h1⟩
  |succ i=>exact m i a e
theorem uR{α:Type}{le:α->α->Prop}:∀{l c:Y α},(∀a∈l,∀b∈l,le a b->le b a->a=b)->l.Perm c->l.Pairwise le->c.Pairwise le->l=c
 |[],c,_,h,_,_=>h.nil_eq
 |x::l,c,anti,h,p,p'=>by
  cases c with
  |nil=>exact absurd h.length_eq (by simp)
  |cons y c=>
   have e:x=y:=by
    have hx:x∈y::c:=h.mem_iff.mp zt;have d:y∈x::l:=h.mem_iff.mpr zt;rcases List.mem_cons.mp hx with e|hx
    ·exact e
    rcases List.mem_cons.mp d with e|d
    ·exact e.symm
    exact anti x zt y (zr _ d) ((am.mp p).1 y d) ((am.mp p').1 x hx)
   subst e;rw[uR (λa g b f=>anti a (zr _ g) b (zr _ f)) ((du x).mp h) (am.mp p).2 (am.mp p').2]
theorem RB(o:ds.length=bV.length)(h:uQ ds bV=true):∀p∈ds.zip bV,∀q∈ds.zip bV,p.2=q.2->p.1=q.1:=by
 unfold uQ at h;rw[Q3]at h;intro p hp q a e;rcases h with h|h
 ·have d:bV.Nodup:=JE h;obtain⟨i,hi,b⟩:=ah.mp hp;obtain⟨j,n,c⟩:=ah.mp a;rw[fT]at b c;subst b c;have:=(kD d).mp e;subst this;rfl
 ·split at h
  ·rename_i m f;have e0:=qJ f;subst e0;simp only[Z3,Q3,qc,qA,Zp]at h;rw[List.zip_map_left]at hp a;obtain⟨p',l,rfl⟩:=ae.mp hp;obtain⟨g,k,rfl⟩:=ae.mp a;rcases h p' l g k with h|h
   ·exact absurd e h
   ·exact congrArg BQ h
  ·cases h
theorem wQ{R:α->β->Prop}{ys b:Y β}(p:ys.Perm b):∀{xs:Y α},AI R xs ys->∃a,xs.Perm a/\AI R a b:=by
 induction p with
 |nil=>intro xs h;cases h;exact⟨[],.refl _,.nil⟩
 |cons y _ c=>
  intro xs h;cases h with
  |cons h t=>obtain⟨a,p',f⟩:=c t;exact⟨_::a,p'.cons _,.cons h f⟩
 |swap y z l=>
  intro xs h;cases h with
  |cons h1 t=>cases t with
   |cons h2 t=>exact⟨_::_::_,.swap _ _ _,.cons h2 (.cons h1 t)⟩
 |trans _ _ d e=>
  intro xs h;obtain⟨x1,p1,t1⟩:=d h;obtain⟨g,p2,t2⟩:=e t1;exact⟨g,p1.trans p2,t2⟩
section
variable{kS:A1}{vs:Y A0}{keys:Array A0}{e e1:Nat}{P:PySem.Fin->A2->Prop}
theorem VR(p:s.heap.get? kS=Z (seqObj "list" keys e))(B:s.heap.get? a=Z (seqObj "list" #[] e1))(z:kS≠a)(r:keys.size=vs.length)(C:vs.length<=AA)
  (y:2<=keys.size->∀Q:SortKind->A2->Prop,Q kd s->A7 (A8 prog w) A (keyKind' keys) Q E s) (x:Ah prog w A s kd rk (keys.zip vs.toArray))
  (h:∀(st:SortSt) (c:Nat),(AM st).Perm (keys.zip vs.toArray)->Up rk (AM st) (AM st).size->((s.heap.update kS (Obj.mapSeq λ_=>(#[]:Array A0))).update a (Obj.mapSeq λ_=>(AM st).map (·.2))).get? a=Z (seqObj "list" ((AM st).map (·.2)) c) →
   P (.done (.ret .none)) { s with heap:=(s.heap.update kS (Obj.mapSeq λ_=>(#[]:Array A0))).update a (Obj.mapSeq λ_=>(AM st).map (·.2)) }):
  A7 (A8 prog w) A (ksk_end a false vs.toArray e1 (.ref kS) keys) P E s:=by
 have l:(keys.zip vs.toArray).size=vs.length:=by rw[Array.size_zip,r,zk,cE]
 have n:=ja s.heap kS (Obj.mapSeq λ_=>(#[]:Array A0));have f:(s.heap.update kS (Obj.mapSeq λ_=>(#[]:Array A0))).get? a=Z (seqObj "list" #[] e1):=(n.2 a z.symm).trans B;have m:∀st:SortSt,(AM st).Perm (keys.zip vs.toArray)->failedOf st=O->Up rk (AM st) (AM st).size->A7 (A8 prog w) A (ksk_tail a false e1 (.ref kS) st) P E s:=λst hp k g=>by
  have D:((AM st).map (·.2)).size=vs.length:=by rw[Array.size_map,hp.size_eq,l]
  obtain⟨c,v⟩:∃c,((s.heap.update kS (Obj.mapSeq λ_=>(#[]:Array A0))).update a (Obj.mapSeq λ_=>(AM st).map (·.2))).get? a=Z (seqObj "list" ((AM st).map (·.2)) c):=⟨_,get?_update_seq f λ_=>(AM st).map (·.2)⟩;unfold ksk_tail
  try dsimp only
  refine zb (listUpdate_at p J ?_ () (ZO _));refine zb (wpAny_letGo ?_);refine zb (seqEpoch_at f J ?_);refine zb (listUpdate_at f J ?_ (ZO _) (by simp only[zI,qf];omega));rw[k];simp only[bne_self_eq_false,zI,qf];exact zg (h st c hp g v)
 unfold ksk_end
 try dsimp only
 rw[zo (by simp)];by_cases h2:vs.toArray.size<2
 ·rw[zh h2,zh h2];refine zb (zg ?_);rw[StateT.run_pure];refine zb (zg ?_)
  try dsimp only
  refine m (SortSt.mk' general' (if false=true then(keys.zip vs.toArray).reverse else keys.zip vs.toArray) #[] 7 O) (kR _) J λi j F o=>?_;have u:j<(keys.zip vs.toArray).size:=o;rw[l]at u;rw[zk]at h2;have:i=j:=by omega
  subst this;exact zi _
 ·rw[zo h2,zo h2];rw[zk]at h2;refine zb (y () _ ?_);refine zb (ZZ (G9 (b:=keys.zip vs.toArray) (st:=SortSt.mk' kd (if false=true then(keys.zip vs.toArray).reverse else keys.zip vs.toArray) #[] 7 O) (Q:=λ_ d=>(AM d).Perm (keys.zip vs.toArray)/\failedOf d=O/\Up rk (AM d) (keys.zip vs.toArray).size) x ⟨kR _,rfl,rfl,rfl⟩ () λt q1 q2 q3=>⟨q1,q2,q3⟩) ?_ λ_ _ q=>q);rintro⟨⟨⟩,d⟩ s' ⟨rfl,hp,k,g⟩
  try dsimp only
  exact m d hp k (by rw[hp.size_eq];exact g)
end
theorem RD{f kS:A1}{r:Y (Dt×Dt)}{oa:AE}{e1:Nat}{P:PySem.Fin->A2->Prop}(hT:VP X A σ H0 f fk)(hk:BH (λ_=>true) fk ds=Z r)(F:aU X.K H0 ds vs)(M:AX vs AQ)(hz:AQ.length<=AA)(I:L2.AU X AN σ H s)(sm:AV H0 H)(Q:H0 kS=O)(hS:H kS=Z (.lst []))(ha:H a=Z (.m5 oa (.lst [])))(h:∀H' s' AO c n,L2.AU X AN σ H' s'->AV H0 H'->H' kS=Z (.lst AO)->H' a=Z (.m5 oa (.lst []))->aU X.K H' (r.map (·.2)) AO->AX AO c->s'.heap.get? kS=Z (seqObj "list" c.toArray n)->A7 (f8 X) A (ksk_end a false AQ.toArray e1 (.ref kS) c.toArray) P E s'):
  A7 (f8 X) A (ksk_rest a (.ref f) false AQ.toArray e1 (.ref kS)) P E s:=by
 obtain⟨a6,a1⟩:=vV hk;have a7:AQ.length=ds.length:=by rw[<-M.length,F.length]
 unfold ksk_rest;refine zb (QQ ?_)
 first
  |rw[List.forIn_toArray]
  |(rw[<-eJ];simp only[bu])
  |rw[<-eJ]
 refine zb (ksk_fold (λi s'=>∃H' AO,L2.AU X AN σ H' s'/\AV H0 H'/\H' kS=Z (.lst AO)/\H' a=Z (.m5 oa (.lst []))/\aU X.K H' ((r.take i).map (·.2)) AO) AQ 0 s ⟨H,[],I,sm,hS,ha,by rw[List.take_zero];exact aU.nil⟩ ?step ?done)
 case step=>
  rintro j x s' hx ⟨H',AO,q,l,p,m,rk⟩;simp only[JY]at rk ⊢;have hj:j<AQ.length:=(ag.mp hx).1;obtain⟨d,G⟩:∃d,ds[j]?=Z d:=⟨_,z5 ()⟩;obtain⟨k,a3,W⟩:=a1 j d G;obtain⟨v,U,rd⟩:=F.get G;obtain⟨u,C,ru⟩:=M.get U;rw[hx]at C;cases C;have a2:AO.length<=j:=by rw[rk.length,zd,qo];omega
  refine zb (KB (ZZ (hT AN s' H' d k v x q l ru (rd.kp (.of l)) W) (λg o he=>?_) λ_ _ hF=>hF.elim));obtain⟨L,H2,D,a4,y,a0⟩:=he
  try dsimp only
  have B:=y _ _ p;obtain⟨_,c,n,t,_,eS⟩:=D.Ua B;have a5:c.length<=j:=by rw[<-t.length];exact a2
  have s1:=ja o.heap kS (Obj.mapSeq (·.push g));obtain⟨c2,N⟩:∃c2,(o.heap.update kS (Obj.mapSeq (·.push g))).get? kS=Z (seqObj "list" (c.toArray.push g) c2):=⟨_,get?_update_seq eS (·.push g)⟩;have ea:c.toArray.push g=(c++[g]).toArray:=by simp
  have I3:L2.AU X AN σ (B8 H2 kS (.lst (AO++[L]))) { o with heap:=o.heap.update kS (Obj.mapSeq (·.push g)) }:=D.write (t':=o.toks) (by rw[B];trivial) (.inl J) (λb u hb e=>(s1.2 b hb).trans e) ⟨_,N⟩ ⟨by rw[zC];simp;omega,c++[g],c2,t.append (.cons a4 .nil),by rw[<-ea];exact N⟩;refine zb (listUpdate_at eS J ?_ (by rw[zk];omega) (zl (bj (Array.size_push ..)) (by rw[zk];omega)));refine zg ⟨rfl,_,AO++[L],I3,nD (l.trans y) Q,bH,?_,?_⟩
  ·have ne:a≠kS:=λz=>by rw[z,p]at m;cases m
   rw[bh ne];exact y _ _ m
  ·have et:(r.take (j+1)).map (·.2)=(r.take j).map (·.2)++[k]:=by rw[List.take_add_one,a3,ZI];rfl
   rw[et];exact((rk.kp (.of y)).append (aU.cons a0 aU.nil)).kp (Kp.lst B)
 case done=>
  rintro s' ⟨H',AO,q,l,p,m,rk⟩;rw[show r.take (0+AQ.length)=r from ZU ()]at rk;obtain⟨_,c,n,t,_,eS⟩:=q.Ua p
  try dsimp only
  refine zb (listItems_at eS J ?_);exact h H' s' AO c n q l p m rk t eS
theorem Hy{x:Keyed}(h:x∈us.zip us):x∈(pairsOf us).toList:=by rw[pairsOf_toList];exact h
theorem zN{f p:A1}{r:Y (Dt×Dt)}{Q:BB}(hF:qy X kf)(I:L2.AU X AN σ H s)(hT:VP X A.in1.in1 σ H f fk)(L:rE X.K H p vs\/tU X.K H p vs)(W:aU X.K H ds vs)(hk:BH (λ_=>true) fk ds=Z r)(d0:kf (r.map (·.2))=Z bV)(hl:ds.length<=100000)(h1:uQ ds bV=true)(hQ:∀H' s' l zs,L2.AU X AN σ H' s'->AV H H'->H l=O->H' l=Z (.lst zs)->aU X.K H' (Cr ds bV) zs->Q (.ref l) s'):
  A7 (f8 X) A (call (.builtin "sorted") [.ref p] [(Str.ofString "key", .ref f)]) Q E s:=by
 have c9:∃(AQ:Y A0) (o:AE) (T:String) (n:Nat),AX vs AQ/\s.heap.get? p=Z o/\o.cls=.type T/\(T ="list" ∨ T ="tuple")/\o.data=.seq AQ.toArray n/\vs.length<=AA:=by
  rcases L with L|L
  ·obtain⟨AQ,r',pl,G⟩:=I.list L;obtain⟨o,g,c,n,d⟩:=pl.isList;exact⟨AQ,o,_,n,r',g,c,.inl rfl,d,G⟩
  ·obtain⟨AQ,r',⟨o,g,c,n,d⟩,G⟩:=I.tuple L;exact⟨AQ,o,_,n,r',g,c,.inr rfl,d,G⟩
 obtain⟨AQ,o,T,n,rv,g,hc,c6,hd,G⟩:=c9;have M:AQ.length<=AA:=by rw[<-rv.length];exact G
 have b4:AQ.length=ds.length:=by rw[<-rv.length,W.length]
 refine call_function_entry_kw kind_sorted plain_sorted entry_sorted (ksk_s1 _ _) ?_;unfold Builtin.«sorted»;refine zb (m:=checkCount "sorted" 1 1 _) (zg ?_);refine zb (zc g hc c6 hd M λhp tk b9 ext=>zb (KA ?_));generalize b7:hp.objs.size=l;have a0:(hp.push (seqObj "list" AQ.toArray 0)).get? l=Z (seqObj "list" AQ.toArray 0):=by rw[<-b7];exact zw _ rfl
 have a5:s.heap.objs.size<=l:=by rw[<-b7];exact b9
 refine zb (QU (wpAny_call_entry_kw slot_list_sort ⟨_,a0,rfl⟩ entry_list_sort ?_ (ksk_l1 _ _)));show A7 (f8 X) A.in1.in1 (Builtin.«list.sort» ⟨[.ref l],[(Str.ofString "key", .ref f)]⟩) _ _ _;rw[ksk_t1];obtain⟨e1,a7⟩:∃e1,((hp.push (seqObj "list" AQ.toArray 0)).update l (Obj.mapSeq λ_=>(#[]:Array A0))).get? l=Z (seqObj "list" #[] e1):=⟨_,get?_update_seq a0 λ_=>#[]⟩;unfold ksk_tree;refine zb (listItems_at a0 J ?_);refine zb (listUpdate_at a0 J ?_ (by rw[zk];omega) (ZO _));refine zb (seqEpoch_at a7 J ?_);refine zb (wpAny_newTuple ?_ (by show AQ.length<=_;exact M));refine zb (KA ?_ (ZO _));refine QU ?_;have s0:=ja (hp.push (seqObj "list" AQ.toArray 0)) l (Obj.mapSeq λ_=>(#[]:Array A0));have fl:H l=O:=I.hok.fresh a5;have d6:∀b u,s.heap.get? b=Z u->((hp.push (seqObj "list" AQ.toArray 0)).update l (Obj.mapSeq λ_=>(#[]:Array A0))).get? b=Z u:=λb u e=>
  (s0.2 b (zS (qk (Zl e) a5))).trans (ze _ (ext b u e))
 have I1:L2.AU X AN σ (B8 H l (.m5 (seqObj "list" #[] e1) (.lst []))) { s with heap:=(hp.push (seqObj "list" AQ.toArray 0)).update l (Obj.mapSeq λ_=>(#[]:Array A0)),toks:=tk }:=
  I.laid (t':=tk) d6 a5 ⟨a7,ZO _,[],e1,.nil,a7⟩
 generalize e4:(hp.push (seqObj "list" AQ.toArray 0)).update l (Obj.mapSeq λ_=>(#[]:Array A0))=h2 at *
 have I2:L2.AU X AN σ (B8 H l (.m5 (seqObj "list" #[] e1) (.lst []))) { s with heap:=h2.push (seqObj "tuple" AQ.toArray 0),toks:=tk }:=I1.kept (t':=tk) λb u e=>ze _ e;generalize e5:h2.push (seqObj "tuple" AQ.toArray 0)=h3 at *
 have I3:L2.AU X AN σ (B8 (B8 H l (.m5 (seqObj "list" #[] e1) (.lst []))) h3.objs.size (.lst [])) { s with heap:=h3.push (seqObj "list" #[] 0),toks:=tk }:=
  I2.laid (t':=tk) (λb u e=>ze _ e) (zi _) ⟨ZO _,[],0,.nil,zw _ rfl⟩
 have a3:(B8 H l (.m5 (seqObj "list" #[] e1) (.lst []))) h3.objs.size=O:=I2.hok.fresh (zi _);have U:l≠h3.objs.size:=λz=>by rw[<-z,bH]at a3;cases a3
 have a6:H h3.objs.size=O:=by rw[bh U.symm]at a3;exact a3
 have d4:AV H (B8 (B8 H l (.m5 (seqObj "list" #[] e1) (.lst []))) h3.objs.size (.lst [])):=nD (bN fl) a6;have c5:∀ob u,X.H₀ l≠Z (.m5 ob u):=λob u e=>by have:=I.base.Mz l ob u e;rw[fl]at this;cases this
 show A7 _ A.in1.in1 (ksk_rest l (.ref f) false AQ.toArray e1 (.ref h3.objs.size)) _ _ { s with heap:=h3.push (seqObj "list" #[] 0),toks:=tk };refine RD (H0:=H) (oa:=seqObj "list" #[] e1) hT hk W rv M I3 d4 a6 bH (by rw[bh U,bH]) λH' s' AO B m I' c8 c0 a9 rk b5 eS=>?_;have a4:B.length=AQ.length:=by rw[<-b5.length,rk.length,zd,(vV hk).1,b4]
 obtain⟨kd,K,hK,kk,cc⟩:=hF AN σ H' s' _ AO B bV I' rk b5 d0;have d2:bV.length=ds.length:=by rw[<-hK,zd,a4,b4]
 have na:s'.heap.get? l=Z (seqObj "list" #[] e1):=(I'.hok _ _ a9).1;refine VR (kd:=kd) (rk:=λv=>Bi bV (K v)) eS na U.symm (by rw[zk];exact a4) M (λh2 Q' P=>kk (by rw[zk]at h2;exact h2) _ _ _ P) (λE' p q Q' hp P hh=>?_) λst c hp up hc=>?_
 ·rw[ksk_zip,bu]at hp P;have m1:=(kM hp).1;have m2:=(kM P).1;have z:∀{x:A0},x∈B->(x,x)∈(pairsOf B).toList:=λ{x} hx=>Hy (by
   obtain⟨i,hi,e⟩:=ah.mp hx;exact ah.mpr ⟨i,by rw[List.length_zip];omega,by rw[fT,e]⟩)
  exact cc _ E' (p.1,p.1) (q.1,q.1) Q' (z m1) (z m2) hh
 ·have d5:(B.zip AQ).Perm (AM st).toList:=by
   have:=ai.mp hp;rw[ksk_zip,bu]at this;exact this.symm
  have pr:AI (λ(x:(Dt×Y AY)×V) (y:Keyed)=>x.1.2=K y.1/\B0 x.2 y.2/\AW X.K H x.1.1 x.2/\y.1∈B) ((ds.zip bV).zip vs) (B.zip AQ):=by
   have D:∀(C:Y A0),(∀x∈C,x∈B)->∀(ds:Y Dt) (bV:Y (Y AY)) (vs:Y V) (AQ:Y A0),C.map K=bV->aU X.K H ds vs->AX vs AQ->AI (λ(x:(Dt×Y AY)×V) (y:Keyed)=>x.1.2=K y.1/\B0 x.2 y.2/\AW X.K H x.1.1 x.2/\y.1∈B) ((ds.zip bV).zip vs) (C.zip AQ):=by
    intro C
    induction C with
    |nil=>intro _ ds bV vs AQ e _ _;subst e;rw[QI,ca,e7,e7];exact .nil
    |cons k C F=>
     intro hm ds bV vs AQ e r t;subst e;cases t with
     |nil=>rw[ca,ca];exact .nil
     |@cons v u vs AQ t1 t2=>
      cases ds with
      |nil=>simp only[aU]at r;cases r
      |cons d ds=>
       simp only[aU]at r;obtain⟨v',e6,e,r1,r2⟩:=r;cases e;rw[zv,QE,QE,QE];exact .cons ⟨rfl,t1,r1,hm k zt⟩ (F (λx hx=>hm x (zr _ hx)) ds _ vs AQ J r2 t2)
   exact D B (λ_ h=>h) ds bV vs AQ hK W rv
  obtain⟨xs,px,pa⟩:=wQ d5 pr;have gx:∀{i:Nat} {x:(Dt×Y AY)×V} {y:Keyed},xs[i]?=Z x->(AM st).toList[i]?=Z y->x.1.2=K y.1/\B0 x.2 y.2/\AW X.K H x.1.1 x.2/\y.1∈B:=λ{i x y} e1 e2=>by
   obtain⟨y',e3,q⟩:=Jy pa e1;rw[e2]at e3;cases e3;exact q
  have lx:xs.length=(AM st).size:=by rw[pa.length,ZA]
  have W4:xs.map (·.1.1)=Cr ds bV:=by
   have e0:xs.map (·.1)=(ds.zip bV).mergeSort Z8:=by
    have pz:(xs.map (·.1)).Perm (ds.zip bV):=by
     have h:=px.symm.map Prod.fst;rwa [fH (by rw[List.length_zip,W.length];omega)]at h
    refine uR (le:=λa b=>Z8 a b=true) (λa ha b N b8 d1=>?_) (pz.trans (Qr ..).symm) ?_ (QP (le:=Z8) (λa b c=>lq a.2 b.2 c.2) (λa b=>lu a.2 b.2) _)
    ·have e2:a.2=b.2:=qI b8 d1;have:=RB d2.symm h1 a (pz.mem_iff.mp ha) b (pz.mem_iff.mp N) e2;exact KM this e2
    ·rw[ay];intro i j hi hj c4;rw[zd]at hi hj;simp only[jb];have b6:i<(AM st).size:=by omega
     have a8:j<(AM st).size:=by omega
     obtain⟨a1,_,_,m1⟩:=gx (i:=i) (x:=xs[i]) (y:=(AM st)[i]) (z5 hi) (by rw[z5 (by rw[ZA];exact b6),JS]);obtain⟨a2,_,_,m2⟩:=gx (i:=j) (x:=xs[j]) (y:=(AM st)[j]) (z5 hj) (by rw[z5 (by rw[ZA];exact a8),JS]);have u:=up i j (ZY c4) a8;unfold at_ at u;rw[getElem?_pos _ i b6,getElem?_pos _ j a8]at u;show mQ _ _=true;unfold mQ;rw[a1,a2,<-xY (show K (AM st)[j].1∈bV by rw[<-hK];exact kc m2),zD (dE.mpr u)];rfl
   have:xs.map (·.1.1)=(xs.map (·.1)).map (·.1):=by rw[ZE];rfl
   rw[this,e0];rfl
  have rz:aU X.K H (Cr ds bV) (xs.map (·.2)):=by
   rw[<-W4];have D:∀{xs:Y ((Dt×Y AY)×V)} {ys:Y Keyed},AI (λx (y:Keyed)=>x.1.2=K y.1/\B0 x.2 y.2/\AW X.K H x.1.1 x.2/\y.1∈B) xs ys->aU X.K H (xs.map (·.1.1)) (xs.map (·.2)):=by
    intro xs ys h
    induction h with
    |nil=>exact aU.nil
    |cons h _ F=>rw[zv,zv];exact aU.cons h.2.2.1 F
   exact D pa
  have vz:AX (xs.map (·.2)) ((AM st).map (·.2)).toList:=by
   rw[cG];have D:∀{xs:Y ((Dt×Y AY)×V)} {ys:Y Keyed},AI (λx (y:Keyed)=>x.1.2=K y.1/\B0 x.2 y.2/\AW X.K H x.1.1 x.2/\y.1∈B) xs ys->AX (xs.map (·.2)) (ys.map (·.2)):=by
    intro xs ys h
    induction h with
    |nil=>exact .nil
    |cons h _ F=>exact .cons h.2.1 F
   exact D pa
  have d3:(xs.map (·.2)).length<=AA:=by rw[rz.length,<-W4,zd,lx,hp.size_eq,Array.size_zip,zk,zk,a4,cE];exact M
  have t1:=ja s'.heap h3.objs.size (Obj.mapSeq λ_=>(#[]:Array A0));obtain⟨c1,b3⟩:∃c1,(s'.heap.update h3.objs.size (Obj.mapSeq λ_=>(#[]:Array A0))).get? h3.objs.size=Z { cls:=.type "list",data:=.seq #[] c1 }:=⟨_,get?_update_seq eS λ_=>#[]⟩;have J1:L2.AU X AN σ (B8 H' h3.objs.size (.lst [])) { s' with heap:=s'.heap.update h3.objs.size (Obj.mapSeq λ_=>(#[]:Array A0)) }:=I'.write (t':=s'.toks) (by rw[c0];trivial) (.inl J) (λb u N e=>(t1.2 b N).trans e) ⟨_,b3⟩ ⟨ZO _,[],c1,.nil,b3⟩;have J2:=IG c5 J1 (show(B8 H' h3.objs.size (.lst [])) l=Z (.m5 (seqObj "list" #[] e1) (.lst [])) by rw[bh U];exact a9);have t2:=ja (s'.heap.update h3.objs.size (Obj.mapSeq λ_=>(#[]:Array A0))) l (Obj.mapSeq λ_=>(AM st).map (·.2));have J3:L2.AU X AN σ (B8 (B8 (B8 H' h3.objs.size (.lst [])) l (.lst [])) l (.lst (xs.map (·.2)))) { s' with heap:=(s'.heap.update h3.objs.size (Obj.mapSeq λ_=>(#[]:Array A0))).update l (Obj.mapSeq λ_=>(AM st).map (·.2)) }:=
   J2.write (t':=s'.toks) (by rw[bH];trivial) (.inl J) (λb u N e=>(t2.2 b N).trans e) ⟨_,hc⟩ ⟨d3,((AM st).map (·.2)).toList,c,vz,by rw[hc]⟩
  have b0:AV H (B8 (B8 (B8 H' h3.objs.size (.lst [])) l (.lst [])) l (.lst (xs.map (·.2)))):=nD (nD (nD c8 a6) fl) fl;exact⟨_,rfl,zg ⟨_,rfl,hQ _ _ l _ J3 b0 fl bH (rz.kp (.of b0))⟩⟩
end P1
namespace P1
open L2 S6
section
variable{t1 i1 t2 i2 t3 i3:Expr}{f1 f2 f3:Y Expr}{xs:At}{g1 g2 g3:Dt->Ev->S Ev}{p1 p2 p3:Ev->S Bool}{fi1 fi2 fi3:Ev->S (Y Dt)}{m2:Nat}
structure GL (X:Cx) (ts:At) (m m2:Nat) (scope:Scope) (cl:List (Str×Addr)) (xs:At) (is:List Nat) (t1 i1:Expr) (f1:List Expr) (t2 i2:Expr) (f2:List Expr) (t3 i3:Expr) (f3:List Expr) (fi1 fi2 fi3:Ev->Option (List Dt)) (g1 g2 g3:Dt->Ev->Option Ev) (p1 p2 p3:Ev->Option Bool):Prop where
 ok:p7 X scope cl xs is
 calm:X.calm=true
 it1:D7 X t1 i1 fi1
 tg1:∀C s₀ H₀ fp,Tj (wJ X (xs++ts) scope cl C s₀ H₀ fp) t1 g1
 c1:∀C s₀ H₀ fp,rZ (wJ X (xs++ts) scope cl C s₀ H₀ fp) f1 p1
 k1:Oz is.length m g1
 it2:∀C s₀ H₀ fp,CM (wJ X (xs++ts) scope cl C s₀ H₀ fp) t2 i2 fi2
 tg2:∀C s₀ H₀ fp,Tj (wJ X (xs++ts) scope cl C s₀ H₀ fp) t2 g2
 c2:∀C s₀ H₀ fp,rZ (wJ X (xs++ts) scope cl C s₀ H₀ fp) f2 p2
 k2:Oz m m2 g2
 it3:∀C s₀ H₀ fp,CM (wJ X (xs++ts) scope cl C s₀ H₀ fp) t3 i3 fi3
 tg3:∀C s₀ H₀ fp,Tj (wJ X (xs++ts) scope cl C s₀ H₀ fp) t3 g3
 c3:∀C s₀ H₀ fp,rZ (wJ X (xs++ts) scope cl C s₀ H₀ fp) f3 p3
 k3:Oz m2 (is.length+ts.length) g3
 hm:is.length<=m:=by decide
 hm2:m<=m2:=by decide
 hm3:m2<=is.length+ts.length:=by decide
 hs:∀x,foldedSetIterable i1 X.env x=pure x:=by intro _;rfl
 hs2:∀C x,foldedSetIterable i2 (compEnvC scope (cellsFrom (C+1) scope.names cl) C X.env) x=pure x:=by intro _ _;rfl
 hs3:∀C x,foldedSetIterable i3 (compEnvC scope (cellsFrom (C+1) scope.names cl) C X.env) x=pure x:=by intro _ _;rfl
theorem RG(ts:At)(W:GL X ts m m2 scope cl xs is t1 i1 f1 t2 i2 f2 t3 i3 f3 fi1 fi2 fi3 g1 g2 g3 p1 p2 p3)(r:∀C c f fp,QV (wJ X (xs++ts) scope cl C c f fp) elt fe):
  QV X (.ListComp elt [⟨t1,i1,f1,0⟩,⟨t2,i2,f2,0⟩,⟨t3,i3,f3,0⟩] scope pos) (Ej fi1 g1 p1 (CH fi2 g2 p2 (CH fi3 g3 p3 (Uv fe))) is ts.length):=⟨λAN s σ H Q I h=>by
 obtain⟨H0,ρ,b,E,e,q⟩:=h;obtain⟨out,i,e⟩:=AT e;obtain⟨ds,u,i⟩:=AT i;split at e
 ·rename_i p;cases e;rw[eval_ListComp];refine KI (use:=O) rfl W.hs W.ok.clos W.ok.kind W.ok.names ?_;refine gM (W.it1.run AN s σ H (λJ H'=>AV H H'/\BE X.K J ds H') I ⟨H0,ρ,ds,E,u,λJ H' s' y=>⟨s',y⟩⟩) λv s1 h1=>gM h1 λa0 s2 h2=>?_;obtain⟨it,fp,tn,J,H2,rfl,l,T,st,P,g,Y⟩:=h2;refine BL (B:=Gn) (Ac:=KJ X.K) (O0:=.lst []) (N:=100000) (RR:=λF C=>compPost (f8 X) X.A X.xe O (EP X AN σ Q) F C) (ts:=ts) (xs:=xs) W.ok W.calm (λC c f fp=>(W.tg1 C c f fp).run) (λC c f fp=>(W.c1 C c f fp).run)
   (λC c f fp=>Gp (X:=wJ X (xs++ts) scope cl C c f fp) (comp:=.ListComp elt [⟨t1,i1,f1,0⟩,⟨t2,i2,f2,0⟩,⟨t3,i3,f3,0⟩] scope pos) (d:=1) W.calm rfl (W.it2 C c f fp).run (W.tg2 C c f fp).run (W.c2 C c f fp).run
    (Gp (X:=wJ X (xs++ts) scope cl C c f fp) (comp:=.ListComp elt [⟨t1,i1,f1,0⟩,⟨t2,i2,f2,0⟩,⟨t3,i3,f3,0⟩] scope pos) (d:=2) W.calm rfl (W.it3 C c f fp).run (W.tg3 C c f fp).run (W.c3 C c f fp).run (KN (r C c f fp).run) W.k3 W.hm3 KJ.kp KJ.no (W.hs3 C) (λ_ _ _=>rfl) (BK rfl λh=>h) λh=>h)
    W.k2 W.hm2 KJ.kp KJ.no (W.hs2 C) (λ_ _ _=>by simp only[bind_assoc,pure_bind];rfl) (BK rfl λh=>h) λh=>h)
   W.k1 W.hm l ((E.grow g).caps is ts.length) (KH T) st P Y i p ?_
   ZT (λ_=>⟨ZO _,[],0,.nil,zw _ rfl⟩) (λ_=>⟨[],rfl,aU.nil⟩) KJ.kp (λ_ _ _=>by simp only[bind_assoc,pure_bind];rfl) codeAny_compStart_list λh=>h
  rintro D C s' H' o t k x ⟨m,j⟩ G z ⟨us,rfl,L⟩;refine⟨m,j,λh' M=>⟨.ref D,H',?_,rfl,q _ _ (g.trans G) (λa ea=>by cases ea;exact g.free t) ⟨D,us,rfl,z,L⟩⟩⟩;obtain⟨f0,f1,f2,f3,n,U⟩:=x;exact k.turned (t':=s'.toks) (λb o hb e=>(M.2 b hb).trans e) f0 f1 f3 n U
 ·cases e⟩
section
variable{e:α->Dt}{e':β->Dt}{fs:Ev->S (Y Dt)}
end
end
end P1
namespace P1
open L2 S1
def EV(ks:Y Dt):S (Y (Y AY)):=(sJ ks).bind λbV=>if(bV.all (λk=>!k.isEmpty)&&bV.all λk=>bV.all λl=>G6 k l)=true then Z bV else O
def D9:Y Dt->S (Y (Y AY))
 |[]=>Z []
 |.str x::ds=>(D9 ds).bind λr=>Z ([.inr x]::r)
 |_=>O
theorem Z9:qy X EV:=by
 intro AN σ H s ks vs us bV I g d e;unfold EV at e;obtain⟨j,ek,e⟩:=AT e;split at e
 ·rename_i b;cases e;simp only[Zs,Z3,qc]at b;obtain⟨f,c⟩:=b;have i:=qJ ek;subst i;have tv:=xZ I g d;refine⟨tuples' true,BM bV us,qt tv _ λv q=>(jy tv v q).2,λh2 A E Q h=>Ca tv (λk hk=>by have:=f k hk;cases k with|nil=>cases this|cons _ _=>exact fR _ _) (λk hk l a=>zf (c k hk l a)) () h,λA=>G3 tv λk hk l a=>zf (c k hk l a)⟩
 ·cases e
def N8:A0->Y AY
 |.str x _=>[.inr x]
 |_=>[]
theorem RJ:∀{ks:Y Dt} {bV:Y (Y AY)},D9 ks=Z bV->∃xs:At,ks=xs.map Dt.str/\bV=xs.map λx=>[.inr x]
 |[],_,h=>by cases h;exact⟨[],rfl,rfl⟩
 |d::ks,bV,h=>by
  cases d<;>first|(cases h;done)|skip;rename_i x;unfold D9 at h;obtain⟨r,e,h⟩:=AT h;cases h;obtain⟨xs,rfl,rfl⟩:=RJ e;exact⟨x::xs,rfl,rfl⟩
theorem Cu{K:B5}{H:Hp}:∀{xs:At} {vs:Y V} {us:Y A0},aU K H (xs.map Dt.str) vs->AX vs us->StrsAre us xs
 |[],_,_,h,r=>by
  simp only[QI,aU]at h;subst h;cases r;exact .nil
 |x::xs,_,_,h,r=>by
  simp only[zv,aU]at h;obtain⟨v,vs,rfl,h1,h2⟩:=h;cases r with
  |cons b a=>
   obtain⟨e,_⟩:v=.str x/\x.length<=AA:=by simpa only[AW]using h1
   subst e;obtain⟨t,rfl⟩:=b;exact .cons _ _ (Cu h2 a)
theorem Lu:qy X D9:=by
 intro AN σ H s ks vs us bV I m k e;obtain⟨xs,rfl,rfl⟩:=RJ e;have a:=Cu m k;have l:∀{us:Y A0} {xs:At},StrsAre us xs->us.map N8=xs.map λx=>[.inr x]:=by
  intro us xs h
  induction h with
  |nil=>rfl
  |cons _ _ _ f=>rw[zv,zv,f];rfl
 have g:∀{us:Y A0} {xs:At},StrsAre us xs->∀u∈us,∃x t,u=.str x t/\x∈xs:=by
  intro us xs h
  induction h with
  |nil=>intro u b;cases b
  |cons x t _ f=>
   intro u b;rcases List.mem_cons.mp b with rfl|b
   ·exact⟨x,t,rfl,zt⟩
   ·obtain⟨y,c,e,j⟩:=f u b;exact⟨y,c,e,zr _ j⟩
 refine⟨oneType',N8,l a,λh2 A E Q d=>?_,λA E p q Q hp d h=>?_⟩
 ·match us,h2,a with
  |v1::v2::us,_,a=>exact wpAny_of_eq (keyKind_strs a) d
 ·rw[pairsOf_toList]at hp d;obtain⟨x,t,e1,i⟩:=g a p.1 (mem_zip_self hp).2;obtain⟨y,c,e2,m2⟩:=g a q.1 (mem_zip_self d).2;rw[e1,e2]at h ⊢;rw[keyLt'_oneType];have:decide (Bi (xs.map λx=>[.inr x]) (N8 (.str x t))<Bi (xs.map λx=>[.inr x]) (N8 (.str y c)))=decide (x.cps.toList<y.cps.toList):=by
   rw[show N8 (.str x t)=[.inr x] from rfl,show N8 (.str y c)=[.inr y] from rfl,xY (ae.mpr ⟨x,i,rfl⟩)];unfold gO;split
   ·rename_i e;cases e;simp[gO,k9]
   ·rfl
  rw[this]at h;exact oneLt_str h
theorem RK{H':Hp}{xs:Y V}(h:tU K H a xs)(s:AV H H'):tU K H' a xs:=by
 rcases h with (h|⟨o,h⟩)|h
 ·exact .inl (.inl (s _ _ h))
 ·exact .inl (.inr ⟨o,s _ _ h⟩)
 ·exact .inr h
theorem RM(r:ni (k+1) A):ni k A.in1.in1:=
 ⟨r.hd,by have:=r.dp;show A.depth+3*k+5<_;omega,by have:=r.un;show A.units+1+1+16*k+200<_;omega⟩
section
variable{f:A1}
theorem V0{H1:Hp}(G:ud X.prog X.w X.K X.mg X.base Ji k f fd ps (Qk X.K 1 F))(o:ni k A)(g:A.frames=Z X.stack)(n:BY X.K fd ps []):VP X A σ H1 f λd=>F [.z d]:=by
 intro AN s H d kk v u I t l p e;have Ev:=I.env0;have h:Qk X.K 1 F ([v]++[]) H (λb H'=>AV H H'/\AW X.K H' kk b) E0:=⟨rfl,[.z d],.z kk,.cons p .nil,rfl,e,λb H' s' _ c=>⟨s',c⟩⟩;have m:([u]++[]:Y A0).length=ps.length:=by
  have:=G.len _ _ _ _ h;exact this
 refine wpAny_call (codeAny_mono (G.run A X.stack s H ⟨[u],[]⟩ ([u]++[]) ([v]++[]) _ _ o ⟨g,Ev.mod,Ev.bs,Ev.bsz,Ev.abb,Ev.frf,Ev.hok,Ev.bare,Ev.tabs⟩ (n s [u] I.kIn m) (.cons l .nil) h) λr s' a=>?_);cases r with
 |error e=>exact a.elim
 |ok fl=>
  cases fl with
  |ret q=>
   obtain⟨b,H',j,c,s',i⟩:=I.after a;exact⟨b,H',j,c,s',i⟩
  |next=>exact False.elim a
  |brk=>exact False.elim a
  |cont=>exact False.elim a
end
section
variable{p kp kpos:Pos}{f:A1}
theorem RN(q:qy X kf)(hg:Gl X "sorted")(hm:X.mg "sorted"=O)(n:AH "sorted"=Z (.builtin "sorted"))(G:ud X.prog X.w X.K X.mg X.base Ji k f fd ps (Qk X.K 1 F))(L:ni (k+1) X.A)(a1:Gl X x)(M:X.mg x=Z (.ref f))(hb:BY X.K fd ps [])(U:QV X e fe)
  (hs:A9 [e] X.env=(false,eval e X.env)::A9 [] X.env:=by rfl) (h1:AD pos (A9 [e] X.env)=(false,eval e X.env)::AD pos (A9 [] X.env):=by rfl) (h2:(AD pos (A9 [e] X.env)).any (·.1)=false:=by rfl) (r:("sorted":AJ) ≠ "__name__":=by decide) (W:(("sorted":AJ)==("__debug__":AJ))=false:=by decide) (a0:f7 x:=by decide):
  QV X (.Call (.Name "sorted" p) [e] [⟨Z "key", .Name x kp,kpos⟩] pos) (mU kf fe λ_ d=>F [.z d]):=⟨λAN s σ H Q I h=>by
 obtain⟨H0,ρ,b,E,c,qq⟩:=h;unfold mU at c;obtain⟨b1,e1,c⟩:=AT c;obtain⟨ds,ed,c⟩:=AT c;obtain⟨kr,ek,c⟩:=AT c;obtain⟨bV,a3,c⟩:=AT c;split at c
 ·rename_i i;cases c;rw[Zs,Zp]at i;refine ki (pR I hg hm n ?_ r W);refine callWith_kw (gM (uc U.run yE hs pos AN s σ H (λvs H1=>∃v,vs=[v]/\AV H H1/\aY X.K H1 b1 v) I ⟨H0,ρ,b1,E,e1,λv H' P _ g=>⟨v,rfl,P,g⟩⟩) λus y o=>?_) h1 h2 J rfl;obtain⟨vs,H1,j,r1,v,rfl,m,g⟩:=o;obtain⟨u,rfl,ru⟩:=BD r1;obtain⟨a,ws,rfl,sq,D⟩:=yc g ed;cases ru;show A7 _ _ (evalAll [do let v <-eval (.Name x kp) X.env;standAt pos;pure v]) _ _ y;refine wpAny_evalAll_cons (zb (Kh j a1 M ?_ a0));refine zb (Jn (zg (wpAny_evalAll_nil ?_)));show A7 _ _ (call (.builtin "sorted") [.ref a] [(Str.ofString "key", .ref f)]) _ _ _;refine zN q j (V0 G (RM L) (show X.A.in1.in1.frames=Z X.stack from j.ok.frames) hb) sq D ek a3 i.1 i.2 λH' s' l zs t N C a2 B=>⟨.ref l,H',t,rfl,qq (.ref l) H' (m.trans N) (λa ea=>by cases ea;exact m.free C) ⟨l,zs,rfl,a2,B⟩⟩
 ·cases c⟩
end
section
variable{body:Expr}{Z4 p kpos:Pos}{xs:At}{c P:A1}{q:AJ}
theorem RQ(a3:X.calm=true)(hd:X.A.depth<recursionLimit)(C:qy X kf)(hg:Gl X "sorted")(hm:X.mg "sorted"=none)(y:AH "sorted"=Z (.builtin "sorted"))(O:Ls X scope cl x xs is)(hK:Z2 X.K c P q)(a0:X.env.code=.ref c)(hq:X.env.qual++("<lambda>":AJ)=q)
  (M:defaultsOf params X.env=([],[])) (N:∀pm a6 ct u,bindArgs (kla_fn "<lambda>" q params body scope cl pm a6 ct) ⟨[u],[]⟩=pure [(x,u)]) (he:QV X e fe)
  (hb:∀f c' s H,QV (Do X X.A.in1.in1 (x::xs) (envX q scope s.heap.objs.size f (.ref c') cl) s H) body fb)
  (hs:A9 [e] X.env=(false,eval e X.env)::A9 [] X.env:=by rfl) (h1:AD pos (A9 [e] X.env)=(false,eval e X.env)::AD pos (A9 [] X.env):=by rfl) (h2:(AD pos (A9 [e] X.env)).any (·.1)=false:=by rfl) (D:("sorted":AJ) ≠ "__name__":=by decide) (a2:(("sorted":AJ)==("__debug__":AJ))=false:=by decide):
  QV X (.Call (.Name "sorted" p) [e] [⟨Z "key", .Lambda params body scope Z4,kpos⟩] pos) (mU kf fe λρ d=>fb (Z (.z d)::kY is ρ)):=⟨λAN s σ H Q I h=>by
 obtain⟨H0,ρ,b,E,g,qq⟩:=h;unfold mU at g;obtain⟨b1,e1,g⟩:=AT g;obtain⟨ds,ed,g⟩:=AT g;obtain⟨kr,ek,g⟩:=AT g;obtain⟨bV,a5,g⟩:=AT g;split at g
 ·rename_i r;cases g;rw[Zs,Zp]at r;refine ki (pR I hg hm y ?_ D a2);refine callWith_kw (gM (uc he.run yE hs pos AN s σ H (λvs H1=>∃v,vs=[v]/\AV H H1/\aY X.K H1 b1 v) I ⟨H0,ρ,b1,E,e1,λv H' m _ o=>⟨v,rfl,m,o⟩⟩) λus F B=>?_) h1 h2 J rfl;obtain⟨vs,H1,I1,r1,v,rfl,t,o⟩:=B;obtain⟨u,rfl,ru⟩:=BD r1;obtain⟨a,w,rfl,j,rs⟩:=yc o ed;cases ru;show A7 _ _ (evalAll [do let v <-eval (.Lambda params body scope Z4) X.env;standAt pos;pure v]) _ _ F;refine wpAny_evalAll_cons (zb (Rw I1 hK a0 hq M O.clos λf H2 s2 U i hf L=>zb (Jn (zg (wpAny_evalAll_nil ?_)))));show A7 _ _ (call (.builtin "sorted") [.ref a] [(Str.ofString "key", .ref f)]) _ _ _;have hT:VP X X.A.in1.in1 σ H2 f λd=>fb (Z (.z d)::kY is ρ):=λAN s H' d k v u I m rv rd e=>
   ZZ (VH I O (show X.A.in1.in1.frames=Z X.stack from I.ok.frames) (show X.A.in1.in1.handled=none from I.ok.hd a3) (show X.A.in1.in1.depth<recursionLimit from hd) (L.same m) (N _) (λf c' s H=>(hb f c' s H).run) (((E.grow t).grow i).grow m) rv rd e)
    (λu' s' ⟨v',H'',n,r',s'',_,r''⟩=>⟨v',H'',n,r',s'',r''⟩) λ_ _ h=>h
  have xH:rE X.K H2 a w\/tU X.K H2 a w:=by
   rcases j with j|j
   ·exact .inl (Rz j i)
   ·exact .inr (RK j i)
  refine zN C U hT xH (rs.kp (.of i)) ek a5 r.1 r.2 λH' s' l zs n a1 W a4 G=>⟨.ref l,H',n,rfl,qq (.ref l) H' ((t.trans i).trans a1) (λa ea=>by cases ea;exact(t.trans i).free W) ⟨l,zs,rfl,a4,G⟩⟩
 ·cases g⟩
end
end P1
namespace P1
open L2
theorem Oa:typeLookup (.type "list") "keys"=pure O:=by rw[typeLookup_type,builtinLookup_eq_fast];kernel_rfl
theorem Ob:typeLookup (.type "list") "__getattr__"=pure O:=by rw[typeLookup_type,builtinLookup_eq_fast];kernel_rfl
def V1(h:A6)(t:A1)(AQ:Array A0)(n:Nat)(sl:Array (S A0)):Prop:=h.get? t=Z { cls:=.type "list",dict:=O,data:=.seq AQ n,slots:=sl }
section
theorem V2{t:A1}{AQ:Array A0}{u:Tok}:Meets (Builtin.«object.__getattribute__» ⟨[.ref t,.str "keys" u],[]⟩) (λA R s=>V1 s.heap t AQ n sl/\raisesAttr (.ref t) "keys" A R s):=
 Meets.of_wp λprog w A R s a=>by
  obtain⟨hp,g,d,tk,os⟩:=s;obtain⟨b,a⟩:=a;have c:(⟨hp,g,d,tk,os⟩:A2).TypeIs (.ref t) "list":=⟨_,b,rfl⟩;have hk:=Oa;unfold V1 at b;unfold Builtin.«object.__getattribute__»
  repeat (any_goals (first|assumption|wp_step))
  exact wpAny_raiseAttrError a.1 a.2 (attrMsg_fits (by decide +kernel) (by decide +kernel))
theorem V3{t:A1}{AQ:Array A0}{Q:S A0->A2->Prop}(i:A.handled=O)(a:V1 s.heap t AQ n sl)(h:∀h' tk,(∀b o,s.heap.get? b=Z o->h'.get? b=Z o)->Q O { s with heap:=h',toks:=tk }):A7 (A8 prog w) A (getAttr? (.ref t) "keys") Q E s:=by
 obtain⟨hp,g,d,tk,os⟩:=s;have j:=a;have c:∀f:Nat,(⟨hp,g,d,f,os⟩:A2).TypeIs (.ref t) "list":= λ_=>⟨_,a,rfl⟩;have m:=sub_AttributeError;have f3:=F.slot_list_getattribute.lookup;have p:=F.slot_list_getattribute.bind (.ref t);have u:=Ob;unfold V1 at a;unfold getAttr? getAttrBy? getAttrBy
 repeat (any_goals (first|assumption|exact c _|((with_reducible show A7 _ _ (v (Value.builtin "list.__getattribute__") _ _) _ _ _);refine call_meets F.slot_list_getattribute (c _) F.entry_list_ga (F.args_list_getattribute_2 _ _) (V2 (AQ:=AQ) (n:=n) (sl:=sl)) ⟨j,i,λh' q e hx=>?_⟩)|wp_step))
 obtain⟨f,r,l⟩:=hx.there;have k:∀t2:Nat,(⟨h',g,d,t2,os⟩:A2).TypeIs (.ref e) "AttributeError":= λ_=>⟨_,l,rfl⟩;show A7 _ _ (getattributeRaised _ _ _ _ _ _ _) _ _ _;unfold getattributeRaised
 repeat (any_goals (first|assumption|exact k _|wp_step))
 exact h _ _ hx.keeps
variable{K:Type} [DecidableEq K] {knd:KeyKind prog w K}
theorem Lx{it t d:A1}{xs:Array A0}{Q:A2->Prop}(h:A.handled=O)(l:t≠it)(f:d≠it)(B:t≠d)(hs:xs.size<=1000):
  ∀(m k:Nat) (s:A2) (AO AS:Y (K×A0)),m=xs.size-k->k<=xs.size->AS.length=m->AO.length<=k->(∀(j:Nat) (b:K×A0),AS[j]?=Z b->∃p x,xs[k+j]?=Z (.ref p)/\p≠it/\p≠d/\iV s.heap p #[x,b.2]/\knd.is b.1 x=true) →
   s.heap.IsListIter it t k->s.heap.IsList t xs->s.heap.DictOf knd d AO →
   (∀h' tk,h'.DictOf knd d (merged AO AS)->(∀(c:A1) o,c≠it->c≠d->s.heap.get? c=Z o->h'.get? c=Z o)->Q { s with heap:=h',toks:=tk }) →
   AF (A8 prog w) A (.builtin "dict.update.loop" ⟨[.ref d,.ref it,rawInt k,.none],[]⟩) (wants (λr U=>r=.none/\Q U) E) s
 |0,k,s,AO,AS,hm,hk,hr,hkl,hrest,hi,ht,hd,hQ=>by
  have e:AS=[]:=List.length_eq_zero_iff.mp hr;subst e;have W:=Walks.list (prog:=prog) (w:=w) (A:=A.in1) h it t l xs;refine codeAny_builtin Cj ?_;show A7 _ _ (pyNext (.ref it) >>= _) _ _ _;have a7:k=xs.size:=by omega
  refine zb (W.done s _ _ ⟨a7▸hi,ht⟩ λh' tk kp=>?_);show A7 _ _ (Builtin.Dict.addKeywords d [] >>= _) _ _ _;have a:∀(c:A1) o,c≠it->s.heap.get? c=Z o->h'.get? c=Z o:=λc o c1 q=>kp c o (by simpa using c1) q;have L:h'.DictOf knd d AO:=let ⟨o,es,ep,g,r⟩:=hd;⟨o,es,ep,a d o f g,r⟩;exact zb (zg (zg ⟨rfl,hQ h' tk L λc o c1 _ q=>a c o c1 q⟩))
 |m+1,k,s,AO,AS,hm,hk,hr,hkl,hrest,hi,ht,hd,hQ=>by
  cases AS with
  |nil=>cases hr
  |cons b AS=>
   obtain⟨p,x,hx,a0,a8,hp,a6⟩:=hrest 0 b rfl;rw[cK]at hx;have F:k<xs.size:=(Array.getElem?_eq_some_iff.mp hx).1;have W:=Walks.list (prog:=prog) (w:=w) (A:=A.in1) h it t l xs;refine codeAny_builtin Cj ?_;show A7 _ _ (pyNext (.ref it) >>= _) _ _ _;refine zb (W.item k s _ _ F ⟨hi,ht⟩ λv n tk y C kp=>?_);rw[hx]at y;cases y;have a:∀(c:A1) o,c≠it->s.heap.get? c=Z o->n.get? c=Z o:=λc o c1 q=>kp c o (by simpa using c1) q;have H:n.DictOf knd d AO:=let ⟨o,es,ep,g,r⟩:=hd;⟨o,es,ep,a d o f g,r⟩;refine zb (QU (zb (wpAny_tryCatch (Hx (vU hp λo q=>a p o a0 q) ?_))));refine QU (wpAny_dictSet_pairs a6 H (λi P I=>?_) (by have:=sizeLine_eq;omega));have u:∀(c:A1) o,c≠d->n.get? c=Z o->i.get? c=Z o:=λc o c1 q=>I.extBut _ _ (ad c1) q;have G:∀(c:A1) o,c≠it->c≠d->s.heap.get? c=Z o->i.get? c=Z o:=λc o c1 c2 q=>u c o c2 (a c o c1 q);refine zg ⟨Code.quiet_builtin _ (by decide +kernel),?_⟩;have:=Lx h l f B hs m (k+1) { s with heap:=i,toks:=tk+1 } (stored AO b.1 b.2) AS () F (by simpa using hr) ?_ (λj q N=>?_) (C.1.at λo q=>u _ o (kF f) q) (C.2.at λo q=>u _ o B q) P λh' tk d' a=>hQ h' tk d' λc o c1 c2 q=>a c o c1 c2 (G c o c1 c2 q)
   ·have e:(rawInt ((k+1:Nat):Int))=rawInt ((k:Int)+1):=by push_cast;rfl
    rw[e]at this;exact this
   ·unfold stored;split<;>simp<;>omega
   ·obtain⟨p',X,a1,a2,D,M,a5⟩:=hrest (j+1) q (by simpa using N);exact⟨p',X,by rw[show k+1+j=k+(j+1) by omega];exact a1,a2,D,vU M λo z=>G p' o a2 D z,a5⟩
theorem RT{t:A1}{xs:Array A0}{rs:Y (K×A0)}{Q:BB}(v:A.handled=O)(hs:xs.size<=1000)(a0:rs.length=xs.size)(M:∀(j:Nat) (b:K×A0),rs[j]?=Z b->∃p x,xs[j]?=Z (.ref p)/\iV s.heap p #[x,b.2]/\knd.is b.1 x=true)(m:PlainL s.heap t xs)
  (h:∀h' tk,h'.DictOf knd s.heap.objs.size (merged [] rs)->(∀(c:A1) o,s.heap.get? c=Z o->h'.get? c=Z o)->Q (.ref s.heap.objs.size) { s with heap:=h',toks:=tk }):
  A7 (A8 prog w) A (call (.type "dict") [.ref t]) Q E s:=by
 refine callType_codes (Q₁:=λu H=>u=.ref s.heap.objs.size/\H={ s with heap:=s.heap.push { cls:=.type "dict",data:=.dict #[] } }) F.kt_called_dict (F.kt_typeCall_dict_1 _) F.entry_dict_init (kt_code_dict_new _ ⟨rfl,rfl⟩) ?_;rintro u H ⟨rfl,rfl⟩;have f:(s.heap.push { cls:=.type "dict",data:=.dict #[] }).DictOf knd s.heap.objs.size []:=Heap.DictOf.new s.heap;have lo:∀{c:A1} {o:AE},s.heap.get? c=Z o->c<s.heap.objs.size:=λe=>Zl e;have l:t<s.heap.objs.size:=by obtain⟨o,n,e,_⟩:=m;exact lo e
 have i:∀(c:A1) o,s.heap.get? c=Z o->(s.heap.push { cls:=.type "dict",data:=.dict #[] }).get? c=Z o:=λc o q=>ze _ q;refine⟨f.typeIs,F.args_dict_init_2 _ _,?_⟩;unfold Builtin.«dict.__init__»;refine zb ?_;unfold Builtin.Dict.selfAndRest;refine zb (wpAny_notOrdered_dict f.typeIs ?_);show A7 _ _ (pure (s.heap.objs.size,[Value.ref t])) _ _ _;refine zg ?_;show A7 _ _ (Builtin.Dict.updateFrom "dict.__init__" s.heap.objs.size (.ref t) [] .none) _ _ _;obtain⟨⟨cls,dd,data,sl⟩,n,a,y,G,B⟩:=m
 replace a:=i t _ a
 simp only at y B G;subst y B G;generalize a4:s.heap.push { cls:=.type "dict",data:=.dict #[] }=h1 at f a i ⊢;have a5:h1.objs.size=s.heap.objs.size+1:=by rw[<-a4];exact JP ..
 unfold Builtin.Dict.updateFrom;refine zb (JU (T :="list") ⟨_,a,rfl⟩ ?_);rw[zh ()];refine zb (V3 v a λh2 tk kp=>?_);rw[zh (show(O:S A0).isNone=true from J)];have C:h2.IsList t xs:=⟨_,kp _ _ a,rfl,n,rfl⟩;have I:∀(c:A1) o,s.heap.get? c=Z o->h2.get? c=Z o:=λc o q=>kp c o (i c o q);have k:s.heap.objs.size<h2.objs.size:=let ⟨o,es,ep,g,r⟩:=f;Zl (kp _ _ g);refine zb (QQ (zb (Kj C (zg ⟨Code.quiet_builtin _ (by decide +kernel),?_⟩))));have D:∀(c:A1) o,s.heap.get? c=Z o->(h2.push { cls:=.type "list_iterator",data:=.fields #[.ref t,.int 0 0] }).get? c=Z o:=λc o q=>ze _ (I c o q);have L:∀{c:A1} {o:AE},s.heap.get? c=Z o->c<h2.objs.size:=λe=>Zl (I _ _ e);have lp:=Lx (A:=A.in1) (E:=E) (it:=h2.objs.size) (t:=t) (d:=s.heap.objs.size) (xs:=xs) (Q:=λU=>Q (.ref s.heap.objs.size) U) v (zS (eC l k)) (zS k) (zS l) hs xs.size 0 { s with heap:=h2.push { cls:=.type "list_iterator",data:=.fields #[.ref t,.int 0 0] },toks:=tk } [] rs J (ZO _) a0 (zi _) (λj b q=>by
  obtain⟨p,x,a1,a2,P⟩:=M j b q;have pl:p<s.heap.objs.size:=by obtain⟨o,e,_⟩:=a2;exact lo e
  exact⟨p,x,by rw[JY];exact a1,zS (eC pl k),zS pl,vU a2 λo z=>D p o z,P⟩) ⟨_,zw _ rfl,rfl,rfl⟩ (C.push _) (let ⟨o,es,ep,g,r⟩:=f;⟨o,es,ep,ze _ (kp _ _ g),r⟩) λh' W X N=>h h' W X λc o q=>N c o (zS (L q)) (zS (lo q)) (D c o q)
 exact lp
end
def Hz:Y Bx->S Bx
 |[b]=>(nj b).bind λds=>if ds.length<=1000 then(sY ds).bind λps=>Z (.m (QZ ps) O)else O
 |_=>O
theorem RV(F:X.calm=true):pI X (.type "dict") Hz:=by
 intro AN s σ H xs us Q I r h;obtain⟨bs,c,A,e,q⟩:=h;unfold Hz at e;split at e;rotate_left
 ·cases e
 rename_i b;obtain⟨ds,n,e⟩:=AT e;split at e;rotate_left
 ·cases e
 rename_i a0;obtain⟨ps,ep,e⟩:=AT e;cases e;obtain⟨v,rfl,P⟩:=BG A;obtain⟨t,vt,rfl,L,rt⟩:=P.Fv n;obtain⟨u,rfl,M⟩:=BD r;cases M;obtain⟨m,k,tt,_⟩:=I.list L;obtain⟨d,l,l1,l2,l3,N,U,C,g⟩:=zL I ep rt k;have l4:m.length=ds.length:=by rw[<-k.length];exact rt.length
 have f:KV ((ps.map λp=>(Sum.inr p.1:AY)).zip d) ((ps.map λp=>(Sum.inr p.1:AY)).zip l):=Lw N;refine RT (K:=AY) (knd:=dZ X.prog X.w) (xs:=m.toArray) (rs:=(ps.map λp=>(Sum.inr p.1:AY)).zip l) (I.ok.hd F) (by simp;omega) (by simp;omega) (λj f y=>?_) tt λh' tk E B=>?_
 ·obtain⟨a,x,a1,a2,D⟩:=g j f.1 f.2 y;exact⟨a,x,by simpa using a1,a2,D⟩
 ·have sz:((ps.map λp=>(Sum.inr p.1:AY)).zip d).length<=1000:=by simp;omega
  have G:=rG ((ps.map λp=>(Sum.inr p.1:AY)).zip d) [];rw[de]at G;have W:(1000:Nat)<=AA:=by decide
  have i:H s.heap.objs.size=O:=I.hok.fresh (zi _);refine⟨.ref s.heap.objs.size,B8 H s.heap.objs.size (.dK (yH [] ((ps.map λp=>(Sum.inr p.1:AY)).zip d))),I.laid (a:=s.heap.objs.size) (t':=tk) (h':=h') (λb o e=>B b o e) (zi _) ⟨by omega,?_,_,KV.merge f .nil,E⟩,rfl,q _ _ (bN i) (λa z=>by cases z;exact i) ⟨s.heap.objs.size,_,rfl,bH,(Ck Py.nil U C).kp (.of (bN i)),λb z=>by cases z⟩⟩;have:=I.big;exact beq_eq_false_iff_ne.mpr (kF (zS this))
end P1
namespace P1
open L2 S1 S6
section
variable{e:α->Dt}{e':β->Dt}
theorem RW[nO e](xs:Y α)(h:xs.length<=100000):VN (xs.map (nO.k e))=true:=by
 simp only[VN,Zs,Zp,Z3,qc,zd,ae,forall_exists_index,and_imp,forall_apply_eq_imp_iff₂];exact⟨h,λa _=>nO.ne a,λa _ b _=>nO.shp a b⟩
def vW[nO e](a:RL fa ρ e):R (cQ mR (ao fa aG)) ρ (oE e):=⟨fZ e a.v,aW a.D (Z (a.v.length<=100000)),λh=>by
 obtain⟨h,b⟩:=aB h;simp only[cQ,ao,aG,a.ok h,Ap,mR,Ei a.lk,sV,RW a.v b,QA,NT,ZQ]⟩
class xO {β:Type} (e':β->Dt) (kf:outParam (List Dt->Option (List (List AY)))) where
 kk:β->List AY
 ok:∀xs:List β,kf (xs.map e')=some (xs.map kk)
 inj:∀a b,kk a=kk b->a=b
def W5(e':β->Dt)[xO e' kf](κ:α->β)(a b:α):Bool:=mQ (xO.kk e' (κ a)) (xO.kk e' (κ b))
def pK(e':β->Dt)[xO e' kf](κ:α->β)(xs:Y α):Y α:=xs.mergeSort (W5 e' κ)
section
variable [xO e' kf] {κ:α->β}
theorem oH(xs:Y α):(pK e' κ xs).Perm xs:=Qr ..
theorem oJ(xs:Y α):(pK e' κ xs).Pairwise (λa b=>W5 e' κ a b=true):=QP (le:=W5 e' κ) (λa b c=>lq _ _ _) (λa b=>lu _ _) xs
theorem HB{a b:α}(h:W5 e' κ a b=true)(h':W5 e' κ b a=true):κ a=κ b:=xO.inj (e':=e') _ _ (qI h h')
theorem RX{xs out:Y α}(hi:∀a∈xs,∀b∈xs,κ a=κ b->a=b)(hp:out.Perm xs)(hs:out.Pairwise (λa b=>W5 e' κ a b=true)):out=pK e' κ xs:=
 uR (λa d b c h h'=>hi a (hp.mem_iff.mp d) b (hp.mem_iff.mp c) (HB h h')) (hp.trans (oH xs).symm) hs (oJ xs)
theorem Oc(hi:∀a∈xs,∀b∈xs,κ a=κ b->a=b):Cr (xs.map e) (xs.map λx=>xO.kk e' (κ x))=(pK e' κ xs).map e:=by
 unfold Cr;have f:(xs.map e).zip (xs.map λx=>xO.kk e' (κ x))=xs.map λx=>(e x,xO.kk e' (κ x)):=by
  rw[List.zip_map',]
 have i:(xs.map λx=>(e x,xO.kk e' (κ x))).mergeSort Z8=(pK e' κ xs).map λx=>(e x,xO.kk e' (κ x)):=by
  refine uR (le:=λa b=>Z8 a b=true) (λa g b j h h'=>?_) ((Qr ..).trans ((oH xs).map _).symm) (QP (le:=Z8) (λa b c=>lq a.2 b.2 c.2) (λa b=>lu a.2 b.2) _) (aw.mpr (oJ xs));obtain⟨x,hx,rfl⟩:=ae.mp ((Qr ..).mem_iff.mp g);obtain⟨y,d,rfl⟩:=ae.mp ((Qr ..).mem_iff.mp j);rw[hi x hx y d (HB h h')]
 rw[f,i,ZE];rfl
structure SR (fe:Ev->Option Bx) (ρ:Ev) (e:α->Dt) where
 v:List α
 D:Option Prop
 ok:B4 D->∃b,fe ρ=some b/\qg b=some (v.map e)
def I0(a:RL fa ρ e):SR fa ρ e:=⟨a.v,a.D,λh=>⟨_,a.ok h,Ei a.lk⟩⟩
def NG(a:R fa ρ (zE (eT e))):SR fa ρ e:=⟨a.v,a.D,λh=>⟨_,a.ok h,rfl⟩⟩
theorem zO{fk:Ev->Dt->S Bx}{xs:Y α}(c:fe ρ=Z b)(hs:qg b=Z (xs.map e))(hk:∀x∈xs,fk ρ (e x)=Z (.z (e' (κ x))))(d:xs.length<=100000)(hi:∀a∈xs,∀b∈xs,κ a=κ b->a=b)(h1:uQ (xs.map e) (xs.map λx=>xO.kk e' (κ x))=true):
  mU kf fe fk ρ=Z (.o ((pK e' κ xs).map e)):=by
 have h2:=Cq (Ry:=λ_=>true) (e:=e) (e':=e') (fk:=fk ρ) (g:=κ) (λ_=>J) hk;have f:kf ((xs.map λx=>(e x,e' (κ x))).map (·.2))=Z (xs.map λx=>xO.kk e' (κ x)):=by
  rw[ZE];have:=xO.ok (e':=e') (xs.map κ);rw[ZE,ZE]at this;exact this
 unfold mU;rw[c,Ap,hs,Ap,h2,Ap,f,Ap,zh (by rw[Zs,Zp,zd];exact⟨d,h1⟩),Oc hi]
theorem Ly{xs:Y α}(h:(xs.map κ).Nodup):(∀a∈xs,∀b∈xs,κ a=κ b->a=b)/\uQ (xs.map e) (xs.map λx=>xO.kk e' (κ x))=true:=by
 constructor
 ·intro a d b c e;obtain⟨i,hi,rfl⟩:=ah.mp d;obtain⟨j,g,rfl⟩:=ah.mp c;have:=(kD (i:=i) (j:=j) (h₀:=by rw[zd];exact hi) (h₁:=by rw[zd];exact g) h).mp (by rw[jb,jb];exact e);subst this;rfl
 ·unfold uQ;rw[Q3];refine .inl (z4 ?_);have:(xs.map λx=>xO.kk e' (κ x))=(xs.map κ).map (xO.kk e'):=by rw[ZE];rfl
  rw[this];exact aw.mpr (kn (λf q=>f (xO.inj (e':=e') _ _ q)) h)
theorem V5[nO e]{xs:Y α}(h:∀a∈xs,∀b∈xs,κ a=κ b->a=b):uQ (xs.map e) (xs.map λx=>xO.kk e' (κ x))=true:=by
 unfold uQ;rw[Q3];refine .inr ?_;rw[sV];simp only[List.zip_map',Z3,ae,forall_exists_index,and_imp,forall_apply_eq_imp_iff₂,Q3,qc,qA,Zp];intro a d b c;by_cases q:xO.kk e' (κ a)=xO.kk e' (κ b)
 ·exact .inr (by rw[h a d b c (xO.inj (e':=e') _ _ q)])
 ·exact .inl q
end
def RZ[nO e][xO e' kf]{T:α×Unit->β}{f:α×Unit->Option Prop}(S:∀v bs,aZ e aN v bs->bs.length=1/\(B4 (f v)->F (bs.map B9)=Z (zE e' (T v))))(a:SR fa ρ e):R (mU kf fa λ_ d=>F [.z d]) ρ (oE e):=
 ⟨pK e' (λx=>T (x,gd)) a.v,aW a.D (Z ((∀x∈a.v,B4 (f (x,gd)))/\a.v.length<=100000/\∀x∈a.v,∀y∈a.v,T (x,gd)=T (y,gd)->x=y)),λh=>by
 obtain⟨h1,h2,i,c⟩:=aB h;obtain⟨b,j,g⟩:=a.ok h1;exact zO (e':=e') (κ:=λx=>T (x,gd)) j g (λx hx=>(S (x,gd) [.z (e x)] ⟨_,rfl,rfl⟩).2 (h2 x hx)) i c (V5 (e':=e') c)⟩
def R0[xO e' kf](a:SR fa ρ e)(k:∀x:α,R fb (Z (.z (e x))::kY is ρ) (zE e')):R (mU kf fa λρ d=>fb (Z (.z d)::kY is ρ)) ρ (oE e):=
 ⟨pK e' (λx=>(k x).v) a.v,aW a.D (Z ((∀x∈a.v,B4 (k x).D)/\a.v.length<=100000/\(a.v.map λx=>(k x).v).Nodup)),λh=>by
 obtain⟨h1,h2,f,c⟩:=aB h;obtain⟨b,i,g⟩:=a.ok h1;exact zO (e':=e') (κ:=λx=>(k x).v) i g (λx hx=>(k x).ok (h2 x hx)) f (Ly (e:=e) (e':=e') c).1 (Ly (e:=e) (e':=e') c).2⟩
end
section
variable{e:α->Dt}{e':β->Dt}{fs:Ev->S (Y Dt)}
def IE(it:R fi ρ (iE e))(a:α->Ev)(c:∀x,gt (e x) ρ=Z (a x))(b:∀x,R fs (a x) (iE e')):R (CH fi gt mO fs) ρ (iE e'):=⟨it.v.flatMap λx=>(b x).v,aW it.D (Rb it.v λx=>(b x).D),λh=>by
 obtain⟨h1,h2⟩:=aB h;have h2:∀x∈it.v,B4 (b x).D:=h2;simp only[CH,it.ok h1,Ap];rw[uL (π:=λ_=>true) (g:=λx=>(b x).v.map e') it.v λx hx=>⟨a x,c x,rfl,λ_=>(b x).ok (h2 x hx)⟩,ba.mpr λ_ _=>J];rw[iE,zK]⟩
end
section
variable{e:α->Dt}
def V6(a:RL fa ρ (yg eS e)):R (cQ Hz (ao fa aG)) ρ (mE e):=⟨WX a.v,aW a.D (Z (a.v.length<=1000)),λh=>by
 obtain⟨h1,h2⟩:=aB h;have h2:a.v.length<=1000:=h2;have b:(a.v.map (yg eS e)).length<=1000:=by rw[zd];exact h2
 simp only[cQ,ao,aG,a.ok h1,Ap,Hz,a.lk,zh b,zM,N5]⟩
end
end P1
namespace P1
open L2
theorem dF(x y:AJ):sO (.str x) (.str y)=(x==y):=by
 rfl
theorem gC(x y:AJ):Lb (.str x) (.str y):=⟨by rfl,by simp[q8]⟩
theorem Em(h:ds[k]?=Z d):fY (.tup ds) (k:Int)=d:=by
 have a:k<ds.length:=(ag.mp h).1;have:yG ds (k:Int)=Z d:=by
  unfold yG Ym;rw[zh (),zh (),Ap,JJ,h]
 unfold fY;simp only[fG,qg,Ap,this]
theorem pL(a:Dt)(r:Y Dt):fY (.tup (a::r)) 0=a:=Em (k:=0) rfl
theorem wW(a b:Dt)(r:Y Dt):fY (.tup (a::b::r)) 1=b:=Em (k:=1) rfl
theorem Lz(a b c:Dt)(r:Y Dt):fY (.tup (a::b::c::r)) 2=c:=Em (k:=2) rfl
theorem CF(a b:AJ):Vo a b=true↔Ag a b/\a≠b:=by
 unfold Vo Ag;rw[ltCps_eq];simp only[Zp,qA];constructor
 ·intro h;exact⟨List.lt_asymm h,λe=>by subst e;exact k9 _ h⟩
 ·intro⟨h,hn⟩;by_cases q:a.cps.toList<b.cps.toList
  ·exact q
  ·exact absurd (GP (a:=a) (b:=b) (by unfold Ag;rw[ltCps_eq];simpa using h) (by unfold Ag;rw[ltCps_eq];simpa using q)) hn
theorem V7{i:Int}(h:i∈rng 0 n):∃k:Nat,k<n/\i=(k:Int):=by
 unfold rng at h;obtain⟨k,hk,rfl⟩:=ae.mp h;exact⟨k,aI.mp hk,by omega⟩
end P1
namespace P1
open L2 S1 S6
structure Wd (U:At) (w:List At):Prop where
 ne:∀s∈w,s≠[]
 so:∀s∈w,s.Pairwise Ag
 nd:w.flatten.Nodup
 sub:∀x∈w.flatten,x∈U
 st:w.Pairwise (λa b=>IL a b=true)
def same(w:Y At)(x y:AJ):Prop:=∃s∈w,x∈s/\y∈s
end P1
section
set_option maxHeartbeats 1000000
namespace P1
open L2
open PySem.Builtin PySem.Builtin.Str
abbrev cs(s:AJ):Y Nat:=s.cps.toList
theorem R3{a b:AJ}(h:cs a=cs b):a=b:=Str.ext' (cF.mp h)
theorem R5(a:AJ):a.length=(cs a).length:=by simp[Str.length]
theorem uT(h:n<=x.length):cs (Txt.slice x O (Z (n:Int)))=(cs x).take n:=by
 have:=slice_closes_to (x:=x) (j:=(n:Int)) ⟨by omega,by rw[show x.cps.toList.length=x.length by simp[Str.length]];omega⟩;rw[eq_of_beq this];show((cs x).drop 0).take _=_;simp
end P1
end
section
set_option maxHeartbeats 1000000
namespace P1
open L2 S1 S6
section
variable [Inhabited α]
end
section
variable{e:α->Dt} [nO e]
end
end P1
end
namespace P1
open L2
open PySem.Builtin PySem.Builtin.Str
end P1
section
set_option maxHeartbeats 1000000
namespace P1
open L2
open PySem.Builtin PySem.Builtin.Str
end P1
end
section
set_option synthInstance.maxSize 100000
namespace G76
open L2 P1
noncomputable section
abbrev D8:=Y P1.Dt
abbrev bD:Type:=AJ×AJ
abbrev aR:bD->Dt:=yg eS eS
abbrev bF:Type:=AJ×(Y bD)
abbrev aP:bF->Dt:=yg eS (eT aR)
abbrev EW:Type:=Int×bF
abbrev Od:Type:=Int×Dt
abbrev lQ:Type:=AJ×AJ×Int
abbrev dG:lQ->Dt:=Vm eS eS eI
abbrev uU:Type:=Dt×lQ
abbrev V8:uU->Dt:=yg eD dG
abbrev gZ:Type:=Int×AJ×AJ×Int
abbrev g8:gZ->Dt:=Vn eI eS eS eI
abbrev FO:Type:=AJ×AJ×Int×Int
abbrev ig:FO->Dt:=Vn eS eS eI eI
abbrev Fs:Type:=AJ×AJ×AJ×Int
abbrev iu:Fs->Dt:=Vn eS eS eS eI
abbrev V9:Type:=lQ×FO×bD×Fs
abbrev zP:V9->Dt:=Vn dG ig aR iu
abbrev W6:Type:=At×(Y gZ)×(Y lQ)
abbrev W7:W6->Dt:=Vm (eT eS) (eT g8) (eT dG)
def top(i:Nat):AB:=PySem.Challenge.pw_onefolk_k76_whole_rules_and_rules.main.body.getD i (.Pass ⟨0,0,0,0⟩)
abbrev zQ:AB:=top 13
abbrev rN:AB:=top 14
abbrev wX:AB:=top 15
abbrev zR:AB:=top 16
abbrev Cv:AB:=top 17
abbrev zT:AB:=top 18
abbrev Cw:AB:=top 1
abbrev wY:AB:=top 4
abbrev rO:AB:=top 6
abbrev uV:AB:=top 5
abbrev LC:AB:=top 3
abbrev Cy:AB:=top 11
abbrev zU:AB:=top 8
abbrev zV:AB:=top 9
abbrev wZ:AB:=top 10
abbrev w5:AB:=top 21
abbrev lG:AB:=top 22
abbrev nG:AB:=top 23
abbrev s_law:AB:=top 24
def rP:Ev->S An:=(aH (aH (Au 2 (b2 iZ (b2 fD (b2 su (gv 2) (cB (.int 69621))) (gv 3)) (cB (.int 2147483647)))) f9) (jc [3]))
def oK:Ev->S An:=(aH (wI (uD D3 (gv 1) (cQ q9 (ao (gv 0) aG))) (aH (fX (b2 fG (gv 0) (gv 1))) f9) f9) (aH (Au 2 (b2 iZ (b2 su (cB (.int 48271)) (b2 fD (b2 fD (b2 su (gv 1) (gv 1)) (b2 su (cB (.int 7)) (gv 1))) (cB (.int 11)))) (cB (.int 2147483647)))) (aH (nu (Y9 (yR (gv 0) jx (iM (cB (.int 3))))) (jQ 3) rP) (aH (fX (gv 2)) f9))))
def iw:Y Bx->S Bx:=eY 4 oK
def jA:Ev->S An:=(aH (aH (Au 3 (b2 iZ (b2 fD (b2 fD (b2 su (gv 3) (b2 fD (b2 iZ (gv 3) (cB (.int 65521))) (cB (.int 40487)))) (b2 su (cB (.int 7)) (gv 5))) (cB (.int 5))) (cB (.int 1999999973)))) (aH (Np 2 (b2 fG (cQ qZ (ao (gv 3) (ao (b2 iZ (gv 4) (cB (.int 1000000))) aG))) (cQ Qp (ao (b2 Db (gv 4) (cB (.int 0))) aG)))) (aH (Au 4 (b2 qe (gv 4) (cB (.int 1000000)))) f9))) (jc [5]))
def jG:Ev->S An:=(aH (Au 2 (cQ qZ aG)) (aH (Au 3 (b2 iZ (b2 su (b2 fD (b2 iZ (gv 0) (cB (.int 1999999973))) (cB (.int 31))) (cB (.int 765432101))) (cB (.int 1999999973)))) (aH (Au 4 (cB (.int 0))) (aH (wI (Ti (uD D3 (gv 0) (cB (.int 0))) (uD YH (gv 0) (b2 YJ (cB (.int 10)) (cB (.int 18))))) (aH (aH (Au 4 (cQ Qo (ao (gv 0) aG))) f9) (jc [])) (aH f9 (jc []))) (aH (nu (Jb (ao (gv 1) aG)) (jQ 5) jA) (aH (Di 2) f9))))))
def d9:Y Bx->S Bx:=eY 6 jG
def lH:Ev->S An:=(aH (aH (Au 7 (b2 fG (gv 2) (b2 iZ (b2 fD (gv 6) (b2 fG (gv 0) (cB (.int 2)))) (cB (.int 15))))) (aH (Au 8 (b2 fD (b2 fD (yR (gv 3) jx (iM (gv 4))) (gv 7)) (yR (gv 3) (iM (gv 4)) jx))) (aH (wI (uD BI (b2 iZ (b2 fG (gv 0) (cB (.int 3))) (cB (.int 3))) (cB (.int 1))) (aH (aH (Au 8 (b2 su (b2 fG (gv 2) (b2 qe (gv 6) (cB (.int 8)))) (b2 fD (cB (.int 1)) (b2 iZ (gv 6) (cB (.int 8)))))) f9) (jc [])) (aH f9 (jc []))) (aH (Np 5 (gv 8)) f9)))) (jc [6,7,8]))
def lY:Ev->S An:=(aH (Au 2 (cB (.str "abcdefghijklmnopqrstuvwxyz"))) (aH (Au 3 (b1 (GR "") (dN (Jb (ao (b2 iZ (b2 fG (gv 0) (cB (.int 0))) (cB (.int 6))) aG)) (jQ 2) mO (b2 fG (gv 0) (b2 iZ (b2 qe (b2 fG (gv 1) (gv 2)) (cB (.int 40))) (cB (.int 26)))) [2,0] 1))) (aH (Au 4 (b2 iZ (b2 fG (gv 0) (cB (.int 1))) (b2 fD (cQ q9 (ao (gv 3) aG)) (cB (.int 1))))) (aH (Au 5 (cQ qZ aG)) (aH (nu (Jb (ao (gv 1) aG)) (jQ 6) lH) (aH (Di 5) f9))))))
def lZ:Y Bx->S Bx:=eY 9 lY
def rQ:Ev->S An:=(aH (aH (Au 1 (b2 fD (gv 1) (b2 fG (cB (.str "ab1")) (b2 iZ (b2 qe (b2 qe (gv 0) (cB (.int 16))) (b2 fG (cQ qZ (ao (cB (.int 1)) (ao (cB (.int 3)) (ao (cB (.int 9)) (ao (cB (.int 27)) aG))))) (gv 2))) (cB (.int 3)))))) f9) (jc [2]))
def oM:Ev->S An:=(aH (wI (uD BI (b2 iZ (gv 0) (cB (.int 4))) (cB (.int 0))) (aH (fX (b2 fG (cQ qZ (ao (cB (.str "a")) (ao (cB (.str "ab")) (ao (cB (.str "abc")) (ao (cB (.str "b")) (ao (cB (.str "1")) (ao (cB (.str "12")) (ao (cB (.str "a1")) aG)))))))) (b2 iZ (b2 qe (gv 0) (cB (.int 4))) (cB (.int 7))))) f9) f9) (aH (Au 1 (cB (.str ""))) (aH (nu (Jb (ao (b2 fD (cB (.int 1)) (b2 iZ (b2 qe (gv 0) (cB (.int 4))) (cB (.int 4)))) aG)) (jQ 2) rQ) (aH (fX (gv 1)) f9))))
def oN:Y Bx->S Bx:=eY 3 oM
def uW:Ev->S An:=(aH (aH (wI (uD Db (b2 iZ (b2 fG (gv 1) (gv 4)) (cB (.int 4))) (cB (.int 0))) (aH (aH (Np 3 (cQ fB (ao (b2 fG (gv 2) (gv 4)) (ao (b1 uo (bR 1 oN (ao (b2 qe (b2 fG (gv 1) (gv 4)) (cB (.int 4))) aG))) aG)))) f9) (jc [])) (aH f9 (jc []))) f9) (jc [4]))
def qM:Ev->S An:=(aH (Au 2 (cQ qZ (ao (cB (.str "day")) (ao (cB (.str "name")) (ao (b1 uo (b2 fD (cB (.str "name")) (cB (.str "s")))) (ao (cB (.str "p")) aG)))))) (aH (Au 3 (cQ qZ aG)) (aH (nu (Jb (ao (cB (.int 4)) aG)) (jQ 4) uW) (aH (fX (cQ fB (ao (gv 0) (ao (cQ n6 (ao (gv 3) aG)) aG)))) f9))))
def qN:Y Bx->S Bx:=eY 5 qM
def rR:Ev->S An:=(aH (aH (Np 5 (b1 uo (bR 2 qN (ao (b2 fG (gv 3) (b2 iZ (b2 fD (b2 su (cB (.int 4)) (gv 6)) (b2 fG (gv 2) (cB (.int 7)))) (cB (.int 15)))) (ao (b1 uo (bR 2 d9 (ao (b1 uo (bR 2 iw (ao (gv 0) (ao (b1 uo (b2 fD (cB (.int 1)) (gv 6))) aG)))) (ao (cB (.int 4)) aG)))) aG))))) f9) (jc [6]))
def oO:Ev->S An:=(aH (Au 2 (bR 2 d9 (ao (b1 uo (bR 2 iw (ao (gv 0) (ao (cB (.int 0)) aG)))) (ao (cB (.int 9)) aG)))) (aH (Au 3 (bR 2 lZ (ao (gv 2) (ao (cB (.int 15)) aG)))) (aH (Au 4 (b2 fG (cQ qZ (ao (cB (.int 1)) (ao (cB (.int 2)) (ao (cB (.int 5)) (ao (cB (.int 8)) (ao (gv 1) (ao (gv 1) aG))))))) (b2 iZ (b2 fG (gv 2) (cB (.int 6))) (cB (.int 6))))) (aH (Au 5 (cQ qZ aG)) (aH (nu (Jb (ao (gv 4) aG)) (jQ 6) rR) (aH (fX (cQ n6 (ao (gv 5) aG))) f9))))))
def oR:Y Bx->S Bx:=eY 7 oO
def uX:Ev->S An:=(aH (aH (wI (uD BI (gv 2) (gv 1)) (aH (fX (gv 3)) f9) f9) f9) (jc [2,3]))
def qO:Ev->S An:=(aH (nu (Y9 (b2 fG (gv 0) (cB (.int 1)))) (nq 2 (cW (jQ 2) (cW (jQ 3) pZ))) uX) (aH (fX (cB .non)) f9))
def cU:Y Bx->S Bx:=eY 4 qO
def mj:Ev->S An:=(aH (Au 3 (bR 2 cU (ao (gv 0) (ao (gv 2) aG)))) (aH (fX (yJ (b2 wL (gv 3) (cB .non)) (b2 BI (gv 3) (bR 2 cU (ao (gv 1) (ao (gv 2) aG)))))) f9))
def iQ:Y Bx->S Bx:=eY 4 mj
def jH:Ev->S An:=(aH (Au 4 (bR 2 cU (ao (gv 0) (ao (gv 2) aG)))) (aH (Au 5 (bR 2 cU (ao (gv 1) (ao (gv 2) aG)))) (aH (wI (Ti (uD YQ (gv 4) (cB .non)) (uD YQ (gv 5) (cB .non))) (aH (fX (cB (.bl false))) f9) f9) (aH (fX (yJ (b2 YH (cQ q9 (ao (gv 4) aG)) (gv 3)) (yJ (b2 YH (cQ q9 (ao (gv 5) aG)) (gv 3)) (b2 BI (yR (gv 4) jx (iM (gv 3))) (yR (gv 5) jx (iM (gv 3))))))) f9))))
def jJ:Y Bx->S Bx:=eY 6 jH
def j6:Ev->S An:=(aH (Au 3 (bR 2 cU (ao (gv 0) (ao (gv 2) aG)))) (aH (Au 4 (bR 2 cU (ao (gv 1) (ao (gv 2) aG)))) (aH (fX (yJ (b2 wL (gv 3) (cB .non)) (yJ (b2 wL (gv 4) (cB .non)) (b2 Js (gv 3) (gv 4))))) f9)))
def j7:Y Bx->S Bx:=eY 5 j6
def yu:Ev->S An:=(aH (wI (uD BI (b2 fG (gv 0) (cB (.int 0))) (cB (.str "same"))) (aH (fX (bR 3 iQ (ao (gv 1) (ao (gv 2) (ao (b2 fG (gv 0) (cB (.int 1))) aG))))) f9) f9) (aH (wI (uD BI (b2 fG (gv 0) (cB (.int 0))) (cB (.str "begin"))) (aH (fX (bR 4 jJ (ao (gv 1) (ao (gv 2) (ao (b2 fG (gv 0) (cB (.int 1))) (ao (b2 fG (gv 0) (cB (.int 2))) aG)))))) f9) f9) (aH (wI (uD BI (b2 fG (gv 0) (cB (.int 0))) (cB (.str "both"))) (aH (fX (yJ (bR 3 iQ (ao (gv 1) (ao (gv 2) (ao (b2 fG (gv 0) (cB (.int 1))) aG)))) (bR 3 iQ (ao (gv 1) (ao (gv 2) (ao (b2 fG (gv 0) (cB (.int 2))) aG)))))) f9) f9) (aH (fX (bR 3 j7 (ao (gv 1) (ao (gv 2) (ao (b2 fG (gv 0) (cB (.int 1))) aG))))) f9))))
def oU:Y Bx->S Bx:=eY 3 yu
def qP:Ev->S An:=(aH (fX (Ej (EG (ao (gv 0) aG)) (nq 2 (cW (jQ 2) (cW (jQ 3) pZ))) mO (CH (Y9 (yR (gv 0) (iM (b2 fD (gv 2) (cB (.int 1)))) jx)) (jQ 4) mO (CH (Z1 (ao (gv 1) aG)) (nq 2 (cW (jQ 5) (cW (jQ 6) pZ))) (tV (bR 3 oU (ao (gv 6) (ao (gv 3) (ao (gv 4) aG))))) (Uv (cQ fB (ao (gv 6) (ao (cQ fB (ao (b2 fG (gv 3) (cB (.int 0))) (ao (b2 fG (gv 4) (cB (.int 0))) (ao (gv 5) aG)))) aG)))))) [0,1] 5)) f9)
def qQ:Y Bx->S Bx:=eY 2 qP
def oV:Ev->S An:=(aH (Nm (nq 4 (cW (jQ 1) (cW (jQ 2) (cW (jQ 3) (cW (jQ 4) pZ))))) (gv 0)) (aH (fX (cQ fB (ao (b1 Ar (gv 1)) (ao (gv 2) (ao (gv 3) (ao (gv 4) aG)))))) f9))
def oW:Y Bx->S Bx:=eY 5 oV
def oX:Ev->S An:=(aH (fX (mU EV (gv 0) λ_ d=>oW [.z d])) f9)
def oY:Y Bx->S Bx:=eY 1 oX
def mC:Ev->S An:=(aH (Au 2 (mU D9 (gv 0) λρ d=>(b2 fG (gv 0) (cB (.int 0))) (Z (.z d)::kY [] ρ))) (aH (Au 3 (bR 2 qQ (ao (gv 2) (ao (gv 1) aG)))) (aH (Au 4 (dN (yV (gv 3)) (nq 2 (cW (jQ 0) (cW (jQ 1) pZ))) (uD Js (b2 fG (gv 0) (cB (.int 0))) (cB (.str "never"))) (b1 uo (b2 fD (cQ fB (ao (b2 fG (gv 0) (b1 Ar (cB (.int 1)))) aG)) (gv 1))) [] 2)) (aH (Au 5 (dN (yV (gv 3)) (nq 2 (cW (jQ 0) (cW (jQ 1) pZ))) (uD BI (b2 fG (gv 0) (cB (.int 0))) (cB (.str "never"))) (gv 1) [] 2)) (aH (fX (cQ fB (ao (cQ n6 (ao (dN (yV (gv 2)) (jQ 0) mO (b2 fG (gv 0) (cB (.int 0))) [] 1) aG)) (ao (cQ n6 (ao (bR 1 oY (ao (gv 4) aG)) aG)) (ao (cQ n6 (ao (cQ mR (ao (gv 5) aG)) aG)) aG))))) f9)))))
def d7:Y Bx->S Bx:=eY 6 mC
def mD:Ev->S An:=(aH (Nm (nq 3 (cW (jQ 2) (cW (jQ 3) (cW (jQ 4) pZ)))) (bR 2 d7 (ao (gv 0) (ao (cQ fB (ao (gv 1) aG)) aG)))) (aH (wI (uD BI (b2 fG (gv 1) (cB (.int 0))) (cB (.str "never"))) (aH (fX (cQ mR (ao (b2 fD (dN (yV (gv 4)) (jQ 0) mO (b1 uo (yR (gv 0) jx (iM (cB (.int 2))))) [] 1) (dN (yV (gv 3)) (jQ 0) mO (b1 uo (yR (gv 0) (iM (cB (.int 1))) (iM (cB (.int 3))))) [] 1)) aG))) f9) f9) (aH (wI (Ti (uD Js (gv 4) (cQ fB aG)) (Ao (tV (cQ By (ao (dN (yV (gv 3)) (jQ 1) mO (yJ (b2 BI (b2 fG (gv 1) (cB (.int 0))) (b2 fG (gv 0) (b1 Ar (cB (.int 1))))) (b2 BI (b2 fG (gv 1) (cB (.int 3))) (cB (.int 0)))) [1] 1) aG))))) (aH (fX (cB .non)) f9) f9) (aH (fX (cQ mR (ao (dN (yV (gv 3)) (jQ 0) mO (b1 uo (yR (gv 0) (iM (cB (.int 1))) (iM (cB (.int 3))))) [] 1) aG))) f9))))
def bO:Y Bx->S Bx:=eY 5 mD
def jt:Ev->S An:=(aH (aH (Au 7 (b1 uo (bR 2 bO (ao (gv 0) (ao (cQ fB (ao (cB (.str "begin")) (ao (gv 1) (ao (gv 6) (ao (gv 2) aG))))) aG))))) (aH (wI (Ti (uD YQ (gv 7) (cB .non)) (Ao (tV (cQ By (ao (dN (yV (gv 7)) (jQ 1) mO (b2 Cb (gv 1) (gv 0)) [5] 1) aG))))) (aH (fX (cB (.bl false))) f9) f9) (aH (Au 8 (dN (yV (gv 4)) (jQ 2) (uD YH (cQ q9 (ao (b2 uG (gv 1) (b2 fG (gv 2) (cB (.int 0)))) aG)) (gv 0)) (gv 2) [6,3] 1)) (aH (wI (Ao (tV (cQ By (ao (dN (yV (gv 8)) (jQ 1) mO (b2 Cb (gv 1) (gv 0)) [7] 1) aG)))) (aH (fX (cB (.bl false))) f9) f9) (aH (wI (Ao (tV (cQ By (ao (dN (yV (gv 7)) (jQ 2) mO (b2 YH (cQ Qu (ao (cQ q9 (ao (b2 uG (gv 1) (b2 fG (gv 2) (cB (.int 0)))) aG)) (ao (cQ q9 (ao (b2 uG (gv 1) (b2 fG (gv 2) (cB (.int 1)))) aG)) aG))) (gv 0)) [6,3] 1) aG)))) (aH (fX (cB (.bl false))) f9) f9) (aH (Au 5 (gv 7)) f9)))))) (jc [6,7,8]))
def fL:Ev->S An:=(aH (Au 3 (cQ Hz (ao (dN (yV (gv 0)) (jQ 1) mO (cQ fB (ao (b2 fG (gv 1) (cB (.int 0))) (ao (b1 uo (bR 2 cU (ao (gv 1) (ao (gv 0) aG)))) aG))) [1] 1) aG))) (aH (Au 4 (b1 uo (bR 2 bO (ao (gv 0) (ao (cQ fB (ao (cB (.str "same")) (ao (gv 1) (ao (gv 2) aG)))) aG))))) (aH (Au 5 (b1 uo (bR 2 bO (ao (gv 0) (ao (cQ fB (ao (cB (.str "begin")) (ao (gv 1) (ao (cB (.int 1)) (ao (gv 2) aG))))) aG))))) (aH (nu (EH (ao (cB (.int 1)) (ao (cB (.int 6)) aG))) (jQ 6) jt) (aH (fX (b2 BI (bR 2 bO (ao (gv 0) (ao (cQ fB (ao (cB (.str "begin")) (ao (gv 1) (ao (cB (.int 12)) (ao (gv 2) aG))))) aG))) (dN (yV (gv 4)) (jQ 1) (uD BI (cQ q9 (ao (b2 uG (gv 0) (b2 fG (gv 1) (cB (.int 0)))) aG)) (cB (.int 12))) (gv 1) [3] 1))) f9)))))
def fM:Y Bx->S Bx:=eY 9 fL
def jX:Ev->S An:=(aH (aH (QX 8 (dN (Jb (ao (gv 9) aG)) (jQ 2) mO (cQ fB (ao (b2 fG (gv 0) (gv 2)) (ao (b2 fG (gv 0) (gv 1)) aG))) [7,9] 1)) f9) (jc [9]))
def gD:Ev->S An:=(aH (Nm (nq 2 (cW (jQ 4) (cW (jQ 5) pZ))) (cQ fB (ao (b1 uo (bR 2 bO (ao (gv 0) (ao (cQ fB (ao (cB (.str "same")) (ao (gv 1) (ao (gv 3) aG)))) aG)))) (ao (b1 uo (bR 2 bO (ao (gv 0) (ao (cQ fB (ao (cB (.str "same")) (ao (gv 2) (ao (gv 3) aG)))) aG)))) aG)))) (aH (Au 6 (bR 2 bO (ao (gv 0) (ao (cQ fB (ao (cB (.str "both")) (ao (gv 1) (ao (gv 2) (ao (gv 3) aG))))) aG)))) (aH (wI (Ti (uD Js (gv 6) (dN (yV (gv 4)) (jQ 1) (uD Cb (gv 1) (gv 0)) (gv 1) [5] 1)) (uD Js (bR 2 bO (ao (gv 0) (ao (cQ fB (ao (cB (.str "both")) (ao (gv 2) (ao (gv 1) (ao (cB (.int 1)) aG))))) aG))) (gv 6))) (aH (fX (cB (.bl false))) f9) f9) (aH (Au 7 (cQ GQ (ao (dN (yV (gv 0)) (jQ 1) (uD wL (bR 2 cU (ao (gv 1) (ao (gv 0) aG))) (cB .non)) (b2 fG (gv 1) (cB (.int 0))) [1] 1) aG))) (aH (Au 8 (cQ qZ aG)) (aH (nu (Jb (ao (cQ q9 (ao (gv 7) aG)) aG)) (jQ 9) jX) (aH (Au 10 (bR 2 bO (ao (gv 0) (ao (cQ fB (ao (cB (.str "never")) (ao (gv 1) aG))) aG)))) (aH (fX (yJ (b2 BI (cQ mR (ao (gv 8) aG)) (cQ mR (ao (b2 fD (gv 4) (gv 10)) aG))) (Uk (cQ C9 (ao (dN (yV (gv 10)) (jQ 1) mO (b2 Cb (gv 1) (gv 0)) [4] 1) aG))))) f9))))))))
def gF:Y Bx->S Bx:=eY 11 gD
def HD:Ev->S An:=(aH (aH (Au 12 (b2 fD (dN (yV (gv 9)) (jQ 1) (uD BI (b2 fG (gv 1) (cB (.int 3))) (gv 0)) (b1 uo (yR (gv 1) (iM (cB (.int 1))) (iM (cB (.int 3))))) [11] 1) (dN (yV (gv 10)) (jQ 1) (uD BI (b2 fG (gv 1) (cB (.int 2))) (gv 0)) (b1 uo (yR (gv 1) jx (iM (cB (.int 2))))) [11] 1))) (aH (wI (uD Js (cQ mR (ao (gv 12) aG)) (bR 2 bO (ao (gv 1) (ao (b2 fG (gv 7) (gv 11)) aG)))) (aH (fX (cB (.bl false))) f9) f9) (aH (wI (Ao (tV (cQ By (ao (dN (yV (gv 1)) (jQ 3) mO (b2 BI (bR 3 oU (ao (b2 fG (gv 0) (gv 1)) (ao (b2 fG (gv 2) (cB (.int 0))) (ao (gv 3) aG)))) (bR 3 oU (ao (b2 fG (gv 0) (gv 1)) (ao (gv 3) (ao (b2 fG (gv 2) (cB (.int 0))) aG))))) [7,11,1] 1) aG)))) (aH (fX (cB (.bl false))) f9) f9) f9))) (jc [11,12]))
def LQ:Ev->S An:=(aH (Au 1 (bR 2 oR (ao (gv 0) (ao (cB (.int 14)) aG)))) (aH (Au 2 (bR 2 d9 (ao (b1 uo (bR 2 iw (ao (gv 0) (ao (cB (.int 16)) aG)))) (ao (cB (.int 5)) aG)))) (aH (Au 3 (cQ qZ (ao (cB (.str "day")) (ao (cB (.str "name")) (ao (cB (.str "names")) (ao (cB (.str "p")) (ao (cB (.str "zzz")) aG))))))) (aH (Y8 4 5 (ao (b2 fG (gv 3) (b2 iZ (b2 fG (gv 2) (cB (.int 0))) (cB (.int 5)))) (ao (b2 fG (gv 3) (b2 iZ (b2 fD (b2 fD (b2 fG (gv 2) (cB (.int 0))) (cB (.int 1))) (b2 iZ (b2 fG (gv 2) (cB (.int 1))) (cB (.int 4)))) (cB (.int 5)))) aG))) (aH (Au 6 (b2 fD (cB (.int 1)) (b2 iZ (b2 fG (gv 2) (cB (.int 2))) (cB (.int 1000))))) (aH (wI (Ti (Ao (tV (bR 3 fM (ao (gv 1) (ao (gv 4) (ao (gv 6) aG)))))) (Ao (tV (bR 4 gF (ao (gv 1) (ao (gv 4) (ao (gv 5) (ao (gv 6) aG)))))))) (aH (fX (cB (.bl false))) f9) f9) (aH (wI (uD Js (bR 2 bO (ao (gv 1) (ao (cQ fB (ao (cB (.str "same")) (ao (gv 4) (ao (cB (.int 1)) aG)))) aG))) (bR 2 bO (ao (gv 1) (ao (cQ fB (ao (cB (.str "same")) (ao (gv 4) (ao (gv 6) aG)))) aG)))) (aH (fX (cB (.bl false))) f9) f9) (aH (Au 7 (cQ fB (ao (cQ fB (ao (cB (.str "same")) (ao (gv 4) (ao (gv 6) aG)))) (ao (cQ fB (ao (cB (.str "begin")) (ao (gv 5) (ao (b1 uo (b2 fD (cB (.int 1)) (b2 iZ (b2 fG (gv 2) (cB (.int 3))) (cB (.int 4))))) (ao (cB (.int 2)) aG))))) (ao (cQ fB (ao (cB (.str "never")) (ao (gv 5) aG))) (ao (cQ fB (ao (cB (.str "both")) (ao (gv 4) (ao (gv 5) (ao (cB (.int 3)) aG))))) aG)))))) (aH (Au 1 (yR (gv 1) jx (iM (cB (.int 11))))) (aH (Nm (nq 3 (cW (jQ 8) (cW (jQ 9) (cW (jQ 10) pZ)))) (bR 2 d7 (ao (gv 1) (ao (gv 7) aG)))) (aH (nu (Jb (ao (cB (.int 4)) aG)) (jQ 11) HD) (aH (fX (DA BI BI (bR 2 d7 (ao (b1 uo (b2 Nq (gv 1) (b1 Ar (cB (.int 1))))) (ao (gv 7) aG))) (bR 2 d7 (ao (b1 uo (b2 fD (yR (gv 1) (iM (cB (.int 1))) jx) (yR (gv 1) jx (iM (cB (.int 1)))))) (ao (gv 7) aG))) (cQ fB (ao (gv 8) (ao (gv 9) (ao (gv 10) aG)))))) f9))))))))))))
def F_law:Y Bx->S Bx:=eY 13 LQ
end
end G76
end
section
set_option synthInstance.maxSize 100000
namespace G76
open L2 P1
set_option genInjectivity false
set_option genSizeOf false
structure T (K:B5) (mg:Str->Option Value) where
 iz:DQ K mg "_law_cell" zQ ["_law_script","_law_k"]
 eE:DQ K mg "_law_numbers" rN ["_law_cell_here","_law_many"]
 mF:DQ K mg "_law_names" wX ["_law_xs","_law_many"]
 oZ:DQ K mg "_law_word" zR ["_law_x"]
 qR:DQ K mg "_law_row" Cv ["_law_name","_law_xs"]
 o7:DQ K mg "_law_book" zT ["_law_script","_law_most"]
 cV:DQ K mg "word_of" Cw ["row","field"]
 iR:DQ K mg "are_alike" wY ["row","other","field"]
 jK:DQ K mg "begin_alike" rO ["row","other","field","many"]
 j8:DQ K mg "are_unlike" uV ["row","other","field"]
 o8:DQ K mg "tells" LC ["rule","row","other"]
 qT:DQ K mg "told_of" Cy ["rows","rules"]
 lJ:DQ K mg "place_of" zU ["reason"]
 o9:DQ K mg "in_order" zV ["reasons"]
 d8:DQ K mg "ground_of" wZ ["book","rules"]
 bQ:DQ K mg "_law_pairs" w5 ["_law_book_here","_law_rule"]
 fO:DQ K mg "_law_begins_right" lG ["_law_book_here","_law_field","_law_weight"]
 gG:DQ K mg "_law_both_right" nG ["_law_book_here","_law_field","_law_other","_law_weight"]
 x_law:DQ K mg "law" s_law ["_law_script"]
 acG:mg "abs"=none
 HF:mg "all"=none
 acH:mg "any"=none
 aag:mg "dict"=none
 w6:mg "enumerate"=none
 acI:mg "int"=none
 uY:mg "len"=none
 acJ:mg "min"=none
 jL:mg "range"=none
 jf:mg "sorted"=none
 uZ:mg "tuple"=none
 Ay:Z6 K d8.fd "ground_of.<locals>.<lambda>"=true
section
variable(t:T K mg)
theorem HJ:cg ["_law_script","_law_k","_law_state","_law_cell_here"] ["_law_script","_law_k"] (aQ zQ):=n8
theorem HN:Ok P w base t.iz 1 2 iw:=Fw (g:=oK) t.iz HJ λ_ _ _ _ _ _ b c a=>(aA (iJ (cR Qs (ak 1) (bU nZ J t.uY nY (aj (ak 0) au)) (bK _)) (aA (cj (bw (ak 0) (ak 1))) aM) aM) (aA (bB 2 a (aV c7 (aV nW aC (aV cT (aV cT (aV nW (ak 1) (ak 1)) (aV nW aC (ak 1))) aC)) aC)) (aA (mL PassesOwn.never J (Dl (lU (ak 0) gq (cX aC))) (aO 3 a) (dh [3] (aA (bB 2 a (aV c7 (aV cT (aV nW (ak 2) aC) (ak 3)) aC)) aM))) (aA (cj (ak 2)) aM))))
theorem zW:cg ["_law_cell_here","_law_many","_law_found","_law_state","_law_digits","_law_k"] ["_law_cell_here","_law_many"] (aQ rN):=n8
theorem zX:Ok P w base t.eE 1 2 d9:=Fw (g:=jG) t.eE zW λ_ _ _ _ _ _ b c a=>(aA (bB 2 a (kW au)) (aA (bB 3 a (aV c7 (aV nW (aV cT (aV c7 (ak 0) aC) aC) aC) aC)) (aA (bB 4 a aC) (aA (iJ (Ng (vC (cR Qs (ak 0) aC (bK _)) (qH (cR GF (ak 0) (aV YK aC aC) (bK _))))) (dh [] (aA (bB 4 a (bU Y5 J t.acG YT (aj (ak 0) au))) aM)) (dh [] aM)) (aA (mL PassesOwn.never J (iY J t.jL (aj (ak 1) au)) (aO 5 a) (dh [5] (aA (bB 3 a (aV c7 (aV cT (aV cT (aV nW (ak 3) (aV cT (aV c7 (ak 3) aC) aC)) (aV nW aC (ak 5))) aC) aC)) (aA (Dk 2 (bw (kW (aj (ak 3) (aj (aV c7 (ak 4) aC) au))) (ju Y6 J t.acI YS (aj (fW WK (ak 4) aC (bK _)) au)))) (aA (bB 4 a (aV lR (ak 4) aC)) aM))))) (aA (KC 2) aM))))))
theorem Eo:cg ["_law_xs","_law_many","_law_letters","_law_stem","_law_at","_law_found","_law_k","_law_mark","_law_name"] ["_law_xs","_law_many"] (aQ wX):=n8
theorem Ep:Ok P w base t.mF 1 2 lZ:=Fw (g:=lY) t.mF Eo λ_ _ _ _ _ _ c b a=>(aA (bB 2 a bL) (aA (bB 3 a (U9 (dY ["_law_k"] (lO ["_law_letters","_law_xs"] [2,0]) J (Qj (iY J t.jL (aj (aV c7 (bw (ak 0) aC) aC) au))) (λ_ _ _ _=>(gc 2)) (λ_ _ _ _=>cJ) (λ_ _ _ _=>(bw (ak 0) (aV c7 (aV lR (bw (ak 1) (ak 2)) aC) aC))) (bY)))) (aA (bB 4 a (aV c7 (bw (ak 0) aC) (aV cT (bU nZ J t.uY nY (aj (ak 3) au)) aC))) (aA (bB 5 a (kW au)) (aA (mL PassesOwn.never J (iY J t.jL (aj (ak 1) au)) (aO 6 a) (dh [6,7,8] (aA (bB 7 a (bw (ak 2) (aV c7 (aV cT (ak 6) (bw (ak 0) aC)) aC))) (aA (bB 8 a (aV cT (aV cT (lU (ak 3) gq (cX (ak 4))) (ak 7)) (lU (ak 3) (cX (ak 4)) gq))) (aA (iJ (cR (of_eq b) (aV c7 (bw (ak 0) aC) aC) aC (bK _)) (dh [] (aA (bB 8 a (aV nW (bw (ak 2) (aV lR (ak 6) aC)) (aV cT aC (aV c7 (ak 6) aC)))) aM)) (dh [] aM)) (aA (Dk 5 (ak 8)) aM)))))) (aA (KC 5) aM))))))
theorem HS:cg ["_law_x","_law_found","_law_j"] ["_law_x"] (aQ zR):=n8
theorem HW:Ok P w base t.oZ 1 1 oN:=Fw (g:=oM) t.oZ HS λ_ _ _ _ _ _ c b a=>(aA (iJ (cR (of_eq b) (aV c7 (ak 0) aC) aC (bK _)) (aA (cj (bw (kW (aj bL (aj bL (aj bL (aj bL (aj bL (aj bL (aj bL au)))))))) (aV c7 (aV lR (ak 0) aC) aC))) aM) aM) (aA (bB 1 a bL) (aA (mL PassesOwn.never J (iY J t.jL (aj (aV cT aC (aV c7 (aV lR (ak 0) aC) aC)) au)) (aO 2 a) (dh [2] (aA (bB 1 a (aV cT (ak 1) (bw bL (aV c7 (aV lR (aV lR (ak 0) aC) (bw (kW (aj aC (aj aC (aj aC (aj aC au))))) (ak 2))) aC)))) aM))) (aA (cj (ak 1)) aM))))
theorem JL:cg ["_law_name","_law_xs","_law_fields","_law_words","_law_k"] ["_law_name","_law_xs"] (aQ Cv):=n8
theorem JM(c:Ok P w base t.oZ 1 1 oN):Ok P w base t.qR 2 2 qN:=Fw (g:=qM) t.qR JL λ_ _ _ _ _ _ b d a=>(aA (bB 2 a (kW (aj bL (aj bL (aj (gn (aV cT bL bL)) (aj bL au)))))) (aA (bB 3 a (kW au)) (aA (mL PassesOwn.never J (iY J t.jL (aj aC au)) (aO 4 a) (dh [4] (aA (iJ (cR WK (aV c7 (bw (ak 1) (ak 4)) aC) aC (bK _)) (dh [] (aA (Dk 3 (cN (aj (bw (ak 2) (ak 4)) (aj (gn (bZ t.oZ c b (aj (aV lR (bw (ak 1) (ak 4)) aC) au))) au)))) aM)) (dh [] aM)) aM))) (aA (cj (cN (aj (ak 0) (aj (ju ql J t.uZ qj (aj (ak 3) au)) au)))) aM))))
theorem HX:cg ["_law_script","_law_most","_law_head","_law_names_here","_law_many","_law_rows","_law_k"] ["_law_script","_law_most"] (aQ zT):=n8
theorem HY(c:Ok P w base t.iz 1 2 iw)(f:Ok P w base t.mF 1 2 lZ)(d:Ok P w base t.eE 1 2 d9)(e:Ok P w base t.qR 2 2 qN):Ok P w base t.o7 3 2 oR:=Fw (g:=oO) t.o7 HX λ_ _ _ _ _ _ a h b=>(aA (bB 2 b (bZ t.eE d a (aj (gn (bZ t.iz c a (aj (ak 0) (aj aC au)))) (aj aC au)))) (aA (bB 3 b (bZ t.mF f a (aj (ak 2) (aj aC au)))) (aA (bB 4 b (bw (kW (aj aC (aj aC (aj aC (aj aC (aj (ak 1) (aj (ak 1) au))))))) (aV c7 (bw (ak 2) aC) aC))) (aA (bB 5 b (kW au)) (aA (mL PassesOwn.never J (iY J t.jL (aj (ak 4) au)) (aO 6 b) (dh [6] (aA (Dk 5 (gn (bZ t.qR e a (aj (bw (ak 3) (aV c7 (aV cT (aV nW aC (ak 6)) (bw (ak 2) aC)) aC)) (aj (gn (bZ t.eE d a (aj (gn (bZ t.iz c a (aj (ak 0) (aj (gn (aV cT aC (ak 6))) au)))) (aj aC au)))) au))))) aM))) (aA (cj (ju ql J t.uZ qj (aj (ak 5) au))) aM))))))
theorem JN:cg ["row","field","own_field","word"] ["row","field"] (aQ Cw):=n8
theorem JQ:Ok P w base t.cV 1 2 cU:=Fw (g:=qO) t.cV JN λ_ _ _ _ _ _ c b a=>(aA (mL PassesOwn.never J (Dl (bw (ak 0) aC)) (nT J (cD (aO 2 a) (cD (aO 3 a) jZ))) (dh [2,3] (aA (iJ (cR (of_eq b) (ak 2) (ak 1) (bK _)) (aA (cj (ak 3)) aM) aM) aM))) (aA (cj nR) aM))
theorem Er:cg ["row","other","field","word"] ["row","other","field"] (aQ wY):=n8
theorem Es(b:Ok P w base t.cV 1 2 cU):Ok P w base t.iR 2 3 iQ:=Fw (g:=mj) t.iR Er λ_ _ _ _ _ _ a d c=>(aA (bB 3 c (bZ t.cV b a (aj (ak 0) (aj (ak 2) au)))) (aA (cj (pW (fW xW (ak 3) nR (bK _)) (vD (fW (of_eq d) (ak 3) (bZ t.cV b a (aj (ak 1) (aj (ak 2) au))) (bK _))))) aM))
theorem zY:cg ["row","other","field","many","word","other_word"] ["row","other","field","many"] (aQ rO):=n8
theorem zZ(c:Ok P w base t.cV 1 2 cU):Ok P w base t.jK 2 4 jJ:=Fw (g:=jH) t.jK zY λ_ _ _ _ _ _ b d a=>(aA (bB 4 a (bZ t.cV c b (aj (ak 0) (aj (ak 2) au)))) (aA (bB 5 a (bZ t.cV c b (aj (ak 1) (aj (ak 2) au)))) (aA (iJ (Ng (vC (cR CB (ak 4) nR (bK _)) (qH (cR CB (ak 5) nR (bK _))))) (aA (cj um) aM) aM) (aA (cj (pW (fW GF (bU nZ J t.uY nY (aj (ak 4) au)) (ak 3) (bK _)) (pW (fW GF (bU nZ J t.uY nY (aj (ak 5) au)) (ak 3) (bK _)) (vD (fW (of_eq d) (lU (ak 4) gq (cX (ak 3))) (lU (ak 5) gq (cX (ak 3))) (bK _)))))) aM))))
theorem Az:cg ["row","other","field","word","other_word"] ["row","other","field"] (aQ uV):=n8
theorem Ba(c:Ok P w base t.cV 1 2 cU):Ok P w base t.j8 2 3 j7:=Fw (g:=j6) t.j8 Az λ_ _ _ _ _ _ b d a=>(aA (bB 3 a (bZ t.cV c b (aj (ak 0) (aj (ak 2) au)))) (aA (bB 4 a (bZ t.cV c b (aj (ak 1) (aj (ak 2) au)))) (aA (cj (pW (fW xW (ak 3) nR (bK _)) (pW (fW xW (ak 4) nR (bK _)) (vD (fW (yN d) (ak 3) (ak 4) (bK _)))))) aM)))
theorem R6:cg ["rule","row","other"] ["rule","row","other"] (aQ LC):=n8
theorem R7(c:Ok P w base t.iR 2 3 iQ)(d:Ok P w base t.j8 2 3 j7)(e:Ok P w base t.jK 2 4 jJ):Ok P w base t.o8 3 3 oU:=Fw (g:=yu) t.o8 R6 λ_ _ _ _ _ _ a b f=>(aA (iJ (cR (of_eq b) (bw (ak 0) aC) bL (bK _)) (aA (cj (bZ t.iR c a (aj (ak 1) (aj (ak 2) (aj (bw (ak 0) aC) au))))) aM) aM) (aA (iJ (cR (of_eq b) (bw (ak 0) aC) bL (bK _)) (aA (cj (bZ t.jK e a (aj (ak 1) (aj (ak 2) (aj (bw (ak 0) aC) (aj (bw (ak 0) aC) au)))))) aM) aM) (aA (iJ (cR (of_eq b) (bw (ak 0) aC) bL (bK _)) (aA (cj (pW (bZ t.iR c a (aj (ak 1) (aj (ak 2) (aj (bw (ak 0) aC) au)))) (vD (bZ t.iR c a (aj (ak 1) (aj (ak 2) (aj (bw (ak 0) aC) au))))))) aM) aM) (aA (cj (bZ t.j8 d a (aj (ak 1) (aj (ak 2) (aj (bw (ak 0) aC) au))))) aM))))
theorem JR:cg ["rows","rules"] ["rows","rules"] (aQ Cy):=n8
theorem JT(b:Ok P w base t.o8 3 3 oU):Ok P w base t.qT 4 2 qQ:=Fw (g:=qP) t.qT JR λ_ _ _ _ _ _ a d c=>(aA (cj (RG ["at","row","other","number","rule"] (GL.mk (m:=4) (m2:=5) (lO ["rows","rules"] [0,1]) J (QW J t.w6 (aj (ak 0) au)) (λ_ _ _ _=>(nT J (cD (gc 2) (cD (gc 3) jZ)))) (λ_ _ _ _=>cJ) (Dp (jP (bY) (jP (bY) xQ))) (λ_ _ _ _=>(Dl (lU (ak 0) (cX (aV cT (ak 2) aC)) gq))) (λ_ _ _ _=>(gc 4)) (λ_ _ _ _=>cJ) (bY) (λ_ _ _ _=>(VF J t.w6 (aj (ak 1) au))) (λ_ _ _ _=>(nT J (cD (gc 5) (cD (gc 6) jZ)))) (λ_ _ _ _=>(fK (pU (bZ t.o8 b a (aj (ak 6) (aj (ak 3) (aj (ak 4) au))))))) (Dp (jP (bY) (jP (bY) xQ)))) (λ_ _ _ _=>(cN (aj (ak 6) (aj (cN (aj (bw (ak 3) aC) (aj (bw (ak 4) aC) (aj (ak 5) au)))) au)))))) aM)
theorem Ia:cg ["reason","weight","one","other","number"] ["reason"] (aQ zU):=n8
theorem Ib:Ok P w base t.lJ 1 1 oW:=Fw (g:=oV) t.lJ Ia λ_ _ _ _ _ _ b c a=>(aA (Dj (ak 0) (nT J (cD (aO 1 a) (cD (aO 2 a) (cD (aO 3 a) (cD (aO 4 a) jZ)))))) (aA (cj (cN (aj (Kw Dr (ak 1)) (aj (ak 2) (aj (ak 3) (aj (ak 4) au)))))) aM))
theorem Ie:cg ["reasons"] ["reasons"] (aQ zV):=n8
theorem Ig(c:Ok P w base t.lJ 1 1 oW):Ok P w base t.o9 3 1 oY:=Fw (g:=oX) t.o9 Ie λ_ _ _ _ _ _ a e d=>(aA (cj (RN Z9 J t.jf gB c (a.mono ()) J t.lJ.m t.lJ.b (ak 0))) aM)
theorem u0:cg ["book","rules","rows","told","reasons","bars"] ["book","rules"] (aQ wZ):=n8
theorem Et(d:Ok P w base t.o9 3 1 oY)(e:Ok P w base t.qT 4 2 qQ):Ok P w base t.d8 5 2 d7:=by
 unfold d7;obtain⟨j,l,h,f⟩:=VL t.Ay;refine MU (k:=4) (g:=mC) t.d8.F h u0 J J λA outer s H E b=>?_;have c:=KZ b;have a:=u0.nd;exact(aA (bB 2 a (RQ (x :="each") (xs:=[]) (is:=[]) (cl:=[]) J b.depth Lu J t.jf gB (Z7 J J J J J J trivial J trivial) f J J J (λ_ _ _ _=>J) (ak 0) λi c' s' H'=>(bw (ak 0) aC))) (aA (bB 3 a (bZ t.qT e b (aj (ak 2) (aj (ak 1) au)))) (aA (Dq 4 ["rule","pair"] (lO [] []) J a (dw (ak 3)) (λ_ _ _ _=>(nT J (cD (gc 0) (cD (gc 1) jZ)))) (λ_ _ _ _=>(fK (cR (yN c) (bw (ak 0) aC) bL (bK _)))) (λ_ _ _ _=>(gn (aV cT (cN (aj (bw (ak 0) (Kw Dr aC)) au)) (ak 1)))) (Dp (jP (bY) (jP (bY) xQ)))) (aA (Dq 5 ["rule","pair"] (lO [] []) J a (dw (ak 3)) (λ_ _ _ _=>(nT J (cD (gc 0) (cD (gc 1) jZ)))) (λ_ _ _ _=>(fK (cR (of_eq c) (bw (ak 0) aC) bL (bK _)))) (λ_ _ _ _=>(ak 1)) (Dp (jP (bY) (jP (bY) xQ)))) (aA (cj (cN (aj (ju ql J t.uZ qj (aj (dY ["row"] (lO [] []) J (dw (ak 2)) (λ_ _ _ _=>(gc 0)) (λ_ _ _ _=>cJ) (λ_ _ _ _=>(bw (ak 0) aC)) (bY)) au)) (aj (ju ql J t.uZ qj (aj (bZ t.o9 d b (aj (ak 4) au)) au)) (aj (ju ql J t.uZ qj (aj (bU nF J t.jf gB (aj (ak 5) au)) au)) au))))) aM)))))
theorem Eu:cg ["_law_book_here","_law_rule","_law_names_here","_law_reasons","_law_bars"] ["_law_book_here","_law_rule"] (aQ w5):=n8
theorem Ew(d:Ok P w base t.d8 5 2 d7):Ok P w base t.bQ 6 2 bO:=Fw (g:=mD) t.bQ Eu λ_ _ _ _ _ _ c a b=>(aA (Dj (bZ t.d8 d c (aj (ak 0) (aj (cN (aj (ak 1) au)) au))) (nT J (cD (aO 2 b) (cD (aO 3 b) (cD (aO 4 b) jZ))))) (aA (iJ (cR (of_eq a) (bw (ak 1) aC) bL (bK _)) (aA (cj (bU nF J t.jf gB (aj (aV cT (dY ["_law_bar"] (lO [] []) J (dw (ak 4)) (λ_ _ _ _=>(gc 0)) (λ_ _ _ _=>cJ) (λ_ _ _ _=>(gn (lU (ak 0) gq (cX aC)))) (bY)) (dY ["_law_reason"] (lO [] []) J (dw (ak 3)) (λ_ _ _ _=>(gc 0)) (λ_ _ _ _=>cJ) (λ_ _ _ _=>(gn (lU (ak 0) (cX aC) (cX aC)))) (bY))) au))) aM) aM) (aA (iJ (Ng (vC (cR (yN a) (ak 4) (cN au) (bK _)) (qH (rW (pU (bU (yU J) J t.HF yQ (aj (dY ["_law_reason"] (lO ["_law_rule"] [1]) J (dw (ak 3)) (λ_ _ _ _=>(gc 1)) (λ_ _ _ _=>cJ) (λ_ _ _ _=>(pW (fW (of_eq a) (bw (ak 1) aC) (bw (ak 0) (Kw Dr aC)) (bK _)) (vD (fW (of_eq a) (bw (ak 1) aC) aC (bK _))))) (bY)) au))))))) (aA (cj nR) aM) aM) (aA (cj (bU nF J t.jf gB (aj (dY ["_law_reason"] (lO [] []) J (dw (ak 3)) (λ_ _ _ _=>(gc 0)) (λ_ _ _ _=>cJ) (λ_ _ _ _=>(gn (lU (ak 0) (cX aC) (cX aC)))) (bY)) au))) aM))))
theorem rB:cg ["_law_book_here","_law_field","_law_weight","_law_words","_law_same","_law_ahead","_law_signs","_law_here","_law_long_ones"] ["_law_book_here","_law_field","_law_weight"] (aQ lG):=n8
theorem rC(d:Ok P w base t.bQ 6 2 bO)(e:Ok P w base t.cV 1 2 cU):Ok P w base t.fO 7 3 fM:=Fw (g:=fL) t.fO rB λ_ _ _ _ _ _ c a b=>(aA (bB 3 b (ju (RV J) J t.aag U4 (aj (dY ["_law_row_here"] (lO ["_law_field"] [1]) J (dw (ak 0)) (λ_ _ _ _=>(gc 1)) (λ_ _ _ _=>cJ) (λ_ _ _ _=>(cN (aj (bw (ak 1) aC) (aj (gn (bZ t.cV e c (aj (ak 1) (aj (ak 0) au)))) au)))) (bY)) au))) (aA (bB 4 b (gn (bZ t.bQ d c (aj (ak 0) (aj (cN (aj bL (aj (ak 1) (aj (ak 2) au)))) au))))) (aA (bB 5 b (gn (bZ t.bQ d c (aj (ak 0) (aj (cN (aj bL (aj (ak 1) (aj aC (aj (ak 2) au))))) au))))) (aA (mL PassesOwn.never J (Qe J t.jL (aj aC (aj aC au))) (aO 6 b) (dh [6,7,8] (aA (bB 7 b (gn (bZ t.bQ d c (aj (ak 0) (aj (cN (aj bL (aj (ak 1) (aj (ak 6) (aj (ak 2) au))))) au))))) (aA (iJ (Ng (vC (cR CB (ak 7) nR (bK _)) (qH (rW (pU (bU (yU J) J t.HF yQ (aj (dY ["_law_pair"] (lO ["_law_ahead"] [5]) J (dw (ak 7)) (λ_ _ _ _=>(gc 1)) (λ_ _ _ _=>cJ) (λ_ _ _ _=>(fW (DR a) (ak 1) (ak 0) (by with_unfolding_all rfl))) (bY)) au))))))) (aA (cj um) aM) aM) (aA (Dq 8 ["_law_pair"] (lO ["_law_signs","_law_words"] [6,3]) J b (dw (ak 4)) (λ_ _ _ _=>(gc 2)) (λ_ _ _ _=>(fK (cR GF (bU nZ J t.uY nY (aj (xX a (ak 1) (bw (ak 2) aC)) au)) (ak 0) (bK _)))) (λ_ _ _ _=>(ak 2)) (bY)) (aA (iJ (rW (pU (bU (yU J) J t.HF yQ (aj (dY ["_law_pair"] (lO ["_law_here"] [7]) J (dw (ak 8)) (λ_ _ _ _=>(gc 1)) (λ_ _ _ _=>cJ) (λ_ _ _ _=>(fW (DR a) (ak 1) (ak 0) (by with_unfolding_all rfl))) (bY)) au)))) (aA (cj um) aM) aM) (aA (iJ (rW (pU (bU (yU J) J t.HF yQ (aj (dY ["_law_pair"] (lO ["_law_signs","_law_words"] [6,3]) J (dw (ak 7)) (λ_ _ _ _=>(gc 2)) (λ_ _ _ _=>cJ) (λ_ _ _ _=>(fW GF (bU (Ze J) J t.acJ YX (aj (bU nZ J t.uY nY (aj (xX a (ak 1) (bw (ak 2) aC)) au)) (aj (bU nZ J t.uY nY (aj (xX a (ak 1) (bw (ak 2) aC)) au)) au))) (ak 0) (bK _))) (bY)) au)))) (aA (cj um) aM) aM) (aA (bB 5 b (ak 7)) aM)))))))) (aA (cj (fW (of_eq a) (bZ t.bQ d c (aj (ak 0) (aj (cN (aj bL (aj (ak 1) (aj aC (aj (ak 2) au))))) au))) (dY ["_law_pair"] (lO ["_law_words"] [3]) J (dw (ak 4)) (λ_ _ _ _=>(gc 1)) (λ_ _ _ _=>(fK (cR (of_eq a) (bU nZ J t.uY nY (aj (xX a (ak 0) (bw (ak 1) aC)) au)) aC (bK _)))) (λ_ _ _ _=>(ak 1)) (bY)) (bK _))) aM)))))
theorem u5:cg ["_law_book_here","_law_field","_law_other","_law_weight","_law_one","_law_two","_law_both","_law_having","_law_pairs_here","_law_k","_law_never"] ["_law_book_here","_law_field","_law_other","_law_weight"] (aQ nG):=n8
theorem u6(c:Ok P w base t.bQ 6 2 bO)(e:Ok P w base t.cV 1 2 cU):Ok P w base t.gG 7 4 gF:=Fw (g:=gD) t.gG u5 λ_ _ _ _ _ _ b d a=>(aA (Dj (cN (aj (gn (bZ t.bQ c b (aj (ak 0) (aj (cN (aj bL (aj (ak 1) (aj (ak 3) au)))) au)))) (aj (gn (bZ t.bQ c b (aj (ak 0) (aj (cN (aj bL (aj (ak 2) (aj (ak 3) au)))) au)))) au))) (nT J (cD (aO 4 a) (cD (aO 5 a) jZ)))) (aA (bB 6 a (bZ t.bQ c b (aj (ak 0) (aj (cN (aj bL (aj (ak 1) (aj (ak 2) (aj (ak 3) au))))) au)))) (aA (iJ (Ng (vC (cR (yN d) (ak 6) (dY ["_law_pair"] (lO ["_law_two"] [5]) J (dw (ak 4)) (λ_ _ _ _=>(gc 1)) (λ_ _ _ _=>(fK (cR (DR d) (ak 1) (ak 0) (by with_unfolding_all rfl)))) (λ_ _ _ _=>(ak 1)) (bY)) (bK _)) (qH (cR (yN d) (bZ t.bQ c b (aj (ak 0) (aj (cN (aj bL (aj (ak 2) (aj (ak 1) (aj aC au))))) au))) (ak 6) (bK _))))) (aA (cj um) aM) aM) (aA (bB 7 a (bU Nu J t.jf gB (aj (dY ["_law_row_here"] (lO ["_law_field"] [1]) J (dw (ak 0)) (λ_ _ _ _=>(gc 1)) (λ_ _ _ _=>(fK (cR xW (bZ t.cV e b (aj (ak 1) (aj (ak 0) au))) nR (bK _)))) (λ_ _ _ _=>(bw (ak 1) aC)) (bY)) au))) (aA (bB 8 a (kW au)) (aA (mL PassesOwn.never J (iY J t.jL (aj (bU nZ J t.uY nY (aj (ak 7) au)) au)) (aO 9 a) (dh [9] (aA (Zu 8 (dY ["_law_j"] (lO ["_law_having","_law_k"] [7,9]) J (Qj (iY J t.jL (aj (ak 9) au))) (λ_ _ _ _=>(gc 2)) (λ_ _ _ _=>cJ) (λ_ _ _ _=>(cN (aj (bw (ak 0) (ak 2)) (aj (bw (ak 0) (ak 1)) au)))) (bY))) aM))) (aA (bB 10 a (bZ t.bQ c b (aj (ak 0) (aj (cN (aj bL (aj (ak 1) au))) au)))) (aA (cj (pW (fW (of_eq d) (bU nF J t.jf gB (aj (ak 8) au)) (bU nF J t.jf gB (aj (aV cT (ak 4) (ak 10)) au)) (bK _)) (vD (Yw (bU (Y7 J) J t.acH YW (aj (dY ["_law_pair"] (lO ["_law_one"] [4]) J (dw (ak 10)) (λ_ _ _ _=>(gc 1)) (λ_ _ _ _=>cJ) (λ_ _ _ _=>(fW (DR d) (ak 1) (ak 0) (by with_unfolding_all rfl))) (bY)) au)))))) aM))))))))
theorem Lm:cg ["_law_script","_law_book_here","_law_xs","_law_fields","_law_field","_law_other","_law_weight","_law_rules","_law_names_here","_law_reasons","_law_bars","_law_k","_law_here"] ["_law_script"] (aQ s_law):=n8
theorem ND(h:Ok P w base t.fO 7 3 fM)(l:Ok P w base t.o7 3 2 oR)(k:Ok P w base t.gG 7 4 gF)(i:Ok P w base t.iz 1 2 iw)(j:Ok P w base t.eE 1 2 d9)(d:Ok P w base t.bQ 6 2 bO)(e:Ok P w base t.d8 5 2 d7)(f:Ok P w base t.o8 3 3 oU):Ok P w base t.x_law 8 1 F_law:=Fw (g:=LQ) t.x_law Lm λ_ _ _ _ _ _ a c b=>(aA (bB 1 b (bZ t.o7 l a (aj (ak 0) (aj aC au)))) (aA (bB 2 b (bZ t.eE j a (aj (gn (bZ t.iz i a (aj (ak 0) (aj aC au)))) (aj aC au)))) (aA (bB 3 b (kW (aj bL (aj bL (aj bL (aj bL (aj bL au))))))) (aA (Yx 4 5 J b (aj (bw (ak 3) (aV c7 (bw (ak 2) aC) aC)) (aj (bw (ak 3) (aV c7 (aV cT (aV cT (bw (ak 2) aC) aC) (aV c7 (bw (ak 2) aC) aC)) aC)) au))) (aA (bB 6 b (aV cT aC (aV c7 (bw (ak 2) aC) aC))) (aA (iJ (Ng (vC (rW (pU (bZ t.fO h a (aj (ak 1) (aj (ak 4) (aj (ak 6) au)))))) (qH (rW (pU (bZ t.gG k a (aj (ak 1) (aj (ak 4) (aj (ak 5) (aj (ak 6) au)))))))))) (aA (cj um) aM) aM) (aA (iJ (cR (yN c) (bZ t.bQ d a (aj (ak 1) (aj (cN (aj bL (aj (ak 4) (aj aC au)))) au))) (bZ t.bQ d a (aj (ak 1) (aj (cN (aj bL (aj (ak 4) (aj (ak 6) au)))) au))) (bK _)) (aA (cj um) aM) aM) (aA (bB 7 b (cN (aj (cN (aj bL (aj (ak 4) (aj (ak 6) au)))) (aj (cN (aj bL (aj (ak 5) (aj (gn (aV cT aC (aV c7 (bw (ak 2) aC) aC))) (aj aC au))))) (aj (cN (aj bL (aj (ak 5) au))) (aj (cN (aj bL (aj (ak 4) (aj (ak 5) (aj aC au))))) au)))))) (aA (bB 1 b (lU (ak 1) gq (cX aC))) (aA (Dj (bZ t.d8 e a (aj (ak 1) (aj (ak 7) au))) (nT J (cD (aO 8 b) (cD (aO 9 b) (cD (aO 10 b) jZ))))) (aA (mL PassesOwn.never J (iY J t.jL (aj aC au)) (aO 11 b) (dh [11,12] (aA (bB 12 b (aV cT (dY ["_law_reason"] (lO ["_law_k"] [11]) J (dw (ak 9)) (λ_ _ _ _=>(gc 1)) (λ_ _ _ _=>(fK (cR (of_eq c) (bw (ak 1) aC) (ak 0) (bK _)))) (λ_ _ _ _=>(gn (lU (ak 1) (cX aC) (cX aC)))) (bY)) (dY ["_law_bar"] (lO ["_law_k"] [11]) J (dw (ak 10)) (λ_ _ _ _=>(gc 1)) (λ_ _ _ _=>(fK (cR (of_eq c) (bw (ak 1) aC) (ak 0) (bK _)))) (λ_ _ _ _=>(gn (lU (ak 1) gq (cX aC)))) (bY)))) (aA (iJ (cR (yN c) (bU nF J t.jf gB (aj (ak 12) au)) (bZ t.bQ d a (aj (ak 1) (aj (bw (ak 7) (ak 11)) au))) (bK _)) (aA (cj um) aM) aM) (aA (iJ (rW (pU (bU (yU J) J t.HF yQ (aj (dY ["_law_row_here"] (lO ["_law_rules","_law_k","_law_book_here"] [7,11,1]) J (dw (ak 1)) (λ_ _ _ _=>(gc 3)) (λ_ _ _ _=>cJ) (λ_ _ _ _=>(fW (of_eq c) (bZ t.o8 f a (aj (bw (ak 0) (ak 1)) (aj (bw (ak 2) aC) (aj (ak 3) au)))) (bZ t.o8 f a (aj (bw (ak 0) (ak 1)) (aj (ak 3) (aj (bw (ak 2) aC) au)))) (bK _))) (bY)) au)))) (aA (cj um) aM) aM) aM))))) (aA (cj (PJ (of_eq c) (of_eq c) (bZ t.d8 e a (aj (gn (Zd (ak 1) (Kw Dr aC))) (aj (ak 7) au))) (bZ t.d8 e a (aj (gn (aV cT (lU (ak 1) (cX aC) gq) (lU (ak 1) gq (cX aC)))) (aj (ak 7) au))) (cN (aj (ak 8) (aj (ak 9) (aj (ak 10) au)))))) aM))))))))))))
theorem Cs:Ok P w base t.x_law 8 1 F_law:=by
 have c:=HN (P:=P) (w:=w) (base:=base) t;have d:=zX (P:=P) (w:=w) (base:=base) t;have s:=Ep (P:=P) (w:=w) (base:=base) t;have l:=HW (P:=P) (w:=w) (base:=base) t;have i:=JM (P:=P) (w:=w) (base:=base) t l;have o:=HY (P:=P) (w:=w) (base:=base) t c s d i;have a:=JQ (P:=P) (w:=w) (base:=base) t;have j:=Es (P:=P) (w:=w) (base:=base) t a;have n:=zZ (P:=P) (w:=w) (base:=base) t a;have k:=Ba (P:=P) (w:=w) (base:=base) t a;have f:=R7 (P:=P) (w:=w) (base:=base) t j k n;have m:=JT (P:=P) (w:=w) (base:=base) t f;have h:=Ib (P:=P) (w:=w) (base:=base) t;have g:=Ig (P:=P) (w:=w) (base:=base) t h;have e:=Et (P:=P) (w:=w) (base:=base) t g m;have b:=Ew (P:=P) (w:=w) (base:=base) t e;have p:=rC (P:=P) (w:=w) (base:=base) t b a;have q:=u6 (P:=P) (w:=w) (base:=base) t b a;have r:=ND (P:=P) (w:=w) (base:=base) t p o q c d b e f;exact r
end
end G76
end
section
set_option synthInstance.maxSize 100000
namespace G76
open L2 P1
noncomputable section
def rT(a:Int)(b:Int):Int:=(let a:=(((a*69621)+b)%2147483647);a)
theorem Bb(d:BC)(e:Lp jM (d.map eI))(c:Int)(a:Int)(b:Int):RP rP [Z jM,Z (zE eI c),Z (zE eI a),Z (zE eI b)] (λs=>An.nx ((λa:Int=>[Z jM,Z (zE eI c),Z (zE eI a),O]) s)) (rT  a b) (O):=R.tp (cI (bW 2 (dB (jq (La (aq 2 (zE eI) a J) 69621 ()) (aq 3 (zE eI) b J)) 2147483647 ()) (λ_=>J) λa=>(dj (eH a J))))
def bM(c:BC)(b:Int):Int:=(if(decide (b<(c.length:Int)))=true then(As c b)else(let a:=((48271*(((b*b)+(7*b))+11))%2147483647);(let a:Int:=((BF c O (Z 3)).foldl (λ(a:Int) (d:Int)=>(rT  a d)) a);a)))
def iG(b:BC)(a:Int):Prop:=(((decide (a<(b.length:Int)))=true->In b.length a)/\((decide (a<(b.length:Int)))=false->E8 a a))
theorem JV(b:BC)(d:Lp jM (b.map eI))(a:Int):RP oK [Z jM,Z (zE eI a),O,O] (λr=>An.rt (zE eI r)) (bM b a) (Z (iG b a)):=R.tp (jT (eZ (WQ (aq 1 (zE eI) a J) (CU (jR 0 eI b d J)))) (cI (cZ (λr=>r) (jW (jR 0 eI b d J) (aq 1 (zE eI) a J)) (λ_=>J) λ_=>J)) (dj (bW 2 (dB (DW 48271 () (jq (jq (WM (aq 1 (zE eI) a J) (aq 1 (zE eI) a J)) (DW 7 () (aq 1 (zE eI) a J))) (B7 11))) 2147483647 ()) (λ_=>J) λc=>(ZM (λc:Int=>[Z jM,Z (zE eI a),Z (zE eI c),O]) c J (GS (Fu (jR 0 eI b d J) zB (zF (B7 3)))) _ (λ_ _=>J) (λ(c:Int) (e:Int)=>(Bb b d a c e).r) (λ_ _=>J) λc=>(cZ (λr=>r) (aq 2 (zE eI) c J) (λ_=>J) λ_=>J)))))
theorem tH:∀v bs,(aL eI (aZ eI aN)) v bs->bs.length=2/\(B4 (Z (iG v.1 v.2.1))->iw (bs.map B9)=Z ((zE eI) (bM v.1 v.2.1))):=by
 rintro⟨b,a,_⟩ _ ⟨jM,_,rfl,c,⟨_,rfl,rfl⟩⟩;exact⟨rfl,λh=>dD (g:=oK) (n:=4) (bs:=[B9 jM,.z (eI a)]) (JV b (zp c) a) h⟩
def cu(a:Int×BC×Int)(c:Int):Int×BC×Int:=(let b:=((((a.1*((a.1%65521)+40487))+(7*c))+5)%1999999973);(let e:=a.2.1++[(As [b,(a.2.2%1000000)] (if(decide ((0:Int)<a.2.2))=true then(1:Int)else 0))];(let d:=(a.2.2 / (1000000:Int));(b,e,d))))
def gH(a:Int×BC×Int)(c:Int):Prop:=(E8 a.1 ((a.1%65521)+40487)/\(let b:=((((a.1*((a.1%65521)+40487))+(7*c))+5)%1999999973);(In [b,(a.2.2%1000000)].length (if(decide ((0:Int)<a.2.2))=true then(1:Int)else 0)/\Av a.2.1.length)))
theorem vZ(c:Int)(e:Int)(a:Int×BC×Int)(b:Int):RP jA [Z (zE eI c),Z (zE eI e),Z ((oE eI) a.2.1),Z ((zE eI) a.1),Z ((zE eI) a.2.2),Z (zE eI b)] (λs=>An.nx ((λa:Int×BC×Int=>[Z (zE eI c),Z (zE eI e),Z ((oE eI) a.2.1),Z ((zE eI) a.1),Z ((zE eI) a.2.2),O]) s)) (cu  a b) (Z (gH  a b)):=R.tp (cI (bW 3 (dB (jq (jq (WM (aq 3 (zE eI) a.1 J) (jq (dB (aq 3 (zE eI) a.1 J) 65521 ()) (B7 40487))) (DW 7 () (aq 5 (zE eI) b J))) (B7 5)) 1999999973 ()) (λ_=>J) λd=>(cI (Li 2 a.2.1 J (jW (je (qu (aJ (aq 3 (zE eI) d J) (aJ (dB (aq 4 (zE eI) a.2.2 J) 1000000 ()) (dO eI))) (zz J))) (ZG (F6 (aq 4 (zE eI) a.2.2 J) (B7 0)))) λg=>(cI (bW 4 (oh (aq 4 (zE eI) a.2.2 J) 1000000 ()) (λ_=>J) λf=>(dj (eH (d,g,f) J))))))))
def gJ(g:Int)(c:Int)(f:BC)(b:Int)(e:Int):BC:=(let a:Int×BC×Int:=((rng 0 c.toNat).foldl (λ(a:Int×BC×Int) (d:Int)=>(cu  a d)) (b,f,e));a.2.1)
def jC(g:Int)(c:Int)(f:BC)(d:Int)(e:Int):Prop:=(Rg c/\vN (λ(a:Int×BC×Int) (b:Int)=>(cu  a b)) (λ(a:Int×BC×Int) (b:Int)=>Z (gH  a b)) (rng 0 c.toNat) (d,f,e))
def wg:Ev->S An:=(aH (nu (Jb (ao (gv 1) aG)) (jQ 5) jA) (aH (Di 2) f9))
theorem wj(c:Int)(b:Int)(f:BC)(d:Int)(e:Int):RP wg [Z (zE eI c),Z (zE eI b),Z (oE eI f),Z (zE eI d),Z (zE eI e),O] (λr=>An.rt (oE eI r)) (gJ c b f d e) (Z (jC c b f d e)):=R.tp (Cp (λa:Int×BC×Int=>[Z (zE eI c),Z (zE eI b),Z ((oE eI) a.2.1),Z ((zE eI) a.1),Z ((zE eI) a.2.2),O]) (d,f,e) J (zG (aq 1 (zE eI) b J)) _ (λ_ _=>J) (λ(a:Int×BC×Int) (g:Int)=>(vZ c b a g).r) λa=>(Rc 2 (λr=>r) a.2.1 J (λ_=>J) λ_=>J))
def bC(a:Int)(d:Int):BC:=(let e:=([]:Y Int);(let c:=((((a%1999999973)+31)*765432101)%1999999973);(let b:=(0:Int);(let b:Int:=(if((decide (a<0))||(decide (((10:Int) ^ 18)<=a)))=true then(let b:=(if a<0 then -a else a);b)else b);(gJ a d e c b)))))
def fU(a:Int)(d:Int):Prop:=(let e:=([]:Y Int);(let c:=((((a%1999999973)+31)*765432101)%1999999973);(let b:=(0:Int);(let b:Int:=(if((decide (a<0))||(decide (((10:Int) ^ 18)<=a)))=true then(let b:=(if a<0 then -a else a);b)else b);(jC a d e c b)))))
theorem Bc(a:Int)(c:Int):RP jG [Z (zE eI a),Z (zE eI c),O,O,O,O] (λr=>An.rt (oE eI r)) (bC a c) (Z (fU a c)):=R.tp (bW 2 (qu (dO eI) (zz J)) (λ_=>J) λe=>(bW 3 (dB (La (jq (dB (aq 0 (zE eI) a J) 1999999973 ()) (B7 31)) 765432101 ()) 1999999973 ()) (λ_=>J) λd=>(bW 4 (B7 0) (λ_=>J) λb=>(Rf (λb:Int=>[Z (zE eI a),Z (zE eI c),Z (oE eI e),Z (zE eI d),Z (zE eI b),O]) (NP (eZ (WQ (aq 0 (zE eI) a J) (B7 0))) (eZ (CD (aq 0 (zE eI) a J) (Zx 10 18 18 () J)))) (cI (bW 4 (LN (aq 0 (zE eI) a J)) (λ_=>J) λb=>(dj (eH b J)))) (dj (eH b J)) λb=>(wj a c e d b).r))))
theorem mW:∀v bs,(aZ eI (aZ eI aN)) v bs->bs.length=2/\(B4 (Z (fU v.1 v.2.1))->d9 (bs.map B9)=Z ((oE eI) (bC v.1 v.2.1))):=by
 rintro⟨a,b,_⟩ _ ⟨_,rfl,⟨_,rfl,rfl⟩⟩;exact⟨rfl,λh=>dD (g:=jG) (n:=6) (bs:=[.z (eI a),.z (eI b)]) (Bc a b) h⟩
def dR(f:BC)(e:AJ)(g:AJ)(d:Int)(b:At)(c:Int):At:=(let h:=(ch e ((c+(As f 2))%15));(let a:=(((Txt.slice g O (Z d))++h)++(Txt.slice g (Z d) O));(let a:AJ:=(if(decide (((As f 3)%3)=1))=true then(let a:=(Txt.mul (ch e (c / (8:Int))) (1+(c%8)));a)else a);(let b:=b++[a];b))))
def jg(b:BC)(d:AJ)(e:AJ)(c:Int)(h:At)(a:Int):Prop:=((In b.length 2/\In d.length ((a+(As b 2))%15))/\(let g:=(ch d ((a+(As b 2))%15));((Av ((Txt.slice e O (Z c)).length+g.length)/\Av (((Txt.slice e O (Z c))++g).length+(Txt.slice e (Z c) O).length))/\(let f:=(((Txt.slice e O (Z c))++g)++(Txt.slice e (Z c) O));((In b.length 3/\((decide (((As b 3)%3)=1))=true->(In d.length (a / (8:Int))/\((1+(a%8))<=1000 ∧ -1000<=(1+(a%8))/\(ch d (a / (8:Int))).length<=1000))))/\(let f:AJ:=(if(decide (((As b 3)%3)=1))=true then(let f:=(Txt.mul (ch d (a / (8:Int))) (1+(a%8)));f)else f);Av h.length))))))
theorem z6(g:BC)(j:Lp jM (g.map eI))(h:Int)(e:AJ)(f:AJ)(b:Int)(a:At)(d:Int):RP lH [Z jM,Z (zE eI h),Z (zE eS e),Z (zE eS f),Z (zE eI b),Z (oE eS a),Z (zE eI d),O,O] (λs=>An.nx ((λa:At=>[Z jM,Z (zE eI h),Z (zE eS e),Z (zE eS f),Z (zE eI b),Z (oE eS a),O,O,O]) s)) (dR g e f b a d) (Z (jg g e f b a d)):=R.tp (cI (bW 7 (Ld (aq 2 (zE eS) e J) (dB (jq (aq 6 (zE eI) d J) (jW (jR 0 eI g j J) (B7 2))) 15 ())) (λ_=>J) λi=>(cI (bW 8 (Ea (Ea (Lg (aq 3 (zE eS) f J) zB (zF (aq 4 (zE eI) b J))) (aq 7 (zE eS) i J)) (Lg (aq 3 (zE eS) f J) (zF (aq 4 (zE eI) b J)) zB)) (λ_=>J) λc=>(cI (Rf (λc:AJ=>[Z jM,Z (zE eI h),Z (zE eS e),Z (zE eS f),Z (zE eI b),Z (oE eS a),Z (zE eI d),Z (zE eS i),Z (zE eS c)]) (eZ (BO () (dB (jW (jR 0 eI g j J) (B7 3)) 3 ()) (B7 1))) (cI (bW 8 (ZF (Ld (aq 2 (zE eS) e J) (oh (aq 6 (zE eI) d J) 8 ())) (jq (B7 1) (dB (aq 6 (zE eI) d J) 8 ()))) (λ_=>J) λc=>(dj (eH c J)))) (dj (eH c J)) λc=>(cI (Li 5 a J (aq 8 (zE eS) c J) λa=>(dj (eH a J))))))))))
def jh(b:BC)(e:Int)(g:AJ)(c:AJ):At:=(let d:=((As b 1)%((c.length:Int)+1));(let a:=([]:At);(let a:At:=((rng 0 e.toNat).foldl (λ(a:At) (f:Int)=>(dR b g c d a f)) a);a)))
def lK(b:BC)(f:Int)(g:AJ)(c:AJ):Prop:=((In b.length 1/\0<((c.length:Int)+1))/\(let e:=((As b 1)%((c.length:Int)+1));(let a:=([]:At);(Rg f/\vN (λ(a:At) (d:Int)=>(dR b g c e a d)) (λ(a:At) (d:Int)=>Z (jg b g c e a d)) (rng 0 f.toNat) a))))
def z7:Ev->S An:=(aH (Au 4 (b2 iZ (b2 fG (gv 0) (cB (.int 1))) (b2 fD (cQ q9 (ao (gv 3) aG)) (cB (.int 1))))) (aH (Au 5 (cQ qZ aG)) (aH (nu (Jb (ao (gv 1) aG)) (jQ 6) lH) (aH (Di 5) f9))))
theorem z8(e:BC)(g:Lp jM (e.map eI))(b:Int)(d:AJ)(c:AJ):RP z7 [Z jM,Z (zE eI b),Z (zE eS d),Z (zE eS c),O,O,O,O,O] (λr=>An.rt (oE eS r)) (jh e b d c) (Z (lK e b d c)):=R.tp (bW 4 (LF (jW (jR 0 eI e g J) (B7 1)) (jq (sU (aq 3 (zE eS) c J)) (B7 1))) (λ_=>J) λf=>(bW 5 (qu (dO eS) (zz J)) (λ_=>J) λa=>(Cp (λa:At=>[Z jM,Z (zE eI b),Z (zE eS d),Z (zE eS c),Z (zE eI f),Z (oE eS a),O,O,O]) a J (zG (aq 1 (zE eI) b J)) _ (λ_ _=>J) (λ(a:At) (h:Int)=>(z6 e g b d c f a h).r) λa=>(Rc 5 (λr=>r) a J (λ_=>J) λ_=>J))))
def dH(a:BC)(c:Int):At:=(let b:=("abcdefghijklmnopqrstuvwxyz":AJ);(let e:=(Txt.join "" ((rng 0 ((As a 0)%6).toNat).map λd:Int=>(ch b (((As a d) / (40:Int))%26))));(jh a c b e)))
def mH(a:BC)(d:Int):Prop:=(let c:=("abcdefghijklmnopqrstuvwxyz":AJ);(((((In a.length 0/\Rg ((As a 0)%6))/\(rng 0 ((As a 0)%6).toNat).length<=100000)/\(∀b∈(rng 0 ((As a 0)%6).toNat),(In a.length b/\In c.length (((As a b) / (40:Int))%26))))/\(((rng 0 ((As a 0)%6).toNat).map λb:Int=>(ch c (((As a b) / (40:Int))%26))).map (·.length)).sum+((rng 0 ((As a 0)%6).toNat).map λb:Int=>(ch c (((As a b) / (40:Int))%26))).length*("":AJ).length<=100000)/\(let e:=(Txt.join "" ((rng 0 ((As a 0)%6).toNat).map λb:Int=>(ch c (((As a b) / (40:Int))%26))));(lK a d c e))))
theorem Ih(a:BC)(c:Lp jM (a.map eI))(b:Int):RP lY [Z jM,Z (zE eI b),O,O,O,O,O,O,O] (λr=>An.rt (oE eS r)) (dH a b) (Z (mH a b)):=R.tp (bW 2 (yr "abcdefghijklmnopqrstuvwxyz") (λ_=>J) λd=>(bW 3 (ZJ "" (je (oA (zG (dB (jW (jR 0 eI a c J) (B7 0)) 6 ())) _ (λ_=>J) (λe:Int=>(Ld (aq 0 (zE eS) d J) (dB (oh (jW (jR 1 eI a c (congrArg Z (c.get J))) (aq 2 (zE eI) e J)) 40 ()) 26 ())))))) (λ_=>J) λf=>(z8 a c b d f).r))
theorem Ii:∀v bs,(aL eI (aZ eI aN)) v bs->bs.length=2/\(B4 (Z (mH v.1 v.2.1))->lZ (bs.map B9)=Z ((oE eS) (dH v.1 v.2.1))):=by
 rintro⟨b,a,_⟩ _ ⟨jM,_,rfl,c,⟨_,rfl,rfl⟩⟩;exact⟨rfl,λh=>dD (g:=lY) (n:=9) (bs:=[B9 jM,.z (eI a)]) (Ih b (zp c) a) h⟩
def gP(b:Int)(a:AJ)(c:Int):AJ:=(let a:=(a++(ch ("ab1":AJ) (((b / (16:Int)) / (As [(1:Int),(3:Int),(9:Int),(27:Int)] c))%3)));a)
def jN(b:Int)(c:AJ)(a:Int):Prop:=(((In [(1:Int),(3:Int),(9:Int),(27:Int)].length a/\(0<(As [(1:Int),(3:Int),(9:Int),(27:Int)] a)/\(As [(1:Int),(3:Int),(9:Int),(27:Int)] a)<1073741824))/\In ("ab1":AJ).length (((b / (16:Int)) / (As [(1:Int),(3:Int),(9:Int),(27:Int)] a))%3))/\Av (c.length+(ch ("ab1":AJ) (((b / (16:Int)) / (As [(1:Int),(3:Int),(9:Int),(27:Int)] a))%3)).length))
theorem Bd(b:Int)(a:AJ)(c:Int):RP rQ [Z (zE eI b),Z (zE eS a),Z (zE eI c)] (λs=>An.nx ((λa:AJ=>[Z (zE eI b),Z (zE eS a),O]) s)) (gP b a c) (Z (jN b a c)):=R.tp (cI (bW 1 (Ea (aq 1 (zE eS) a J) (Ld (yr "ab1") (dB (Zw (oh (aq 0 (zE eI) b J) 16 ()) (jW (je (qu (aJ (B7 1) (aJ (B7 3) (aJ (B7 9) (aJ (B7 27) (dO eI))))) (zz J))) (aq 2 (zE eI) c J))) 3 ()))) (λ_=>J) λa=>(dj (eH a J))))
def lM(b:Int):AJ:=(if(decide ((b%4)=0))=true then(As [("a":AJ),("ab":AJ),("abc":AJ),("b":AJ),("1":AJ),("12":AJ),("a1":AJ)] ((b / (4:Int))%7))else(let a:=("":AJ);(let a:AJ:=((rng 0 (1+((b / (4:Int))%4)).toNat).foldl (λ(a:AJ) (c:Int)=>(gP b a c)) a);a)))
def pB(a:Int):Prop:=(((decide ((a%4)=0))=true->In [("a":AJ),("ab":AJ),("abc":AJ),("b":AJ),("1":AJ),("12":AJ),("a1":AJ)].length ((a / (4:Int))%7))/\((decide ((a%4)=0))=false->(let b:=("":AJ);(Rg (1+((a / (4:Int))%4))/\vN (λ(b:AJ) (c:Int)=>(gP a b c)) (λ(b:AJ) (c:Int)=>Z (jN a b c)) (rng 0 (1+((a / (4:Int))%4)).toNat) b))))
theorem JW(a:Int):RP oM [Z (zE eI a),O,O] (λr=>An.rt (zE eS r)) (lM a) (Z (pB a)):=R.tp (jT (eZ (BO () (dB (aq 0 (zE eI) a J) 4 ()) (B7 0))) (cI (cZ (λr=>r) (jW (je (qu (aJ (yr "a") (aJ (yr "ab") (aJ (yr "abc") (aJ (yr "b") (aJ (yr "1") (aJ (yr "12") (aJ (yr "a1") (dO eS)))))))) (zz J))) (dB (oh (aq 0 (zE eI) a J) 4 ()) 7 ())) (λ_=>J) λ_=>J)) (dj (bW 1 (yr "") (λ_=>J) λb=>(Cp (λb:AJ=>[Z (zE eI a),Z (zE eS b),O]) b J (zG (jq (B7 1) (dB (oh (aq 0 (zE eI) a J) 4 ()) 4 ()))) _ (λ_ _=>J) (λ(b:AJ) (c:Int)=>(Bd a b c).r) λb=>(cZ (λr=>r) (aq 1 (zE eS) b J) (λ_=>J) λ_=>J)))))
theorem JX:∀v bs,(aZ eI aN) v bs->bs.length=1/\(B4 (Z (pB v.1))->oN (bs.map B9)=Z ((zE eS) (lM v.1))):=by
 rintro⟨a,_⟩ _ ⟨_,rfl,rfl⟩;exact⟨rfl,λh=>dD (g:=oM) (n:=3) (bs:=[.z (eI a)]) (JW a) h⟩
def fP(c:BC)(d:At)(a:Y bD)(b:Int):(Y bD):=(let a:(Y bD):=(if(decide ((0:Int)<((As c b)%4)))=true then(let a:=a++[((As d b),(lM ((As c b) / (4:Int))))];a)else a);a)
def j9(b:BC)(c:At)(d:Y bD)(a:Int):Prop:=(In b.length a/\((decide ((0:Int)<((As b a)%4)))=true->((In c.length a/\(In b.length a/\(pB ((As b a) / (4:Int)))))/\Av d.length)))
theorem Ey(f:AJ)(d:BC){e:Bx}(g:Lp e (d.map eI))(c:At)(a:Y bD)(b:Int):RP uW [Z (zE eS f),Z e,Z (oE eS c),Z (oE aR a),Z (zE eI b)] (λs=>An.nx ((λa:(Y bD)=>[Z (zE eS f),Z e,Z (oE eS c),Z (oE aR a),O]) s)) (fP d c a b) (Z (j9 d c a b)):=R.tp (cI (Rf (λa:(Y bD)=>[Z (zE eS f),Z e,Z (oE eS c),Z (oE aR a),Z (zE eI b)]) (eZ (F6 (dB (jW (jR 1 eI d g J) (aq 4 (zE eI) b J)) 4 ()) (B7 0))) (cI (Li 3 a J (sS (jW (jk (aq 2 (lE eS) c J)) (aq 4 (zE eI) b J)) (jo (AZ JX (bf (oh (jW (jR 1 eI d g J) (aq 4 (zE eI) b J)) 4 ()) bx)))) λa=>(dj (eH a J)))) (dj (eH a J)) λa=>(dj (eH a J))))
def jD(b:AJ)(e:BC):bF:=(let c:=[("day":AJ),("name":AJ),(("name":AJ)++("s":AJ)),("p":AJ)];(let a:=([]:Y bD);(let a:(Y bD):=((rng 0 (kN 4)).foldl (λ(a:Y bD) (d:Int)=>(fP e c a d)) a);(b,a))))
def nH(e:AJ)(d:BC):Prop:=(Av (("name":AJ).length+("s":AJ).length)/\(let c:=[("day":AJ),("name":AJ),(("name":AJ)++("s":AJ)),("p":AJ)];(let a:=([]:Y bD);vN (λ(a:Y bD) (b:Int)=>(fP d c a b)) (λ(a:Y bD) (b:Int)=>Z (j9 d c a b)) (rng 0 (kN 4)) a)))
theorem Oe(b:AJ)(c:BC){d:Bx}(g:Lp d (c.map eI)):RP qM [Z (zE eS b),Z d,O,O,O] (λr=>An.rt (zE aP r)) (jD b c) (Z (nH b c)):=R.tp (bW 2 (qu (aJ (yr "day") (aJ (yr "name") (aJ (jo (Ea (yr "name") (yr "s"))) (aJ (yr "p") (dO eS))))) (zz J)) (λ_=>J) λe=>(bW 3 (qu (dO aR) (zz J)) (λ_=>J) λa=>(Cp (λa:(Y bD)=>[Z (zE eS b),Z d,Z (oE eS e),Z (oE aR a),O]) a J (Rk 4 4 J (by unfold Rg;decide)) _ (λ_ _=>J) (λ(a:Y bD) (f:Int)=>(Ey b c g e a f).r) λa=>(cZ (λr=>r) (sS (aq 0 (zE eS) b J) (uK (jk (aq 3 (lE aR) a J)))) (λ_=>J) λ_=>J))))
theorem Og:∀v bs,(aZ eS (aL eI aN)) v bs->bs.length=2/\(B4 (Z (nH v.1 v.2.1))->qN (bs.map B9)=Z ((zE aP) (jD v.1 v.2.1))):=by
 rintro⟨a,c,_⟩ _ ⟨_,rfl,⟨d,_,rfl,b,rfl⟩⟩;exact⟨rfl,λh=>dD (g:=qM) (n:=5) (bs:=[.z (eS a),B9 d]) (Oe a c (zp b)) h⟩
def jO(c:BC)(e:BC)(d:At)(a:Y bF)(b:Int):(Y bF):=(let a:=a++[(jD (As d (((4*b)+(As e 7))%15)) (bC (bM c (1+b)) 4))];a)
def mX(b:BC)(c:BC)(d:At)(e:Y bF)(a:Int):Prop:=((((In c.length 7/\In d.length (((4*a)+(As c 7))%15))/\((iG b (1+a))/\(fU (bM b (1+a)) 4)))/\(nH (As d (((4*a)+(As c 7))%15)) (bC (bM b (1+a)) 4)))/\Av e.length)
theorem Bf(e:BC)(h:Lp jM (e.map eI))(g:Int)(d:BC)(c:At)(f:Int)(a:Y bF)(b:Int):RP rR [Z jM,Z (zE eI g),Z (oE eI d),Z (oE eS c),Z (zE eI f),Z (oE aP a),Z (zE eI b)] (λs=>An.nx ((λa:(Y bF)=>[Z jM,Z (zE eI g),Z (oE eI d),Z (oE eS c),Z (zE eI f),Z (oE aP a),O]) s)) (jO e d c a b) (Z (mX e d c a b)):=R.tp (cI (Li 5 a J (jo (AZ Og (bf (jW (jk (aq 3 (lE eS) c J)) (dB (jq (DW 4 () (aq 6 (zE eI) b J)) (jW (jk (aq 2 (lE eI) d J)) (B7 7))) 15 ())) (Ho (zm (HI (AZ mW (bf (jo (AZ tH (Ho (jR 0 eI e h J) (bf (jo (jq (B7 1) (aq 6 (zE eI) b J))) bx)))) (bf (B7 4) bx))))) bx)))) λa=>(dj (eH a J))))
def dU(c:BC)(d:Int):(Y bF):=(let b:=(bC (bM c 0) 9);(let g:=(dH b 15);(let e:=(As [(1:Int),(2:Int),(5:Int),(8:Int),d,d] ((As b 6)%6));(let a:=([]:Y bF);(let a:(Y bF):=((rng 0 e.toNat).foldl (λ(a:Y bF) (f:Int)=>(jO c b g a f)) a);a)))))
def pC(b:BC)(d:Int):Prop:=(((iG b 0)/\(fU (bM b 0) 9))/\(let a:=(bC (bM b 0) 9);((mH a 15)/\(let g:=(dH a 15);((In a.length 6/\In [(1:Int),(2:Int),(5:Int),(8:Int),d,d].length ((As a 6)%6))/\(let f:=(As [(1:Int),(2:Int),(5:Int),(8:Int),d,d] ((As a 6)%6));(let c:=([]:Y bF);(Rg f/\vN (λ(c:Y bF) (e:Int)=>(jO b a g c e)) (λ(c:Y bF) (e:Int)=>Z (mX b a g c e)) (rng 0 f.toNat) c))))))))
theorem JZ(c:BC)(f:Lp jM (c.map eI))(b:Int):RP oO [Z jM,Z (zE eI b),O,O,O,O,O] (λr=>An.rt ((zE (eT aP)) r)) (dU c b) (Z (pC c b)):=R.tp (bW 2 (AZ mW (bf (jo (AZ tH (Ho (jR 0 eI c f J) (bf (B7 0) bx)))) (bf (B7 9) bx))) (λ_=>J) λd=>(bW 3 (AZ Ii (Ho (jk (aq 2 (lE eI) d J)) (bf (B7 15) bx))) (λ_=>J) λg=>(bW 4 (jW (je (qu (aJ (B7 1) (aJ (B7 2) (aJ (B7 5) (aJ (B7 8) (aJ (aq 1 (zE eI) b J) (aJ (aq 1 (zE eI) b J) (dO eI))))))) (zz J))) (dB (jW (jk (aq 2 (lE eI) d J)) (B7 6)) 6 ())) (λ_=>J) λe=>(bW 5 (qu (dO aP) (zz J)) (λ_=>J) λa=>(Cp (λa:(Y bF)=>[Z jM,Z (zE eI b),Z (oE eI d),Z (oE eS g),Z (zE eI e),Z (oE aP a),O]) a J (zG (aq 4 (zE eI) e J)) _ (λ_ _=>J) (λ(a:Y bF) (h:Int)=>(Bf c f b d g e a h).r) λa=>(cZ (λr=>r) (uK (jk (aq 5 (lE aP) a J))) (λ_=>J) λ_=>J))))))
theorem J0:∀v bs,(aL eI (aZ eI aN)) v bs->bs.length=2/\(B4 (Z (pC v.1 v.2.1))->oR (bs.map B9)=Z ((zE (eT aP)) (dU v.1 v.2.1))):=by
 rintro⟨b,a,_⟩ _ ⟨jM,_,rfl,c,⟨_,rfl,rfl⟩⟩;exact⟨rfl,λh=>dD (g:=oO) (n:=7) (bs:=[B9 jM,.z (eI a)]) (JZ b (zp c) a) h⟩
def gK(a:AJ)(b:Unit)(q2:bD):nM (Unit) (S AJ):=(if(decide (q2.1=a))=true then(nM.rt (Z q2.2))else(nM.nx gd))
theorem Ez(b:bF)(a:AJ)(c:Unit)(q2:bD):RP uX [Z (zE aP b),Z (zE eS a),Z ((zE eS) q2.1),Z ((zE eS) q2.2)] (cC (λc:Unit=>[Z (zE aP b),Z (zE eS a),O,O]) (zE (eO eS))) (gK a c q2) (O):=R.tp (cI (jT (eZ (BO () (aq 2 (zE eS) q2.1 J) (aq 1 (zE eS) a J))) (cI (cZ .rt (JB (aq 3 (zE eS) q2.2 J)) (λ_=>J) λ_=>J)) (dj (dj (eH (.nx gd) J)))))
def bG(c:bF)(b:AJ):(S AJ):=(Bn (jl (λ(a:Unit) (q2:bD)=>((gK b a q2):nM (Unit) (S AJ))) c.2 gd) (λr=>r) λa:Unit=>O)
def fj(c:bF)(b:AJ):Prop:=(nA (λ(a:Unit) (q2:bD)=>((gK b a q2):nM (Unit) (S AJ))) (λ(a:Unit) (q2:bD)=>O) c.2 gd/\(yq (jl (λ(a:Unit) (q2:bD)=>((gK b a q2):nM (Unit) (S AJ))) c.2 gd) λa:Unit=>True))
theorem Oh(a:bF)(b:AJ):RP qO [Z (zE aP a),Z (zE eS b),O,O] (λr=>An.rt ((zE (eO eS)) r)) (bG a b) (Z (fj a b)):=R.tp (JF (λc:Unit=>[Z (zE aP a),Z (zE eS b),O,O]) gd J (MQ (lD (aq 0 (zE aP) a J) (λq=>q.2) (eT aR) 1 λ_=>J)) _ (λ_ _=>J) (λ(c:Unit) (q2:bD)=>((Ez a b c q2).r:R _ _ (cC (λc:Unit=>[Z (zE aP a),Z (zE eS b),O,O]) (zE (eO eS))))) (λr=>r) (λ_=>J) λc=>(cZ (λr=>r) Zv (λ_=>J) λ_=>J))
theorem iT:∀v bs,(aZ aP (aZ eS aN)) v bs->bs.length=2/\(B4 (Z (fj v.1 v.2.1))->cU (bs.map B9)=Z ((zE (eO eS)) (bG v.1 v.2.1))):=by
 rintro⟨b,a,_⟩ _ ⟨_,rfl,⟨_,rfl,rfl⟩⟩;exact⟨rfl,λh=>dD (g:=qO) (n:=4) (bs:=[.z (aP b),.z (eS a)]) (Oh b a) h⟩
def dI(c:bF)(d:bF)(a:AJ):Bool:=(let b:=(bG c a);(b.isSome&&(decide (b=(bG d a)))))
def iU(b:bF)(d:bF)(a:AJ):Prop:=((fj b a)/\(let c:=(bG b a);(c.isSome=true->(fj d a))))
theorem Ij(b:bF)(c:bF)(a:AJ):RP mj [Z (zE aP b),Z (zE aP c),Z (zE eS a),O] (λr=>An.rt (zE eB r)) (dI b c a) (Z (iU b c a)):=R.tp (bW 3 (AZ iT (bf (aq 0 (zE aP) b J) (bf (aq 2 (zE eS) a J) bx))) (λ_=>J) λd=>(cZ (λr=>r) (wU (yj (aq 3 (zE (eO eS)) d J) λ_=>J) (BO () (aq 3 (zE (eO eS)) d J) (AZ iT (bf (aq 1 (zE aP) c J) (bf (aq 2 (zE eS) a J) bx))))) (λ_=>J) λ_=>J))
theorem qC:∀v bs,(aZ aP (aZ aP (aZ eS aN))) v bs->bs.length=3/\(B4 (Z (iU v.1 v.2.1 v.2.2.1))->iQ (bs.map B9)=Z ((zE eB) (dI v.1 v.2.1 v.2.2.1))):=by
 rintro⟨b,c,a,_⟩ _ ⟨_,rfl,⟨_,rfl,⟨_,rfl,rfl⟩⟩⟩;exact⟨rfl,λh=>dD (g:=mj) (n:=4) (bs:=[.z (aP b),.z (aP c),.z (eS a)]) (Ij b c a) h⟩
def gQ(e:bF)(f:bF)(d:AJ)(a:Int):Bool:=(let b:=(bG e d);(let c:=(bG f d);(if(b.isNone||c.isNone)=true then false else((decide (a<=((b.getD default).length:Int)))&&((decide (a<=((c.getD default).length:Int)))&&(decide ((Z (Txt.slice (b.getD default) O (Z a)))=(Z (Txt.slice (c.getD default) O (Z a))))))))))
def gR(d:bF)(f:bF)(a:AJ)(e:Int):Prop:=((fj d a)/\(let b:=(bG d a);((fj f a)/\(let c:=(bG f a);((b.isNone||c.isNone)=false->(b.isSome=true/\((decide (e<=((b.getD default).length:Int)))=true->(c.isSome=true/\((decide (e<=((c.getD default).length:Int)))=true->(b.isSome=true/\c.isSome=true))))))))))
theorem Bg(c:bF)(d:bF)(b:AJ)(a:Int):RP jH [Z (zE aP c),Z (zE aP d),Z (zE eS b),Z (zE eI a),O,O] (λr=>An.rt (zE eB r)) (gQ c d b a) (Z (gR c d b a)):=R.tp (bW 4 (AZ iT (bf (aq 0 (zE aP) c J) (bf (aq 2 (zE eS) b J) bx))) (λ_=>J) λe=>(bW 5 (AZ iT (bf (aq 1 (zE aP) d J) (bf (aq 2 (zE eS) b J) bx))) (λ_=>J) λf=>(jT (NP (eZ (Q5 (aq 4 (zE (eO eS)) e J) λ_=>J)) (eZ (Q5 (aq 5 (zE (eO eS)) f J) λ_=>J))) (cI (cZ (λr=>r) (pJ (.bl false) eB false J) (λ_=>J) λ_=>J)) (dj (cZ (λr=>r) (wU (CD (sU (jm (aq 4 (zE (eO eS)) e J))) (aq 3 (zE eI) a J)) (wU (CD (sU (jm (aq 5 (zE (eO eS)) f J))) (aq 3 (zE eI) a J)) (BO () (JB (Lg (jm (aq 4 (zE (eO eS)) e J)) zB (zF (aq 3 (zE eI) a J)))) (JB (Lg (jm (aq 5 (zE (eO eS)) f J)) zB (zF (aq 3 (zE eI) a J))))))) (λ_=>J) λ_=>J)))))
theorem Bh:∀v bs,(aZ aP (aZ aP (aZ eS (aZ eI aN)))) v bs->bs.length=4/\(B4 (Z (gR v.1 v.2.1 v.2.2.1 v.2.2.2.1))->jJ (bs.map B9)=Z ((zE eB) (gQ v.1 v.2.1 v.2.2.1 v.2.2.2.1))):=by
 rintro⟨b,c,a,d,_⟩ _ ⟨_,rfl,⟨_,rfl,⟨_,rfl,⟨_,rfl,rfl⟩⟩⟩⟩;exact⟨rfl,λh=>dD (g:=jH) (n:=6) (bs:=[.z (aP b),.z (aP c),.z (eS a),.z (eI d)]) (Bg b c a d) h⟩
def ji(d:bF)(e:bF)(a:AJ):Bool:=(let b:=(bG d a);(let c:=(bG e a);(b.isSome&&(c.isSome&&(!decide (b=c))))))
def kh(b:bF)(c:bF)(a:AJ):Prop:=((fj b a)/\(let d:=(bG b a);(fj c a)))
theorem EY(b:bF)(c:bF)(a:AJ):RP j6 [Z (zE aP b),Z (zE aP c),Z (zE eS a),O,O] (λr=>An.rt (zE eB r)) (ji b c a) (Z (kh b c a)):=R.tp (bW 3 (AZ iT (bf (aq 0 (zE aP) b J) (bf (aq 2 (zE eS) a J) bx))) (λ_=>J) λd=>(bW 4 (AZ iT (bf (aq 1 (zE aP) c J) (bf (aq 2 (zE eS) a J) bx))) (λ_=>J) λe=>(cZ (λr=>r) (wU (yj (aq 3 (zE (eO eS)) d J) λ_=>J) (wU (yj (aq 4 (zE (eO eS)) e J) λ_=>J) (F2 () (aq 3 (zE (eO eS)) d J) (aq 4 (zE (eO eS)) e J)))) (λ_=>J) λ_=>J)))
theorem Fe:∀v bs,(aZ aP (aZ aP (aZ eS aN))) v bs->bs.length=3/\(B4 (Z (kh v.1 v.2.1 v.2.2.1))->j7 (bs.map B9)=Z ((zE eB) (ji v.1 v.2.1 v.2.2.1))):=by
 rintro⟨b,c,a,_⟩ _ ⟨_,rfl,⟨_,rfl,⟨_,rfl,rfl⟩⟩⟩;exact⟨rfl,λh=>dD (g:=j6) (n:=5) (bs:=[.z (aP b),.z (aP c),.z (eS a)]) (EY b c a) h⟩
def aK(a:Dt)(c:bF)(b:bF):Bool:=(if(sO (fY a 0) (Dt.str "same"))=true then(dI c b (Aw (fY a 1)))else(if(sO (fY a 0) (Dt.str "begin"))=true then(gQ c b (Aw (fY a 1)) (NQ (fY a 2)))else(if(sO (fY a 0) (Dt.str "both"))=true then((dI c b (Aw (fY a 1)))&&(dI c b (Aw (fY a 2))))else(ji c b (Aw (fY a 1))))))
def pD(a:Dt)(c:bF)(b:bF):Prop:=((Ai a (0:Int)/\Lb (fY a 0) (Dt.str "same"))/\(((sO (fY a 0) (Dt.str "same"))=true->((Ai a (1:Int)/\(fY a 1)=eS (Aw (fY a 1)))/\(iU c b (Aw (fY a 1)))))/\((sO (fY a 0) (Dt.str "same"))=false->((Ai a (0:Int)/\Lb (fY a 0) (Dt.str "begin"))/\(((sO (fY a 0) (Dt.str "begin"))=true->(((Ai a (1:Int)/\(fY a 1)=eS (Aw (fY a 1)))/\(Ai a (2:Int)/\(fY a 2)=eI (NQ (fY a 2))))/\(gR c b (Aw (fY a 1)) (NQ (fY a 2)))))/\((sO (fY a 0) (Dt.str "begin"))=false->((Ai a (0:Int)/\Lb (fY a 0) (Dt.str "both"))/\(((sO (fY a 0) (Dt.str "both"))=true->(((Ai a (1:Int)/\(fY a 1)=eS (Aw (fY a 1)))/\(iU c b (Aw (fY a 1))))/\((dI c b (Aw (fY a 1)))=true->((Ai a (2:Int)/\(fY a 2)=eS (Aw (fY a 2)))/\(iU c b (Aw (fY a 2)))))))/\((sO (fY a 0) (Dt.str "both"))=false->((Ai a (1:Int)/\(fY a 1)=eS (Aw (fY a 1)))/\(kh c b (Aw (fY a 1)))))))))))))
theorem Wa(a:Dt)(b:bF)(c:bF):RP yu [Z (zE eD a),Z (zE aP b),Z (zE aP c)] (λr=>An.rt (zE eB r)) (aK a b c) (Z (pD a b c)):=R.tp (jT (eZ (Cm (lV (aq 0 (zE eD) a J) (B7 0)) (BV (.str "same")))) (cI (cZ (λr=>r) (AZ qC (bf (aq 1 (zE aP) b J) (bf (aq 2 (zE aP) c J) (bf (ou (lV (aq 0 (zE eD) a J) (B7 1)) Aw eS) bx)))) (λ_=>J) λ_=>J)) (dj (jT (eZ (Cm (lV (aq 0 (zE eD) a J) (B7 0)) (BV (.str "begin")))) (cI (cZ (λr=>r) (AZ Bh (bf (aq 1 (zE aP) b J) (bf (aq 2 (zE aP) c J) (bf (ou (lV (aq 0 (zE eD) a J) (B7 1)) Aw eS) (bf (ou (lV (aq 0 (zE eD) a J) (B7 2)) NQ eI) bx))))) (λ_=>J) λ_=>J)) (dj (jT (eZ (Cm (lV (aq 0 (zE eD) a J) (B7 0)) (BV (.str "both")))) (cI (cZ (λr=>r) (wU (AZ qC (bf (aq 1 (zE aP) b J) (bf (aq 2 (zE aP) c J) (bf (ou (lV (aq 0 (zE eD) a J) (B7 1)) Aw eS) bx)))) (AZ qC (bf (aq 1 (zE aP) b J) (bf (aq 2 (zE aP) c J) (bf (ou (lV (aq 0 (zE eD) a J) (B7 2)) Aw eS) bx))))) (λ_=>J) λ_=>J)) (dj (cZ (λr=>r) (AZ Fe (bf (aq 1 (zE aP) b J) (bf (aq 2 (zE aP) c J) (bf (ou (lV (aq 0 (zE eD) a J) (B7 1)) Aw eS) bx)))) (λ_=>J) λ_=>J)))))))
theorem Fg:∀v bs,(aZ eD (aZ aP (aZ aP aN))) v bs->bs.length=3/\(B4 (Z (pD v.1 v.2.1 v.2.2.1))->oU (bs.map B9)=Z ((zE eB) (aK v.1 v.2.1 v.2.2.1))):=by
 rintro⟨a,b,c,_⟩ _ ⟨_,rfl,⟨_,rfl,⟨_,rfl,rfl⟩⟩⟩;exact⟨rfl,λh=>dD (g:=yu) (n:=3) (bs:=[.z (eD a),.z (aP b),.z (aP c)]) (Wa a b c) h⟩
def fV(a:Y bF)(c:D8):(Y uU):=((wV a).flatMap λq1:EW=>((BF a (Z (q1.1+1)) O).flatMap λb:bF=>(((jr 0 c).filter λq2:Od=>(aK q2.2 q1.2 b)).map λq2:Od=>(q2.2,(q1.2.1,b.1,q2.1)))))
def qU(a:Y bF)(c:D8):Prop:=((∀q1∈(wV a),(∀b∈(BF a (Z (q1.1+1)) O),(∀q2∈(jr 0 c),(pD q2.2 q1.2 b))))/\((wV a).flatMap λq1:EW=>((BF a (Z (q1.1+1)) O).flatMap λb:bF=>(((jr 0 c).filter λq2:Od=>(aK q2.2 q1.2 b)).map λq2:Od=>(q2.2,(q1.2.1,b.1,q2.1))))).length<=100000)
theorem Oi(a:Y bF)(c:Lp jM (a.map aP))(b:D8):RP qP [Z jM,Z ((zE (eT eD)) b)] (λr=>An.rt (oE V8 r)) (fV a b) (Z (qU a b)):=R.tp (cZ (λr=>r) (Vy (LH (Vw (jR 0 aP a c J)) _ (λ_=>J) (λq1:EW=>(IE (GS (Fu (jR 0 aP a c (congrArg Z (c.get J))) (zF (jq (aq 2 (zE eI) q1.1 J) (B7 1))) zB)) _ (λ_=>J) (λd:bF=>(ZX (GY (aq 1 (zE (eT eD)) b J)) _ (λ_=>J) (λq2:Od=>(Hg (AZ Fg (bf (aq 6 (zE eD) q2.2 J) (bf (aq 3 (zE aP) q1.2 J) (bf (aq 4 (zE aP) d J) bx)))))) (λq2:Od=>(sS (aq 6 (zE eD) q2.2 J) (DX (lD (aq 3 (zE aP) q1.2 J) (λq=>q.1) eS 0 λ_=>J) (lD (aq 4 (zE aP) d J) (λq=>q.1) eS 0 λ_=>J) (aq 5 (zE eI) q2.1 J)))))))))) (λ_=>J) λ_=>J)
theorem Oj:∀v bs,(aL aP (aZ (eT eD) aN)) v bs->bs.length=2/\(B4 (Z (qU v.1 v.2.1))->qQ (bs.map B9)=Z ((oE V8) (fV v.1 v.2.1))):=by
 rintro⟨b,a,_⟩ _ ⟨jM,_,rfl,c,⟨_,rfl,rfl⟩⟩;exact⟨rfl,λh=>dD (g:=qP) (n:=2) (bs:=[B9 jM,.z (eT eD a)]) (Oi b (zp c) a) h⟩
def gA(a:gZ):gZ:=(let q1:=a;((-q1.1),q1.2.1,q1.2.2.1,q1.2.2.2))
theorem J4(a:gZ):RP oV [Z (zE g8 a),O,O,O,O] (λr=>An.rt (zE g8 r)) (gA a) O:=R.tp (Lh (aq 0 (zE g8) a J) _ (λ_=>J) λq1=>(cZ (λr=>r) (DY (Q0 (aq 1 (zE eI) q1.1 J)) (aq 2 (zE eS) q1.2.1 J) (aq 3 (zE eS) q1.2.2.1 J) (aq 4 (zE eI) q1.2.2.2 J)) (λ_=>J) λ_=>J))
theorem J5:∀v bs,(aZ g8 aN) v bs->bs.length=1/\(B4 (O)->oW (bs.map B9)=Z ((zE g8) (gA v.1))):=by
 rintro⟨a,_⟩ _ ⟨_,rfl,rfl⟩;exact⟨rfl,λh=>dD (g:=oV) (n:=5) (bs:=[.z (g8 a)]) (J4 a) h⟩
def jE(a:Y gZ):(Y gZ):=(pK g8 (λx:gZ=>gA x) a)
def pF(a:Y gZ):Prop:=((∀x∈a,True)/\a.length<=100000/\∀x∈a,∀y∈a,gA x=gA y->x=y)
theorem J6(a:Y gZ)(b:Lp jM (a.map g8)):RP oX [Z jM] (λr=>An.rt (oE g8 r)) (jE a) (Z (pF a)):=R.tp (cZ (λr=>r) (RZ (e':=g8) J5 (I0 (jR 0 g8 a b J))) (λ_=>J) λ_=>J)
theorem J7:∀v bs,(aL g8 aN) v bs->bs.length=1/\(B4 (Z (pF v.1))->oY (bs.map B9)=Z ((oE g8) (jE v.1))):=by
 rintro⟨b,_⟩ _ ⟨jM,_,rfl,a,rfl⟩;exact⟨rfl,λh=>dD (g:=oX) (n:=1) (bs:=[B9 jM]) (J6 b (zp a)) h⟩
def aD(f:Y bF)(e:D8):W6:=(let a:=(pK eS (λvx:bF=>vx.1) f);(let b:=(fV a e);(let g:=((b.filter λq1:uU=>(!sO (fY q1.1 0) (Dt.str "never"))).map λq1:uU=>((NQ (fY q1.1 (-(1:Int)))),q1.2.1,q1.2.2.1,q1.2.2.2));(let c:=((b.filter λq2:uU=>(sO (fY q2.1 0) (Dt.str "never"))).map λq2:uU=>q2.2);((a.map λd:bF=>d.1),(jE g),(fZ dG c))))))
def dJ(b:Y bF)(d:D8):Prop:=(((∀vx∈b,True)/\b.length<=100000/\(b.map λvx:bF=>vx.1).Nodup)/\(let c:=(pK eS (λvx:bF=>vx.1) b);((qU c d)/\(let a:=(fV c d);((a.length<=100000/\(∀q1∈a,((Ai q1.1 (0:Int)/\Lb (fY q1.1 0) (Dt.str "never"))/\((!sO (fY q1.1 0) (Dt.str "never"))=true->(Ai q1.1 (-(1:Int))/\(fY q1.1 (-(1:Int)))=eI (NQ (fY q1.1 (-(1:Int)))))))))/\(let f:=((a.filter λq1:uU=>(!sO (fY q1.1 0) (Dt.str "never"))).map λq1:uU=>((NQ (fY q1.1 (-(1:Int)))),q1.2.1,q1.2.2.1,q1.2.2.2));((a.length<=100000/\(∀q2∈a,(Ai q2.1 (0:Int)/\Lb (fY q2.1 0) (Dt.str "never"))))/\(let e:=((a.filter λq2:uU=>(sO (fY q2.1 0) (Dt.str "never"))).map λq2:uU=>q2.2);(c.length<=100000/\((pF f)/\e.length<=100000))))))))))
theorem Ik(b:Y bF)(a:D8):RP mC [Z ((zE (eT aP)) b),Z ((zE (eT eD)) a),O,O,O,O] (λr=>An.rt (zE W7 r)) (aD b a) (Z (dJ b a)):=R.tp (bW 2 (R0 (e':=eS) (NG (aq 0 (zE (eT aP)) b J)) (λvx:bF=>(lD (aq 0 (zE aP) vx J) (λq=>q.1) eS 0 λ_=>J))) (λ_=>J) λc=>(bW 3 (AZ Oj (Ho (jk (aq 2 (lE aP) c J)) (bf (aq 1 (zE (eT eD)) a J) bx))) (λ_=>J) λd=>(bW 4 (qL (Ax (jk (aq 3 (lE V8) d J))) _ (λ_=>J) (λq1:uU=>(eZ (Gc (lV (aq 0 (zE eD) q1.1 J) (B7 0)) (BV (.str "never"))))) (λq1:uU=>(jo (ZW (e3:=g8) (Zz (ou (lV (aq 0 (zE eD) q1.1 J) (Q0 (B7 1))) NQ eI)) (aq 1 (zE dG) q1.2 J) (λx y=>(x,y.1,y.2.1,y.2.2)) λ_ _=>J)))) (λ_=>J) λg=>(bW 5 (qL (Ax (jk (aq 3 (lE V8) d J))) _ (λ_=>J) (λq2:uU=>(eZ (Cm (lV (aq 0 (zE eD) q2.1 J) (B7 0)) (BV (.str "never"))))) (λq2:uU=>(aq 1 (zE dG) q2.2 J))) (λ_=>J) λe=>(cZ (λr=>r) (DX (uK (je (yp (Ax (jk (aq 2 (lE aP) c J))) _ (λ_=>J) (λf:bF=>(lD (aq 0 (zE aP) f J) (λq=>q.1) eS 0 λ_=>J)) λ_=>J))) (uK (je (AZ J7 (Ho (jk (aq 4 (lE g8) g J)) bx)))) (uK (je (vW (jk (aq 5 (lE dG) e J)))))) (λ_=>J) λ_=>J)))))
theorem jV:∀v bs,(aZ (eT aP) (aZ (eT eD) aN)) v bs->bs.length=2/\(B4 (Z (dJ v.1 v.2.1))->d7 (bs.map B9)=Z ((zE W7) (aD v.1 v.2.1))):=by
 rintro⟨b,a,_⟩ _ ⟨_,rfl,⟨_,rfl,rfl⟩⟩;exact⟨rfl,λh=>dD (g:=mC) (n:=6) (bs:=[.z (eT aP b),.z (eT eD a)]) (Ik b a) h⟩
def aF(d:Y bF)(b:Dt):(S (Y bD)):=(let q1:=(aD d [b]);(if(sO (fY b 0) (Dt.str "never"))=true then(Z (fZ aR ((q1.2.2.map λc:lQ=>(c.1,c.2.1))++(q1.2.1.map λa:gZ=>(a.2.1,a.2.2.1)))))else(if((!decide (q1.2.2=([]:Y lQ)))||(!((q1.2.1.map λa:gZ=>((sO (eI a.1) (fY b (-(1:Int))))&&(decide (a.2.2.2=0)))).all id)))=true then O else(Z (fZ aR (q1.2.1.map λa:gZ=>(a.2.1,a.2.2.1)))))))
def bT(d:Y bF)(b:Dt):Prop:=((dJ d [b])/\(let q1:=(aD d [b]);((Ai b (0:Int)/\Lb (fY b 0) (Dt.str "never"))/\(((sO (fY b 0) (Dt.str "never"))=true->(((q1.2.2.length<=100000/\q1.2.1.length<=100000)/\Av ((q1.2.2.map λc:lQ=>(c.1,c.2.1)).length+(q1.2.1.map λa:gZ=>(a.2.1,a.2.2.1)).length))/\((q1.2.2.map λc:lQ=>(c.1,c.2.1))++(q1.2.1.map λa:gZ=>(a.2.1,a.2.2.1))).length<=100000))/\((sO (fY b 0) (Dt.str "never"))=false->(((!decide (q1.2.2=([]:Y lQ)))=false->(q1.2.1.length<=100000/\(∀a∈q1.2.1,(Ai b (-(1:Int))/\Lb (eI a.1) (fY b (-(1:Int)))))))/\(((!decide (q1.2.2=([]:Y lQ)))||(!((q1.2.1.map λa:gZ=>((sO (eI a.1) (fY b (-(1:Int))))&&(decide (a.2.2.2=0)))).all id)))=false->(q1.2.1.length<=100000/\(q1.2.1.map λa:gZ=>(a.2.1,a.2.2.1)).length<=100000))))))))
theorem Il(c:Y bF)(b:Dt):RP mD [Z ((zE (eT aP)) c),Z (zE eD b),O,O,O] (λr=>An.rt (qE aR r)) (aF c b) (Z (bT c b)):=R.tp (Lh (AZ jV (bf (aq 0 (zE (eT aP)) c J) (bf (ZC (aJ (aq 1 (zE eD) b J) (dO eD)) (zz J)) bx))) _ (λ_=>J) λq1=>(jT (eZ (Cm (lV (aq 1 (zE eD) b J) (B7 0)) (BV (.str "never")))) (cI (cZ (λr=>r) (uP (vW (je (JC (je (yp (Eb (aq 4 (zE (eT dG)) q1.2.2 J)) _ (λ_=>J) (λd:lQ=>(jo (Hl (aq 0 (zE dG) d J) (λq=>(q.1,q.2.1)) aR O (Z 2) J J λ_=>J))) λ_=>J)) (je (yp (Eb (aq 3 (zE (eT g8)) q1.2.1 J)) _ (λ_=>J) (λa:gZ=>(jo (Hl (aq 0 (zE g8) a J) (λq=>(q.2.1,q.2.2.1)) aR (Z 1) (Z 3) J J λ_=>J))) λ_=>J)))))) (λ_=>J) (λv=>by cases v<;>rfl))) (dj (jT (NP (eZ (F2 () (aq 4 (zE (eT dG)) q1.2.2 J) (Zy dG))) (zA (Hg (Hj (je (oA (Eb (aq 3 (zE (eT g8)) q1.2.1 J)) _ (λ_=>J) (λa:gZ=>(wU (Cm (gw (lD (aq 1 (zE g8) a J) (λq=>q.1) eI 0 λ_=>J)) (lV (aq 0 (zE eD) b J) (Q0 (B7 1)))) (BO () (lD (aq 1 (zE g8) a J) (λq=>q.2.2.2) eI 3 λ_=>J) (B7 0)))))))))) (cI (cZ (λr=>r) (Vz (e:=aR)) (λ_=>J) (λv=>by cases v<;>rfl))) (dj (cZ (λr=>r) (uP (vW (je (yp (Eb (aq 3 (zE (eT g8)) q1.2.1 J)) _ (λ_=>J) (λa:gZ=>(jo (Hl (aq 0 (zE g8) a J) (λq=>(q.2.1,q.2.2.1)) aR (Z 1) (Z 3) J J λ_=>J))) λ_=>J)))) (λ_=>J) (λv=>by cases v<;>rfl)))))))
theorem cP:∀v bs,(aZ (eT aP) (aZ eD aN)) v bs->bs.length=2/\(B4 (Z (bT v.1 v.2.1))->bO (bs.map B9)=Z ((qE aR) (aF v.1 v.2.1))):=by
 rintro⟨a,b,_⟩ _ ⟨_,rfl,⟨_,rfl,rfl⟩⟩;exact⟨rfl,λh=>dD (g:=mD) (n:=5) (bs:=[.z (eT aP a),.z (eD b)]) (Il a b) h⟩
def bA(f:Y bF)(h:AJ)(g:Int)(b:(Y (AJ×(S AJ))))(vs:(S (Y bD)))(d:(S (Y bD)))(e:Int):nM ((S (Y bD))) Bool:=(let c:=(aF f (Dt.tup [(Dt.str "begin"),(eS h),(eI e),(eI g)]));(if(c.isNone||(!(((c.getD default).map λa:bD=>(j4 a (d.getD default))).all id)))=true then(nM.rt false)else(let i:=(((vs.getD default).filter λa:bD=>(decide (e<=(((look b a.1).getD default).length:Int)))).map λa:bD=>a);(if(!((i.map λa:bD=>(j4 a (c.getD default))).all id))=true then(nM.rt false)else(if(!(((c.getD default).map λa:bD=>(decide (e<=(if(((look b a.2).getD default).length:Int)<(((look b a.1).getD default).length:Int)then(((look b a.2).getD default).length:Int)else(((look b a.1).getD default).length:Int))))).all id))=true then(nM.rt false)else(let d:=c;(nM.nx d)))))))
def cH(f:Y bF)(i:AJ)(h:Int)(c:(Y (AJ×(S AJ))))(vs:(S (Y bD)))(g:(S (Y bD)))(d:Int):Prop:=((bT f (Dt.tup [(Dt.str "begin"),(eS i),(eI d),(eI h)]))/\(let b:=(aF f (Dt.tup [(Dt.str "begin"),(eS i),(eI d),(eI h)]));((b.isNone=false->((b.isSome=true/\(b.getD default).length<=100000)/\(∀a∈(b.getD default),g.isSome=true)))/\((b.isNone||(!(((b.getD default).map λa:bD=>(j4 a (g.getD default))).all id)))=false->(((vs.isSome=true/\(vs.getD default).length<=100000)/\(∀a∈(vs.getD default),(has c a.1=true/\(look c a.1).isSome=true)))/\(let e:=(((vs.getD default).filter λa:bD=>(decide (d<=(((look c a.1).getD default).length:Int)))).map λa:bD=>a);((e.length<=100000/\(∀a∈e,b.isSome=true))/\((!((e.map λa:bD=>(j4 a (b.getD default))).all id))=false->((b.isSome=true/\(b.getD default).length<=100000)/\(∀a∈(b.getD default),((has c a.1=true/\(look c a.1).isSome=true)/\(has c a.2=true/\(look c a.2).isSome=true))))))))))))
theorem pQ(e:Y bF)(g:AJ)(f:Int)(c:(Y (AJ×(S AJ))))(vs:(S (Y bD)))(b:(S (Y bD)))(d:Int):RP jt [Z ((zE (eT aP)) e),Z (zE eS g),Z (zE eI f),Z ((mE (eO eS)) c),Z ((zE (eO (eL aR))) vs),Z ((zE (eO (eL aR))) b),Z (zE eI d),O,O] (cC (λb:(S (Y bD))=>[Z ((zE (eT aP)) e),Z (zE eS g),Z (zE eI f),Z ((mE (eO eS)) c),Z ((zE (eO (eL aR))) vs),Z ((zE (eO (eL aR))) b),O,O,O]) (zE eB)) (bA e g f c vs b d) (Z (cH e g f c vs b d)):=R.tp (cI (bW 7 (Hw (AZ cP (bf (aq 0 (zE (eT aP)) e J) (bf (lC (aJ (BV (.str "begin")) (aJ (gw (aq 1 (zE eS) g J)) (aJ (gw (aq 6 (zE eI) d J)) (aJ (gw (aq 2 (zE eI) f J)) (dO eD))))) (zz J)) bx)))) (λ_=>J) λh=>(cI (jT (NP (eZ (Q5 (aq 7 (zE (eO (eL aR))) h J) λ_=>J)) (zA (Hg (Hj (je (oA (Ax (zm (jm (aq 7 (zE (eO (eL aR))) h J)))) _ (λ_=>J) (λa:bD=>(Lj () (aq 1 (zE aR) a J) (zm (jm (aq 0 (zE (eO (eL aR))) b J))))))))))) (cI (cZ .rt (pJ (.bl false) eB false J) (λ_=>J) λ_=>J)) (dj (cI (bW 8 (qL (Ax (zm (jm (aq 4 (zE (eO (eL aR))) vs J)))) _ (λ_=>J) (λa:bD=>(eZ (CD (sU (jm (Eh (aq 1 (nE (eO eS)) c J) (lD (aq 2 (zE aR) a J) (λq=>q.1) eS 0 λ_=>J)))) (aq 0 (zE eI) d J)))) (λa:bD=>(aq 2 (zE aR) a J))) (λ_=>J) λi=>(cI (jT (zA (Hg (Hj (je (oA (Ax (jk (aq 8 (lE aR) i J))) _ (λ_=>J) (λa:bD=>(Lj () (aq 1 (zE aR) a J) (zm (jm (aq 0 (zE (eO (eL aR))) h J)))))))))) (cI (cZ .rt (pJ (.bl false) eB false J) (λ_=>J) λ_=>J)) (dj (cI (jT (zA (Hg (Hj (je (oA (Ax (zm (jm (aq 7 (zE (eO (eL aR))) h J)))) _ (λ_=>J) (λa:bD=>(CD (LW (sU (jm (Eh (aq 1 (nE (eO eS)) c J) (lD (aq 2 (zE aR) a J) (λq=>q.1) eS 0 λ_=>J)))) (sU (jm (Eh (aq 1 (nE (eO eS)) c J) (lD (aq 2 (zE aR) a J) (λq=>q.2) eS 1 λ_=>J))))) (aq 0 (zE eI) d J)))))))) (cI (cZ .rt (pJ (.bl false) eB false J) (λ_=>J) λ_=>J)) (dj (cI (bW 5 (aq 7 (zE (eO (eL aR))) h J) (λ_=>J) λb=>(dj (eH (.nx b) J)))))))))))))))))
def cL(a:Y bF)(b:AJ)(d:Int):Bool:=(let g:=(WX (a.map λf:bF=>(f.1,(bG f b))));(let vs:=(aF a (Dt.tup [(Dt.str "same"),(eS b),(eI d)]));(let c:=(aF a (Dt.tup [(Dt.str "begin"),(eS b),(Dt.int 1),(eI d)]));(Bn (jl (λ(c:(S (Y bD))) (h:Int)=>((bA a b d g vs c h):nM ((S (Y bD))) Bool)) (rng 1 ((6:Int)-1).toNat) c) (λr=>r) λc:(S (Y bD))=>(decide ((aF a (Dt.tup [(Dt.str "begin"),(eS b),(Dt.int 12),(eI d)]))=(Z (((vs.getD default).filter λe:bD=>(decide ((((look g e.1).getD default).length:Int)=12))).map λe:bD=>e))))))))
def dW(a:Y bF)(b:AJ)(d:Int):Prop:=(((a.length<=100000/\(∀e∈a,(fj e b)))/\(a.map λe:bF=>(e.1,(bG e b))).length<=1000)/\(let g:=(WX (a.map λe:bF=>(e.1,(bG e b))));((bT a (Dt.tup [(Dt.str "same"),(eS b),(eI d)]))/\(let vs:=(aF a (Dt.tup [(Dt.str "same"),(eS b),(eI d)]));((bT a (Dt.tup [(Dt.str "begin"),(eS b),(Dt.int 1),(eI d)]))/\(let c:=(aF a (Dt.tup [(Dt.str "begin"),(eS b),(Dt.int 1),(eI d)]));(((Rg (1:Int)/\Rg 6)/\nA (λ(c:(S (Y bD))) (f:Int)=>((bA a b d g vs c f):nM ((S (Y bD))) Bool)) (λ(c:(S (Y bD))) (f:Int)=>Z (cH a b d g vs c f)) (rng 1 ((6:Int)-1).toNat) c)/\(yq (jl (λ(c:(S (Y bD))) (f:Int)=>((bA a b d g vs c f):nM ((S (Y bD))) Bool)) (rng 1 ((6:Int)-1).toNat) c) λc:(S (Y bD))=>((bT a (Dt.tup [(Dt.str "begin"),(eS b),(Dt.int 12),(eI d)]))/\((vs.isSome=true/\(vs.getD default).length<=100000)/\(∀h∈(vs.getD default),(has g h.1=true/\(look g h.1).isSome=true))))))))))))
theorem tK(a:Y bF)(b:AJ)(c:Int):RP fL [Z ((zE (eT aP)) a),Z (zE eS b),Z (zE eI c),O,O,O,O,O,O] (λr=>An.rt (zE eB r)) (cL a b c) (Z (dW a b c)):=R.tp (bW 3 (V6 (je (oA (Eb (aq 0 (zE (eT aP)) a J)) _ (λ_=>J) (λh:bF=>(sS (lD (aq 1 (zE aP) h J) (λq=>q.1) eS 0 λ_=>J) (jo (AZ iT (bf (aq 1 (zE aP) h J) (bf (aq 0 (zE eS) b J) bx))))))))) (λ_=>J) λf=>(bW 4 (Hw (AZ cP (bf (aq 0 (zE (eT aP)) a J) (bf (lC (aJ (BV (.str "same")) (aJ (gw (aq 1 (zE eS) b J)) (aJ (gw (aq 2 (zE eI) c J)) (dO eD)))) (zz J)) bx)))) (λ_=>J) λvs=>(bW 5 (Hw (AZ cP (bf (aq 0 (zE (eT aP)) a J) (bf (lC (aJ (BV (.str "begin")) (aJ (gw (aq 1 (zE eS) b J)) (aJ (BV (.int 1)) (aJ (gw (aq 2 (zE eI) c J)) (dO eD))))) (zz J)) bx)))) (λ_=>J) λd=>(JF (λd:(S (Y bD))=>[Z ((zE (eT aP)) a),Z (zE eS b),Z (zE eI c),Z ((mE (eO eS)) f),Z ((zE (eO (eL aR))) vs),Z ((zE (eO (eL aR))) d),O,O,O]) d J (Lc (B7 1) (B7 6)) _ (λ_ _=>J) (λ(d:(S (Y bD))) (i:Int)=>((pQ a b c f vs d i).r:R _ _ (cC (λd:(S (Y bD))=>[Z ((zE (eT aP)) a),Z (zE eS b),Z (zE eI c),Z ((mE (eO eS)) f),Z ((zE (eO (eL aR))) vs),Z ((zE (eO (eL aR))) d),O,O,O]) (zE eB)))) (λr=>r) (λ_=>J) λd=>(cZ (λr=>r) (GU (e:=aR) () (AZ cP (bf (aq 0 (zE (eT aP)) a J) (bf (lC (aJ (BV (.str "begin")) (aJ (gw (aq 1 (zE eS) b J)) (aJ (BV (.int 12)) (aJ (gw (aq 2 (zE eI) c J)) (dO eD))))) (zz J)) bx))) (uP (qL (Ax (zm (jm (aq 4 (zE (eO (eL aR))) vs J)))) _ (λ_=>J) (λg:bD=>(eZ (BO () (sU (jm (Eh (aq 0 (nE (eO eS)) f J) (lD (aq 1 (zE aR) g J) (λq=>q.1) eS 0 λ_=>J)))) (B7 12)))) (λg:bD=>(aq 1 (zE aR) g J))))) (λ_=>J) λ_=>J)))))
theorem tL:∀v bs,(aZ (eT aP) (aZ eS (aZ eI aN))) v bs->bs.length=3/\(B4 (Z (dW v.1 v.2.1 v.2.2.1))->fM (bs.map B9)=Z ((zE eB) (cL v.1 v.2.1 v.2.2.1))):=by
 rintro⟨a,c,b,_⟩ _ ⟨_,rfl,⟨_,rfl,⟨_,rfl,rfl⟩⟩⟩;exact⟨rfl,λh=>dD (g:=fL) (n:=9) (bs:=[.z (eT aP a),.z (eS c),.z (eI b)]) (tK a c b) h⟩
def bJ(c:At)(a:Y bD)(b:Int):(Y bD):=(let a:=a++((rng 0 b.toNat).map λd:Int=>((As c d),(As c b)));a)
def eN(b:At)(d:Y bD)(a:Int):Prop:=(((Rg a/\(rng 0 a.toNat).length<=100000)/\(∀c∈(rng 0 a.toNat),(In b.length c/\In b.length a)))/\Av (d.length+((rng 0 a.toNat).map λc:Int=>((As b c),(As b a))).length))
theorem rD(d:Y bF)(g:AJ)(j:AJ)(f:Int)(e:(S (Y bD)))(i:(S (Y bD)))(h:(S (Y bD)))(b:At)(a:Y bD)(c:Int):RP jX [Z ((zE (eT aP)) d),Z (zE eS g),Z (zE eS j),Z (zE eI f),Z ((zE (eO (eL aR))) e),Z ((zE (eO (eL aR))) i),Z (qE aR h),Z (oE eS b),Z (oE aR a),Z (zE eI c),O] (λs=>An.nx ((λa:(Y bD)=>[Z ((zE (eT aP)) d),Z (zE eS g),Z (zE eS j),Z (zE eI f),Z ((zE (eO (eL aR))) e),Z ((zE (eO (eL aR))) i),Z (qE aR h),Z (oE eS b),Z (oE aR a),O,O]) s)) (bJ b a c) (Z (eN b a c)):=R.tp (cI (MZ 8 a J (oA (zG (aq 9 (zE eI) c J)) _ (λ_=>J) (λk:Int=>(sS (jW (jk (aq 0 (lE eS) b J)) (aq 2 (zE eI) k J)) (jW (jk (aq 0 (lE eS) b J)) (aq 1 (zE eI) c J))))) λa=>(dj (eH a J))))
def dM(a:Y bF)(c:AJ)(g:AJ)(f:Int):Bool:=(let q1:=((aF a (Dt.tup [(Dt.str "same"),(eS c),(eI f)])),(aF a (Dt.tup [(Dt.str "same"),(eS g),(eI f)])));(let i:=(aF a (Dt.tup [(Dt.str "both"),(eS c),(eS g),(eI f)]));(if((!decide (i=(Z (((q1.1.getD default).filter λb:bD=>(j4 b (q1.2.getD default))).map λb:bD=>b))))||(!decide ((aF a (Dt.tup [(Dt.str "both"),(eS g),(eS c),(Dt.int 1)]))=i)))=true then false else(let j:=(wN ((a.filter λe:bF=>(bG e c).isSome).map λe:bF=>e.1));(let d:=([]:Y bD);(let d:(Y bD):=((rng 0 (j.length:Int).toNat).foldl (λ(d:Y bD) (k:Int)=>(bJ j d k)) d);(let h:=(aF a (Dt.tup [(Dt.str "never"),(eS c)]));((decide ((fZ aR d)=(fZ aR ((q1.1.getD default)++(h.getD [])))))&&(!(((h.getD []).map λb:bD=>(j4 b (q1.1.getD default))).any id))))))))))
def fu(a:Y bF)(b:AJ)(h:AJ)(g:Int):Prop:=(((bT a (Dt.tup [(Dt.str "same"),(eS b),(eI g)]))/\(bT a (Dt.tup [(Dt.str "same"),(eS h),(eI g)])))/\(let q1:=((aF a (Dt.tup [(Dt.str "same"),(eS b),(eI g)])),(aF a (Dt.tup [(Dt.str "same"),(eS h),(eI g)])));((bT a (Dt.tup [(Dt.str "both"),(eS b),(eS h),(eI g)]))/\(let k:=(aF a (Dt.tup [(Dt.str "both"),(eS b),(eS h),(eI g)]));((((q1.1.isSome=true/\(q1.1.getD default).length<=100000)/\(∀e∈(q1.1.getD default),q1.2.isSome=true))/\((!decide (k=(Z (((q1.1.getD default).filter λe:bD=>(j4 e (q1.2.getD default))).map λe:bD=>e))))=false->(bT a (Dt.tup [(Dt.str "both"),(eS h),(eS b),(Dt.int 1)]))))/\(((!decide (k=(Z (((q1.1.getD default).filter λe:bD=>(j4 e (q1.2.getD default))).map λe:bD=>e))))||(!decide ((aF a (Dt.tup [(Dt.str "both"),(eS h),(eS b),(Dt.int 1)]))=k)))=false->(((a.length<=100000/\(∀d∈a,(fj d b)))/\((a.filter λd:bF=>(bG d b).isSome).map λd:bF=>d.1).length<64)/\(let i:=(wN ((a.filter λd:bF=>(bG d b).isSome).map λd:bF=>d.1));(let c:=([]:Y bD);((Rg (i.length:Int)/\vN (λ(c:Y bD) (j:Int)=>(bJ i c j)) (λ(c:Y bD) (j:Int)=>Z (eN i c j)) (rng 0 (i.length:Int).toNat) c)/\(let c:(Y bD):=((rng 0 (i.length:Int).toNat).foldl (λ(c:Y bD) (j:Int)=>(bJ i c j)) c);((bT a (Dt.tup [(Dt.str "never"),(eS b)]))/\(let f:=(aF a (Dt.tup [(Dt.str "never"),(eS b)]));((c.length<=100000/\(((q1.1.isSome=true/\f.isSome=true)/\Av ((q1.1.getD default).length+(f.getD []).length))/\((q1.1.getD default)++(f.getD [])).length<=100000))/\((decide ((fZ aR c)=(fZ aR ((q1.1.getD default)++(f.getD [])))))=true->((f.isSome=true/\(f.getD []).length<=100000)/\(∀e∈(f.getD []),q1.1.isSome=true)))))))))))))))))
theorem wz(a:Y bF)(b:AJ)(d:AJ)(c:Int):RP gD [Z ((zE (eT aP)) a),Z (zE eS b),Z (zE eS d),Z (zE eI c),O,O,O,O,O,O,O] (λr=>An.rt (zE eB r)) (dM a b d c) (Z (fu a b d c)):=R.tp (Lh (sS (Hw (AZ cP (bf (aq 0 (zE (eT aP)) a J) (bf (lC (aJ (BV (.str "same")) (aJ (gw (aq 1 (zE eS) b J)) (aJ (gw (aq 3 (zE eI) c J)) (dO eD)))) (zz J)) bx)))) (Hw (AZ cP (bf (aq 0 (zE (eT aP)) a J) (bf (lC (aJ (BV (.str "same")) (aJ (gw (aq 2 (zE eS) d J)) (aJ (gw (aq 3 (zE eI) c J)) (dO eD)))) (zz J)) bx))))) _ (λ_=>J) λq1=>(bW 6 (AZ cP (bf (aq 0 (zE (eT aP)) a J) (bf (lC (aJ (BV (.str "both")) (aJ (gw (aq 1 (zE eS) b J)) (aJ (gw (aq 2 (zE eS) d J)) (aJ (gw (aq 3 (zE eI) c J)) (dO eD))))) (zz J)) bx))) (λv=>by cases v<;>rfl) λh=>(jT (NP (eZ (Lr (e:=aR) () (Ek 6 aR h J) (uP (qL (Ax (zm (jm (aq 4 (zE (eO (eL aR))) q1.1 J)))) _ (λ_=>J) (λg:bD=>(eZ (Lj () (aq 1 (zE aR) g J) (zm (jm (aq 0 (zE (eO (eL aR))) q1.2 J)))))) (λg:bD=>(aq 1 (zE aR) g J)))))) (eZ (Lr (e:=aR) () (AZ cP (bf (aq 0 (zE (eT aP)) a J) (bf (lC (aJ (BV (.str "both")) (aJ (gw (aq 2 (zE eS) d J)) (aJ (gw (aq 1 (zE eS) b J)) (aJ (BV (.int 1)) (dO eD))))) (zz J)) bx))) (Ek 6 aR h J)))) (cI (cZ (λr=>r) (pJ (.bl false) eB false J) (λ_=>J) λ_=>J)) (dj (bW 7 (Vs (je (qL (Eb (aq 0 (zE (eT aP)) a J)) _ (λ_=>J) (λi:bF=>(eZ (yj (AZ iT (bf (aq 1 (zE aP) i J) (bf (aq 0 (zE eS) b J) bx))) λ_=>J))) (λi:bF=>(lD (aq 1 (zE aP) i J) (λq=>q.1) eS 0 λ_=>J))))) (λ_=>J) λj=>(bW 8 (qu (dO aR) (zz J)) (λ_=>J) λf=>(Cp (λf:(Y bD)=>[Z ((zE (eT aP)) a),Z (zE eS b),Z (zE eS d),Z (zE eI c),Z ((zE (eO (eL aR))) q1.1),Z ((zE (eO (eL aR))) q1.2),Z (qE aR h),Z (oE eS j),Z (oE aR f),O,O]) f J (zG (CU (jk (aq 7 (lE eS) j J)))) _ (λ_ _=>J) (λ(f:Y bD) (l:Int)=>(rD a b d c q1.1 q1.2 h j f l).r) λf=>(bW 10 (AZ cP (bf (aq 0 (zE (eT aP)) a J) (bf (lC (aJ (BV (.str "never")) (aJ (gw (aq 1 (zE eS) b J)) (dO eD))) (zz J)) bx))) (λv=>by cases v<;>rfl) λk=>(cZ (λr=>r) (wU (ME () (je (vW (jk (aq 8 (lE aR) f J)))) (je (vW (je (JC (zm (jm (aq 4 (zE (eO (eL aR))) q1.1 J))) (jk (WY (Ek 10 aR k J)))))))) (MY (HH (je (oA (Ax (jk (WY (Ek 10 aR k J)))) _ (λ_=>J) (λg:bD=>(Lj () (aq 1 (zE aR) g J) (zm (jm (aq 0 (zE (eO (eL aR))) q1.1 J)))))))))) (λ_=>J) λ_=>J)))))))))
theorem wA:∀v bs,(aZ (eT aP) (aZ eS (aZ eS (aZ eI aN)))) v bs->bs.length=4/\(B4 (Z (fu v.1 v.2.1 v.2.2.1 v.2.2.2.1))->gF (bs.map B9)=Z ((zE eB) (dM v.1 v.2.1 v.2.2.1 v.2.2.2.1))):=by
 rintro⟨a,d,b,c,_⟩ _ ⟨_,rfl,⟨_,rfl,⟨_,rfl,⟨_,rfl,rfl⟩⟩⟩⟩;exact⟨rfl,λh=>dD (g:=gD) (n:=11) (bs:=[.z (eT aP a),.z (eS d),.z (eS b),.z (eI c)]) (wz a d b c) h⟩
def jj(c:Y bF)(a:V9)(val:Y gZ)(g:Y lQ)(i:Unit)(b:Int):nM (Unit) Bool:=(let h:=(((val.filter λd:gZ=>(decide (d.2.2.2=b))).map λd:gZ=>(d.2.1,d.2.2.1))++((g.filter λe:lQ=>(decide (e.2.2=b))).map λe:lQ=>(e.1,e.2.1)));(if(!decide ((Z (fZ aR h))=(aF c (As [dG a.1,ig a.2.1,aR a.2.2.1,iu a.2.2.2] b))))=true then(nM.rt false)else(if(!((c.map λf:bF=>(decide ((aK (As [dG a.1,ig a.2.1,aR a.2.2.1,iu a.2.2.2] b) (As c 0) f)=(aK (As [dG a.1,ig a.2.1,aR a.2.2.1,iu a.2.2.2] b) f (As c 0))))).all id))=true then(nM.rt false)else(nM.nx gd))))
def qD(e:Y bF)(a:V9)(val:Y gZ)(f:Y lQ)(i:Unit)(b:Int):Prop:=(((val.length<=100000/\f.length<=100000)/\Av (((val.filter λc:gZ=>(decide (c.2.2.2=b))).map λc:gZ=>(c.2.1,c.2.2.1)).length+((f.filter λd:lQ=>(decide (d.2.2=b))).map λd:lQ=>(d.1,d.2.1)).length))/\(let h:=(((val.filter λc:gZ=>(decide (c.2.2.2=b))).map λc:gZ=>(c.2.1,c.2.2.1))++((f.filter λd:lQ=>(decide (d.2.2=b))).map λd:lQ=>(d.1,d.2.1)));((h.length<=100000/\(In [dG a.1,ig a.2.1,aR a.2.2.1,iu a.2.2.2].length b/\(bT e (As [dG a.1,ig a.2.1,aR a.2.2.1,iu a.2.2.2] b))))/\((!decide ((Z (fZ aR h))=(aF e (As [dG a.1,ig a.2.1,aR a.2.2.1,iu a.2.2.2] b))))=false->(e.length<=100000/\(∀g∈e,(((In [dG a.1,ig a.2.1,aR a.2.2.1,iu a.2.2.2].length b/\In e.length 0)/\(pD (As [dG a.1,ig a.2.1,aR a.2.2.1,iu a.2.2.2] b) (As e 0) g))/\((In [dG a.1,ig a.2.1,aR a.2.2.1,iu a.2.2.2].length b/\In e.length 0)/\(pD (As [dG a.1,ig a.2.1,aR a.2.2.1,iu a.2.2.2] b) g (As e 0))))))))))
theorem R9(p:BC)(s:Lp jM (p.map eI))(a:Y bF)(m:BC)(l:At)(k:AJ)(o:AJ)(j:Int)(c:V9)(n:At)(val:Y gZ)(d:Y lQ)(f:Unit)(b:Int):RP HD [Z jM,Z ((zE (eT aP)) a),Z (oE eI m),Z (oE eS l),Z (zE eS k),Z (zE eS o),Z (zE eI j),Z (zE zP c),Z ((zE (eT eS)) n),Z ((zE (eT g8)) val),Z ((zE (eT dG)) d),Z (zE eI b),O] (cC (λf:Unit=>[Z jM,Z ((zE (eT aP)) a),Z (oE eI m),Z (oE eS l),Z (zE eS k),Z (zE eS o),Z (zE eI j),Z (zE zP c),Z ((zE (eT eS)) n),Z ((zE (eT g8)) val),Z ((zE (eT dG)) d),O,O]) (zE eB)) (jj a c val d f b) (Z (qD a c val d f b)):=R.tp (cI (bW 12 (JC (je (Hr (Eb (aq 9 (zE (eT g8)) val J)) _ (λ_=>J) (λg:gZ=>(eZ (BO () (lD (aq 1 (zE g8) g J) (λq=>q.2.2.2) eI 3 λ_=>J) (aq 0 (zE eI) b J)))) (λg:gZ=>(jo (Hl (aq 1 (zE g8) g J) (λq=>(q.2.1,q.2.2.1)) aR (Z 1) (Z 3) J J λ_=>J))) (λ_=>J) λ_=>J)) (je (Hr (Eb (aq 10 (zE (eT dG)) d J)) _ (λ_=>J) (λh:lQ=>(eZ (BO () (lD (aq 1 (zE dG) h J) (λq=>q.2.2) eI 2 λ_=>J) (aq 0 (zE eI) b J)))) (λh:lQ=>(jo (Hl (aq 1 (zE dG) h J) (λq=>(q.1,q.2.1)) aR O (Z 2) J J λ_=>J))) (λ_=>J) λ_=>J))) (λ_=>J) λr=>(cI (jT (eZ (Lr (e:=aR) () (uP (vW (jk (aq 12 (lE aR) r J)))) (AZ cP (bf (aq 1 (zE (eT aP)) a J) (bf (Hh (JD (aq 7 (zE zP) c J) (λq=>[dG q.1,ig q.2.1,aR q.2.2.1,iu q.2.2.2]) (eT eD) λ_=>J) (aq 11 (zE eI) b J)) bx))))) (cI (cZ .rt (pJ (.bl false) eB false J) (λ_=>J) λ_=>J)) (dj (cI (jT (zA (Hg (Hj (je (oA (Eb (aq 1 (zE (eT aP)) a J)) _ (λ_=>J) (λi:bF=>(BO () (AZ Fg (bf (Hh (JD (aq 0 (zE zP) c J) (λq=>[dG q.1,ig q.2.1,aR q.2.2.1,iu q.2.2.2]) (eT eD) λ_=>J) (aq 1 (zE eI) b J)) (bf (Hh (aq 2 (zE (eT aP)) a J) (B7 0)) (bf (aq 3 (zE aP) i J) bx)))) (AZ Fg (bf (Hh (JD (aq 0 (zE zP) c J) (λq=>[dG q.1,ig q.2.1,aR q.2.2.1,iu q.2.2.2]) (eT eD) λ_=>J) (aq 1 (zE eI) b J)) (bf (aq 3 (zE aP) i J) (bf (Hh (aq 2 (zE (eT aP)) a J) (B7 0)) bx))))))))))) (cI (cZ .rt (pJ (.bl false) eB false J) (λ_=>J) λ_=>J)) (dj (dj (eH (.nx gd) J))))))))))
def Im(h:BC):Bool:=(let b:=(dU h 14);(let d:=(bC (bM h 16) 5);(let i:=[("day":AJ),("name":AJ),("names":AJ),("p":AJ),("zzz":AJ)];(let j:=(As i ((As d 0)%5));let k:=(As i ((((As d 0)+1)+((As d 1)%4))%5));let c:=j;let f:=k;(let e:=(1+((As d 2)%1000));(if((!(cL b c e))||(!(dM b c f e)))=true then false else(if(!decide ((aF b (Dt.tup [(Dt.str "same"),(eS c),(Dt.int 1)]))=(aF b (Dt.tup [(Dt.str "same"),(eS c),(eI e)]))))=true then false else(let a:=((("same":AJ),c,e),(("begin":AJ),f,(1+((As d 3)%4)),(2:Int)),(("never":AJ),f),(("both":AJ),c,f,(3:Int)));(let b:=(BF b O (Z 11));(let q1:=(aD b [dG a.1,ig a.2.1,aR a.2.2.1,iu a.2.2.2]);(Bn (jl (λ(g:Unit) (l:Int)=>((jj b a q1.2.1 q1.2.2 g l):nM (Unit) Bool)) (rng 0 (kN 4)) gd) (λr=>r) λg:Unit=>((decide ((aD b.reverse [dG a.1,ig a.2.1,aR a.2.2.1,iu a.2.2.2])=(aD ((BF b (Z 1) O)++(BF b O (Z 1))) [dG a.1,ig a.2.1,aR a.2.2.1,iu a.2.2.2])))&&(decide ((aD ((BF b (Z 1) O)++(BF b O (Z 1))) [dG a.1,ig a.2.1,aR a.2.2.1,iu a.2.2.2])=(q1.1,q1.2.1,q1.2.2)))))))))))))))
def Io(g:BC):Prop:=((pC g 14)/\(let b:=(dU g 14);(((iG g 16)/\(fU (bM g 16) 5))/\(let c:=(bC (bM g 16) 5);(let j:=[("day":AJ),("name":AJ),("names":AJ),("p":AJ),("zzz":AJ)];(((In c.length 0/\In j.length ((As c 0)%5))/\((In c.length 0/\In c.length 1)/\In j.length ((((As c 0)+1)+((As c 1)%4))%5)))/\(let l:=(As j ((As c 0)%5));let k:=(As j ((((As c 0)+1)+((As c 1)%4))%5));let d:=l;let i:=k;(In c.length 2/\(let e:=(1+((As c 2)%1000));(((dW b d e)/\((!(cL b d e))=false->(fu b d i e)))/\(((!(cL b d e))||(!(dM b d i e)))=false->(((bT b (Dt.tup [(Dt.str "same"),(eS d),(Dt.int 1)]))/\(bT b (Dt.tup [(Dt.str "same"),(eS d),(eI e)])))/\((!decide ((aF b (Dt.tup [(Dt.str "same"),(eS d),(Dt.int 1)]))=(aF b (Dt.tup [(Dt.str "same"),(eS d),(eI e)]))))=false->(In c.length 3/\(let a:=((("same":AJ),d,e),(("begin":AJ),i,(1+((As c 3)%4)),(2:Int)),(("never":AJ),i),(("both":AJ),d,i,(3:Int)));(let b:=(BF b O (Z 11));((dJ b [dG a.1,ig a.2.1,aR a.2.2.1,iu a.2.2.2])/\(let q1:=(aD b [dG a.1,ig a.2.1,aR a.2.2.1,iu a.2.2.2]);(nA (λ(f:Unit) (h:Int)=>((jj b a q1.2.1 q1.2.2 f h):nM (Unit) Bool)) (λ(f:Unit) (h:Int)=>Z (qD b a q1.2.1 q1.2.2 f h)) (rng 0 (kN 4)) gd/\(yq (jl (λ(f:Unit) (h:Int)=>((jj b a q1.2.1 q1.2.2 f h):nM (Unit) Bool)) (rng 0 (kN 4)) gd) λf:Unit=>(((dJ b.reverse [dG a.1,ig a.2.1,aR a.2.2.1,iu a.2.2.2])/\(Av ((BF b (Z 1) O).length+(BF b O (Z 1)).length)/\(dJ ((BF b (Z 1) O)++(BF b O (Z 1))) [dG a.1,ig a.2.1,aR a.2.2.1,iu a.2.2.2])))/\((decide ((aD b.reverse [dG a.1,ig a.2.1,aR a.2.2.1,iu a.2.2.2])=(aD ((BF b (Z 1) O)++(BF b O (Z 1))) [dG a.1,ig a.2.1,aR a.2.2.1,iu a.2.2.2])))=true->(Av ((BF b (Z 1) O).length+(BF b O (Z 1)).length)/\(dJ ((BF b (Z 1) O)++(BF b O (Z 1))) [dG a.1,ig a.2.1,aR a.2.2.1,iu a.2.2.2]))))))))))))))))))))))))
theorem K'(h:BC)(k:Lp jM (h.map eI)):RP LQ [Z jM,O,O,O,O,O,O,O,O,O,O,O,O] (λr=>An.rt (zE eB r)) (Im h) (Z (Io h)):=R.tp (bW 1 (AZ J0 (Ho (jR 0 eI h k J) (bf (B7 14) bx))) (λ_=>J) λa=>(bW 2 (AZ mW (bf (jo (AZ tH (Ho (jR 0 eI h k J) (bf (B7 16) bx)))) (bf (B7 5) bx))) (λ_=>J) λc=>(bW 3 (qu (aJ (yr "day") (aJ (yr "name") (aJ (yr "names") (aJ (yr "p") (aJ (yr "zzz") (dO eS)))))) (zz J)) (λ_=>J) λi=>(MI 4 5 (jW (jk (aq 3 (lE eS) i J)) (dB (jW (jk (aq 2 (lE eI) c J)) (B7 0)) 5 ())) (jW (jk (aq 3 (lE eS) i J)) (dB (jq (jq (jW (jk (aq 2 (lE eI) c J)) (B7 0)) (B7 1)) (dB (jW (jk (aq 2 (lE eI) c J)) (B7 1)) 4 ())) 5 ())) λb g=>(bW 6 (jq (B7 1) (dB (jW (jk (aq 2 (lE eI) c J)) (B7 2)) 1000 ())) (λ_=>J) λd=>(jT (NP (zA (Hg (AZ tL (bf (aq 1 (zE (eT aP)) a J) (bf (aq 4 (zE eS) b J) (bf (aq 6 (zE eI) d J) bx)))))) (zA (Hg (AZ wA (bf (aq 1 (zE (eT aP)) a J) (bf (aq 4 (zE eS) b J) (bf (aq 5 (zE eS) g J) (bf (aq 6 (zE eI) d J) bx)))))))) (cI (cZ (λr=>r) (pJ (.bl false) eB false J) (λ_=>J) λ_=>J)) (dj (jT (eZ (Lr (e:=aR) () (AZ cP (bf (aq 1 (zE (eT aP)) a J) (bf (lC (aJ (BV (.str "same")) (aJ (gw (aq 4 (zE eS) b J)) (aJ (BV (.int 1)) (dO eD)))) (zz J)) bx))) (AZ cP (bf (aq 1 (zE (eT aP)) a J) (bf (lC (aJ (BV (.str "same")) (aJ (gw (aq 4 (zE eS) b J)) (aJ (gw (aq 6 (zE eI) d J)) (dO eD)))) (zz J)) bx))))) (cI (cZ (λr=>r) (pJ (.bl false) eB false J) (λ_=>J) λ_=>J)) (dj (bW 7 (DY (DX (yr "same") (aq 4 (zE eS) b J) (aq 6 (zE eI) d J)) (DY (yr "begin") (aq 5 (zE eS) g J) (jo (jq (B7 1) (dB (jW (jk (aq 2 (lE eI) c J)) (B7 3)) 4 ()))) (B7 2)) (sS (yr "never") (aq 5 (zE eS) g J)) (DY (yr "both") (aq 4 (zE eS) b J) (aq 5 (zE eS) g J) (B7 3))) (λ_=>J) λf=>(bW 1 (Hi (aq 1 (zE (eT aP)) a J) zB (zF (B7 11))) (λ_=>J) λa=>(Lh (AZ jV (bf (aq 1 (zE (eT aP)) a J) (bf (JD (aq 7 (zE zP) f J) (λq=>[dG q.1,ig q.2.1,aR q.2.2.1,iu q.2.2.2]) (eT eD) λ_=>J) bx))) _ (λ_=>J) λq1=>(JF (λj:Unit=>[Z jM,Z ((zE (eT aP)) a),Z (oE eI c),Z (oE eS i),Z (zE eS b),Z (zE eS g),Z (zE eI d),Z (zE zP f),Z ((zE (eT eS)) q1.1),Z ((zE (eT g8)) q1.2.1),Z ((zE (eT dG)) q1.2.2),O,O]) gd J (Rk 4 4 J (by unfold Rg;decide)) _ (λ_ _=>J) (λ(j:Unit) (l:Int)=>((R9 h k a c i b g d f q1.1 q1.2.1 q1.2.2 j l).r:R _ _ (cC (λj:Unit=>[Z jM,Z ((zE (eT aP)) a),Z (oE eI c),Z (oE eS i),Z (zE eS b),Z (zE eS g),Z (zE eI d),Z (zE zP f),Z ((zE (eT eS)) q1.1),Z ((zE (eT g8)) q1.2.1),Z ((zE (eT dG)) q1.2.2),O,O]) (zE eB)))) (λr=>r) (λ_=>J) λj=>(cZ (λr=>r) (Hn (BO () (AZ jV (bf (jo (IY (aq 1 (zE (eT aP)) a J))) (bf (JD (aq 7 (zE zP) f J) (λq=>[dG q.1,ig q.2.1,aR q.2.2.1,iu q.2.2.2]) (eT eD) λ_=>J) bx))) (AZ jV (bf (jo (Q7 (Hi (aq 1 (zE (eT aP)) a J) (zF (B7 1)) zB) (Hi (aq 1 (zE (eT aP)) a J) zB (zF (B7 1))))) (bf (JD (aq 7 (zE zP) f J) (λq=>[dG q.1,ig q.2.1,aR q.2.2.1,iu q.2.2.2]) (eT eD) λ_=>J) bx)))) (BO () (AZ jV (bf (jo (Q7 (Hi (aq 1 (zE (eT aP)) a J) (zF (B7 1)) zB) (Hi (aq 1 (zE (eT aP)) a J) zB (zF (B7 1))))) (bf (JD (aq 7 (zE zP) f J) (λq=>[dG q.1,ig q.2.1,aR q.2.2.1,iu q.2.2.2]) (eT eD) λ_=>J) bx))) (DX (aq 8 (zE (eT eS)) q1.1 J) (aq 9 (zE (eT g8)) q1.2.1 J) (aq 10 (zE (eT dG)) q1.2.2 J)))) (λ_=>J) λ_=>J))))))))))))))
theorem W9:∀v bs,(aL eI aN) v bs->bs.length=1/\(B4 (Z (Io v.1))->F_law (bs.map B9)=Z ((zE eB) (Im v.1))):=by
 rintro⟨a,_⟩ _ ⟨jM,_,rfl,b,rfl⟩;exact⟨rfl,λh=>dD (g:=LQ) (n:=13) (bs:=[B9 jM]) (K' a (zp b)) h⟩
theorem Xa(h:∀a:Y Int,a.length<=63->Io a/\Im a=true):(∀a:Y Int,a.length<=63->F_law [.z (.lst (a.map .int))]=Z (.z (.bl true)))/\∀a:Y Int,a.length<=63->F_law [.l (a.map .int)]=Z (.z (.bl true)):=
 ⟨λa b=>((W9 (a,gd) [.z (.lst (a.map .int))] ⟨_,_,rfl,rfl,rfl⟩).2 (h a b).1).trans (by rw[(h a b).2]),λa b=>((W9 (a,gd) [.l (a.map .int)] ⟨_,_,rfl,rfl,rfl⟩).2 (h a b).1).trans (by rw[(h a b).2])⟩
end
end G76
end
section
set_option synthInstance.maxSize 100000
namespace G76
open L2 P1
theorem J8(b:Y Int)(k:Int)(a:0<=k)(h1:k<=1000):iG b k:=by
 unfold iG;exact⟨λh=>B6 a (by simpa using h),λ_=>WW a ()⟩
theorem Sd(k:Nat)(s:Int×Y Int×Int)(hk:k<1000)(h:(0<=s.1/\s.1<1999999973)/\s.2.1.length=k/\(∀x∈s.2.1,0<=x)/\0<=s.2.2):gH s k/\(0<=(cu s k).1/\(cu s k).1<1999999973)/\(cu s k).2.1.length=k+1/\(∀x∈(cu s k).2.1,0<=x)/\0<=(cu s k).2.2:=by
 obtain⟨h1,h2,c,b⟩:=h;have a:In 2 (if(decide ((0:Int)<s.2.2))=true then(1:Int)else 0):=by split<;>exact B6 () ()
 refine⟨⟨WW h1.1 (),a,?_⟩,rM _ (),?_,?_,Int.ediv_nonneg b ()⟩
 ·show s.2.1.length<=1000000;omega
 ·show(s.2.1++[_]).length=k+1;rw[zC,h2];rfl
 ·intro x hx;rcases az.mp hx with hx|hx
  ·exact c x hx
  ·cases af.mp hx;have:=vO (xs:=[((((s.1*((s.1%65521)+40487))+(7*k))+5)%1999999973),(s.2.2%1000000)]) a;simp only[KG,kB,or_false]at this;rcases this with e|e<;>rw[e]
   ·exact(rM _ ()).1
   ·exact(rM _ ()).1
theorem Fj(c m:Int)(b:0<=m)(h1:m<=1000):fU c m/\(bC c m).length=m.toNat/\∀x∈bC c m,0<=x:=by
 have e:∀st a:Int,(0<=st/\st<1999999973)->0<=a->jC c m [] st a/\(gJ c m [] st a).length=m.toNat/\∀x∈gJ c m [] st a,0<=x:=λst a d f=>by
  have:=nC (P:=λs k=>Z (gH s k)) (λk s=>(0<=s.1/\s.1<1999999973)/\s.2.1.length=k/\(∀x∈s.2.1,0<=x)/\0<=s.2.2) (step:=λs k=>cu s k) m.toNat (st,[],a) ⟨d,rfl,λx h=>(by cases h),f⟩ λk s hk h=>Sd k s () h;exact⟨⟨uO b (),this.1⟩,this.2.2.1,this.2.2.2.1⟩
 refine e _ _ (rM _ ()) ?_;dsimp only;split<;>(try split)<;>omega
open S1 S6
abbrev aX:=AJ×Y (AJ×AJ)
theorem Cz{α τ:Type}{p:α->Bool}{g:α->τ}{step:Unit->α->nM Unit τ}(hs:∀s x,step s x=if p x=true then .rt (g x)else .nx gd):∀(xs:Y α),jl step xs gd=(match xs.find? p with|some x=>.rt (g x)|none=>.nx gd)/\nA step (λ_ _=>O) xs gd
 |[]=>⟨rfl,trivial⟩
 |x::xs=>by
  obtain⟨h1,h2⟩:=Cz hs xs;unfold jl nA;rw[hs,df];cases p x with
  |true=>exact⟨rfl,trivial,trivial⟩
  |false=>exact⟨h1,trivial,h2⟩
def fw(a:Y (AJ×AJ))(f:AJ):S AJ:=(a.find? λq=>decide (q.1=f)).map (·.2)
theorem gU(r:aX)(f:AJ):fj r f/\bG r f=fw r.2 f:=by
 obtain⟨h1,h2⟩:=Cz (p:=λq:AJ×AJ=>decide (q.1=f)) (g:=λq:AJ×AJ=>Z q.2) (step:=λs q=>gK f s q) (λ_ _=>J) r.2;refine⟨⟨h2,?_⟩,?_⟩
 ·cases jl (λ(a:Unit) (q2:AJ×AJ)=>((gK f a q2):nM Unit (S AJ))) r.2 gd<;>trivial
 ·unfold bG fw;rw[h1];cases r.2.find? λq=>decide (q.1=f)<;>rfl
theorem BU{α:Type}(c:Array α):∀(n:Nat) (a:Array α),((aa n c).foldl (·++·) a).size=a.size+n*c.size
 |0,a=>by simp
 |n+1,a=>by
  rw[eh,jS,BU c n,ko,k7];omega
theorem Du(x:AJ)(k:Int):(Txt.mul x k).length<=x.length*k.toNat:=by
 unfold Txt.mul;split
 ·exact ZO _
 split
 ·rename_i a h;simp only[Q3,beq_iff_eq]at h;rcases h with h|h
  ·subst h;simp
  ·rw[h];simp
 ·show(Array.size _)<=_;rw[BU];have:x.cps.size=x.length:=rfl;rw[this,Nat.mul_comm];simp
def LT:AJ:=("abcdefghijklmnopqrstuvwxyz":AJ)
theorem J9:LT.length=26:=by decide +kernel
theorem tM(h:n<=1000):Av n:=zl h ()
theorem Ka(xs:Y Int)(l:6<=xs.length)(b:AJ)(hs:b.length<=5)(at_:Int)(k:Nat)(a:At)(hk:k<200)(h:a.length=k/\∀n∈a,n.length<=12):jg xs LT b at_ a k/\(dR xs LT b at_ a k).length=k+1/\∀n∈dR xs LT b at_ a k,n.length<=12:=by
 have i:=zl (slice_le b O (Z at_)) hs;have g:=zl (slice_le b (Z at_) O) hs;have c1:=vQ LT ((↑k+As xs 2)%15);have j:=rM (k:Int) (m:=8) ();have e:(0:Int)<=(k:Int) / 8/\(k:Int) / 8<26:=by omega
 refine⟨⟨⟨B6 () (),qw () (by rw[J9];decide)⟩,⟨tM (),tM (by rw[lX];omega)⟩,⟨B6 () (),λ_=>⟨B6 e.1 (by rw[J9];exact e.2),by omega,by omega,by rw[vQ];decide⟩⟩,tM ()⟩,?_⟩;have d:∀n:AJ,n.length<=12->(a++[n]).length=k+1/\∀m∈a++[n],m.length<=12:=λn f=>⟨by simp[h.1],λm c=>by
  rcases az.mp c with c|c
  ·exact h.2 m c
  ·cases af.mp c;exact f⟩
 unfold dR;dsimp only;split
 ·exact d _ (by have:=Du (ch LT ((k:Int) / 8)) (1+(k:Int)%8);rw[vQ]at this;exact zl this ())
 ·exact d _ (by rw[lX,lX,c1];omega)
theorem N0(xs:At)(n:Nat)(h:∀x∈xs,x.length<=n):(Txt.join "" xs).length<=xs.length*n:=by
 have h1:=StrLaws.join_length_le ("":AJ) xs;rw[<-StrLaws.glued_eq_join]at h1;have h2:(xs.map (·.length)).sum<=xs.length*n:=by
  clear h1
  induction xs with
  |nil=>simp
  |cons a l b=>
   have:=b λx hx=>h x (zr _ hx);have:=h a (zt ..);simp only[zv,List.sum_cons,ZH,k7];omega
 have c:("":AJ).length=0:=rfl;rw[c,Nat.mul_zero]at h1;exact zl h1 ()
theorem HC(xs:At)(h:∀x∈xs,x.length=1):(xs.map (·.length)).sum=xs.length:=by
 induction xs with
 |nil=>rfl
 |cons a l b=>
  have:=b λx hx=>h x (zr _ hx);have:=h a (zt ..);simp only[zv,List.sum_cons,ZH];omega
theorem Sg(xs:Y Int)(l:6<=xs.length)(a:Int)(d:0<=a)(h1:a<=200):mH xs a/\(dH xs a).length=a.toNat/\∀n∈dH xs a,n.length<=12:=by
 have g:=rM (As xs 0) (m:=6) ();have st:∀b:AJ,b.length<=5->lK xs a LT b/\(jh xs a LT b).length=a.toNat/\∀n∈jh xs a LT b,n.length<=12:=λb e=>by
  have:=nC (P:=λf k=>Z (jg xs LT b (As xs 1%((b.length:Int)+1)) f k)) (step:=λf k=>dR xs LT b (As xs 1%((b.length:Int)+1)) f k) (λk s=>s.length=k/\∀n∈s,n.length<=12) a.toNat [] ⟨rfl,λn h=>(by cases h)⟩ λk s hk h=>Ka xs l b e _ k s () h;exact⟨⟨⟨B6 () (),by omega⟩,uO d (),this.1⟩,this.2⟩
 have c1:∀x∈((rng 0 (As xs 0%6).toNat).map λc:Int=>ch LT (As xs c / 40%26)),x.length=1:=λx hx=>by
  obtain⟨k,_,rfl⟩:=ae.mp hx;exact vQ _ _
 have:=st (Txt.join "" ((rng 0 (As xs 0%6).toNat).map λc:Int=>ch LT (As xs c / 40%26))) (by
  have:=N0 _ 1 λx hx=>bj (c1 x hx);rw[zd,j5]at this;omega)
 refine⟨⟨⟨⟨⟨⟨B6 () (),uO g.1 ()⟩,by rw[j5];omega⟩,λk hk=>?_⟩,?_⟩,this.1⟩,this.2⟩
 ·obtain⟨j,o,rfl⟩:=V7 hk;exact⟨B6 () (),qw () (by rw[show("abcdefghijklmnopqrstuvwxyz":AJ)=LT from rfl,J9];decide)⟩
 ·rw[show("abcdefghijklmnopqrstuvwxyz":AJ)=LT from rfl,HC _ c1,zd,j5];have i:("":AJ).length=0:=rfl;rw[i];omega
def DC(xs:Y Int)(a:AJ)(at_:Int)(k:Int):AJ:=if(decide (((As xs 3)%3)=1))=true then(Txt.mul (ch LT (k / (8:Int))) (1+(k%8)))else(((Txt.slice a O (Z at_))++(ch LT ((k+(As xs 2))%15)))++(Txt.slice a (Z at_) O))
theorem z9{α β:Type}(g:β->α):∀(l:Y β) (f:Y α),l.foldl (λf k=>f++[g k]) f=f++l.map g
 |[],f=>by simp
 |k::l,f=>by rw[jS,z9 g l];simp
theorem Sh(xs:Y Int)(a:Int):∃b at_,dH xs a=(rng 0 a.toNat).map (DC xs b at_):=by
 refine⟨_,_,(z9 (DC xs _ _) _ []).trans (kP _)⟩
theorem Kc{a b m c:AJ}(h:(a++m)++b=(a++c)++b):m=c:=by
 have h:=congrArg (λs:AJ=>s.cps.toList) h;have h:((a.cps++m.cps)++b.cps).toList=((a.cps++c.cps)++b.cps).toList:=h;simp only[br]at h;have:=List.append_cancel_left (List.append_cancel_right h);cases m;cases c;congr 1;exact Array.ext' this
theorem II:∀i:Fin 30,∀j:Fin 30,Txt.mul (ch LT ((i.val:Int) / 8)) (1+(i.val:Int)%8)=Txt.mul (ch LT ((j.val:Int) / 8)) (1+(j.val:Int)%8)->i=j:=by decide +kernel
theorem L9:∀i:Fin 15,∀j:Fin 15,ch LT (i.val:Int)=ch LT (j.val:Int)->i=j:=by decide +kernel
theorem IA{x y:Int}(hx:0<=x/\x<15)(a:0<=y/\y<15)(h:ch LT x=ch LT y):x=y:=by
 have:=L9 ⟨x.toNat,by omega⟩ ⟨y.toNat,by omega⟩ (by
  show ch LT ((x.toNat:Nat):Int)=ch LT ((y.toNat:Nat):Int);rw[kX hx.1,kX a.1];exact h)
 have:=congrArg Fin.val this;have:x.toNat=y.toNat:=this;omega
theorem LY{xs:Y Int}{a:AJ}{at_:Int}(hi:i<15)(b:j<15)(h:DC xs a at_ i=DC xs a at_ j):i=j:=by
 unfold DC at h;by_cases e:(decide (((As xs 3)%3)=1))=true
 ·rw[zh e,zh e]at h;exact congrArg Fin.val (II ⟨i,by omega⟩ ⟨j,by omega⟩ h)
 ·rw[zo e,zo e]at h;have:=IA (rM _ ()) (rM _ ()) (Kc h);omega
theorem JG{g:Int->AJ}(h:∀i j:Nat,i<n->j<n->g i=g j->i=j):((rng 0 n).map g).Nodup:=by
 unfold rng;rw[ZE];unfold List.Nodup;rw[aw];refine List.Pairwise.imp_of_mem ?_ (List.nodup_range (n:=n));intro a b d f c e;refine c (h a b (aI.mp d) (aI.mp f) ?_);have e:g (0+(a:Int))=g (0+(b:Int)):=e;rwa [cY,cY]at e
theorem Sq(xs:Y Int)(a:Int)(h:a<=15):(dH xs a).Nodup:=by
 obtain⟨c,at_,e⟩:=Sh xs a;rw[e];exact JG λi j hi b=>LY () ()
abbrev Wd(w:AJ):Prop:=w.length<=12
def FL:At:=[("day":AJ),("name":AJ),(("name":AJ)++("s":AJ)),("p":AJ)]
abbrev Fd(r:aX):Prop:=(r.2.map (·.1)).Sublist FL/\∀q∈r.2,Wd q.2
structure Bk (B:List aX):Prop where
 nd:(B.map (·.1)).Nodup
 ln:B.length<=40
 fd:∀r∈B,Fd r
theorem Wb:("ab1":AJ).length=3:=by decide +kernel
theorem GW(x:Int)(k:Nat)(s:AJ)(hk:k<4)(h:s.length=k):jN x s k/\(gP x s k).length=k+1:=by
 have hi:In [(1:Int),(3:Int),(9:Int),(27:Int)].length (k:Int):=B6 () (by show(k:Int)<4;omega);have hp:(0<(As [(1:Int),(3:Int),(9:Int),(27:Int)] (k:Int))/\(As [(1:Int),(3:Int),(9:Int),(27:Int)] (k:Int))<1073741824):=by
  have:=vO hi;simp only[KG,kB,or_false]at this;rcases this with e|e|e|e<;>rw[e]<;>decide
 refine⟨⟨⟨⟨hi,hp⟩,qw () (by rw[Wb];decide)⟩,tM (by rw[vQ];omega)⟩,?_⟩;show(s++ch _ _).length=k+1;rw[lX,vQ,h]
theorem LZ:∀w∈[("a":AJ),("ab":AJ),("abc":AJ),("b":AJ),("1":AJ),("12":AJ),("a1":AJ)],Wd w:=by decide +kernel
theorem Ss(x:Int):pB x/\Wd (lM x):=by
 have b:=rM (x / 4) (m:=4) ();have lp:=nC (P:=λf k=>Z (jN x f k)) (step:=λf k=>gP x f k) (λk (s:AJ)=>s.length=k) (1+x / 4%4).toNat ("":AJ) J λk s hk h=>GW x k s () h;have a:In [("a":AJ),("ab":AJ),("abc":AJ),("b":AJ),("1":AJ),("12":AJ),("a1":AJ)].length (x / 4%7):=qw () ();refine⟨⟨λ_=>a,λ_=>⟨uO () (),lp.1⟩⟩,?_⟩;unfold lM;split
 ·exact LZ _ (vO a)
 ·refine zl (bj lp.2) ()
theorem IX(xs:Y Int)(i:xs.length=4)(k:Nat)(a:Y (AJ×AJ))(hk:k<4)(h:(a.map (·.1)).Sublist (FL.take k)/\∀q∈a,Wd q.2):j9 xs FL a k/\((fP xs FL a k).map (·.1)).Sublist (FL.take (k+1))/\∀q∈fP xs FL a k,Wd q.2:=by
 have c:=h.2
 replace h:=h.1
 have d:=h.length_le;rw[zd,qo]at d;have g:FL.length=4:=rfl;have hi:In xs.length (k:Int):=B6 () ();have f:In FL.length (k:Int):=B6 () ();have e:As FL (k:Int)=FL[k]'():=vP _ _ _;refine⟨⟨hi,λ_=>⟨⟨f,hi,(Ss _).1⟩,tM ()⟩⟩,?_⟩;unfold fP;dsimp only;rw[kq ()];split
 ·rw[ZI,e];refine⟨h.append (List.Sublist.refl _),λq b=>?_⟩;rcases az.mp b with b|b
  ·exact c q b
  ·rw[af.mp b];exact(Ss _).2
 ·exact⟨h.trans (List.sublist_append_left _ _),c⟩
theorem N4(n:AJ)(xs:Y Int)(b:xs.length=4):nH n xs/\(jD n xs).1=n/\Fd (jD n xs):=by
 have lp:=nC (P:=λf k=>Z (j9 xs FL f k)) (step:=λf k=>fP xs FL f k) (λk (a:Y (AJ×AJ))=>(a.map λq:AJ×AJ=>q.1).Sublist (FL.take k)/\∀q∈a,Wd q.2) (kN 4) [] ⟨List.nil_sublist _,λq h=>by cases h⟩ λk s hk h=>IX xs b k s (by rw[show kN 4=4 from Rj 4]at hk;exact hk) h;have h2:((jD n xs).2.map (·.1)).Sublist (FL.take (kN 4)):=lp.2.1;have c:=h2.trans (Kn _ _);exact⟨⟨tM (by decide +kernel),lp.1⟩,rfl,c,lp.2.2⟩
theorem Mn{xs:At}(a:xs.Nodup){i j:Int}(hi:0<=i/\i<xs.length)(b:0<=j/\j<xs.length)(h:As xs i=As xs j):i=j:=by
 rw[show i=((i.toNat:Nat):Int) by omega,show j=((j.toNat:Nat):Int) by omega,vP _ _ (),vP _ _ ()]at h;have:=(kD a).mp h;omega
theorem Wc(a:Y Int)(m:Int)(v:1<=m)(h1:m<=14)(w:a.length<=63):pC a m/\Bk (dU a m)/\1<=(dU a m).length/\(dU a m).length<=14:=by
 have o:=Fj (bM a 0) 9 () ();obtain⟨q,d,p⟩:=o;have d:(bC (bM a 0) 9).length=9:=d;generalize e3:bC (bM a 0) 9=hd at *
 obtain⟨q1,q2,q3⟩:=Sg hd () 15 () ();have u:=Sq hd 15 ();have q2:(dH hd 15).length=15:=q2;generalize l:dH hd 15=na at *
 have n:In [(1:Int),(2:Int),(5:Int),(8:Int),m,m].length (As hd 6%6):=qw () (fg 6);have z:1<=As [(1:Int),(2:Int),(5:Int),(8:Int),m,m] (As hd 6%6)/\As [(1:Int),(2:Int),(5:Int),(8:Int),m,m] (As hd 6%6)<=14:=by
  have:=vO n;simp only[KG,kB,or_false]at this;rcases this with e|e|e|e|e|e<;>rw[e]<;>omega
 generalize g:As [(1:Int),(2:Int),(5:Int),(8:Int),m,m] (As hd 6%6)=mn at *
 have x:0<=As hd 7:=p _ (vO (B6 () ()))
 let nm:=λk:Int=>As na ((4*k+As hd 7)%15)
 let b:=λk:Int=>jD (nm k) (bC (bM a (1+k)) 4)
 have c:∀k:Int,nH (nm k) (bC (bM a (1+k)) 4)/\(b k).1=nm k/\Fd (b k):=λk=>N4 _ _ (Fj (bM a (1+k)) 4 () ()).2.1;have lp:=nC (P:=λf k=>Z (mX a hd na f k)) (step:=λf k=>jO a hd na f k) (λk (s:Y aX)=>s=(rng 0 k).map b) mn.toNat [] J λk s hk h=>by
  refine⟨⟨⟨⟨⟨B6 () (),qw () (by rw[q2];decide)⟩,J8 a _ () (),(Fj _ 4 () ()).1⟩,(c k).1⟩,tM (by rw[h,zd,j5];omega)⟩,?_⟩;show s++[b k]=_;rw[h];unfold rng;rw[List.range_succ,ZI,ZI];simp
 have eB:dU a m=(rng 0 mn.toNat).map b:=by
  unfold dU;dsimp only;rw[e3,l,g];exact lp.2
 refine⟨⟨⟨J8 a 0 () (),q⟩,?_⟩,?_,?_,?_⟩
 ·dsimp only;rw[e3];refine⟨q1,?_⟩;rw[l];refine⟨⟨B6 () (),n⟩,?_⟩;rw[g];exact⟨uO () (),lp.1⟩
 ·rw[eB];refine⟨?_,by rw[zd,j5];omega,λr t=>?_⟩
  ·rw[ZE];refine JG λi j hi y h=>?_;have h:(b (i:Int)).1=(b (j:Int)).1:=h;rw[(c i).2.1,(c j).2.1]at h;have:=Mn u (by rw[q2];exact⟨by omega,by omega⟩) (by rw[q2];exact⟨by omega,by omega⟩) h;omega
  ·obtain⟨k,_,rfl⟩:=ae.mp t;exact(c k).2.2
 ·rw[eB,zd,j5];omega
 ·rw[eB,zd,j5];omega
open S1 S6
theorem D0{f:α->β->γ}{a c:α}{b d:β}(h:a=c)(h':b=d):f a b=f c d:=by rw[h,h']
abbrev PR:=aX×aX
def BN:Y aX->Y PR
 |[]=>[]
 |x::xs=>xs.map (λy=>(x,y))++BN xs
theorem jF(j:Int)(x:α)(xs:Y α):jr j (x::xs)=(j,x)::jr (j+1) xs:=by
 unfold jr;rw[ZH,be,List.zipWith_cons_cons,List.zipWith_map_left];refine D0 (f:=di) (by simp) (congrArg (λg=>List.zipWith g (ap xs.length) xs) ?_);funext k z;show(j+((k+1:Nat):Int),z)=(j+1+(k:Int),z);rw[show j+((k+1:Nat):Int)=j+1+(k:Int) by omega]
theorem Wf(xs:Y α):wV xs=jr 0 xs:=by
 unfold wV jr;refine congrArg (λg=>List.zipWith g (ap xs.length) xs) ?_;funext k z;simp
theorem CG{α:Type}:∀(xs:Y α) (j:Int),(jr j xs).length=xs.length
 |[],j=>rfl
 |x::xs,j=>by rw[jF,ZH,CG xs,ZH]
theorem qX{α:Type}:∀(xs:Y α) (j:Int) (q:Int×α),q∈jr j xs->q.2∈xs/\j<=q.1
 |x::xs,j,q,h=>by
  rw[jF]at h;rcases List.mem_cons.mp h with rfl|h
  ·exact⟨zt,fg _⟩
  ·have:=qX xs (j+1) q h;exact⟨zr _ this.1,by omega⟩
def tl(R:Y Dt)(q:PR):Y (Dt×AJ×AJ×Int):=((jr 0 R).filter λz:Int×Dt=>aK z.2 q.1 q.2).map λz:Int×Dt=>(z.2,(q.1.1,q.2.1,z.1))
theorem Fl(w:Y aX)(R:Y Dt):fV w R=(BN w).flatMap (tl R):=by
 have c:∀(xs a:Y aX),a++xs=w->((jr (a.length:Int) xs).flatMap λq1:Int×aX=>((BF w (Z (q1.1+1)) O).flatMap λf:aX=>tl R (q1.2,f)))=(BN xs).flatMap (tl R):=by
  intro xs
  induction xs with
  |nil=>intro a _;rfl
  |cons x xs b=>
   intro a e;have h1:=b (a++[x]) (by rw[qa];exact e);rw[zC,dt]at h1;rw[jF,QO,show((a.length:Int)+1)=((a.length+1:Nat):Int) by omega,h1];have d:BF w (Z ((a.length+1:Nat):Int)) O=xs:=by
    rw[Hv (by rw[<-e,zC,ZH];omega),<-e,show a++x::xs=(a++[x])++xs by simp,List.drop_left' (by simp)]
   show(BF w (Z ((a.length:Int)+1)) O).flatMap _++_=_;rw[show((a.length:Int)+1)=((a.length+1:Nat):Int) by omega,d];show _=(xs.map (λy=>(x,y))++BN xs).flatMap (tl R);rw[List.flatMap_append,List.flatMap_map]
 have:=c w [] rfl;unfold fV;rw[Wf];exact this
theorem pG:∀{w:Y aX} {q:PR},q∈BN w->q.1∈w/\q.2∈w
 |x::xs,q,h=>by
  rcases az.mp h with h|h
  ·obtain⟨y,a,rfl⟩:=ae.mp h;exact⟨zt,zr _ a⟩
  ·exact⟨zr _ (pG h).1,zr _ (pG h).2⟩
theorem Fo:∀w:Y aX,(BN w).length<=w.length*w.length
 |[]=>zi _
 |x::xs=>by
  have:=Fo xs;show(xs.map (λy=>(x,y))++BN xs).length<=_;rw[zC,zd,ZH,k7,Nat.mul_succ];omega
theorem Ip{α β:Type}{g:α->Y β}{k:Nat}(h:∀x,(g x).length<=k):∀xs:Y α,(xs.flatMap g).length<=xs.length*k
 |[]=>by simp
 |x::xs=>by
  have:=Ip h xs;have:=h x;rw[QO,zC,ZH,k7];omega
theorem L4(R:Y Dt)(q:PR):(tl R q).length<=R.length:=by
 unfold tl;rw[zd];exact zl (ZN _ _) (bj (CG R 0))
def Rl(r:Dt):Prop:=(∃f w,r=.tup [.str "same", .str f,.int w])\/(∃f n w,r=.tup [.str "begin", .str f,.int n,.int w])\/(∃f g w,r=.tup [.str "both", .str f,.str g,.int w])\/∃f,r=.tup [.str "never", .str f]
def Ir(x y:aX)(f:AJ):Bool:=(fw x.2 f).isSome&&decide (fw x.2 f=fw y.2 f)
theorem wB(x y:aX)(f:AJ):iU x y f/\dI x y f=Ir x y f:=by
 obtain⟨h1,h2⟩:=gU x f;obtain⟨b,a⟩:=gU y f;refine⟨⟨h1,λ_=>b⟩,?_⟩;unfold dI Ir;dsimp only;rw[h2,a]
def Sv(x y:aX)(f:AJ)(n:Int):Bool:=match fw x.2 f,fw y.2 f with
 |some a,Z b=>decide (n<=(a.length:Int))&&(decide (n<=(b.length:Int))&&decide (Txt.slice a O (Z n)=Txt.slice b O (Z n)))
 |_,_=>false
theorem Sw(x y:aX)(f:AJ)(n:Int):gR x y f n/\gQ x y f n=Sv x y f n:=by
 obtain⟨h1,h2⟩:=gU x f;obtain⟨c,d⟩:=gU y f;unfold gR gQ Sv;dsimp only;rw[h2,d];cases fw x.2 f with
 |none=>exact⟨⟨h1,c,λz=>by cases z⟩,by simp⟩
 |some a=>
  cases fw y.2 f with
  |none=>exact⟨⟨h1,c,λz=>by cases z⟩,by simp⟩
  |some b=>
   refine⟨⟨h1,c,λ_=>⟨rfl,λ_=>⟨rfl,λ_=>⟨rfl,rfl⟩⟩⟩⟩,?_⟩;simp
def Xb(x y:aX)(f:AJ):Bool:=(fw x.2 f).isSome&&((fw y.2 f).isSome&&!decide (fw x.2 f=fw y.2 f))
theorem Sx(x y:aX)(f:AJ):kh x y f/\ji x y f=Xb x y f:=by
 obtain⟨h1,h2⟩:=gU x f;obtain⟨b,a⟩:=gU y f;refine⟨⟨h1,b⟩,?_⟩;unfold ji Xb;dsimp only;rw[h2,a]
theorem Xc:(("same":AJ)==("same":AJ))=true:=by decide
theorem Xd:(("begin":AJ)==("same":AJ))=false:=by decide
theorem Xe:(("begin":AJ)==("begin":AJ))=true:=by decide
theorem Xf:(("both":AJ)==("same":AJ))=false:=by decide
theorem Xg:(("both":AJ)==("begin":AJ))=false:=by decide
theorem Xh:(("both":AJ)==("both":AJ))=true:=by decide
theorem Xi:(("never":AJ)==("same":AJ))=false:=by decide
theorem Xj:(("never":AJ)==("begin":AJ))=false:=by decide
theorem Xk:(("never":AJ)==("both":AJ))=false:=by decide
theorem IJ:(("never":AJ)==("never":AJ))=true:=by decide
theorem dX(f:AJ)(w:Int)(x y:aX):aK (.tup [.str "same", .str f,.int w]) x y=Ir x y f:=by
 unfold aK;rw[pL,wW,dF,Xc,zh rfl];exact(wB x y f).2
theorem fJ(f:AJ)(n w:Int)(x y:aX):aK (.tup [.str "begin", .str f,.int n,.int w]) x y=Sv x y f n:=by
 unfold aK;rw[pL,wW,Lz,dF,dF,Xd,Xe,zo (),zh rfl];exact(Sw x y f n).2
theorem lN(f g:AJ)(w:Int)(x y:aX):aK (.tup [.str "both", .str f,.str g,.int w]) x y=(Ir x y f&&Ir x y g):=by
 unfold aK;rw[pL,wW,Lz,dF,dF,dF,Xf,Xg,Xh,zo (),zo (),zh rfl];show(dI x y f&&dI x y g)=_;rw[(wB x y f).2,(wB x y g).2]
theorem mJ(f:AJ)(x y:aX):aK (.tup [.str "never", .str f]) x y=Xb x y f:=by
 unfold aK;rw[pL,wW,dF,dF,dF,Xi,Xj,Xk,zo (),zo (),zo ()];exact(Sx x y f).2
theorem Om(a:Dt)(r:Y Dt):Ai (.tup (a::r)) (0:Int):=by
 show In (r.length+1) 0;exact B6 () ()
theorem DS(a b:Dt)(r:Y Dt):Ai (.tup (a::b::r)) (1:Int):=by
 show In (r.length+1+1) 1;exact B6 () ()
theorem FD(a b c:Dt)(r:Y Dt):Ai (.tup (a::b::c::r)) (2:Int):=by
 show In (r.length+1+1+1) 2;exact B6 () ()
theorem Ee(a:Dt)(r:Y Dt):Ai (.tup (a::r)) (-(1:Int)):=by
 show In (r.length+1) (-1);exact⟨by omega,by omega⟩
theorem Fp(h:Rl r)(x y:aX):pD r x y:=by
 unfold pD;rcases h with⟨f,w,rfl⟩|⟨f,n,w,rfl⟩|⟨f,g,w,rfl⟩|⟨f,rfl⟩
 ·rw[pL,wW,dF,Xc];exact⟨⟨Om _ _,gC _ _⟩,λ_=>⟨⟨DS _ _ _,rfl⟩,(wB x y f).1⟩,λz=>by cases z⟩
 ·rw[pL,wW,Lz,dF,dF,Xd,Xe];exact⟨⟨Om _ _,gC _ _⟩,(λz=>by cases z),λ_=>⟨⟨Om _ _,gC _ _⟩,λ_=>⟨⟨⟨DS _ _ _,rfl⟩,FD _ _ _ _,rfl⟩,(Sw x y f n).1⟩,λz=>by cases z⟩⟩
 ·rw[pL,wW,Lz,dF,dF,dF,Xf,Xg,Xh];exact⟨⟨Om _ _,gC _ _⟩,(λz=>by cases z),λ_=>⟨⟨Om _ _,gC _ _⟩,(λz=>by cases z),λ_=>⟨⟨Om _ _,gC _ _⟩,
   λ_=>⟨⟨⟨DS _ _ _,rfl⟩,(wB x y f).1⟩,λ_=>⟨⟨FD _ _ _ _,rfl⟩,(wB x y g).1⟩⟩,λz=>by cases z⟩⟩⟩
 ·rw[pL,wW,dF,dF,dF,Xi,Xj,Xk];exact⟨⟨Om _ _,gC _ _⟩,(λz=>by cases z),λ_=>⟨⟨Om _ _,gC _ _⟩,(λz=>by cases z),λ_=>⟨⟨Om _ _,gC _ _⟩,(λz=>by cases z),λ_=>⟨⟨DS _ _ _,rfl⟩,(Sx x y f).1⟩⟩⟩⟩
def Wg(r:Dt):Bool:=sO (fY r 0) (Dt.str "never")
theorem yw(h:Rl r):(Ai r (0:Int)/\Lb (fY r 0) (Dt.str "never"))/\(Wg r=false->Ai r (-(1:Int))/\fY r (-(1:Int))=eI (NQ (fY r (-(1:Int))))):=by
 unfold Wg;rcases h with⟨f,w,rfl⟩|⟨f,n,w,rfl⟩|⟨f,g,w,rfl⟩|⟨f,rfl⟩
 ·rw[pL];exact⟨⟨Om _ _,gC _ _⟩,λ_=>⟨Ee _ _,rfl⟩⟩
 ·rw[pL];exact⟨⟨Om _ _,gC _ _⟩,λ_=>⟨Ee _ _,rfl⟩⟩
 ·rw[pL];exact⟨⟨Om _ _,gC _ _⟩,λ_=>⟨Ee _ _,rfl⟩⟩
 ·rw[pL,dF,IJ];exact⟨⟨Om _ _,gC _ _⟩,λz=>by cases z⟩
def pN(v:Y aX):Y aX:=pK eS (λx:aX=>x.1) v
theorem Sy(x:AJ):xO.kk eS x=[.inr x]:=rfl
theorem Hc(a b:aX):W5 eS (λx:aX=>x.1) a b=true↔Ag a.1 b.1:=by
 unfold W5;rw[Sy,Sy];show(!gO [.inr b.1] [.inr a.1])=true↔ltCps b.1.cps.toList a.1.cps.toList=false;rw[qc,ltCps_eq];unfold gO gO;split
 ·rename_i e;rw[Sum.inr.inj e];simp[k9]
 ·exact Iff.rfl
theorem gW(v:Y aX):(pN v).Perm v:=oH v
theorem Ma{v:Y aX}(c:(v.map (·.1)).Nodup):(pN v).Pairwise λa b=>Vo a.1 b.1=true:=by
 have h1:(pN v).Pairwise λa b=>Ag a.1 b.1:=kn (λh=>(Hc _ _).mp h) (oJ (e':=eS) (κ:=λx:aX=>x.1) v);have h2:((pN v).map (·.1)).Nodup:=((gW v).map _).nodup_iff.mpr c;have h2:(pN v).Pairwise λa b=>a.1≠b.1:=aw.mp h2;exact kn (λ⟨a,b⟩=>(CF _ _).mpr ⟨a,b⟩) (h1.and h2)
theorem Fq{v:Y aX}(c:(v.map (·.1)).Nodup){a b:aX}(d:a∈v)(g:b∈v)(e:a.1=b.1):a=b:=by
 obtain⟨i,hi,rfl⟩:=ah.mp d;obtain⟨j,f,rfl⟩:=ah.mp g;have:=(kD (i:=i) (j:=j) (h₀:=by rw[zd];exact hi) (h₁:=by rw[zd];exact f) c).mp (by rw[jb,jb];exact e);subst this;rfl
theorem Hk{v c:Y aX}(d:(v.map (·.1)).Nodup)(p:v.Perm c):pN v=pN c:=
 RX (e':=eS) (κ:=λx:aX=>x.1) (λa f b g e=>Fq d (p.mem_iff.mpr f) (p.mem_iff.mpr g) e) ((gW v).trans p) (oJ v)
def Oo(v:Y aX)(R:Y Dt):Y (Dt×AJ×AJ×Int):=(BN (pN v)).flatMap (tl R)
theorem Mf{v:Y aX}{R:Y Dt}(h1:v.length<=40)(h2:R.length<=20):(Oo v R).length<=32000:=by
 have a:=Ip (L4 R) (BN (pN v));have b:=Fo (pN v);rw[(gW v).length_eq]at b;have c:v.length*v.length<=40*40:=bI h1 h1;have d:(BN (pN v)).length*R.length<=1600*20:=bI () h2;unfold Oo;omega
theorem Mh{v:Y aX}{R:Y Dt}{q:Dt×AJ×AJ×Int}(h:q∈Oo v R):q.1∈R:=by
 obtain⟨p,_,a⟩:=f4.mp h;obtain⟨z,b,rfl⟩:=ae.mp a;exact(qX R 0 z (ax.mp b).1).1
def EC(T:Y (Dt×AJ×AJ×Int)):Y (Int×AJ×AJ×Int):=(T.filter λq=>!Wg q.1).map λq=>(NQ (fY q.1 (-(1:Int))),q.2.1,q.2.2.1,q.2.2.2)
def ED(T:Y (Dt×AJ×AJ×Int)):Y (AJ×AJ×Int):=(T.filter λq=>Wg q.1).map λq=>q.2
theorem Oq(x y:Int×AJ×AJ×Int)(h:gA x=gA y):x=y:=by
 obtain⟨a,b,c,d⟩:=x;obtain⟨g,i,c',j⟩:=y;unfold gA at h;dsimp only at h;simp only[KF]at h;obtain⟨h1,h2,f,e⟩:=h;rw[show a=g by omega,h2,f,e]
theorem LG{xs:Y (Int×AJ×AJ×Int)}(h:xs.length<=100000):pF xs:=⟨λ_ _=>trivial,h,λx _ y _ e=>Oq x y e⟩
theorem Aa(xs:Y (Int×AJ×AJ×Int)):(jE xs).Perm xs:=oH xs
theorem kE(v:Y aX)(R:Y Dt):aD v R=((pN v).map (·.1),jE (EC (Oo v R)),fZ (Vm eS eS eI) (ED (Oo v R))):=by
 unfold aD;dsimp only;rw[Fl];rfl
theorem Iu{v:Y aX}{R:Y Dt}(g:(v.map (·.1)).Nodup)(h1:v.length<=40)(h2:R.length<=20)(f:∀r∈R,Rl r):dJ v R:=by
 have e:=Mf h1 h2;have h:(pN v).length=v.length:=(gW v).length_eq;unfold dJ;refine⟨⟨λ_ _=>trivial,by omega,g⟩,?_⟩;have td:qU (pN v) R:=⟨λq1 _ i _ q2 a=>Fp (f _ (qX R 0 q2 a).1) _ _,by
  have:=Fl (pN v) R;unfold fV at this;rw[this];exact zl e ()⟩
 have d:fV (pN v) R=Oo v R:=Fl _ _;have c:∀q∈fV (pN v) R,Rl q.1:=λq a=>f _ (Mh (by rw[<-d];exact a));have b:(fV (pN v) R).length<=100000:=by rw[d];exact zl e ()
 refine⟨td,⟨b,λq a=>⟨(yw (c q a)).1,λz=>(yw (c q a)).2 (by simpa[Wg]using z)⟩⟩,⟨b,λq a=>(yw (c q a)).1⟩,?_,LG ?_,?_⟩
 ·show(pN v).length<=_;omega
 ·rw[zd];exact zl (ZN _ _) b
 ·rw[zd];exact zl (ZN _ _) b
def pr(v:Y aX)(r:Dt):Y (AJ×AJ):=((BN (pN v)).filter λq=>aK r q.1 q.2).map λq=>(q.1.1,q.2.1)
theorem SJ{a b c d:AJ}(h:Vo a c=true\/(a=c/\Vo b d=true)):Vv (yg eS eS) (a,b) (c,d)=true:=by
 unfold Vv mQ;rw[qc];show gO [.inr c,.inr d] [.inr a,.inr b]=false;have f:∀{x y:AJ},Vo x y=true->K3 (.inr y) (.inr x)=false/\x≠y:=λ{x y} h=>by
  unfold Vo at h;have h:=JE h;refine⟨?_,λe=>by subst e;exact k9 _ h⟩;show decide (y.cps.toList<x.cps.toList)=false;exact zD λh'=>k9 _ (List.lt_trans h h')
 rcases h with h|⟨rfl,h⟩
 ·obtain⟨h1,h2⟩:=f h;unfold gO;rw[zo (λe=>h2 (by cases e;rfl)),h1]
 ·obtain⟨h1,h2⟩:=f h;unfold gO;rw[zh rfl];unfold gO;rw[zo (λe=>h2 (by cases e;rfl)),h1]
theorem Mi:∀{w:Y aX},w.Pairwise (λa b=>Vo a.1 b.1=true)->(BN w).Pairwise λp q=>Vv (yg eS eS) (p.1.1,p.2.1) (q.1.1,q.2.1)=true
 |[],_=>List.Pairwise.nil
 |x::xs,h=>by
  obtain⟨h1,h2⟩:=am.mp h;show(xs.map (λy=>(x,y))++BN xs).Pairwise _;refine av.mpr ⟨aw.mpr (kn (λd=>SJ (.inr ⟨rfl,d⟩)) h2),Mi h2,λp hp q c=>?_⟩;obtain⟨y,_,rfl⟩:=ae.mp hp;exact SJ (.inl (h1 _ (pG c).1))
theorem Mj{v:Y aX}(a:(v.map (·.1)).Nodup)(r:Dt):fZ (yg eS eS) (pr v r)=pr v r:=
 (Ht (Kb _) (aw.mpr (List.Pairwise.sublist ez (Mi (Ma a))))).symm
theorem mY{e:α->Dt}[nO e]{xs ys:Y α}(h:xs.Perm ys):fZ e xs=fZ e ys:=Ht ((jz xs).trans h) (sW xs)
theorem Kd(p:α->Bool)(xs:Y α):((xs.filter λx=>!p x)++xs.filter p).Perm xs:=dA.trans (dc p xs)
theorem Ml:∀(R:Y Dt) (j:Int) (k:Nat) (r:Dt),R[k]?=Z r->(jr j R).filter (λz=>decide (z.1=j+k))=[(j+k,r)]
 |x::R,j,0,r,h=>by
  cases h;rw[jF,jn,zh (by simp)];have:(jr (j+1) R).filter (λz=>decide (z.1=j+(0:Nat)))=[]:=dr.mpr λz b=>by
   have:=(qX R (j+1) z b).2;simp only[Zp];omega
  rw[this];simp
 |x::R,j,k+1,r,h=>by
  have a:=Ml R (j+1) k r h;rw[jF,jn,zo (by simp only[Zp];omega)];rw[show j+((k+1:Nat):Int)=j+1+(k:Int) by omega];exact a
theorem xg{α β:Type}(p:β->Bool)(g:α->Y β):∀xs:Y α,(xs.flatMap g).filter p=xs.flatMap λx=>(g x).filter p
 |[]=>rfl
 |x::xs=>by rw[QO,eK,xg p g xs,QO]
theorem Mq{α β:Type}(c:α->Bool)(f:α->β):∀xs:Y α,(xs.flatMap λx=>if c x=true then[f x]else[])=(xs.filter c).map f
 |[]=>rfl
 |x::xs=>by
  rw[QO,Mq c f xs,jn];cases c x<;>rfl
theorem MS{v:Y aX}{R:Y Dt}(h:R[k]?=Z r):((Oo v R).filter λq=>decide (q.2.2.2=(k:Int))).map (λq=>(q.2.1,q.2.2.1))=pr v r:=by
 unfold Oo pr;rw[xg];have e:∀q:PR,(tl R q).filter (λq=>decide (q.2.2.2=(k:Int)))=if aK r q.1 q.2=true then[(r,(q.1.1,q.2.1,(k:Int)))]else[]:=λq=>by
  unfold tl;rw[kQ,qB];have:(λz:Int×Dt=>((λq:Dt×AJ×AJ×Int=>decide (q.2.2.2=(k:Int))) ∘ λz:Int×Dt=>(z.2,(q.1.1,q.2.1,z.1))) z&&aK z.2 q.1 q.2)=λz=>aK z.2 q.1 q.2&&decide (z.1=0+(k:Int)):=by
   funext z;show(decide (z.1=(k:Int))&&_)=_;rw[ke,cY]
  rw[this,<-qB,Ml R 0 k r h,jn];show bg _ (if aK r q.1 q.2=true then _ else _)=_;split
  ·simp
  ·rfl
 rw[show((BN (pN v)).flatMap λq=>(tl R q).filter λq=>decide (q.2.2.2=(k:Int)))=(BN (pN v)).flatMap (λq=>if aK r q.1 q.2=true then[(r,(q.1.1,q.2.1,(k:Int)))]else[]) from congrArg (λg=>(BN (pN v)).flatMap g) (funext e)];rw[Mq (λq:PR=>aK r q.1 q.2) (λq=>(r,(q.1.1,q.2.1,(k:Int)))),ZE];rfl
theorem CJ{v:Y aX}{R:Y Dt}(h:R[k]?=Z r):((((aD v R).2.1.filter λq=>decide (q.2.2.2=(k:Int))).map λq=>(q.2.1,q.2.2.1))++(((aD v R).2.2.filter λq=>decide (q.2.2=(k:Int))).map λq=>(q.1,q.2.1))).Perm (pr v r):=by
 rw[kE,<-MS (v:=v) h];have a:=((((Aa (EC (Oo v R))).filter λq=>decide (q.2.2.2=(k:Int))).map λq=>(q.2.1,q.2.2.1)).append (((jz (e:=Vm eS eS eI) (ED (Oo v R))).filter λq=>decide (q.2.2=(k:Int))).map λq=>(q.1,q.2.1)));refine a.trans ?_;unfold EC ED;rw[kQ,kQ,ZE,ZE];generalize Oo v R=T;have b:=Kd (λq:Dt×AJ×AJ×Int=>Wg q.1) (T.filter λq=>decide (q.2.2.2=(k:Int)));have c:=b.map λq=>(q.2.1,q.2.2.1);rw[ZI,qB,qB]at c;refine List.Perm.trans (List.Perm.of_eq ?_) c;rw[qB,qB];refine D0 (f:=λx y=>x++y) (congrArg (bg _) (congrArg (λf=>fm f T) (funext λq=>?_))) (congrArg (bg _) (congrArg (λf=>fm f T) (funext λq=>?_)))
 ·exact ke _ _
 ·exact ke _ _
open S1 S6
theorem FE{v:Y aX}{q:Dt×AJ×AJ×Int}(h:q∈Oo v [r]):q.1=r/\q.2.2.2=0:=by
 refine⟨af.mp (Mh h),?_⟩;obtain⟨p,_,a⟩:=f4.mp h;obtain⟨z,b,rfl⟩:=ae.mp a;have:z∈jr 0 [r]:=(ax.mp b).1;rw[jF]at this;rcases List.mem_cons.mp this with rfl|h
 ·rfl
 ·cases h
theorem GG{v:Y aX}{q:Int×AJ×AJ×Int}(h:q∈(aD v [r]).2.1):q.1=NQ (fY r (-(1:Int)))/\q.2.2.2=0/\Wg r=false:=by
 rw[kE]at h;have h:=(Aa _).mem_iff.mp h;obtain⟨z,a,rfl⟩:=ae.mp h;obtain⟨h1,h2⟩:=ax.mp a;obtain⟨e1,e2⟩:=FE h1;rw[e1]at h2;exact⟨by dsimp only;rw[e1],e2,by simpa using h2⟩
theorem GT{v:Y aX}{q:AJ×AJ×Int}(h:q∈(aD v [r]).2.2):q.2.2=0/\Wg r=true:=by
 rw[kE]at h;have h:=(jz _).mem_iff.mp h;obtain⟨z,a,rfl⟩:=ae.mp h;obtain⟨h1,h2⟩:=ax.mp a;obtain⟨e1,e2⟩:=FE h1;rw[e1]at h2;exact⟨e2,h2⟩
theorem Xl{v:Y aX}{R:Y Dt}(h1:v.length<=40)(h2:R.length<=20):(aD v R).2.1.length<=32000/\(aD v R).2.2.length<=32000:=by
 have:=Mf h1 h2;rw[kE];constructor
 ·show(jE _).length<=_;rw[(Aa _).length_eq];unfold EC;rw[zd];exact zl (ZN _ _) this
 ·show(fZ _ _).length<=_;rw[(jz _).length_eq];unfold ED;rw[zd];exact zl (ZN _ _) this
theorem Iv{p:α->Bool}{xs:Y α}(h:∀x∈xs,p x=true):xs.filter p=xs:=ba.mpr h
theorem Wh(v:Y aX)(r:Dt):(((aD v [r]).2.1.map λq=>(q.2.1,q.2.2.1))++((aD v [r]).2.2.map λq=>(q.1,q.2.1))).Perm (pr v r):=by
 have h:=CJ (v:=v) (R:=[r]) (k:=0) (r:=r) rfl;have a1:((aD v [r]).2.1.filter λq=>decide (q.2.2.2=((0:Nat):Int)))=(aD v [r]).2.1:=Iv λq a=>z4 (GG a).2.1;have a2:((aD v [r]).2.2.filter λq=>decide (q.2.2=((0:Nat):Int)))=(aD v [r]).2.2:=Iv λq a=>z4 (GT a).1;rw[a1,a2]at h;exact h
theorem Wi(a b:Int):sO (.int a) (.int b)=decide (a=b):=by
 show(tW (.int a) (.int b)).getD false=_;by_cases h:a=b
 ·subst h;simp[tW]
 ·simp[tW,h]
theorem Wj(a b:Int):Lb (.int a) (.int b):=⟨by rfl,by simp[q8]⟩
theorem fQ{v:Y aX}(p:(v.map (·.1)).Nodup)(h1:v.length<=40)(j:Rl r):bT v r/\aF v r=Z (pr v r):=by
 have k:=Iu p h1 (R:=[r]) (by simp) λq c=>by rw[af.mp c];exact j
 obtain⟨A,x⟩:=Xl h1 (R:=[r]) (by simp);have e:=Wh v r;obtain⟨⟨e1,e2⟩,e3⟩:=yw j;have g:=λq=>GG (v:=v) (r:=r) (q:=q);have i:=λq=>GT (v:=v) (r:=r) (q:=q);generalize u:aD v [r]=G at *
 obtain⟨N,o,y⟩:=G;dsimp only at A x e g i;have m:∀{xs:Y (AJ×AJ)},xs.Perm (pr v r)->fZ (yg eS eS) xs=pr v r:=λh=>(mY h).trans (Mj p r);unfold bT aF;rw[u];dsimp only;cases d:Wg r with
 |true=>
  have f:sO (fY r 0) (Dt.str "never")=true:=d;have:o=[]:=bp.mpr λq c=>by have:=(g q c).2.2;rw[d]at this;cases this
  subst this;rw[f,zh rfl];refine⟨⟨k,⟨e1,e2⟩,λ_=>⟨⟨⟨by omega,by simp⟩,zl (show _<=100000 by rw[zd,zd];simp;omega) ()⟩,by rw[zC,zd,zd];simp;omega⟩,λz=>by cases z⟩,?_⟩;rw[QI,Q2];rw[QI,kP]at e;exact congrArg Z (m e)
 |false=>
  have f:sO (fY r 0) (Dt.str "never")=false:=d;have:y=[]:=bp.mpr λq c=>by have:=(i q c).2;rw[d]at this;cases this
  subst this;obtain⟨t,n⟩:=e3 d;have s:(o.map λl:Int×AJ×AJ×Int=>((sO (eI l.1) (fY r (-(1:Int))))&&(decide (l.2.2.2=0)))).all id=true:=by
   rw[cz,Z3];intro q c;obtain⟨a,b,_⟩:=g q c;show(sO (eI q.1) (fY r (-(1:Int)))&&decide (q.2.2.2=0))=true;rw[a,b,n];show(sO (.int (NQ (fY r (-(1:Int))))) (.int (NQ (fY r (-(1:Int)))))&&_)=true;rw[Wi];simp
  have w:(!decide (([]:Y (AJ×AJ×Int))=[]))=false:=by simp
  rw[f,zo (),s,w];refine⟨⟨k,⟨e1,e2⟩,(λz=>by cases z),λ_=>⟨λ_=>⟨by omega,λq c=>⟨t,by rw[n];exact Wj _ _⟩⟩,λ_=>⟨by omega,by rw[zd];omega⟩⟩⟩,?_⟩;rw[zo ()];rw[QI,Q2]at e;exact congrArg Z (m e)
theorem Ft{v:Y aX}(b:(v.map (·.1)).Nodup){q:PR}(h:q∈BN (pN v)):(q.1.1,q.2.1)∈pr v r↔aK r q.1 q.2=true:=by
 constructor
 ·intro d;obtain⟨z,c,e⟩:=ae.mp d;obtain⟨h1,h2⟩:=ax.mp c;obtain⟨a1,a2⟩:=pG h1;obtain⟨b1,b2⟩:=pG h;have a:=λ{x:aX} (hx:x∈pN v)=>(gW v).mem_iff.mp hx;have f1:=Fq b (a a1) (a b1) (congrArg (λz:AJ×AJ=>z.1) e);have f2:=Fq b (a a2) (a b2) (congrArg (λz:AJ×AJ=>z.2) e);rw[<-f1,<-f2];exact h2
 ·exact λf=>ae.mpr ⟨q,ax.mpr ⟨h,f⟩,rfl⟩
theorem Iw{v:Y aX}{x:AJ×AJ}(h:x∈pr v r):∃q∈BN (pN v),aK r q.1 q.2=true/\x=(q.1.1,q.2.1):=by
 obtain⟨z,a,e⟩:=ae.mp h;obtain⟨h1,h2⟩:=ax.mp a;exact⟨z,h1,h2,e.symm⟩
theorem wC{v:Y aX}{q:PR}(h:q∈BN (pN v)):q.1∈v/\q.2∈v:=⟨(gW v).mem_iff.mp (pG h).1,(gW v).mem_iff.mp (pG h).2⟩
theorem Ab{v:Y aX}(h1:v.length<=40)(r:Dt):(pr v r).length<=1600:=by
 unfold pr;rw[zd];have b:=Fo (pN v);rw[(gW v).length_eq]at b;have c:v.length*v.length<=40*40:=bI h1 h1;exact zl (ZN _ _) ()
theorem CK{v:Y aX}{a:Dt}{p:AJ×AJ->Bool}(h:∀q∈BN (pN v),aK a q.1 q.2=(aK r q.1 q.2&&p (q.1.1,q.2.1))):pr v a=(pr v r).filter p:=by
 unfold pr;rw[kQ,qB];refine congrArg (bg _) (JI λq b=>?_);rw[h q b,ke];rfl
theorem KU{b:Y (AJ×α)}(f:(b.map (·.1)).Nodup):WX b=b:=by
 unfold WX;have:∀(ps a:Y (AJ×α)),((a++ps).map (·.1)).Nodup->ps.foldl (λa p=>put a p.1 p.2) a=a++ps:=by
  intro ps
  induction ps with
  |nil=>intro a _;rw[Q2];rfl
  |cons q ps c=>
   intro a h;have g:has a q.1=false:=by
    unfold has;rw[e8];intro z d;rw[Zp];intro e;rw[ZI,List.nodup_append]at h;exact h.2.2 _ (kc d) _ (kc (zt ..)) e
   have hp:put a q.1 q.2=a++[q]:=by unfold put;rw[g,zo ()]
   rw[jS,hp,c _ (by rw[qa];exact h),qa];rfl
 exact(this b [] f).trans (kP _)
theorem SM[Inhabited α]{b:Y (AJ×α)}(c:(b.map (·.1)).Nodup){q:AJ×α}(h:q∈b):has b q.1=true/\look b q.1=q.2:=by
 refine⟨List.any_eq_true.mpr ⟨q,h,by simp⟩,?_⟩;unfold look;have:b.find? (λz=>decide (z.1=q.1))=Z q:=by
  induction b with
  |nil=>cases h
  |cons a b d=>
   rw[zv,bb]at c;rw[df];rcases List.mem_cons.mp h with e|e
   ·subst e;simp
   ·have:a.1≠q.1:=λz=>c.1 (by rw[z];exact kc e);rw[zD this];exact d c.2 e
 rw[this];rfl
theorem SN(a:Int)(n:Nat):rng a (n+1)=a::rng (a+1) n:=by
 unfold rng;rw[be,zv,ZE];refine D0 (f:=di) (by simp) (kU λk _=>?_);show a+((k+1:Nat):Int)=a+1+(k:Int);omega
theorem Ad{σ τ:Type}{step:σ->Int->nM σ τ}{P:σ->Int->S Prop}(g:Int->σ):∀(n:Nat) (a:Int),(∀k:Int,a<=k->k<a+n->B4 (P (g k) k)/\step (g k) k=.nx (g (k+1)))->jl step (rng a n) (g a)=.nx (g (a+n))/\nA step P (rng a n) (g a)
 |0,a,_=>⟨by simp[rng,jl],trivial⟩
 |n+1,a,h=>by
  obtain⟨h1,h2⟩:=h a (fg _) ();obtain⟨i1,i2⟩:=Ad g n (a+1) λk c b=>h k () ();rw[SN];unfold jl nA;rw[h2];refine⟨?_,h1,i2⟩;rw[show a+((n+1:Nat):Int)=a+1+(n:Int) by omega];exact i1
open S1 S6
abbrev mZ(f:AJ)(w:Int):Dt:=Dt.tup [(Dt.str "same"),(eS f),(eI w)]
abbrev qY(f:AJ)(n w:Int):Dt:=Dt.tup [(Dt.str "begin"),(eS f),(eI n),(eI w)]
abbrev Mr(f g:AJ)(w:Int):Dt:=Dt.tup [(Dt.str "both"),(eS f),(eS g),(eI w)]
abbrev OJ(f:AJ):Dt:=Dt.tup [(Dt.str "never"),(eS f)]
theorem Ot(f:AJ)(w:Int):Rl (mZ f w):=.inl ⟨f,w,rfl⟩
theorem Wk(f:AJ)(n w:Int):Rl (qY f n w):=.inr (.inl ⟨f,n,w,rfl⟩)
theorem je(f g:AJ)(w:Int):Rl (Mr f g w):=.inr (.inr (.inl ⟨f,g,w,rfl⟩))
theorem F8(f:AJ):Rl (OJ f):=.inr (.inr (.inr ⟨f,rfl⟩))
theorem mK(x y:aX)(f:AJ)(n:Nat):Sv x y f (n:Int)=true↔∃a b,fw x.2 f=Z a/\fw y.2 f=Z b/\n<=a.length/\n<=b.length/\(cs a).take n=(cs b).take n:=by
 unfold Sv;cases fw x.2 f with
 |none=>simp
 |some a=>
  cases fw y.2 f with
  |none=>simp
  |some b=>
   simp only[Zs,Zp,Option.some.injEq];constructor
   ·rintro⟨h1,h2,c⟩;have h1:n<=a.length:=by omega
    have h2:n<=b.length:=by omega
    exact⟨a,b,rfl,rfl,h1,h2,by rw[<-uT h1,<-uT h2,c]⟩
   ·rintro⟨d,e,rfl,rfl,h1,h2,c⟩;exact⟨by omega,by omega,R3 (by rw[uT h1,uT h2,c])⟩
theorem SQ{x y:aX}{f:AJ}(h:m<=n)(c:Sv x y f (n:Int)=true):Sv x y f (m:Int)=true:=by
 obtain⟨a,b,e1,e2,h1,h2,d⟩:=(mK x y f n).mp c;refine(mK x y f m).mpr ⟨a,b,e1,e2,by omega,by omega,?_⟩;have:=congrArg (List.take m) d;rwa [List.take_take,List.take_take,dk h]at this
theorem pH(x y:aX)(f:AJ):Ir x y f=true↔∃a,fw x.2 f=Z a/\fw y.2 f=Z a:=by
 unfold Ir;cases fw x.2 f with
 |none=>simp
 |some a=>simp[eq_comm]
theorem Wm{x y:aX}{f a:AJ}(h:Ir x y f=true)(c:fw x.2 f=Z a)(b:n<=a.length):Sv x y f (n:Int)=true:=by
 obtain⟨d,e1,e2⟩:=(pH x y f).mp h;rw[c]at e1;cases e1;exact(mK x y f n).mpr ⟨a,a,c,e2,b,b,rfl⟩
theorem Ae(x y:aX)(f:AJ):Ir x y f=Ir y x f:=by
 rw[QR,pH,pH];exact⟨λ⟨a,h1,h2⟩=>⟨a,h2,h1⟩,λ⟨a,h1,h2⟩=>⟨a,h2,h1⟩⟩
theorem SX(x y:aX)(f:AJ)(n:Nat):Sv x y f (n:Int)=Sv y x f (n:Int):=by
 rw[QR,mK,mK];exact⟨λ⟨a,b,h1,h2,h3,h4,h5⟩=>⟨b,a,h2,h1,h4,h3,h5.symm⟩,λ⟨a,b,h1,h2,h3,h4,h5⟩=>⟨b,a,h2,h1,h4,h3,h5.symm⟩⟩
theorem S5(x y:aX)(f:AJ):Xb x y f=Xb y x f:=by
 unfold Xb;cases fw x.2 f<;>cases fw y.2 f<;>simp[eq_comm]
structure Vk (v:List aX):Prop where
 nd:(v.map (·.1)).Nodup
 ln:v.length<=40
 wd:∀x∈v,∀q∈x.2,q.2.length<=12
theorem IZ{v:Y aX}(V:Vk v){x y:aX}(hx:x∈v)(d:y∈v)(f:AJ):Sv x y f 12=(Ir x y f&&decide ((((fw x.2 f).getD default).length:Int)=12)):=by
 rw[QR,show(12:Int)=((12:Nat):Int) from rfl,mK,Zs,pH,Zp];constructor
 ·rintro⟨a,b,e1,e2,h1,h2,c⟩;have e:=V.len hx e1;have g:=V.len d e2;rw[ZU (by rw[<-R5];omega),ZU (by rw[<-R5];omega)]at c;have:=R3 c;subst this;exact⟨⟨a,e1,e2⟩,by rw[e1];show(a.length:Int)=_;omega⟩
 ·rintro⟨⟨a,e1,e2⟩,h⟩;rw[e1]at h;have h:(a.length:Int)=((12:Nat):Int):=h;exact⟨a,a,e1,e2,by omega,by omega,rfl⟩
abbrev LK(v:Y aX)(f:AJ):Y (AJ×S AJ):=WX (v.map λa:aX=>(a.1,(bG a f)))
theorem Iz{v:Y aX}(V:Vk v)(f:AJ){x:aX}(h:x∈v):has (LK v f) x.1=true/\look (LK v f) x.1=fw x.2 f:=by
 have b:((v.map λa:aX=>(a.1,(bG a f))).map (·.1)).Nodup:=by rw[ZE];exact V.nd
 unfold LK;rw[KU b];have:=SM b (kc (f:=λa:aX=>(a.1,(bG a f))) h);exact⟨this.1,this.2.trans (gU x f).2⟩
theorem tO{v:Y aX}(V:Vk v){f:AJ}(b:∀x y,aK r x y=true->(fw x.2 f).isSome=true/\(fw y.2 f).isSome=true){c:AJ×AJ}(h:c∈pr v r):(has (LK v f) c.1=true/\(look (LK v f) c.1).isSome=true)/\has (LK v f) c.2=true/\(look (LK v f) c.2).isSome=true:=by
 obtain⟨q,h1,h2,rfl⟩:=Iw h;obtain⟨a1,a2⟩:=wC h1;obtain⟨b1,b2⟩:=Iz V f a1;obtain⟨d,a⟩:=Iz V f a2;have:=b _ _ h2;exact⟨⟨b1,by rw[b2];exact this.1⟩,d,by rw[a];exact this.2⟩
theorem IK(f:AJ)(w:Int)(x y:aX)(h:aK (mZ f w) x y=true):(fw x.2 f).isSome=true/\(fw y.2 f).isSome=true:=by
 rw[show aK (mZ f w) x y=_ from dX f w x y]at h;obtain⟨a,e1,e2⟩:=(pH x y f).mp h;rw[e1,e2];exact⟨rfl,rfl⟩
theorem S7(f:AJ)(n:Nat)(w:Int)(x y:aX)(h:aK (qY f n w) x y=true):(fw x.2 f).isSome=true/\(fw y.2 f).isSome=true:=by
 rw[show aK (qY f n w) x y=_ from fJ f n w x y]at h;obtain⟨a,b,e1,e2,_⟩:=(mK x y f n).mp h;rw[e1,e2];exact⟨rfl,rfl⟩
theorem all_map{α:Type}{p:α->Bool}{xs:Y α}(h:∀x∈xs,p x=true):(xs.map p).all id=true:=by
 rw[cz,Z3];exact h
theorem Ke{v:Y aX}(V:Vk v)(f:AJ)(w:Int)(h1:m<=k):cH v f w (LK v f) (Z (pr v (mZ f w))) (Z (pr v (qY f m w))) (k:Int) ∧
  bA v f w (LK v f) (Z (pr v (mZ f w))) (Z (pr v (qY f m w))) (k:Int)=.nx (Z (pr v (qY f k w))):=by
 obtain⟨p1,p2⟩:=fQ V.nd V.ln (Wk f k w);have g:=Ab V.ln (qY f k w);have i:=Ab V.ln (mZ f w);have a1:((pr v (qY f k w)).map λd:AJ×AJ=>(j4 d (pr v (qY f m w)))).all id=true:=all_map λc e=>by
  obtain⟨q,q1,q2,rfl⟩:=Iw e;rw[uN,Ft V.nd q1,show aK (qY f m w) q.1 q.2=_ from fJ f m w _ _];rw[show aK (qY f k w) q.1 q.2=_ from fJ f k w _ _]at q2;exact SQ h1 q2
 have j:∀{q:PR},q∈BN (pN v)->look (LK v f) q.1.1=fw q.1.2 f/\look (LK v f) q.2.1=fw q.2.2 f:=λh=>⟨(Iz V f (wC h).1).2,(Iz V f (wC h).2).2⟩;have a2:((((pr v (mZ f w)).filter λd:AJ×AJ=>(decide ((k:Int)<=(((look (LK v f) d.1).getD default).length:Int)))).map λd:AJ×AJ=>d).map λd:AJ×AJ=>(j4 d (pr v (qY f k w)))).all id=true:=all_map λc e=>by
  rw[da]at e;obtain⟨e,hk⟩:=ax.mp e;obtain⟨q,q1,q2,rfl⟩:=Iw e;rw[show aK (mZ f w) q.1 q.2=_ from dX f w _ _]at q2;rw[uN,Ft V.nd q1,show aK (qY f k w) q.1 q.2=_ from fJ f k w _ _];rw[(j q1).1]at hk;obtain⟨a,e1,e2⟩:=(pH _ _ f).mp q2;rw[e1]at hk;have hk:(k:Int)<=(a.length:Int):=JE hk;exact Wm q2 e1 ()
 have l:((pr v (qY f k w)).map λd:AJ×AJ=>(decide ((k:Int)<=(if(((look (LK v f) d.2).getD default).length:Int)<(((look (LK v f) d.1).getD default).length:Int)then(((look (LK v f) d.2).getD default).length:Int)else(((look (LK v f) d.1).getD default).length:Int))))).all id=true:=all_map λc e=>by
  obtain⟨q,q1,q2,rfl⟩:=Iw e;rw[show aK (qY f k w) q.1 q.2=_ from fJ f k w _ _]at q2;obtain⟨a,b,e1,e2,h1,h2,_⟩:=(mK _ _ f k).mp q2;rw[(j q1).1,(j q1).2,e1,e2];show decide ((k:Int)<=(if(b.length:Int)<(a.length:Int)then(b.length:Int)else(a.length:Int)))=true;rw[Zp];split<;>omega
 unfold cH bA;dsimp only;rw[show aF v (Dt.tup [(Dt.str "begin"),(eS f),(eI (k:Int)),(eI w)])=_ from p2];have c1:((Z (pr v (qY f k w))).isNone||(!((((Z (pr v (qY f k w))).getD default).map λd:AJ×AJ=>(j4 d ((Z (pr v (qY f m w))).getD default))).all id)))=false:=by
  show(false||!(((pr v (qY f k w)).map λd:AJ×AJ=>(j4 d (pr v (qY f m w)))).all id))=false;rw[a1];rfl
 have c2:(!((((((Z (pr v (mZ f w))).getD default).filter λd:AJ×AJ=>(decide ((k:Int)<=(((look (LK v f) d.1).getD default).length:Int)))).map λd:AJ×AJ=>d).map λd:AJ×AJ=>(j4 d ((Z (pr v (qY f k w))).getD default))).all id))=false:=by
  show(!(((((pr v (mZ f w)).filter λd:AJ×AJ=>(decide ((k:Int)<=(((look (LK v f) d.1).getD default).length:Int)))).map λd:AJ×AJ=>d).map λd:AJ×AJ=>(j4 d (pr v (qY f k w)))).all id))=false;rw[a2];rfl
 have n:(!((((Z (pr v (qY f k w))).getD default).map λd:AJ×AJ=>(decide ((k:Int)<=(if(((look (LK v f) d.2).getD default).length:Int)<(((look (LK v f) d.1).getD default).length:Int)then(((look (LK v f) d.2).getD default).length:Int)else(((look (LK v f) d.1).getD default).length:Int))))).all id))=false:=by
  show(!(((pr v (qY f k w)).map λd:AJ×AJ=>(decide ((k:Int)<=(if(((look (LK v f) d.2).getD default).length:Int)<(((look (LK v f) d.1).getD default).length:Int)then(((look (LK v f) d.2).getD default).length:Int)else(((look (LK v f) d.1).getD default).length:Int))))).all id))=false;rw[l];rfl
 rw[c1,c2,n];have g:((Z (pr v (qY f k w))).getD default).length<=100000:=zl g ();have i:((Z (pr v (mZ f w))).getD default).length<=100000:=zl i ();refine⟨⟨p1,λ_=>⟨⟨rfl,g⟩,λ_ _=>J⟩,λ_=>⟨⟨⟨rfl,i⟩,λc e=>(tO V (IK f w) e).1⟩,⟨?_,λ_ _=>J⟩,λ_=>⟨⟨rfl,g⟩,λc e=>tO V (S7 f k w) e⟩⟩⟩,?_⟩
 ·rw[da];exact zl (ZN _ _) i
 ·rfl
theorem xP{v:Y aX}(V:Vk v)(f:AJ)(w:Int):dW v f w/\cL v f w=true:=by
 obtain⟨j,i⟩:=fQ V.nd V.ln (Ot f w);obtain⟨b1,b2⟩:=fQ V.nd V.ln (Wk f 1 w);obtain⟨c1,c2⟩:=fQ V.nd V.ln (Wk f 12 w);have p:=V.ln;have r:=Ab V.ln (mZ f w);obtain⟨d,g⟩:=Ad (step:=λ(a:(S (Y (AJ×AJ)))) (b:Int)=>((bA v f w (LK v f) (Z (pr v (mZ f w))) a b):nM ((S (Y (AJ×AJ)))) Bool)) (P:=λ(a:(S (Y (AJ×AJ)))) (b:Int)=>Z (cH v f w (LK v f) (Z (pr v (mZ f w))) a b))
  (λk=>Z (pr v (qY f ((max 1 (k.toNat-1):Nat):Int) w))) 5 1 λk s o=>by
   have:=Ke V f w (m:=max 1 (k.toNat-1)) (k:=k.toNat) ();rw[kX ()]at this;rw[show max 1 ((k+1).toNat-1)=k.toNat by omega,kX ()];exact this
 have l:pr v (qY f 12 w)=((pr v (mZ f w)).filter λe:AJ×AJ=>(decide ((((look (LK v f) e.1).getD default).length:Int)=12))).map λe:AJ×AJ=>e:=by
  rw[da];refine CK λq h=>?_;rw[show aK (qY f 12 w) q.1 q.2=_ from fJ f 12 w _ _,show aK (mZ f w) q.1 q.2=_ from dX f w _ _,IZ V (wC h).1 (wC h).2 f,(Iz V f (wC h).1).2]
 unfold dW cL;dsimp only;rw[show aF v (Dt.tup [(Dt.str "same"),(eS f),(eI w)])=_ from i,show aF v (Dt.tup [(Dt.str "begin"),(eS f),(Dt.int 1),(eI w)])=_ from b2,show aF v (Dt.tup [(Dt.str "begin"),(eS f),(Dt.int 12),(eI w)])=_ from c2];have d:jl (λ(a:(S (Y (AJ×AJ)))) (b:Int)=>((bA v f w (LK v f) (Z (pr v (mZ f w))) a b):nM ((S (Y (AJ×AJ)))) Bool)) (rng 1 ((6:Int)-1).toNat) (Z (pr v (qY f 1 w)))=_:=d;have g:nA (λ(a:(S (Y (AJ×AJ)))) (b:Int)=>((bA v f w (LK v f) (Z (pr v (mZ f w))) a b):nM ((S (Y (AJ×AJ)))) Bool)) (λ(a:(S (Y (AJ×AJ)))) (b:Int)=>Z (cH v f w (LK v f) (Z (pr v (mZ f w))) a b)) (rng 1 ((6:Int)-1).toNat) (Z (pr v (qY f 1 w))):=g;constructor
 ·refine⟨⟨⟨by omega,λx _=>(gU x f).1⟩,by rw[zd];omega⟩,j,b1,⟨⟨uO () (),uO () ()⟩,g⟩,?_⟩;rw[d];exact⟨c1,⟨rfl,by show(pr v (mZ f w)).length<=_;omega⟩,λc n=>(tO V (IK f w) n).1⟩
 ·rw[d];show decide (Z (pr v (qY f 12 w))=Z _)=true;rw[l];exact z4 rfl
open S1 S6
theorem Wn{v:Y aX}(V:Vk v)(f g:AJ)(w:Int):pr v (Mr f g w)=((pr v (mZ f w)).filter λc:AJ×AJ=>(j4 c (pr v (mZ g w)))).map λc:AJ×AJ=>c:=by
 rw[da];refine CK λq d=>?_;rw[show aK (Mr f g w) q.1 q.2=_ from lN f g w _ _,show aK (mZ f w) q.1 q.2=_ from dX f w _ _];refine D0 (f:=λa b=>a&&b) J ?_;rw[QR,uN,Ft V.nd d,show aK (mZ g w) q.1 q.2=_ from dX g w _ _]
theorem IV{v:Y aX}{a:Dt}(h:∀x y,aK r x y=aK a x y):pr v r=pr v a:=by
 unfold pr;exact congrArg (bg _) (JI λq _=>h _ _)
theorem Ou(v:Y aX)(f g:AJ)(w:Int):pr v (Mr g f 1)=pr v (Mr f g w):=IV λx y=>by
 rw[show aK (Mr g f 1) x y=_ from lN g f 1 x y,show aK (Mr f g w) x y=_ from lN f g w x y,ke]
theorem S8(v:Y aX)(f:AJ)(w:Int):pr v (mZ f 1)=pr v (mZ f w):=IV λx y=>by
 rw[show aK (mZ f 1) x y=_ from dX f 1 x y,show aK (mZ f w) x y=_ from dX f w x y]
def pp:At->Y (AJ×AJ)
 |[]=>[]
 |x::xs=>xs.map (λy=>(x,y))++pp xs
theorem Ms(z:AJ):∀L:At,(pp (L++[z])).Perm (pp L++L.map λy=>(y,z))
 |[]=>Kb _
 |x::xs=>by
  show((xs++[z]).map (λy=>(x,y))++pp (xs++[z])).Perm ((xs.map (λy=>(x,y))++pp xs)++((x,z)::xs.map λy=>(y,z)));rw[ZI,qa,qa];refine List.Perm.append_left _ ?_;show((x,z)::pp (xs++[z])).Perm _;exact((Ms z xs).cons _).trans List.perm_middle.symm
theorem S9(n:Nat):rng 0 (n+1)=rng 0 n++[(n:Int)]:=by
 unfold rng;rw[List.range_succ,ZI];simp
theorem IW(L:At):∀n:Nat,n<=L.length->(rng 0 n).map (As L)=L.take n
 |0,_=>by simp[rng]
 |n+1,h=>by
  rw[S9,ZI,IW L n (),List.map_singleton,vP L n (),kq ()]
theorem MB(L:At)(d:L.length<=40):vN (λ(b:(Y (AJ×AJ))) (a:Int)=>(bJ L b a)) (λ(b:(Y (AJ×AJ))) (a:Int)=>Z (eN L b a)) (rng 0 (L.length:Int).toNat) [] ∧
  ((rng 0 (L.length:Int).toNat).foldl (λ(b:(Y (AJ×AJ))) (a:Int)=>(bJ L b a)) []).Perm (pp L)/\((rng 0 (L.length:Int).toNat).foldl (λ(b:(Y (AJ×AJ))) (a:Int)=>(bJ L b a)) []).length<=1600:=by
 rw[JJ];have lp:=nC (P:=λf k=>Z (eN L f k)) (step:=λf k=>bJ L f k) (λk (s:Y (AJ×AJ))=>s.Perm (pp (L.take k))/\s.length<=k*40) L.length [] ⟨by rw[List.take_zero];exact Kb _,by simp⟩ λk s hk h=>by
  obtain⟨h1,h2⟩:=h;have e:(rng 0 (k:Int).toNat).map (λg:Int=>((As L g),(As L (k:Int))))=(L.take k).map λy=>(y,L[k]):=by
   rw[JJ,<-IW L k (),ZE,vP L k hk];rfl
  have c:((L.take k).map λy=>(y,L[k])).length<=40:=by rw[zd,qo];omega
  have i:s.length<=1600:=by have:k*40<=40*40:=dS 40 ();omega
  refine⟨⟨⟨⟨uO () (),by rw[j5];omega⟩,λl c=>?_⟩,?_⟩,?_,?_⟩
  ·have:=Lq c;exact⟨B6 this.1 (),B6 () ()⟩
  ·rw[e];exact zl (show _<=2000 by omega) ()
  ·show(s++_).Perm _;rw[e,kq hk];exact(h1.append_right _).trans (Ms _ _).symm
  ·show(s++_).length<=_;rw[e,zC,k7];omega
 refine⟨lp.1,?_,?_⟩
 ·have:=lp.2.1;rwa [List.take_length]at this
 ·have:=lp.2.2;have h:L.length*40<=40*40:=dS 40 d;exact zl this h
theorem Af(p:aX->Bool):∀w:Y aX,BN (w.filter p)=(BN w).filter λq=>p q.1&&p q.2
 |[]=>rfl
 |x::xs=>by
  show BN (fm p (x::xs))=(xs.map (λy=>(x,y))++BN xs).filter _;rw[eK,<-Af p xs,kQ,jn];cases hx:p x with
  |true=>
   rw[zh rfl];show(xs.filter p).map (λy=>(x,y))++BN (xs.filter p)=_;refine D0 (f:=λa b=>a++b) (congrArg (bg _) (JI λy _=>?_)) rfl;show p y=(p x&&p y);rw[hx];rfl
  |false=>
   rw[zo ()];have:(xs.filter ((λq:PR=>p q.1&&p q.2) ∘ λy=>(x,y)))=[]:=dr.mpr λy _=>by
    show ¬ (p x&&p y)=true;rw[hx];simp
   rw[this];rfl
theorem Tc:∀w:Y aX,pp (w.map (·.1))=(BN w).map λq=>(q.1.1,q.2.1)
 |[]=>rfl
 |x::xs=>by
  show(xs.map (·.1)).map (λy=>(x.1,y))++pp (xs.map (·.1))=(xs.map (λy=>(x,y))++BN xs).map _;rw[Tc xs,ZI,ZE,ZE];rfl
theorem CN(x y:aX)(f:AJ):Xb x y f=(((fw x.2 f).isSome&&(fw y.2 f).isSome)&&!Ir x y f):=by
 unfold Xb Ir;cases fw x.2 f<;>cases fw y.2 f<;>simp
theorem Ov(x y:aX)(f:AJ):Ir x y f=(((fw x.2 f).isSome&&(fw y.2 f).isSome)&&Ir x y f):=by
 cases e:Ir x y f with
 |false=>simp
 |true=>
  obtain⟨a,e1,e2⟩:=(pH x y f).mp e;rw[e1,e2];rfl
theorem Ow{v:Y aX}(V:Vk v)(f:AJ):wN ((v.filter λc:aX=>(bG c f).isSome).map λc:aX=>c.1)=((pN v).filter λx=>(fw x.2 f).isSome).map (·.1):=by
 rw[show(v.filter λc:aX=>(bG c f).isSome)=v.filter λx=>(fw x.2 f).isSome from JI λx _=>by rw[(gU x f).2]];have h1:(pN v).Pairwise λa b:aX=>Ag a.1 b.1:=kn (R:=λa b:aX=>Vo a.1 b.1=true) (λh=>((CF _ _).mp h).1) (Ma V.nd);have h2:(((pN v).filter λx=>(fw x.2 f).isSome).map (·.1)).Pairwise Ag:=aw.mpr (List.Pairwise.sublist ez h1);exact(Dz ((((gW v).filter _).map _).trans (sH _).symm) h2 (yX _)).symm
theorem Kf{v:Y aX}(V:Vk v)(f:AJ)(w:Int):(pp (((pN v).filter λx=>(fw x.2 f).isSome).map (·.1))).Perm (pr v (mZ f w)++pr v (OJ f)):=by
 rw[Tc,Af];have h:=(dc (λq:PR=>Ir q.1 q.2 f) ((BN (pN v)).filter λq=>(fw q.1.2 f).isSome&&(fw q.2.2 f).isSome)).symm.map λq=>(q.1.1,q.2.1);rw[ZI,qB,qB]at h;refine h.trans (List.Perm.of_eq ?_);unfold pr;refine D0 (f:=λa b=>a++b) (congrArg (bg _) (JI λq _=>?_)) (congrArg (bg _) (JI λq _=>?_))
 ·rw[show aK (mZ f w) q.1 q.2=_ from dX f w _ _,ke];exact(Ov _ _ f).symm
 ·rw[show aK (OJ f) q.1 q.2=_ from mJ f _ _,ke];exact(CN _ _ f).symm
theorem Bj{v:Y aX}(V:Vk v)(f g:AJ)(w:Int):fu v f g w/\dM v f g w=true:=by
 obtain⟨n,d⟩:=fQ V.nd V.ln (Ot f w);obtain⟨t1,t2⟩:=fQ V.nd V.ln (Ot g w);obtain⟨b1,b2⟩:=fQ V.nd V.ln (je f g w);obtain⟨c1,c2⟩:=fQ V.nd V.ln (je g f 1);obtain⟨k,m⟩:=fQ V.nd V.ln (F8 f);have l:=V.ln;have p:=Ab V.ln (mZ f w);have e:=Ab V.ln (OJ f);have i:=Ow V f;have t:(((pN v).filter λx=>(fw x.2 f).isSome).map (·.1)).length<=40:=by
  rw[zd];exact zl (ZN _ _) (by rw[(gW v).length_eq];exact l)
 obtain⟨g1,g2,g3⟩:=MB _ t;have j:=g2.trans (Kf V f w);have b:(!decide ((Z (pr v (Mr f g w)))=(Z (((pr v (mZ f w)).filter λa:AJ×AJ=>(j4 a (pr v (mZ g w)))).map λa:AJ×AJ=>a))))=false:=by
  rw[<-Wn V f g w,z4 rfl];rfl
 have d2:(!decide ((Z (pr v (Mr g f 1)))=(Z (pr v (Mr f g w)))))=false:=by
  rw[Ou v f g w,z4 rfl];rfl
 have no:(((pr v (OJ f)).map λa:AJ×AJ=>(j4 a (pr v (mZ f w)))).any id)=false:=by
  rw[eF,e8];intro c s;obtain⟨q,q1,q2,rfl⟩:=Iw s;show ¬ j4 _ _=true;rw[uN,Ft V.nd q1,show aK (mZ f w) q.1 q.2=_ from dX f w _ _];rw[show aK (OJ f) q.1 q.2=_ from mJ f _ _,CN]at q2;intro h;rw[h]at q2;simp at q2
 unfold fu dM;dsimp only;rw[show aF v (Dt.tup [(Dt.str "same"),(eS f),(eI w)])=_ from d,show aF v (Dt.tup [(Dt.str "same"),(eS g),(eI w)])=_ from t2,show aF v (Dt.tup [(Dt.str "both"),(eS f),(eS g),(eI w)])=_ from b2,show aF v (Dt.tup [(Dt.str "both"),(eS g),(eS f),(Dt.int 1)])=_ from c2,show aF v (Dt.tup [(Dt.str "never"),(eS f)])=_ from m,i];have b:(!decide ((Z (pr v (Mr f g w)))=(Z ((((Z (pr v (mZ f w))).getD default).filter λa:AJ×AJ=>(j4 a ((Z (pr v (mZ g w))).getD default))).map λa:AJ×AJ=>a))))=false:=b;rw[b,d2];have o:fZ (yg eS eS) ((rng 0 ((((pN v).filter λx=>(fw x.2 f).isSome).map (·.1)).length:Int).toNat).foldl (λ(u:(Y (AJ×AJ))) (r:Int)=>(bJ (((pN v).filter λx=>(fw x.2 f).isSome).map (·.1)) u r)) [])=fZ (yg eS eS) (((Z (pr v (mZ f w))).getD default)++((Z (pr v (OJ f))).getD [])):=mY j;have z:((Z (pr v (mZ f w))).getD default).length<=1600:=p;have y:((Z (pr v (OJ f))).getD []).length<=1600:=e;constructor
 ·refine⟨⟨n,t1⟩,b1,⟨⟨⟨rfl,by omega⟩,λ_ _=>J⟩,λ_=>c1⟩,λ_=>⟨⟨⟨by omega,λx _=>(gU x f).1⟩,?_⟩,⟨uO () (),g1⟩,k,⟨zl g3 (),⟨⟨rfl,rfl⟩,zl (show _<=4000 by omega) ()⟩,by rw[zC];omega⟩,λ_=>⟨⟨rfl,by omega⟩,λ_ _=>J⟩⟩⟩;rw[zd];exact bS (ZN _ _) ()
 ·rw[show(false||false)=false from rfl,zo ()];rw[o,z4 rfl];show(true&&!(((pr v (OJ f)).map λa:AJ×AJ=>(j4 a (pr v (mZ f w)))).any id))=true;rw[no];rfl
open S1 S6
theorem Td(xs:Y α)(lo hi:S Int):(BF xs lo hi).Sublist xs:=(Kn _ _).trans (eW _ _)
theorem xq{v a:Y aX}(b:(v.map (·.1)).Nodup)(p:v.Perm a)(R:Y Dt):aD v R=aD a R:=by
 rw[kE,kE];unfold Oo;rw[Hk b p]
abbrev R4(f g:AJ)(w:Int)(n:Nat):Y Dt:=[mZ f w,qY g n 2,OJ g,Mr f g 3]
theorem Mt{f g:AJ}{w:Int}:∀r∈R4 f g w n,Rl r:=λr h=>by
 simp only[KG,kB,or_false]at h;rcases h with rfl|rfl|rfl|rfl
 ·exact Ot _ _
 ·exact Wk _ _ _
 ·exact F8 _
 ·exact je _ _ _
theorem IQ{f g:AJ}{w:Int}(x y:aX):∀r∈R4 f g w n,aK r x y=aK r y x:=λr h=>by
 simp only[KG,kB,or_false]at h;rcases h with rfl|rfl|rfl|rfl
 ·rw[show aK (mZ f w) x y=_ from dX f w x y,show aK (mZ f w) y x=_ from dX f w y x,Ae]
 ·rw[show aK (qY g n 2) x y=_ from fJ g n 2 x y,show aK (qY g n 2) y x=_ from fJ g n 2 y x,SX]
 ·rw[show aK (OJ g) x y=_ from mJ g x y,show aK (OJ g) y x=_ from mJ g y x,S5]
 ·rw[show aK (Mr f g 3) x y=_ from lN f g 3 x y,show aK (Mr f g 3) y x=_ from lN f g 3 y x,Ae x y f,Ae x y g]
abbrev V4(f g:AJ)(w:Int)(n:Nat):(AJ×AJ×Int)×(AJ×AJ×Int×Int)×(AJ×AJ)×(AJ×AJ×AJ×Int):=((("same":AJ),f,w),(("begin":AJ),g,(n:Int),(2:Int)),(("never":AJ),g),(("both":AJ),f,g,(3:Int)))
theorem Ja{v:Y aX}(V:Vk v)(h1:1<=v.length)(f g:AJ)(w:Int)(n:Nat)(k:Int)(hk:k∈rng 0 (kN 4)):
  qD v (V4 f g w n) (aD v (R4 f g w n)).2.1 (aD v (R4 f g w n)).2.2 gd k/\jj v (V4 f g w n) (aD v (R4 f g w n)).2.1 (aD v (R4 f g w n)).2.2 gd k=.nx gd:=by
 have hk:=Lq hk;rw[show kN 4=4 from Rj 4]at hk;obtain⟨j,rfl⟩:∃j:Nat,k=(j:Int):=⟨k.toNat,by omega⟩;have d:j<(R4 f g w n).length:=by show j<4;omega
 have t:(R4 f g w n)[j]?=Z (R4 f g w n)[j]:=z5 d;have e:As (R4 f g w n) (j:Int)=(R4 f g w n)[j]:=vP _ _ d;have c:(R4 f g w n)[j]∈R4 f g w n:=kC d;generalize y:(R4 f g w n)[j]=r at *
 obtain⟨p1,p2⟩:=fQ V.nd V.ln (Mt r c);obtain⟨p,s⟩:=Xl V.ln (R:=R4 f g w n) (by show 4<=20;decide);have m:=CJ (v:=v) t;generalize aD v (R4 f g w n)=G at *
 obtain⟨N,h,i⟩:=G;dsimp only at p s m ⊢;have a1:=ZN (λa:Int×AJ×AJ×Int=>(decide (a.2.2.2=(j:Int)))) h;have a2:=ZN (λb:AJ×AJ×Int=>(decide (b.2.2=(j:Int)))) i;have e1:fZ (yg eS eS) (((h.filter λa:Int×AJ×AJ×Int=>(decide (a.2.2.2=(j:Int)))).map λa:Int×AJ×AJ×Int=>(a.2.1,a.2.2.1))++((i.filter λb:AJ×AJ×Int=>(decide (b.2.2=(j:Int)))).map λb:AJ×AJ×Int=>(b.1,b.2.1)))=pr v r:=(mY m).trans (Mj V.nd r);have e:As [dG (V4 f g w n).1,ig (V4 f g w n).2.1,aR (V4 f g w n).2.2.1,iu (V4 f g w n).2.2.2] (j:Int)=r:=e;have l:In [dG (V4 f g w n).1,ig (V4 f g w n).2.1,aR (V4 f g w n).2.2.1,iu (V4 f g w n).2.2.2].length (j:Int):=ZS d;have u:=V.ln;have e2:(!decide ((Z (fZ (yg eS eS) (((h.filter λa:Int×AJ×AJ×Int=>(decide (a.2.2.2=(j:Int)))).map λa:Int×AJ×AJ×Int=>(a.2.1,a.2.2.1))++((i.filter λb:AJ×AJ×Int=>(decide (b.2.2=(j:Int)))).map λb:AJ×AJ×Int=>(b.1,b.2.1)))))=(aF v r)))=false:=by
  rw[e1,p2,z4 rfl];rfl
 have e3:(!((v.map λo:aX=>(decide ((aK r (As v 0) o)=(aK r o (As v 0))))).all id))=false:=by
  rw[all_map λx _=>z4 (IQ _ _ r c)];rfl
 unfold qD jj;dsimp only;rw[e];have q:=Nat.add_le_add (zl a1 p) (zl a2 s);refine⟨⟨⟨⟨by omega,by omega⟩,by rw[zd,zd];exact zl q ()⟩,⟨by rw[zC,zd,zd];exact zl q (),l,p1⟩,λ_=>⟨by omega,λx _=>⟨⟨⟨l,B6 () ()⟩,Fp (Mt r c) _ _⟩,⟨l,B6 () ()⟩,Fp (Mt r c) _ _⟩⟩⟩,?_⟩;rw[e2,zo (),e3,zo ()]
theorem Te:∀a:Y Int,a.length<=63->Io a/\Im a=true:=λa C=>by
 obtain⟨b1,b2,M,N⟩:=Wc a 14 () () C;have V:Vk (dU a 14):=⟨b2.nd,by omega,λx hx q B=>(b2.fd x hx).2 q B⟩;obtain⟨L,y,A⟩:=Fj (bM a 16) 5 () ();have y:(bC (bM a 16) 5).length=5:=y;generalize eB:dU a 14=v at *
 generalize I:bC (bM a 16) 5=xs at *
 have hx:∀i:Int,0<=i->i<5->0<=As xs i:=λi o h1=>A _ (vO (B6 o ()));have hi:∀i:Int,0<=i->i<5->In xs.length i:=λi o h1=>B6 o ();generalize D:As [("day":AJ),("name":AJ),("names":AJ),("p":AJ),("zzz":AJ)] (As xs 0%5)=f;generalize F:As [("day":AJ),("name":AJ),("names":AJ),("p":AJ),("zzz":AJ)] ((As xs 0+1+As xs 1%4)%5)=g;generalize G:1+As xs 2%1000=w;obtain⟨n,H⟩:∃n:Nat,1+As xs 3%4=(n:Int):=⟨(1+As xs 3%4).toNat,by have:=rM (As xs 3) (m:=4) ();omega⟩;have W:=V.sub (Td v O (Z 11));have j:1<=(BF v O (Z 11)).length:=by
  unfold BF;rw[show(11:Int)=((11:Nat):Int) from rfl,HT.CQ,HT.yF,qo,kb];omega
 obtain⟨p1,p2⟩:=xP V f w;obtain⟨q1,q2⟩:=Bj V f g w;obtain⟨z,b⟩:=fQ V.nd V.ln (Ot f 1);obtain⟨t1,t2⟩:=fQ V.nd V.ln (Ot f w);have l:∀{u:Y aX},Vk u->dJ u (R4 f g w n):=λU=>Iu U.nd U.ln (by show 4<=20;decide) Mt;generalize K:BF v O (Z 11)=u at *
 obtain⟨d,E⟩:=Hu (step:=λ(b:Unit) (c:Int)=>((jj u (V4 f g w n) (aD u (R4 f g w n)).2.1 (aD u (R4 f g w n)).2.2 b c):nM (Unit) Bool)) (P:=λ(b:Unit) (c:Int)=>Z (qD u (V4 f g w n) (aD u (R4 f g w n)).2.1 (aD u (R4 f g w n)).2.2 b c)) (rng 0 (kN 4)) λk hk=>⟨(Ja W j f g w n k hk).1,.inl (Ja W j f g w n k hk).2⟩;have r:u.reverse.Perm u:=ck u;have c1:BF u (Z 1) O=u.drop 1:=Hv (k:=1) j;have c2:BF u O (Z 1)=u.take 1:=ZV (k:=1) j;have e:((BF u (Z 1) O)++(BF u O (Z 1))).Perm u:=by
  rw[c1,c2];exact dA.trans (List.Perm.of_eq (qr 1 u))
 have h:∀{s:Y aX},s.Perm u->Vk s:=λp=>⟨(p.map _).nodup_iff.mpr W.nd,by rw[p.length_eq];exact W.ln,λx hx=>W.wd x (p.mem_iff.mp hx)⟩;have g1:aD u.reverse (R4 f g w n)=aD u (R4 f g w n):=xq (h r).nd r _;have g2:aD ((BF u (Z 1) O)++(BF u O (Z 1))) (R4 f g w n)=aD u (R4 f g w n):=xq (h e).nd e _;have t:Av ((BF u (Z 1) O).length+(BF u O (Z 1)).length):=by
  have:=e.length_eq;rw[zC]at this;have:=W.ln;exact zl (show _<=40 by omega) ()
 have sp:(!decide ((aF v (Dt.tup [(Dt.str "same"),(eS f),(Dt.int 1)]))=(aF v (Dt.tup [(Dt.str "same"),(eS f),(eI w)]))))=false:=by
  rw[show aF v (Dt.tup [(Dt.str "same"),(eS f),(Dt.int 1)])=_ from b,show aF v (Dt.tup [(Dt.str "same"),(eS f),(eI w)])=_ from t2,S8 v f w,z4 rfl];rfl
 unfold Io Im;dsimp only;rw[eB,I,D,F,G,H,p2,q2,sp,K];constructor
 ·refine⟨b1,⟨J8 a 16 () (),L⟩,⟨⟨hi 0 () (),qw () ()⟩,⟨hi 0 () (),hi 1 () ()⟩,qw () ()⟩,hi 2 () (),⟨p1,λ_=>q1⟩,λ_=>⟨⟨z,t1⟩,λ_=>⟨hi 3 () (),l W,E,?_⟩⟩⟩;have d:jl (λ(b:Unit) (c:Int)=>((jj u (V4 f g w n) (aD u (R4 f g w n)).2.1 (aD u (R4 f g w n)).2.2 b c):nM (Unit) Bool)) (rng 0 (kN 4)) gd=_:=d;rw[d];exact⟨⟨l (h r),t,l (h e)⟩,λ_=>⟨t,l (h e)⟩⟩
 ·rw[show((!true)||(!true))=false from rfl,zo (),zo ()];have d:jl (λ(b:Unit) (c:Int)=>((jj u (V4 f g w n) (aD u (R4 f g w n)).2.1 (aD u (R4 f g w n)).2.2 b c):nM (Unit) Bool)) (rng 0 (kN 4)) gd=_:=d;rw[d];show(decide (aD u.reverse (R4 f g w n)=aD ((BF u (Z 1) O)++(BF u O (Z 1))) (R4 f g w n))&&decide (aD ((BF u (Z 1) O)++(BF u O (Z 1))) (R4 f g w n)=aD u (R4 f g w n)))=true;rw[g1,g2,z4 rfl];rfl
theorem H1:∀a:Y Int,a.length<=63->F_law [.z (.lst (a.map .int))]=Z (.z (.bl true)):=(Xa Te).1
theorem H2:∀a:Y Int,a.length<=63->F_law [.l (a.map .int)]=Z (.z (.bl true)):=(Xa Te).2
end G76
end
open PySem PySem.W PyProof.Rows
namespace PySem.W.Fast
end PySem.W.Fast
set_option maxRecDepth 100000 in
set_option maxHeartbeats 0 in
theorem PySem.Challenge.cw_onefolk_k76_whole_rules_and_rules_holds : PySem.Challenge.rw_onefolk_k76_whole_rules_and_rules.Holds := by
 w_on;refine PySem.W.holds_law (by decide +kernel) λsaid=>?_
 k_head;(case hw=>w_witness2)
 k_fill
 refine P1.DF (l:=PySem.Challenge.rw_onefolk_k76_whole_rules_and_rules) (T:=G76.T) (k:=8) (x := "_law_script") (st:=G76.s_law) (F_law:=G76.F_law) (λt=>t.x_law) ⟨rfl,by decide,by decide⟩ rfl (λw mg base t=>G76.Cs t) rfl rfl G76.H1 G76.H2 (λ_ _ _ _ _ _ _=>rfl) (λw h Y=>PySem.W.km_in_of Y) (λw h _ _ _ _ X T=>⟨_,P1.CL (by kernel_rfl) X T⟩) ?F
 case F=>
  intro w mg h KX G
  refine' ⟨P1.oG KX G _ _ _ _,P1.oG KX G _ _ _ _,P1.oG KX G _ _ _ _,P1.oG KX G _ _ _ _,P1.oG KX G _ _ _ _,P1.oG KX G _ _ _ _,P1.oG KX G _ _ _ _,P1.oG KX G _ _ _ _,P1.oG KX G _ _ _ _,P1.oG KX G _ _ _ _,P1.oG KX G _ _ _ _,P1.oG KX G _ _ _ _,P1.oG KX G _ _ _ _,P1.oG KX G _ _ _ _,P1.oG KX G _ _ _ _,P1.oG KX G _ _ _ _,P1.oG KX G _ _ _ _,P1.oG KX G _ _ _ _,P1.oG KX G _ _ _ _,qi KX G _,qi KX G _,qi KX G _,qi KX G _,qi KX G _,qi KX G _,qi KX G _,qi KX G _,qi KX G _,qi KX G _,qi KX G _,_⟩
  all_goals try (show _=_;k_is)
  all_goals try kernel_rfl
