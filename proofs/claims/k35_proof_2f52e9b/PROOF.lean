import PyProof.Rows.All
import Wide.All
import OpenK.AllK
import Wide.FinOn
import Lean
import PySem.Challenge.RW_onefolk_k35_views_told
open List renaming mem_cons_self->ze,mem_cons_of_mem->zg,size_toArray->zi,length_map->zk,map_cons->zo,mem_append_right->zz,getElem?_map->Zl,getElem?_append_left->Zs,mem_map_of_mem->ZU,map_congr_left->ZY,getElem?_eq_getElem->Z3,length_append->qa,length_cons->qc,getElem?_append_right->qo,not_mem_nil->qv,all_eq_true->qA,getElem?_replicate->Qb,map_append->QE,length_drop->QN,zip_cons_cons->QO,getD_eq_getElem?_getD->QP,getElem?_toArray->QQ,rel_of_pairwise_cons->QR,mem_cons->Q4,filterMap_cons->ja,foldl_cons->js,all_cons->jv,lookup_cons_self->jI,reverse_cons->j0,flatMap_cons->j3,map_map->JI,lookup_cons->JO,length_set->JS,find?_cons->JU,append_nil->JY,pairwise_mergeSort->kf,getElem?_set->kn,take_succ_eq_append_getElem->ko,length_take->kq,filter_cons->ku,nil_append->kD,mergeSort_perm->kF,map_nil->kH,mapM_toArray->kR,map_reverse->k4,getElem_map->k5,cons_append->k6,replicate->aa,getElem?_eq_some_iff->ad,mem_map->ae,mem_singleton->af,nodup_cons->ag,pairwise_cons->ah,mem_append->ai,range->am,mem_filter->ap,mem_range->ar,length->aw,length_pos_iff->ax,pairwise_map->az,contains_iff_mem->aE,getElem?_set_ne->aI,mem_of_getElem?->aT,eq_nil_of_length_eq_zero->ba,length_reverse->bb,filter_sublist->be,mem_filterMap->bi,any_cons->bj,append_assoc->bp,drop_eq_getElem_cons->bq,pairwise_iff_getElem->bu,getElem_inj->bv,zipIdx_cons->bE,countP_cons->bP,take_length->bU,of_mem_zip->ca,forIn_cons->ce,length_nil->cf,getElem?_set_self->ck,drop_eq_nil_of_le->cm,length_singleton->cw,nodup_nil->cx,countP_mono_left->cz,mem_append_left->cE,getElem?_range->dc,replicate_succ->dd,filterMap_map->di,take_sublist->dv,filter_congr->dz,ext_getElem->dD,le_antisymm->dE,all_toArray->dS,map_fst_zip->dV,cons_ne_nil->ef,any_eq_true->eg,mem_reverse->eh
open PySem.Heap renaming get?_push_of_some->zh,lt_size->zt,get?_push_size->zw,size_push->JE,get?_update_ne->de,get?_push_ne->dy,size_update->dQ
open Nat renaming le_refl->zl,le_of_ble_eq_true->zC,le_trans->zD,lt_of_lt_of_le->zS,ne_of_lt->z4,zero_le->qs,le_of_lt->Q1,lt_irrefl->Q3,lt_succ_of_lt->km,le_succ->kP,succ_le_succ->k3,ne_of_gt->aS,zero_add->bz,not_lt->cK,min_self->dm,succ_mul->dq,lt_of_le_of_lt->dr
open Bool renaming false_eq_true->zv,false_ne_true->z5,and_eq_true->ZA,not_eq_true'->Q2,not_false->ki,not_true->ky,and_true->kz,eq_iff_iff->cb,or_eq_true->cc,decide_and->ci,false_and->cr,and_false->cy,false_or->db
open Or renaming inr->ZO,inl->Qr
open Array renaming size_append->Jn,length_toList->kG,append_assoc->kK,perm_iff_toList_perm->al,toList_append->bc,toList_map->bS,getElem_toList->cS,toList->dg,toList_inj->dL
open Unit renaming unit->eu
local macro_rules|`(())=>`(by first|omega|decide)
open Option renaming map_some->kC,isSome_iff_exists->ay,isNone_iff_eq_none->br,map_eq_some_iff->cq,isSome_some->dl,getD_none->dC,bind_some->dP
open PySem.SetTable renaming leap->av,bits->bn,runEnd->ei
open Prod renaming ext->bg,mk->du
open Int renaming toNat_natCast->bo,zero_add->bX,toNat_of_nonneg->df,emod_lt_of_pos->dt,le_refl->dA
open Option renaming some->U,none->Z
abbrev O:=List
abbrev Y:=Option
theorem S{α:Sort u}{a:α}:a=a:=rfl
open PySem renaming Value->A0,Addr->A1,Shared->A2,Program->A3,World->A4,Around->A5,Heap->A6,wpAny->A7,model->A8,starEach->A9,sizeLine->AA,Stmt->AB,Keyword->AC,backTo->AD,Obj->AE,codeAny->AF,compareOp->AG,bootBuiltins->AH,Paired->AI,Str->AJ
abbrev ej(x:AJ):=(x==("__debug__":AJ))=false
open PyProof.Rows renaming envOfC->AK,wpS_bind->AL,arrOf->AM
open PySem.W (methodObj keepIn callWith_K cellsFrom_some fnOf codeIn nsIn mg_of kla_obj envX kla_fn)
set_option maxRecDepth 100000
set_option maxHeartbeats 4000000
set_option linter.all false
set_option Elab.async false
open PySem PySem.Spec PyProof.Rows
variable{w:A4}{i:Nat}{x:AJ}{a:A1}{prog:A3}{us:O A0}{u:A0}{κ:Type}{h:A6}{items:Array A0}{P:A3}{α β:Type}{k:Nat}{e:Expr}{n:Nat}{mg:AJ->Y A0}{base:A6}{l:A1}{env:Env}{m:Nat}{AN:O (A1×AE)}{s:A2}{it:A1}{j:Nat}{M:Model}{A:A5}{v:A0}{hi:Y Int}{D:O (AJ×A1)}{es:O Expr}{st:AB}{pos:Pos}{y:AJ}{c tg:Expr}{fp:O A1}{tn:Nat->A6->Prop}{iter:Expr}{lo:Y Int}{body:O AB}{C:A1}{op:CmpOp}{AQ:O A0}{name:AJ}{tpos:Pos}{fd:FuncData}{apos:Pos}{qual:AJ}{scope:Scope}{params:Arguments}{pm:A0}{osl:Array (Y A0)}{p2 cpos:Pos}{XP:(AJ->Y A0)->A6->Prop}{YP:A4->A6->Prop}{cl:O (AJ×A1)}{is:O Nat}{ifs:O Expr}{elt tgt:Expr}{el:A1->Env->Sem Unit}{RR:A0->A1->Result->A2->Prop}{elts:O Expr}{x1:Nat}{γ δ:Type}{os:OsState}{bmB:O A0}{newId initId:String}
abbrev AZ:=O PySem.Str
abbrev BE:=PySem.Value->PySem.Shared->Prop
abbrev B4:=PySem.W.Frag
abbrev At:=O Int
abbrev zb:=@wpAny_bind
abbrev zd:=@wpAny_pure
abbrev zr:=@if_pos
abbrev zI:=@if_neg
abbrev Zp:=@decide_eq_false
abbrev ZE:=@wpAny_holding
abbrev ZH:=@if_false
abbrev ZI:=@wpAny_mono
abbrev ZN:=@PySem.W.mg_none_of
abbrev ZT:=@if_true
abbrev ZZ:=@wpAny_tryCatch
abbrev qf:=@wpAny_truthy_bool
abbrev qh:=@wpAny_newObj_type
abbrev qi:=@PySem.F.plain_min_loop
abbrev qk:=@PySem.F.plain_max_loop
abbrev qr:=@PySem.mem_of_lookup
abbrev qB:=@wpAny_Call_Name_kw
abbrev qS:=@decide_eq_true
abbrev qV:=@decide_eq_false_iff_not
abbrev QA:=@Option.some.inj
abbrev QI:=@wpAny_typeOf
abbrev QU:=@codeAny_builtin
abbrev QY:=@List.cons.injEq
abbrev jb:=@Heap.SameBut.update
abbrev jn:=@decide_false
abbrev jS:=@wpAny_pyIter_list
abbrev JA:=@wpAny_rule
abbrev JJ:=@wpAny_call_entry
abbrev JP:=@wpAny_updateSeq
abbrev ka:=@wpAny_letGo
abbrev kc:=@wpAny_getItem_str_slice
abbrev ke:=@wpAny_callSpecial?_slot
abbrev kg:=@wpAny_seqItems
abbrev kl:=@decide_eq_true_eq
abbrev kA:=@decide_true
abbrev kB:=@wpAny_passesOwn
abbrev kM:=@wpAny_field
abbrev kQ:=@wpAny_sequenceKey
abbrev kT:=@wpAny_standAt
abbrev kU:=@wpAny_newList
abbrev kX:=@PySem.F.args_tuple_add_2
abbrev k7:=@PySem.F.plainAttrs_list
abbrev k8:=@PySem.F.entry_tuple_add
variable{ps:AZ}{K:B4}{N:AZ}{E Q:BE}{ts ws:AZ}
namespace L2
abbrev AY:=Sum Int AJ
def dJ:AY->A0->Bool
 |.inl k,v=>Value.isInt k v
 |.inr x,v=>Value.isStrOf x v
def IL(w:A4):AY->Int
 |.inl k=>hashInt k
 |.inr x=>hashStr w x
theorem aY:∀{k:AY} {v:A0},dJ k v=true->(∃i t,k=Sum.inl i/\v=Value.int i t)\/(∃x t,k=Sum.inr x/\v=Value.str x t)
 |.inl i,v,h=>by
  obtain⟨t,e⟩:=Value.isInt_shape (k:=i) (v:=v) h;exact .inl ⟨i,t,rfl,e⟩
 |.inr x,v,h=>by
  obtain⟨t,e⟩:=Value.isStrOf_shape (x:=x) (v:=v) h;exact .inr ⟨x,t,rfl,e⟩
theorem Ou(i:Int)(t:Tok):dJ (.inl i) (.int i t)=true:=by simp[dJ,Value.isInt]
theorem Ov(x:AJ)(t:Tok):dJ (.inr x) (.str x t)=true:=by simp[dJ,Value.isStrOf]
theorem X6(a b:Int):decide ((Sum.inl a:AY)=Sum.inl b)=(a==b):=by
 by_cases e:a=b
 ·subst e;simp
 ·have h:¬ (Sum.inl a:AY)=Sum.inl b:=λq=>e (Sum.inl.inj q);rw[Zp h];exact(beq_eq_false_iff_ne.mpr e).symm
theorem X7(a b:AJ):decide ((Sum.inr a:AY)=Sum.inr b)=decide (a=b):=by
 by_cases e:a=b
 ·subst e;simp
 ·have h:¬ (Sum.inr a:AY)=Sum.inr b:=λq=>e (Sum.inr.inj q);rw[Zp h,Zp e]
theorem X8(a:Int)(b:AJ):decide ((Sum.inl a:AY)=Sum.inr b)=false:=Zp (λq=>nomatch q)
theorem Yb(a:AJ)(b:Int):decide ((Sum.inr a:AY)=Sum.inl b)=false:=Zp (λq=>nomatch q)
def iB(prog:A3)(w:A4):PySem.KeyKind prog w AY where
 is:=dJ
 hash:=IL w
 inj:=λv a b f d=>by
  rcases aY f with⟨i,t,rfl,rfl⟩|⟨x,t,rfl,rfl⟩
  ·rcases aY d with⟨j,u,rfl,e⟩|⟨y,u,rfl,e⟩
   ·injection e with e1 _;rw[e1]
   ·exact nomatch e
  ·rcases aY d with⟨j,u,rfl,e⟩|⟨y,u,rfl,e⟩
   ·exact nomatch e
   ·injection e with e1 _;rw[e1]
 byValue:=λk v h=>by
  rcases aY h with⟨i,t,rfl,rfl⟩|⟨x,t,rfl,rfl⟩<;>rfl
 pyHash:=λc h=>by
  rcases aY c with⟨i,t,rfl,rfl⟩|⟨x,t,rfl,rfl⟩
  ·exact wpAny_pyHash_int h
  ·exact wpAny_pyHash_str h
 eqBool:=λg c h=>by
  rcases aY g with⟨i,t,rfl,rfl⟩|⟨x,t,rfl,rfl⟩
  ·rcases aY c with⟨j,u,rfl,rfl⟩|⟨y,u,rfl,rfl⟩
   ·rw[X6]at h;exact wpAny_eqBool_int h
   ·rw[X8]at h;exact SeqAt.EqAt.int_str i t y u _ _ _ _ h
  ·rcases aY c with⟨j,u,rfl,rfl⟩|⟨y,u,rfl,rfl⟩
   ·rw[Yb]at h;exact SeqAt.EqAt.str_int x t j u _ _ _ _ h
   ·rw[X7]at h;exact wpAny_eqBool_str h
 «strs»:=λk x t v h=>by
  rcases aY h with⟨i,u,rfl,e⟩|⟨y,u,rfl,e⟩
  ·exact nomatch e
  ·injection e with e1 _;subst e1;cases v<;>rfl
theorem Ik(prog:A3)(w:A4)(i:Int)(t:Tok):(iB prog w).is (.inl i) (.int i t)=true:=Ou i t
theorem Il(prog:A3)(w:A4)(x:AJ)(t:Tok):(iB prog w).is (.inr x) (.str x t)=true:=Ov x t
end L2
namespace L2
inductive V where
 |non|bl (b:Bool)|int (i:Int)|str (x:Str)|byt (b:Array UInt8)|flt (b:UInt64)|ref (a:Addr)|ty (n:String)
 deriving DecidableEq
def As:V->A0->Prop
 |.non,u=>u=Value.none
 |.bl b,u=>u=Value.bool b
 |.int i,u=>∃t,u=Value.int i t
 |.str x,u=>∃t,u=Value.str x t
 |.byt b,u=>∃t,u=Value.bytes b t
 |.flt b,u=>∃t,u=Value.float b t
 |.ref a,u=>u=Value.ref a
 |.ty n,u=>u=Value.type n
abbrev AX:O V->O A0->Prop:=AI As
theorem AX.length{xs:O V}{us:O A0}(r:AX xs us):xs.length=us.length:=Paired.length r
theorem AX.get:∀{xs:O V} {us:O A0} {i:Nat} {x:V},AX xs us->xs[i]?=U x->∃u,us[i]?=U u/\As x u
 |_,_,_,_,.nil,e=>by simp at e
 |_,_,0,_,.cons r _,e=>by simp at e;subst e;exact⟨_,rfl,r⟩
 |_,_,i+1,x,.cons _ t,e=>by
  obtain⟨u,h1,h2⟩:=AX.get (i:=i) (x:=x) t (by simpa using e);exact⟨u,by simpa using h1,h2⟩
theorem AX.set{x:V}{u:A0}(r:As x u):∀{xs:O V} {us:O A0} (i:Nat),AX xs us->AX (xs.set i x) (us.set i u)
 |_,_,_,.nil=>.nil
 |_,_,0,.cons _ t=>.cons r t
 |_,_,i+1,.cons q t=>.cons q (AX.set r i t)
theorem AX.append:∀{xs ys:O V} {us ws:O A0},AX xs us->AX ys ws->AX (xs++ys) (us++ws)
 |_,_,_,_,.nil,s=>s
 |_,_,_,_,.cons r t,s=>.cons r (AX.append t s)
theorem AX.take:∀{xs:O V} {us:O A0} (n:Nat),AX xs us->AX (xs.take n) (us.take n)
 |_,_,0,_=>.nil
 |_,_,_+1,.nil=>.nil
 |_,_,n+1,.cons r t=>.cons r (AX.take n t)
theorem AX.drop:∀{xs:O V} {us:O A0} (n:Nat),AX xs us->AX (xs.drop n) (us.drop n)
 |_,_,0,r=>r
 |_,_,_+1,.nil=>.nil
 |_,_,n+1,.cons _ t=>AX.drop n t
def F3:Y V->Y A0->Prop
 |some v,U u=>As v u
 |none,Z=>True
 |_,_=>False
def KV:O (κ×V)->O (κ×A0)->Prop:=AI λ(p:κ×V) (q:κ×A0)=>p.1=q.1/\As p.2 q.2
def kV:AY->V
 |.inl i=>.int i
 |.inr x=>.str x
inductive HO where
 |lst (xs:List V)
 |tup (xs:List V)
 |dK (AO:List (AY×V))|dT (AO:List (List AY×V))
 |set (S:Int->Bool) (n:Nat)
 |ins (C dx:Addr) (fs:List (Str×V))
 |own (x:Addr)
 |xd (fs:List (Str×V))
 |met (f x:Addr)
 |rng (lo hi:Int)
 |qH (o:Obj) (u:HO)
 |Gm (ps:Array Value)
 |ext (φ:Heap->Prop)
abbrev Hp:=A1->Y HO
def B8(H:Hp)(a:A1)(o:HO):Hp:=λb=>if b=a then U o else H b
theorem aU{H:Hp}{o:HO}:B8 H a o a=U o:=by unfold B8;rw[zr rfl]
theorem aV{H:Hp}{b:A1}{o:HO}(h:b≠a):B8 H a o b=H b:=by unfold B8;rw[zI h]
def jT(h:A6)(a:A1)(items:Array A0):Prop:=∃o,h.get? a=U o/\o.cls=.type "tuple" ∧ (∃n,o.data=.seq items n)/\o.dict=Z
theorem jT.weak(x:jT h a items):IsTup h a items:=let ⟨o,e,c,d,_⟩:=x;⟨o,e,c,d⟩
theorem jT.new(h:A6)(items:Array A0):jT (h.push { cls:=.type "tuple",data:=.seq items }) h.objs.size items:=⟨_,zw _ rfl,rfl,⟨_,rfl⟩,rfl⟩
theorem yX{H:Hp}{b:A1}{o u:HO}(h:H a=U o)(h':H b=U u)(d:o≠u):a≠b:=by
 intro e;subst e;rw[h]at h';exact d (QA h')
theorem bO{H:Hp}{b:A1}{o:HO}(h:H a=U o)(h':H b=Z):a≠b:=by
 intro e;subst e;rw[h]at h';cases h'
def tq(ps:Array A0):AJ:=match ps[0]? with
 |some (Value.str q _)=>q
 |_ => ""
def tr(ps:Array A0):Array A0:=ps.extract 1 ps.size
def QC:AZ:=["most_word","longest_word","ground_of","least_for","nearest_pair"]
def Yc(K:B4)(P:A1)(q:AJ):Prop:=∃c o vs x t,K.lookup c=U o/\o.data=.fields vs/\vs[1]?=U (.str x t)/\x∈QC/\vs[11]?=U (.ref P)/\q=x++(".<locals>.<lambda>":AJ)
def LY(o:AE):Bool:=match o.data with
 |.fields vs=>match vs[1]? with
  |some (Value.str x _)=>!QC.contains x
  |_=>true
 |_=>true
def BT(K:B4)(H:Hp):Prop:=∀P q,Yc K P q->∃ps,H P=U (.Gm ps)/\tq ps=q/\0<ps.size
theorem BT.go{H H':Hp}(x:BT K H)(u:∀b ps,H b=U (.Gm ps)->∃a,H' b=U (.Gm (ps++a))):BT K H':=λP q k=>by
 obtain⟨ps,e,h,z⟩:=x P q k;obtain⟨a,e'⟩:=u P ps e;refine⟨_,e',?_,by rw[Jn];omega⟩;rw[<-h];unfold tq;rw[Array.getElem?_append_left z]
section
variable(P:A3)(w:A4)
def je(H:Hp)(h:A6)(a:A1):HO->Prop
 |.lst xs=>xs.length<=AA/\∃(AQ:O A0) (n:Nat),AX xs AQ/\h.get? a=U { cls:=.type "list",data:=.seq AQ.toArray n }
 |.tup xs=>xs.length<=AA/\∃AQ:O A0,AX xs AQ/\jT h a AQ.toArray
 |.dK AO=>AO.length<=AA/\(a==sysModules)=false/\∃vs,KV AO vs/\h.DictOf (iB P w) a vs
 |.dT AO=>AO.length<=AA/\(a==sysModules)=false/\∃xs:O (O AY×A1×A0),
   AI (λ(p:O AY×V) (q:O AY×A1×A0)=>p.1=q.1/\H q.2.1=U (.tup (p.1.map kV))/\As p.2 q.2.2) AO xs ∧
   ∃o es ep,h.get? a=U o/\o.ExactDict/\o.data=.dict es ep/\es.toList=xs.map (entryOfKey (tupleKind (iB P w)))/\(xs.map (·.1)).Nodup
 |.set S n=>h.SetOf (intKind P w) a S n
 |.ins C dx fs=>H dx=U (.own a)/\fs.length<=1000/\dx≠a/\h.get? a=U (PySem.W.instObj C dx) ∧
   ∃mA,h.Ns1 dx mA/\(∀f,F3 (fs.lookup f) (mA f))/\PySem.Within mA (fs.map (·.1))
 |.own _=>∃o,h.get? a=U o
 |.xd fs=>∃mA,h.Ns1 a mA/\∀f,F3 (fs.lookup f) (mA f)
 |.rng lo hi=>∃t u v,h.get? a=U { cls:=.type "range",data:=.fields #[.int lo t,.int hi u,.int 1 v] }
 |.qH o u=>h.get? a=U o/\je H h a u
 |.Gm ps=>∃d,h.get? a=U { cls:=.none,data:=.fields (tr ps++d) }/\TriplesOk (tr ps++d).toList ∧
   ∀pos g,codeAmong pos (tr ps++d).toList=U g->∃c e vs t,g=.ref c/\H c=U (.qH e (.ext λ_=>True))/\e.data=.fields vs/\vs[1]?=U (.str (tq ps) t)
 |.met f x=>h.get? a=U (methodObj (.ref f) (.ref x))
 |.ext b=>b h/\(∃o,h.get? a=U o)/\∀h1 h2:A6,b h1->(∀o,h1.get? a=U o->h2.get? a=U o)->b h2
def yZ(H:Hp)(h:A6):Prop:=∀a o,H a=U o->je P w H h a o
end
section
variable{H H':Hp}{h':A6}{o:HO}
theorem je.lt(x:je P w H h a o):a<h.objs.size:=by
 cases o with
 |lst xs=>obtain⟨_,_,_,_,e⟩:=x;exact zt e
 |tup xs=>obtain⟨_,_,_,p⟩:=x;exact p.weak.lt
 |dK AO=>obtain⟨_,_,_,_,o,_,_,e,_⟩:=x;exact zt e
 |dT AO=>obtain⟨_,_,_,_,o,_,_,e,_⟩:=x;exact zt e
 |set S n=>obtain⟨o,_,_,_,e,_⟩:=x;exact zt e
 |ins C dx fs=>obtain⟨_,_,_,e,_⟩:=x;exact zt e
 |own y=>obtain⟨_,e⟩:=x;exact zt e
 |xd fs=>obtain⟨_,⟨_,_,_,e,_⟩,_⟩:=x;exact zt e
 |rng lo hi=>obtain⟨_,_,_,e⟩:=x;exact zt e
 |qH c u=>obtain⟨e,_⟩:=x;exact zt e
 |Gm ps=>obtain⟨_,e,_⟩:=x;exact zt e
 |met f y=>exact zt (show h.get? a=U _ from x)
 |ext b=>obtain⟨_,⟨_,e⟩,_⟩:=x;exact zt e
theorem Paired.Yd{α β:Type}{F G:α->β->Prop}:∀{c:O α} {d:O β},AI F c d->(∀a b,F a b->G a b)->AI G c d
 |_,_,.nil,_=>.nil
 |_,_,.cons r t,f=>.cons (f _ _ r) (Paired.Yd t f)
theorem Paired.imp'{F G:α->β->Prop}(f:∀a b,F a b->G a b){c:O α}{d:O β}(r:AI F c d):AI G c d:=Paired.Yd r f
theorem je.stay(x:je P w H h a o)(k:∀b u,(b=a\/H b=U (.own a))->h.get? b=U u->h'.get? b=U u)
  (B:∀b,H b=U (.own a)->H' b=U (.own a)) (D:∀b xs,H b=U (.tup xs)->H' b=U (.tup xs)) (J:∀b o l,H b=U (.qH o (.ext l))->H' b=U (.qH o (.ext l))):je P w H' h' a o:=by
 induction o with
 |lst xs=>obtain⟨z,AQ,n,r,e⟩:=x;exact⟨z,AQ,n,r,k _ _ (.inl rfl) e⟩
 |tup xs=>obtain⟨z,AQ,r,i,e,c⟩:=x;exact⟨z,AQ,r,i,k _ _ (.inl rfl) e,c⟩
 |dK AO=>obtain⟨z,y,vs,r,i,es,ep,e,c⟩:=x;exact⟨z,y,vs,r,i,es,ep,k _ _ (.inl rfl) e,c⟩
 |dT AO=>
  obtain⟨z,y,xs,r,i,es,ep,e,c⟩:=x;exact⟨z,y,xs,Paired.Yd r λp q z=>⟨z.1,D _ _ z.2.1,z.2.2⟩,i,es,ep,k _ _ (.inl rfl) e,c⟩
 |set S n=>obtain⟨i,es,ep,t,e,c⟩:=x;exact⟨i,es,ep,t,k _ _ (.inl rfl) e,c⟩
 |ins C dx fs=>
  obtain⟨d,z,A,e,mA,⟨j,es,ep,e2,c⟩,r⟩:=x;exact⟨B _ d,z,A,k _ _ (.inl rfl) e,mA,⟨j,es,ep,k _ _ (.inr d) e2,c⟩,r⟩
 |own y=>obtain⟨i,e⟩:=x;exact⟨i,k _ _ (.inl rfl) e⟩
 |xd fs=>obtain⟨mA,⟨j,es,ep,e,c⟩,r⟩:=x;exact⟨mA,⟨j,es,ep,k _ _ (.inl rfl) e,c⟩,r⟩
 |rng lo hi=>obtain⟨t,u,v,e⟩:=x;exact⟨t,u,v,k _ _ (.inl rfl) e⟩
 |qH i u I=>obtain⟨e,q⟩:=x;exact⟨k _ _ (.inl rfl) e,I q⟩
 |Gm ps=>
  obtain⟨G,e,s,F⟩:=x;refine⟨G,k a _ (.inl rfl) e,s,λpos E z=>?_⟩;obtain⟨c,m,vs,t,rfl,g,d,v⟩:=F pos E z;exact⟨c,m,vs,t,rfl,J c m _ g,d,v⟩
 |met f y=>
  have e:h.get? a=U (methodObj (.ref f) (.ref y)):=x;show h'.get? a=U (methodObj (.ref f) (.ref y));exact k a _ (.inl rfl) e
 |ext l=>obtain⟨p,⟨o,e⟩,st⟩:=x;exact⟨st _ _ p λo q=>k _ _ (.inl rfl) q,⟨o,k _ _ (.inl rfl) e⟩,st⟩
theorem yZ.lt(x:yZ P w H h)(e:H a=U o):a<h.objs.size:=(x a o e).lt
theorem yZ.fresh(x:yZ P w H h)(e:h.objs.size<=a):H a=Z:=by
 cases q:H a with
 |none=>rfl
 |some u=>exact absurd (zS (x.lt q) e) (Q3 _)
theorem yZ.kept(x:yZ P w H h)(k:∀b u,h.get? b=U u->h'.get? b=U u):yZ P w H h':=λa o e=>
 (x a o e).stay (λb u _ q=>k b u q) (λ_ q=>q) (λ_ _ q=>q) λ_ _ _ q=>q
theorem yZ.laid(x:yZ P w H h)(k:∀b u,h.get? b=U u->h'.get? b=U u)(hp:h.objs.size<=a)(new:je P w (B8 H a o) h' a o):yZ P w (B8 H a o) h':=λb u e=>by
 have d:=x.fresh hp;by_cases f:b=a
 ·subst f;rw[aU]at e;cases e;exact new
 ·rw[aV f]at e;exact(x b u e).stay (λc v _ q=>k c v q) (λc q=>by rw[aV (bO q d)];exact q) (λc xs q=>by rw[aV (bO q d)];exact q) λc o' g q=>by rw[aV (bO q d)];exact q
end
def Rd(H:Hp)(a:A1)(u:HO):Prop:=H a=U u\/∃o,H a=U (.qH o u)
theorem Rd.ok{H:Hp}{u:HO}(r:Rd H a u)(x:yZ P w H h):je P w H h a u:=by
 rcases r with r|⟨o,r⟩
 ·exact x a u r
 ·obtain⟨_,q⟩:=x a _ r;exact q
def EB:Y HO->Prop
 |some (.lst _)=>True
 |some (.dK _)=>True
 |some (.dT _)=>True
 |some (.set _ _)=>True
 |some (.ins _ _ _)=>True
 |some (.ext _)=>True
 |_=>False
section
variable{H:Hp}{h':A6}{x e:A1}{o':HO}
theorem yZ.write(ok:yZ P w H h)(a:EB (H x))(j:e=x\/H e=U (.own x))(k:∀b u,b≠e->h.get? b=U u->h'.get? b=U u)(p:∃u,h'.get? e=U u)
  (new:je P w (B8 H x o') h' x o'):yZ P w (B8 H x o') h':=λb u q=>by
 have m:∀c y,H c=U (.own y)->c≠x:=λc y r z=>by subst z;rw[r]at a;exact a
 have o:∀c xs,H c=U (.tup xs)->c≠x:=λc xs r z=>by subst z;rw[r]at a;exact a
 have n:∀c o' i,H c=U (.qH o' i)->c≠x:=λc o' i r z=>by subst z;rw[r]at a;exact a
 by_cases g:b=x
 ·subst g;rw[aU]at q;cases q;exact new
 ·rw[aV g]at q;by_cases f:b=e
  ·have l:H b=U (.own x):=by
    rcases j with z|z
    ·exact absurd (f.trans z) g
    ·rw[f];exact z
   rw[q]at l;cases l;obtain⟨v,s⟩:=p;exact⟨v,by rw[f];exact s⟩
  ·refine(ok b u q).stay (λc v d r=>k c v ?_ r) (λc r=>by rw[aV (m c b r)];exact r) (λc xs r=>by rw[aV (o c xs r)];exact r) λc o' i r=>by rw[aV (n c o' _ r)];exact r
   rcases d with rfl|d
   ·exact f
   ·rintro rfl;rcases j with z|z
    ·exact m c b d z
    ·rw[d]at z;cases z;exact g rfl
end
structure Un (fs ex:List Addr) (H H':Hp) (h h':Heap):Prop where
 keep:∀b o,h.get? b=some o->H b=none->b∉fs->b∉ex->h'.get? b=some o
 slot:∀b o,h.get? b=some o->H b=none->b∈fs->b∉ex->∃sl,h'.get? b=some { o with slots:=sl }
 free:∀b o,h.get? b=some o->H b=none->b∉ex->H' b=none
 there:∀b o,h.get? b=some o->b∉ex->∃o',h'.get? b=some o'
 tups:∀b xs,H b=some (.tup xs)->H' b=some (.tup xs)
 Dl:∀b o u,H b=some (.qH o u)->H' b=some (.qH o u)
 vX:∀b ps,H b=some (.Gm ps)->∃more,H' b=some (.Gm (ps++more))
section
variable{fs fs' ex ex':O A1}{H H1 H2:Hp}{h1 h2 h':A6}{x e:A1}{o:HO}
theorem Un.any(u:Un fs ex H H1 h h1){b:A1}{a:AE}(q:h.get? b=U a)(n:H b=Z)(hx:b∉ex):∃sl,h1.get? b=U { a with slots:=sl }:=by
 by_cases c:b∈fs
 ·exact u.slot b a q n c hx
 ·exact⟨a.slots,u.keep b a q n c hx⟩
theorem Un.kept(k:∀b u,h.get? b=U u->h'.get? b=U u):Un fs ex H H h h':=
 ⟨λb a q _ _ _=>k b a q,λb a q _ _ _=>⟨a.slots,k b a q⟩,λ_ _ _ n _=>n,λb a q _=>⟨a,k b a q⟩,λ_ _ q=>q,λ_ _ _ q=>q,λ_ ps q=>⟨#[],by rw[q];simp⟩⟩
theorem Un.refl:Un fs ex H H h h:=Un.kept λ_ _ q=>q
theorem Un.laid(k:∀b u,h.get? b=U u->h'.get? b=U u)(hp:h.objs.size<=a)(c:H a=Z):Un fs ex H (B8 H a o) h h' where
 keep:=λb u q _ _ _=>k b u q
 slot:=λb u q _ _ _=>⟨u.slots,k b u q⟩
 free:=λb u q n _=>by rw[aV (z4 (zS (zt q) hp))];exact n
 there:=λb u q _=>⟨u,k b u q⟩
 tups:=λb xs q=>by rw[aV (bO q c)];exact q
 Dl:=λb u xs q=>by rw[aV (bO q c)];exact q
 vX:=λb ps q=>⟨#[],by rw[aV (bO q c),q];simp⟩
theorem Un.write(a:EB (H x))(g:e=x\/H e=U (.own x))(k:∀b u,b≠e->h.get? b=U u->h'.get? b=U u)(i:∃u,h'.get? e=U u):Un fs ex H (B8 H x o) h h':=by
 have hx:∀b,H b=Z->b≠x:=λb n z=>by subst z;rw[n]at a;exact a
 have f:∀b,H b=Z->b≠e:=λb n z=>by
  subst z;rcases g with r|r
  ·exact hx b n r
  ·rw[n]at r;cases r
 have c:∀b u,H b=U u->¬ EB (U u)->b≠x:=λb u q nm z=>by subst z;rw[q]at a;exact nm a
 refine⟨λb u q n _ _=>k b u (f b n) q,λb u q n _ _=>⟨u.slots,k b u (f b n) q⟩,λb u q n _=>by rw[aV (hx b n)];exact n,λb u q _=>?_,
  λb xs q=>by rw[aV (c b _ q λz=>z)];exact q,λb u xs q=>by rw[aV (c b _ q λz=>z)];exact q,λb ps q=>⟨#[],by rw[aV (c b _ q λz=>z),q];simp⟩⟩
 by_cases d:b=e
 ·subst d;exact i
 ·exact⟨u,k b u d q⟩
end
def DT(h:A6)(H:Hp):O A1:=(am h.objs.size).filter λa=>(H a).isSome
def Gn(h:A6)(H:Hp):A6:=PySem.W.hideAll h (DT h H)
theorem Ow(h:A6)(H:Hp):(Gn h H).objs.size=h.objs.size:=PySem.W.hideAll_size _ _
theorem QD{H:Hp}{b:A1}{o:AE}(e:h.get? b=U o)(n:H b=Z):(Gn h H).get? b=U o:=
 PySem.W.hideAll_get _ e λa=>by
  have q:(H b).isSome=true:=(ap.mp a).2;rw[n]at q;simp at q
theorem Uu{H:Hp}{b:A1}{o:AE}(e:(Gn h H).get? b=U o):h.get? b=U o/\H b=Z:=by
 have e':h.get? b=U o:=PySem.W.of_hideAll (DT h H) e;refine⟨e',?_⟩;cases q:H b with
 |none=>rfl
 |some x=>
  have a:b∈DT h H:=ap.mpr ⟨ar.mpr (zt e'),by simp[q]⟩;have z:(Gn h H).get? b=Z:=PySem.W.hideAll_none (DT h H) a;rw[z]at e;cases e
def Uv(g h:A6)(L:A1):O (A1×AE):=(am h.objs.size).filterMap λa=>if a=L\/(g.get? a).isSome=true then Z else(h.get? a).map λo=>(a,o)
def AS(g h:A6)(L d:A1):O (A1×AE):=(Uv g h L).filter λp=>decide (p.1≠d)
end L2
namespace L2
structure Mod (K:B4) (mg:Str->Option Value) (base:Heap):Prop where
 kin:K.In base
 glob:base.Ns mainGlobals mg
 blt:∃mb,base.Ns builtinsNs mb/\∀x:Str,x ≠ "__name__" → mb x=bootBuiltins x
 nolimit:base.NoLimit
 bmain:∃bm ob,mg "__builtins__"=some (.ref bm)/\bm≠builtinsNs/\base.get? bm=some ob/\ob.cls=.type "module" ∧ ob.dict=some builtinsNs/\ob.data=.plain
structure Cx where
 prog:Program
 w:World
 K:B4
 mg:Str->Option Value
 base:Heap
 A:Around
 N:AZ
 s₀:Shared
 H₀:Hp
 env:Env
 outer:List Env
 stack:List Env
 ex:List Addr
 fn:Str->Bool
 calm:Bool
 pn:List (Addr×Obj)
 xe:BE
abbrev en(X:Cx):=A8 X.prog X.w
def CS(l:O Env):O A1:=l.filterMap (·.frame)
abbrev Cx.fs(X:Cx):O A1:=CS X.outer
def KY(a:Scope)(x:AJ):Prop:=a.names.lookup x=U .local\/a.names.lookup x=U .cell\/a.names.lookup x=U .free
def CI(a:Scope)(x:AJ):Prop:=a.names.lookup x=U .local\/a.names.lookup x=U .cell
def EV(env:Env)(h:A6)(m:AJ->Y A0)(x:AJ)(u:A0):Prop:=
 (env.kindOf x=U .local/\m x=U u)\/((env.kindOf x=U .cell\/env.kindOf x=U .free)/\∃c,env.cells.lookup x=U c/\h.IsCell c (U u))
structure Cx.Ok (X:Cx):Prop where
 mod:Mod X.K X.mg X.base
 kind:X.env.scope.kind=.function
 glob:X.env.globals=mainGlobals
 blt:X.env.builtins=builtinsNs
 above:X.s₀.heap.objs.size<=X.env.locals
 inj:∀x y c,X.env.cells.lookup x=some c->X.env.cells.lookup y=some c->x=y
 has:∀x,(X.env.kindOf x=some .cell\/X.env.kindOf x=some .free)->∃c,X.env.cells.lookup x=some c
 cab:∀x c,X.fn x=true->X.env.cells.lookup x=some c->X.s₀.heap.objs.size<=c
 hd:X.calm=true->X.A.handled=none
 frames:X.A.frames=some X.stack
 stk:X.stack=X.outer\/(X.stack=X.env::X.outer/\X.env.frame=some X.env.locals)
 exf:∀b∈X.ex,b≠X.env.locals/\∀x c,X.env.cells.lookup x=some c->c≠b
 bs:∀b o,X.base.get? b=some o->X.s₀.heap.get? b=some o/\X.H₀ b=none
 Uw:X.base.objs.size<=X.s₀.heap.objs.size
 QF:∀b o,X.base.get? b=some o->b∉X.ex
 Ux:∀b∈X.ex,b∉X.fs
 Af:X.s₀.heap.FunFrames X.base X.outer
 frf:∀b∈X.fs,X.H₀ b=none
 tabs:BT X.K X.H₀
structure AU (X:Cx) (AN:List (Addr×Obj)) (σ:List (Option V)) (H:Hp) (s:Shared):Prop where
 ok:X.Ok
 os:s.os=X.s₀.os
 bare:AllBare s.gens
 base:Un X.fs X.ex X.H₀ H X.s₀.heap s.heap
 loc:∃m,s.heap.Ns X.env.locals m/\∀(i:Nat) (x:Str) (v:V),X.N[i]?=some x->σ[i]?=some (some v)->KY X.env.scope x->∃u,As v u/\EV X.env s.heap m x u
 cell:∀x c,X.env.cells.lookup x=some c->∃v,s.heap.IsCell c v
 free:H X.env.locals=none
 oh:∀x c,X.env.cells.lookup x=some c->H c=none
 pin:∀p∈X.pn++AN,s.heap.get? p.1=some p.2/\H p.1=none/\p.1≠X.env.locals/\p.1∉X.fs/\∀v,p.2.data≠.cell v
 hok:yZ X.prog X.w H s.heap
 len:σ.length=X.N.length
section
variable{X:Cx}{σ:O (Y V)}{H H':Hp}{h':A6}
theorem Cx.Ok.acZ(ok:X.Ok){b:A1}{o:AE}(e:X.base.get? b=U o):b∉X.fs:=λa=>by
 have:=(ok.Af.mem a).1;rw[e]at this;cases this
theorem AU.bs(I:AU X AN σ H s):∀b o,X.base.get? b=U o->s.heap.get? b=U o/\H b=Z:=λb o e=>
 ⟨I.base.keep b o (I.ok.bs b o e).1 (I.ok.bs b o e).2 (I.ok.acZ e) (I.ok.QF b o e),I.base.free b o (I.ok.bs b o e).1 (I.ok.bs b o e).2 (I.ok.QF b o e)⟩
theorem AU.bk(I:AU X AN σ H s):∀b o,X.base.get? b=U o->s.heap.get? b=U o:=λb o e=>(I.bs b o e).1
theorem AU.mod(I:AU X AN σ H s):Mod X.K X.mg X.base:=I.ok.mod
theorem AU.Uo(I:AU X AN σ H s):X.K.In s.heap:=I.ok.mod.kin.keeps I.bk
theorem AU.nolimit(I:AU X AN σ H s):s.heap.NoLimit:=I.ok.mod.nolimit.keeps I.bk
theorem AU.lt(I:AU X AN σ H s):X.env.locals<s.heap.objs.size:=let ⟨_,hn,_⟩:=I.loc;hn.lt
theorem AU.sz(I:AU X AN σ H s):X.s₀.heap.objs.size<=s.heap.objs.size:=zD I.ok.above (Q1 I.lt)
theorem AU.Ye(I:AU X AN σ H s)(h:s.heap.objs.size<=a):a∉X.fs:=λc=>by
 obtain⟨_,o,b,_⟩:=I.ok.Af.mem c;exact absurd (zS (zt b) (zD I.sz h)) (Q3 _)
theorem AU.Yg(I:AU X AN σ H s):∀x c,X.env.cells.lookup x=U c->c≠X.env.locals:=λx c e z=>by
 obtain⟨v,o,a,hd⟩:=I.cell x c e;obtain⟨m,⟨o',es,ep,b,d,_⟩,_⟩:=I.loc;rw[z,b]at a;cases a;rw[d]at hd;cases hd
theorem AU.Af(I:AU X AN σ H s):s.heap.FunFrames X.base X.outer:=by
 have all:∀(l:O Env),(∀b∈CS l,b∈X.fs)->X.s₀.heap.FunFrames X.base l->s.heap.FunFrames X.base l:=by
  intro l
  induction l with
  |nil=>intro _ _;trivial
  |cons env r k=>
   intro f j;obtain⟨hk,⟨L,o,d,h,g,hd⟩,i⟩:=j;have a:L∈X.fs:=f L (by unfold CS;rw[ja,d];exact ze);obtain⟨sl,e⟩:=I.base.slot L o g (I.ok.frf L a) a λz=>I.ok.Ux L z a;exact⟨hk,⟨L,_,d,h,e,hd⟩,k (λb c=>f b (by unfold CS;rw[ja,d];exact zg _ c)) i⟩
 exact all X.outer (λ_ c=>c) I.ok.Af
theorem AU.stack(I:AU X AN σ H s):s.heap.FunFrames X.base X.stack:=by
 rcases I.ok.stk with e|⟨e,b⟩
 ·rw[e];exact I.Af
 ·rw[e];obtain⟨m,a,_⟩:=I.loc;refine .cons (by rw[I.ok.kind];decide) b a ?_ I.Af;exact Heap.get?_none_of_le (zD I.ok.Uw I.ok.above)
theorem AU.Gp(I:AU X AN σ H s):∀b∈CS X.stack,b∈X.env.locals::X.fs:=λb a=>by
 rcases I.ok.stk with e|⟨e,c⟩
 ·rw[e]at a;exact zg _ a
 ·rw[e]at a;unfold CS at a;rw[ja,c]at a;exact a
theorem AU.Gq(I:AU X AN σ H s):∀b∈CS X.stack,H b=Z:=λb a=>by
 rcases List.mem_cons.mp (I.Gp b a)with e|a
 ·rw[e];exact I.free
 ·obtain⟨_,o,c,_⟩:=I.ok.Af.mem a;exact I.base.free b o c (I.ok.frf b a) λz=>I.ok.Ux b z a
theorem AU.step{g':Array GenState}{t':Nat}{d':Drawn}{ch:O A1}(I:AU X AN σ H s)
  (g:∀b∈ch,(b∈X.ex\/X.s₀.heap.objs.size<=b)/\b≠X.env.locals/\(∀x c,X.env.cells.lookup x=U c->c≠b)/\∀p∈X.pn++AN,p.1≠b)
  (keep:∀b o,b≠X.env.locals->b∉X.fs->b∉ch->s.heap.get? b=U o->H b=Z->h'.get? b=U o)
  (t:∀b o,b≠X.env.locals->b∈X.fs->b∉ch->s.heap.get? b=U o->H b=Z->∃sl,h'.get? b=U { o with slots:=sl }) (free:∀b o,b∉ch->s.heap.get? b=U o->H b=Z->H' b=Z)
  (F:∀b o,b∉ch->s.heap.get? b=U o->∃o',h'.get? b=U o')
  (G:∀b xs,H b=U (.tup xs)->H' b=U (.tup xs)) (E:∀b o u,H b=U (.qH o u)->H' b=U (.qH o u)) (L:∀b ps,H b=U (.Gm ps)->∃W,H' b=U (.Gm (ps++W)))
  (J:∀m,s.heap.Ns X.env.locals m->h'.Ns X.env.locals m) (Q:yZ X.prog X.w H' h') (hg:AllBare g'):
  AU X AN σ H' { s with heap:=h',gens:=g',drawn:=d',toks:=t' }:=by
 have A:∀b o,X.s₀.heap.get? b=U o->b≠X.env.locals:=λb o e=>z4 (zS (zt e) I.ok.above);have j:∀b o,X.s₀.heap.get? b=U o->b∉X.ex->b∉ch:=λb o e hx a=>by
  rcases(g b a).1 with z|z
  ·exact hx z
  ·exact absurd (zS (zt e) z) (Q3 _)
 have C:∀x c,X.env.cells.lookup x=U c->∀v,s.heap.IsCell c v->h'.IsCell c v:=λx c e v ⟨o,f,hd⟩=>by
  have h:c∉ch:=λz=>(g c z).2.2.1 x c e rfl;by_cases D:c∈X.fs
  ·obtain⟨sl,q⟩:=t c o (I.Yg x c e) D h f (I.oh x c e);exact⟨_,q,hd⟩
  ·exact⟨o,keep c o (I.Yg x c e) D h f (I.oh x c e),hd⟩
 refine⟨I.ok,I.os,hg,⟨λb o e n a hx=>?_,λb o e n a hx=>?_,λb o e n hx=>?_,λb o e hx=>?_,λb xs e=>G b xs (I.base.tups b xs e),λb o xs e=>E b o xs (I.base.Dl b o xs e),λb ps e=>?_⟩,?_,λx c e=>?_,?_,λx c e=>?_,λp hp=>?_,Q,I.len⟩
 ·exact keep b o (A b o e) a (j b o e hx) (I.base.keep b o e n a hx) (I.base.free b o e n hx)
 ·obtain⟨sl,e1⟩:=I.base.slot b o e n a hx;obtain⟨a0,e2⟩:=t b _ (A b o e) a (j b o e hx) e1 (I.base.free b o e n hx);exact⟨a0,e2⟩
 ·obtain⟨o',e1⟩:=I.base.there b o e hx;exact free b o' (j b o e hx) e1 (I.base.free b o e n hx)
 ·obtain⟨o',e1⟩:=I.base.there b o e hx;exact F b o' (j b o e hx) e1
 ·obtain⟨P,e1⟩:=I.base.vX b ps e;obtain⟨M,e2⟩:=L b _ e1;exact⟨P++M,by rw[e2,kK]⟩
 ·obtain⟨m,K,N⟩:=I.loc;refine⟨m,J m K,λi x v e1 e2 e3=>?_⟩;obtain⟨u,r,l⟩:=N i x v e1 e2 e3;refine⟨u,r,?_⟩;rcases l with l|⟨k,c,e,z⟩
  ·exact .inl l
  ·exact .inr ⟨k,c,e,C x c e _ z⟩
 ·obtain⟨v,z⟩:=I.cell x c e;exact⟨v,C x c e v z⟩
 ·obtain⟨m,⟨o,_,_,f,_⟩,_⟩:=I.loc;exact free _ o (λz=>(g _ z).2.1 S) f I.free
 ·obtain⟨v,o,f,hd⟩:=I.cell x c e;exact free c o (λz=>(g c z).2.2.1 x c e S) f (I.oh x c e)
 ·obtain⟨e,n,y,B,d⟩:=I.pin p hp;have h:p.1∉ch:=λz=>(g p.1 z).2.2.2 p hp rfl;exact⟨keep p.1 p.2 y B h e n,free p.1 p.2 h e n,y,B,d⟩
theorem AU.un{t':Nat}(I:AU X AN σ H s)(u:Un X.fs [] H H' s.heap h')(g:yZ X.prog X.w H' h'):AU X AN σ H' { s with heap:=h',toks:=t' }:=by
 obtain⟨m,⟨o,es,ep,c,r⟩,_⟩:=id I.loc;obtain⟨sl,j⟩:=u.any c I.free (by simp);exact I.step (g':=s.gens) (d':=s.drawn) (ch:=[]) (λ_ z=>nomatch z) (λb o _ a _ e n=>u.keep b o e n a (by simp)) (λb o _ a _ e n=>u.slot b o e n a (by simp)) (λb o _ e n=>u.free b o e n (by simp)) (λb o _ e=>u.there b o e (by simp)) u.tups u.Dl u.vX (λl f=>by
  obtain⟨o',i,k,d,h⟩:=f;rw[c]at d;cases d;exact⟨_,i,k,j,h⟩) g I.bare
theorem AU.call{g':Array GenState}{t':Nat}{d':Drawn}{ch:O A1}(I:AU X AN σ H s)(u:Un (CS X.stack) ch H H' s.heap h')(j:yZ X.prog X.w H' h')(l:AllBare g')
  (g:∀b∈ch,(b∈X.ex\/X.s₀.heap.objs.size<=b)/\b≠X.env.locals/\(∀x c,X.env.cells.lookup x=U c->c≠b)/\∀p∈X.pn++AN,p.1≠b):
  AU X AN σ H' { s with heap:=h',gens:=g',drawn:=d',toks:=t' }:=by
 obtain⟨m,⟨o,es,ep,f,r⟩,_⟩:=id I.loc;obtain⟨sl,d⟩:=u.any f I.free λz=>(g _ z).2.1 rfl;exact I.step (ch:=ch) g (λb o d v a e n=>u.keep b o e n (λz=>(List.mem_cons.mp (I.Gp b z)).elim d v) a) (λb o _ _ a e n=>u.any e n a) (λb o a e n=>u.free b o e n a) (λb o a e=>u.there b o e a) u.tups u.Dl u.vX (λy i=>by
  obtain⟨o',q,t,h,k⟩:=i;rw[f]at h;cases h;exact⟨_,q,t,d,k⟩) j l
theorem AU.turned{t':Nat}(I:AU X AN σ H s)(k:∀b o,b≠it->s.heap.get? b=U o->h'.get? b=U o)(j:H it=Z)(f:it≠X.env.locals)(h1:it∈X.ex\/X.s₀.heap.objs.size<=it)(h2:∀x c,X.env.cells.lookup x=U c->c≠it)(g:∀p∈X.pn++AN,p.1≠it):AU X AN σ H { s with heap:=h',toks:=t' }:=by
 have d:∀b u,H b=U u->b≠it:=λb u e z=>by rw[z,j]at e;cases e
 refine I.step (g':=s.gens) (d':=s.drawn) (ch:=[it]) (λb l=>?_) (λb o _ _ a e _=>k b o (λz=>a (by simp[z])) e) (λb o _ _ a e _=>⟨o.slots,k b o (λz=>a (by simp[z])) e⟩) (λ_ _ _ _ n=>n)
  (λb o a e=>⟨o,k b o (λz=>a (by simp[z])) e⟩) (λ_ _ e=>e) (λ_ _ _ e=>e) (λb ps e=>⟨#[],by rw[e];simp⟩) (λm i=>?_) (λb u e=>?_) I.bare
 ·have e:b=it:=by simpa using l
  subst e;exact⟨h1,f,h2,g⟩
 ·obtain⟨o,es,ep,h,r⟩:=i;exact⟨o,es,ep,k _ o (Ne.symm f) h,r⟩
 ·refine(I.hok b u e).stay (λc v a q=>k c v ?_ q) (λ_ q=>q) (λ_ _ q=>q) λ_ _ _ q=>q;rcases a with z|z
  ·rw[z];exact d b u e
  ·exact d c _ z
theorem AU.tok(I:AU X AN σ H s)(t:Nat):AU X AN σ H { s with toks:=t }:=I.un (h':=s.heap) (t':=t) Un.refl I.hok
theorem AU.kept{t':Nat}(I:AU X AN σ H s)(k:∀b u,s.heap.get? b=U u->h'.get? b=U u):AU X AN σ H { s with heap:=h',toks:=t' }:=I.un (Un.kept k) (I.hok.kept k)
theorem AU.laid{a:A1}{o:HO}{t':Nat}(I:AU X AN σ H s)(k:∀b u,s.heap.get? b=U u->h'.get? b=U u)(hp:s.heap.objs.size<=a)(new:je X.prog X.w (B8 H a o) h' a o):
  AU X AN σ (B8 H a o) { s with heap:=h',toks:=t' }:=I.un (Un.laid k hp (I.hok.fresh hp)) (I.hok.laid k hp new)
theorem AU.write{x e:A1}{o:HO}{t':Nat}(I:AU X AN σ H s)(a:EB (H x))(c:e=x\/H e=U (.own x))(k:∀b u,b≠e->s.heap.get? b=U u->h'.get? b=U u)(d:∃u,h'.get? e=U u)
  (new:je X.prog X.w (B8 H x o) h' x o):AU X AN σ (B8 H x o) { s with heap:=h',toks:=t' }:=I.un (Un.write a c k d) (I.hok.write a c k d new)
theorem AU.vY{a:O (A1×AE)}(I:AU X AN σ H s)(h:∀p∈a,s.heap.get? p.1=U p.2/\H p.1=Z/\p.1≠X.env.locals/\p.1∉X.fs/\∀v,p.2.data≠.cell v):AU X a σ H s:=
 ⟨I.ok,I.os,I.bare,I.base,I.loc,I.cell,I.free,I.oh,λp hp=>(ai.mp hp).elim (λz=>I.pin p (cE _ z)) (h p),I.hok,I.len⟩
theorem Im(c:N.Nodup)(a:N[i]?=U x)(b:N[j]?=U x):i=j:=by
 obtain⟨h1,e1⟩:=ad.mp a;obtain⟨h2,e2⟩:=ad.mp b;exact(bv c).mp (e1.trans e2.symm)
theorem Ox{v:V}{Q:Unit->A2->Prop}(I:AU X AN σ H s)(hN:X.N.Nodup)(hi:X.N[i]?=U x)(hx:CI X.env.scope x)(r:As v u)(h:∀s',AU X AN (σ.set i (U v)) H s'->(∃a,Heap.SameBut a s.heap s'.heap/\(a=X.env.locals\/X.env.cells.lookup x=U a))->Q eu s')(hf:X.fn x=true\/X.env.scope.names.lookup x=U .local:=by first|exact .inl rfl|exact .inr rfl|assumption):A7 M A (storeName X.env x u) Q E s:=by
 obtain⟨m,F,hl⟩:=id I.loc;have a6:(X.env.scope.kind==.class||(X.env.scope.kind==.module&&X.env.locals !=X.env.globals))=false:=by rw[I.ok.kind];rfl
 have a0:i<σ.length:=by rw[I.len];exact(ad.mp hi).1
 have Yg:=I.Yg;have a3:∀{a:A1} {h':A6},(∃o,s.heap.get? a=U o/\H a=Z)->Heap.SameBut a s.heap h'->yZ X.prog X.w H h':=λ{a h'} ha f b ob e=>by
  obtain⟨_,_,P⟩:=ha;refine(I.hok b ob e).stay (λc C g q=>(f.2 c ?_).trans q) (λ_ q=>q) (λ_ _ q=>q) λ_ _ _ q=>q;rintro rfl;rcases g with rfl|g
  ·rw[P]at e;cases e
  ·rw[P]at g;cases g
 rcases hx with hk|hk
 ·refine wpAny_storeName_local hk F (λh' a4 f=>?_) a6;obtain⟨oL,_,_,a7,_⟩:=id F;refine h _ ⟨I.ok,I.os,I.bare,⟨λb o e n l hx=>?_,λb o e n l hx=>?_,I.base.free,λb o e hx=>?_,I.base.tups,I.base.Dl,I.base.vX⟩,⟨_,a4,λj y D e1 e2 e3=>?_⟩,λy c e=>?_,I.free,I.oh,λp hp=>?_,a3 ⟨oL,a7,I.free⟩ f,by simpa using I.len⟩ ⟨_,f,.inl rfl⟩
  ·exact(f.2 b (z4 (zS (zt e) I.ok.above))).trans (I.base.keep b o e n l hx)
  ·obtain⟨sl,e1⟩:=I.base.slot b o e n l hx;exact⟨sl,(f.2 b (z4 (zS (zt e) I.ok.above))).trans e1⟩
  ·obtain⟨o',e1⟩:=I.base.there b o e hx;exact⟨o',(f.2 b (z4 (zS (zt e) I.ok.above))).trans e1⟩
  ·by_cases t:j=i
   ·subst t;rw[hi]at e1;cases e1;rw[ck a0]at e2;cases e2;exact⟨u,r,.inl ⟨hk,by simp⟩⟩
   ·rw[aI (Ne.symm t)]at e2;obtain⟨J,L,q⟩:=hl j y D e1 e2 e3;refine⟨J,L,?_⟩;rcases q with⟨k,e⟩|⟨k,c,e,z⟩
    ·refine .inl ⟨k,?_⟩;have:y≠x:=λe=>t (Im hN e1 (e▸hi));simp[this,e]
    ·exact .inr ⟨k,c,e,z.sameBut f (Yg y c e)⟩
  ·obtain⟨C,z⟩:=I.cell y c e;exact⟨C,z.sameBut f (Yg y c e)⟩
  ·obtain⟨e,n,B,G,d⟩:=I.pin p hp;exact⟨(f.2 p.1 B).trans e,n,B,G,d⟩
 ·have K:X.fn x=true:=by
   rcases hf with z|z
   ·exact z
   ·rw[z]at hk;cases hk
  obtain⟨c,g⟩:=I.ok.has x (.inl hk);obtain⟨C,z⟩:=I.cell x c g;refine wpAny_storeName_cell I.ok.kind hk g z (λh' W f=>?_);obtain⟨oc,a1,a5⟩:=id z;refine h { s with heap:=h' } ⟨I.ok,I.os,I.bare,⟨λb o e n l hx=>?_,λb o e n l hx=>?_,I.base.free,λb o e hx=>?_,I.base.tups,I.base.Dl,I.base.vX⟩,⟨m,F.sameBut f (Ne.symm (Yg x c g)),λj y D e1 e2 e3=>?_⟩,λy c' e=>?_,I.free,I.oh,λp hp=>?_,a3 ⟨oc,a1,I.oh x c g⟩ f,by simpa using I.len⟩ ⟨c,f,.inr g⟩
  ·exact(f.2 b (z4 (zS (zt e) (I.ok.cab x c K g)))).trans (I.base.keep b o e n l hx)
  ·obtain⟨sl,e1⟩:=I.base.slot b o e n l hx;exact⟨sl,(f.2 b (z4 (zS (zt e) (I.ok.cab x c K g)))).trans e1⟩
  ·obtain⟨o',e1⟩:=I.base.there b o e hx;exact⟨o',(f.2 b (z4 (zS (zt e) (I.ok.cab x c K g)))).trans e1⟩
  ·by_cases t:j=i
   ·subst t;rw[hi]at e1;cases e1;rw[ck a0]at e2;cases e2;exact⟨u,r,.inr ⟨.inl hk,c,g,W⟩⟩
   ·rw[aI (Ne.symm t)]at e2;obtain⟨J,L,q⟩:=hl j y D e1 e2 e3;refine⟨J,L,?_⟩;rcases q with q|⟨k,c',e,z'⟩
    ·exact .inl q
    ·refine .inr ⟨k,c',e,z'.sameBut f ?_⟩;rintro rfl;exact t (Im hN e1 (I.ok.inj _ _ _ e g▸hi))
  ·by_cases a2:c'=c
   ·subst a2;exact⟨_,W⟩
   ·obtain⟨w2,z2⟩:=I.cell y c' e;exact⟨w2,z2.sameBut f a2⟩
  ·obtain⟨e,n,B,G,d⟩:=I.pin p hp;refine⟨(f.2 p.1 ?_).trans e,n,B,G,d⟩;intro q;rw[q,a1]at e;have q':oc=p.2:=QA e;exact d C (by rw[<-q'];exact a5)
theorem Io{v:V}{Q:Unit->A2->Prop}(I:AU X AN σ H s)(b:X.N.Nodup)(hi:X.N[i]?=U x)(hx:CI X.env.scope x)(r:As v u)(h:∀s',AU X AN (σ.set i (U v)) H s'->Q eu s')(c:X.fn x=true\/X.env.scope.names.lookup x=U .local:=by first|exact .inl rfl|exact .inr rfl|assumption):A7 M A (storeName X.env x u) Q E s:=
 Ox I b hi hx r (λs' a _=>h s' a) c
theorem AU.call'{s':A2}{ch:O A1}(I:AU X AN σ H s)(a:s'.os=s.os)(u:Un (CS X.stack) ch H H' s.heap s'.heap)(d:yZ X.prog X.w H' s'.heap)(g:AllBare s'.gens)
  (f:∀b∈ch,(b∈X.ex\/X.s₀.heap.objs.size<=b)/\b≠X.env.locals/\(∀x c,X.env.cells.lookup x=U c->c≠b)/\∀p∈X.pn++AN,p.1≠b):AU X AN σ H' s':=by
 obtain⟨h',g',d',t',o'⟩:=s';have e:o'=s.os:=a;subst e;exact I.call (g':=g') (t':=t') (d':=d') u d g f
end
abbrev XK:=A0->Y A1->Hp->Prop
abbrev St:=O (Y V)
abbrev VK:=V->Hp->Prop
abbrev TE:=St->Hp->VK->Prop
abbrev TT:=St->Hp->(Bool->Hp->Prop)->Prop
abbrev TA:=St->Hp->(O V->Hp->Prop)->Prop
structure C3 where
 nx:St->Hp->Prop
 rt:VK
 bk:St->Hp->Prop:=λ_ _=>False
 ct:St->Hp->Prop:=λ_ _=>False
abbrev TS:=C3->St->Hp->Prop
def EP(X:Cx)(AN:O (A1×AE))(σ:St)(Q:VK)(u:A0)(s':A2):Prop:=∃v H',AU X AN σ H' s'/\As v u/\Q v H'
def TP(X:Cx)(AN:O (A1×AE))(σ:St)(Q:Bool->Hp->Prop)(b:Bool)(s':A2):Prop:=∃H',AU X AN σ H' s'/\Q b H'
def AP(X:Cx)(AN:O (A1×AE))(σ:St)(Q:O V->Hp->Prop)(us:O A0)(s':A2):Prop:=∃vs H',AU X AN σ H' s'/\AX vs us/\Q vs H'
def SP(X:Cx)(AN:O (A1×AE))(D:C3)(f:Flow)(s':A2):Prop:=
 match f with
 |.next=>∃ σ' H',AU X AN σ' H' s'/\D.nx σ' H'
 |.brk=>∃ σ' H',AU X AN σ' H' s'/\D.bk σ' H'
 |.cont=>∃ σ' H',AU X AN σ' H' s'/\D.ct σ' H'
 |.ret u=>∃v σ' H',AU X AN σ' H' s'/\As v u/\D.rt v H'
def PE(X:Cx)(e:Expr)(t:TE):Prop:=
 ∀(AN:O (A1×AE)) (s:A2) (σ:St) (H:Hp) (Q:VK),AU X AN σ H s->t σ H Q->A7 (en X) X.A (eval e X.env) (EP X AN σ Q) X.xe s
def PT(X:Cx)(e:Expr)(t:TT):Prop:=
 ∀(AN:O (A1×AE)) (s:A2) (σ:St) (H:Hp) (Q:Bool->Hp->Prop),AU X AN σ H s->t σ H Q->A7 (en X) X.A (isTrue e X.env (eval e X.env)) (TP X AN σ Q) X.xe s
def PW(X:Cx)(e:Expr)(t:TT):Prop:=
 ∀(a:Sem A0) (AN:O (A1×AE)) (s:A2) (σ:St) (H:Hp) (Q:Bool->Hp->Prop),AU X AN σ H s->t σ H Q->A7 (en X) X.A (isTrue e X.env a) (TP X AN σ Q) X.xe s
theorem PW.pt{X:Cx}{t:TT}(h:PW X e t):PT X e t:=h _
def PA(X:Cx)(es:O Expr)(t:TA):Prop:=
 ∀(pos:Pos) (AN:O (A1×AE)) (s:A2) (σ:St) (H:Hp) (Q:O V->Hp->Prop),AU X AN σ H s->t σ H Q->A7 (en X) X.A (spliced (AD pos (A9 es X.env))) (AP X AN σ Q) X.xe s
def PS(X:Cx)(st:AB)(t:TS):Prop:=
 ∀(AN:O (A1×AE)) (s:A2) (σ:St) (H:Hp) (D:C3),AU X AN σ H s->t D σ H->A7 (en X) X.A (exec st X.env) (SP X AN D) X.xe s
def KZ(X:Cx)(st:O AB)(t:TS):Prop:=
 ∀(AN:O (A1×AE)) (s:A2) (σ:St) (H:Hp) (D:C3),AU X AN σ H s->t D σ H->A7 (en X) X.A (execs st X.env) (SP X AN D) X.xe s
theorem jA{t:Sem α}{Q b:α->A2->Prop}(h:A7 M A t Q E s)(c:∀a s,Q a s->b a s):A7 M A t b E s:=ZI h c λ_ _ x=>x
end L2
namespace L2
section
variable{X:Cx}
def Fu(i:Nat):TE:=λσ H Q=>∃v,σ[i]?=U (U v)/\Q v H
def tC(v:V):TE:=λ_ H Q=>Q v H
theorem u0(n:X.N[i]?=U x)(o:KY X.env.scope x)(hd:ej x:=by decide)(j:(x==("__classdict__":AJ))=false:=by decide):PE X (.Name x pos) (Fu i):=by
 intro AN s σ H Q I h;obtain⟨v,e,h⟩:=h;obtain⟨m,g,k⟩:=I.loc;obtain⟨u,r,l⟩:=k i x v n e o;have a:EP X AN σ Q u s:=⟨v,H,I,r,h⟩;rcases l with⟨hk,f⟩|⟨hk,c,b,d⟩
 ·exact wpAny_Name (wpAny_loadName_local I.ok.kind hk g f a) hd
 ·rcases hk with hk|hk
  ·exact wpAny_Name (wpAny_loadName_cell I.ok.kind hk b d a) hd
  ·exact wpAny_Name (wpAny_loadName_free I.ok.kind hk b d a j) hd
theorem Yh{i j pos}:PE X (.Constant (.int i) j pos) (tC (.int i)):=λ_ _ _ H _ I h=>wpAny_Constant_int ⟨.int i,H,I.tok _,⟨_,rfl⟩,h⟩
theorem Ha{b j pos}:PE X (.Constant (.bool b) j pos) (tC (.bl b)):=λ_ _ _ H _ I h=>Constant_bool ⟨.bl b,H,I,rfl,h⟩
theorem Yi{j pos}:PE X (.Constant .none j pos) (tC .non):=λ_ _ _ H _ I h=>Constant_none ⟨.non,H,I,rfl,h⟩
theorem Yj{x j pos}:PE X (.Constant (.str x) j pos) (tC (.str x)):=λ_ _ _ H _ I h=>Calls.Constant_str ⟨.str x,H,I.tok _,⟨_,rfl⟩,h⟩
def Gl(X:Cx)(x:AJ):Prop:=X.env.kindOf x=U .globalImplicit
theorem Nk{σ:St}{H:Hp}(I:AU X AN σ H s)(b:Gl X x)(a:X.mg x=U u)(h:Q u s)(hd:ej x:=by decide):A7 (en X) X.A (eval (.Name x pos) X.env) Q E s:=
 Calls.Name_function_global I.ok.kind b (Calls.loadGlobal_global (by rw[I.ok.glob];exact I.mod.glob.keeps I.bk) a h) hd
theorem xQ{σ:St}{H:Hp}(I:AU X AN σ H s)(c:Gl X x)(a:X.mg x=Z)(d:AH x=U u)(h:Q u s)(b:x ≠ "__name__":=by decide)(hd:ej x:=by decide):A7 (en X) X.A (eval (.Name x pos) X.env) Q E s:=by
 obtain⟨e,h1,h2⟩:=I.mod.blt;exact Calls.Name_function_global I.ok.kind c (Calls.loadGlobal_builtin (by rw[I.ok.glob];exact I.mod.glob.keeps I.bk) a (by rw[I.ok.blt];exact h1.keeps I.bk) ((h2 x b).trans d) h) hd
theorem Nm{v:V}(d:Gl X x)(a:X.mg x=Z)(c:AH x=U u)(r:As v u)(b:x ≠ "__name__":=by decide)(hd:ej x:=by decide):PE X (.Name x pos) (tC v):=
 λ_ _ _ H _ I h=>xQ I d a c ⟨v,H,I,r,h⟩ b hd
variable{a b:Expr}{ta tb:TE}
variable{tA tB':TT}{AS:O Expr}
def Fs(t u:TT):TT:=λσ H Q=>t σ H λc H1=>if c=true then Q true H1 else u σ H1 Q
def Go(t:TT):TT:=λσ H Q=>t σ H λc H1=>Q (!c) H1
theorem Yk(b:PT X a tA):PW X (.BoolOp .Or [a] pos) tA:=by
 intro d AN s σ H Q I h;refine isTrue_or (jA (b AN s σ H Q I h) λc f e=>?_);cases c with
 |false=>exact isTrue_or_nil e
 |true=>exact e
theorem LH(f:PT X a tA)(e:PW X (.BoolOp .Or (b::AS) pos) tB'):PW X (.BoolOp .Or (a::b::AS) pos) (Fs tA tB'):=by
 intro d AN s σ H Q I h;refine isTrue_or (jA (f AN s σ H _ I h) λc s1 ⟨H1,I1,q1⟩=>?_);cases c with
 |true=>exact⟨H1,I1,q1⟩
 |false=>exact e d AN s1 σ H1 Q I1 q1
theorem Yl(b:PT X a tA):PT X (.UnaryOp .Not a pos) (Go tA):=by
 intro AN s σ H Q I h;exact isTrue_not (b AN s σ H (λc H1=>Q (!c) H1) I h)
def HL(ta tb:TE):TE:=λσ H Q=>ta σ H λx H1=>∃c,x=.bl c/\if c=true then tb σ H1 Q else Q (.bl false) H1
theorem Ym{op}{t:TE}(h:PE X a t):PE X (.BoolOp op [a] pos) t:=λAN s σ H Q I b=>BoolOp_one (h AN s σ H Q I b)
theorem Yn(e:PE X a ta)(d:PE X (.BoolOp .And (b::AS) pos) tb):PE X (.BoolOp .And (a::b::AS) pos) (HL ta tb):=by
 intro AN s σ H Q I h;refine BoolOp_and (jA (e AN s σ H _ I h) λv s1 ⟨x,H1,I1,r1,q1⟩=>?_);obtain⟨c,rfl,q1⟩:=q1;cases r1;refine qf ?_;cases c with
 |true=>exact d AN s1 σ H1 Q I1 q1
 |false=>exact⟨.bl false,H1,I1,rfl,q1⟩
end
end L2
namespace L2
def nA(K:B4)(H:Hp)(a:A1)(xs:O V):Prop:=
 Rd H a (.lst xs) ∨
  ∃(o:AE) (AQ:Array A0) (n:Nat),K.lookup a=U o/\o.cls=.type "list" ∧ o.dict=Z/\o.data=.seq AQ n/\AQ.size<=AA/\AX xs AQ.toList
def vV(K:B4)(H:Hp)(a:A1)(xs:O V):Prop:=
 Rd H a (.tup xs) ∨
  ∃(o:AE) (AQ:Array A0) (n:Nat),K.lookup a=U o/\(o.cls=.type "tuple" ∧ o.dict=Z)/\o.data=.seq AQ n/\AQ.size<=AA/\AX xs AQ.toList
def Yo:A0->Y V
 |.none=>U .non
 |.bool b=>U (.bl b)
 |.int i _=>U (.int i)
 |.str x _=>U (.str x)
 |.bytes b _=>U (.byt b)
 |.float b _=>U (.flt b)
 |.ref a=>U (.ref a)
 |.type n=>U (.ty n)
 |_=>Z
theorem As.abs{x:V}(r:As x u):Yo u=U x:=by
 cases x with
 |non=>cases r;rfl
 |bl _=>cases r;rfl
 |int _=>obtain⟨t,rfl⟩:=r;rfl
 |str _=>obtain⟨t,rfl⟩:=r;rfl
 |byt _=>obtain⟨t,rfl⟩:=r;rfl
 |flt _=>obtain⟨t,rfl⟩:=r;rfl
 |ref _=>cases r;rfl
 |ty _=>cases r;rfl
theorem As.inj{x y:V}{u:A0}(r:As x u)(q:As y u):x=y:=QA (r.abs.symm.trans q.abs)
theorem AX.inj:∀{xs ys:O V} {us:O A0},AX xs us->AX ys us->xs=ys
 |_,_,_,.nil,.nil=>rfl
 |_,_,_,.cons r t,.cons r' t'=>by rw[r.inj r',AX.inj t t']
section
variable{X:Cx}{σ:St}{H:Hp}{xs ys:O V}
theorem AU.list(I:AU X AN σ H s)(h:nA X.K H a xs):∃AQ:O A0,AX xs AQ/\PlainL s.heap a AQ.toArray/\xs.length<=AA:=by
 rcases h with h|⟨o,AQ,n,hk,b,hd,c,d,r⟩
 ·obtain⟨z,AQ,n,r,e⟩:=h.ok I.hok;exact⟨AQ,r,⟨_,n,e,rfl,rfl,rfl⟩,z⟩
 ·refine⟨AQ.toList,r,⟨o,n,I.Uo a o hk,b,hd,by simpa using c⟩,?_⟩;have e:=r.length;simp only[kG]at e;omega
theorem AU.tuple(I:AU X AN σ H s)(h:vV X.K H a xs):∃AQ:O A0,AX xs AQ/\IsTup s.heap a AQ.toArray/\xs.length<=AA:=by
 rcases h with h|⟨o,AQ,n,hk,b,c,d,r⟩
 ·obtain⟨z,AQ,r,p⟩:=h.ok I.hok;exact⟨AQ,r,p.weak,z⟩
 ·refine⟨AQ.toList,r,⟨o,I.Uo a o hk,b.1,n,by simpa using c⟩,?_⟩;have e:=r.length;simp only[kG]at e;omega
theorem AU.Ip(I:AU X AN σ H s)(h:nA X.K H a xs)(h':nA X.K H a ys):xs=ys:=by
 obtain⟨AQ,r,⟨o,n,e,_,_,d⟩,_⟩:=I.list h;obtain⟨f,c,⟨o',i,e',_,_,b⟩,_⟩:=I.list h';rw[e]at e';cases e';rw[d]at b;injection b with g _;have:AQ=f:=by simpa using congrArg dg g
 subst this;exact r.inj c
theorem AU.Eo(I:AU X AN σ H s)(h:vV X.K H a xs)(h':vV X.K H a ys):xs=ys:=by
 obtain⟨AQ,r,⟨o,e,_,n,d⟩,_⟩:=I.tuple h;obtain⟨f,c,⟨o',e',_,i,b⟩,_⟩:=I.tuple h';rw[e]at e';cases e';rw[d]at b;injection b with g _;have:AQ=f:=by simpa using congrArg dg g
 subst this;exact r.inj c
end
abbrev Cx.wish(X:Cx)(E:BE):Cx:={ X with xe:=E }
abbrev Cx.Uq(X:Cx):Cx:=X.wish λ_ _=>False
theorem Cx.Ok.wish{X:Cx}(ok:X.Ok)(E:BE):(X.wish E).Ok:=
 ⟨ok.mod,ok.kind,ok.glob,ok.blt,ok.above,ok.inj,ok.has,ok.cab,ok.hd,ok.frames,ok.stk,ok.exf,ok.bs,ok.Uw,ok.QF,ok.Ux,ok.Af,ok.frf,ok.tabs⟩
theorem Cx.Ok.qM{X:Cx}(ok:(X.wish E).Ok):X.Ok:=
 ⟨ok.mod,ok.kind,ok.glob,ok.blt,ok.above,ok.inj,ok.has,ok.cab,ok.hd,ok.frames,ok.stk,ok.exf,ok.bs,ok.Uw,ok.QF,ok.Ux,ok.Af,ok.frf,ok.tabs⟩
section
variable{X:Cx}{σ:St}{H:Hp}
theorem AU.wish(I:AU X AN σ H s)(E:BE):AU (X.wish E) AN σ H s:=⟨I.ok.wish E,I.os,I.bare,I.base,I.loc,I.cell,I.free,I.oh,I.pin,I.hok,I.len⟩
theorem AU.qM(I:AU (X.wish E) AN σ H s):AU X AN σ H s:=⟨I.ok.qM,I.os,I.bare,I.base,I.loc,I.cell,I.free,I.oh,I.pin,I.hok,I.len⟩
theorem SP.qM{D:C3}{f:Flow}{s':A2}(h:SP (X.wish E) AN D f s'):SP X AN D f s':=by
 cases f with
 |next=>obtain⟨σ',H',I,q⟩:=h;exact⟨σ',H',I.qM,q⟩
 |brk=>obtain⟨σ',H',I,q⟩:=h;exact⟨σ',H',I.qM,q⟩
 |cont=>obtain⟨σ',H',I,q⟩:=h;exact⟨σ',H',I.qM,q⟩
 |ret u=>obtain⟨v,σ',H',I,r,q⟩:=h;exact⟨v,σ',H',I.qM,r,q⟩
theorem KZ.Uq{st:O AB}{t:TS}(h:KZ X.Uq st t):KZ X st t:=λAN s σ H D I a=>
 ZI (h AN s σ H D (I.wish _) a) (λ_ _ q=>q.qM) λ_ _ z=>False.elim z
end
section
variable{X:Cx}{AS:O AB}{t u:TS}{te:TE}
def KS:TS:=λD σ H=>D.nx σ H
def LU(t u:TS):TS:=λD σ H=>t { D with nx:=u D } σ H
theorem Uy:KZ X [] KS:=λ_ _ σ H _ I h=>wpAny_execs_nil ⟨σ,H,I,h⟩
theorem Ag(h1:PS X st t)(h2:KZ X AS u):KZ X (st::AS) (LU t u):=by
 intro AN s σ H D I h;refine wpAny_execs_cons (jA (h1 AN s σ H { D with nx:=u D } I h) λf a q=>?_);cases f with
 |next=>
  obtain⟨σ',H',b,q⟩:=q;exact h2 AN a σ' H' D b q
 |ret v=>exact q
 |brk=>exact q
 |cont=>exact q
theorem AU.quiet{σ:St}{H:Hp}(I:AU X AN σ H s):interactive X.env=false:=by simp[interactive,I.ok.kind]
def LB(te:TE):TS:=λD σ H=>te σ H λ_ H1=>D.nx σ H1
theorem Np(a:PE X e te)(hs:swapsWith e Z pos.line X.env=pure false:=by rfl):PS X (.Expr e pos) (LB te):=by
 intro AN s σ H D I h;exact wpAny_Expr_any (jA (a AN s σ H _ I h) λv s1 ⟨x,H1,I1,r1,q1⟩=>⟨σ,H1,I1,q1⟩) I.quiet hs
def GT(te:TE):TS:=λD σ H=>te σ H D.rt
theorem QG(a:PE X e te):PS X (.Return (U e) pos) (GT te):=by
 intro AN s σ H D I h;exact wpAny_Return_some (jA (a AN s σ H _ I h) λv s1 ⟨x,H1,I1,r1,q1⟩=>⟨x,σ,H1,I1,r1,q1⟩)
def Kj(c:TT)(t u:TS):TS:=λD σ H=>c σ H λb H1=>if b=true then t D σ H1 else u D σ H1
theorem Hk{a b:O AB}{tc:TT}(e:PT X c tc)(g:KZ X a t)(f:KZ X b u):PS X (.If c a b pos) (Kj tc t u):=by
 intro AN s σ H D I h;refine wpAny_If (jA (e AN s σ H _ I h) λd s1 ⟨H1,I1,q1⟩=>?_);cases d with
 |true=>exact g AN s1 σ H1 D I1 q1
 |false=>exact f AN s1 σ H1 D I1 q1
end
abbrev TG:=V->St->Hp->(St->Hp->Prop)->Prop
abbrev W9:=O V->St->Hp->(St->Hp->Prop)->Prop
def PG(X:Cx)(a:Expr)(t:TG):Prop:=
 ∀(AN:O (A1×AE)) (s:A2) (σ:St) (H:Hp) (v:V) (u:A0) (Q:St->Hp->Prop),AU X AN σ H s->As v u->t v σ H Q →
  A7 (en X) X.A (assign a X.env u) (λ_ s'=>∃ σ' H',AU X AN σ' H' s'/\Q σ' H') X.xe s
def Oz(X:Cx)(ts:O Expr)(t:W9):Prop:=
 ∀(AN:O (A1×AE)) (s:A2) (σ:St) (H:Hp) (vs:O V) (us:O A0) (Q:St->Hp->Prop),AU X AN σ H s->AX vs us->t vs σ H Q →
  A7 (en X) X.A (assignInOrder ((assignEach ts X.env).map (·.2)) us) (λ_ s'=>∃ σ' H',AU X AN σ' H' s'/\Q σ' H') X.xe s
section
variable{X:Cx}
def Xa(i:Nat):TG:=λv σ H Q=>Q (σ.set i (U v)) H
theorem Nq(b:X.N.Nodup)(hi:X.N[i]?=U x)(hx:CI X.env.scope x)(c:X.fn x=true\/X.env.scope.names.lookup x=U .local:=by first|exact .inl rfl|exact .inr rfl|assumption):PG X (.Name x pos) (Xa i):=by
 intro AN s σ H v u Q I r h;exact wpAny_assign_Name (Io I b hi hx r (λs' a=>⟨_,H,a,h⟩) c)
def Kk:W9:=λvs σ H Q=>vs=[]/\Q σ H
def L0(t:TG)(u:W9):W9:=λvs σ H Q=>∃v r,vs=v::r/\t v σ H λσ' H'=>u r σ' H' Q
theorem Uz:Oz X [] Kk:=by
 intro AN s σ H vs us Q I r h;obtain⟨e,h⟩:=h;subst e;cases r;exact assignInOrder_nil ⟨σ,H,I,h⟩
theorem QH{t:TG}{u:W9}(h1:PG X e t)(h2:Oz X es u)(hs:(assignEach (e::es) X.env).map (·.2)=assign e X.env::(assignEach es X.env).map (·.2):=by rfl):Oz X (e::es) (L0 t u):=by
 intro AN s σ H vs us Q I r h;obtain⟨v,b,e1,h⟩:=h;subst e1;cases r with
 |cons r a=>
  rw[hs];refine assignInOrder_cons (jA (h1 AN s σ H _ _ _ I r h) λ_ s1 ⟨σ1,H1,I1,q1⟩=>?_);exact h2 AN s1 σ1 H1 _ _ Q I1 a q1
def LL(K:B4)(n:Nat)(t:W9):TG:=λv σ H Q=>∃a xs,v=.ref a/\vV K H a xs/\xs.length=n/\t xs σ H Q
theorem Yp{t:W9}(i:X.calm=true)(h:Oz X es t)(j:(assignEach es X.env).length=n:=by rfl)(g:(assignEach es X.env).findIdx? (·.1)=Z:=by rfl):PG X (.Tuple es k pos) (LL X.K n t):=by
 intro AN s σ H v u Q I r c;obtain⟨a,xs,e1,p,l,c⟩:=c;subst e1;cases r;obtain⟨AQ,d,f,q⟩:=I.tuple p;refine assign_Tuple_tuple (I.ok.hd i) f (by simp[j,<-l,d.length]) g λh' hx=>?_;have m:AU X AN σ H { s with heap:=h' }:=I.kept (t':=s.toks) λb o e=>hx b o (z4 (zt e)) e;exact h AN _ σ H xs _ Q m (by simpa using d) c
def GA(te:TE)(g:TG):TS:=λD σ H=>te σ H λx H1=>g x σ H1 D.nx
theorem Gr{te:TE}{pos':Pos}(c:X.N.Nodup)(hi:X.N[i]?=U x)(hx:CI X.env.scope x)(a:PE X e te)(hs:swapsWith e (U (.Name x pos')) pos.line X.env=pure false:=by rfl)(d:X.fn x=true\/X.env.scope.names.lookup x=U .local:=by first|exact .inl rfl|exact .inr rfl|assumption):
  PS X (.Assign [.Name x pos'] e pos) (GA te (Xa i)):=by
 intro AN s σ H D I h;refine wpAny_Assign_Name (jA (a AN s σ H _ I h) λv s1 ⟨y,H1,I1,r1,q1⟩=>?_) hs;exact Io I1 c hi hx r1 (λf b=>⟨_,H1,b,q1⟩) d
end
structure It where
 go:Nat->Hp->Prop
 yld:Nat->Hp->V->Hp->Prop
 stop:Nat->Hp->Prop
def qI(X:Cx)(AN:O (A1×AE))(H:Hp)(b:A1):Prop:=
 H b=Z/\b≠X.env.locals/\b∉X.fs/\(b∈X.ex\/X.s₀.heap.objs.size<=b)/\(∀x c,X.env.cells.lookup x=U c->c≠b)/\∀p∈X.pn++AN,p.1≠b
theorem AU.UG{X:Cx}{σ:St}{H H':Hp}{b:A1}(I:AU X AN σ H s)(a:s.heap.objs.size<=b)(d:H' b=Z):qI X AN H' b:=by
 refine⟨d,aS (zS I.lt a),I.Ye a,.inr (zD I.sz a),λx c e z=>?_,λp hp z=>?_⟩
 ·obtain⟨v,q⟩:=I.cell x c e;exact absurd (zS q.lt (by rw[z];exact a)) (Q3 _)
 ·exact absurd (zS (zt (I.pin p hp).1) (by rw[z];exact a)) (Q3 _)
structure CC (P:Program) (w:World) (K:B4) (tg:Expr) (J:It) (fp:List Addr) (it:Addr) (tn:Nat->Heap->Prop):Prop where
 mem:it∈fp
 obj:∀i h,tn i h->∀b∈fp,∃o,h.get? b=some o/\∀v,o.data≠.cell v
 keep:∀i h h',tn i h->(∀b∈fp,∀o,h.get? b=some o->h'.get? b=some o)->tn i h'
 item:∀(X:Cx),X.prog=P->X.w=w->X.K=K->X.calm=true->∀(i:Nat) (AN:List (Addr×Obj)) (s:Shared) (σ:St) (H:Hp) (E:BE),AU X AN σ H s->(∀b∈fp,qI X AN H b)->tn i s.heap->J.go i H →
  wpAny (model P w) X.A (pyNext (.ref it)) (λr s1=>∃u,r=some u ∧
   wpAny (model P w) X.A (letOwnedTupleGo tg (.ref it) u) (λ_ s2=>∃x H',AU X AN σ H' s2/\As x u/\J.yld i H x H'/\tn (i+1) s2.heap/\∀b∈fp,H' b=none) E s1) E s
 done:∀(X:Cx),X.prog=P->X.w=w->X.K=K->X.calm=true->∀(i:Nat) (AN:List (Addr×Obj)) (s:Shared) (σ:St) (H:Hp) (E:BE),AU X AN σ H s->(∀b∈fp,qI X AN H b)->tn i s.heap->J.stop i H →
  wpAny (model P w) X.A (pyNext (.ref it)) (λr s1=>r=none/\AU X AN σ H s1) E s
 self:∀(A:Around) (i:Nat) (s:Shared) (Q:BE) (E:BE),tn i s.heap->Q (.ref it) s->wpAny (model P w) A (pyIter (.ref it)) Q E s
abbrev TI:=St->Hp->(It->Hp->Prop)->Prop
def FD(X:Cx)(AN:O (A1×AE))(σ:St)(tg:Expr)(R:It->Hp->Prop)(c:A0)(a:A2):Prop:=
 ∃(it:A1) (fp:O A1) (tn:Nat->A6->Prop) (J:It) (H':Hp),c=.ref it/\AU X AN σ H' a/\CC X.prog X.w X.K tg J fp it tn/\tn 0 a.heap/\(∀b∈fp,qI X AN H' b)/\R J H'
def PI(X:Cx)(tg iter:Expr)(b:TI):Prop:=
 ∀(AN:O (A1×AE)) (s:A2) (σ:St) (H:Hp) (R:It->Hp->Prop),AU X AN σ H s->b σ H R →
  A7 (en X) X.A (eval iter X.env) (λv a=>A7 (en X) X.A (pyIter v) (FD X AN σ tg R) X.xe a) X.xe s
theorem Ir{o:AE}{n:String}{vs:Array A0}{Q:Unit->A2->Prop}(b:s.heap.get? it=U o)(d:o.cls=.type n)(hd:o.data=.fields vs)(c:["enumerate","zip","dict_itemiterator","dict_reverseitemiterator","odict_iterator","itertools.zip_longest","itertools.pairwise"].contains n=false)(a:Q eu s):A7 M A (letOwnedTupleGo tg (.ref it) u) Q E s:=by
 unfold letOwnedTupleGo;cases tg<;>first
  |exact zd a
  |(cases u<;>first
    |exact zd a
    |(refine zb (wpAny_load b ?_)
      rw[d,hd];show A7 M A (if(["enumerate","zip","dict_itemiterator","dict_reverseitemiterator","odict_iterator","itertools.zip_longest","itertools.pairwise"].contains n&&vs[0]?==U (rawInt _))=true then _ else _) Q E s;rw[zI (by intro h;rw[c,cr]at h;cases h)];exact zd a))
def Dx(K:B4)(a:A1):It:=
 ⟨λi H=>∃xs x,nA K H a xs/\xs[i]?=U x,λi H x H'=>H'=H/\∀xs,nA K H a xs->xs[i]?=U x,λi H=>∃xs,nA K H a xs/\xs.length<=i⟩
def EM(K:B4)(a:A1):It:=
 ⟨λi H=>∃xs x,vV K H a xs/\xs[i]?=U x,λi H x H'=>H'=H/\∀xs,vV K H a xs->xs[i]?=U x,λi H=>∃xs,vV K H a xs/\xs.length<=i⟩
def EG(lo:Int)(n:Nat):It:=⟨λi _=>i<n,λi H x H'=>H'=H/\x=.int (lo+i),λi _=>n<=i⟩
theorem OD(a it:A1):CC P w K tg (Dx K a) [it] it (λi h=>h.IsListIter it a i) where
 mem:=by simp
 obj:=λi h st b f=>by
  have e:b=it:=by simpa using f
  subst e;obtain⟨o,e,c,d⟩:=st;exact⟨o,e,λv z=>by rw[d]at z;cases z⟩
 keep:=λi h h' st k=>st.at λo e=>k it (by simp) o e
 item:=by
  intro X B A l D i AN s σ H E I j st t;subst B A l;obtain⟨xs,x,g,hx⟩:=t;obtain⟨AQ,q,p,L⟩:=I.list g;obtain⟨u,J,G⟩:=q.get hx;obtain⟨f0,f1,f2,n,m,y⟩:=j it (by simp);refine wpAny_pyNext_list_item st p.isList (x:=u) (by simpa using J) λh' C F=>?_;have M:AU X AN σ H { s with heap:=h' }:=I.turned (t':=s.toks) (λb o f e=>(F.2 b f).trans e) f0 f1 n m y;obtain⟨o,e,c,d⟩:=id C;exact⟨u,rfl,Ir (s:={ s with heap:=h' }) e c d () ⟨x,H,M,G,⟨rfl,λys N=>by rw[I.Ip N g];exact hx⟩,C,λb f=>(j b f).1⟩⟩
 done:=by
  intro X B A l D i AN s σ H E I j st t;subst B A l;obtain⟨xs,g,hx⟩:=t;obtain⟨AQ,q,p,L⟩:=I.list g;obtain⟨f0,f1,f2,n,m,y⟩:=j it (by simp);have Q:=q.length;exact wpAny_pyNext_list_end (I.ok.hd D) st p.isList (by simp;omega) λh' eb=>⟨rfl,I.turned (t':=s.toks) (λb o f e=>eb b o f e) f0 f1 n m y⟩
 self:=λ_ _ _ _ _ st h=>wpAny_pyIter_listiter st h
theorem K1(a it:A1):CC P w K tg (EM K a) [it] it (λi h=>h.IsTupleIter it a i) where
 mem:=by simp
 obj:=λi h st b f=>by
  have e:b=it:=by simpa using f
  subst e;obtain⟨o,e,c,d⟩:=st;exact⟨o,e,λv z=>by rw[d]at z;cases z⟩
 keep:=λi h h' st k=>st.at λo e=>k it (by simp) o e
 item:=by
  intro X B A l D i AN s σ H E I j st t;subst B A l;obtain⟨xs,x,g,hx⟩:=t;obtain⟨AQ,q,p,L⟩:=I.tuple g;obtain⟨u,J,G⟩:=q.get hx;obtain⟨f0,f1,f2,n,m,y⟩:=j it (by simp);refine wpAny_pyNext_tuple_item st (show s.heap.IsTuple a AQ.toArray from p) (x:=u) (by simpa using J) λh' C F=>?_;have M:AU X AN σ H { s with heap:=h' }:=I.turned (t':=s.toks) (λb o f e=>(F.2 b f).trans e) f0 f1 n m y;obtain⟨o,e,c,d⟩:=id C;exact⟨u,rfl,Ir (s:={ s with heap:=h' }) e c d () ⟨x,H,M,G,⟨rfl,λys N=>by rw[I.Eo N g];exact hx⟩,C,λb f=>(j b f).1⟩⟩
 done:=by
  intro X B A l D i AN s σ H E I j st t;subst B A l;obtain⟨xs,g,hx⟩:=t;obtain⟨AQ,q,p,L⟩:=I.tuple g;obtain⟨f0,f1,f2,n,m,y⟩:=j it (by simp);have Q:=q.length;exact wpAny_pyNext_tuple_end (I.ok.hd D) st (show s.heap.IsTuple a AQ.toArray from p) (by simp;omega) λh' eb=>⟨rfl,I.turned (t':=s.toks) (λb o f e=>eb b o f e) f0 f1 n m y⟩
 self:=λ_ _ _ _ _ st h=>wpAny_pyIter_tupleiter st h
theorem K3(it:A1)(lo:Int)(n:Nat):CC P w K tg (EG lo n) [it] it (λi h=>IsRangeIter h it (lo+(i:Nat)*1) ((n:Int)-(i:Nat)) 1) where
 mem:=by simp
 obj:=λi h st b a=>by
  have e:b=it:=by simpa using a
  subst e;exact⟨_,st,λv z=>by
   have x:Data.fields _=Data.cell v:=z;cases x⟩
 keep:=λi h h' st k=>k it (by simp) _ st
 item:=by
  intro X q p j d i AN s σ H E I c st l;subst q p j;obtain⟨f0,f1,f2,g,f,m⟩:=c it (by simp);have W:=Walks.range (prog:=X.prog) (w:=X.w) (I.ok.hd d) it lo 1 n;refine W.item i s _ _ l st λv h' tk A u kk=>?_;obtain⟨t,rfl⟩:=A;have y:AU X AN σ H { s with heap:=h',toks:=tk }:=I.turned (λb o a e=>kk b o (by simpa using a) e) f0 f1 g f m;refine⟨_,rfl,Ir (s:={ s with heap:=h',toks:=tk }) (n :="range_iterator") u S S () ⟨.int (lo+i),H,y,⟨t,?_⟩,⟨rfl,rfl⟩,u,λb a=>(c b a).1⟩⟩;rw[Int.mul_one]
 done:=by
  intro X q p j d i AN s σ H E I c st l;subst q p j;obtain⟨f0,f1,f2,g,f,m⟩:=c it (by simp);exact wpAny_pyNext_range_end (I.ok.hd d) st (by have:n<=i:=l;omega) λh' eb=>⟨rfl,I.turned (t':=s.toks) (λb o a e=>eb b o a e) f0 f1 g f m⟩
 self:=λ_ _ _ _ _ st h=>wpAny_pyIter_rangeiter st h
end L2
namespace L2
section
variable{X:Cx}
theorem QJ{σ:St}{H:Hp}{R:It->Hp->Prop}{lo hi:Int}{t u v:Tok}{tk:Nat}(I:AU X AN σ H s)(h1 : -(2 ^ 62)<=lo)(h2:lo<2 ^ 62)(c : -(2 ^ 62)<=hi)(f:hi<2 ^ 62)(q:R (EG lo (hi-lo).toNat) H):A7 (en X) X.A (pyIter (.ref s.heap.objs.size)) (FD X AN σ tg R) E { s with heap:=s.heap.push { cls:=.type "range",data:=.fields #[.int lo t,.int hi u,.int 1 v] },toks:=tk }:=by
 refine wpAny_pyIter_range (IsRange.new ..) (small_one h1 h2 c f) ?_;have a:AU X AN σ H { s with heap:=s.heap.push { cls:=.type "range",data:=.fields #[.int lo t,.int hi u,.int 1 v] },toks:=tk }:=I.kept λb o e=>zh _ e;refine⟨(s.heap.push { cls:=.type "range",data:=.fields #[.int lo t,.int hi u,.int 1 v] }).objs.size,[(s.heap.push { cls:=.type "range",data:=.fields #[.int lo t,.int hi u,.int 1 v] }).objs.size],_,_,H,rfl,
  a.kept (t':=tk) λb o e=>zh _ e,K3 _ lo (hi-lo).toNat,?_,λb d=>?_,q⟩
 ·have e1:lo+((0:Nat):Int)*1=lo:=by simp
  have e2:(((hi-lo).toNat:Nat):Int)-((0:Nat):Int)=Builtin.Range.rangeSize lo hi 1:=by rw[rangeSize_one];split<;>omega
  show IsRangeIter _ _ (lo+((0:Nat):Int)*1) ((((hi-lo).toNat:Nat):Int)-((0:Nat):Int)) 1;rw[e1,e2];exact zw _ rfl
 ·have e:b=(s.heap.push { cls:=.type "range",data:=.fields #[.int lo t,.int hi u,.int 1 v] }).objs.size:=by simpa using d
  subst e;exact a.UG (zl _) (a.hok.fresh (zl _))
def GO(ta:TA):TI:=λσ H R=>ta σ H λvs H1=>∃j:Int,vs=[.int j] ∧ -(2 ^ 62)<=j/\j<2 ^ 62/\R (EG 0 j.toNat) H1
theorem OJ{a:Expr}{ta:TA}{p:Pos}(f:Gl X "range")(b:X.mg "range"=Z)(c:PA X [a] ta)(hs:A9 [a] X.env=[(false,eval a X.env)]:=by rfl):PI X tg (.Call (.Name "range" p) [a] [] pos) (GO ta):=by
 intro AN s σ H R I h;refine Call_ (xQ I f b boot_range (PyProof.Rows.callWith_type1 (jA (c pos AN s σ H _ I h) λus s1 ⟨vs,H1,I1,r1,q1⟩=>?_) hs S));obtain⟨j,e,q1,q2,q⟩:=q1;subst e;cases r1 with
 |cons r d=>
  cases d;obtain⟨t,rfl⟩:=r;exact call_range_1 (QJ I1 () () q1 q2 (by simpa using q))
def Kn(c:TI)(g:TG)(tb:TS):TS:=λD σ H=>c σ H λJ H1=>∃W:Nat->Nat->St->Hp->Prop,(∃m,W 0 m σ H1)/\∀i m σ H,W i m σ H →
 (J.stop i H/\D.nx σ H)\/(J.go i H/\∃N:St->Hp->Prop,(∀ σ' H',N σ' H'->∃a,a<m/\W (i+1) a σ' H')/\∀x H',J.yld i H x H'->g x σ H' λb H2=>tb { D with nx:=N,ct:=N,bk:=D.nx } b H2)
def xR(fp:O A1)(h:A6):O (A1×AE):=fp.filterMap λb=>(h.get? b).map λo=>(b,o)
theorem pG{b:A1}{o:AE}(a:b∈fp)(e:h.get? b=U o):(b,o)∈xR fp h:=bi.mpr ⟨b,a,by rw[e];rfl⟩
theorem O1{p:A1×AE}(hp:p∈xR fp h):p.1∈fp/\h.get? p.1=U p.2:=by
 obtain⟨b,a,e⟩:=bi.mp hp;cases q:h.get? b with
 |none=>rw[q]at e;cases e
 |some o=>
  rw[q]at e;have e':(b,o)=p:=QA e;subst e';exact⟨a,q⟩
theorem AU.pinned{σ:St}{H:Hp}(I:AU X AN σ H s)(f:∀b∈fp,qI X AN H b)(c:∀b∈fp,∃o,s.heap.get? b=U o/\∀v,o.data≠.cell v):AU X (AN++xR fp s.heap) σ H s:=
 I.vY λp hp=>(ai.mp hp).elim (λz=>I.pin p (zz _ z)) λz=>by
  obtain⟨a,e⟩:=O1 z;obtain⟨f0,f1,f2,_⟩:=f p.1 a;obtain⟨o,e',d⟩:=c p.1 a;rw[e]at e';cases e';exact⟨e,f0,f1,f2,d⟩
theorem AU.qN{pl:O (A1×AE)}{σ:St}{H:Hp}(I:AU X (AN++pl) σ H s):AU X AN σ H s:=I.vY λp hp=>I.pin p (zz _ (cE _ hp))
theorem QK{B:TI}{g:TG}{tb:TS}(hp:PassesOwn (en X) X.A X.env X.xe)(G:X.calm=true)(hi:PI X tg iter B)(hg:PG X tg g)(c:KZ X body tb)(hs:∀x,foldedSetIterable iter X.env x=pure x:=by intro _;rfl):PS X (.For tg iter body [] pos) (Kn B g tb):=by
 intro AN s σ H D I h;refine wpAny_For (jA (hi AN s σ H _ I h) λv s1 h1=>jA h1 λa3 s2 h2=>?_) hs;obtain⟨it,fp,tn,J,H2,e,M,T,a0,f2,W,⟨m0,P⟩,turn⟩:=h2;subst e;have z:∀{H':Hp},(∀b∈fp,H' b=Z)->∀b∈fp,qI X AN H' b:=λhn b c=>⟨hn b c,(f2 b c).2⟩;refine codeAny_forLoop_any (λn s'=>∃i σ' H',AU X AN σ' H' s'/\tn i s'.heap/\(∀b∈fp,H' b=Z)/\W i n σ' H') ?_ m0 ⟨0,σ,H2,M,a0,λb c=>(f2 b c).1,P⟩;rintro n E ⟨i,q,t,K,F,L,w3⟩;rcases turn i n q t w3 with⟨a2,qn⟩|⟨go,N,Q,step⟩
 ·refine kB hp (jA (T.done X S S S G i AN E q t X.xe K (z L) F a2) λr s4 ⟨hr,I4⟩=>?_);subst hr;exact wpAny_execs_nil ⟨q,t,I4,qn⟩
 ·refine kB hp (jA (T.item X S S S G i AN E q t X.xe K (z L) F go) λr s4 ⟨u,hr,h4⟩=>?_);subst hr;refine kB hp (jA h4 λ_ s5 ⟨x,H5,I5,r5,y5,st5,fr5⟩=>?_);have a1:=I5.pinned (z fr5) (T.obj _ _ st5);refine kB hp (jA (hg _ s5 q H5 x u _ a1 r5 (step x H5 y5)) λ_ s6 ⟨σ6,H6,I6,q6⟩=>?_);refine kB hp (jA (c _ s6 σ6 H6 _ I6 q6) λf y l=>?_);have C:∀{k:St} {a:Hp},AU X (AN++xR fp s5.heap) k a y->N k a->∃m,m<n/\∃i σ' H',AU X AN σ' H' y/\tn i y.heap/\(∀b∈fp,H' b=Z)/\W i m σ' H':=λ{k a} j p=>by
   obtain⟨m',hm,w7⟩:=Q k a p;refine⟨m',hm,i+1,k,a,j.qN,T.keep _ _ _ st5 λb c o e=>(j.pin (b,o) (zz _ (zz _ (pG c e)))).1,λb c=>?_,w7⟩;obtain⟨o,e,d⟩:=T.obj _ _ st5 b c;exact(j.pin (b,o) (zz _ (zz _ (pG c e)))).2.1
  cases f with
  |next=>obtain⟨k,a,j,p⟩:=l;exact C j p
  |cont=>obtain⟨k,a,j,p⟩:=l;exact C j p
  |brk=>obtain⟨k,a,j,l⟩:=l;exact⟨k,a,j.qN,l⟩
  |ret v=>obtain⟨x7,k,a,j,r7,l⟩:=l;exact⟨x7,k,a,j.qN,r7,l⟩
end
end L2
namespace L2
abbrev R2:=V->V->Hp->VK->Prop
def xT(X:Cx)(f:A0->A0->Sem A0)(r:R2):Prop:=
 ∀(AN:O (A1×AE)) (s:A2) (σ:St) (H:Hp) (x y:V) (v u:A0) (Q:VK),AU X AN σ H s->As x v->As y u->r x y H Q →
  A7 (en X) X.A (f v u) (EP X AN σ Q) X.xe s
def Xb(X:Cx)(f:A0->Sem A0)(r:V->Hp->VK->Prop):Prop:=
 ∀(AN:O (A1×AE)) (s:A2) (σ:St) (H:Hp) (x:V) (v:A0) (Q:VK),AU X AN σ H s->As x v->r x H Q →
  A7 (en X) X.A (f v) (EP X AN σ Q) X.xe s
def eY(X:Cx)(f:A0)(r:O V->Hp->VK->Prop):Prop:=
 ∀(AN:O (A1×AE)) (s:A2) (σ:St) (H:Hp) (xs:O V) (us:O A0) (Q:VK),AU X AN σ H s->AX xs us->r xs H Q →
  A7 (en X) X.A (call f us) (EP X AN σ Q) X.xe s
def L4(X:Cx)(r:V->Hp->(Bool->Hp->Prop)->Prop):Prop:=
 ∀(AN:O (A1×AE)) (s:A2) (σ:St) (H:Hp) (x:V) (v:A0) (Q:Bool->Hp->Prop),AU X AN σ H s->As x v->r x H Q →
  A7 (en X) X.A (truthy v) (TP X AN σ Q) X.xe s
def DJ(r:R2)(ta tb:TE):TE:=λσ H Q=>ta σ H λx H1=>tb σ H1 λy H2=>r x y H2 Q
def FB(r:V->Hp->VK->Prop)(ta:TE):TE:=λσ H Q=>ta σ H λx H1=>r x H1 Q
def rI(C:Int->Int->Prop)(g:Int->Int->V):R2:=λx y H Q=>∃i j,x=.int i/\y=.int j/\C i j/\Q (g i j) H
def Yq(g:Int->Int->V):R2:=λx y H Q=>∃i j,x=.int i/\y=.int j/\Q (g i j) H
def rU(g:Int->V):V->Hp->VK->Prop:=λx H Q=>∃i,x=.int i/\Q (g i) H
section
variable{X:Cx}{a b:Expr}{ta tb tc:TE}
theorem Yr(g:PE X a ta)(i:PE X b tb){σ:St}{H:Hp}{R:V->V->Hp->Prop}(I:AU X AN σ H s)(h:ta σ H λx H1=>tb σ H1 λy H2=>R x y H2){f:A0->A0->Sem A0}(j:∀v u c x y H2,AU X AN σ H2 c->As x v->As y u->R x y H2->A7 (en X) X.A (f v u) Q X.xe c):
  A7 (en X) X.A (eval a X.env) (λv e=>A7 (en X) X.A (eval b X.env) (λu d=>A7 (en X) X.A (f v u) Q X.xe d) X.xe e) X.xe s:=by
 refine jA (g AN s σ H _ I h) λv s1 ⟨x,H1,I1,r1,q1⟩=>?_;refine jA (i AN s1 σ H1 _ I1 q1) λu c ⟨y,H2,I2,r2,q2⟩=>?_;exact j v u c x y H2 I2 r1 r2 q2
theorem GM{op:Operator}{r:R2}(c:xT X (binaryOp op) r)(i:PE X a ta)(j:PE X b tb):PE X (.BinOp a op b pos) (DJ r ta tb):=by
 intro AN s σ H Q I h;exact wpAny_BinOp (Yr i j I h λv u f x y H2 d e g q=>c AN f σ H2 x y v u Q d e g q)
theorem KA{op:UnaryOp}{r:V->Hp->VK->Prop}(b:Xb X (unaryOp op) r)(c:PE X a ta):PE X (.UnaryOp op a pos) (FB r ta):=by
 intro AN s σ H Q I h;exact UnaryOp_ (jA (c AN s σ H _ I h) λv s1 ⟨x,H1,I1,r1,q1⟩=>b AN s1 σ H1 x v Q I1 r1 q1)
theorem E8{f:A0->A0->Sem A0}{C:Int->Int->Prop}{g:Int->Int->Int}
  (b:∀(i j:Int) (t u:Tok) (s:A2) (Q:BE) (E:BE),C i j->Q (.int (g i j) s.toks) { s with toks:=s.toks+1 }->A7 (en X) X.A (f (.int i t) (.int j u)) Q E s):
  xT X f (rI C λi j=>.int (g i j)):=by
 intro AN s σ H x y v u Q I c e h;obtain⟨i,j,rfl,rfl,a,q⟩:=h;obtain⟨t,rfl⟩:=c;obtain⟨d,rfl⟩:=e;exact b i j t d s _ _ a ⟨.int (g i j),H,I.tok _,⟨_,rfl⟩,q⟩
theorem FY{f:A0->A0->Sem A0}{g:Int->Int->Int}
  (b:∀(i j:Int) (t u:Tok) (s:A2) (Q:BE) (E:BE),Q (.int (g i j) s.toks) { s with toks:=s.toks+1 }->A7 (en X) X.A (f (.int i t) (.int j u)) Q E s):
  xT X f (Yq λi j=>.int (g i j)):=by
 intro AN s σ H x y v u Q I d c h;obtain⟨i,j,rfl,rfl,q⟩:=h;obtain⟨t,rfl⟩:=d;obtain⟨a,rfl⟩:=c;exact b i j t a s _ _ ⟨.int (g i j),H,I.tok _,⟨_,rfl⟩,q⟩
theorem Ys{f:A0->A0->Sem A0}{g:Int->Int->Bool}
  (b:∀(i j:Int) (t u:Tok) (s:A2) (Q:BE) (E:BE),Q (.bool (g i j)) s->A7 (en X) X.A (f (.int i t) (.int j u)) Q E s):
  xT X f (Yq λi j=>.bl (g i j)):=by
 intro AN s σ H x y v u Q I d c h;obtain⟨i,j,rfl,rfl,q⟩:=h;obtain⟨t,rfl⟩:=d;obtain⟨a,rfl⟩:=c;exact b i j t a s _ _ ⟨.bl (g i j),H,I,rfl,q⟩
def IR(i j:Int):Prop:=0<j/\j<1073741824
def HP(i j:Int):Prop:=0<=j/\j<=1000000/\i.natAbs<2 ^ 64
def Yt(i j:Int):Prop:=(-(2 ^ 64)<i/\i<2 ^ 64)\/(-(2 ^ 64)<j/\j<2 ^ 64)
theorem Yt.ok{i j:Int}(h:Yt i j):IntMulOk i j:=by
 rcases h with⟨h1,h2⟩|⟨h1,h2⟩
 ·exact .of_left (intBits_le_64 h1 h2)
 ·exact .of_right (intBits_le_64 h1 h2)
theorem Yu:xT X (binaryOp .Add) (Yq λi j=>.int (i+j)):=FY λ_ _ _ _ _ _ _ q=>add_int q
theorem Yv:xT X (binaryOp .Sub) (Yq λi j=>.int (i-j)):=FY λ_ _ _ _ _ _ _ q=>sub_int q
theorem Yw:xT X (binaryOp .Mult) (rI Yt λi j=>.int (i*j)):=E8 λ_ _ _ _ _ _ _ a q=>mul_int q a.ok
theorem UJ:xT X (binaryOp .FloorDiv) (rI IR λi j=>.int (i / j)):=E8 λi j _ _ _ _ _ a q=>by
 have h1:(0:Int)<j:=a.1;have h2:j<1073741824:=a.2;exact floordiv_int () (by rw[Int.fdiv_eq_ediv_of_nonneg i ()];exact q) (.inl (PyProof.noPylong_small ()))
theorem Yx:xT X (binaryOp .Mod) (rI (λ_ j=>0<j) λi j=>.int (i%j)):=E8 λi j _ _ _ _ _ a q=>by
 have h1:(0:Int)<j:=a;exact mod_int' () (by rw[Int.fmod_eq_emod_of_nonneg i ()];exact q)
theorem Yy:xT X (binaryOp .Pow) (rI HP λi j=>.int (i ^ j.toNat)):=E8 λ_ _ _ _ _ _ _ a q=>pow_int_small a.1 a.2.1 a.2.2 q
theorem L6{f:A0->Sem A0}{g:Int->Int}
  (a:∀(i:Int) (t:Tok) (s:A2) (Q:BE) (E:BE),Q (.int (g i) s.toks) { s with toks:=s.toks+1 }->A7 (en X) X.A (f (.int i t)) Q E s):
  Xb X f (rU λi=>.int (g i)):=by
 intro AN s σ H x v Q I b h;obtain⟨i,rfl,q⟩:=h;obtain⟨t,rfl⟩:=b;exact a i t s _ _ ⟨.int (g i),H,I.tok _,⟨_,rfl⟩,q⟩
theorem Yz:Xb X (unaryOp .USub) (rU λi=>.int (-i)):=L6 λ_ _ _ _ _ q=>neg_int q
theorem QL{σ:St}{H:Hp}{Q:VK}{k a:Bool}(I:AU X AN σ H s)(q:Q (.bl k) H)(e:k=a):EP X AN σ Q (.bool a) s:=by
 subst e;exact⟨.bl k,H,I,rfl,q⟩
theorem IF:xT X (AG .Lt) (Yq λi j=>.bl (decide (i<j))):=Ys λ_ _ _ _ _ _ _ q=>lt_int q
theorem HC:xT X (AG .Gt) (Yq λi j=>.bl (decide (j<i))):=Ys λ_ _ _ _ _ _ _ q=>gt_int q
theorem LF:xT X (AG .GtE) (Yq λi j=>.bl (decide (j<=i))):=Ys λ_ _ _ _ _ _ _ q=>ge_int q
theorem O2:xT X (AG .In) (λx y H Q=>∃i j,x=.str i/\y=.str j/\Q (.bl (!(Builtin.Str.occurrences j i 0 j.length 1).isEmpty)) H):=by
 intro AN s σ H x y v u Q I b a h;obtain⟨i,j,rfl,rfl,q⟩:=h;obtain⟨t,rfl⟩:=b;obtain⟨c,rfl⟩:=a;exact in_str (QL I q S)
theorem UL:xT X (AG .IsNot) (λx y H Q=>y=.non/\Q (.bl (!decide (x=.non))) H):=by
 intro AN s σ H x y v u Q I a b h;obtain⟨rfl,q⟩:=h;cases b;refine isnot_none_gen (QL I q ?_);cases x<;>first
  |(cases a;rfl)
  |(obtain⟨t,rfl⟩:=a;rfl)
theorem cH(b:Expr)(h:op≠.In:=by decide)(h2:op≠.NotIn:=by decide):behindInMarks op b=false:=by
 have e1:(op==CmpOp.In)=false:=by cases op<;>first|rfl|exact absurd S h
 have e2:(op==CmpOp.NotIn)=false:=by cases op<;>first|rfl|exact absurd S h2
 cases b<;>simp[behindInMarks,e1,e2]
theorem UW{r:R2}(c:xT X (AG op) r)(j:PE X a ta)(k:PE X b tb)(f:behindInMarks op b=false):PE X (.Compare a [op] [b] pos) (DJ r ta tb):=by
 intro AN s σ H Q I h;exact wpAny_Compare1 (Yr j k I h λv u g x y H2 d e i q=>c AN g σ H2 x y v u Q d e i q) f
def LI(t:TE):TT:=λσ H Q=>t σ H λx H'=>∃k,x=.bl k/\Q k H'
theorem U0{r:R2}(f:xT X (AG op) r)(i:PE X a ta)(g:PE X b tb)(d:behindInMarks op b=false):PT X (.Compare a [op] [b] pos) (LI (DJ r ta tb)):=by
 intro AN s σ H Q I h;refine wpAny_isTrue_Compare1 (jA (i AN s σ H _ I h) λv s1 ⟨x,H1,I1,r1,q1⟩=>jA (g AN s1 σ H1 _ I1 q1) λu s2 ⟨y,H2,I2,r2,q2⟩=>
  jA (f AN s2 σ H2 x y v u _ I2 r1 r2 q2) λc s3 ⟨z,H3,I3,r3,k,e,q3⟩=>?_) d
 subst e;cases r3;exact qf ⟨H3,I3,q3⟩
def YB(K:B4)(x:V)(H:Hp)(k:Bool):Prop:=
 match x with
 |.non=>k=false
 |.bl b=>k=b
 |.int i=>k=(i != 0)
 |.str y=>y.length<=AA/\k=((y.length:Int) != 0)
 |.byt y=>y.size<=AA/\k=((y.size:Int) != 0)
 |.ref p=>(∃xs,nA K H p xs/\k=!xs.isEmpty)\/(∃xs,vV K H p xs/\k=!xs.isEmpty)\/∃AO,H p=U (.dK AO)/\k=!AO.isEmpty
 |_=>False
theorem K4{AO:O (κ×V)}{vs:O (κ×A0)}(r:KV AO vs):(!vs.isEmpty)=!AO.isEmpty:=by
 cases r<;>rfl
theorem Ah{xs:O V}(r:AX xs AQ):(!AQ.toArray.isEmpty)=!xs.isEmpty:=by
 cases r<;>simp
theorem xU:(AA:Nat)<2 ^ 63:=by rw[sizeLine_eq];decide
theorem YC:L4 X (λx H Q=>∃k,YB X.K x H k/\Q k H):=by
 intro AN s σ H x v Q I a h;obtain⟨k,e,q⟩:=h;have l:=xU;have j:AA=16777216:=sizeLine_eq;cases x with
 |non=>
  cases a;have e':k=false:=e;subst e';exact truthy_none ⟨H,I,q⟩
 |bl b=>
  cases a;have e':k=b:=e;subst e';exact qf ⟨H,I,q⟩
 |int i=>
  obtain⟨t,rfl⟩:=a;have e':k=(i != 0):=e;subst e';exact PySem.P.truthy_int ⟨H,I,q⟩
 |str y=>
  obtain⟨t,rfl⟩:=a;obtain⟨g,e'⟩:y.length<=AA/\k=((y.length:Int) != 0):=e;subst e';exact PySem.P.truthy_str () ⟨H,I.tok _,q⟩
 |byt y=>
  obtain⟨t,rfl⟩:=a;obtain⟨g,e'⟩:y.size<=AA/\k=((y.size:Int) != 0):=e;subst e';exact PySem.W.truthy_bytes () ⟨H,I.tok _,q⟩
 |ref p=>
  cases a;have e':(∃xs,nA X.K H p xs/\k=!xs.isEmpty)\/(∃xs,vV X.K H p xs/\k=!xs.isEmpty)\/∃AO,H p=U (.dK AO)/\k=!AO.isEmpty:=e;rcases e' with⟨xs,hx,e'⟩|⟨xs,hx,e'⟩|⟨AO,hx,e'⟩
  ·subst e';obtain⟨AQ,r,pl,c⟩:=I.list hx;have d:=r.length;exact wpAny_truthy_list pl.isList (by simp only[zi];omega) ⟨H,I.tok _,by rw[Ah r];exact q⟩
  ·subst e';obtain⟨AQ,r,pl,c⟩:=I.tuple hx;have d:=r.length;exact truthy_tuple pl (by simp only[zi];omega) ⟨H,I.tok _,by rw[Ah r];exact q⟩
  ·subst e';obtain⟨c,f,vs,r,m⟩:AO.length<=AA/\(p==sysModules)=false/\∃vs,KV AO vs/\s.heap.DictOf (iB X.prog X.w) p vs:=I.hok p _ hx;have d:AO.length=vs.length:=Paired.length r;exact wpAny_truthy_dict f m () ⟨H,I.tok _,by rw[K4 r];exact q⟩
 |_=>exact(show False from e).elim
theorem QM(d:PE X a ta)(c:∀b,isTrue a X.env b=(do let v <-b;standAt a.pos;holding [v] (truthy v))):
  PT X a (λσ H Q=>ta σ H λx H'=>∃k,YB X.K x H' k/\Q k H'):=by
 intro AN s σ H Q I h;exact isTrue_plain (jA (d AN s σ H _ I h) λv s1 ⟨x,H1,I1,r1,q1⟩=>YC AN s1 σ H1 x v Q I1 r1 q1) (c _)
theorem K5:xT X (binaryOp .Add) (λx y H Q=>∃i j,x=.str i/\y=.str j/\i.length+j.length<=AA/\Q (.str (i++j)) H):=by
 intro AN s σ H x y v u Q I d c h;obtain⟨i,j,rfl,rfl,b,q⟩:=h;obtain⟨t,rfl⟩:=d;obtain⟨a,rfl⟩:=c;exact add_str (λa tk=>⟨.str (i++j),H,I.tok _,⟨_,rfl⟩,q⟩) b
theorem BB{x:V}(r:AX [x] us):∃u,us=[u]/\As x u:=by
 cases r with
 |cons a b=>cases b;exact⟨_,rfl,a⟩
theorem By{x y:V}(r:AX [x,y] us):∃u a,us=[u,a]/\As x u/\As y a:=by
 cases r with
 |cons b d=>
  cases d with
  |cons e c=>cases c;exact⟨_,_,rfl,b,e⟩
theorem QS:eY X (.builtin "abs") (λxs H Q=>∃i,xs=[.int i]/\Q (.int (if i<0 then -i else i)) H):=by
 intro AN s σ H xs us Q I r h;obtain⟨i,rfl,q⟩:=h;obtain⟨u,rfl,t,rfl⟩:=BB r;exact call_abs_int λu tk=>⟨.int (if i<0 then -i else i),H,I.tok _,⟨_,rfl⟩,q⟩
theorem O4:eY X (.type "int") (λxs H Q=>(∃i,xs=[.int i]/\Q (.int i) H)\/∃k,xs=[.bl k]/\Q (.int (if k then 1 else 0)) H):=by
 intro AN s σ H xs us Q I r h;rcases h with⟨i,rfl,q⟩|⟨k,rfl,q⟩
 ·obtain⟨u,rfl,t,rfl⟩:=BB r;exact call_int_int ⟨.int i,H,I,⟨_,rfl⟩,q⟩
 ·obtain⟨u,rfl,a⟩:=BB r;cases a;exact call_int_bool ⟨.int (if k then 1 else 0),H,I.tok _,⟨_,rfl⟩,q⟩
end
end L2
namespace L2
section
variable{x dx f:A1}{mA:AJ->Y A0}
end
section
variable{H H':Hp}{h':A6}{dx:A1}{fs fs':O (AJ×V)}
end
section
variable{X:Cx}{σ:St}{H:Hp}{dx:A1}{fs:O (AJ×V)}{f:AJ}{v:V}
end
section
variable{X:Cx}{o value:Expr}{f:AJ}{pos':Pos}{ta tv:TE}
end
section
variable{X:Cx}{σ:St}{H:Hp}{c:A0}{b:Bool}
end
end L2
namespace L2
structure iD (k:Nat) (A:Around):Prop where
 hd:A.handled=none
 dp:A.depth+3*k+5<recursionLimit
 un:A.units+16*k+200<cLine
theorem iD.mono(r:iD k A)(h:j<=k):iD j A:=⟨r.hd,by have:=r.dp;omega,by have:=r.un;omega⟩
theorem iD.deeper(r:iD (k+1) A)(env:Env):iD k (A.deeper env):=
 ⟨r.hd,by have:=r.dp;show A.depth+1+3*k+5<_;omega,by have:=r.un;show A.units+3+16*k+200<_;omega⟩
theorem iD.depth(r:iD k A):A.depth<recursionLimit:=by have:=r.dp;omega
def YD:TA:=λ_ H Q=>Q [] H
def Iu(ta:TE)(tr:TA):TA:=λσ H Q=>ta σ H λx H1=>tr σ H1 λxs H2=>Q (x::xs) H2
section
variable{X:Cx}{te:TE}{t:TA}
theorem pH:PA X [] YD:=λ_ _ _ _ H Q I h=>Calls.spliced_nil ⟨[],H,I,.nil,h⟩
theorem iG(a:PE X e te)(b:PA X es t)(hs:A9 (e::es) X.env=(false,eval e X.env)::A9 es X.env:=by rfl):PA X (e::es) (Iu te t):=by
 intro pos AN s σ H Q I h;rw[hs];show A7 _ _ (spliced ((false,eval e X.env)::AD pos (A9 es X.env))) _ _ s;refine Calls.spliced_cons (jA (a AN s σ H _ I h) λu s1 ⟨x,H1,I1,r1,q1⟩=>?_);exact jA (b pos AN s1 σ H1 _ I1 q1) λus s2 ⟨xs,H2,I2,r2,q2⟩=>⟨x::xs,H2,I2,.cons r1 r2,q2⟩
def LG(t:TA):TE:=λσ H Q=>t σ H λxs H1=>xs.length<=AA/\∀p,H1 p=Z->Q (.ref p) (B8 H1 p (.tup xs))
def KU(t:TA):TE:=λσ H Q=>t σ H λxs H1=>xs.length<=AA/\∀p,H1 p=Z->Q (.ref p) (B8 H1 p (.lst xs))
theorem YF{x1}(h:PA X es t):PE X (.Tuple es x1 pos) (LG t):=by
 intro AN s σ H Q I a;refine wpAny_Tuple_spliced (jA (h pos AN s σ H _ I a) λus s1 ⟨xs,H1,I1,r,z,q⟩=>⟨by rw[<-r.length];exact z,?_⟩);have c:H1 s1.heap.objs.size=Z:=I1.hok.fresh (zl _);refine⟨.ref s1.heap.objs.size,B8 H1 s1.heap.objs.size (.tup xs),I1.laid (t':=s1.toks) (λb u e=>zh _ e) (zl _) ?_,rfl,q _ c⟩;exact⟨z,us,r,⟨_,zw _ rfl,rfl,⟨_,rfl⟩,rfl⟩⟩
theorem YG(h:PA X es t):PE X (.List es pos) (KU t):=by
 intro AN s σ H Q I a;refine wpAny_List_spliced (jA (h pos AN s σ H _ I a) λus s1 ⟨xs,H1,I1,r,z,q⟩=>⟨by rw[<-r.length];exact z,?_⟩);have c:H1 s1.heap.objs.size=Z:=I1.hok.fresh (zl _);refine⟨.ref s1.heap.objs.size,B8 H1 s1.heap.objs.size (.lst xs),I1.laid (t':=s1.toks) (λb u e=>zh _ e) (zl _) ?_,rfl,q _ c⟩;exact⟨z,us,0,r,zw _ rfl⟩
end
abbrev Sp:=O V->Hp->VK->XK->Prop
abbrev Qw:=O Env->Hp->A2->XK->A0->A2->Prop
structure U3 (P:Program) (w:World) (K:B4) (mg:Str->Option Value) (base:Heap) (A:Around) (outer:List Env) (s:Shared) (H:Hp):Prop where
 frames:A.frames=some outer
 mod:Mod K mg base
 bs:∀b o,base.get? b=some o->s.heap.get? b=some o/\H b=none
 Uw:base.objs.size<=s.heap.objs.size
 Af:s.heap.FunFrames base outer
 frf:∀b∈CS outer,H b=none
 hok:yZ P w H s.heap
 bare:AllBare s.gens
 tabs:BT K H
def CE(outer:O Env)(P:A3)(w:A4)(H:Hp)(s:A2)(Q:VK)(u:A0)(s':A2):Prop:=
 ∃v H',s'.os=s.os/\AllBare s'.gens/\Un (CS outer) [] H H' s.heap s'.heap/\yZ P w H' s'.heap/\As v u/\Q v H'
def CR(CX:Qw)(outer:O Env)(P:A3)(w:A4)(H:Hp)(s:A2)(Q:VK)(E:XK)(r:Result)(s':A2):Prop:=
 match r with
 |.ok (.ret u)=>CE outer P w H s Q u s'
 |.ok _=>False
 |.error e=>CX outer H s E e s'
structure qO (P:Program) (w:World) (K:B4) (mg:Str->Option Value) (base:Heap) (CX:Qw) (k:Nat) (f:Addr) (fd:FuncData) (ps:AZ) (sp:Sp):Prop where
 len:∀vs H Q E,sp vs H Q E->vs.length=ps.length
 run:∀(A:Around) (outer:List Env) (s:Shared) (H:Hp) (args:Args) (us:List Value) (vs:List V) (Q:VK) (E:XK),iD k A->U3 P w K mg base A outer s H->BindsTo s fd args (ps.zip us)->AX vs us->sp vs H Q E →
  codeAny (model P w) A (.call (.ref f) args) (CR CX outer P w H s Q E) s
section
variable{X:Cx}{σ:St}{H:Hp}{s':A2}
theorem AU.env0(I:AU X AN σ H s):U3 X.prog X.w X.K X.mg X.base X.A X.stack s H:=
 ⟨I.ok.frames,I.ok.mod,I.bs,zD I.ok.Uw I.sz,I.stack,I.Gq,I.hok,I.bare,I.ok.tabs.go I.base.vX⟩
theorem AU.after{Q:VK}(I:AU X AN σ H s)(h:CE X.stack X.prog X.w H s Q u s'):EP X AN σ Q u s':=by
 obtain⟨v,H',os,f,un,e,r,q⟩:=h;obtain⟨c,g,d,t,a⟩:=s';obtain rfl:a=s.os:=os;exact⟨v,H',I.call (h':=c) (g':=g) (d':=d) (t':=t) (ch:=[]) un e f (λb z=>absurd z (by simp)),r,q⟩
end
def Kb(sp:Sp)(Xc:O V)(E:XK)(t:TA):TE:=λσ H Q=>t σ H λvs H1=>sp (vs++Xc) H1 Q E
def BH(K:B4)(fd:FuncData)(ps:AZ)(ds:O A0):Prop:=
 ∀(s:A2) (us:O A0),K.In s.heap->(us++ds).length=ps.length->BindsTo s fd ⟨us,[]⟩ (ps.zip (us++ds))
theorem BH.all(h:∀us:O A0,us.length=ps.length->bindArgs fd ⟨us,[]⟩=pure (ps.zip us)):BH K fd ps []:=λs us _ a=>by
 rw[JY]at a ⊢;exact .of_eq (h us a)
def C6(CX:Qw)(X:Cx)(E:XK):Prop:=∀(AN:O (A1×AE)) (σ:St) (H:Hp) (s:A2) (e:A0) (s':A2),AU X AN σ H s->CX X.stack H s E e s'->X.xe e s'
section
variable{X:Cx}{CX:Qw}{f:A1}{sp:Sp}{Xc:O V}{ds:O A0}{E:XK}{m:AJ}{p:Pos}{o:Expr}{ta:TE}{t:TA}
theorem QT{σ:St}{H:Hp}{Q:VK}{vs:O V}(F:qO X.prog X.w X.K X.mg X.base CX k f fd ps sp)(c:iD k X.A)(g:BH X.K fd ps ds)(hd:AX Xc ds)(hx:C6 CX X E)(I:AU X AN σ H s)(r:AX vs us)(h:sp (vs++Xc) H Q E):A7 (en X) X.A (call (.ref f) us) (EP X AN σ Q) X.xe s:=by
 have b:AX (vs++Xc) (us++ds):=r.append hd;have d:(us++ds).length=ps.length:=by rw[<-b.length];exact F.len _ _ _ _ h
 refine wpAny_call (codeAny_mono (F.run X.A X.stack s H ⟨us,[]⟩ (us++ds) (vs++Xc) Q E c I.env0 (g s us I.Uo d) b h) λr s' a=>?_);cases r with
 |error e=>exact hx AN σ H s e s' I a
 |ok fl=>
  cases fl with
  |ret u=>exact I.after a
  |next=>exact False.elim a
  |brk=>exact False.elim a
  |cont=>exact False.elim a
theorem U4(F:qO X.prog X.w X.K X.mg X.base CX k f fd ps sp)(c:iD k X.A)(d:Gl X x)(b:X.mg x=U (.ref f))(hk:keepIn X.K (.ref f)=true)(l:BH X.K fd ps ds)(hd:AX Xc ds)(hx:C6 CX X E)
  (i:PA X (e::es) t) (j:ej x:=by decide) (a:A9 (e::es) X.env=(false,eval e X.env)::A9 es X.env:=by rfl) (g:(AD pos (A9 es X.env)).any (·.1)=false:=by rfl):
  PE X (.Call (.Name x p) (e::es) [] pos) (Kb sp Xc E t):=by
 intro AN s σ H Q I h;refine qB (Nk I d b ?_ j);refine callWith_K (h₀:=X.base) I.ok.mod.kin hk (jA (i pos AN s σ H _ I h) λus s1 ⟨vs,H1,I1,r,q⟩=>⟨I1.Uo,?_⟩) a g;exact QT F c l hd hx I1 r q
end
section
variable{X:Cx}{CX:Qw}{f:A1}{ks:AZ}{sp:Sp}{E:XK}{m:AJ}{p kpos:Pos}{o:Expr}{kws:O AC}{te ta:TE}{t tk:TA}{nm:Y AJ}
variable{g:O A0->O A0->O A0}{gV:O V->O V->O V}
end
structure bw (N P:AZ) (sc:Scope):Prop where
 kind:sc.kind=.function
 co:sc.isCoroutine=false
 gen:sc.isGenerator=false
 nd:N.Nodup
 pre:N.take P.length=P
 par:∀x∈P,sc.names.lookup x=some .local\/sc.names.lookup x=some .cell
 YH:∀y∈sc.names,y.2≠.free
theorem Ep{b:AJ->Y NameKind}{x:AJ}:∀{binds:O (AJ×A0)} {m:AJ->Y A0},(∀v,(x,v)∉binds)->bindL b binds m x=m x
 |[],_,_=>rfl
 |(n,v)::r,m,h=>by
  unfold bindL;rw[Ep λw a=>h w (zg _ a)];split
  ·have:x≠n:=by rintro rfl;exact h v ze
   simp[this]
  ·rfl
theorem Er{b:AJ->Y NameKind}{x:AJ}:∀{binds:O (AJ×A0)} {m:AJ->Y A0},(∀v,(x,v)∉binds)->bindC b binds m x=m x
 |[],_,_=>rfl
 |(n,v)::r,m,h=>by
  unfold bindC;rw[Er λw a=>h w (zg _ a)];split
  ·rfl
  ·have:x≠n:=by rintro rfl;exact h v ze
   simp[this]
theorem Es{a:AJ->Y NameKind}{x:AJ}{v:A0}:∀{P:AZ} {vs:O A0} {i:Nat} {m:AJ->Y A0},P.Nodup->P[i]?=U x->vs[i]?=U v->a x=U .local →
  bindL a (P.zip vs) m x=U v
 |[],_,_,_,_,h,_,_=>by simp at h
 |_::_,[],_,_,_,_,h,_=>by simp at h
 |p::P,w::vs,0,m,nd,h1,h2,hk=>by
  simp at h1 h2;subst h1;subst h2;show bindL a ((p,w)::P.zip vs) m p=_;unfold bindL;rw[Ep λv b=>(ag.mp nd).1 (ca b).1,zr hk];simp
 |p::P,w::vs,i+1,m,nd,h1,h2,hk=>by
  show bindL a ((p,w)::P.zip vs) m x=_;unfold bindL;exact Es (i:=i) (ag.mp nd).2 (by simpa using h1) (by simpa using h2) hk
theorem Et{a:AJ->Y NameKind}{x:AJ}{v:A0}:∀{P:AZ} {vs:O A0} {i:Nat} {m:AJ->Y A0},P.Nodup->P[i]?=U x->vs[i]?=U v->a x≠U .local →
  bindC a (P.zip vs) m x=U v
 |[],_,_,_,_,h,_,_=>by simp at h
 |_::_,[],_,_,_,_,h,_=>by simp at h
 |p::P,w::vs,0,m,nd,h1,h2,hk=>by
  simp at h1 h2;subst h1;subst h2;show bindC a ((p,w)::P.zip vs) m p=_;unfold bindC;rw[Er λv b=>(ag.mp nd).1 (ca b).1,zI hk];simp
 |p::P,w::vs,i+1,m,nd,h1,h2,hk=>by
  show bindC a ((p,w)::P.zip vs) m x=_;unfold bindC;exact Et (i:=i) (ag.mp nd).2 (by simpa using h1) (by simpa using h2) hk
def start(N:AZ)(vs:O V):St:=vs.map U++aa (N.length-vs.length) Z
def Ai(CX:Qw)(P:A3)(w:A4)(K:B4)(mg:AJ->Y A0)(base:A6)(N:AZ)(qual:AJ)(scope:Scope)(f:A1)(a:A0)(A:A5)(outer:O Env)(s:A2)(H:Hp)(E:XK):Cx where
 prog:=P
 w:=w
 K:=K
 mg:=mg
 base:=base
 A:=A.deeper (AK qual scope s.heap.objs.size f a)
 N:=N
 s₀:=s
 H₀:=H
 env:=AK qual scope s.heap.objs.size f a
 outer:=outer
 stack:=AK qual scope s.heap.objs.size f a::outer
 ex:=[]
 calm:=true
 fn:=λ_=>true
 pn:=[]
 xe:=λe s'=>A7 (A8 P w) (A.deeper (AK qual scope s.heap.objs.size f a)) (leaving (AK qual scope s.heap.objs.size f a) e) (λ_ b=>CX outer H s E e b) (λe' b=>CX outer H s E e' b) s'
theorem Iv{a:Scope}(h:a.names.lookup x=U .cell):∃c,(cellsFrom n a.names []).lookup x=U c:=by
 have q:=cellsFrom_some a.names n [] (.inl h);exact ay.mp q
theorem O5{CX:Qw}{f:A1}{g:A0}{outer:O Env}{l:A2}{H:Hp}{E:XK}{vs:O V}(S:bw N ps scope)(hd:A.handled=Z)(e0:U3 P w K mg base A outer s H)(F:vs.length=ps.length)(r:AX vs us)(x:InCallC s s.heap.objs.size (bindL (AK qual scope s.heap.objs.size f g).kindOf (ps.zip us) λ_=>Z) (cellsFrom (s.heap.objs.size+1) scope.names []) (bindC (AK qual scope s.heap.objs.size f g).kindOf (ps.zip us) λ_=>Z) l):
  AU (Ai CX P w K mg base N qual scope f g A outer s H E) [] (start N vs) H l:=by
 have D:ps.length<=N.length:=by have:=congrArg aw S.pre;rw[kq]at this;omega
 obtain⟨h1,tk,rfl,hk⟩:=x.done;have j:∀b:A1,b∉(Ai CX P w K mg base N qual scope f g A outer s H E).ex:=λb z=>absurd (show b∈([]:O A1) from z) (by simp);refine⟨⟨e0.mod,S.kind,rfl,rfl,zl _,λy z c h1 h2=>?_,λy d=>?_,λy c _ h=>?_,λ_=>hd,Around.frames_deeper e0.frames,.inr ⟨rfl,rfl⟩,λb z=>absurd z (j b),e0.bs,e0.Uw,λb _ _=>j b,λb z=>absurd z (j b),e0.Af,e0.frf,e0.tabs⟩,
  rfl,e0.bare,Un.kept hk,⟨_,x.toInCall.ns,λi y v h1 h2 C=>?_⟩,λy c h=>⟨_,x.cell y c h⟩,e0.hok.fresh (zl _),λy c h=>?_,λp hp=>absurd (show p∈([]:O (A1×AE)) from hp) (by simp),e0.hok.kept hk,?_⟩
 ·exact name_of_addr x.apart (qr h1) (qr h2)
 ·have d:scope.names.lookup y=U .cell\/scope.names.lookup y=U .free:=d;rcases d with d|d
  ·exact Iv d
  ·exact absurd rfl (S.YH _ (qr d))
 ·exact Q1 (x.above y c (qr h))
 ·have hi:i<vs.length:=by
   unfold start at h2;by_cases hi:i<vs.length
   ·exact hi
   ·rw[qo (by simpa using hi)]at h2;rw[Qb]at h2;split at h2<;>cases h2
  have B:vs[i]?=U v:=by
   unfold start at h2;rw[Zs (by simpa using hi),Zl]at h2;cases e:vs[i]? with
   |none=>rw[e]at h2;cases h2
   |some a=>rw[e]at h2;cases h2;rfl
  obtain⟨u,m,t⟩:=r.get B;have hp:ps[i]?=U y:=by
   rw[<-S.pre,List.getElem?_take_of_lt ()];exact h1
  have o:ps.Nodup:=by rw[<-S.pre];exact S.nd.sublist (dv _ _)
  refine⟨u,t,?_⟩;rcases S.par y (aT hp)with k|k
  ·exact .inl ⟨k,Es o hp m k⟩
  ·obtain⟨c,e⟩:=Iv (n:=s.heap.objs.size+1) k;refine .inr ⟨.inl k,c,e,?_⟩;have q:=x.cell y c e;rw[Et o hp m (by show scope.names.lookup y≠_;rw[k];decide)]at q;exact q
 ·exact e0.hok.fresh (Q1 (x.above y c (qr h)))
 ·unfold start;show _=N.length;rw[qa,zk,List.length_replicate];omega
theorem Xd{CX:Qw}{f:A1}{p kV m a ct M:A0}{j C:Y A1}{sp:Sp}(D:K.lookup f=U ⟨M,C,.func (fnOf name qual params body scope p kV m pm j a ct),osl⟩)(a1:codeIn K a qual=true)(S:bw N ps scope)(h:∀vs H Q E,sp vs H Q E->vs.length=ps.length)(G:∀(A:A5) (outer:O Env) (s:A2) (H:Hp) (vs:O V) (Q:VK) (E:XK),iD k (A.deeper (AK qual scope s.heap.objs.size f a))->sp vs H Q E →
   ∃t,KZ (Ai CX P w K mg base N qual scope f a A outer s H E) body t/\t { nx:=λ_ H'=>Q .non H',rt:=Q } (start N vs) H):
  qO P w K mg base CX (k+1) f (fnOf name qual params body scope p kV m pm j a ct) ps sp:=by
 refine⟨h,λA outer s H a2 us vs Q E d e0 L r i=>?_⟩;have X:=h _ _ _ _ i;have B:K.In s.heap:=e0.mod.kin.keeps λb o e=>(e0.bs b o e).1;have F:s.heap.NoLimit:=e0.mod.nolimit.keeps λb o e=>(e0.bs b o e).1;have a0:∀y∈ps.zip us,scope.names.lookup y.1=U .local\/(scope.names.lookup y.1=U .cell/\((cellsFrom (s.heap.objs.size+1) scope.names []).lookup y.1).isSome=true):=λ⟨n,v⟩ hy=>by
  rcases S.par n (ca hy).1 with q|q
  ·exact .inl q
  ·exact .inr ⟨q,cellsFrom_some _ _ _ (.inl q)⟩
 refine codeAny_call_function d.depth (B _ _ D) rfl S.co S.gen rfl (PySem.W.codeRec_of B a1) (L _ _ _ _ ?_);refine wpAny_newFunctionEnv_cells S.kind a0 λenv he l x=>?_;subst he;refine⟨F.keeps x.toInCall.keep,codeAny_func ?_⟩;obtain⟨t,ht,hq⟩:=G A outer s H vs Q E (d.deeper _) i;have I:AU (Ai CX P w K mg base N qual scope f a A outer s H E) [] (start N vs) H l:=O5 S d.hd e0 X r x;refine ZI (ht [] l (start N vs) H _ I hq) (λfl s' c=>?_) λe s' c=>c;have z:∀{σ':St} {H':Hp} {v:V} {u:A0},AU (Ai CX P w K mg base N qual scope f a A outer s H E) [] σ' H' s'->As v u->Q v H'->CE outer P w H s Q u s':=
  λ{σ' H' v u} J g q=>⟨v,H',J.os,J.bare,J.base,J.hok,g,q⟩
 cases fl with
 |ret u=>
  obtain⟨v,σ',H',J,g,q⟩:=c;exact z J g q
 |next=>
  obtain⟨σ',H',J,q⟩:=c;exact z (v:=V.non) (u:=Value.none) J rfl q
 |brk=>
  obtain⟨_,_,_,q⟩:=c;exact False.elim q
 |cont=>
  obtain⟨_,_,_,q⟩:=c;exact False.elim q
end L2
namespace L2
section
variable{X:Cx}{p:Pos}{t:TA}{id T:String}{r:O V->Hp->VK->Prop}
def ER(r:O V->Hp->VK->Prop)(t:TA):TE:=λσ H Q=>t σ H λvs H1=>r vs H1 Q
theorem Aj(a:eY X (.builtin id) r)(f:Gl X x)(c:X.mg x=Z)(k:AH x=U (.builtin id))(i:PA X (e::es) t)(d:x ≠ "__name__":=by decide)(j:ej x:=by decide)
  (b:A9 (e::es) X.env=(false,eval e X.env)::A9 es X.env:=by rfl) (g:(AD pos (A9 es X.env)).any (·.1)=false:=by rfl):PE X (.Call (.Name x p) (e::es) [] pos) (ER r t):=by
 intro AN s σ H Q I h;refine qB (xQ I f c k ?_ d j);exact PyProof.Rows.callWith_builtin1 (jA (i pos AN s σ H _ I h) λus s1 ⟨vs,H1,I1,r1,q1⟩=>a AN s1 σ H1 vs us Q I1 r1 q1) b g
theorem O6(a:eY X (.type T) r)(f:Gl X x)(c:X.mg x=Z)(k:AH x=U (.type T))(i:PA X (e::es) t)(d:x ≠ "__name__":=by decide)(j:ej x:=by decide)
  (b:A9 (e::es) X.env=(false,eval e X.env)::A9 es X.env:=by rfl) (g:(AD pos (A9 es X.env)).any (·.1)=false:=by rfl):PE X (.Call (.Name x p) (e::es) [] pos) (ER r t):=by
 intro AN s σ H Q I h;refine qB (xQ I f c k ?_ d j);exact PyProof.Rows.callWith_type1 (jA (i pos AN s σ H _ I h) λus s1 ⟨vs,H1,I1,r1,q1⟩=>a AN s1 σ H1 vs us Q I1 r1 q1) b g
end
end L2
namespace HT
open PySem PyProof.Rows
section
open PySem.SeqAt
open PySem.AutoSeq1 (wpAny_loadPart')
open PySem.MeetsSeq PySem.MeetsSeq2 PySem.MeetsSeq3
end
theorem U6{t b:A1}{vs ws:O A0}(o:IsTup s.heap t vs.toArray)(q:IsTup s.heap b ws.toArray)(m:vs≠[])(h1:ws=[]->Q (.ref t) s)(h2:ws≠[]->Q (.ref s.heap.objs.size) { s with heap:=s.heap.push { cls:=.type "tuple",data:=.seq (vs++ws).toArray } })(p:vs.length+ws.length<=AA):A7 (A8 prog w) A (binaryOp .Add (.ref t) (.ref b)) Q E s:=by
 obtain⟨⟨cls,i,data,sl⟩,a,h,n,hd⟩:=id o;obtain⟨⟨cls2,g,u,j⟩,c,k,f,l⟩:=id q;simp only at h hd k l;subst h hd k l;have e:vs.toArray++ws.toArray=(vs++ws).toArray:=by simp
 by_cases d:ws=[]
 ·exact concat_meets ⟨_,a,rfl⟩ ⟨_,c,rfl⟩ noFill_tuple_add seq_tuple_add PySem.F.slot_tuple_add k8 (kX _ _)
   (tuple_addW1 t b vs.toArray ws.toArray n f i g sl j (by simpa using m) (by simp[d])) ⟨a,c,h1 d⟩
 ·refine concat_meets ⟨_,a,rfl⟩ ⟨_,c,rfl⟩ noFill_tuple_add seq_tuple_add PySem.F.slot_tuple_add k8 (kX _ _)
   (tuple_addW2 t b vs.toArray ws.toArray n f i g sl j (by simpa using m) (by simpa using d) (by rw[zi,zi];exact p)) ⟨a,c,?_⟩
  rw[e];exact h2 d
def eZ(n d:Nat):Y Int->Nat
 |none=>d
 |some v=>if v<0 then(v+(n:Int)).toNat else min v.toNat n
theorem QW(n d:Nat):eZ n d Z=d:=rfl
theorem U7(n d k:Nat):eZ n d (U (k:Int))=min k n:=by
 show(if(k:Int)<0 then((k:Int)+(n:Int)).toNat else min (k:Int).toNat n)=min k n;rw[zI (),bo]
theorem YJ(n d:Nat)(hd:d<=n)(o:Y Int):eZ n d o<=n:=by
 cases o with
 |none=>exact hd
 |some v=>
  show(if v<0 then(v+(n:Int)).toNat else min v.toNat n)<=n;by_cases a:v<0
  ·rw[zr a];omega
  ·rw[zI a];exact Nat.min_le_right _ _
theorem Nr(v:Int)(n d:Nat):(if v<0 then max (v+(n:Int)) 0 else min v (n:Int))=((eZ n d (U v):Nat):Int):=by
 show(if v<0 then max (v+(n:Int)) 0 else min v (n:Int))=(((if v<0 then(v+(n:Int)).toNat else min v.toNat n):Nat):Int);by_cases a:v<0
 ·simp only[zr a];omega
 ·simp only[zI a];omega
theorem K6(lo hi:Y Int)(n:Nat):Builtin.Slice.sliceAdjust lo hi 1 (n:Int)=(((eZ n 0 lo:Nat):Int),((eZ n n hi:Nat):Int)):=by
 have h1:¬ ((1:Int)<0):=by omega
 unfold Builtin.Slice.sliceAdjust;simp only[h1,ZH];refine bg ?_ ?_
 ·cases lo with
  |none=>rfl
  |some v=>exact Nr v n 0
 ·cases hi with
  |none=>rfl
  |some v=>exact Nr v n n
theorem K7(i j:Nat):Builtin.Slice.slicePlaces (i:Int) (j:Int) 1=j-i:=by
 unfold Builtin.Slice.slicePlaces;have h1:(1:Int)>0:=by omega
 simp only[h1,ZT,Int.ediv_one];split<;>omega
theorem lC{o:Y Int}{Q:Y Int->A2->Prop}(p:IsPart v o)(h:Q o s):A7 (A8 prog w) A (Builtin.Slice.slicePartIndex v) Q E s:=by
 cases p with
 |none=>exact slicePart_none h
 |int i t=>exact slicePart_int h
theorem ou{sl:A1}{d b:A0}{Q:Int×Int×Nat->A2->Prop}(hs:s.heap.IsSliceOf sl d b .none)(pl:IsPart d lo)(e:IsPart b hi)(h:Q (((eZ n 0 lo:Nat):Int),1,eZ n n hi-eZ n 0 lo) s):A7 (A8 prog w) A (Builtin.Slice.sliceApplied (.ref sl) (pure (n:Int))) Q E s:=by
 obtain⟨os,c,f,a⟩:=id hs;unfold Builtin.Slice.sliceApplied Builtin.Slice.sliceFields;refine zb (zb (kM c a (x:=d) S (zb (kM c a (x:=b) S (zb (kM c a (x:=.none) S (zd ?_)))))));refine zb (slicePart_none ?_);show A7 _ _ (if((1:Int)==0)=true then _ else _) _ _ s;rw[zI ()];refine zb (lC pl (zb (lC e (zb (zd ?_)))));show A7 _ _ (match Builtin.Slice.sliceAdjust lo hi 1 (n:Int)with|(lo,hi)=>pure (lo,(1:Int),Builtin.Slice.slicePlaces lo hi 1)) _ _ s;rw[K6 lo hi n];show A7 _ _ (pure (((eZ n 0 lo:Nat):Int),(1:Int),Builtin.Slice.slicePlaces ((eZ n 0 lo:Nat):Int) ((eZ n n hi:Nat):Int) 1)) _ _ s;rw[K7];exact zd h
theorem QX(xs:Array A0)(i k:Nat):((am k).filterMap λ(m:Nat)=>xs[((i:Int)+(m:Int)*1).toNat]?).toArray=((xs.toList.drop i).take k).toArray:=by
 have e:(λ(m:Nat)=>xs[((i:Int)+(m:Int)*1).toNat]?)=λm=>xs[i+m]?:=by
  funext m;have:((i:Int)+(m:Int)*1).toNat=i+m:=by omega
  rw[this]
 rw[e];have:=pick_run xs i k;rw[di]at this;have e2:((λx=>xs[x]?) ∘ λx=>i+x)=λm=>xs[i+m]?:=rfl;rw[e2]at this;rw[this]
theorem vZ{t sl:A1}{d c:A0}(a:IsTup s.heap t items)(hs:s.heap.IsSliceOf sl d c .none)(pl:IsPart d lo)(e:IsPart c hi)(g:¬ (eZ items.size 0 lo=0/\eZ items.size items.size hi=items.size))(h:Q (.ref s.heap.objs.size) { s with heap:=s.heap.push { cls:=.type "tuple",data:=.seq ((items.toList.drop (eZ items.size 0 lo)).take (eZ items.size items.size hi-eZ items.size 0 lo)).toArray } })(l:items.size<=AA):A7 (A8 prog w) A (getItem (.ref t) (.ref sl)) Q E s:=by
 have b:sizeOk (.seq ((items.toList.drop (eZ items.size 0 lo)).take (eZ items.size items.size hi-eZ items.size 0 lo)).toArray):=by
  show((items.toList.drop (eZ items.size 0 lo)).take (eZ items.size items.size hi-eZ items.size 0 lo)).toArray.size<=AA;rw[zi,kq,QN,kG];omega
 have n:eZ items.size items.size hi<=items.size:=YJ _ _ (zl _) hi;obtain⟨os,j,i,o⟩:=id hs;have f:s.TypeIs (.ref sl) "slice":=⟨os,j,i⟩;unfold getItem
 try with_reducible refine ZE ?_
 first|refine zb (zd ?_)|skip
 refine zb (kQ a.typeIs () ?_);refine zb (ke (name:=Str.ofString "__getitem__") a.typeIs PyProof.Rows.slot_tuple_getitem
  (JJ PyProof.Rows.slot_tuple_getitem a.typeIs entry_tuple_getitem ?_ (args_tuple_getitem _ _)))
 show A7 _ _ (Builtin.Tuple.tupleItemsOf (.ref t) >>= _) _ _ s;refine zb (tupleItemsOf_ a ?_);refine zb (QI f ?_);rw[zr ()];refine zb (ou hs pl e ?_);have k:¬ ((((eZ items.size 0 lo:Nat):Int)==0&&(1:Int)==1&&(eZ items.size items.size hi-eZ items.size 0 lo)==items.size)=true):=by
  intro q;rw[ZA,ZA]at q;have q1:((eZ items.size 0 lo:Nat):Int)=0:=eq_of_beq q.1.1;have q2:eZ items.size items.size hi-eZ items.size 0 lo=items.size:=eq_of_beq q.2;exact g ⟨by omega,by omega⟩
 show A7 _ _ (if(((eZ items.size 0 lo:Nat):Int)==0&&(1:Int)==1&&(eZ items.size items.size hi-eZ items.size 0 lo)==items.size)=true then _ else _) _ _ s;rw[zI k,QX]
 first
  |exact zb (m:=Builtin.Tuple.tupleExact _) (qh (zd ⟨_,rfl,zd h⟩) b)
  |exact zb (m:=Builtin.Tuple.tupleExact _) (qh (zb (zd (zd ⟨_,rfl,zd h⟩))) b)
  |exact zb (zb (m:=Builtin.Tuple.tupleExact _) (qh (zd (zd ⟨_,rfl,zd h⟩)) b))
  |exact zb (zb (m:=Builtin.Tuple.tupleExact _) (qh (zd ⟨_,rfl,zd h⟩) b))
end HT
namespace L2
abbrev TO:=St->Hp->(Y Int->Hp->Prop)->Prop
def PO(X:Cx)(e:Y Expr)(t:TO):Prop:=
 ∀(AN:O (A1×AE)) (s:A2) (σ:St) (H:Hp) (Q:Y Int->Hp->Prop),AU X AN σ H s->t σ H Q →
  A7 (en X) X.A (evalPart e X.env) (λu s'=>∃o H',AU X AN σ H' s'/\IsPart u o/\Q o H') X.xe s
def U8:TO:=λ_ H Q=>Q Z H
def HZ(t:TE):TO:=λσ H Q=>t σ H λx H1=>∃i,x=.int i/\Q (U i) H1
section
variable{X:Cx}{te:TE}{lo hi:Y Expr}{tl th:TO}
theorem U9:PO X Z U8:=by
 intro AN s σ H Q I h;rw[evalPart_none];exact zd ⟨Z,H,I,.none,h⟩
theorem Va(h:PE X e te):PO X (U e) (HZ te):=by
 intro AN s σ H Q I a;rw[evalPart_some];refine jA (h AN s σ H _ I a) λu s1 ⟨x,H1,I1,r1,q1⟩=>?_;obtain⟨i,rfl,q⟩:=q1;obtain⟨t,rfl⟩:=r1;exact⟨U i,H1,I1,.int i t,q⟩
def ED(X:Cx)(r:V->Y Int->Y Int->Hp->VK->Prop):Prop:=
 ∀(AN:O (A1×AE)) (s:A2) (σ:St) (H:Hp) (x:V) (v b a:A0) (lo hi:Y Int) (sl:A1) (Q:VK),AU X AN σ H s->As x v->s.heap.IsSliceOf sl b a .none->IsPart b lo->IsPart a hi->r x lo hi H Q →
  ∃T id,typeLookup (.type T) "__getitem__"=pure (U (.builtin id))/\s.TypeIs v T/\A7 (en X) X.A (getItem v (.ref sl)) (EP X AN σ Q) X.xe s
def Gc(r:V->Y Int->Y Int->Hp->VK->Prop)(te:TE)(tl th:TO):TE:=λσ H Q=>te σ H λx H1=>tl σ H1 λl H2=>th σ H2 λu a=>r x l u a Q
theorem QZ{r:V->Y Int->Y Int->Hp->VK->Prop}(f:ED X r)(c:PE X e te)(j:PO X lo tl)(d:PO X hi th):PE X (.Subscript e (.Slice lo hi Z p2) pos) (Gc r te tl th):=by
 intro AN s σ H Q I h;refine Subscript_ (jA (c AN s σ H _ I h) λv s1 ⟨x,H1,I1,r1,q1⟩=>?_);refine wpAny_Slice (jA (j AN s1 σ H1 _ I1 q1) λvl s2 ⟨l,H2,I2,pl,q2⟩=>jA (d AN s2 σ H2 _ I2 q2) λvu s3 ⟨u,H3,I3,pu,q3⟩=>?_);rw[evalPart_none];refine zd ?_;have k:AU X AN σ H3 { s3 with heap:=s3.heap.push { cls:=.type "slice",data:=.fields #[vl,vu,.none] } }:=I3.kept (t':=s3.toks) λb m q=>zh _ q;obtain⟨T,id,i,a,g⟩:=f AN { s3 with heap:=s3.heap.push { cls:=.type "slice",data:=.fields #[vl,vu,.none] } } σ H3 x v vl vu l u s3.heap.objs.size Q k r1 (Heap.IsSliceOf.new ..) pl pu q3;show A7 (en X) X.A (subscriptTail e (.Slice lo hi Z p2) v (.ref s3.heap.objs.size)) (EP X AN σ Q) X.xe { s3 with heap:=s3.heap.push { cls:=.type "slice",data:=.fields #[vl,vu,.none] } };exact tail_any (ops:=[.ref s3.heap.objs.size,v]) a i g (by with_unfolding_all rfl)
def Iw(xs:O V)(lo hi:Y Int):O V:=(xs.drop (HT.eZ xs.length 0 lo)).take (HT.eZ xs.length xs.length hi-HT.eZ xs.length 0 lo)
theorem za(xs:O V)(lo hi:Y Int):(Iw xs lo hi).length<=xs.length:=by
 unfold Iw;rw[kq,QN];omega
def GW(K:B4):V->Y Int->Y Int->Hp->VK->Prop:=λx lo hi H Q=>∃a xs,x=.ref a/\vV K H a xs ∧
 ¬ (HT.eZ xs.length 0 lo=0/\HT.eZ xs.length xs.length hi=xs.length)/\∀p,H p=Z->Q (.ref p) (B8 H p (.tup (Iw xs lo hi)))
theorem YK:ED X (GW X.K):=by
 intro AN s σ H x v m l lo hi sl Q I g i pl f h;obtain⟨a,xs,rfl,hx,j,q⟩:=h;cases g;obtain⟨AQ,r,d,e⟩:=I.tuple hx;have c:AQ.toArray.size=xs.length:=by rw[zi];exact r.length.symm
 refine⟨"tuple", _,PyProof.Rows.slot_tuple_getitem.lookup,d.typeIs,?_⟩;refine HT.vZ d i pl f (by rw[c];exact j) ?_ (by rw[c];exact e);rw[c];refine⟨.ref s.heap.objs.size,_,I.laid (t':=s.toks) (o:=.tup (Iw xs lo hi)) (λb k q=>zh _ q) (zl _) ?_,rfl,q _ (I.hok.fresh (zl _))⟩;exact⟨zD (za xs lo hi) e,_,(r.drop (HT.eZ xs.length 0 lo)).take (HT.eZ xs.length xs.length hi-HT.eZ xs.length 0 lo),jT.new _ _⟩
def HV(K:B4):R2:=λx y H Q=>∃a b xs ys,x=.ref a/\y=.ref b/\vV K H a xs/\vV K H b ys/\xs≠[]/\xs.length+ys.length<=AA ∧
 (ys=[]->Q (.ref a) H)/\(ys≠[]->∀p,H p=Z->Q (.ref p) (B8 H p (.tup (xs++ys))))
theorem AX.zQ{xs:O V}(r:AX xs us):us=[]↔xs=[]:=by
 cases r with
 |nil=>simp
 |cons _ _=>simp
theorem Vb:xT X (binaryOp .Add) (HV X.K):=by
 intro AN s σ H x y v u Q I f g h;obtain⟨a,b,xs,ys,rfl,rfl,i,j,hx,e,q1,q2⟩:=h;cases f;cases g;obtain⟨AQ,d,p1,_⟩:=I.tuple i;obtain⟨k,c,p2,_⟩:=I.tuple j;refine HT.U6 p1 p2 (λz=>hx (d.zQ.mp z)) (λz=>⟨.ref a,H,I,rfl,q1 (c.zQ.mp z)⟩) (λz=>?_) (by rw[<-d.length,<-c.length];exact e);refine⟨.ref s.heap.objs.size,_,I.laid (t':=s.toks) (o:=.tup (xs++ys)) (λb l q=>zh _ q) (zl _) ?_,rfl,q2 (λw=>z (c.zQ.mpr w)) _ (I.hok.fresh (zl _))⟩;exact⟨by rw[qa];exact e,_,d.append c,jT.new _ _⟩
end
end L2
namespace L2
def YL(n:Nat)(i:Int):Y Nat:=if 0<=i then(if i<n then U i.toNat else Z)else if -(n:Int)<=i then U (i+n).toNat else Z
def Dj(xs:O α)(i:Int):Y α:=(YL xs.length i).bind λj=>xs[j]?
theorem Vc{i:Int}(h:YL n i=U j):seqIndex? i n=U j/\j<n ∧ -(n:Int)<=i/\i<n:=by
 unfold YL at h;by_cases a:0<=i
 ·rw[zr a]at h;by_cases h1:i<n
  ·rw[zr h1]at h;have e:i.toNat=j:=QA h;exact⟨by rw[seqIndex_of a h1,e],by omega,by omega,h1⟩
  ·rw[zI h1]at h;cases h
 ·rw[zI a]at h;by_cases h1 : -(n:Int)<=i
  ·rw[zr h1]at h;have e:(i+n).toNat=j:=QA h;exact⟨by rw[seqIndex_neg () h1,e],by omega,h1,by omega⟩
  ·rw[zI h1]at h;cases h
theorem Gs{xs:O α}{i:Int}{v:α}(h:Dj xs i=U v):∃j,seqIndex? i xs.length=U j/\xs[j]?=U v/\j<xs.length ∧ -(xs.length:Int)<=i/\i<xs.length:=by
 unfold Dj at h;cases e:YL xs.length i with
 |none=>rw[e]at h;cases h
 |some j=>
  rw[e]at h;obtain⟨h1,h2,a,b⟩:=Vc e;exact⟨j,h1,h,h2,a,b⟩
def Nt(b:Expr):Prop:=∀o i,subscripted b false o i=operate [o,i] (getItem o i)
def Vd(X:Cx)(r:R2):Prop:=
 ∀(value a:Expr) (AN:O (A1×AE)) (s:A2) (σ:St) (H:Hp) (x y:V) (v u:A0) (Q:VK),AU X AN σ H s->As x v->As y u->r x y H Q →
  subscripted a false v u=operate [v,u] (getItem v u)->A7 (en X) X.A (subscriptTail value a v u) (EP X AN σ Q) X.xe s
def DB(X:Cx)(id:String)(r:V->O V->Hp->VK->Prop):Prop:=
 ∀(AN:O (A1×AE)) (s:A2) (σ:St) (H:Hp) (x:V) (xs:O V) (v:A0) (us:O A0) (Q:VK),AU X AN σ H s->As x v->AX xs us->r x xs H Q →
  A7 (en X) X.A (call (.builtin id) (v::us)) (EP X AN σ Q) X.xe s
section
variable{X:Cx}{a b:Expr}{ta tb:TE}
theorem Vd.or{r d:R2}(h:Vd X r)(h':Vd X d):Vd X (λx y H Q=>r x y H Q\/d x y H Q):=by
 intro value a AN s σ H x y v u Q I b e q c;rcases q with q|q
 ·exact h value a AN s σ H x y v u Q I b e q c
 ·exact h' value a AN s σ H x y v u Q I b e q c
theorem He{r:R2}(f:Vd X r)(i:PE X a ta)(j:PE X b tb)(hs:Nt b):PE X (.Subscript a b pos) (DJ r ta tb):=by
 intro AN s σ H Q I h;exact Subscript_ (Yr i j I h λv u e x y H2 c d g q=>f a b AN e σ H2 x y v u Q c d g q (hs _ _))
def F5(K:B4):R2:=λx y H Q=>∃p xs i v,x=.ref p/\y=.int i/\nA K H p xs/\Dj xs i=U v/\Q v H
def Fn(K:B4):R2:=λx y H Q=>∃p xs i v,x=.ref p/\y=.int i/\vV K H p xs/\Dj xs i=U v/\Q v H
def FA:R2:=λx y H Q=>∃z i c,x=.str z/\y=.int i/\z.length<=AA/\Dj z.cps.toList i=U c/\Q (.str ⟨#[c]⟩) H
theorem Ve:Vd X (F5 X.K):=by
 intro value B AN s σ H x y v u Q I k m h b;obtain⟨p,xs,i,z,rfl,rfl,A,g,q⟩:=h;cases k;obtain⟨t,rfl⟩:=m;obtain⟨AQ,r,pl,E⟩:=I.list A;obtain⟨j,h1,h2,C,l,o⟩:=Gs g;obtain⟨w,c,f⟩:=r.get h2;have n:=r.length;have D:=xU;have e:EP X AN σ Q w s:=⟨z,H,I,f,q⟩;by_cases d:0<=i
 ·have a:i.toNat=j:=by
   rw[seqIndex_of d o]at h1;exact QA h1
  exact item_listR pl.isList d () (by rw[a];simpa using c) e b
 ·have a:(i+(AQ.toArray.size:Int)).toNat=j:=by
   rw[seqIndex_neg () l]at h1;rw[zi,<-n];exact QA h1
  exact subscriptTail_builtinR (x:=w) pl.isList.typeIs slot_list_getitem.lookup
   (wpAny_getItem_list_neg (Q:=λr s'=>r=w/\EP X AN σ Q r s') pl.isList () (by rw[zi]<;>omega) () (by rw[a];simpa using c) ⟨rfl,e⟩) b
theorem YM:Vd X (Fn X.K):=by
 intro value m AN s σ H x y v u Q I c e h d;obtain⟨p,xs,i,z,rfl,rfl,k,b,q⟩:=h;cases c;obtain⟨t,rfl⟩:=e;obtain⟨AQ,r,pl,B⟩:=I.tuple k;obtain⟨j,h1,h2,n,o,C⟩:=Gs b;obtain⟨w,g,a⟩:=r.get h2;have f:=r.length;have A:=xU;have l:EP X AN σ Q w s:=⟨z,H,I,a,q⟩;exact subscriptTail_builtinR (x:=w) pl.typeIs slot_tuple_getitem.lookup
  (getItem_tuple (j:=j) (Q:=λr s'=>r=w/\EP X AN σ Q r s') pl () () (by rw[zi,<-f];exact h1) (by simpa using g) ⟨rfl,l⟩) d
theorem YQ:Vd X FA:=by
 intro value l AN s σ H x y v u Q I b f h e;obtain⟨z,i,c,rfl,rfl,p,a,q⟩:=h;obtain⟨t,rfl⟩:=b;obtain⟨o,rfl⟩:=f;obtain⟨j,h1,h2,m,d,k⟩:=Gs a;have g:z.cps.toList.length=z.length:=by simp[Str.length]
 rw[g]at h1 d k;have n:=xU;exact tail_any (typeIs_str s z t) slot_str_getitem.lookup (getItem_str (c:=c) (by
  have e1:decide (i < -(2 ^ 63:Int))=false:=Zp ();have e2:decide (i>=2 ^ 63)=false:=Zp ();rw[e1,e2,Bool.or_false]) (by rw[h1];simpa using h2) ⟨.str ⟨#[c]⟩,H,I.tok _,⟨_,rfl⟩,q⟩) e
def HM(K:B4):R2:=λx y H Q=>F5 K x y H Q\/Fn K x y H Q\/FA x y H Q
theorem YS:Vd X (HM X.K):=Ve.or (YM.or YQ)
theorem AU.lst{σ:St}{H:Hp}{p:A1}{xs:O V}(I:AU X AN σ H s)(h:H p=U (.lst xs)):
  ∃(AQ:O A0) (n:Nat),AX xs AQ/\s.heap.get? p=U { cls:=.type "list",data:=.seq AQ.toArray n }/\xs.length<=AA:=by
 obtain⟨z,AQ,n,r,e⟩:=I.hok p _ h;exact⟨AQ,n,r,e,z⟩
theorem Gu(lo hi:Y Int)(n:Nat):(sliceBounds lo hi Z n).1=((HT.eZ n 0 lo:Nat):Int)/\(sliceBounds lo hi Z n).2.1=((HT.eZ n n hi:Nat):Int)/\(sliceBounds lo hi Z n).2.2=1:=by
 refine⟨?_,?_,rfl⟩
 ·cases lo with
  |none=>simp[sliceBounds,HT.eZ]
  |some i=>
   simp only[sliceBounds,HT.eZ,dC,show(1:Int)>0 by decide,ZT];by_cases h:i<0
   ·simp only[h,ZT]<;>omega
   ·simp only[h,ZH]<;>omega
 ·cases hi with
  |none=>simp[sliceBounds,HT.eZ]
  |some i=>
   simp only[sliceBounds,HT.eZ,dC,show(1:Int)>0 by decide,ZT];by_cases h:i<0
   ·simp only[h,ZT]<;>omega
   ·simp only[h,ZH]<;>omega
theorem Dm(AQ:O A0)(lo hi:Y Int):slicePick AQ.toArray lo hi Z=((AQ.drop (HT.eZ AQ.length 0 lo)).take (HT.eZ AQ.length AQ.length hi-HT.eZ AQ.length 0 lo)).toArray:=by
 obtain⟨h1,h2,a⟩:=Gu lo hi AQ.toArray.size;unfold slicePick;rw[h1,h2,a];simp only[sliceRange_one,pick_run,zi]<;>rfl
def HU(K:B4):V->Y Int->Y Int->Hp->VK->Prop:=λx lo hi H Q=>∃a xs,x=.ref a/\nA K H a xs/\∀p,H p=Z->Q (.ref p) (B8 H p (.lst (Iw xs lo hi)))
theorem Vf:ED X (HU X.K):=by
 intro AN s σ H x v l k lo hi sl Q I e f pl d h;obtain⟨a,xs,rfl,hx,q⟩:=h;cases e;obtain⟨AQ,r,c,g⟩:=I.list hx;have i:=r.length;refine⟨"list", _,slot_list_getitem.lookup,c.isList.typeIs,?_⟩;refine wpAny_getItem_list_slice c.isList f pl d .none (by simp) ?_ (by rw[zi]<;>omega);rw[Dm,<-i];refine⟨.ref s.heap.objs.size,_,I.laid (t':=s.toks) (o:=.lst (Iw xs lo hi)) (λb j q=>zh _ q) (zl _) ?_,rfl,q _ (I.hok.fresh (zl _))⟩;exact⟨zD (za xs lo hi) g,_,0,(r.drop (HT.eZ xs.length 0 lo)).take (HT.eZ xs.length xs.length hi-HT.eZ xs.length 0 lo),zw _ rfl⟩
def qC:V->Bool
 |.non=>true
 |.bl _=>true
 |.int _=>true
 |.str _=>true
 |_=>false
def Vg:V->V->Bool
 |.non,.non=>true
 |.bl a,.bl b=>a==b
 |.bl a,.int b=>(if a then 1 else 0)==b
 |.int a,.bl b=>a==(if b then 1 else 0)
 |.int a,.int b=>a==b
 |.str a,.str b=>a==b
 |_,_=>false
theorem YT{y x:V}(e:As y u)(c:As x v)(fy:qC y=true)(fx:qC x=true):SeqAt.EqAt A s u v (Vg y x):=by
 cases y with
 |non=>
  cases e;cases x with
  |non=>cases c;exact SeqAt.EqAt.same _
  |bl b=>cases c;exact SeqAt.EqAt.none_bool b
  |int b=>obtain⟨t,rfl⟩:=c;exact SeqAt.EqAt.none_int b t
  |str b=>obtain⟨t,rfl⟩:=c;exact SeqAt.EqAt.none_str b t
  |_=>exact absurd (show false=true from fx) z5
 |bl a=>
  cases e;cases x with
  |non=>cases c;exact SeqAt.EqAt.bool_none a
  |bl b=>cases c;exact SeqAt.EqAt.bool_bool a b
  |int b=>obtain⟨t,rfl⟩:=c;exact SeqAt.EqAt.bool_int a b t
  |str b=>obtain⟨t,rfl⟩:=c;exact SeqAt.EqAt.bool_str a b t
  |_=>exact absurd (show false=true from fx) z5
 |int a=>
  obtain⟨d,rfl⟩:=e;cases x with
  |non=>cases c;exact SeqAt.EqAt.int_none a d
  |bl b=>cases c;exact SeqAt.EqAt.int_bool a d b
  |int b=>obtain⟨t,rfl⟩:=c;exact SeqAt.EqAt.int_int a d b t
  |str b=>obtain⟨t,rfl⟩:=c;exact SeqAt.EqAt.int_str a d b t
  |_=>exact absurd (show false=true from fx) z5
 |str a=>
  obtain⟨d,rfl⟩:=e;cases x with
  |non=>cases c;exact SeqAt.EqAt.str_none a d
  |bl b=>cases c;exact SeqAt.EqAt.str_bool a d b
  |int b=>obtain⟨t,rfl⟩:=c;exact SeqAt.EqAt.str_int a d b t
  |str b=>obtain⟨t,rfl⟩:=c;exact SeqAt.EqAt.str_str a d b t
  |_=>exact absurd (show false=true from fx) z5
 |_=>exact absurd (show false=true from fy) z5
def Vh(x:V)(u:A0):Bool:=match u with
 |.none=>Vg .non x
 |.bool b=>Vg (.bl b) x
 |.int i _=>Vg (.int i) x
 |.str z _=>Vg (.str z) x
 |_=>false
theorem Q0{x y:V}(r:As y u)(f:qC y=true):Vh x u=Vg y x:=by
 cases y with
 |non=>cases r;rfl
 |bl b=>cases r;rfl
 |int i=>obtain⟨t,rfl⟩:=r;rfl
 |str z=>obtain⟨t,rfl⟩:=r;rfl
 |_=>exact absurd (show false=true from f) z5
theorem Gv{x:V}:∀{xs:O V} {us:O A0},AX xs us->xs.all qC=true->us.any (Vh x)=xs.any λy=>Vg y x
 |_,_,.nil,_=>rfl
 |y::xs,u::us,.cons r t,f=>by
  rw[jv,ZA]at f;rw[bj,bj,Q0 r f.1,Gv t f.2]
theorem Ak{A:A5}{s:A2}{x:V}{v:A0}(b:As x v)(fx:qC x=true):∀{xs:O V} {us:O A0},AX xs us->xs.all qC=true->∀u∈us,SeqAt.EqAt A s u v (Vh x u)
 |_,_,.nil,_=>λu a=>by cases a
 |y::xs,u::us,.cons r t,f=>λc a=>by
  rw[jv,ZA]at f;rcases List.mem_cons.mp a with rfl|a
  ·rw[Q0 r f.1];exact YT r b f.1 fx
  ·exact Ak b fx t f.2 c a
def EI(x:V)(xs:O V):Bool:=xs.any λy=>Vg y x
def GV(K:B4)(a:Bool):R2:=λx y H Q=>∃p xs,y=.ref p/\(nA K H p xs\/vV K H p xs)/\qC x=true/\xs.all qC=true/\Q (.bl (if a then !EI x xs else EI x xs)) H
theorem O7:xT X (AG .In) (GV X.K false):=by
 intro AN s σ H x y v u Q I c e h;obtain⟨p,xs,rfl,a,fx,fs,q⟩:=h;cases e;rcases a with a|a
 ·obtain⟨AQ,r,pl,d⟩:=I.list a;refine SeqAt.in_listAt (Vh x) pl.isList (λw b=>Ak c fx r fs w (by simpa using b)) ⟨.bl _,H,I,rfl,?_⟩;rw[show AQ.toArray.any (Vh x)=AQ.any (Vh x) by simp,Gv r fs];exact q
 ·obtain⟨AQ,r,pl,d⟩:=I.tuple a;refine SeqAt.in_tupleAt (Vh x) pl (λw b=>Ak c fx r fs w (by simpa using b)) ⟨.bl _,H,I,rfl,?_⟩;rw[show AQ.toArray.any (Vh x)=AQ.any (Vh x) by simp,Gv r fs];exact q
theorem Gw:eY X (.builtin "len") (λxs H Q=>∃p ys,xs=[.ref p]/\(nA X.K H p ys\/vV X.K H p ys)/\Q (.int ys.length) H):=by
 intro AN s σ H xs us Q I r h;obtain⟨p,ys,rfl,a,q⟩:=h;obtain⟨u,rfl,d⟩:=BB r;cases d;have f:=xU;rcases a with a|a
 ·obtain⟨AQ,b,pl,e⟩:=I.list a;have c:=b.length;exact Calls.call_len_list pl.isList (by simp only[zi]<;>omega) ⟨.int ys.length,H,I.tok _,⟨s.toks+1,by rw[zi,c]⟩,q⟩
 ·obtain⟨AQ,b,pl,e⟩:=I.tuple a;have c:=b.length;exact len_tuple pl (by simp only[zi]<;>omega) ⟨.int ys.length,H,I.tok _,⟨s.toks+1,by rw[zi,c]⟩,q⟩
theorem Gx:eY X (.builtin "len") (λxs H Q=>∃z,xs=[.str z]/\z.length<=AA/\Q (.int z.length) H):=by
 intro AN s σ H xs us Q I r h;obtain⟨z,rfl,b,q⟩:=h;obtain⟨u,rfl,t,rfl⟩:=BB r;have a:=xU;exact len_str () ⟨.int z.length,H,I.tok _,⟨_,rfl⟩,q⟩
theorem eY.or{f:A0}{r a:O V->Hp->VK->Prop}(h:eY X f r)(h':eY X f a):eY X f (λxs H Q=>r xs H Q\/a xs H Q):=by
 intro AN s σ H xs us Q I b q;rcases q with q|q
 ·exact h AN s σ H xs us Q I b q
 ·exact h' AN s σ H xs us Q I b q
theorem Dp:eY X (.type "tuple") (λxs H Q=>∃p ys,xs=[.ref p]/\((nA X.K H p ys/\∀l,H l=Z->Q (.ref l) (B8 H l (.tup ys)))\/(vV X.K H p ys/\Q (.ref p) H))):=by
 intro AN s σ H xs us Q I r h;obtain⟨p,ys,rfl,h⟩:=h;obtain⟨u,rfl,i⟩:=BB r;cases i;rcases h with⟨c,q⟩|⟨c,q⟩
 ·obtain⟨AQ,a,pl,d⟩:=I.list c;have j:=a.length;refine call_tuple_list pl.isList (λh' kp=>?_) (by simp only[zi]<;>omega);have f:AU X AN σ H { s with heap:=h' }:=I.kept (t':=s.toks) kp;have g:AU X AN σ (B8 H h'.objs.size (.tup ys)) { s with heap:=h'.push { cls:=.type "tuple",data:=.seq AQ.toArray } }:=
   f.laid (t':=s.toks) (λb o e=>zh _ e) (zl _) (show je X.prog X.w _ _ _ (.tup ys) from⟨d,AQ,a,jT.new _ _⟩)
  exact⟨.ref h'.objs.size,_,g,rfl,q _ (f.hok.fresh (zl _))⟩
 ·obtain⟨AQ,a,pl,d⟩:=I.tuple c;exact call_tuple_same pl ⟨.ref p,H,I,rfl,q⟩
def Ee(K:B4)(T:String)(x:V)(H:Hp):Prop:=match x with
 |.str _=>T ="str"
 |.int _=>T ="int"
 |.ref p=>(T ="list" ∧ ∃xs,nA K H p xs)\/(T ="tuple" ∧ ∃o,K.lookup p=U o/\o.cls=.type "tuple" ∧ o.dict=Z) ∨
   (T ="dict" ∧ ((∃AO,H p=U (.dK AO))\/∃AO,H p=U (.dT AO)))\/(T ="set" ∧ ∃S n,H p=U (.set S n))
 |_=>False
theorem Q5{σ:St}{H:Hp}{T:String}{x:V}(I:AU X AN σ H s)(r:As x v)(ty:Ee X.K T x H):
  s.TypeIs v T/\∀a,v=.ref a->∃b,s.heap.get? a=U b/\b.dict=Z:=by
 cases x with
 |str z=>
  obtain⟨t,rfl⟩:=r;cases(show T ="str" from ty);exact⟨typeIs_str s z t,λ_ e=>nomatch e⟩
 |int i=>
  obtain⟨t,rfl⟩:=r;cases(show T ="int" from ty);exact⟨typeIs_int s i t,λ_ e=>nomatch e⟩
 |ref p=>
  cases r;rcases ty with⟨rfl,xs,f⟩|⟨rfl,o,hk,d,hd⟩|⟨rfl,hk⟩|⟨rfl,S,n,hk⟩
  ·obtain⟨AQ,_,pl,_⟩:=I.list f;refine⟨pl.isList.typeIs,λa e=>?_⟩;cases e;obtain⟨o,n,e,c,hd,_⟩:=pl;exact⟨o,e,hd⟩
  ·refine⟨⟨o,I.Uo p o hk,d⟩,λa e=>?_⟩;cases e;exact⟨o,I.Uo _ o hk,hd⟩
  ·have z:∃o,s.heap.get? p=U o/\o.ExactDict:=by
    rcases hk with⟨AO,hk⟩|⟨AO,hk⟩
    ·obtain⟨_,_,_,_,o,_,_,e,ex,_⟩:=I.hok p _ hk;exact⟨o,e,ex⟩
    ·obtain⟨_,_,_,_,o,_,_,e,ex,_⟩:=I.hok p _ hk;exact⟨o,e,ex⟩
   obtain⟨o,e,ex⟩:=z;refine⟨⟨o,e,ex.1⟩,λa e2=>?_⟩;cases e2;exact⟨o,e,ex.2.1⟩
  ·obtain⟨o,_,_,_,e,ex,_⟩:=I.hok p _ hk;refine⟨⟨o,e,ex.1⟩,λa e2=>?_⟩;cases e2;exact⟨o,e,ex.2.1⟩
 |_=>exact False.elim ty
def KF(K:B4)(T:String)(r:V->O V->Hp->VK->Prop)(to:TE):TE:=λσ H Q=>to σ H λx H1=>Ee K T x H1/\r x [] H1 Q
def IX(K:B4)(T:String)(r:V->O V->Hp->VK->Prop)(to:TE)(t:TA):TE:=λσ H Q=>to σ H λx H1=>Ee K T x H1/\t σ H1 λxs H2=>r x xs H2 Q
variable{o:Expr}{to:TE}{t:TA}{T id:String}{r:V->O V->Hp->VK->Prop}
theorem YW(pa:PlainAttrs T)(a:Slot T name id)(f:typeOf (.builtin id)=pure (.type "method_descriptor"))(c:DB X id r)(b:PE X o to)
  (d:attributeBase o name X.env (eval o X.env)=eval o X.env:=by rfl) (e:(apos.endLine==cpos.line)=true:=by rfl):PE X (.Call (.Attribute o name apos) [] [] cpos) (KF X.K T r to):=by
 intro AN s σ H Q I h;refine wpAny_Call_method0_late d e (jA (b AN s σ H _ I h) λv s1 ⟨x,H1,I1,r1,ty,q1⟩=>?_);obtain⟨h1,h2⟩:=Q5 I1 r1 ty;exact⟨T,id,pa,a,f,h1,h2,Calls.callWith_builtin S (PySem.evalArgs_none (c AN s1 σ H1 x [] v [] Q I1 r1 .nil q1))⟩
theorem Iz(pa:PlainAttrs T)(b:Slot T name id)(l:typeOf (.builtin id)=pure (.type "method_descriptor"))(g:DB X id r)(c:PE X o to)(k:PA X (e::es) t)
  (i:attributeBase o name X.env (eval o X.env)=eval o X.env:=by rfl)
  (d:((AD cpos (A9 (e::es) X.env)).all (λx=>!x.1)&&(backToKw cpos (keywordEach [] X.env)).all (λx=>x.1.isSome)
   && decide ((e::es).length+([]:O AC).length+(if([]:O AC).isEmpty then 0 else 1)<30))=true:=by rfl)
  (j:(apos.endLine==cpos.line)=true:=by rfl) (hs:A9 (e::es) X.env=(false,eval e X.env)::A9 es X.env:=by rfl) (f:(AD cpos (A9 es X.env)).any (·.1)=false:=by rfl):
  PE X (.Call (.Attribute o name apos) (e::es) [] cpos) (IX X.K T r to t):=by
 intro AN s σ H Q I h;refine wpAny_Call_method_late i d j S (jA (c AN s σ H _ I h) λv s1 ⟨x,H1,I1,r1,ty,q1⟩=>?_);obtain⟨h1,h2⟩:=Q5 I1 r1 ty;refine⟨T,id,pa,b,l,h1,h2,?_⟩;have a:=k cpos AN s1 σ H1 _ I1 q1;rw[hs]at a ⊢;refine Calls.callWith_builtin (by show(false||(AD cpos (A9 es X.env)).any (·.1))=false;rw[f]<;>rfl) (Calls.evalArgs_plain ?_);exact jA a λus s2 ⟨vs,H2,I2,r2,q2⟩=>g AN s2 σ H2 x vs v us Q I2 r1 r2 q2
end
end L2
namespace L2
def EU(X:Cx)(id:String)(r:V->O V->Hp->VK->Prop):Prop:=
 ∀(AN:O (A1×AE)) (s:A2) (σ:St) (H:Hp) (x:V) (xs:O V) (v:A0) (us:O A0) (Q:VK),AU X AN σ H s->As x v->AX xs us->r x xs H Q →
  A7 (en X) X.A (call (.builtin id) (v::us)) (EP X AN σ Q) X.xe s
theorem AX.one:∀{x:V} {us:O A0},AX [x] us->∃u,us=[u]/\As x u:=λh=>by
 cases h with
 |cons r t=>cases t;exact⟨_,rfl,r⟩
theorem AX.zero:∀{us:O A0},AX [] us->us=[]
 |_,.nil=>rfl
theorem AX.eraseIdx:∀{xs:O V} {us:O A0} (i:Nat),AX xs us->AX (xs.eraseIdx i) (us.eraseIdx i)
 |_,_,_,.nil=>.nil
 |_,_,0,.cons _ t=>t
 |_,_,i+1,.cons r t=>.cons r (AX.eraseIdx i t)
theorem AX.reverse{xs:O V}(h:AX xs us):AX xs.reverse us.reverse:=by
 induction h with
 |nil=>exact .nil
 |cons r t a=>rw[j0,j0];exact AX.append a (.cons r .nil)
theorem Eu{α:Type}:∀(l:O α) (i:Nat),(l.eraseIdx i).length<=l.length
 |[],_=>zl _
 |_::_,0=>kP _
 |_::r,i+1=>k3 (Eu r i)
section
variable{X:Cx}{σ:St}{H:Hp}{b:A1}{xs ys zs:O V}
theorem AU.K8{its':O A0}{f:Array A0->Array A0}{t':Nat}(I:AU X AN σ H s)(a:H l=U (.lst xs))(e:s.heap.get? l=U { cls:=.type "list",data:=.seq AQ.toArray n })(h:f AQ.toArray=its'.toArray)(g:AX ys its')(c:ys.length<=AA):
  AU X AN σ (B8 H l (.lst ys)) { s with heap:=s.heap.update l (Obj.mapSeq f),toks:=t' }:=by
 have q:=PySem.IsL.update e f;rw[h]at q;refine I.write (x:=l) (e:=l) (by rw[a];exact trivial) (.inl S) (λi u d b=>(Heap.get?_update_other s.heap (Obj.mapSeq f) (Ne.symm d)).trans b) ⟨_,q⟩ ?_;exact⟨c,its',_,g,q⟩
theorem AU.xV(I:AU X AN σ H s)(a:H l=U (.lst xs)):xs.length<=AA/\∃(AQ:O A0) (n:Nat),AX xs AQ/\xs.length=AQ.length/\s.heap.get? l=U { cls:=.type "list",data:=.seq AQ.toArray n }:=by
 obtain⟨z,AQ,n,r,e⟩:=I.hok l _ a;exact⟨z,AQ,n,r,r.length,e⟩
end
section
variable{X:Cx}
def Vi:V->O V->Hp->VK->Prop:=λx vs H Q=>∃l xs y,x=.ref l/\vs=[y]/\H l=U (.lst xs)/\xs.length<AA/\Q .non (B8 H l (.lst (xs++[y])))
theorem Ew:EU X "list.append" Vi:=by
 intro AN s σ H x vs v us Q I c b h;obtain⟨l,xs,y,rfl,rfl,a,f,q⟩:=h;cases c;obtain⟨u,rfl,d⟩:=b.one;obtain⟨z,AQ,n,r,g,e⟩:=I.xV a;refine call_meets F.slot_list_append ⟨_,e,rfl⟩ F.entry_list_append (F.args_list_append_2 _ _) (PySem.list_append l AQ.toArray n u (by rw[zi];omega)) ⟨e,?_⟩;refine⟨.non,_,I.K8 (its':=AQ++[u]) a e (by simp) (r.append (.cons d .nil)) ?_,rfl,q⟩;rw[qa,cw];omega
def YX:V->O V->Hp->VK->Prop:=λx vs H Q=>∃l xs i k y,x=.ref l/\vs=[.int i]/\H l=U (.lst xs) ∧ -(2 ^ 63)<=i/\i<2 ^ 63/\seqIndex? i xs.length=U k/\xs[k]?=U y/\Q y (B8 H l (.lst (xs.eraseIdx k)))
theorem Q6:EU X "list.pop" YX:=by
 intro AN s σ H x vs v us Q I d c h;obtain⟨l,xs,i,k,y,rfl,rfl,a,h1,h2,hk,m,q⟩:=h;cases d;obtain⟨u,rfl,f⟩:=c.one;obtain⟨t,rfl⟩:=f;obtain⟨z,AQ,n,r,g,e⟩:=I.xV a;obtain⟨w,j,b⟩:=r.get m;refine call_meets F.slot_list_pop ⟨_,e,rfl⟩ F.entry_list_pop (F.args_list_pop_2 _ _)
  (MeetsSeq.list_pop_at l AQ.toArray n i t k w (fitsIndex_both h1 h2) (by rw[zi,<-g];exact hk) (by rw[<-Array.getElem?_toList];exact j) (by rw[zi];omega)) ⟨e,?_⟩
 refine⟨y,_,I.K8 (its':=AQ.eraseIdx k) a e ?_ (r.eraseIdx k) ?_,b,q⟩
 ·show AQ.toArray.eraseIdxIfInBounds k=(AQ.eraseIdx k).toArray;rw[List.eraseIdxIfInBounds_toArray]
 ·have:=Eu xs k;omega
def Q7:V->O V->Hp->VK->Prop:=λx vs H Q=>∃l xs,x=.ref l/\vs=[]/\H l=U (.lst xs)/\Q .non (B8 H l (.lst xs.reverse))
theorem K9:EU X "list.reverse" Q7:=by
 intro AN s σ H x vs v us Q I d b h;obtain⟨l,xs,rfl,rfl,a,q⟩:=h;cases d;have c:=b.zero;subst c;obtain⟨z,AQ,n,r,f,e⟩:=I.xV a;refine call_meets F.slot_list_reverse ⟨_,e,rfl⟩ F.entry_list_reverse (F.args_list_reverse_1 _) (AutoSeq1.list_reverse_list_0 l AQ.toArray n (by rw[zi];omega)) ⟨e,?_⟩;refine⟨.non,_,I.K8 (its':=AQ.reverse) a e (by simp) r.reverse ?_,rfl,q⟩;rw[bb];omega
end
section
variable{X:Cx}
end
end L2
namespace L2
section
variable [DecidableEq κ]
end
theorem KG{k:AY}(r:As (kV k) u):(iB P w).is k u=true:=by
 cases k with
 |inl i=>obtain⟨t,e⟩:=(show ∃t,u=Value.int i t from r);subst e;exact Ik P w i t
 |inr x=>obtain⟨t,e⟩:=(show ∃t,u=Value.str x t from r);subst e;exact Il P w x t
section
variable{H:Hp}
theorem LV{u:HO}(ok:yZ P w H h)(e:Rd H a u):je P w H h a u:=e.ok ok
theorem Ey{AO:O (AY×V)}(ok:yZ P w H h)(e:Rd H a (.dK AO)):AO.length<=AA/\(a==sysModules)=false/\∃vs,KV AO vs/\h.DictOf (iB P w) a vs:=
 show je P w H h a (.dK AO) from LV ok e
end
section
variable{X:Cx}{σ:St}{H:Hp}{y v:V}{r:A0}{o:Y V}
end
section
variable{X:Cx}{σ:St}{H:Hp}{AO:O (AY×V)}{k:AY}
end
def YZ(i:Expr):Prop:=∀a iv,subscripted i false a iv=operate [a,iv] (getItem a iv)
theorem Vj{value a:Expr}{T id:String}(l:typeLookup (.type T) "__getitem__"=pure (U (.builtin id)))(hs:YZ a)(h:A7 (A8 prog w) A (eval value env) (λo e=>A7 (A8 prog w) A (eval a env) (λi b=>b.TypeIs o T/\A7 (A8 prog w) A (getItem o i) Q E b) E e) E s):
  A7 (A8 prog w) A (eval (.Subscript value a pos) env) Q E s:=by
 refine Subscript_ (ZI h (λo e k=>ZI k (λi b c=>?_) λ_ _ x=>x) λ_ _ x=>x);obtain⟨g,c⟩:=c;unfold subscriptTail;refine zb ?_;rw[getitemInPython_of_ne g.not_modules];refine zb (wpAny_specialOf g l ?_);have d:A7 (A8 prog w) A (subscripted a false o i) (λr f=>A7 (A8 prog w) A (letTemporaryGo value o r >>= λ_=>pure r) Q E f) E b:=by
  rw[hs o i];exact wpAny_operating (ZI c (λr f j=>zb (wpAny_letTemporaryGo (zd j))) λ_ _ x=>x)
 first
  |exact zd (zb d)
  |exact zb (zd (zb d))
  |exact zb d
section
variable{X:Cx}{o i value:Expr}{pos':Pos}{td ty tv:TE}
end
section
variable{X:Cx}
end
structure M1 (X:Cx) (o:Expr) (m:Str) (apos:Pos) (e:Expr) (cpos:Pos):Prop where
 base:attributeBase o m X.env (eval o X.env)=eval o X.env
 few:((backTo cpos (starEach [e] X.env)).all (λx=>!x.1)&&(backToKw cpos (keywordEach [] X.env)).all (λx=>x.1.isSome)
  && decide (([e]:List Expr).length+([]:List Keyword).length+(if([]:List Keyword).isEmpty then 0 else 1)<30))=true
 line:(apos.endLine==cpos.line)=true
 trees:backTo cpos (starEach [e] X.env)=[(false,eval e X.env)]
structure M2 (X:Cx) (o:Expr) (m:Str) (apos:Pos) (e f:Expr) (cpos:Pos):Prop where
 base:attributeBase o m X.env (eval o X.env)=eval o X.env
 few:((backTo cpos (starEach [e,f] X.env)).all (λx=>!x.1)&&(backToKw cpos (keywordEach [] X.env)).all (λx=>x.1.isSome)
  && decide (([e,f]:List Expr).length+([]:List Keyword).length+(if([]:List Keyword).isEmpty then 0 else 1)<30))=true
 line:(apos.endLine==cpos.line)=true
 trees:backTo cpos (starEach [e,f] X.env)=[(false,eval e X.env),(false,eval f X.env)]
section
variable{X:Cx}{σ:St}{H:Hp}{y d:V}{r:A0}{o:Y V}
end
section
variable{X:Cx}{o f:Expr}{td ty tx:TE}
end
section
variable{X:Cx}{σ:St}{H:Hp}{AO:O (AY×V)}
end
section
variable{X:Cx}{σ:St}{H:Hp}{y:V}
end
end L2
namespace Att
open PySem PySem.W PySem.Calls PyProof.Rows
theorem zA{P:Params}:∀(c:O Int) (vs:O A0),WellAll P h vs (c.map WData.int)->IntsAre vs c:=by
 intro c
 induction c with
 |nil=>
  intro vs w;rw[kH]at w;cases w;exact .nil
 |cons n c d=>
  intro vs w;rw[zo]at w;cases w with
  |cons a b=>
   cases a;exact .cons _ _ (d _ b)
theorem O8{l:OpenLaw}(m:l.most=U n){P:Params}{args:O WData}{g:O A0}(i:l.row.toRowW.claim.pre args=true)(u:WellAll P h g args):
  ∃a vs b,g=[Value.ref a]/\args=[WData.list (b.map WData.int)]/\h.get? a=U { cls:=.type "list",data:=.seq vs.toArray }/\IntsAre vs b/\b.length<=n:=by
 have t:WShape.hasAll [] args [.list .int]=true:=(pre_splitW i).1;have f:l.pre.holds [] { args:=args }=true:=(pre_splitW i).2;obtain⟨d,r,rfl,h1,h2⟩:=hasAllW_cons t;obtain rfl:=hasAllW_nil h2;obtain⟨xs,rfl,j⟩:=hasW_list h1;obtain⟨b,rfl⟩:=items_int j;have w:b.length<=n:=by
  unfold OpenLaw.pre at f;have c:(WTm.not (.lt (.lit (.int (n:Int))) (.len (.arg 0)))).holds [] { args:=[.list (b.map .int)] }=true:=by
   have c:=(holds_andW f).1;rw[m]at c;exact c
  have e:=condW_of c (w_not (w_lt w_lit (w_len_list (w_arg S))));rw[zk]at e;refine Nat.le_of_not_lt λq=>?_;have o:(n:Int)<((b.length:Nat):Int):=by omega
  first
   |(rw[qS o]at e;exact absurd e ())
   |(simp at e;omega)
 cases u with
 |cons s p=>
  cases p;cases s with
  |list k v=>exact⟨_,_,b,rfl,rfl,k,zA b _ v,w⟩
theorem O9(l:OpenLaw)(args:O WData):l.row.toRowW.claim.post args (.bool true) args=true:=
 postW_of (r:=l.row.toRowW) (X:=(true==true))
  (show WShape.has [] (.bool true) .bool=true by first|rfl|decide|simp[WShape.has,WShape.arms,WShape.armsAll])
  (show(WTm.eq .res (.lit (.bool true))).value [] { args:=args,res:=U (.bool true),after:=args }=U (.bool (true==true)) from w_eq_bool (w_res S) w_lit) rfl
theorem IK{l:OpenLaw}{q:A3}{loose:AZ}{d:DefRec}(s:l.most=U n)(t:d.params.defaults=[])(call:∀(w:A4) (g b:A2) (mg i:AJ->Option A0) (fa:A1) (o:AE) (pm c h:A0) (a:A1) (vs:O A0) (e:O Int),
   Ground q loose [] XP w g mg i b.heap->YP w b.heap →
   b.heap.get? fa=U o->o.data=.func (docDef d.name d.params d.body d.scope pm c h)->b.heap.CodeRec c d.name->mg d.name=U (.ref fa) →
   b.heap.get? a=U { cls:=.type "list",data:=.seq vs.toArray }->IntsAre vs e->e.length<=n->b.gens=#[] →
   AF (A8 l.prog w) callerA (.call (.ref fa) ⟨[.ref a],[]⟩) (λr s'=>r=.ok (.ret (.bool true))/\OldK b.heap s'.heap/\s'.os=b.os/\AllBare s'.gens) b):
  WalkO q loose XP YP l.row.toRowW d [] (λf vs=>PySem.call f vs):=by
 intro w g b mg i G Y fa o pm c h A kV v hd D j m y H L as C J K B I;obtain rfl:A=.none:=Dflts.none j t;obtain rfl:kV=.none:=Dflts.noKw j;obtain⟨a,vs,e,rfl,rfl,z,k,F⟩:=O8 s C B;refine enter_call (codeAny_mono (call w g b mg i fa o pm c h a vs e G Y v (fd_plain hd) D m z k F y) λr s' E=>?_);obtain⟨rfl,h2,u,x⟩:=E;exact⟨.inl ⟨.bool true,.bool true,[],rfl,λ_=>S,.bool true,O9 l _,λ_=>⟨List.Pairwise.nil,λ_ p=>(nomatch p)⟩⟩,h2,u,x⟩
section
variable{K:Frag}
end
end Att
namespace L2
theorem sW:∀{vs:O A0} {a:O Int},IntsAre vs a->AX (a.map V.int) vs
 |_,_,.nil=>.nil
 |_,_,.cons n t h=>.cons ⟨t,rfl⟩ (sW h)
def CU(H:Hp):Prop:=∀b,H b=Z\/(∃o xs,H b=U (.qH o (.lst xs)))\/∃ps,H b=U (.Gm ps)
structure Q8 (K:B4) (h:Heap) (TL:List (Addr×Array Value)):Prop where
 all:∀P q,Yc K P q->∃ps,TL.lookup P=some ps/\tq ps=q/\0<ps.size
 ok:∀P ps,TL.lookup P=some ps->K.lookup P=none/\h.get? P=some { cls:=.none,data:=.fields #[] }/\isCodeTable h P/\tr ps=#[]
theorem Q9{G:AJ->Y A0}{CX:Qw}{fa:A1}{sp:Sp}{c:A2}{vs:O A0}{A:O Int}{f:O (A1×Array A0)}(KX:K.In c.heap)(a0:c.heap.Ns mainGlobals mg)(i:c.heap.Ns builtinsNs G)(a4:∀x:AJ,x ≠ "__name__" → G x=AH x)(a8:c.heap.NoLimit)(b7:∃p j,mg "__builtins__"=U (.ref p)/\p≠builtinsNs/\c.heap.get? p=U j/\j.cls=.type "module" ∧ j.dict=U builtinsNs/\j.data=.plain)(hg:c.gens=#[])(t:c.heap.get? a=U { cls:=.type "list",data:=.seq vs.toArray })(hi:IntsAre vs A)(L:A.length<=AA)(hr:iD k callerA)(F:∀base:A6,K.In base->base.Ns mainGlobals mg->qO P w K mg base CX k fa fd [x] sp)(a7:∀(s:A2) (u:A0),BindsTo s fd ⟨[u],[]⟩ [(x,u)])(a2:∀H:Hp,CU H->nA K H a (A.map V.int)->sp [.ref a] H (λv _=>v=.bl true) λ_ _ _=>False)(b0:∀H e s',CX [] H c (λ_ _ _=>False) e s'->False)(T:Q8 K c.heap f):
  AF (A8 P w) callerA (.call (.ref fa) ⟨[.ref a],[]⟩) (λr s'=>r=.ok (.ret (.bool true))/\OldK c.heap s'.heap/\s'.os=c.os/\AllBare s'.gens) c:=by
 have M:=sW hi;have a6:=hi.length;have J:f.lookup a=Z:=by
  cases e:f.lookup a with
  |none=>rfl
  |some ps=>
   have q:=(T.ok a ps e).2.1;rw[t]at q;cases q
 have tok:∀(H:Hp) (b:A1) (ps:Array A0),f.lookup b=U ps->je P w H c.heap b (.Gm ps):=λH b ps e=>by
  obtain⟨_,g,_,z⟩:=T.ok b ps e;refine⟨#[],by rw[z];exact g,?_,λpos cv q=>?_⟩
  ·rw[z];simp[TriplesOk]
  ·rw[z]at q;cases q
 have Q:∀H:Hp,CU H->nA K H a (A.map V.int)->yZ P w H c.heap->(∀b,H b≠Z->b=a\/∃ps,f.lookup b=U ps)->(∀b ps,f.lookup b=U ps->H b=U (.Gm ps))->(H a≠Z->K.lookup a=Z) →
   AF (A8 P w) callerA (.call (.ref fa) ⟨[.ref a],[]⟩) (λr s'=>r=.ok (.ret (.bool true))/\OldK c.heap s'.heap/\s'.os=c.os/\AllBare s'.gens) c:=by
  intro H X hS D B a9 hK;have E:∀{b:A1} {o:AE},c.heap.get? b=U o->H b=Z->(Gn c.heap H).get? b=U o:=λe n=>QD e n;have U5:∀{b:A1} {o:AE} {es:Array DictEntry} {ep:Nat},c.heap.get? b=U o->o.data=.dict es ep->H b=Z:=λ{b o es ep} e d=>by
   cases q:H b with
   |none=>rfl
   |some u=>
    rcases B b (by rw[q];simp)with e'|⟨ps,e'⟩
    ·subst e';rw[t]at e;cases e;have d':Data.seq vs.toArray _=Data.dict es ep:=d;cases d'
    ·rw[(T.ok b ps e').2.1]at e;cases e;cases d
  have C:∀{b:A1} {m:AJ->Y A0},c.heap.Ns b m->(Gn c.heap H).Ns b m:=λ{b m} ⟨o,es,ep,e,d,r⟩=>⟨o,es,ep,E e (U5 e d),d,r⟩;have W:K.In (Gn c.heap H):=λb o e=>E (KX b o e) (by
   cases q:H b with
   |none=>rfl
   |some u=>
    rcases B b (by rw[q];simp)with e'|⟨ps,e'⟩
    ·subst e';rw[hK (by rw[q];simp)]at e;cases e
    ·rw[(T.ok b ps e').1]at e;cases e)
  have hM:Mod K mg (Gn c.heap H):=⟨W,C a0,⟨G,C i,a4⟩,let ⟨mc,h1,h2⟩:=a8;⟨mc,C h1,h2⟩,let ⟨p,j,b1,b2,b3,b4,b5,b6⟩:=b7;⟨p,j,b1,b2,E b3 (by
   cases q:H p with
   |none=>rfl
   |some u=>
    rcases B p (by rw[q];simp)with e'|⟨ps,e'⟩
    ·subst e';rw[t]at b3;cases b3;injection b4 with z;exact absurd z ()
    ·rw[(T.ok p ps e').2.1]at b3;cases b3;cases b4),b4,b5,b6⟩⟩
  have e0:U3 P w K mg (Gn c.heap H) callerA [] c H:=⟨rfl,hM,λb o e=>Uu e,Nat.le_of_eq (Ow _ _),trivial,λb i=>absurd (show b∈([]:O A1) from i) (by simp),D,.of_eq hg,λP q k=>by
   obtain⟨ps,l,r⟩:=T.all P q k;exact⟨ps,a9 P ps l,r⟩⟩
  refine codeAny_mono ((F _ W (C a0)).run callerA [] c H ⟨[.ref a],[]⟩ [.ref a] [.ref a] _ _ hr e0 (a7 c (.ref a)) (.cons S .nil) (a2 H X hS)) λr s' h=>?_;cases r with
  |error e=>exact(b0 H e s' h).elim
  |ok fl=>
   cases fl with
   |next=>exact False.elim h
   |brk=>exact False.elim h
   |cont=>exact False.elim h
   |ret u=>
    obtain⟨v,H',os,a3,un,I,r',q⟩:=h;have q':v=.bl true:=q;subst q';obtain rfl:u=Value.bool true:=r';have a1:∀b o,c.heap.get? b=U o->s'.heap.get? b=U o\/(isCodeTable c.heap b/\o.cls=.none/\∃vs N,o.data=.fields vs/\s'.heap.get? b=U { o with data:=.fields (vs++N) }):=λb o e=>by
     cases q:H b with
     |none=>exact .inl (un.keep b o e q (by intro z;exact absurd (show b∈([]:O A1) from z) (by simp)) (by simp))
     |some u=>
      rcases X b with z|⟨j,xs,z⟩|⟨ps,z⟩
      ·rw[q]at z;cases z
      ·have z2:=un.Dl b j _ z;obtain⟨e1,_⟩:=D b _ z;obtain⟨e2,_⟩:=I b _ z2;rw[e]at e1;cases e1;exact .inl e2
      ·rcases B b (by rw[q];simp)with e'|⟨a5,e'⟩
       ·subst e';obtain⟨N,g,_⟩:=D b _ z;rw[t]at g;cases g
       ·obtain⟨_,g,ct,_⟩:=T.ok b a5 e';rw[e]at g;cases g;obtain⟨m1,z2⟩:=un.vX b ps z;obtain⟨m2,g2,_⟩:=I b _ z2;exact .inr ⟨ct,rfl,#[],_,rfl,by rw[g2,Array.empty_append]⟩
    refine⟨rfl,⟨λb o e=>(a1 b o e).imp id .inl,λb o e=>?_⟩,os,a3⟩;rcases a1 b o e with z|⟨_,_,_,_,_,z⟩<;>exact⟨_,z⟩
 cases hk:K.lookup a with
 |some o=>
  have e:=KX a o hk;rw[t]at e;cases e;refine Q (λb=>(f.lookup b).map .Gm) (λb=>?_) (.inr ⟨_,vs.toArray,_,hk,rfl,rfl,rfl,by rw[zi,a6];exact L,by simpa using M⟩) (λb u z=>?_) (λb z=>?_) (λb ps e=>by show(f.lookup b).map _=_;rw[e];rfl) λz=>absurd (by show(f.lookup a).map _=Z;rw[J];rfl) z
  ·cases e:f.lookup b with
   |none=>exact .inl (by show(f.lookup b).map HO.Gm=Z;rw[e];rfl)
   |some ps=>exact .inr (.inr ⟨ps,by show(f.lookup b).map HO.Gm=_;rw[e];rfl⟩)
  ·have z:(f.lookup b).map HO.Gm=U u:=z;cases e:f.lookup b with
   |none=>rw[e]at z;cases z
   |some ps=>rw[e]at z;cases z;exact tok _ b ps e
  ·cases e:f.lookup b with
   |none=>exact absurd (by show(f.lookup b).map HO.Gm=Z;rw[e];rfl) z
   |some ps=>exact .inr ⟨ps,rfl⟩
 |none=>
  refine Q (λb=>if b=a then U (.qH { cls:=.type "list",data:=.seq vs.toArray } (.lst (A.map V.int)))else(f.lookup b).map .Gm) (λb=>?_) (.inl (.inr ⟨{ cls:=.type "list",data:=.seq vs.toArray },zr rfl⟩)) (λb u z=>?_) (λb z=>?_) (λb ps e=>?_) λ_=>hk
  ·by_cases i:b=a
   ·exact .inr (.inl ⟨_,_,zr i⟩)
   ·cases e:f.lookup b with
    |none=>exact .inl ((zI i).trans (by rw[e];rfl))
    |some ps=>exact .inr (.inr ⟨ps,(zI i).trans (by rw[e];rfl)⟩)
  ·by_cases i:b=a
   ·have y:=(zr i).symm.trans z;cases y;subst i;exact⟨t,by rw[zk];exact L,vs,_,M,t⟩
   ·have y:=(zI i).symm.trans z;cases e:f.lookup b with
    |none=>rw[e]at y;cases y
    |some ps=>rw[e]at y;cases y;exact tok _ b ps e
  ·by_cases i:b=a
   ·exact .inl i
   ·cases e:f.lookup b with
    |none=>exact absurd ((zI i).trans (by rw[e];rfl)) z
    |some ps=>exact .inr ⟨ps,rfl⟩
  ·have i:b≠a:=λz=>by rw[z,J]at e;cases e
   exact(zI i).trans (by rw[e];rfl)
end L2
namespace L2
theorem Vk{l:PySem.W.OpenLaw}{q:A3}{loose:AZ}{d:DefRec}{K:Params->B4}{CX:A4->Qw}{sp:A4->Sp}(D:l.most=U n)(N:n<=AA)(E:d.params.defaults=[])(I:iD k callerA)(hY:∀(w:A4) (h:A6),YP w h->(K w.params).In h)(F:∀(w:A4) (mg:AJ->Option A0) (fa:A1) (h:A6),(K w.params).In h->h.Ns mainGlobals mg->mg d.name=U (.ref fa) →
   ∃fd:FuncData,(∀(s:A2) (u:A0),BindsTo s fd ⟨[u],[]⟩ [(x,u)]) ∧
    ∀base:A6,(K w.params).In base->base.Ns mainGlobals mg->qO l.prog w (K w.params) mg base (CX w) k fa fd [x] (sp w))(t:∀(w:A4) (H:Hp) (a:A1) (c:O Int),c.length<=n->CU H->nA (K w.params) H a (c.map V.int)->sp w [.ref a] H (λv _=>v=.bl true) λ_ _ _=>False)(X:∀(w:A4) (H:Hp) (s:A2) (e:A0) (s':A2),CX w [] H s (λ_ _ _=>False) e s'->False)(J:∀(w:A4) (h:A6) (mg m:AJ->Option A0) (L:ExcName->Option A0) (ls:AZ),(K w.params).In h->Top q ls L mg m h->∃p,Q8 (K w.params) h p):
  PySem.W.WalkO q loose XP YP l.row.toRowW d [] (λf vs=>PySem.call f vs):=by
 refine Att.IK D E λw a0 y mg m fa o pm cd a1 a vs c G Y ho hd a2 C Q z j P=>?_;have i:=hY w _ Y;obtain⟨fd,B,A⟩:=F w mg fa _ i G.T.g C;obtain⟨p,tl⟩:=J w _ _ _ _ _ i G.T;exact Q9 i G.T.g G.T.b G.T.builtins G.T.nolimit G.T.bmain P Q z (zD j N) I A B (λH hO M=>t w H a c j hO M) (λH e s'=>X w H y e s') tl
theorem Ra{l:PySem.W.OpenLaw}{q:A3}{loose:AZ}{d:DefRec}{K:Params->B4}{CX:Qw}{sp:B4->Sp}(i:l.most=U n)(m:n<=AA)(j:d.params.defaults=[])(o:iD k callerA)(p:∀(w:A4) (h:A6),YP w h->(K w.params).In h)(F:∀(w:A4) (mg:AJ->Y A0) (fa:A1) (h:A6),(K w.params).In h->h.Ns mainGlobals mg->mg d.name=U (.ref fa) →
   ∃fd:FuncData,(∀(s:A2) (u:A0),BindsTo s fd ⟨[u],[]⟩ [(x,u)]) ∧
    ∀base:A6,(K w.params).In base->base.Ns mainGlobals mg->qO l.prog w (K w.params) mg base CX k fa fd [x] (sp (K w.params)))(g:∀(K:B4) (H:Hp) (a:A1) (b:O Int),b.length<=n->CU H->nA K H a (b.map V.int)->sp K [.ref a] H (λv _=>v=.bl true) λ_ _ _=>False)(A:∀(H:Hp) (s:A2) (e:A0) (s':A2),CX [] H s (λ_ _ _=>False) e s'->False)(t:∀(w:A4) (h:A6) (mg B:AJ->Y A0) (y:ExcName->Y A0) (C:AZ),(K w.params).In h->Top q C y mg B h->∃z,Q8 (K w.params) h z):
  PySem.W.WalkO q loose XP YP l.row.toRowW d [] (λf vs=>PySem.call f vs):=
 Vk (K:=K) (CX:=λ_=>CX) (sp:=λw=>sp (K w.params)) i m j o p F (λw H a b h1 h2 c=>g (K w.params) H a b h1 h2 c) (λ_ H s e s'=>A H s e s') t
end L2
namespace L2
def pJ(s:AB):Arguments:=match s with
 |.FunctionDef _ a _ _ _ _ _ _ _ _=>a
 |_=>{ posonlyargs:=[],args:=[],vararg:=Z,kwonlyargs:=[],kw_defaults:=[],kwarg:=Z,defaults:=[] }
def fJ(s:AB):O AB:=match s with
 |.FunctionDef _ _ b _ _ _ _ _ _ _=>b
 |_=>[]
def aH(s:AB):Scope:=match s with
 |.FunctionDef _ _ _ _ _ _ a _ _ _=>a
 |_=>{ kind:=.function,names:=[],isGenerator:=false,isCoroutine:=false }
abbrev Gz:Qw:=λ_ _ _ _ _ _=>False
abbrev E0:XK:=λ_ _ _=>False
theorem Xf{X:Cx}:C6 Gz X E0:=λ_ _ _ _ _ _ _ h=>h.elim
structure Ur (K:B4) (x qual:Str) (st:Stmt) (f:Addr) (fd:FuncData):Prop where
 ex:∃(oc:Value) (od:Option Addr) (kV doc pm:Value) (an:Option Addr) (cdv ct:Value) (osl:Array (Option Value)),
  fd=fnOf x qual (pJ st) (fJ st) (aH st) .none kV doc pm an cdv ct/\K.lookup f=some ⟨oc,od,.func fd,osl⟩/\codeIn K cdv qual=true
 kp:keepIn K (.ref f)=true
theorem Ur.ok{f:A1}{sp:Sp}(F:Ur K x qual st f fd)(S:bw N ps (aH st))(b:∀vs H Q E,sp vs H Q E->vs.length=ps.length)(i:∀(a:A0) (A:A5) (outer:O Env) (s:A2) (H:Hp) (vs:O V) (Q:VK) (E:XK),iD k (A.deeper (AK qual (aH st) s.heap.objs.size f a))->sp vs H Q E →
   ∃t,KZ (Ai Gz P w K mg base N qual (aH st) f a A outer s H E).Uq (fJ st) t/\t { nx:=λ_ H'=>Q .non H',rt:=Q } (start N vs) H):qO P w K mg base Gz (k+1) f fd ps sp:=by
 obtain⟨l,j,kV,m,pm,n,a,ct,osl,rfl,e,d⟩:=F.ex;refine Xd e d S b λA outer s H vs Q E g c=>?_;obtain⟨t,h,q⟩:=i a A outer s H vs Q E g c;exact⟨t,h.Uq,q⟩
theorem Ur.binds{f:A1}(F:Ur K x qual st f fd)(h:∀(kV b pm:A0) (c:Y A1) (a ct:A0) (us:O A0),us.length=ps.length->bindArgs (fnOf x qual (pJ st) (fJ st) (aH st) .none kV b pm c a ct) ⟨us,[]⟩=pure (ps.zip us)):BH K fd ps []:=by
 obtain⟨e,d,kV,b,pm,c,a,ct,osl,rfl,i,g⟩:=F.ex;exact .all (h kV b pm c a ct)
theorem Rb{f:A1}{g:A0}{e d:Y A1}{kV b a ct:A0}(l:K.lookup f=U ⟨g,e,.func (fnOf x qual (pJ st) (fJ st) (aH st) .none kV b pm d a ct),osl⟩)(c:codeIn K a qual=true)(k:keepIn K (.ref f)=true):Ur K x qual st f (fnOf x qual (pJ st) (fJ st) (aH st) .none kV b pm d a ct):=⟨⟨g,e,kV,b,pm,d,a,ct,osl,rfl,l,c⟩,k⟩
section
variable{X:Cx}
theorem pv(i:Nat)(b:X.N[i]?=U x:=by rfl)(c:KY X.env.scope x:=by first|exact Qr rfl|exact ZO (Qr S)|exact ZO (ZO S))(hd:ej x:=by decide)(a:(x==("__classdict__":AJ))=false:=by decide):PE X (.Name x pos) (Fu i):=u0 b c hd a
end
def AV(H H':Hp):Prop:=∀b o,H b=U o->H' b=U o
theorem AV.refl(H:Hp):AV H H:=λ_ _ h=>h
theorem AV.trans{H H1 H2:Hp}(a:AV H H1)(b:AV H1 H2):AV H H2:=λc o h=>b c o (a c o h)
theorem AV.free{H H':Hp}(e:AV H H')(h:H' l=Option.none):H l=Option.none:=by
 cases q:H l with
 |none=>rfl
 |some o=>
  rw[e l o q]at h;cases h
theorem AV.seq{H H':Hp}{xs:O V}(e:AV H H')(h:nA K H a xs):nA K H' a xs:=by
 rcases h with (h|⟨o,h⟩)|h
 ·exact .inl (.inl (e _ _ h))
 ·exact .inl (.inr ⟨o,e _ _ h⟩)
 ·exact .inr h
end L2
variable{t:L2.TA}{xs:O L2.V}{H:L2.Hp}{o:L2.HO}{X:L2.Cx}{σ:L2.St}{ta te:L2.TE}{J:L2.It}{vs:O L2.V}{AO:O (L2.AY×L2.V)}{sp:L2.Sp}{ks:O L2.AY}{H0 Hs:L2.Hp}{bG:O (O L2.AY)}
namespace P1
open L2
inductive Dt where
 |non|bl (b:Bool)|int (i:Int)|str (x:Str)|tup (xs:List Dt)|lst (xs:List Dt)|emp
inductive Bx where
 |z (d:Dt)|l (ds:List Dt)|o (ds:List Dt)|n (AO:List (AY×Dt))|m (AO:List (AY×Dt)) (w:Option Addr)
abbrev Ev:=O (Y Bx)
def DL(K:B4)(H:Hp)(a:A1)(xs:O V):Prop:=
 (∃o,H a=U (.qH o (.lst xs))) ∨
  ∃(o:AE) (AQ:Array A0) (n:Nat),K.lookup a=U o/\o.cls=.type "list" ∧ o.dict=Z/\o.data=.seq AQ n/\AQ.size<=AA/\AX xs AQ.toList
theorem DL.sq(h:DL K H a xs):nA K H a xs:=by
 rcases h with h|h
 ·exact .inl (.inr h)
 ·exact .inr h
mutual
def AW(K:B4)(H:Hp):Dt->V->Prop
 |.non,v=>v=.non
 |.bl b,v=>v=.bl b
 |.int i,v=>v=.int i
 |.str x,v=>v=.str x/\x.length<=AA
 |.tup ds,v=>∃a vs,v=.ref a/\vV K H a vs/\aF K H ds vs
 |.lst ds,v=>∃a vs,v=.ref a/\DL K H a vs/\aF K H ds vs
 |.emp,v=>∃a o,v=.ref a/\H a=U (.qH o (.dK []))
def aF(K:B4)(H:Hp):O Dt->O V->Prop
 |[],vs=>vs=[]
 |d::ds,vs=>∃v r,vs=v::r/\AW K H d v/\aF K H ds r
end
structure Kp (H H':Hp):Prop where
 t:∀a xs,H a=some (.tup xs)->H' a=some (.tup xs)
 f:∀a o u,H a=some (.qH o u)->H' a=some (.qH o u)
theorem Kp.of{H':Hp}(s:AV H H'):Kp H H':=⟨λa _ h=>s a _ h,λa _ _ h=>s a _ h⟩
theorem Kp.sqT{H':Hp}(k:Kp H H')(h:vV K H a xs):vV K H' a xs:=by
 rcases h with (h|⟨o,h⟩)|h
 ·exact .inl (.inl (k.t _ _ h))
 ·exact .inl (.inr ⟨o,k.f _ _ _ h⟩)
 ·exact .inr h
theorem Kp.fzL{H':Hp}(k:Kp H H')(h:DL K H a xs):DL K H' a xs:=by
 rcases h with⟨o,h⟩|h
 ·exact .inl ⟨o,k.f _ _ _ h⟩
 ·exact .inr h
theorem Kp.lst(h:H a=U (.lst xs)):Kp H (B8 H a o):=by
 refine⟨λb ys e=>?_,λb c u e=>?_⟩
 ·rw[aV (yX e h (by intro z;cases z))];exact e
 ·rw[aV (yX e h (by intro z;cases z))];exact e
mutual
theorem AW.kp{K:B4}{H H':Hp}(k:Kp H H'):∀{d:Dt} {v:V},AW K H d v->AW K H' d v
 |.non,_,h=>by simpa only[AW]using h
 |.bl _,_,h=>by simpa only[AW]using h
 |.int _,_,h=>by simpa only[AW]using h
 |.str _,_,h=>by simpa only[AW]using h
 |.tup ds,_,h=>by
  simp only[AW]at h ⊢;obtain⟨a,vs,e,q,r⟩:=h;exact⟨a,vs,e,k.sqT q,aF.kp k r⟩
 |.lst ds,_,h=>by
  simp only[AW]at h ⊢;obtain⟨a,vs,e,q,r⟩:=h;exact⟨a,vs,e,k.fzL q,aF.kp k r⟩
 |.emp,_,h=>by
  simp only[AW]at h ⊢;obtain⟨a,o,e,q⟩:=h;exact⟨a,o,e,k.f _ _ _ q⟩
theorem aF.kp{K:B4}{H H':Hp}(k:Kp H H'):∀{ds:O Dt} {vs:O V},aF K H ds vs->aF K H' ds vs
 |[],_,h=>by simpa only[aF]using h
 |d::ds,_,h=>by
  simp only[aF]at h ⊢;obtain⟨v,r,e,q,t⟩:=h;exact⟨v,r,e,AW.kp k q,aF.kp k t⟩
end
theorem aF.length{K:B4}{H:Hp}:∀{ds:O Dt} {vs:O V},aF K H ds vs->vs.length=ds.length
 |[],_,h=>by simp only[aF]at h;subst h;rfl
 |d::ds,_,h=>by
  simp only[aF]at h;obtain⟨v,r,rfl,_,t⟩:=h;simp[aF.length t]
theorem aF.nil:aF K H [] []:=by simp only[aF]
theorem aF.cons{K:B4}{H:Hp}{d:Dt}{v:V}{ds:O Dt}{vs:O V}(h:AW K H d v)(t:aF K H ds vs):aF K H (d::ds) (v::vs):=by
 simp only[aF];exact⟨v,vs,rfl,h,t⟩
theorem aF.append{K:B4}{H:Hp}:∀{ds es:O Dt} {vs us:O V},aF K H ds vs->aF K H es us->aF K H (ds++es) (vs++us)
 |[],_,_,_,h,t=>by simp only[aF]at h;subst h;exact t
 |d::ds,_,_,_,h,t=>by
  simp only[aF]at h;obtain⟨v,r,rfl,q,h⟩:=h;exact aF.cons q (aF.append h t)
theorem aF.drop{K:B4}{H:Hp}:∀(n:Nat) {ds:O Dt} {vs:O V},aF K H ds vs->aF K H (ds.drop n) (vs.drop n)
 |0,_,_,h=>h
 |n+1,[],_,h=>by simp only[aF]at h;subst h;exact aF.nil
 |n+1,d::ds,_,h=>by
  simp only[aF]at h;obtain⟨v,r,rfl,q,h⟩:=h;exact aF.drop n h
theorem aF.take{K:B4}{H:Hp}:∀(n:Nat) {ds:O Dt} {vs:O V},aF K H ds vs->aF K H (ds.take n) (vs.take n)
 |0,_,_,_=>aF.nil
 |n+1,[],_,h=>by simp only[aF]at h;subst h;exact aF.nil
 |n+1,d::ds,_,h=>by
  simp only[aF]at h;obtain⟨v,r,rfl,q,h⟩:=h;exact aF.cons q (aF.take n h)
theorem aF.get{K:B4}{H:Hp}:∀{ds:O Dt} {vs:O V} {i:Nat} {d:Dt},aF K H ds vs->ds[i]?=U d->∃v,vs[i]?=U v/\AW K H d v
 |[],_,_,_,_,e=>by simp at e
 |d::ds,_,0,_,h,e=>by
  simp only[aF]at h;obtain⟨v,r,rfl,q,h⟩:=h;simp at e;subst e;exact⟨v,rfl,q⟩
 |d::ds,_,i+1,_,h,e=>by
  simp only[aF]at h;obtain⟨v,r,rfl,q,h⟩:=h;obtain⟨u,e1,e2⟩:=aF.get h (i:=i) (by simpa using e);exact⟨u,by simpa using e1,e2⟩
def L5:AY->Prop
 |.inl _=>True
 |.inr x=>x.length<=AA
def Rc(K:B4)(H:Hp)(AO:O (AY×Dt))(ks:O (AY×V)):Prop:=ks.map (·.1)=AO.map (·.1)/\aF K H (AO.map (·.2)) (ks.map (·.2))/\∀p∈AO,L5 p.1
theorem Rc.kp{K:B4}{H H':Hp}{AO:O (AY×Dt)}{ks:O (AY×V)}(h:Rc K H AO ks)(k:Kp H H'):Rc K H' AO ks:=⟨h.1,h.2.1.kp k,h.2.2⟩
def aQ(K:B4)(H:Hp):Bx->V->Prop
 |.z d,v=>AW K H d v
 |.l ds,v=>∃a vs,v=.ref a/\Rd H a (.lst vs)/\aF K H ds vs
 |.o ds,v=>∃a vs,v=.ref a/\H a=U (.lst vs)/\aF K H ds vs
 |.n AO,v=>∃a ks,v=.ref a/\Rd H a (.dK ks)/\Rc K H AO ks
 |.m AO w,v=>∃a ks,v=.ref a/\H a=U (.dK ks)/\Rc K H AO ks/\∀b,w=U b->b=a
theorem aQ.same{H':Hp}(s:AV H H'){b:Bx}{v:V}(h:aQ K H b v):aQ K H' b v:=by
 cases b with
 |z d=>exact AW.kp (.of s) h
 |l ds=>
  obtain⟨a,vs,e,q,r⟩:=h;refine⟨a,vs,e,?_,r.kp (.of s)⟩;rcases q with q|⟨o,q⟩
  ·exact .inl (s _ _ q)
  ·exact .inr ⟨o,s _ _ q⟩
 |o ds=>
  obtain⟨a,vs,e,q,r⟩:=h;exact⟨a,vs,e,s _ _ q,r.kp (.of s)⟩
 |n AO=>
  obtain⟨a,vs,e,q,r⟩:=h;refine⟨a,vs,e,?_,r.kp (.of s)⟩;rcases q with q|⟨o,q⟩
  ·exact .inl (s _ _ q)
  ·exact .inr ⟨o,s _ _ q⟩
 |m AO _=>
  obtain⟨a,vs,e,q,r⟩:=h;exact⟨a,vs,e,s _ _ q,r.1.kp (.of s),r.2⟩
def jG:Bx->Y (O Dt)
 |.z (.lst ds)=>U ds
 |.l ds=>U ds
 |.o ds=>U ds
 |_=>Z
theorem aQ.xW{b:Bx}{v:V}{ds:O Dt}(h:aQ K H b v)(e:jG b=U ds):∃a vs,v=.ref a/\nA K H a vs/\aF K H ds vs:=by
 cases b with
 |z d=>
  cases d<;>first|(cases e;done)|skip;cases e;simp only[aQ,AW]at h;obtain⟨a,vs,e,q,r⟩:=h;exact⟨a,vs,e,q.sq,r⟩
 |l c=>
  cases e;obtain⟨a,vs,e,q,r⟩:=h;exact⟨a,vs,e,.inl q,r⟩
 |o c=>
  cases e;obtain⟨a,vs,e,q,r⟩:=h;exact⟨a,vs,e,.inl (.inl q),r⟩
 |n _=>cases e
 |m _ _=>cases e
abbrev uh(K:B4)(H:Hp):O Bx->O V->Prop:=AI (aQ K H)
def Nw(H:Hp):Bx->V->Prop
 |.o _,v=>∀a,v=.ref a->H a=Z
 |.m _ _,v=>∀a,v=.ref a->H a=Z
 |_,_=>True
theorem Nw.old{H1:Hp}(s:AV H H1){b:Bx}{v:V}(h:Nw H1 b v):Nw H b v:=by
 cases b with
 |o ds=>exact λa e=>s.free (h a e)
 |m ds _=>exact λa e=>s.free (h a e)
 |_=>trivial
def loose:Bx->Bool
 |.z _=>false
 |_=>true
def wj:Bx->Bool
 |.o _=>true
 |.m _ _=>true
 |_=>false
structure bh (K:B4) (H0 H:Hp) (σ:L2.St) (ρ:Ev):Prop where
 len:σ.length=ρ.length
 val:∀(i:Nat) b,ρ[i]?=some (some b)->∃v,σ[i]?=some (some v)/\aQ K H b v
 own:∀(i j:Nat) c a b,ρ[i]?=some (some c)->wj c=true->σ[i]?=some (some (.ref a))->ρ[j]?=some (some b)->loose b=true->σ[j]?=some (some (.ref a))->i=j
 base:AV H0 H
 new:∀(i:Nat) c a,ρ[i]?=some (some c)->wj c=true->σ[i]?=some (some (.ref a))->H0 a=none
theorem bh.grow{H':Hp}{ρ:Ev}(r:bh K H0 H σ ρ)(s:AV H H'):bh K H0 H' σ ρ:=
 ⟨r.len,λi b e=>let ⟨v,e1,h⟩:=r.val i b e;⟨v,e1,h.same s⟩,r.own,r.base.trans s,r.new⟩
def tF(K:B4)(f:Ev->Y Bx):TE:=λσ H Q=>∃H0 ρ b,bh K H0 H σ ρ/\f ρ=U b/\∀v H',AV H H'->Nw H b v->aQ K H' b v->Q v H'
def FI(K:B4)(f:Ev->Y (O Bx)):TA:=λσ H Q=>∃H0 ρ bs,bh K H0 H σ ρ/\f ρ=U bs/\∀vs H',AV H H'->uh K H' bs vs->Q vs H'
def D6(K:B4)(f:Ev->Y Bool):TT:=λσ H Q=>∃H0 ρ b,bh K H0 H σ ρ/\f ρ=U b/\∀H',AV H H'->Q b H'
def PV(X:Cx)(e:Expr)(f:Ev->Y Bx):Prop:=PE X e (tF X.K f)
structure QV (X:Cx) (e:Expr) (f:Ev->Option Bx):Prop where
 run:PV X e f
def DD(X:Cx)(es:O Expr)(f:Ev->Y (O Bx)):Prop:=PA X es (FI X.K f)
structure Us (X:Cx) (es:List Expr) (f:Ev->Option (List Bx)):Prop where
 run:DD X es f
def PB(X:Cx)(e:Expr)(f:Ev->Y Bool):Prop:=PT X e (D6 X.K f)
structure QB (X:Cx) (e:Expr) (f:Ev->Option Bool):Prop where
 run:PB X e f
theorem Ih{t t':TE}(h:PE X e t)(m:∀ σ H Q,t' σ H Q->t σ H Q):PE X e t':=λAN s σ H Q I q=>h AN s σ H Q I (m σ H Q q)
theorem G0{e:O Expr}{t':TA}(h:PA X e t)(m:∀ σ H Q,t' σ H Q->t σ H Q):PA X e t':=λpos AN s σ H Q I q=>h pos AN s σ H Q I (m σ H Q q)
theorem EX{t t':TT}(h:PT X e t)(m:∀ σ H Q,t' σ H Q->t σ H Q):PT X e t':=λAN s σ H Q I q=>h AN s σ H Q I (m σ H Q q)
theorem IY{t t':TT}(h:PW X e t)(m:∀ σ H Q,t' σ H Q->t σ H Q):PW X e t':=λa AN s σ H Q I q=>h a AN s σ H Q I (m σ H Q q)
theorem Vl{e:AB}{t t':TS}(h:PS X e t)(m:∀D σ H,t' D σ H->t D σ H):PS X e t':=λAN s σ H D I q=>h AN s σ H D I (m D σ H q)
theorem Vm{e:O AB}{t t':TS}(h:KZ X e t)(m:∀D σ H,t' D σ H->t D σ H):KZ X e t':=λAN s σ H D I q=>h AN s σ H D I (m D σ H q)
def rF(K:B4)(g:Bx->Bx->Y Bx):R2:=λx y H Q=>∃a b c,aQ K H a x/\aQ K H b y/\g a b=U c/\∀w H',AV H H'->Nw H c w->aQ K H' c w->Q w H'
def F7(K:B4)(g:Bx->Y Bx):V->Hp->VK->Prop:=λx H Q=>∃a c,aQ K H a x/\g a=U c/\∀w H',AV H H'->Nw H c w->aQ K H' c w->Q w H'
def FF(K:B4)(g:O Bx->Y Bx):O V->Hp->VK->Prop:=λxs H Q=>∃bs c,uh K H bs xs/\g bs=U c/\∀w H',AV H H'->Nw H c w->aQ K H' c w->Q w H'
abbrev IV(X:Cx)(f:A0->A0->Sem A0)(g:Bx->Bx->Y Bx):Prop:=xT X f (rF X.K g)
abbrev Fh(X:Cx)(f:A0->Sem A0)(g:Bx->Y Bx):Prop:=Xb X f (F7 X.K g)
abbrev oA(X:Cx)(f:A0)(g:O Bx->Y Bx):Prop:=eY X f (FF X.K g)
theorem xT.imp{f:A0->A0->Sem A0}{r a:R2}(h:xT X f r)(m:∀x y H Q,a x y H Q->r x y H Q):xT X f a:=λAN s σ H x y v u Q I c b q=>h AN s σ H x y v u Q I c b (m x y H Q q)
theorem Xb.imp{f:A0->Sem A0}{r a:V->Hp->VK->Prop}(h:Xb X f r)(m:∀x H Q,a x H Q->r x H Q):Xb X f a:=λAN s σ H x v Q I b q=>h AN s σ H x v Q I b (m x H Q q)
theorem eY.imp{f:A0}{r a:O V->Hp->VK->Prop}(h:eY X f r)(m:∀x H Q,a x H Q->r x H Q):eY X f a:=λAN s σ H xs us Q I b q=>h AN s σ H xs us Q I b (m xs H Q q)
def b2(g:Bx->Bx->Y Bx)(fa fb:Ev->Y Bx):Ev->Y Bx:=λρ=>(fa ρ).bind λx=>(fb ρ).bind λy=>g x y
def b1(g:Bx->Y Bx)(fa:Ev->Y Bx):Ev->Y Bx:=λρ=>(fa ρ).bind g
def bW(g:O Bx->Y Bx)(fs:Ev->Y (O Bx)):Ev->Y Bx:=λρ=>(fs ρ).bind g
theorem AT{o:Y α}{f:α->Y β}{b:β}(h:o.bind f=U b):∃a,o=U a/\f a=U b:=by
 cases o with
 |none=>cases h
 |some a=>exact⟨a,rfl,h⟩
theorem Rf{g:Bx->Bx->Y Bx}{fa fb:Ev->Y Bx}(σ:L2.St)(H:Hp)(Q:VK)(h:tF K (b2 g fa fb) σ H Q):DJ (rF K g) (tF K fa) (tF K fb) σ H Q:=by
 obtain⟨H0,ρ,c,E,e,q⟩:=h;obtain⟨a,ea,e⟩:=AT e;obtain⟨b,eb,e⟩:=AT e;refine⟨H0,ρ,a,E,ea,λv H1 d p i=>⟨H0,ρ,b,E.grow d,eb,λu H2 f o j=>?_⟩⟩;exact⟨a,b,c,i.same f,j,e,λw l m n k=>q w l ((d.trans f).trans m) (n.old (d.trans f)) k⟩
theorem Ki{g:Bx->Y Bx}{fa:Ev->Y Bx}(σ:L2.St)(H:Hp)(Q:VK)(h:tF K (b1 g fa) σ H Q):FB (F7 K g) (tF K fa) σ H Q:=by
 obtain⟨H0,ρ,c,E,e,q⟩:=h;obtain⟨a,ea,e⟩:=AT e;exact⟨H0,ρ,a,E,ea,λv H1 b l d=>⟨a,c,d,e,λw i j k f=>q w i (b.trans j) (k.old b) f⟩⟩
theorem Cf{g:O Bx->Y Bx}{fs:Ev->Y (O Bx)}(σ:L2.St)(H:Hp)(Q:VK)(h:tF K (bW g fs) σ H Q):ER (FF K g) (FI K fs) σ H Q:=by
 obtain⟨H0,ρ,c,E,e,q⟩:=h;obtain⟨a,ea,e⟩:=AT e;exact⟨H0,ρ,a,E,ea,λv H1 b d=>⟨a,c,d,e,λw i j k f=>q w i (b.trans j) (k.old b) f⟩⟩
section
variable{a b:Expr}{fa fb fc f:Ev->Y Bx}{fs:Ev->Y (O Bx)}
theorem aM{op:Operator}{g:Bx->Bx->Y Bx}(e:IV X (binaryOp op) g)(d:QV X a fa)(c:QV X b fb):QV X (.BinOp a op b pos) (b2 g fa fb):=⟨have d:=d.run;have c:=c.run;Ih (GM e d c) Rf⟩
theorem Rh{op:UnaryOp}{g:Bx->Y Bx}(c:Fh X (unaryOp op) g)(b:QV X a fa):QV X (.UnaryOp op a pos) (b1 g fa):=⟨have b:=b.run;Ih (KA c b) Ki⟩
theorem La{g:Bx->Bx->Y Bx}(f:IV X (AG op) g)(d:QV X a fa)(c:QV X b fb)(e:behindInMarks op b=false):QV X (.Compare a [op] [b] pos) (b2 g fa fb):=⟨have d:=d.run;have c:=c.run;Ih (UW f d c e) Rf⟩
def Lb:Bx->Y Bool
 |.z (.bl b)=>U b
 |_=>Z
theorem IW{b:Bx}{v:V}{k:Bool}(h:aQ K H b v)(e:Lb b=U k):v=.bl k:=by
 cases b with
 |z d=>
  cases d<;>first|(cases e;done)|skip;cases e;simpa only[aQ,AW]using h
 |_=>cases e
theorem LD(σ:L2.St)(H:Hp)(Q:Bool->Hp->Prop)(h:D6 K (λρ=>(f ρ).bind Lb) σ H Q):tF K f σ H (λx H'=>∃k,x=.bl k/\Q k H'):=by
 obtain⟨H0,ρ,k,E,e,q⟩:=h;obtain⟨b,eb,e⟩:=AT e;exact⟨H0,ρ,b,E,eb,λv H1 c d a=>⟨k,IW a e,q H1 c⟩⟩
theorem cP{g:Bx->Bx->Y Bx}(f:IV X (AG op) g)(d:QV X a fa)(c:QV X b fb)(e:behindInMarks op b=false):QB X (.Compare a [op] [b] pos) (λρ=>(b2 g fa fb ρ).bind Lb):=⟨have d:=d.run;have c:=c.run;EX (U0 f d c e) λσ H Q h=>Rf σ H _ (LD σ H Q h)⟩
def zB(ρ:Ev)(i:Nat):Y Bx:=match ρ[i]? with
 |some (U (.o ds))=>U (.l ds)
 |some (U (.m AO _))=>U (.n AO)
 |some (U b)=>U b
 |_=>Z
theorem Ja{ρ:Ev}{b:Bx}(E:bh K H0 H σ ρ)(e:zB ρ i=U b):∃v,σ[i]?=U (U v)/\aQ K H b v:=by
 unfold zB at e;split at e
 ·rename_i ds h;cases e;obtain⟨v,e1,a,vs,e2,q,r⟩:=E.val i _ h;exact⟨v,e1,a,vs,e2,.inl q,r⟩
 ·rename_i ds h;cases e;obtain⟨v,e1,a,vs,e2,q,r⟩:=E.val i _ h;exact⟨v,e1,a,vs,e2,.inl q,r.1⟩
 ·rename_i c h;cases e;exact E.val i _ h
 ·cases e
theorem zR{ρ:Ev}{b:Bx}(e:zB ρ i=U b):wj b=false:=by
 unfold zB at e;split at e
 ·cases e;rfl
 ·cases e;rfl
 ·rename_i c h1 h2 a;cases e;cases b with
  |o ds=>exact absurd S (h1 ds)
  |m ds _=>exact absurd S (h2 ds _)
  |_=>rfl
 ·cases e
theorem ao(i:Nat)(c:X.N[i]?=U x:=by rfl)(d:KY X.env.scope x:=by first|exact Qr rfl|exact ZO (Qr S)|exact ZO (ZO S))(hd:ej x:=by decide)(a:(x==("__classdict__":AJ))=false:=by decide):QV X (.Name x pos) (λρ=>zB ρ i):=⟨Ih (u0 c d hd a) λσ H Q h=>by
 obtain⟨H0,ρ,b,E,e,q⟩:=h;obtain⟨v,e1,r⟩:=Ja E e;refine⟨v,e1,q v H (AV.refl H) ?_ r⟩;cases b with
 |o ds=>have:=zR e;cases this
 |m ds _=>have:=zR e;cases this
 |_=>trivial⟩
def cB(d:Dt):Ev->Y Bx:=λ_=>U (.z d)
theorem Vn{v:V}{d:Dt}(h:PE X e (tC v))(r:∀H,AW X.K H d v):PV X e (cB d):=Ih h λσ H Q q=>by
 obtain⟨H0,ρ,b,E,e,q⟩:=q;cases e;exact q v H (AV.refl H) trivial (r H)
theorem aC{i j}:QV X (.Constant (.int i) j pos) (cB (.int i)):=⟨Vn Yh λH=>by simp only[AW]⟩
theorem Ri{i j}:QV X (.Constant (.bool i) j pos) (cB (.bl i)):=⟨Vn Ha λH=>by simp only[AW]⟩
theorem Rj{j}:QV X (.Constant .none j pos) (cB .non):=⟨Vn Yi λH=>by simp only[AW]⟩
theorem Rk{j}(hx:x.length<=AA:=by decide):PV X (.Constant (.str x) j pos) (cB (.str x)):=Vn Yj λH=>by unfold AW;exact⟨rfl,hx⟩
def Rm:Bx->Y Bool
 |.z .non=>U false
 |.z (.bl b)=>U b
 |.z (.int i)=>U (i != 0)
 |.z (.str x)=>U ((x.length:Int) != 0)
 |.z (.tup ds)=>U (!ds.isEmpty)
 |.z (.lst ds)=>U (!ds.isEmpty)
 |.l ds=>U (!ds.isEmpty)
 |.o ds=>U (!ds.isEmpty)
 |.z .emp=>Z
 |.n _=>Z
 |.m _ _=>Z
theorem aF.isEmpty{ds:O Dt}(h:aF K H ds vs):(!ds.isEmpty)=!vs.isEmpty:=by
 have:=h.length;cases ds<;>cases vs<;>simp_all
theorem Vo{b:Bx}{v:V}{k:Bool}(r:aQ K H b v)(e:Rm b=U k):YB K v H k:=by
 cases b with
 |z d=>
  cases d with
  |non=>cases e;simp only[aQ,AW]at r;subst r;rfl
  |bl b=>cases e;simp only[aQ,AW]at r;subst r;rfl
  |int b=>cases e;simp only[aQ,AW]at r;subst r;rfl
  |str x=>cases e;simp only[aQ,AW]at r;obtain⟨rfl,h⟩:=r;exact⟨h,rfl⟩
  |tup ds=>
   cases e;simp only[aQ,AW]at r;obtain⟨a,vs,rfl,q,r⟩:=r;exact .inr (.inl ⟨vs,q,r.isEmpty⟩)
  |lst ds=>
   cases e;obtain⟨a,vs,rfl,q,r⟩:=r.xW rfl;exact .inl ⟨vs,q,r.isEmpty⟩
  |emp=>cases e
 |l ds=>
  cases e;obtain⟨a,vs,rfl,q,r⟩:=r.xW rfl;exact .inl ⟨vs,q,r.isEmpty⟩
 |o ds=>
  cases e;obtain⟨a,vs,rfl,q,r⟩:=r.xW rfl;exact .inl ⟨vs,q,r.isEmpty⟩
 |n _=>cases e
 |m _ _=>cases e
theorem GC(h:QV X e f)(d:∀a,isTrue e X.env a=(do let v <-a;standAt e.pos;holding [v] (truthy v)):=by intro _;rfl):QB X e (λρ=>(f ρ).bind Rm):=⟨have h:=h.run;EX (QM h d) λσ H Q q=>by
 obtain⟨H0,ρ,k,E,e,q⟩:=q;obtain⟨b,eb,e⟩:=AT e;exact⟨H0,ρ,b,E,eb,λv H1 g i c=>⟨k,Vo c e,q H1 g⟩⟩⟩
def Xg(p q:Ev->Y Bool):Ev->Y Bool:=λρ=>(p ρ).bind λc=>if c=true then U true else q ρ
def Jb(p:Ev->Y Bool):Ev->Y Bool:=λρ=>(p ρ).bind λc=>U (!c)
def GH(X:Cx)(e:Expr)(f:Ev->Y Bool):Prop:=PW X e (D6 X.K f)
structure EH (X:Cx) (e:Expr) (f:Ev->Option Bool):Prop where
 run:GH X e f
variable{p q:Ev->Y Bool}{AS:O Expr}
theorem Nu(b:QB X a p):EH X (.BoolOp .Or [a] pos) p:=⟨have b:=b.run;Yk b⟩
theorem Y0(σ:L2.St)(H:Hp)(Q:Bool->Hp->Prop)(h:D6 K (Xg p q) σ H Q):Fs (D6 K p) (D6 K q) σ H Q:=by
 obtain⟨H0,ρ,k,E,e,w⟩:=h;obtain⟨c,b,e⟩:=AT e;refine⟨H0,ρ,c,E,b,λH1 a=>?_⟩;cases c with
 |true=>rw[zr rfl]at e ⊢;cases e;exact w H1 a
 |false=>rw[zI z5]at e ⊢;exact⟨H0,ρ,k,E.grow a,e,λH2 d=>w H2 (a.trans d)⟩
theorem Rn(d:QB X a p)(c:EH X (.BoolOp .Or (b::AS) pos) q):EH X (.BoolOp .Or (a::b::AS) pos) (Xg p q):=⟨have d:=d.run;have c:=c.run;IY (LH d c) Y0⟩
theorem FR(h:EH X e p):QB X e p:=⟨have h:=h.run;h.pt⟩
theorem Ld(b:QB X a p):QB X (.UnaryOp .Not a pos) (Jb p):=⟨have b:=b.run;EX (Yl b) λσ H Q h=>by
 obtain⟨H0,ρ,k,E,e,w⟩:=h;obtain⟨c,f,e⟩:=AT e;cases e;exact⟨H0,ρ,c,E,f,λH1 d=>w H1 d⟩⟩
def GD(fa fb:Ev->Y Bx):Ev->Y Bx:=λρ=>((fa ρ).bind Lb).bind λc=>if c=true then fb ρ else U (.z (.bl false))
theorem Le{op}(h:QV X a fa):QV X (.BoolOp op [a] pos) fa:=⟨have h:=h.run;Ym h⟩
theorem Lf(g:QV X a fa)(i:QV X (.BoolOp .And (b::AS) pos) fb):QV X (.BoolOp .And (a::b::AS) pos) (GD fa fb):=⟨have g:=g.run;have i:=i.run;Ih (Yn g i) λσ H Q h=>by
 obtain⟨H0,ρ,k,E,e,w⟩:=h;obtain⟨c,f,e⟩:=AT e;obtain⟨x,ex,f⟩:=AT f;refine⟨H0,ρ,x,E,ex,λv H1 d o j=>⟨c,IW j f,?_⟩⟩;cases c with
 |true=>rw[zr rfl]at e ⊢;exact⟨H0,ρ,k,E.grow d,e,λv H2 m l n=>w v H2 (d.trans m) (l.old d) n⟩
 |false=>rw[zI z5]at e ⊢;cases e;exact w _ H1 d trivial (by simp only[aQ,AW])⟩
theorem Nv:DD X [] (λ_=>U []):=G0 pH λσ H Q h=>by
 obtain⟨H0,ρ,bs,E,e,q⟩:=h;cases e;exact q [] H (AV.refl H) .nil
def ak(f:Ev->Y Bx)(fs:Ev->Y (O Bx)):Ev->Y (O Bx):=λρ=>(f ρ).bind λb=>(fs ρ).bind λbs=>U (b::bs)
theorem Jc(h1:PV X e f)(h2:DD X es fs)(hs:A9 (e::es) X.env=(false,eval e X.env)::A9 es X.env:=by rfl):DD X (e::es) (ak f fs):=G0 (iG h1 h2 hs) λσ H Q h=>by
 obtain⟨H0,ρ,bs,E,e,q⟩:=h;obtain⟨b,eb,e⟩:=AT e;obtain⟨i,j,e⟩:=AT e;cases e;refine⟨H0,ρ,b,E,eb,λv H1 a k d=>⟨H0,ρ,i,E.grow a,j,λvs H2 c g=>?_⟩⟩;exact q (v::vs) H2 (a.trans c) (.cons (d.same c) g)
def Al:Bx->Y Bx
 |.z d=>U (.z d)
 |.o ds=>U (.z (.lst ds))
 |.l _=>Z
 |.n _=>Z
 |.m _ _=>Z
theorem Am{a:A1}(I:L2.AU X AN σ H s)(h:H a=U (.lst vs)):∃o,L2.AU X AN σ (B8 H a (.qH o (.lst vs))) s:=by
 obtain⟨z,AQ,n,r,e⟩:=I.hok a _ h;refine⟨{ cls:=.type "list",data:=.seq AQ.toArray n },⟨I.ok,I.os,I.bare,⟨I.base.keep,I.base.slot,λb d q1 q2 q3=>?_,I.base.there,λb xs q=>?_,λb d u q=>?_,λb ps q=>?_⟩,I.loc,I.cell,?_,λx c q=>?_,λp hp=>?_,?_,I.len⟩⟩
 ·have:=I.base.free b d q1 q2 q3;rw[aV (bO h this).symm];exact this
 ·have:=I.base.tups b xs q;rw[aV (yX this h (by intro z;cases z))];exact this
 ·have:=I.base.Dl b d u q;rw[aV (yX this h (by intro z;cases z))];exact this
 ·obtain⟨m,this⟩:=I.base.vX b ps q;rw[aV (yX this h (by intro z;cases z))];exact⟨m,this⟩
 ·rw[aV (bO h I.free).symm];exact I.free
 ·rw[aV (bO h (I.oh x c q)).symm];exact I.oh x c q
 ·obtain⟨q1,q2,q3⟩:=I.pin p hp;refine⟨q1,?_,q3⟩;rw[aV (bO h q2).symm];exact q2
 ·intro b u q;by_cases f:b=a
  ·subst f;rw[aU]at q;cases q;exact⟨e,z,AQ,n,r,e⟩
  ·rw[aV f]at q;refine(I.hok b u q).stay (λc v _ w=>w) (λc w=>?_) (λc xs w=>?_) λc o' g w=>?_
   ·rw[aV (yX w h (by intro z;cases z))];exact w
   ·rw[aV (yX w h (by intro z;cases z))];exact w
   ·rw[aV (yX w h (by intro z;cases z))];exact w
theorem jW(h:QV X e f):QV X e (b1 Al f):=⟨by
 have h:=h.run;intro AN s σ H Q I q;obtain⟨H0,ρ,b,E,e,q⟩:=q;obtain⟨x,ex,e⟩:=AT e;cases x with
 |z d=>
  cases e;exact h AN s σ H Q I ⟨H0,ρ,_,E,ex,λv H' s' i g=>q v H' s' trivial g⟩
 |l ds=>cases e
 |n ds=>cases e
 |m ds _=>cases e
 |o ds=>
  cases e;refine jA (h AN s σ H (λv H'=>AV H H'/\Nw H (.o ds) v/\aQ X.K H' (.o ds) v) I ⟨H0,ρ,_,E,ex,λv H' s' i g=>⟨s',i,g⟩⟩) λu C A=>?_;obtain⟨v,H1,y,t,s',i,g⟩:=A;obtain⟨a,vs,rfl,k,w⟩:=g;obtain⟨o,p⟩:=Am y k;refine⟨.ref a,_,p,t,q _ _ (λc B j=>?_) trivial ?_⟩
  ·rw[aV (bO j (i a S))];exact s' c B j
  ·simp only[aQ,AW];exact⟨a,vs,rfl,.inl ⟨o,aU⟩,w.kp (.lst k)⟩⟩
def GF:O Bx->Y (O Dt)
 |[]=>U []
 |.z d::r=>(GF r).bind λds=>U (d::ds)
 |_=>Z
theorem Ao{K:B4}{H:Hp}:∀{bs:O Bx} {vs:O V} {ds:O Dt},uh K H bs vs->GF bs=U ds->aF K H ds vs
 |_,_,_,.nil,e=>by cases e;exact aF.nil
 |b::bs,_,_,.cons h t,e=>by
  cases b with
  |z d=>
   simp only[GF]at e;obtain⟨a,e1,e2⟩:=AT e;cases e2;exact aF.cons h (Ao t e1)
  |_=>cases e
theorem Aq:∀{bs:O Bx} {ds:O Dt},GF bs=U ds->ds.length=bs.length
 |[],_,e=>by cases e;rfl
 |.z d::r,_,e=>by
  simp only[GF]at e;obtain⟨a,e1,e2⟩:=AT e;cases e2;simp[Aq e1]
 |.l _::_,_,e=>by cases e
 |.o _::_,_,e=>by cases e
 |.n _::_,_,e=>by cases e
 |.m _ _::_,_,e=>by cases e
def iH(bs:O Bx):Y Bx:=if bs.length<=1000 then(GF bs).bind λds=>U (.z (.tup ds))else Z
def jc(bs:O Bx):Y Bx:=if bs.length<=1000 then(GF bs).bind λds=>U (.o ds)else Z
theorem bA{p:A1}(h:H p=Z):AV H (B8 H p o):=λb u e=>by rw[aV (bO e h)];exact e
theorem Xh(h:n<=1000):n<=AA:=zD h ()
theorem gJ{x1}(h:Us X es fs):QV X (.Tuple es x1 pos) (bW iH fs):=⟨have h:=h.run;Ih (YF h) λσ H Q q=>by
 obtain⟨H0,ρ,c,E,e,q⟩:=q;obtain⟨bs,g,e⟩:=AT e;refine⟨H0,ρ,bs,E,g,λvs H1 d b=>?_⟩;unfold iH at e;split at e
 ·rename_i f;obtain⟨ds,e1,e⟩:=AT e;cases e;have a:=Ao b e1;refine⟨Xh (by rw[a.length,Aq e1];exact f),λp hp=>q _ _ (d.trans (bA hp)) trivial ?_⟩;simp only[aQ,AW];exact⟨p,vs,rfl,.inl (.inl aU),a.kp (.of (bA hp))⟩
 ·cases e⟩
theorem eG(h:Us X es fs):QV X (.List es pos) (bW jc fs):=⟨have h:=h.run;Ih (YG h) λσ H Q q=>by
 obtain⟨H0,ρ,c,E,e,q⟩:=q;obtain⟨bs,i,e⟩:=AT e;refine⟨H0,ρ,bs,E,i,λvs H1 b f=>?_⟩;unfold jc at e;split at e
 ·rename_i g;obtain⟨ds,e1,e⟩:=AT e;cases e;have d:=Ao f e1;refine⟨Xh (by rw[d.length,Aq e1];exact g),λp hp=>q _ _ (b.trans (bA hp)) (λa ea=>by cases ea;exact b.free hp) ?_⟩;exact⟨p,vs,rfl,aU,d.kp (.of (bA hp))⟩
 ·cases e⟩
theorem bL{id:String}{g:O Bx->Y Bx}{p:Pos}(b:oA X (.builtin id) g)(h:Gl X x)(d:X.mg x=Z)(k:AH x=U (.builtin id))(a:Us X (e::es) fs)(f:x ≠ "__name__":=by decide)(j:ej x:=by decide)(c:A9 (e::es) X.env=(false,eval e X.env)::A9 es X.env:=by rfl)(i:(AD pos (A9 es X.env)).any (·.1)=false:=by rfl):QV X (.Call (.Name x p) (e::es) [] pos) (bW g fs):=⟨have a:=a.run;Ih (Aj b h d k a f j c i) Cf⟩
theorem gU{T:String}{g:O Bx->Y Bx}{p:Pos}(b:oA X (.type T) g)(h:Gl X x)(d:X.mg x=Z)(k:AH x=U (.type T))(a:Us X (e::es) fs)(f:x ≠ "__name__":=by decide)(j:ej x:=by decide)(c:A9 (e::es) X.env=(false,eval e X.env)::A9 es X.env:=by rfl)(i:(AD pos (A9 es X.env)).any (·.1)=false:=by rfl):QV X (.Call (.Name x p) (e::es) [] pos) (bW g fs):=⟨have a:=a.run;Ih (O6 b h d k a f j c i) Cf⟩
end
inductive An where
 |nx (ρ:Ev)|rt (b:Bx)|bk (ρ:Ev)|ct (ρ:Ev)
def Ro(K:B4)(H0:Hp)(D:C3):An->Prop
 |.nx ρ=>∀ σ H,bh K H0 H σ ρ->D.nx σ H
 |.rt b=>∀v H,AV H0 H->Nw H0 b v->aQ K H b v->D.rt v H
 |.bk ρ=>∀ σ H,bh K H0 H σ ρ->D.bk σ H
 |.ct ρ=>∀ σ H,bh K H0 H σ ρ->D.ct σ H
def tG(K:B4)(g:Ev->Y An):TS:=λD σ H=>∃H0 ρ r,bh K H0 H σ ρ/\g ρ=U r/\Ro K H0 D r
def EJ(X:Cx)(st:AB)(g:Ev->Y An):Prop:=PS X st (tG X.K g)
structure Qx (X:Cx) (st:Stmt) (g:Ev->Option An):Prop where
 run:EJ X st g
def Oz(X:Cx)(st:O AB)(g:Ev->Y An):Prop:=KZ X st (tG X.K g)
structure KR (X:Cx) (st:List Stmt) (g:Ev->Option An):Prop where
 run:Oz X st g
def aD(g1 g2:Ev->Y An):Ev->Y An:=λρ=>(g1 ρ).bind λr=>match r with
 |.nx a=>g2 a
 |r=>U r
section
variable{a b:Expr}{fa fb fc f:Ev->Y Bx}{fs:Ev->Y (O Bx)}{AS:O AB}{g g1 g2:Ev->Y An}
theorem aJ  :KR X [] (λρ=>U (.nx ρ)):=⟨Vm Uy λD σ H h=>by
 obtain⟨H0,ρ,r,E,e,q⟩:=h;cases e;exact q σ H E⟩
theorem aq(h1:Qx X st g1)(h2:KR X AS g2):KR X (st::AS) (aD g1 g2):=⟨have h1:=h1.run;have h2:=h2.run;Vm (Ag h1 h2) λD σ H h=>by
 obtain⟨H0,ρ,r,E,e,q⟩:=h;obtain⟨c,e1,e⟩:=AT e;refine⟨H0,ρ,c,E,e1,?_⟩;cases c with
 |nx a=>exact λσ' H' d=>⟨H0,a,r,d,e,q⟩
 |rt b=>cases e;exact q
 |bk a=>cases e;exact q
 |ct a=>cases e;exact q⟩
def Rp:Bx->Y An
 |.l _=>Z
 |.n _=>Z
 |b=>U (.rt b)
theorem bK(h:QV X e f):Qx X (.Return (U e) pos) (λρ=>(f ρ).bind Rp):=⟨have h:=h.run;Vl (QG h) λD σ H h=>by
 obtain⟨H0,ρ,r,E,e,q⟩:=h;obtain⟨b,eb,e⟩:=AT e;refine⟨H0,ρ,b,E,eb,λv H1 c g a=>?_⟩;cases b with
 |l ds=>cases e
 |z d=>cases e;exact q v H1 (E.base.trans c) trivial a
 |o ds=>cases e;exact q v H1 (E.base.trans c) (g.old E.base) a
 |n ds=>cases e
 |m ds _=>cases e;exact q v H1 (E.base.trans c) (g.old E.base) a⟩
def Dq(i:Nat)(ρ:Ev):Y An:=match ρ[i]? with
 |some (U b)=>Rp b
 |_=>Z
theorem GJ(i:Nat){p:Pos}(k:X.N[i]?=U x:=by rfl)(j:KY X.env.scope x:=by first|exact Qr rfl|exact ZO (Qr S)|exact ZO (ZO S))(hd:ej x:=by decide)(g:(x==("__classdict__":AJ))=false:=by decide):Qx X (.Return (U (.Name x p)) pos) (Dq i):=⟨Vl (QG (u0 k j hd g)) λD σ H h=>by
 obtain⟨H0,ρ,r,E,e,q⟩:=h;unfold Dq at e;split at e
 ·rename_i b f;obtain⟨v,e1,c⟩:=E.val i b f;refine⟨v,e1,?_⟩;cases b with
  |l ds=>cases e
  |z d=>cases e;exact q v H E.base trivial c
  |o ds=>cases e;exact q v H E.base (λa ea=>E.new i _ a f S (by rw[e1,ea])) c
  |n ds=>cases e
  |m ds _=>cases e;exact q v H E.base (λa ea=>E.new i _ a f S (by rw[e1,ea])) c
 ·cases e⟩
def vW(p:Ev->Y Bool)(g1 g2:Ev->Y An):Ev->Y An:=λρ=>(p ρ).bind λk=>if k=true then g1 ρ else g2 ρ
theorem jf{p:Ev->Y Bool}{u v:O AB}(a:QB X c p)(d:KR X u g1)(b:KR X v g2):Qx X (.If c u v pos) (vW p g1 g2):=⟨have a:=a.run;have d:=d.run;have b:=b.run;Vl (Hk a d b) λD σ H h=>by
 obtain⟨H0,ρ,r,E,e,q⟩:=h;obtain⟨k,ek,e⟩:=AT e;refine⟨H0,ρ,k,E,ek,λH1 f=>?_⟩;cases k with
 |true=>rw[zr rfl]at e ⊢;exact⟨H0,ρ,r,E.grow f,e,q⟩
 |false=>rw[zI z5]at e ⊢;exact⟨H0,ρ,r,E.grow f,e,q⟩⟩
theorem BF{l:O α}{x y:α}(h:(l.set i x)[j]?=U y):(j=i/\y=x/\i<l.length)\/(j≠i/\l[j]?=U y):=by
 rw[kn]at h;by_cases e:i=j
 ·subst e;rw[zr rfl]at h;split at h
  ·cases h;exact .inl ⟨rfl,rfl,by assumption⟩
  ·cases h
 ·rw[zI e]at h;exact .inr ⟨λz=>e z.symm,h⟩
theorem Ar{l:O α}(x:α)(h:i<l.length):(l.set i x)[i]?=U x:=by
 rw[kn,zr rfl,zr h]
theorem Av{l:O α}(x:α)(h:j≠i):(l.set i x)[j]?=l[j]?:=by
 rw[kn,zI (Ne.symm h)]
theorem bh.set{H1:Hp}{ρ:Ev}{b:Bx}{v:V}(E:bh K H0 H σ ρ)(s:AV H H1)(r:aQ K H1 b v)(w:wj b=true\/loose b=false)(n:Nw H b v):bh K H0 H1 (σ.set i (U v)) (ρ.set i (U b)):=by
 have D:=E.grow s;have C:∀(j:Nat) (g:Bx) (a:A1),ρ[j]?=U (U g)->loose g=true->σ[j]?=U (U (.ref a))->H a≠Z:=λj g a e1 e2 e3 z=>by
  obtain⟨I,h,x⟩:=E.val j g e1;rw[e3]at h;cases h;cases g with
  |z d=>cases e2
  |l ds=>
   obtain⟨y,vs,f,q,_⟩:=x;cases f;rcases q with q|⟨o,q⟩<;>(rw[z]at q;cases q)
  |o ds=>
   obtain⟨y,vs,f,q,_⟩:=x;cases f;rw[z]at q;cases q
  |n ds=>
   obtain⟨y,vs,f,q,_⟩:=x;cases f;rcases q with q|⟨o,q⟩<;>(rw[z]at q;cases q)
  |m ds _=>
   obtain⟨y,vs,f,q,_⟩:=x;cases f;rw[z]at q;cases q
 have A:wj b=true->∀a,v=.ref a->H a=Z:=λF=>by
  cases b with
  |o ds=>exact n
  |m ds _=>exact n
  |_=>cases F
 refine⟨by rw[JS,JS];exact E.len,λj g e=>?_,λj k c a g e1 p e2 e3 h f=>?_,D.base,λj c a e1 p e2=>?_⟩
 ·rcases BF e with⟨rfl,e',hi⟩|⟨u,e'⟩
  ·cases e';exact⟨v,Ar _ (by rw[E.len];exact hi),r⟩
  ·rw[Av _ u];exact D.val j g e'
 ·rcases BF e1 with⟨rfl,e',hi⟩|⟨u,e'⟩
  ·cases e';rw[Ar _ (by rw[E.len];exact hi)]at e2;cases e2;rcases BF e3 with⟨rfl,t,_⟩|⟨B,t⟩
   ·rfl
   ·rw[Av _ B]at f;exact absurd (A p a S) (C k g a t h f)
  ·rw[Av _ u]at e2;rcases BF e3 with⟨rfl,t,hi⟩|⟨B,t⟩
   ·cases t;rw[Ar _ (by rw[E.len];exact hi)]at f;cases f;have G:loose c=true:=by cases c<;>first|rfl|cases p
    rcases w with w|w
    ·exact absurd (A w a S) (C j _ a e' G e2)
    ·rw[w]at h;cases h
   ·rw[Av _ B]at f;exact E.own j k c a g e' p e2 t h f
 ·rcases BF e1 with⟨rfl,e',hi⟩|⟨u,e'⟩
  ·cases e';rw[Ar _ (by rw[E.len];exact hi)]at e2;cases e2;exact E.base.free (A p a S)
  ·rw[Av _ u]at e2;exact E.new j c a e' p e2
def Jd(ρ:Ev)(i:Nat):Bx->Y Ev
 |.l _=>Z
 |.n _=>Z
 |b=>U (ρ.set i (U b))
theorem GK{H1:Hp}{ρ ρ':Ev}{b:Bx}{v:V}(E:bh K H0 H σ ρ)(s:AV H H1)(r:aQ K H1 b v)(n:Nw H b v)(e:Jd ρ i b=U ρ'):bh K H0 H1 (σ.set i (U v)) ρ':=by
 cases b with
 |l ds=>cases e
 |z d=>cases e;exact E.set s r (.inr S) n
 |o d=>cases e;exact E.set s r (.inl S) n
 |n ds=>cases e
 |m d _=>cases e;exact E.set s r (.inl S) n
theorem bD(i:Nat){p:Pos}(k:X.N.Nodup)(a:QV X e f)(hi:X.N[i]?=U x:=by rfl)(hx:CI X.env.scope x:=by first|exact Qr rfl|exact ZO S)(hs:swapsWith e (U (.Name x p)) pos.line X.env=pure false:=by rfl)(l:X.fn x=true\/X.env.scope.names.lookup x=U .local:=by first|exact .inl rfl|exact .inr S):Qx X (.Assign [.Name x p] e pos) (λρ=>(f ρ).bind λb=>(Jd ρ i b).bind λρ'=>U (.nx ρ')):=⟨have a:=a.run;Vl (Gr k hi hx a hs l) λD σ H h=>by
 obtain⟨H0,ρ,r,E,e,q⟩:=h;obtain⟨b,eb,e⟩:=AT e;obtain⟨ρ',j,e⟩:=AT e;cases e;exact⟨H0,ρ,b,E,eb,λv H1 g d c=>q _ _ (GK E g c d j)⟩⟩
def Lo(σ:L2.St)(ρ:Ev)(σ':L2.St)(ρ':Ev):Prop:=∀(j:Nat) b,loose b=true->ρ'[j]?=U (U b)->ρ[j]?=U (U b)/\σ'[j]?=σ[j]?
theorem Lo.refl{ρ:Ev}:Lo σ ρ σ ρ:=λ_ _ _ e=>⟨e,rfl⟩
theorem Lo.trans{σ f d:L2.St}{ρ g h:Ev}(a:Lo σ ρ f g)(b:Lo f g d h):Lo σ ρ d h:=λj c l e=>by
 obtain⟨e1,e2⟩:=b j c l e;obtain⟨e3,i⟩:=a j c l e1;exact⟨e3,e2.trans i⟩
theorem Lo.set{ρ:Ev}(i:Nat)(v:V)(d:Dt):Lo σ ρ (σ.set i (U v)) (ρ.set i (U (.z d))):=λj b l e=>by
 rcases BF e with⟨rfl,e',_⟩|⟨a,e'⟩
 ·cases e';cases l
 ·exact⟨e',Av _ a⟩
def Fk(K:B4)(g:Dt->Ev->Y Ev):TG:=λv σ H Q=>∃H0 ρ d a,bh K H0 H σ ρ/\AW K H d v/\g d ρ=U a/\∀ σ',bh K H0 H σ' a->Lo σ ρ σ' a->Q σ' H
def DO(X:Cx)(t:Expr)(g:Dt->Ev->Y Ev):Prop:=PG X t (Fk X.K g)
structure Y4 (X:Cx) (t:Expr) (g:Dt->Ev->Option Ev):Prop where
 run:DO X t g
theorem bf(i:Nat)(a:X.N.Nodup)(hi:X.N[i]?=U x:=by rfl)(hx:CI X.env.scope x:=by first|exact Qr rfl|exact ZO S)(c:X.fn x=true\/X.env.scope.names.lookup x=U .local:=by first|exact .inl rfl|exact .inr S):Y4 X (.Name x pos) (λd ρ=>U (ρ.set i (U (.z d)))):=⟨λAN s σ H v u Q I r h=>by
 obtain⟨H0,ρ,d,g,E,f,e,q⟩:=h;cases e;exact Nq a hi hx c AN s σ H v u Q I r (q _ (E.set (b:=.z d) (AV.refl H) f (.inr S) trivial) (Lo.set i v d))⟩
theorem et(i:Nat)(a:X.N.Nodup:=by show List.Nodup (_++_);decide +kernel)(hi:X.N[i]?=U x:=by rfl)(hx:CI X.env.scope x:=by first|exact Qr rfl|exact ZO S)(c:X.fn x=true\/X.env.scope.names.lookup x=U .local:=by first|exact .inl rfl|exact .inr S):Y4 X (.Name x pos) (λd ρ=>U (ρ.set i (U (.z d)))):=bf i a hi hx c
def Hd(K:B4)(g:O Dt->Ev->Y Ev):W9:=λvs σ H Q=>∃H0 ρ ds a,bh K H0 H σ ρ/\aF K H ds vs/\g ds ρ=U a/\∀ σ',bh K H0 H σ' a->Lo σ ρ σ' a->Q σ' H
def KB(X:Cx)(t:O Expr)(g:O Dt->Ev->Y Ev):Prop:=L2.Oz X t (Hd X.K g)
structure Vq (X:Cx) (t:List Expr) (g:List Dt->Ev->Option Ev):Prop where
 run:KB X t g
def wk:O Dt->Ev->Y Ev
 |[],ρ=>U ρ
 |_,_=>Z
def eH(g:Dt->Ev->Y Ev)(gs:O Dt->Ev->Y Ev):O Dt->Ev->Y Ev
 |d::ds,ρ=>(g d ρ).bind (gs ds)
 |_,_=>Z
theorem pK  :Vq X [] wk:=⟨λAN s σ H vs us Q I r h=>by
 obtain⟨H0,ρ,ds,b,E,a,e,q⟩:=h;cases ds with
 |nil=>cases e;unfold aF at a;exact Uz AN s σ H vs us Q I r ⟨a,q _ E Lo.refl⟩
 |cons d ds=>cases e⟩
theorem dj{t:Expr}{ts:O Expr}{gt:Dt->Ev->Y Ev}{gs:O Dt->Ev->Y Ev}(h1:Y4 X t gt)(h2:Vq X ts gs)(hs:(assignEach (t::ts) X.env).map (·.2)=assign t X.env::(assignEach ts X.env).map (·.2):=by rfl):Vq X (t::ts) (eH gt gs):=⟨have h1:=h1.run;have h2:=h2.run;λAN s σ H vs us Q I r h=>by
 obtain⟨H0,ρ,ds,j,E,b,e,q⟩:=h;cases ds with
 |nil=>cases e
 |cons d ds=>
  unfold aF at b;obtain⟨v,l,rfl,c,k⟩:=b;simp only[eH]at e;obtain⟨a,e1,e⟩:=AT e;exact QH h1 h2 hs AN s σ H _ us Q I r ⟨v,l,rfl,H0,ρ,d,a,E,c,e1,λo n i=>⟨H0,a,ds,j,n,k,e,λg m f=>q g m (i.trans f)⟩⟩⟩
def qP(n:Nat)(gs:O Dt->Ev->Y Ev):Dt->Ev->Y Ev
 |.tup ds,ρ=>if ds.length=n then gs ds ρ else Z
 |_,_=>Z
theorem u5{ts:O Expr}{gs:O Dt->Ev->Y Ev}(f:X.calm=true)(h:Vq X ts gs)(i:(assignEach ts X.env).length=n:=by rfl)(g:(assignEach ts X.env).findIdx? (·.1)=Z:=by rfl):Y4 X (.Tuple ts k pos) (qP n gs):=⟨have h:=h.run;λAN s σ H v u Q I r m=>by
 obtain⟨H0,ρ,d,j,E,c,e,q⟩:=m;cases d with
 |tup ds=>
  simp only[qP]at e;split at e
  ·rename_i l;unfold AW at c;obtain⟨a,vs,rfl,o,b⟩:=c;exact Yp f h i g AN s σ H _ u Q I r ⟨a,vs,rfl,o,by rw[b.length];exact l,H0,ρ,ds,j,E,b,e,q⟩
  ·cases e
 |_=>cases e⟩
def Vr(ρ:Ev)(i:Nat):Bx->Y An
 |.z d=>match ρ[i]? with
  |some (U (.o ds))=>if ds.length<AA then U (.nx (ρ.set i (U (.o (ds++[d])))))else Z
  |_=>Z
 |_=>Z
theorem bh.abw{ρ:Ev}{w c1:Bx}{a:A1}{u:HO}(E:bh K H0 H σ ρ)(h:ρ[i]?=U (U w))(t:wj w=true)(hs:σ[i]?=U (U (.ref a)))(k:Kp H (B8 H a u))(r:aQ K (B8 H a u) c1 (.ref a)):
  bh K H0 (B8 H a u) σ (ρ.set i (U c1)):=by
 have hi:i<ρ.length:=(ad.mp h).1;have L:H0 a=Z:=E.new i w a h t hs;have lo:∀c,wj c=true->loose c=true:=λc Q=>by cases c<;>first|rfl|cases Q
 refine⟨by rw[JS];exact E.len,λj B e=>?_,λj G c f B e1 y e2 e3 I M=>?_,λc o e=>?_,λj c f e1 y e2=>?_⟩
 ·rcases BF e with⟨rfl,e',_⟩|⟨C,e'⟩
  ·cases e';exact⟨_,hs,r⟩
  ·obtain⟨v,e1,x⟩:=E.val j B e';refine⟨v,e1,?_⟩;have A:∀f,v=.ref f->loose B=true->f≠a:=λf ev P z=>by
    subst z;exact C (E.own i j w _ _ h t hs e' P (by rw[e1,ev])).symm
   cases B with
   |z d=>exact AW.kp k x
   |l D=>
    obtain⟨f,s,rfl,q,p⟩:=x;refine⟨f,s,rfl,?_,p.kp k⟩;have g:=A f S rfl;rcases q with q|⟨o,q⟩
    ·exact .inl (by rw[aV g];exact q)
    ·exact .inr ⟨o,by rw[aV g];exact q⟩
   |o D=>
    obtain⟨f,s,rfl,q,p⟩:=x;have g:=A f S rfl;exact⟨f,s,rfl,by rw[aV g];exact q,p.kp k⟩
   |n D=>
    obtain⟨f,s,rfl,q,p⟩:=x;refine⟨f,s,rfl,?_,p.kp k⟩;have g:=A f S rfl;rcases q with q|⟨o,q⟩
    ·exact .inl (by rw[aV g];exact q)
    ·exact .inr ⟨o,by rw[aV g];exact q⟩
   |m D=>
    obtain⟨f,s,rfl,q,p⟩:=x;have g:=A f S rfl;exact⟨f,s,rfl,by rw[aV g];exact q,p.1.kp k,p.2⟩
 ·have F:∀(m:Nat) (b:Bx),(ρ.set i (U c1))[m]?=U (U b)->loose b=true->∃b0,ρ[m]?=U (U b0)/\loose b0=true/\(wj b=true->wj b0=true):=λm b e l=>by
   rcases BF e with⟨rfl,e',_⟩|⟨C,e'⟩
   ·exact⟨_,h,lo _ t,λ_=>t⟩
   ·exact⟨b,e',l,λz=>z⟩
  obtain⟨b0,q1,q2,q3⟩:=F j _ e1 (lo _ y);obtain⟨b1,J,N,_⟩:=F G _ e3 I;exact E.own j G b0 f b1 q1 (q3 y) e2 J N M
 ·rw[aV (bO e L)];exact E.base c o e
 ·rcases BF e1 with⟨rfl,e',_⟩|⟨C,e'⟩
  ·exact E.new _ w f h t e2
  ·exact E.new j c f e' y e2
theorem bh.K8{ρ:Ev}{ds es:O Dt}{a:A1}{us:O V}(E:bh K H0 H σ ρ)(h:ρ[i]?=U (U (.o ds)))(hs:σ[i]?=U (U (.ref a)))(b:H a=U (.lst vs))(r:aF K H es us):
  bh K H0 (B8 H a (.lst us)) σ (ρ.set i (U (.o es))):=E.abw h S hs (.lst b) ⟨a,us,rfl,aU,r.kp (.lst b)⟩
theorem u6(i:Nat){p:Pos}(g:QV X e f)(B:X.N[i]?=U x:=by rfl)(w:KY X.env.scope x:=by first|exact Qr rfl|exact ZO (Qr S)|exact ZO (ZO S))(hd:ej x:=by decide)(t:(x==("__classdict__":AJ))=false:=by decide)(k:A9 [e] X.env=[(false,eval e X.env)]:=by rfl)(s:attributeBase (.Name x p) "append" X.env (eval (.Name x p) X.env)=eval (.Name x p) X.env:=by rfl)(o:((AD cpos (A9 [e] X.env)).all (λx=>!x.1)&&(backToKw cpos (keywordEach [] X.env)).all (λx=>x.1.isSome)&&decide ([e].length+([]:O AC).length+(if([]:O AC).isEmpty then 0 else 1)<30))=true:=by rfl)(A:(apos.endLine==cpos.line)=true:=by rfl)(hs:swapsWith (.Call (.Attribute (.Name x p) "append" apos) [e] [] cpos) Z pos.line X.env=pure false:=by rfl):Qx X (.Expr (.Call (.Attribute (.Name x p) "append" apos) [e] [] cpos) pos) (λρ=>(f ρ).bind (Vr ρ i)):=⟨have g:=g.run;Vl (Np (Iz k7 PySem.F.slot_list_append PySem.F.type_list_append Ew (u0 (i:=i) B w hd t) (iG g pH (by rw[k]<;>rfl)) s o A (by rw[k]<;>rfl) S) hs) λD σ H h=>by
  obtain⟨H0,ρ,r,E,e,q⟩:=h;obtain⟨b,eb,e⟩:=AT e;cases b with
  |z d=>
   simp only[Vr]at e;split at e
   ·rename_i ds l;split at e
    ·rename_i y;cases e;obtain⟨v,e1,a,vs,rfl,j,m⟩:=E.val i _ l;refine⟨_,e1,.inl ⟨rfl,vs,.inl (.inl j)⟩,H0,ρ,_,E,eb,λu H1 c G n=>?_⟩;have C:=E.grow c;refine⟨a,vs,u,rfl,rfl,c _ _ j,by rw[m.length];exact y,q _ _ ?_⟩;exact C.K8 l e1 (c _ _ j) ((m.kp (.of c)).append (aF.cons n aF.nil))
    ·cases e
   ·cases e
  |_=>cases e⟩
end
def F0(x:AJ):It:=⟨λi _=>i<x.cps.size,λi H v H'=>H'=H/\∃c,x.cps[i]?=U c/\v=.str ⟨#[c]⟩,λi _=>x.cps.size<=i⟩
def IA(h:A6)(it:A1)(x:AJ)(i:Nat):Prop:=∃t,h.IsStrIter it "str_ascii_iterator" x t i\/h.IsStrIter it "str_iterator" x t i
theorem Je(it:A1)(x:AJ):CC P w K tg (F0 x) [it] it (λi h=>IA h it x i) where
 mem:=by simp
 obj:=λi h st b a=>by
  have e:b=it:=by simpa using a
  subst e;obtain⟨t,⟨o,e,c,d⟩|⟨o,e,c,d⟩⟩:=st
  ·exact⟨o,e,λv z=>by rw[d]at z;cases z⟩
  ·exact⟨o,e,λv z=>by rw[d]at z;cases z⟩
 keep:=λi h h' st k=>by
  obtain⟨t,⟨o,e,c⟩|⟨o,e,c⟩⟩:=st
  ·exact⟨t,.inl ⟨o,k it (by simp) o e,c⟩⟩
  ·exact⟨t,.inr ⟨o,k it (by simp) o e,c⟩⟩
 item:=by
  intro X B A p n i AN s σ H E I m st u;subst B A p;obtain⟨f0,f1,f2,j,g,l⟩:=m it (by simp);have hi:i<x.cps.size:=u;have hx:x.cps[i]?=U x.cps[i]:=by simp[hi]
  obtain⟨t,st|st⟩:=st
  ·refine wpAny_pyNext_ascii_item st hx λh' f q=>?_;have y:L2.AU X AN σ H { s with heap:=h',toks:=s.toks+1 }:=I.turned (λb o a e=>(q.2 b a).trans e) f0 f1 j g l;obtain⟨o,e,c,d⟩:=id f;exact⟨_,rfl,Ir (s:={ s with heap:=h',toks:=s.toks+1 }) e c d () ⟨.str ⟨#[x.cps[i]]⟩,H,y,⟨_,rfl⟩,⟨rfl,_,hx,rfl⟩,⟨t,.inl f⟩,λb a=>(m b a).1⟩⟩
  ·refine wpAny_pyNext_wide_item st hx λh' f q=>?_;have y:L2.AU X AN σ H { s with heap:=h',toks:=s.toks+1 }:=I.turned (λb o a e=>(q.2 b a).trans e) f0 f1 j g l;obtain⟨o,e,c,d⟩:=id f;exact⟨_,rfl,Ir (s:={ s with heap:=h',toks:=s.toks+1 }) e c d () ⟨.str ⟨#[x.cps[i]]⟩,H,y,⟨_,rfl⟩,⟨rfl,_,hx,rfl⟩,⟨t,.inr f⟩,λb a=>(m b a).1⟩⟩
 done:=by
  intro X B A p n i AN s σ H E I m st u;subst B A p;obtain⟨f0,f1,f2,j,g,l⟩:=m it (by simp);have hx:x.cps[i]?=Z:=by have:x.cps.size<=i:=u;simp[this]
  obtain⟨t,st|st⟩:=st
  ·exact wpAny_pyNext_ascii_end (I.ok.hd n) st hx λh' eb=>⟨rfl,I.turned (t':=s.toks) (λb o a e=>eb b o a e) f0 f1 j g l⟩
  ·exact wpAny_pyNext_wide_end (I.ok.hd n) st hx λh' eb=>⟨rfl,I.turned (t':=s.toks) (λb o a e=>eb b o a e) f0 f1 j g l⟩
 self:=λ_ _ _ _ _ st h=>by
  obtain⟨t,st|st⟩:=st
  ·exact wpAny_pyIter_striter_ascii st h
  ·exact wpAny_pyIter_striter_wide st h
def GE(K:B4)(tl:TE):TI:=λσ H R=>tl σ H λx H1=>(∃a,x=.ref a/\(∃xs,nA K H1 a xs)/\R (Dx K a) H1)\/(∃a,x=.ref a/\(∃xs,vV K H1 a xs)/\R (EM K a) H1)\/∃y,x=.str y/\R (F0 y) H1
theorem Lg{l:Expr}{tl:TE}(j:PE X l tl):PI X tg l (GE X.K tl):=by
 intro AN s σ H R I h;refine jA (j AN s σ H _ I h) λv s1 ⟨x,H1,I1,r1,q1⟩=>?_;have c:∀(o:AE) (b:A1),b∈[s1.heap.objs.size]->qI X AN H1 b:=λo b k=>by
  have e:b=s1.heap.objs.size:=by simpa using k
  subst e;exact I1.UG (zl _) (I1.hok.fresh (zl _))
 rcases q1 with⟨a,e,⟨xs,d⟩,q⟩|⟨a,e,⟨xs,d⟩,q⟩|⟨y,e,q⟩
 ·subst e;cases r1;obtain⟨AQ,g,p,i⟩:=I1.list d;refine jS p.isList ?_;exact⟨s1.heap.objs.size,[s1.heap.objs.size],_,_,H1,rfl,I1.kept (t':=s1.toks) λb o e=>zh _ e,OD a _,⟨_,zw _ rfl,rfl,rfl⟩,c default,q⟩
 ·subst e;cases r1;obtain⟨AQ,g,p,i⟩:=I1.tuple d;refine wpAny_pyIter_tuple (show s1.heap.IsTuple a AQ.toArray from p) ?_;exact⟨s1.heap.objs.size,[s1.heap.objs.size],_,_,H1,rfl,I1.kept (t':=s1.toks) λb o e=>zh _ e,K1 a _,⟨_,zw _ rfl,rfl,rfl⟩,c default,q⟩
 ·subst e;obtain⟨t,rfl⟩:=r1;cases f:y.cps.all (· < 128)with
  |true=>
   refine wpAny_pyIter_ascii f ?_;exact⟨s1.heap.objs.size,[s1.heap.objs.size],_,_,H1,rfl,I1.kept (t':=s1.toks) λb o e=>zh _ e,Je _ y,⟨t,.inl ⟨_,zw _ rfl,rfl,rfl⟩⟩,c default,q⟩
  |false=>
   refine wpAny_pyIter_wide f ?_;exact⟨s1.heap.objs.size,[s1.heap.objs.size],_,_,H1,rfl,I1.kept (t':=s1.toks) λb o e=>zh _ e,Je _ y,⟨t,.inr ⟨_,zw _ rfl,rfl,rfl⟩⟩,c default,q⟩
def B7(K:B4)(J:It)(ds:O Dt)(Hs:Hp):Prop:=∀(i:Nat) (H:Hp),AV Hs H →
 (∀d,ds[i]?=U d->J.go i H/\∀x H',J.yld i H x H'->AV H H'/\AW K H' d x)/\(ds.length<=i->J.stop i H)
theorem B7.of{ds:O Dt}(h:∀(i:Nat) (H:Hp),AV Hs H →
  (∀d,ds[i]?=U d->J.go i H/\∀x H',J.yld i H x H'->H'=H/\AW K H d x)/\(ds.length<=i->J.stop i H)):B7 K J ds Hs:=λi H s=>
 ⟨λd e=>⟨((h i H s).1 d e).1,λx H' y=>by
  obtain⟨rfl,r⟩:=((h i H s).1 d e).2 x H' y;exact⟨AV.refl _,r⟩⟩,(h i H s).2⟩
def Bn(x:AJ):O Dt:=x.cps.toList.map λc=>.str ⟨#[c]⟩
theorem B7.list{ds:O Dt}(h:nA K Hs a vs)(r:aF K Hs ds vs):B7 K (Dx K a) ds Hs:=.of λi H s=>by
 have h':=s.seq h;have b:=r.kp (.of s);refine⟨λd e=>?_,λe=>⟨vs,h',by rw[r.length];exact e⟩⟩;obtain⟨v,ev,c⟩:=b.get e;refine⟨⟨vs,v,h',ev⟩,λx H' y=>?_⟩;obtain⟨y1,y2⟩:=y;have:=y2 vs h';rw[ev]at this;cases this;exact⟨y1,c⟩
theorem B7.tup{ds:O Dt}(h:vV K Hs a vs)(r:aF K Hs ds vs):B7 K (EM K a) ds Hs:=.of λi H s=>by
 have h':=(Kp.of s).sqT h;have b:=r.kp (.of s);refine⟨λd e=>?_,λe=>⟨vs,h',by rw[r.length];exact e⟩⟩;obtain⟨v,ev,c⟩:=b.get e;refine⟨⟨vs,v,h',ev⟩,λx H' y=>?_⟩;obtain⟨y1,y2⟩:=y;have:=y2 vs h';rw[ev]at this;cases this;exact⟨y1,c⟩
theorem B7.str(x:AJ):B7 K (F0 x) (Bn x) Hs:=.of λi H s=>by
 refine⟨λd e=>?_,λe=>?_⟩
 ·unfold Bn at e;rw[Zl]at e;cases h:x.cps.toList[i]? with
  |none=>rw[h]at e;cases e
  |some c=>
   rw[h]at e;cases e;have b:x.cps[i]?=U c:=by simpa using h
   have hi:i<x.cps.size:=by
    have:=(ad.mp h).1;simpa using this
   refine⟨hi,λv H' y=>?_⟩;obtain⟨y1,c',a,rfl⟩:=y;rw[b]at a;cases a;refine⟨y1,?_⟩;unfold AW;exact⟨rfl,by show(1:Nat)<=AA;decide⟩
 ·have:(Bn x).length=x.cps.size:=by simp[Bn]
  show x.cps.size<=i;omega
def GP(lo:Int)(n:Nat):O Dt:=(am n).map λk=>.int (lo+(k:Nat))
theorem B7.rng(lo:Int)(n:Nat):B7 K (EG lo n) (GP lo n) Hs:=.of λi H s=>by
 refine⟨λd e=>?_,λe=>?_⟩
 ·unfold GP at e;rw[Zl]at e;by_cases hi:i<n
  ·rw[dc hi]at e;cases e;refine⟨hi,λv H' y=>?_⟩;obtain⟨y1,y2⟩:=y;refine⟨y1,?_⟩;unfold AW;exact y2
  ·rw[List.getElem?_eq_none (by simp;omega)]at e;cases e
 ·have:(GP lo n).length=n:=by simp[GP]
  show n<=i;omega
def iF(K:B4)(f:Ev->Y (O Dt)):TI:=λσ H R=>∃H0 ρ ds,bh K H0 H σ ρ/\f ρ=U ds/\∀J H',AV H H' →
 (∀Hs,AV Hs H'->(∀a,H a=Z->Hs a=H' a)->(∀a o u,H' a=U (.qH o u)->Hs a=H' a)->(∀a vs,H' a=U (.tup vs)->Hs a=H' a)->B7 K J ds Hs)->R J H'
def IZ(X:Cx)(tg iter:Expr)(f:Ev->Y (O Dt)):Prop:=PI X tg iter (iF X.K f)
structure Do (X:Cx) (tg iter:Expr) (f:Ev->Option (List Dt)):Prop where
 run:IZ X tg iter f
def Rq:Bx->Y (O Dt)
 |.z (.lst ds)=>U ds
 |.z (.tup ds)=>U ds
 |.z (.str x)=>U (Bn x)
 |.o ds=>U ds
 |_=>Z
section
variable{f:Ev->Y Bx}{fs:Ev->Y (O Bx)}
mutual
theorem AW.part{K:B4}{H Hs:Hp}(b:∀a o u,H a=U (.qH o u)->Hs a=H a)(c:∀a vs,H a=U (.tup vs)->Hs a=H a):∀{d:Dt} {v:V},AW K H d v->AW K Hs d v
 |.non,_,h=>by simpa only[AW]using h
 |.bl _,_,h=>by simpa only[AW]using h
 |.int _,_,h=>by simpa only[AW]using h
 |.str _,_,h=>by simpa only[AW]using h
 |.tup ds,_,h=>by
  simp only[AW]at h ⊢;obtain⟨a,vs,e,q,r⟩:=h;refine⟨a,vs,e,?_,aF.part b c r⟩;rcases q with (q|⟨o,q⟩)|q
  ·exact .inl (.inl ((c _ _ q).trans q))
  ·exact .inl (.inr ⟨o,(b _ _ _ q).trans q⟩)
  ·exact .inr q
 |.lst ds,_,h=>by
  simp only[AW]at h ⊢;obtain⟨a,vs,e,q,r⟩:=h;refine⟨a,vs,e,?_,aF.part b c r⟩;rcases q with⟨o,q⟩|q
  ·exact .inl ⟨o,(b _ _ _ q).trans q⟩
  ·exact .inr q
 |.emp,_,h=>by
  simp only[AW]at h ⊢;obtain⟨a,o,e,q⟩:=h;exact⟨a,o,e,(b _ _ _ q).trans q⟩
theorem aF.part{K:B4}{H Hs:Hp}(c:∀a o u,H a=U (.qH o u)->Hs a=H a)(b:∀a vs,H a=U (.tup vs)->Hs a=H a):∀{ds:O Dt} {vs:O V},aF K H ds vs->aF K Hs ds vs
 |[],_,h=>by simpa only[aF]using h
 |d::ds,_,h=>by
  simp only[aF]at h ⊢;obtain⟨v,r,e,q,t⟩:=h;exact⟨v,r,e,AW.part c b q,aF.part c b t⟩
end
theorem GQ(h:QV X e f):Do X tg e (λρ=>(f ρ).bind Rq):=⟨have h:=h.run;λAN s σ H R I q=>by
 refine Lg h AN s σ H R I ?_;obtain⟨H0,ρ,ds,E,e,q⟩:=q;obtain⟨b,eb,e⟩:=AT e;refine⟨H0,ρ,b,E,eb,λv H1 u y i=>?_⟩;cases b with
 |z d=>
  cases d with
  |tup k=>
   cases e;simp only[aQ,AW]at i;obtain⟨a,vs,rfl,c,p⟩:=i;refine .inr (.inl ⟨a,rfl,⟨vs,c⟩,q _ _ u λHs w t g j=>.tup ?_ (p.part g j)⟩);rcases c with (c|⟨o,c⟩)|c
   ·exact .inl (.inl ((j _ _ c).trans c))
   ·exact .inl (.inr ⟨o,(g _ _ _ c).trans c⟩)
   ·exact .inr c
  |lst k=>
   cases e;simp only[aQ,AW]at i;obtain⟨a,vs,rfl,c,p⟩:=i;refine .inl ⟨a,rfl,⟨vs,c.sq⟩,q _ _ u λHs w t g j=>.list ?_ (p.part g j)⟩;rcases c with⟨o,c⟩|c
   ·exact .inl (.inr ⟨o,(g _ _ _ c).trans c⟩)
   ·exact .inr c
  |str x=>
   cases e;simp only[aQ,AW]at i;obtain⟨rfl,_⟩:=i;exact .inr (.inr ⟨x,rfl,q _ _ u λHs w t g j=>.str x⟩)
  |_=>cases e
 |l k=>cases e
 |n k=>cases e
 |m k=>cases e
 |o k=>
  cases e;obtain⟨a,vs,rfl,c,p⟩:=i;refine .inl ⟨a,rfl,⟨vs,.inl (.inl c)⟩,q _ _ u λHs w t g j=>.list (.inl (.inl ((t a (y a S)).trans c))) (p.part g j)⟩⟩
def Y5:O Bx->Y (O Dt)
 |[.z (.int j)]=>if -(2 ^ 62)<=j/\j<2 ^ 62 then U (GP 0 j.toNat)else Z
 |_=>Z
theorem jH{p:Pos}(g:Gl X "range")(d:X.mg "range"=Z)(a:Us X [e] fs)(hs:A9 [e] X.env=[(false,eval e X.env)]:=by rfl):Do X tg (.Call (.Name "range" p) [e] [] pos) (λρ=>(fs ρ).bind Y5):=⟨have a:=a.run;λAN s σ H R I q=>by
 refine OJ g d a hs AN s σ H R I ?_;obtain⟨H0,ρ,ds,E,e,q⟩:=q;obtain⟨bs,eb,e⟩:=AT e;refine⟨H0,ρ,bs,E,eb,λvs H1 f c=>?_⟩;unfold Y5 at e;split at e
 ·rename_i j;split at e
  ·rename_i b;cases e;cases c with
   |cons p t=>
    cases t;simp only[aQ,AW]at p;subst p;exact⟨j,rfl,b.1,b.2,q _ _ f λHs _ _ _ _=>.rng 0 _⟩
  ·cases e
 ·cases e⟩
def pL(gt:Dt->Ev->Y Ev)(gb:Ev->Y An):O Dt->Ev->Y An
 |[],ρ=>U (.nx ρ)
 |d::ds,ρ=>(gt d ρ).bind λc=>(gb c).bind λr=>match r with
  |.nx a=>pL gt gb ds a
  |.ct a=>pL gt gb ds a
  |.bk a=>U (.nx a)
  |.rt b=>U (.rt b)
noncomputable def dI(H:Hp)(σ:L2.St)(ρ:Ev):Hp:=λa=>@ite _ (∃(i:Nat) (c:Bx),ρ[i]?=U (U c)/\wj c=true/\σ[i]?=U (U (.ref a))) (Classical.propDecidable _) Z (H a)
theorem wz{ρ:Ev}:AV (dI H σ ρ) H:=λa o e=>by
 unfold dI at e;split at e
 ·cases e
 ·exact e
theorem bh.rebase{ρ:Ev}(E:bh K Hs H σ ρ)(s:AV H0 Hs):bh K H0 H σ ρ:=⟨E.len,E.val,E.own,s.trans E.base,λi c a e1 b e2=>s.free (E.new i c a e1 b e2)⟩
theorem bh.sans{ρ:Ev}(E:bh K H0 H σ ρ):bh K (dI H σ ρ) H σ ρ:=⟨E.len,E.val,E.own,wz,λi c a e1 b e2=>by
 unfold dI;rw[zr ⟨i,c,e1,b,e2⟩]⟩
theorem bh.sub{ρ:Ev}(E:bh K H0 H σ ρ):AV H0 (dI H σ ρ):=λa o e=>by
 unfold dI;split
 ·rename_i h;obtain⟨i,c,e1,b,e2⟩:=h;rw[E.new i c a e1 b e2]at e;cases e
 ·exact E.base a o e
theorem fK{ρ:Ev}(E:bh K H0 H σ ρ)(h:∀vs,H a≠U (.lst vs))(h2:∀vs,H a≠U (.dK vs)):dI H σ ρ a=H a:=by
 unfold dI;split
 ·rename_i g;obtain⟨i,c,e1,f,e2⟩:=g;obtain⟨v,e3,d⟩:=E.val i _ e1;rw[e2]at e3;cases e3;cases c with
  |o ds=>obtain⟨e,vs,b,q,_⟩:=d;cases b;exact absurd q (h vs)
  |m ds _=>obtain⟨e,vs,b,q,_⟩:=d;cases b;exact absurd q (h2 vs)
  |_=>cases f
 ·rfl
theorem Ro.rebase{K:B4}{H0 Hs:Hp}{D:C3}{r:An}(s:AV H0 Hs)(h:Ro K H0 D r):Ro K Hs D r:=by
 cases r with
 |nx ρ=>exact λσ H E=>h σ H (E.rebase s)
 |bk ρ=>exact λσ H E=>h σ H (E.rebase s)
 |ct ρ=>exact λσ H E=>h σ H (E.rebase s)
 |rt b=>exact λv H s' n r=>h v H (s.trans s') (n.old s) r
theorem oF{gt:Dt->Ev->Option Ev}{gb:Ev->Option An}{ds:O Dt}{H1:Hp}{ρ:Ev}{D:C3}{r:An}(p:bh X.K H0 H1 σ ρ)(Y:B7 X.K J ds (dI H1 σ ρ))(e:pL gt gb ds ρ=U r)(q:Ro X.K H0 D r):
  ∃W:Nat->Nat->L2.St->Hp->Prop,(∃m,W 0 m σ H1)/\∀i m σ H,W i m σ H →
   (J.stop i H/\D.nx σ H)\/(J.go i H/\∃N:L2.St->Hp->Prop,(∀ σ' H',N σ' H'->∃l,l<m/\W (i+1) l σ' H')/\∀x H',J.yld i H x H'->Fk X.K gt x σ H' λc H2=>tG X.K gb { D with nx:=N,ct:=N,bk:=D.nx } c H2):=by
 have s:=p.sans;have q2:=q.rebase p.sub;generalize dI H1 σ ρ=Hs at Y s q2;refine⟨λi m σ' H'=>m=ds.length-i/\i<=ds.length/\∃d,bh X.K Hs H' σ' d/\pL gt gb (ds.drop i) d=U r,⟨ds.length,by simp,qs _,ρ,s,by simpa using e⟩,?_⟩;rintro i m σ' H' ⟨rfl,z,d,f,e'⟩;obtain⟨y1,y2⟩:=Y i H' f.base;by_cases g:i<ds.length
 ·right;have hd:ds[i]?=U ds[i]:=by simp[g]
  obtain⟨go,y⟩:=y1 _ hd;rw[bq g]at e';simp only[pL]at e';obtain⟨k,e1,e'⟩:=AT e';obtain⟨n,e2,e'⟩:=AT e';refine⟨go,λc H2=>∃a,bh X.K Hs H2 c a/\pL gt gb (ds.drop (i+1)) a=U r,λc H2 ⟨a,h,e3⟩=>⟨ds.length-(i+1),by omega,rfl,g,a,h,e3⟩,λx H2 v=>?_⟩;obtain⟨w,t⟩:=y x H2 v;refine⟨Hs,d,ds[i],k,f.grow w,t,e1,λA h _=>⟨Hs,k,n,h,e2,?_⟩⟩;cases n with
  |nx a=>exact λc u j=>⟨a,j,e'⟩
  |ct a=>exact λc u j=>⟨a,j,e'⟩
  |bk a=>cases e';exact q2
  |rt b=>cases e';exact q2
 ·left;have o:ds.length<=i:=by omega
  refine⟨y2 o,?_⟩;rw[cm o]at e';cases e';exact q2 σ' H' f
theorem pN{fi:Ev->Y (O Dt)}{gt:Dt->Ev->Y Ev}{gb:Ev->Y An}(hp:PassesOwn (en X) X.A X.env X.xe)(n:X.calm=true)(hi:Do X tg iter fi)(d:Y4 X tg gt)(g:KR X body gb)(hs:∀x,foldedSetIterable iter X.env x=pure x:=by intro _;rfl):Qx X (.For tg iter body [] pos) (λρ=>(fi ρ).bind λds=>pL gt gb ds ρ):=⟨have hi:=hi.run;have d:=d.run;have g:=g.run;Vl (QK hp n hi d g hs) λD σ H h=>by
 obtain⟨H0,ρ,r,E,e,q⟩:=h;obtain⟨ds,l,e⟩:=AT e;refine⟨H0,ρ,ds,E,l,λJ H1 p y=>?_⟩;have j:=E.grow p;refine oF j ?_ e q;refine y _ wz (λa b=>?_) (λa o u b=>fK j (λvs z=>by rw[b]at z;cases z) (λvs z=>by rw[b]at z;cases z)) λa vs b=>fK j (λvs z=>by rw[b]at z;cases z) (λvs z=>by rw[b]at z;cases z);unfold dI;split
 ·rename_i B;obtain⟨i,c,e1,t,e2⟩:=B;obtain⟨v,e3,k⟩:=E.val i _ e1;rw[e2]at e3;cases e3;cases c with
  |o ds=>obtain⟨s,vs,f,q,_⟩:=k;cases f;rw[b]at q;cases q
  |m ds _=>obtain⟨s,vs,f,q,_⟩:=k;cases f;rw[b]at q;cases q
  |_=>cases t
 ·rfl⟩
theorem bh.lend{ρ:Ev}{ds:O Dt}(E:bh K H0 H σ ρ)(h:ρ[i]?=U (U (.o ds))):bh K H0 H σ (ρ.set i (U (.l ds))):=by
 have g:∀(j:Nat) (b:Bx),(ρ.set i (U (.l ds)))[j]?=U (U b)->(j=i/\b=.l ds)\/(j≠i/\ρ[j]?=U (U b)):=λj b e=>by
  rcases BF e with⟨rfl,e',_⟩|⟨f,e'⟩
  ·cases e';exact .inl ⟨rfl,rfl⟩
  ·exact .inr ⟨f,e'⟩
 refine⟨by rw[JS];exact E.len,λj b e=>?_,λj k c a b e1 d e2 e3 n m=>?_,E.base,λj c a e1 d e2=>?_⟩
 ·rcases g j b e with⟨rfl,rfl⟩|⟨f,e'⟩
  ·obtain⟨v,e1,a,vs,e2,q,r⟩:=E.val _ _ h;exact⟨v,e1,a,vs,e2,.inl q,r⟩
  ·exact E.val j b e'
 ·rcases g j _ e1 with⟨rfl,z⟩|⟨f,e'⟩
  ·subst z;cases d
  ·rcases g k _ e3 with⟨rfl,z⟩|⟨s,p⟩
   ·exact E.own j _ c a _ e' d e2 h S m
   ·exact E.own j k c a b e' d e2 p n m
 ·rcases g j _ e1 with⟨rfl,z⟩|⟨f,e'⟩
  ·subst z;cases d
  ·exact E.new j c a e' d e2
def u9(i:Nat)(gt:Dt->Ev->Y Ev)(gb:Ev->Y An)(ρ:Ev):Y An:=match ρ[i]? with
 |some (U (.o ds))=>pL gt gb ds (ρ.set i (U (.l ds)))
 |some (U (.l ds))=>pL gt gb ds ρ
 |some (U b)=>(Rq b).bind λds=>pL gt gb ds ρ
 |_=>Z
theorem Rr{ρ:Ev}{ds:O Dt}(E:bh X.K H0 H σ ρ)(h:ρ[i]?=U (U (.l ds))):∃a vs,σ[i]?=U (U (.ref a))/\nA X.K H a vs/\B7 X.K (Dx X.K a) ds (dI H σ ρ):=by
 obtain⟨v,e1,a,vs,rfl,q,r⟩:=E.val i _ h;have hk:dI H σ ρ a=H a:=by
  unfold dI;split
  ·rename_i f;obtain⟨j,c,e2,e,e3⟩:=f;have:=E.own j i c a _ e2 e e3 h S e1;subst this;rw[h]at e2;cases e2;cases e
  ·rfl
 refine⟨a,vs,e1,.inl q,.list (.inl ?_) (r.part (λb o u d=>fK E (λvs z=>by rw[d]at z;cases z) (λvs z=>by rw[d]at z;cases z)) λb ws d=>fK E (λvs z=>by rw[d]at z;cases z) (λvs z=>by rw[d]at z;cases z))⟩;rcases q with q|⟨o,q⟩
 ·exact .inl (hk.trans q)
 ·exact .inr ⟨o,hk.trans q⟩
theorem GR(i:Nat){p:Pos}{gt:Dt->Ev->Option Ev}{gb:Ev->Option An}(hp:PassesOwn (en X) X.A X.env X.xe)(I:X.calm=true)(C:Y4 X tg gt)(f:KR X body gb)(M:X.N[i]?=U x:=by rfl)(L:KY X.env.scope x:=by first|exact Qr rfl|exact ZO (Qr S)|exact ZO (ZO S))(hd:ej x:=by decide)(K:(x==("__classdict__":AJ))=false:=by decide)(hs:∀y,foldedSetIterable (.Name x p) X.env y=pure y:=by intro _;rfl):Qx X (.For tg (.Name x p) body [] pos) (u9 i gt gb):=⟨have C:=C.run;have f:=f.run;Vl (QK hp I (Lg (u0 (i:=i) M L hd K)) C f hs) λD σ H h=>by
 obtain⟨H0,ρ,r,E,e,q⟩:=h;unfold u9 at e;split at e
 ·rename_i ds j;have G:=E.lend j;have hi:i<ρ.length:=(ad.mp j).1;obtain⟨a,vs,e1,sq,Y⟩:=Rr G (Ar _ hi);exact⟨_,e1,.inl ⟨a,rfl,⟨vs,sq⟩,oF G Y e q⟩⟩
 ·rename_i ds j;obtain⟨a,vs,e1,sq,Y⟩:=Rr E j;exact⟨_,e1,.inl ⟨a,rfl,⟨vs,sq⟩,oF E Y e q⟩⟩
 ·rename_i b J P j;obtain⟨ds,g,e⟩:=AT e;obtain⟨v,e1,k⟩:=E.val i _ j;have t:∀b o u,H b=U (.qH o u)->dI H σ ρ b=H b:=λb o u f=>fK E (λvs z=>by rw[f]at z;cases z) (λvs z=>by rw[f]at z;cases z);have B:∀b ws,H b=U (.tup ws)->dI H σ ρ b=H b:=λb ws f=>fK E (λvs z=>by rw[f]at z;cases z) (λvs z=>by rw[f]at z;cases z);cases b with
  |z d=>
   cases d with
   |tup s=>
    cases g;simp only[aQ,AW]at k;obtain⟨a,vs,rfl,c,F⟩:=k;refine⟨_,e1,.inr (.inl ⟨a,rfl,⟨vs,c⟩,oF E (.tup ?_ (F.part t B)) e q⟩)⟩;rcases c with (c|⟨o,c⟩)|c
    ·exact .inl (.inl ((B _ _ c).trans c))
    ·exact .inl (.inr ⟨o,(t _ _ _ c).trans c⟩)
    ·exact .inr c
   |lst s=>
    cases g;simp only[aQ,AW]at k;obtain⟨a,vs,rfl,c,F⟩:=k;refine⟨_,e1,.inl ⟨a,rfl,⟨vs,c.sq⟩,oF E (.list ?_ (F.part t B)) e q⟩⟩;rcases c with⟨o,c⟩|c
    ·exact .inl (.inr ⟨o,(t _ _ _ c).trans c⟩)
    ·exact .inr c
   |str x=>
    cases g;simp only[aQ,AW]at k;obtain⟨rfl,_⟩:=k;exact⟨_,e1,.inr (.inr ⟨x,rfl,oF E (.str x) e q⟩)⟩
   |_=>cases g
  |l s=>cases g
  |o s=>exact absurd S (J s)
  |n s=>cases g
  |m s=>cases g
 ·cases e⟩
end
def C0(a:O (AJ×A1)):O (AJ×A1)->Prop
 |[]=>True
 |(n,c)::r=>a.lookup n=U c/\C0 a r
theorem C0.get{a:O (AJ×A1)}:∀{cl:O (AJ×A1)},C0 a cl->∀{x:AJ} {c:A1},cl.lookup x=U c->a.lookup x=U c
 |[],_,_,_,e=>by cases e
 |(n,d)::r,h,x,c,e=>by
  rw[JO]at e;by_cases hx:x==n
  ·simp only[hx]at e;cases e;have:x=n:=by simpa using hx
   rw[this];exact h.1
  ·have hx:(x==n)=false:=by simpa using hx
   simp only[hx]at e;exact C0.get h.2 e
structure FC (X:Cx) (scope:Scope) (cl:List (Str×Addr)) (x:Str) (i:Nat):Prop where
 n:X.N[i]?=some x
 k:X.env.kindOf x=some .cell\/X.env.kindOf x=some .free
 k':(relabel scope X.env).names.lookup x=some .cell\/(relabel scope X.env).names.lookup x=some .free
 c:∃c,cl.lookup x=some c
def Dr(X:Cx)(scope:Scope)(cl:O (AJ×A1)):AZ->O Nat->Prop
 |[],[]=>True
 |x::xs,i::is=>FC X scope cl x i/\Dr X scope cl xs is
 |_,_=>False
theorem Dr.get{X:Cx}{scope:Scope}{cl:O (AJ×A1)}:∀{xs:AZ} {is:O Nat},Dr X scope cl xs is->xs.length=is.length/\∀(j:Nat) (x:AJ),xs[j]?=U x->∃i,is[j]?=U i/\FC X scope cl x i
 |[],[],_=>⟨rfl,λj x e=>by simp at e⟩
 |x::xs,i::is,h=>by
  obtain⟨h1,h2⟩:=h;obtain⟨l,g⟩:=Dr.get h2;refine⟨by simp[l],λj y e=>?_⟩;cases j with
  |zero=>simp at e;subst e;exact⟨i,rfl,h1⟩
  |succ j=>obtain⟨k,e1,e2⟩:=g j y (by simpa using e);exact⟨k,by simpa using e1,e2⟩
 |[],_::_,h=>h.elim
 |_::_,[],h=>h.elim
def Y6(a:O (AJ×NameKind))(x:AJ):Bool:=match a.lookup x with
 |some .cell=>true
 |_=>false
def Lh(X:Cx)(a:AZ)(scope:Scope)(cl:O (AJ×A1))(C:A1)(s₀:A2)(H₀:Hp)(fp:O A1):Cx:=
 { X with N:=a,s₀:=s₀,H₀:=H₀,env:=compEnvC scope (cellsFrom (C+1) scope.names cl) C X.env,outer:=X.stack,ex:=fp,fn:=Y6 scope.names,pn:=[],xe:=λ_ _=>False }
structure Y7 (h:Heap) (cs:List (Str×Addr)):Prop where
 inj:∀x y c,cs.lookup x=some c->cs.lookup y=some c->x=y
 cell:∀x c,cs.lookup x=some c->∃v,h.IsCell c v
theorem gW{n:AJ}{a:α}{l:O (AJ×α)}(h:x≠n):((n,a)::l).lookup x=l.lookup x:=by
 rw[JO,beq_eq_false_iff_ne.mpr h]
theorem Rt:∀(g:O (AJ×NameKind)) (h:A6) (d:O (AJ×A1)),Y7 h d->Y7 (pushCells h g) (cellsFrom h.objs.size g d)
 |[],_,_,x=>x
 |(n,k)::r,h,d,x=>by
  unfold pushCells cellsFrom;split
  ·have i:∀y c,d.lookup y=U c->c≠h.objs.size:=λy c e=>let ⟨_,q⟩:=x.cell y c e;z4 q.lt;have:=Rt r (h.push { cls:=.type "cell",data:=.cell Z }) ((n,h.objs.size)::d) ⟨λy z c e1 e2=>?_,λy c e=>?_⟩
   ·rwa [JE]at this
   ·by_cases a:y=n<;>by_cases f:z=n
    ·rw[a,f]
    ·subst a;rw[jI]at e1;rw[gW f]at e2;cases e1;exact absurd S (i _ _ e2)
    ·subst f;rw[jI]at e2;rw[gW a]at e1;cases e2;exact absurd S (i _ _ e1)
    ·rw[gW a]at e1;rw[gW f]at e2;exact x.inj y z c e1 e2
   ·by_cases a:y=n
    ·subst a;rw[jI]at e;cases e;exact⟨Z,_,zw _ rfl,rfl⟩
    ·rw[gW a]at e;obtain⟨v,q⟩:=x.cell y c e;exact⟨v,q.keeps λb o e=>zh _ e⟩
  ·exact Rt r h d x
theorem wA:∀(b:O (AJ×NameKind)) (n:Nat) (a:O (AJ×A1)) (x:AJ) (c:A1),(cellsFrom n b a).lookup x=U c->a.lookup x=U c\/n<=c
 |[],_,_,_,_,e=>.inl e
 |(m,k)::r,n,a,x,c,e=>by
  unfold cellsFrom at e;split at e
  ·rcases wA r _ _ x c e with h|h
   ·by_cases hx:x=m
    ·subst hx;rw[jI]at h;cases h;exact .inr (zl _)
    ·rw[gW hx]at h;exact .inl h
   ·exact .inr ()
  ·exact wA r _ _ x c e
theorem GX:∀(c:O (AJ×NameKind)) (n:Nat) (a:O (AJ×A1)) (x:AJ),(x,NameKind.cell)∉c->(cellsFrom n c a).lookup x=a.lookup x
 |[],_,_,_,_=>rfl
 |(m,k)::r,n,a,x,h=>by
  unfold cellsFrom;have b:(x,NameKind.cell)∉r:=λz=>h (zg _ z);split
  ·rename_i hk;rw[GX r _ _ x b,gW λz=>h (by rw[z,<-beq_iff_eq.mp hk];exact ze ..)]
  ·exact GX r _ _ x b
theorem Li:∀(b:O (AJ×NameKind)) (n:Nat) (a:O (AJ×A1)) (x:AJ),((x,NameKind.cell)∈b\/∃c,a.lookup x=U c)->∃c,(cellsFrom n b a).lookup x=U c
 |[],_,_,_,h=>h.elim (λz=>by simp at z) λz=>z
 |(m,k)::r,n,a,x,h=>by
  unfold cellsFrom;split
  ·refine Li r _ _ x ?_;by_cases hx:x=m
   ·exact .inr ⟨n,by rw[hx,jI]⟩
   ·rw[gW hx];exact h.imp_left λz=>(List.mem_cons.mp z).elim (λz=>absurd (congrArg Prod.fst z) hx) λz=>z
  ·rename_i hk;exact Li r _ _ x (h.imp_left λz=>(List.mem_cons.mp z).elim (λz=>by cases z;exact absurd S hk) λz=>z)
theorem Pa{g:A1}{Q:Env->A2->Prop}(h:Q (newEnv scope s.heap.objs.size g (cellsFrom (s.heap.objs.size+1) scope.names cl) qual Z .none (U env) builtinsNs) { s with heap:=pushCells (s.heap.push { cls:=.type "dict",data:=.dict #[] }) scope.names }):
  A7 M A (newFunctionEnv scope g cl [] qual Z .none (U env)) Q E s:=by
 simp only[newFunctionEnv,dl,ZT];refine zb (wpAny_alloc ?_);refine zb (wpAny_layCells _ (λname a b=>by cases a==NameKind.cell<;>simp) _ _ _ _ ?_);rw[show({ s with heap:=s.heap.push { cls:=.type "dict",data:=.dict #[] } }:A2).heap.objs.size=s.heap.objs.size+1 from JE ..];rw[List.forIn_nil];exact zb (zd (zd h))
structure vA (X:Cx) (scope:Scope) (cl:List (Str×Addr)) (xs:AZ) (is:List Nat):Prop where
 clos:closureFor scope X.env=pure cl
 kind:scope.kind=.function
 cell:∀y∈scope.names,y.2=.cell->cl.lookup y.1=none
 names:∀y∈scope.names,y.2=.local->scope.names.lookup y.1=some .local
 sub:C0 X.env.cells cl
 has:∀x,((relabel scope X.env).names.lookup x=some .cell\/(relabel scope X.env).names.lookup x=some .free)->(x,NameKind.cell)∈scope.names\/∃c,cl.lookup x=some c
 cap:Dr X scope cl xs is
def pO(is:O Nat)(σ:L2.St):L2.St:=is.map λi=>(σ[i]?).bind λv=>v
def iz(is:O Nat)(ρ:Ev):Ev:=is.map λi=>zB ρ i
def Xi(n m:Nat)(g:Dt->Ev->Y Ev):Prop:=∀d ρ a,g d ρ=U a->a.length=ρ.length/\∀j,j<n\/m<=j->a[j]?=ρ[j]?
def Vs(n m:Nat)(g:O Dt->Ev->Y Ev):Prop:=∀d ρ a,g d ρ=U a->a.length=ρ.length/\∀j,j<n\/m<=j->a[j]?=ρ[j]?
theorem cJ(h:n<=i:=by decide)(h':i<m:=by decide):Xi n m (λd ρ=>U (ρ.set i (U (.z d)))):=λd ρ b e=>by
 cases e;exact⟨by rw[JS],λj a=>Av _ ()⟩
theorem zT:Vs n m wk:=λd ρ a e=>by
 cases d with
 |nil=>cases e;exact⟨rfl,λ_ _=>S⟩
 |cons=>cases e
theorem jJ{g:Dt->Ev->Y Ev}{gs:O Dt->Ev->Y Ev}(h:Xi n m g)(hs:Vs n m gs):Vs n m (eH g gs):=λd ρ k e=>by
 cases d with
 |nil=>cases e
 |cons d ds=>
  simp only[eH]at e;obtain⟨l,e1,e⟩:=AT e;obtain⟨a,b⟩:=h _ _ _ e1;obtain⟨f,i⟩:=hs _ _ _ e;exact⟨f.trans a,λj c=>(i j c).trans (b j c)⟩
theorem GZ{gs:O Dt->Ev->Y Ev}(hs:Vs n m gs):Xi n m (qP k gs):=λd ρ a e=>by
 cases d with
 |tup ds=>
  simp only[qP]at e;split at e
  ·exact hs _ _ _ e
  ·cases e
 |_=>cases e
def zF(gt:Dt->Ev->Y Ev)(p:Ev->Y Bool)(fs:Ev->Y (O Dt))(ρ:Ev):O Dt->Y (O Dt)
 |[]=>U []
 |d::ds=>(gt d ρ).bind λa=>(p a).bind λk=>if k=true then(fs a).bind λys=>(zF gt p fs ρ ds).bind λzs=>U (ys++zs)else zF gt p fs ρ ds
def Y8:Bx->Y (O Dt)
 |.z y=>U [y]
 |_=>Z
def Ez(gt:Dt->Ev->Y Ev)(p:Ev->Y Bool)(fe:Ev->Y Bx)(ρ:Ev):O Dt->Y (O Dt):=zF gt p (λρ=>(fe ρ).bind Y8) ρ
theorem EY{b:Bx}{ys:O Dt}(h:Y8 b=U ys):∃y,b=.z y/\ys=[y]:=by
 cases b<;>cases h;exact⟨_,rfl,rfl⟩
theorem xX{gt:Dt->Ev->Y Ev}{p:Ev->Y Bool}{fe:Ev->Y Bx}{ρ:Ev}:∀{ds out:O Dt},Ez gt p fe ρ ds=U out->out.length<=ds.length
 |[],_,e=>by cases e;exact zl _
 |d::ds,out,e=>by
  simp only[Ez,zF]at e;obtain⟨f,_,e⟩:=AT e;obtain⟨k,_,e⟩:=AT e;cases k with
  |false=>
   rw[zI z5]at e;exact zD (xX (gt:=gt) (p:=p) (fe:=fe) e) (by simp)
  |true=>
   rw[zr rfl]at e;obtain⟨ys,a,e⟩:=AT e;obtain⟨zs,c,e⟩:=AT e;obtain⟨b,_,a⟩:=AT a;obtain⟨y,_,rfl⟩:=EY a;cases e;simpa using xX (gt:=gt) (p:=p) (fe:=fe) c
def CA(X:Cx)(ifs:O Expr)(p:Ev->Y Bool):Prop:=(ifs=[]/\p=λ_=>U true)\/∃c,ifs=[c]/\PB X c p
structure G3 (X:Cx) (ifs:List Expr) (p:Ev->Option Bool):Prop where
 run:CA X ifs p
section
variable{xs:AZ}{gt:Dt->Ev->Y Ev}{p:Ev->Y Bool}{fe:Ev->Y Bx}{fi:Ev->Y (O Dt)}
theorem Ru{p:Hp}{d:A2}(a:L2.AU X AN σ p d)(O:vA X scope cl xs is)(w:∀b∈fp,qI X AN p b)(C:∀b∈fp,b<d.heap.objs.size):
  L2.AU (Lh X (xs++ts) scope cl d.heap.objs.size d p fp) [] (pO is σ++aa ts.length Z) p { d with heap:=pushCells (d.heap.push { cls:=.type "dict",data:=.dict #[] }) scope.names }:=by
 obtain⟨I,P⟩:=O.cap.get;have g:=O.sub;have E:(d.heap.push { cls:=.type "dict",data:=.dict #[] }).objs.size=d.heap.objs.size+1:=JE ..;have hk:∀b o,d.heap.get? b=U o->(pushCells (d.heap.push { cls:=.type "dict",data:=.dict #[] }) scope.names).get? b=U o:=λb o e=>pushCells_keeps _ _ b o (zh _ e);have A:Y7 (pushCells (d.heap.push { cls:=.type "dict",data:=.dict #[] }) scope.names) (cellsFrom (d.heap.objs.size+1) scope.names cl):=by
  rw[<-E];refine Rt _ _ _ ⟨λx y c e1 e2=>a.ok.inj x y c (g.get e1) (g.get e2),λx c e=>?_⟩;obtain⟨v,q⟩:=a.cell x c (g.get e);exact⟨v,q.keeps λb o e=>zh _ e⟩
 have D:∀x c,(cellsFrom (d.heap.objs.size+1) scope.names cl).lookup x=U c->X.env.cells.lookup x=U c\/d.heap.objs.size<c:=λx c e=>(wA _ _ _ x c e).imp_left g.get;refine⟨⟨a.ok.mod,O.kind,a.ok.glob,a.ok.blt,zl _,A.inj,λx hx=>Li _ _ _ x (O.has x hx),λx c hx e=>?_,a.ok.hd,a.ok.frames,.inl rfl,λb f=>⟨z4 (C b f),λx c e=>?_⟩,a.bs,zD a.ok.Uw a.sz,λb o e f=>?_,λb f H=>?_,a.stack,a.Gq,a.ok.tabs.go a.base.vX⟩,
  rfl,a.bare,Un.kept hk,⟨_,(Heap.Ns.new d.heap (.type "dict")).keeps (pushCells_keeps _ _),λj x v e1 e2 _=>?_⟩,A.cell,a.hok.fresh (zl _),λx c e=>(D x c e).elim (a.oh x c) λh=>a.hok.fresh (Q1 h),λq hq=>absurd (show q∈([]:List (A1×AE)) from hq) (by simp),a.hok.kept hk,?_⟩
 ·refine(wA _ _ _ x c e).elim (λh=>?_) λh=>Q1 h;have hx:(x,NameKind.cell)∈scope.names:=by
   have hx:Y6 scope.names x=true:=hx;unfold Y6 at hx;split at hx
   ·rename_i q;exact mem_of_lookup q
   ·cases hx
  rw[O.cell _ hx rfl]at h;cases h
 ·rcases D x c e with h|h
  ·exact(w b f).2.2.2.2.1 x c h
  ·exact aS (Nat.lt_trans (C b f) h)
 ·obtain⟨_,_,_,z,_⟩:=w b f;rcases z with z|z
  ·exact a.ok.QF b o e z
  ·exact absurd (zS (zt e) (zD a.ok.Uw z)) (Q3 _)
 ·obtain⟨_,W,K,_⟩:=w b f;rcases List.mem_cons.mp (a.Gp b H)with z|z
  ·exact W z
  ·exact K z
 ·have B:j<is.length:=by
   by_cases B:j<is.length
   ·exact B
   ·rw[qo (by simp[pO];omega)]at e2;rw[Qb]at e2;split at e2<;>cases e2
  have F:xs[j]?=U x:=by
   have e1:(xs++ts)[j]?=U x:=e1;rw[Zs ()]at e1;exact e1
  obtain⟨i,M,m⟩:=P j x F;have e3:σ[i]?=U (U v):=by
   rw[Zs (by simp[pO];omega)]at e2;unfold pO at e2;rw[Zl,M]at e2;cases q:σ[i]? with
   |none=>rw[kC,q]at e2;cases e2
   |some o=>
    rw[kC,q]at e2;have:o=U v:=by simpa using e2
    rw[this]
  have G:KY X.env.scope x:=by
   rcases m.k with k|k
   ·exact .inr (.inl k)
   ·exact .inr (.inr k)
  obtain⟨m',a0,N⟩:=a.loc;obtain⟨u,r,l⟩:=N i x v m.n e3 G;refine⟨u,r,?_⟩;rcases l with⟨k,_⟩|⟨k,c,J,Q⟩
  ·rcases m.k with t|t<;>(rw[k]at t;cases t)
  ·obtain⟨c',s⟩:=m.c;have:=g.get s;rw[J]at this;cases this;refine .inr ⟨m.k',c,(GX _ _ _ x λz=>by rw[O.cell _ z rfl]at s;cases s).trans s,?_⟩;obtain⟨o,L,hd⟩:=Q;exact⟨o,hk c o L,hd⟩
 ·show(pO is σ++aa ts.length Z).length=(xs++ts).length;simp[pO,I]
theorem bh.caps{ρ:Ev}(E:bh K H0 H σ ρ)(is:O Nat)(n:Nat):bh K H H (pO is σ++aa n Z) (iz is ρ++aa n Z):=by
 have f:∀(j:Nat) c,(iz is ρ++aa n Z)[j]?=U (U c)->wj c=false:=λj c e=>by
  by_cases g:j<is.length
  ·rw[Zs (by simp[iz];omega)]at e;unfold iz at e;rw[Zl]at e;cases q:is[j]? with
   |none=>rw[q]at e;cases e
   |some i=>
    rw[q]at e;have:zB ρ i=U c:=by simpa using e
    exact zR this
  ·rw[qo (by simp[iz];omega),Qb]at e;split at e<;>cases e
 refine⟨by simp[pO,iz],λj b e=>?_,λj k c a b e d=>absurd d (by rw[f j c e];exact z5),AV.refl H,λj c a e d=>absurd d (by rw[f j c e];exact z5)⟩;by_cases g:j<is.length
 ·rw[Zs (by simp[iz];omega)]at e;rw[Zs (by simp[pO];omega)];unfold iz at e;unfold pO;rw[Zl]at e ⊢;cases q:is[j]? with
  |none=>rw[q]at e;cases e
  |some i=>
   rw[q]at e;have:zB ρ i=U b:=by simpa using e
   obtain⟨v,e1,r⟩:=Ja E this;exact⟨v,by simp[e1],r⟩
 ·rw[qo (by simp[iz];omega),Qb]at e;split at e<;>cases e
theorem bh.forget{ρ ρ':Ev}(E:bh K H0 H σ ρ')(k:ρ'.length=ρ.length)(h:∀(j:Nat) b,ρ[j]?=U (U b)->ρ'[j]?=U (U b)):bh K H0 H σ ρ:=
 ⟨E.len.trans k,λj b e=>E.val j b (h j b e),λi j c a b e1 d e2 e3 g f=>E.own i j c a b (h _ _ e1) d e2 (h _ _ e3) g f,E.base,λi c a e1 d e2=>E.new i c a (h _ _ e1) d e2⟩
structure Xj (Hb:Hp) (σ:L2.St) (ρ:Ev) (n:Nat):Prop where
 own:∀(j:Nat) c,ρ[j]?=some (some c)->wj c=false
 lt:∀(j:Nat) b,ρ[j]?=some (some b)->j<n
 old:∀(j:Nat) c a,ρ[j]?=some (some c)->loose c=true->σ[j]?=some (some (.ref a))->Hb a≠none
def Fx(σ σ':L2.St)(ρ:Ev):Prop:=∀(j:Nat) c,loose c=true->ρ[j]?=U (U c)->σ'[j]?=σ[j]?
theorem Xj.fx{b:Hp}{σ':L2.St}{ρ:Ev}(P:Xj b σ ρ n)(f:Fx σ σ' ρ):Xj b σ' ρ n:=⟨P.own,P.lt,λj c a e d ea=>P.old j c a e d (by rw[<-f j c d e];exact ea)⟩
theorem D8{ρ:Ev}(E:bh K H0 H σ ρ)(j:Nat)(c:Bx)(a:A1)(e:ρ[j]?=U (U c))(h:loose c=true)(ea:σ[j]?=U (U (.ref a))):H a≠Z:=λz=>by
 obtain⟨v,e1,b⟩:=E.val j _ e;rw[ea]at e1;cases e1;cases c with
 |z d=>cases h
 |l g=>
  obtain⟨f,vs,e2,q,_⟩:=b;cases e2;rcases q with q|⟨o,q⟩<;>(rw[z]at q;cases q)
 |n g=>
  obtain⟨f,vs,e2,q,_⟩:=b;cases e2;rcases q with q|⟨o,q⟩<;>(rw[z]at q;cases q)
 |o g=>
  obtain⟨f,vs,e2,q,_⟩:=b;cases e2;rw[z]at q;cases q
 |m g _=>
  obtain⟨f,vs,e2,q,_⟩:=b;cases e2;rw[z]at q;cases q
theorem bh.grown{g:Hp}{ρ:Ev}{D:A1}(E:bh K g H σ ρ)(P:Xj g σ ρ n)(t:g D=Z)(kp:Kp H (B8 H D o)):bh K g (B8 H D o) σ ρ:=by
 refine⟨E.len,λj b e=>?_,λj k c a b e s=>absurd s (by rw[P.own j c e];exact z5),λc o e=>?_,λj c a e s=>absurd s (by rw[P.own j c e];exact z5)⟩
 ·obtain⟨v,ev,i⟩:=E.val j b e;refine⟨v,ev,?_⟩;cases b with
  |z d=>exact AW.kp kp i
  |o h=>have:=P.own j _ e;cases this
  |m h _=>have:=P.own j _ e;cases this
  |n h=>
   obtain⟨a,vs,rfl,q,p⟩:=i;refine⟨a,vs,rfl,?_,p.kp kp⟩;have f:a≠D:=λz=>P.old j _ _ e S ev (by rw[z];exact t);exact q.imp (λq=>by rw[aV f];exact q) λ⟨o,q⟩=>⟨o,by rw[aV f];exact q⟩
  |l h=>
   obtain⟨a,vs,rfl,q,p⟩:=i;refine⟨a,vs,rfl,?_,p.kp kp⟩;have f:a≠D:=λz=>P.old j _ _ e S ev (by rw[z];exact t);exact q.imp (λq=>by rw[aV f];exact q) λ⟨o,q⟩=>⟨o,by rw[aV f];exact q⟩
 ·rw[aV (bO e t)];exact E.base c o e
def Vt(X:Cx)(el:A1->Env->Sem Unit)(fs:Ev->Y (O Dt))(Ac:A1->Hp->O Dt->HO->Prop)(N n:Nat):Prop:=∀(AN:O (A1×AE)) (s:A2) (σ:L2.St) (H a:Hp) (ρ:Ev) (D:A1) (o:HO) (b ys:O Dt),L2.AU X AN σ H s->bh X.K a H σ ρ->Xj a σ ρ n->a D=Z->fs ρ=U ys->H D=U o->Ac D H b o->b.length+ys.length<=N →
 A7 (en X) X.A (el D X.env) (λ_ s'=>∃ σ' H' o',L2.AU X AN σ' H' s'/\bh X.K a H' σ' ρ/\Fx σ σ' ρ/\H' D=U o'/\Ac D H' (b++ys) o') X.xe s
theorem Y9{fs:Ev->Y (O Dt)}{Ac:A1->Hp->O Dt->HO->Prop}{N:Nat}(h:∀(AN:O (A1×AE)) (s:A2) (σ:L2.St) (H c:Hp) (ρ:Ev) (D:A1) (o:HO) (b ys:O Dt),L2.AU X AN σ H s->bh X.K c H σ ρ->fs ρ=U ys->H D=U o->Ac D H b o->b.length+ys.length<=N →
  A7 (en X) X.A (el D X.env) (λ_ s'=>∃a o',L2.AU X AN σ (B8 a D o') s'/\AV H a/\Kp a (B8 a D o')/\Ac D (B8 a D o') (b++ys) o') X.xe s):Vt X el fs Ac N n:=λAN s σ H c ρ D o b ys I E P d e1 e2 a1 l=>by
 refine ZI (h AN s σ H c ρ D o b ys I E e1 e2 a1 l) (λ_ s' ⟨a,o',I',s9,kp,a'⟩=>?_) λ_ _ z=>z;exact⟨σ,_,o',I',(E.grow s9).grown P d kp,λ_ _ _ _=>S,aU,a'⟩
structure Nx (B:Around->Bool->Prop) (P:Program) (w:World) (K:B4) (tg:Expr) (J:It) (fp:List Addr) (it:Addr) (tn:Nat->Heap->Prop):Prop where
 obj:∀i h,tn i h->∀b∈fp,∃o,h.get? b=some o/\∀v,o.data≠.cell v
 keep:∀i h h',tn i h->(∀b∈fp,∀o,h.get? b=some o->h'.get? b=some o)->tn i h'
 item:∀(X:Cx),X.prog=P->X.w=w->X.K=K->B X.A X.calm->∀(i:Nat) (AN:List (Addr×Obj)) (s:Shared) (σ:L2.St) (H:Hp) (E:BE),L2.AU X AN σ H s->(∀b∈fp,qI X AN H b)->tn i s.heap->J.go i H →
  wpAny (model P w) X.A (pyNext (.ref it)) (λr s1=>∃u,r=some u ∧
   wpAny (model P w) X.A (letOwnedTupleGo tg (.ref it) u) (λ_ s2=>∃x H',L2.AU X AN σ H' s2/\As x u/\J.yld i H x H'/\tn (i+1) s2.heap/\∀b∈fp,H' b=none) E s1) E s
 done:∀(X:Cx),X.prog=P->X.w=w->X.K=K->B X.A X.calm->∀(i:Nat) (AN:List (Addr×Obj)) (s:Shared) (σ:L2.St) (H:Hp) (E:BE),L2.AU X AN σ H s->(∀b∈fp,qI X AN H b)->tn i s.heap->J.stop i H →
  wpAny (model P w) X.A (pyNext (.ref it)) (λr s1=>r=none/\L2.AU X AN σ H s1) E s
 self:∀(A:Around) (i:Nat) (s:Shared) (Q:BE) (E:BE),tn i s.heap->Q (.ref it) s->wpAny (model P w) A (pyIter (.ref it)) Q E s
abbrev Rv:A5->Bool->Prop:=λ_ c=>c=true
theorem Xk(T:CC P w K tg J fp it tn):Nx Rv P w K tg J fp it tn:=⟨T.obj,T.keep,T.item,T.done,T.self⟩
theorem Pb{B:A5->Bool->Prop}{G:Expr}{d:Nat}{c8:Pos}{Ac:A1->Hp->O Dt->HO->Prop}{fs:Ev->Option (O Dt)}{N:Nat}{l:Hp}{D:A1}{ds o0 out:O Dt}{ρ:Ev}{R:Result->A2->Prop}(b4:B X.A X.calm)(hx:X.xe=λ_ _=>False)(Pg:DO X tgt gt)(c0:CA X ifs p)(d6:Vt X el fs Ac N m)(b7:Xi n m gt)(b8:n<=m)(I:L2.AU X AN σ H s)(E:bh X.K l H σ ρ)(P:Xj l σ ρ n)(hD:l D=Z)(c5:H D=U o)(hA:Ac D H o0 o)(T:Nx B X.prog X.w X.K tgt J fp it tn)(st:tn 0 s.heap)(hf:∀b∈fp,qI X AN H b)(Y:B7 X.K J ds l)(c9:zF gt p fs ρ ds=U out)(hN:o0.length+out.length<=N)(a9:∀{D:A1} {H H':Hp} {C:O Dt} {o:HO},Kp H H'->Ac D H C o->Ac D H' C o)(b9:∀(it:A0) (D:A1) (env:Env),compTurn G d it (.ref D) env=(standAt c8 >>= λ_=>pyNext it >>= λr=>match r with
   |none=>pure (.done .next)
   |some v=>letOwnedTupleGo tgt it v >>= λ_=>assign tgt env v >>= λ_=>(forIn ifs true λc r=>if r=true then isTrue c env (eval c env) >>= λok=>pure (ForInStep.yield ok)else pure (ForInStep.yield r)) >>= λok=>if ok=true then el D env >>= λ_=>again (.compLoop G d it (.ref D) env)else again (.compLoop G d it (.ref D) env)))(c3:∀{it a8:A0} {env:Env} {Q:Fin->A2->Prop} {E:BE} {s:A2},A7 (en X) X.A ((compTurn G d it a8 env).onRaise (λx=>noteFrame x env >>= λ_=>theTreesLotGoes x)) Q E s->A7 (en X) (X.A.under (.compLoop G d it a8 env)) ((en X).den (.compLoop G d it a8 env)) Q E s)(hR:∀s' σ' H' o',L2.AU X AN σ' H' s'->bh X.K l H' σ' ρ->Fx σ σ' ρ->H' D=U o'->Ac D H' (o0++out) o'->R (.ok .next) s'):
  AF (en X) X.A (.compLoop G d (.ref it) (.ref D) X.env) R s:=by
 have a6:∀{H':Hp},(∀b∈fp,H' b=Z)->∀b∈fp,qI X AN H' b:=λ{H'} hn b y=>⟨hn b y,(hf b y).2⟩;refine codeAny_loop S (λk s'=>∃(i:Nat) (σ':L2.St) (H':Hp) (C o2:O Dt) (o:HO),k=ds.length-i/\i<=ds.length/\L2.AU X AN σ' H' s'/\tn i s'.heap/\(∀b∈fp,H' b=Z)/\bh X.K l H' σ' ρ/\Fx σ σ' ρ/\H' D=U o/\Ac D H' C o/\zF gt p fs ρ (ds.drop i)=U o2/\C++o2=o0++out) ?_ ds.length
  ⟨0,σ,H,o0,out,o,by simp,qs _,I,st,λb y=>(hf b y).1,E,λ_ _ _ _=>S,c5,hA,by simpa using c9,rfl⟩
 rintro k s4 ⟨i,a0,H4,C,o2,o,rfl,hi,I4,b0,b6,E4,F4,a2,r4,g,ho⟩;have P4:=P.fx F4;refine c3 (wpAny_noted ?_);rw[b9];obtain⟨y1,y2⟩:=Y i H4 E4.base;by_cases a4:i<ds.length
 ·have hd:ds[i]?=U ds[i]:=by simp[a4]
  obtain⟨go,yl⟩:=y1 _ hd;rw[bq a4]at g;simp only[zF]at g;obtain⟨t,e1,g⟩:=AT g;obtain⟨k,ek,g⟩:=AT g;obtain⟨d3,a7⟩:=b7 _ _ _ e1;have b3:∀{a1:L2.St} {H5:Hp},bh X.K l H5 a1 t->bh X.K l H5 a1 ρ:=λE5=>E5.forget d3 λj b e=>by rw[a7 j (.inl (P.lt j b e))];exact e
  refine zb (kT (zb ?_));refine jA (T.item X S S S b4 i AN s4 a0 H4 _ I4 (a6 b6) b0 go) λr s5 ⟨u,hr,h5⟩=>?_;subst hr;refine zb (jA h5 λ_ s6 ⟨x,H6,I6,r6,y6,D9,fr6⟩=>?_);obtain⟨sm,rx⟩:=yl x H6 y6;have E4:=E4.grow sm;have a2:=sm _ _ a2;have r4:=a9 (.of sm) r4;have d2:=I6.pinned (a6 fr6) (T.obj _ _ D9);have ha:=Pg _ s6 a0 H6 x u (λσ' H'=>H'=H6/\bh X.K l H6 σ' t/\Lo a0 ρ σ' t) d2 r6 ⟨l,ρ,ds[i],t,E4,rx,e1,λσ' E' L'=>⟨rfl,E',L'⟩⟩;rw[hx]at ha;refine zb (ZI ha (λ_ s7 h7=>?_) λ_ _ z=>z.elim);obtain⟨W,H7,I7,rfl,E7,L7⟩:=h7;have P7:Xj l W t m:=by
   refine⟨λj c e=>?_,λj c e=>?_,λj c a e F ea=>?_⟩
   ·cases c with
    |o ds=>exact P.own j _ (L7 j _ S e).1
    |m ds _=>exact P.own j _ (L7 j _ S e).1
    |_=>rfl
   ·refine Nat.lt_of_not_le λh=>?_;rw[a7 j (.inr h)]at e;exact absurd (zS (P.lt j c e) b8) (cK.mpr h)
   ·obtain⟨e',ee⟩:=L7 j c F e;exact P4.old j c a e' F (by rw[<-ee];exact ea)
  have Xl:∀{a1:L2.St},Fx W a1 t->Fx σ a1 ρ:=λf j c F e=>by
   have e':t[j]?=U (U c):=by rw[a7 j (.inl (P.lt j c e))];exact e
   exact(f j c F e').trans ((L7 j c F e').2.trans (F4 j c F e))
  have ht:A7 (en X) X.A (forIn ifs true λc r=>if r=true then do let ok <-isTrue c X.env (eval c X.env);pure (ForInStep.yield ok)else pure (ForInStep.yield r))
    (λok L=>ok=k/\∃q,L2.AU X (AN++xR fp s6.heap) W q L/\AV H7 q) (notedBy (en X) X.A X.env λe s'=>R (.error e) s') s7:=by
   rcases c0 with⟨rfl,rfl⟩|⟨c,rfl,hc⟩
   ·cases ek;exact wpAny_tests_nil ⟨rfl,H7,I7,AV.refl H7⟩
   ·refine wpAny_tests_one ?_;have:=hc _ s7 W H7 (λb q=>b=k/\AV H7 q) I7 ⟨l,t,k,E7,ek,λq L=>⟨rfl,L⟩⟩;rw[hx]at this;exact ZI this (λb L ⟨q,I8,eb,s8'⟩=>⟨eb,q,I8,s8'⟩) λ_ _ z=>z.elim
  refine zb (ZI ht (λok L h8=>?_) λ_ _ z=>z);obtain⟨rfl,q,I8,M⟩:=h8;have Rw:∀{a3:L2.St} {H9:Hp} {s9:A2},L2.AU X (AN++xR fp s6.heap) a3 H9 s9->L2.AU X AN a3 H9 s9/\tn (i+1) s9.heap/\∀b∈fp,H9 b=Z:=λ{a3 H9 s9} I9=>by
   refine⟨I9.qN,T.keep _ _ _ D9 λb y o e=>(I9.pin (b,o) (zz _ (zz _ (pG y e)))).1,λb y=>?_⟩;obtain⟨o,e,d⟩:=T.obj _ _ D9 b y;exact(I9.pin (b,o) (zz _ (zz _ (pG y e)))).2.1
  cases ok with
  |false=>
   rw[zI z5]at g;obtain⟨I9,d0,c1⟩:=Rw I8;exact zd ⟨rfl,ds.length-(i+1),by omega,i+1,W,q,C,o2,o,rfl,a4,I9,d0,c1,b3 (E7.grow M),Xl (λ_ _ _ _=>S),M _ _ a2,a9 (.of M) r4,g,ho⟩
  |true=>
   rw[zr rfl]at g;obtain⟨ys,eb,g⟩:=AT g;obtain⟨zs,e5,g⟩:=AT g;cases g;have F:=congrArg aw ho;simp only[qa]at F;have he:=d6 _ L W q l t D o C ys I8 (E7.grow M) P7 hD eb (M _ _ a2) (a9 (.of M) r4) ();rw[hx]at he;refine zb (ZI he (λ_ d8 c4=>?_) λ_ _ z=>z.elim);obtain⟨a3,H9,o',c6,E9,F9,c2,a5⟩:=c4;obtain⟨d5,d4,d1⟩:=Rw c6;exact zd ⟨rfl,ds.length-(i+1),by omega,i+1,a3,H9,C++ys,zs,o',rfl,a4,d5,d4,d1,b3 E9,Xl F9,c2,a5,e5,by rw[bp];exact ho⟩
 ·have b5:ds.length<=i:=by omega
  rw[cm b5]at g;cases g;refine zb (kT (zb ?_));refine jA (T.done X S S S b4 i AN s4 a0 H4 _ I4 (a6 b6) b0 (y2 b5)) λr s5 ⟨hr,I5⟩=>?_;subst hr;rw[JY]at ho;exact zd (hR s5 a0 H4 o I5 E4 F4 a2 (by rw[<-ho];exact r4))
theorem Ph{B:A5->Bool->Prop}{k:Expr}{mk:Sem A0}{o0:AE}{O0:HO}{Ac:A1->Hp->List Dt->HO->Prop}{fs:Ev->Option (List Dt)}{N:Nat}{H2:Hp}{a:A2}{ds out:List Dt}{ρ:Ev}(O:vA X scope cl xs is)(b6:B X.A X.calm)(Pg:∀C t n fp,DO (Lh X (xs++ts) scope cl C t n fp) tgt gt)(b0:∀C t n fp,CA (Lh X (xs++ts) scope cl C t n fp) ifs p)(c5:∀C t n fp,Vt (Lh X (xs++ts) scope cl C t n fp) el fs Ac N m)(a8:Xi is.length m gt)(a9:is.length<=m)(L:L2.AU X AN σ H2 a)(Ec:bh X.K H2 H2 (pO is σ++aa ts.length Z) (iz is ρ++aa ts.length Z))(T:Nx B X.prog X.w X.K tgt J fp it tn)(st:tn 0 a.heap)(hf:∀b∈fp,qI X AN H2 b)(Y:B7 X.K J ds H2)(c4:zF gt p fs (iz is ρ++aa ts.length Z) ds=U out)(c6:out.length<=N)(b7:∀(D C:A1) (s':A2) (H':Hp) (o:HO),H2 D=Z->L2.AU X AN σ H' s'->qI X AN H' C->(∃m,s'.heap.Ns C m)->AV H2 H'->H' D=U o->Ac D H' out o->RR (.ref D) C (.ok .next) s')(b5:∀{Q:BE},Q (.ref a.heap.objs.size) { a with heap:=a.heap.push o0 }->A7 (en X) X.A mk Q E a)(c2:∀H,je X.prog X.w H (a.heap.push o0) a.heap.objs.size O0)(a3:∀H,Ac a.heap.objs.size H [] O0)(b9:∀{D:A1} {H H':Hp} {o1:List Dt} {o:HO},Kp H H'->Ac D H o1 o->Ac D H' o1 o)(a6:∀(it:A0) (D:A1) (env:Env),compTurn k 0 it (.ref D) env=(standAt iter.pos >>= λ_=>pyNext it >>= λr=>match r with
   |none=>pure (.done .next)
   |some v=>letOwnedTupleGo tgt it v >>= λ_=>assign tgt env v >>= λ_=>(forIn ifs true λc r=>if r=true then isTrue c env (eval c env) >>= λok=>pure (ForInStep.yield ok)else pure (ForInStep.yield r)) >>= λok=>if ok=true then el D env >>= λ_=>again (.compLoop k 0 it (.ref D) env)else again (.compLoop k 0 it (.ref D) env)))(c1:∀{it f:A0} {env:Env} {R:Result->A2->Prop} {s:A2},AF (en X) X.A (.compLoop k 0 it f env) R s->A7 (en X) X.A (pyIter it) (λb8 s'=>AF (en X) X.A (.compLoop k 0 b8 f env) R s') (notedBy (en X) X.A env λx s'=>R (.error x) s') s->AF (en X) X.A (.compStart k 0 it f env) R s)(a7:∀{it f:A0} {env:Env} {Q:Fin->A2->Prop} {E:BE} {s:A2},A7 (en X) X.A ((compTurn k 0 it f env).onRaise (λx=>noteFrame x env >>= λ_=>theTreesLotGoes x)) Q E s->A7 (en X) (X.A.under (.compLoop k 0 it f env)) ((en X).den (.compLoop k 0 it f env)) Q E s):
  A7 (en X) X.A mk (λf a2=>A7 (en X) X.A (newFunctionEnv scope X.env.globals cl [] X.env.qual Z .none (U X.env)) (λP b4=>
   AF (en X) X.A (.compStart k 0 (.ref it) f { P with scope:=relabel scope X.env }) (RR f P.locals) b4) E a2) E a:=by
 refine b5 (Pa ?_);have G:H2 a.heap.objs.size=Z:=L.hok.fresh (zl _);have y:L2.AU X AN σ (B8 H2 a.heap.objs.size O0) { a with heap:=a.heap.push o0 }:=
  L.laid (t':=a.toks) (λb o e=>zh _ e) (zl _) (c2 _)
 have a1:∀b∈fp,b<a.heap.objs.size:=λb d=>let ⟨o,e,_⟩:=T.obj 0 _ st b d;zt e;have F:∀b∈fp,qI X AN (B8 H2 a.heap.objs.size O0) b:=λb d=>⟨by rw[aV (z4 (a1 b d))];exact(hf b d).1,(hf b d).2⟩;have a0:tn 0 (a.heap.push o0):=T.keep 0 _ _ st λb d o e=>zh _ e;have u:∀b∈fp,b<(a.heap.push o0).objs.size:=λb d=>by rw[JE];exact km (a1 b d)
 generalize c0:({ a with heap:=a.heap.push o0 }:A2)=s3 at *
 have c3:s3.heap=a.heap.push o0:=by rw[<-c0]
 rw[<-c3]at a0 u;have IC:=Ru (ts:=ts) y O F u;have W:tn 0 (pushCells (s3.heap.push { cls:=.type "dict",data:=.dict #[] }) scope.names):=T.keep 0 _ _ a0 λb d o e=>pushCells_keeps _ _ b o (zh _ e);have a4:∀b∈fp,qI (Lh X (xs++ts) scope cl s3.heap.objs.size s3 (B8 H2 a.heap.objs.size O0) fp) [] (B8 H2 a.heap.objs.size O0) b:=λb d=>by
  obtain⟨f0,f1,f2,f3,I,f5⟩:=F b d;refine⟨f0,z4 (u b d),λz=>?_,.inl d,λx c e z=>?_,λq hq=>absurd (show q∈([]:List (A1×AE)) from hq) (by simp)⟩
  ·rcases List.mem_cons.mp (y.Gp b z)with q|q
   ·exact f1 q
   ·exact f2 q
  ·rcases wA _ _ _ x c e with h|h
   ·exact I x c (O.sub.get h) z
   ·rw[z]at h;exact absurd (zS (u b d) (Nat.le_of_succ_le h)) (Q3 _)
 have P0:Xj H2 (pO is σ++aa ts.length Z) (iz is ρ++aa ts.length Z) is.length:=by
  have g:∀(j:Nat) c,(iz is ρ++aa ts.length Z)[j]?=U (U c)->j<is.length/\wj c=false:=λj c e=>by
   by_cases hj:j<is.length
   ·refine⟨hj,?_⟩;rw[Zs (by simp[iz];omega)]at e;unfold iz at e;rw[Zl]at e;cases q:is[j]? with
    |none=>rw[q]at e;cases e
    |some i=>rw[q]at e;exact zR (by simpa using e)
   ·rw[qo (by simp[iz];omega),Qb]at e;split at e<;>cases e
  exact⟨λj c e=>(g j c e).2,λj c e=>(g j c e).1,D8 Ec⟩
 have h:=Pb (B:=B) (X:=Lh X (xs++ts) scope cl s3.heap.objs.size s3 (B8 H2 a.heap.objs.size O0) fp) (R:=RR (.ref a.heap.objs.size) s3.heap.objs.size) (o0:=[]) b6 S (Pg _ _ _ _) (b0 _ _ _ _) (c5 _ _ _ _) a8 a9 IC (Ec.grow (bA G)) P0 G aU (a3 _) T W a4 Y c4 (by simpa using c6) b9 a6 a7 λs5 c8 M o5 l E5 _ b3 a5=>by
  have IB:L2.AU X AN σ M s5:=y.call' (ch:=fp) l.os l.base l.hok l.bare λb d=>by
   obtain⟨f0,f1,f2,f3,I,f5⟩:=F b d;exact⟨f3,f1,I,f5⟩
  obtain⟨m,hn,_⟩:=l.loc;exact b7 _ _ s5 M o5 G IB (y.UG (zl _) l.free) ⟨m,hn⟩ E5.base b3 a5
 exact c1 h (T.self _ 0 _ _ _ W h)
def D4(K:B4)(_:A1)(H:Hp)(a:O Dt)(o:HO):Prop:=∃us,o=.lst us/\aF K H a us
theorem D4.kp{K:B4}{D:A1}{H H':Hp}{a:O Dt}{o:HO}(k:Kp H H'):D4 K D H a o->D4 K D H' a o:=λ⟨us,e,r⟩=>⟨us,e,r.kp k⟩
def I0(fe:Ev->Y Bx):Ev->Y (O Dt):=λρ=>(fe ρ).bind Y8
theorem Vv(h:PV X elt fe):Vt X (λD env=>do let _ <-call (.builtin "list.append") [.ref D,<-eval elt env]) (I0 fe) (D4 X.K) 100000 n:=by
 refine Y9 λAN s σ H Hb ρ D o o1 ys I En f hD ⟨us,e,r4⟩ hl=>?_;subst e;obtain⟨b,eb,f⟩:=AT f;obtain⟨y,rfl,rfl⟩:=EY f;refine zb (ZI (h AN s σ H (λv a=>AV H a/\AW X.K a y v) I ⟨Hb,ρ,_,En,eb,λv a i _ g=>⟨i,g⟩⟩) (λv i p=>?_) λ_ _ z=>z);obtain⟨c,a,t,m,d,g⟩:=p;have k:=d _ _ hD;refine zb (ZI ((Ew (X:=X)) _ i σ a (.ref D) [c] (.ref D) [v] (λw j=>j=B8 a D (.lst (us++[c]))) t S (.cons m .nil) ⟨_,us,c,rfl,rfl,k,by rw[r4.length];have A:(100000:Nat)<AA:=();simp at hl;omega,rfl⟩) (λw x q=>?_) λ_ _ z=>z);obtain⟨u,j,l,_,rfl⟩:=q;have kp:Kp a (B8 a D (.lst (us++[c]))):=.lst k;exact zd ⟨a,_,l,d,kp,us++[c],rfl,((r4.kp (.of d)).append (aF.cons g aF.nil)).kp kp⟩
theorem Jf{B:A5->Bool->Prop}{H2:Hp}{k:A2}{ds out:List Dt}{ρ:Ev}(O:vA X scope cl xs is)(z:B X.A X.calm)(y:∀C j i fp,DO (Lh X (xs++ts) scope cl C j i fp) tgt gt)(H:∀C j i fp,CA (Lh X (xs++ts) scope cl C j i fp) ifs p)(I:∀C j i fp,PV (Lh X (xs++ts) scope cl C j i fp) elt fe)(F:Xi is.length (is.length+ts.length) gt)(t:L2.AU X AN σ H2 k)(u:bh X.K H2 H2 (pO is σ++aa ts.length Z) (iz is ρ++aa ts.length Z))(T:Nx B X.prog X.w X.K tgt J fp it tn)(st:tn 0 k.heap)(v:∀b∈fp,qI X AN H2 b)(Y:B7 X.K J ds H2)(L:ds.length<=100000)(n:Ez gt p fe (iz is ρ++aa ts.length Z) ds=U out)(G:∀(D C:A1) (s':A2) (H':Hp) (us:List V),H2 D=Z->L2.AU X AN σ H' s'->qI X AN H' C->(∃m,s'.heap.Ns C m)->AV H2 H'->H' D=U (.lst us)->aF X.K H' out us->RR (.ref D) C (.ok .next) s'):
  A7 (en X) X.A (newList []) (λl x=>A7 (en X) X.A (newFunctionEnv scope X.env.globals cl [] X.env.qual Z .none (U X.env)) (λq s=>
   AF (en X) X.A (.compStart (.ListComp elt [⟨tgt,iter,ifs,0⟩] scope pos) 0 (.ref it) l { q with scope:=relabel scope X.env }) (RR l q.locals) s) E x) E k:=
 Ph (B:=B) (Ac:=D4 X.K) (O0:=.lst []) (N:=100000) O z y H (λC j i fp=>Vv (I C j i fp)) F (Nat.le_add_right ..) t u T st v Y n (zD (xX n) L) (λD C s' H' o a b c d e f g=>by obtain⟨us,rfl,r⟩:=g;exact G D C s' H' us a b c d e f r)
  qh (λ_=>⟨qs _,[],0,.nil,zw _ rfl⟩) (λ_=>⟨[],rfl,aF.nil⟩) D4.kp (λ_ _ _=>S) codeAny_compStart_list λh=>h
end
def iC(K:B4)(f:Ev->Y (O Dt)):TI:=λσ H R=>∃H0 ρ ds,bh K H0 H σ ρ/\f ρ=U ds/\∀J H',AV H H'->B7 K J ds H'->R J H'
def HR(X:Cx)(tg iter:Expr)(f:Ev->Y (O Dt)):Prop:=PI X tg iter (iC X.K f)
structure EE (X:Cx) (tg iter:Expr) (f:Ev->Option (List Dt)):Prop where
 run:HR X tg iter f
def Vw:Bx->Y (O Dt)
 |.z (.lst ds)=>U ds
 |.z (.tup ds)=>U ds
 |.z (.str x)=>U (Bn x)
 |.o ds=>U ds
 |.l ds=>U ds
 |_=>Z
section
variable{f:Ev->Y Bx}{fs:Ev->Y (O Bx)}{xs:AZ}{gt:Dt->Ev->Y Ev}{p:Ev->Y Bool}{fe:Ev->Y Bx}{fi:Ev->Y (O Dt)}
theorem Rx(h:Do X tgt iter fi):EE X tgt iter fi:=⟨have h:=h.run;λAN s σ H R I q=>by
 obtain⟨H0,ρ,ds,E,e,q⟩:=q;exact h AN s σ H R I ⟨H0,ρ,ds,E,e,λJ H' s' y=>q J H' s' (y H' (AV.refl H') (λ_ _=>S) (λ_ _ _ _=>S) λ_ _ _=>S)⟩⟩
theorem fL(h:QV X e f):EE X tgt e (λρ=>(f ρ).bind Vw):=⟨have h:=h.run;λAN s σ H R I q=>by
 refine Lg h AN s σ H R I ?_;obtain⟨H0,ρ,ds,E,e,q⟩:=q;obtain⟨b,eb,e⟩:=AT e;refine⟨H0,ρ,b,E,eb,λv H1 j p g=>?_⟩;cases b with
 |z d=>
  cases d with
  |tup k=>
   cases e;simp only[aQ,AW]at g;obtain⟨a,vs,rfl,c,i⟩:=g;exact .inr (.inl ⟨a,rfl,⟨vs,c⟩,q _ _ j (.tup c i)⟩)
  |lst k=>
   cases e;obtain⟨a,vs,rfl,c,i⟩:=g.xW rfl;exact .inl ⟨a,rfl,⟨vs,c⟩,q _ _ j (.list c i)⟩
  |str x=>
   cases e;simp only[aQ,AW]at g;obtain⟨rfl,_⟩:=g;exact .inr (.inr ⟨x,rfl,q _ _ j (.str x)⟩)
  |_=>cases e
 |l k=>
  cases e;obtain⟨a,vs,rfl,c,i⟩:=g.xW rfl;exact .inl ⟨a,rfl,⟨vs,c⟩,q _ _ j (.list c i)⟩
 |o k=>
  cases e;obtain⟨a,vs,rfl,c,i⟩:=g.xW rfl;exact .inl ⟨a,rfl,⟨vs,c⟩,q _ _ j (.list c i)⟩
 |n _=>cases e
 |m _ _=>cases e⟩
def dH(fi:Ev->Y (O Dt))(gt:Dt->Ev->Y Ev)(p:Ev->Y Bool)(fe:Ev->Y Bx)(is:O Nat)(n:Nat):Ev->Y Bx:=λρ=>(fi ρ).bind λds=>
 if ds.length<=100000 then(Ez gt p fe (iz is ρ++aa n Z) ds).bind λa=>U (.o a)else Z
theorem fM(ts:AZ)(O:vA X scope cl xs is)(P:X.calm=true)(hi:EE X tgt iter fi)(f:∀C d c fp,Y4 (Lh X (xs++ts) scope cl C d c fp) tgt gt)(g:∀C d c fp,G3 (Lh X (xs++ts) scope cl C d c fp) ifs p)(j:∀C d c fp,QV (Lh X (xs++ts) scope cl C d c fp) elt fe)(t:Xi is.length (is.length+ts.length) gt)(hs:∀x,foldedSetIterable iter X.env x=pure x:=by intro _;rfl):QV X (.ListComp elt [⟨tgt,iter,ifs,0⟩] scope pos) (dH fi gt p fe is ts.length):=⟨have hi:=hi.run;have f:=λC d c fp=>(f C d c fp).run;have g:=λC d c fp=>(g C d c fp).run;have j:=λC d c fp=>(j C d c fp).run;λAN s σ H Q I h=>by
 obtain⟨H0,ρ,b,E,e,q⟩:=h;obtain⟨ds,z,e⟩:=AT e;split at e
 ·rename_i a0;obtain⟨a1,G,e⟩:=AT e;cases e;rw[eval_ListComp];refine wpAny_comprehension_free (use:=Z) S hs O.clos O.kind O.names ?_;refine jA (hi AN s σ H (λJ H'=>AV H H'/\B7 X.K J ds H') I ⟨H0,ρ,ds,E,z,λJ H' s' y=>⟨s',y⟩⟩) λv s1 h1=>jA h1 λa2 s2 h2=>?_;obtain⟨it,fp,tn,J,H2,rfl,k,T,st,L,i,Y⟩:=h2;refine Jf (B:=Rv) (RR:=λN C=>compPost (en X) X.A X.xe Z (EP X AN σ Q) N C) (ts:=ts) (xs:=xs) O P f g j t k ((E.grow i).caps is ts.length) (Xk T) st L Y a0 G ?_;intro D C s' H' us n W l ⟨m,hn⟩ s2' hD' r';refine⟨m,hn,λh' M=>⟨.ref D,H',?_,rfl,q _ _ (i.trans s2') (λa ea=>by cases ea;exact i.free n) ⟨D,us,rfl,hD',r'⟩⟩⟩;obtain⟨f0,f1,f2,f3,F,f5⟩:=l;exact W.turned (t':=s'.toks) (λb o u e=>(M.2 b u).trans e) f0 f1 f3 F f5
 ·cases e⟩
theorem Ny(i:Nat){py spos:Pos}(ts:AZ)(O:vA X scope cl xs is)(a6:X.calm=true)(hN:X.N.Nodup)(hi:EE X tgt iter fi)(j:∀C d c fp,Y4 (Lh X (xs++ts) scope cl C d c fp) tgt gt)(k:∀C d c fp,G3 (Lh X (xs++ts) scope cl C d c fp) ifs p)(l:∀C d c fp,QV (Lh X (xs++ts) scope cl C d c fp) elt fe)(W:Xi is.length (is.length+ts.length) gt)(a0:swapsWith (.ListComp elt [⟨tgt,iter,ifs,0⟩] scope pos) (U (.Name y py)) spos.line X.env=pure true:=by with_unfolding_all rfl)(hy:X.N[i]?=U y:=by rfl)(hx:CI X.env.scope y:=by first|exact Qr rfl|exact ZO S)(hf:X.fn y=true\/X.env.scope.names.lookup y=U .local:=by first|exact .inl rfl|exact .inr S)(hs:∀x,foldedSetIterable iter X.env x=pure x:=by intro _;rfl):Qx X (.Assign [.Name y py] (.ListComp elt [⟨tgt,iter,ifs,0⟩] scope pos) spos) (λρ=>(dH fi gt p fe is ts.length ρ).bind λb=>(Jd ρ i b).bind λρ'=>U (.nx ρ')):=⟨have hi:=hi.run;have j:=λC d c fp=>(j C d c fp).run;have k:=λC d c fp=>(k C d c fp).run;have l:=λC d c fp=>(l C d c fp).run;λAN s σ H D I h=>by
 obtain⟨H0,ρ,r,E,e,q⟩:=h;obtain⟨b,eb,e⟩:=AT e;obtain⟨ds,ed,eb⟩:=AT eb;split at eb
 ·rename_i b0;obtain⟨a1,eo,eb⟩:=AT eb;cases eb;cases e;rw[exec_Assign_Name_used _ _ _ _ a0];refine zb (kT (zb ?_));show A7 _ X.A (do let _ <-comprehension (.ListComp elt [⟨tgt,iter,ifs,0⟩] scope pos) scope X.env _ (newList []) false (eval iter X.env) (U (assign (.Name y py) X.env))) _ _ s;refine zb (ZI (wpAny_comprehension_free (use:=U (assign (.Name y py) X.env)) (Q:=λ_ s'=>SP X AN D .next s') S hs O.clos O.kind O.names ?_) (λ_ s' hq=>zd (zd hq)) λ_ _ e=>e);refine jA (hi AN s σ H (λJ H'=>AV H H'/\B7 X.K J ds H') I ⟨H0,ρ,ds,E,ed,λJ H' s' y=>⟨s',y⟩⟩) λv s1 h1=>jA h1 λb3 s2 h2=>?_;obtain⟨it,fp,tn,J,H2,rfl,L,T,st,a5,t,Y⟩:=h2;refine Jf (B:=Rv) (RR:=λa2 C=>compPost (en X) X.A X.xe (U (assign (.Name y py) X.env)) (λ_ s'=>SP X AN D .next s') a2 C) (ts:=ts) (xs:=xs) O a6 j k l W L ((E.grow t).caps is ts.length) (Xk T) st a5 Y b0 eo ?_;intro f C s' H' us P u M ⟨m,hn⟩ s2' hD' r';show A7 _ X.A (assign (.Name y py) X.env (.ref f)) _ _ s';obtain⟨f0,f1,f2,f3,f4,f5⟩:=M;obtain⟨g,a9,ep,a7,G,a3⟩:=id hn;have a8:L2.AU X (AN++[(C,g)]) σ H' s':=u.vY λF hp=>by
   rcases ai.mp hp with z|z
   ·exact u.pin F (zz _ z)
   ·have:F=(C,g):=by simpa using z
    subst this;exact⟨a7,f0,f1,f2,λv z=>by rw[G]at z;cases z⟩
  refine jA (L2.Nq hN hy hx hf (AN++[(C,g)]) s' σ H' (.ref f) (.ref f) (λσ' n=>σ'=σ.set i (U (.ref f))/\n=H') a8 S ⟨rfl,rfl⟩) λ_ s'' ⟨σ',n,J',e1,e2⟩=>?_;subst e1 e2;have a4:=(J'.pin (C,g) (by simp)).1;refine⟨m,⟨g,a9,ep,a4,G,a3⟩,λh' sb=>?_⟩;refine⟨σ.set i (U (.ref f)),n,J'.qN.turned (t':=s''.toks) (λb o hb e=>(sb.2 b hb).trans e) f0 f1 f3 f4 f5,q _ _ ?_⟩;exact E.set (t.trans s2') (b:=.o a1) ⟨f,us,rfl,hD',r'⟩ (.inl S) λa ea=>by cases ea;exact t.free P
 ·cases eb⟩
def lend:Bx->Bx
 |.o ds=>.l ds
 |.m ds _=>.n ds
 |b=>b
def LX:Bx->Bool
 |.o _=>true
 |.m _ _=>true
 |_=>false
def Qy(K:B4)(n:Nat)(F:O Bx->Y Bx):Sp:=λvs H Q _=>vs.length=n/\∃bs r,uh K H bs vs/\bs.all (λb=>!LX b)=true/\F bs=U r/\∀v H',AV H H'->Nw H r v->aQ K H' r v->Q v H'
def cQ(n:Nat)(g:Ev->Y An):O Bx->Y Bx:=λbs=>(g (bs.map U++aa (n-bs.length) Z)).bind λr=>match r with
 |.rt b=>U b
 |.nx _=>U (.z .non)
 |_=>Z
theorem bh.start{K:B4}{H:Hp}{N:AZ}{bs:O Bx}{vs:O V}(r:uh K H bs vs)(g:bs.all (λb=>!LX b)=true):bh K H H (L2.start N vs) (bs.map U++aa (N.length-bs.length) Z):=by
 have h:bs.length=vs.length:=Paired.length r;have get:∀(i:Nat) b,(bs.map U++aa (N.length-bs.length) Z)[i]?=U (U b)->bs[i]?=U b:=λi b e=>by
  by_cases hi:i<bs.length
  ·rw[Zs (by simpa using hi),Zl]at e;cases q:bs[i]? with
   |none=>rw[q]at e;cases e
   |some l=>rw[q]at e;simpa using e
  ·rw[qo (by simp;omega),Qb]at e;split at e<;>cases e
 have f:∀(i:Nat) c,(bs.map U++aa (N.length-bs.length) Z)[i]?=U (U c)->wj c=true->False:=λi c e d=>by
  have:=List.all_eq_true.mp g _ (aT (get i _ e));cases c with
  |o ds=>cases this
  |m ds _=>cases this
  |_=>cases d
 refine⟨?_,λi b e=>?_,λi j c a b e d=>(f i c e d).elim,AV.refl H,λi c a e d=>(f i c e d).elim⟩
 ·unfold L2.start;simp[h]
 ·have e':=get i b e;have hi:i<bs.length:=(ad.mp e').1;have:∀{bs:O Bx} {vs:O V} {i:Nat} {b:Bx},AI (aQ K H) bs vs->bs[i]?=U b->∃v,vs[i]?=U v/\aQ K H b v:=by
   intro bs vs i b r
   induction r generalizing i with
   |nil=>intro e;simp at e
   |cons p t k=>
    intro e;cases i with
    |zero=>simp at e;subst e;exact⟨_,rfl,p⟩
    |succ i=>obtain⟨v,e1,e2⟩:=k (i:=i) (by simpa using e);exact⟨v,by simpa using e1,e2⟩
  obtain⟨v,e1,e2⟩:=this r e';refine⟨v,?_,e2⟩;unfold L2.start;rw[Zs (by simp;omega),Zl,e1];rfl
end
theorem IS{f:A1}{g:Ev->Y An}(F:Ur K x qual st f fd)(S:bw N ps (aH st))(n:∀(a:A0) (A:A5) (outer:O Env) (s:A2) (H:Hp) (E:XK),iD k (A.deeper (AK qual (aH st) s.heap.objs.size f a))->Oz (Ai Gz P w K mg base N qual (aH st) f a A outer s H E).Uq (fJ st) g):
  qO P w K mg base Gz (k+1) f fd ps (Qy K ps.length (cQ N.length g)):=by
 refine F.ok S (λvs H Q E h=>h.1) λa A outer s H vs Q E l h=>?_;obtain⟨o,bs,r,j,i,e,q⟩:=h;refine⟨_,n a A outer s H E l,?_⟩;obtain⟨c,er,e⟩:=AT e;refine⟨H,_,c,bh.start j i,er,?_⟩;cases c with
 |rt b=>cases e;exact λv H' s' d c=>q v H' s' d c
 |nx ρ=>cases e;exact λσ H' m=>q _ H' m.base trivial (by unfold aQ AW;rfl)
 |bk ρ=>cases e
 |ct ρ=>cases e
section
variable{f:A1}{F:O Bx->Y Bx}{p:Pos}{fs:Ev->Y (O Bx)}
theorem Aw{K:B4}{H:Hp}:∀{bs:O Bx} {vs:O V},uh K H bs vs->uh K H (bs.map lend) vs
 |_,_,.nil=>.nil
 |b::bs,_,.cons h t=>by
  refine .cons ?_ (Aw t);cases b with
  |z d=>exact h
  |l ds=>exact h
  |o ds=>obtain⟨a,vs,e,q,r⟩:=h;exact⟨a,vs,e,.inl q,r⟩
  |n ds=>exact h
  |m ds _=>obtain⟨a,vs,e,q,r⟩:=h;exact⟨a,vs,e,.inl q,r.1⟩
theorem G4:∀bs:O Bx,(bs.map lend).all (λb=>!LX b)=true
 |[]=>rfl
 |b::bs=>by
  rw[zo,jv,G4 bs];cases b<;>rfl
def bN(n:Nat)(F:O Bx->Y Bx)(fs:Ev->Y (O Bx)):Ev->Y Bx:=λρ=>(fs ρ).bind λbs=>if bs.length=n then F (bs.map lend)else Z
theorem Vx(G:qO X.prog X.w X.K X.mg X.base Gz k f fd ps (Qy X.K n F))(s:iD k X.A)(m:Gl X x)(i:X.mg x=U (.ref f))(hk:keepIn X.K (.ref f)=true)(y:BH X.K fd ps [])(a:Us X (e::es) fs)(u:ej x:=by decide)(g:A9 (e::es) X.env=(false,eval e X.env)::A9 es X.env:=by rfl)(t:(AD pos (A9 es X.env)).any (·.1)=false:=by rfl):QV X (.Call (.Name x p) (e::es) [] pos) (bN n F fs):=⟨have a:=a.run;Ih (U4 G s m i hk y .nil (Xf) a u g t) λσ H Q h=>by
 obtain⟨H0,ρ,r,E,e,q⟩:=h;obtain⟨bs,eb,e⟩:=AT e;refine⟨H0,ρ,bs,E,eb,λvs H1 c b=>?_⟩;split at e
 ·rename_i j;rw[JY];exact⟨by rw[<-Paired.length b];exact j,_,r,Aw b,G4 bs,e,λv H2 l d o=>q v H2 (c.trans l) (d.old c) o⟩
 ·cases e⟩
end
end P1
variable{b:P1.Bx}{d:P1.Dt}{q:P1.Ev->Y Bool}{F:O P1.Bx->Y P1.Bx}{f:P1.Ev->Y P1.Bx}{g:P1.Ev->Y P1.An}{p:P1.Ev->Y Bool}{ds:O P1.Dt}{fa:P1.Ev->Y P1.Bx}{ρ:P1.Ev}{fb fc:P1.Ev->Y P1.Bx}{g1 g2:P1.Ev->Y P1.An}{gt:P1.Dt->P1.Ev->Y P1.Ev}{gb:P1.Ev->Y P1.An}{fi:P1.Ev->Y (O P1.Dt)}{fe:P1.Ev->Y P1.Bx}{Ac:A1->L2.Hp->O P1.Dt->L2.HO->Prop}{fk:P1.Dt->Y P1.Bx}{fo fv f1:P1.Ev->Y P1.Bx}{gx:P1.Ev->Y P1.Dt}{bt:P1.Dt->P1.Dt->Bool}{qL:P1.Dt->Bool}{bH:P1.Bx}
namespace P1
open L2 SeqAt
open AutoSeq1 (wpAny_loadPart')
def Ds(h:A6)(a:A1):Prop:=∃o ep,h.get? a=U o/\o.ExactDict/\o.data=.dict #[] ep
section
variable{b:A1}
theorem wB{vs:O (AY×A0)}(q:AO=[])(r:KV AO vs)(d:h.DictOf (iB P w) a vs):Ds h a:=by
 subst q;cases r;obtain⟨o,es,ep,h1,h2,b,_,c,_⟩:=d;have:es=#[]:=by
  have:=c.length;apply Array.eq_empty_of_size_eq_zero;simpa using this
 subst this;exact⟨o,ep,h1,h2,b⟩
theorem Ds.dict(P:A3)(w:A4)(x:Ds h a):h.DictOf (strKind P w) a []:=by
 obtain⟨o,ep,h1,h2,b⟩:=x;exact⟨o,#[],ep,h1,h2,b,λe c=>by simp at c,.nil,cx⟩
theorem Xm(d:(a==sysModules)=false)(f:(b==sysModules)=false)(e:Ds s.heap a)(g:Ds s.heap b)(c:A.units<cLine):RcAt A s (.ref a) (.ref b) true:=λprog w E Q h=>
 PySem.W.keq_eq (knd:=strKind prog w) d f (e.dict prog w) (g.dict prog w) c (λ_=>.nil) h
theorem Hc(d:(a==sysModules)=false)(f:(b==sysModules)=false)(e:Ds s.heap a)(g:Ds s.heap b)(c:A.units<cLine):RcNeAt A s (.ref a) (.ref b) false:=λprog w E Q h=>
 PySem.W.keq_ne (r:=true) (knd:=strKind prog w) d f (e.dict prog w) (g.dict prog w) c (λ_=>.nil) h
theorem Jg(o:AE)(b:AJ)(u:Tok):Meets (Builtin.«dict.__eq__» ⟨[.ref a,.str b u],[]⟩) (λ_ R s=>(s.heap.get? a=U o/\o.cls=.type "dict")/\R (.ok (.ret .notImplemented)) s):=
 .of_wp λprog w A R s h=>by
  have c:s.TypeIs (.ref a) "dict":=⟨o,h.1.1,h.1.2⟩;show A7 _ _ (Builtin.Dict.dictSlotArgs "__eq__" ⟨[.ref a,.str b u],[]⟩ >>= _) _ _ s;refine zb ?_;unfold Builtin.Dict.dictSlotArgs;refine zb (wpAny_notOrdered_dict c ?_);show A7 _ _ (pure (Value.ref a,Value.str b u)) _ _ s;refine zd ?_;refine zb (wpAny_isInstance (T :="str") (typeIs_str s b u) PySem.F.sub_str_dict ?_);simp only[ki,ZT];refine zb (JA ?_);exact zd ⟨_,rfl,h.2⟩
theorem Jh(b:AJ)(u:Tok)(es:Array DictEntry)(ep:Nat)(e:Y A1)(sl:Array (Y A0)):Meets (Builtin.«str.__eq__» ⟨[.str b u,.ref a],[]⟩) (λ_ R s=>s.heap.get? a=U { cls:=.type "dict",dict:=e,data:=.dict es ep,slots:=sl }/\R (.ok (.ret .notImplemented)) s):=
 .of_wp λprog w A R s h=>by obtain⟨hp,g,d,tk,os⟩:=s;obtain⟨c,h⟩:=h;wp_walk using wpAny_loadPart' c,wpAny_load c;exact⟨_,rfl,h⟩
theorem Fe(x:AJ)(t:Tok)(d:Ds s.heap a)(i:A.units<cLine):RcAt A s (.str x t) (.ref a) false:=λprog w E Q h=>by
 obtain⟨⟨l,g,m,sl⟩,ep,c,⟨f,hd,j⟩,e⟩:=d;simp only at f e;subst f e;exact rc_eq_decline_or (k:=false) (typeIs_str s x t) ⟨_,c,rfl⟩ () PySem.F.sub_dict_str PySem.F.slot_str_eq PySem.F.slot_dict_eq_refl
  (λ_ b=>call_meets PySem.F.slot_str_eq (typeIs_str s x t) PySem.F.entry_str_eq (PySem.F.args_str_eq_2 _ _) (Jh x t #[] ep g sl) ⟨c,b⟩)
  (λ_ b=>call_meets PySem.F.slot_dict_eq_refl ⟨_,c,rfl⟩ PySem.F.entry_dict_eq (PySem.F.args_dict_eq_2 _ _) (Jg _ x t) ⟨⟨c,rfl⟩,b⟩)
  (λ_ b=>wpAny_of_eq (rfl:isSame (.str x t) (.ref a)=pure false) b) (.inr i) h
theorem Ji(o:AE)(b:AJ)(u:Tok):Meets (Builtin.«dict.__ne__» ⟨[.ref a,.str b u],[]⟩) (λ_ R s=>(s.heap.get? a=U o/\o.cls=.type "dict")/\R (.ok (.ret .notImplemented)) s):=
 .of_wp λprog w A R s h=>by
  have c:s.TypeIs (.ref a) "dict":=⟨o,h.1.1,h.1.2⟩;show A7 _ _ (Builtin.Dict.dictSlotArgs "__ne__" ⟨[.ref a,.str b u],[]⟩ >>= _) _ _ s;refine zb ?_;unfold Builtin.Dict.dictSlotArgs;refine zb (wpAny_notOrdered_dict c ?_);show A7 _ _ (pure (Value.ref a,Value.str b u)) _ _ s;refine zd ?_;refine zb (wpAny_isInstance (T :="str") (typeIs_str s b u) PySem.F.sub_str_dict ?_);simp only[ki,ZT];refine zb (JA ?_);exact zd ⟨_,rfl,h.2⟩
theorem Jj(b:AJ)(u:Tok)(es:Array DictEntry)(ep:Nat)(e:Y A1)(sl:Array (Y A0)):Meets (Builtin.«str.__ne__» ⟨[.str b u,.ref a],[]⟩) (λ_ R s=>s.heap.get? a=U { cls:=.type "dict",dict:=e,data:=.dict es ep,slots:=sl }/\R (.ok (.ret .notImplemented)) s):=
 .of_wp λprog w A R s h=>by obtain⟨hp,g,d,tk,os⟩:=s;obtain⟨c,h⟩:=h;wp_walk using wpAny_loadPart' c,wpAny_load c;exact⟨_,rfl,h⟩
theorem Pj(x:AJ)(t:Tok)(d:Ds s.heap a)(i:A.units<cLine):RcNeAt A s (.str x t) (.ref a) true:=λprog w E Q h=>by
 obtain⟨⟨l,g,m,sl⟩,ep,c,⟨f,hd,j⟩,e⟩:=d;simp only at f e;subst f e;exact rc_ne_decline_or (k:=false) (typeIs_str s x t) ⟨_,c,rfl⟩ () PySem.F.sub_dict_str PySem.F.slot_str_ne PySem.F.slot_dict_ne_refl
  (λ_ b=>call_meets PySem.F.slot_str_ne (typeIs_str s x t) PySem.F.entry_str_ne (PySem.F.args_str_ne_2 _ _) (Jj x t #[] ep g sl) ⟨c,b⟩)
  (λ_ b=>call_meets PySem.F.slot_dict_ne_refl ⟨_,c,rfl⟩ PySem.F.entry_dict_ne (PySem.F.args_dict_ne_2 _ _) (Ji _ x t) ⟨⟨c,rfl⟩,b⟩)
  (λ_ b=>wpAny_of_eq (rfl:isSame (.str x t) (.ref a)=pure false) b) (.inr i) h
theorem Pk(x:AJ)(t:Tok)(d:Ds s.heap a)(c:A.units<cLine):EqAt A s (.str x t) (.ref a) false:=λprog w E Q h=>by
 unfold eqBool;refine ZE ?_;refine wpAny_ite_split (λb=>absurd (eq_of_beq b) nofun) (λ_=>?_);exact zb (Fe x t d c prog w E _ (qf h))
end
mutual
def xY:Dt->Nat
 |.tup xs=>wC xs+1
 |.lst xs=>wC xs+1
 |_=>1
def wC:O Dt->Nat
 |[]=>0
 |d::ds=>max (xY d) (wC ds)
end
mutual
def Ii:Dt->Dt->Y Bool
 |.non,.non=>U true
 |.non,.bl _=>U false|.non,.int _=>U false|.non,.str _=>U false|.non,.tup _=>U false|.non,.lst _=>U false
 |.bl a,.bl b=>U (a==b)
 |.bl a,.int b=>U ((if a then 1 else 0)==b)
 |.bl _,.non=>U false|.bl _,.str _=>U false|.bl _,.tup _=>U false|.bl _,.lst _=>U false
 |.int a,.int b=>U (a==b)
 |.int a,.bl b=>U (a==(if b then 1 else 0))
 |.int _,.non=>U false|.int _,.str _=>U false|.int _,.tup _=>U false|.int _,.lst _=>U false
 |.str a,.str b=>U (a==b)
 |.str _,.non=>U false|.str _,.bl _=>U false|.str _,.int _=>U false|.str _,.tup _=>U false|.str _,.lst _=>U false|.str _,.emp=>U false
 |.tup xs,.tup ys=>jh xs ys
 |.tup _,.non=>U false|.tup _,.bl _=>U false|.tup _,.int _=>U false|.tup _,.str _=>U false|.tup _,.lst _=>U false
 |.lst xs,.lst ys=>jh xs ys
 |.emp,.emp=>U true
 |.lst _,.non=>U false|.lst _,.bl _=>U false|.lst _,.int _=>U false|.lst _,.str _=>U false|.lst _,.tup _=>U false
 |_,_=>Z
def jh:O Dt->O Dt->Y Bool
 |[],[]=>U true
 |[],_::_=>U false
 |_::_,[]=>U false
 |x::xs,y::ys=>match Ii x y with
  |some b=>match jh xs ys with
   |some c=>U (b&&c)
   |none=>Z
  |none=>Z
end
mutual
theorem Jk:∀{d:Dt} {k:Bool},Ii d d=U k->k=true
 |.non,_,e=>by cases e;rfl
 |.bl b,_,e=>by cases e;simp
 |.int b,_,e=>by cases e;simp
 |.str b,_,e=>by cases e;simp
 |.tup xs,_,e=>xZ (ds:=xs) e
 |.lst xs,_,e=>xZ (ds:=xs) e
 |.emp,_,e=>by cases e;rfl
theorem xZ:∀{ds:O Dt} {k:Bool},jh ds ds=U k->k=true
 |[],_,e=>by simp only[jh]at e;cases e;rfl
 |d::ds,_,e=>by
  simp only[jh]at e;cases h:Ii d d with
  |none=>rw[h]at e;cases e
  |some b=>
   rw[h]at e;simp only at e;cases h2:jh ds ds with
   |none=>rw[h2]at e;cases e
   |some c=>
    rw[h2]at e;cases e;rw[Jk h,xZ h2];rfl
end
theorem zU(xs ys:O Dt):Ii (.tup xs) (.tup ys)=jh xs ys:=rfl
theorem qQ:∀{xs ys:O Dt} {k:Bool},jh xs ys=U k->∃e:Nat->Bool,(∀(j:Nat) x y,xs[j]?=U x->ys[j]?=U y->Ii x y=U (e j))/\k=((am (min xs.length ys.length)).all e&&xs.length==ys.length)
 |[],[],k,h=>by simp only[jh]at h;cases h;exact⟨λ_=>true,λj x y e=>by simp at e,by simp⟩
 |[],y::ys,k,h=>by simp only[jh]at h;cases h;exact⟨λ_=>true,λj x y e=>by simp at e,by simp⟩
 |x::xs,[],k,h=>by simp only[jh]at h;cases h;exact⟨λ_=>true,λj x y _ e=>by simp at e,by simp⟩
 |x::xs,y::ys,k,h=>by
  simp only[jh]at h;cases h1:Ii x y with
  |none=>rw[h1]at h;cases h
  |some b=>
   rw[h1]at h;simp only at h;cases h2:jh xs ys with
   |none=>rw[h2]at h;cases h
   |some c=>
    rw[h2]at h;cases h;obtain⟨e,g,d⟩:=qQ h2;refine⟨λj=>match j with|0=>b|j+1=>e j,λj u v a ev=>?_,?_⟩
    ·cases j with
     |zero=>simp at a ev;subst a ev;exact h1
     |succ j=>exact g j u v (by simpa using a) (by simpa using ev)
    ·have:min (x::xs).length (y::ys).length=min xs.length ys.length+1:=by simp only[qc];omega
     rw[this,List.range_succ_eq_map,jv,List.all_map,d];have f:((x::xs).length==(y::ys).length)=(xs.length==ys.length):=by
      rw[cb];simp
     rw[f,Bool.and_assoc];rfl
theorem qR:∀{ds:O Dt} {j:Nat} {d:Dt},ds[j]?=U d->xY d<=wC ds
 |[],_,_,e=>by simp at e
 |d::ds,0,_,e=>by simp at e;subst e;simp only[wC];exact Nat.le_max_left _ _
 |d::ds,j+1,_,e=>by
  simp only[wC];exact zD (qR (ds:=ds) (j:=j) (by simpa using e)) (Nat.le_max_right _ _)
theorem zV(I:L2.AU X AN σ H s)(h:vV X.K H a vs):∃b,s.heap.get? a=U b/\b.cls=.type "tuple":=by
 obtain⟨AQ,_,⟨b,e,c,_⟩,_⟩:=I.tuple h;exact⟨b,e,c⟩
theorem zW(I:L2.AU X AN σ H s)(h:nA X.K H a vs):∃b,s.heap.get? a=U b/\b.cls=.type "list":=by
 obtain⟨AQ,_,⟨b,n,e,c,_⟩,_⟩:=I.list h;exact⟨b,e,c⟩
theorem sX(I:L2.AU X AN σ H s){o:AE}(h:H a=U (.qH o (.dK []))):∃b,s.heap.get? a=U b/\b.cls=.type "dict":=by
 obtain⟨e,_,_,vs,_,b,es,ep,e2,ex,_⟩:=I.hok a _ h;exact⟨b,e2,ex.1⟩
theorem yc{n m:String}(h:∃b,s.heap.get? a=U b/\b.cls=.type n)(q:∃b,s.heap.get? a=U b/\b.cls=.type m)(d:n≠m):False:=by
 obtain⟨o,e,c⟩:=h;obtain⟨o',e',c'⟩:=q;rw[e]at e';cases e';rw[c]at c';exact d (by injection c')
mutual
theorem AW.inj(I:L2.AU X AN σ H s):∀{d e:Dt} {v:V},AW X.K H d v->AW X.K H e v->d=e
 |.non,e,v,h,q=>by
  simp only[AW]at h;subst h;cases e<;>simp only[AW]at q<;>first|rfl|(cases q;done)|(obtain⟨a,b,z,_⟩:=q;cases z;done)|(obtain⟨z,_⟩:=q;cases z;done)
 |.bl _,e,v,h,q=>by
  simp only[AW]at h;subst h;cases e<;>simp only[AW]at q<;>first|(cases q;rfl)|(cases q;done)|(obtain⟨a,b,z,_⟩:=q;cases z;done)|(obtain⟨z,_⟩:=q;cases z;done)
 |.int _,e,v,h,q=>by
  simp only[AW]at h;subst h;cases e<;>simp only[AW]at q<;>first|(cases q;rfl)|(cases q;done)|(obtain⟨a,b,z,_⟩:=q;cases z;done)|(obtain⟨z,_⟩:=q;cases z;done)
 |.str x,e,v,h,q=>by
  simp only[AW]at h;have g:v=.str x:=h.1;subst g;cases e with
  |str y=>
   simp only[AW]at q;have z:V.str x=V.str y:=q.1;injection z with z;rw[z]
  |tup es=>simp only[AW]at q;obtain⟨a,b,z,_⟩:=q;cases z
  |lst es=>simp only[AW]at q;obtain⟨a,b,z,_⟩:=q;cases z
  |emp=>simp only[AW]at q;obtain⟨a,b,z,_⟩:=q;cases z
  |_=>simp only[AW]at q;cases q
 |.tup ds,e,v,h,q=>by
  simp only[AW]at h;obtain⟨a,vs,rfl,sq,r⟩:=h;cases e with
  |tup es=>
   simp only[AW]at q;obtain⟨b,us,z,c,f⟩:=q;cases z;have:=I.Eo sq c;subst this;rw[aF.inj I r f]
  |lst es=>
   simp only[AW]at q;obtain⟨b,us,z,c,f⟩:=q;cases z;exact(yc (zV I sq) (zW I c.sq) ()).elim
  |emp=>
   simp only[AW]at q;obtain⟨b,o,z,c⟩:=q;cases z;exact(yc (zV I sq) (sX I c) ()).elim
  |str x=>simp only[AW]at q;have z:=q.1;cases z
  |_=>simp only[AW]at q;cases q
 |.lst ds,e,v,h,q=>by
  simp only[AW]at h;obtain⟨a,vs,rfl,sq,r⟩:=h;cases e with
  |lst es=>
   simp only[AW]at q;obtain⟨b,us,z,c,f⟩:=q;cases z;have:=I.Ip sq.sq c.sq;subst this;rw[aF.inj I r f]
  |tup es=>
   simp only[AW]at q;obtain⟨b,us,z,c,f⟩:=q;cases z;exact(yc (zW I sq.sq) (zV I c) ()).elim
  |emp=>
   simp only[AW]at q;obtain⟨b,o,z,c⟩:=q;cases z;exact(yc (zW I sq.sq) (sX I c) ()).elim
  |str x=>simp only[AW]at q;have z:=q.1;cases z
  |_=>simp only[AW]at q;cases q
 |.emp,e,v,h,q=>by
  simp only[AW]at h;obtain⟨a,o,rfl,sq⟩:=h;cases e with
  |emp=>rfl
  |tup es=>
   simp only[AW]at q;obtain⟨b,us,z,c,f⟩:=q;cases z;exact(yc (sX I sq) (zV I c) ()).elim
  |lst es=>
   simp only[AW]at q;obtain⟨b,us,z,c,f⟩:=q;cases z;exact(yc (sX I sq) (zW I c.sq) ()).elim
  |str x=>simp only[AW]at q;have z:=q.1;cases z
  |_=>simp only[AW]at q;cases q
theorem aF.inj(I:L2.AU X AN σ H s):∀{ds es:O Dt} {vs:O V},aF X.K H ds vs->aF X.K H es vs->ds=es
 |[],es,vs,h,q=>by
  simp only[aF]at h;subst h;cases es with
  |nil=>rfl
  |cons e es=>simp only[aF]at q;obtain⟨_,_,z,_⟩:=q;cases z
 |d::ds,es,vs,h,q=>by
  simp only[aF]at h;obtain⟨v,r,rfl,h1,h2⟩:=h;cases es with
  |nil=>simp only[aF]at q;cases q
  |cons e es=>
   simp only[aF]at q;obtain⟨a,b,z,q1,q2⟩:=q;cases z;rw[AW.inj I h1 q1,aF.inj I h2 q2]
end
theorem LA(I:L2.AU X AN σ H s):∀(n:Nat) {A:A5} {d e:Dt} {x y:V} {u v:A0} {k:Bool},min (xY d) (xY e)<=n->A.units+n<cLine->AW X.K H d x->AW X.K H e y->As x u->As y v->Ii d e=U k->EqAt A s u v k:=by
 intro n
 induction n with
 |zero=>
  intro A d e x y u v k N;have h1:1<=xY d:=by cases d<;>simp only[xY]<;>omega
  have h2:1<=xY e:=by cases e<;>simp only[xY]<;>omega
  omega
 |succ n ih=>
  intro A d e x y u v k N hA m c w g ek;have h:A.units<cLine:=by omega
  by_cases L:u=v/\∃a,u=.ref a
  ·obtain⟨rfl,a,rfl⟩:=L;have hx:x=.ref a:=by have:=w.abs;simpa[Yo]using this.symm
   have hy:y=.ref a:=by have:=g.abs;simpa[Yo]using this.symm
   subst hx hy;have:=AW.inj I m c;subst this;rw[Jk ek];exact EqAt.same _
  ·have items:∀{ds es:O Dt} {vs us:O V} {AQ l:O A0} {f:Nat->Bool},min (wC ds) (wC es)<=n->aF X.K H ds vs->aF X.K H es us->AX vs AQ->AX us l->(∀(j:Nat) x y,ds[j]?=U x->es[j]?=U y->Ii x y=U (f j)) →
     ∀j (h1:j<AQ.toArray.size) (h2:j<l.toArray.size),EqAt A.in1 s AQ.toArray[j] l.toArray[j] (f j):=by
    intro ds es vs us AQ l f hm r1 r2 w1 w2 F j h1 h2;have l1:=w1.length;have l2:=w2.length;have l3:=r1.length;have l4:=r2.length;have j1:j<AQ.length:=by simpa using h1
    have j2:j<l.length:=by simpa using h2
    have Q:ds[j]?=U ds[j]:=by simp
    have d2:es[j]?=U es[j]:=by simp
    obtain⟨a,ea,C⟩:=r1.get Q;obtain⟨b,eb,B⟩:=r2.get d2;obtain⟨p,ep,rp⟩:=w1.get ea;obtain⟨q,eq,rq⟩:=w2.get eb;have e1:AQ.toArray[j]=p:=by simpa[j1]using ep
    have e2:l.toArray[j]=q:=by simpa[j2]using eq
    rw[e1,e2];have m1:=qR Q;have m2:=qR d2;exact ih () (by rw[units_in1];omega) C B rp rq (F j _ _ Q d2)
   cases d with
   |non=>
    cases m;cases w;cases e with
    |non=>cases c;cases g;cases ek;exact EqAt.same _
    |bl b=>cases c;cases g;cases ek;exact EqAt.none_bool b
    |int b=>cases c;obtain⟨t,rfl⟩:=g;cases ek;exact EqAt.none_int b t
    |str b=>obtain⟨rfl,_⟩:=c;obtain⟨t,rfl⟩:=g;cases ek;exact EqAt.none_str b t
    |tup es=>obtain⟨b,us,rfl,sq,_⟩:=c;cases g;cases ek;obtain⟨_,_,p,_⟩:=I.tuple sq;exact EqAt.none_tuple p h
    |lst es=>obtain⟨b,us,rfl,sq,_⟩:=c;cases g;cases ek;obtain⟨_,_,p,_⟩:=I.list sq.sq;exact EqAt.none_list p.isList h
    |emp=>cases ek
   |bl a=>
    cases m;cases w;cases e with
    |non=>cases c;cases g;cases ek;exact EqAt.bool_none a
    |bl b=>cases c;cases g;cases ek;exact EqAt.bool_bool a b
    |int b=>cases c;obtain⟨t,rfl⟩:=g;cases ek;exact EqAt.bool_int a b t
    |str b=>obtain⟨rfl,_⟩:=c;obtain⟨t,rfl⟩:=g;cases ek;exact EqAt.bool_str a b t
    |tup es=>obtain⟨b,us,rfl,sq,_⟩:=c;cases g;cases ek;obtain⟨_,_,p,_⟩:=I.tuple sq;exact EqAt.bool_tuple a p h
    |lst es=>obtain⟨b,us,rfl,sq,_⟩:=c;cases g;cases ek;obtain⟨_,_,p,_⟩:=I.list sq.sq;exact EqAt.bool_list a p.isList h
    |emp=>cases ek
   |int a=>
    cases m;obtain⟨i,rfl⟩:=w;cases e with
    |non=>cases c;cases g;cases ek;exact EqAt.int_none a i
    |bl b=>cases c;cases g;cases ek;exact EqAt.int_bool a i b
    |int b=>cases c;obtain⟨t,rfl⟩:=g;cases ek;exact EqAt.int_int a i b t
    |str b=>obtain⟨rfl,_⟩:=c;obtain⟨t,rfl⟩:=g;cases ek;exact EqAt.int_str a i b t
    |tup es=>obtain⟨b,us,rfl,sq,_⟩:=c;cases g;cases ek;obtain⟨_,_,p,_⟩:=I.tuple sq;exact EqAt.int_tuple a i p h
    |lst es=>obtain⟨b,us,rfl,sq,_⟩:=c;cases g;cases ek;obtain⟨_,_,p,_⟩:=I.list sq.sq;exact EqAt.int_list a i p.isList h
    |emp=>cases ek
   |str a=>
    obtain⟨rfl,_⟩:=m;obtain⟨i,rfl⟩:=w;cases e with
    |non=>cases c;cases g;cases ek;exact EqAt.str_none a i
    |bl b=>cases c;cases g;cases ek;exact EqAt.str_bool a i b
    |int b=>cases c;obtain⟨t,rfl⟩:=g;cases ek;exact EqAt.str_int a i b t
    |str b=>obtain⟨rfl,_⟩:=c;obtain⟨t,rfl⟩:=g;cases ek;exact EqAt.str_str a i b t
    |tup es=>obtain⟨b,us,rfl,sq,_⟩:=c;cases g;cases ek;obtain⟨_,_,p,_⟩:=I.tuple sq;exact EqAt.str_tuple a i p h
    |lst es=>obtain⟨b,us,rfl,sq,_⟩:=c;cases g;cases ek;obtain⟨_,_,p,_⟩:=I.list sq.sq;exact EqAt.str_list a i p.isList h
    |emp=>
     simp only[AW]at c;obtain⟨p,o,rfl,e⟩:=c;cases g;cases ek;obtain⟨_,_,vs,r,q⟩:=Ey I.hok (.inr ⟨o,e⟩);exact Pk a i (wB S r q) h
   |tup ds=>
    obtain⟨a,vs,rfl,M,C⟩:=m;cases w;obtain⟨AQ,E,p,_⟩:=I.tuple M;cases e with
    |non=>cases c;cases g;cases ek;exact EqAt.tuple_none p h
    |bl b=>cases c;cases g;cases ek;exact EqAt.tuple_bool b p h
    |int b=>cases c;obtain⟨t,rfl⟩:=g;cases ek;exact EqAt.tuple_int b t p h
    |str b=>obtain⟨rfl,_⟩:=c;obtain⟨t,rfl⟩:=g;cases ek;exact EqAt.tuple_str b t p h
    |lst es=>obtain⟨b,us,rfl,sq,_⟩:=c;cases g;cases ek;obtain⟨_,_,p2,_⟩:=I.list sq.sq;exact EqAt.tuple_list p p2.isList h
    |tup es=>
     obtain⟨b,us,rfl,P,B⟩:=c;cases g;obtain⟨l,D,p2,_⟩:=I.tuple P;change jh _ _=U _ at ek;obtain⟨f,F,rfl⟩:=qQ ek;have G:a≠b:=λz=>L ⟨by rw[z],a,rfl⟩;have z:=EqAt.of_refs G (RcAt.tuples (A:=A) (e:=f) p p2 h (items (by simp only[xY]at N;omega) C B E D F));have q1:AQ.toArray.size=ds.length:=by rw[zi,<-E.length,C.length]
     have q2:l.toArray.size=es.length:=by rw[zi,<-D.length,B.length]
     rw[q1,q2]at z;exact z
    |emp=>cases ek
   |lst ds=>
    obtain⟨a,vs,rfl,M,C⟩:=m;cases w;obtain⟨AQ,E,p,_⟩:=I.list M.sq;cases e with
    |non=>cases c;cases g;cases ek;exact EqAt.list_none p.isList h
    |bl b=>cases c;cases g;cases ek;exact EqAt.list_bool b p.isList h
    |int b=>cases c;obtain⟨t,rfl⟩:=g;cases ek;exact EqAt.list_int b t p.isList h
    |str b=>obtain⟨rfl,_⟩:=c;obtain⟨t,rfl⟩:=g;cases ek;exact EqAt.list_str b t p.isList h
    |tup es=>obtain⟨b,us,rfl,sq,_⟩:=c;cases g;cases ek;obtain⟨_,_,p2,_⟩:=I.tuple sq;exact EqAt.list_tuple p.isList p2 h
    |lst es=>
     obtain⟨b,us,rfl,P,B⟩:=c;cases g;obtain⟨l,D,p2,_⟩:=I.list P.sq;change jh _ _=U _ at ek;obtain⟨f,F,rfl⟩:=qQ ek;have G:a≠b:=λz=>L ⟨by rw[z],a,rfl⟩;have q1:AQ.toArray.size=ds.length:=by rw[zi,<-E.length,C.length]
     have q2:l.toArray.size=es.length:=by rw[zi,<-D.length,B.length]
     by_cases W:AQ.toArray.size=l.toArray.size
     ·have z:=EqAt.of_refs G (RcAt.lists (A:=A) (e:=f) p.isList p2.isList W h (items (by simp only[xY]at N;omega) C B E D F));have J:ds.length=es.length:=by omega
      rw[q1]at z;rw[J,dm,beq_self_eq_true,kz,<-J];exact z
     ·have J:(ds.length==es.length)=false:=by rw[beq_eq_false_iff_ne];omega
      rw[J,cy];exact EqAt.of_refs G (RcAt.lists_lengths p.isList p2.isList (by simpa using W) h)
    |emp=>cases ek
   |emp=>
    cases e<;>first|(cases ek;done)|skip;simp only[AW]at m c;obtain⟨a,o,rfl,e1⟩:=m;obtain⟨b,o',rfl,e2⟩:=c;cases w;cases g;cases ek;obtain⟨_,m1,vs,r,q⟩:=Ey I.hok (.inr ⟨o,e1⟩);obtain⟨_,m2,a0,r',q'⟩:=Ey I.hok (.inr ⟨o',e2⟩);exact EqAt.of_refs (λz=>L ⟨by rw[z],a,rfl⟩) (Xm m1 m2 (wB S r q) (wB S r' q') h)
theorem Jm(I:L2.AU X AN σ H s){es:O Dt}{us:O V}{c:O A0}{f:Nat->Bool}(C:min (wC ds) (wC es)<=n)(z:A.units+n+1<cLine)(h:aF X.K H ds vs)(e:aF X.K H es us)(g:AX vs AQ)(i:AX us c)(w:∀(j:Nat) x y,ds[j]?=U x->es[j]?=U y->Ii x y=U (f j)):∀j (h1:j<AQ.toArray.size) (h2:j<c.toArray.size),EqAt A.in1 s AQ.toArray[j] c.toArray[j] (f j):=by
 intro j h1 h2;have B:=g.length;have E:=i.length;have G:=h.length;have J:=e.length;have u:j<AQ.length:=by simpa using h1
 have l:j<c.length:=by simpa using h2
 have d:ds[j]?=U (ds[j]'()):=by simp
 have d2:es[j]?=U (es[j]'()):=by simp
 obtain⟨a,ea,v⟩:=h.get d;obtain⟨b,eb,k⟩:=e.get d2;obtain⟨p,ep,m⟩:=g.get ea;obtain⟨q,o,t⟩:=i.get eb;have e1:AQ.toArray[j]=p:=by simpa[u]using ep
 have e2:c.toArray[j]=q:=by simpa[l]using o
 rw[e1,e2];have F:=qR d;have D:=qR d2;exact LA I n () (by rw[units_in1];omega) v k m t (w j _ _ d d2)
def nC(K:B4)(H:Hp):Dt->V->Prop
 |.lst ds,v=>∃a vs,v=.ref a/\nA K H a vs/\aF K H ds vs
 |d,v=>AW K H d v
def mG:Bx->Bool
 |.n _=>true
 |.m _ _=>true
 |_=>false
def toD:Bx->Dt
 |.z d=>d
 |.l ds=>.lst ds
 |.o ds=>.lst ds
 |.n _=>.non
 |.m _ _=>.non
theorem aQ.toD{v:V}(h:aQ K H b v)(a:mG b=false):nC K H (toD b) v:=by
 cases b with
 |z d=>
  cases d with
  |lst ds=>exact h.xW rfl
  |_=>exact h
 |l ds=>exact h.xW rfl
 |o ds=>exact h.xW rfl
 |n _=>cases a
 |m _ _=>cases a
theorem Nz(I:L2.AU X AN σ H s){e:Dt}{x y:V}{k:Bool}(M:min (xY d) (xY e)<=100)(hA:X.A.units+100<cLine)(z:nC X.K H d x)(h:nC X.K H e y)(B:As x u)(i:As y v)(ek:Ii d e=U k):RcAt X.A s u v k/\RcNeAt X.A s u v (!k):=by
 have g:X.A.units<cLine:=by omega
 cases d with
 |non=>
  cases z;cases B;cases e with
  |non=>
   cases h;cases i;cases ek;exact⟨.none_none,.none_none⟩
  |bl c=>
   cases h;cases i;cases ek;exact⟨.none_bool c,.none_bool c⟩
  |int c=>
   cases h;obtain⟨t2,rfl⟩:=i;cases ek;exact⟨.none_int c t2,.none_int c t2⟩
  |str c=>
   obtain⟨rfl,_⟩:=h;obtain⟨t2,rfl⟩:=i;cases ek;exact⟨.none_str c t2,.none_str c t2⟩
  |tup c=>
   obtain⟨a2,w,rfl,j,l⟩:=h;cases i;obtain⟨t,m,p2,_⟩:=I.tuple j;cases ek;exact⟨.none_tuple p2 g,.none_tuple p2 g⟩
  |lst c=>
   obtain⟨a2,w,rfl,j,l⟩:=h;cases i;obtain⟨t,m,p2,_⟩:=I.list j;cases ek;exact⟨.none_list p2.isList g,.none_list p2.isList g⟩
  |emp=>cases ek
 |bl x1=>
  cases z;cases B;cases e with
  |non=>
   cases h;cases i;cases ek;exact⟨.bool_none x1,.bool_none x1⟩
  |bl c=>
   cases h;cases i;cases ek;exact⟨.bool_bool x1 c,.bool_bool x1 c⟩
  |int c=>
   cases h;obtain⟨t2,rfl⟩:=i;cases ek;exact⟨.bool_int x1 c t2,.bool_int x1 c t2⟩
  |str c=>
   obtain⟨rfl,_⟩:=h;obtain⟨t2,rfl⟩:=i;cases ek;exact⟨.bool_str x1 c t2,.bool_str x1 c t2⟩
  |tup c=>
   obtain⟨a2,w,rfl,j,l⟩:=h;cases i;obtain⟨t,m,p2,_⟩:=I.tuple j;cases ek;exact⟨.bool_tuple x1 p2 g,.bool_tuple x1 p2 g⟩
  |lst c=>
   obtain⟨a2,w,rfl,j,l⟩:=h;cases i;obtain⟨t,m,p2,_⟩:=I.list j;cases ek;exact⟨.bool_list x1 p2.isList g,.bool_list x1 p2.isList g⟩
  |emp=>cases ek
 |int x1=>
  cases z;obtain⟨t1,rfl⟩:=B;cases e with
  |non=>
   cases h;cases i;cases ek;exact⟨.int_none x1 t1,.int_none x1 t1⟩
  |bl c=>
   cases h;cases i;cases ek;exact⟨.int_bool x1 t1 c,.int_bool x1 t1 c⟩
  |int c=>
   cases h;obtain⟨t2,rfl⟩:=i;cases ek;exact⟨.int_int x1 t1 c t2,.int_int x1 t1 c t2⟩
  |str c=>
   obtain⟨rfl,_⟩:=h;obtain⟨t2,rfl⟩:=i;cases ek;exact⟨.int_str x1 t1 c t2,.int_str x1 t1 c t2⟩
  |tup c=>
   obtain⟨a2,w,rfl,j,l⟩:=h;cases i;obtain⟨t,m,p2,_⟩:=I.tuple j;cases ek;exact⟨.int_tuple x1 t1 p2 g,.int_tuple x1 t1 p2 g⟩
  |lst c=>
   obtain⟨a2,w,rfl,j,l⟩:=h;cases i;obtain⟨t,m,p2,_⟩:=I.list j;cases ek;exact⟨.int_list x1 t1 p2.isList g,.int_list x1 t1 p2.isList g⟩
  |emp=>cases ek
 |str x1=>
  obtain⟨rfl,_⟩:=z;obtain⟨t1,rfl⟩:=B;cases e with
  |non=>
   cases h;cases i;cases ek;exact⟨.str_none x1 t1,.str_none x1 t1⟩
  |bl c=>
   cases h;cases i;cases ek;exact⟨.str_bool x1 t1 c,.str_bool x1 t1 c⟩
  |int c=>
   cases h;obtain⟨t2,rfl⟩:=i;cases ek;exact⟨.str_int x1 t1 c t2,.str_int x1 t1 c t2⟩
  |str c=>
   obtain⟨rfl,_⟩:=h;obtain⟨t2,rfl⟩:=i;cases ek;exact⟨.str_str x1 t1 c t2,.str_str x1 t1 c t2⟩
  |tup c=>
   obtain⟨a2,w,rfl,j,l⟩:=h;cases i;obtain⟨t,m,p2,_⟩:=I.tuple j;cases ek;exact⟨.str_tuple x1 t1 p2 g,.str_tuple x1 t1 p2 g⟩
  |lst c=>
   obtain⟨a2,w,rfl,j,l⟩:=h;cases i;obtain⟨t,m,p2,_⟩:=I.list j;cases ek;exact⟨.str_list x1 t1 p2.isList g,.str_list x1 t1 p2.isList g⟩
  |emp=>
   simp only[nC,AW]at h;obtain⟨p,o,rfl,e⟩:=h;cases i;cases ek;obtain⟨_,_,vs,r,q⟩:=Ey I.hok (.inr ⟨o,e⟩);exact⟨Fe x1 t1 (wB S r q) g,Pj x1 t1 (wB S r q) g⟩
 |tup x1=>
  obtain⟨a1,a0,rfl,J,D⟩:=z;cases B;obtain⟨G,C,p1,_⟩:=I.tuple J;cases e with
  |non=>
   cases h;cases i;cases ek;exact⟨.tuple_none p1 g,.tuple_none p1 g⟩
  |bl c=>
   cases h;cases i;cases ek;exact⟨.tuple_bool c p1 g,.tuple_bool c p1 g⟩
  |int c=>
   cases h;obtain⟨t2,rfl⟩:=i;cases ek;exact⟨.tuple_int c t2 p1 g,.tuple_int c t2 p1 g⟩
  |str c=>
   obtain⟨rfl,_⟩:=h;obtain⟨t2,rfl⟩:=i;cases ek;exact⟨.tuple_str c t2 p1 g,.tuple_str c t2 p1 g⟩
  |tup c=>
   obtain⟨a2,w,rfl,j,l⟩:=h;cases i;obtain⟨t,m,p2,_⟩:=I.tuple j;change jh _ _=U _ at ek;obtain⟨f,L,rfl⟩:=qQ ek;have q1:G.toArray.size=x1.length:=by rw[zi,<-C.length,D.length]
   have q2:t.toArray.size=c.length:=by rw[zi,<-m.length,l.length]
   have it:=Jm I (n:=99) (A:=X.A) (by simp only[xY]at M;omega) () D l C m L;rw[<-q1,<-q2];exact⟨.tuples p1 p2 g it,.tuples p1 p2 g it⟩
  |lst c=>
   obtain⟨a2,w,rfl,j,l⟩:=h;cases i;obtain⟨t,m,p2,_⟩:=I.list j;cases ek;exact⟨.tuple_list p1 p2.isList g,.tuple_list p1 p2.isList g⟩
  |emp=>cases ek
 |lst x1=>
  obtain⟨a1,a0,rfl,J,D⟩:=z;cases B;obtain⟨G,C,p1,_⟩:=I.list J;cases e with
  |non=>
   cases h;cases i;cases ek;exact⟨.list_none p1.isList g,.list_none p1.isList g⟩
  |bl c=>
   cases h;cases i;cases ek;exact⟨.list_bool c p1.isList g,.list_bool c p1.isList g⟩
  |int c=>
   cases h;obtain⟨t2,rfl⟩:=i;cases ek;exact⟨.list_int c t2 p1.isList g,.list_int c t2 p1.isList g⟩
  |str c=>
   obtain⟨rfl,_⟩:=h;obtain⟨t2,rfl⟩:=i;cases ek;exact⟨.list_str c t2 p1.isList g,.list_str c t2 p1.isList g⟩
  |tup c=>
   obtain⟨a2,w,rfl,j,l⟩:=h;cases i;obtain⟨t,m,p2,_⟩:=I.tuple j;cases ek;exact⟨.list_tuple p1.isList p2 g,.list_tuple p1.isList p2 g⟩
  |lst c=>
   obtain⟨a2,w,rfl,j,l⟩:=h;cases i;obtain⟨t,m,p2,_⟩:=I.list j;change jh _ _=U _ at ek;obtain⟨f,L,rfl⟩:=qQ ek;have q1:G.toArray.size=x1.length:=by rw[zi,<-C.length,D.length]
   have q2:t.toArray.size=c.length:=by rw[zi,<-m.length,l.length]
   have it:=Jm I (n:=99) (A:=X.A) (by simp only[xY]at M;omega) () D l C m L;by_cases E:G.toArray.size=t.toArray.size
   ·have F:x1.length=c.length:=by omega
    rw[F,dm,beq_self_eq_true,kz,<-F,<-q1];exact⟨.lists p1.isList p2.isList E g it,.lists p1.isList p2.isList E g it⟩
   ·have F:(x1.length==c.length)=false:=by rw[beq_eq_false_iff_ne];omega
    rw[F,cy];exact⟨.lists_lengths p1.isList p2.isList (by simpa using E) g,.lists_lengths p1.isList p2.isList (by simpa using E) g⟩
  |emp=>cases ek
 |emp=>
  cases e<;>first|(cases ek;done)|skip;simp only[nC,AW]at z h;obtain⟨a,o,rfl,e1⟩:=z;obtain⟨b,o',rfl,e2⟩:=h;cases B;cases i;cases ek;obtain⟨_,P,vs,r,q⟩:=Ey I.hok (.inr ⟨o,e1⟩);obtain⟨_,N,a3,Q,W⟩:=Ey I.hok (.inr ⟨o',e2⟩);exact⟨Xm P N (wB S r q) (wB S Q W) g,Hc P N (wB S r q) (wB S Q W) g⟩
def BQ(a b:Bx):Y Bx:=if mG a=true\/mG b=true then Z else if min (xY (toD a)) (xY (toD b))<=100 then(Ii (toD a) (toD b)).bind λk=>U (.z (.bl k))else Z
def Za(a b:Bx):Y Bx:=if mG a=true\/mG b=true then Z else if min (xY (toD a)) (xY (toD b))<=100 then(Ii (toD a) (toD b)).bind λk=>U (.z (.bl (!k)))else Z
theorem of_eq(j:X.A.units+100<cLine):IV X (AG .Eq) BQ:=by
 intro AN s σ H x y v u Q I g l h;obtain⟨a,b,c,m,f,e,q⟩:=h;unfold BQ at e;split at e
 ·cases e
 rename_i d;have n:mG a=false:=by cases h:mG a with|false=>rfl|true=>exact absurd (.inl h) d
 have o:mG b=false:=by cases h:mG b with|false=>rfl|true=>exact absurd (.inr h) d
 split at e
 ·rename_i i;obtain⟨k,ek,e⟩:=AT e;cases e;exact(Nz I i j (m.toD n) (f.toD o) g l ek).1 X.prog X.w X.xe _ ⟨.bl k,H,I,rfl,q _ H (AV.refl H) trivial (by unfold aQ AW;rfl)⟩
 ·cases e
theorem Xn(j:X.A.units+100<cLine):IV X (AG .NotEq) Za:=by
 intro AN s σ H x y v u Q I g l h;obtain⟨a,b,c,m,f,e,q⟩:=h;unfold Za at e;split at e
 ·cases e
 rename_i d;have n:mG a=false:=by cases h:mG a with|false=>rfl|true=>exact absurd (.inl h) d
 have o:mG b=false:=by cases h:mG b with|false=>rfl|true=>exact absurd (.inr h) d
 split at e
 ·rename_i i;obtain⟨k,ek,e⟩:=AT e;cases e;exact(Nz I i j (m.toD n) (f.toD o) g l ek).2 X.prog X.w X.xe _ ⟨.bl (!k),H,I,rfl,q _ H (AV.refl H) trivial (by unfold aQ AW;rfl)⟩
 ·cases e
theorem Jo{i:Int}:aQ K H (.z (.int i)) (.int i):=by unfold aQ AW;rfl
theorem Pn{b:Bool}:aQ K H (.z (.bl b)) (.bl b):=by unfold aQ AW;rfl
theorem Vz(h:x.length<=AA):aQ K H (.z (.str x)) (.str x):=by unfold aQ AW;exact⟨rfl,h⟩
theorem Ln{i:Int}{v:V}(h:aQ K H (.z (.int i)) v):v=.int i:=by simpa only[aQ,AW]using h
theorem Pq{v:V}(h:aQ K H (.z (.str x)) v):v=.str x/\x.length<=AA:=by simpa only[aQ,AW]using h
theorem EF{v:V}(h:aQ K H (.z (.tup ds)) v):∃a vs,v=.ref a/\vV K H a vs/\aF K H ds vs:=by simpa only[aQ,AW]using h
def i2(g:Int->Int->Y Dt):Bx->Bx->Y Bx
 |.z (.int i),.z (.int j)=>(g i j).bind λd=>U (.z d)
 |_,_=>Z
theorem Fg{f:A0->A0->Sem A0}{r:R2}{g:Int->Int->Y Dt}(l:xT X f r)(h:∀i j d H Q,g i j=U d->(∀v,AW X.K H d v->Q v H)->r (.int i) (.int j) H Q):IV X f (i2 g):=xT.imp l λx y H Q q=>by
 obtain⟨a,b,c,o,m,e,q⟩:=q;unfold i2 at e;split at e
 ·rename_i i j;obtain⟨d,k,e⟩:=AT e;cases e;rw[Ln o,Ln m];exact h i j d H Q k λv n=>q v H (AV.refl H) trivial n
 ·cases e
theorem EA{i:Int}:AW K H (.int i) (.int i):=by unfold AW;rfl
theorem DV{b:Bool}:AW K H (.bl b) (.bl b):=by unfold AW;rfl
abbrev CO:=i2 λi j=>U (.int (i-j))
abbrev DH:=i2 λi j=>U (.bl (decide (j<i)))
abbrev Db:=i2 λi j=>U (.bl (decide (j<=i)))
abbrev dZ:=i2 λi j=>if 0<j/\j<1073741824 then U (.int (i / j))else Z
abbrev cL:=i2 λi j=>if 0<j then U (.int (i%j))else Z
abbrev VB:=i2 λi j=>if 0<=j/\j<=1000/\i.natAbs<2 ^ 64 then U (.int (i ^ j.toNat))else Z
theorem Lq:IV X (binaryOp .Sub) CO:=Fg Yv λi j d H Q e q=>by cases e;exact⟨i,j,rfl,rfl,q _ EA⟩
theorem Ry:IV X (AG .Gt) DH:=Fg HC λi j d H Q e q=>by cases e;exact⟨i,j,rfl,rfl,q _ DV⟩
theorem KO:IV X (AG .GtE) Db:=Fg LF λi j d H Q e q=>by cases e;exact⟨i,j,rfl,rfl,q _ DV⟩
theorem dW:IV X (binaryOp .FloorDiv) dZ:=Fg UJ λi j d H Q e q=>by
 split at e
 ·rename_i h;cases e;exact⟨i,j,rfl,rfl,h,q _ EA⟩
 ·cases e
theorem bQ:IV X (binaryOp .Mod) cL:=Fg Yx λi j d H Q e q=>by
 split at e
 ·rename_i h;cases e;exact⟨i,j,rfl,rfl,h,q _ EA⟩
 ·cases e
theorem Zb:IV X (binaryOp .Pow) VB:=Fg Yy λi j d H Q e q=>by
 split at e
 ·rename_i h;cases e;exact⟨i,j,rfl,rfl,⟨h.1,by omega,h.2.2⟩,q _ EA⟩
 ·cases e
def Du:Bx->Y Bx
 |.z (.int i)=>U (.z (.int (-i)))
 |_=>Z
theorem Lr:Fh X (unaryOp .USub) Du:=Xb.imp Yz λx H Q q=>by
 obtain⟨a,c,b,e,q⟩:=q;unfold Du at e;split at e
 ·rename_i i;cases e;exact⟨i,Ln b,q _ H (AV.refl H) trivial Jo⟩
 ·cases e
def Pr:Nat:=1000000
theorem VD:Pr<=AA:=by decide
theorem Zc{b:A1}{us:O V}{Q:VK}(I:L2.AU X AN σ H s)(k:nA X.K H l vs)(i:nA X.K H b us)(j:vs.length+us.length<=AA)(q:∀p,H p=Z->Q (.ref p) (B8 H p (.lst (vs++us)))):
  A7 (en X) X.A (binaryOp .Add (.ref l) (.ref b)) (EP X AN σ Q) X.xe s:=by
 obtain⟨AQ,g,⟨⟨D,x,B,sl⟩,n,e1,c1,f,h⟩,z1⟩:=I.list k;obtain⟨a,c,⟨⟨cls2,y,u,t⟩,m,e2,c2,d2,d⟩,z2⟩:=I.list i;simp only at c1 f h c2 d2 d;subst c1 f h c2 d2 d;have v:=g.length;have z:=c.length;have e:AQ.toArray++a.toArray=(AQ++a).toArray:=by simp
 refine concat_meets ⟨_,e1,rfl⟩ ⟨_,e2,rfl⟩ noFill_list_add seq_list_add PySem.F.slot_list_add PySem.F.entry_list_add (PySem.F.args_list_add_2 _ _) (list_addW l b AQ.toArray a.toArray n m Z Z sl t (by rw[zi,zi];omega)) ⟨e1,e2,?_⟩;rw[e];exact⟨.ref s.heap.objs.size,_,I.laid (t':=s.toks) (o:=.lst (vs++us)) (λb C q=>zh _ q) (zl _) ⟨by rw[qa];exact j,_,0,g.append c,zw _ rfl⟩,rfl,q _ (I.hok.fresh (zl _))⟩
theorem Zd{b:A1}{us:O V}{Q:VK}(I:L2.AU X AN σ H s)(e:vV X.K H l vs)(f:vV X.K H b us)(n:vs.length+us.length<=AA)(q0:vs=[]->Q (.ref b) H)(q1:us=[]->Q (.ref l) H)(q2:∀p,H p=Z->Q (.ref p) (B8 H p (.tup (vs++us)))):
  A7 (en X) X.A (binaryOp .Add (.ref l) (.ref b)) (EP X AN σ Q) X.xe s:=by
 by_cases a:vs=[]
 ·obtain⟨AQ,g,⟨⟨v,k,q,sl⟩,e1,c1,j,c⟩,z1⟩:=I.tuple e;obtain⟨o,t,⟨⟨cls2,i,u,m⟩,e2,c2,h,d⟩,z2⟩:=I.tuple f;simp only at c1 c c2 d;subst c1 c c2 d;have:AQ=[]:=g.zQ.mpr a;exact concat_meets ⟨_,e1,rfl⟩ ⟨_,e2,rfl⟩ noFill_tuple_add seq_tuple_add PySem.F.slot_tuple_add k8 (kX _ _)
   (tuple_addW0 l b AQ.toArray o.toArray j h k i sl m (by simp[this])) ⟨e1,e2,⟨.ref b,H,I,rfl,q0 a⟩⟩
 ·exact Vb AN s σ H (.ref l) (.ref b) (.ref l) (.ref b) Q I S S ⟨l,b,vs,us,rfl,rfl,e,f,a,n,q1,λ_=>q2⟩
def eN:Bx->Bx->Y Bx
 |.z (.int i),.z (.int j)=>U (.z (.int (i+j)))
 |.z (.str i),.z (.str j)=>if i.length+j.length<=Pr then U (.z (.str (i++j)))else Z
 |.z (.tup xs),.z (.tup ys)=>if xs.length+ys.length<=Pr then U (.z (.tup (xs++ys)))else Z
 |a,b=>(jG a).bind λxs=>(jG b).bind λys=>if xs.length+ys.length<=Pr then U (.o (xs++ys))else Z
theorem CY(i j:AJ):(i++j).length=i.length+j.length:=by
 show(i.cps++j.cps).size=_;rw[Jn];rfl
theorem cR:IV X (binaryOp .Add) eN:=by
 intro AN s σ H x y v u Q I k n h;obtain⟨a,b,c,o,g,e,q⟩:=h;have A:=VD;unfold eN at e;split at e
 ·rename_i i j;cases e;exact Yu AN s σ H x y v u Q I k n ⟨i,j,Ln o,Ln g,q _ H (AV.refl H) trivial Jo⟩
 ·rename_i i j;split at e
  ·rename_i w;cases e;exact K5 AN s σ H x y v u Q I k n ⟨i,j,(Pq o).1,(Pq g).1,by omega,q _ H (AV.refl H) trivial (Vz (by rw[CY];omega))⟩
  ·cases e
 ·rename_i xs ys;split at e
  ·rename_i w;cases e;obtain⟨l,vs,rfl,sl,d⟩:=EF o;obtain⟨m,us,rfl,t,f⟩:=EF g;cases k;cases n;have h1:=d.length;have h2:=f.length;refine Zd I sl t () (λz=>q _ H (AV.refl H) trivial ?_) (λz=>q _ H (AV.refl H) trivial ?_) λp hp=>q _ _ (bA hp) trivial ?_
   ·unfold aQ AW;refine⟨m,us,rfl,t,?_⟩;have:xs=[]:=by subst z;exact ba (by simpa using h1.symm)
    rw[this,kD];exact f
   ·unfold aQ AW;refine⟨l,vs,rfl,sl,?_⟩;have:ys=[]:=by subst z;exact ba (by simpa using h2.symm)
    rw[this,JY];exact d
   ·unfold aQ AW;exact⟨p,_,rfl,.inl (.inl aU),(d.append f).kp (.of (bA hp))⟩
  ·cases e
 ·obtain⟨xs,ea,e⟩:=AT e;obtain⟨ys,eb,e⟩:=AT e;split at e
  ·rename_i w;cases e;obtain⟨l,vs,rfl,sl,d⟩:=o.xW ea;obtain⟨m,us,rfl,t,f⟩:=g.xW eb;cases k;cases n;have h1:=d.length;have h2:=f.length;refine Zc I sl t () λp hp=>q _ _ (bA hp) (λa ea=>by cases ea;exact hp) ⟨p,_,rfl,aU,(d.append f).kp (.of (bA hp))⟩
  ·cases e
def qJ:Bx->Bx->Y Bx
 |.z (.int i),.z (.int j)=>if(-(2 ^ 64)<i/\i<2 ^ 64)\/(-(2 ^ 64)<j/\j<2 ^ 64)then U (.z (.int (i*j)))else Z
 |.z (.str x),.z (.int n)=>if n<=1000 ∧ -1000<=n/\x.length<=1000 then U (.z (.str (Txt.mul x n)))else Z
 |_,_=>Z
theorem um(x:Array Nat):∀(n:Nat) (a:Array Nat),((aa n x).foldl (·++·) a).size=a.size+n*x.size
 |0,a=>by simp
 |n+1,a=>by
  rw[dd,js,um x n,Jn,dq];omega
theorem G5(x:AJ)(n:Int):(Txt.mul x n).length<=n.toNat*x.length+x.length:=by
 unfold Txt.mul;split
 ·exact qs _
 ·split
  ·exact Nat.le_add_left _ _
  ·show((aa n.toNat x.cps).foldl (·++·) #[]).size<=_;rw[um];show(#[]:Array Nat).size+n.toNat*x.cps.size<=n.toNat*x.cps.size+x.cps.size;simp
theorem nD:IV X (binaryOp .Mult) qJ:=by
 intro AN s σ H x y v u Q I l m h;obtain⟨a,b,c,o,g,e,q⟩:=h;unfold qJ at e;split at e
 ·rename_i i j;split at e
  ·rename_i f;cases e;exact Yw AN s σ H x y v u Q I l m ⟨i,j,Ln o,Ln g,f,q _ H (AV.refl H) trivial Jo⟩
  ·cases e
 ·rename_i d n;split at e
  ·rename_i f;cases e;obtain⟨rfl,hx⟩:=Pq o;have z:=Ln g;subst z;obtain⟨t,rfl⟩:=l;obtain⟨w,rfl⟩:=m;have B:AA=16777216:=sizeLine_eq;have A:n.toNat*d.length<=1000*1000:=Nat.mul_le_mul () f.2.2;refine SB.mul ⟨?_,λh1 h2=>?_,λh1 h2=>?_⟩ λw k=>⟨.str _,H,I.tok _,⟨_,rfl⟩,q _ H (AV.refl H) trivial (Vz (zD (G5 d n) ()))⟩
   ·have e1:decide (n < -(2 ^ 63:Int))=false:=Zp ();have e2:decide (n>=2 ^ 63)=false:=Zp ();rw[e1,e2];rfl
   ·have p:0<n:=by omega
    have:(1000:Int)<=(2 ^ 63-1) / n:=(Int.le_ediv_iff_mul_le p).mpr ();omega
   ·show decide (d.length*n.toNat>AA)=false;rw[Nat.mul_comm];exact Zp ()
  ·cases e
 ·cases e
def Xo(i j:AJ):Bool:=!(Builtin.Str.occurrences j i 0 j.length 1).isEmpty
def wD:Dt->Bool
 |.non=>true
 |.bl _=>true
 |.int _=>true
 |.str _=>true
 |_=>false
def CM(x:Dt)(ys:O Dt):Y Bool:=if wD x=true/\ys.all wD=true then U (ys.any λy=>match Ii y x with|some true=>true|_=>false)else Z
def Ay:Bx->Y (O Dt)
 |.z (.lst ds)=>U ds
 |.z (.tup ds)=>U ds
 |.l ds=>U ds
 |.o ds=>U ds
 |_=>Z
def DZ:Bx->Bx->Y Bool
 |.z (.str i),.z (.str j)=>U (Xo i j)
 |.z d,b=>(Ay b).bind λys=>CM d ys
 |_,_=>Z
def inF(a b:Bx):Y Bx:=(DZ a b).bind λk=>U (.z (.bl k))
theorem Jp{v:V}(r:AW K H d v)(f:wD d=true):qC v=true:=by
 cases d<;>first|(cases f;done)|skip
 all_goals simp only[AW]at r
 ·subst r;rfl
 ·subst r;rfl
 ·subst r;rfl
 ·obtain⟨rfl,_⟩:=r;rfl
theorem Fi{K:B4}{H:Hp}:∀{ds:O Dt} {vs:O V},aF K H ds vs->ds.all wD=true->vs.all qC=true
 |[],_,h,_=>by simp only[aF]at h;subst h;rfl
 |d::ds,_,h,f=>by
  simp only[aF]at h;obtain⟨v,r,rfl,h1,h2⟩:=h;rw[jv,ZA]at f;rw[jv,Jp h1 f.1,Fi h2 f.2];rfl
theorem G6(b:Bool):(match U b with|some true=>true|_=>false)=b:=by cases b<;>rfl
theorem VF{e:Dt}{x y:V}(b:AW K H d x)(a:AW K H e y)(fd:wD d=true)(fe:wD e=true):Vg x y=(match Ii d e with|some true=>true|_=>false):=by
 cases d<;>first|(cases fd;done)|skip
 all_goals (cases e<;>first|(cases fe;done)|skip)
 all_goals simp only[AW]at b a
 all_goals first
  |(subst b;subst a;exact(G6 _).symm)
  |(obtain⟨rfl,_⟩:=b;subst a;exact(G6 _).symm)
  |(subst b;obtain⟨rfl,_⟩:=a;exact(G6 _).symm)
  |(obtain⟨rfl,_⟩:=b;obtain⟨rfl,_⟩:=a;exact(G6 _).symm)
theorem NK{K:B4}{H:Hp}{d:Dt}{x:V}(a:AW K H d x)(fd:wD d=true):∀{ds:O Dt} {vs:O V},aF K H ds vs->ds.all wD=true->EI x vs=ds.any λy=>match Ii y d with|some true=>true|_=>false
 |[],_,h,_=>by simp only[aF]at h;subst h;rfl
 |e::ds,_,h,f=>by
  simp only[aF]at h;obtain⟨v,r,rfl,h1,h2⟩:=h;rw[jv,ZA]at f;have:=NK a fd h2 f.2;unfold EI at this ⊢;rw[bj,bj,VF h1 a f.1 fd,this]
theorem wF{v:V}(h:aQ K H b v)(e:Ay b=U ds):∃a vs,v=.ref a/\(nA K H a vs\/vV K H a vs)/\aF K H ds vs:=by
 cases b with
 |z d=>
  cases d<;>first|(cases e;done)|skip
  ·cases e;obtain⟨a,vs,e,q,r⟩:=EF h;exact⟨a,vs,e,.inr q,r⟩
  ·cases e;obtain⟨a,vs,e,q,r⟩:=h.xW rfl;exact⟨a,vs,e,.inl q,r⟩
 |l c=>
  cases e;obtain⟨a,vs,e,q,r⟩:=h.xW rfl;exact⟨a,vs,e,.inl q,r⟩
 |o c=>
  cases e;obtain⟨a,vs,e,q,r⟩:=h.xW rfl;exact⟨a,vs,e,.inl q,r⟩
 |n _=>cases e
 |m _ _=>cases e
theorem Pu{a:Bx}{x y:V}{k:Bool}(h:aQ X.K H a x)(f:aQ X.K H b y)(e:DZ a b=U k):
  (∃i j,x=.str i/\y=.str j/\k=Xo i j)\/(∃p xs,y=.ref p/\(nA X.K H p xs\/vV X.K H p xs)/\qC x=true/\xs.all qC=true/\k=EI x xs):=by
 unfold DZ at e;split at e
 ·rename_i i j;cases e;exact .inl ⟨i,j,(Pq h).1,(Pq f).1,rfl⟩
 ·rename_i d _;obtain⟨ys,m,e⟩:=AT e;unfold CM at e;split at e
  ·rename_i c;cases e;obtain⟨p,vs,rfl,sq,l⟩:=wF f m;have g:AW X.K H d x:=h;exact .inr ⟨p,vs,rfl,sq,Jp g c.1,Fi l c.2,(NK g c.1 l c.2).symm⟩
  ·cases e
 ·cases e
theorem HE:IV X (AG .In) inF:=by
 intro AN s σ H x y v u Q I d f h;obtain⟨a,b,c,l,g,e,q⟩:=h;obtain⟨k,ek,e⟩:=AT e;cases e;rcases Pu l g ek with⟨i,j,rfl,rfl,rfl⟩|⟨p,xs,rfl,sq,f1,f2,rfl⟩
 ·exact O2 AN s σ H _ _ v u Q I d f ⟨i,j,rfl,rfl,q _ H (AV.refl H) trivial Pn⟩
 ·exact O7 AN s σ H _ _ v u Q I d f ⟨p,xs,rfl,sq,f1,f2,q _ H (AV.refl H) trivial Pn⟩
def Ls:Bx->Bool
 |.z .non=>true
 |_=>false
theorem Px{v:V}(h:aQ K H b v):decide (v=.non)=Ls b:=by
 cases b with
 |z d=>
  cases d<;>simp only[aQ,AW]at h
  ·subst h;rfl
  ·subst h;rfl
  ·subst h;rfl
  ·obtain⟨rfl,_⟩:=h;rfl
  ·obtain⟨_,_,rfl,_⟩:=h;rfl
  ·obtain⟨_,_,rfl,_⟩:=h;rfl
  ·obtain⟨_,_,rfl,_⟩:=h;rfl
 |l ds=>obtain⟨_,_,rfl,_⟩:=h;rfl
 |o ds=>obtain⟨_,_,rfl,_⟩:=h;rfl
 |n ds=>obtain⟨_,_,rfl,_⟩:=h;rfl
 |m ds _=>obtain⟨_,_,rfl,_⟩:=h;rfl
def Jq(a:Bx):Bx->Y Bx
 |.z .non=>U (.z (.bl (!Ls a)))
 |_=>Z
theorem VG:IV X (AG .IsNot) Jq:=xT.imp UL λx y H Q q=>by
 obtain⟨a,b,c,f,d,e,q⟩:=q;unfold Jq at e;split at e
 ·cases e;simp only[aQ,AW]at d;exact⟨d,by rw[Px f];exact q _ H (AV.refl H) trivial Pn⟩
 ·cases e
def gj:Bx->Bx->Y Bx
 |.z (.str x),.z (.int i)=>(Dj x.cps.toList i).bind λc=>U (.z (.str ⟨#[c]⟩))
 |b,.z (.int i)=>(Ay b).bind λds=>(Dj ds i).bind λd=>U (.z d)
 |_,_=>Z
theorem VH{i:Int}(r:aF K H ds vs)(e:Dj ds i=U d):∃v,Dj vs i=U v/\AW K H d v:=by
 unfold Dj at e ⊢;rw[r.length];obtain⟨j,a,e⟩:=AT e;rw[a];exact r.get e
theorem bJ{a b:Expr}(j:QV X a fa)(l:QV X b fb)(hs:Nt b:=by intro _ _;with_unfolding_all rfl):QV X (.Subscript a b pos) (b2 gj fa fb):=⟨have j:=j.run;have l:=l.run;Ih (He YS j l hs) λσ H Q h=>by
 obtain⟨H0,ρ,c,E,e,q⟩:=h;obtain⟨a,ea,e⟩:=AT e;obtain⟨b,eb,e⟩:=AT e;refine⟨H0,ρ,a,E,ea,λv H1 f C t=>⟨H0,ρ,b,E.grow f,eb,λu H2 g B n=>?_⟩⟩;have k:=t.same g;unfold gj at e;split at e
 ·rename_i x i;obtain⟨c',z,e⟩:=AT e;cases e;exact .inr (.inr ⟨_,_,c',(Pq k).1,Ln n,(Pq k).2,z,q _ _ (f.trans g) trivial (Vz (by show(1:Nat)<=AA;decide))⟩)
 ·obtain⟨ds,s,e⟩:=AT e;obtain⟨d,y,e⟩:=AT e;cases e;obtain⟨p,vs,rfl,sq,A⟩:=wF k s;obtain⟨w,o,m⟩:=VH A y;have hi:=Ln n;rcases sq with sq|sq
  ·exact .inl ⟨p,vs,_,w,rfl,hi,sq,o,q _ _ (f.trans g) trivial m⟩
  ·exact .inr (.inl ⟨p,vs,_,w,rfl,hi,sq,o,q _ _ (f.trans g) trivial m⟩)
 ·cases e⟩
theorem Ze:AH "int"=U (.type "int"):=by decide +kernel
theorem jK:AH "tuple"=U (.type "tuple"):=by decide +kernel
theorem VJ:AH "list"=U (.type "list"):=by decide +kernel
theorem uo:AH "isinstance"=U (.builtin "isinstance"):=by decide +kernel
theorem nF:AH "len"=U (.builtin "len"):=by decide +kernel
theorem Zf:AH "abs"=U (.builtin "abs"):=by decide +kernel
theorem Zg:AH "all"=U (.builtin "all"):=by decide +kernel
theorem RB:AH "min"=U (.builtin "min"):=by decide +kernel
theorem Lw:AH "max"=U (.builtin "max"):=by decide +kernel
theorem kJ:AH "sorted"=U (.builtin "sorted"):=by decide +kernel
def cT:Dt->Bool
 |.tup _=>true
 |_=>false
theorem Py(I:L2.AU X AN σ H s){x:V}{Q:VK}(f:nC X.K H d x)(g:As x v)(q:Q (.bl (cT d)) H):A7 (en X) X.A (call (.builtin "isinstance") [v,.type "tuple"]) (EP X AN σ Q) X.xe s:=by
 cases d with
 |non=>simp only[nC,AW]at f;subst f;cases g;exact IsiPair.NoneType_tuple ⟨.bl _,H,I.tok _,rfl,q⟩
 |bl b=>simp only[nC,AW]at f;subst f;cases g;exact IsiPair.bool_tuple ⟨.bl _,H,I.tok _,rfl,q⟩
 |int b=>simp only[nC,AW]at f;subst f;obtain⟨t,rfl⟩:=g;exact IsiPair.int_tuple ⟨.bl _,H,I.tok _,rfl,q⟩
 |str b=>simp only[nC,AW]at f;obtain⟨rfl,_⟩:=f;obtain⟨t,rfl⟩:=g;exact IsiPair.str_tuple ⟨.bl _,H,I.tok _,rfl,q⟩
 |tup ds=>simp only[nC,AW]at f;obtain⟨a,vs,rfl,sq,_⟩:=f;cases g;obtain⟨_,_,p,_⟩:=I.tuple sq;exact IsiPair.isTuple_tuple p (λ_ _ e=>e) ⟨.bl _,H,I,rfl,q⟩
 |lst ds=>simp only[nC]at f;obtain⟨a,vs,rfl,sq,_⟩:=f;cases g;obtain⟨_,_,p,_⟩:=I.list sq;exact IsiPair.isList_tuple p.isList (λ_ _ e=>e) ⟨.bl _,H,I.tok _,rfl,q⟩
 |emp=>simp only[nC,AW]at f;obtain⟨a,o,rfl,sq⟩:=f;cases g;obtain⟨h,e,c⟩:=sX I sq;exact IsiPair.dict_tuple e c ⟨.bl _,H,I.tok _,rfl,q⟩
theorem wG{p:Pos}(d:QV X e f)(n:Gl X "isinstance")(k:X.mg "isinstance"=Z)(j:Gl X "tuple")(t:X.mg "tuple"=Z)(hs:A9 [e,.Name "tuple" p2] X.env=[(false,eval e X.env),(false,eval (.Name "tuple" p2) X.env)]:=by rfl):QV X (.Call (.Name "isinstance" p) [e,.Name "tuple" p2] [] pos) (b1 (λb=>if mG b=true then Z else U (.z (.bl (cT (toD b))))) f):=⟨by
 have d:=d.run;have g:eY X (.builtin "isinstance") (λxs H Q=>∃b x,xs=[x,.ty "tuple"]/\aQ X.K H b x/\mG b=false/\Q (.bl (cT (toD b))) H):=by
  intro AN s σ H xs us Q I r h;obtain⟨b,x,rfl,i,y,q⟩:=h;obtain⟨u,B,rfl,a,o⟩:=By r;cases o;exact Py I (i.toD y) a q
 have w:PA X [e,.Name "tuple" p2] (Iu (tF X.K f) (Iu (tC (.ty "tuple")) YD)):=iG d (iG (Nm j t (v:=.ty "tuple") (u:=.type "tuple") jK S) pH) (by rw[hs]<;>rfl);refine Ih (Aj g n k uo w () () (by rw[hs]<;>rfl) S) λσ H Q h=>?_;obtain⟨H0,ρ,c,E,e,q⟩:=h;obtain⟨b,eb,e⟩:=AT e;split at e
 ·cases e
 rename_i m;cases e;exact⟨H0,ρ,b,E,eb,λv H1 l A a=>⟨b,v,rfl,a,by simpa using m,q _ _ l trivial Pn⟩⟩⟩
def BI:Dt->Bool
 |.lst _=>true
 |_=>false
theorem RD(I:L2.AU X AN σ H s){x:V}{Q:VK}(f:nC X.K H d x)(g:As x v)(q:Q (.bl (BI d)) H):A7 (en X) X.A (call (.builtin "isinstance") [v,.type "list"]) (EP X AN σ Q) X.xe s:=by
 cases d with
 |non=>simp only[nC,AW]at f;subst f;cases g;exact IsiPair.NoneType_list ⟨.bl _,H,I.tok _,rfl,q⟩
 |bl b=>simp only[nC,AW]at f;subst f;cases g;exact IsiPair.bool_list ⟨.bl _,H,I.tok _,rfl,q⟩
 |int b=>simp only[nC,AW]at f;subst f;obtain⟨t,rfl⟩:=g;exact IsiPair.int_list ⟨.bl _,H,I.tok _,rfl,q⟩
 |str b=>simp only[nC,AW]at f;obtain⟨rfl,_⟩:=f;obtain⟨t,rfl⟩:=g;exact IsiPair.str_list ⟨.bl _,H,I.tok _,rfl,q⟩
 |tup ds=>simp only[nC,AW]at f;obtain⟨a,vs,rfl,sq,_⟩:=f;cases g;obtain⟨_,_,p,_⟩:=I.tuple sq;exact IsiPair.isTuple_list p (λ_ _ e=>e) ⟨.bl _,H,I.tok _,rfl,q⟩
 |lst ds=>simp only[nC]at f;obtain⟨a,vs,rfl,sq,_⟩:=f;cases g;obtain⟨_,_,p,_⟩:=I.list sq;exact IsiPair.isList_list p.isList (λ_ _ e=>e) ⟨.bl _,H,I,rfl,q⟩
 |emp=>simp only[nC,AW]at f;obtain⟨a,o,rfl,sq⟩:=f;cases g;obtain⟨h,e,c⟩:=sX I sq;exact IsiPair.dict_list e c ⟨.bl _,H,I.tok _,rfl,q⟩
theorem Jr{p:Pos}(d:QV X e f)(n:Gl X "isinstance")(k:X.mg "isinstance"=Z)(j:Gl X "list")(t:X.mg "list"=Z)(hs:A9 [e,.Name "list" p2] X.env=[(false,eval e X.env),(false,eval (.Name "list" p2) X.env)]:=by rfl):QV X (.Call (.Name "isinstance" p) [e,.Name "list" p2] [] pos) (b1 (λb=>if mG b=true then Z else U (.z (.bl (BI (toD b))))) f):=⟨by
 have d:=d.run;have g:eY X (.builtin "isinstance") (λxs H Q=>∃b x,xs=[x,.ty "list"]/\aQ X.K H b x/\mG b=false/\Q (.bl (BI (toD b))) H):=by
  intro AN s σ H xs us Q I r h;obtain⟨b,x,rfl,i,y,q⟩:=h;obtain⟨u,B,rfl,a,o⟩:=By r;cases o;exact RD I (i.toD y) a q
 have w:PA X [e,.Name "list" p2] (Iu (tF X.K f) (Iu (tC (.ty "list")) YD)):=iG d (iG (Nm j t (v:=.ty "list") (u:=.type "list") VJ S) pH) (by rw[hs]<;>rfl);refine Ih (Aj g n k uo w () () (by rw[hs]<;>rfl) S) λσ H Q h=>?_;obtain⟨H0,ρ,c,E,e,q⟩:=h;obtain⟨b,eb,e⟩:=AT e;split at e
 ·cases e
 rename_i m;cases e;exact⟨H0,ρ,b,E,eb,λv H1 l A a=>⟨b,v,rfl,a,by simpa using m,q _ _ l trivial Pn⟩⟩⟩
def Kt(K:B4)(f:Ev->Y (Y Int)):TO:=λσ H Q=>∃H0 ρ o,bh K H0 H σ ρ/\f ρ=U o/\∀H',AV H H'->Q o H'
def LJ(X:Cx)(e:Y Expr)(f:Ev->Y (Y Int)):Prop:=PO X e (Kt X.K f)
structure DU (X:Cx) (e:Option Expr) (f:Ev->Option (Option Int)):Prop where
 run:LJ X e f
theorem FH{e:Y Expr}{t t':TO}(h:PO X e t)(m:∀ σ H Q,t' σ H Q->t σ H Q):PO X e t':=λAN s σ H Q I q=>h AN s σ H Q I (m σ H Q q)
def yd:Ev->Y (Y Int):=λ_=>U Z
theorem wH  :DU X Z yd:=⟨FH U9 λσ H Q h=>by
 obtain⟨H0,ρ,o,E,e,q⟩:=h;cases e;exact q H (AV.refl H)⟩
def Zh:Bx->Y (Y Int)
 |.z (.int i)=>U (U i)
 |_=>Z
def qT(f:Ev->Y Bx):Ev->Y (Y Int):=λρ=>(f ρ).bind Zh
theorem oG(h:QV X e f):DU X (U e) (qT f):=⟨have h:=h.run;FH (Va h) λσ H Q q=>by
 obtain⟨H0,ρ,o,E,e,q⟩:=q;obtain⟨b,eb,e⟩:=AT e;refine⟨H0,ρ,b,E,eb,λv H1 c d a=>?_⟩;unfold Zh at e;split at e
 ·rename_i i;cases e;exact⟨i,Ln a,q H1 c⟩
 ·cases e⟩
def Bz(xs:O Dt)(lo hi:Y Int):O Dt:=(xs.drop (HT.eZ xs.length 0 lo)).take (HT.eZ xs.length xs.length hi-HT.eZ xs.length 0 lo)
theorem Js(r:aF K H ds vs)(lo hi:Y Int):aF K H (Bz ds lo hi) (Iw vs lo hi):=by
 unfold Bz Iw;rw[r.length];exact(r.drop _).take _
theorem RG(ds:O Dt)(h1:HT.eZ ds.length 0 lo=0)(h2:HT.eZ ds.length ds.length hi=ds.length):Bz ds lo hi=ds:=by
 unfold Bz;rw[h1,h2];simp
theorem wI{t sl:A1}{b c:A0}(a:IsTup s.heap t items)(hs:s.heap.IsSliceOf sl b c .none)(pl:IsPart b lo)(d:IsPart c hi)(h1:HT.eZ items.size 0 lo=0)(h2:HT.eZ items.size items.size hi=items.size)(h:Q (.ref t) s):A7 (A8 prog w) A (getItem (.ref t) (.ref sl)) Q E s:=by
 obtain⟨os,g,f,j⟩:=id hs;have e:s.TypeIs (.ref sl) "slice":=⟨os,g,f⟩;unfold getItem
 try with_reducible refine ZE ?_
 first|refine zb (zd ?_)|skip
 refine zb (kQ a.typeIs () ?_);refine zb (ke (name:=Str.ofString "__getitem__") a.typeIs PyProof.Rows.slot_tuple_getitem
  (JJ PyProof.Rows.slot_tuple_getitem a.typeIs entry_tuple_getitem ?_ (args_tuple_getitem _ _)))
 show A7 _ _ (Builtin.Tuple.tupleItemsOf (.ref t) >>= _) _ _ s;refine zb (tupleItemsOf_ a ?_);refine zb (QI e ?_);rw[zr ()];refine zb (HT.ou hs pl d ?_);have i:(((HT.eZ items.size 0 lo:Nat):Int)==0&&(1:Int)==1&&(HT.eZ items.size items.size hi-HT.eZ items.size 0 lo)==items.size)=true:=by
  rw[h1,h2];simp
 show A7 _ _ (if(((HT.eZ items.size 0 lo:Nat):Int)==0&&(1:Int)==1&&(HT.eZ items.size items.size hi-HT.eZ items.size 0 lo)==items.size)=true then _ else _) _ _ s;rw[zr i]
 first
  |refine zb (zb (QI a.typeIs (zd ?_)))
  |refine zb (QI a.typeIs (zb (zd ?_)))
  |refine zb (QI a.typeIs ?_)
 rw[zr ()]
 first
  |exact zb (JA (zd ⟨_,rfl,zd h⟩))
  |exact zb (JA (zb (zd (zd ⟨_,rfl,zd h⟩))))
def DF(b:Bx)(lo hi:Y Int):Y Bx:=match b with
 |.z (.str x)=>U (.z (.str (Txt.slice x lo hi)))
 |.z (.tup ds)=>U (.z (.tup (Bz ds lo hi)))
 |b=>(jG b).bind λds=>U (.o (Bz ds lo hi))
def IE(K:B4):V->Y Int->Y Int->Hp->VK->Prop:=λx lo hi H Q=>∃b c,aQ K H b x/\DF b lo hi=U c/\∀w H',AV H H'->Nw H c w->aQ K H' c w->Q w H'
theorem Zi:ED X (IE X.K):=by
 intro AN s σ H x v J G lo hi sl Q I w z pl d h;obtain⟨b,c,n,e,q⟩:=h;unfold DF at e;split at e
 ·rename_i y;cases e;obtain⟨rfl,m⟩:=Pq n;obtain⟨t,rfl⟩:=w;refine⟨"str", _,F.slot_str_getitem.lookup,typeIs_str _ _ _,?_⟩;obtain⟨o,e1,e2,e3⟩:=z;have A:∀E k,EP X AN σ Q (.str (Txt.slice y lo hi) E) { s with toks:=k }:=λE k=>⟨.str _,H,I.tok _,⟨_,rfl⟩,q _ H (AV.refl H) trivial (Vz (zD (Txt.slice_le y _ _) m))⟩;cases pl with
  |none=>
   cases d with
   |none=>exact kc (l:=Z) (u:=Z) (st:=Z) ⟨o,e1,e2,e3⟩ S (post_val_or_str ⟨zD (Txt.slice_le y _ _) m,A⟩)
   |int j B=>exact kc (l:=Z) (u:=U (j,B)) (st:=Z) ⟨o,e1,e2,e3⟩ S (post_val_or_str ⟨zD (Txt.slice_le y _ _) m,A⟩)
  |int i D=>
   cases d with
   |none=>exact kc (l:=U (i,D)) (u:=Z) (st:=Z) ⟨o,e1,e2,e3⟩ S (post_val_or_str ⟨zD (Txt.slice_le y _ _) m,A⟩)
   |int j B=>exact kc (l:=U (i,D)) (u:=U (j,B)) (st:=Z) ⟨o,e1,e2,e3⟩ S (post_val_or_str ⟨zD (Txt.slice_le y _ _) m,A⟩)
 ·rename_i ds;cases e;obtain⟨a,vs,rfl,sq,f⟩:=EF n;by_cases g:HT.eZ vs.length 0 lo=0/\HT.eZ vs.length vs.length hi=vs.length
  ·cases w;obtain⟨AQ,r,C,N⟩:=I.tuple sq;have L:AQ.toArray.size=vs.length:=by rw[zi];exact r.length.symm
   refine⟨"tuple", _,PyProof.Rows.slot_tuple_getitem.lookup,C.typeIs,wI C z pl d (by rw[L];exact g.1) (by rw[L];exact g.2) ⟨.ref a,H,I,rfl,q _ H (AV.refl H) trivial ?_⟩⟩;rw[RG ds (by rw[<-f.length];exact g.1) (by rw[<-f.length];exact g.2)];exact n
  ·refine YK AN s σ H _ v J G lo hi sl Q I w z pl d ⟨a,vs,rfl,sq,g,λp hp=>q _ _ (bA hp) trivial ?_⟩;unfold aQ AW;exact⟨p,_,rfl,.inl (.inl aU),(Js f lo hi).kp (.of (bA hp))⟩
 ·obtain⟨ds,M,e⟩:=AT e;cases e;obtain⟨a,vs,rfl,sq,f⟩:=n.xW M;exact Vf AN s σ H _ v J G lo hi sl Q I w z pl d ⟨a,vs,rfl,sq,λp hp=>q _ _ (bA hp) (λa ea=>by cases ea;exact hp) ⟨p,_,rfl,aU,(Js f lo hi).kp (.of (bA hp))⟩⟩
def RJ(f:Ev->Y Bx)(fl fh:Ev->Y (Y Int)):Ev->Y Bx:=λρ=>(f ρ).bind λb=>(fl ρ).bind λlo=>(fh ρ).bind λhi=>DF b lo hi
theorem Jt{lo hi:Y Expr}{fl fh:Ev->Y (Y Int)}(a:QV X e f)(i:DU X lo fl)(j:DU X hi fh):QV X (.Subscript e (.Slice lo hi Z p2) pos) (RJ f fl fh):=⟨have a:=a.run;have i:=i.run;have j:=j.run;Ih (QZ Zi a i j) λσ H Q h=>by
 obtain⟨H0,ρ,c,E,e,q⟩:=h;obtain⟨b,eb,e⟩:=AT e;obtain⟨lo,el,e⟩:=AT e;obtain⟨hi,n,e⟩:=AT e;refine⟨H0,ρ,b,E,eb,λv H1 d u m=>⟨H0,ρ,lo,E.grow d,el,λH2 g=>⟨H0,ρ,hi,E.grow (d.trans g),n,λx l=>?_⟩⟩⟩;have k:=(d.trans g).trans l;exact⟨b,c,(m.same g).same l,e,λw p s t o=>q w p (k.trans s) (t.old k) o⟩⟩
def qU:O Bx->Y Bx
 |[.z (.str x)]=>U (.z (.int x.length))
 |[b]=>(Ay b).bind λds=>U (.z (.int ds.length))
 |_=>Z
theorem BM(r:uh K H [b] vs):∃v,vs=[v]/\aQ K H b v:=by
 cases r with
 |cons p t=>cases t;exact⟨_,rfl,p⟩
theorem DC{c:Bx}(r:uh K H [b,c] vs):∃v u,vs=[v,u]/\aQ K H b v/\aQ K H c u:=by
 cases r with
 |cons p t=>
  cases t with
  |cons p' a=>cases a;exact⟨_,_,rfl,p,p'⟩
theorem nG:oA X (.builtin "len") qU:=eY.imp (Gw.or Gx) λxs H Q q=>by
 obtain⟨bs,c,b,e,q⟩:=q;unfold qU at e;split at e
 ·rename_i x;cases e;obtain⟨v,rfl,a⟩:=BM b;obtain⟨rfl,hx⟩:=Pq a;exact .inr ⟨x,rfl,hx,q _ H (AV.refl H) trivial Jo⟩
 ·obtain⟨ds,d,e⟩:=AT e;cases e;obtain⟨v,rfl,a⟩:=BM b;obtain⟨p,vs,rfl,sq,f⟩:=wF a d;exact .inl ⟨p,vs,rfl,sq,by rw[f.length];exact q _ H (AV.refl H) trivial Jo⟩
 ·cases e
def Pz:O Bx->Y Bx
 |[.z (.int i)]=>U (.z (.int (if i<0 then -i else i)))
 |_=>Z
theorem Zj:oA X (.builtin "abs") Pz:=eY.imp QS λxs H Q q=>by
 obtain⟨bs,c,b,e,q⟩:=q;unfold Pz at e;split at e
 ·rename_i i;cases e;obtain⟨v,rfl,a⟩:=BM b;have:=Ln a;subst this;exact⟨i,rfl,q _ H (AV.refl H) trivial Jo⟩
 ·cases e
def RK:O Bx->Y Bx
 |[.z (.int i)]=>U (.z (.int i))
 |[.z (.bl k)]=>U (.z (.int (if k then 1 else 0)))
 |_=>Z
theorem Zk:oA X (.type "int") RK:=eY.imp O4 λxs H Q q=>by
 obtain⟨bs,c,b,e,q⟩:=q;unfold RK at e;split at e
 ·rename_i i;cases e;obtain⟨v,rfl,a⟩:=BM b;have:=Ln a;subst this;exact .inl ⟨i,rfl,q _ H (AV.refl H) trivial Jo⟩
 ·rename_i k;cases e;obtain⟨v,rfl,a⟩:=BM b;simp only[aQ,AW]at a;subst a;exact .inr ⟨k,rfl,q _ H (AV.refl H) trivial Jo⟩
 ·cases e
def ji:O Bx->Y Bx
 |[b]=>(Ay b).bind λds=>U (.z (.tup ds))
 |_=>Z
theorem lD:oA X (.type "tuple") ji:=eY.imp Dp λxs H Q q=>by
 obtain⟨bs,c,g,e,q⟩:=q;unfold ji at e;split at e
 ·obtain⟨ds,f,e⟩:=AT e;cases e;obtain⟨v,rfl,d⟩:=BM g;obtain⟨p,vs,rfl,sq,b⟩:=wF d f;refine⟨p,vs,rfl,?_⟩;rcases sq with sq|sq
  ·refine .inl ⟨sq,λl a=>q _ _ (bA a) trivial ?_⟩;unfold aQ AW;exact⟨l,vs,rfl,.inl (.inl aU),b.kp (.of (bA a))⟩
  ·refine .inr ⟨sq,q _ H (AV.refl H) trivial ?_⟩;unfold aQ AW;exact⟨p,vs,rfl,sq,b⟩
 ·cases e
def Fj:O Dt->Y (O Bool)
 |[]=>U []
 |.bl b::ds=>(Fj ds).bind λbs=>U (b::bs)
 |_=>Z
theorem Az{K:B4}{H:Hp}:∀{ds:O Dt} {bs:O Bool} {vs:O V} {us:O A0},Fj ds=U bs->aF K H ds vs->AX vs us->us=bs.map Value.bool
 |[],_,_,_,e,r,w=>by
  cases e;simp only[aF]at r;subst r;cases w;rfl
 |d::ds,_,_,_,e,r,w=>by
  simp only[aF]at r;obtain⟨v,a,rfl,h1,h2⟩:=r;cases d<;>first|(cases e;done)|skip;simp only[Fj]at e;obtain⟨bs,e1,e⟩:=AT e;cases e;simp only[AW]at h1;subst h1;cases w with
  |cons p t=>
   cases p;rw[Az e1 h2 t];rfl
theorem CB(bs:O Bool):((am bs.length).all λi=>bs.getD i false)=bs.all id:=by
 rw[cb,qA,qA];constructor
 ·intro h b a;obtain⟨i,hi,rfl⟩:=List.mem_iff_getElem.mp a;have:=h i (by simpa using hi);simpa[List.getD,hi]using this
 ·intro h i hi;have hi:i<bs.length:=by simpa using hi
  have:=h bs[i] (List.getElem_mem hi);simpa[List.getD,hi]using this
def CF:O Bx->Y Bx
 |[b]=>(jG b).bind λds=>(Fj ds).bind λbs=>U (.z (.bl (bs.all id)))
 |_=>Z
theorem Ju(bs:O Bool):TruthOf prog w A (λi v=>(bs.map Value.bool).toArray[i]?=U v) λi=>bs.getD i false:=λi v s Q E h q=>by
 have h':(bs.map Value.bool)[i]?=U v:=by simpa using h
 rw[Zl]at h';cases e:bs[i]? with
 |none=>rw[e]at h';cases h'
 |some b=>
  rw[e]at h';cases h';have:bs.getD i false=b:=by simp[List.getD,e]
  have a:Q b s:=by rw[<-this];exact q
  exact qf a
theorem Zm(g:X.calm=true):oA X (.builtin "all") CF:=by
 intro AN s σ H xs us Q I r h;obtain⟨bs,c,m,e,q⟩:=h;unfold CF at e;split at e
 ·obtain⟨ds,f,e⟩:=AT e;obtain⟨ks,ek,e⟩:=AT e;cases e;obtain⟨v,rfl,l⟩:=BM m;obtain⟨a,vs,rfl,sq,D⟩:=l.xW f;obtain⟨u,rfl,x⟩:=BB r;cases x;obtain⟨AQ,w,pl,E⟩:=I.list sq;have d:=Az ek D w;have C:a<s.heap.objs.size:=by obtain⟨o,n,e,_⟩:=pl;exact zt e
  refine call_all_walk (jS pl.isList ?_);refine⟨s.heap.objs.size,_,_,_,_,_,λi=>ks.getD i false,rfl,Walks.list (by show X.A.handled=Z;exact I.ok.hd g) s.heap.objs.size a (z4 C) AQ.toArray,⟨⟨_,zw _ rfl,rfl,rfl⟩,pl.isList.push _⟩,?_,λh' tk k=>?_⟩
  ·rw[d];exact Ju ks
  ·have t:AQ.toArray.size=ks.length:=by rw[d];simp
   rw[t,CB];have z:L2.AU X AN σ H { s with heap:=s.heap.push { cls:=.type "list_iterator",data:=.fields #[.ref a,.int 0 0] } }:=I.kept (t':=s.toks) λb o e=>zh _ e;refine⟨.bl _,H,?_,rfl,q _ H (AV.refl H) trivial Pn⟩;obtain⟨f0,f1,f2,p,j,y⟩:=I.UG (b:=s.heap.objs.size) (H':=H) (zl _) (I.hok.fresh (zl _));exact z.turned (it:=s.heap.objs.size) (λb o B e=>k b o (by simpa using B) e) f0 f1 p j y
 ·cases e
end P1
namespace P1
open L2
def gv(i:Nat):Ev->Y Bx:=λρ=>zB ρ i
def vB(g:Bx->Bx->Y Bx)(fa fb:Ev->Y Bx):Ev->Y Bool:=λρ=>(b2 g fa fb ρ).bind Lb
def tV(f:Ev->Y Bx):Ev->Y Bool:=λρ=>(f ρ).bind Rm
def aG:Ev->Y (O Bx):=λ_=>U []
def uq(p:Dt->Bool)(f:Ev->Y Bx):Ev->Y Bx:=b1 (λb=>if mG b=true then Z else U (.z (.bl (p (toD b))))) f
def cY:Ev->Y An:=λρ=>U (.nx ρ)
def cX(f:Ev->Y Bx):Ev->Y An:=λρ=>(f ρ).bind Rp
def B0(i:Nat)(f:Ev->Y Bx):Ev->Y An:=λρ=>(f ρ).bind λb=>(Jd ρ i b).bind λa=>U (.nx a)
def Dv(i:Nat)(f:Ev->Y Bx):Ev->Y An:=λρ=>(f ρ).bind (Vr ρ i)
def mH(fi:Ev->Y (O Dt))(gt:Dt->Ev->Y Ev)(gb:Ev->Y An):Ev->Y An:=λρ=>(fi ρ).bind λds=>pL gt gb ds ρ
def Xp(f:Ev->Y Bx):Ev->Y (O Dt):=λρ=>(f ρ).bind Rq
def G7(f:Ev->Y Bx):Ev->Y (O Dt):=λρ=>(f ρ).bind Vw
def Ij(fs:Ev->Y (O Bx)):Ev->Y (O Dt):=λρ=>(fs ρ).bind Y5
def n6(i:Nat):Dt->Ev->Y Ev:=λd ρ=>U (ρ.set i (U (.z d)))
def vC:Ev->Y Bool:=λ_=>U true
theorem fj:G3 X [] vC:=⟨.inl ⟨rfl,rfl⟩⟩
theorem gK(h:QB X c p):G3 X [c] p:=⟨have h:=h.run;.inr ⟨c,rfl,h⟩⟩
theorem Zn:Dr X scope cl [] []:=trivial
theorem VL{xs:AZ}(n:X.N[i]?=U x)(k:X.env.kindOf x=U .cell\/X.env.kindOf x=U .free)(a:(relabel scope X.env).names.lookup x=U .cell\/(relabel scope X.env).names.lookup x=U .free)(c:∃c,cl.lookup x=U c)(r:Dr X scope cl xs is):Dr X scope cl (x::xs) (i::is):=⟨⟨n,k,a,c⟩,r⟩
theorem mem_of_lookup{a:O (AJ×NameKind)}{x:AJ}{k:NameKind}:a.lookup x=U k->(x,k)∈a:=qr
theorem Zo{xs:AZ}(clos:closureFor scope X.env=pure cl)(kind:scope.kind=.function)(cell:scope.names.all (λy=>decide (y.2≠.cell)||(cl.lookup y.1).isNone)=true)(names:scope.names.all (λy=>decide (y.2=.local->scope.names.lookup y.1=U .local))=true)(sub:C0 X.env.cells cl)(has:(relabel scope X.env).names.all (λy=>!(y.2==.cell||y.2==.free)||(cl.lookup y.1).isSome||scope.names.contains (y.1,.cell))=true)(cap:Dr X scope cl xs is):vA X scope cl xs is where
 clos:=clos
 kind:=kind
 cell:=λy a b=>by
  have:=List.all_eq_true.mp cell y a;simp only[b,ne_eq,not_true_eq_false,jn,db,br]at this;exact this
 names:=λy a=>of_decide_eq_true (List.all_eq_true.mp names y a)
 sub:=sub
 has:=λx hx=>by
  have h:∃k,(relabel scope X.env).names.lookup x=U k/\(k==NameKind.cell||k==NameKind.free)=true:=by
   rcases hx with hx|hx
   ·exact⟨_,hx,rfl⟩
   ·exact⟨_,hx,rfl⟩
  obtain⟨k,e,hk⟩:=h;have:=List.all_eq_true.mp has _ (mem_of_lookup e);simp only[hk,ky,db,cc]at this;rcases this with h|h
  ·exact .inr (ay.mp h)
  ·exact .inl (aE.mp h)
 cap:=cap
theorem zX(r:iD k A):A.units+100<cLine:=by have:=r.un;omega
theorem Zq(h:∀b:O Int,b.length<=63->F [.z (.lst (b.map .int))]=U (.z (.bl true)))(i:∀b:O Int,b.length<=63->F [.l (b.map .int)]=U (.z (.bl true)))(K:B4)(H:Hp)(a:A1)(b:O Int)(e:b.length<=63)(_:CU H)(d:nA K H a (b.map V.int)):
  Qy K 1 F [.ref a] H (λv _=>v=.bl true) λ_ _ _=>False:=by
 have g:∀c:O Int,aF K H (c.map Dt.int) (c.map V.int):=λc=>by
  induction c with
  |nil=>exact aF.nil
  |cons m c j=>exact aF.cons (by unfold AW;rfl) j
 have f:∀v (H':Hp),AV H H'->Nw H (.z (.bl true)) v->aQ K H' (.z (.bl true)) v->v=.bl true:=λv H' _ _ r=>by simpa only[aQ,AW]using r
 rcases d with d|d
 ·exact⟨rfl,[.l (b.map .int)],_,.cons ⟨a,_,rfl,d,g b⟩ .nil,rfl,i b e,f⟩
 ·refine⟨rfl,[.z (.lst (b.map .int))],_,.cons ?_ .nil,rfl,h b e,f⟩;unfold aQ AW;exact⟨a,_,rfl,.inr d,g b⟩
theorem GS{f:A1}(F:Ur K x qual st f fd)(S:bw N ps (aH st))(c:N.length=n)(b:ps.length=m)(d:∀(a:A0) (A:A5) (outer:O Env) (s:A2) (H:Hp) (E:XK),iD k (A.deeper (AK qual (aH st) s.heap.objs.size f a))->Oz (Ai Gz P w K mg base N qual (aH st) f a A outer s H E).Uq (fJ st) g):
  qO P w K mg base Gz (k+1) f fd ps (Qy K m (cQ n g)):=by
 subst c b;exact IS F S d
section
variable{st:Expr}{fs:Ev->Y Bx}
theorem Lx(n:Nat):Builtin.Slice.slicePlaces ((n:Int)-1) (-1) (-1)=n:=by
 unfold Builtin.Slice.slicePlaces;simp only[show ¬ ((-1:Int)>0) by decide,ZH,show -(-1:Int)=1 by decide,Int.ediv_one];split<;>omega
theorem yg{sl:A1}{u:Tok}{Q:Int×Int×Nat->A2->Prop}(hs:s.heap.IsSliceOf sl .none .none (.int (-1) u))(h:Q ((n:Int)-1,-1,n) s):A7 (A8 prog w) A (Builtin.Slice.sliceApplied (.ref sl) (pure (n:Int))) Q E s:=by
 obtain⟨os,b,c,a⟩:=id hs;unfold Builtin.Slice.sliceApplied Builtin.Slice.sliceFields;refine zb (zb (kM b a (x:=.none) S (zb (kM b a (x:=.none) S (zb (kM b a (x:=.int (-1) u) S (zd ?_)))))));refine zb (HT.lC (.int (-1) u) ?_);show A7 _ _ (if((-1:Int)==0)=true then _ else _) _ _ s;rw[zI ()];refine zb (HT.lC .none (zb (HT.lC .none (zb (zd ?_)))));show A7 _ _ (pure ((n:Int)-1,(-1:Int),Builtin.Slice.slicePlaces ((n:Int)-1) (-1) (-1))) _ _ s;rw[Lx];exact zd h
theorem G8{α β:Type}{f:α->Y β}{g:α->β}:∀l:O α,(∀a∈l,f a=U (g a))->l.filterMap f=l.map g
 |[],_=>rfl
 |a::l,h=>by
  rw[ja,h a (ze ..),zo,G8 l λb c=>h b (zg _ c)]
theorem RM(xs:Array A0):((am xs.size).filterMap λ(m:Nat)=>xs[(((xs.size:Nat):Int)-1+(m:Int)*(-1)).toNat]?).toArray=xs.toList.reverse.toArray:=by
 congr 1;rw[G8 (g:=λm=>xs.toList.getD (xs.size-1-m) .none)]
 ·apply dD
  ·simp
  ·intro k h1 h2;have hk:k<xs.size:=by simpa using h1
   rw[k5,List.getElem_range,List.getElem_reverse,QP,Z3 (by simp;omega)];simp
 ·intro m a;have a:=ar.mp a;have e:(((xs.size:Nat):Int)-1+(m:Int)*(-1)).toNat=xs.size-1-m:=by omega
  have b:xs.size-1-m<xs.size:=by omega
  rw[e,Array.getElem?_eq_getElem b,QP,Z3 (by simpa using b)];simp
theorem wJ{t sl:A1}{u:Tok}(a:IsTup s.heap t items)(hs:s.heap.IsSliceOf sl .none .none (.int (-1) u))(h:Q (.ref s.heap.objs.size) { s with heap:=s.heap.push { cls:=.type "tuple",data:=.seq items.toList.reverse.toArray } })(c:items.size<=AA):A7 (A8 prog w) A (getItem (.ref t) (.ref sl)) Q E s:=by
 have b:sizeOk (.seq items.toList.reverse.toArray):=by
  show items.toList.reverse.toArray.size<=AA;rw[zi,bb,kG];exact c
 obtain⟨os,f,e,i⟩:=id hs;have d:s.TypeIs (.ref sl) "slice":=⟨os,f,e⟩;unfold getItem
 try with_reducible refine ZE ?_
 first|refine zb (zd ?_)|skip
 refine zb (kQ a.typeIs () ?_);refine zb (ke (name:=Str.ofString "__getitem__") a.typeIs PyProof.Rows.slot_tuple_getitem
  (JJ PyProof.Rows.slot_tuple_getitem a.typeIs entry_tuple_getitem ?_ (args_tuple_getitem _ _)))
 show A7 _ _ (Builtin.Tuple.tupleItemsOf (.ref t) >>= _) _ _ s;refine zb (tupleItemsOf_ a ?_);refine zb (QI d ?_);rw[zr ()];refine zb (yg hs ?_);have g:¬ ((((items.size:Int)-1)==0&&(-1:Int)==1&&items.size==items.size)=true):=by
  rw[show((-1:Int)==1)=false from rfl,cy,cr];exact z5
 show A7 _ _ (if(((items.size:Int)-1)==0&&(-1:Int)==1&&items.size==items.size)=true then _ else _) _ _ s;rw[zI g,RM]
 first
  |exact zb (m:=Builtin.Tuple.tupleExact _) (qh (zd ⟨_,rfl,zd h⟩) b)
  |exact zb (m:=Builtin.Tuple.tupleExact _) (qh (zb (zd (zd ⟨_,rfl,zd h⟩))) b)
  |exact zb (zb (m:=Builtin.Tuple.tupleExact _) (qh (zd (zd ⟨_,rfl,zd h⟩)) b))
  |exact zb (zb (m:=Builtin.Tuple.tupleExact _) (qh (zd ⟨_,rfl,zd h⟩) b))
def Ly:Bx->Bx->Y Bx
 |.z (.tup ds),.z (.int i)=>if i = -1 then U (.z (.tup ds.reverse))else Z
 |_,_=>Z
theorem aF.rev{K:B4}{H:Hp}:∀{ds:O Dt} {vs:O V},aF K H ds vs->aF K H ds.reverse vs.reverse
 |[],_,h=>by simp only[aF]at h;subst h;exact aF.nil
 |d::ds,_,h=>by
  simp only[aF]at h;obtain⟨v,r,rfl,hd,a⟩:=h;rw[j0,j0];exact aF.append (aF.rev a) (aF.cons hd aF.nil)
theorem PJ{a c:Bx}(h:Ly a b=U c):∃ds,a=.z (.tup ds)/\b=.z (.int (-1))/\c=.z (.tup ds.reverse):=by
 unfold Ly at h;split at h
 ·rename_i ds i;split at h
  ·rename_i hi;subst hi;cases h;exact⟨ds,rfl,rfl,rfl⟩
  ·cases h
 ·cases h
theorem Zr(m:QV X e f)(l:QV X st fs)(C:∀v i:A0,subscripted (.Slice Z Z (U st) p2) false v i=operate [v,i] (getItem v i):=by intro _ _;with_unfolding_all rfl):QV X (.Subscript e (.Slice Z Z (U st) p2) pos) (b2 Ly f fs):=⟨by
 have m:=m.run;have l:=l.run;intro AN s σ H Q I h;obtain⟨H0,ρ,c,E,g,q⟩:=h;obtain⟨a,ea,g⟩:=AT g;obtain⟨b,eb,g⟩:=AT g;refine Subscript_ (jA (m AN s σ H (λx H1=>AV H H1/\aQ X.K H1 a x) I ⟨H0,ρ,a,E,ea,λv H1 n J k=>⟨n,k⟩⟩) λv n ⟨x,H1,I1,k,RN,BM⟩=>?_);refine wpAny_Slice ?_;rw[evalPart_none];refine zd ?_;refine zd ?_;rw[evalPart_some];refine jA (l AN n σ H1 (λy H2=>AV H1 H2/\aQ X.K H2 b y) I1 ⟨H0,ρ,b,E.grow RN,eb,λv H2 d G t=>⟨d,t⟩⟩) λvk d ⟨y,H2,I2,t,sY,DC⟩=>?_;obtain⟨ds,rfl,rfl,rfl⟩:=PJ g;have D:y=.int (-1):=by simpa only[aQ,AW]using DC
 subst D;obtain⟨tk,rfl⟩:=t;obtain⟨p,vs,rfl,sq,B⟩:∃p vs,x=.ref p/\vV X.K H2 p vs/\aF X.K H2 ds vs:=by
  have:=BM.same sY;simpa only[aQ,AW]using this
 cases k;have j:L2.AU X AN σ H2 { d with heap:=d.heap.push { cls:=.type "slice",data:=.fields #[.none,.none,.int (-1) tk] } }:=I2.kept (t':=d.toks) λb F q=>zh _ q;obtain⟨AQ,r,z,u⟩:=j.tuple sq;show A7 (en X) X.A (subscriptTail e (.Slice Z Z (U st) p2) (.ref p) (.ref d.heap.objs.size)) (EP X AN σ Q) X.xe { d with heap:=d.heap.push { cls:=.type "slice",data:=.fields #[.none,.none,.int (-1) tk] } };refine tail_any (ops:=[.ref p,.ref d.heap.objs.size]) z.typeIs PyProof.Rows.slot_tuple_getitem.lookup (wJ z (Heap.IsSliceOf.new ..) ?_ (by rw[zi,<-r.length];exact u)) (C _ _);refine⟨.ref _,_,j.laid (t':=d.toks) (o:=.tup vs.reverse) (λb F q=>zh _ q) (zl _) ?_,rfl,q _ _ ((RN.trans sY).trans (bA (j.hok.fresh (zl _)))) trivial ?_⟩
 ·exact⟨by rw[bb];exact u,_,r.reverse,jT.new _ _⟩
 ·simp only[aQ,AW];exact⟨_,_,rfl,.inl (.inl aU),(aF.rev B).kp (.of (bA (j.hok.fresh (zl _))))⟩⟩
end
def Zt:Bx->Bx->Y Bx
 |.z (.int i),.z (.int j)=>U (.z (.bl (decide (i<j))))
 |.z (.str x),.z (.str y)=>U (.z (.bl (decide (x.cps.toList<y.cps.toList))))
 |_,_=>Z
theorem RQ:IV X (AG .Lt) Zt:=by
 intro AN s σ H x y v u Q I f g h;obtain⟨a,b,c,k,d,e,q⟩:=h;unfold Zt at e;split at e
 ·rename_i i j;cases e;exact IF AN s σ H x y v u Q I f g ⟨i,j,Ln k,Ln d,q _ H (AV.refl H) trivial (by unfold aQ;exact DV)⟩
 ·rename_i i j;cases e;obtain⟨rfl,_⟩:=Pq k;obtain⟨rfl,_⟩:=Pq d;obtain⟨t,rfl⟩:=f;obtain⟨l,rfl⟩:=g;exact PySem.P.lt_str ⟨.bl _,H,I,rfl,q _ H (AV.refl H) trivial (by unfold aQ;exact DV)⟩
 ·cases e
def oH:O Dt->Y AZ
 |[]=>U []
 |.str x::r=>(oH r).bind λys=>U (x::ys)
 |_=>Z
theorem kO{K:B4}{H:Hp}:∀{ds:O Dt} {vs:O V} {ys:AZ},aF K H ds vs->oH ds=U ys->vs=ys.map V.str/\∀y∈ys,y.length<=AA
 |[],_,_,h,e=>by cases e;simp only[aF]at h;subst h;exact⟨rfl,λy a=>by cases a⟩
 |.str x::ds,_,_,h,e=>by
  simp only[oH]at e;obtain⟨ys,e1,e2⟩:=AT e;cases e2;simp only[aF]at h;obtain⟨v,r,rfl,hd,b⟩:=h;obtain⟨rfl,hx⟩:v=.str x/\x.length<=AA:=by simpa only[AW]using hd
  obtain⟨rfl,h2⟩:=kO b e1;refine⟨rfl,λy a=>?_⟩;rcases List.mem_cons.mp a with rfl|a
  ·exact hx
  ·exact h2 y a
 |.non::_,_,_,_,e=>by cases e
 |.bl _::_,_,_,_,e=>by cases e
 |.int _::_,_,_,_,e=>by cases e
 |.tup _::_,_,_,_,e=>by cases e
 |.lst _::_,_,_,_,e=>by cases e
 |.emp::_,_,_,_,e=>by cases e
theorem Jv{K:B4}{H:Hp}:∀{ys:AZ},(∀y∈ys,y.length<=AA)->aF K H (ys.map Dt.str) (ys.map V.str)
 |[],_=>aF.nil
 |y::ys,h=>aF.cons (by unfold AW;exact⟨rfl,h y (ze ..)⟩) (Jv λz a=>h z (zg _ a))
theorem jj:∀{ys:AZ} {AQ:O A0},AX (ys.map V.str) AQ->StrsAre AQ ys
 |[],_,h=>by cases h;exact .nil
 |y::ys,_,h=>by
  cases h with
  |cons r t=>
   obtain⟨tk,rfl⟩:=r;exact .cons y tk (jj t)
theorem Fl:∀{AQ:O A0} {ys:AZ},StrsAre AQ ys->AX (ys.map V.str) AQ
 |_,_,.nil=>.nil
 |_,_,.cons y t h=>.cons ⟨t,rfl⟩ (Fl h)
theorem G9:eY X (.builtin "sorted") (λxs H Q=>∃p ys,xs=[.ref p]/\nA X.K H p (ys.map V.str)/\ys.length<64/\∀l zs,H l=Z->zs.Perm ys->sortedS zs=true->Q (.ref l) (B8 H l (.lst (zs.map V.str)))):=by
 intro AN s σ H xs us Q I r h;obtain⟨p,ys,rfl,m,v,q⟩:=h;obtain⟨u,rfl,i⟩:=BB r;cases i;obtain⟨AQ,c,pl,d⟩:=I.list m;have t:=c.length;rw[zk]at t d;refine sorted_strs pl.isList (jj c) () λf zs k hp j=>?_;obtain⟨n,g⟩:=sortedAll_at s.heap AQ f;refine⟨.ref (s.heap.objs.size+1),_,I.laid (t':=s.toks) (a:=s.heap.objs.size+1) (o:=.lst (zs.map V.str)) (λb o e=>sortedAll_old e) (kP _) ?_,rfl,q _ zs (I.hok.fresh (kP _)) hp j⟩;refine⟨by rw[zk,hp.length_eq];exact d,f.toList,n,Fl k,?_⟩;rw[g]
def zG(a b:AJ):Prop:=ltCps b.cps.toList a.cps.toList=false
theorem wK:∀(p:AJ) (l:AZ),risingS p l=true->(p::l).Pairwise zG
 |p,[],_=>by simp
 |p,x::r,h=>by
  have h':(!ltCps x.cps.toList p.cps.toList&&risingS x r)=true:=h;rw[ZA]at h';have c:=wK x r h'.2;have hx:zG p x:=by simpa[zG]using h'.1
  refine ah.mpr ⟨λy b=>?_,c⟩;rcases List.mem_cons.mp b with rfl|b
  ·exact hx
  ·have a:zG x y:=QR c b;unfold zG at hx a ⊢;rw[ltCps_eq]at hx a ⊢;simp only[qV]at hx a ⊢;exact List.le_trans (α:=Nat) hx a
theorem Hf{l:AZ}(h:sortedS l=true):l.Pairwise zG:=by
 cases l with
 |nil=>exact .nil
 |cons p l=>exact wK p l h
theorem oJ{a b:AJ}(h:zG a b)(h':zG b a):a=b:=by
 unfold zG at h h';rw[ltCps_eq]at h h';simp only[qV]at h h';have:=dE (as:=a.cps.toList) (bs:=b.cps.toList) h h';cases a;cases b;simp only[Str.mk.injEq];exact dL.mp this
theorem Hg:∀{l c:AZ},l.Perm c->l.Pairwise zG->c.Pairwise zG->l=c
 |[],c,h,_,_=>by rw[List.nil_perm.mp h]
 |a::l,[],h,_,_=>by cases List.perm_nil.mp h
 |a::l,b::c,h,p,p'=>by
  have e:a=b:=by
   have f:a∈b::c:=h.mem_iff.mp (ze ..);have d:b∈a::l:=h.mem_iff.mpr (ze ..);rcases List.mem_cons.mp f with h1|h1
   ·exact h1
   ·rcases List.mem_cons.mp d with h2|h2
    ·exact h2.symm
    ·exact oJ (QR p h2) (QR p' h1)
  subst e;rw[Hg ((List.perm_cons a).mp h) (ah.mp p).2 (ah.mp p').2]
def PK(a b:AJ):Bool:=!ltCps b.cps.toList a.cps.toList
def gY(ys:AZ):AZ:=ys.mergeSort PK
theorem cU(ys:AZ):(gY ys).Perm ys:=kF ys PK
theorem lG(ys:AZ):(gY ys).Pairwise zG:=by
 have h:=kf (le:=PK) (λa b c h1 h2=>by
  unfold PK at *
  rw[ltCps_eq]at *
  simp only[Q2,qV]at *
  exact List.le_trans (α:=Nat) h1 h2) (λa b=>by
  unfold PK;rw[ltCps_eq,ltCps_eq];simp only[cc,Q2,qV];exact List.le_total a.cps.toList b.cps.toList) ys
 exact h.imp λ{a b} hh=>by simpa[PK,zG]using hh
theorem RT{ys zs:AZ}(hp:zs.Perm ys)(hs:sortedS zs=true):zs=gY ys:=Hg (hp.trans (cU ys).symm) (Hf hs) (lG ys)
def wL:O Bx->Y Bx
 |[b]=>(jG b).bind λds=>(oH ds).bind λys=>if ys.length<64 then U (.o ((gY ys).map Dt.str))else Z
 |_=>Z
theorem sZ:oA X (.builtin "sorted") wL:=eY.imp G9 λxs H Q q=>by
 obtain⟨bs,c,i,e,q⟩:=q;unfold wL at e;split at e
 ·rename_i b;obtain⟨ds,g,e⟩:=AT e;obtain⟨ys,j,e⟩:=AT e;split at e
  ·rename_i m;cases e;obtain⟨v,rfl,f⟩:=BM i;obtain⟨p,vs,rfl,sq,o⟩:=f.xW g;obtain⟨rfl,n⟩:=kO o j;refine⟨p,ys,rfl,sq,m,λl zs d hp k=>?_⟩;rw[RT hp k];refine q _ _ (bA d) (λa ea=>by cases ea;exact d) ⟨l,_,rfl,aU,Jv λy h=>n y ((cU ys).mem_iff.mp h)⟩
  ·cases e
 ·cases e
def Fo(x:AJ)(b:Bx):Y Bx:=(jG b).bind λds=>(oH ds).bind λys=>if(ys.map (·.length)).sum+ys.length*x.length<=100000 then U (.z (.str (Txt.join x ys)))else Z
theorem VN:DB X "str.join" (λx xs H Q=>∃y p ys,x=.str y/\xs=[.ref p]/\nA X.K H p (ys.map V.str)/\(ys.map (·.length)).sum+ys.length*y.length<=100000/\Q (.str (Txt.join y ys)) H):=by
 intro AN s σ H x xs v us Q I a d h;obtain⟨y,p,ys,rfl,rfl,sq,g,q⟩:=h;obtain⟨t,rfl⟩:=a;obtain⟨u,rfl,c⟩:=BB d;cases c;obtain⟨AQ,b,pl,f⟩:=I.list sq;exact join_list pl.isList (jj b) () λe k=>⟨.str _,H,I.tok _,⟨_,rfl⟩,q⟩
theorem VP{p1:Pos}(h:QV X e f)(hx:x.length<=AA:=by decide)(k:attributeBase (.Constant (.str x) j p1) "join" X.env (eval (.Constant (.str x) j p1) X.env)=eval (.Constant (.str x) j p1) X.env:=by rfl)(i:((AD cpos (A9 [e] X.env)).all (λx=>!x.1)&&(backToKw cpos (keywordEach [] X.env)).all (λx=>x.1.isSome)&&decide ([e].length+([]:O AC).length+(if([]:O AC).isEmpty then 0 else 1)<30))=true:=by rfl)(s:(apos.endLine==cpos.line)=true:=by rfl)(hs:A9 [e] X.env=(false,eval e X.env)::A9 [] X.env:=by rfl):QV X (.Call (.Attribute (.Constant (.str x) j p1) "join" apos) [e] [] cpos) (b1 (Fo x) f):=⟨have h:=h.run;Ih (Iz (T :="str") F.plainAttrs_str F.slot_str_join F.type_str_join VN (Rk (hx:=hx)) (Jc h Nv hs) k i s hs S) λσ H Q q=>by
  obtain⟨H0,ρ,c,E,e,q⟩:=q;obtain⟨a,ea,e⟩:=AT e;refine⟨H0,ρ,_,E,rfl,λv H1 b z g=>?_⟩;obtain⟨rfl,y⟩:v=.str x/\x.length<=AA:=by simpa only[aQ,AW]using g
  refine⟨rfl,H0,ρ,[a],E.grow b,by simp only[ak,ea,dP],λvs H2 m n=>?_⟩;obtain⟨w,rfl,o⟩:=BM n;unfold Fo at e;obtain⟨ds,d,e⟩:=AT e;obtain⟨ys,l,e⟩:=AT e;split at e
  ·rename_i t;cases e;obtain⟨p,ws,rfl,sq,u⟩:=o.xW d;obtain⟨rfl,A⟩:=kO u l;refine⟨x,p,ys,rfl,rfl,sq,t,q _ _ (b.trans m) trivial ?_⟩;unfold aQ AW;exact⟨rfl,joinOk_length (joinOk_of ())⟩
  ·cases e⟩
section
variable{ek o:Expr}{fk:Ev->Y Bx}{pos':Pos}
end
section
variable{a b:Expr}{fs:Ev->Y (O Bx)}
theorem aW{j}(hx:x.length<=AA:=by decide):QV X (.Constant (.str x) j pos) (cB (.str x)):=⟨P1.Rk (hx:=hx)⟩
end
section
variable{a b:Expr}{fs:Ev->Y (O Bx)}
variable{AS:O Expr}
theorem aj(h1:QV X e f)(h2:Us X es fs)(hs:A9 (e::es) X.env=(false,eval e X.env)::A9 es X.env:=by rfl):Us X (e::es) (ak f fs):=⟨P1.Jc (h1:=h1.run) (h2:=h2.run) (hs:=hs)⟩
theorem aA  :Us X [] (λ_=>U []):=⟨P1.Nv ⟩
end
theorem KT{f:A1}(F:Ur K x qual st f fd)(S:bw N ps (aH st))(c:N.length=n)(b:ps.length=m)(e:∀(a:A0) (A:A5) (outer:O Env) (s:A2) (H:Hp) (E:XK),iD k (A.deeper (AK qual (aH st) s.heap.objs.size f a))->KR (Ai Gz P w K mg base N qual (aH st) f a A outer s H E).Uq (fJ st) g):
  qO P w K mg base Gz (k+1) f fd ps (Qy K m (cQ n g)):=GS F S c b λa A outer s H E d=>(e a A outer s H E d).run
theorem bh.abM(E:bh K H0 H σ ρ)(i:Nat):bh K H0 H σ (ρ.set i Z):=by
 have d:∀(j:Nat) (b:Bx),(ρ.set i Z)[j]?=U (U b)->ρ[j]?=U (U b):=λj b e=>by
  rw[kn]at e;split at e
  ·split at e<;>cases e
  ·exact e
 refine⟨by rw[JS];exact E.len,λj b e=>E.val j b (d j b e),λj k c a b e1 f e2 e3 h g=>E.own j k c a b (d _ _ e1) f e2 (d _ _ e3) h g,E.base,λj c a e1 f e2=>E.new j c a (d _ _ e1) f e2⟩
def kill(is:O Nat)(ρ:Ev):Ev:=is.foldl (λρ i=>ρ.set i Z) ρ
theorem bh.kill{K:B4}{H0 H:Hp}{σ:L2.St}:∀(is:O Nat) {ρ:Ev},bh K H0 H σ ρ->bh K H0 H σ (P1.kill is ρ)
 |[],_,E=>E
 |i::is,_,E=>bh.kill is (E.abM i)
def d7(is:O Nat):Ev->Y An:=λρ=>U (.nx (kill is ρ))
theorem RV{c:O AB}(is:O Nat)(h:Oz X c g):Oz X c (aD g (d7 is)):=Vm h λD σ H q=>by
 obtain⟨H0,ρ,r,E,e,q⟩:=q;obtain⟨a,e1,e⟩:=AT e;refine⟨H0,ρ,a,E,e1,?_⟩;cases a with
 |nx f=>cases e;exact λσ' H' d=>q σ' H' (d.kill is)
 |rt b=>cases e;exact q
 |bk b=>cases e;exact q
 |ct b=>cases e;exact q
theorem bR{a:O AB}(is:O Nat)(h:KR X a g):KR X a (aD g (d7 is)):=⟨RV is h.run⟩
end P1
namespace S1
section
variable(rk:A0->Nat)
def at_(xs:Array Keyed)(i:Nat):Nat:=match xs[i]? with
 |some p=>rk p.1
 |none=>0
def Up(xs:Array Keyed)(k:Nat):Prop:=∀i j,i<=j->j<k->at_ rk xs i<=at_ rk xs j
def CD(xs:Array Keyed)(k:Nat):Prop:=∀i j,i<=j->j<k->at_ rk xs j<=at_ rk xs i
structure Bs (kd:SortKind) (b:Array Keyed) (st:SortSt):Prop where
 pm:(arrOf st).Perm b
 kd:kindOf st=kd
 fl:failedOf st=none
 pd:pendingOf st=#[]
variable{rk}{kd:SortKind}{b:Array Keyed}
theorem Bs.sz{st:SortSt}(h:Bs kd b st):(AM st).size=b.size:=h.pm.size_eq
theorem Bs.arr{st:SortSt}{xs:Array Keyed}(h:Bs kd b st)(hp:xs.Perm (AM st)):Bs kd b (PyProof.Rows.setArr st xs):=⟨hp.trans h.pm,h.kd,h.fl,h.pd⟩
theorem qW{xs ys:Array Keyed}(h:xs[i]?=ys[j]?):at_ rk xs i=at_ rk ys j:=by unfold at_;rw[h]
theorem RW{xs:Array Keyed}{p d:Nat}(hs:p<xs.size)(hd:d<=p)(k:Nat):at_ rk (bubble xs p d) k=if k=p-d then at_ rk xs p else if p-d<k/\k<=p then at_ rk xs (k-1)else at_ rk xs k:=by
 have e:=getElem?_bubble hs d hd k;by_cases q:k=p-d
 ·simp only[zr q]at e ⊢;exact qW e
 ·simp only[zI q]at e ⊢;by_cases q2:p-d<k/\k<=p
  ·simp only[zr q2]at e ⊢;exact qW e
  ·simp only[zI q2]at e ⊢;exact qW e
theorem Lz{xs:Array Keyed}(a:j<=xs.size)(k:Nat):at_ rk (mirror xs i j ((j-i) / 2)) k=if i<=k/\k<j then at_ rk xs (i+j-1-k)else at_ rk xs k:=by
 have e:=getElem?_mirror_all (i:=i) a k;by_cases q:i<=k/\k<j
 ·simp only[zr q]at e ⊢;exact qW e
 ·simp only[zI q]at e ⊢;exact qW e
theorem wM{xs:Array Keyed}(b:j<=xs.size)(a:∀k,i<=k->k<j->at_ rk xs k=at_ rk xs (j-1))(k:Nat):at_ rk (mirror xs i j ((j-i) / 2)) k=at_ rk xs k:=by
 rw[Lz b];by_cases q:i<=k/\k<j
 ·rw[zr q,a (i+j-1-k) () (),a k q.1 q.2]
 ·rw[zI q]
end
section
variable{b:Array Keyed}{kd:SortKind}{rk:A0->Nat}
def RX(prog:A3)(w:A4)(A:A5)(s:A2)(kd:SortKind)(rk:A0->Nat)(b:Array Keyed):Prop:=
 ∀(E:BE) (p q:Keyed) (Q:Bool->A2->Prop),p∈b.toList->q∈b.toList->Q (decide (rk p.1<rk q.1)) s->A7 (A8 prog w) A (keyLt' kd p.1 q.1) Q E s
theorem Jw{st:SortSt}{Q:Y Bool->SortSt->Prop}(f:RX prog w A s kd rk b)(B:Bs kd b st)(hi:i<b.size)(d:j<b.size)(h:Q (U (decide (at_ rk (AM st) i<at_ rk (AM st) j))) st):wpS (A8 prog w) A E s (ltAt' i j) Q st:=by
 have get:∀k,k<b.size->∃p,(AM st)[k]?=U p/\p∈b.toList:=λk hk=>by
  have a:k<(AM st).size:=by rw[B.sz];exact hk
  exact⟨(AM st)[k],getElem?_pos _ k a,(al.mp B.pm).mem_iff.mp (by simp)⟩
 obtain⟨p,e1,c⟩:=get i hi;obtain⟨q,e2,e⟩:=get j d;have h:Q (U (decide (rk p.1<rk q.1))) st:=by unfold at_ at h;rw[e1,e2]at h;exact h
 rw[ltAt'_eq];refine AL (wpS_get ?_);show wpS _ _ _ _ (elem' (AM st) i >>= λx=>elem' (AM st) j >>= λy=>lt' x y) Q st;rw[elem'_eq,elem'_eq,e1,e2];refine AL (wpS_pure ?_);refine AL (wpS_pure ?_);rw[lt'_eq];refine AL (wpS_get ?_);rw[B.kd];exact AL (wpS_lift (wpAny_attempt (f _ p q _ c e ⟨rfl,wpS_pure h⟩)))
theorem FE{st:SortSt}{a:Nat}{Q:AscSt->SortSt->Prop}(l:RX prog w A s kd rk b)(p:n<=b.size)(v:1<=a)(g:a<=n)(B:Bs kd b st)(hs:Up rk (AM st) a)(h:∀m,a<=m->m<=n->Up rk (AM st) m->(m=n\/at_ rk (AM st) m<at_ rk (AM st) (m-1))->Q (Z,m) st):wpS (A8 prog w) A E s (ascLoop a n) Q st:=by
 unfold ascLoop;refine wpS_forRange (I:=λx c t=>t=st/\c=(Z,x)/\Up rk (AM st) x) ?_ ?_ ⟨rfl,rfl,hs⟩
 ·rintro x c t f u ⟨rfl,rfl,d⟩;refine AL (Jw l B () () ?_);by_cases q:at_ rk (AM t) x<at_ rk (AM t) (x-1)
  ·simp only[q,kA,ZT];exact wpS_pure (h x f () d (.inr q))
  ·simp only[q,jn,zv,ZH];refine wpS_pure ⟨rfl,rfl,λi j k o=>?_⟩;by_cases hx:j<x
   ·exact d i j k hx
   ·have e:j=x:=by omega
    subst e;by_cases hi:i=j
    ·rw[hi];exact zl _
    ·have:=d i (j-1) () ();omega
 ·rintro c t ⟨rfl,rfl,d⟩;rw[show max a n=n by omega]at d ⊢;exact h n g (zl _) d (.inl S)
theorem t3{st:SortSt}{Q:Y Nat->SortSt->Prop}(g:RX prog w A s kd rk b)(e:n<=b.size)(h1:1<=m)(d:m<=n)(B:Bs kd b st)(hs:CD rk (AM st) m)(h:∀k t,Bs kd b t->1<=k->k<=n->Up rk (AM t) k->Q (U k) t):wpS (A8 prog w) A E s (tail3 m n) Q st:=by
 unfold tail3;have c:m<=(AM st).size:=by rw[B.sz];omega
 refine AL (wpS_reverse ?_);have a:Bs kd b (PyProof.Rows.setArr st (mirror (AM st) 0 m ((m-0) / 2))):=B.arr (mirror_perm _ _ _ _);refine AL (FE g e h1 d a (λi j q p=>?_) λk o l f _=>wpS_pure (h k _ a () l f));show at_ rk (mirror (AM st) 0 m ((m-0) / 2)) i<=at_ rk (mirror (AM st) 0 m ((m-0) / 2)) j;rw[Lz c,Lz c,zr ⟨by omega,by omega⟩,zr ⟨by omega,by omega⟩];exact hs _ _ () ()
theorem II{st:SortSt}{Q:DescSt->SortSt->Prop}(l:RX prog w A s kd rk b)(C:n<=b.size)(h1:1<=m)(o:m<=n)(B:Bs kd b st)(hs:CD rk (AM st) m)(h:∀k e t,Bs kd b t->m<=k->k<=n->CD rk (AM t) k->e+1<=k->(∀i,k-(e+1)<=i->i<k->at_ rk (AM t) i=at_ rk (AM t) (k-1))->Q (Z,k,e) t):wpS (A8 prog w) A E s (descLoop m n) Q st:=by
 unfold descLoop;refine wpS_forRange (I:=λx c t=>∃e,c=(Z,x,e)/\Bs kd b t/\CD rk (AM t) x/\e+1<=x/\∀i,x-(e+1)<=i->i<x->at_ rk (AM t) i=at_ rk (AM t) (x-1)) ?_ ?_ ⟨0,rfl,B,hs,by omega,λi q1 q2=>by rw[show i=m-1 by omega]⟩
 ·rintro x c t p D ⟨e,rfl,a,dn,f,d⟩;have u:x<=(AM t).size:=by rw[a.sz];omega
  have grow:∀xs:Array Keyed,(∀k,at_ rk xs k=at_ rk (AM t) k)->at_ rk (AM t) x<=at_ rk (AM t) (x-1)->CD rk xs (x+1):=λxs hk F i j y z=>by
   rw[hk,hk];by_cases hx:j<x
   ·exact dn i j y hx
   ·have v:j=x:=by omega
    subst v;by_cases hi:i=j
    ·rw[hi];exact zl _
    ·have:=dn i (j-1) () ();omega
  dsimp only;refine AL (Jw l a () () ?_);by_cases q:at_ rk (AM t) x<at_ rk (AM t) (x-1)
  ·simp only[q,kA,ZT];by_cases g:e>0
   ·rw[zr g];exact AL (wpS_reverse (wpS_pure ⟨0,rfl,a.arr (mirror_perm _ _ _ _),grow _ (wM u d) (),by omega,λi q1 q2=>by rw[show i=x by omega];rfl⟩))
   ·rw[zI g];exact wpS_pure ⟨0,rfl,a,grow _ (λ_=>S) (),by omega,λi q1 q2=>by rw[show i=x by omega];rfl⟩
  ·simp only[q,jn,zv,ZH];refine AL (Jw l a () () ?_);by_cases q2:at_ rk (AM t) (x-1)<at_ rk (AM t) x
   ·simp only[q2,kA,ZT];exact wpS_pure (h x e t a p () dn f d)
   ·simp only[q2,jn,zv,ZH];refine wpS_pure ⟨e+1,rfl,a,grow _ (λ_=>S) (),by omega,λi q3 G=>?_⟩;rw[show x+1-1=x by omega];by_cases hi:i=x
    ·rw[hi]
    ·rw[d i () ()];omega
 ·rintro c t ⟨e,rfl,a,dn,f,d⟩;rw[show max m n=n by omega]at dn f d ⊢;exact h n e t a o (zl _) dn f d
theorem Xq{st:SortSt}{Q:Y Nat->SortSt->Prop}(d:RX prog w A s kd rk b)(c:n<=b.size)(p:m+1<=n)(B:Bs kd b st)(hs:CD rk (AM st) (m+1))(h:∀k t,Bs kd b t->1<=k->k<=n->Up rk (AM t) k->Q (U k) t):wpS (A8 prog w) A E s (descPart m n) Q st:=by
 unfold descPart;refine AL (wpS_lift (JA ⟨rfl,?_⟩));refine AL (II d c () p B hs λk e t a x g dn v l=>?_);have f:k<=(AM t).size:=by rw[a.sz];omega
 by_cases o:e>0
 ·simp only[zr o];refine AL (wpS_reverse (t3 d c () g (a.arr (mirror_perm _ _ _ _)) (λi j u q=>?_) h));show at_ rk (mirror (AM t) _ _ _) j<=at_ rk (mirror (AM t) _ _ _) i;rw[wM f l,wM f l];exact dn i j u q
 ·simp only[zI o];exact t3 d c () g a dn h
theorem GL{st:SortSt}{Q:Y Nat->SortSt->Prop}(c:RX prog w A s kd rk b)(d:n<=b.size)(h1:1<=n)(B:Bs kd b st)(h:∀k t,Bs kd b t->1<=k->k<=n->Up rk (AM t) k->Q (U k) t):wpS (A8 prog w) A E s (countRun' 0 n) Q st:=by
 rw[countRun0_eq];refine AL (FE c d (zl 1) h1 B (λi j p g=>by rw[show i=j by omega];exact zl _) λm f o a or=>?_);by_cases e:m=n
 ·simp only[zr (show(m==n)=true by simpa using e)];exact wpS_pure (h m st B f o a)
 ·simp only[zI (show ¬ (m==n)=true by simpa using e)];have lt:=or.resolve_left e;have l:m<=(AM st).size:=by rw[B.sz];omega
  by_cases g1:m>1
  ·rw[zr g1];refine AL (Jw c B () () ?_);by_cases q:at_ rk (AM st) 0<at_ rk (AM st) (m-1)
   ·simp only[q,kA,ZT];exact wpS_pure (h m st B f o a)
   ·simp only[q,jn,zv,ZH];have all:∀k,0<=k->k<m->at_ rk (AM st) k=at_ rk (AM st) (m-1):=λk _ hk=>by
     have a1:=a 0 k () hk;have a2:=a k (m-1) () ();omega
    refine AL (wpS_reverse (Xq c d () (B.arr (mirror_perm _ _ _ _)) (λi j p g=>?_) h));show at_ rk (mirror (AM st) _ _ _) j<=at_ rk (mirror (AM st) _ _ _) i;rw[wM l all,wM l all];by_cases u:j<m
    ·rw[all i () (),all j () u];exact zl _
    ·have v:j=m:=by omega
     subst v;by_cases hi:i=j
     ·rw[hi];exact zl _
     ·rw[all i () ()];omega
  ·rw[zI g1];have e1:m=1:=by omega
   subst e1;refine Xq c d () B (λi j p g=>?_) h;by_cases hi:i=j
   ·rw[hi];exact zl _
   ·rw[show i=0 by omega,show j=1 by omega];exact Q1 lt
theorem F2{st:SortSt}{g:Nat}{Q:Bool->SortSt->Prop}(C:RX prog w A s kd rk b)(H:n<=b.size)(L:g<=n)(B:Bs kd b st)(hs:Up rk (AM st) g)(h:∀t,Bs kd b t->Up rk (AM t) n->Q true t):wpS (A8 prog w) A E s (binarySort' 0 n g) Q st:=by
 rw[binarySort'_eq];simp only[bz];refine AL (wpS_mono (wpS_forRange (I:=λk c t=>c=(Z,eu)/\Bs kd b t/\Up rk (AM t) (min k n)) (Q:=λc t=>c=(Z,eu)/\Bs kd b t/\Up rk (AM t) n) ?_ ?_ ?_) ?_)
 ·rintro k c t K G ⟨rfl,f,d⟩;rw[show min k n=k by omega]at d;have hk:k<b.size:=by omega
  refine AL (wpS_mono (wpS_forRange (I:=λx c a=>a=t/\∃l r,c=(Z,l,r)/\l<=r/\r<=k/\r-l<=k-x/\(∀i,i<l->at_ rk (AM t) i<=at_ rk (AM t) k)/\(∀i,r<=i->i<k->at_ rk (AM t) k<at_ rk (AM t) i))
   (Q:=λc a=>a=t/\∃l r,c=(Z,l,r)/\l<=k/\(∀i,i<l->at_ rk (AM t) i<=at_ rk (AM t) k)/\(∀i,l<=i->i<k->at_ rk (AM t) k<at_ rk (AM t) i)) ?_ ?_ ?_) ?_)
  ·rintro x c a _ hx ⟨rfl,l,r,rfl,v,m,F,lo,hi⟩;dsimp only;by_cases o:l>=r
   ·rw[zr o];have e:l=r:=by omega
    subst e;exact wpS_pure ⟨rfl,l,l,rfl,m,lo,hi⟩
   ·rw[zI o];refine AL (Jw C f hk () ?_);by_cases q:at_ rk (AM a) k<at_ rk (AM a) ((l+r) / 2)
    ·simp only[q,kA,ZT];refine wpS_pure ⟨rfl,l,(l+r) / 2,rfl,by omega,by omega,by omega,lo,λi q1 q2=>?_⟩;have:=d ((l+r) / 2) i q1 q2;omega
    ·simp only[q,jn,zv,ZH];refine wpS_pure ⟨rfl,(l+r) / 2+1,r,rfl,by omega,by omega,by omega,λi q1=>?_,hi⟩;have:=d i ((l+r) / 2) () ();omega
  ·rintro c a ⟨rfl,l,r,rfl,v,m,F,lo,hi⟩;have e:l=r:=by omega
   subst e;exact⟨rfl,l,l,rfl,m,lo,hi⟩
  ·exact⟨rfl,0,k,rfl,by omega,by omega,by omega,λi hi=>by omega,λi q1 q2=>by omega⟩
  ·rintro c a ⟨rfl,l,r,rfl,J,lo,hi⟩;show wpS _ _ _ _ (moveDown' k l >>= λ_=>pure (ForInStep.yield (Z,eu))) _ _;rw[moveDown'_eq];refine AL (wpS_modify (wpS_pure ⟨rfl,f.arr (bubble_perm _ _ _),?_⟩));rw[show min (k+1) n=k+1 by omega];have p:k<(AM a).size:=by rw[f.sz];exact hk
   intro i j u D;show at_ rk (bubble (AM a) k (k-l)) i<=at_ rk (bubble (AM a) k (k-l)) j;rw[RW p (),RW p (),show k-(k-l)=l by omega]
   repeat' split
   all_goals first
    |(exfalso;omega)
    |exact zl _
    |exact lo _ ()
    |exact Q1 (hi _ () ())
    |exact d _ _ () ()
 ·rintro c t ⟨y,f,d⟩;refine⟨y,f,?_⟩;rwa [show min (max (max g 1) n) n=n by omega]at d
 ·refine⟨rfl,B,λi j u D=>?_⟩;by_cases z:g=0
  ·rw[show i=j by omega];exact zl _
  ·exact hs i j u ()
 ·rintro c t ⟨rfl,f,d⟩;exact wpS_pure (h t f d)
def Dn(kd:SortKind)(rk:A0->Nat)(b:Array Keyed)(st:SortSt):Prop:=(AM st).Perm b/\failedOf st=Z/\pendingOf st=#[(0,b.size,0)]/\Up rk (AM st) b.size
theorem Bs.dn{st:SortSt}(B:Bs kd b st)(a:Up rk (AM st) b.size):Dn kd rk b (setPending st ((pendingOf st).push (0,b.size,0))):=⟨B.pm,B.fl,(by show(pendingOf st).push _=_;rw[B.pd];rfl),a⟩
theorem EW{st:SortSt}{Q:Unit->SortSt->Prop}(j:RX prog w A s kd rk b)(B:Bs kd b st)(h2:2<=b.size)(v:b.size<64)
  (h:∀t,(AM t).Perm b->failedOf t=Z->Up rk (AM t) b.size->Q eu t):wpS (A8 prog w) A E s sortRuns' Q st:=by
 rw[sortRuns'_eq];refine AL (wpS_get ?_);have k:minRun' b.size b.size 0=b.size:=by
  obtain⟨f,y⟩:∃f,b.size=f+1:=⟨b.size-1,by omega⟩;have q:minRun' (f+1) b.size 0=b.size:=(minRun'_succ f b.size 0).trans (zr v);rwa [<-y]at q
 simp only[B.sz,k];have i:∀{t:SortSt},Bs kd b t->(pendingOf t).back?=Z:=λB=>by rw[B.pd];rfl
 refine AL (wpS_mono (wpS_forRange (I:=λx c t=>(x=0/\c=(Z,0)/\Bs kd b t)\/(1<=x/\c=(Z,b.size)/\Dn kd rk b t)) (Q:=λc t=>c=(Z,b.size)/\Dn kd rk b t) ?_ ?_ (.inl ⟨rfl,rfl,B⟩)) ?_)
 ·rintro x c t _ hx (⟨rfl,rfl,n⟩|⟨C,rfl,D⟩)
  ·dsimp only;rw[zI ()];simp only[Nat.sub_zero,dm,bz];refine AL (GL j (zl _) () n λm t2 a z p g=>?_);dsimp only;by_cases lt:m<b.size
   ·rw[zr lt];refine AL (wpS_lift (JA ⟨rfl,AL (F2 j (zl _) p a g λt3 d o=>?_)⟩));simp only[ky,zv,ZH];refine AL (wpS_get ?_);rw[i d];exact AL (wpS_modify (wpS_pure (.inr ⟨by omega,rfl,d.dn o⟩)))
   ·rw[zI lt];have e:m=b.size:=by omega
    subst e;refine AL (wpS_get ?_);rw[i a];exact AL (wpS_modify (wpS_pure (.inr ⟨by omega,rfl,a.dn g⟩)))
  ·dsimp only;rw[zr (zl _)];exact wpS_pure ⟨rfl,D⟩
 ·rintro c t (⟨hx,_,_⟩|⟨_,l,D⟩)
  ·omega
  ·exact⟨l,D⟩
 ·rintro c t ⟨rfl,D⟩;dsimp only;refine AL (wpS_mono (wpS_forRange (I:=λ_ c u=>u=t/\c=(Z,eu)) (Q:=λc u=>u=t/\c=(Z,eu)) ?_ (λ_ _ q=>q) ⟨rfl,rfl⟩) ?_)
  ·rintro x c u _ _ ⟨rfl,rfl⟩;refine AL (wpS_get ?_);rw[zr (by rw[D.2.2.1];exact zl 1)];exact wpS_pure ⟨rfl,rfl⟩
  ·rintro c u ⟨rfl,rfl⟩;exact wpS_pure (h _ D.1 D.2.1 D.2.2.2)
def E6(a:A1)(s s':A2):Prop:=∀c o,c≠a->s.heap.get? c=U o->s'.heap.get? c=U o
theorem K2{vs:O A0}{P:Fin->A2->Prop}(b:s.heap.get? a=U (seqObj "list" vs.toArray n))(k:2<=vs.length->∀s',E6 a s s'->∀Q:SortKind->A2->Prop,Q kd s'->A7 (A8 prog w) A (keyKind' vs.toArray) Q E s')(x:∀s',E6 a s s'->RX prog w A s' kd rk (pairsOf vs))(u:vs.length<64)(h:∀st:SortSt,(AM st).Perm (pairsOf vs)->Up rk (AM st) (pairsOf vs).size->P (.done (.ret .none)) { s with heap:=sortedHeap s.heap a vs ((AM st).map (·.2)) }):
  A7 (A8 prog w) A (Builtin.«list.sort» ⟨[.ref a],[]⟩) P E s:=by
 rw[list_sort_plain];have p:=zt b;refine zb (listItems_at b S (zb (listUpdate_at b S ?_)));obtain⟨e1,g1⟩:∃e1,(s.heap.update a (Obj.mapSeq λ_=>#[])).get? a=U (seqObj "list" #[] e1):=⟨_,get?_update_seq b λ_=>#[]⟩;refine zb (seqEpoch_at g1 S (zb (wpAny_newTuple (zb (kU (ZE ?_))))));have z1:(s.heap.update a (Obj.mapSeq λ_=>#[])).objs.size=s.heap.objs.size:=dQ ..;have keep:∀c,c<s.heap.objs.size->(((s.heap.update a (Obj.mapSeq λ_=>#[])).push (seqObj "tuple" vs.toArray 0)).push (seqObj "list" #[] 0)).get? c=(s.heap.update a (Obj.mapSeq λ_=>#[])).get? c:=λc d=>by
  rw[dy _ _ _ (by rw[size_push',z1];exact z4 (km d)),dy _ _ _ (by rw[z1];exact z4 d)]
 have f:=(keep a p).trans g1;have old:E6 a s { s with heap:=((s.heap.update a (Obj.mapSeq λ_=>#[])).push (seqObj "tuple" vs.toArray 0)).push (seqObj "list" #[] 0) }:=λc o d e=>by
  show(((s.heap.update a (Obj.mapSeq λ_=>#[])).push (seqObj "tuple" vs.toArray 0)).push (seqObj "list" #[] 0)).get? c=U o;rw[keep c (zt e),de _ _ _ _ d];exact e
 show A7 _ _ _ _ _ { s with heap:=((s.heap.update a (Obj.mapSeq λ_=>#[])).push (seqObj "tuple" vs.toArray 0)).push (seqObj "list" #[] 0) };have y:vs.toArray.size=vs.length:=by simp
 have g:∀st:SortSt,(AM st).Perm (pairsOf vs)->((AM st).map (·.2)).size<=AA+1:=λst hp=>by
  have q:((AM st).map (·.2)).size=vs.length:=(Array.size_map ..).trans (hp.size_eq.trans (pairsOf_size _));rw[q,sizeLine_eq];omega
 by_cases h2:vs.toArray.size<2
 ·simp only[zr h2];refine zb (zd ?_);rw[StateT.run_pure];refine zb (zd (zb (seqEpoch_at f S (zb (listUpdate_at f S ?_ (hsz2:=g (SortSt.mk' general' (pairsOf vs) #[] 7 Z) (Array.Perm.refl _)))))));simp only[bne_self_eq_false,zv,ZH];refine zd (h (SortSt.mk' general' (pairsOf vs) #[] 7 Z) (Array.Perm.refl _) λi j z l=>?_);rw[pairsOf_size]at l;rw[show i=j by omega];exact zl _
 ·simp only[zI h2];refine zb (k () _ old _ ?_);refine zb (ZI (EW (x _ old) (st:=SortSt.mk' kd (pairsOf vs) #[] 7 Z) (Q:=λ_ t=>(AM t).Perm (pairsOf vs)/\failedOf t=Z/\Up rk (AM t) (pairsOf vs).size) ⟨Array.Perm.refl _,rfl,rfl,rfl⟩ (by rw[pairsOf_size];omega) (by rw[pairsOf_size];exact u) λt q1 q2 q3=>⟨q1,q2,q3⟩) ?_ λ_ _ q=>q);rintro⟨⟨⟩,t⟩ s' ⟨rfl,hp,v,m⟩;dsimp only;refine zb (seqEpoch_at f S (zb (listUpdate_at f S ?_ (hsz2:=g t hp))));rw[v];simp only[bne_self_eq_false,zv,ZH];exact zd (h t hp m)
theorem Fp{x:A0}{vs:O A0}(p:∀(b:BE) (f:O A0->A2->Prop),(∀h' tk,s.heap.objs.size<=h'.objs.size->(∀c o,s.heap.get? c=U o->h'.get? c=U o)->f vs { s with heap:=h',toks:=tk })->A7 (A8 prog w) A.in1 (collect x) f b s)(k:2<=vs.length->∀(b:BE) (a:A5) (s':A2),(∀c o,s.heap.get? c=U o->s'.heap.get? c=U o)->∀Q:SortKind->A2->Prop,Q kd s'->A7 (A8 prog w) a (keyKind' vs.toArray) Q b s')(u:∀(a:A5) (s':A2),(∀c o,s.heap.get? c=U o->s'.heap.get? c=U o)->RX prog w a s' kd rk (pairsOf vs))(t:vs.length<64)(h:∀(l:A1) (h':A6) (tk n:Nat) (st:SortSt),(AM st).Perm (pairsOf vs)->Up rk (AM st) (pairsOf vs).size->s.heap.objs.size<=l->(∀c o,s.heap.get? c=U o->h'.get? c=U o)->h'.get? l=U (seqObj "list" ((AM st).map (·.2)) n)->Q (.ref l) { s with heap:=h',toks:=tk }):
  A7 (A8 prog w) A (call (.builtin "sorted") [x]) Q E s:=by
 refine Calls.call_function_entry kind_sorted plain_sorted entry_sorted (args_sorted1 _) ?_;unfold Builtin.«sorted»;refine zb (m:=checkCount "sorted" 1 1 _) (zd (zb (p _ _ λh1 tk i ext=>zb (kU ?_))));have d:(h1.push (seqObj "list" vs.toArray 0)).get? h1.objs.size=U (seqObj "list" vs.toArray 0):=zw _ rfl;have old:∀s':A2,E6 h1.objs.size { s with heap:=h1.push (seqObj "list" vs.toArray 0),toks:=tk } s'->∀c o,s.heap.get? c=U o->s'.heap.get? c=U o:=λs' q c o e=>
  q c o (z4 (zt (ext c o e))) (zh _ (ext c o e))
 refine zb (ZE (JJ slot_list_sort ⟨_,d,rfl⟩ entry_list_sort (K2 d (λq s' o=>k q _ _ s' (old s' o)) (λs' o=>u _ s' (old s' o)) t λst q1 q2=>⟨_,rfl,zd ⟨_,rfl,?_⟩⟩) (args_list_sort _)));obtain⟨n,j⟩:=sortedHeap_at (out:=(AM st).map (·.2)) d;refine h h1.objs.size _ tk n st q1 q2 i (λc o e=>?_) j;have g:=zt (ext c o e);rw[sortedHeap_old (z4 g) (by rw[JE];exact km g)];exact zh _ (ext c o e)
end
end S1
namespace S1
open L2
theorem yh(fb:Bool)(x y:A0):keyLt' (tuples' fb) x y=(do
  let xs <-Builtin.List.listItems x
  let ys <-Builtin.List.listItems y
  for ((p,q),i) in (xs.toList.zip ys.toList).zipIdx do
   if !(<-eqBool p q)then return <-oneLt' (fb&&i==0) p q
  return decide (xs.size<ys.size)):=rfl
def NP:AY->AY->Bool
 |.inl a,.inl b=>decide (a<b)
 |.inr x,.inr y=>decide (x.cps.toList<y.cps.toList)
 |.inl _,.inr _=>true
 |.inr _,.inl _=>false
def Jx:AY->AY->Bool
 |.inl _,.inl _=>true
 |.inr _,.inr _=>true
 |_,_=>false
def dX:O AY->O AY->Bool
 |[],[]=>false
 |[],_::_=>true
 |_::_,[]=>false
 |x::xs,y::ys=>if x=y then dX xs ys else NP x y
def NQ:O AY->O AY->Prop
 |x::xs,y::ys=>Jx x y=true/\NQ xs ys
 |_,_=>True
theorem C8{x y:AY}{p q:A0}{Q:Bool->A2->Prop}(hp:dJ x p=true)(c:dJ y q=true)(h:Q (decide (x=y)) s):A7 (A8 prog w) A (eqBool p q) Q E s:=
 (iB prog w).eqBool (a:=x) (b:=y) hp c h
theorem RZ{fb:Bool}{x y:AY}{p q:A0}{Q:Bool->A2->Prop}(hs:Jx x y=true)(hp:dJ x p=true)(a:dJ y q=true)(h:Q (NP x y) s):A7 (A8 prog w) A (oneLt' fb p q) Q E s:=by
 rcases aY hp with⟨i,t,rfl,rfl⟩|⟨z,t,rfl,rfl⟩
 ·rcases aY a with⟨j,u,rfl,rfl⟩|⟨z,u,rfl,rfl⟩
  ·cases fb with
   |true=>exact oneLt_int h
   |false=>
    rw[oneLt'_eq];simp only[zv,ZH];refine zb (show A7 _ _ (AG .Lt (.int i t) (.int j u)) _ _ _ from lt_int ?_);exact qf h
  ·cases hs
 ·rcases aY a with⟨j,u,rfl,rfl⟩|⟨b,u,rfl,rfl⟩
  ·cases hs
  ·cases fb with
   |true=>exact oneLt_str h
   |false=>
    rw[oneLt'_eq];simp only[zv,ZH];refine zb (show A7 _ _ (AG .Lt (.str z t) (.str b u)) _ _ _ from PySem.P.lt_str ?_);exact qf h
def Ks(ks:O AY)(AQ:O A0):Prop:=AI (λk v=>dJ k v=true) ks AQ
def Ch:O AY->O AY->Y Bool
 |x::xs,y::ys=>if x=y then Ch xs ys else U (NP x y)
 |_,_=>Z
theorem R0:∀ks a:O AY,dX ks a=match Ch ks a with|some r=>r|none=>decide (ks.length<a.length)
 |[],[]=>rfl
 |[],_::_=>by simp[dX,Ch]
 |_::_,[]=>rfl
 |x::xs,y::ys=>by
  simp only[dX,Ch];by_cases e:x=y
  ·rw[zr e,zr e,R0 xs ys];simp only[qc,Nat.add_lt_add_iff_right]
  ·rw[zI e,zI e]
def turn(fb:Bool):(A0×A0)×Nat->Y Bool×Unit->Sem (ForInStep (Y Bool×Unit)):=λx _=>match x with
 |((p,q),i)=>do
  let e <-eqBool p q
  if(!e)=true then do
    let r <-oneLt' (fb&&i==0) p q
    pure (ForInStep.done (U r,eu))
   else pure (ForInStep.yield (Z,eu))
theorem EN(fb:Bool):∀(ks b:O AY) (AQ a:O A0) (i:Nat) (R:Y Bool×Unit->A2->Prop),Ks ks AQ->Ks b a->NQ ks b->R (Ch ks b,eu) s->A7 (A8 prog w) A (forIn ((AQ.zip a).zipIdx i) ((Z,eu):Y Bool×Unit) (turn fb)) R E s:=by
 intro ks
 induction ks with
 |nil=>intro b AQ a i R h _ _ h1;cases h;exact zd h1
 |cons x xs g=>
  intro b AQ a i R h h' c h1;cases h with
  |@cons _ p _ AQ hp hk=>
   cases h' with
   |nil=>exact zd h1
   |@cons y q ys a d f=>
    rw[QO,bE,ce];refine zb ?_;show A7 _ _ (eqBool p q >>= _) _ _ _;refine zb (C8 hp d ?_);by_cases e:x=y
    ·simp only[e,kA,ky,zv,ZH];refine zd (g ys AQ a (i+1) R hk f c.2 ?_);simp only[Ch,zr e]at h1;exact h1
    ·simp only[e,jn,ki,ZT];refine zb (RZ c.1 hp d (zd (zd ?_)));simp only[Ch,zI e]at h1;exact h1
theorem Zu{fb:Bool}{c:A1}{i f:AE}{d:O A0}{b:O AY}{Q:Bool->A2->Prop}(l:s.heap.get? a=U i)(o:i.data=.seq AQ.toArray n)(j:s.heap.get? c=U f)(p:f.data=.seq d.toArray m)(hk:Ks ks AQ)(g:Ks b d)(hs:NQ ks b)(h:Q (dX ks b) s):A7 (A8 prog w) A (keyLt' (tuples' fb) (.ref a) (.ref c)) Q E s:=by
 rw[yh];refine zb (listItems_at l o (zb (listItems_at j p ?_)));have q:AQ.length=ks.length:=(Paired.length hk).symm;have k:d.length=b.length:=(Paired.length g).symm;refine zb (EN fb ks b AQ d 0 _ hk g hs ?_);rw[R0]at h;cases e:Ch ks b with
 |some r=>rw[e]at h;exact zd h
 |none=>
  rw[e]at h;refine zd ?_;simpa[q,k]using h
theorem VR(x:AY):NP x x=false:=by
 cases x with
 |inl a=>simp[NP]
 |inr a=>simp[NP]
theorem PL{x y z:AY}(h:NP x y=true)(h':NP y z=true):NP x z=true:=by
 cases x<;>cases y<;>cases z<;>simp only[NP,kl,zv,reduceCtorEq]at h h' ⊢
 ·omega
 ·exact List.lt_trans h h'
theorem V0{x y:AY}(h:NP x y=false)(h':NP y x=false):x=y:=by
 cases x<;>cases y<;>simp only[NP,qV,Bool.true_eq_false,reduceCtorEq]at h h'
 ·congr 1;omega
 ·rename_i a b;have:=dE (as:=a.cps.toList) (bs:=b.cps.toList) h' h;cases a;cases b;simp only at this;rw[dL.mp this]
theorem lH:∀xs:O AY,dX xs xs=false
 |[]=>rfl
 |x::xs=>by simp only[dX,ZT];exact lH xs
theorem jk:∀{xs ys zs:O AY},dX xs ys=true->dX ys zs=true->dX xs zs=true
 |[],[],_,h,_=>by cases h
 |[],_::_,[],_,h'=>by cases h'
 |[],_::_,_::_,_,_=>rfl
 |_::_,[],_,h,_=>by cases h
 |_::_,_::_,[],_,h'=>by cases h'
 |x::xs,y::ys,z::zs,h,h'=>by
  simp only[dX]at h h' ⊢;by_cases e1:x=y
  ·subst e1;rw[zr rfl]at h;by_cases e2:x=z
   ·subst e2;rw[zr rfl]at h' ⊢;exact jk h h'
   ·rw[zI e2]at h' ⊢;exact h'
  ·rw[zI e1]at h;by_cases e2:y=z
   ·subst e2;rw[zI e1];exact h
   ·rw[zI e2]at h';have:=PL h h';rw[zI (λe=>by subst e;rw[VR]at this;cases this)];exact this
theorem qX:∀{xs ys:O AY},dX xs ys=false->dX ys xs=false->xs=ys
 |[],[],_,_=>rfl
 |[],_::_,h,_=>by cases h
 |_::_,[],_,h'=>by cases h'
 |x::xs,y::ys,h,h'=>by
  simp only[dX]at h h';by_cases e:x=y
  ·subst e;rw[zr rfl]at h h';rw[qX h h']
  ·rw[zI e]at h;rw[zI (Ne.symm e)]at h';exact absurd (V0 h h') e
def nH(xs ys:O AY):Bool:=!dX ys xs
theorem pP(a b c:O AY)(h:nH a b=true)(h':nH b c=true):nH a c=true:=by
 unfold nH at *
 simp only[Q2]at *
 cases d:dX c a with
 |false=>rfl
 |true=>
  cases f:dX a b with
  |true=>rw[jk d f]at h';cases h'
  |false=>
   have e:=qX f h;subst e;rw[d]at h';cases h'
theorem vD(a b:O AY):(nH a b||nH b a)=true:=by
 unfold nH;cases h:dX b a with
 |false=>rfl
 |true=>
  cases h':dX a b with
  |false=>rfl
  |true=>have:=jk h h';rw[lH]at this;cases this
theorem Fq{a b:O AY}(h:nH a b=true)(h':nH b a=true):a=b:=by
 unfold nH at *
 simp only[Q2]at *
 exact qX h' h
theorem zc{α:Type}{le:α->α->Prop}(d:∀a b,le a b->le b a->a=b):∀{l c:O α},l.Perm c->l.Pairwise le->c.Pairwise le->l=c
 |[],c,h,_,_=>by rw[List.nil_perm.mp h]
 |a::l,[],h,_,_=>by cases List.perm_nil.mp h
 |a::l,b::c,h,p,p'=>by
  have e:a=b:=by
   have g:a∈b::c:=h.mem_iff.mp (ze ..);have f:b∈a::l:=h.mem_iff.mpr (ze ..);rcases List.mem_cons.mp g with h1|h1
   ·exact h1
   ·rcases List.mem_cons.mp f with h2|h2
    ·exact h2.symm
    ·exact d a b (QR p h2) (QR p' h1)
  subst e;rw[zc d ((List.perm_cons a).mp h) (ah.mp p).2 (ah.mp p').2]
def nJ(bG:O (O AY)):O (O AY):=bG.mergeSort nH
theorem qY(bG:O (O AY)):(nJ bG).Perm bG:=kF ..
theorem Jy(bG:O (O AY)):(nJ bG).Pairwise (λa b=>nH a b=true):=kf pP vD bG
theorem tu{out:O (O AY)}(hp:out.Perm bG)(hs:out.Pairwise (λa b=>nH a b=true)):out=nJ bG:=zc (λ_ _=>Fq) (hp.trans (qY bG).symm) hs (Jy bG)
def C5(bG:O (O AY))(k:O AY):Nat:=bG.countP λu=>dX u k
theorem Ft{α:Type}{p q:α->Bool}:∀{l:O α},(∀x∈l,p x=true->q x=true)->(∃x∈l,p x=false/\q x=true)->l.countP p<l.countP q
 |[],_,⟨x,hx,_⟩=>by cases hx
 |a::l,h,⟨x,hx,h1,h2⟩=>by
  have le:l.countP p<=l.countP q:=cz λy b=>h y (zg _ b);rw[bP,bP];rcases List.mem_cons.mp hx with rfl|hx
  ·rw[h1,h2];simp;omega
  ·have:=Ft (λy b=>h y (zg _ b)) ⟨x,hx,h1,h2⟩;have c:=h a (ze ..);cases hp:p a with
   |true=>rw[c hp];simp;omega
   |false=>simp;omega
theorem zY{a b:O AY}(e:a∈bG):decide (C5 bG a<C5 bG b)=dX a b:=by
 cases h:dX a b with
 |true=>
  refine qS (Ft (λu _ c=>jk c h) ⟨a,e,lH a,h⟩)
 |false=>
  refine Zp (cK.mpr (cz λu _ c=>?_));cases d:dX b a with
  |true=>exact jk c d
  |false=>rw[qX h d];exact c
def mJ(h:A6)(ks:O AY)(v:A0):Prop:=∃(a:A1) (o:AE) (AQ:O A0) (n:Nat),v=.ref a/\h.get? a=U o/\o.cls=.type "tuple" ∧ o.data=.seq AQ.toArray n/\Ks ks AQ
theorem mJ.keep{h':A6}(q:mJ h ks v)(k:∀c o,h.get? c=U o->h'.get? c=U o):mJ h' ks v:=by
 obtain⟨a,o,AQ,n,e,g,c,d,p⟩:=q;exact⟨a,o,AQ,n,e,k _ _ g,c,d,p⟩
theorem V1{k l:AY}(h:dJ k v=true)(h':dJ l v=true):k=l:=by
 rcases aY h with⟨i,t,rfl,rfl⟩|⟨x,t,rfl,rfl⟩
 ·rcases aY h' with⟨j,u,rfl,e⟩|⟨y,u,rfl,e⟩
  ·cases e;rfl
  ·cases e
 ·rcases aY h' with⟨j,u,rfl,e⟩|⟨y,u,rfl,e⟩
  ·cases e
  ·cases e;rfl
theorem Ks.inj:∀{ks a:O AY} {AQ:O A0},Ks ks AQ->Ks a AQ->ks=a
 |_,_,[],h,h'=>by cases h;cases h';rfl
 |_,_,v::AQ,h,h'=>by
  cases h with
  |cons p t=>cases h' with
   |cons p' t'=>rw[V1 p p',Ks.inj t t']
theorem mJ.inj{h:A6}{ks i:O AY}{v:A0}(q:mJ h ks v)(j:mJ h i v):ks=i:=by
 obtain⟨a,o,AQ,n,rfl,g,c,d,p⟩:=q;obtain⟨m,o',k,l,e,b,c',f,p'⟩:=j;cases e;rw[g]at b;cases b;rw[d]at f;injection f with e1 e2;have e3:AQ=k:=by simpa using congrArg dg e1
 subst e3;exact p.inj p'
theorem zZ{f:α->Sem β}:∀(xs:O α) (ys:O β) (Q:O β->A2->Prop),AI (λx y=>∀(b:BE) (a:β->A2->Prop),a y s->A7 (A8 prog w) A (f x) a b s) xs ys->Q ys s->A7 (A8 prog w) A (xs.mapM f) Q E s:=by
 intro xs
 induction xs with
 |nil=>intro ys Q p h;cases p;rw[List.mapM_nil];exact zd h
 |cons x xs c=>
  intro ys Q p q;cases p with
  |cons h t=>
   rw[List.mapM_cons];exact zb (h _ _ (zb (c _ _ t (zd q))))
theorem Jz(v:A0):firstOfTuple' v=(do
  if(<-typeOf v) != .type "tuple" then return Z
  return (<-Builtin.List.listItems v)[0]?):=rfl
theorem PN{k:AY}(q:mJ s.heap (k::ks) v):∃u,dJ k u=true/\∀(e:BE) (b:Y A0->A2->Prop),b (U u) s->A7 (A8 prog w) A (firstOfTuple' v) b e s:=by
 obtain⟨a,o,AQ,n,rfl,g,c,d,p⟩:=q;cases p with
 |@cons _ u _ AQ hp t=>
  refine⟨u,hp,λe b h=>?_⟩;rw[Jz];refine zb (QI (T :="tuple") ⟨o,g,c⟩ ?_);rw[zI ()];exact zb (listItems_at g d (zd h))
theorem JB{k:AY}(h:dJ k u=true)(b:BE)(a:BE)(q:a (.type (if k.isLeft then "int" else "str")) s):A7 (A8 prog w) A (typeOf u) a b s:=by
 rcases aY h with⟨i,t,rfl,rfl⟩|⟨x,t,rfl,rfl⟩
 ·exact QI (typeIs_int s i t) q
 ·exact QI (typeIs_str s x t) q
theorem PX{vs:O A0}{Q:SortKind->A2->Prop}(i:AI (mJ s.heap) bG vs)(g:∀k∈bG,k≠[])(o:∀k∈bG,∀l∈bG,NQ k l)(h2:1<=vs.length)(h:Q (tuples' true) s):A7 (A8 prog w) A (keyKind' vs.toArray) Q E s:=by
 have step:∀(bG:O (O AY)) (vs:O A0),AI (mJ s.heap) bG vs->(∀k∈bG,k≠[])->∃us:O A0,AI (λv u=>∀(c:BE) (a:Y A0->A2->Prop),a (U u) s->A7 (A8 prog w) A (firstOfTuple' v) a c s) vs us/\AI (λ(k:O AY) u=>∃x r,k=x::r/\dJ x u=true) bG us:=by
  intro bG vs i
  induction i with
  |nil=>intro _;exact⟨[],.nil,.nil⟩
  |@cons k v bG vs q t d=>
   intro g;obtain⟨us,p1,p2⟩:=d λk hk=>g k (zg _ hk);cases k with
   |nil=>exact absurd S (g _ (ze ..))
   |cons x r=>
    obtain⟨u,e,B⟩:=PN (prog:=prog) (w:=w) (A:=A) q;exact⟨u::us,.cons B p1,.cons ⟨x,r,rfl,e⟩ p2⟩
 obtain⟨us,p1,p2⟩:=step bG vs i g;have F:us.length=vs.length:=(Paired.length p1).symm;have z:∀{l:O A0} {ws:O A0},AI (λv u=>∀(c:BE) (a:Y A0->A2->Prop),a (U u) s->A7 (A8 prog w) A (firstOfTuple' v) a c s) l ws->AI (λv u=>∀(c:BE) (a:Y A0->A2->Prop),a u s->A7 (A8 prog w) A (firstOfTuple' v) a c s) l (ws.map U):=λh=>by
  induction h with
  |nil=>exact .nil
  |cons q t d=>exact .cons q d
 rw[keyKind'_eq,kR,map_eq_pure_bind];refine zb (zb (zZ vs (us.map U) _ (z p1) (zd ?_)));have y:(us.map U).toArray.all (·.isSome)=true:=by simp
 rw[zr y];refine zb (JA ?_);have D:(us.map U).toArray.filterMap id=us.toArray:=by simp
 rw[D,oneTypeOnly'_eq,kR,map_eq_pure_bind];have ty:∀(bG:O (O AY)) (us:O A0),AI (λ(k:O AY) u=>∃x r,k=x::r/\dJ x u=true) bG us->∃ts:O A0,AI (λu t=>∀(c:BE) (a:BE),a t s->A7 (A8 prog w) A (typeOf u) a c s) us ts/\AI (λ(k:O AY) t=>∃x r,k=x::r/\t=.type (if x.isLeft then "int" else "str")) bG ts:=by
  intro bG us hp
  induction hp with
  |nil=>exact⟨[],.nil,.nil⟩
  |@cons k u bG us q t d=>
   obtain⟨ts,q1,q2⟩:=d;obtain⟨x,r,rfl,hx⟩:=q;exact⟨_::ts,.cons (λc a h=>JB hx c a h) q1,.cons ⟨x,r,rfl,rfl⟩ q2⟩
 obtain⟨ts,q1,q2⟩:=ty bG us p2;refine zb (zb (zb (zZ us ts _ q1 (zd ?_))));have lt:ts.length=vs.length:=by rw[<-Paired.length q1,F]
 cases q2 with
 |nil=>simp at lt;omega
 |@cons H J G j p n=>
  obtain⟨b,r,rfl,rfl⟩:=p;have same:∀t∈j,t=Value.type (if b.isLeft then "int" else "str"):=by
   have C:∀(bG:O (O AY)) (ts:O A0),AI (λ(k:O AY) t=>∃x r,k=x::r/\t=Value.type (if x.isLeft then "int" else "str")) bG ts->(∀k∈bG,NQ (b::r) k)->∀t∈ts,t=Value.type (if b.isLeft then "int" else "str"):=by
    intro bG ts hp
    induction hp with
    |nil=>intro _ t f;cases f
    |@cons k t bG ts q _ d=>
     intro m u e;rcases List.mem_cons.mp e with rfl|e
     ·obtain⟨x,I,rfl,rfl⟩:=q;have:=(m _ (ze ..)).1;cases b<;>cases x<;>first|rfl|cases this
     ·exact d (λk hk=>m k (zg _ hk)) u e
   exact C _ _ n λk hk=>o _ (ze ..) k (zg _ hk)
  have e0:(Value.type (if b.isLeft then "int" else "str")::j).toArray[0]?=U (Value.type (if b.isLeft then "int" else "str")):=by simp
  have e1:((Value.type (if b.isLeft then "int" else "str")::j).toArray.all λx=>x==Value.type (if b.isLeft then "int" else "str"))=true:=by
   simp only[dS,qA];intro t f;rcases List.mem_cons.mp f with rfl|f
   ·simp
   ·rw[same t f];simp
  rw[e0];simp only[e1,ZT];refine zd (zd ?_);have e2:((U (Value.type (if b.isLeft then "int" else "str"))).any λx=>x !=Value.type "tuple")=true:=by
   cases b with
   |inl _=>exact(by decide:((U (Value.type "int")).any λx=>x !=Value.type "tuple")=true)
   |inr _=>exact(by decide:((U (Value.type "str")).any λx=>x !=Value.type "tuple")=true)
  rw[e2];exact h
def BC(bG:O (O AY))(vs:O A0)(v:A0):O AY:=match (vs.zip bG).find? (λp=>p.1==v)with
 |some p=>p.2
 |none=>[]
theorem kW{h:A6}:∀{bG:O (O AY)} {vs:O A0},AI (mJ h) bG vs->∀v∈vs,BC bG vs v∈bG/\mJ h (BC bG vs v) v
 |_,_,.nil,v,hv=>by cases hv
 |k::bG,u::vs,.cons q t,v,hv=>by
  unfold BC;rw[QO,JU];by_cases e:u=v
  ·subst e;simp only[beq_self_eq_true];exact⟨ze ..,q⟩
  ·have e':(u==v)=false:=by simpa using e
   simp only[e'];have b:v∈vs:=by
    rcases List.mem_cons.mp hv with h|h
    ·exact absurd h.symm e
    ·exact h
   have a:=kW t v b;exact⟨zg _ a.1,a.2⟩
theorem zf{h:A6}:∀{bG:O (O AY)} {vs:O A0},AI (mJ h) bG vs->∀(K:A0->O AY),(∀v∈vs,mJ h (K v) v)->vs.map K=bG
 |_,_,.nil,_,_=>rfl
 |k::bG,v::vs,.cons q t,K,hK=>by
  rw[zo,(hK v (ze ..)).inj q,zf t K λu a=>hK u (zg _ a)]
theorem Ba{h:A6}:∀{vs:O A0} {K:A0->O AY},(∀v∈vs,mJ h (K v) v)->AI (mJ h) (vs.map K) vs
 |[],_,_=>.nil
 |v::vs,K,hK=>.cons (hK v (ze ..)) (Ba λu a=>hK u (zg _ a))
theorem R3{vs:O A0}(i:AI (mJ s.heap) bG vs)(u:∀k∈bG,∀l∈bG,NQ k l):RX prog w A s (tuples' true) (λv=>C5 bG (BC bG vs v)) (pairsOf vs):=by
 intro E p q Q hp f h;rw[pairsOf_toList]at hp f;obtain⟨b,t1⟩:=kW i p.1 (mem_zip_self hp).2;obtain⟨m,t2⟩:=kW i q.1 (mem_zip_self f).2;rw[zY b]at h;have y:=u _ b _ m;obtain⟨a,o,AQ,n,e,g,c,d,k⟩:=t1;obtain⟨B,o',C,z,e',j,c',x,t⟩:=t2;rw[e,e'];exact Zu g d j x k t y h
theorem R4{vs:O A0}(a:AI (mJ h) bG vs){xs:Array Keyed}(hp:xs.Perm (pairsOf vs))(g:Up (λv=>C5 bG (BC bG vs v)) xs (pairsOf vs).size):AI (mJ h) (nJ bG) (xs.map (·.2)).toList:=by
 have c:xs.toList.Perm (vs.zip vs):=by rw[<-pairsOf_toList];exact al.mp hp
 have b:∀p∈xs.toList,p.1=p.2/\p.1∈vs:=λp q=>mem_zip_self (c.mem_iff.mp q);have e:(xs.map (·.2)).toList=xs.toList.map (·.1):=by
  rw[bS];exact ZY λp q=>(b p q).1.symm
 have pv:(xs.toList.map (·.1)).Perm vs:=by
  have:=c.map Prod.fst;rwa [dV (zl _)]at this
 have l:nJ bG=(xs.toList.map (·.1)).map (BC bG vs):=by
  refine(tu ?_ ?_).symm
  ·have:=pv.map (BC bG vs);rwa [zf a _ λv q=>(kW a v q).2]at this
  ·rw[bu];intro i j hi f n;have m:i<xs.size:=by simpa using hi
   have d:j<xs.size:=by simpa using f
   have u:=g i j (Q1 n) (by rw[<-hp.size_eq];exact d);unfold at_ at u;rw[getElem?_pos xs i m,getElem?_pos xs j d]at u;have k:=(kW a xs[j].1 (b xs[j] (by simp)).2).1;simp only[k5,cS];unfold nH;rw[<-zY k,Zp (cK.mpr u)];rfl
 rw[l,e];refine Ba λv q=>(kW a v ?_).2;exact pv.mem_iff.mp q
end S1
namespace P1
open L2 S1
theorem Bb{o:AE}{T:String}{vs:O A0}{Q:O A0->A2->Prop}(a:s.heap.get? l=U o)(d:o.cls=.type T)(f:T ="list" ∨ T ="tuple")(hd:o.data=.seq vs.toArray n)(i:vs.length<=AA)(h:∀h' tk,s.heap.objs.size<=h'.objs.size->(∀c o,s.heap.get? c=U o->h'.get? c=U o)->Q vs { s with heap:=h',toks:=tk }):A7 (A8 prog w) A (collect (.ref l)) Q E s:=by
 unfold collect;refine zb (wpAny_runValue (QU entry_proto_collect' ?_));show A7 _ _ (newList [] >>= λq=>again (.builtin "list.__iadd__" ⟨[q,.ref l],[]⟩)) _ _ s;refine zb (kU (zd ⟨Code.quiet_builtin _ (by decide +kernel),QU entry_list_iadd' ?_⟩));show A7 _ _ (Builtin.List.listExtendWith (.ref s.heap.objs.size) (.ref l) (.ref s.heap.objs.size)) _ _ _;unfold Builtin.List.listExtendWith;have g1:(s.heap.push (seqObj "list" #[] 0)).get? l=U o:=zh _ a;refine zb (QI (T:=T) ⟨o,g1,d⟩ ?_);have b:(Value.type T==Value.type "list" || Value.type T==Value.type "tuple")=true:=by rcases f with rfl|rfl<;>decide
 rw[zr (by rw[Bool.or_assoc,b];simp)];refine zb (listItems_at g1 hd (zb (listItems_at (xs:=#[]) (n:=0) (zw _ S) S ?_)));rw[zI (by simp)];have g2:(s.heap.push (seqObj "list" #[] 0)).get? s.heap.objs.size=U (seqObj "list" #[] 0):=zw _ rfl;refine zb (listUpdate_at (xs:=#[]) (n:=0) g2 S (zd ?_) (qs _) (by show(#[]++vs.toArray).size<=AA+1;simp only[Jn,zi,cf];omega));show A7 (A8 prog w) A (load s.heap.objs.size >>= _) Q E _;refine zb (wpAny_load (get?_update_seq g2 _) ?_);show A7 _ _ (pure ((#[]:Array A0)++vs.toArray).toList) Q E _;rw[show((#[]:Array A0)++vs.toArray).toList=vs by simp];refine zd (h _ s.toks ?_ λc g e=>?_)
 ·rw[dQ,size_push'];exact kP _
 ·rw[de _ _ _ _ (z4 (zt e))];exact zh _ e
def Zv:Dt->Y AY
 |.int i=>U (.inl i)
 |.str x=>U (.inr x)
 |_=>Z
def Fv:O Dt->Y (O AY)
 |[]=>U []
 |d::ds=>(Zv d).bind λk=>(Fv ds).bind λks=>U (k::ks)
def ur:Dt->Y (O AY)
 |.tup ds=>Fv ds
 |_=>Z
def Bc:O Dt->Y (O (O AY))
 |[]=>U []
 |d::ds=>(ur d).bind λk=>(Bc ds).bind λks=>U (k::ks)
def dK:AY->Dt
 |.inl i=>.int i
 |.inr x=>.str x
def Be(ks:O AY):Dt:=.tup (ks.map dK)
theorem V2{k:AY}(h:Zv d=U k):d=dK k:=by
 cases d<;>cases h<;>rfl
theorem JC:∀{ds:O Dt} {ks:O AY},Fv ds=U ks->ds=ks.map dK
 |[],_,h=>by cases h;rfl
 |d::ds,_,h=>by
  obtain⟨k,e1,h⟩:=AT h;obtain⟨ks,e2,h⟩:=AT h;cases h;rw[zo,V2 e1,JC e2]
theorem wN(h:ur d=U ks):d=Be ks:=by
 cases d with
 |tup ds=>exact congrArg Dt.tup (JC h)
 |_=>cases h
theorem Fw:∀{ds:O Dt} {bG:O (O AY)},Bc ds=U bG->ds=bG.map Be
 |[],_,h=>by cases h;rfl
 |d::ds,_,h=>by
  obtain⟨k,e1,h⟩:=AT h;obtain⟨ks,e2,h⟩:=AT h;cases h;rw[zo,wN e1,Fw e2]
theorem V3{k:AY}{v:V}(h:AW K H (dK k) v):v=kV k:=by
 cases k with
 |inl i=>exact(show v=.int i by simpa only[dK,AW]using h)
 |inr x=>exact(show v=.str x/\x.length<=AA by simpa only[dK,AW]using h).1
theorem tB{K:B4}{H:Hp}:∀{ks:O AY} {vs:O V},aF K H (ks.map dK) vs->vs=ks.map kV
 |[],_,h=>by simp only[kH,aF]at h;exact h
 |k::ks,_,h=>by
  simp only[zo,aF]at h;obtain⟨v,r,rfl,h1,h2⟩:=h;rw[V3 h1,tB h2,zo]
theorem R5(X:Cx):∀{us:O A0},AX (ks.map kV) us->Ks ks us:=by
 induction ks with
 |nil=>intro us h;cases h;exact .nil
 |cons k ks a=>
  intro us h;cases h with
  |cons r t=>exact .cons (KG (P:=X.prog) (w:=X.w) r) (a t)
theorem Hh{AN:O (A1×AE)}{σ:L2.St}{H:Hp}{s:A2}(I:AU X AN σ H s):∀{bG:O (O AY)} {vs:O V} {AQ:O A0},aF X.K H (bG.map Be) vs->AX vs AQ->AI (mJ s.heap) bG AQ
 |[],_,_,h,r=>by
  simp only[kH,aF]at h;subst h;cases r;exact .nil
 |k::bG,_,_,h,r=>by
  simp only[zo,aF]at h;obtain⟨v,vs,rfl,h1,h2⟩:=h;cases r with
  |cons e f=>
   refine .cons ?_ (Hh I h2 f);simp only[Be,AW]at h1;obtain⟨a,ws,rfl,sq,i⟩:=h1;obtain⟨AQ,b,⟨o,g,c,n,d⟩,_⟩:=I.tuple sq;cases e;rw[tB i]at b;exact⟨a,o,AQ,n,rfl,g,c,d,R5 X b⟩
theorem Fy{AN:O (A1×AE)}{σ:L2.St}{H:Hp}{s:A2}(I:AU X AN σ H s){bG:O (O AY)}{vs:O V}{AQ:O A0}(h:aF X.K H (bG.map Be) vs)(r:AX vs AQ):∀{c:O (O AY)} {out:O A0},AI (mJ s.heap) c out->(∀u∈out,u∈AQ)->∃zs,AX zs out/\aF X.K H (c.map Be) zs
 |_,_,.nil,_=>⟨[],.nil,aF.nil⟩
 |l::c,u::out,.cons q t,hm=>by
  obtain⟨zs,z1,z2⟩:=Fy I h r t λx hx=>hm x (zg _ hx);have d:∀(bG:O (O AY)) (vs:O V) (AQ:O A0),aF X.K H (bG.map Be) vs->AX vs AQ->u∈AQ->∃v,As v u/\AW X.K H (Be l) v:=by
   intro bG
   induction bG with
   |nil=>
    intro vs AQ h r a;simp only[kH,aF]at h;subst h;cases r;cases a
   |cons k bG i=>
    intro vs AQ h r a;simp only[zo,aF]at h;obtain⟨v,vs,rfl,h1,h2⟩:=h;cases r with
    |@cons _ j _ _ b f=>
     rcases List.mem_cons.mp a with rfl|a
     ·have e:k=l:=by
       have:=Hh I (bG:=[k]) (vs:=[v]) (AQ:=[u]) (by simp only[zo,kH];exact aF.cons h1 aF.nil) (.cons b .nil);cases this with
       |cons g _=>exact g.inj q
      subst e;exact⟨v,b,h1⟩
     ·exact i vs _ h2 f a
  obtain⟨v,b,h1⟩:=d bG vs AQ h r (hm u (ze ..));exact⟨v::zs,.cons b z1,by rw[zo];exact aF.cons h1 z2⟩
def LC(k l:O AY):Bool:=((k.zip l).all λp=>Jx p.1 p.2)
theorem LK:∀{k l:O AY},LC k l=true->NQ k l
 |[],_,_=>by simp[NQ]
 |_::_,[],_=>by simp[NQ]
 |x::k,y::l,h=>by
  unfold LC at h;rw[QO,jv,ZA]at h;exact⟨h.1,LK h.2⟩
def V4(bG:O (O AY)):Bool:=decide (bG.length<64)&&(bG.all (λk=>!k.isEmpty)&&bG.all λk=>bG.all λl=>LC k l)
def Bd:O Bx->Y Bx
 |[b]=>(Ay b).bind λds=>(Bc ds).bind λbG=>if V4 bG=true then U (.o ((nJ bG).map Be))else Z
 |_=>Z
theorem NT{v:V}(h:aQ K H b v)(e:Ay b=U ds):∃a vs,v=.ref a/\(nA K H a vs\/vV K H a vs)/\aF K H ds vs:=by
 cases b with
 |z d=>
  cases d<;>first|(cases e;done)|skip
  ·cases e;simp only[aQ,AW]at h;obtain⟨a,vs,e,q,r⟩:=h;exact⟨a,vs,e,.inr q,r⟩
  ·cases e;simp only[aQ,AW]at h;obtain⟨a,vs,e,q,r⟩:=h;exact⟨a,vs,e,.inl q.sq,r⟩
 |l c=>cases e;obtain⟨a,vs,e,q,r⟩:=h;exact⟨a,vs,e,.inl (.inl q),r⟩
 |o c=>cases e;obtain⟨a,vs,e,q,r⟩:=h;exact⟨a,vs,e,.inl (.inl (.inl q)),r⟩
 |n _=>cases e
 |m _ _=>cases e
theorem R6:oA X (.builtin "sorted") Bd:=by
 intro AN s σ H xs us Q I K h;obtain⟨bs,c,J,e,q⟩:=h;unfold Bd at e;split at e
 ·rename_i b;obtain⟨ds,F,e⟩:=AT e;obtain⟨bG,ek,e⟩:=AT e;split at e
  ·rename_i A;cases e;simp only[V4,ZA,kl,qA,Q2]at A;obtain⟨a0,C,y⟩:=A;obtain⟨v,rfl,W⟩:=BM J;obtain⟨p,vs,rfl,sq,t⟩:=NT W F;obtain⟨u,rfl,L⟩:=BB K;cases L;have D:=Fw ek;subst D;have E:∃(AQ:O A0) (o:AE) (T:String) (n:Nat),AX vs AQ/\s.heap.get? p=U o/\o.cls=.type T/\(T ="list" ∨ T ="tuple")/\o.data=.seq AQ.toArray n/\vs.length<=AA:=by
    rcases sq with sq|sq
    ·obtain⟨AQ,f,pl,j⟩:=I.list sq;obtain⟨o,g,c,n,d⟩:=pl.isList;exact⟨AQ,o,_,n,f,g,c,.inl rfl,d,j⟩
    ·obtain⟨AQ,f,⟨o,g,c,n,d⟩,j⟩:=I.tuple sq;exact⟨AQ,o,_,n,f,g,c,.inr rfl,d,j⟩
   obtain⟨AQ,o,T,n,f,g,hc,M,hd,j⟩:=E;have a4:AQ.length=bG.length:=by rw[<-f.length,t.length,zk]
   have tv:=Hh I t f;refine Fp (kd:=tuples' true) (rk:=λv=>C5 bG (BC bG AQ v)) (vs:=AQ) (λN Q' x=>Bb g hc M hd (by rw[<-f.length];exact j) x)
    (λh2 N A' s' k Q' x=>PX (Paired.imp' (λ_ _ z=>mJ.keep z k) tv) (λk hk=>by have:=C k hk;cases k with|nil=>cases this|cons _ _=>exact ef _ _) (λk hk l i=>LK (y k hk l i)) () x)
    (λA' s' k=>R3 (Paired.imp' (λ_ _ z=>mJ.keep z k) tv) λk hk l i=>LK (y k hk l i)) () λl h' tk m st hp up i ext hL=>?_
   have a3:=R4 tv hp up;have P:∀u∈((AM st).map (·.2)).toList,u∈AQ:=λu B=>by
    rw[bS]at B;obtain⟨pr,a1,rfl⟩:=ae.mp B;have a2:pr∈AQ.zip AQ:=by rw[<-pairsOf_toList];exact(al.mp hp).mem_iff.mp a1
    have:=mem_zip_self a2;rw[<-this.1];exact this.2
   obtain⟨zs,z1,z2⟩:=Fy I t f a3 P;have G:zs.length=bG.length:=by rw[z2.length,zk,(qY bG).length_eq]
   have w:H l=Z:=I.hok.fresh i;refine⟨.ref l,_,I.laid (t':=tk) (a:=l) (o:=.lst zs) ext i ⟨by rw[G];exact Q1 (zS a0 ()),_,m,z1,?_⟩,rfl,q _ _ (bA w) (λa ea=>by cases ea;exact w) ⟨l,zs,rfl,aU,z2.kp (.of (bA w))⟩⟩;rw[hL]
  ·cases e
 ·cases e
end P1
namespace S6
def LN(xs:Array Nat):Prop:=∀i j,i<j->j<xs.size->xs.getD i 0<xs.getD j 0
def It(h:A6)(it a:A1)(first:A0)(i n ep:Nat):Prop:=∃o,h.get? it=U o/\o.cls=.type "set_iterator" ∧ o.data=.fields #[first,.int (i:Int) 0,.ref a,.int (n:Int) 0,.int (ep:Int) 0]
section
variable{ep:Nat}{es:Array (Int×A0)}{t:SetTable}
end
end S6
namespace S6
open P1
section
variable{ep:Nat}{es:Array (Int×A0)}{t:SetTable}
end
section
variable{R:Result->A2->Prop}{I:A1}{wr:O A1}{P:Nat->A0->Prop}{St:Nat->A2->Prop}{C:A6->O κ->Prop}{val:Nat->κ}
end
end S6
namespace S6
open PySem
structure Tb (t:SetTable):Prop where
 mask:t.mask=7\/t.mask=31\/t.mask=127
 dum:t.dummies=#[]
 rise:LN t.place
 bd:∀j:Nat,j∈t.place->j<=t.mask
 full:t.place.size<=t.mask
def Iq(a:Nat)(p:SetTable.Probe):SetTable.Probe:=
 if p.more>0 then { p with j:=p.j+1,more:=p.more-1 }else
 { p with j:=(av a p.i p.perturb).1,more:=ei a (av a p.i p.perturb).1-(av a p.i p.perturb).1,i:=(av a p.i p.perturb).1,perturb:=(av a p.i p.perturb).2 }
def Hm(a i perturb:Nat):SetTable.Probe:={ j:=i,more:=ei a i-i,i,perturb,dummy:=Z }
def ET(a:Nat)(h:Int):Nat->SetTable.Probe
 |0=>Hm a (bn h%(a+1)) (bn h)
 |n+1=>Iq a (ET a h n)
def nx(M i:Nat):Nat:=(i*5+1)%M
def lp(a:Nat)(h:Int):Nat->Nat×Nat
 |0=>(bn h%(a+1),bn h)
 |l+1=>av a (lp a h l).1 (lp a h l).2
structure Tok (t:SetTable) (es:Array (Int×Value)):Prop extends Tb t where
 size:t.place.size=es.size
 reach:∀(i j:Nat) e,t.place[i]?=some j->es[i]?=some e->∃n,n<10*SetTable.turns t.mask/\(ET t.mask e.1 n).j=j/\∀m,m<n->(ET t.mask e.1 m).j∈t.place
theorem G8{α β:Type}{f:α->Y β}{g:α->β}:∀{xs:O α},(∀x∈xs,f x=U (g x))->xs.filterMap f=xs.map g
 |[],_=>rfl
 |x::xs,h=>by
  rw[ja,h x (ze ..),zo,G8 λy a=>h y (zg _ a)]
end S6
namespace S6
open P1 L2
abbrev HH(prog:A3)(w:A4)(ks:O AY):Int:=tupleKeyHash (iB prog w) ks
def TE(prog:A3)(w:A4)(h:A6)(z:O AY×A1)(e:Int×A0):Prop:=e=(HH prog w z.1,.ref z.2)/\IsTupleKey (iB prog w) h z.1 z.2
end S6
namespace S1
open L2
end S1
namespace S6
def F8(prog:A3)(w:A4)(y:Int)(e:Int×A0):Prop:=∃tk,e=((intKind prog w).hash y,.int y tk)
theorem NZ{y z:Int}{e:Int×A0}(h:F8 prog w y e):(intKind prog w).is z e.2=true↔z=y:=by
 obtain⟨tk,rfl⟩:=h;constructor
 ·intro q;exact(intKind prog w).inj _ _ _ q (intKind_is _ _ _ _)
 ·rintro rfl;exact intKind_is _ _ _ _
theorem qZ{y:Int}:∀{ys:O Int} {l:O (Int×A0)},AI (F8 prog w) ys l->((l.findIdx? λe=>(intKind prog w).is y e.2)=Z↔y∉ys)
 |_,_,.nil=>by simp
 |z::ys,e::l,.cons r t=>by
  rw[List.findIdx?_cons];by_cases q:(intKind prog w).is y e.2=true
  ·rw[zr q,(NZ r).mp q];simp
  ·rw[zI q];have:y≠z:=λe'=>q ((NZ r).mpr e');rw[Option.map_eq_none_iff,qZ t];simp[this]
end S6
namespace P1
open L2 S6
theorem q8:∀{vs:O A0} {ys:AZ},StrsAre vs ys->∀(i:Nat) (v:A0),vs[i]?=U v->∃y t,ys[i]?=U y/\v=.str y t
 |_,_,.nil,i,v,h=>by simp at h
 |_,_,.cons y t r,0,v,h=>by simp at h;exact⟨y,t,rfl,h.symm⟩
 |_,_,.cons y t r,i+1,v,h=>by
  obtain⟨z,t',e,a⟩:=q8 r i v (by simpa using h);exact⟨z,t',by simpa using e,a⟩
section
variable{fs:Ev->Y AZ}{p:Pos}
end
section
variable{xs:AZ}
end
section
variable{xs:AZ}
variable{fs:Ev->Y AZ}{p':Pos}
end
end P1
namespace P1
open L2 S1 S6
section
variable [DecidableEq α]
end
section
def V5(ks:O AY):Bool:=ks.any λk=>k.isRight
variable{fs:Ev->Y (O (O AY))}{p:Pos}
end
end P1
namespace P1
open L2
section
variable{kx vx:Expr}{xs:AZ}{fk:Ev->Y Bx}
end
section
variable{ks:O (AY×V)}{o:AE}
end
section
variable{fd:Ev->Y Bx}{xs:AZ}
end
theorem Zw{P:Nat->A0->Prop}(val:Nat->AJ)(a:∀i v,P i v->∃t,v=.str (val i) t):CmpOf prog w A .Lt P (λi j=>decide ((val i).cps.toList<(val j).cps.toList)):=λi j c d s Q E hi b h=>by
 obtain⟨t,rfl⟩:=a i c hi;obtain⟨u,rfl⟩:=a j d b;exact richCompare_gives (op:=.Lt) (typeIs_str s _ t) (typeIs_str s _ u) F.slot_str_lt F.entry_str_lt (F.args_str_lt_2 _ _) (gives_str_lt _ _ t u) (λx=>nomatch x) h
theorem Ct{P:Nat->A0->Prop}(val:Nat->AJ)(a:∀i v,P i v->∃t,v=.str (val i) t):CmpOf prog w A .Gt P (λi j=>decide ((val j).cps.toList<(val i).cps.toList)):=λi j c d s Q E hi b h=>by
 obtain⟨t,rfl⟩:=a i c hi;obtain⟨u,rfl⟩:=a j d b;exact richCompare_gives (op:=.Gt) (typeIs_str s _ t) (typeIs_str s _ u) F.slot_str_gt F.entry_str_gt (F.args_str_gt_2 _ _) (gives_str_gt _ _ t u) (λx=>nomatch x) h
section
variable{fs:Ev->Y (O Bx)}{p px spos:Pos}{f:A1}{G:A1->O (AY×Dt)->O Bx->Y (O (AY×Dt))}
end
section
variable{st:O AB}
def Zx(i:Nat)(ρ:Ev):Y Ev:=match ρ[i]? with
 |some (U (.o ds))=>U (ρ.set i (U (.z (.lst ds))))
 |_=>Z
def DM(i:Nat)(g:Ev->Y An):Ev->Y An:=λρ=>(Zx i ρ).bind g
theorem Zy(h:Oz X st g):Oz X st (DM i g):=by
 intro AN s σ H D I q;obtain⟨H0,ρ,r,E,e,f⟩:=q;obtain⟨l,e1,e2⟩:=AT e;unfold Zx at e1;split at e1
 ·rename_i ds b;cases e1;obtain⟨v,j,a,vs,rfl,c,k⟩:=E.val i _ b;obtain⟨o,d⟩:=Am I c;have kp:Kp H (B8 H a (.qH o (.lst vs))):=.lst c;refine h AN s σ _ D d ⟨H0,_,r,E.abw b S j kp ?_,e2,f⟩;simp only[aQ,AW];exact⟨a,vs,rfl,.inl ⟨o,aU⟩,k.kp kp⟩
 ·cases e1
theorem Zz(h:KR X st g):KR X st (DM i g):=⟨Zy h.run⟩
end
open AutoSeq1 (wpAny_loadPart')
open SeqAt
theorem FX(I:L2.AU X AN σ H s)(h:vV X.K H a xs):∃AQ:O A0,AX xs AQ/\jT s.heap a AQ.toArray:=by
 rcases h with h|⟨o,AQ,n,hk,b,c,d,r⟩
 ·obtain⟨z,AQ,r,p⟩:=h.ok I.hok;exact⟨AQ,r,p⟩
 ·exact⟨AQ.toList,r,o,I.Uo a o hk,b.1,⟨n,by simpa using c⟩,b.2⟩
section
variable{o:Expr}{fx:Ev->Y Bx}
end
section
variable{t:Ev->Y Bool}
end
section
variable{h':A6}
end
section
variable{p:Pos}{fs:Ev->Y (O Bx)}
end
def LQ(i:Nat):Ev->Y An:=λρ=>match ρ[i]? with
 |some (U (.o ds))=>U (.nx (ρ.set i (U (.o ds.reverse))))
 |_=>Z
theorem JD{K:B4}{H:Hp}:∀{ds:O Dt} {vs:O V},aF K H ds vs->aF K H ds.reverse vs.reverse
 |[],vs,h=>by
  cases vs with
  |nil=>exact h
  |cons v vs=>have:=h.length;simp at this
 |d::ds,vs,h=>by
  cases vs with
  |nil=>have:=h.length;simp at this
  |cons v vs=>
   obtain⟨a,r,e,q,t⟩:∃a r,v::vs=a::r/\AW K H d a/\aF K H ds r:=by
    simpa only[aF]using h
   cases e;rw[j0,j0];exact(JD t).append (aF.cons q aF.nil)
theorem ZC(i:Nat){p:Pos}(j:X.N[i]?=U x:=by rfl)(k:KY X.env.scope x:=by first|exact Qr rfl|exact ZO (Qr S)|exact ZO (ZO S))(hd:ej x:=by decide)(f:(x==("__classdict__":AJ))=false:=by decide)(d:attributeBase (.Name x p) "reverse" X.env (eval (.Name x p) X.env)=eval (.Name x p) X.env:=by rfl)(g:(apos.endLine==cpos.line)=true:=by rfl)(hs:swapsWith (.Call (.Attribute (.Name x p) "reverse" apos) [] [] cpos) Z pos.line X.env=pure false:=by rfl):
  EJ X (.Expr (.Call (.Attribute (.Name x p) "reverse" apos) [] [] cpos) pos) (LQ i):=
 Vl (Np (YW k7 PySem.F.slot_list_reverse PySem.F.type_list_reverse K9 (u0 (i:=i) j k hd f) d g) hs) λD σ H h=>by
  obtain⟨H0,ρ,r,E,e,q⟩:=h;unfold LQ at e;split at e
  ·rename_i ds c;cases e;obtain⟨v,e1,a,vs,rfl,b,l⟩:=E.val i _ c;refine⟨_,e1,.inl ⟨rfl,vs,.inl (.inl b)⟩,a,vs,rfl,rfl,b,q _ _ ?_⟩;exact E.K8 c e1 b (JD l)
  ·cases e
theorem ZD(i:Nat){p:Pos}(d:X.N[i]?=U x:=by rfl)(e:KY X.env.scope x:=by first|exact Qr rfl|exact ZO (Qr S)|exact ZO (ZO S))(hd:ej x:=by decide)(b:(x==("__classdict__":AJ))=false:=by decide)(a:attributeBase (.Name x p) "reverse" X.env (eval (.Name x p) X.env)=eval (.Name x p) X.env:=by rfl)(c:(apos.endLine==cpos.line)=true:=by rfl)(hs:swapsWith (.Call (.Attribute (.Name x p) "reverse" apos) [] [] cpos) Z pos.line X.env=pure false:=by rfl):
  Qx X (.Expr (.Call (.Attribute (.Name x p) "reverse" apos) [] [] cpos) pos) (LQ i):=⟨ZC i d e hd b a c hs⟩
def R7(j i:Nat)(f:Ev->Y Bx):Ev->Y An:=λρ=>(f ρ).bind λb=>match b with
 |.z (.int k)=>match ρ[i]? with
  |some (U (.o ds))=>if -(2 ^ 62)<=k/\k<2 ^ 62 then(seqIndex? k ds.length).bind λm=>(ds[m]?).bind λd=>(Jd (ρ.set i (U (.o (ds.eraseIdx m)))) j (.z d)).bind λa=>U (.nx a)else Z
  |_=>Z
 |_=>Z
theorem Bf{K:B4}{H:Hp}:∀(m:Nat) {ds:O Dt} {vs:O V},aF K H ds vs->aF K H (ds.eraseIdx m) (vs.eraseIdx m)
 |m,[],vs,h=>by
  cases vs with
  |nil=>exact h
  |cons v vs=>have:=h.length;simp at this
 |m,d::ds,vs,h=>by
  cases vs with
  |nil=>have:=h.length;simp at this
  |cons v vs=>
   obtain⟨a,r,e,q,t⟩:∃a r,v::vs=a::r/\AW K H d a/\aF K H ds r:=by
    simpa only[aF]using h
   cases e;cases m with
   |zero=>exact t
   |succ m=>exact aF.cons q (Bf m t)
theorem ZF(j i:Nat){p:Pos}(nd:X.N.Nodup)(he:PV X e f)(C:X.N[i]?=U x:=by rfl)(G:KY X.env.scope x:=by first|exact Qr rfl|exact ZO (Qr S)|exact ZO (ZO S))(hd:ej x:=by decide)(a1:(x==("__classdict__":AJ))=false:=by decide)(s:A9 [e] X.env=[(false,eval e X.env)]:=by rfl)(J:attributeBase (.Name x p) "pop" X.env (eval (.Name x p) X.env)=eval (.Name x p) X.env:=by rfl)(a0:((AD cpos (A9 [e] X.env)).all (λx=>!x.1)&&(backToKw cpos (keywordEach [] X.env)).all (λx=>x.1.isSome)
   && decide ([e].length+([]:O AC).length+(if([]:O AC).isEmpty then 0 else 1)<30))=true:=by rfl)(M:(apos.endLine==cpos.line)=true:=by rfl)(K:X.N[j]?=U y:=by rfl)(W:CI X.env.scope y:=by first|exact Qr rfl|exact ZO S)(hs:swapsWith (.Call (.Attribute (.Name x p) "pop" apos) [e] [] cpos) (U (.Name y p2)) pos.line X.env=pure false:=by rfl)(hf:X.fn y=true\/X.env.scope.names.lookup y=U .local:=by first|exact .inl rfl|exact .inr S):
  EJ X (.Assign [.Name y p2] (.Call (.Attribute (.Name x p) "pop" apos) [e] [] cpos) pos) (R7 j i f):=
 Vl (Gr nd K W (Iz k7 PySem.F.slot_list_pop PySem.F.type_list_pop Q6 (u0 (i:=i) C G hd a1) (iG he pH (by rw[s]<;>rfl)) J a0 M (by rw[s]<;>rfl) S) hs hf) λD σ H h=>by
  obtain⟨H0,ρ,r,E,e,q⟩:=h;obtain⟨b,eb,e⟩:=AT e;split at e
  ·rename_i k;split at e
   ·rename_i ds o;split at e
    ·rename_i hb;obtain⟨m,A,e⟩:=AT e;obtain⟨d,I,e⟩:=AT e;obtain⟨a3,a2,e⟩:=AT e;cases e;obtain⟨v,e1,a,vs,rfl,l,n⟩:=E.val i _ o;refine⟨_,e1,.inl ⟨rfl,vs,.inl (.inl l)⟩,H0,ρ,_,E,eb,λu H1 g n1 Q=>?_⟩;have E1:=E.grow g;have t:=n.kp (.of g);obtain⟨w,P,B⟩:=t.get I;have L:u=.int k:=by simpa only[aQ,AW]using Q
     subst L;have c:=g _ _ l;refine⟨a,vs,k,m,w,rfl,rfl,c,by omega,by omega,by rw[n.length];exact A,P,?_⟩;have E2:=E1.K8 o e1 c (Bf m t);have kp:Kp H1 (B8 H1 a (.lst (vs.eraseIdx m))):=.lst c;exact q _ _ (GK E2 (AV.refl _) (b:=.z d) (by simp only[aQ];exact AW.kp kp B) trivial a2)
    ·cases e
   ·cases e
  ·cases e
theorem ZG(j i:Nat){p:Pos}(m:X.N.Nodup)(b:QV X e f)(n:X.N[i]?=U x:=by rfl)(o:KY X.env.scope x:=by first|exact Qr rfl|exact ZO (Qr S)|exact ZO (ZO S))(hd:ej x:=by decide)(h:(x==("__classdict__":AJ))=false:=by decide)(a:A9 [e] X.env=[(false,eval e X.env)]:=by rfl)(d:attributeBase (.Name x p) "pop" X.env (eval (.Name x p) X.env)=eval (.Name x p) X.env:=by rfl)(c:((AD cpos (A9 [e] X.env)).all (λx=>!x.1)&&(backToKw cpos (keywordEach [] X.env)).all (λx=>x.1.isSome)
   && decide ([e].length+([]:O AC).length+(if([]:O AC).isEmpty then 0 else 1)<30))=true:=by rfl)(l:(apos.endLine==cpos.line)=true:=by rfl)(g:X.N[j]?=U y:=by rfl)(k:CI X.env.scope y:=by first|exact Qr rfl|exact ZO S)(hs:swapsWith (.Call (.Attribute (.Name x p) "pop" apos) [e] [] cpos) (U (.Name y p2)) pos.line X.env=pure false:=by rfl)(q:X.fn y=true\/X.env.scope.names.lookup y=U .local:=by first|exact .inl rfl|exact .inr S):
  Qx X (.Assign [.Name y p2] (.Call (.Attribute (.Name x p) "pop" apos) [e] [] cpos) pos) (R7 j i f):=
 ⟨ZF j i m b.run n o hd h a d c l g k hs q⟩
def uw:O Dt->Y At
 |[]=>U []
 |.int k::r=>(uw r).bind λks=>U (k::ks)
 |_=>Z
theorem Bg{K:B4}{H:Hp}:∀{ds:O Dt} {ks:O Int} {vs:O V} {AQ:O A0},uw ds=U ks->aF K H ds vs->AX vs AQ->AQ.length=ks.length/\∀i v,AQ[i]?=U v->∃t,v=Value.int (ks.getD i 0) t
 |[],ks,vs,AQ,e,r,w=>by
  cases e;simp only[aF]at r;subst r;cases w;exact⟨rfl,λi v h=>by simp at h⟩
 |d::ds,ks,vs,AQ,e,r,w=>by
  cases d with
  |int k=>
   simp only[uw]at e;obtain⟨n,e1,e2⟩:=AT e;cases e2;obtain⟨a,b,rfl,q,t⟩:∃a b,vs=a::b/\AW K H (.int k) a/\aF K H ds b:=by
    simpa only[aF]using r
   have l:a=.int k:=by simpa only[AW]using q
   subst l;cases w with
   |cons f g=>
    obtain⟨j,rfl⟩:=f;obtain⟨m,c⟩:=Bg e1 t g;refine⟨by simp[m],λi v h=>?_⟩;cases i with
    |zero=>simp at h;exact⟨j,h.symm⟩
    |succ i=>simpa using c i v (by simpa using h)
  |_=>cases e
section
variable{ek ev:Expr}{fk:Ev->Y Bx}
def ES:Ev->Y An:=λ_=>Z
theorem V6:Qx X st ES:=⟨λD AN s σ H I q=>by
 obtain⟨H0,ρ,r,E,e,q⟩:=q;cases e⟩
end
section
variable{st:Expr}{fs:Ev->Y Bx}
end
section
variable{K:Type} [DecidableEq K] {knd:KeyKind prog w K}
end
section
variable{ea eb:Expr}{p1 pos1 pos2:Pos}
end
def qK:O Int->Int
 |[]=>0
 |k::ks=>ks.foldl (λm x=>if m<x then x else m) k
theorem V7(ks:O Int)(n:Nat)(b:n<ks.length):ks.getD (argBest (λi j=>decide (ks.getD i 0>ks.getD j 0)) n) 0=qK (ks.take (n+1)):=by
 induction n with
 |zero=>
  cases ks with
  |nil=>cases b
  |cons k ks=>rfl
 |succ n a=>
  have a:=a ();cases ks with
  |nil=>cases b
  |cons k ks=>
   have c:n<ks.length:=by simpa using b
   rw[List.take_succ_cons]at a ⊢;rw[ko c];have e:qK (k::(ks.take n++[ks[n]]))=(if qK (k::ks.take n)<ks[n]then ks[n]else qK (k::ks.take n)):=by
    show(ks.take n++[ks[n]]).foldl _ k=_;rw[List.foldl_append];rfl
   rw[e,<-a];have d:(k::ks).getD (n+1) 0=ks[n]:=by simp[c]
   show(k::ks).getD (if decide ((k::ks).getD (n+1) 0>(k::ks).getD (argBest _ n) 0)=true then n+1 else argBest _ n) 0=_;rw[d];by_cases q:ks[n]>(k::ks).getD (argBest (λi j=>decide ((k::ks).getD i 0>(k::ks).getD j 0)) n) 0
   ·rw[zr (qS q),zr q,d]
   ·rw[zI (by simpa using q),zI q]
def Fz:O Bx->Y Bx
 |[b]=>(jG b).bind λds=>(uw ds).bind λks=>if 0<ks.length then U (.z (.int (qK ks)))else Z
 |_=>Z
theorem Bh:∀{AQ:O A0} {ks:O Int},AQ.length=ks.length->(∀(i:Nat) (v:A0),AQ[i]?=U v->∃t,v=Value.int (ks.getD i 0) t)->∃xs:O (Int×Tok),AQ=xs.map (λp=>Value.int p.1 p.2)/\xs.map (·.1)=ks
 |[],[],_,_=>⟨[],rfl,rfl⟩
 |[],_::_,h,_=>by cases h
 |_::_,[],h,_=>by cases h
 |v::AQ,k::ks,h,g=>by
  obtain⟨t,a⟩:=g 0 v rfl;obtain⟨xs,e1,e2⟩:=Bh (AQ:=AQ) (ks:=ks) (by simpa using h) λi v b=>by simpa using g (i+1) v (by simpa using b)
  exact⟨(k,t)::xs,by rw[zo,<-e1,a];rfl,by rw[zo,e2]⟩
theorem V8(k:X.calm=true):oA X (.builtin "max") Fz:=by
 intro AN s σ H xs us Q I r h;obtain⟨bs,c,n,e,q⟩:=h;unfold Fz at e;split at e
 ·obtain⟨ds,j,e⟩:=AT e;obtain⟨ks,ek,e⟩:=AT e;split at e
  ·rename_i d;cases e;obtain⟨v,rfl,m⟩:=BM n;obtain⟨a,vs,rfl,sq,z⟩:=m.xW j;obtain⟨u,rfl,o⟩:=BB r;cases o;obtain⟨AQ,w,pl,A⟩:=I.list sq;obtain⟨p,y⟩:=Bg ek z w;obtain⟨ps,e1,e2⟩:=Bh p y;have b:ps.length=ks.length:=by rw[<-e2,zk]
   have x:numAt ps.toArray=λi=>ks.getD i 0:=funext λi=>by
    unfold numAt;rw[<-e2,QP,Zl];simp
   have l:s.heap.IsList a (intItems ps.toArray):=by
    have:=pl.isList;rw[e1]at this;simpa[intItems]using this
   refine max_intList (I.ok.hd k) l (by simpa[b]using d) λv h' tk f kp=>?_;obtain⟨t,rfl⟩:=intItems_at f;rw[x]at f ⊢;have g:=V7 ks (ks.length-1) ();rw[Nat.sub_add_cancel d,bU]at g;have e3:ps.toArray.size-1=ks.length-1:=by simp[b]
   refine⟨.int (qK ks),H,I.kept (t':=tk) kp,⟨t,?_⟩,q _ H (AV.refl H) trivial (by simp only[aQ,AW])⟩;rw[e3,<-g]
  ·cases e
 ·cases e
theorem vG(xs:AZ)(is:O Nat)(d:closureFor scope X.env=pure cl:=by with_unfolding_all rfl)(a:scope.kind=.function:=by rfl)(e:scope.names.all (λy=>decide (y.2≠.cell)||(cl.lookup y.1).isNone)=true:=by rfl)(c:scope.names.all (λy=>decide (y.2=.local->scope.names.lookup y.1=U .local))=true:=by decide +kernel)(sub:C0 X.env.cells cl:=by repeat (first|exact trivial|refine⟨rfl,?_⟩))(has:(relabel scope X.env).names.all (λy=>!(y.2==.cell||y.2==.free)||(cl.lookup y.1).isSome||scope.names.contains (y.1,.cell))=true:=by rfl)(b:Dr X scope cl xs is:=by repeat (first|exact Zn|refine VL S (by first|exact .inl rfl|exact .inr S) (by first|exact .inl rfl|exact .inr S) ⟨_,rfl⟩ ?_)):vA X scope cl xs is:=Zo d a e c sub has b
theorem lJ{a:Scope}(h1:a.kind=.function:=by rfl)(h2:a.isCoroutine=false:=by rfl)(b:a.isGenerator=false:=by rfl)(c:N.Nodup:=by decide +kernel)(f:N.take ps.length=ps:=by rfl)(d:∀x∈ps,a.names.lookup x=U .local\/a.names.lookup x=U .cell:=by decide +kernel)(e:∀y∈a.names,y.2≠.free:=by decide +kernel):bw N ps a:=⟨h1,h2,b,c,f,d,e⟩
instance:Inhabited Dt:=⟨.non⟩
theorem Au(a:α)(f:α->Y β):(U a).bind f=f a:=(dP a f).trans (Eq.refl _)
def B5:Y Prop->Prop
 |none=>True
 |some p=>p
def bB:Y Prop->Y Prop->Y Prop
 |none,q=>q
 |some p,Z=>U p
 |some p,U q=>U (p/\q)
def Hi(c:Prop):Y Prop->Y Prop
 |none=>Z
 |some p=>U (c->p)
theorem aB{p q:Y Prop}(h:B5 (bB p q)):B5 p/\B5 q:=by
 cases p with
 |none=>exact⟨trivial,h⟩
 |some p=>cases q with
  |none=>exact⟨h,trivial⟩
  |some q=>exact h
theorem lK{c:Prop}{p:Y Prop}(h:B5 (Hi c p))(a:c):B5 p:=by
 cases p with
 |none=>trivial
 |some p=>exact h a
structure R {α β:Type} (f:Ev->Option β) (ρ:Ev) (c:α->β) where
 v:α
 D:Option Prop
 ok:B5 D->f ρ=some (c v)
abbrev zE(e:α->Dt):α->Bx:=λa=>.z (e a)
abbrev oE(e:α->Dt):O α->Bx:=λxs=>.o (xs.map e)
abbrev lE(e:α->Dt):O α->Bx:=λxs=>.l (xs.map e)
abbrev tE:Bool->Bool:=λb=>b
abbrev iE(e:α->Dt):O α->O Dt:=λxs=>xs.map e
abbrev eI:Int->Dt:=Dt.int
abbrev eB:Bool->Dt:=Dt.bl
abbrev eS:AJ->Dt:=Dt.str
abbrev eL(e:α->Dt):O α->Dt:=λxs=>.lst (xs.map e)
abbrev eT(e:α->Dt):O α->Dt:=λxs=>.tup (xs.map e)
abbrev eO(e:α->Dt):Y α->Dt:=λo=>match o with|none=>.non|some a=>e a
abbrev FK(a:α->Dt):α->Dt:=λx=>.tup [a x]
abbrev n8(a:α->Dt)(b:β->Dt):α×β->Dt:=λx=>.tup [a x.1,b x.2]
abbrev D3(a:α->Dt)(b:β->Dt)(c:γ->Dt):α×β×γ->Dt:=λx=>.tup [a x.1,b x.2.1,c x.2.2]
abbrev EC(a:α->Dt)(b:β->Dt)(c:γ->Dt)(d:δ->Dt):α×β×γ×δ->Dt:=λx=>.tup [a x.1,b x.2.1,c x.2.2.1,d x.2.2.2]
structure RL {α:Type} (f:Ev->Option Bx) (ρ:Ev) (e:α->Dt) where
 v:List α
 D:Option Prop
 b:Bx
 lk:jG b=some (v.map e)
 ok:B5 D->f ρ=some b
section
variable{fs:Ev->Y (O Bx)}{e:α->Dt}{e':β->Dt}
def jl(a:R f ρ (oE e)):RL f ρ e:=⟨a.v,a.D,_,rfl,a.ok⟩
def jd(a:R f ρ (lE e)):RL f ρ e:=⟨a.v,a.D,_,rfl,a.ok⟩
def ZJ(a:R f ρ (zE (eL e))):RL f ρ e:=⟨a.v,a.D,_,rfl,a.ok⟩
def Lp(b:Bx)(ds:O Dt):Prop:=b=.z (.lst ds)\/b=.l ds
theorem Lp.xW(h:Lp b ds):jG b=U ds:=by rcases h with rfl|rfl<;>rfl
theorem Lp.get{b:Bx}{ds:O Dt}{i:Nat}(h:Lp b ds)(hi:ρ[i]?=U (U b)):zB ρ i=U b:=by
 rcases h with rfl|rfl<;>(unfold zB;rw[hi])
theorem jL(h:jG b=U ds):Lp (P1.lend b) ds:=by
 cases b with
 |z d=>cases d<;>cases h;exact .inl rfl
 |l d=>cases h;exact .inr rfl
 |o d=>cases h;exact .inr rfl
 |n d=>cases h
 |m d _=>cases h
def au(i:Nat)(c:α->Bx)(a:α)(h:zB ρ i=U (c a)):R (gv i) ρ c:=⟨a,Z,λ_=>h⟩
def bM(i:Nat)(e:α->Dt)(a:O α)(h:Lp b (a.map e))(hi:ρ[i]?=U (U b)):RL (gv i) ρ e:=⟨a,Z,b,h.xW,λ_=>h.get hi⟩
def JF(d:Dt)(e:α->Dt)(a:α)(h:d=e a):R (cB d) ρ (zE e):=⟨a,Z,λ_=>by rw[h];rfl⟩
def R8(a:R f ρ (zE e)):R f ρ (zE (eO e)):=⟨U a.v,a.D,a.ok⟩
def ZK:R (cB .non) ρ (zE (eO e)):=⟨Z,Z,λ_=>S⟩
def HQ[Inhabited α](a:R f ρ (zE (eO e))):R f ρ (zE e):=⟨a.v.getD default,bB a.D (U (a.v.isSome=true)),λh=>by
 obtain⟨h1,h2⟩:=aB h;rw[a.ok h1];have h2:a.v.isSome=true:=h2;cases b:a.v with
 |none=>rw[b]at h2;cases h2
 |some x=>rfl⟩
def ZL(a:R f ρ (oE e)):R (b1 Al f) ρ (zE (eL e)):=⟨a.v,a.D,λh=>by simp only[b1,a.ok h,Au,Al]⟩
def oK(a:R f ρ (zE e)):R (b1 Al f) ρ (zE e):=⟨a.v,a.D,λh=>by simp only[b1,a.ok h,Au,Al]⟩
def Xr(a:R f ρ (zE eI)):R (b1 Du f) ρ (zE eI):=⟨-a.v,a.D,λh=>by simp only[b1,a.ok h,Au,Du]⟩
def jX(a:R fa ρ (zE eI))(b:R fb ρ (zE eI)):R (b2 eN fa fb) ρ (zE eI):=⟨a.v+b.v,bB a.D b.D,λh=>by
 obtain⟨h1,h2⟩:=aB h;simp only[b2,a.ok h1,b.ok h2,Au,eN]⟩
def R9(a:R fa ρ (zE eI))(b:R fb ρ (zE eI)):R (b2 CO fa fb) ρ (zE eI):=⟨a.v-b.v,bB a.D b.D,λh=>by
 obtain⟨h1,h2⟩:=aB h;simp only[b2,a.ok h1,b.ok h2,Au,i2]⟩
def DS(a b:Int):Prop:=(-18446744073709551616<a/\a<18446744073709551616)\/(-18446744073709551616<b/\b<18446744073709551616)
def Xu(a:R fa ρ (zE eI))(b:R fb ρ (zE eI)):R (b2 qJ fa fb) ρ (zE eI):=⟨a.v*b.v,bB (bB a.D b.D) (U (DS a.v b.v)),λh=>by
 obtain⟨h,c⟩:=aB h;obtain⟨h1,h2⟩:=aB h;simp only[b2,a.ok h1,b.ok h2,Au];exact zr c⟩
def Hj(n:Int)(a : -18446744073709551616<n/\n<18446744073709551616)(b:R fb ρ (zE eI)):R (b2 qJ (cB (.int n)) fb) ρ (zE eI):=⟨n*b.v,b.D,λh=>by
 simp only[b2,b.ok h,Au,cB];exact zr (.inl a)⟩
def N5(a:R fa ρ (zE eI))(n:Int)(b : -18446744073709551616<n/\n<18446744073709551616):R (b2 qJ fa (cB (.int n))) ρ (zE eI):=⟨a.v*n,a.D,λh=>by
 simp only[b2,a.ok h,Au,cB];exact zr (.inr b)⟩
def Hl(a:R fa ρ (zE eI))(b:R fb ρ (zE eI)):R (b2 dZ fa fb) ρ (zE eI):=⟨a.v / b.v,bB (bB a.D b.D) (U (0<b.v/\b.v<1073741824)),λh=>by
 obtain⟨h,c⟩:=aB h;obtain⟨h1,h2⟩:=aB h;have c:0<b.v/\b.v<1073741824:=c;simp only[b2,a.ok h1,b.ok h2,Au,i2,zr c]⟩
def iI(a:R fa ρ (zE eI))(n:Int)(b:0<n/\n<1073741824):R (b2 dZ fa (cB (.int n))) ρ (zE eI):=⟨a.v / n,a.D,λh=>by
 simp only[b2,a.ok h,Au,i2,cB,zr b]⟩
def Sd(a:R fa ρ (zE eI))(b:R fb ρ (zE eI)):R (b2 cL fa fb) ρ (zE eI):=⟨a.v%b.v,bB (bB a.D b.D) (U (0<b.v)),λh=>by
 obtain⟨h,c⟩:=aB h;obtain⟨h1,h2⟩:=aB h;have c:0<b.v:=c;simp only[b2,a.ok h1,b.ok h2,Au,i2,zr c]⟩
def cg(a:R fa ρ (zE eI))(n:Int)(b:0<n):R (b2 cL fa (cB (.int n))) ρ (zE eI):=⟨a.v%n,a.D,λh=>by
 simp only[b2,a.ok h,Au,i2,cB,zr b]⟩
def ZM(a b:Int)(n:Nat)(h:0<=b/\b<=1000/\a.natAbs<18446744073709551616)(c:b.toNat=n):R (b2 VB (cB (.int a)) (cB (.int b))) ρ (zE eI):=⟨a ^ n,Z,λ_=>by
 simp only[b2,Au,cB];show((if 0<=b/\b<=1000/\a.natAbs<2 ^ 64 then U (Dt.int (a ^ b.toNat))else Z).bind λd=>U (Bx.z d))=_;rw[zr h,c];rfl⟩
def ZP(a:R fa ρ (zE eI))(b:R fb ρ (zE eI)):R (b2 DH fa fb) ρ (zE eB):=⟨decide (b.v<a.v),bB a.D b.D,λh=>by
 obtain⟨h1,h2⟩:=aB h;simp only[b2,a.ok h1,b.ok h2,Au,i2]⟩
def EL(a:R fa ρ (zE eI))(b:R fb ρ (zE eI)):R (b2 Db fa fb) ρ (zE eB):=⟨decide (b.v<=a.v),bB a.D b.D,λh=>by
 obtain⟨h1,h2⟩:=aB h;simp only[b2,a.ok h1,b.ok h2,Au,i2]⟩
def Xv(a:R fa ρ (zE eI))(b:R fb ρ (zE eI)):R (b2 Zt fa fb) ρ (zE eB):=⟨decide (a.v<b.v),bB a.D b.D,λh=>by
 obtain⟨h1,h2⟩:=aB h;simp only[b2,a.ok h1,b.ok h2,Au,Zt]⟩
def Dk(x y:AJ):Bool:=decide (x.cps.toList<y.cps.toList)
end
class BA {α:Type} [DecidableEq α] (e:α->Dt) (n:outParam Nat):Prop where
 eq:∀a b,Ii (e a) (e b)=some (decide (a=b))
 dp:∀a,xY (e a)<=n
class CH {α:Type} (e:α->Dt):Prop where
 l:∀a,Ii .non (e a)=some false
 r:∀a,Ii (e a) .non=some false
instance:BA eI 1:=⟨λa b=>rfl,λa=>by simp[xY]⟩
instance:BA eB 1:=⟨λa b=>rfl,λa=>by simp[xY]⟩
instance:BA eS 1:=⟨λa b=>rfl,λa=>by simp[xY]⟩
instance:CH eI:=⟨λa=>rfl,λa=>rfl⟩
instance:CH eB:=⟨λa=>rfl,λa=>rfl⟩
instance:CH eS:=⟨λa=>rfl,λa=>rfl⟩
section
variable [DecidableEq α] [DecidableEq β] [DecidableEq γ] [DecidableEq δ] {e:α->Dt}{e':β->Dt}{e'':γ->Dt}{e3:δ->Dt}{l:Nat}
theorem Bj[BA e n]:∀xs ys:O α,jh (xs.map e) (ys.map e)=U (decide (xs=ys))
 |[],[]=>by simp[jh]
 |[],y::ys=>by simp[jh]
 |x::xs,[]=>by simp[jh]
 |x::xs,y::ys=>by
  simp only[zo,jh,BA.eq,Bj xs ys];congr 1;by_cases h:x=y<;>by_cases h':xs=ys<;>simp[h,h']
theorem Bl[BA e n]:∀xs:O α,wC (xs.map e)<=n
 |[]=>by simp[wC]
 |x::xs=>by
  have:=BA.dp (e:=e) x;have:=Bl xs;simp only[zo,wC];omega
instance [BA e n]:BA (eL e) (n+1):=⟨λa b=>Bj a b,λa=>by simp only[xY];have:=Bl (e:=e) a;omega⟩
instance [BA e n]:BA (eT e) (n+1):=⟨λa b=>Bj a b,λa=>by simp only[xY];have:=Bl (e:=e) a;omega⟩
instance:CH (eL e):=⟨λa=>rfl,λa=>rfl⟩
instance:CH (eT e):=⟨λa=>rfl,λa=>rfl⟩
instance:CH (FK e):=⟨λa=>rfl,λa=>rfl⟩
instance:CH (n8 e e'):=⟨λa=>rfl,λa=>rfl⟩
instance:CH (D3 e e' e''):=⟨λa=>rfl,λa=>rfl⟩
instance:CH (EC e e' e'' e3):=⟨λa=>rfl,λa=>rfl⟩
instance [BA e n]:BA (FK e) (n+1):=⟨λa b=>by
 simp only[zU,jh,BA.eq,kz],λa=>by
 have:=BA.dp (e:=e) a;simp only[xY,wC];omega⟩
theorem D7{a b:Nat}(h:a<=n)(h':b<=m):max a b<=max n m:=Nat.max_le.mpr ⟨zD h (Nat.le_max_left ..),zD h' (Nat.le_max_right ..)⟩
theorem EZ{a:Nat}(h:a<=n):max a 0<=n:=Nat.max_le.mpr ⟨h,qs _⟩
instance [BA e n] [BA e' m]:BA (n8 e e') (max n m+1):=⟨λa b=>by
 obtain⟨a,a'⟩:=a;obtain⟨b,b'⟩:=b;simp only[zU,jh,BA.eq,du.injEq,ci,kz],λa=>k3 (D7 (BA.dp (e:=e) a.1) (EZ (BA.dp (e:=e') a.2)))⟩
instance [BA e n] [BA e' m] [BA e'' k]:BA (D3 e e' e'') (max n (max m k)+1):=⟨λa b=>by
 obtain⟨a,a',a2⟩:=a;obtain⟨b,b',b2⟩:=b;simp only[zU,jh,BA.eq,du.injEq,ci,kz],λa=>k3 (D7 (BA.dp (e:=e) a.1) (D7 (BA.dp (e:=e') a.2.1) (EZ (BA.dp (e:=e'') a.2.2))))⟩
instance [BA e n] [BA e' m] [BA e'' k] [BA e3 l]:BA (EC e e' e'' e3) (max n (max m (max k l))+1):=⟨λa b=>by
 obtain⟨a,a',a2,a3⟩:=a;obtain⟨b,b',b2,b3⟩:=b;simp only[zU,jh,BA.eq,du.injEq,ci,kz],λa=>k3 (D7 (BA.dp (e:=e) a.1) (D7 (BA.dp (e:=e') a.2.1) (D7 (BA.dp (e:=e'') a.2.2.1) (EZ (BA.dp (e:=e3) a.2.2.2)))))⟩
instance [BA e n] [CH e]:BA (eO e) (n+1):=⟨λa b=>by
 cases a with
 |none=>cases b with
  |none=>exact rfl
  |some b=>exact(CH.l (e:=e) b).trans (by simp)
 |some a=>cases b with
  |none=>exact(CH.r (e:=e) a).trans (by simp)
  |some b=>exact(BA.eq (e:=e) a b).trans (by simp),λa=>by
 cases a with
 |none=>show xY .non<=n+1;simp[xY]
 |some a=>exact Nat.le_succ_of_le (BA.dp (e:=e) a)⟩
end
section
variable{fs:Ev->Y (O Bx)}{e:α->Dt}{e':β->Dt}
def BN[DecidableEq α][BA e n](c:n<=100)(a:R fa ρ (zE e))(b:R fb ρ (zE e)):R (b2 BQ fa fb) ρ (zE eB):=⟨decide (a.v=b.v),bB a.D b.D,λh=>by
 obtain⟨h1,h2⟩:=aB h;have:=BA.dp (e:=e) a.v;simp only[b2,a.ok h1,b.ok h2,Au,BQ,mG,toD,zv,or_self,ZH,BA.eq];rw[zr ()]⟩
theorem jY(h:jG b=U ds):toD b=.lst ds/\mG b=false:=by
 cases b with
 |z d=>cases d<;>cases h;exact⟨rfl,rfl⟩
 |l d=>cases h;exact⟨rfl,rfl⟩
 |o d=>cases h;exact⟨rfl,rfl⟩
 |n d=>cases h
 |m d _=>cases h
def Xw[DecidableEq α][BA e n](c:n+1<=100)(a:RL fa ρ e)(b:RL fb ρ e):R (b2 BQ fa fb) ρ (zE eB):=⟨decide (a.v=b.v),bB a.D b.D,λh=>by
 obtain⟨h1,h2⟩:=aB h;have:=BA.dp (e:=eL e) a.v;simp only[b2,a.ok h1,b.ok h2,Au,BQ,(jY a.lk).1,(jY a.lk).2,(jY b.lk).1,(jY b.lk).2,zv,or_self,ZH];have e1:=BA.eq (e:=eL e) a.v b.v;rw[zr (zD (Nat.min_le_left _ _) (zD (BA.dp (e:=eL e) a.v) c)),e1,Au]⟩
def Xx[DecidableEq α][BA e n](c:n+1<=100)(a:RL fa ρ e)(b:RL fb ρ e):R (b2 Za fa fb) ρ (zE eB):=⟨!decide (a.v=b.v),bB a.D b.D,λh=>by
 obtain⟨h1,h2⟩:=aB h;simp only[b2,a.ok h1,b.ok h2,Au,Za,(jY a.lk).1,(jY a.lk).2,(jY b.lk).1,(jY b.lk).2,zv,or_self,ZH];have e1:=BA.eq (e:=eL e) a.v b.v;rw[zr (zD (Nat.min_le_left _ _) (zD (BA.dp (e:=eL e) a.v) c)),e1,Au]⟩
def V9(a:R fa ρ (zE (eO e)))(b:∀x,Ls (.z (e x))=false):R (b2 Jq fa (cB .non)) ρ (zE eB):=⟨a.v.isSome,a.D,λh=>by
 simp only[b2,a.ok h,Au,cB,Jq];cases c:a.v with
 |none=>rfl
 |some x=>simp only[dl,b,ki]⟩
def Sg(a:R fa ρ (zE eB))(b:R fb ρ (zE eB)):R (GD fa fb) ρ (zE eB):=⟨a.v&&b.v,bB a.D (Hi (a.v=true) b.D),λh=>by
 obtain⟨h1,h2⟩:=aB h;simp only[GD,a.ok h1,Au,Lb];cases c:a.v with
 |true=>simp only[ZT,Bool.true_and];exact b.ok (lK h2 c)
 |false=>simp only[zv,ZH,cr]⟩
def ZQ(a:R fa ρ (zE eB)):R (tV fa) ρ tE:=⟨a.v,a.D,λh=>by simp only[tV,a.ok h,Au,Rm]⟩
def GI(a:RL fa ρ e):R (tV fa) ρ tE:=⟨!a.v.isEmpty,a.D,λh=>by
 have:Rm a.b=U (!(a.v.map e).isEmpty):=by
  have:=a.lk;generalize a.v.map e=ds at this
  revert this
  generalize a.b=b;intro this;cases b with
  |z d=>cases d<;>cases this;rfl
  |l d=>cases this;rfl
  |o d=>cases this;rfl
  |n d=>cases this
  |m d _=>cases this
 simp only[tV,a.ok h,Au,this,List.isEmpty_map]⟩
def fu{g:Bx->Bx->Y Bx}(a:R (b2 g fa fb) ρ (zE eB)):R (vB g fa fb) ρ tE:=⟨a.v,a.D,λh=>by simp only[vB,a.ok h,Au,Lb]⟩
def Fc(a:R p ρ tE)(b:R q ρ tE):R (Xg p q) ρ tE:=⟨a.v||b.v,bB a.D (Hi (a.v=false) b.D),λh=>by
 obtain⟨h1,h2⟩:=aB h;simp only[Xg,a.ok h1,Au];cases c:a.v with
 |true=>simp only[ZT,Bool.true_or]
 |false=>simp only[zv,ZH,db];exact b.ok (lK h2 c)⟩
def Sh(a:R p ρ tE):R (Jb p) ρ tE:=⟨!a.v,a.D,λh=>by simp only[Jb,a.ok h,Au]⟩
end
section
variable{ε:Type}{fd:Ev->Y Bx}{fs:Ev->Y (O Bx)}{e:α->Dt}{e':β->Dt}{e'':γ->Dt}{e3:δ->Dt}
def LR(e:α->Dt):R (bW iH aG) ρ (zE (eT e)):=⟨[],Z,λ_=>S⟩
def q9(a:R fa ρ (zE e))(b:R fb ρ (zE e')):R (bW iH (ak fa (ak fb aG))) ρ (zE (n8 e e')):=⟨(a.v,b.v),bB a.D b.D,λh=>by
 obtain⟨h1,h2⟩:=aB h;simp only[bW,ak,aG,a.ok h1,b.ok h2,Au];rfl⟩
def Ma(a:R fa ρ (zE e))(b:R fb ρ (zE e'))(c:R fc ρ (zE e'')):R (bW iH (ak fa (ak fb (ak fc aG)))) ρ (zE (D3 e e' e'')):=⟨(a.v,b.v,c.v),bB a.D (bB b.D c.D),λh=>by
 obtain⟨h1,h⟩:=aB h;obtain⟨h2,d⟩:=aB h;simp only[bW,ak,aG,a.ok h1,b.ok h2,c.ok d,Au];rfl⟩
def dY(e:α->Dt):R aG ρ (λxs:O α=>xs.map (zE e)):=⟨[],Z,λ_=>S⟩
def aK(a:R fa ρ (zE e))(t:R fs ρ (λxs:O α=>xs.map (zE e))):R (ak fa fs) ρ (λxs:O α=>xs.map (zE e)):=⟨a.v::t.v,bB a.D t.D,λh=>by
 obtain⟨h1,h2⟩:=aB h;simp only[ak,a.ok h1,t.ok h2,Au,zo]⟩
theorem Bm:∀xs:O α,GF (xs.map (zE e))=U (xs.map e)
 |[]=>rfl
 |x::xs=>by simp only[zo,GF,Bm xs,Au]
def jg(t:R fs ρ (λxs:O α=>xs.map (zE e)))(a:t.v.length<=1000):R (bW jc fs) ρ (oE e):=⟨t.v,t.D,λh=>by
 simp only[bW,t.ok h,Au,jc,zk,zr a,Bm]⟩
def ZR(t:R fs ρ (λxs:O α=>xs.map (zE e)))(a:t.v.length<=1000):R (bW iH fs) ρ (zE (eT e)):=⟨t.v,t.D,λh=>by
 simp only[bW,t.ok h,Au,iH,zk,zr a,Bm]⟩
def Ap[Inhabited α](xs:O α)(i:Int):α:=(Dj xs i).getD default
def In(n:Nat)(i:Int):Prop:=-(n:Int)<=i/\i<n
theorem Ho{xs:O α}{i:Int}(h:In xs.length i):∃x,Dj xs i=U x:=by
 obtain⟨h1,h2⟩:=h;unfold Dj YL;by_cases a:0<=i
 ·rw[zr a,zr h2];exact⟨xs[i.toNat]'(),Z3 ()⟩
 ·rw[zI a,zr h1];exact⟨xs[(i+xs.length).toNat]'(),Z3 ()⟩
theorem ZS{xs:O α}{i:Int}{x:α}(h:Dj xs i=U x):Dj (xs.map e) i=U (e x):=by
 unfold Dj at h ⊢;rw[zk];obtain⟨j,a,h⟩:=AT h;rw[a,Au,Zl,h];rfl
theorem ZV[Inhabited α]{xs:O α}{i:Int}(h:In xs.length i):Dj (xs.map e) i=U (e (Ap xs i)):=by
 obtain⟨x,hx⟩:=Ho h;rw[ZS hx];unfold Ap;rw[hx];rfl
theorem Wa{i:Int}(h:jG b=U ds):gj b (.z (.int i))=(Dj ds i).bind λd=>U (.z d):=by
 cases b with
 |z d=>cases d<;>cases h;rfl
 |l d=>cases h;rfl
 |o d=>cases h;rfl
 |n d=>cases h
 |m d _=>cases h
def gk[Inhabited α](a:RL fa ρ e)(b:R fb ρ (zE eI)):R (b2 gj fa fb) ρ (zE e):=⟨Ap a.v b.v,bB (bB a.D b.D) (U (In a.v.length b.v)),λh=>by
 obtain⟨h,c⟩:=aB h;obtain⟨h1,h2⟩:=aB h;simp only[b2,a.ok h1,b.ok h2,Au,Wa a.lk,ZV (show In a.v.length b.v from c)]⟩
def ch(x:AJ)(i:Int):AJ:=⟨#[(Dj x.cps.toList i).getD 0]⟩
def FJ(a:R fa ρ (zE eS))(b:R fb ρ (zE eI)):R (b2 gj fa fb) ρ (zE eS):=⟨ch a.v b.v,bB (bB a.D b.D) (U (In a.v.length b.v)),λh=>by
 obtain⟨h,c⟩:=aB h;obtain⟨h1,h2⟩:=aB h;obtain⟨x,hx⟩:=Ho (xs:=a.v.cps.toList) (i:=b.v) (show In a.v.length b.v from c);simp only[b2,a.ok h1,b.ok h2,Au,gj,hx,ch,Option.getD_some]⟩
def Bo(a:R fa ρ (zE e))(g:α->β)(e':β->Dt)(i:Int)(h:∀x,gj (.z (e x)) (.z (.int i))=U (.z (e' (g x)))):R (b2 gj fa (cB (.int i))) ρ (zE e'):=⟨g a.v,a.D,λhd=>by
 simp only[b2,a.ok hd,Au,cB,h]⟩
def C1(xs:O α)(lo hi:Y Int):O α:=(xs.drop (HT.eZ xs.length 0 lo)).take (HT.eZ xs.length xs.length hi-HT.eZ xs.length 0 lo)
theorem Wb(xs:O α)(lo hi:Y Int):Bz (xs.map e) lo hi=(C1 xs lo hi).map e:=by
 unfold Bz C1;rw[zk,List.map_take,List.map_drop]
abbrev pE:Y Int->Y Int:=λo=>o
def Wc:R yd ρ pE:=⟨Z,Z,λ_=>S⟩
def Qa(a:R fa ρ (zE eI)):R (qT fa) ρ pE:=⟨U a.v,a.D,λh=>by simp only[qT,a.ok h,Au,Zh]⟩
variable{fl fh:Ev->Y (Y Int)}
theorem Wd(h:jG b=U ds):DF b lo hi=U (.o (Bz ds lo hi)):=by
 cases b with
 |z d=>cases d<;>cases h;rfl
 |l d=>cases h;rfl
 |o d=>cases h;rfl
 |n d=>cases h
 |m d _=>cases h
def ZW(a:RL fa ρ e)(l:R fl ρ pE)(u:R fh ρ pE):R (RJ fa fl fh) ρ (oE e):=⟨C1 a.v l.v u.v,bB a.D (bB l.D u.D),λh=>by
 obtain⟨h1,h⟩:=aB h;obtain⟨h2,b⟩:=aB h;simp only[RJ,a.ok h1,l.ok h2,u.ok b,Au,Wd a.lk,Wb]⟩
def Xy(a:R fa ρ (zE eS))(l:R fl ρ pE)(u:R fh ρ pE):R (RJ fa fl fh) ρ (zE eS):=⟨Txt.slice a.v l.v u.v,bB a.D (bB l.D u.D),λh=>by
 obtain⟨h1,h⟩:=aB h;obtain⟨h2,b⟩:=aB h;simp only[RJ,a.ok h1,l.ok h2,u.ok b,Au,DF]⟩
def LO(a:R fa ρ (zE (eT e))):R (b2 Ly fa (b1 Du (cB (.int 1)))) ρ (zE (eT e)):=⟨a.v.reverse,a.D,λh=>by
 simp only[b2,b1,a.ok h,Au,cB,Du,Ly,ZT,zE,eT,k4]⟩
def Hq(n:Nat):Prop:=n<=1000000
def Bp(a:R fa ρ (zE eS))(b:R fb ρ (zE eS)):R (b2 eN fa fb) ρ (zE eS):=⟨a.v++b.v,bB (bB a.D b.D) (U (Hq (a.v.length+b.v.length))),λh=>by
 obtain⟨h,c⟩:=aB h;obtain⟨h1,h2⟩:=aB h;simp only[b2,a.ok h1,b.ok h2,Au,eN,zr (show a.v.length+b.v.length<=Pr from c)]⟩
theorem Sq{e:Bx}{f:O Dt}(h:jG b=U ds)(h':jG e=U f)(c:ds.length+f.length<=Pr):eN b e=U (.o (ds++f)):=by
 cases b with
 |z d=>
  cases d<;>cases h;cases e with
  |z a=>cases a<;>cases h';exact zr c
  |l a=>cases h';exact zr c
  |o a=>cases h';exact zr c
  |n a=>cases h'
  |m a=>cases h'
 |l d=>
  cases h;cases e with
  |z a=>cases a<;>cases h';exact zr c
  |l a=>cases h';exact zr c
  |o a=>cases h';exact zr c
  |n a=>cases h'
  |m a=>cases h'
 |o d=>
  cases h;cases e with
  |z a=>cases a<;>cases h';exact zr c
  |l a=>cases h';exact zr c
  |o a=>cases h';exact zr c
  |n a=>cases h'
  |m a=>cases h'
 |n d=>cases h
 |m d _=>cases h
def Ss(a:RL fa ρ e)(b:RL fb ρ e):R (b2 eN fa fb) ρ (oE e):=⟨a.v++b.v,bB (bB a.D b.D) (U (Hq (a.v.length+b.v.length))),λh=>by
 obtain⟨h,c⟩:=aB h;obtain⟨h1,h2⟩:=aB h;simp only[b2,a.ok h1,b.ok h2,Au];rw[Sq a.lk b.lk (by rw[zk,zk];exact c)];simp only[oE,QE]⟩
def Sv(a:R fa ρ (zE eS))(b:R fb ρ (zE eI)):R (b2 qJ fa fb) ρ (zE eS):=⟨Txt.mul a.v b.v,bB (bB a.D b.D) (U (b.v<=1000 ∧ -1000<=b.v/\a.v.length<=1000)),λh=>by
 obtain⟨h,c⟩:=aB h;obtain⟨h1,h2⟩:=aB h;simp only[b2,a.ok h1,b.ok h2,Au];exact zr c⟩
theorem Sw(h:jG b=U ds):qU [b]=U (.z (.int ds.length)):=by
 cases b with
 |z d=>cases d<;>cases h;rfl
 |l d=>cases h;rfl
 |o d=>cases h;rfl
 |n d=>cases h
 |m d _=>cases h
theorem Sx(h:jG b=U ds):Ay b=U ds:=by
 cases b with
 |z d=>cases d<;>cases h;rfl
 |l d=>cases h;rfl
 |o d=>cases h;rfl
 |n d=>cases h
 |m d _=>cases h
def BV(a:RL fa ρ e):R (bW qU (ak fa aG)) ρ (zE eI):=⟨(a.v.length:Int),a.D,λh=>by
 simp only[bW,ak,aG,a.ok h,Au,Sw a.lk,zk]⟩
def Mf(a:R fa ρ (zE eS)):R (bW qU (ak fa aG)) ρ (zE eI):=⟨(a.v.length:Int),a.D,λh=>by
 simp only[bW,ak,aG,a.ok h,Au,qU]⟩
def pQ(a:RL fa ρ e):R (bW ji (ak fa aG)) ρ (zE (eT e)):=⟨a.v,a.D,λh=>by
 simp only[bW,ak,aG,a.ok h,Au,ji,Sx a.lk]⟩
def LS(a:R fa ρ (zE eI)):R (bW Pz (ak fa aG)) ρ (zE eI):=⟨if a.v<0 then -a.v else a.v,a.D,λh=>by
 simp only[bW,ak,aG,a.ok h,Au,Pz]⟩
def ZX(a:R fa ρ (zE eB)):R (bW RK (ak fa aG)) ρ (zE eI):=⟨if a.v=true then 1 else 0,a.D,λh=>by
 simp only[bW,ak,aG,a.ok h,Au,RK]⟩
theorem FN:∀l:O Bool,Fj (l.map eB)=U l
 |[]=>rfl
 |a::l=>by simp only[zo,Fj,FN l,Au]
def GY(a:RL fa ρ eB):R (bW CF (ak fa aG)) ρ (zE eB):=⟨a.v.all id,a.D,λh=>by
 simp only[bW,ak,aG,a.ok h,Au,CF,a.lk,FN]⟩
def Xz(P:Dt->Bool)(a:R fa ρ (zE e)):R (uq P fa) ρ (zE eB):=⟨P (e a.v),a.D,λh=>by
 simp only[uq,b1,a.ok h,Au,mG,toD,zv,ZH]⟩
def Z0(P:Dt->Bool)(a:RL fa ρ e)(k:Bool)(hk:∀ds,P (.lst ds)=k):R (uq P fa) ρ (zE eB):=⟨k,a.D,λh=>by
 simp only[uq,b1,a.ok h,Au,jY a.lk,zv,ZH,hk]⟩
theorem Bi:∀l:AZ,oH (l.map eS)=U l
 |[]=>rfl
 |a::l=>by simp only[zo,oH,Bi l,Au]
def Z1(s:AJ)(a:RL fa ρ eS):R (b1 (Fo s) fa) ρ (zE eS):=⟨Txt.join s a.v,bB a.D (U ((a.v.map (·.length)).sum+a.v.length*s.length<=100000)),λh=>by
 obtain⟨h,b⟩:=aB h;simp only[b1,a.ok h,Au,Fo,a.lk,Bi];exact zr b⟩
def z6(a:RL fa ρ eS):R (bW wL (ak fa aG)) ρ (oE eS):=⟨gY a.v,bB a.D (U (a.v.length<64)),λh=>by
 obtain⟨h,b⟩:=aB h;simp only[bW,ak,aG,a.ok h,Au,wL,a.lk,Bi];exact zr b⟩
class C7 {α:Type} (e:α->Dt):Prop where
 f:∀a,wD (e a)=true
instance:C7 eI:=⟨λ_=>rfl⟩
instance:C7 eB:=⟨λ_=>rfl⟩
instance:C7 eS:=⟨λ_=>rfl⟩
theorem Sy[DecidableEq α][BA e n][C7 e](x:α)(ys:O α):CM (e x) (ys.map e)=U (decide (x∈ys)):=by
 unfold CM;rw[zr ⟨C7.f x,by rw[List.all_map];exact List.all_eq_true.mpr λy _=>C7.f y⟩,List.any_map];congr 1;rw[cb,eg,decide_eq_true_iff];constructor
 ·rintro⟨y,a,h⟩;simp only[Function.comp,BA.eq]at h;by_cases e1:y=x
  ·rw[<-e1];exact a
  ·simp only[e1,jn]at h;cases h
 ·intro h;exact⟨x,h,by simp only[Function.comp,BA.eq,kA]⟩
theorem Wf:DZ (.z d) (.z (.tup ds))=CM d ds:=by cases d<;>rfl
def GB[DecidableEq α][BA e n][C7 e](a:R fa ρ (zE e))(b:R fb ρ (zE (eT e))):R (b2 inF fa fb) ρ (zE eB):=⟨decide (a.v∈b.v),bB a.D b.D,λh=>by
 obtain⟨h1,h2⟩:=aB h;simp only[b2,a.ok h1,b.ok h2,Au,inF,Wf,Sy]⟩
end
structure AR {γ:Type} (cA:γ->List Bx->Prop) (fs:Ev->Option (List Bx)) (ρ:Ev) where
 v:γ
 D:Option Prop
 bs:List Bx
 h:cA v bs
 ok:B5 D->fs ρ=some bs
section
variable{ε σ:Type}{fd:Ev->Y Bx}{fs:Ev->Y (O Bx)}{e:α->Dt}{e':β->Dt}{e'':γ->Dt}{e3:δ->Dt}
def aN:Unit->O Bx->Prop:=λ_ bs=>bs=[]
def aZ(e:α->Dt)(t:γ->O Bx->Prop):α×γ->O Bx->Prop:=λx bs=>∃r,bs=.z (e x.1)::r/\t x.2 r
def aL(e:α->Dt)(t:γ->O Bx->Prop):O α×γ->O Bx->Prop:=λx bs=>∃b r,bs=b::r/\jG b=U (x.1.map e)/\t x.2 r
def cD:AR aN aG ρ:=⟨eu,Z,[],rfl,λ_=>S⟩
def cZ{t:γ->O Bx->Prop}(a:R fa ρ (zE e))(r:AR t fs ρ):AR (aZ e t) (ak fa fs) ρ:=⟨(a.v,r.v),bB a.D r.D,_,⟨_,rfl,r.h⟩,λh=>by
 obtain⟨h1,h2⟩:=aB h;simp only[ak,a.ok h1,r.ok h2,Au]⟩
def yj{t:γ->O Bx->Prop}(a:RL fa ρ e)(r:AR t fs ρ):AR (aL e t) (ak fa fs) ρ:=⟨(a.v,r.v),bB a.D r.D,_,⟨_,_,rfl,a.lk,r.h⟩,λh=>by
 obtain⟨h1,h2⟩:=aB h;simp only[ak,a.ok h1,r.ok h2,Au]⟩
def B1{b:γ->O Bx->Prop}{c:α->Bx}{T:γ->α}{d:γ->Y Prop}(S:∀v bs,b v bs->bs.length=n/\(B5 (d v)->F (bs.map lend)=U (c (T v))))(a:AR b fs ρ):R (bN n F fs) ρ c:=⟨T a.v,bB a.D (d a.v),λh=>by
 obtain⟨h1,h2⟩:=aB h;obtain⟨e,f⟩:=S a.v a.bs a.h;simp only[bN,a.ok h1,Au,zr e,f h2]⟩
theorem Z2{bs:O Bx}{c:α->Bx}(x:R g (bs.map U++aa (n-bs.length) Z) (λr=>An.rt (c r)))(h:B5 x.D):cQ n g bs=U (c x.v):=by
 unfold cQ;rw[x.ok h];rfl
def FO(xs:O α)(P:α->Y Prop):Y Prop:=U (∀x∈xs,B5 (P x))
theorem JG{fs:Ev->Y (O Dt)}{c:Ev}{g:α->O Dt}{π:α->Bool}:∀xs:O α,(∀x∈xs,∃a,gt (e x) c=U a/\p a=U (π x)/\(π x=true->fs a=U (g x)))->zF gt p fs c (xs.map e)=U ((xs.filter π).flatMap g)
 |[],_=>rfl
 |x::xs,h=>by
  obtain⟨a,h1,h2,d⟩:=h x (ze ..);have b:=JG (g:=g) (π:=π) xs λy f=>h y (zg _ f);cases hp:π x with
  |true=>simp only[zo,zF,h1,Au,h2,hp,ZT,d hp,b,ku,j3]
  |false=>simp only[zo,zF,h1,Au,h2,hp,b,ku,zv,ZH]
theorem JH{g:α->β}:∀xs:O α,xs.flatMap (λx=>[e' (g x)])=(xs.map g).map e'
 |[]=>rfl
 |x::xs=>by rw[j3,JH xs];rfl
theorem Bq{b:Ev}{g:α->β}{π:α->Bool}(xs:O α)(h:∀x∈xs,∃a,gt (e x) b=U a/\p a=U (π x)/\(π x=true->fe a=U (.z (e' (g x))))):Ez gt p fe b (xs.map e)=U (((xs.filter π).map g).map e'):=by
 rw[<-JH];exact JG xs λx hx=>let ⟨a,h1,h2,h3⟩:=h x hx;⟨a,h1,h2,λhp=>by rw[h3 hp];rfl⟩
theorem C2{b:Ev}{g:α->β}(xs:O α)(h:∀x∈xs,∃a,gt (e x) b=U a/\fe a=U (.z (e' (g x)))):Ez gt vC fe b (xs.map e)=U ((xs.map g).map e'):=
 (Bq (π:=λ_=>true) xs λx hx=>let ⟨a,h1,h2⟩:=h x hx;⟨a,h1,rfl,λ_=>h2⟩).trans (by rw[List.filter_eq_self.mpr λ_ _=>S])
def Mg(it:R fi ρ (iE e))(c:α->Ev)(d:∀x,gt (e x) (iz is ρ++aa n Z)=U (c x))(b:∀x,R fe (c x) (zE e')):R (dH fi gt vC fe is n) ρ (oE e'):=⟨it.v.map λx=>(b x).v,bB (bB it.D (U (it.v.length<=100000))) (FO it.v λx=>(b x).D),λh=>by
 obtain⟨h,a⟩:=aB h;obtain⟨h1,h2⟩:=aB h;have a:∀x∈it.v,B5 (b x).D:=a;simp only[dH,it.ok h1,Au,zk,zr (show it.v.length<=100000 from h2),C2 it.v λx hx=>⟨c x,d x,(b x).ok (a x hx)⟩]⟩
def wO(it:R fi ρ (iE e))(a:α->Ev)(d:∀x,gt (e x) (iz is ρ++aa n Z)=U (a x))(b:∀x,R fe (a x) (zE e'))(c:∀x,(b x).D=Z):R (dH fi gt vC fe is n) ρ (oE e'):=⟨it.v.map λx=>(b x).v,bB it.D (U (it.v.length<=100000)),λh=>by
 obtain⟨h1,h2⟩:=aB h;simp only[dH,it.ok h1,Au,zk,zr (show it.v.length<=100000 from h2),C2 it.v λx hx=>⟨a x,d x,(b x).ok (by rw[c x];trivial)⟩]⟩
def z7(it:R fi ρ (iE e))(c:α->Ev)(f:∀x,gt (e x) (iz is ρ++aa n Z)=U (c x))(t:∀x,R p (c x) tE)(b:∀x,R fe (c x) (zE e')):R (dH fi gt p fe is n) ρ (oE e'):=⟨(it.v.filter λx=>(t x).v).map λx=>(b x).v,bB (bB it.D (U (it.v.length<=100000))) (FO it.v λx=>bB (t x).D (Hi ((t x).v=true) (b x).D)),λh=>by
 obtain⟨h,a⟩:=aB h;obtain⟨h1,h2⟩:=aB h;have a:∀x∈it.v,B5 (bB (t x).D (Hi ((t x).v=true) (b x).D)):=a;simp only[dH,it.ok h1,Au,zk,zr (show it.v.length<=100000 from h2),Bq it.v λx hx=>⟨c x,f x,(t x).ok (aB (a x hx)).1,λd=>(b x).ok (lK (aB (a x hx)).2 d)⟩]⟩
def Br(it:R fi ρ (iE e))(a:α->Ev)(f:∀x,gt (e x) (iz is ρ++aa n Z)=U (a x))(t:∀x,R p (a x) tE)(b:∀x,R fe (a x) (zE e'))(c:∀x,(t x).D=Z)(d:∀x,(b x).D=Z):R (dH fi gt p fe is n) ρ (oE e'):=⟨(it.v.filter λx=>(t x).v).map λx=>(b x).v,bB it.D (U (it.v.length<=100000)),λh=>by
 obtain⟨h1,h2⟩:=aB h;simp only[dH,it.ok h1,Au,zk,zr (show it.v.length<=100000 from h2),Bq it.v λx hx=>⟨a x,f x,(t x).ok (by rw[c x];trivial),λ_=>(b x).ok (by rw[d x];trivial)⟩]⟩
def JK(a:RL fa ρ e):R (G7 fa) ρ (iE e):=⟨a.v,a.D,λh=>by
 have:Vw a.b=U (a.v.map e):=by
  have:=a.lk
  revert this
  generalize a.b=b;generalize a.v.map e=ds;intro this;cases b with
  |z d=>cases d<;>cases this;rfl
  |l d=>cases this;rfl
  |o d=>cases this;rfl
  |n d=>cases this
  |m d _=>cases this
 simp only[G7,a.ok h,Au,this]⟩
def SJ(a:R fa ρ (zE (eT e))):R (G7 fa) ρ (iE e):=⟨a.v,a.D,λh=>by simp only[G7,a.ok h,Au,Vw]⟩
def G1(a:R fa ρ (oE e)):R (Xp fa) ρ (iE e):=⟨a.v,a.D,λh=>by simp only[Xp,a.ok h,Au,Rq]⟩
def GG(a:R fa ρ (zE (eT e))):R (Xp fa) ρ (iE e):=⟨a.v,a.D,λh=>by simp only[Xp,a.ok h,Au,Rq]⟩
def rng(i:Int)(n:Nat):O Int:=(am n).map λk:Nat=>i+(k:Int)
theorem N6(i:Int)(n:Nat):GP i n=(rng i n).map eI:=by
 unfold GP rng;rw[JI];rfl
def Rg(j:Int):Prop:=-4611686018427387904<=j/\j<4611686018427387904
def Bt(a:R fa ρ (zE eI)):R (Ij (ak fa aG)) ρ (iE eI):=⟨rng 0 a.v.toNat,bB a.D (U (Rg a.v)),λh=>by
 obtain⟨h,b⟩:=aB h;simp only[Ij,ak,aG,a.ok h,Au];show(if -(2 ^ 62)<=a.v/\a.v<2 ^ 62 then U (GP 0 a.v.toNat)else Z)=_;exact(zr b).trans (by rw[N6])⟩
def Z4(n:Int)(m:Nat)(a:n.toNat=m)(b:Rg n):R (Ij (ak (cB (.int n)) aG)) ρ (iE eI):=⟨rng 0 m,Z,λ_=>by
 simp only[Ij,ak,aG,Au,cB];show(if -(2 ^ 62)<=n/\n<2 ^ 62 then U (GP 0 n.toNat)else Z)=_;exact(zr b).trans (by rw[N6,a])⟩
end
section
variable{ε σ τ:Type}{fd:Ev->Y Bx}{fs:Ev->Y (O Bx)}{e:α->Dt}{e':β->Dt}{k:Ev->Y An}{cO:γ->An}
theorem lM{ρ':Ev}(h:g1 ρ=U (.nx ρ')):aD g1 k ρ=k ρ':=by
 unfold aD;rw[h];rfl
def bT(x:R (aD g (aD g1 k)) ρ cO):R (aD (aD g g1) k) ρ cO:=⟨x.v,x.D,λh=>by
 rw[<-x.ok h];unfold aD;cases g ρ with
 |none=>rfl
 |some o=>cases o<;>rfl⟩
def cF(x:R k ρ cO):R (aD cY k) ρ cO:=⟨x.v,x.D,λh=>x.ok h⟩
def cG(x:γ)(h:cO x=.nx (kill is ρ)):R (d7 is) ρ cO:=⟨x,Z,λ_=>by rw[h];rfl⟩
def cI{c:α->Bx}(inj:α->γ)(a:R f ρ c)(h:∀x,cO (inj x)=.rt (c x))(b:∀x,Rp (c x)=U (.rt (c x))):R (aD (cX f) k) ρ cO:=⟨inj a.v,a.D,λhd=>by
 have:cX f ρ=U (.rt (c a.v)):=by unfold cX;rw[a.ok hd,Au,b]
 unfold aD;rw[this,h];rfl⟩
def Mh{c:α->Bx}(i:Nat)(inj:α->γ)(a:α)(hi:ρ[i]?=U (U (c a)))(h:∀x,cO (inj x)=.rt (c x))(b:∀x,Rp (c x)=U (.rt (c x))):R (aD (Dq i) k) ρ cO:=⟨inj a,Z,λhd=>by
 have:Dq i ρ=U (.rt (c a)):=by unfold Dq;rw[hi];exact b a
 unfold aD;rw[this,h];rfl⟩
def bV{c:α->Bx}(i:Nat)(a:R f ρ c)(b:∀x,Jd ρ i (c x)=U (ρ.set i (U (c x))))(K:∀x,R k (ρ.set i (U (c x))) cO):R (aD (B0 i f) k) ρ cO:=⟨(K a.v).v,bB a.D (K a.v).D,λhd=>by
 obtain⟨h1,h2⟩:=aB hd;rw[lM (ρ':=ρ.set i (U (c a.v))) (by unfold B0;rw[a.ok h1,Au,b,Au])];exact(K a.v).ok h2⟩
def Bu(i:Nat)(xs:O α)(hi:ρ[i]?=U (U (.o (xs.map e))))(a:R f ρ (zE e))(K:∀ys:O α,R k (ρ.set i (U (.o (ys.map e)))) cO):R (aD (Dv i f) k) ρ cO:=⟨(K (xs++[a.v])).v,bB (bB a.D (U (Hq xs.length))) (K (xs++[a.v])).D,λhd=>by
 obtain⟨h1,b⟩:=aB hd;obtain⟨h1,h2⟩:=aB h1;have h2:xs.length<=1000000:=h2;rw[lM (ρ':=ρ.set i (U (.o ((xs++[a.v]).map e)))) (by
  unfold Dv;rw[a.ok h1,Au];simp only[Vr,hi,zk,QE,zo,kH];rw[zr (dr h2 ())])]
 exact(K _).ok b⟩
def mK(t:R p ρ tE)(a:R (aD g1 k) ρ cO)(b:R (aD g2 k) ρ cO):R (aD (vW p g1 g2) k) ρ cO:=⟨if t.v=true then a.v else b.v,bB t.D (bB (Hi (t.v=true) a.D) (Hi (t.v=false) b.D)),λhd=>by
 obtain⟨h1,h2⟩:=aB hd;obtain⟨h2,e⟩:=aB h2;have e1:∀c,t.v=c->aD (vW p g1 g2) k ρ=aD (if c=true then g1 else g2) k ρ:=λc f=>by
  unfold aD vW;rw[t.ok h1,Au,f];cases c<;>rfl
 cases d:t.v with
 |true=>rw[e1 true d];simp only[ZT];exact a.ok (lK h2 d)
 |false=>rw[e1 false d];simp only[zv,ZH];exact b.ok (lK e d)⟩
def N7(E:σ->Ev)(t:R p ρ tE)(a:R g1 ρ (λs=>An.nx (E s)))(b:R g2 ρ (λs=>An.nx (E s)))(K:∀s,R k (E s) cO):R (aD (vW p g1 g2) k) ρ cO:=⟨(K (if t.v=true then a.v else b.v)).v,bB (bB t.D (bB (Hi (t.v=true) a.D) (Hi (t.v=false) b.D))) (K (if t.v=true then a.v else b.v)).D,λhd=>by
 obtain⟨h,e⟩:=aB hd;obtain⟨h1,h2⟩:=aB h;obtain⟨h2,d⟩:=aB h2;rw[lM (ρ':=E (if t.v=true then a.v else b.v)) (by
  unfold vW;rw[t.ok h1,Au];cases c:t.v with
  |true=>simp only[ZT];exact a.ok (lK h2 c)
  |false=>simp only[zv,ZH];exact b.ok (lK d c))]
 exact(K _).ok e⟩
def pR(step:σ->α->σ)(P:σ->α->Y Prop):O α->σ->Prop
 |[],_=>True
 |x::xs,s=>B5 (P s x)/\pR step P xs (step s x)
theorem wQ{gb:Ev->Y An}(E:σ->Ev)(a:σ->α->Ev)(b:∀s x,gt (e x) (E s)=U (a s x))(body:∀s x,R gb (a s x) (λs=>An.nx (E s))):∀(xs:O α) (s:σ),pR (λs x=>(body s x).v) (λs x=>(body s x).D) xs s->pL gt gb (xs.map e) (E s)=U (.nx (E (xs.foldl (λs x=>(body s x).v) s)))
 |[],s,_=>rfl
 |x::xs,s,h=>by
  simp only[zo,pL,b,Au,(body s x).ok h.1,js];exact wQ E a b body xs _ h.2
def FP(E:σ->Ev)(a:σ)(f:ρ=E a)(it:R fi ρ (iE e))(b:σ->α->Ev)(d:∀s x,gt (e x) (E s)=U (b s x))(body:∀s x,R gb (b s x) (λs=>An.nx (E s)))(K:∀s,R k (E s) cO):R (aD (mH fi gt gb) k) ρ cO:=⟨(K (it.v.foldl (λs x=>(body s x).v) a)).v,bB (bB it.D (U (pR (λs x=>(body s x).v) (λs x=>(body s x).D) it.v a))) (K (it.v.foldl (λs x=>(body s x).v) a)).D,λhd=>by
 obtain⟨h,c⟩:=aB hd;obtain⟨h1,h2⟩:=aB h;rw[lM (ρ':=E (it.v.foldl (λs x=>(body s x).v) a)) (by
  unfold mH;rw[it.ok h1,Au];subst f;exact wQ E b d body it.v a h2)]
 exact(K _).ok c⟩
def Z5(E:σ->Ev)(a:σ)(g:ρ=E a)(it:R fi ρ (iE e))(b:σ->α->Ev)(d:∀s x,gt (e x) (E s)=U (b s x))(body:∀s x,R gb (b s x) (λs=>An.nx (E s)))(h:∀s x,(body s x).D=Z)(K:∀s,R k (E s) cO):R (aD (mH fi gt gb) k) ρ cO:=⟨(K (it.v.foldl (λs x=>(body s x).v) a)).v,bB it.D (K (it.v.foldl (λs x=>(body s x).v) a)).D,λhd=>by
 obtain⟨h1,c⟩:=aB hd;have h2:∀(xs:O α) (s:σ),pR (λs x=>(body s x).v) (λs x=>(body s x).D) xs s:=λxs=>by
  induction xs with
  |nil=>intro s;trivial
  |cons x xs f=>intro s;exact⟨by show B5 (body s x).D;rw[h s x];trivial,f _⟩
 rw[lM (ρ':=E (it.v.foldl (λs x=>(body s x).v) a)) (by
  unfold mH;rw[it.ok h1,Au];subst g;exact wQ E b d body it.v a (h2 _ _))]
 exact(K _).ok c⟩
inductive ux (σ τ:Type) where
 |nx (s:σ)|rt (r:τ)|bk (s:σ)|ct (s:σ)
def cC(E:σ->Ev)(c:τ->Bx):ux σ τ->An
 |.nx s=>.nx (E s)
 |.rt r=>.rt (c r)
 |.bk s=>.bk (E s)
 |.ct s=>.ct (E s)
def jM(step:σ->α->ux σ τ):O α->σ->ux σ τ
 |[],s=>.nx s
 |x::xs,s=>match step s x with
  |.nx s'=>jM step xs s'
  |.ct s'=>jM step xs s'
  |.bk s'=>.nx s'
  |.rt r=>.rt r
def rz(step:σ->α->ux σ τ)(P:σ->α->Y Prop):O α->σ->Prop
 |[],_=>True
 |x::xs,s=>B5 (P s x)/\match step s x with
  |.nx s'=>rz step P xs s'
  |.ct s'=>rz step P xs s'
  |.bk _=>True
  |.rt _=>True
theorem z8{c:τ->Bx}(E:σ->Ev)(a:σ->α->Ev)(b:∀s x,gt (e x) (E s)=U (a s x))(body:∀s x,R gb (a s x) (cC E c)):∀(xs:O α) (s:σ),rz (λs x=>(body s x).v) (λs x=>(body s x).D) xs s->pL gt gb (xs.map e) (E s)=U (cC E c (jM (λs x=>(body s x).v) xs s))
 |[],s,_=>rfl
 |x::xs,s,h=>by
  obtain⟨h1,h2⟩:=h;dsimp only at h2;simp only[zo,pL,b,Au,(body s x).ok h1,jM]
  revert h2
  cases(body s x).v with
  |nx s'=>intro h2;exact z8 E a b body xs s' h2
  |ct s'=>intro h2;exact z8 E a b body xs s' h2
  |bk s'=>intro _;rfl
  |rt r=>intro _;rfl
theorem wR(step:σ->α->ux σ τ):∀(xs:O α) (s:σ),(∃s',jM step xs s=.nx s')\/∃r,jM step xs s=.rt r
 |[],s=>.inl ⟨s,rfl⟩
 |x::xs,s=>by
  unfold jM;cases step s x with
  |nx s'=>exact wR step xs s'
  |ct s'=>exact wR step xs s'
  |bk s'=>exact .inl ⟨s',rfl⟩
  |rt r=>exact .inr ⟨r,rfl⟩
def BY(r:ux σ τ)(inj:τ->γ)(K:σ->γ):γ:=match r with
 |.rt r=>inj r
 |.nx s=>K s
 |.bk s=>K s
 |.ct s=>K s
def z9(r:ux σ τ)(K:σ->Prop):Prop:=match r with
 |.rt _=>True
 |.nx s=>K s
 |.bk s=>K s
 |.ct s=>K s
def N8(r:ux σ τ)(K:σ->Y Prop):Y Prop:=U (z9 r λs=>B5 (K s))
def SM{c:τ->Bx}(E:σ->Ev)(a:σ)(i:ρ=E a)(it:R fi ρ (iE e))(b:σ->α->Ev)(g:∀s x,gt (e x) (E s)=U (b s x))(body:∀s x,R gb (b s x) (cC E c))(inj:τ->γ)(f:∀r,cO (inj r)=.rt (c r))(K:∀s,R k (E s) cO):R (aD (mH fi gt gb) k) ρ cO:=⟨BY (jM (λs x=>(body s x).v) it.v a) inj λs=>(K s).v,bB (bB it.D (U (rz (λs x=>(body s x).v) (λs x=>(body s x).D) it.v a))) (N8 (jM (λs x=>(body s x).v) it.v a) λs=>(K s).D),λhd=>by
 obtain⟨h,d⟩:=aB hd;obtain⟨h1,h2⟩:=aB h;have e1:mH fi gt gb ρ=U (cC E c (jM (λs x=>(body s x).v) it.v a)):=by
  unfold mH;rw[it.ok h1,Au];subst i;exact z8 E b g body it.v a h2
 rcases wR (λs x=>(body s x).v) it.v a with⟨s',es⟩|⟨r,es⟩
 ·rw[es]at e1 d ⊢;rw[lM e1];exact(K s').ok d
 ·rw[es]at e1 ⊢;show aD (mH fi gt gb) k ρ=U (cO (inj r));unfold aD;rw[e1,f];rfl⟩
theorem SN(h:ρ[i]?=U (U (.z (.tup ds)))):u9 i gt gb ρ=pL gt gb ds ρ:=by unfold u9;rw[h];rfl
theorem Z6(h:ρ[i]?=U (U (.z (.lst ds)))):u9 i gt gb ρ=pL gt gb ds ρ:=by unfold u9;rw[h];rfl
def SQ(i:Nat){ρ':Ev}(xs:O α)(g:u9 i gt gb ρ=pL gt gb (xs.map e) ρ')(E:σ->Ev)(a:σ)(f:ρ'=E a)(b:σ->α->Ev)(d:∀s x,gt (e x) (E s)=U (b s x))(body:∀s x,R gb (b s x) (λs=>An.nx (E s)))(K:∀s,R k (E s) cO):R (aD (u9 i gt gb) k) ρ cO:=⟨(K (xs.foldl (λs x=>(body s x).v) a)).v,bB (U (pR (λs x=>(body s x).v) (λs x=>(body s x).D) xs a)) (K (xs.foldl (λs x=>(body s x).v) a)).D,λhd=>by
 obtain⟨h2,c⟩:=aB hd;rw[lM (ρ':=E (xs.foldl (λs x=>(body s x).v) a)) (by
  rw[g,f];exact wQ E b d body xs a h2)]
 exact(K _).ok c⟩
def Wg{c:τ->Bx}(i:Nat){ρ':Ev}(xs:O α)(j:u9 i gt gb ρ=pL gt gb (xs.map e) ρ')(E:σ->Ev)(a:σ)(h:ρ'=E a)(b:σ->α->Ev)(g:∀s x,gt (e x) (E s)=U (b s x))(body:∀s x,R gb (b s x) (cC E c))(inj:τ->γ)(f:∀r,cO (inj r)=.rt (c r))(K:∀s,R k (E s) cO):R (aD (u9 i gt gb) k) ρ cO:=⟨BY (jM (λs x=>(body s x).v) xs a) inj λs=>(K s).v,bB (U (rz (λs x=>(body s x).v) (λs x=>(body s x).D) xs a)) (N8 (jM (λs x=>(body s x).v) xs a) λs=>(K s).D),λhd=>by
 obtain⟨h2,d⟩:=aB hd;have e1:u9 i gt gb ρ=U (cC E c (jM (λs x=>(body s x).v) xs a)):=by
  rw[j,h];exact z8 E b g body xs a h2
 rcases wR (λs x=>(body s x).v) xs a with⟨s',es⟩|⟨r,es⟩
 ·rw[es]at e1 d ⊢;rw[lM e1];exact(K s').ok d
 ·rw[es]at e1 ⊢;show aD (u9 i gt gb) k ρ=U (cO (inj r));unfold aD;rw[e1,f];rfl⟩
class Ky {κ:Type} (c:κ->AY):Prop where
 inj:∀a b,c a=c b->a=b
abbrev kS:AJ->AY:=Sum.inr
abbrev kI:Int->AY:=Sum.inl
instance:Ky kS:=⟨λ_ _ h=>by cases h;rfl⟩
instance:Ky kI:=⟨λ_ _ h=>by cases h;rfl⟩
section
variable [DecidableEq κ] {c:κ->AY}
def has(m:O (κ×α))(x:κ):Bool:=m.any λq=>decide (q.1=x)
end
end
section
variable{fs:Ev->Y AZ}{e:α->Dt}
theorem Wh(h:jG b=U ds):Ay b=U ds:=by
 cases b with
 |z d=>cases d<;>first|exact h|(cases h;done)
 |l _=>exact h
 |o _=>exact h
 |n _=>cases h
 |m _ _=>cases h
theorem XC(n:Nat):∃m,m=n:=⟨n,rfl⟩
noncomputable def kN(n:Nat):Nat:=Classical.choose (XC n)
theorem XD(n:Nat):kN n=n:=Classical.choose_spec (XC n)
noncomputable def Z7(n:Int)(m:Nat)(a:n.toNat=m)(b:Rg n):R (Ij (ak (cB (.int n)) aG)) ρ (iE eI):=⟨rng 0 (kN m),Z,λh=>by rw[XD];exact(Z4 n m a b).ok h⟩
end
end P1
namespace P1
open L2 S1 S6
class mL {α:Type} (e:α->Dt) where
 k:α->AY
 ok:∀a,Zv (e a)=some (k a)
 inj:∀a b,k a=k b->a=b
 same:∀a b,Jx (k a) (k b)=true
instance:mL eI:=⟨λi=>.inl i,λ_=>rfl,λa b h=>by cases h;rfl,λ_ _=>rfl⟩
instance:mL eS:=⟨λi=>.inr i,λ_=>rfl,λa b h=>by cases h;rfl,λ_ _=>rfl⟩
class kY {α:Type} (e:α->Dt) where
 k:α->List AY
 ok:∀a,ur (e a)=some (k a)
 inj:∀a b,k a=k b->a=b
 shp:∀a b,LC (k a) (k b)=true
 ne:∀a,(k a).isEmpty=false
class Z8 {α:Type} (e:α->Dt) [kY e]:Prop where
 tx:∀a,V5 (kY.k e a)=true
section
variable{e:α->Dt}{e':β->Dt}{e'':γ->Dt}{e3:δ->Dt}
instance [mL e] [mL e']:kY (n8 e e'):=⟨λq=>[mL.k e q.1,mL.k e' q.2],λq=>by simp only[ur,Fv,mL.ok,Au],λa b h=>by
 simp only[QY,and_true]at h;exact bg (mL.inj _ _ h.1) (mL.inj _ _ h.2),λa b=>by simp[LC,mL.same],λ_=>rfl⟩
instance [mL e] [mL e'] [mL e'']:kY (D3 e e' e''):=⟨λq=>[mL.k e q.1,mL.k e' q.2.1,mL.k e'' q.2.2],λq=>by simp only[ur,Fv,mL.ok,Au],λa b h=>by
 simp only[QY,and_true]at h;exact bg (mL.inj _ _ h.1) (bg (mL.inj _ _ h.2.1) (mL.inj _ _ h.2.2)),λa b=>by simp[LC,mL.same],λ_=>rfl⟩
instance [mL e] [mL e'] [mL e''] [mL e3]:kY (EC e e' e'' e3):=⟨λq=>[mL.k e q.1,mL.k e' q.2.1,mL.k e'' q.2.2.1,mL.k e3 q.2.2.2],λq=>by simp only[ur,Fv,mL.ok,Au],λa b h=>by
 simp only[QY,and_true]at h;exact bg (mL.inj _ _ h.1) (bg (mL.inj _ _ h.2.1) (bg (mL.inj _ _ h.2.2.1) (mL.inj _ _ h.2.2.2))),λa b=>by simp[LC,mL.same],λ_=>rfl⟩
instance [mL e]:Z8 (n8 e eS):=⟨λa=>by simp[kY.k,V5,mL.k]⟩
instance [mL e] [mL e']:Z8 (D3 e eS e'):=⟨λa=>by simp[kY.k,V5,mL.k]⟩
instance [mL e] [mL e'] [mL e'']:Z8 (EC e eS e' e''):=⟨λa=>by simp[kY.k,V5,mL.k]⟩
variable{fs:Ev->Y (O (O AY))}
theorem Bv[kY e]:∀xs:O α,Bc (xs.map e)=U (xs.map (kY.k e))
 |[]=>rfl
 |x::xs=>by simp only[zo,Bc,kY.ok,Au,Bv xs]
def Ut(e:α->Dt)[kY e](a b:α):Bool:=nH (kY.k e a) (kY.k e b)
def Wi(e:α->Dt)[kY e](a b:α):Bool:=dX (kY.k e a) (kY.k e b)
def wU(e:α->Dt)[kY e](xs:O α):O α:=xs.mergeSort (Ut e)
theorem lN[kY e](xs:O α):(wU e xs).Perm xs:=kF ..
theorem Bw[kY e](xs:O α):(wU e xs).Pairwise (λa b=>Ut e a b=true):=kf (le:=Ut e) (λa b c=>pP (kY.k e a) (kY.k e b) (kY.k e c)) (λa b=>vD (kY.k e a) (kY.k e b)) xs
theorem SX[kY e]{a b:α}(h:Ut e a b=true)(h':Ut e b a=true):a=b:=kY.inj _ _ (Fq h h')
theorem Qc[kY e](xs:O α):nJ (xs.map (kY.k e))=(wU e xs).map (kY.k e):=by
 refine(tu ((lN xs).map _) (az.mpr (Bw xs))).symm
theorem Z9[kY e](xs:O α):(xs.map (kY.k e)).map Be=xs.map e:=by
 rw[JI];exact ZY λa _=>(wN (kY.ok a)).symm
theorem S5[kY e](xs:O α)(h:xs.length<64):V4 (xs.map (kY.k e))=true:=by
 simp only[V4,ZA,kl,qA,Q2,zk,ae,forall_exists_index,and_imp,forall_apply_eq_imp_iff₂];exact⟨h,λa _=>kY.ne a,λa _ b _=>kY.shp a b⟩
def HI[kY e](a:RL fa ρ e):R (bW Bd (ak fa aG)) ρ (oE e):=⟨wU e a.v,bB a.D (U (a.v.length<64)),λh=>by
 obtain⟨h,b⟩:=aB h;simp only[bW,ak,aG,a.ok h,Au,Bd,Wh a.lk,Bv,S5 a.v b,ZT,Qc,Z9]⟩
end
end P1
namespace P1
open L2
section
variable{fd fk:Ev->Y Bx}{fs:Ev->Y (O Bx)}{e:α->Dt}{e':β->Dt}{k:Ev->Y An}{cO:γ->An}
end
section
variable{e:α->Dt}
end
end P1
namespace P1
open L2 S1 S6
section
variable{e:α->Dt}
theorem map_some(e:α->Dt)(xs:O α):(xs.map U).map (eO e)=xs.map e:=by rw[JI];rfl
end
end P1
namespace P1
open L2
section
variable{k:Ev->Y An}{cO:α->An}
def IN(i:Nat)(E:Ev)(a:Zx i ρ=U E)(K:R k E cO):R (DM i k) ρ cO:=⟨K.v,K.D,λh=>by
 unfold DM;rw[a];exact K.ok h⟩
end
section
variable{e:α->Dt}
end
section
variable{σ τ:Type}{k:Ev->Y An}{cO:γ->An}
end
section
variable{e:α->Dt}
end
section
variable{σ τ:Type}
theorem Oa{step:σ->α->σ}{P:σ->α->Y Prop}(I:Nat->σ->Prop):∀(xs:O α) (m:Nat) (a:σ),I m a->(∀k x s,xs[k]?=U x->I (m+k) s->B5 (P s x)/\I (m+k+1) (step s x))->pR step P xs a/\I (m+xs.length) (xs.foldl step a)
 |[],m,a,h0,_=>⟨trivial,h0⟩
 |x::xs,m,a,h0,hs=>by
  obtain⟨h1,h2⟩:=hs 0 x a S h0;have:=Oa I xs (m+1) (step a x) h2 λk y s e h=>by
   have:=hs (k+1) y s (by simpa using e) (by rw[show m+(k+1)=m+1+k by omega];exact h);rw[show m+(k+1)+1=m+1+k+1 by omega]at this;exact this
  refine⟨⟨h1,this.1⟩,?_⟩;rw[qc,show m+(xs.length+1)=m+1+xs.length by omega];exact this.2
theorem Ob{i:Int}{x:Int}(h:(rng i n)[k]?=U x):x=i+k/\k<n:=by
 unfold rng at h;rw[Zl]at h;cases hk:(am n)[k]? with
 |none=>rw[hk]at h;cases h
 |some j=>
  rw[hk]at h;have a:k<n:=by simpa using(ad.mp hk).1
  have:j=k:=by
   rw[dc a]at hk;cases hk;rfl
  subst this;cases h;exact⟨rfl,a⟩
theorem iJ(i:Int)(n:Nat):(rng i n).length=n:=by unfold rng;simp
theorem Wj{i:Int}{x:Int}(h:x∈rng i n):i<=x/\x<i+n:=by
 unfold rng at h;obtain⟨k,hk,rfl⟩:=ae.mp h;have:=ar.mp hk;omega
theorem oM{step:σ->Int->σ}{P:σ->Int->Y Prop}(I:Nat->σ->Prop)(n:Nat)(a:σ)(b:I 0 a)(hs:∀(k:Nat) s,k<n->I k s->B5 (P s k)/\I (k+1) (step s k)):pR step P (rng 0 n) a/\I n ((rng 0 n).foldl step a):=by
 have:=Oa (P:=P) I (rng 0 n) 0 a b λk x s e h=>by
  obtain⟨rfl,hk⟩:=Ob e;rw[bz]at h ⊢;rw[bX];exact hs k s hk h
 rw[iJ,bz]at this;exact this
theorem JL{step:Unit->α->ux Unit Bool}{P:Unit->α->Y Prop}:∀xs:O α,(∀x∈xs,B5 (P eu x)/\(step eu x=.nx eu\/step eu x=.ct eu))->jM step xs eu=.nx eu/\rz step P xs eu
 |[],_=>⟨rfl,trivial⟩
 |x::xs,h=>by
  obtain⟨h1,h2⟩:=h x (ze ..);have a:=JL (P:=P) xs λy b=>h y (zg _ b);rcases h2 with h2|h2
  ·exact⟨by unfold jM;rw[h2];exact a.1,h1,by rw[h2];exact a.2⟩
  ·exact⟨by unfold jM;rw[h2];exact a.1,h1,by rw[h2];exact a.2⟩
theorem yp[Inhabited α]{xs:O α}{i:Int}(h:In xs.length i):Ap xs i∈xs:=by
 obtain⟨x,hx⟩:=Ho h;unfold Ap;rw[hx];unfold Dj at hx;obtain⟨j,_,hx⟩:=AT hx;exact aT hx
theorem BJ[Inhabited α]{xs:O α}{x:α}(h:xs[k]?=U x):Ap xs (k:Int)=x:=by
 have a:k<xs.length:=(ad.mp h).1;unfold Ap Dj YL;rw[zr (),zr (),Au,bo,h];rfl
theorem BK[Inhabited α](xs:O α)(k:Nat)(h:k<xs.length):Ap xs (k:Int)=xs[k]:=BJ (Z3 h)
theorem B6{i:Int}(a:0<=i)(h1:i<n):In n i:=⟨by omega,h1⟩
theorem nM{x m:Int}(a:0<m)(h:m<=n):In n (x%m):=B6 (Int.emod_nonneg _ ()) (Int.lt_of_lt_of_le (dt _ a) h)
theorem oN(x:Int){m:Int}(a:0<m):0<=x%m/\x%m<m:=⟨Int.emod_nonneg _ (),dt _ a⟩
theorem BL{j:Int}(a:0<=j)(h1:j<=1000000):Rg j:=⟨by omega,by omega⟩
theorem XF{a b:Int}(c:0<=a)(h1:a<18446744073709551616):DS a b:=.inl ⟨by omega,h1⟩
theorem Wk{xs:O α}{x:α}(h:x∈C1 xs lo hi):x∈xs:=List.mem_of_mem_drop (List.mem_of_mem_take h)
theorem Wm(xs:O α)(lo hi:Y Int):(C1 xs lo hi).length<=xs.length:=by
 unfold C1;rw[kq,QN];omega
theorem S7{xs:O α}(h:k<=xs.length):C1 xs (U (k:Int)) Z=xs.drop k:=by
 unfold C1;rw[HT.U7,HT.QW,Nat.min_eq_left h,List.take_of_length_le (by simp)]
theorem jN(x y:AJ):(x++y).length=x.length+y.length:=by
 show(x.cps++y.cps).size=_;rw[Jn];rfl
theorem nO(x:AJ)(i:Int):(ch x i).length=1:=rfl
theorem slice_le(x:AJ)(l u:Y Int):(Txt.slice x l u).length<=x.length:=PyProof.Txt.length_slice_le x l u
end
section
variable [Inhabited α] {e:α->Dt}{k:Ev->Y An}{cO:γ->An}
def LM(i:Nat)(xs:O α)(hi:ρ[i]?=U (U (.o (xs.map e))))(K:∀ys:O α,R k (ρ.set i (U (.o (ys.map e)))) cO):R (aD (LQ i) k) ρ cO:=⟨(K xs.reverse).v,(K xs.reverse).D,λh=>by
 rw[lM (ρ':=ρ.set i (U (.o (xs.reverse.map e)))) (by
  unfold LQ;rw[hi];dsimp only;rw[k4])]
 exact(K xs.reverse).ok h⟩
end
theorem yq:∀xs:O Int,uw (xs.map eI)=U xs
 |[]=>rfl
 |x::xs=>by simp only[zo,eI,uw,yq xs,Au]
section
variable{e:α->Dt}{k:Ev->Y An}{cO:γ->An}
end
section
variable{e:α->Dt}{k:Ev->Y An}{cO:γ->An}
def Wn[Inhabited γ]:R (aD ES k) ρ cO:=⟨default,U False,λh=>absurd h id⟩
end
section
variable{e:α->Dt}
end
section
variable{e:α->Dt}{e':β->Dt}
def KM(a:RL fa ρ eI):R (bW Fz (ak fa aG)) ρ (zE eI):=⟨qK a.v,bB a.D (U (0<a.v.length)),λh=>by
 obtain⟨h1,h2⟩:=aB h;have h2:0<a.v.length:=h2;simp only[bW,ak,aG,a.ok h1,Au,Fz,a.lk,yq,zr h2]⟩
end
def RP(f:Ev->Y β)(ρ:Ev)(c:α->β)(v:α)(D:Y Prop):Prop:=B5 D->f ρ=U (c v)
theorem R.tp{f:Ev->Y β}{c:α->β}{a:α}{b:Y Prop}(x:R f ρ c)(e:x.v=a:=by kernel_rfl)(d:x.D=b:=by kernel_rfl):RP f ρ c a b:=λh=>by
 subst e d;exact x.ok h
def RP.r{f:Ev->Y β}{c:α->β}{v:α}{D:Y Prop}(h:RP f ρ c v D):R f ρ c:=⟨v,D,h⟩
theorem EO{p:O α->Prop}(h:∀a,p [a]):∀us:O α,us.length=1->p us
 |[a],_=>h a
theorem Eg{p:O α->Prop}(h:∀a b,p [a,b]):∀us:O α,us.length=2->p us
 |[a,b],_=>h a b
theorem IH{p:O α->Prop}(h:∀a b c,p [a,b,c]):∀us:O α,us.length=3->p us
 |[a,b,c],_=>h a b c
theorem HG{p:O α->Prop}(h:∀a b c d,p [a,b,c,d]):∀us:O α,us.length=4->p us
 |[a,b,c,d],_=>h a b c d
theorem Hn{p:O α->Prop}(h:∀a b c d e,p [a,b,c,d,e]):∀us:O α,us.length=5->p us
 |[a,b,c,d,e],_=>h a b c d e
end P1
namespace P1
open L2 S1
end P1
namespace P1
open L2
section
variable{fs:Ev->Y (O Bx)}
end
section
variable{AS:O AB}
end
section
variable{ks:O V}{o:AE}
end
section
variable{M0 M1 M2 er:Expr}{f0 f2:Ev->Y Bx}{d0 d2:Dt}{z0 z1 z2 z3:Pos}
end
section
variable{st:O AB}{fr:Ev->Y Bx}{i':Nat}{W:O Nat}{z:Pos}
end
section
variable{a b c:Ev->Y An}
end
end P1
namespace P1
open L2 S6
section
variable{kx vx t1 i1 t2 i2:Expr}{f1 f2:O Expr}{xs:AZ}{g1 g2:Dt->Ev->Y Ev}{p1 p2:Ev->Y Bool}{fk:Ev->Y Bx}{fi1 fi2:Ev->Y (O Dt)}{fs:Ev->Y (O Dt)}{N:Nat}
def cls2(fi:Ev->Y (O Dt))(gt:Dt->Ev->Y Ev)(p:Ev->Y Bool)(fs:Ev->Y (O Dt))(is:O Nat)(n:Nat):Ev->Y (O Dt):=λρ=>(fi ρ).bind λds=>zF gt p fs (iz is ρ++aa n Z) ds
end
end P1
namespace P1
open L2
section
variable{e:α->Dt}{e':β->Dt}{fs:Ev->Y (O Dt)}
end
def hx(h:A6)(a:A1):HO:=.ext λh'=>h'.get? a=h.get? a
section
variable{H2:Hp}{as:O A1}
end
section
variable{D:A1}{gs:O (Int×A1×O Dt)}{k:Int}{x:Dt}{u:V}
end
section
variable{e1 e2 ev:Expr}{f2:Ev->Y Bx}{w:AJ}{pw py py2 py3 px p1 p3 p4 pl a1 a2 c1 c2:Pos}
end
end P1
namespace P1
open L2 S6
section
variable{kx vx t1 i1 t2 i2:Expr}{f1 f2:O Expr}{xs:AZ}{g1 g2:Dt->Ev->Y Ev}{p1 p2:Ev->Y Bool}{fk:Ev->Y Bx}{fi1 fi2:Ev->Y (O Dt)}
end
end P1
namespace P1
open L2
section
variable{e:α->Dt}{e0:β->Dt}{fd f2:Ev->Y Bx}{kk:Ev->Y An}{cO:γ->An}
end
section
variable{e:α->Dt}{fs:Ev->Y (O Dt)}
end
section
variable{a:Expr}
end
theorem bY{bs:O Bx}{c:α->Bx}{v:α}{D:Y Prop}(x:RP g (bs.map U++aa (n-bs.length) Z) (λr=>An.rt (c r)) v D)(h:B5 D):cQ n g bs=U (c v):=Z2 x.r h
section
variable{e:α->Dt}
end
open PySem.Builtin PySem.Builtin.Str
section
variable{o:Expr}{fx:Ev->Y Bx}
def FM:Bx->Y AJ
 |.z (.str x)=>U x
 |_=>Z
end
section
variable{g:Ev->Y AJ}
end
def Oc(e f j:Nat)(f1:Ev->Y Bx)(p:Ev->Y Bool)(fe:Ev->Y Bx)(g:Ev):O Dt->AZ->O Dt->Y (O Dt)
 |[],_,out=>U out
 |d::ds,seen,out=>match d with
  |.tup [a,b]=>(f1 ((g.set e (U (.z a))).set f (U (.z b)))).bind λr=>match r with
   |.z h=>(p (((g.set e (U (.z a))).set f (U (.z b))).set j (U (.z h)))).bind λc=>(fe (((g.set e (U (.z a))).set f (U (.z b))).set j (U (.z h)))).bind λv=>(FM v).bind λx=>
    if c=false/\x∉seen/\seen.length<4000/\out.length<4000 then Oc e f j f1 p fe g ds (seen++[x]) (out++[h])else Z
   |_=>Z
  |_=>Z
section
variable{e1 e2 e3:Expr}{gr:Ev->Y An}{fx:Ev->Y Dt}{tR tQ:TS}{xr xj y1 y2:AJ}{AS no:O AB}{kk:Nat}{p0 p00 p01 p02 q1 q2 pt pj pa px pb pif pf2 px3 a1 c1 pe1 pr a2 pj2 c2 pe2:Pos}
end
section
variable{e:α->Dt}{ea:β->Dt}{eb:δ->Dt}{kk:Ev->Y An}{cO:γ->An}
theorem Aa[Inhabited α]{c d j:Nat}{A:β×δ->Y α}{V:β×δ->AJ}:∀(xs:O (β×δ)) (b:AZ) (a:O α),(∀x∈xs,(A x).isSome=true/\f1 ((ρ.set c (U (.z (ea x.1)))).set d (U (.z (eb x.2))))=U (.z (eO e (A x)))/\p (((ρ.set c (U (.z (ea x.1)))).set d (U (.z (eb x.2)))).set j (U (.z (eO e (A x)))))=U false/\fe (((ρ.set c (U (.z (ea x.1)))).set d (U (.z (eb x.2)))).set j (U (.z (eO e (A x)))))=U (.z (.str (V x)))) →
  (b++xs.map V).Nodup->b.length+xs.length<4000->a.length+xs.length<4000->Oc c d j f1 p fe ρ (xs.map (n8 ea eb)) b (a.map e)=U ((a++xs.map λx=>(A x).getD default).map e)
 |[],b,a,_,_,_,_=>by simp[Oc]
 |x::xs,b,a,h,hn,h1,h2=>by
  obtain⟨a1,a2,g,i⟩:=h x (ze ..);rw[qc]at h1 h2;rw[zo];simp only[Oc,n8,a2,Au,g,i,FM];rw[zr ⟨by first|rfl|trivial,λf=>by
   rw[zo]at hn;exact(List.nodup_append.mp hn).2.2 _ f _ (ze ..) rfl,by omega,by rw[zk];omega⟩]
  have e1:a.map e++[eO e (A x)]=(a++[(A x).getD default]).map e:=by
   rw[QE];cases k:A x with
   |none=>rw[k]at a1;cases a1
   |some y=>rfl
  rw[e1,Aa xs (b++[V x]) (a++[(A x).getD default]) (λy l=>h y (zg _ l)) (by simpa using hn) (by simp;omega) (by simp;omega)];simp
end
end P1
namespace P1
open L2 S1
theorem Wo{x y:AY}{p q:A0}(hs:Jx x y=true)(hp:dJ x p=true)(a:dJ y q=true)(h:Q (.bool (NP x y)) s):A7 (A8 prog w) A (AG .Lt p q) Q E s:=by
 rcases aY hp with⟨i,t,rfl,rfl⟩|⟨z,t,rfl,rfl⟩
 ·rcases aY a with⟨j,u,rfl,rfl⟩|⟨z,u,rfl,rfl⟩
  ·exact lt_int h
  ·cases hs
 ·rcases aY a with⟨j,u,rfl,rfl⟩|⟨b,u,rfl,rfl⟩
  ·cases hs
  ·exact PySem.P.lt_str h
theorem S8{g:O AY}{b:A1}{d:O A0}(G:jT s.heap a AQ.toArray)(H:jT s.heap b d.toArray)(hk:Ks ks AQ)(K:Ks g d)(hs:NQ ks g)(I:A.units<cLine)(h:Q (.bool (dX ks g)) s):A7 (A8 prog w) A (AG .Lt (.ref a) (.ref b)) Q E s:=by
 obtain⟨x,ea,z,⟨na,da⟩,_⟩:=G;obtain⟨y,eb,t,⟨nb,W⟩,_⟩:=H;show A7 _ _ (richCompare .Lt (.ref a) (.ref b)) _ _ _;refine wpAny_richCompare_same_room ⟨x,ea,z⟩ ⟨y,eb,t⟩ F.slot_tuple_lt (JJ F.slot_tuple_lt ⟨x,ea,z⟩ F.entry_tuple_lt ?_ (F.args_tuple_lt_2 _ _)) I;show A7 _ _ (isInstance (.ref b) (.type "tuple") >>= _) _ _ s;refine zb (wpAny_isInstance ⟨y,eb,t⟩ isSubtype_tuple_tuple ?_);simp only[ky,zv,ZH];refine zb (wpAny_tupleItemsOf ea da ?_);refine zb (wpAny_tupleItemsOf eb W ?_);refine zb ?_;refine wpAny_forIn_list _
  (λAS r s'=>r.1=Z/\s'=s/\∃i l k j,AS=List.zip k j/\Ks i k/\Ks l j/\NQ i l/\dX i l=dX ks g/\(k.length<j.length↔AQ.length<d.length))
  _ ?_ ?_ _ _ ⟨rfl,rfl,ks,g,AQ,d,by simp,hk,K,hs,rfl,Iff.rfl⟩
 ·rintro⟨u,v⟩ AS r s' ⟨o,rfl,i,l,k,j,f,q,m,n,c,p⟩;cases q with
  |nil=>simp at f
  |@cons M u' N C h1 B=>
   cases m with
   |nil=>simp at f
   |@cons D v' X L h2 J=>
    simp only[QO,QY,du.injEq]at f;obtain⟨⟨rfl,rfl⟩,rfl⟩:=f;refine zb (C8 h1 h2 ?_);simp only[dX]at c;by_cases e:M=D
    ·rw[zr e]at c;rw[qS e];simp only[ky,zv,ZH];exact zd ⟨rfl,rfl,N,X,C,L,rfl,B,J,n.2,c,by simpa using p⟩
    ·rw[zI e]at c;rw[Zp e];simp only[ki,ZT];refine zb (JA ?_);refine zb (show A7 _ _ (AG .Lt u v) _ _ _ from Wo n.1 h1 h2 ?_);rw[c];exact zb (zd (zd (zd ⟨_,rfl,by simp,h⟩)))
 ·rintro⟨r1,r2⟩ s' ⟨o,rfl,i,l,k,j,f,q,m,n,c,p⟩;simp only at o;subst o;have P:decide (AQ.length<d.length)=dX ks g:=by
   rw[<-c,<-decide_eq_decide.mpr p];cases q with
   |nil=>cases m with
    |nil=>rfl
    |cons _ _=>rfl
   |cons _ _=>cases m with
    |nil=>rfl
    |cons _ _=>simp at f
  refine zd ⟨_,rfl,?_⟩;show Value.bool (decide (AQ.toArray.size<d.toArray.size))≠_/\Q (Value.bool (decide (AQ.toArray.size<d.toArray.size))) _;rw[zi,zi,P];exact⟨by simp,h⟩
section
variable{f:A1}{p:Pos}
end
end P1
namespace P1
open L2 S1 S6
theorem EQ{p:O α->Prop}(h:p []):∀us:O α,us.length=0->p us
 |[],_=>h
section
variable{e:α->Dt}{g:Ev->Y Bx}{c:α->Bx}
end
def B9(i:Int):R (cB (.int i)) ρ (zE eI):=JF (.int i) eI i rfl
def mF(s:AJ):R (cB (.str s)) ρ (zE eS):=JF (.str s) eS s rfl
abbrev Nn(K:B4)(n:AJ)(f:A1):Prop:=nsIn K mainGlobals n=U (U (.ref f))
abbrev Lk(K:B4)(f:A1)(n:AJ)(st:AB)(c:A0)(a:Y A1)(sl:Array (Y A0))(kV e pm:A0)(d:Y A1)(b ct:A0):Prop:=K.lookup f=U ⟨c,a,.func (fnOf n n (pJ st) (fJ st) (aH st) .none kV e pm d b ct),sl⟩
end P1
namespace P1
open L2
section
variable{e:α->Dt}
end
section
variable{Ex:BE}{outer:O Env}{L e T:A1}{C fl:A0}{dx:Y A1}{Q:Unit->A2->Prop}
end
section
variable{H':Hp}{h':A6}{ch:O A1}
end
section
variable{g:Array GenState}{d:Drawn}{t:Nat}{fI e:A1}{AS:O A0}{B:String}
end
section
variable{g:Array GenState}{d:Drawn}{t:Nat}{e:A1}
end
section
variable{g:Array GenState}{d:Drawn}{t:Nat}{e dx:A1}{vs:Array A0}{sl:Array (Y A0)}{m:AJ->Y A0}
end
section
variable{o value:Expr}{tv:TE}{f:AJ}{pos' p:Pos}{B:String}
end
section
variable{f:AJ}{p:Pos}{B:String}
end
section
variable{E:XK}
end
section
variable{Cn f:A1}{iv iy:Nat}{n cn:AJ}{np hp p py pa:Pos}{b0:AB}{suite:O AB}{ts:A1->TS}{tf:TE}
end
section
variable{d:A1}{fs:O (AJ×V)}{f:AJ}{o:Expr}
end
section
variable{f:AJ}{E:XK}{gy:Ev->Y Dt}{p:Pos}{AS a b:O AB}{B:String}{pc:Ev->Y Bool}
end
section
variable{f h:A1}{fs:Ev->Y (O Bx)}{p q:Pos}
end
end P1
namespace P1
open L2 S6
section
variable{xs:AZ}
end
section
variable{e2 se:Expr}{fS:Ev->Y AZ}{fx:Ev->Y Dt}{no AS:O AB}{tR tQ:TS}{p0 p02 px pb pif pk:Pos}{f:AJ}{E:XK}
end
end P1
namespace P1
open L2
section
variable{e1 e2 e3:Expr}{gr:Ev->Y An}{xr xj y1 y2:AJ}{AS no:O AB}{kk:Nat}{p0 p00 p01 p02 q1 q2 pt pj pa px pb pif pf2 px3 a1 c1 pe1 pr a2 pj2 c2 pe2:Pos}{fx:Ev->Y Dt}{f:AJ}{E:XK}
end
section
variable{Cn f:A1}{iv:Nat}{n cn:AJ}{np hp p pa:Pos}{b0:AB}{suite:O AB}{ts:A1->TS}{tf:TE}
end
section
variable{fx:Ev->Y Bx}
def hoI(f:Ev->Y Bx):Ev->Y Bx:=λρ=>(f ρ).bind λb=>match b with
 |.z (.int i)=>if 0<=i/\i<1000000 then U (.z (.str (toString i)))else Z
 |_=>Z
end
section
variable{xs:Array A0}
end
theorem sW:∀{AQ:O A0} {a:O Int},IntsAre AQ a->AX (a.map V.int) AQ
 |_,_,.nil=>.nil
 |_,_,.cons y t h=>.cons ⟨t,rfl⟩ (sW h)
section
variable{e:α->Dt}
end
section
variable{e:α->Dt}{ea:β->Dt}{eb:δ->Dt}{fx:Ev->Y Dt}
end
section
variable{e:α->Dt}{g:Ev->Y β}{c:γ->β}
end
section
variable{E:XK}
end
section
variable{f:AJ}{E:XK}{fs:Ev->Y (O Bx)}{gy:Ev->Y Dt}{p p1 epos:Pos}{AS:O AB}
end
section
variable{o:Expr}
def S9:Dt->Bool
 |.non=>true
 |.tup _=>true
 |_=>false
def Fm:Dt->Bool
 |.non=>true
 |_=>false
end
section
variable{o l:Expr}{fs:Ev->Y (O Bx)}{z:AJ}
end
instance {σ τ:Type} [Inhabited σ]:Inhabited (ux σ τ):=⟨.nx default⟩
section
variable{e:α->Dt}
theorem Mi(a:∀x,∃ds,e x=.tup ds)(ys:O (Y α)):(ys.map (eO e)).all S9=true/\(Fm ∘ eO e)=Option.isNone:=by
 refine⟨?_,?_⟩
 ·rw[qA];intro d hd;obtain⟨o,_,rfl⟩:=ae.mp hd;cases o with
  |none=>rfl
  |some x=>obtain⟨ds,q⟩:=a x;show S9 (e x)=true;rw[q];rfl
 ·funext o;cases o with
  |none=>rfl
  |some x=>obtain⟨ds,q⟩:=a x;show Fm (e x)=false;rw[q];rfl
end
section
variable{o e2:Expr}{fx fy:Ev->Y Bx}
end
section
variable{f:AJ}{E:XK}{gy:Ev->Y Dt}{sts AS:O AB}{p0 p00 p01 p02:Pos}
end
structure DQ (K:B4) (mg:Str->Option Value) (x:Str) (st:Stmt) (ps:AZ) where
 f:Addr
 fd:FuncData
 F:Ur K x x st f fd
 b:BH K fd ps []
 m:mg x=some (.ref f)
 k:keepIn K (.ref f)=true
def lO{f:A1}{g b:Y A1}{sl:Array (Y A0)}{i kV m d ct:A0}(X:K.In h)(G:h.Ns mainGlobals mg)(a:Nn K x f)(l:Lk K f x st i g sl kV m pm b d ct)(c:codeIn K d x=true)(k:keepIn K (.ref f)=true)(n:∀(kV j pm:A0) (b:Y A1) (e ct:A0) (us:O A0),us.length=ps.length->bindArgs (fnOf x x (pJ st) (fJ st) (aH st) .none kV j pm b e ct) ⟨us,[]⟩=pure (ps.zip us):=by intro _ _ _ _ _ _;first|exact P1.EO λ_=>S|exact P1.Eg λ_ _=>S|exact P1.IH λ_ _ _=>S|exact P1.HG λ_ _ _ _=>S|exact P1.Hn λ_ _ _ _ _=>S|exact P1.EQ S):DQ K mg x st ps:=
 ⟨f,_,Rb l c k,(Rb l c k).binds n,mg_of X G a,k⟩
abbrev Ok(P:A3)(w:A4)(base:A6)(d:DQ K mg x st ps)(k n:Nat)(F:O Bx->Y Bx):Prop:=qO P w K mg base Gz k d.f d.fd ps (Qy K n F)
theorem Dw(d:DQ K mg x st ps)(S:bw N ps (aH st))(h:∀(a:A0) (A:A5) (outer:O Env) (s:A2) (H:Hp) (E:XK),iD k (A.deeper (AK x (aH st) s.heap.objs.size d.f a))->(A.deeper (AK x (aH st) s.heap.objs.size d.f a)).units+100<cLine->N.Nodup->KR (Ai Gz P w K mg base N x (aH st) d.f a A outer s H E).Uq (fJ st) g)(e:N.length=n:=by rfl)(c:ps.length=m:=by rfl):Ok P w base d (k+1) m (cQ n g):=KT d.F S e c λa A outer s H E b=>h a A outer s H E b (zX b) S.nd
section
variable{fs:Ev->Y (O Bx)}{p:Pos}
theorem dN(d:DQ X.K X.mg x st ps)(G:Ok X.prog X.w X.base d k n F)(f:iD m X.A)(i:Us X (e::es) fs)(c:Gl X x:=by rfl)(h:k<=m:=by decide)(j:ej x:=by decide)(a:A9 (e::es) X.env=(false,eval e X.env)::A9 es X.env:=by rfl)(g:(AD pos (A9 es X.env)).any (·.1)=false:=by rfl):QV X (.Call (.Name x p) (e::es) [] pos) (bN n F fs):=
 Vx G (f.mono h) c d.m d.k d.b i j a g
end
theorem DE{l:PySem.W.OpenLaw}{q:A3}{loose:AZ}{d:DefRec}{K:Params->B4}{T:B4->(AJ->Y A0)->Type}{F_law:O Bx->Y Bx}(c:∀{K mg},T K mg->DQ K mg "law" st [x])(hk:iD k callerA)(hd:d.name ="law")(G:∀(w:A4) (mg:AJ->Y A0) (base:A6) (t:T (K w.params) mg),Ok l.prog w base (c t) k 1 F_law)(v:l.most=U 63)(y:d.params.defaults=[])(h1:∀b:O Int,b.length<=63->F_law [.z (.lst (b.map .int))]=U (.z (.bl true)))(h2:∀b:O Int,b.length<=63->F_law [.l (b.map .int)]=U (.z (.bl true)))(p:∀(kV j pm:A0) (i:Y A1) (g ct u:A0),bindArgs (fnOf "law" "law" (pJ st) (fJ st) (aH st) .none kV j pm i g ct) ⟨[u],[]⟩=pure [(x,u)])(J:∀(w:A4) (h:A6),YP w h->(K w.params).In h)(A:∀(w:A4) (h:A6) (mg E:AJ->Y A0) (B:ExcName->Y A0) (M:AZ),(K w.params).In h->Top q M B mg E h->∃L,L2.Q8 (K w.params) h L)(F:∀(w:A4) (mg:AJ->Y A0) (h:A6),(K w.params).In h->h.Ns mainGlobals mg->T (K w.params) mg):
  PySem.W.WalkO q loose XP YP l.row.toRowW d [] (λf vs=>PySem.call f vs):=
 L2.Ra (n:=63) (k:=k) (x:=x) (CX:=Gz) (sp:=λK=>Qy K 1 F_law) v () y hk J (λw mg fa h X N e=>by
  have t:=F w mg h X N;have o:=(c t).m;rw[hd,o]at e;cases e;refine⟨(c t).fd,λs u=>?_,λbase _ _=>G w mg base t⟩;obtain⟨oc,P,kV,j,pm,i,g,ct,osl,e,Q,a0⟩:=(c t).F.ex;rw[e];exact .of_eq (p kV j pm i g ct u)) (λK H a b C I D=>Zq h1 h2 K H a b C I D) (λ_ _ _ _ z=>z) A
section
variable{f:A1}{sp:A1->O V->Hp->VK->Prop}{p:Pos}
end
section
variable{p0 p1:Pos}{xs:AZ}{e:A1}{a:Expr}{ta:TA}
end
section
variable{f:AJ}{E:XK}{fs:Ev->Y (O Bx)}{p:Pos}
end
section
variable{g:Array GenState}{d:Drawn}{t:Nat}{AS:O A0}{B:String}
end
section
variable{E:XK}{p:Pos}{B:String}
end
section
variable{p kp cp:Pos}{fs:Ev->Y (O Bx)}{j:Int}{kk:Nat}
end
section
variable{e:α->Dt}
end
section
variable{g:Ev->Y AJ}
variable{e:α->Dt}
end
section
variable{e:α->Dt}{σ' τ:Type}
def qE(e:α->Dt):Y (O α)->Bx
 |none=>.z .non
 |some l=>.o (l.map e)
def Kx(e:α->Dt):Y (O α)->Bx
 |none=>.z .non
 |some l=>.l (l.map e)
class EK (c:Option (List α)->Bx) (e:outParam (α->Dt)):Prop where
 d:∀v,toD (c v)=eO (eL e) v/\mG (c v)=false
instance:EK (qE e) e:=⟨λv=>by cases v<;>exact⟨rfl,rfl⟩⟩
instance:EK (Kx e) e:=⟨λv=>by cases v<;>exact⟨rfl,rfl⟩⟩
instance:EK (zE (eO (eL e))) e:=⟨λv=>⟨rfl,rfl⟩⟩
end
section
variable{p:Pos}{fs:Ev->Y (O Bx)}
end
section
variable{e:α->Dt}
end
section
variable{e:α->Dt}
end
section
variable{AS:O AB}{ga:Ev->Y An}
end
section
variable{f:A1}{Fa Fb:O Bx->Y Bx}{p spos:Pos}{fs:Ev->Y (O Bx)}
end
section
variable{e:α->Dt}
end
end P1
namespace P1
open L2 S1 S6
section
variable{e:α->Dt}
end
end P1
namespace P1
open L2
section
variable{e:α->Dt}
end
section
variable{R:Result->A2->Prop}{I:A1}{wr:O A1}{P:Nat->A0->Prop}{St:Nat->A6->Prop}
end
section
variable{e:α->Dt}
end
def D9{α:Type}:O α->O α
 |[]=>[]
 |x::xs=>x::D9 (xs.drop 5)
termination_by l=>l.length
decreasing_by simp;omega
section
variable{st:Expr}{fs:Ev->Y Bx}
end
section
variable{e:α->Dt}
end
section
variable{AS:O AB}{W:O Nat}
end
section
variable{e:α->Dt}
end
section
variable{st:O AB}{fr:Ev->Y Bx}{W:O Nat}{z:Pos}{Φ:Hp->Hp->L2.St->Ev->Prop}
end
section
variable{AS:O AB}
end
end P1
namespace P1
open L2 S6
section
variable{p p' pos':Pos}
end
end P1
namespace P1
open L2 S1
section
variable{T:O AY->A0->Prop}(inj:∀ k l v,T k v->T l v->k=l)
include inj
theorem jm:∀{bG:O (O AY)} {vs:O A0},AI T bG vs->∀v∈vs,BC bG vs v∈bG/\T (BC bG vs v) v
 |_,_,.nil,v,hv=>by cases hv
 |k::bG,u::vs,.cons q t,v,hv=>by
  unfold BC;rw[QO,JU];by_cases e:u=v
  ·subst e;simp only[beq_self_eq_true];exact⟨ze ..,q⟩
  ·have e':(u==v)=false:=by simpa using e
   simp only[e'];have a:=jm t v ((List.mem_cons.mp hv).resolve_left λh=>e h.symm);exact⟨zg _ a.1,a.2⟩
theorem wV:∀{bG:O (O AY)} {vs:O A0},AI T bG vs->∀(K:A0->O AY),(∀v∈vs,T (K v) v)->vs.map K=bG
 |_,_,.nil,_,_=>rfl
 |k::bG,v::vs,.cons q t,K,hK=>by
  rw[zo,inj _ _ _ (hK v (ze ..)) q,wV t K λu a=>hK u (zg _ a)]
theorem G'{vs:O A0}(a:AI T bG vs){xs:Array Keyed}(hp:xs.Perm (pairsOf vs))(g:Up (λv=>C5 bG (BC bG vs v)) xs (pairsOf vs).size):(xs.map (·.2)).toList.map (BC bG vs)=nJ bG/\∀v∈(xs.map (·.2)).toList,v∈vs:=by
 have c:xs.toList.Perm (vs.zip vs):=by rw[<-pairsOf_toList];exact al.mp hp
 have b:∀p∈xs.toList,p.1=p.2/\p.1∈vs:=λp q=>mem_zip_self (c.mem_iff.mp q);have e:(xs.map (·.2)).toList=xs.toList.map (·.1):=by
  rw[bS];exact ZY λp q=>(b p q).1.symm
 have pv:(xs.toList.map (·.1)).Perm vs:=by
  have:=c.map Prod.fst;rwa [dV (zl _)]at this
 rw[e];refine⟨tu ?_ ?_,λv a=>pv.mem_iff.mp a⟩
 ·have:=pv.map (BC bG vs);rwa [wV inj a _ λv q=>(jm inj a v q).2]at this
 ·rw[bu];intro i j hi f l;have k:i<xs.size:=by simpa using hi
  have d:j<xs.size:=by simpa using f
  have u:=g i j (Q1 l) (by rw[<-hp.size_eq];exact d);unfold at_ at u;rw[getElem?_pos xs i k,getElem?_pos xs j d]at u;have h:=(jm inj a xs[j].1 (b xs[j] (by simp)).2).1;simp only[k5,cS];unfold nH;rw[<-zY h,Zp (cK.mpr u)];rfl
end
end P1
namespace P1
open L2 S1 S6
section
variable{e:α->Dt}{e':β->Dt}
end
end P1
namespace P1
open L2
theorem Mj{pos':Pos}{c f:A0}(l:O A0)(h:TriplesOk l)(d:codeAmong pos' (l++[rawInt pos.line,rawInt pos.col,c])=U f):codeAmong pos' l=U f\/f=c:=by
 fun_induction TriplesOk l with
 |case1=>
  simp only[kD,codeAmong,rawInt]at d;split at d
  ·cases d;exact .inr rfl
  ·cases d
 |case2 a t b u x AS g=>
  simp only[k6,codeAmong]at d ⊢;split at d
  ·rename_i e;rw[zr e];exact .inl d
  ·rename_i e;rw[zI e];exact g h d
 |case3 l h1 h2=>exact h.elim
def JM(K:B4)(c P:A1)(q:AJ):Prop:=∃o vs a tf b tg inF d tt x t,K.lookup c=U o/\o.cls=.type "code" ∧ o.data=.fields vs/\vs[11]?=U (.ref P)/\vs.getD 11 .none=.ref P/\vs.getD 18 .none=.str a tf ∧
 vs.getD 7 .none=.int b tg/\vs.getD 9 .none=.bool inF/\vs.getD 10 .none=.int d tt/\c≠P/\vs[1]?=U (.str x t)/\x∈QC/\q=x++(".<locals>.<lambda>":AJ)
theorem JM.tab{c P:A1}{q:AJ}(h:JM K c P q):Yc K P q:=by
 obtain⟨o,vs,_,_,_,_,_,_,_,x,t,a,_,d,e,_,_,_,_,_,_,f,g,i⟩:=h;exact⟨c,o,vs,x,t,a,d,f,g,e,i⟩
theorem JM.hd{c P:A1}{q:AJ}(h:JM K c P q){hp:A6}(k:K.In hp):PySem.W.CodeHd hp c P:=by
 obtain⟨o,vs,a1,a2,g,m,p,l,i,x,t,a,b,d,e,e1,e2,e3,n,f,j,_⟩:=h;exact⟨o,vs,a1,a2,g,m,p,l,i,k _ _ a,b,d,e,e1,e2,e3,n,f,j⟩
abbrev zH:HO:=.ext λ_=>True
structure FQ (H:Hp) (f:Addr) (q:Str) (params:Arguments) (body:Expr) (scope:Scope) (clos:List (Str×Addr)) (pm:Value):Prop where
 at_:∃c' ctv oc vs t,H f=some (.qH (kla_obj "<lambda>" q params body scope clos pm c' ctv) zH)/\H c'=some (.qH oc zH)/\oc.data=.fields vs/\vs[1]?=some (.str q t)
theorem FQ.same{H':Hp}{f:A1}{q:AJ}{body:Expr}{d:O (AJ×A1)}(h:FQ H f q params body scope d pm)(s:AV H H'):FQ H' f q params body scope d pm:=by
 obtain⟨c',g,e,vs,t,a,b,c⟩:=h.at_;exact⟨c',g,e,vs,t,s _ _ a,s _ _ b,c⟩
theorem Hr{o:AE}(e:h.get? a=U o):je P w H h a (.qH o zH):=⟨e,trivial,⟨o,e⟩,λ_ _ _ _=>trivial⟩
theorem JN{c P:A1}{q:AJ}{body:Expr}{y:O (AJ×A1)}{R:BE}(I:L2.AU X AN σ H s)(hK:JM X.K c P q)(a2:X.env.code=.ref c)(hq:X.env.qual++("<lambda>":AJ)=q)(b0:defaultsOf params X.env=([],[]))(a4:closureFor scope X.env=pure y)(h:∀f H' s',L2.AU X AN σ H' s'->AV H H'->H f=Z->FQ H' f q params body scope y ((X.mg "__name__").getD .none)->R (.ref f) s'):A7 M A (eval (.Lambda params body scope pos) X.env) R E s:=by
 refine PySem.W.kla_eval b0 ?_;rw[show X.env.qual++("<lambda>":AJ)=q from hq];obtain⟨ps,F,a0,c4⟩:=(I.ok.tabs.go I.base.vX) P q hK.tab;obtain⟨a3,D,x,a5⟩:=I.hok P _ F;have B:s.heap.Ns mainGlobals X.mg:=I.mod.glob.keeps I.bk;have C:=hK.hd I.Uo;obtain⟨bm,N,b1,b2,b3,b4,b5,J⟩:=I.mod.bmain;have b8:mainGlobals≠P:=λz=>by
  obtain⟨o,es,ep,e,hd,_⟩:=B;rw[z,D]at e;cases e;cases hd
 have p:=I.bk _ _ b3;have G:bm≠P:=λz=>by rw[z,D]at p;cases p;cases b4
 have a8:bm≠mainGlobals:=λz=>by
  obtain⟨o,es,ep,e,hd,_⟩:=B;rw[z,e]at p;cases p;rw[hd]at J;cases J
 have hB:s.heap.BuiltinsAt X.mg P:=⟨bm,N,b1,b2,a8,G,p,b4,b5,J⟩;cases hf:codeAmong pos (tr ps++a3).toList with
 |some L=>
  obtain⟨c',a,vs,t,rfl,g1,g2,g3⟩:=a5 pos L hf;refine PySem.W.kla_makeFunctionHit (mg:=X.mg) a4 I.ok.glob B a2 C D x hf hB λm h' tk hk c1=>?_;have k:L2.AU X AN σ H { s with heap:=h',toks:=tk }:=I.kept hk;have i:H h'.objs.size=Z:=k.hok.fresh (zl _);have l:AV H (B8 H h'.objs.size (.qH (kla_obj "<lambda>" q params body scope y ((X.mg "__name__").getD .none) c' m) zH)):=bA i;refine h h'.objs.size _ _ (k.laid (t':=tk) (λb u e=>zh _ e) (zl _) (Hr (zw _ S))) l i ⟨c',m,a,vs,t,aU,l _ _ g1,g2,?_⟩;rw[a0]at g3;exact g3
 |none=>
  refine PySem.W.kla_makeFunction (mg:=X.mg) a4 I.ok.glob B a2 C D x hf b8 hB λc' m h' tk hx a1 c0 a7 Q=>?_;obtain⟨c3,a,vs,t,e2,a9,hd,hv⟩:=a7;cases e2;have b9:H c'=Z:=I.hok.fresh a1;have nP:∀b,H b=Z->b≠P:=λb n z=>by rw[z,F]at n;cases n
  have c2:=Q;have g:AV H (B8 H c' (.qH a zH)):=bA b9;have u:Un X.fs [] H (B8 H c' (.qH a zH)) s.heap h':=by
   refine⟨λb o e n _ _=>hx b o (nP b n) e,λb o e n _ _=>⟨o.slots,hx b o (nP b n) e⟩,λb o e n _=>?_,λb o e _=>?_,λb xs e=>g _ _ e,λb o u e=>g _ _ e,λb ps e=>⟨#[],by rw[g _ _ e];simp⟩⟩
   ·rw[aV (z4 (zS (zt e) a1))];exact n
   ·by_cases j:b=P
    ·subst j;exact⟨_,Q⟩
    ·exact⟨o,hx b o j e⟩
  have b7:yZ X.prog X.w (B8 H c' (.qH a zH)) h':=λb N e=>by
   by_cases j:b=c'
   ·subst j;rw[aU]at e;cases e;exact Hr a9
   ·rw[aV j]at e;by_cases G:b=P
    ·subst G;rw[F]at e;cases e;refine⟨a3++#[rawInt pos.line,rawInt pos.col,.ref c'],?_,?_,λpos' L z=>?_⟩
     ·rw[<-kK];exact Q
     ·rw[<-kK,bc];exact TriplesOk_snoc _ _ _ _ x
     ·rw[<-kK,bc]at z;rcases Mj _ x z with z|z
      ·obtain⟨d,od,ws,t',e1,e2,e3,e4⟩:=a5 pos' L z;exact⟨d,od,ws,t',e1,g _ _ e2,e3,e4⟩
      ·exact⟨c',a,vs,t,z,aU,hd,by rw[a0];exact hv⟩
    ·refine(I.hok b N e).stay (λd v hd q'=>hx d v (λz=>?_) q') (λd z=>g _ _ z) (λd xs z=>g _ _ z) λd o φ z=>g _ _ z;subst z;rcases hd with z|z
     ·exact G z.symm
     ·rw[F]at z;cases z
  have k:L2.AU X AN σ (B8 H c' (.qH a zH)) { s with heap:=h',toks:=tk }:=I.un u b7;have i:(B8 H c' (.qH a zH)) h'.objs.size=Z:=k.hok.fresh (zl _);have a6:H h'.objs.size=Z:=by rw[aV (aS c0)]at i;exact i
  have l:AV (B8 H c' (.qH a zH)) (B8 (B8 H c' (.qH a zH)) h'.objs.size (.qH (kla_obj "<lambda>" q params body scope y ((X.mg "__name__").getD .none) c' m) zH)):=bA i;exact h h'.objs.size _ _ (k.laid (t':=tk) (λb u e=>zh _ e) (zl _) (Hr (zw _ S))) (g.trans l) a6 ⟨c',m,a,vs,t,aU,l _ _ aU,hd,hv⟩
def FT(X:Cx)(scope:Scope)(cl:O (AJ×A1)):AZ->O Nat->Prop
 |[],[]=>True
 |x::xs,i::is=>(X.N[i]?=U x/\(X.env.kindOf x=U .cell\/X.env.kindOf x=U .free)/\scope.names.lookup x=U .free/\∃c,cl.lookup x=U c)/\FT X scope cl xs is
 |_,_=>False
theorem FT.get{X:Cx}{scope:Scope}{cl:O (AJ×A1)}:∀{xs:AZ} {is:O Nat},FT X scope cl xs is->xs.length=is.length/\∀(j:Nat) (x:AJ),xs[j]?=U x->∃i,is[j]?=U i/\X.N[i]?=U x/\(X.env.kindOf x=U .cell\/X.env.kindOf x=U .free)/\scope.names.lookup x=U .free/\∃c,cl.lookup x=U c
 |[],[],_=>⟨rfl,λj x e=>by simp at e⟩
 |x::xs,i::is,h=>by
  obtain⟨h1,h2⟩:=h;obtain⟨l,g⟩:=FT.get h2;refine⟨by simp[l],λj y e=>?_⟩;cases j with
  |zero=>simp at e;subst e;exact⟨i,rfl,h1⟩
  |succ j=>obtain⟨k,e1,e2⟩:=g j y (by simpa using e);exact⟨k,by simpa using e1,e2⟩
 |[],_::_,h=>h.elim
 |_::_,[],h=>h.elim
structure FW (X:Cx) (scope:Scope) (cl:List (Str×Addr)) (x:Str) (xs:AZ) (is:List Nat):Prop where
 clos:closureFor scope X.env=pure cl
 kind:scope.kind=.function
 co:scope.isCoroutine=false
 gen:scope.isGenerator=false
 XJ:∀y∈scope.names,y.2≠.cell
 par:scope.names.lookup x=some .local
 sub:C0 X.env.cells cl
 has:∀y∈scope.names,y.2=.free->∃c,cl.lookup y.1=some c
 cap:FT X scope cl xs is
def D5(X:Cx)(A:A5)(a:AZ)(env:Env)(s₀:A2)(H₀:Hp):Cx:=
 { X with A:=A.deeper env,N:=a,s₀:=s₀,H₀:=H₀,env:=env,outer:=X.stack,stack:=env::X.stack,ex:=[],calm:=true,fn:=λ_=>false,pn:=[],xe:=λ_ _=>False }
section
variable{q:AJ}{body:Expr}{xs:AZ}{f c':A1}
theorem Wq{h1:A6}{t1:Nat}{v:V}(I:L2.AU X AN σ H s)(O:FW X scope cl x xs is)(E:A.frames=U X.stack)(F:A.handled=Z)(r:As v u)(G:h1.Ns s.heap.objs.size (λy=>[(x,u)].reverse.lookup y))(hk:∀b o,s.heap.get? b=U o->h1.get? b=U o):
  L2.AU (D5 X A (x::xs) (envX q scope s.heap.objs.size f (.ref c') cl) s H) [] (U v::pO is σ) H { s with heap:=h1,toks:=t1 }:=by
 obtain⟨J,Q⟩:=O.cap.get;have g:∀b:A1,b∉(D5 X A (x::xs) (envX q scope s.heap.objs.size f (.ref c') cl) s H).ex:=λb z=>absurd (show b∈([]:List A1) from z) (by simp);have d:∀y c,cl.lookup y=U c->X.env.cells.lookup y=U c:=λy c e=>O.sub.get e;refine⟨⟨I.ok.mod,O.kind,rfl,rfl,zl _,λy z c e1 e2=>I.ok.inj y z c (d _ _ e1) (d _ _ e2),λy a=>?_,λy c h _=>absurd h (by show ¬ (false=true);simp),λ_=>F,Around.frames_deeper E,.inr ⟨rfl,rfl⟩,λb z=>absurd z (g b),I.bs,zD I.ok.Uw I.sz,λb _ _=>g b,λb z=>absurd z (g b),I.stack,I.Gq,I.ok.tabs.go I.base.vX⟩,
  rfl,I.bare,Un.kept hk,⟨_,G,λj y w e1 e2 _=>?_⟩,λy c e=>?_,I.hok.fresh (zl _),λy c e=>I.oh y c (d _ _ e),λp hp=>absurd (show p∈([]:List (A1×AE)) from hp) (by simp),I.hok.kept hk,?_⟩
 ·have a:scope.names.lookup y=U .cell\/scope.names.lookup y=U .free:=a;rcases a with a|a
  ·exact absurd S (O.XJ _ (qr a))
  ·exact O.has _ (qr a) rfl
 ·cases j with
  |zero=>
   have e1:U x=U y:=e1;have e2:U (U v)=U (U w):=e2;cases e1;cases e2;exact⟨u,r,.inl ⟨O.par,by simp⟩⟩
  |succ j=>
   have e1:xs[j]?=U y:=e1;have e2:(pO is σ)[j]?=U (U w):=e2;obtain⟨i,L,n,k,M,c,t⟩:=Q j y e1;have e3:σ[i]?=U (U w):=by
    unfold pO at e2;rw[Zl,L]at e2;cases q:σ[i]? with
    |none=>rw[kC,q]at e2;cases e2
    |some o=>
     rw[kC,q]at e2;have:o=U w:=by simpa using e2
     rw[this]
   have D:KY X.env.scope y:=by
    rcases k with k|k
    ·exact .inr (.inl k)
    ·exact .inr (.inr k)
   obtain⟨m',a0,P⟩:=I.loc;obtain⟨N,r',l⟩:=P i y w n e3 D;refine⟨N,r',?_⟩;rcases l with⟨C,_⟩|⟨_,c2,K,W⟩
   ·rcases k with k|k<;>(rw[C]at k;cases k)
   ·have:=d _ _ t;rw[K]at this;cases this;obtain⟨o,m,hd⟩:=W;exact .inr ⟨.inr M,_,t,o,hk _ o m,hd⟩
 ·obtain⟨B,o,m,hd⟩:=I.cell y c (d _ _ e);exact⟨B,o,hk _ _ m,hd⟩
 ·show(U v::pO is σ).length=(x::xs).length;simp[pO,J]
theorem Wr{y:Bx}{v:V}(I:L2.AU X AN σ H s)(O:FW X scope cl x xs is)(hA:A.frames=U X.stack)(hh:A.handled=Z)(a6:A.depth<recursionLimit)(L:FQ H f q params body scope cl pm)(a5:∀G ct u,bindArgs (kla_fn "<lambda>" q params body scope cl pm G ct) ⟨[u],[]⟩=pure [(x,u)])(hb:∀f c' s H,PV (D5 X A (x::xs) (envX q scope s.heap.objs.size f (.ref c') cl) s H) body fb)(E:bh X.K H0 H σ ρ)(r:As v u)(rd:AW X.K H d v)(e:fb (U (.z d)::iz is ρ)=U y):
  A7 (en X) A (call (.ref f) [u]) (λF s'=>∃g H',L2.AU X AN σ H' s'/\As g F/\AV H H'/\Nw H y g/\aQ X.K H' y g) (λ_ _=>False) s:=by
 obtain⟨c',a9,oc,vs,t,a1,a2,a3,a4⟩:=L.at_;have hf:=(I.hok _ _ a1).1;have hc:=(I.hok _ _ a2).1;refine wpAny_call (PySem.W.kla_callFunE a6 hf S O.co O.gen S ⟨c',oc,vs,t,rfl,hc,a3,a4⟩ ?_);rw[a5];refine zd (wpAny_newFunctionEnv O.XJ (λz hz=>by rw[af.mp hz];exact O.par) (λN a7 B=>⟨(I.nolimit).fresh _ B,?_⟩) O.kind);show AF _ _ (.expr body (envX q scope s.heap.objs.size f (.ref c') cl)) _ _;have a8:∀b o,s.heap.get? b=U o->N.get? b=U o:=λb o e=>B.extBut b o (z4 (zt e)) (zh _ e);have J:=Wq (t1:=s.toks+1) (c':=c') (f:=f) (q:=q) I O hA hh r a7 a8;have E0:=E.caps is 0;have E1:bh X.K H H (U v::pO is σ) (U (.z d)::iz is ρ):=by
  have C:=E0.len;simp only[List.replicate_zero,JY]at E0 C;refine⟨by simpa using C,λi b e=>?_,λi j c a b e h=>?_,AV.refl H,λi c a e h=>?_⟩
  ·cases i with
   |zero=>cases e;exact⟨v,rfl,rd⟩
   |succ i=>exact E0.val i b (by simpa using e)
  ·cases i with
   |zero=>cases e;cases h
   |succ i=>
    intro h1 h2 D h4;cases j with
    |zero=>cases h2;cases D
    |succ j=>rw[E0.own i j c a b (by simpa using e) h (by simpa using h1) (by simpa using h2) D (by simpa using h4)]
  ·cases i with
   |zero=>cases e;cases h
   |succ i=>intro h1;exact E0.new i c a (by simpa using e) h (by simpa using h1)
 refine PySem.W.kla_codeExpr (ZI (hb f c' s H [] _ _ _ (λg H'=>AV H H'/\Nw H y g/\aQ X.K H' y g) J ⟨H,_,y,E1,e,λg H' l p n=>⟨l,p,n⟩⟩) (λF s' m=>?_) λe s' m=>m.elim);obtain⟨g,H',k,rv,l,p,n⟩:=m;obtain⟨v2,H2,M,a0,P,n2,r2⟩:=I.after (Q:=λg H'=>AV H H'/\Nw H y g/\aQ X.K H' y g) ⟨g,H',k.os,k.bare,k.base,k.hok,rv,l,p,n⟩;exact⟨v2,H2,M,a0,P,n2,r2⟩
end
end P1
namespace P1
open L2 S1
def rA(bt:Dt->Dt->Bool):Dt->Dt->O (Dt×Dt)->Dt
 |b,_,[]=>b
 |b,kb,(d,k)::r=>if bt k kb=true then rA bt d k r else rA bt b kb r
def BG(qL:Dt->Bool)(fk:Dt->Y Bx):O Dt->Y (O (Dt×Dt))
 |[]=>U []
 |d::ds=>match fk d with
  |some (.z k)=>if qL k=true then(BG qL fk ds).bind λr=>U ((d,k)::r)else Z
  |_=>Z
def wW(X:Cx)(σ:L2.St)(H1:Hp)(f:A1)(fk:Dt->Y Bx):Prop:=∀(AN:O (A1×AE)) (s:A2) (H:Hp) (d k:Dt) (v:V) (u:A0),L2.AU X AN σ H s->AV H1 H->As v u->AW X.K H d v->fk d=U (.z k) →
 A7 (en X) X.A.in1 (call (.ref f) [u]) (λb s'=>∃a H',L2.AU X AN σ H' s'/\As a b/\AV H H'/\AW X.K H' k a) (λ_ _=>False) s
def rB(X:Cx)(op:CmpOp)(bt:Dt->Dt->Bool)(qL:Dt->Bool):Prop:=∀(AN:O (A1×AE)) (σ:L2.St) (H:Hp) (s:A2) (a b:Dt) (e f:V) (c d:A0) (Q:BE) (E:BE),L2.AU X AN σ H s->As e c->As f d →
 AW X.K H a e->AW X.K H b f->qL a=true->qL b=true->Q (.bool (bt a b)) s->A7 (en X) X.A.in1 (richCompare op c d) Q E s
theorem kZ{H1:Hp}{S:A1}(s:AV H1 H)(h:H1 S=Z):AV H1 (B8 H S o):=λa u e=>by
 rw[aV (bO e h)];exact s a u e
theorem jo{r:O (Dt×Dt)}(h:BG qL fk (d::ds)=U r):∃k a,fk d=U (.z k)/\qL k=true/\BG qL fk ds=U a/\r=(d,k)::a:=by
 simp only[BG]at h;split at h
 ·rename_i k hk;split at h
  ·rename_i ok;obtain⟨a,e,h⟩:=AT h;cases h;exact⟨k,a,hk,ok,e,rfl⟩
  ·cases h
 ·cases h
theorem gn{H':Hp}(h:nA K H a xs)(s:AV H H'):nA K H' a xs:=by
 rcases h with (h|⟨o,h⟩)|h
 ·exact .inl (.inl (s _ _ h))
 ·exact .inl (.inr ⟨o,s _ _ h⟩)
 ·exact .inr h
theorem yr{p:A1×AE}(I:L2.AU X AN σ H s)(h1:s.heap.get? p.1=U p.2)(h2:H p.1=Z)(b:p.1≠X.env.locals)(d:p.1∉X.fs)(c:∀v,p.2.data≠.cell v):L2.AU X (p::AN) σ H s:=
 I.vY λq a=>by
  rcases List.mem_cons.mp a with rfl|a
  ·exact⟨h1,h2,b,d,c⟩
  ·exact I.pin q (zz _ a)
theorem tD{p:A1×AE}(I:L2.AU X (p::AN) σ H s):L2.AU X AN σ H s:=
 I.vY λq a=>I.pin q (zz _ (zg _ a))
section
variable{R:Result->A2->Prop}
theorem Tc{f S a:A1}{H1:Hp}{a5:Dt}(b9:X.calm=true)(hT:wW X σ H1 f fk)(hC:rB X .Lt bt qL)(hl:nA X.K H1 l vs)(a6:aF X.K H1 ds vs)(b7:H1 S=Z)(b6:l≠a)(c8:S≠a)(a2:a≠X.env.locals)(c1:X.s₀.heap.objs.size<=a)(c9:a∉X.fs)(Td:∀x c,X.env.cells.lookup x=U c->c≠a)(Te:∀p∈X.pn++AN,p.1≠a)(hR:∀v u H' s',L2.AU X AN σ H' s'->AV H1 H'->As v u->AW X.K H' a5 v->R (.ok (.ret u)) s'):
  ∀(r:O (Dt×Dt)) (j:Nat) (s:A2) (H:Hp) (i:AE) (d k:Dt) (B n:V),BG qL fk (ds.drop j)=U r->j<=ds.length->L2.AU X ((a,i)::AN) σ H s->AV H1 H->i.cls=.type "list_iterator" → i.data=.fields #[.ref l,.int j 0] →
   H S=U (.lst [B,n])->AW X.K H d B->AW X.K H k n->qL k=true->rA bt d k r=a5 →
   AF (en X) X.A (.builtin "min.loop" ⟨[.ref a,.ref f,.ref S],[]⟩) R s:=by
 have b5:(toString "min" ++ toString ".loop":String) ="min.loop":=by decide
 intro r
 induction r with
 |nil=>
  intro j s H i d k B n hk hj I m a4 a7 q rd rk ok g;have hh:X.A.in1.handled=Z:=I.ok.hd b9;have d1:ds.drop j=[]:=by
   cases e:ds.drop j with
   |nil=>rfl
   |cons x y=>
    rw[e]at hk;obtain⟨_,_,_,_,_,h⟩:=jo hk;cases h
  have a0:j=ds.length:=by
   have:=congrArg aw d1;rw[QN]at this;simp at this;omega
  obtain⟨AQ,P,pl,hz⟩:=I.list (gn hl m);have b0:AQ.length=ds.length:=by rw[<-P.length,a6.length]
  obtain⟨_,d3,n2,rs,_,eS⟩:=I.xV q;obtain⟨u1,u2,rfl,a8,c0⟩:=By rs;have gI:=(I.pin (a,i) (zz _ ze)).1;have W:=Walks.list (prog:=X.prog) (w:=X.w) (A:=X.A.in1) hh a l b6 AQ.toArray;refine QU PySem.F.entry_min_loop ?_;rw[Around.under_plainId qi _];show A7 _ X.A.in1 (seqItems? (.ref S) >>= _) _ _ _;refine zb (kg eS rfl ?_);show A7 _ X.A.in1 (tryCatch (pyNext (.ref a)) _ >>= _) _ _ _;refine zb (ZZ (W.done _ _ _ ⟨⟨i,gI,a4,by rw[a7,zi,b0,<-a0]⟩,pl.isList⟩ λh' J Q=>?_));have I1:L2.AU X AN σ H { s with heap:=h',toks:=J }:=(tD I).turned (it:=a) (λb o g e=>Q b o (by simpa using g) e) (I.pin (a,i) (zz _ ze)).2.1 a2 (.inr c1) Td Te;have b3:=Q S _ (by simpa using c8) eS;show A7 _ X.A.in1 (updateSeq S (λ_=>#[]) >>= _) _ _ _;refine zb ?_;refine JP b3 rfl (zb (ka (zd ?_)));have s1:=jb h' S (Obj.mapSeq λ_=>(#[]:Array A0));obtain⟨c2,L⟩:∃c2,(h'.update S (Obj.mapSeq λ_=>(#[]:Array A0))).get? S=U { cls:=.type "list",data:=.seq #[] c2 }:=⟨_,get?_update_seq b3 λ_=>#[]⟩;have C:L2.AU X AN σ (B8 H S (.lst [])) { s with heap:=h'.update S (Obj.mapSeq λ_=>(#[]:Array A0)),toks:=J }:=I1.write (by rw[q];trivial) (.inl rfl) (λb u g e=>(s1.2 b g).trans e) ⟨_,L⟩ ⟨qs _,[],c2,.nil,L⟩;have e0:d=a5:=g;subst e0;exact hR B u1 _ _ C (kZ m b7) a8 (rd.kp (Kp.lst q))
 |cons dk r ih=>
  intro j s H i d k B n hk hj I m a4 a7 q rd rk ok g;have hh:X.A.in1.handled=Z:=I.ok.hd b9;obtain⟨d2,AS,M⟩:∃d2 AS,ds.drop j=d2::AS:=by
   cases e:ds.drop j with
   |nil=>rw[e]at hk;cases hk
   |cons x y=>exact⟨x,y,rfl⟩
  have a0:j<ds.length:=by
   have:=congrArg aw M;rw[QN]at this;simp at this;omega
  have d6:ds[j]?=U d2:=by
   have:=congrArg (·[0]?) M;simpa using this
  have a9:ds.drop (j+1)=AS:=by
   have:=congrArg List.tail M;rw[List.tail_drop]at this;simpa using this
  rw[M]at hk;obtain⟨D,r',c3,Ht,b4,hk⟩:=jo hk;cases hk;obtain⟨v2,c5,Tf⟩:=a6.get d6;obtain⟨AQ,P,pl,hz⟩:=I.list (gn hl m);have b0:AQ.length=ds.length:=by rw[<-P.length,a6.length]
  obtain⟨w2,c4,Tg⟩:=P.get c5;obtain⟨_,d3,n2,rs,_,eS⟩:=I.xV q;obtain⟨u1,u2,rfl,a8,c0⟩:=By rs;have pI:=I.pin (a,i) (zz _ ze);have W:=Walks.list (prog:=X.prog) (w:=X.w) (A:=X.A.in1) hh a l b6 AQ.toArray;refine QU PySem.F.entry_min_loop ?_;rw[Around.under_plainId qi _];show A7 _ X.A.in1 (seqItems? (.ref S) >>= _) _ _ _;refine zb (kg eS rfl ?_);show A7 _ X.A.in1 (tryCatch (pyNext (.ref a)) _ >>= _) _ _ _;refine zb (ZZ (W.item j _ _ _ (by rw[zi];omega) ⟨⟨i,pI.1,a4,a7⟩,pl.isList⟩ λv h' J hP d4 Q=>?_));have hv:v=w2:=by
   rw[QQ,c4]at hP;cases hP;rfl
  subst hv;obtain⟨N,d5,Hu,a3⟩:=id d4.1;have I1:L2.AU X ((a,N)::AN) σ H { s with heap:=h',toks:=J }:=yr ((tD I).turned (it:=a) (t':=J) (λb o g e=>Q b o (by simpa using g) e) pI.2.1 a2 (.inr c1) Td Te) d5 pI.2.1 a2 c9 (λv z=>by rw[a3]at z;cases z);show A7 _ X.A.in1 (tryCatch (holding [v] (call (.ref f) [v])) _ >>= _) _ _ _;refine zb (ZZ (ZE (ZI (hT _ _ H d2 D v2 v I1 m Tg (Tf.kp (.of m)) c3) (λx E he=>?_) λ_ _ hF=>hF.elim)));obtain⟨kv,H2,C,Ws,t,Wt⟩:=he;have G:=t _ _ q;obtain⟨_,d8,n3,d9,_,Ti⟩:=C.xV G;have d0:=rd.kp (.of t);have b8:=rk.kp (.of t);show A7 _ X.A.in1 (tryCatch (holding [v,x] (richCompare .Lt x u2 >>= _)) _ >>= _) _ _ _;refine zb (ZZ (ZE (zb (hC _ _ _ _ D k kv n x u2 _ _ C Ws c0 Wt b8 Ht ok ?_))));refine zb (ZE (qf ?_));refine zb (ka (zd ?_));simp only[rA]at g;by_cases a1:bt D k=true
  ·rw[zr a1]at g;simp only[a1,ZT];have s1:=jb E.heap S (Obj.mapSeq λ_=>#[v,x]);obtain⟨c2,L⟩:∃c2,(E.heap.update S (Obj.mapSeq λ_=>#[v,x])).get? S=U { cls:=.type "list",data:=.seq #[v,x] c2 }:=⟨_,get?_update_seq Ti λ_=>#[v,x]⟩;have I3:L2.AU X ((a,N)::AN) σ (B8 H2 S (.lst [v2,kv])) { E with heap:=E.heap.update S (Obj.mapSeq λ_=>#[v,x]) }:=C.write (t':=E.toks) (by rw[G];trivial) (.inl rfl) (λb u g e=>(s1.2 b g).trans e) ⟨_,L⟩ ⟨(show 2<=AA by decide),[v,x],c2,.cons Tg (.cons Ws .nil),L⟩;refine zb ?_;refine JP Ti rfl (zb (ka ?_));rw[b5];exact zd ⟨plainId_quiet qi _,ih (j+1) _ _ N d2 D v2 kv (by rw[a9];exact b4) a0 I3 (kZ (m.trans t) b7) Hu (by rw[a3]) aU (((Tf.kp (.of m)).kp (.of t)).kp (Kp.lst G)) (Wt.kp (Kp.lst G)) Ht g⟩
  ·rw[zI a1]at g;have c6:bt D k=false:=by simpa using a1
   simp only[c6,zv,ZH];refine zb (ka ?_);rw[b5];exact zd ⟨plainId_quiet qi _,ih (j+1) _ _ N d k B n (by rw[a9];exact b4) a0 C (m.trans t) Hu (by rw[a3]) G d0 b8 ok g⟩
theorem Hv(a v:A0):argsOk "min" ⟨[a],[(Str.ofString "key",v)]⟩:=by unfold argsOk;kernel_rfl
theorem Wu{f:A1}{a8 d0 m:Dt}{t:O (Dt×Dt)}(I:L2.AU X AN σ H s)(a2:X.calm=true)(P:wW X σ H f fk)(hC:rB X .Lt bt qL)(G:nA X.K H l vs)(a4:aF X.K H ds vs)(hk:BG qL fk ds=U ((d0,m)::t))(g:rA bt d0 m t=a8)(hQ:∀v u H' s',L2.AU X AN σ H' s'->AV H H'->As v u->AW X.K H' a8 v->Q u s'):
  A7 (en X) X.A (call (.builtin "min") [.ref l] [(Str.ofString "key", .ref f)]) Q E s:=by
 have a1:(toString "min" ++ toString ".loop":String) ="min.loop":=by decide
 have hh:X.A.in1.handled=Z:=I.ok.hd a2;obtain⟨AQ,rv,pl,hz⟩:=I.list G;have b6:l<s.heap.objs.size:=by obtain⟨o,n,e,_⟩:=pl;exact zt e
 refine kmk_tree PySem.F.kind_min PySem.F.plain_min PySem.F.entry_min (Hv _ _) ?_;show A7 _ X.A.in1 (Builtin.Builtins.bindParams "min" ["key","default"] 0 ⟨[],[(Str.ofString "key", .ref f)]⟩ >>= _) _ _ s;refine zb (wpAny_of_eq (show Builtin.Builtins.bindParams "min" ["key","default"] 0 ⟨[],[(Str.ofString "key", .ref f)]⟩=pure [U (.ref f),Z] from S) ?_);refine zb (zd ?_);refine zb (jS pl.isList ?_);refine zb (kU ?_ (qs _));rw[a1];generalize hoI:({ cls:=.type "list_iterator",data:=.fields #[.ref l,.int 0 0] }:AE)=oI;have hS:(s.heap.push oI).objs.size=s.heap.objs.size+1:=size_push' ..;have b4:(s.heap.push oI).get? s.heap.objs.size=U oI:=zw _ (by rw[<-hoI];rfl);have k:s.heap.objs.size≠X.env.locals:=aS I.lt;have a3:X.s₀.heap.objs.size<=s.heap.objs.size:=I.sz;have L:s.heap.objs.size∉X.fs:=I.Ye (zl _);have Td:∀x c,X.env.cells.lookup x=U c->c≠s.heap.objs.size:=λx c e=>by obtain⟨v,o,ho,_⟩:=I.cell x c e;exact z4 (zt ho)
 have Te:∀p∈X.pn++AN,p.1≠s.heap.objs.size:=λp hp=>z4 (zt (I.pin p hp).1);have b0:l≠s.heap.objs.size:=z4 b6;have c5:(s.heap.push oI).objs.size≠s.heap.objs.size:=by rw[hS];exact Nat.succ_ne_self _
 have fI:H s.heap.objs.size=Z:=I.hok.fresh (zl _);have fS:H (s.heap.push oI).objs.size=Z:=I.hok.fresh (by rw[hS];exact kP _);have I1:L2.AU X ((s.heap.objs.size,oI)::AN) σ H { s with heap:=s.heap.push oI }:=yr (I.kept (t':=s.toks) λb o e=>zh _ e) b4 fI k L (λv z=>by rw[<-hoI]at z;cases z);have j:L2.AU X ((s.heap.objs.size,oI)::AN) σ (B8 H (s.heap.push oI).objs.size (.lst [])) { s with heap:=(s.heap.push oI).push { cls:=.type "list",data:=.seq #[] } }:=I1.laid (t':=s.toks) (λb o e=>zh _ e) (zl _) ⟨qs _,[],0,.nil,zw _ rfl⟩;have h:AV H (B8 H (s.heap.push oI).objs.size (.lst [])):=bA fS;refine zd ⟨plainId_quiet qi _,?_⟩;obtain⟨d2,AS,b5⟩:∃d2 AS,ds=d2::AS:=by
  cases e:ds with
  |nil=>rw[e]at hk;cases hk
  |cons x y=>exact⟨x,y,rfl⟩
 subst b5;obtain⟨k2,r',c1,Ht,b9,hk⟩:=jo hk;cases hk;obtain⟨D,c6,Tf⟩:=a4.get (i:=0) (d:=d0) rfl;obtain⟨a9,c0,c3,_⟩:=j.list (gn G h);obtain⟨w2,a6,Tg⟩:=c0.get c6;have B:=j.pin (s.heap.objs.size,oI) (zz _ ze);obtain⟨_,d3,n2,rs,_,eS⟩:=j.xV (l:=(s.heap.push oI).objs.size) (xs:=[]) aU;cases rs;have W:=Walks.list (prog:=X.prog) (w:=X.w) (A:=X.A.in1) hh s.heap.objs.size l b0 a9.toArray;refine QU PySem.F.entry_min_loop ?_;rw[Around.under_plainId qi _];show A7 _ X.A.in1 (seqItems? (.ref _) >>= _) _ _ _;refine zb (kg eS S ?_);show A7 _ X.A.in1 (tryCatch (pyNext (.ref s.heap.objs.size)) _ >>= _) _ _ _;have b7:0<a9.length:=(ad.mp a6).1;refine zb (ZZ (W.item 0 _ _ _ (by rw[zi];exact b7) ⟨⟨oI,B.1,by rw[<-hoI],by rw[<-hoI];rfl⟩,c3.isList⟩ λv h' a5 hP b8 b3=>?_));have hv:v=w2:=by
  rw[QQ,a6]at hP;cases hP;rfl
 subst hv;obtain⟨C,c4,Hu,a0⟩:=id b8.1;have c8:=(tD j).turned (h':=h') (it:=s.heap.objs.size) (t':=a5) (λb o g e=>b3 b o (by simpa using g) e) B.2.1 k (.inr a3) Td Te;have I3:L2.AU X ((s.heap.objs.size,C)::AN) σ (B8 H (s.heap.push oI).objs.size (.lst [])) { s with heap:=h',toks:=a5 }:=yr c8 c4 B.2.1 k L (λv z=>by rw[a0]at z;cases z);show A7 _ X.A.in1 (tryCatch (holding [v] (call (.ref f) [v])) _ >>= _) _ _ _;refine zb (ZZ (ZE (ZI (P _ _ _ d0 m D v I3 h Tg (Tf.kp (.of h)) c1) (λx a he=>?_) λ_ _ hF=>hF.elim)));obtain⟨kv,H2,N,Ws,J,Wt⟩:=he;have q:=J _ _ (show(B8 H (s.heap.push oI).objs.size (.lst [])) (s.heap.push oI).objs.size=U (.lst []) from aU);obtain⟨_,c9,n3,d1,_,M⟩:=N.xV q;have s1:=jb a.heap (s.heap.push oI).objs.size (Obj.mapSeq λ_=>#[v,x]);obtain⟨c2,a7⟩:∃c2,(a.heap.update (s.heap.push oI).objs.size (Obj.mapSeq λ_=>#[v,x])).get? (s.heap.push oI).objs.size=U { cls:=.type "list",data:=.seq #[v,x] c2 }:=⟨_,get?_update_seq M λ_=>#[v,x]⟩;have I5:L2.AU X ((s.heap.objs.size,C)::AN) σ (B8 H2 (s.heap.push oI).objs.size (.lst [D,kv])) { a with heap:=a.heap.update (s.heap.push oI).objs.size (Obj.mapSeq λ_=>#[v,x]) }:=N.write (t':=a.toks) (by rw[q];trivial) (.inl S) (λb u g e=>(s1.2 b g).trans e) ⟨_,a7⟩ ⟨(show 2<=AA by decide),[v,x],c2,.cons Tg (.cons Ws .nil),a7⟩;show A7 _ X.A.in1 (updateSeq (s.heap.push oI).objs.size (λ_=>#[v,x]) >>= _) _ _ _;refine zb ?_;refine JP M S ?_;rw[a1];exact zd ⟨plainId_quiet qi _,Tc a2 P hC G a4 fS b0 c5 k a3 L Td Te hQ t 1 _ _ C d0 m D kv b9 (by simp) I5 (kZ (h.trans J) fS) Hu (by rw[a0]) aU (((Tf.kp (.of h)).kp (.of J)).kp (Kp.lst q)) (Wt.kp (Kp.lst q)) Ht g⟩
theorem Tj{f S a:A1}{H1:Hp}{a5:Dt}(b9:X.calm=true)(hT:wW X σ H1 f fk)(hC:rB X .Gt bt qL)(hl:nA X.K H1 l vs)(a6:aF X.K H1 ds vs)(b7:H1 S=Z)(b6:l≠a)(c8:S≠a)(a2:a≠X.env.locals)(c1:X.s₀.heap.objs.size<=a)(c9:a∉X.fs)(Td:∀x c,X.env.cells.lookup x=U c->c≠a)(Te:∀p∈X.pn++AN,p.1≠a)(hR:∀v u H' s',L2.AU X AN σ H' s'->AV H1 H'->As v u->AW X.K H' a5 v->R (.ok (.ret u)) s'):
  ∀(r:O (Dt×Dt)) (j:Nat) (s:A2) (H:Hp) (i:AE) (d k:Dt) (B n:V),BG qL fk (ds.drop j)=U r->j<=ds.length->L2.AU X ((a,i)::AN) σ H s->AV H1 H->i.cls=.type "list_iterator" → i.data=.fields #[.ref l,.int j 0] →
   H S=U (.lst [B,n])->AW X.K H d B->AW X.K H k n->qL k=true->rA bt d k r=a5 →
   AF (en X) X.A (.builtin "max.loop" ⟨[.ref a,.ref f,.ref S],[]⟩) R s:=by
 have b5:(toString "max" ++ toString ".loop":String) ="max.loop":=by decide
 intro r
 induction r with
 |nil=>
  intro j s H i d k B n hk hj I m a4 a7 q rd rk ok g;have hh:X.A.in1.handled=Z:=I.ok.hd b9;have d1:ds.drop j=[]:=by
   cases e:ds.drop j with
   |nil=>rfl
   |cons x y=>
    rw[e]at hk;obtain⟨_,_,_,_,_,h⟩:=jo hk;cases h
  have a0:j=ds.length:=by
   have:=congrArg aw d1;rw[QN]at this;simp at this;omega
  obtain⟨AQ,P,pl,hz⟩:=I.list (gn hl m);have b0:AQ.length=ds.length:=by rw[<-P.length,a6.length]
  obtain⟨_,d3,n2,rs,_,eS⟩:=I.xV q;obtain⟨u1,u2,rfl,a8,c0⟩:=By rs;have gI:=(I.pin (a,i) (zz _ ze)).1;have W:=Walks.list (prog:=X.prog) (w:=X.w) (A:=X.A.in1) hh a l b6 AQ.toArray;refine QU PySem.F.entry_max_loop ?_;rw[Around.under_plainId qk _];show A7 _ X.A.in1 (seqItems? (.ref S) >>= _) _ _ _;refine zb (kg eS rfl ?_);show A7 _ X.A.in1 (tryCatch (pyNext (.ref a)) _ >>= _) _ _ _;refine zb (ZZ (W.done _ _ _ ⟨⟨i,gI,a4,by rw[a7,zi,b0,<-a0]⟩,pl.isList⟩ λh' J Q=>?_));have I1:L2.AU X AN σ H { s with heap:=h',toks:=J }:=(tD I).turned (it:=a) (λb o g e=>Q b o (by simpa using g) e) (I.pin (a,i) (zz _ ze)).2.1 a2 (.inr c1) Td Te;have b3:=Q S _ (by simpa using c8) eS;show A7 _ X.A.in1 (updateSeq S (λ_=>#[]) >>= _) _ _ _;refine zb ?_;refine JP b3 rfl (zb (ka (zd ?_)));have s1:=jb h' S (Obj.mapSeq λ_=>(#[]:Array A0));obtain⟨c2,L⟩:∃c2,(h'.update S (Obj.mapSeq λ_=>(#[]:Array A0))).get? S=U { cls:=.type "list",data:=.seq #[] c2 }:=⟨_,get?_update_seq b3 λ_=>#[]⟩;have C:L2.AU X AN σ (B8 H S (.lst [])) { s with heap:=h'.update S (Obj.mapSeq λ_=>(#[]:Array A0)),toks:=J }:=I1.write (by rw[q];trivial) (.inl rfl) (λb u g e=>(s1.2 b g).trans e) ⟨_,L⟩ ⟨qs _,[],c2,.nil,L⟩;have e0:d=a5:=g;subst e0;exact hR B u1 _ _ C (kZ m b7) a8 (rd.kp (Kp.lst q))
 |cons dk r ih=>
  intro j s H i d k B n hk hj I m a4 a7 q rd rk ok g;have hh:X.A.in1.handled=Z:=I.ok.hd b9;obtain⟨d2,AS,M⟩:∃d2 AS,ds.drop j=d2::AS:=by
   cases e:ds.drop j with
   |nil=>rw[e]at hk;cases hk
   |cons x y=>exact⟨x,y,rfl⟩
  have a0:j<ds.length:=by
   have:=congrArg aw M;rw[QN]at this;simp at this;omega
  have d6:ds[j]?=U d2:=by
   have:=congrArg (·[0]?) M;simpa using this
  have a9:ds.drop (j+1)=AS:=by
   have:=congrArg List.tail M;rw[List.tail_drop]at this;simpa using this
  rw[M]at hk;obtain⟨D,r',c3,Ht,b4,hk⟩:=jo hk;cases hk;obtain⟨v2,c5,Tf⟩:=a6.get d6;obtain⟨AQ,P,pl,hz⟩:=I.list (gn hl m);have b0:AQ.length=ds.length:=by rw[<-P.length,a6.length]
  obtain⟨w2,c4,Tg⟩:=P.get c5;obtain⟨_,d3,n2,rs,_,eS⟩:=I.xV q;obtain⟨u1,u2,rfl,a8,c0⟩:=By rs;have pI:=I.pin (a,i) (zz _ ze);have W:=Walks.list (prog:=X.prog) (w:=X.w) (A:=X.A.in1) hh a l b6 AQ.toArray;refine QU PySem.F.entry_max_loop ?_;rw[Around.under_plainId qk _];show A7 _ X.A.in1 (seqItems? (.ref S) >>= _) _ _ _;refine zb (kg eS rfl ?_);show A7 _ X.A.in1 (tryCatch (pyNext (.ref a)) _ >>= _) _ _ _;refine zb (ZZ (W.item j _ _ _ (by rw[zi];omega) ⟨⟨i,pI.1,a4,a7⟩,pl.isList⟩ λv h' J hP d4 Q=>?_));have hv:v=w2:=by
   rw[QQ,c4]at hP;cases hP;rfl
  subst hv;obtain⟨N,d5,Hu,a3⟩:=id d4.1;have I1:L2.AU X ((a,N)::AN) σ H { s with heap:=h',toks:=J }:=yr ((tD I).turned (it:=a) (t':=J) (λb o g e=>Q b o (by simpa using g) e) pI.2.1 a2 (.inr c1) Td Te) d5 pI.2.1 a2 c9 (λv z=>by rw[a3]at z;cases z);show A7 _ X.A.in1 (tryCatch (holding [v] (call (.ref f) [v])) _ >>= _) _ _ _;refine zb (ZZ (ZE (ZI (hT _ _ H d2 D v2 v I1 m Tg (Tf.kp (.of m)) c3) (λx E he=>?_) λ_ _ hF=>hF.elim)));obtain⟨kv,H2,C,Ws,t,Wt⟩:=he;have G:=t _ _ q;obtain⟨_,d8,n3,d9,_,Ti⟩:=C.xV G;have d0:=rd.kp (.of t);have b8:=rk.kp (.of t);show A7 _ X.A.in1 (tryCatch (holding [v,x] (richCompare .Gt x u2 >>= _)) _ >>= _) _ _ _;refine zb (ZZ (ZE (zb (hC _ _ _ _ D k kv n x u2 _ _ C Ws c0 Wt b8 Ht ok ?_))));refine zb (ZE (qf ?_));refine zb (ka (zd ?_));simp only[rA]at g;by_cases a1:bt D k=true
  ·rw[zr a1]at g;simp only[a1,ZT];have s1:=jb E.heap S (Obj.mapSeq λ_=>#[v,x]);obtain⟨c2,L⟩:∃c2,(E.heap.update S (Obj.mapSeq λ_=>#[v,x])).get? S=U { cls:=.type "list",data:=.seq #[v,x] c2 }:=⟨_,get?_update_seq Ti λ_=>#[v,x]⟩;have I3:L2.AU X ((a,N)::AN) σ (B8 H2 S (.lst [v2,kv])) { E with heap:=E.heap.update S (Obj.mapSeq λ_=>#[v,x]) }:=C.write (t':=E.toks) (by rw[G];trivial) (.inl rfl) (λb u g e=>(s1.2 b g).trans e) ⟨_,L⟩ ⟨(show 2<=AA by decide),[v,x],c2,.cons Tg (.cons Ws .nil),L⟩;refine zb ?_;refine JP Ti rfl (zb (ka ?_));rw[b5];exact zd ⟨plainId_quiet qk _,ih (j+1) _ _ N d2 D v2 kv (by rw[a9];exact b4) a0 I3 (kZ (m.trans t) b7) Hu (by rw[a3]) aU (((Tf.kp (.of m)).kp (.of t)).kp (Kp.lst G)) (Wt.kp (Kp.lst G)) Ht g⟩
  ·rw[zI a1]at g;have c6:bt D k=false:=by simpa using a1
   simp only[c6,zv,ZH];refine zb (ka ?_);rw[b5];exact zd ⟨plainId_quiet qk _,ih (j+1) _ _ N d k B n (by rw[a9];exact b4) a0 C (m.trans t) Hu (by rw[a3]) G d0 b8 ok g⟩
theorem Hw(a v:A0):argsOk "max" ⟨[a],[(Str.ofString "key",v)]⟩:=by unfold argsOk;kernel_rfl
theorem Wv{f:A1}{a8 d0 m:Dt}{t:O (Dt×Dt)}(I:L2.AU X AN σ H s)(a2:X.calm=true)(P:wW X σ H f fk)(hC:rB X .Gt bt qL)(G:nA X.K H l vs)(a4:aF X.K H ds vs)(hk:BG qL fk ds=U ((d0,m)::t))(g:rA bt d0 m t=a8)(hQ:∀v u H' s',L2.AU X AN σ H' s'->AV H H'->As v u->AW X.K H' a8 v->Q u s'):
  A7 (en X) X.A (call (.builtin "max") [.ref l] [(Str.ofString "key", .ref f)]) Q E s:=by
 have a1:(toString "max" ++ toString ".loop":String) ="max.loop":=by decide
 have hh:X.A.in1.handled=Z:=I.ok.hd a2;obtain⟨AQ,rv,pl,hz⟩:=I.list G;have b6:l<s.heap.objs.size:=by obtain⟨o,n,e,_⟩:=pl;exact zt e
 refine kmk_tree PySem.F.kind_max PySem.F.plain_max PySem.F.entry_max (Hw _ _) ?_;show A7 _ X.A.in1 (Builtin.Builtins.bindParams "max" ["key","default"] 0 ⟨[],[(Str.ofString "key", .ref f)]⟩ >>= _) _ _ s;refine zb (wpAny_of_eq (show Builtin.Builtins.bindParams "max" ["key","default"] 0 ⟨[],[(Str.ofString "key", .ref f)]⟩=pure [U (.ref f),Z] from S) ?_);refine zb (zd ?_);refine zb (jS pl.isList ?_);refine zb (kU ?_ (qs _));rw[a1];generalize hoI:({ cls:=.type "list_iterator",data:=.fields #[.ref l,.int 0 0] }:AE)=oI;have hS:(s.heap.push oI).objs.size=s.heap.objs.size+1:=size_push' ..;have b4:(s.heap.push oI).get? s.heap.objs.size=U oI:=zw _ (by rw[<-hoI];rfl);have k:s.heap.objs.size≠X.env.locals:=aS I.lt;have a3:X.s₀.heap.objs.size<=s.heap.objs.size:=I.sz;have L:s.heap.objs.size∉X.fs:=I.Ye (zl _);have Td:∀x c,X.env.cells.lookup x=U c->c≠s.heap.objs.size:=λx c e=>by obtain⟨v,o,ho,_⟩:=I.cell x c e;exact z4 (zt ho)
 have Te:∀p∈X.pn++AN,p.1≠s.heap.objs.size:=λp hp=>z4 (zt (I.pin p hp).1);have b0:l≠s.heap.objs.size:=z4 b6;have c5:(s.heap.push oI).objs.size≠s.heap.objs.size:=by rw[hS];exact Nat.succ_ne_self _
 have fI:H s.heap.objs.size=Z:=I.hok.fresh (zl _);have fS:H (s.heap.push oI).objs.size=Z:=I.hok.fresh (by rw[hS];exact kP _);have I1:L2.AU X ((s.heap.objs.size,oI)::AN) σ H { s with heap:=s.heap.push oI }:=yr (I.kept (t':=s.toks) λb o e=>zh _ e) b4 fI k L (λv z=>by rw[<-hoI]at z;cases z);have j:L2.AU X ((s.heap.objs.size,oI)::AN) σ (B8 H (s.heap.push oI).objs.size (.lst [])) { s with heap:=(s.heap.push oI).push { cls:=.type "list",data:=.seq #[] } }:=I1.laid (t':=s.toks) (λb o e=>zh _ e) (zl _) ⟨qs _,[],0,.nil,zw _ rfl⟩;have h:AV H (B8 H (s.heap.push oI).objs.size (.lst [])):=bA fS;refine zd ⟨plainId_quiet qk _,?_⟩;obtain⟨d2,AS,b5⟩:∃d2 AS,ds=d2::AS:=by
  cases e:ds with
  |nil=>rw[e]at hk;cases hk
  |cons x y=>exact⟨x,y,rfl⟩
 subst b5;obtain⟨k2,r',c1,Ht,b9,hk⟩:=jo hk;cases hk;obtain⟨D,c6,Tf⟩:=a4.get (i:=0) (d:=d0) rfl;obtain⟨a9,c0,c3,_⟩:=j.list (gn G h);obtain⟨w2,a6,Tg⟩:=c0.get c6;have B:=j.pin (s.heap.objs.size,oI) (zz _ ze);obtain⟨_,d3,n2,rs,_,eS⟩:=j.xV (l:=(s.heap.push oI).objs.size) (xs:=[]) aU;cases rs;have W:=Walks.list (prog:=X.prog) (w:=X.w) (A:=X.A.in1) hh s.heap.objs.size l b0 a9.toArray;refine QU PySem.F.entry_max_loop ?_;rw[Around.under_plainId qk _];show A7 _ X.A.in1 (seqItems? (.ref _) >>= _) _ _ _;refine zb (kg eS S ?_);show A7 _ X.A.in1 (tryCatch (pyNext (.ref s.heap.objs.size)) _ >>= _) _ _ _;have b7:0<a9.length:=(ad.mp a6).1;refine zb (ZZ (W.item 0 _ _ _ (by rw[zi];exact b7) ⟨⟨oI,B.1,by rw[<-hoI],by rw[<-hoI];rfl⟩,c3.isList⟩ λv h' a5 hP b8 b3=>?_));have hv:v=w2:=by
  rw[QQ,a6]at hP;cases hP;rfl
 subst hv;obtain⟨C,c4,Hu,a0⟩:=id b8.1;have c8:=(tD j).turned (h':=h') (it:=s.heap.objs.size) (t':=a5) (λb o g e=>b3 b o (by simpa using g) e) B.2.1 k (.inr a3) Td Te;have I3:L2.AU X ((s.heap.objs.size,C)::AN) σ (B8 H (s.heap.push oI).objs.size (.lst [])) { s with heap:=h',toks:=a5 }:=yr c8 c4 B.2.1 k L (λv z=>by rw[a0]at z;cases z);show A7 _ X.A.in1 (tryCatch (holding [v] (call (.ref f) [v])) _ >>= _) _ _ _;refine zb (ZZ (ZE (ZI (P _ _ _ d0 m D v I3 h Tg (Tf.kp (.of h)) c1) (λx a he=>?_) λ_ _ hF=>hF.elim)));obtain⟨kv,H2,N,Ws,J,Wt⟩:=he;have q:=J _ _ (show(B8 H (s.heap.push oI).objs.size (.lst [])) (s.heap.push oI).objs.size=U (.lst []) from aU);obtain⟨_,c9,n3,d1,_,M⟩:=N.xV q;have s1:=jb a.heap (s.heap.push oI).objs.size (Obj.mapSeq λ_=>#[v,x]);obtain⟨c2,a7⟩:∃c2,(a.heap.update (s.heap.push oI).objs.size (Obj.mapSeq λ_=>#[v,x])).get? (s.heap.push oI).objs.size=U { cls:=.type "list",data:=.seq #[v,x] c2 }:=⟨_,get?_update_seq M λ_=>#[v,x]⟩;have I5:L2.AU X ((s.heap.objs.size,C)::AN) σ (B8 H2 (s.heap.push oI).objs.size (.lst [D,kv])) { a with heap:=a.heap.update (s.heap.push oI).objs.size (Obj.mapSeq λ_=>#[v,x]) }:=N.write (t':=a.toks) (by rw[q];trivial) (.inl S) (λb u g e=>(s1.2 b g).trans e) ⟨_,a7⟩ ⟨(show 2<=AA by decide),[v,x],c2,.cons Tg (.cons Ws .nil),a7⟩;show A7 _ X.A.in1 (updateSeq (s.heap.push oI).objs.size (λ_=>#[v,x]) >>= _) _ _ _;refine zb ?_;refine JP M S ?_;rw[a1];exact zd ⟨plainId_quiet qk _,Tj a2 P hC G a4 fS b0 c5 k a3 L Td Te hQ t 1 _ _ C d0 m D kv b9 (by simp) I5 (kZ (h.trans J) fS) Hu (by rw[a0]) aU (((Tf.kp (.of h)).kp (.of J)).kp (Kp.lst q)) (Wt.kp (Kp.lst q)) Ht g⟩
end
def JQ(bt:Dt->Dt->Bool)(qL:Dt->Bool)(fe fb:Ev->Y Bx)(is:O Nat):Ev->Y Bx:=λρ=>(fe ρ).bind λb=>(jG b).bind λds=>(BG qL (λd=>fb (U (.z d)::iz is ρ)) ds).bind fun
 |(d,k)::r=>U (.z (rA bt d k r))
 |[]=>Z
section
variable{body:Expr}{Ww p kpos:Pos}{xs:AZ}{c P:A1}{q:AJ}
theorem JR{f:A1}(i:X.calm=true)(hd:X.A.depth<recursionLimit)(O:FW X scope cl x xs is)(g:∀pm b ct u,bindArgs (kla_fn "<lambda>" q params body scope cl pm b ct) ⟨[u],[]⟩=pure [(x,u)])(j:∀f c' s H,QV (D5 X X.A.in1 (x::xs) (envX q scope s.heap.objs.size f (.ref c') cl) s H) body fb)(E:bh X.K H0 H σ ρ)(L:FQ H f q params body scope cl pm):
  wW X σ H f λd=>fb (U (.z d)::iz is ρ):=λAN s H' d k v u I a c l e=>
 ZI (Wr I O (show X.A.in1.frames=U X.stack from I.ok.frames) (show X.A.in1.handled=Z from I.ok.hd i) (show X.A.in1.depth<recursionLimit from hd) (L.same a) (g pm) (λf c' s H=>(j f c' s H).run) (E.grow a) c l e)
  (λu' s' ⟨v',H'',I',r',s'',_,r''⟩=>⟨v',H'',I',r',s'',r''⟩) λ_ _ h=>h
theorem Qd(l:X.calm=true)(hd:X.A.depth<recursionLimit)(z:rB X .Lt bt qL)(hg:Gl X "min")(C:X.mg "min"=Z)(y:AH "min"=U (.builtin "min"))(O:FW X scope cl x xs is)(t:JM X.K c P q)(a1:X.env.code=.ref c)(hq:X.env.qual++("<lambda>":AJ)=q)
  (a0:defaultsOf params X.env=([],[])) (M:∀pm n ct u,bindArgs (kla_fn "<lambda>" q params body scope cl pm n ct) ⟨[u],[]⟩=pure [(x,u)]) (he:QV X e fe)
  (w:∀f c' s H,QV (D5 X X.A.in1 (x::xs) (envX q scope s.heap.objs.size f (.ref c') cl) s H) body fb)
  (hs:A9 [e] X.env=(false,eval e X.env)::A9 [] X.env:=by rfl) (h1:AD pos (A9 [e] X.env)=(false,eval e X.env)::AD pos (A9 [] X.env):=by rfl) (h2:(AD pos (A9 [e] X.env)).any (·.1)=false:=by rfl) (D:("min":AJ) ≠ "__name__":=by decide) (a3:(("min":AJ)==("__debug__":AJ))=false:=by decide):
  QV X (.Call (.Name "min" p) [e] [⟨U "key", .Lambda params body scope Ww,kpos⟩] pos) (JQ bt qL fe fb is):=⟨λAN s σ H Q I h=>by
 obtain⟨H0,ρ,b,E,g,qq⟩:=h;unfold JQ at g;obtain⟨b1,e1,g⟩:=AT g;obtain⟨ds,B,g⟩:=AT g;obtain⟨kr,ek,g⟩:=AT g;cases kr with
 |nil=>cases g
 |cons dk r=>
  obtain⟨d,k⟩:=dk;cases g;refine qB (xQ I hg C y ?_ D a3);refine callWith_kw (jA (iG he.run pH hs pos AN s σ H (λvs H1=>∃v,vs=[v]/\AV H H1/\aQ X.K H1 b1 v) I ⟨H0,ρ,b1,E,e1,λv H' sm _ j=>⟨v,rfl,sm,j⟩⟩) λus F J=>?_) h1 h2 S rfl;obtain⟨vs,H1,N,r1,v,rfl,m,j⟩:=J;obtain⟨u,rfl,G⟩:=BB r1;obtain⟨a,ws,rfl,sq,rs⟩:=j.xW B;cases G;show A7 _ _ (evalAll [do let v <-eval (.Lambda params body scope Ww) X.env;standAt pos;pure v]) _ _ F;refine wpAny_evalAll_cons (zb (JN N t a1 hq a0 O.clos λf H2 s2 o i hf L=>zb (kT (zd (wpAny_evalAll_nil ?_)))));show A7 _ _ (call (.builtin "min") [.ref a] [(Str.ofString "key", .ref f)]) _ _ _;exact Wu o l (JR l hd O M w ((E.grow m).grow i) L) z (gn sq i) (rs.kp (.of i)) ek S λv u H' s' I' a2 rv W=>⟨v,H',I',rv,qq v H' ((m.trans i).trans a2) trivial W⟩⟩
theorem Qe(l:X.calm=true)(hd:X.A.depth<recursionLimit)(z:rB X .Gt bt qL)(hg:Gl X "max")(C:X.mg "max"=Z)(y:AH "max"=U (.builtin "max"))(O:FW X scope cl x xs is)(t:JM X.K c P q)(a1:X.env.code=.ref c)(hq:X.env.qual++("<lambda>":AJ)=q)
  (a0:defaultsOf params X.env=([],[])) (M:∀pm n ct u,bindArgs (kla_fn "<lambda>" q params body scope cl pm n ct) ⟨[u],[]⟩=pure [(x,u)]) (he:QV X e fe)
  (w:∀f c' s H,QV (D5 X X.A.in1 (x::xs) (envX q scope s.heap.objs.size f (.ref c') cl) s H) body fb)
  (hs:A9 [e] X.env=(false,eval e X.env)::A9 [] X.env:=by rfl) (h1:AD pos (A9 [e] X.env)=(false,eval e X.env)::AD pos (A9 [] X.env):=by rfl) (h2:(AD pos (A9 [e] X.env)).any (·.1)=false:=by rfl) (D:("max":AJ) ≠ "__name__":=by decide) (a3:(("max":AJ)==("__debug__":AJ))=false:=by decide):
  QV X (.Call (.Name "max" p) [e] [⟨U "key", .Lambda params body scope Ww,kpos⟩] pos) (JQ bt qL fe fb is):=⟨λAN s σ H Q I h=>by
 obtain⟨H0,ρ,b,E,g,qq⟩:=h;unfold JQ at g;obtain⟨b1,e1,g⟩:=AT g;obtain⟨ds,B,g⟩:=AT g;obtain⟨kr,ek,g⟩:=AT g;cases kr with
 |nil=>cases g
 |cons dk r=>
  obtain⟨d,k⟩:=dk;cases g;refine qB (xQ I hg C y ?_ D a3);refine callWith_kw (jA (iG he.run pH hs pos AN s σ H (λvs H1=>∃v,vs=[v]/\AV H H1/\aQ X.K H1 b1 v) I ⟨H0,ρ,b1,E,e1,λv H' sm _ j=>⟨v,rfl,sm,j⟩⟩) λus F J=>?_) h1 h2 S rfl;obtain⟨vs,H1,N,r1,v,rfl,m,j⟩:=J;obtain⟨u,rfl,G⟩:=BB r1;obtain⟨a,ws,rfl,sq,rs⟩:=j.xW B;cases G;show A7 _ _ (evalAll [do let v <-eval (.Lambda params body scope Ww) X.env;standAt pos;pure v]) _ _ F;refine wpAny_evalAll_cons (zb (JN N t a1 hq a0 O.clos λf H2 s2 o i hf L=>zb (kT (zd (wpAny_evalAll_nil ?_)))));show A7 _ _ (call (.builtin "max") [.ref a] [(Str.ofString "key", .ref f)]) _ _ _;exact Wv o l (JR l hd O M w ((E.grow m).grow i) L) z (gn sq i) (rs.kp (.of i)) ek S λv u H' s' I' a2 rv W=>⟨v,H',I',rv,qq v H' ((m.trans i).trans a2) trivial W⟩⟩
def DI:Dt->Bool
 |.int _=>true
 |_=>false
def D2:Dt->Dt->Bool
 |.int a,.int b=>decide (b<a)
 |_,_=>false
theorem Wx:rB X .Gt D2 DI:=λAN σ H s d g j l i k Q E I a f p1 p2 b c h=>by
 cases d<;>first|(cases b;done)|skip;cases g<;>first|(cases c;done)|skip;simp only[AW]at p1 p2;subst p1 p2;obtain⟨t,rfl⟩:=a;obtain⟨e,rfl⟩:=f;have:=PyProof.Rows.gt_int (prog:=X.prog) (w:=X.w) (A:=X.A.in1) (E:=E) (Q:=Q) (t:=t) (u:=e) h;exact this
def Wy:Dt->Bool
 |.tup [.int _,.str _]=>true
 |_=>false
def Wz(a b:Dt):Bool:=match ur a,ur b with
 |some ks,U ls=>dX ks ls
 |_,_=>false
theorem Od(h:Wy d=true):∃i x,d=.tup [.int i,.str x]:=by
 unfold Wy at h;split at h
 ·exact⟨_,_,rfl⟩
 ·cases h
theorem Tn(t:X.A.units+100<cLine):rB X .Lt Wz Wy:=λAN σ H s B q o u z D Q E I l d p1 p2 m n h=>by
 obtain⟨i,x,rfl⟩:=Od m;obtain⟨j,y,rfl⟩:=Od n;have e1:ur (.tup [.int i,.str x])=U [.inl i,.inr x]:=rfl;have e2:ur (.tup [.int j,.str y])=U [.inl j,.inr y]:=rfl;unfold Wz at h;rw[e1,e2]at h;rw[wN e1]at p1;rw[wN e2]at p2;simp only[Be,AW]at p1 p2;obtain⟨p,vs,rfl,sq,k⟩:=p1;obtain⟨p',v,rfl,g,f⟩:=p2;cases l;cases d;obtain⟨AQ,b,t1⟩:=FX I sq;obtain⟨C,a,t2⟩:=FX I g;rw[tB k]at b;rw[tB f]at a;have c:X.A.in1.units<cLine:=by
  show X.A.units+1<cLine;omega
 have e:NQ [Sum.inl i,Sum.inr x] [Sum.inl j,Sum.inr y]:=⟨rfl,rfl,trivial⟩;have:=S8 (prog:=X.prog) (w:=X.w) (E:=E) (Q:=Q) t1 t2 (R5 X b) (R5 X a) e c h;exact this
end
end P1
namespace P1
open L2
theorem BP(k:AJ):∀{vs:O A0} {ys:AZ},StrsAre vs ys->vs.countP (isStrOf k)=ys.count k
 |_,_,.nil=>rfl
 |_,_,.cons n u h=>by
  rw[bP,List.count_cons,BP k h];rfl
theorem FZ{K:B4}{H:Hp}:∀{ds:O Dt} {vs:O V} {ys:O Int} {AQ:O A0},aF K H ds vs->uw ds=U ys->AX vs AQ->IntsAre AQ ys
 |[],_,_,_,h,e,r=>by cases e;simp only[aF]at h;subst h;cases r;exact .nil
 |d::ds,vs,ys,AQ,h,e,r=>by
  cases d with
  |int k=>
   simp only[uw]at e;obtain⟨ks,e1,e2⟩:=AT e;cases e2;simp only[aF]at h;obtain⟨v,w,rfl,q,t⟩:=h;simp only[AW]at q;subst q;cases r with
   |cons a b=>
    obtain⟨tk,rfl⟩:=a;exact .cons k tk (FZ t e1 b)
  |_=>cases e
theorem qZ(k:Int):∀{vs:O A0} {ys:O Int},IntsAre vs ys->∀(i:Nat) (h:i<vs.length) (h':i<ys.length),isInt k vs[i]=(ys[i]==k)
 |_,_,.cons n u h,0,_,_=>rfl
 |_,_,.cons n u h,i+1,h1,h2=>by simpa using qZ k h i (by simpa using h1) (by simpa using h2)
section
variable{o:Expr}
theorem Qf:DB X "list.count" (λx xs H Q=>∃a vs ds ys k,x=.ref a/\xs=[.str k]/\nA X.K H a vs/\aF X.K H ds vs/\oH ds=U ys/\Q (.int (ys.count k:Nat)) H):=by
 intro AN s σ H x xs v us Q I i m h;obtain⟨a,vs,ds,ys,k,rfl,rfl,sq,l,b,q⟩:=h;obtain rfl:v=Value.ref a:=i;obtain⟨u,rfl,j⟩:=BB m;obtain⟨t,rfl⟩:=j;obtain⟨AQ,f,pl,o⟩:=I.list sq;obtain⟨⟨p,e,w,sl⟩,g,c,n,d⟩:=pl.isList;simp only at c d;subst c d;obtain⟨rfl,_⟩:=kO l b;have hi:=jj f;refine call_meets F.slot_list_count ⟨_,g,rfl⟩ F.entry_list_count (F.args_list_count_2 _ _) (SeqAt.list_countAt a AQ.toArray n e sl (.str k t) (isStrOf k)) ⟨g,λy b=>(eq_isStrOf k t hi y (by simpa using b)).at _ _,?_⟩;rw[show AQ.toArray.toList=AQ from rfl,BP k hi];exact⟨.int _,H,I.tok _,⟨_,rfl⟩,q⟩
def tH:Bx->Bx->Y Bx
 |b,.z (.str k)=>(jG b).bind λds=>(oH ds).bind λys=>U (.z (.int (ys.count k:Nat)))
 |_,_=>Z
theorem Ga(h:QV X o fo)(t:QV X e fe)(l:attributeBase o "count" X.env (eval o X.env)=eval o X.env:=by rfl)(j:((AD cpos (A9 [e] X.env)).all (λx=>!x.1)&&(backToKw cpos (keywordEach [] X.env)).all (λx=>x.1.isSome)&&decide (([e]:O Expr).length+([]:O AC).length+(if([]:O AC).isEmpty then 0 else 1)<30))=true:=by rfl)(s:(apos.endLine==cpos.line)=true:=by rfl)(hs:A9 [e] X.env=(false,eval e X.env)::A9 [] X.env:=by rfl):QV X (.Call (.Attribute o "count" apos) [e] [] cpos) (b2 tH fo fe):=
 ⟨Ih (Iz (T :="list") F.plainAttrs_list F.slot_list_count F.type_list_count Qf h.run (iG t.run pH hs) l j s hs S) λσ H Q q=>by
  obtain⟨H0,ρ,c,E,e,q⟩:=q;obtain⟨a,ea,e⟩:=AT e;obtain⟨b,eb,e⟩:=AT e;unfold tH at e;split at e
  ·rename_i k;obtain⟨ds,g,e⟩:=AT e;obtain⟨ys,m,e⟩:=AT e;cases e;refine⟨H0,ρ,_,E,ea,λv H1 f y i=>?_⟩;obtain⟨p,vs,rfl,sq,u⟩:=i.xW g;refine⟨.inl ⟨rfl,vs,sq⟩,H0,ρ,_,E.grow f,eb,λz H2 d w n=>?_⟩;obtain⟨rfl,_⟩:=Pq n;exact⟨p,vs,ds,ys,k,rfl,rfl,gn sq d,u.kp (.of d),m,q _ _ (f.trans d) trivial (by simp only[aQ,AW])⟩
  ·cases e⟩
theorem Qg:DB X "list.index" (λx xs H Q=>∃a vs ds ys k j,x=.ref a/\xs=[.int k]/\nA X.K H a vs/\aF X.K H ds vs/\uw ds=U ys/\ys.length<=100000/\ys.findIdx? (·==k)=U j/\Q (.int j) H):=by
 intro AN s σ H x xs v us Q I p B h;obtain⟨a,vs,ds,ys,k,j,rfl,rfl,sq,A,b,L,e,q⟩:=h;obtain rfl:v=Value.ref a:=p;obtain⟨u,rfl,z⟩:=BB B;obtain⟨t,rfl⟩:=z;obtain⟨AQ,D,pl,G⟩:=I.list sq;obtain⟨⟨N,o,M,sl⟩,g,c,n,d⟩:=pl.isList;simp only at c d;subst c d;have hi:=FZ A b D;have J:AQ.length=ys.length:=hi.length;rw[List.findIdx?_eq_some_iff_getElem]at e;obtain⟨h1,h2,C⟩:=e;have i:j<AQ.length:=by omega
 refine call_meets F.slot_list_index ⟨_,g,rfl⟩ F.entry_list_index (F.args_list_index_2 _ _) (SeqAt.list_indexAt a AQ.toArray n o sl (.int k t) (isInt k) j (by simpa using i) () ?_ ?_) ⟨g,λy b=>(eq_isInt k t hi y (by simpa using b)).at _ _,⟨.int j,H,I.tok _,⟨_,rfl⟩,q⟩⟩
 ·have:=qZ k hi j i h1;rw[h2]at this;simpa using this
 ·intro m w l;have E:m<AQ.length:=by simpa using w
  have:=qZ k hi m E ();have f:=C m l;simp only[Bool.not_eq_true]at f;rw[f]at this;simpa using this
def tK:Bx->Bx->Y Bx
 |b,.z (.int k)=>(jG b).bind λds=>(uw ds).bind λys=>if ys.length<=100000 then(ys.findIdx? (·==k)).bind λj=>U (.z (.int j))else Z
 |_,_=>Z
theorem Qh(i:QV X o fo)(w:QV X e fe)(n:attributeBase o "index" X.env (eval o X.env)=eval o X.env:=by rfl)(m:((AD cpos (A9 [e] X.env)).all (λx=>!x.1)&&(backToKw cpos (keywordEach [] X.env)).all (λx=>x.1.isSome)&&decide (([e]:O Expr).length+([]:O AC).length+(if([]:O AC).isEmpty then 0 else 1)<30))=true:=by rfl)(u:(apos.endLine==cpos.line)=true:=by rfl)(hs:A9 [e] X.env=(false,eval e X.env)::A9 [] X.env:=by rfl):QV X (.Call (.Attribute o "index" apos) [e] [] cpos) (b2 tK fo fe):=
 ⟨Ih (Iz (T :="list") F.plainAttrs_list F.slot_list_index F.type_list_index Qg i.run (iG w.run pH hs) n m u hs S) λσ H Q q=>by
  obtain⟨H0,ρ,c,E,e,q⟩:=q;obtain⟨a,ea,e⟩:=AT e;obtain⟨b,eb,e⟩:=AT e;unfold tK at e;split at e
  ·rename_i k;obtain⟨ds,h,e⟩:=AT e;obtain⟨ys,s,e⟩:=AT e;split at e
   ·rename_i t;obtain⟨j,y,e⟩:=AT e;cases e;refine⟨H0,ρ,_,E,ea,λv H1 f B l=>?_⟩;obtain⟨p,vs,rfl,sq,z⟩:=l.xW h;refine⟨.inl ⟨rfl,vs,sq⟩,H0,ρ,_,E.grow f,eb,λC H2 d A g=>?_⟩;simp only[aQ,AW]at g;subst g;exact⟨p,vs,ds,ys,k,j,rfl,rfl,gn sq d,z.kp (.of d),s,t,y,q _ _ (f.trans d) trivial (by simp only[aQ,AW])⟩
   ·cases e
  ·cases e⟩
end
def lQ(b:AJ->AJ->Bool):AJ->AZ->AJ
 |y,[]=>y
 |y,z::r=>if b z y=true then lQ b z r else lQ b y r
theorem vH(b:AJ->AJ->Bool)(z:AJ):∀(l:AZ) (y:AJ),lQ b y (l++[z])=if b z (lQ b y l)=true then z else lQ b y l
 |[],y=>rfl
 |x::l,y=>by
  simp only[k6,lQ];split
  ·exact vH b z l x
  ·exact vH b z l y
theorem tL(b:AJ->AJ->Bool):∀(l:AZ) (y:AJ),lQ b y l∈y::l
 |[],y=>ze
 |x::l,y=>by
  simp only[lQ];split
  ·exact zg _ (tL b l x)
  ·rcases List.mem_cons.mp (tL b l y)with h|h
   ·rw[h];exact ze
   ·exact zg _ (zg _ h)
theorem BR(b:AJ->AJ->Bool)(y:AJ)(r:AZ):∀j,j<=r.length->(y::r).getD (argBest (λi j=>b ((y::r).getD i "") ((y::r).getD j "")) j) ""=lQ b y (r.take j)
 |0,_=>rfl
 |j+1,h=>by
  have a:=BR b y r j ();have e:(y::r).getD (j+1) ""=r[j]:=by simp[show j<r.length by omega]
  rw[ko (),vH,argBest];rw[a,e];split
  ·rw[e]
  ·rw[a]
def JT:O Bx->Y Bx
 |[b]=>(jG b).bind λds=>(oH ds).bind fun
  |y::r=>U (.z (.str (lQ (λx z=>decide (x.cps.toList<z.cps.toList)) y r)))
  |[]=>Z
 |_=>Z
theorem WD(p:X.calm=true):oA X (.builtin "min") JT:=by
 intro AN s σ H xs us Q I C h;obtain⟨bs,c,B,e,q⟩:=h;unfold JT at e;split at e
 ·obtain⟨ds,m,e⟩:=AT e;obtain⟨ys,E,e⟩:=AT e;cases ys with
  |nil=>cases e
  |cons y r=>
   cases e;obtain⟨v,rfl,w⟩:=BM B;obtain⟨a,vs,rfl,sq,G⟩:=w.xW m;obtain⟨u,rfl,F⟩:=BB C;cases F;obtain⟨AQ,g,pl,L⟩:=I.list sq;obtain⟨rfl,K⟩:=kO G E;have hi:=jj g;have j:a<s.heap.objs.size:=by obtain⟨o,n,e,_⟩:=pl;exact zt e
   have M:AQ.length=r.length+1:=by rw[<-g.length];simp
   have l:∀(i:Nat) (v:A0),AQ.toArray[i]?=U v->∃t,v=.str ((y::r).getD i "") t:=λi v d=>by
    rw[QQ]at d;obtain⟨z,t,e1,e2⟩:=q8 hi i v d;exact⟨t,by rw[e2,QP,e1];rfl⟩
   refine call_min_walk (jS pl.isList ?_);refine⟨s.heap.objs.size,_,_,_,_,_,_,rfl,Walks.list (by show X.A.handled=Z;exact I.ok.hd p) s.heap.objs.size a (z4 j) AQ.toArray,⟨⟨_,zw _ rfl,rfl,rfl⟩,pl.isList.push _⟩,?_,by rw[zi];omega,Zw (λi=>(y::r).getD i "") l,λv h' tk J k=>?_⟩
   ·intro b f;have D:(s.heap.push { cls:=.type "list_iterator",data:=.fields #[.ref a,.int 0 0] }).objs.size=s.heap.objs.size+1:=JE ..;simp only[Q4,qv,or_false]at f;show b<(s.heap.push { cls:=.type "list_iterator",data:=.fields #[.ref a,.int 0 0] }).objs.size;rw[D];rcases f with rfl|rfl
    ·exact Nat.lt_succ_self _
    ·exact km j
   ·have keep:∀b o,s.heap.get? b=U o->h'.get? b=U o:=λb o e=>k b o (λf=>Q3 _ (by have:=zt e;rw[af.mp f]at this;exact this)) (zh _ e);obtain⟨t,d⟩:=l _ _ J;have e1:AQ.toArray.size-1=r.length:=by rw[zi];omega
    have e2:=BR (λx z=>decide (x.cps.toList<z.cps.toList)) y r r.length (zl _);rw[bU]at e2;rw[e1]at d;have e3:v=.str (lQ (λx z=>decide (x.cps.toList<z.cps.toList)) y r) t:=d.trans (by rw[<-e2]);exact⟨.str _,H,I.kept (t':=tk) keep,⟨t,e3⟩,q _ H (AV.refl H) trivial ⟨rfl,K _ (tL _ r y)⟩⟩
 ·cases e
def JV:O Bx->Y Bx
 |[b]=>(jG b).bind λds=>(oH ds).bind fun
  |y::r=>U (.z (.str (lQ (λx z=>decide (z.cps.toList<x.cps.toList)) y r)))
  |[]=>Z
 |_=>Z
theorem WK(p:X.calm=true):oA X (.builtin "max") JV:=by
 intro AN s σ H xs us Q I C h;obtain⟨bs,c,B,e,q⟩:=h;unfold JV at e;split at e
 ·obtain⟨ds,m,e⟩:=AT e;obtain⟨ys,E,e⟩:=AT e;cases ys with
  |nil=>cases e
  |cons y r=>
   cases e;obtain⟨v,rfl,w⟩:=BM B;obtain⟨a,vs,rfl,sq,G⟩:=w.xW m;obtain⟨u,rfl,F⟩:=BB C;cases F;obtain⟨AQ,g,pl,L⟩:=I.list sq;obtain⟨rfl,K⟩:=kO G E;have hi:=jj g;have j:a<s.heap.objs.size:=by obtain⟨o,n,e,_⟩:=pl;exact zt e
   have M:AQ.length=r.length+1:=by rw[<-g.length];simp
   have l:∀(i:Nat) (v:A0),AQ.toArray[i]?=U v->∃t,v=.str ((y::r).getD i "") t:=λi v d=>by
    rw[QQ]at d;obtain⟨z,t,e1,e2⟩:=q8 hi i v d;exact⟨t,by rw[e2,QP,e1];rfl⟩
   refine call_max_walk (jS pl.isList ?_);refine⟨s.heap.objs.size,_,_,_,_,_,_,rfl,Walks.list (by show X.A.handled=Z;exact I.ok.hd p) s.heap.objs.size a (z4 j) AQ.toArray,⟨⟨_,zw _ rfl,rfl,rfl⟩,pl.isList.push _⟩,?_,by rw[zi];omega,Ct (λi=>(y::r).getD i "") l,λv h' tk J k=>?_⟩
   ·intro b f;have D:(s.heap.push { cls:=.type "list_iterator",data:=.fields #[.ref a,.int 0 0] }).objs.size=s.heap.objs.size+1:=JE ..;simp only[Q4,qv,or_false]at f;show b<(s.heap.push { cls:=.type "list_iterator",data:=.fields #[.ref a,.int 0 0] }).objs.size;rw[D];rcases f with rfl|rfl
    ·exact Nat.lt_succ_self _
    ·exact km j
   ·have keep:∀b o,s.heap.get? b=U o->h'.get? b=U o:=λb o e=>k b o (λf=>Q3 _ (by have:=zt e;rw[af.mp f]at this;exact this)) (zh _ e);obtain⟨t,d⟩:=l _ _ J;have e1:AQ.toArray.size-1=r.length:=by rw[zi];omega
    have e2:=BR (λx z=>decide (z.cps.toList<x.cps.toList)) y r r.length (zl _);rw[bU]at e2;rw[e1]at d;have e3:v=.str (lQ (λx z=>decide (z.cps.toList<x.cps.toList)) y r) t:=d.trans (by rw[<-e2]);exact⟨.str _,H,I.kept (t':=tk) keep,⟨t,e3⟩,q _ H (AV.refl H) trivial ⟨rfl,K _ (tL _ r y)⟩⟩
 ·cases e
end P1
namespace P1
open L2 S1
def rC(h:A6)(k:O AY)(v:A0):Prop:=∃(a:A1) (o:AE) (x:AJ) (t:Tok) (r:O A0) (n:Nat),v=.ref a/\h.get? a=U o/\o.cls=.type "tuple" ∧ o.data=.seq (Value.str x t::r).toArray n/\k=[.inr x]
theorem rC.keep{h':A6}{k:O AY}(q:rC h k v)(kp:∀c o,h.get? c=U o->h'.get? c=U o):rC h' k v:=by
 obtain⟨a,o,x,t,r,n,e,g,c⟩:=q;exact⟨a,o,x,t,r,n,e,kp _ _ g,c⟩
theorem XM(k l:O AY)(v:A0)(p:rC h k v)(q:rC h l v):k=l:=by
 obtain⟨a,o,x,t,r,n,rfl,g,c,d,rfl⟩:=p;obtain⟨m,o',i,s,j,f,e',e,c',b,rfl⟩:=q;cases e';rw[g]at e;cases e;rw[d]at b;simp at b;rw[b.1.1.1]
theorem Cb{Q:Bool->A2->Prop}(h:Q true s):A7 (A8 prog w) A (eqBool v v) Q E s:=by
 unfold eqBool;refine ZE ?_;rw[zr (by simp)];exact zb (JA (zd h))
theorem Gb(fb:Bool):∀(AQ:O A0) (i:Nat) (R:Y Bool×Unit->A2->Prop),R (Z,eu) s->A7 (A8 prog w) A (forIn ((AQ.zip AQ).zipIdx i) ((Z,eu):Y Bool×Unit) (turn fb)) R E s
 |[],i,R,h=>zd h
 |v::AQ,i,R,h=>by
  rw[QO,bE,ce];refine zb ?_;show A7 _ _ (eqBool v v >>= _) _ _ _;refine zb (Cb ?_);simp only[ky,zv,ZH];exact zd (Gb fb AQ (i+1) R h)
theorem WL{k l:O AY}{Q:Bool->A2->Prop}(p:rC s.heap k u)(q:rC s.heap l v)(hd:u=v\/k≠l)(h:Q (dX k l) s):A7 (A8 prog w) A (keyLt' (tuples' true) u v) Q E s:=by
 by_cases e:u=v
 ·subst e;have:=XM _ _ _ p q;subst this;rw[lH]at h;obtain⟨a,o,x,t,r,n,rfl,g,c,d,rfl⟩:=p;rw[yh];refine zb (listItems_at g d (zb (listItems_at g d ?_)));refine zb (Gb true (Value.str x t::r) 0 _ ?_);refine zd ?_;simpa using h
 ·have m:=hd.resolve_left e;obtain⟨a,o,x,t,r,n,rfl,g,c,d,rfl⟩:=p;obtain⟨F,o',b,f,y,D,rfl,B,c',C,rfl⟩:=q;have hx:(Sum.inr x:AY)≠Sum.inr b:=λz=>m (by rw[z]);rw[yh];refine zb (listItems_at g d (zb (listItems_at B C ?_)));show A7 _ _ (forIn (((Value.str x t::r).zip (Value.str b f::y)).zipIdx 0) ((Z,eu):Y Bool×Unit) (turn true) >>= _) _ _ _;refine zb ?_;rw[QO,bE,ce];refine zb ?_;show A7 _ _ (eqBool (Value.str x t) (Value.str b f) >>= _) _ _ _;have i:dJ (Sum.inr x) (Value.str x t)=true:=by simp[dJ,Value.isStrOf]
  have j:dJ (Sum.inr b) (Value.str b f)=true:=by simp[dJ,Value.isStrOf]
  refine zb (C8 i j ?_);simp only[hx,jn,ki,ZT];refine zb (RZ S i j (zd (zd (zd ?_))));simp only[dX,zI hx]at h;exact h
theorem Ml{k:AY}(q:rC s.heap (k::ks) v):∃u,dJ k u=true/\∀(e:BE) (b:Y A0->A2->Prop),b (U u) s->A7 (A8 prog w) A (firstOfTuple' v) b e s:=by
 obtain⟨a,o,x,t,r,n,rfl,g,c,d,p⟩:=q;cases p;refine⟨.str x t,by simp[dJ,Value.isStrOf],λe b h=>?_⟩;rw[Jz];refine zb (QI (T :="tuple") ⟨o,g,c⟩ ?_);rw[zI ()];exact zb (listItems_at g d (zd h))
theorem Mp{vs:O A0}{Q:SortKind->A2->Prop}(i:AI (rC s.heap) bG vs)(g:∀k∈bG,k≠[])(o:∀k∈bG,∀l∈bG,NQ k l)(h2:1<=vs.length)(h:Q (tuples' true) s):A7 (A8 prog w) A (keyKind' vs.toArray) Q E s:=by
 have step:∀(bG:O (O AY)) (vs:O A0),AI (rC s.heap) bG vs->(∀k∈bG,k≠[])->∃us:O A0,AI (λv u=>∀(c:BE) (a:Y A0->A2->Prop),a (U u) s->A7 (A8 prog w) A (firstOfTuple' v) a c s) vs us/\AI (λ(k:O AY) u=>∃x r,k=x::r/\dJ x u=true) bG us:=by
  intro bG vs i
  induction i with
  |nil=>intro _;exact⟨[],.nil,.nil⟩
  |@cons k v bG vs q t d=>
   intro g;obtain⟨us,p1,p2⟩:=d λk hk=>g k (zg _ hk);cases k with
   |nil=>exact absurd S (g _ (ze ..))
   |cons x r=>
    obtain⟨u,e,B⟩:=Ml (prog:=prog) (w:=w) (A:=A) q;exact⟨u::us,.cons B p1,.cons ⟨x,r,rfl,e⟩ p2⟩
 obtain⟨us,p1,p2⟩:=step bG vs i g;have F:us.length=vs.length:=(Paired.length p1).symm;have z:∀{l:O A0} {ws:O A0},AI (λv u=>∀(c:BE) (a:Y A0->A2->Prop),a (U u) s->A7 (A8 prog w) A (firstOfTuple' v) a c s) l ws->AI (λv u=>∀(c:BE) (a:Y A0->A2->Prop),a u s->A7 (A8 prog w) A (firstOfTuple' v) a c s) l (ws.map U):=λh=>by
  induction h with
  |nil=>exact .nil
  |cons q t d=>exact .cons q d
 rw[keyKind'_eq,kR,map_eq_pure_bind];refine zb (zb (zZ vs (us.map U) _ (z p1) (zd ?_)));have y:(us.map U).toArray.all (·.isSome)=true:=by simp
 rw[zr y];refine zb (JA ?_);have D:(us.map U).toArray.filterMap id=us.toArray:=by simp
 rw[D,oneTypeOnly'_eq,kR,map_eq_pure_bind];have ty:∀(bG:O (O AY)) (us:O A0),AI (λ(k:O AY) u=>∃x r,k=x::r/\dJ x u=true) bG us->∃ts:O A0,AI (λu t=>∀(c:BE) (a:BE),a t s->A7 (A8 prog w) A (typeOf u) a c s) us ts/\AI (λ(k:O AY) t=>∃x r,k=x::r/\t=.type (if x.isLeft then "int" else "str")) bG ts:=by
  intro bG us hp
  induction hp with
  |nil=>exact⟨[],.nil,.nil⟩
  |@cons k u bG us q t d=>
   obtain⟨ts,q1,q2⟩:=d;obtain⟨x,r,rfl,hx⟩:=q;exact⟨_::ts,.cons (λc a h=>JB hx c a h) q1,.cons ⟨x,r,rfl,rfl⟩ q2⟩
 obtain⟨ts,q1,q2⟩:=ty bG us p2;refine zb (zb (zb (zZ us ts _ q1 (zd ?_))));have lt:ts.length=vs.length:=by rw[<-Paired.length q1,F]
 cases q2 with
 |nil=>simp at lt;omega
 |@cons H J G j p n=>
  obtain⟨b,r,rfl,rfl⟩:=p;have same:∀t∈j,t=Value.type (if b.isLeft then "int" else "str"):=by
   have C:∀(bG:O (O AY)) (ts:O A0),AI (λ(k:O AY) t=>∃x r,k=x::r/\t=Value.type (if x.isLeft then "int" else "str")) bG ts->(∀k∈bG,NQ (b::r) k)->∀t∈ts,t=Value.type (if b.isLeft then "int" else "str"):=by
    intro bG ts hp
    induction hp with
    |nil=>intro _ t f;cases f
    |@cons k t bG ts q _ d=>
     intro m u e;rcases List.mem_cons.mp e with rfl|e
     ·obtain⟨x,I,rfl,rfl⟩:=q;have:=(m _ (ze ..)).1;cases b<;>cases x<;>first|rfl|cases this
     ·exact d (λk hk=>m k (zg _ hk)) u e
   exact C _ _ n λk hk=>o _ (ze ..) k (zg _ hk)
  have e0:(Value.type (if b.isLeft then "int" else "str")::j).toArray[0]?=U (Value.type (if b.isLeft then "int" else "str")):=by simp
  have e1:((Value.type (if b.isLeft then "int" else "str")::j).toArray.all λx=>x==Value.type (if b.isLeft then "int" else "str"))=true:=by
   simp only[dS,qA];intro t f;rcases List.mem_cons.mp f with rfl|f
   ·simp
   ·rw[same t f];simp
  rw[e0];simp only[e1,ZT];refine zd (zd ?_);have e2:((U (Value.type (if b.isLeft then "int" else "str"))).any λx=>x !=Value.type "tuple")=true:=by
   cases b with
   |inl _=>exact(by decide:((U (Value.type "int")).any λx=>x !=Value.type "tuple")=true)
   |inr _=>exact(by decide:((U (Value.type "str")).any λx=>x !=Value.type "tuple")=true)
  rw[e2];exact h
def fZ:Dt->O AY
 |.tup (.str x::_)=>[.inr x]
 |_=>[]
def BO(d:Dt):Bool:=!(fZ d).isEmpty
def C4(ds:O Dt)(k:O AY):Dt:=(ds.find? λd=>decide (fZ d=k)).getD .non
theorem yt:∀{ds:O Dt},(ds.map fZ).Nodup->∀d∈ds,C4 ds (fZ d)=d
 |[],_,_,h=>by cases h
 |a::ds,hn,d,h=>by
  rw[zo,ag]at hn;unfold C4;rw[JU];by_cases e:fZ a=fZ d
  ·rcases List.mem_cons.mp h with rfl|h
   ·rw[qS e];rfl
   ·exact absurd (show fZ d∈ds.map fZ from ZU h) (by rw[<-e];exact hn.1)
  ·rw[Zp e];rcases List.mem_cons.mp h with rfl|h
   ·exact absurd S e
   ·exact yt hn.2 d h
def BW:O Bx->Y Bx
 |[b]=>(Ay b).bind λds=>if ds.length<64/\ds.all BO=true/\(ds.map fZ).Nodup then U (.o ((nJ (ds.map fZ)).map (C4 ds)))else Z
 |_=>Z
theorem Oe(I:L2.AU X AN σ H s)(hd:BO d=true){v:V}(h:AW X.K H d v)(r:As v u):rC s.heap (fZ d) u:=by
 unfold BO at hd;unfold fZ at hd ⊢;split at hd
 ·rename_i x ds;simp only[AW]at h;obtain⟨a,ws,rfl,sq,e⟩:=h;obtain⟨AQ,b,⟨o,g,c,n,d⟩,_⟩:=I.tuple sq;simp only[aF]at e;obtain⟨i,f,rfl,h1,_⟩:=e;simp only[AW]at h1;obtain⟨rfl,_⟩:=h1;cases r;cases b with
  |cons q1 b=>
   obtain⟨t,rfl⟩:=q1;exact⟨a,o,x,t,_,n,rfl,g,c,d,rfl⟩
 ·cases hd
theorem JW{AN:O (A1×AE)}{σ:L2.St}{H:Hp}{s:A2}(I:L2.AU X AN σ H s):∀{ds:O Dt} {vs:O V} {AQ:O A0},(∀d∈ds,BO d=true)->aF X.K H ds vs->AX vs AQ->AI (rC s.heap) (ds.map fZ) AQ/\∀u∈AQ,∃v d,d∈ds/\As v u/\AW X.K H d v
 |[],_,_,_,h,r=>by
  simp only[aF]at h;subst h;cases r;exact⟨.nil,λu h=>by cases h⟩
 |d::ds,_,_,hk,h,r=>by
  simp only[aF]at h;obtain⟨v,vs,rfl,h1,h2⟩:=h;cases r with
  |cons b f=>
   obtain⟨i1,i2⟩:=JW I (λz e=>hk z (zg _ e)) h2 f;refine⟨.cons (Oe I (hk d (ze ..)) h1 b) i1,λu a=>?_⟩;rcases List.mem_cons.mp a with rfl|a
   ·exact⟨v,d,ze ..,b,h1⟩
   ·obtain⟨c,g,m,x,y⟩:=i2 u a;exact⟨c,g,zg _ m,x,y⟩
theorem yu{T:O AY->A0->Prop}:∀{bG:O (O AY)} {vs:O A0},AI T bG vs->∀v∈vs,∃i:Nat,vs[i]?=U v/\∃k,bG[i]?=U k/\T k v
 |_,_,.nil,v,h=>by cases h
 |_,_,.cons q t,v,h=>by
  rcases List.mem_cons.mp h with rfl|h
  ·exact⟨0,rfl,_,rfl,q⟩
  ·obtain⟨i,e,k,e',a⟩:=yu t v h;exact⟨i+1,by simpa using e,k,by simpa using e',a⟩
theorem WM{vs:O A0}(a:AI (rC h) bG vs)(b:bG.Nodup){k l:O AY}(c:u∈vs)(f:v∈vs)(p:rC h k u)(q:rC h l v):u=v\/k≠l:=by
 by_cases e:k=l
 ·left;subst e;obtain⟨i,e1,g,e2,q1⟩:=yu a u c;obtain⟨j,e3,m,d,q2⟩:=yu a v f;have a1:=XM _ _ _ q1 p;have a2:=XM _ _ _ q2 q;subst a1;subst a2;obtain⟨h1,g1⟩:=ad.mp e2;obtain⟨h2,g2⟩:=ad.mp d;have:i=j:=(bv b).mp (g1.trans g2.symm);subst this;rw[e1]at e3;exact QA e3
 ·exact .inr e
theorem Tp:oA X (.builtin "sorted") BW:=by
 intro AN s σ H xs us Q I rx h;obtain⟨bs,c,rb,e,q⟩:=h;unfold BW at e;split at e
 ·rename_i b;obtain⟨ds,ed,e⟩:=AT e;split at e
  ·rename_i hs;cases e;obtain⟨a1,B,M⟩:=hs;obtain⟨v,rfl,r1⟩:=BM rb;obtain⟨p,vs,rfl,sq,G⟩:=NT r1 ed;obtain⟨u,rfl,ru⟩:=BB rx;cases ru;have W:∃(AQ:O A0) (o:AE) (T:String) (n:Nat),AX vs AQ/\s.heap.get? p=U o/\o.cls=.type T/\(T ="list" ∨ T ="tuple")/\o.data=.seq AQ.toArray n/\vs.length<=AA:=by
    rcases sq with sq|sq
    ·obtain⟨AQ,f,pl,t⟩:=I.list sq;obtain⟨o,g,c,n,d⟩:=pl.isList;exact⟨AQ,o,_,n,f,g,c,.inl rfl,d,t⟩
    ·obtain⟨AQ,f,⟨o,g,c,n,d⟩,t⟩:=I.tuple sq;exact⟨AQ,o,_,n,f,g,c,.inr rfl,d,t⟩
   obtain⟨AQ,o,T,n,f,g,hc,hT,hd,t⟩:=W;have a2:AQ.length=ds.length:=by rw[<-f.length,G.length]
   obtain⟨tv,bk⟩:=JW I (List.all_eq_true.mp B) G f;have kp:∀{h':A6},(∀c o,s.heap.get? c=U o->h'.get? c=U o)->AI (rC h') (ds.map fZ) AQ:=λk=>Paired.imp' (λ_ _ z=>rC.keep z k) tv;have A:∀k∈ds.map fZ,∃x,k=[Sum.inr x]:=λk hk=>by
    obtain⟨d,hd,rfl⟩:=ae.mp hk;have:=List.all_eq_true.mp B d hd;unfold BO fZ at this;unfold fZ;split at this
    ·exact⟨_,rfl⟩
    ·cases this
   refine Fp (kd:=tuples' true) (rk:=λv=>C5 (ds.map fZ) (BC (ds.map fZ) AQ v)) (vs:=AQ) (λE' Q' i=>Bb g hc hT hd (by rw[<-f.length];exact t) i)
    (λh2 E' A' s' k Q' i=>Mp (kp k) (λk hk=>by obtain⟨x,rfl⟩:=A k hk;exact ef _ _) (λk hk l w=>by obtain⟨x,rfl⟩:=A k hk;obtain⟨y,rfl⟩:=A l w;exact⟨rfl,trivial⟩) () i)
    (λA' s' k=>?_) () λl h' tk m st hp up w ext hL=>?_
   ·intro E p q Q hp i h;rw[pairsOf_toList]at hp i;obtain⟨m1,t1⟩:=jm XM (kp k) p.1 (mem_zip_self hp).2;obtain⟨m2,t2⟩:=jm XM (kp k) q.1 (mem_zip_self i).2;rw[zY m1]at h;exact WL t1 t2 (WM (kp k) M (mem_zip_self hp).2 (mem_zip_self i).2 t1 t2) h
   ·obtain⟨o1,o2⟩:=G' XM tv hp up;have a0:∀j:O A0,(∀u∈j,u∈AQ)->∃zs,AX zs j/\aF X.K H ((j.map (BC (ds.map fZ) AQ)).map (C4 ds)) zs:=by
     intro j
     induction j with
     |nil=>intro _;exact⟨[],.nil,aF.nil⟩
     |cons u j ih=>
      intro D;obtain⟨zs,z1,z2⟩:=ih λx hx=>D x (zg _ hx);have F:=D u (ze ..);obtain⟨v,d,L,J,C⟩:=bk u F;have t1:=(jm XM tv u F).2;have t2:=Oe I (List.all_eq_true.mp B d L) C J;have ek:=XM _ _ _ t1 t2;refine⟨v::zs,.cons J z1,?_⟩;rw[zo,zo,ek,yt M d L];exact aF.cons C z2
    obtain⟨zs,z1,z2⟩:=a0 _ o2;rw[o1]at z2;have P:H l=Z:=I.hok.fresh w;have N:AV H (B8 H l (.lst zs)):=bA P;have lz:zs.length<=AA:=by
     rw[z2.length,zk,(qY _).length_eq,zk];have:(64:Nat)<=AA:=by decide
     omega
    exact⟨.ref l,_,I.laid (t':=tk) (o:=.lst zs) ext w ⟨lz,_,m,z1,hL⟩,rfl,q _ _ N (λa z=>by cases z;exact P) ⟨l,zs,rfl,aU,z2.kp (.of N)⟩⟩
  ·cases e
 ·cases e
end P1
namespace P1
open L2 S1 S6
section
variable{e:α->Dt}{e':β->Dt}
theorem tM:∀xs:AZ,oH (xs.map eS)=U xs
 |[]=>rfl
 |x::xs=>by rw[zo,oH,tM xs,Au]
def dO(b:α->α->Bool):α->O α->α
 |y,[]=>y
 |y,z::r=>if b z y=true then dO b z r else dO b y r
def BD[Inhabited α](b:α->α->Bool):O α->α
 |[]=>default
 |y::r=>dO b y r
theorem Ab(b:AJ->AJ->Bool):∀(r:AZ) (y:AJ),lQ b y r=dO b y r
 |[],_=>rfl
 |z::r,y=>by
  simp only[lQ,dO];rw[Ab b r z,Ab b r y]
def C'(x z:AJ):Bool:=decide (x.cps.toList<z.cps.toList)
def Cs(x z:AJ):Bool:=decide (z.cps.toList<x.cps.toList)
def GU[Inhabited AJ](a:RL fa ρ eS):R (bW JT (ak fa aG)) ρ (zE eS):=⟨BD C' a.v,bB a.D (U (a.v≠[])),λh=>by
 obtain⟨h1,h2⟩:=aB h;cases e:a.v with
 |nil=>exact absurd e h2
 |cons y r=>
  have b:=a.lk;rw[e]at b;simp only[bW,ak,aG,a.ok h1,Au,JT,b,tM,Ab];rfl⟩
def KI[Inhabited AJ](a:RL fa ρ eS):R (bW JV (ak fa aG)) ρ (zE eS):=⟨BD Cs a.v,bB a.D (U (a.v≠[])),λh=>by
 obtain⟨h1,h2⟩:=aB h;cases e:a.v with
 |nil=>exact absurd e h2
 |cons y r=>
  have b:=a.lk;rw[e]at b;simp only[bW,ak,aG,a.ok h1,Au,JV,b,tM,Ab];rfl⟩
def JX(b:RL fb ρ eS)(a:R fa ρ (zE eS)):R (b2 tH fb fa) ρ (zE eI):=⟨(b.v.count a.v:Nat),bB b.D a.D,λh=>by
 obtain⟨h1,h2⟩:=aB h;simp only[b2,b.ok h1,a.ok h2,Au,tH,b.lk,tM]⟩
def Tq(b:RL fb ρ eI)(a:R fa ρ (zE eI)):R (b2 tK fb fa) ρ (zE eI):=⟨(b.v.findIdx (·==a.v):Nat),bB (bB b.D a.D) (U (a.v∈b.v/\b.v.length<=100000)),λh=>by
 obtain⟨h,c,e⟩:=aB h;obtain⟨h1,h2⟩:=aB h;have d:b.v.findIdx? (·==a.v)=U (b.v.findIdx (·==a.v)):=by
  rw[List.findIdx?_eq_some_of_exists ⟨a.v,c,by simp⟩]
 simp only[b2,b.ok h1,a.ok h2,Au,tK,b.lk,yq,zr e,d]⟩
theorem Gd{qL:Dt->Bool}{fk:Dt->Y Bx}{g:α->β}(a:∀y,qL (e' y)=true):∀{xs:O α},(∀x∈xs,fk (e x)=U (.z (e' (g x))))->BG qL fk (xs.map e)=U (xs.map λx=>(e x,e' (g x)))
 |[],_=>rfl
 |x::xs,h=>by
  rw[zo,BG,h x (ze ..)];simp only[a,ZT];rw[Gd a λz b=>h z (zg _ b),Au];rfl
theorem yw(bt:Dt->Dt->Bool)(g:α->β):∀(xs:O α) (y:α),rA bt (e y) (e' (g y)) (xs.map λx=>(e x,e' (g x)))=e (dO (λx z=>bt (e' (g x)) (e' (g z))) y xs)
 |[],_=>rfl
 |x::xs,y=>by
  simp only[zo,rA,dO];rw[yw bt g xs x,yw bt g xs y];split<;>rfl
def XQ[Inhabited α](c:∀y,qL (e' y)=true)(a:RL fe ρ e)(k:∀x:α,R fb (U (.z (e x))::iz is ρ) (zE e')):R (JQ bt qL fe fb is) ρ (zE e):=
 ⟨BD (λx z=>bt (e' (k x).v) (e' (k z).v)) a.v,bB a.D (U (a.v≠[]/\∀x∈a.v,B5 (k x).D)),λh=>by
 obtain⟨h1,h2,b⟩:=aB h;have hk:=Gd (e:=e) (e':=e') (fk:=λd=>fb (U (.z d)::iz is ρ)) (g:=λx=>(k x).v) c λx hx=>(k x).ok (b x hx);unfold JQ;rw[a.ok h1,Au,a.lk,Au,hk,Au];cases ea:a.v with
 |nil=>exact absurd ea h2
 |cons y r=>
  simp only[zo];rw[yw bt (λx=>(k x).v) r y];rfl⟩
theorem Mq(h:jG b=U ds):Ay b=U ds:=by
 cases b with
 |z d=>cases d<;>first|(cases h;done)|(cases h;rfl)
 |l _=>cases h;rfl
 |o _=>cases h;rfl
 |n _=>cases h
 |m _ _=>cases h
def hk(q:AJ×β):O AY:=[.inr q.1]
def mO(xs:O (AJ×β)):O (AJ×β):=xs.mergeSort λa b=>nH (hk a) (hk b)
theorem vI(xs:O (AJ×β)):(mO xs).Perm xs:=kF ..
theorem BX(xs:O (AJ×β)):(mO xs).Pairwise (λa b=>nH (hk a) (hk b)=true):=kf (le:=λa b=>nH (hk a) (hk b)) (λa b c=>pP (hk a) (hk b) (hk c)) (λa b=>vD (hk a) (hk b)) xs
theorem Ge(xs:O (AJ×β)):(xs.map (n8 eS e')).map fZ=xs.map hk:=by
 rw[JI];exact ZY λa _=>S
theorem JZ:∀{xs:O (AJ×β)},(xs.map (·.1)).Nodup->(xs.map hk).Nodup
 |[],_=>cx
 |x::xs,h=>by
  rw[zo,ag]at h ⊢;refine⟨λa=>h.1 ?_,JZ h.2⟩;obtain⟨y,b,e⟩:=ae.mp a;have e2:y.1=x.1:=by
   unfold hk at e;simpa using e
  rw[<-e2];exact ZU b
def WQ(a:RL fa ρ (n8 eS e')):R (bW BW (ak fa aG)) ρ (oE (n8 eS e')):=⟨mO a.v,bB a.D (U (a.v.length<64/\(a.v.map (·.1)).Nodup)),λh=>by
 obtain⟨h,h2,c⟩:=aB h;have b:((a.v.map (n8 eS e')).map fZ).Nodup:=by rw[Ge];exact JZ c
 have m:nJ (a.v.map hk)=(mO a.v).map hk:=(tu ((vI a.v).map _) (az.mpr (BX a.v))).symm;have g:(a.v.map (n8 eS e')).all BO=true:=by
  rw[qA];intro d hd;obtain⟨q,_,rfl⟩:=ae.mp hd;rfl
 have e:((mO a.v).map hk).map (C4 (a.v.map (n8 eS e')))=(mO a.v).map (n8 eS e'):=by
  rw[JI];refine ZY λq f=>?_;exact yt b (n8 eS e' q) (ZU ((vI a.v).mem_iff.mp f))
 simp only[bW,ak,aG,a.ok h,Au,BW,Mq a.lk];rw[zr ⟨by rw[zk];exact h2,g,b⟩,Ge,m,e]⟩
end
end P1
namespace P1
open L2
section
variable [Inhabited α] {e:α->Dt}{k:Ev->Y An}{cO:γ->An}
theorem uy{β:Type}(g:α->β):∀(xs:O α) (m:Nat),(xs.map g).eraseIdx m=(xs.eraseIdx m).map g
 |[],_=>by simp
 |x::xs,0=>by simp
 |x::xs,m+1=>by simp[uy g xs m]
def KW(j i:Nat)(xs:O α)(hi:ρ[i]?=U (U (.o (xs.map e))))(a:R f ρ (zE eI))(K:∀(ys:O α) (y:α),R k ((ρ.set i (U (.o (ys.map e)))).set j (U (zE e y))) cO):R (aD (R7 j i f) k) ρ cO:=
 ⟨(K (xs.eraseIdx a.v.toNat) (Ap xs a.v)).v,bB (bB a.D (U (0<=a.v/\a.v<xs.length/\xs.length<=100000))) (K (xs.eraseIdx a.v.toNat) (Ap xs a.v)).D,λhd=>by
 obtain⟨h1,c⟩:=aB hd;obtain⟨h1,h2⟩:=aB h1;obtain⟨g,d,h⟩:0<=a.v/\a.v<xs.length/\xs.length<=100000:=h2;rw[lM (ρ':=(ρ.set i (U (.o ((xs.eraseIdx a.v.toNat).map e)))).set j (U (zE e (Ap xs a.v)))) (by
  unfold R7;rw[a.ok h1,Au];show(match (Bx.z (Dt.int a.v))with|.z (.int k)=>_|_=>Z)=_;dsimp only;rw[hi];dsimp only;have b:a.v.toNat<xs.length:=by omega
  have e0:a.v=((a.v.toNat:Nat):Int):=by omega
  have e1:Ap xs a.v=xs[a.v.toNat]:=by
   conv=>lhs;rw[e0]
   exact BJ (xs:=xs) (k:=a.v.toNat) (by simp[b])
  rw[zr ⟨by omega,by omega⟩];have e2:seqIndex? a.v (xs.map e).length=U a.v.toNat:=PySem.seqIndex_of g (by simpa using d);rw[e2,Au,Zl,Z3 b,kC,Au,e1,uy];rfl)]
 exact(K (xs.eraseIdx a.v.toNat) (Ap xs a.v)).ok c⟩
end
theorem XR{f c:A1}(F:Ur K x qual st f fd)(d:fd.code=.ref c)(S:bw N ps (aH st))(t:N.length=n)(p:ps.length=m)(C:∀(A:A5) (outer:O Env) (s:A2) (H:Hp) (E:XK),iD k (A.deeper (AK qual (aH st) s.heap.objs.size f (.ref c)))->KR (Ai Gz P w K mg base N qual (aH st) f (.ref c) A outer s H E).Uq (fJ st) g):
  qO P w K mg base Gz (k+1) f fd ps (Qy K m (cQ n g)):=by
 subst t p;obtain⟨G,D,kV,I,pm,J,l,ct,osl,rfl,y,u⟩:=F.ex;have d:l=.ref c:=d;subst d;refine Xd y u S (λvs H Q E h=>h.1) λA outer s H vs Q E z h=>?_;refine⟨_,KZ.Uq (C A outer s H E z).run,?_⟩;obtain⟨L,bs,r,o,j,e,q⟩:=h;obtain⟨a,er,e⟩:=AT e;refine⟨H,_,a,bh.start o j,er,?_⟩;cases a with
 |rt b=>cases e;exact λv H' s' i a=>q v H' s' i a
 |nx ρ=>cases e;exact λσ H' B=>q _ H' B.base trivial (by unfold aQ AW;rfl)
 |bk ρ=>cases e
 |ct ρ=>cases e
section
variable{f:A1}{p:Pos}{fs:Ev->Y (O Bx)}
theorem Tr(G:qO X.prog X.w X.K X.mg X.base Gz k f fd ps (Qy X.K n F))(W:iD k X.A)(C:X.N[i]?=U x)(D:KY X.env.scope x)(hk:keepIn X.K (.ref f)=true)(J:BH X.K fd ps [])
  (B:DD X (e::es) fs) (g:ej x:=by decide) (a1:(x==("__classdict__":AJ))=false:=by decide) (he:A9 (e::es) X.env=(false,eval e X.env)::A9 es X.env:=by rfl) (a0:(AD pos (A9 es X.env)).any (·.1)=false:=by rfl):
  PE X (.Call (.Name x p) (e::es) [] pos) (λσ H Q=>σ[i]?=U (U (.ref f))/\tF X.K (bN n F fs) σ H Q):=by
 intro AN s σ H Q I h;obtain⟨h1,H0,ρ,r,E,b,q⟩:=h;obtain⟨bs,eb,b⟩:=AT b;split at b
 ·rename_i M;obtain⟨m,a2,hl⟩:=id I.loc;obtain⟨u,P,l⟩:=hl i x _ C h1 D;cases P;have go:A7 (en X) X.A (callWith pos (.ref f) [] (AD pos (A9 (e::es) X.env)) (backToKw pos (keywordEach [] X.env))) (EP X AN σ Q) X.xe s:=by
   refine callWith_K (h₀:=X.base) I.ok.mod.kin hk (jA (B pos AN s σ H (λvs H1=>AV H H1/\uh X.K H1 bs vs) I ⟨H0,ρ,bs,E,eb,λvs H1 j d=>⟨j,d⟩⟩) λus j ⟨vs,H1,I1,rv,RN,d⟩=>⟨I1.Uo,?_⟩) he a0;refine QT G W J .nil Xf I1 rv ?_;rw[JY];exact⟨by rw[<-Paired.length d];exact M,_,r,Aw d,G4 bs,b,λv H2 y n2 z=>q v H2 (RN.trans y) (n2.old RN) z⟩
  rcases l with⟨a,L⟩|⟨a,c,t,o⟩
  ·exact qB (wpAny_Name (wpAny_loadName_local I.ok.kind a a2 L go) g)
  ·rcases a with a|a
   ·exact qB (wpAny_Name (wpAny_loadName_cell I.ok.kind a t o go) g)
   ·exact qB (wpAny_Name (wpAny_loadName_free I.ok.kind a t o go a1) g)
 ·cases b
end
end P1
namespace P1
open PySem PySem.Spec PySem.Calls PyProof.Rows L2
def Hx(f:A1)(v:A0):Bool:=match v with
 |.ref g=>g==f
 |_=>false
def Tt(K:B4)(a:A1)(D:O (AJ×A1)):Prop:=KTD.tabLook Hx (λb=>K.lookup b) a D=true
theorem J0(f:A1)(v:A0)(h:Hx f v=true):v=.ref f:=by
 unfold Hx at h;split at h
 ·rw[eq_of_beq h]
 ·cases h
theorem Tt.tab(k:Tt K a D)(x:K.In h):KTD.TabOf (λf v=>v=Value.ref f) h a D:=KTD.tab_of_look J0 (λb o q=>x b o q) k
section
variable{k:AJ}{tk:Tok}
theorem WR{f:A1}{Q:Y A0->A2->Prop}(T:KTD.TabOf (λf v=>v=Value.ref f) s.heap a D)(hk:KTD.datumAt k D=U f)(h1:Q (U (.ref f)) { s with toks:=s.toks+1 }):
  A7 (A8 prog w) A (dictGet a (.str k tk)) Q E s:=by
 obtain⟨_,o,es,ep,c,j,hd,d⟩:=T;unfold dictGet
 try with_reducible refine ZE ?_
 refine zb (wpAny_pyHash_str (zb (KTD.kt_dictFind_strs (s:={ s with toks:=s.toks+1 }) c hd (by obtain⟨l⟩:=es;simpa using d.exact) ?_)));have b:Q (findBy (λk v=>v.isStr k) es k) { s with toks:=s.toks+1 }:=by
  have h:findBy (λk v=>v.isStr k) es k=(es.toList.find? λe=>e.key.isStr k).map (·.val):=by
   obtain⟨l⟩:=es;simp[findBy]
  rw[h];obtain⟨v,g,rfl⟩:=d.find_some hk;rw[g];exact h1
 rw[findBy_of_findIdx?]at b;cases hi:es.findIdx? λe=>e.key.isStr k with
 |none=>rw[hi]at b;exact zd b
 |some i=>rw[hi]at b;exact zb (wpAny_dictEntries (s:={ s with toks:=s.toks+1 }) c hd (zd b))
theorem Tv{f:A1}(T:KTD.TabOf (λf v=>v=Value.ref f) s.heap a D)(hk:KTD.datumAt k D=U f)(h:Q (.ref f) { s with toks:=s.toks+1 }):
  A7 (A8 prog w) A (getItem (.ref a) (.str k tk)) Q E s:=by
 have ty:s.TypeIs (.ref a) "dict":=let ⟨_,o,_,_,ho,hc,_⟩:=T;⟨o,ho,hc.1⟩;unfold getItem
 try with_reducible refine ZE ?_
 refine zb (kQ ty () ?_);refine zb (ke (name:=Str.ofString "__getitem__") ty slot_dict_getitem
  (JJ slot_dict_getitem ty entry_dict_getitem ?_ (args_dict_getitem _ _)))
 show A7 _ _ (dictGet a (.str k tk) >>= _) _ _ s;exact zb (WR T hk (zd ⟨_,rfl,zd h⟩))
end
def zj(X:Cx):O (AJ×A1)->O (AJ×(O Bx->Y Bx))->Prop
 |[],[]=>True
 |(x,f)::D,(y,F)::T=>(x=y/\∃k fd ps,qO X.prog X.w X.K X.mg X.base Gz k f fd ps (Qy X.K 1 F)/\iD k X.A/\keepIn X.K (.ref f)=true/\BH X.K fd ps [])/\zj X D T
 |_,_=>False
theorem G2:zj X [] []:=trivial
theorem tO{f:A1}{T:O (AJ×(O Bx->Y Bx))}(G:qO X.prog X.w X.K X.mg X.base Gz k f fd ps (Qy X.K 1 F))(b:iD k X.A)(hk:keepIn X.K (.ref f)=true)(a:BH X.K fd ps [])(r:zj X D T):zj X ((x,f)::D) ((x,F)::T):=⟨⟨rfl,k,fd,ps,G,b,hk,a⟩,r⟩
theorem zj.get{h:AJ}{F:O Bx->Y Bx}:∀{D:O (AJ×A1)} {T:O (AJ×(O Bx->Y Bx))},zj X D T->T.lookup h=U F->∃f k fd ps,KTD.datumAt h D=U f/\qO X.prog X.w X.K X.mg X.base Gz k f fd ps (Qy X.K 1 F)/\iD k X.A/\keepIn X.K (.ref f)=true/\BH X.K fd ps []
 |[],[],_,e=>by cases e
 |(x,f)::D,(y,G)::T,r,e=>by
  obtain⟨⟨rfl,k,fd,ps,a,b,c,d⟩,r⟩:=r;rw[JO]at e;unfold KTD.datumAt;by_cases hx:h=x
  ·subst hx;rw[beq_self_eq_true]at e;cases e;exact⟨f,k,fd,ps,by simp,a,b,c,d⟩
  ·rw[beq_eq_false_iff_ne.mpr hx]at e;obtain⟨l,g,i,j,q,z⟩:=zj.get r e;exact⟨l,g,i,j,by simp[hx,q],z⟩
 |[],_::_,r,_=>r.elim
 |_::_,[],r,_=>r.elim
def Qi(i j:Nat)(tab:O (AJ×(O Bx->Y Bx)))(fh fa:Ev->Y Bx):Ev->Y An:=λρ=>if i<ρ.length then(fh ρ).bind λb=>match b with
 |.z (.str h)=>(tab.lookup h).bind λF=>(bN 1 F (ak fa aG) (ρ.set i Z)).bind λr=>(Jd (ρ.set i Z) j r).bind λa=>U (.nx a)
 |_=>Z
 else Z
theorem bh.ad7{H1:Hp}{v:V}(E:bh K H0 H σ ρ)(s:AV H H1):bh K H0 H1 (σ.set i (U v)) (ρ.set i Z):=by
 have g:=E.grow s;have d:∀{j:Nat} {b:Bx},(ρ.set i Z)[j]?=U (U b)->j≠i/\ρ[j]?=U (U b):=λ{j b} e=>by
  rw[kn]at e;split at e
  ·split at e<;>cases e
  ·rename_i h;exact⟨λz=>h z.symm,e⟩
 have f:∀{j:Nat},j≠i->(σ.set i (U v))[j]?=σ[j]?:=λ{j} h=>aI (λz=>h z.symm);refine⟨by simp[E.len],λj b e=>?_,λj m c a b e k ea eb n l=>?_,g.base,λj c a e k ea=>?_⟩
 ·obtain⟨h,e⟩:=d e;rw[f h];exact g.val j b e
 ·obtain⟨h,e⟩:=d e;obtain⟨h',eb⟩:=d eb;rw[f h]at ea;rw[f h']at l;exact g.own j m c a b e k ea eb n l
 ·obtain⟨h,e⟩:=d e;rw[f h]at ea;exact g.new j c a e k ea
section
variable{tab:O (AJ×(O Bx->Y Bx))}{dn:AJ}{ek:Expr}{p0 p1 p3 q0 q1 q2 q3:Pos}{AS:O AB}{fh:Ev->Y Bx}
theorem L9(c:Gl X dn)(b:X.mg dn=U (.ref a))(d:Tt X.K a D)(g:PV X ek fh)(e:ej dn:=by decide)(hs:YZ ek:=by intro _ _;rfl):
  PE X (.Subscript (.Name dn p1) ek p2) (λσ H Q=>tF X.K fh σ H λv H1=>∃h f,v=.str h/\KTD.datumAt h D=U f/\Q (.ref f) H1):=by
 intro AN s σ H Q I h;refine Vj PySem.F.slot_dict_getitem.lookup hs (Nk I c b (jA (g AN s σ H _ I h) λiv s2 ⟨v,H2,I2,rv,k,f,ev,hk,q⟩=>?_) e);subst ev;obtain⟨t,rfl⟩:=rv;have T:=d.tab I2.Uo;exact⟨let ⟨_,o,_,_,ho,hc,_⟩:=T;⟨o,ho,hc.1⟩,Tv T hk ⟨.ref f,H2,I2.tok _,rfl,q⟩⟩
theorem IP(i j:Nat)(m:X.N.Nodup)(hg:Gl X dn)(hm:X.mg dn=U (.ref a))(C:Tt X.K a D)(o:zj X D tab)(L:QV X ek fh)(J:QV X e fa)(hr:KR X AS g)
  (hs:YZ ek:=by intro _ _;rfl) (hi:X.N[i]?=U x:=by rfl) (hj:X.N[j]?=U y:=by rfl) (hx:CI X.env.scope x:=by first|exact Qr rfl|exact ZO S) (hy:CI X.env.scope y:=by first|exact Qr rfl|exact ZO S) (M:KY X.env.scope x:=by first|exact Qr rfl|exact ZO (Qr S)|exact ZO (ZO S))
  (a0:X.fn x=true\/X.env.scope.names.lookup x=U .local:=by first|exact .inl rfl|exact .inr S) (a4:X.fn y=true\/X.env.scope.names.lookup y=U .local:=by first|exact .inl rfl|exact .inr S)
  (a6:ej dn:=by decide) (a1:ej x:=by decide) (a7:(x==("__classdict__":AJ))=false:=by decide)
  (l:swapsWith (.Subscript (.Name dn p1) ek p2) (U (.Name x p0)) p3.line X.env=pure false:=by rfl) (c:swapsWith (.Call (.Name x q1) [e] [] q2) (U (.Name y q0)) q3.line X.env=pure false:=by rfl)
  (u:A9 [e] X.env=(false,eval e X.env)::A9 [] X.env:=by rfl) (a3:(AD q2 (A9 [] X.env)).any (·.1)=false:=by rfl):
  KR X (.Assign [.Name x p0] (.Subscript (.Name dn p1) ek p2) p3::.Assign [.Name y q0] (.Call (.Name x q1) [e] [] q2) q3::AS) (aD (Qi i j tab fh fa) g):=by
 have call:PE X (.Call (.Name x q1) [e] [] q2) (λσ H Q=>∃h f F,KTD.datumAt h D=U f/\tab.lookup h=U F/\σ[i]?=U (U (.ref f))/\tF X.K (bN 1 F (ak fa aG)) σ H Q):=by
  intro AN s σ H Q I h;obtain⟨k,f,F,e1,e2,e3,q⟩:=h;obtain⟨f',n,fd,ps,z,G,r,hk,P⟩:=o.get e2;rw[e1]at z;cases z;exact Tr G r hi M hk P (aj J aA u).run a1 a7 u a3 AN s σ H Q I ⟨e3,q⟩
 refine⟨Vm (Ag (Gr (pos:=p3) (pos':=p0) m hi hx (L9 hg hm C L.run a6 hs) l a0) (Ag (Gr (pos:=q3) (pos':=q0) m hj hy call c a4) hr.run)) λDe σ H h=>?_⟩;obtain⟨H0,ρ,r,E,d,q⟩:=h;obtain⟨r1,e1,d⟩:=AT d;unfold Qi at e1;split at e1;rotate_left
 ·cases e1
 rename_i p;rw[<-E.len]at p;obtain⟨b,eb,e1⟩:=AT e1;split at e1;rotate_left
 ·cases e1
 rename_i k;obtain⟨F,w,e1⟩:=AT e1;obtain⟨A,ec,e1⟩:=AT e1;obtain⟨a2,a5,e1⟩:=AT e1;cases e1;obtain⟨f,n,fd,ps,z,_⟩:=o.get w;refine⟨H0,ρ,_,E,eb,λv H1 l n1 W=>?_⟩;obtain⟨rfl,_⟩:=Pq W;refine⟨k,f,rfl,z,?_⟩;have t:=E.ad7 (i:=i) (v:=.ref f) l;refine⟨k,f,F,z,w,by simp[p],H0,_,A,t,ec,λv2 H2 c n2 B=>?_⟩;exact⟨H0,a2,r,GK t c B n2 a5,d,q⟩
end
end P1
namespace P1
open L2
def rD(o:AE):Y (AJ×A1):=match o.data with
 |.fields vs=>match vs[1]?,vs[11]? with
  |some (Value.str x _),U (Value.ref P)=>if QC.contains x=true then U (x,P)else Z
  |_,_=>Z
 |_=>Z
def TN(K:B4):O (A1×AJ):=K.filterMap λp=>(rD p.2).map λq=>(q.2,q.1)
def Ff(x:AJ):Array A0:=#[.str (x++(".<locals>.<lambda>":AJ)) 0]
def F1(K:B4):O (A1×Array A0):=(TN K).map λp=>(p.1,Ff p.2)
def CL(K:B4)(x:AJ):Y A1:=match nsIn K mainGlobals x with
 |some (U (.ref f))=>match K.lookup f with
  |some a=>match a.data with
   |.func fd=>match fd.code with
    |.ref c=>U c
    |_=>Z
   |_=>Z
  |none=>Z
 |_=>Z
def Ad(p:A3)(K:B4)(c:A1)(x:AJ)(P:A1):Bool:=(recsOf p).any (λd=>d.name==x)&&CL K x==U c&&(K.lookup c).bind rD==U (x,P)&&(K.lookup P).isNone&&(TN K).lookup P==U x
def WT(p:A3)(K:B4):Bool:=K.all λr=>match rD r.2 with
 |none=>true
 |some (x,P)=>Ad p K r.1 x P
theorem vJ{α β γ:Type}[BEq α]{a:α}(f:β->γ):∀l:O (α×β),(l.map λp=>(p.1,f p.2)).lookup a=(l.lookup a).map f
 |[]=>rfl
 |(b,c)::l=>by
  simp only[zo,JO];split
  ·rfl
  ·exact vJ f l
theorem yx{α β:Type}[BEq α][LawfulBEq α]{a:α}{b:β}:∀{l:O (α×β)},l.lookup a=U b->(a,b)∈l
 |[],h=>by cases h
 |(c,d)::l,h=>by
  rw[JO]at h;split at h
  ·rename_i e;cases h;rw[eq_of_beq e];exact ze ..
  ·exact zg _ (yx h)
theorem Qj{o:AE}{P:A1}(h:rD o=U (x,P)):∃vs t,o.data=.fields vs/\vs[1]?=U (.str x t)/\vs[11]?=U (.ref P):=by
 unfold rD at h;cases hd:o.data with
 |fields vs=>
  rw[hd]at h;dsimp only at h;split at h
  ·rename_i y t Q e1 e2;split at h
   ·cases h;exact⟨vs,t,rfl,e1,e2⟩
   ·cases h
  ·cases h
 |_=>rw[hd]at h;cases h
theorem Cc{p:A3}{M:AJ->Y A0}{H:ExcName->Y A0}{W:AZ}(g:WT p K=true)(X:K.In h)(T:Top p W H mg M h):L2.Q8 K h (F1 K):=by
 have n:∀c o x P,(c,o)∈K->rD o=U (x,P)->Ad p K c x P=true:=λc o x P m e=>by
  have:=List.all_eq_true.mp g _ m;simp only[e]at this;exact this
 refine⟨λP q k=>?_,λP ps e=>?_⟩
 ·obtain⟨c,o,vs,x,t,e,d,v,m,f,l⟩:=k;subst l;have er:rD o=U (x,P):=by
   unfold rD;simp only[d,v,f];rw[zr (aE.mpr m)]
  have z:=n c o x P (yx e) er;simp only[Ad,ZA,beq_iff_eq]at z;refine⟨Ff x,?_,rfl,Nat.zero_lt_one⟩;unfold F1;rw[vJ,z.2];rfl
 ·unfold F1 at e;rw[vJ]at e;obtain⟨x,ex,rfl⟩:=cq.mp e;have m:=yx ex;obtain⟨⟨c,o⟩,D,i⟩:=bi.mp m;obtain⟨⟨A,N⟩,i,l⟩:=cq.mp i;obtain⟨q1,q2⟩:=du.inj l;have q1:N=P:=q1;have q2:A=x:=q2;rw[q1,q2]at i;have z:=n c o x P D i;simp only[Ad,ZA,beq_iff_eq,eg,br]at z;obtain⟨⟨⟨⟨⟨d,hd,hx⟩,b⟩,I⟩,E⟩,_⟩:=z;obtain⟨a,o1,fd,c1,y,t1,t2,t3,B,_,j⟩:=T.tab d hd;rw[hx]at t1;obtain⟨o',w,G⟩:=Option.bind_eq_some_iff.mp I;obtain⟨vs,t,C,_,F⟩:=Qj G;have J:c1=c:=by
   unfold CL at b;split at b
   ·rename_i f Q;have:=mg_of X T.g Q;rw[t1]at this;cases this;split at b
    ·rename_i ob u;have:=X _ _ u;rw[t2]at this;cases this;split at b
     ·rename_i a0 s;rw[t3]at s;cases s;rw[B]at b;cases b;rfl
     ·cases b
    ·cases b
   ·cases b
  subst J;have L:y=P:=by
   obtain⟨⟨o2,ws,e1,_,e2,e3⟩,_⟩:=j;rw[X _ _ w]at e1;cases e1;rw[C]at e2;cases e2;rw[F]at e3;cases e3;rfl
  subst L;exact⟨E,j.2,j.isCodeTable,rfl⟩
def WW(K:B4)(fd:FuncData)(q:AJ):Bool:=match fd.code with
 |.ref c=>match K.lookup c with
  |some o=>match o.data with
   |.fields vs=>o.cls==.type "code" && (match vs[11]?,vs[1]?,vs.getD 18 .none,vs.getD 7 .none,vs.getD 9 .none,vs.getD 10 .none with
    |some (Value.ref P),U (Value.str x _),Value.str _ _,Value.int _ _,Value.bool _,Value.int _ _=>!(c==P)&&QC.contains x&&q==x++(".<locals>.<lambda>":AJ)
    |_,_,_,_,_,_=>false)
   |_=>false
  |none=>false
 |_=>false
theorem Og{q:AJ}(h:WW K fd q=true):∃c P,fd.code=.ref c/\JM K c P q:=by
 unfold WW at h;split at h;rotate_left
 ·cases h
 rename_i c g;split at h;rotate_left
 ·cases h
 rename_i o e;split at h;rotate_left
 ·cases h
 rename_i vs hd;rw[ZA]at h;obtain⟨h1,h⟩:=h;split at h;rotate_left
 ·cases h
 rename_i P x t f tf i s b j k a e1 m n u p;simp only[ZA,Q2,beq_eq_false_iff_ne,ne_eq,beq_iff_eq]at h;obtain⟨⟨h2,d⟩,l⟩:=h;exact⟨c,P,g,o,vs,f,tf,i,s,b,j,k,x,t,e,eq_of_beq h1,hd,a,by rw[Array.getD_eq_getD_getElem?,a];rfl,m,n,u,p,h2,e1,aE.mp d,l⟩
theorem Tw{xs:AZ}(g:closureFor scope X.env=pure cl)(c:scope.kind=.function)(b:scope.isCoroutine=false)(f:scope.isGenerator=false)(h:(scope.names.all λy=>!(y.2==.cell))=true)(i:scope.names.lookup x=U .local)(sub:C0 X.env.cells cl)(has:(scope.names.all λy=>!(y.2==.free)||(cl.lookup y.1).isSome)=true)(d:FT X scope cl xs is):FW X scope cl x xs is:=by
 refine⟨g,c,b,f,λy a e=>?_,i,sub,λy a e=>?_,d⟩
 ·have:=List.all_eq_true.mp h y a;rw[e]at this;simp at this
 ·have:=List.all_eq_true.mp has y a;rw[e]at this;exact ay.mp (by simpa using this)
section
variable{e:α->Dt}{c:β->Bx}{fh:Ev->Y Bx}{k:Ev->Y An}{cO:γ->An}{tab:O (AJ×(O Bx->Y Bx))}{tt:O (AJ×(O α->β)×(O α->Y Prop))}
def BZ[Inhabited β](tt:O (AJ×(O α->β)×(O α->Y Prop)))(h:AJ)(v:O α):β:=match tt.lookup h with
 |some p=>p.1 v
 |none=>default
def Qk(tt:O (AJ×(O α->β)×(O α->Y Prop)))(h:AJ)(v:O α):Prop:=match tt.lookup h with
 |some p=>B5 (p.2 v)
 |none=>False
inductive Ql (e:α->Dt) (c:β->Bx):List (Str×(List Bx->Option Bx))->List (Str×(List α->β)×(List α->Option Prop))->Prop
 |nil:Ql e c [] []
 |cons {x:Str} {F:List Bx->Option Bx} {t:List α->β} {d:List α->Option Prop} {tab:List (Str×(List Bx->Option Bx))} {tt:List (Str×(List α->β)×(List α->Option Prop))}:(∀(v:List α×Unit) bs,aL e aN v bs->bs.length=1/\(B5 (d v.1)->F (bs.map lend)=some (c (t v.1))))->Ql e c tab tt->Ql e c ((x,F)::tab) ((x,t,d)::tt)
theorem Ql.get{h:AJ}{p:(O α->β)×(O α->Y Prop)}(T:Ql e c tab tt)(q:tt.lookup h=U p):∃F,tab.lookup h=U F/\∀(v:O α×Unit) bs,aL e aN v bs->bs.length=1/\(B5 (p.2 v.1)->F (bs.map lend)=U (c (p.1 v.1))):=by
 induction T with
 |nil=>cases q
 |cons S r a=>
  rw[JO]at q ⊢;split at q
  ·cases q;exact⟨_,rfl,S⟩
  ·exact a q
def KL[Inhabited β](i j:Nat)(T:Ql e c tab tt)(h:R fh ρ (zE eS))(a:RL fa (ρ.set i Z) e)(m:i<ρ.length)(f:∀x,Jd (ρ.set i Z) j (c x)=U ((ρ.set i Z).set j (U (c x))))(K:∀x,R k ((ρ.set i Z).set j (U (c x))) cO):R (aD (Qi i j tab fh fa) k) ρ cO:=
 ⟨(K (BZ tt h.v a.v)).v,bB (bB (bB h.D a.D) (U (Qk tt h.v a.v))) (K (BZ tt h.v a.v)).D,λhd=>by
 obtain⟨hd,l⟩:=aB hd;obtain⟨hd,d⟩:=aB hd;obtain⟨h1,h2⟩:=aB hd;have d:Qk tt h.v a.v:=d;have go:Qi i j tab fh fa ρ=U (.nx ((ρ.set i Z).set j (U (c (BZ tt h.v a.v))))):=by
  unfold Qi BZ;unfold Qk at d;rw[zr m,h.ok h1,Au];simp only[eS];split at d
  ·rename_i p hp;obtain⟨F,n,S⟩:=T.get hp;rw[n,hp,Au];obtain⟨o,g⟩:=S (a.v,eu) [a.b] ⟨a.b,[],rfl,a.lk,rfl⟩;have:bN 1 F (ak fa aG) (ρ.set i Z)=U (c (p.1 a.v)):=by
    unfold bN ak aG;rw[a.ok h2];simp only[Au];rw[zr o];exact g d
   rw[this];simp only[Au,f]
  ·exact d.elim
 rw[lM go];exact(K (BZ tt h.v a.v)).ok l⟩
end
theorem BS(a b:AJ):Dk a b=true↔zG a b/\a≠b:=by
 unfold Dk zG;rw[ltCps_eq];simp only[kl,qV];constructor
 ·intro h;exact⟨List.lt_asymm h,λe=>by subst e;exact List.lt_irrefl _ h⟩
 ·intro⟨h,hn⟩;by_cases q:a.cps.toList<b.cps.toList
  ·exact q
  ·exact absurd (oJ (a:=a) (b:=b) (by unfold zG;rw[ltCps_eq];simpa using h) (by unfold zG;rw[ltCps_eq];simpa using q)) hn
theorem WX{i:Int}(h:i∈rng 0 n):∃k:Nat,k<n/\i=(k:Int):=by
 unfold rng at h;obtain⟨k,hk,rfl⟩:=ae.mp h;exact⟨k,ar.mp hk,by omega⟩
end P1
namespace P1
open L2 S1 S6
theorem vK{α:Type}[DecidableEq α]:∀{xs ys:O α},xs.Nodup->(∀x∈xs,x∈ys)->xs.length<=ys.length
 |[],_,_,_=>qs _
 |x::xs,ys,nd,h=>by
  obtain⟨h1,h2⟩:=ag.mp nd;have hx:=h x (ze ..);have:=vK (ys:=ys.erase x) h2 λy a=>(List.mem_erase_of_ne λe=>h1 (by rw[<-e];exact a)).mpr (h y (zg _ a));rw[List.length_erase_of_mem hx]at this;have:=List.length_pos_of_mem hx;simp only[qc];omega
theorem Mr[DecidableEq α]{xs ys:O α}(h1:xs.Nodup)(h2:ys.Nodup)(h:∀x,x∈xs↔x∈ys):xs.Perm ys:=by
 rw[List.perm_iff_count];intro a;by_cases b:a∈xs
 ·rw[h1.count,h2.count,zr b,zr ((h a).mp b)]
 ·rw[h1.count,h2.count,zI b,zI λz=>b ((h a).mpr z)]
def same(w:O AZ)(x y:AJ):Prop:=∃s∈w,x∈s/\y∈s
end P1
section
set_option maxHeartbeats 1000000
namespace P1
open L2
open PySem.Builtin PySem.Builtin.Str
abbrev cs(s:AJ):O Nat:=s.cps.toList
end P1
end
section
set_option maxHeartbeats 1000000
namespace P1
open L2 S1 S6
section
variable [Inhabited α]
end
theorem IJ(a b c:AJ)(h1:Dk a b=true)(h2:Dk b c=true):Dk a c=true:=by
 unfold Dk at *
 simp only[kl]at *
 exact List.lt_trans h1 h2
section
variable{e:α->Dt} [kY e]
theorem WY(a b:α):Wi e a b=true↔Ut e a b=true/\a≠b:=by
 unfold Wi Ut nH;constructor
 ·intro h;refine⟨?_,λz=>?_⟩
  ·cases q:dX (kY.k e b) (kY.k e a)with
   |false=>rfl
   |true=>have:=jk h q;rw[lH]at this;cases this
  ·rw[z,lH]at h;cases h
 ·rintro⟨h1,h2⟩;cases q:dX (kY.k e a) (kY.k e b)with
  |true=>rfl
  |false=>
   have h1:dX (kY.k e b) (kY.k e a)=false:=by
    cases z:dX (kY.k e b) (kY.k e a)with
    |false=>rfl
    |true=>rw[z]at h1;cases h1
   exact absurd (kY.inj _ _ (qX q h1)) h2
end
end P1
end
namespace P1
open L2
open PySem.Builtin PySem.Builtin.Str
end P1
section
set_option maxHeartbeats 1000000
namespace P1
open L2
open PySem.Builtin PySem.Builtin.Str
end P1
end
section
set_option synthInstance.maxSize 100000
namespace G35
open L2 P1
noncomputable section
abbrev LW:=O P1.Dt
abbrev aP:Type:=AJ×AJ
abbrev cj:aP->Dt:=n8 eS eS
abbrev aO:Type:=AJ×(O aP)
abbrev aR:aO->Dt:=n8 eS (eT cj)
abbrev cN:Type:=AJ×AJ×AZ
abbrev f9:cN->Dt:=D3 eS eS (eT eS)
abbrev IT:Type:=Int×AJ
abbrev Ms:IT->Dt:=n8 eI eS
def top(i:Nat):AB:=PySem.Challenge.pw_onefolk_k35_views_told.main.body.getD i (.Pass ⟨0,0,0,0⟩)
abbrev Ca:AB:=top 18
abbrev uz:AB:=top 19
abbrev zm:AB:=top 20
abbrev Cd:AB:=top 21
abbrev Gf:AB:=top 22
abbrev Ce:AB:=top 23
abbrev Cg:AB:=top 24
abbrev Ci:AB:=top 25
abbrev qD:AB:=top 26
abbrev rE:AB:=top 27
abbrev J1:AB:=top 14
abbrev Gg:AB:=top 4
abbrev Cj:AB:=top 15
abbrev qF:AB:=top 11
abbrev wX:AB:=top 10
abbrev rG:AB:=top 9
abbrev zp:AB:=top 8
abbrev zq:AB:=top 7
abbrev wY:AB:=top 6
abbrev Gh:AB:=top 16
abbrev Gi:AB:=top 13
abbrev zu:AB:=top 28
abbrev s_law:AB:=top 29
def uD:Ev->Y An:=(aD (aD (B0 2 (b2 cL (b2 eN (b2 qJ (gv 2) (cB (.int 69621))) (gv 3)) (cB (.int 2147483647)))) cY) (d7 [3]))
def pU:Ev->Y An:=(aD (vW (vB Zt (gv 1) (bW qU (ak (gv 0) aG))) (aD (cX (b2 gj (gv 0) (gv 1))) cY) cY) (aD (B0 2 (b2 cL (b2 qJ (cB (.int 48271)) (b2 eN (b2 eN (b2 qJ (gv 1) (gv 1)) (b2 qJ (cB (.int 7)) (gv 1))) (cB (.int 11)))) (cB (.int 2147483647)))) (aD (mH (Xp (RJ (gv 0) yd (qT (cB (.int 3))))) (n6 3) uD) (aD (cX (gv 2)) cY))))
def fB:O Bx->Y Bx:=cQ 4 pU
def jq:Ev->Y An:=(aD (aD (B0 3 (b2 cL (b2 eN (b2 eN (b2 qJ (gv 3) (b2 eN (b2 cL (gv 3) (cB (.int 65521))) (cB (.int 40487)))) (b2 qJ (cB (.int 7)) (gv 5))) (cB (.int 5))) (cB (.int 1999999973)))) (aD (Dv 2 (b2 gj (bW jc (ak (gv 3) (ak (b2 cL (gv 4) (cB (.int 1000000))) aG))) (bW RK (ak (b2 DH (gv 4) (cB (.int 0))) aG)))) (aD (B0 4 (b2 dZ (gv 4) (cB (.int 1000000)))) cY))) (d7 [5]))
def jB:Ev->Y An:=(aD (B0 2 (bW jc aG)) (aD (B0 3 (b2 cL (b2 qJ (b2 eN (b2 cL (gv 0) (cB (.int 1999999973))) (cB (.int 31))) (cB (.int 765432101))) (cB (.int 1999999973)))) (aD (B0 4 (cB (.int 0))) (aD (vW (Xg (vB Zt (gv 0) (cB (.int 0))) (vB Db (gv 0) (b2 VB (cB (.int 10)) (cB (.int 18))))) (aD (aD (B0 4 (bW Pz (ak (gv 0) aG))) cY) (d7 [])) (aD cY (d7 []))) (aD (mH (Ij (ak (gv 1) aG)) (n6 5) jq) (aD (Dq 2) cY))))))
def dw:O Bx->Y Bx:=cQ 6 jB
def lR:Ev->Y An:=(aD (aD (B0 7 (b2 gj (gv 2) (b2 cL (b2 eN (gv 6) (b2 gj (gv 0) (cB (.int 2)))) (cB (.int 15))))) (aD (B0 8 (b2 eN (b2 eN (RJ (gv 3) yd (qT (gv 4))) (gv 7)) (RJ (gv 3) (qT (gv 4)) yd))) (aD (vW (vB BQ (b2 cL (b2 gj (gv 0) (cB (.int 3))) (cB (.int 3))) (cB (.int 1))) (aD (aD (B0 8 (b2 qJ (b2 gj (gv 2) (b2 dZ (gv 6) (cB (.int 8)))) (b2 eN (cB (.int 1)) (b2 cL (gv 6) (cB (.int 8)))))) cY) (d7 [])) (aD cY (d7 []))) (aD (Dv 5 (gv 8)) cY)))) (d7 [6,7,8]))
def mQ:Ev->Y An:=(aD (B0 2 (cB (.str "abcdefghijklmnopqrstuvwxyz"))) (aD (B0 3 (b1 (Fo "") (dH (Ij (ak (b2 cL (b2 gj (gv 0) (cB (.int 0))) (cB (.int 6))) aG)) (n6 2) vC (b2 gj (gv 0) (b2 cL (b2 dZ (b2 gj (gv 1) (gv 2)) (cB (.int 40))) (cB (.int 26)))) [2,0] 1))) (aD (B0 4 (b2 cL (b2 gj (gv 0) (cB (.int 1))) (b2 eN (bW qU (ak (gv 3) aG)) (cB (.int 1))))) (aD (B0 5 (bW jc aG)) (aD (mH (Ij (ak (gv 1) aG)) (n6 6) lR) (aD (Dq 5) cY))))))
def jO:O Bx->Y Bx:=cQ 9 mQ
def nQ:Ev->Y An:=(aD (aD (B0 2 (b2 eN (gv 2) (b2 gj (cB (.str "ab1")) (b2 cL (b2 dZ (b2 dZ (gv 0) (cB (.int 16))) (b2 gj (bW jc (ak (cB (.int 1)) (ak (cB (.int 3)) (ak (cB (.int 9)) (ak (cB (.int 27)) aG))))) (gv 3))) (cB (.int 3)))))) cY) (d7 [3]))
def pW:Ev->Y An:=(aD (B0 1 (cB (.str "abcdefghijklmnopqrstuvwxyz0123456789"))) (aD (vW (vB BQ (b2 cL (gv 0) (cB (.int 16))) (cB (.int 5))) (aD (cX (b2 gj (bW jc (ak (cB (.str "01")) (ak (cB (.str "1")) (ak (cB (.str "9")) (ak (cB (.str "10")) (ak (cB (.str "001")) (ak (cB (.str "09")) (ak (cB (.str "90")) (ak (cB (.str "010")) aG))))))))) (b2 cL (b2 dZ (gv 0) (cB (.int 16))) (cB (.int 8))))) cY) cY) (aD (vW (vB BQ (b2 cL (gv 0) (cB (.int 16))) (cB (.int 9))) (aD (cX (b2 qJ (b2 eN (b2 gj (gv 1) (b2 cL (b2 dZ (gv 0) (cB (.int 16))) (cB (.int 36)))) (b2 gj (gv 1) (b2 cL (b2 dZ (gv 0) (cB (.int 576))) (cB (.int 36))))) (b2 eN (cB (.int 1)) (b2 cL (b2 dZ (gv 0) (cB (.int 20736))) (cB (.int 6)))))) cY) cY) (aD (vW (vB BQ (b2 cL (gv 0) (cB (.int 4))) (cB (.int 0))) (aD (cX (b2 gj (bW jc (ak (cB (.str "a")) (ak (cB (.str "ab")) (ak (cB (.str "abc")) (ak (cB (.str "b")) (ak (cB (.str "1")) (ak (cB (.str "12")) (ak (cB (.str "a1")) aG)))))))) (b2 cL (b2 dZ (gv 0) (cB (.int 4))) (cB (.int 7))))) cY) cY) (aD (B0 2 (cB (.str ""))) (aD (mH (Ij (ak (b2 eN (cB (.int 1)) (b2 cL (b2 dZ (gv 0) (cB (.int 4))) (cB (.int 4)))) aG)) (n6 3) nQ) (aD (cX (gv 2)) cY)))))))
def pX:O Bx->Y Bx:=cQ 4 pW
def wZ:Ev->Y An:=(aD (aD (vW (vB DH (b2 cL (b2 gj (gv 1) (gv 4)) (cB (.int 4))) (cB (.int 0))) (aD (aD (Dv 3 (bW iH (ak (b2 gj (gv 2) (gv 4)) (ak (b1 Al (bN 1 pX (ak (b2 dZ (b2 gj (gv 1) (gv 4)) (cB (.int 4))) aG))) aG)))) cY) (d7 [])) (aD cY (d7 []))) cY) (d7 [4]))
def tU:Ev->Y An:=(aD (B0 2 (bW jc (ak (cB (.str "day")) (ak (cB (.str "name")) (ak (b1 Al (b2 eN (cB (.str "name")) (cB (.str "s")))) (ak (cB (.str "p")) aG)))))) (aD (B0 3 (bW jc aG)) (aD (mH (Ij (ak (cB (.int 4)) aG)) (n6 4) wZ) (aD (cX (bW iH (ak (gv 0) (ak (bW ji (ak (gv 3) aG)) aG)))) cY))))
def tW:O Bx->Y Bx:=cQ 5 tU
def nR:Ev->Y An:=(aD (aD (Dv 5 (b1 Al (bN 2 tW (ak (b2 gj (gv 3) (b2 cL (b2 eN (b2 qJ (cB (.int 4)) (gv 6)) (b2 gj (gv 2) (cB (.int 7)))) (cB (.int 15)))) (ak (b1 Al (bN 2 dw (ak (b1 Al (bN 2 fB (ak (gv 0) (ak (b1 Al (b2 eN (cB (.int 1)) (gv 6))) aG)))) (ak (cB (.int 4)) aG)))) aG))))) cY) (d7 [6]))
def pY:Ev->Y An:=(aD (B0 2 (bN 2 dw (ak (b1 Al (bN 2 fB (ak (gv 0) (ak (cB (.int 0)) aG)))) (ak (cB (.int 9)) aG)))) (aD (B0 3 (bN 2 jO (ak (gv 2) (ak (cB (.int 15)) aG)))) (aD (B0 4 (b2 gj (bW jc (ak (cB (.int 1)) (ak (cB (.int 2)) (ak (cB (.int 5)) (ak (cB (.int 8)) (ak (gv 1) (ak (gv 1) aG))))))) (b2 cL (b2 gj (gv 2) (cB (.int 6))) (cB (.int 6))))) (aD (B0 5 (bW jc aG)) (aD (mH (Ij (ak (gv 4) aG)) (n6 6) nR) (aD (cX (bW ji (ak (gv 5) aG))) cY))))))
def pZ:O Bx->Y Bx:=cQ 7 pY
def uE:Ev->Y An:=(aD (aD (R7 5 1 (b2 cL (b2 dZ (b2 gj (gv 0) (cB (.int 1))) (b2 gj (bW jc (ak (cB (.int 1)) (ak (cB (.int 5)) (ak (cB (.int 20)) (ak (cB (.int 60)) (ak (cB (.int 120)) aG)))))) (gv 4))) (bW qU (ak (gv 1) aG)))) (aD (Dv 3 (bW iH (ak (gv 5) (ak (b2 gj (gv 2) (b2 cL (b2 gj (gv 0) (b2 eN (cB (.int 2)) (gv 4))) (cB (.int 6)))) aG)))) cY)) (d7 [4,5]))
def p7:Ev->Y An:=(aD (B0 1 (bW jc (ak (cB (.str "day")) (ak (cB (.str "name")) (ak (cB (.str "names")) (ak (cB (.str "p")) (ak (cB (.str "zzz")) aG))))))) (aD (B0 2 (bW jc (ak (cB (.str "first")) (ak (cB (.str "last")) (ak (cB (.str "most")) (ak (cB (.str "longest")) (ak (cB (.str "least")) (ak (cB (.str "greatest")) aG)))))))) (aD (B0 3 (bW jc aG)) (aD (mH (Ij (ak (b2 cL (b2 gj (gv 0) (cB (.int 0))) (cB (.int 6))) aG)) (n6 4) uE) (aD (cX (bW ji (ak (gv 3) aG))) cY)))))
def p8:O Bx->Y Bx:=cQ 6 p7
def qb:Ev->Y An:=(aD (cX (bW ji (ak (bW wL (ak (dH (Ij (ak (bW qU (ak (gv 0) aG)) aG)) (n6 2) (vB DH (b2 cL (b2 dZ (b2 gj (gv 1) (b2 cL (gv 2) (bW qU (ak (gv 1) aG)))) (b2 eN (cB (.int 1)) (b2 dZ (gv 2) (bW qU (ak (gv 1) aG))))) (cB (.int 3))) (cB (.int 0))) (b2 gj (gv 0) (gv 2)) [0,1] 1) aG)) aG))) cY)
def qd:O Bx->Y Bx:=cQ 2 qb
def gw:Ev->Y An:=(aD (vW (vB BQ (gv 1) (cB (.str "first"))) (aD (cX (b2 gj (gv 0) (cB (.int 0)))) cY) cY) (aD (vW (vB BQ (gv 1) (cB (.str "last"))) (aD (cX (b2 gj (gv 0) (b2 CO (bW qU (ak (gv 0) aG)) (cB (.int 1))))) cY) cY) (aD (vW (vB BQ (gv 1) (cB (.str "least"))) (aD (cX (b2 gj (bW wL (ak (gv 0) aG)) (cB (.int 0)))) cY) cY) (aD (vW (vB BQ (gv 1) (cB (.str "greatest"))) (aD (cX (b2 gj (bW wL (ak (gv 0) aG)) (b2 CO (bW qU (ak (gv 0) aG)) (cB (.int 1))))) cY) cY) (aD (vW (vB BQ (gv 1) (cB (.str "longest"))) (aD (cX (b2 gj (b2 gj (bW Bd (ak (dH (G7 (gv 0)) (n6 0) vC (bW iH (ak (b2 CO (cB (.int 0)) (bW qU (ak (gv 0) aG))) (ak (gv 0) aG))) [] 1) aG)) (cB (.int 0))) (cB (.int 1)))) cY) cY) (aD (B0 2 (dH (G7 (gv 0)) (n6 1) vC (b1 Al (b2 tH (gv 0) (gv 1))) [0] 1)) (aD (cX (b2 gj (gv 0) (b2 tK (gv 2) (bW Fz (ak (gv 2) aG))))) cY)))))))
def gA:O Bx->Y Bx:=cQ 3 gw
def mR:Ev->Y An:=(aD (aD (B0 7 (b2 eN (gv 7) (dH (G7 (gv 9)) (qP 2 (eH (n6 2) (eH (n6 3) wk))) (vB BQ (gv 2) (gv 1)) (bW iH (ak (gv 0) (ak (gv 3) aG))) [8,5] 2))) cY) (d7 [8,9]))
def mU:Ev->Y An:=(aD (aD (B0 7 (bW jc aG)) (aD (u9 3 (qP 2 (eH (n6 8) (eH (n6 9) wk))) mR) (aD (vW (vB Za (gv 7) (bW jc aG)) (aD (aD (B0 10 (bN 2 gA (ak (b1 Al (dH (G7 (gv 7)) (qP 2 (eH (n6 0) (eH (n6 1) wk))) vC (gv 1) [] 2)) (ak (gv 6) aG)))) (aD (Dv 4 (bW iH (ak (gv 5) (ak (gv 10) (ak (bW ji (ak (dH (G7 (gv 7)) (qP 2 (eH (n6 1) (eH (n6 2) wk))) (vB BQ (gv 2) (gv 0)) (gv 1) [10] 2) aG)) aG))))) cY)) (d7 [10])) (aD cY (d7 [10]))) cY))) (d7 [5,6,7,8,9,10]))
def iK:Ev->Y An:=(aD (B0 3 (bW BW (ak (dH (G7 (gv 0)) (n6 1) (vB inF (b2 gj (gv 1) (cB (.int 0))) (gv 0)) (gv 1) [2] 1) aG))) (aD (B0 4 (bW jc aG)) (DM 3 (aD (u9 1 (qP 2 (eH (n6 5) (eH (n6 6) wk))) mU) (aD (Dq 4) cY)))))
def iM:O Bx->Y Bx:=cQ 11 iK
def zx:Ev->Y An:=(aD (aD (vW (vB BQ (b2 gj (gv 2) (cB (.int 0))) (gv 1)) (aD (cX (gv 2)) cY) cY) cY) (d7 [2]))
def w5:Ev->Y An:=(aD (u9 0 (n6 2) zx) (aD ES cY))
def w6:O Bx->Y Bx:=cQ 3 w5
def xg:Ev->Y An:=(aD (aD (vW (vB BQ (gv 2) (gv 1)) (aD (cX (gv 3)) cY) cY) cY) (d7 [2,3]))
def tX:Ev->Y An:=(aD (mH (Xp (b2 gj (gv 0) (cB (.int 1)))) (qP 2 (eH (n6 2) (eH (n6 3) wk))) xg) (aD (cX (cB .non)) cY))
def lg:O Bx->Y Bx:=cQ 4 tX
def qe:Ev->Y An:=(aD (cX (dH (G7 (dH (G7 (gv 0)) (n6 1) vC (b1 Al (bN 2 lg (ak (gv 1) (ak (gv 0) aG)))) [1] 1)) (n6 0) (vB Jq (gv 0) (cB .non)) (gv 0) [] 1)) cY)
def jr:O Bx->Y Bx:=cQ 2 qe
def gB:Ev->Y An:=(aD (cX (bW JV (ak (gv 0) aG))) cY)
def gC:O Bx->Y Bx:=cQ 1 gB
def jZ:Ev->Y An:=(aD (cX (bW JT (ak (gv 0) aG))) cY)
def j4:O Bx->Y Bx:=cQ 1 jZ
def iQ:Ev->Y An:=(aD (cX (JQ Wz Wy (gv 0) (bW iH (ak (b1 Du (bW qU (ak (gv 0) aG))) (ak (gv 0) aG))) [])) cY)
def fD:O Bx->Y Bx:=cQ 1 iQ
def mV:Ev->Y An:=(aD (cX (JQ D2 DI (gv 0) (b2 tH (gv 1) (gv 0)) [0])) cY)
def jP:O Bx->Y Bx:=cQ 1 mV
def mW:Ev->Y An:=(aD (cX (b2 gj (gv 0) (b1 Du (cB (.int 1))))) cY)
def mX:O Bx->Y Bx:=cQ 1 mW
def j5:Ev->Y An:=(aD (cX (b2 gj (gv 0) (cB (.int 0)))) cY)
def j6:O Bx->Y Bx:=cQ 1 j5
def Tz:O (AJ×(O Bx->Y Bx)):=[("first",j6),("last",mX),("most",jP),("longest",fD),("least",j4),("greatest",gC)]
def tY:Ev->Y An:=(aD (Qi 3 4 Tz (gv 2) (bN 2 jr (ak (gv 0) (ak (gv 1) aG)))) (aD (cX (bW iH (ak (gv 1) (ak (gv 4) (ak (bW ji (ak (dH (G7 (gv 0)) (n6 2) (vB BQ (bN 2 lg (ak (gv 2) (ak (gv 1) aG))) (gv 0)) (b2 gj (gv 2) (cB (.int 0))) [4,1] 1) aG)) aG))))) cY))
def tZ:O Bx->Y Bx:=cQ 5 tY
def uc:Ev->Y An:=(aD (B0 3 (dH (G7 (gv 2)) (n6 1) vC (b1 Al (bN 2 w6 (ak (gv 0) (ak (gv 1) aG)))) [0] 1)) (aD (cX (dH (G7 (gv 1)) (qP 2 (eH (n6 1) (eH (n6 2) wk))) (tV (bN 2 jr (ak (gv 0) (ak (gv 1) aG)))) (b1 Al (bN 3 tZ (ak (gv 0) (ak (gv 1) (ak (gv 2) aG))))) [3] 2)) cY))
def fO:O Bx->Y Bx:=cQ 4 uc
def mY:Ev->Y An:=(aD (B0 3 (bN 3 iM (ak (gv 0) (ak (gv 1) (ak (gv 2) aG))))) (aD (B0 4 (bN 3 fO (ak (gv 0) (ak (gv 1) (ak (gv 2) aG))))) (aD (vW (Xg (Jb (tV (uq BI (gv 4)))) (vB Za (gv 4) (gv 3))) (aD (cX (cB (.bl false))) cY) cY) (aD (vW (Jb (tV (bW CF (ak (dH (G7 (gv 4)) (n6 0) vC (GD (uq cT (gv 0)) (uq cT (b2 gj (gv 0) (cB (.int 2))))) [] 1) aG)))) (aD (cX (cB (.bl false))) cY) cY) (aD (Dv 4 (bW iH (ak (cB (.str "zz")) (ak (cB (.str "1")) (ak (bW iH aG) aG))))) (aD (LQ 4) (aD (cX (GD (b2 BQ (bN 3 fO (ak (gv 0) (ak (gv 1) (ak (gv 2) aG)))) (gv 3)) (b2 BQ (bN 3 fO (ak (b1 Al (b2 Ly (gv 0) (b1 Du (cB (.int 1))))) (ak (gv 1) (ak (gv 2) aG)))) (gv 3)))) cY)))))))
def dR:O Bx->Y Bx:=cQ 5 mY
def Ck:Ev->Y An:=(aD (aD (B0 4 (bN 2 dw (ak (gv 3) (ak (cB (.int 16)) aG)))) (aD (B0 5 (bN 1 p8 (ak (gv 4) aG))) (aD (vW (Jb (tV (bN 3 dR (ak (gv 1) (ak (gv 5) (ak (b1 Al (bN 2 qd (ak (gv 2) (ak (b1 Al (RJ (gv 4) (qT (cB (.int 8))) yd)) aG)))) aG)))))) (aD (cX (cB (.bl false))) cY) cY) cY))) (d7 [3,4,5]))
def Oh:Ev->Y An:=(aD (B0 1 (bN 2 pZ (ak (gv 0) (ak (cB (.int 14)) aG)))) (aD (B0 2 (dH (G7 (gv 1)) (n6 0) vC (b2 gj (gv 0) (cB (.int 0))) [] 1)) (aD (mH (Xp (b2 eN (bW jc (ak (b1 Al (bN 2 fB (ak (gv 0) (ak (cB (.int 16)) aG)))) aG)) (RJ (gv 0) (qT (cB (.int 17))) (qT (cB (.int 30)))))) (n6 3) Ck) (aD (cX (GD (bN 3 dR (ak (gv 1) (ak (bW iH (ak (bW iH (ak (cB (.str "name")) (ak (cB (.str "most")) aG))) (ak (bW iH (ak (cB (.str "day")) (ak (cB (.str "longest")) aG))) aG))) (ak (bW ji (ak (bW wL (ak (gv 2) aG)) aG)) aG)))) (bN 3 dR (ak (gv 1) (ak (bW iH aG) (ak (bW iH aG) aG)))))) cY))))
def F_law:O Bx->Y Bx:=cQ 6 Oh
end
end G35
end
section
set_option synthInstance.maxSize 100000
namespace G35
open L2 P1
set_option genInjectivity false
set_option genSizeOf false
structure T (K:B4) (mg:Str->Option Value) where
 {TF:Addr}
 aaq:mg "HOWS"=some (.ref TF)
 gM:DQ K mg "_law_cell" Ca ["_law_script","_law_k"]
 dB:DQ K mg "_law_numbers" uz ["_law_cell_here","_law_many"]
 mZ:DQ K mg "_law_names" zm ["_law_xs","_law_many"]
 qg:DQ K mg "_law_word" Cd ["_law_x"]
 ud:DQ K mg "_law_row" Gf ["_law_name","_law_xs"]
 qj:DQ K mg "_law_book" Ce ["_law_script","_law_most"]
 ql:DQ K mg "_law_view" Cg ["_law_xs"]
 qm:DQ K mg "_law_some" Ci ["_law_names_here","_law_xs"]
 gD:DQ K mg "_law_told_word" qD ["_law_words","_law_how"]
 iR:DQ K mg "_law_due_view" rE ["_law_book_here","_law_view_here","_law_names_here"]
 xq:DQ K mg "row_of" J1 ["book","name"]
 lq:DQ K mg "word_of" Gg ["row","field"]
 jt:DQ K mg "words_in" Cj ["rows","field"]
 c7:DQ K mg "greatest_word" qF ["words"]
 fP:DQ K mg "least_word" wX ["words"]
 cV:DQ K mg "longest_word" rG ["words"]
 fG:DQ K mg "most_word" zp ["words"]
 gZ:DQ K mg "last_word" zq ["words"]
 fQ:DQ K mg "first_word" wY ["words"]
 uf:DQ K mg "seen_of" Gh ["rows","field","how"]
 lu:DQ K mg "view_of" Gi ["book","view","names"]
 g8:DQ K mg "_law_right" zu ["_law_book_here","_law_view_here","_law_names_here"]
 x_law:DQ K mg "law" s_law ["_law_script"]
 acf:mg "abs"=none
 acg:mg "all"=none
 ach:mg "int"=none
 qp:mg "isinstance"=none
 uF:mg "len"=none
 aar:mg "list"=none
 TJ:mg "max"=none
 XS:mg "min"=none
 m5:mg "range"=none
 oO:mg "sorted"=none
 j7:mg "tuple"=none
 aas:Tt K TF [("first",fQ.f),("last",gZ.f),("most",fG.f),("longest",cV.f),("least",fP.f),("greatest",c7.f)]
 yC:WW K cV.fd "longest_word.<locals>.<lambda>"=true
 Dy:WW K fG.fd "most_word.<locals>.<lambda>"=true
section
variable(t:T K mg)
theorem J2:bw ["_law_script","_law_k","_law_state","_law_cell_here"] ["_law_script","_law_k"] (aH Ca):=lJ
theorem J3:Ok P w base t.gM 1 2 fB:=Dw (g:=pU) t.gM J2 λ_ _ _ _ _ _ c b a=>(aq (jf (cP RQ (ao 1) (bL nG S t.uF nF (aj (ao 0) aA)) (cH _)) (aq (bK (bJ (ao 0) (ao 1))) aJ) aJ) (aq (bD 2 a (aM bQ (aM nD aC (aM cR (aM cR (aM nD (ao 1) (ao 1)) (aM nD aC (ao 1))) aC)) aC)) (aq (pN PassesOwn.never S (GQ (Jt (ao 0) wH (oG aC))) (bf 3 a) (bR [3] (aq (bD 2 a (aM bQ (aM cR (aM nD (ao 2) aC) (ao 3)) aC)) aJ))) (aq (bK (ao 2)) aJ))))
theorem Cm:bw ["_law_cell_here","_law_many","_law_found","_law_state","_law_digits","_law_k"] ["_law_cell_here","_law_many"] (aH uz):=lJ
theorem Cp:Ok P w base t.dB 1 2 dw:=Dw (g:=jB) t.dB Cm λ_ _ _ _ _ _ c b a=>(aq (bD 2 a (eG aA)) (aq (bD 3 a (aM bQ (aM nD (aM cR (aM bQ (ao 0) aC) aC) aC) aC)) (aq (bD 4 a aC) (aq (jf (FR (Rn (cP RQ (ao 0) aC (cH _)) (Nu (cP KO (ao 0) (aM Zb aC aC) (cH _))))) (bR [] (aq (bD 4 a (bL Zj S t.acf Zf (aj (ao 0) aA))) aJ)) (bR [] aJ)) (aq (pN PassesOwn.never S (jH S t.m5 (aj (ao 1) aA)) (bf 5 a) (bR [5] (aq (bD 3 a (aM bQ (aM cR (aM cR (aM nD (ao 3) (aM cR (aM bQ (ao 3) aC) aC)) (aM nD aC (ao 5))) aC) aC)) (aq (u6 2 (bJ (eG (aj (ao 3) (aj (aM bQ (ao 4) aC) aA))) (gU Zk S t.ach Ze (aj (La Ry (ao 4) aC (cH _)) aA)))) (aq (bD 4 a (aM dW (ao 4) aC)) aJ))))) (aq (GJ 2) aJ))))))
theorem Hy:bw ["_law_xs","_law_many","_law_letters","_law_stem","_law_at","_law_found","_law_k","_law_mark","_law_name"] ["_law_xs","_law_many"] (aH zm):=lJ
theorem Hz:Ok P w base t.mZ 1 2 jO:=Dw (g:=mQ) t.mZ Hy λ_ _ _ _ _ _ c b a=>(aq (bD 2 a aW) (aq (bD 3 a (VP (fM ["_law_k"] (vG ["_law_letters","_law_xs"] [2,0]) S (Rx (jH S t.m5 (aj (aM bQ (bJ (ao 0) aC) aC) aA))) (λ_ _ _ _=>(et 2)) (λ_ _ _ _=>fj) (λ_ _ _ _=>(bJ (ao 0) (aM bQ (aM dW (bJ (ao 1) (ao 2)) aC) aC))) (cJ)))) (aq (bD 4 a (aM bQ (bJ (ao 0) aC) (aM cR (bL nG S t.uF nF (aj (ao 3) aA)) aC))) (aq (bD 5 a (eG aA)) (aq (pN PassesOwn.never S (jH S t.m5 (aj (ao 1) aA)) (bf 6 a) (bR [6,7,8] (aq (bD 7 a (bJ (ao 2) (aM bQ (aM cR (ao 6) (bJ (ao 0) aC)) aC))) (aq (bD 8 a (aM cR (aM cR (Jt (ao 3) wH (oG (ao 4))) (ao 7)) (Jt (ao 3) (oG (ao 4)) wH))) (aq (jf (cP (of_eq b) (aM bQ (bJ (ao 0) aC) aC) aC (cH _)) (bR [] (aq (bD 8 a (aM nD (bJ (ao 2) (aM dW (ao 6) aC)) (aM cR aC (aM bQ (ao 6) aC)))) aJ)) (bR [] aJ)) (aq (u6 5 (ao 8)) aJ)))))) (aq (GJ 5) aJ))))))
theorem J4:bw ["_law_x","_law_signs","_law_found","_law_j"] ["_law_x"] (aH Cd):=lJ
theorem J5:Ok P w base t.qg 1 1 pX:=Dw (g:=pW) t.qg J4 λ_ _ _ _ _ _ c b a=>(aq (bD 1 a aW) (aq (jf (cP (of_eq b) (aM bQ (ao 0) aC) aC (cH _)) (aq (bK (bJ (eG (aj aW (aj aW (aj aW (aj aW (aj aW (aj aW (aj aW (aj aW aA))))))))) (aM bQ (aM dW (ao 0) aC) aC))) aJ) aJ) (aq (jf (cP (of_eq b) (aM bQ (ao 0) aC) aC (cH _)) (aq (bK (aM nD (aM cR (bJ (ao 1) (aM bQ (aM dW (ao 0) aC) aC)) (bJ (ao 1) (aM bQ (aM dW (ao 0) aC) aC))) (aM cR aC (aM bQ (aM dW (ao 0) aC) aC)))) aJ) aJ) (aq (jf (cP (of_eq b) (aM bQ (ao 0) aC) aC (cH _)) (aq (bK (bJ (eG (aj aW (aj aW (aj aW (aj aW (aj aW (aj aW (aj aW aA)))))))) (aM bQ (aM dW (ao 0) aC) aC))) aJ) aJ) (aq (bD 2 a aW) (aq (pN PassesOwn.never S (jH S t.m5 (aj (aM cR aC (aM bQ (aM dW (ao 0) aC) aC)) aA)) (bf 3 a) (bR [3] (aq (bD 2 a (aM cR (ao 2) (bJ aW (aM bQ (aM dW (aM dW (ao 0) aC) (bJ (eG (aj aC (aj aC (aj aC (aj aC aA))))) (ao 3))) aC)))) aJ))) (aq (bK (ao 2)) aJ)))))))
theorem Mt:bw ["_law_name","_law_xs","_law_fields","_law_words","_law_k"] ["_law_name","_law_xs"] (aH Gf):=lJ
theorem Mu(b:Ok P w base t.qg 1 1 pX):Ok P w base t.ud 2 2 tW:=Dw (g:=tU) t.ud Mt λ_ _ _ _ _ _ c d a=>(aq (bD 2 a (eG (aj aW (aj aW (aj (jW (aM cR aW aW)) (aj aW aA)))))) (aq (bD 3 a (eG aA)) (aq (pN PassesOwn.never S (jH S t.m5 (aj aC aA)) (bf 4 a) (bR [4] (aq (jf (cP Ry (aM bQ (bJ (ao 1) (ao 4)) aC) aC (cH _)) (bR [] (aq (u6 3 (gJ (aj (bJ (ao 2) (ao 4)) (aj (jW (dN t.qg b c (aj (aM dW (bJ (ao 1) (ao 4)) aC) aA))) aA)))) aJ)) (bR [] aJ)) aJ))) (aq (bK (gJ (aj (ao 0) (aj (gU lD S t.j7 jK (aj (ao 3) aA)) aA)))) aJ))))
theorem J6:bw ["_law_script","_law_most","_law_head","_law_names_here","_law_many","_law_rows","_law_k"] ["_law_script","_law_most"] (aH Ce):=lJ
theorem J7(c:Ok P w base t.gM 1 2 fB)(f:Ok P w base t.mZ 1 2 jO)(d:Ok P w base t.dB 1 2 dw)(e:Ok P w base t.ud 2 2 tW):Ok P w base t.qj 3 2 pZ:=Dw (g:=pY) t.qj J6 λ_ _ _ _ _ _ a h b=>(aq (bD 2 b (dN t.dB d a (aj (jW (dN t.gM c a (aj (ao 0) (aj aC aA)))) (aj aC aA)))) (aq (bD 3 b (dN t.mZ f a (aj (ao 2) (aj aC aA)))) (aq (bD 4 b (bJ (eG (aj aC (aj aC (aj aC (aj aC (aj (ao 1) (aj (ao 1) aA))))))) (aM bQ (bJ (ao 2) aC) aC))) (aq (bD 5 b (eG aA)) (aq (pN PassesOwn.never S (jH S t.m5 (aj (ao 4) aA)) (bf 6 b) (bR [6] (aq (u6 5 (jW (dN t.ud e a (aj (bJ (ao 3) (aM bQ (aM cR (aM nD aC (ao 6)) (bJ (ao 2) aC)) aC)) (aj (jW (dN t.dB d a (aj (jW (dN t.gM c a (aj (ao 0) (aj (jW (aM cR aC (ao 6))) aA)))) (aj aC aA)))) aA))))) aJ))) (aq (bK (gU lD S t.j7 jK (aj (ao 5) aA))) aJ))))))
theorem J8:bw ["_law_xs","_law_fields","_law_hows","_law_found","_law_k","_law_field"] ["_law_xs"] (aH Cg):=lJ
theorem J9:Ok P w base t.ql 1 1 p8:=Dw (g:=p7) t.ql J8 λ_ _ _ _ _ _ c b a=>(aq (bD 1 a (eG (aj aW (aj aW (aj aW (aj aW (aj aW aA))))))) (aq (bD 2 a (eG (aj aW (aj aW (aj aW (aj aW (aj aW (aj aW aA)))))))) (aq (bD 3 a (eG aA)) (aq (pN PassesOwn.never S (jH S t.m5 (aj (aM bQ (bJ (ao 0) aC) aC) aA)) (bf 4 a) (bR [4,5] (aq (ZG 5 1 a (aM bQ (aM dW (bJ (ao 0) aC) (bJ (eG (aj aC (aj aC (aj aC (aj aC (aj aC aA)))))) (ao 4))) (bL nG S t.uF nF (aj (ao 1) aA)))) (aq (u6 3 (gJ (aj (ao 5) (aj (bJ (ao 2) (aM bQ (bJ (ao 0) (aM cR aC (ao 4))) aC)) aA)))) aJ)))) (aq (bK (gU lD S t.j7 jK (aj (ao 3) aA))) aJ)))))
theorem Ka:bw ["_law_names_here","_law_xs"] ["_law_names_here","_law_xs"] (aH Ci):=lJ
theorem Kc:Ok P w base t.qm 1 2 qd:=Dw (g:=qb) t.qm Ka λ_ _ _ _ _ _ c b a=>(aq (bK (gU lD S t.j7 jK (aj (bL sZ S t.oO kJ (aj (fM ["_law_k"] (vG ["_law_names_here","_law_xs"] [0,1]) S (Rx (jH S t.m5 (aj (bL nG S t.uF nF (aj (ao 0) aA)) aA))) (λ_ _ _ _=>(et 2)) (λ_ _ _ _=>(gK (cP Ry (aM bQ (aM dW (bJ (ao 1) (aM bQ (ao 2) (bL nG S t.uF nF (aj (ao 1) aA)))) (aM cR aC (aM dW (ao 2) (bL nG S t.uF nF (aj (ao 1) aA))))) aC) aC (cH _)))) (λ_ _ _ _=>(bJ (ao 0) (ao 2))) (cJ)) aA)) aA))) aJ)
theorem yE:bw ["_law_words","_law_how","_law_counts"] ["_law_words","_law_how"] (aH qD):=lJ
theorem yF:Ok P w base t.gD 1 2 gA:=Dw (g:=gw) t.gD yE λ_ _ _ _ _ _ c a b=>(aq (jf (cP (of_eq a) (ao 1) aW (cH _)) (aq (bK (bJ (ao 0) aC)) aJ) aJ) (aq (jf (cP (of_eq a) (ao 1) aW (cH _)) (aq (bK (bJ (ao 0) (aM Lq (bL nG S t.uF nF (aj (ao 0) aA)) aC))) aJ) aJ) (aq (jf (cP (of_eq a) (ao 1) aW (cH _)) (aq (bK (bJ (bL sZ S t.oO kJ (aj (ao 0) aA)) aC)) aJ) aJ) (aq (jf (cP (of_eq a) (ao 1) aW (cH _)) (aq (bK (bJ (bL sZ S t.oO kJ (aj (ao 0) aA)) (aM Lq (bL nG S t.uF nF (aj (ao 0) aA)) aC))) aJ) aJ) (aq (jf (cP (of_eq a) (ao 1) aW (cH _)) (aq (bK (bJ (bJ (bL R6 S t.oO kJ (aj (fM ["_law_word_here"] (vG [] []) S (fL (ao 0)) (λ_ _ _ _=>(et 0)) (λ_ _ _ _=>fj) (λ_ _ _ _=>(gJ (aj (aM Lq aC (bL nG S t.uF nF (aj (ao 0) aA))) (aj (ao 0) aA)))) (cJ)) aA)) aC) aC)) aJ) aJ) (aq (Ny 2 ["_law_word_here"] (vG ["_law_words"] [0]) S b (fL (ao 0)) (λ_ _ _ _=>(et 1)) (λ_ _ _ _=>fj) (λ_ _ _ _=>(jW (Ga (ao 0) (ao 1)))) (cJ)) (aq (bK (bJ (ao 0) (Qh (ao 2) (bL (V8 S) S t.TJ Lw (aj (ao 2) aA))))) aJ)))))))
theorem zJ:bw ["_law_book_here","_law_view_here","_law_names_here","_law_rows","_law_found","_law_field","_law_how","_law_having","_law_name","_law_words","_law_word_here"] ["_law_book_here","_law_view_here","_law_names_here"] (aH rE):=lJ
theorem zK(d:Ok P w base t.gD 1 2 gA):Ok P w base t.iR 2 3 iM:=Dw (g:=iK) t.iR zJ λ_ _ _ _ _ _ c b a=>(aq (bD 3 a (bL Tp S t.oO kJ (aj (fM ["_law_row_here"] (vG ["_law_names_here"] [2]) S (fL (ao 0)) (λ_ _ _ _=>(et 1)) (λ_ _ _ _=>(gK (cP HE (bJ (ao 1) aC) (ao 0) (by with_unfolding_all rfl)))) (λ_ _ _ _=>(ao 1)) (cJ)) aA))) (aq (bD 4 a (eG aA)) (Zz (i:=3) (aq (GR 1 PassesOwn.never S (u5 S (dj (bf 5 a) (dj (bf 6 a) pK))) (bR [5,6,7,8,9,10] (aq (bD 7 a (eG aA)) (aq (GR 3 PassesOwn.never S (u5 S (dj (bf 8 a) (dj (bf 9 a) pK))) (bR [8,9] (aq (bD 7 a (aM cR (ao 7) (fM ["_law_one","_law_word_here"] (vG ["_law_name","_law_field"] [8,5]) S (fL (ao 9)) (λ_ _ _ _=>(u5 S (dj (et 2) (dj (et 3) pK)))) (λ_ _ _ _=>(gK (cP (of_eq b) (ao 2) (ao 1) (cH _)))) (λ_ _ _ _=>(gJ (aj (ao 0) (aj (ao 3) aA)))) (GZ (jJ (cJ) (jJ (cJ) zT)))))) aJ))) (aq (jf (cP (Xn b) (ao 7) (eG aA) (cH _)) (bR [10] (aq (bD 10 a (dN t.gD d c (aj (jW (fM ["_law_name","_law_word_here"] (vG [] []) S (fL (ao 7)) (λ_ _ _ _=>(u5 S (dj (et 0) (dj (et 1) pK)))) (λ_ _ _ _=>fj) (λ_ _ _ _=>(ao 1)) (GZ (jJ (cJ) (jJ (cJ) zT))))) (aj (ao 6) aA)))) (aq (u6 4 (gJ (aj (ao 5) (aj (ao 10) (aj (gU lD S t.j7 jK (aj (fM ["_law_name","_law_other"] (vG ["_law_word_here"] [10]) S (fL (ao 7)) (λ_ _ _ _=>(u5 S (dj (et 1) (dj (et 2) pK)))) (λ_ _ _ _=>(gK (cP (of_eq b) (ao 2) (ao 0) (cH _)))) (λ_ _ _ _=>(ao 1)) (GZ (jJ (cJ) (jJ (cJ) zT)))) aA)) aA))))) aJ))) (bR [10] aJ)) aJ))))) (aq (GJ 4) aJ)))))
theorem Qm:bw ["book","name","row"] ["book","name"] (aH J1):=lJ
theorem Qn:Ok P w base t.xq 1 2 w6:=Dw (g:=w5) t.xq Qm λ_ _ _ _ _ _ c b a=>(aq (GR 0 PassesOwn.never S (bf 2 a) (bR [2] (aq (jf (cP (of_eq b) (bJ (ao 2) aC) (ao 1) (cH _)) (aq (bK (ao 2)) aJ) aJ) aJ))) (aq V6 aJ))
theorem Mv:bw ["row","field","own_field","word"] ["row","field"] (aH Gg):=lJ
theorem Mw:Ok P w base t.lq 1 2 lg:=Dw (g:=tX) t.lq Mv λ_ _ _ _ _ _ c b a=>(aq (pN PassesOwn.never S (GQ (bJ (ao 0) aC)) (u5 S (dj (bf 2 a) (dj (bf 3 a) pK))) (bR [2,3] (aq (jf (cP (of_eq b) (ao 2) (ao 1) (cH _)) (aq (bK (ao 3)) aJ) aJ) aJ))) (aq (bK Rj) aJ))
theorem Kd:bw ["rows","field"] ["rows","field"] (aH Cj):=lJ
theorem Ke(b:Ok P w base t.lq 1 2 lg):Ok P w base t.jt 2 2 jr:=Dw (g:=qe) t.jt Kd λ_ _ _ _ _ _ a d c=>(aq (bK (fM ["word"] (vG [] []) S (fL (fM ["row"] (vG ["field"] [1]) S (fL (ao 0)) (λ_ _ _ _=>(et 1)) (λ_ _ _ _=>fj) (λ_ _ _ _=>(jW (dN t.lq b a (aj (ao 1) (aj (ao 0) aA))))) (cJ))) (λ_ _ _ _=>(et 0)) (λ_ _ _ _=>(gK (cP VG (ao 0) Rj (cH _)))) (λ_ _ _ _=>(ao 0)) (cJ))) aJ)
theorem yG:bw ["words"] ["words"] (aH qF):=lJ
theorem yH:Ok P w base t.c7 1 1 gC:=Dw (g:=gB) t.c7 yG λ_ _ _ _ _ _ c b a=>(aq (bK (bL (WK S) S t.TJ Lw (aj (ao 0) aA))) aJ)
theorem Dz:bw ["words"] ["words"] (aH wX):=lJ
theorem DG:Ok P w base t.fP 1 1 j4:=Dw (g:=jZ) t.fP Dz λ_ _ _ _ _ _ c b a=>(aq (bK (bL (WD S) S t.XS RB (aj (ao 0) aA))) aJ)
theorem qG:bw ["words"] ["words"] (aH rG):=lJ
theorem zL:Ok P w base t.cV 1 1 fD:=by
 unfold fD;obtain⟨i,f,b,c⟩:=Og t.yC;refine XR (k:=0) (g:=iQ) t.cV.F b qG S S λA outer s H E a=>?_;have e:=zX a;have h:=qG.nd;exact(aq (bK (Qd (x :="word") (xs:=[]) (is:=[]) (cl:=[]) S a.depth (Tn (zX a)) S t.XS RB (Tw S S S S S S trivial S trivial) c S S S (λ_ _ _ _=>S) (ao 0) λd c' s' H'=>(gJ (aj (Rh Lr (bL nG S t.uF nF (aj (ao 0) aA))) (aj (ao 0) aA))))) aJ)
theorem xu:bw ["words"] ["words"] (aH zp):=lJ
theorem HB:Ok P w base t.fG 1 1 jP:=by
 unfold jP;obtain⟨i,f,b,c⟩:=Og t.Dy;refine XR (k:=0) (g:=mV) t.fG.F b xu S S λA outer s H E a=>?_;have e:=zX a;have h:=xu.nd;exact(aq (bK (Qe (x :="word") (xs:=["words"]) (is:=[0]) (cl:=[("words",s.heap.objs.size+1)]) S a.depth Wx S t.TJ Lw (Tw S S S S S S ⟨rfl,trivial⟩ S ⟨⟨rfl,.inl rfl,rfl,_,rfl⟩,trivial⟩) c S S S (λ_ _ _ _=>S) (ao 0) λd c' s' H'=>(Ga (ao 1) (ao 0)))) aJ)
theorem HD:bw ["words"] ["words"] (aH zq):=lJ
theorem HF:Ok P w base t.gZ 1 1 mX:=Dw (g:=mW) t.gZ HD λ_ _ _ _ _ _ c b a=>(aq (bK (bJ (ao 0) (Rh Lr aC))) aJ)
theorem DK:bw ["words"] ["words"] (aH wY):=lJ
theorem DN:Ok P w base t.fQ 1 1 j6:=Dw (g:=j5) t.fQ DK λ_ _ _ _ _ _ c b a=>(aq (bK (bJ (ao 0) aC)) aJ)
theorem Mx:bw ["rows","field","how","choose","chosen"] ["rows","field","how"] (aH Gh):=lJ
theorem Mz(h:Ok P w base t.fQ 1 1 j6)(e:Ok P w base t.c7 1 1 gC)(d:Ok P w base t.gZ 1 1 mX)(n:Ok P w base t.fP 1 1 j4)(f:Ok P w base t.cV 1 1 fD)(j:Ok P w base t.fG 1 1 jP)(c:Ok P w base t.lq 1 2 lg)(m:Ok P w base t.jt 2 2 jr):Ok P w base t.uf 3 3 tZ:=Dw (g:=tY) t.uf Mx λ_ _ _ _ _ _ a i l=>(IP 3 4 l S t.aaq t.aas (tO h (a.mono ()) t.fQ.k t.fQ.b (tO d (a.mono ()) t.gZ.k t.gZ.b (tO j (a.mono ()) t.fG.k t.fG.b (tO f (a.mono ()) t.cV.k t.cV.b (tO n (a.mono ()) t.fP.k t.fP.b (tO e (a.mono ()) t.c7.k t.c7.b G2)))))) (ao 2) (dN t.jt m a (aj (ao 0) (aj (ao 1) aA))) (aq (bK (gJ (aj (ao 1) (aj (ao 4) (aj (gU lD S t.j7 jK (aj (fM ["row"] (vG ["chosen","field"] [4,1]) S (fL (ao 0)) (λ_ _ _ _=>(et 2)) (λ_ _ _ _=>(gK (cP (of_eq i) (dN t.lq c a (aj (ao 2) (aj (ao 1) aA))) (ao 0) (cH _)))) (λ_ _ _ _=>(bJ (ao 2) aC)) (cJ)) aA)) aA))))) aJ))
theorem MF:bw ["book","view","names","rows"] ["book","view","names"] (aH Gi):=lJ
theorem MJ(c:Ok P w base t.xq 1 2 w6)(b:Ok P w base t.uf 3 3 tZ)(e:Ok P w base t.jt 2 2 jr):Ok P w base t.lu 4 3 fO:=Dw (g:=uc) t.lu MF λ_ _ _ _ _ _ a f d=>(aq (bD 3 d (fM ["name"] (vG ["book"] [0]) S (fL (ao 2)) (λ_ _ _ _=>(et 1)) (λ_ _ _ _=>fj) (λ_ _ _ _=>(jW (dN t.xq c a (aj (ao 0) (aj (ao 1) aA))))) (cJ))) (aq (bK (fM ["field","how"] (vG ["rows"] [3]) S (fL (ao 1)) (λ_ _ _ _=>(u5 S (dj (et 1) (dj (et 2) pK)))) (λ_ _ _ _=>(gK (GC (dN t.jt e a (aj (ao 0) (aj (ao 1) aA)))))) (λ_ _ _ _=>(jW (dN t.uf b a (aj (ao 0) (aj (ao 1) (aj (ao 2) aA)))))) (GZ (jJ (cJ) (jJ (cJ) zT))))) aJ))
theorem HJ:bw ["_law_book_here","_law_view_here","_law_names_here","_law_due","_law_found"] ["_law_book_here","_law_view_here","_law_names_here"] (aH zu):=lJ
theorem HN(e:Ok P w base t.iR 2 3 iM)(c:Ok P w base t.lu 4 3 fO):Ok P w base t.g8 5 3 dR:=Dw (g:=mY) t.g8 HJ λ_ _ _ _ _ _ a b d=>(aq (bD 3 d (dN t.iR e a (aj (ao 0) (aj (ao 1) (aj (ao 2) aA))))) (aq (bD 4 d (dN t.lu c a (aj (ao 0) (aj (ao 1) (aj (ao 2) aA))))) (aq (jf (FR (Rn (Ld (GC (Jr (ao 4) S t.qp S t.aar))) (Nu (cP (Xn b) (ao 4) (ao 3) (cH _))))) (aq (bK Ri) aJ) aJ) (aq (jf (Ld (GC (bL (Zm S) S t.acg Zg (aj (fM ["_law_one"] (vG [] []) S (fL (ao 4)) (λ_ _ _ _=>(et 0)) (λ_ _ _ _=>fj) (λ_ _ _ _=>(Lf (wG (ao 0) S t.qp S t.j7) (Le (wG (bJ (ao 0) aC) S t.qp S t.j7)))) (cJ)) aA)))) (aq (bK Ri) aJ) aJ) (aq (u6 4 (gJ (aj aW (aj aW (aj (gJ aA) aA))))) (aq (ZD 4) (aq (bK (Lf (La (of_eq b) (dN t.lu c a (aj (ao 0) (aj (ao 1) (aj (ao 2) aA)))) (ao 3) (cH _)) (Le (La (of_eq b) (dN t.lu c a (aj (jW (Zr (ao 0) (Rh Lr aC))) (aj (ao 1) (aj (ao 2) aA)))) (ao 3) (cH _))))) aJ)))))))
theorem IM:bw ["_law_script","_law_book_here","_law_names_here","_law_cell_here","_law_xs","_law_view_here"] ["_law_script"] (aH s_law):=lJ
theorem Ic(d:Ok P w base t.qj 3 2 pZ)(e:Ok P w base t.gM 1 2 fB)(i:Ok P w base t.dB 1 2 dw)(c:Ok P w base t.g8 5 3 dR)(f:Ok P w base t.qm 1 2 qd)(h:Ok P w base t.ql 1 1 p8):Ok P w base t.x_law 6 1 F_law:=Dw (g:=Oh) t.x_law IM λ_ _ _ _ _ _ a j b=>(aq (bD 1 b (dN t.qj d a (aj (ao 0) (aj aC aA)))) (aq (Ny 2 ["_law_row_here"] (vG [] []) S b (fL (ao 1)) (λ_ _ _ _=>(et 0)) (λ_ _ _ _=>fj) (λ_ _ _ _=>(bJ (ao 0) aC)) (cJ)) (aq (pN PassesOwn.never S (GQ (aM cR (eG (aj (jW (dN t.gM e a (aj (ao 0) (aj aC aA)))) aA)) (Jt (ao 0) (oG aC) (oG aC)))) (bf 3 b) (bR [3,4,5] (aq (bD 4 b (dN t.dB i a (aj (ao 3) (aj aC aA)))) (aq (bD 5 b (dN t.ql h a (aj (ao 4) aA))) (aq (jf (Ld (GC (dN t.g8 c a (aj (ao 1) (aj (ao 5) (aj (jW (dN t.qm f a (aj (ao 2) (aj (jW (Jt (ao 4) (oG aC) wH)) aA)))) aA)))))) (aq (bK Ri) aJ) aJ) aJ))))) (aq (bK (Lf (dN t.g8 c a (aj (ao 1) (aj (gJ (aj (gJ (aj aW (aj aW aA))) (aj (gJ (aj aW (aj aW aA))) aA))) (aj (gU lD S t.j7 jK (aj (bL sZ S t.oO kJ (aj (ao 2) aA)) aA)) aA)))) (Le (dN t.g8 c a (aj (ao 1) (aj (gJ aA) (aj (gJ aA) aA))))))) aJ))))
theorem D1:Ok P w base t.x_law 6 1 F_law:=by
 have a:=J3 (P:=P) (w:=w) (base:=base) t;have d:=Cp (P:=P) (w:=w) (base:=base) t;have y:=Hz (P:=P) (w:=w) (base:=base) t;have u:=J5 (P:=P) (w:=w) (base:=base) t;have s:=Mu (P:=P) (w:=w) (base:=base) t u;have l:=J7 (P:=P) (w:=w) (base:=base) t a y d s;have e:=J9 (P:=P) (w:=w) (base:=base) t;have n:=Kc (P:=P) (w:=w) (base:=base) t;have g:=yF (P:=P) (w:=w) (base:=base) t;have q:=zK (P:=P) (w:=w) (base:=base) t g;have k:=Qn (P:=P) (w:=w) (base:=base) t;have b:=Mw (P:=P) (w:=w) (base:=base) t;have c:=Ke (P:=P) (w:=w) (base:=base) t b;have i:=yH (P:=P) (w:=w) (base:=base) t;have h:=DG (P:=P) (w:=w) (base:=base) t;have f:=zL (P:=P) (w:=w) (base:=base) t;have x:=HB (P:=P) (w:=w) (base:=base) t;have o:=HF (P:=P) (w:=w) (base:=base) t;have v:=DN (P:=P) (w:=w) (base:=base) t;have j:=Mz (P:=P) (w:=w) (base:=base) t v i o h f x b c;have z:=MJ (P:=P) (w:=w) (base:=base) t k j c;have m:=HN (P:=P) (w:=w) (base:=base) t q z;have p:=Ic (P:=P) (w:=w) (base:=base) t l a d m n e;exact p
end
end G35
end
section
set_option synthInstance.maxSize 100000
namespace G35
open L2 P1
noncomputable section
def uG(a:Int)(b:Int):Int:=(let a:=(((a*69621)+b)%2147483647);a)
theorem DP(d:At)(e:Lp bH (d.map eI))(c:Int)(a:Int)(b:Int):RP uD [U bH,U (zE eI c),U (zE eI a),U (zE eI b)] (λs=>An.nx ((λa:Int=>[U bH,U (zE eI c),U (zE eI a),Z]) s)) (uG  a b) (Z):=R.tp (bT (bV 2 (cg (jX (N5 (au 2 (zE eI) a S) 69621 ()) (au 3 (zE eI) b S)) 2147483647 ()) (λ_=>S) λa=>(cF (cG a S))))
def bC(c:At)(a:Int):Int:=(if(decide (a<(c.length:Int)))=true then(Ap c a)else(let b:=((48271*(((a*a)+(7*a))+11))%2147483647);(let b:Int:=((C1 c Z (U 3)).foldl (λ(b:Int) (d:Int)=>(uG  b d)) b);b)))
def gP(b:At)(a:Int):Prop:=(((decide (a<(b.length:Int)))=true->In b.length a)/\((decide (a<(b.length:Int)))=false->DS a a))
theorem MK(c:At)(d:Lp bH (c.map eI))(a:Int):RP pU [U bH,U (zE eI a),Z,Z] (λr=>An.rt (zE eI r)) (bC c a) (U (gP c a)):=R.tp (mK (fu (Xv (au 1 (zE eI) a S) (BV (bM 0 eI c d S)))) (bT (cI (λr=>r) (gk (bM 0 eI c d S) (au 1 (zE eI) a S)) (λ_=>S) λ_=>S)) (cF (bV 2 (cg (Hj 48271 () (jX (jX (Xu (au 1 (zE eI) a S) (au 1 (zE eI) a S)) (Hj 7 () (au 1 (zE eI) a S))) (B9 11))) 2147483647 ()) (λ_=>S) λb=>(Z5 (λb:Int=>[U bH,U (zE eI a),U (zE eI b),Z]) b S (G1 (ZW (bM 0 eI c d S) Wc (Qa (B9 3)))) _ (λ_ _=>S) (λ(b:Int) (e:Int)=>(DP c d a b e).r) (λ_ _=>S) λb=>(cI (λr=>r) (au 2 (zE eI) b S) (λ_=>S) λ_=>S)))))
theorem vP:∀v bs,(aL eI (aZ eI aN)) v bs->bs.length=2/\(B5 (U (gP v.1 v.2.1))->fB (bs.map lend)=U ((zE eI) (bC v.1 v.2.1))):=by
 rintro⟨b,a,_⟩ _ ⟨bH,_,rfl,c,⟨_,rfl,rfl⟩⟩;exact⟨rfl,λh=>bY (g:=pU) (n:=4) (bs:=[lend bH,.z (eI a)]) (MK b (jL c) a) h⟩
def bI(a:Int×At×Int)(e:Int):Int×At×Int:=(let b:=((((a.1*((a.1%65521)+40487))+(7*e))+5)%1999999973);(let d:=a.2.1++[(Ap [b,(a.2.2%1000000)] (if(decide ((0:Int)<a.2.2))=true then(1:Int)else 0))];(let c:=(a.2.2 / (1000000:Int));(b,d,c))))
def fU(a:Int×At×Int)(c:Int):Prop:=(DS a.1 ((a.1%65521)+40487)/\(let b:=((((a.1*((a.1%65521)+40487))+(7*c))+5)%1999999973);(In [b,(a.2.2%1000000)].length (if(decide ((0:Int)<a.2.2))=true then(1:Int)else 0)/\Hq a.2.1.length)))
theorem yJ(d:Int)(e:Int)(a:Int×At×Int)(b:Int):RP jq [U (zE eI d),U (zE eI e),U ((oE eI) a.2.1),U ((zE eI) a.1),U ((zE eI) a.2.2),U (zE eI b)] (λs=>An.nx ((λa:Int×At×Int=>[U (zE eI d),U (zE eI e),U ((oE eI) a.2.1),U ((zE eI) a.1),U ((zE eI) a.2.2),Z]) s)) (bI  a b) (U (fU  a b)):=R.tp (bT (bV 3 (cg (jX (jX (Xu (au 3 (zE eI) a.1 S) (jX (cg (au 3 (zE eI) a.1 S) 65521 ()) (B9 40487))) (Hj 7 () (au 5 (zE eI) b S))) (B9 5)) 1999999973 ()) (λ_=>S) λc=>(bT (Bu 2 a.2.1 S (gk (jl (jg (aK (au 3 (zE eI) c S) (aK (cg (au 4 (zE eI) a.2.2 S) 1000000 ()) (dY eI))) (zC S))) (ZX (ZP (au 4 (zE eI) a.2.2 S) (B9 0)))) λg=>(bT (bV 4 (iI (au 4 (zE eI) a.2.2 S) 1000000 ()) (λ_=>S) λf=>(cF (cG (c,g,f) S))))))))
def oU(d:Int)(e:Int)(a:At)(c:Int)(b:Int):At:=a
def oV:Ev->Y An:=(aD (Dq 2) cY)
theorem yK(d:Int)(e:Int)(a:At)(c:Int)(b:Int):RP oV [U (zE eI d),U (zE eI e),U (oE eI a),U (zE eI c),U (zE eI b),Z] (λr=>An.rt (oE eI r)) (oU d e a c b) (Z):=R.tp (Mh 2 (λr=>r) a S (λ_=>S) λ_=>S)
def fV(g:Int)(b:Int)(d:At)(f:Int)(c:Int):At:=(let a:Int×At×Int:=((rng 0 b.toNat).foldl (λ(a:Int×At×Int) (e:Int)=>(bI  a e)) (f,d,c));(oU g b a.2.1 a.1 a.2.2))
def jw(g:Int)(c:Int)(e:At)(f:Int)(d:Int):Prop:=(Rg c/\pR (λ(a:Int×At×Int) (b:Int)=>(bI  a b)) (λ(a:Int×At×Int) (b:Int)=>U (fU  a b)) (rng 0 c.toNat) (f,e,d))
def oW:Ev->Y An:=(aD (mH (Ij (ak (gv 1) aG)) (n6 5) jq) oV)
theorem yL(c:Int)(b:Int)(e:At)(f:Int)(d:Int):RP oW [U (zE eI c),U (zE eI b),U (oE eI e),U (zE eI f),U (zE eI d),Z] (λr=>An.rt (oE eI r)) (fV c b e f d) (U (jw c b e f d)):=R.tp (FP (λa:Int×At×Int=>[U (zE eI c),U (zE eI b),U ((oE eI) a.2.1),U ((zE eI) a.1),U ((zE eI) a.2.2),Z]) (f,e,d) S (Bt (au 1 (zE eI) b S)) _ (λ_ _=>S) (λ(a:Int×At×Int) (g:Int)=>(yJ c b a g).r) λa=>(yK c b a.2.1 a.1 a.2.2).r)
def oX(a:Int)(e:Int)(c:At)(d:Int)(b:Int):At:=(let b:Int:=(if((decide (a<0))||(decide (((10:Int) ^ 18)<=a)))=true then(let b:=(if a<0 then -a else a);b)else b);(fV a e c d b))
def oY(a:Int)(e:Int)(c:At)(d:Int)(b:Int):Prop:=(let b:Int:=(if((decide (a<0))||(decide (((10:Int) ^ 18)<=a)))=true then(let b:=(if a<0 then -a else a);b)else b);(jw a e c d b))
def oZ:Ev->Y An:=(aD (vW (Xg (vB Zt (gv 0) (cB (.int 0))) (vB Db (gv 0) (b2 VB (cB (.int 10)) (cB (.int 18))))) (aD (aD (B0 4 (bW Pz (ak (gv 0) aG))) cY) (d7 [])) (aD cY (d7 []))) oW)
theorem yM(b:Int)(e:Int)(c:At)(d:Int)(a:Int):RP oZ [U (zE eI b),U (zE eI e),U (oE eI c),U (zE eI d),U (zE eI a),Z] (λr=>An.rt (oE eI r)) (oX b e c d a) (U (oY b e c d a)):=R.tp (N7 (λa:Int=>[U (zE eI b),U (zE eI e),U (oE eI c),U (zE eI d),U (zE eI a),Z]) (Fc (fu (Xv (au 0 (zE eI) b S) (B9 0))) (fu (EL (au 0 (zE eI) b S) (ZM 10 18 18 () S)))) (bT (bV 4 (LS (au 0 (zE eI) b S)) (λ_=>S) λa=>(cF (cG a S)))) (cF (cG a S)) λa=>(yL b e c d a).r)
def o7(d:Int)(e:Int)(b:At)(c:Int):At:=(let a:=(0:Int);(oX d e b c a))
def o8(d:Int)(e:Int)(b:At)(c:Int):Prop:=(let a:=(0:Int);(oY d e b c a))
def o9:Ev->Y An:=(aD (B0 4 (cB (.int 0))) oZ)
theorem yN(c:Int)(d:Int)(a:At)(b:Int):RP o9 [U (zE eI c),U (zE eI d),U (oE eI a),U (zE eI b),Z,Z] (λr=>An.rt (oE eI r)) (o7 c d a b) (U (o8 c d a b)):=R.tp (bV 4 (B9 0) (λ_=>S) λe=>(yM c d a b e).r)
def pq(a:Int)(d:Int)(c:At):At:=(let b:=((((a%1999999973)+31)*765432101)%1999999973);(o7 a d c b))
def pA(a:Int)(d:Int)(c:At):Prop:=(let b:=((((a%1999999973)+31)*765432101)%1999999973);(o8 a d c b))
def yO:Ev->Y An:=(aD (B0 3 (b2 cL (b2 qJ (b2 eN (b2 cL (gv 0) (cB (.int 1999999973))) (cB (.int 31))) (cB (.int 765432101))) (cB (.int 1999999973)))) o9)
theorem yP(a:Int)(c:Int)(b:At):RP yO [U (zE eI a),U (zE eI c),U (oE eI b),Z,Z,Z] (λr=>An.rt (oE eI r)) (pq a c b) (U (pA a c b)):=R.tp (bV 3 (cg (N5 (jX (cg (au 0 (zE eI) a S) 1999999973 ()) (B9 31)) 765432101 ()) 1999999973 ()) (λ_=>S) λd=>(yN a c b d).r)
def aX(a:Int)(c:Int):At:=(let b:=([]:O Int);(pq a c b))
def eE(a:Int)(c:Int):Prop:=(let b:=([]:O Int);(pA a c b))
theorem DR(a:Int)(b:Int):RP jB [U (zE eI a),U (zE eI b),Z,Z,Z,Z] (λr=>An.rt (oE eI r)) (aX a b) (U (eE a b)):=R.tp (bV 2 (jg (dY eI) (zC S)) (λ_=>S) λc=>(yP a b c).r)
theorem nT:∀v bs,(aZ eI (aZ eI aN)) v bs->bs.length=2/\(B5 (U (eE v.1 v.2.1))->dw (bs.map lend)=U ((oE eI) (aX v.1 v.2.1))):=by
 rintro⟨a,b,_⟩ _ ⟨_,rfl,⟨_,rfl,rfl⟩⟩;exact⟨rfl,λh=>bY (g:=jB) (n:=6) (bs:=[.z (eI a),.z (eI b)]) (DR a b) h⟩
def cW(d:At)(f:AJ)(g:AJ)(e:Int)(b:AZ)(c:Int):AZ:=(let h:=(ch f ((c+(Ap d 2))%15));(let a:=(((Txt.slice g Z (U e))++h)++(Txt.slice g (U e) Z));(let a:AJ:=(if(decide (((Ap d 3)%3)=1))=true then(let a:=(Txt.mul (ch f (c / (8:Int))) (1+(c%8)));a)else a);(let b:=b++[a];b))))
def iT(b:At)(d:AJ)(e:AJ)(c:Int)(h:AZ)(a:Int):Prop:=((In b.length 2/\In d.length ((a+(Ap b 2))%15))/\(let g:=(ch d ((a+(Ap b 2))%15));((Hq ((Txt.slice e Z (U c)).length+g.length)/\Hq (((Txt.slice e Z (U c))++g).length+(Txt.slice e (U c) Z).length))/\(let f:=(((Txt.slice e Z (U c))++g)++(Txt.slice e (U c) Z));((In b.length 3/\((decide (((Ap b 3)%3)=1))=true->(In d.length (a / (8:Int))/\((1+(a%8))<=1000 ∧ -1000<=(1+(a%8))/\(ch d (a / (8:Int))).length<=1000))))/\(let f:AJ:=(if(decide (((Ap b 3)%3)=1))=true then(let f:=(Txt.mul (ch d (a / (8:Int))) (1+(a%8)));f)else f);Hq h.length))))))
theorem Cr(g:At)(i:Lp bH (g.map eI))(h:Int)(d:AJ)(f:AJ)(b:Int)(a:AZ)(c:Int):RP lR [U bH,U (zE eI h),U (zE eS d),U (zE eS f),U (zE eI b),U (oE eS a),U (zE eI c),Z,Z] (λs=>An.nx ((λa:AZ=>[U bH,U (zE eI h),U (zE eS d),U (zE eS f),U (zE eI b),U (oE eS a),Z,Z,Z]) s)) (cW g d f b a c) (U (iT g d f b a c)):=R.tp (bT (bV 7 (FJ (au 2 (zE eS) d S) (cg (jX (au 6 (zE eI) c S) (gk (bM 0 eI g i S) (B9 2))) 15 ())) (λ_=>S) λj=>(bT (bV 8 (Bp (Bp (Xy (au 3 (zE eS) f S) Wc (Qa (au 4 (zE eI) b S))) (au 7 (zE eS) j S)) (Xy (au 3 (zE eS) f S) (Qa (au 4 (zE eI) b S)) Wc)) (λ_=>S) λe=>(bT (N7 (λe:AJ=>[U bH,U (zE eI h),U (zE eS d),U (zE eS f),U (zE eI b),U (oE eS a),U (zE eI c),U (zE eS j),U (zE eS e)]) (fu (BN () (cg (gk (bM 0 eI g i S) (B9 3)) 3 ()) (B9 1))) (bT (bV 8 (Sv (FJ (au 2 (zE eS) d S) (iI (au 6 (zE eI) c S) 8 ())) (jX (B9 1) (cg (au 6 (zE eI) c S) 8 ()))) (λ_=>S) λe=>(cF (cG e S)))) (cF (cG e S)) λe=>(bT (Bu 5 a S (au 8 (zE eS) e S) λa=>(cF (cG a S))))))))))
def rM(b:At)(f:Int)(d:AJ)(e:AJ)(c:Int)(a:AZ):AZ:=a
def rN:Ev->Y An:=(aD (Dq 5) cY)
theorem Cu(b:At)(g:Lp bH (b.map eI))(f:Int)(d:AJ)(e:AJ)(c:Int)(a:AZ):RP rN [U bH,U (zE eI f),U (zE eS d),U (zE eS e),U (zE eI c),U (oE eS a),Z,Z,Z] (λr=>An.rt (oE eS r)) (rM b f d e c a) (Z):=R.tp (Mh 5 (λr=>r) a S (λ_=>S) λ_=>S)
def rO(b:At)(f:Int)(d:AJ)(e:AJ)(c:Int)(a:AZ):AZ:=(let a:AZ:=((rng 0 f.toNat).foldl (λ(a:AZ) (g:Int)=>(cW b d e c a g)) a);(rM b f d e c a))
def rP(c:At)(g:Int)(e:AJ)(f:AJ)(d:Int)(a:AZ):Prop:=(Rg g/\pR (λ(a:AZ) (b:Int)=>(cW c e f d a b)) (λ(a:AZ) (b:Int)=>U (iT c e f d a b)) (rng 0 g.toNat) a)
def rQ:Ev->Y An:=(aD (mH (Ij (ak (gv 1) aG)) (n6 6) lR) rN)
theorem Cv(f:At)(g:Lp bH (f.map eI))(b:Int)(d:AJ)(e:AJ)(c:Int)(a:AZ):RP rQ [U bH,U (zE eI b),U (zE eS d),U (zE eS e),U (zE eI c),U (oE eS a),Z,Z,Z] (λr=>An.rt (oE eS r)) (rO f b d e c a) (U (rP f b d e c a)):=R.tp (FP (λa:AZ=>[U bH,U (zE eI b),U (zE eS d),U (zE eS e),U (zE eI c),U (oE eS a),Z,Z,Z]) a S (Bt (au 1 (zE eI) b S)) _ (λ_ _=>S) (λ(a:AZ) (h:Int)=>(Cr f g b d e c a h).r) λa=>(Cu f g b d e c a).r)
def rR(a:At)(f:Int)(d:AJ)(e:AJ)(b:Int):AZ:=(let c:=([]:AZ);(rO a f d e b c))
def rT(a:At)(f:Int)(d:AJ)(e:AJ)(b:Int):Prop:=(let c:=([]:AZ);(rP a f d e b c))
def rW:Ev->Y An:=(aD (B0 5 (bW jc aG)) rQ)
theorem Cw(a:At)(g:Lp bH (a.map eI))(e:Int)(c:AJ)(d:AJ)(b:Int):RP rW [U bH,U (zE eI e),U (zE eS c),U (zE eS d),U (zE eI b),Z,Z,Z,Z] (λr=>An.rt (oE eS r)) (rR a e c d b) (U (rT a e c d b)):=R.tp (bV 5 (jg (dY eS) (zC S)) (λ_=>S) λf=>(Cv a g e c d b f).r)
def iU(a:At)(e:Int)(d:AJ)(b:AJ):AZ:=(let c:=((Ap a 1)%((b.length:Int)+1));(rR a e d b c))
def lW(a:At)(e:Int)(d:AJ)(b:AJ):Prop:=((In a.length 1/\0<((b.length:Int)+1))/\(let c:=((Ap a 1)%((b.length:Int)+1));(rT a e d b c)))
def rY:Ev->Y An:=(aD (B0 4 (b2 cL (b2 gj (gv 0) (cB (.int 1))) (b2 eN (bW qU (ak (gv 3) aG)) (cB (.int 1))))) rW)
theorem Cy(a:At)(e:Lp bH (a.map eI))(d:Int)(c:AJ)(b:AJ):RP rY [U bH,U (zE eI d),U (zE eS c),U (zE eS b),Z,Z,Z,Z,Z] (λr=>An.rt (oE eS r)) (iU a d c b) (U (lW a d c b)):=R.tp (bV 4 (Sd (gk (bM 0 eI a e S) (B9 1)) (jX (Mf (au 3 (zE eS) b S)) (B9 1))) (λ_=>S) λf=>(Cw a e d c b f).r)
def rZ(a:At)(e:Int)(b:AJ):AZ:=(let d:=(Txt.join "" ((rng 0 ((Ap a 0)%6).toNat).map λc:Int=>(ch b (((Ap a c) / (40:Int))%26))));(iU a e b d))
def su(a:At)(e:Int)(c:AJ):Prop:=(((((In a.length 0/\Rg ((Ap a 0)%6))/\(rng 0 ((Ap a 0)%6).toNat).length<=100000)/\(∀b∈(rng 0 ((Ap a 0)%6).toNat),(In a.length b/\In c.length (((Ap a b) / (40:Int))%26))))/\(((rng 0 ((Ap a 0)%6).toNat).map λb:Int=>(ch c (((Ap a b) / (40:Int))%26))).map (·.length)).sum+((rng 0 ((Ap a 0)%6).toNat).map λb:Int=>(ch c (((Ap a b) / (40:Int))%26))).length*("":AJ).length<=100000)/\(let d:=(Txt.join "" ((rng 0 ((Ap a 0)%6).toNat).map λb:Int=>(ch c (((Ap a b) / (40:Int))%26))));(lW a e c d)))
def Cz:Ev->Y An:=(aD (B0 3 (b1 (Fo "") (dH (Ij (ak (b2 cL (b2 gj (gv 0) (cB (.int 0))) (cB (.int 6))) aG)) (n6 2) vC (b2 gj (gv 0) (b2 cL (b2 dZ (b2 gj (gv 1) (gv 2)) (cB (.int 40))) (cB (.int 26)))) [2,0] 1))) rY)
theorem CG(a:At)(c:Lp bH (a.map eI))(d:Int)(b:AJ):RP Cz [U bH,U (zE eI d),U (zE eS b),Z,Z,Z,Z,Z,Z] (λr=>An.rt (oE eS r)) (rZ a d b) (U (su a d b)):=R.tp (bV 3 (Z1 "" (jl (Mg (Bt (cg (gk (bM 0 eI a c S) (B9 0)) 6 ())) _ (λ_=>S) (λe:Int=>(FJ (au 0 (zE eS) b S) (cg (iI (gk (bM 1 eI a c (congrArg U (c.get S))) (au 2 (zE eI) e S)) 40 ()) 26 ())))))) (λ_=>S) λf=>(Cy a c d b f).r)
def cM(a:At)(c:Int):AZ:=(let b:=("abcdefghijklmnopqrstuvwxyz":AJ);(rZ a c b))
def m7(a:At)(c:Int):Prop:=(let b:=("abcdefghijklmnopqrstuvwxyz":AJ);(su a c b))
theorem Kf(a:At)(c:Lp bH (a.map eI))(b:Int):RP mQ [U bH,U (zE eI b),Z,Z,Z,Z,Z,Z,Z] (λr=>An.rt (oE eS r)) (cM a b) (U (m7 a b)):=R.tp (bV 2 (mF "abcdefghijklmnopqrstuvwxyz") (λ_=>S) λd=>(CG a c b d).r)
theorem Kg:∀v bs,(aL eI (aZ eI aN)) v bs->bs.length=2/\(B5 (U (m7 v.1 v.2.1))->jO (bs.map lend)=U ((oE eS) (cM v.1 v.2.1))):=by
 rintro⟨c,a,_⟩ _ ⟨bH,_,rfl,b,⟨_,rfl,rfl⟩⟩;exact⟨rfl,λh=>bY (g:=mQ) (n:=9) (bs:=[lend bH,.z (eI a)]) (Kf c (jL b) a) h⟩
def gq(b:Int)(a:AJ)(c:Int):AJ:=(let a:=(a++(ch ("ab1":AJ) (((b / (16:Int)) / (Ap [(1:Int),(3:Int),(9:Int),(27:Int)] c))%3)));a)
def jC(b:Int)(c:AJ)(a:Int):Prop:=(((In [(1:Int),(3:Int),(9:Int),(27:Int)].length a/\(0<(Ap [(1:Int),(3:Int),(9:Int),(27:Int)] a)/\(Ap [(1:Int),(3:Int),(9:Int),(27:Int)] a)<1073741824))/\In ("ab1":AJ).length (((b / (16:Int)) / (Ap [(1:Int),(3:Int),(9:Int),(27:Int)] a))%3))/\Hq (c.length+(ch ("ab1":AJ) (((b / (16:Int)) / (Ap [(1:Int),(3:Int),(9:Int),(27:Int)] a))%3)).length))
theorem DW(b:Int)(d:AJ)(a:AJ)(c:Int):RP nQ [U (zE eI b),U (zE eS d),U (zE eS a),U (zE eI c)] (λs=>An.nx ((λa:AJ=>[U (zE eI b),U (zE eS d),U (zE eS a),Z]) s)) (gq b a c) (U (jC b a c)):=R.tp (bT (bV 2 (Bp (au 2 (zE eS) a S) (FJ (mF "ab1") (cg (Hl (iI (au 0 (zE eI) b S) 16 ()) (gk (jl (jg (aK (B9 1) (aK (B9 3) (aK (B9 9) (aK (B9 27) (dY eI))))) (zC S))) (au 3 (zE eI) c S))) 3 ()))) (λ_=>S) λa=>(cF (cG a S))))
def uH(b:Int)(c:AJ)(a:AJ):AJ:=a
def uI:Ev->Y An:=(aD (cX (gv 2)) cY)
theorem DX(b:Int)(c:AJ)(a:AJ):RP uI [U (zE eI b),U (zE eS c),U (zE eS a),Z] (λr=>An.rt (zE eS r)) (uH b c a) (Z):=R.tp (cI (λr=>r) (au 2 (zE eS) a S) (λ_=>S) λ_=>S)
def uJ(b:Int)(c:AJ)(a:AJ):AJ:=(let a:AJ:=((rng 0 (1+((b / (4:Int))%4)).toNat).foldl (λ(a:AJ) (d:Int)=>(gq b a d)) a);(uH b c a))
def uK(b:Int)(d:AJ)(a:AJ):Prop:=(Rg (1+((b / (4:Int))%4))/\pR (λ(a:AJ) (c:Int)=>(gq b a c)) (λ(a:AJ) (c:Int)=>U (jC b a c)) (rng 0 (1+((b / (4:Int))%4)).toNat) a)
def uL:Ev->Y An:=(aD (mH (Ij (ak (b2 eN (cB (.int 1)) (b2 cL (b2 dZ (gv 0) (cB (.int 4))) (cB (.int 4)))) aG)) (n6 3) nQ) uI)
theorem DY(b:Int)(c:AJ)(a:AJ):RP uL [U (zE eI b),U (zE eS c),U (zE eS a),Z] (λr=>An.rt (zE eS r)) (uJ b c a) (U (uK b c a)):=R.tp (FP (λa:AJ=>[U (zE eI b),U (zE eS c),U (zE eS a),Z]) a S (Bt (jX (B9 1) (cg (iI (au 0 (zE eI) b S) 4 ()) 4 ()))) _ (λ_ _=>S) (λ(a:AJ) (d:Int)=>(DW b c a d).r) λa=>(DX b c a).r)
def uM(a:Int)(b:AJ):AJ:=(if(decide ((a%16)=5))=true then(Ap [("01":AJ),("1":AJ),("9":AJ),("10":AJ),("001":AJ),("09":AJ),("90":AJ),("010":AJ)] ((a / (16:Int))%8))else(if(decide ((a%16)=9))=true then(Txt.mul ((ch b ((a / (16:Int))%36))++(ch b ((a / (576:Int))%36))) (1+((a / (20736:Int))%6)))else(if(decide ((a%4)=0))=true then(Ap [("a":AJ),("ab":AJ),("abc":AJ),("b":AJ),("1":AJ),("12":AJ),("a1":AJ)] ((a / (4:Int))%7))else(let c:=("":AJ);(uJ a b c)))))
def uN(a:Int)(b:AJ):Prop:=(((decide ((a%16)=5))=true->In [("01":AJ),("1":AJ),("9":AJ),("10":AJ),("001":AJ),("09":AJ),("90":AJ),("010":AJ)].length ((a / (16:Int))%8))/\((decide ((a%16)=5))=false->(((decide ((a%16)=9))=true->(((In b.length ((a / (16:Int))%36)/\In b.length ((a / (576:Int))%36))/\Hq ((ch b ((a / (16:Int))%36)).length+(ch b ((a / (576:Int))%36)).length))/\((1+((a / (20736:Int))%6))<=1000 ∧ -1000<=(1+((a / (20736:Int))%6))/\((ch b ((a / (16:Int))%36))++(ch b ((a / (576:Int))%36))).length<=1000)))/\((decide ((a%16)=9))=false->(((decide ((a%4)=0))=true->In [("a":AJ),("ab":AJ),("abc":AJ),("b":AJ),("1":AJ),("12":AJ),("a1":AJ)].length ((a / (4:Int))%7))/\((decide ((a%4)=0))=false->(let c:=("":AJ);(uK a b c))))))))
def Ea:Ev->Y An:=(aD (vW (vB BQ (b2 cL (gv 0) (cB (.int 16))) (cB (.int 5))) (aD (cX (b2 gj (bW jc (ak (cB (.str "01")) (ak (cB (.str "1")) (ak (cB (.str "9")) (ak (cB (.str "10")) (ak (cB (.str "001")) (ak (cB (.str "09")) (ak (cB (.str "90")) (ak (cB (.str "010")) aG))))))))) (b2 cL (b2 dZ (gv 0) (cB (.int 16))) (cB (.int 8))))) cY) cY) (aD (vW (vB BQ (b2 cL (gv 0) (cB (.int 16))) (cB (.int 9))) (aD (cX (b2 qJ (b2 eN (b2 gj (gv 1) (b2 cL (b2 dZ (gv 0) (cB (.int 16))) (cB (.int 36)))) (b2 gj (gv 1) (b2 cL (b2 dZ (gv 0) (cB (.int 576))) (cB (.int 36))))) (b2 eN (cB (.int 1)) (b2 cL (b2 dZ (gv 0) (cB (.int 20736))) (cB (.int 6)))))) cY) cY) (aD (vW (vB BQ (b2 cL (gv 0) (cB (.int 4))) (cB (.int 0))) (aD (cX (b2 gj (bW jc (ak (cB (.str "a")) (ak (cB (.str "ab")) (ak (cB (.str "abc")) (ak (cB (.str "b")) (ak (cB (.str "1")) (ak (cB (.str "12")) (ak (cB (.str "a1")) aG)))))))) (b2 cL (b2 dZ (gv 0) (cB (.int 4))) (cB (.int 7))))) cY) cY) (aD (B0 2 (cB (.str ""))) uL))))
theorem Eb(a:Int)(b:AJ):RP Ea [U (zE eI a),U (zE eS b),Z,Z] (λr=>An.rt (zE eS r)) (uM a b) (U (uN a b)):=R.tp (mK (fu (BN () (cg (au 0 (zE eI) a S) 16 ()) (B9 5))) (bT (cI (λr=>r) (gk (jl (jg (aK (mF "01") (aK (mF "1") (aK (mF "9") (aK (mF "10") (aK (mF "001") (aK (mF "09") (aK (mF "90") (aK (mF "010") (dY eS))))))))) (zC S))) (cg (iI (au 0 (zE eI) a S) 16 ()) 8 ())) (λ_=>S) λ_=>S)) (cF (mK (fu (BN () (cg (au 0 (zE eI) a S) 16 ()) (B9 9))) (bT (cI (λr=>r) (Sv (Bp (FJ (au 1 (zE eS) b S) (cg (iI (au 0 (zE eI) a S) 16 ()) 36 ())) (FJ (au 1 (zE eS) b S) (cg (iI (au 0 (zE eI) a S) 576 ()) 36 ()))) (jX (B9 1) (cg (iI (au 0 (zE eI) a S) 20736 ()) 6 ()))) (λ_=>S) λ_=>S)) (cF (mK (fu (BN () (cg (au 0 (zE eI) a S) 4 ()) (B9 0))) (bT (cI (λr=>r) (gk (jl (jg (aK (mF "a") (aK (mF "ab") (aK (mF "abc") (aK (mF "b") (aK (mF "1") (aK (mF "12") (aK (mF "a1") (dY eS)))))))) (zC S))) (cg (iI (au 0 (zE eI) a S) 4 ()) 7 ())) (λ_=>S) λ_=>S)) (cF (bV 2 (mF "") (λ_=>S) λc=>(DY a b c).r)))))))
def vQ(a:Int):AJ:=(let b:=("abcdefghijklmnopqrstuvwxyz0123456789":AJ);(uM a b))
def qw(a:Int):Prop:=(let b:=("abcdefghijklmnopqrstuvwxyz0123456789":AJ);(uN a b))
theorem MN(a:Int):RP pW [U (zE eI a),Z,Z,Z] (λr=>An.rt (zE eS r)) (vQ a) (U (qw a)):=R.tp (bV 1 (mF "abcdefghijklmnopqrstuvwxyz0123456789") (λ_=>S) λb=>(Eb a b).r)
theorem MP:∀v bs,(aZ eI aN) v bs->bs.length=1/\(B5 (U (qw v.1))->pX (bs.map lend)=U ((zE eS) (vQ v.1))):=by
 rintro⟨a,_⟩ _ ⟨_,rfl,rfl⟩;exact⟨rfl,λh=>bY (g:=pW) (n:=4) (bs:=[.z (eI a)]) (MN a) h⟩
def fW(c:At)(d:AZ)(a:O aP)(b:Int):(O aP):=(let a:(O aP):=(if(decide ((0:Int)<((Ap c b)%4)))=true then(let a:=a++[((Ap d b),(vQ ((Ap c b) / (4:Int))))];a)else a);a)
def j8(b:At)(c:AZ)(d:O aP)(a:Int):Prop:=(In b.length a/\((decide ((0:Int)<((Ap b a)%4)))=true->((In c.length a/\(In b.length a/\(qw ((Ap b a) / (4:Int)))))/\Hq d.length)))
theorem HS(f:AJ)(d:At){e:Bx}(g:Lp e (d.map eI))(c:AZ)(a:O aP)(b:Int):RP wZ [U (zE eS f),U e,U (oE eS c),U (oE cj a),U (zE eI b)] (λs=>An.nx ((λa:(O aP)=>[U (zE eS f),U e,U (oE eS c),U (oE cj a),Z]) s)) (fW d c a b) (U (j8 d c a b)):=R.tp (bT (N7 (λa:(O aP)=>[U (zE eS f),U e,U (oE eS c),U (oE cj a),U (zE eI b)]) (fu (ZP (cg (gk (bM 1 eI d g S) (au 4 (zE eI) b S)) 4 ()) (B9 0))) (bT (Bu 3 a S (q9 (gk (jd (au 2 (lE eS) c S)) (au 4 (zE eI) b S)) (oK (B1 MP (cZ (iI (gk (bM 1 eI d g S) (au 4 (zE eI) b S)) 4 ()) cD)))) λa=>(cF (cG a S)))) (cF (cG a S)) λa=>(cF (cG a S))))
def jx(e:AJ)(b:At):aO:=(let d:=[("day":AJ),("name":AJ),(("name":AJ)++("s":AJ)),("p":AJ)];(let a:=([]:O aP);(let a:(O aP):=((rng 0 (kN 4)).foldl (λ(a:O aP) (c:Int)=>(fW b d a c)) a);(e,a))))
def pB(e:AJ)(c:At):Prop:=(Hq (("name":AJ).length+("s":AJ).length)/\(let d:=[("day":AJ),("name":AJ),(("name":AJ)++("s":AJ)),("p":AJ)];(let a:=([]:O aP);pR (λ(a:O aP) (b:Int)=>(fW c d a b)) (λ(a:O aP) (b:Int)=>U (j8 c d a b)) (rng 0 (kN 4)) a)))
theorem Qo(b:AJ)(c:At){d:Bx}(f:Lp d (c.map eI)):RP tU [U (zE eS b),U d,Z,Z,Z] (λr=>An.rt (zE aR r)) (jx b c) (U (pB b c)):=R.tp (bV 2 (jg (aK (mF "day") (aK (mF "name") (aK (oK (Bp (mF "name") (mF "s"))) (aK (mF "p") (dY eS))))) (zC S)) (λ_=>S) λe=>(bV 3 (jg (dY cj) (zC S)) (λ_=>S) λa=>(FP (λa:(O aP)=>[U (zE eS b),U d,U (oE eS e),U (oE cj a),Z]) a S (Z7 4 4 S (by unfold Rg;decide)) _ (λ_ _=>S) (λ(a:O aP) (g:Int)=>(HS b c f e a g).r) λa=>(cI (λr=>r) (q9 (au 0 (zE eS) b S) (pQ (jd (au 3 (lE cj) a S)))) (λ_=>S) λ_=>S))))
theorem Qp:∀v bs,(aZ eS (aL eI aN)) v bs->bs.length=2/\(B5 (U (pB v.1 v.2.1))->tW (bs.map lend)=U ((zE aR) (jx v.1 v.2.1))):=by
 rintro⟨a,c,_⟩ _ ⟨_,rfl,⟨d,_,rfl,b,rfl⟩⟩;exact⟨rfl,λh=>bY (g:=tU) (n:=5) (bs:=[.z (eS a),lend d]) (Qo a c (jL b)) h⟩
def jD(e:At)(d:At)(c:AZ)(a:O aO)(b:Int):(O aO):=(let a:=a++[(jx (Ap c (((4*b)+(Ap d 7))%15)) (aX (bC e (1+b)) 4))];a)
def nU(c:At)(b:At)(d:AZ)(e:O aO)(a:Int):Prop:=((((In b.length 7/\In d.length (((4*a)+(Ap b 7))%15))/\((gP c (1+a))/\(eE (bC c (1+a)) 4)))/\(pB (Ap d (((4*a)+(Ap b 7))%15)) (aX (bC c (1+a)) 4)))/\Hq e.length)
theorem Ed(e:At)(h:Lp bH (e.map eI))(f:Int)(c:At)(b:AZ)(g:Int)(a:O aO)(d:Int):RP nR [U bH,U (zE eI f),U (oE eI c),U (oE eS b),U (zE eI g),U (oE aR a),U (zE eI d)] (λs=>An.nx ((λa:(O aO)=>[U bH,U (zE eI f),U (oE eI c),U (oE eS b),U (zE eI g),U (oE aR a),Z]) s)) (jD e c b a d) (U (nU e c b a d)):=R.tp (bT (Bu 5 a S (oK (B1 Qp (cZ (gk (jd (au 3 (lE eS) b S)) (cg (jX (Hj 4 () (au 6 (zE eI) d S)) (gk (jd (au 2 (lE eI) c S)) (B9 7))) 15 ())) (yj (ZJ (ZL (B1 nT (cZ (oK (B1 vP (yj (bM 0 eI e h S) (cZ (oK (jX (B9 1) (au 6 (zE eI) d S))) cD)))) (cZ (B9 4) cD))))) cD)))) λa=>(cF (cG a S))))
def uO(e:At)(d:Int)(c:At)(b:AZ)(f:Int)(a:O aO):(O aO):=a
def uP:Ev->Y An:=(aD (cX (bW ji (ak (gv 5) aG))) cY)
theorem Ef(e:At)(g:Lp bH (e.map eI))(d:Int)(c:At)(b:AZ)(f:Int)(a:O aO):RP uP [U bH,U (zE eI d),U (oE eI c),U (oE eS b),U (zE eI f),U (oE aR a),Z] (λr=>An.rt ((zE (eT aR)) r)) (uO e d c b f a) (Z):=R.tp (cI (λr=>r) (pQ (jd (au 5 (lE aR) a S))) (λ_=>S) λ_=>S)
def uQ(d:At)(g:Int)(c:At)(b:AZ)(e:Int)(a:O aO):(O aO):=(let a:(O aO):=((rng 0 e.toNat).foldl (λ(a:O aO) (f:Int)=>(jD d c b a f)) a);(uO d g c b e a))
def uR(e:At)(g:Int)(d:At)(c:AZ)(f:Int)(a:O aO):Prop:=(Rg f/\pR (λ(a:O aO) (b:Int)=>(jD e d c a b)) (λ(a:O aO) (b:Int)=>U (nU e d c a b)) (rng 0 f.toNat) a)
def uT:Ev->Y An:=(aD (mH (Ij (ak (gv 4) aG)) (n6 6) nR) uP)
theorem Eh(f:At)(g:Lp bH (f.map eI))(e:Int)(d:At)(c:AZ)(b:Int)(a:O aO):RP uT [U bH,U (zE eI e),U (oE eI d),U (oE eS c),U (zE eI b),U (oE aR a),Z] (λr=>An.rt ((zE (eT aR)) r)) (uQ f e d c b a) (U (uR f e d c b a)):=R.tp (FP (λa:(O aO)=>[U bH,U (zE eI e),U (oE eI d),U (oE eS c),U (zE eI b),U (oE aR a),Z]) a S (Bt (au 4 (zE eI) b S)) _ (λ_ _=>S) (λ(a:O aO) (h:Int)=>(Ed f g e d c b a h).r) λa=>(Ef f g e d c b a).r)
def uU(e:At)(d:Int)(c:At)(a:AZ)(f:Int):(O aO):=(let b:=([]:O aO);(uQ e d c a f b))
def uV(e:At)(d:Int)(c:At)(a:AZ)(f:Int):Prop:=(let b:=([]:O aO);(uR e d c a f b))
def uW:Ev->Y An:=(aD (B0 5 (bW jc aG)) uT)
theorem Ei(d:At)(g:Lp bH (d.map eI))(c:Int)(b:At)(a:AZ)(e:Int):RP uW [U bH,U (zE eI c),U (oE eI b),U (oE eS a),U (zE eI e),Z,Z] (λr=>An.rt ((zE (eT aR)) r)) (uU d c b a e) (U (uV d c b a e)):=R.tp (bV 5 (jg (dY aR) (zC S)) (λ_=>S) λf=>(Eh d g c b a e f).r)
def nW(d:At)(a:Int)(b:At)(c:AZ):(O aO):=(let e:=(Ap [(1:Int),(2:Int),(5:Int),(8:Int),a,a] ((Ap b 6)%6));(uU d a b c e))
def uX(d:At)(a:Int)(b:At)(c:AZ):Prop:=((In b.length 6/\In [(1:Int),(2:Int),(5:Int),(8:Int),a,a].length ((Ap b 6)%6))/\(let e:=(Ap [(1:Int),(2:Int),(5:Int),(8:Int),a,a] ((Ap b 6)%6));(uV d a b c e)))
def uY:Ev->Y An:=(aD (B0 4 (b2 gj (bW jc (ak (cB (.int 1)) (ak (cB (.int 2)) (ak (cB (.int 5)) (ak (cB (.int 8)) (ak (gv 1) (ak (gv 1) aG))))))) (b2 cL (b2 gj (gv 2) (cB (.int 6))) (cB (.int 6))))) uW)
theorem Ej(d:At)(e:Lp bH (d.map eI))(a:Int)(b:At)(c:AZ):RP uY [U bH,U (zE eI a),U (oE eI b),U (oE eS c),Z,Z,Z] (λr=>An.rt ((zE (eT aR)) r)) (nW d a b c) (U (uX d a b c)):=R.tp (bV 4 (gk (jl (jg (aK (B9 1) (aK (B9 2) (aK (B9 5) (aK (B9 8) (aK (au 1 (zE eI) a S) (aK (au 1 (zE eI) a S) (dY eI))))))) (zC S))) (cg (gk (jd (au 2 (lE eI) b S)) (B9 6)) 6 ())) (λ_=>S) λf=>(Ei d e a b c f).r)
def nY(c:At)(b:Int)(a:At):(O aO):=(let d:=(cM a 15);(nW c b a d))
def uZ(c:At)(b:Int)(a:At):Prop:=((m7 a 15)/\(let d:=(cM a 15);(uX c b a d)))
def Ek:Ev->Y An:=(aD (B0 3 (bN 2 jO (ak (gv 2) (ak (cB (.int 15)) aG)))) uY)
theorem El(c:At)(e:Lp bH (c.map eI))(b:Int)(a:At):RP Ek [U bH,U (zE eI b),U (oE eI a),Z,Z,Z,Z] (λr=>An.rt ((zE (eT aR)) r)) (nY c b a) (U (uZ c b a)):=R.tp (bV 3 (B1 Kg (yj (jd (au 2 (lE eI) a S)) (cZ (B9 15) cD))) (λ_=>S) λd=>(Ej c e b a d).r)
def bZ(a:At)(c:Int):(O aO):=(let b:=(aX (bC a 0) 9);(nY a c b))
def qx(a:At)(c:Int):Prop:=(((gP a 0)/\(eE (bC a 0) 9))/\(let b:=(aX (bC a 0) 9);(uZ a c b)))
theorem M4(a:At)(c:Lp bH (a.map eI))(b:Int):RP pY [U bH,U (zE eI b),Z,Z,Z,Z,Z] (λr=>An.rt ((zE (eT aR)) r)) (bZ a b) (U (qx a b)):=R.tp (bV 2 (B1 nT (cZ (oK (B1 vP (yj (bM 0 eI a c S) (cZ (B9 0) cD)))) (cZ (B9 9) cD))) (λ_=>S) λd=>(El a c b d).r)
theorem M5:∀v bs,(aL eI (aZ eI aN)) v bs->bs.length=2/\(B5 (U (qx v.1 v.2.1))->pZ (bs.map lend)=U ((zE (eT aR)) (bZ v.1 v.2.1))):=by
 rintro⟨b,a,_⟩ _ ⟨bH,_,rfl,c,⟨_,rfl,rfl⟩⟩;exact⟨rfl,λh=>bY (g:=pY) (n:=7) (bs:=[lend bH,.z (eI a)]) (M4 b (jL c) a) h⟩
def dF(b:At)(e:AZ)(a:AZ×(O aP))(c:Int):AZ×(O aP):=(let y2:=a.1;let d:=(((Ap b 1) / (Ap [(1:Int),(5:Int),(20:Int),(60:Int),(120:Int)] c))%(a.1.length:Int));let h:=y2.eraseIdx d.toNat;let g:=Ap y2 d;(let f:=a.2++[(g,(Ap e ((Ap b (2+c))%6)))];(h,f)))
def jE(c:At)(e:AZ)(a:AZ×(O aP))(b:Int):Prop:=(((((In c.length 1/\In [(1:Int),(5:Int),(20:Int),(60:Int),(120:Int)].length b)/\(0<(Ap [(1:Int),(5:Int),(20:Int),(60:Int),(120:Int)] b)/\(Ap [(1:Int),(5:Int),(20:Int),(60:Int),(120:Int)] b)<1073741824))/\0<(a.1.length:Int))/\(0<=(((Ap c 1) / (Ap [(1:Int),(5:Int),(20:Int),(60:Int),(120:Int)] b))%(a.1.length:Int))/\(((Ap c 1) / (Ap [(1:Int),(5:Int),(20:Int),(60:Int),(120:Int)] b))%(a.1.length:Int))<a.1.length/\a.1.length<=100000))/\(let y2:=a.1;let d:=(((Ap c 1) / (Ap [(1:Int),(5:Int),(20:Int),(60:Int),(120:Int)] b))%(a.1.length:Int));let g:=y2.eraseIdx d.toNat;let f:=Ap y2 d;((In c.length (2+b)/\In e.length ((Ap c (2+b))%6))/\Hq a.2.length)))
theorem Em(b:At)(e:Lp bH (b.map eI))(c:AZ)(a:AZ×(O aP))(d:Int):RP uE [U bH,U ((oE eS) a.1),U (oE eS c),U ((oE cj) a.2),U (zE eI d),Z] (λs=>An.nx ((λa:AZ×(O aP)=>[U bH,U ((oE eS) a.1),U (oE eS c),U ((oE cj) a.2),Z,Z]) s)) (dF b c a d) (U (jE b c a d)):=R.tp (bT (KW 5 1 a.1 S (Sd (Hl (gk (bM 0 eI b e S) (B9 1)) (gk (jl (jg (aK (B9 1) (aK (B9 5) (aK (B9 20) (aK (B9 60) (aK (B9 120) (dY eI)))))) (zC S))) (au 4 (zE eI) d S))) (BV (jd (au 1 (lE eS) a.1 S)))) λh g=>(bT (Bu 3 a.2 S (q9 (au 5 (zE eS) g S) (gk (jd (au 2 (lE eS) c S)) (cg (gk (bM 0 eI b e S) (jX (B9 2) (au 4 (zE eI) d S))) 6 ()))) λf=>(cF (cG (h,f) S))))))
def gQ(b:At):(O aP):=(let f:=[("day":AJ),("name":AJ),("names":AJ),("p":AJ),("zzz":AJ)];(let c:=[("first":AJ),("last":AJ),("most":AJ),("longest":AJ),("least":AJ),("greatest":AJ)];(let d:=([]:O aP);(let a:AZ×(O aP):=((rng 0 ((Ap b 0)%6).toNat).foldl (λ(a:AZ×(O aP)) (e:Int)=>(dF b c a e)) (f,d));a.2))))
def qy(a:At):Prop:=(let f:=[("day":AJ),("name":AJ),("names":AJ),("p":AJ),("zzz":AJ)];(let d:=[("first":AJ),("last":AJ),("most":AJ),("longest":AJ),("least":AJ),("greatest":AJ)];(let e:=([]:O aP);((In a.length 0/\Rg ((Ap a 0)%6))/\pR (λ(b:AZ×(O aP)) (c:Int)=>(dF a d b c)) (λ(b:AZ×(O aP)) (c:Int)=>U (jE a d b c)) (rng 0 ((Ap a 0)%6).toNat) (f,e)))))
theorem M6(b:At)(d:Lp bH (b.map eI)):RP p7 [U bH,Z,Z,Z,Z,Z] (λr=>An.rt ((zE (eT cj)) r)) (gQ b) (U (qy b)):=R.tp (bV 1 (jg (aK (mF "day") (aK (mF "name") (aK (mF "names") (aK (mF "p") (aK (mF "zzz") (dY eS)))))) (zC S)) (λ_=>S) λg=>(bV 2 (jg (aK (mF "first") (aK (mF "last") (aK (mF "most") (aK (mF "longest") (aK (mF "least") (aK (mF "greatest") (dY eS))))))) (zC S)) (λ_=>S) λc=>(bV 3 (jg (dY cj) (zC S)) (λ_=>S) λe=>(FP (λa:AZ×(O aP)=>[U bH,U ((oE eS) a.1),U (oE eS c),U ((oE cj) a.2),Z,Z]) (g,e) S (Bt (cg (gk (bM 0 eI b d S) (B9 0)) 6 ())) _ (λ_ _=>S) (λ(a:AZ×(O aP)) (f:Int)=>(Em b d c a f).r) λa=>(cI (λr=>r) (pQ (jd (au 3 (lE cj) a.2 S))) (λ_=>S) λ_=>S)))))
theorem M7:∀v bs,(aL eI aN) v bs->bs.length=1/\(B5 (U (qy v.1))->p8 (bs.map lend)=U ((zE (eT cj)) (gQ v.1))):=by
 rintro⟨a,_⟩ _ ⟨bH,_,rfl,b,rfl⟩;exact⟨rfl,λh=>bY (g:=p7) (n:=6) (bs:=[lend bH]) (M6 a (jL b)) h⟩
def gR(c:AZ)(b:At):AZ:=(gY (((rng 0 (c.length:Int).toNat).filter λa:Int=>(decide ((0:Int)<(((Ap b (a%(b.length:Int))) / (1+(a / (b.length:Int))))%3)))).map λa:Int=>(Ap c a)))
def qz(c:AZ)(a:At):Prop:=(((Rg (c.length:Int)/\(rng 0 (c.length:Int).toNat).length<=100000)/\(∀b∈(rng 0 (c.length:Int).toNat),((((0<(a.length:Int)/\In a.length (b%(a.length:Int)))/\(0<(a.length:Int)/\(a.length:Int)<1073741824))/\(0<(1+(b / (a.length:Int)))/\(1+(b / (a.length:Int)))<1073741824))/\((decide ((0:Int)<(((Ap a (b%(a.length:Int))) / (1+(b / (a.length:Int))))%3)))=true->In c.length b))))/\(((rng 0 (c.length:Int).toNat).filter λb:Int=>(decide ((0:Int)<(((Ap a (b%(a.length:Int))) / (1+(b / (a.length:Int))))%3)))).map λb:Int=>(Ap c b)).length<64)
theorem M8(c:AZ)(e:Lp bH (c.map eS))(a:At){f:Bx}(b:Lp f (a.map eI)):RP qb [U bH,U f] (λr=>An.rt ((zE (eT eS)) r)) (gR c a) (U (qz c a)):=R.tp (cI (λr=>r) (pQ (jl (z6 (jl (z7 (Bt (BV (bM 0 eS c e S))) _ (λ_=>S) (λd:Int=>(fu (ZP (cg (Hl (gk (bM 1 eI a b (congrArg U (b.get S))) (Sd (au 2 (zE eI) d S) (BV (bM 1 eI a b (congrArg U (b.get S)))))) (jX (B9 1) (Hl (au 2 (zE eI) d S) (BV (bM 1 eI a b (congrArg U (b.get S))))))) 3 ()) (B9 0)))) (λd:Int=>(gk (bM 0 eS c e (congrArg U (e.get S))) (au 2 (zE eI) d S)))))))) (λ_=>S) λ_=>S)
theorem M9:∀v bs,(aL eS (aL eI aN)) v bs->bs.length=2/\(B5 (U (qz v.1 v.2.1))->qd (bs.map lend)=U ((zE (eT eS)) (gR v.1 v.2.1))):=by
 rintro⟨b,a,_⟩ _ ⟨bH,_,rfl,d,⟨e,_,rfl,c,rfl⟩⟩;exact⟨rfl,λh=>bY (g:=qb) (n:=2) (bs:=[lend bH,lend e]) (M8 b (jL d) a (jL c)) h⟩
def lX(b:AZ)(c:AJ)(a:At):AJ:=(Ap b ((a.findIdx (·==(qK a)):Nat):Int))
def lY(b:AZ)(c:AJ)(a:At):Prop:=((0<a.length/\((qK a)∈a/\a.length<=100000))/\In b.length ((a.findIdx (·==(qK a)):Nat):Int))
def vR:Ev->Y An:=(aD (cX (b2 gj (gv 0) (b2 tK (gv 2) (bW Fz (ak (gv 2) aG))))) cY)
theorem vU(b:AZ)(d:Lp bH (b.map eS))(c:AJ)(a:At):RP vR [U bH,U (zE eS c),U (oE eI a)] (λr=>An.rt (zE eS r)) (lX b c a) (U (lY b c a)):=R.tp (cI (λr=>r) (gk (bM 0 eS b d S) (Tq (jd (au 2 (lE eI) a S)) (KM (jd (au 2 (lE eI) a S))))) (λ_=>S) λ_=>S)
def dh(a:AZ)(b:AJ):AJ:=(if(decide (b=("first":AJ)))=true then(Ap a 0)else(if(decide (b=("last":AJ)))=true then(Ap a ((a.length:Int)-1))else(if(decide (b=("least":AJ)))=true then(Ap (gY a) 0)else(if(decide (b=("greatest":AJ)))=true then(Ap (gY a) ((a.length:Int)-1))else(if(decide (b=("longest":AJ)))=true then(Ap (wU Ms (a.map λc:AJ=>(((0:Int)-(c.length:Int)),c))) 0).2 else(let d:=(a.map λc:AJ=>((a.count c:Nat):Int));(lX a b d)))))))
def gF(a:AZ)(b:AJ):Prop:=(((decide (b=("first":AJ)))=true->In a.length 0)/\((decide (b=("first":AJ)))=false->(((decide (b=("last":AJ)))=true->In a.length ((a.length:Int)-1))/\((decide (b=("last":AJ)))=false->(((decide (b=("least":AJ)))=true->(a.length<64/\In (gY a).length 0))/\((decide (b=("least":AJ)))=false->(((decide (b=("greatest":AJ)))=true->(a.length<64/\In (gY a).length ((a.length:Int)-1)))/\((decide (b=("greatest":AJ)))=false->(((decide (b=("longest":AJ)))=true->((a.length<=100000/\(a.map λc:AJ=>(((0:Int)-(c.length:Int)),c)).length<64)/\In (wU Ms (a.map λc:AJ=>(((0:Int)-(c.length:Int)),c))).length 0))/\((decide (b=("longest":AJ)))=false->(a.length<=100000/\(let d:=(a.map λc:AJ=>((a.count c:Nat):Int));(lY a b d)))))))))))))
theorem zM(a:AZ)(b:Lp bH (a.map eS))(c:AJ):RP gw [U bH,U (zE eS c),Z] (λr=>An.rt (zE eS r)) (dh a c) (U (gF a c)):=R.tp (mK (fu (BN () (au 1 (zE eS) c S) (mF "first"))) (bT (cI (λr=>r) (gk (bM 0 eS a b S) (B9 0)) (λ_=>S) λ_=>S)) (cF (mK (fu (BN () (au 1 (zE eS) c S) (mF "last"))) (bT (cI (λr=>r) (gk (bM 0 eS a b S) (R9 (BV (bM 0 eS a b S)) (B9 1))) (λ_=>S) λ_=>S)) (cF (mK (fu (BN () (au 1 (zE eS) c S) (mF "least"))) (bT (cI (λr=>r) (gk (jl (z6 (bM 0 eS a b S))) (B9 0)) (λ_=>S) λ_=>S)) (cF (mK (fu (BN () (au 1 (zE eS) c S) (mF "greatest"))) (bT (cI (λr=>r) (gk (jl (z6 (bM 0 eS a b S))) (R9 (BV (bM 0 eS a b S)) (B9 1))) (λ_=>S) λ_=>S)) (cF (mK (fu (BN () (au 1 (zE eS) c S) (mF "longest"))) (bT (cI (λr=>r) (Bo (gk (jl (HI (jl (wO (JK (bM 0 eS a b S)) _ (λ_=>S) (λd:AJ=>(q9 (R9 (B9 0) (Mf (au 0 (zE eS) d S))) (au 0 (zE eS) d S))) λ_=>S)))) (B9 0)) (λq=>q.2) eS 1 λ_=>S) (λ_=>S) λ_=>S)) (cF (bV 2 (wO (JK (bM 0 eS a b S)) _ (λ_=>S) (λd:AJ=>(oK (JX (bM 0 eS a b (congrArg U (b.get S))) (au 1 (zE eS) d S)))) λ_=>S) (λ_=>S) λe=>(vU a b c e).r)))))))))))
theorem zN:∀v bs,(aL eS (aZ eS aN)) v bs->bs.length=2/\(B5 (U (gF v.1 v.2.1))->gA (bs.map lend)=U ((zE eS) (dh v.1 v.2.1))):=by
 rintro⟨c,a,_⟩ _ ⟨bH,_,rfl,b,⟨_,rfl,rfl⟩⟩;exact⟨rfl,λh=>bY (g:=gw) (n:=3) (bs:=[lend bH,.z (eS a)]) (zM c (jL b) a) h⟩
def bx(a:AJ)(vs:O aP)(q2:aO):(O aP):=(let vs:=(vs++((q2.2.filter λq3:aP=>(decide (q3.1=a))).map λq3:aP=>(q2.1,q3.2)));vs)
def eU(a:AJ)(vs:O aP)(q2:aO):Prop:=(q2.2.length<=100000/\Hq (vs.length+((q2.2.filter λq3:aP=>(decide (q3.1=a))).map λq3:aP=>(q2.1,q3.2)).length))
theorem xG(e:O aO)(vo:O aP)(c:AZ)(b:O aO)(d:O cN)(a:AJ)(f:AJ)(vs:O aP)(q2:aO):RP mR [U ((zE (eT aR)) e),U ((zE (eT cj)) vo),U ((zE (eT eS)) c),U ((zE (eL aR)) b),U (oE f9 d),U (zE eS a),U (zE eS f),U (oE cj vs),U ((zE eS) q2.1),U ((zE (eT cj)) q2.2),Z] (λs=>An.nx ((λvs:(O aP)=>[U ((zE (eT aR)) e),U ((zE (eT cj)) vo),U ((zE (eT eS)) c),U ((zE (eL aR)) b),U (oE f9 d),U (zE eS a),U (zE eS f),U (oE cj vs),Z,Z,Z]) s)) (bx a vs q2) (U (eU a vs q2)):=R.tp (bT (bV 7 (Ss (jd (au 7 (lE cj) vs S)) (jl (Br (SJ (au 9 (zE (eT cj)) q2.2 S)) _ (λ_=>S) (λq3:aP=>(fu (BN () (au 2 (zE eS) q3.1 S) (au 1 (zE eS) a S)))) (λq3:aP=>(q9 (au 0 (zE eS) q2.1 S) (au 3 (zE eS) q3.2 S))) (λ_=>S) λ_=>S))) (λ_=>S) λvs=>(cF (cG vs S))))
def bF(d:O aO)(a:O cN)(q1:aP):(O cN):=(let vs:=([]:O aP);(let vs:(O aP):=(d.foldl (λ(vs:O aP) (q2:aO)=>(bx q1.1 vs q2)) vs);(let a:(O cN):=(if(!decide (vs=([]:O aP)))=true then(let c:=(dh (vs.map λe:aP=>e.2) q1.2);(let a:=a++[(q1.1,c,((vs.filter λb:aP=>(decide (b.2=c))).map λb:aP=>b.1))];a))else a);a)))
def eV(b:O aO)(c:O cN)(q1:aP):Prop:=(let vs:=([]:O aP);(pR (λ(vs:O aP) (q2:aO)=>(bx q1.1 vs q2)) (λ(vs:O aP) (q2:aO)=>U (eU q1.1 vs q2)) b vs/\(let vs:(O aP):=(b.foldl (λ(vs:O aP) (q2:aO)=>(bx q1.1 vs q2)) vs);((!decide (vs=([]:O aP)))=true->((vs.length<=100000/\(gF (vs.map λa:aP=>a.2) q1.2))/\(let d:=(dh (vs.map λa:aP=>a.2) q1.2);(vs.length<=100000/\Hq c.length)))))))
theorem xH(d:O aO)(vo:O aP)(c:AZ)(b:O aO)(a:O cN)(q1:aP):RP mU [U ((zE (eT aR)) d),U ((zE (eT cj)) vo),U ((zE (eT eS)) c),U ((zE (eL aR)) b),U (oE f9 a),U ((zE eS) q1.1),U ((zE eS) q1.2),Z,Z,Z,Z] (λs=>An.nx ((λa:(O cN)=>[U ((zE (eT aR)) d),U ((zE (eT cj)) vo),U ((zE (eT eS)) c),U ((zE (eL aR)) b),U (oE f9 a),Z,Z,Z,Z,Z,Z]) s)) (bF b a q1) (U (eV b a q1)):=R.tp (bT (bV 7 (jg (dY cj) (zC S)) (λ_=>S) λvs=>(bT (SQ 3 b (Z6 S) (λvs:(O aP)=>[U ((zE (eT aR)) d),U ((zE (eT cj)) vo),U ((zE (eT eS)) c),U ((zE (eL aR)) b),U (oE f9 a),U ((zE eS) q1.1),U ((zE eS) q1.2),U (oE cj vs),Z,Z,Z]) vs S _ (λ_ _=>S) (λ(vs:O aP) (q2:aO)=>(xG d vo c b a q1.1 q1.2 vs q2).r) λvs=>(bT (N7 (λa:(O cN)=>[U ((zE (eT aR)) d),U ((zE (eT cj)) vo),U ((zE (eT eS)) c),U ((zE (eL aR)) b),U (oE f9 a),U ((zE eS) q1.1),U ((zE eS) q1.2),U (oE cj vs),Z,Z,Z]) (fu (Xx () (jd (au 7 (lE cj) vs S)) (jl (jg (dY cj) (zC S))))) (bT (bV 10 (B1 zN (yj (ZJ (ZL (wO (JK (jd (au 7 (lE cj) vs S))) _ (λ_=>S) (λg:aP=>(au 1 (zE eS) g.2 S)) λ_=>S))) (cZ (au 6 (zE eS) q1.2 S) cD))) (λ_=>S) λf=>(bT (Bu 4 a S (Ma (au 5 (zE eS) q1.1 S) (au 10 (zE eS) f S) (pQ (jl (Br (JK (jd (au 7 (lE cj) vs S))) _ (λ_=>S) (λe:aP=>(fu (BN () (au 2 (zE eS) e.2 S) (au 0 (zE eS) f S)))) (λe:aP=>(au 1 (zE eS) e.1 S)) (λ_=>S) λ_=>S)))) λa=>(cF (cG a S)))))) (cF (cG a S)) λa=>(cF (cG a S))))))))
def dM(e:O aO)(vo:O aP)(c:AZ):(O cN):=(let d:=(mO ((e.filter λb:aO=>(decide (b.1∈c))).map λb:aO=>b));(let a:=([]:O cN);(let a:(O cN):=(vo.foldl (λ(a:O cN) (q1:aP)=>(bF d a q1)) a);a)))
def iV(c:O aO)(vo:O aP)(d:AZ):Prop:=((c.length<=100000/\(((c.filter λa:aO=>(decide (a.1∈d))).map λa:aO=>a).length<64/\(((c.filter λa:aO=>(decide (a.1∈d))).map λa:aO=>a).map (·.1)).Nodup))/\(let e:=(mO ((c.filter λa:aO=>(decide (a.1∈d))).map λa:aO=>a));(let b:=([]:O cN);pR (λ(b:O cN) (q1:aP)=>(bF e b q1)) (λ(b:O cN) (q1:aP)=>U (eV e b q1)) vo b)))
theorem CJ(c:O aO)(vo:O aP)(b:AZ):RP iK [U ((zE (eT aR)) c),U ((zE (eT cj)) vo),U ((zE (eT eS)) b),Z,Z,Z,Z,Z,Z,Z,Z] (λr=>An.rt (oE f9 r)) (dM c vo b) (U (iV c vo b)):=R.tp (bV 3 (WQ (jl (Br (SJ (au 0 (zE (eT aR)) c S)) _ (λ_=>S) (λd:aO=>(fu (GB (Bo (au 1 (zE aR) d S) (λq=>q.1) eS 0 λ_=>S) (au 0 (zE (eT eS)) b S)))) (λd:aO=>(au 1 (zE aR) d S)) (λ_=>S) λ_=>S))) (λ_=>S) λe=>(bV 4 (jg (dY f9) (zC S)) (λ_=>S) λa=>(IN 3 [U ((zE (eT aR)) c),U ((zE (eT cj)) vo),U ((zE (eT eS)) b),U ((zE (eL aR)) e),U (oE f9 a),Z,Z,Z,Z,Z,Z] S (SQ 1 vo (SN S) (λa:(O cN)=>[U ((zE (eT aR)) c),U ((zE (eT cj)) vo),U ((zE (eT eS)) b),U ((zE (eL aR)) e),U (oE f9 a),Z,Z,Z,Z,Z,Z]) a S _ (λ_ _=>S) (λ(a:O cN) (q1:aP)=>(xH c vo b e a q1).r) λa=>(Mh 4 (λr=>r) a S (λ_=>S) λ_=>S)))))
theorem CK:∀v bs,(aZ (eT aR) (aZ (eT cj) (aZ (eT eS) aN))) v bs->bs.length=3/\(B5 (U (iV v.1 v.2.1 v.2.2.1))->iM (bs.map lend)=U ((oE f9) (dM v.1 v.2.1 v.2.2.1))):=by
 rintro⟨b,a,c,_⟩ _ ⟨_,rfl,⟨_,rfl,⟨_,rfl,rfl⟩⟩⟩;exact⟨rfl,λh=>bY (g:=iK) (n:=11) (bs:=[.z (eT aR b),.z (eT cj a),.z (eT eS c)]) (CJ b a c) h⟩
def ig(b:AJ)(c:Unit)(a:aO):ux (Unit) aO:=(if(decide (a.1=b))=true then(ux.rt a)else(ux.nx eu))
theorem Kh(d:O aO)(b:AJ)(c:Unit)(a:aO):RP zx [U ((zE (eT aR)) d),U (zE eS b),U (zE aR a)] (cC (λc:Unit=>[U ((zE (eT aR)) d),U (zE eS b),Z]) (zE aR)) (ig b c a) (Z):=R.tp (bT (mK (fu (BN () (Bo (au 2 (zE aR) a S) (λq=>q.1) eS 0 λ_=>S) (au 1 (zE eS) b S))) (bT (cI .rt (au 2 (zE aR) a S) (λ_=>S) λ_=>S)) (cF (cF (cG (.nx eu) S)))))
def lZ(c:O aO)(d:AJ):aO:=(BY (jM (λ(a:Unit) (b:aO)=>((ig d a b):ux (Unit) aO)) c eu) (λr=>r) λa:Unit=>default)
def xK(c:O aO)(d:AJ):Prop:=(rz (λ(a:Unit) (b:aO)=>((ig d a b):ux (Unit) aO)) (λ(a:Unit) (b:aO)=>Z) c eu/\(z9 (jM (λ(a:Unit) (b:aO)=>((ig d a b):ux (Unit) aO)) c eu) λa:Unit=>False))
theorem TQ(a:O aO)(b:AJ):RP w5 [U ((zE (eT aR)) a),U (zE eS b),Z] (λr=>An.rt (zE aR r)) (lZ a b) (U (xK a b)):=R.tp (Wg 0 a (SN S) (λc:Unit=>[U ((zE (eT aR)) a),U (zE eS b),Z]) eu S _ (λ_ _=>S) (λ(c:Unit) (d:aO)=>((Kh a b c d).r:R _ _ (cC (λc:Unit=>[U ((zE (eT aR)) a),U (zE eS b),Z]) (zE aR)))) (λr=>r) (λ_=>S) λc=>Wn)
theorem TV:∀v bs,(aZ (eT aR) (aZ eS aN)) v bs->bs.length=2/\(B5 (U (xK v.1 v.2.1))->w6 (bs.map lend)=U ((zE aR) (lZ v.1 v.2.1))):=by
 rintro⟨a,b,_⟩ _ ⟨_,rfl,⟨_,rfl,rfl⟩⟩;exact⟨rfl,λh=>bY (g:=w5) (n:=3) (bs:=[.z (eT aR a),.z (eS b)]) (TQ a b) h⟩
def fX(a:AJ)(b:Unit)(q2:aP):ux (Unit) (Y AJ):=(if(decide (q2.1=a))=true then(ux.rt (U q2.2))else(ux.nx eu))
theorem HW(c:aO)(a:AJ)(b:Unit)(q2:aP):RP xg [U (zE aR c),U (zE eS a),U ((zE eS) q2.1),U ((zE eS) q2.2)] (cC (λb:Unit=>[U (zE aR c),U (zE eS a),Z,Z]) (zE (eO eS))) (fX a b q2) (Z):=R.tp (bT (mK (fu (BN () (au 2 (zE eS) q2.1 S) (au 1 (zE eS) a S))) (bT (cI .rt (R8 (au 3 (zE eS) q2.2 S)) (λ_=>S) λ_=>S)) (cF (cF (cG (.nx eu) S)))))
def iu(b:aO)(c:AJ):(Y AJ):=(BY (jM (λ(a:Unit) (q2:aP)=>((fX c a q2):ux (Unit) (Y AJ))) b.2 eu) (λr=>r) λa:Unit=>Z)
def pC(b:aO)(c:AJ):Prop:=(rz (λ(a:Unit) (q2:aP)=>((fX c a q2):ux (Unit) (Y AJ))) (λ(a:Unit) (q2:aP)=>Z) b.2 eu/\(z9 (jM (λ(a:Unit) (q2:aP)=>((fX c a q2):ux (Unit) (Y AJ))) b.2 eu) λa:Unit=>True))
theorem Qq(a:aO)(b:AJ):RP tX [U (zE aR a),U (zE eS b),Z,Z] (λr=>An.rt ((zE (eO eS)) r)) (iu a b) (U (pC a b)):=R.tp (SM (λc:Unit=>[U (zE aR a),U (zE eS b),Z,Z]) eu S (GG (Bo (au 0 (zE aR) a S) (λq=>q.2) (eT cj) 1 λ_=>S)) _ (λ_ _=>S) (λ(c:Unit) (q2:aP)=>((HW a b c q2).r:R _ _ (cC (λc:Unit=>[U (zE aR a),U (zE eS b),Z,Z]) (zE (eO eS))))) (λr=>r) (λ_=>S) λc=>(cI (λr=>r) ZK (λ_=>S) λ_=>S))
theorem Gj:∀v bs,(aZ aR (aZ eS aN)) v bs->bs.length=2/\(B5 (U (pC v.1 v.2.1))->lg (bs.map lend)=U ((zE (eO eS)) (iu v.1 v.2.1))):=by
 rintro⟨a,b,_⟩ _ ⟨_,rfl,⟨_,rfl,rfl⟩⟩;exact⟨rfl,λh=>bY (g:=tX) (n:=4) (bs:=[.z (aR a),.z (eS b)]) (Qq a b) h⟩
def dG(c:O aO)(d:AJ):AZ:=(((c.map λb:aO=>(iu b d)).filter λa:(Y AJ)=>a.isSome).map λa:(Y AJ)=>(a.getD default))
def mj(b:O aO)(c:AJ):Prop:=(((b.length<=100000/\(∀a∈b,(pC a c)))/\(b.map λa:aO=>(iu a c)).length<=100000)/\(∀d∈(b.map λa:aO=>(iu a c)),(d.isSome=true->d.isSome=true)))
theorem Nb(b:O aO)(e:Lp bH (b.map aR))(a:AJ):RP qe [U bH,U (zE eS a)] (λr=>An.rt (oE eS r)) (dG b a) (U (mj b a)):=R.tp (cI (λr=>r) (z7 (JK (jl (Mg (JK (bM 0 aR b e S)) _ (λ_=>S) (λd:aO=>(oK (B1 Gj (cZ (au 1 (zE aR) d S) (cZ (au 0 (zE eS) a S) cD)))))))) _ (λ_=>S) (λc:(Y AJ)=>(fu (V9 (au 0 (zE (eO eS)) c S) λ_=>S))) (λc:(Y AJ)=>(HQ (au 0 (zE (eO eS)) c S)))) (λ_=>S) λ_=>S)
theorem CN:∀v bs,(aL aR (aZ eS aN)) v bs->bs.length=2/\(B5 (U (mj v.1 v.2.1))->jr (bs.map lend)=U ((oE eS) (dG v.1 v.2.1))):=by
 rintro⟨c,a,_⟩ _ ⟨bH,_,rfl,b,⟨_,rfl,rfl⟩⟩;exact⟨rfl,λh=>bY (g:=qe) (n:=2) (bs:=[lend bH,.z (eS a)]) (Nb c (jL b) a) h⟩
def gG(a:AZ):AJ:=(BD Cs a)
def gH(a:AZ):Prop:=a≠[]
theorem zO(a:AZ)(b:Lp bH (a.map eS)):RP gB [U bH] (λr=>An.rt (zE eS r)) (gG a) (U (gH a)):=R.tp (cI (λr=>r) (KI (bM 0 eS a b S)) (λ_=>S) λ_=>S)
theorem zP:∀v bs,(aL eS aN) v bs->bs.length=1/\(B5 (U (gH v.1))->gC (bs.map lend)=U ((zE eS) (gG v.1))):=by
 rintro⟨b,_⟩ _ ⟨bH,_,rfl,a,rfl⟩;exact⟨rfl,λh=>bY (g:=gB) (n:=1) (bs:=[lend bH]) (zO b (jL a)) h⟩
def j9(a:AZ):AJ:=(BD C' a)
def kh(a:AZ):Prop:=a≠[]
theorem HX(a:AZ)(b:Lp bH (a.map eS)):RP jZ [U bH] (λr=>An.rt (zE eS r)) (j9 a) (U (kh a)):=R.tp (cI (λr=>r) (GU (bM 0 eS a b S)) (λ_=>S) λ_=>S)
theorem HY:∀v bs,(aL eS aN) v bs->bs.length=1/\(B5 (U (kh v.1))->j4 (bs.map lend)=U ((zE eS) (j9 v.1))):=by
 rintro⟨b,_⟩ _ ⟨bH,_,rfl,a,rfl⟩;exact⟨rfl,λh=>bY (g:=jZ) (n:=1) (bs:=[lend bH]) (HX b (jL a)) h⟩
def iW(b:AZ):AJ:=(BD (λx z=>Wz (Ms ((λa:AJ=>((-(a.length:Int)),a)) x)) (Ms ((λa:AJ=>((-(a.length:Int)),a)) z))) b)
def iY(a:AZ):Prop:=(a≠[]/\∀b∈a,True)
theorem CP(a:AZ)(c:Lp bH (a.map eS)):RP iQ [U bH] (λr=>An.rt (zE eS r)) (iW a) (U (iY a)):=R.tp (cI (λr=>r) (XQ (e':=Ms) (λ_=>S) (bM 0 eS a c S) (λb:AJ=>(q9 (Xr (Mf (au 0 (zE eS) b S))) (au 0 (zE eS) b S)))) (λ_=>S) λ_=>S)
theorem CQ:∀v bs,(aL eS aN) v bs->bs.length=1/\(B5 (U (iY v.1))->fD (bs.map lend)=U ((zE eS) (iW v.1))):=by
 rintro⟨b,_⟩ _ ⟨bH,_,rfl,a,rfl⟩;exact⟨rfl,λh=>bY (g:=iQ) (n:=1) (bs:=[lend bH]) (CP b (jL a)) h⟩
def m9(b:AZ):AJ:=(BD (λx z=>D2 (eI ((λa:AJ=>((b.count a:Nat):Int)) x)) (eI ((λa:AJ=>((b.count a:Nat):Int)) z))) b)
def ni(a:AZ):Prop:=(a≠[]/\∀b∈a,True)
theorem Kl(a:AZ)(b:Lp bH (a.map eS)):RP mV [U bH] (λr=>An.rt (zE eS r)) (m9 a) (U (ni a)):=R.tp (cI (λr=>r) (XQ (e':=eI) (λ_=>S) (bM 0 eS a b S) (λc:AJ=>(JX (bM 1 eS a b (congrArg U (b.get S))) (au 0 (zE eS) c S)))) (λ_=>S) λ_=>S)
theorem Km:∀v bs,(aL eS aN) v bs->bs.length=1/\(B5 (U (ni v.1))->jP (bs.map lend)=U ((zE eS) (m9 v.1))):=by
 rintro⟨b,_⟩ _ ⟨bH,_,rfl,a,rfl⟩;exact⟨rfl,λh=>bY (g:=mV) (n:=1) (bs:=[lend bH]) (Kl b (jL a)) h⟩
def nj(a:AZ):AJ:=(Ap a (-(1:Int)))
def nu(a:AZ):Prop:=In a.length (-(1:Int))
theorem Ko(a:AZ)(b:Lp bH (a.map eS)):RP mW [U bH] (λr=>An.rt (zE eS r)) (nj a) (U (nu a)):=R.tp (cI (λr=>r) (gk (bM 0 eS a b S) (Xr (B9 1))) (λ_=>S) λ_=>S)
theorem Kq:∀v bs,(aL eS aN) v bs->bs.length=1/\(B5 (U (nu v.1))->mX (bs.map lend)=U ((zE eS) (nj v.1))):=by
 rintro⟨b,_⟩ _ ⟨bH,_,rfl,a,rfl⟩;exact⟨rfl,λh=>bY (g:=mW) (n:=1) (bs:=[lend bH]) (Ko b (jL a)) h⟩
def kj(a:AZ):AJ:=(Ap a 0)
def kE(a:AZ):Prop:=In a.length 0
theorem Ib(a:AZ)(b:Lp bH (a.map eS)):RP j5 [U bH] (λr=>An.rt (zE eS r)) (kj a) (U (kE a)):=R.tp (cI (λr=>r) (gk (bM 0 eS a b S) (B9 0)) (λ_=>S) λ_=>S)
theorem Ie:∀v bs,(aL eS aN) v bs->bs.length=1/\(B5 (U (kE v.1))->j6 (bs.map lend)=U ((zE eS) (kj v.1))):=by
 rintro⟨b,_⟩ _ ⟨bH,_,rfl,a,rfl⟩;exact⟨rfl,λh=>bY (g:=j5) (n:=1) (bs:=[lend bH]) (Ib b (jL a)) h⟩
def eX:O (AJ×(AZ->AJ)×(AZ->Y Prop)):=[("first",kj,λv=>U (kE v)),("last",nj,λv=>U (nu v)),("most",m9,λv=>U (ni v)),("longest",iW,λv=>U (iY v)),("least",j9,λv=>U (kh v)),("greatest",gG,λv=>U (gH v))]
def pD(d:O aO)(b:AJ)(e:AJ):cN:=(let c:=(BZ eX e (dG d b));(b,c,((d.filter λa:aO=>(decide ((iu a b)=(U c)))).map λa:aO=>a.1)))
def ug(a:O aO)(b:AJ)(c:AJ):Prop:=(((mj a b)/\Qk eX c (dG a b))/\(let e:=(BZ eX c (dG a b));(a.length<=100000/\(∀d∈a,(pC d b)))))
theorem Qs(b:O aO)(e:Lp bH (b.map aR))(a:AJ)(c:AJ):RP tY [U bH,U (zE eS a),U (zE eS c),Z,Z] (λr=>An.rt (zE f9 r)) (pD b a c) (U (ug b a c)):=R.tp (KL 3 4 (tt:=eX) (.cons Ie (.cons Kq (.cons Km (.cons CQ (.cons HY (.cons zP .nil)))))) (au 2 (zE eS) c S) (jl (B1 CN (yj (bM 0 aR b e S) (cZ (au 1 (zE eS) a S) cD)))) (zC S) (λ_=>S) λf=>(cI (λr=>r) (Ma (au 1 (zE eS) a S) (au 4 (zE eS) f S) (pQ (jl (z7 (JK (bM 0 aR b e S)) _ (λ_=>S) (λd:aO=>(fu (BN () (B1 Gj (cZ (au 2 (zE aR) d S) (cZ (au 1 (zE eS) a S) cD))) (R8 (au 0 (zE eS) f S))))) (λd:aO=>(Bo (au 2 (zE aR) d S) (λq=>q.1) eS 0 λ_=>S)))))) (λ_=>S) λ_=>S))
theorem Qt:∀v bs,(aL aR (aZ eS (aZ eS aN))) v bs->bs.length=3/\(B5 (U (ug v.1 v.2.1 v.2.2.1))->tZ (bs.map lend)=U ((zE f9) (pD v.1 v.2.1 v.2.2.1))):=by
 rintro⟨d,b,a,_⟩ _ ⟨bH,_,rfl,c,⟨_,rfl,⟨_,rfl,rfl⟩⟩⟩;exact⟨rfl,λh=>bY (g:=tY) (n:=5) (bs:=[lend bH,.z (eS b),.z (eS a)]) (Qs d (jL c) b a) h⟩
def fY(c:O aO)(vx:O aP)(b:AZ):(O cN):=(let a:=(b.map λd:AJ=>(lZ c d));((vx.filter λq1:aP=>(!(dG a q1.1).isEmpty)).map λq1:aP=>(pD a q1.1 q1.2)))
def lB(d:O aO)(vx:O aP)(a:AZ):Prop:=((a.length<=100000/\(∀c∈a,(xK d c)))/\(let b:=(a.map λc:AJ=>(lZ d c));(vx.length<=100000/\(∀q1∈vx,((mj b q1.1)/\((!(dG b q1.1).isEmpty)=true->(ug b q1.1 q1.2)))))))
theorem Qu(b:O aO)(vx:O aP)(a:AZ):RP uc [U ((zE (eT aR)) b),U ((zE (eT cj)) vx),U ((zE (eT eS)) a),Z] (λr=>An.rt (oE f9 r)) (fY b vx a) (U (lB b vx a)):=R.tp (bV 3 (Mg (SJ (au 2 (zE (eT eS)) a S)) _ (λ_=>S) (λd:AJ=>(oK (B1 TV (cZ (au 0 (zE (eT aR)) b S) (cZ (au 1 (zE eS) d S) cD)))))) (λ_=>S) λc=>(cI (λr=>r) (z7 (SJ (au 1 (zE (eT cj)) vx S)) _ (λ_=>S) (λq1:aP=>(GI (jl (B1 CN (yj (jd (au 0 (lE aR) c S)) (cZ (au 1 (zE eS) q1.1 S) cD)))))) (λq1:aP=>(oK (B1 Qt (yj (jd (au 0 (lE aR) c S)) (cZ (au 1 (zE eS) q1.1 S) (cZ (au 2 (zE eS) q1.2 S) cD))))))) (λ_=>S) λ_=>S))
theorem yR:∀v bs,(aZ (eT aR) (aZ (eT cj) (aZ (eT eS) aN))) v bs->bs.length=3/\(B5 (U (lB v.1 v.2.1 v.2.2.1))->fO (bs.map lend)=U ((oE f9) (fY v.1 v.2.1 v.2.2.1))):=by
 rintro⟨b,vx,a,_⟩ _ ⟨_,rfl,⟨_,rfl,⟨_,rfl,rfl⟩⟩⟩;exact⟨rfl,λh=>bY (g:=uc) (n:=4) (bs:=[.z (eT aR b),.z (eT cj vx),.z (eT eS a)]) (Qu b vx a) h⟩
def iZ(a:O aO)(vo:O aP)(b:AZ)(c:O cN)(d:O cN):Bool:=((decide ((fY a vo b)=c))&&(decide ((fY a.reverse vo b)=c)))
def mq(a:O aO)(vo:O aP)(b:AZ)(c:O cN)(d:O cN):Prop:=((lB a vo b)/\((decide ((fY a vo b)=c))=true->(lB a.reverse vo b)))
def sy:Ev->Y An:=(aD (cX (GD (b2 BQ (bN 3 fO (ak (gv 0) (ak (gv 1) (ak (gv 2) aG)))) (gv 3)) (b2 BQ (bN 3 fO (ak (b1 Al (b2 Ly (gv 0) (b1 Du (cB (.int 1))))) (ak (gv 1) (ak (gv 2) aG)))) (gv 3)))) cY)
theorem CT(a:O aO)(vo:O aP)(b:AZ)(c:O cN)(d:O cN):RP sy [U ((zE (eT aR)) a),U ((zE (eT cj)) vo),U ((zE (eT eS)) b),U (oE f9 c),U (oE f9 d)] (λr=>An.rt (zE eB r)) (iZ a vo b c d) (U (mq a vo b c d)):=R.tp (cI (λr=>r) (Sg (Xw () (jl (B1 yR (cZ (au 0 (zE (eT aR)) a S) (cZ (au 1 (zE (eT cj)) vo S) (cZ (au 2 (zE (eT eS)) b S) cD))))) (jd (au 3 (lE f9) c S))) (Xw () (jl (B1 yR (cZ (oK (LO (au 0 (zE (eT aR)) a S))) (cZ (au 1 (zE (eT cj)) vo S) (cZ (au 2 (zE (eT eS)) b S) cD))))) (jd (au 3 (lE f9) c S)))) (λ_=>S) λ_=>S)
def sE(b:O aO)(vo:O aP)(c:AZ)(d:O cN)(a:O cN):Bool:=(let a:=a.reverse;(iZ b vo c d a))
def sG(b:O aO)(vo:O aP)(c:AZ)(d:O cN)(a:O cN):Prop:=(let a:=a.reverse;(mq b vo c d a))
def sH:Ev->Y An:=(aD (LQ 4) sy)
theorem CV(b:O aO)(vo:O aP)(c:AZ)(d:O cN)(a:O cN):RP sH [U ((zE (eT aR)) b),U ((zE (eT cj)) vo),U ((zE (eT eS)) c),U (oE f9 d),U (oE f9 a)] (λr=>An.rt (zE eB r)) (sE b vo c d a) (U (sG b vo c d a)):=R.tp (LM 4 a S λa=>(CT b vo c d a).r)
def mz(e:O aO)(vo:O aP)(d:AZ)(c:O cN)(a:O cN):Bool:=(if((!true)||(!decide (a=c)))=true then false else(if(!((a.map λb:cN=>((cT (f9 b))&&(cT ((eT eS) b.2.2)))).all id))=true then false else(let a:=a++[(("zz":AJ),("1":AJ),([]:AZ))];(sE e vo d c a))))
def sI(e:O aO)(vo:O aP)(d:AZ)(c:O cN)(a:O cN):Prop:=(((!true)||(!decide (a=c)))=false->(a.length<=100000/\((!((a.map λb:cN=>((cT (f9 b))&&(cT ((eT eS) b.2.2)))).all id))=false->(Hq a.length/\(let a:=a++[(("zz":AJ),("1":AJ),([]:AZ))];(sG e vo d c a))))))
def sJ:Ev->Y An:=(aD (vW (Xg (Jb (tV (uq BI (gv 4)))) (vB Za (gv 4) (gv 3))) (aD (cX (cB (.bl false))) cY) cY) (aD (vW (Jb (tV (bW CF (ak (dH (G7 (gv 4)) (n6 0) vC (GD (uq cT (gv 0)) (uq cT (b2 gj (gv 0) (cB (.int 2))))) [] 1) aG)))) (aD (cX (cB (.bl false))) cY) cY) (aD (Dv 4 (bW iH (ak (cB (.str "zz")) (ak (cB (.str "1")) (ak (bW iH aG) aG))))) sH)))
theorem CW(d:O aO)(vo:O aP)(c:AZ)(b:O cN)(a:O cN):RP sJ [U ((zE (eT aR)) d),U ((zE (eT cj)) vo),U ((zE (eT eS)) c),U (oE f9 b),U (oE f9 a)] (λr=>An.rt (zE eB r)) (mz d vo c b a) (U (sI d vo c b a)):=R.tp (mK (Fc (Sh (ZQ (Z0 BI (jd (au 4 (lE f9) a S)) true λ_=>S))) (fu (Xx () (jd (au 4 (lE f9) a S)) (jd (au 3 (lE f9) b S))))) (bT (cI (λr=>r) (JF (.bl false) eB false S) (λ_=>S) λ_=>S)) (cF (mK (Sh (ZQ (GY (jl (wO (JK (jd (au 4 (lE f9) a S))) _ (λ_=>S) (λe:cN=>(Sg (Xz cT (au 0 (zE f9) e S)) (Xz cT (Bo (au 0 (zE f9) e S) (λq=>q.2.2) (eT eS) 2 λ_=>S)))) λ_=>S))))) (bT (cI (λr=>r) (JF (.bl false) eB false S) (λ_=>S) λ_=>S)) (cF (Bu 4 a S (Ma (mF "zz") (mF "1") (LR eS)) λa=>(CV d vo c b a).r)))))
def mC(a:O aO)(vo:O aP)(b:AZ)(d:O cN):Bool:=(let c:=(fY a vo b);(mz a vo b d c))
def sO(a:O aO)(vo:O aP)(b:AZ)(d:O cN):Prop:=((lB a vo b)/\(let c:=(fY a vo b);(sI a vo b d c)))
def CZ:Ev->Y An:=(aD (B0 4 (bN 3 fO (ak (gv 0) (ak (gv 1) (ak (gv 2) aG))))) sJ)
theorem Dc(a:O aO)(vo:O aP)(b:AZ)(c:O cN):RP CZ [U ((zE (eT aR)) a),U ((zE (eT cj)) vo),U ((zE (eT eS)) b),U (oE f9 c),Z] (λr=>An.rt (zE eB r)) (mC a vo b c) (U (sO a vo b c)):=R.tp (bV 4 (B1 yR (cZ (au 0 (zE (eT aR)) a S) (cZ (au 1 (zE (eT cj)) vo S) (cZ (au 2 (zE (eT eS)) b S) cD)))) (λ_=>S) λd=>(CW a vo b c d).r)
def dU(a:O aO)(vo:O aP)(b:AZ):Bool:=(let c:=(dM a vo b);(mC a vo b c))
def iw(a:O aO)(vo:O aP)(b:AZ):Prop:=((iV a vo b)/\(let c:=(dM a vo b);(sO a vo b c)))
theorem Kr(a:O aO)(vo:O aP)(b:AZ):RP mY [U ((zE (eT aR)) a),U ((zE (eT cj)) vo),U ((zE (eT eS)) b),Z,Z] (λr=>An.rt (zE eB r)) (dU a vo b) (U (iw a vo b)):=R.tp (bV 3 (B1 CK (cZ (au 0 (zE (eT aR)) a S) (cZ (au 1 (zE (eT cj)) vo S) (cZ (au 2 (zE (eT eS)) b S) cD)))) (λ_=>S) λc=>(Dc a vo b c).r)
theorem sS:∀v bs,(aZ (eT aR) (aZ (eT cj) (aZ (eT eS) aN))) v bs->bs.length=3/\(B5 (U (iw v.1 v.2.1 v.2.2.1))->dR (bs.map lend)=U ((zE eB) (dU v.1 v.2.1 v.2.2.1))):=by
 rintro⟨b,a,c,_⟩ _ ⟨_,rfl,⟨_,rfl,⟨_,rfl,rfl⟩⟩⟩;exact⟨rfl,λh=>bY (g:=mY) (n:=5) (bs:=[.z (eT aR b),.z (eT cj a),.z (eT eS c)]) (Kr b a c) h⟩
def mD(c:O aO)(b:AZ)(f:Unit)(e:Int):ux (Unit) Bool:=(let a:=(aX e 16);(let d:=(gQ a);(if(!(dU c d (gR b (C1 a (U 8) Z))))=true then(ux.rt false)else(ux.nx eu))))
def xM(d:O aO)(b:AZ)(f:Unit)(c:Int):Prop:=((eE c 16)/\(let a:=(aX c 16);((qy a)/\(let e:=(gQ a);((qz b (C1 a (U 8) Z))/\(iw d e (gR b (C1 a (U 8) Z))))))))
theorem TY(g:At)(h:Lp bH (g.map eI))(b:O aO)(a:AZ)(d:Unit)(c:Int):RP Ck [U bH,U ((zE (eT aR)) b),U (oE eS a),U (zE eI c),Z,Z] (cC (λd:Unit=>[U bH,U ((zE (eT aR)) b),U (oE eS a),Z,Z,Z]) (zE eB)) (mD b a d c) (U (xM b a d c)):=R.tp (bT (bV 4 (B1 nT (cZ (au 3 (zE eI) c S) (cZ (B9 16) cD))) (λ_=>S) λe=>(bT (bV 5 (B1 M7 (yj (jd (au 4 (lE eI) e S)) cD)) (λ_=>S) λf=>(bT (mK (Sh (ZQ (B1 sS (cZ (au 1 (zE (eT aR)) b S) (cZ (au 5 (zE (eT cj)) f S) (cZ (oK (B1 M9 (yj (jd (au 2 (lE eS) a S)) (yj (ZJ (ZL (ZW (jd (au 4 (lE eI) e S)) (Qa (B9 8)) Wc))) cD)))) cD)))))) (bT (cI .rt (JF (.bl false) eB false S) (λ_=>S) λ_=>S)) (cF (cF (cG (.nx eu) S)))))))))
def xO(c:At)(a:O aO)(b:AZ):Bool:=((dU a [(("name":AJ),("most":AJ)),(("day":AJ),("longest":AJ))] (gY b))&&(dU a ([]:O aP) ([]:AZ)))
def Ku(c:At)(a:O aO)(b:AZ):Prop:=((b.length<64/\(iw a [(("name":AJ),("most":AJ)),(("day":AJ),("longest":AJ))] (gY b)))/\((dU a [(("name":AJ),("most":AJ)),(("day":AJ),("longest":AJ))] (gY b))=true->(iw a ([]:O aP) ([]:AZ))))
def Kv:Ev->Y An:=(aD (cX (GD (bN 3 dR (ak (gv 1) (ak (bW iH (ak (bW iH (ak (cB (.str "name")) (ak (cB (.str "most")) aG))) (ak (bW iH (ak (cB (.str "day")) (ak (cB (.str "longest")) aG))) aG))) (ak (bW ji (ak (bW wL (ak (gv 2) aG)) aG)) aG)))) (bN 3 dR (ak (gv 1) (ak (bW iH aG) (ak (bW iH aG) aG)))))) cY)
theorem T3(c:At)(d:Lp bH (c.map eI))(a:O aO)(b:AZ):RP Kv [U bH,U ((zE (eT aR)) a),U (oE eS b),Z,Z,Z] (λr=>An.rt (zE eB r)) (xO c a b) (U (Ku c a b)):=R.tp (cI (λr=>r) (Sg (B1 sS (cZ (au 1 (zE (eT aR)) a S) (cZ (ZR (aK (q9 (mF "name") (mF "most")) (aK (q9 (mF "day") (mF "longest")) (dY cj))) (zC S)) (cZ (pQ (jl (z6 (jd (au 2 (lE eS) b S))))) cD)))) (B1 sS (cZ (au 1 (zE (eT aR)) a S) (cZ (LR cj) (cZ (LR eS) cD))))) (λ_=>S) λ_=>S)
def Dd(a:At)(d:O aO)(b:AZ):Bool:=(BY (jM (λ(c:Unit) (e:Int)=>((mD d b c e):ux (Unit) Bool)) ([(bC a 16)]++(C1 a (U 17) (U 30))) eu) (λr=>r) λc:Unit=>(xO a d b))
def Kw(a:At)(e:O aO)(d:AZ):Prop:=((((gP a 16)/\Hq ([(bC a 16)].length+(C1 a (U 17) (U 30)).length))/\rz (λ(b:Unit) (c:Int)=>((mD e d b c):ux (Unit) Bool)) (λ(b:Unit) (c:Int)=>U (xM e d b c)) ([(bC a 16)]++(C1 a (U 17) (U 30))) eu)/\(z9 (jM (λ(b:Unit) (c:Int)=>((mD e d b c):ux (Unit) Bool)) ([(bC a 16)]++(C1 a (U 17) (U 30))) eu) λb:Unit=>(Ku a e d)))
def Kz:Ev->Y An:=(aD (mH (Xp (b2 eN (bW jc (ak (b1 Al (bN 2 fB (ak (gv 0) (ak (cB (.int 16)) aG)))) aG)) (RJ (gv 0) (qT (cB (.int 17))) (qT (cB (.int 30)))))) (n6 3) Ck) Kv)
theorem T4(c:At)(e:Lp bH (c.map eI))(b:O aO)(a:AZ):RP Kz [U bH,U ((zE (eT aR)) b),U (oE eS a),Z,Z,Z] (λr=>An.rt (zE eB r)) (Dd c b a) (U (Kw c b a)):=R.tp (SM (λd:Unit=>[U bH,U ((zE (eT aR)) b),U (oE eS a),Z,Z,Z]) eu S (G1 (Ss (jl (jg (aK (oK (B1 vP (yj (bM 0 eI c e S) (cZ (B9 16) cD)))) (dY eI)) (zC S))) (jl (ZW (bM 0 eI c e S) (Qa (B9 17)) (Qa (B9 30)))))) _ (λ_ _=>S) (λ(d:Unit) (f:Int)=>((TY c e b a d f).r:R _ _ (cC (λd:Unit=>[U bH,U ((zE (eT aR)) b),U (oE eS a),Z,Z,Z]) (zE eB)))) (λr=>r) (λ_=>S) λd=>(T3 c e b a).r)
def Dg(d:At)(a:O aO):Bool:=(let c:=(a.map λb:aO=>b.1);(Dd d a c))
def KC(d:At)(a:O aO):Prop:=(a.length<=100000/\(let c:=(a.map λb:aO=>b.1);(Kw d a c)))
def T5:Ev->Y An:=(aD (B0 2 (dH (G7 (gv 1)) (n6 0) vC (b2 gj (gv 0) (cB (.int 0))) [] 1)) Kz)
theorem T6(b:At)(e:Lp bH (b.map eI))(a:O aO):RP T5 [U bH,U ((zE (eT aR)) a),Z,Z,Z,Z] (λr=>An.rt (zE eB r)) (Dg b a) (U (KC b a)):=R.tp (bV 2 (wO (SJ (au 1 (zE (eT aR)) a S)) _ (λ_=>S) (λc:aO=>(Bo (au 0 (zE aR) c S) (λq=>q.1) eS 0 λ_=>S)) λ_=>S) (λ_=>S) λd=>(T4 b e a d).r)
def KD(a:At):Bool:=(let b:=(bZ a 14);(Dg a b))
def Oi(a:At):Prop:=((qx a 14)/\(let b:=(bZ a 14);(KC a b)))
theorem K'(a:At)(b:Lp bH (a.map eI)):RP Oh [U bH,Z,Z,Z,Z,Z] (λr=>An.rt (zE eB r)) (KD a) (U (Oi a)):=R.tp (bV 1 (B1 M5 (yj (bM 0 eI a b S) (cZ (B9 14) cD))) (λ_=>S) λc=>(T6 a b c).r)
theorem X3:∀v bs,(aL eI aN) v bs->bs.length=1/\(B5 (U (Oi v.1))->F_law (bs.map lend)=U ((zE eB) (KD v.1))):=by
 rintro⟨b,_⟩ _ ⟨bH,_,rfl,a,rfl⟩;exact⟨rfl,λh=>bY (g:=Oh) (n:=6) (bs:=[lend bH]) (K' b (jL a)) h⟩
theorem X4(h:∀a:O Int,a.length<=63->Oi a/\KD a=true):(∀a:O Int,a.length<=63->F_law [.z (.lst (a.map .int))]=U (.z (.bl true)))/\∀a:O Int,a.length<=63->F_law [.l (a.map .int)]=U (.z (.bl true)):=
 ⟨λa b=>((X3 (a,eu) [.z (.lst (a.map .int))] ⟨_,_,rfl,rfl,rfl⟩).2 (h a b).1).trans (by rw[(h a b).2]),λa b=>((X3 (a,eu) [.l (a.map .int)] ⟨_,_,rfl,rfl,rfl⟩).2 (h a b).1).trans (by rw[(h a b).2])⟩
end
theorem Nf(b:O Int)(k:Int)(a:0<=k)(h1:k<=1000):gP b k:=by
 unfold gP;exact⟨λh=>B6 a (by simpa using h),λ_=>XF a ()⟩
theorem T7(k:Nat)(s:Int×O Int×Int)(hk:k<1000)(h:(0<=s.1/\s.1<1999999973)/\s.2.1.length=k/\(∀x∈s.2.1,0<=x)/\0<=s.2.2):fU s k/\(0<=(bI s k).1/\(bI s k).1<1999999973)/\(bI s k).2.1.length=k+1/\(∀x∈(bI s k).2.1,0<=x)/\0<=(bI s k).2.2:=by
 obtain⟨h1,h2,b,c⟩:=h;have a:In 2 (if(decide ((0:Int)<s.2.2))=true then(1:Int)else 0):=by split<;>exact B6 () ()
 refine⟨⟨XF h1.1 (),a,?_⟩,oN _ (),?_,?_,Int.ediv_nonneg c ()⟩
 ·show s.2.1.length<=1000000;omega
 ·show(s.2.1++[_]).length=k+1;rw[qa,h2];rfl
 ·intro x hx;rcases ai.mp hx with hx|hx
  ·exact b x hx
  ·cases af.mp hx;have:=yp (xs:=[((((s.1*((s.1%65521)+40487))+(7*k))+5)%1999999973),(s.2.2%1000000)]) a;simp only[Q4,qv,or_false]at this;rcases this with e|e<;>rw[e]
   ·exact(oN _ ()).1
   ·exact(oN _ ()).1
theorem Ig(c m:Int)(e:0<=m)(h1:m<=1000):eE c m/\(aX c m).length=m.toNat/\∀x∈aX c m,0<=x:=by
 have b:∀st a:Int,(0<=st/\st<1999999973)->0<=a->jw c m [] st a/\(fV c m [] st a).length=m.toNat/\∀x∈fV c m [] st a,0<=x:=λst a d hd=>by
  have:=oM (P:=λs k=>U (fU s k)) (λk s=>(0<=s.1/\s.1<1999999973)/\s.2.1.length=k/\(∀x∈s.2.1,0<=x)/\0<=s.2.2) (step:=λs k=>bI s k) m.toNat (st,[],a) ⟨d,rfl,λx h=>(by cases h),hd⟩ λk s hk h=>T7 k s () h;exact⟨⟨BL e (),this.1⟩,this.2.2.1,this.2.2.2.1⟩
 refine b _ _ (oN _ ()) ?_;dsimp only;split<;>(try split)<;>omega
open S1 S6
abbrev cu:=AJ×O (AJ×AJ)
theorem yS{α τ:Type}{p:α->Bool}{g:α->τ}{step:Unit->α->ux Unit τ}(hs:∀s x,step s x=if p x=true then .rt (g x)else .nx eu):∀(xs:O α),jM step xs eu=(match xs.find? p with|some x=>.rt (g x)|none=>.nx eu)/\rz step (λ_ _=>Z) xs eu
 |[]=>⟨rfl,trivial⟩
 |x::xs=>by
  obtain⟨h1,h2⟩:=yS hs xs;unfold jM rz;rw[hs,JU];cases p x with
  |true=>exact⟨rfl,trivial,trivial⟩
  |false=>exact⟨h1,trivial,h2⟩
def fw(ws:O (AJ×AJ))(f:AJ):Y AJ:=(ws.find? λq=>decide (q.1=f)).map (·.2)
theorem xP(r:cu)(f:AJ):pC r f/\iu r f=fw r.2 f:=by
 obtain⟨h1,h2⟩:=yS (p:=λq:AJ×AJ=>decide (q.1=f)) (g:=λq:AJ×AJ=>U q.2) (step:=λs q=>fX f s q) (λ_ _=>S) r.2;refine⟨⟨h2,?_⟩,?_⟩
 ·cases jM (λ(a:Unit) (q2:AJ×AJ)=>((fX f a q2):ux Unit (Y AJ))) r.2 eu<;>trivial
 ·unfold iu fw;rw[h1];cases r.2.find? λq=>decide (q.1=f)<;>rfl
def sU(a:O cu)(f:AJ):AZ:=a.filterMap λr=>fw r.2 f
theorem T8{α:Type}[Inhabited α]:∀xs:O (Y α),(xs.filter λv=>v.isSome).map (λv=>v.getD default)=xs.filterMap id
 |[]=>rfl
 |none::xs=>T8 xs
 |some x::xs=>by
  show _::_=x::_;rw[<-T8 xs];rfl
theorem zy(a:O cu)(f:AJ)(h:a.length<=100000):mj a f/\dG a f=sU a f:=by
 refine⟨⟨⟨⟨h,λr _=>(xP r f).1⟩,by rw[zk];exact h⟩,λ_ _ z=>z⟩,?_⟩;unfold dG sU;rw[T8,di];refine congrArg (λg=>List.filterMap g a) (funext λr=>(xP r f).2)
def jR(B:O cu)(n:AJ):cu:=(B.find? λr=>decide (r.1=n)).getD default
theorem Gk(B:O cu)(n:AJ)(h:n∈B.map (·.1)):xK B n/\lZ B n=jR B n:=by
 obtain⟨h1,h2⟩:=yS (p:=λq:cu=>decide (q.1=n)) (g:=λq:cu=>q) (step:=λs q=>ig n s q) (λ_ _=>S) B;obtain⟨r,c,e⟩:=ae.mp h;have b:∃x,B.find? (λq:cu=>decide (q.1=n))=U x:=by
  cases d:B.find? (λq:cu=>decide (q.1=n))with
  |some x=>exact⟨x,rfl⟩
  |none=>exact absurd (List.find?_eq_none.mp d r c) (by simp[e])
 obtain⟨x,hx⟩:=b;rw[hx]at h1;have h1:jM (λ(a:Unit) (q:cu)=>((ig n a q):ux Unit cu)) B eu=.rt x:=h1;refine⟨⟨h2,?_⟩,?_⟩
 ·rw[h1];trivial
 ·unfold lZ jR;rw[h1,hx];rfl
theorem Ae{B:O cu}(b:(B.map (·.1)).Nodup){r:cu}(h:r∈B):jR B r.1=r:=by
 unfold jR;have:B.find? (λq=>decide (q.1=r.1))=U r:=by
  induction B with
  |nil=>cases h
  |cons a B c=>
   rw[zo,ag]at b;rw[JU];rcases List.mem_cons.mp h with e|e
   ·subst e;simp
   ·have:a.1≠r.1:=λz=>b.1 (by rw[z];exact ZU e);rw[Zp this];exact c b.2 e
 rw[this];rfl
theorem yU{α:Type}{f:α->Int}{b:α->α->Bool}(d:∀x z,b x z=decide (f z<f x)):∀(r:O α) (y:α),∃a c,y::r=a++dO b y r::c/\(∀x∈a,f x<f (dO b y r))/\∀x∈c,f x<=f (dO b y r)
 |[],y=>⟨[],[],rfl,λ_ h=>(by cases h),λ_ h=>(by cases h)⟩
 |z::r,y=>by
  unfold dO;by_cases h:f y<f z
  ·rw[d,zr (qS h)];obtain⟨a,c,e,h1,h2⟩:=yU d r z;generalize dO b z r=m at *
   refine⟨y::a,c,by rw[e];rfl,λx hx=>?_,h2⟩;have i:f z<=f m:=by
    cases a with
    |nil=>rw[kD,QY]at e;rw[e.1];exact dA _
    |cons p a=>rw[k6,QY]at e;rw[e.1];exact Int.le_of_lt (h1 _ (ze ..))
   rcases List.mem_cons.mp hx with e'|e'
   ·rw[e'];omega
   ·exact h1 x e'
  ·rw[d,zI (by simpa using h)];obtain⟨a,c,e,h1,h2⟩:=yU d r y;generalize dO b y r=m at *
   cases a with
   |nil=>
    rw[kD,QY]at e;obtain⟨e1,e2⟩:=e;subst e1;refine⟨[],z::r,rfl,λ_ h=>(by cases h),λx hx=>?_⟩;rcases List.mem_cons.mp hx with e'|e'
    ·rw[e'];omega
    ·exact h2 x (by rw[<-e2];exact e')
   |cons p a=>
    rw[k6,QY]at e;obtain⟨e1,e2⟩:=e;subst e1;have g:=h1 y (ze ..);refine⟨y::z::a,c,by rw[e2];rfl,λx hx=>?_,h2⟩;rcases List.mem_cons.mp hx with e'|hx
    ·rw[e'];exact g
    rcases List.mem_cons.mp hx with e'|hx
    ·rw[e'];omega
    ·exact h1 x (zg _ hx)
theorem pF{α:Type}{b:α->α->Bool}(as:∀x z,b x z=true->b z x=false)(a:∀x y z,b x y=false->b y z=false->b x z=false)(c:∀x,b x x=false):∀(r:O α) (y:α),dO b y r∈y::r/\∀x∈y::r,b x (dO b y r)=false
 |[],y=>⟨ze ..,λx hx=>by rw[af.mp hx];exact c y⟩
 |z::r,y=>by
  unfold dO;cases h:b z y with
  |true=>
   rw[zr rfl];obtain⟨h1,h2⟩:=pF as a c r z;refine⟨zg _ h1,λx hx=>?_⟩;rcases List.mem_cons.mp hx with e|e
   ·rw[e];exact a _ _ _ (as _ _ h) (h2 z (ze ..))
   ·exact h2 x e
  |false=>
   rw[zI (by simp)];obtain⟨h1,h2⟩:=pF as a c r y;refine⟨?_,λx hx=>?_⟩
   ·rcases List.mem_cons.mp h1 with e|e
    ·rw[e];exact ze ..
    ·exact zg _ (zg _ e)
   ·rcases List.mem_cons.mp hx with e|hx
    ·rw[e];exact h2 y (ze ..)
    rcases List.mem_cons.mp hx with e|hx
    ·rw[e];exact a _ _ _ h (h2 y (ze ..))
    ·exact h2 x (zg _ hx)
theorem yV{z:AJ}:Dk x z=false↔zG z x:=by
 constructor
 ·intro h;cases q:Dk z x with
  |true=>exact((BS _ _).mp q).1
  |false=>
   unfold Dk at h;unfold zG;rw[ltCps_eq];exact h
 ·intro h;cases q:Dk x z with
  |false=>rfl
  |true=>have:=(BS _ _).mp q;exact absurd (oJ this.1 h) this.2
theorem T9(x:AJ):Dk x x=false:=by
 cases q:Dk x x with
 |false=>rfl
 |true=>exact absurd S ((BS _ _).mp q).2
theorem Ua(x z:AJ)(h:Dk x z=true):Dk z x=false:=yV.mpr ((BS _ _).mp h).1
theorem Ub(x y z:AJ)(h1:Dk x y=false)(h2:Dk y z=false):Dk x z=false:=by
 cases q:Dk x z with
 |false=>rfl
 |true=>
  exfalso;cases e:Dk y x with
  |true=>
   have:=IJ _ _ _ e q;rw[h2]at this;cases this
  |false=>
   have:x=y:=oJ (yV.mp e) (yV.mp h1);rw[this,h2]at q;cases q
theorem Uc(h:ws≠[]):Ap (gY ws) 0=BD C' ws:=by
 cases ws with
 |nil=>exact absurd S h
 |cons y r=>
  obtain⟨h1,h2⟩:=pF (b:=C') Ua Ub T9 r y;show _=dO C' y r;cases e:gY (y::r)with
  |nil=>have:=(cU (y::r)).length_eq;rw[e]at this;cases this
  |cons a l=>
   rw[show Ap (a::l) 0=a from BJ (k:=0) rfl];have p:=lG (y::r);rw[e,ah]at p;have f:a∈y::r:=(cU (y::r)).mem_iff.mp (by rw[e];exact ze ..);have d:dO C' y r∈a::l:=by rw[<-e];exact(cU (y::r)).mem_iff.mpr h1
   have c:zG (dO C' y r) a:=yV.mp (h2 a f);rcases List.mem_cons.mp d with z|z
   ·exact z.symm
   ·exact oJ (p.1 _ z) c
theorem W0[Inhabited α]:∀{xs:O α} (h:xs≠[]),Ap xs ((xs.length:Int)-1)=xs.getLast h:=λ{xs} h=>by
 have a:0<xs.length:=ax.mpr h;rw[show((xs.length:Int)-1)=((xs.length-1:Nat):Int) by omega,BK _ _ (),List.getLast_eq_getElem]
theorem Co[Inhabited α]{xs:O α}(h:xs≠[]):Ap xs (-1)=Ap xs ((xs.length:Int)-1):=by
 have a:0<xs.length:=ax.mpr h;unfold Ap Dj YL;rw[zI (),zr (),zr (),zr ()];congr 3
theorem KH(h:ws≠[]):Ap (gY ws) ((ws.length:Int)-1)=BD Cs ws:=by
 cases ws with
 |nil=>exact absurd S h
 |cons y r=>
  obtain⟨h1,h2⟩:=pF (b:=Cs) (λx z=>Ua z x) (λx y z h1 h2=>Ub z y x h2 h1) T9 r y;show _=dO Cs y r;have c:=(cU (y::r)).length_eq;have a:gY (y::r)≠[]:=λz=>by rw[z]at c;cases c
  rw[<-c,W0 a];have p:=lG (y::r);have f:=List.getLast_mem a;have e:zG ((gY (y::r)).getLast a) (dO Cs y r):=yV.mp (h2 _ ((cU (y::r)).mem_iff.mp f));have d:dO Cs y r∈gY (y::r):=(cU (y::r)).mem_iff.mpr h1;rw[<-List.dropLast_concat_getLast a]at d p;rw[List.pairwise_append]at p;rcases ai.mp d with z|z
  ·exact(oJ (p.2.2 _ z _ (af.mpr S)) e).symm
  ·exact(af.mp z).symm
abbrev kL(u:AJ):Int×AJ:=(-(u.length:Int),u)
theorem Ng(h:ws≠[]):(Ap (wU (n8 eI eS) (ws.map λu=>((0:Int)-(u.length:Int),u))) 0).2=BD (λx z=>Wz (n8 eI eS (kL x)) (n8 eI eS (kL z))) ws:=by
 rw[show(λu:AJ=>((0:Int)-(u.length:Int),u))=kL from funext λu=>by unfold kL;rw[Int.zero_sub]];have j:∀x z:AJ,Wz (n8 eI eS (kL x)) (n8 eI eS (kL z))=Wi (n8 eI eS) (kL x) (kL z):=λ_ _=>S;cases ws with
 |nil=>exact absurd S h
 |cons y r=>
  have no:∀p q:Int×AJ,Wi (n8 eI eS) p q=false↔Ut (n8 eI eS) q p=true:=λp q=>by unfold Wi Ut nH;simp
  have i:∀x y z:Int×AJ,Wi (n8 eI eS) x y=false->Wi (n8 eI eS) y z=false->Wi (n8 eI eS) x z=false:=λx y z h1 h2=>by
   rw[no]at *
   exact pP _ _ _ h2 h1
  obtain⟨h1,h2⟩:=pF (b:=λx z=>Wz (n8 eI eS (kL x)) (n8 eI eS (kL z))) (λx z q=>by
   have q:Wi (n8 eI eS) (kL x) (kL z)=true:=q;exact(no _ _).mpr ((WY _ _).mp q).1) (λx y z a b=>i _ _ _ a b) (λx=>lH _) r y
  show _=dO (λx z=>Wz (n8 eI eS (kL x)) (n8 eI eS (kL z))) y r;generalize dO (λx z=>Wz (n8 eI eS (kL x)) (n8 eI eS (kL z))) y r=m at *
  cases e:wU (n8 eI eS) ((y::r).map kL)with
  |nil=>have:=(lN (e:=n8 eI eS) ((y::r).map kL)).length_eq;rw[e]at this;cases this
  |cons a l=>
   rw[show Ap (a::l) 0=a from BJ (k:=0) rfl];have p:=Bw (e:=n8 eI eS) ((y::r).map kL);rw[e,ah]at p;have g:a∈(y::r).map kL:=(lN (e:=n8 eI eS) ((y::r).map kL)).mem_iff.mp (by rw[e];exact ze ..);obtain⟨u,f,rfl⟩:=ae.mp g;have d:kL m∈kL u::l:=by rw[<-e];exact(lN (e:=n8 eI eS) ((y::r).map kL)).mem_iff.mpr (ZU h1)
   have c:Ut (n8 eI eS) (kL m) (kL u)=true:=(no _ _).mp (h2 u f);rcases List.mem_cons.mp d with z|z
   ·rw[<-z]
   ·exact congrArg Prod.snd (SX (p.1 _ z) c)
theorem Ud:∀{ks:O Int} {m:Int},m∈ks->(∀k∈ks,k<=m)->qK ks=m
 |k::ks,m,hm,hle=>by
  have go:∀(ks:O Int) (k:Int),k<=m->(∀x∈ks,x<=m)->(k=m\/m∈ks)->ks.foldl (λm x=>if m<x then x else m) k=m:=by
   intro ks
   induction ks with
   |nil=>intro k _ _ h;rcases h with h|h;exact h;cases h
   |cons x ks b=>
    intro k hk hx h;rw[js];have c:=hx x (ze ..);refine b _ (by split<;>omega) (λz a=>hx z (zg _ a)) ?_;rcases h with h|h
    ·left;split<;>omega
    ·rcases List.mem_cons.mp h with h|h
     ·left;split<;>omega
     ·exact .inr h
  refine go ks k (hle k (ze ..)) (λx hx=>hle x (zg _ hx)) ?_;rcases List.mem_cons.mp hm with e|e
  ·exact .inl e.symm
  ·exact .inr e
theorem W2(h:ws≠[]):let cs:=ws.map λu=>((ws.count u:Nat):Int);Ap ws ((cs.findIdx (·==qK cs):Nat):Int)=BD (λx z=>D2 (eI ((ws.count x:Nat):Int)) (eI ((ws.count z:Nat):Int))) ws/\qK cs∈cs/\cs.findIdx (·==qK cs)<ws.length:=by
 intro cs;have g:∀(f:AJ->Int) (y:AJ) (r:AZ),Ap (y::r) ((((y::r).map f).findIdx (·==qK ((y::r).map f)):Nat):Int)=dO (λx z=>D2 (eI (f x)) (eI (f z))) y r/\qK ((y::r).map f)∈(y::r).map f/\((y::r).map f).findIdx (·==qK ((y::r).map f))<(y::r).length:=λf y r=>by
  obtain⟨a,c,e,h1,h2⟩:=yU (f:=f) (b:=λx z=>D2 (eI (f x)) (eI (f z))) (λ_ _=>S) r y;generalize dO (λx z=>D2 (eI (f x)) (eI (f z))) y r=m at *
  rw[e];have d:qK ((a++m::c).map f)=f m:=Ud (ZU (by simp)) λk hk=>by
   obtain⟨x,hx,rfl⟩:=ae.mp hk;rcases ai.mp hx with hx|hx
   ·exact Int.le_of_lt (h1 x hx)
   rcases List.mem_cons.mp hx with hx|hx
   ·rw[hx];exact dA _
   ·exact h2 x hx
  rw[d];have i:((a++m::c).map f).findIdx (·==f m)=a.length:=by
   rw[QE,List.findIdx_append,List.findIdx_eq_length_of_false (λk hk=>?_),zk,zI (),zo,List.findIdx_cons]
   ·simp
   ·obtain⟨x,hx,rfl⟩:=ae.mp hk;have:=h1 x hx;simp;omega
  rw[i];exact⟨BJ (by simp),ZU (by simp),by simp⟩
 cases ws with
 |nil=>exact absurd S h
 |cons y r=>exact g (λu=>(((y::r).count u:Nat):Int)) y r
theorem BU{α:Type}(c:Array α):∀(n:Nat) (a:Array α),((aa n c).foldl (·++·) a).size=a.size+n*c.size
 |0,a=>by simp
 |n+1,a=>by
  rw[dd,js,BU c n,Jn,dq];omega
theorem G5(x:AJ)(k:Int):(Txt.mul x k).length<=x.length*k.toNat:=by
 unfold Txt.mul;split
 ·exact qs _
 split
 ·rename_i a h;simp only[cc,beq_iff_eq]at h;rcases h with h|h
  ·subst h;simp
  ·rw[h];simp
 ·show(Array.size _)<=_;rw[BU];have:x.cps.size=x.length:=rfl;rw[this,Nat.mul_comm];simp
def LT:AJ:=("abcdefghijklmnopqrstuvwxyz":AJ)
theorem Nh:LT.length=26:=by decide +kernel
theorem jz(h:n<=1000):Hq n:=zD h ()
theorem Ni(xs:O Int)(j:6<=xs.length)(b:AJ)(hs:b.length<=5)(at_:Int)(k:Nat)(a:AZ)(hk:k<200)(h:a.length=k/\∀n∈a,n.length<=12):iT xs LT b at_ a k/\(cW xs LT b at_ a k).length=k+1/\∀n∈cW xs LT b at_ a k,n.length<=12:=by
 have g:=zD (slice_le b Z (U at_)) hs;have i:=zD (slice_le b (U at_) Z) hs;have c1:=nO LT ((↑k+Ap xs 2)%15);have f:=oN (k:Int) (m:=8) ();have hd:(0:Int)<=(k:Int) / 8/\(k:Int) / 8<26:=by omega
 refine⟨⟨⟨B6 () (),nM () (by rw[Nh];decide)⟩,⟨jz (),jz (by rw[jN];omega)⟩,⟨B6 () (),λ_=>⟨B6 hd.1 (by rw[Nh];exact hd.2),by omega,by omega,by rw[nO];decide⟩⟩,jz ()⟩,?_⟩;have d:∀n:AJ,n.length<=12->(a++[n]).length=k+1/\∀m∈a++[n],m.length<=12:=λn e=>⟨by simp[h.1],λm c=>by
  rcases ai.mp c with c|c
  ·exact h.2 m c
  ·cases af.mp c;exact e⟩
 unfold cW;dsimp only;split
 ·exact d _ (by have:=G5 (ch LT ((k:Int) / 8)) (1+(k:Int)%8);rw[nO]at this;exact zD this ())
 ·exact d _ (by rw[jN,jN,c1];omega)
theorem Ix(xs:AZ)(n:Nat)(h:∀x∈xs,x.length<=n):(Txt.join "" xs).length<=xs.length*n:=by
 have h1:=StrLaws.join_length_le ("":AJ) xs;rw[<-StrLaws.glued_eq_join]at h1;have h2:(xs.map (·.length)).sum<=xs.length*n:=by
  clear h1
  induction xs with
  |nil=>simp
  |cons a l c=>
   have:=c λx hx=>h x (zg _ hx);have:=h a (ze ..);simp only[zo,List.sum_cons,qc,dq];omega
 have b:("":AJ).length=0:=rfl;rw[b,Nat.mul_zero]at h1;exact zD h1 ()
theorem LP(xs:AZ)(h:∀x∈xs,x.length=1):(xs.map (·.length)).sum=xs.length:=by
 induction xs with
 |nil=>rfl
 |cons a l b=>
  have:=b λx hx=>h x (zg _ hx);have:=h a (ze ..);simp only[zo,List.sum_cons,qc];omega
theorem Ue(xs:O Int)(g:6<=xs.length)(a:Int)(l:0<=a)(h1:a<=200):m7 xs a/\(cM xs a).length=a.toNat/\∀n∈cM xs a,n.length<=12:=by
 have i:=oN (Ap xs 0) (m:=6) ();have st:∀b:AJ,b.length<=5->lW xs a LT b/\(iU xs a LT b).length=a.toNat/\∀n∈iU xs a LT b,n.length<=12:=λb e=>by
  have:=oM (P:=λf k=>U (iT xs LT b (Ap xs 1%((b.length:Int)+1)) f k)) (step:=λf k=>cW xs LT b (Ap xs 1%((b.length:Int)+1)) f k) (λk s=>s.length=k/\∀n∈s,n.length<=12) a.toNat [] ⟨rfl,λn h=>(by cases h)⟩ λk s hk h=>Ni xs g b e _ k s () h;exact⟨⟨⟨B6 () (),by omega⟩,BL l (),this.1⟩,this.2⟩
 have c1:∀x∈((rng 0 (Ap xs 0%6).toNat).map λc:Int=>ch LT (Ap xs c / 40%26)),x.length=1:=λx hx=>by
  obtain⟨k,_,rfl⟩:=ae.mp hx;exact nO _ _
 have:=st (Txt.join "" ((rng 0 (Ap xs 0%6).toNat).map λc:Int=>ch LT (Ap xs c / 40%26))) (by
  have:=Ix _ 1 λx hx=>Nat.le_of_eq (c1 x hx);rw[zk,iJ]at this;omega)
 refine⟨⟨⟨⟨⟨⟨B6 () (),BL i.1 ()⟩,by rw[iJ];omega⟩,λk hk=>?_⟩,?_⟩,this.1⟩,this.2⟩
 ·obtain⟨j,o,rfl⟩:=WX hk;exact⟨B6 () (),nM () (by rw[show("abcdefghijklmnopqrstuvwxyz":AJ)=LT from rfl,Nh];decide)⟩
 ·rw[show("abcdefghijklmnopqrstuvwxyz":AJ)=LT from rfl,LP _ c1,zk,iJ];have d:("":AJ).length=0:=rfl;rw[d];omega
def DA(xs:O Int)(a:AJ)(at_:Int)(k:Int):AJ:=if(decide (((Ap xs 3)%3)=1))=true then(Txt.mul (ch LT (k / (8:Int))) (1+(k%8)))else(((Txt.slice a Z (U at_))++(ch LT ((k+(Ap xs 2))%15)))++(Txt.slice a (U at_) Z))
theorem Dh{α β:Type}(g:β->α):∀(l:O β) (f:O α),l.foldl (λf k=>f++[g k]) f=f++l.map g
 |[],f=>by simp
 |k::l,f=>by rw[js,Dh g l];simp
theorem Ug(xs:O Int)(a:Int):∃b at_,cM xs a=(rng 0 a.toNat).map (DA xs b at_):=by
 refine⟨_,_,(Dh (DA xs _ _) _ []).trans (kD _)⟩
theorem Nj{a b m c:AJ}(h:(a++m)++b=(a++c)++b):m=c:=by
 have h:=congrArg (λs:AJ=>s.cps.toList) h;have h:((a.cps++m.cps)++b.cps).toList=((a.cps++c.cps)++b.cps).toList:=h;simp only[bc]at h;have:=List.append_cancel_left (List.append_cancel_right h);cases m;cases c;congr 1;exact Array.ext' this
theorem IU:∀i:Fin 30,∀j:Fin 30,Txt.mul (ch LT ((i.val:Int) / 8)) (1+(i.val:Int)%8)=Txt.mul (ch LT ((j.val:Int) / 8)) (1+(j.val:Int)%8)->i=j:=by decide +kernel
theorem Is:∀i:Fin 15,∀j:Fin 15,ch LT (i.val:Int)=ch LT (j.val:Int)->i=j:=by decide +kernel
theorem L3{x y:Int}(hx:0<=x/\x<15)(a:0<=y/\y<15)(h:ch LT x=ch LT y):x=y:=by
 have:=Is ⟨x.toNat,by omega⟩ ⟨y.toNat,by omega⟩ (by
  show ch LT ((x.toNat:Nat):Int)=ch LT ((y.toNat:Nat):Int);rw[df hx.1,df a.1];exact h)
 have:=congrArg Fin.val this;have:x.toNat=y.toNat:=this;omega
theorem ID{xs:O Int}{a:AJ}{at_:Int}(hi:i<15)(b:j<15)(h:DA xs a at_ i=DA xs a at_ j):i=j:=by
 unfold DA at h;by_cases e:(decide (((Ap xs 3)%3)=1))=true
 ·rw[zr e,zr e]at h;exact congrArg Fin.val (IU ⟨i,by omega⟩ ⟨j,by omega⟩ h)
 ·rw[zI e,zI e]at h;have:=L3 (oN _ ()) (oN _ ()) (Nj h);omega
theorem Mi{g:Int->AJ}(h:∀i j:Nat,i<n->j<n->g i=g j->i=j):((rng 0 n).map g).Nodup:=by
 unfold rng;rw[JI];unfold List.Nodup;rw[az];refine List.Pairwise.imp_of_mem ?_ (List.nodup_range (n:=n));intro a b d f c e;refine c (h a b (ar.mp d) (ar.mp f) ?_);have e:g (0+(a:Int))=g (0+(b:Int)):=e;rwa [bX,bX]at e
theorem Uh(xs:O Int)(a:Int)(h:a<=15):(cM xs a).Nodup:=by
 obtain⟨c,at_,e⟩:=Ug xs a;rw[e];exact Mi λi j hi b=>ID () ()
open S1 S6
def nZ:AZ:=["first","last","most","longest","least","greatest"]
theorem FU:eX.lookup ("first":AJ)=U (kj,λv=>U (kE v)):=by kernel_rfl
theorem F6:eX.lookup ("last":AJ)=U (nj,λv=>U (nu v)):=by kernel_rfl
theorem FG:eX.lookup ("most":AJ)=U (m9,λv=>U (ni v)):=by kernel_rfl
theorem F':eX.lookup ("longest":AJ)=U (iW,λv=>U (iY v)):=by kernel_rfl
theorem FS:eX.lookup ("least":AJ)=U (j9,λv=>U (kh v)):=by kernel_rfl
theorem FV:eX.lookup ("greatest":AJ)=U (gG,λv=>U (gH v)):=by kernel_rfl
theorem IG{h:AJ}(b:h∈nZ)(a:ws≠[]):Qk eX h ws:=by
 have c:0<ws.length:=ax.mpr a;unfold Qk;simp only[nZ,Q4,qv,or_false]at b;rcases b with rfl|rfl|rfl|rfl|rfl|rfl
 ·rw[FU];exact B6 () ()
 ·rw[F6];exact⟨by omega,by omega⟩
 ·rw[FG];exact⟨a,λ_ _=>trivial⟩
 ·rw[F'];exact⟨a,λ_ _=>trivial⟩
 ·rw[FS];exact a
 ·rw[FV];exact a
theorem Ui(a:O cu)(f:AJ):(sU a f).length<=a.length:=List.length_filterMap_le ..
def Oj(a:O cu)(f u:AJ):AZ:=(a.filter λr=>decide (fw r.2 f=U u)).map (·.1)
def KJ(a:O cu)(q:AJ×AJ):AJ×AJ×AZ:=(q.1,BZ eX q.2 (sU a q.1),Oj a q.1 (BZ eX q.2 (sU a q.1)))
theorem Aa(a:O cu)(q:AJ×AJ)(b:a.length<=100000)(d:q.2∈nZ)(c:sU a q.1≠[]):ug a q.1 q.2/\pD a q.1 q.2=KJ a q:=by
 obtain⟨h1,h2⟩:=zy a q.1 b;refine⟨⟨⟨h1,by rw[h2];exact IG d c⟩,b,λr _=>(xP r q.1).1⟩,?_⟩;unfold pD KJ Oj;rw[h2];dsimp only;congr 3;exact dz λr _=>by rw[(xP r q.1).2]
def sV(a:O cu)(vo:O (AJ×AJ)):O (AJ×AJ×AZ):=(vo.filter λq=>!(sU a q.1).isEmpty).map (KJ a)
theorem Ol(B:O cu)(vo:O (AJ×AJ))(N:AZ)(j:∀n∈N,n∈B.map (·.1))(h1:N.length<=100000)(h2:vo.length<=100000)(i:∀q∈vo,q.2∈nZ):lB B vo N/\fY B vo N=sV (N.map (jR B)) vo:=by
 have e:(N.map λn=>lZ B n)=N.map (jR B):=ZY λn a=>(Gk B n (j n a)).2;have b:(N.map (jR B)).length<=100000:=by rw[zk];exact h1
 have d:=λf=>zy (N.map (jR B)) f b;have g:∀q:AJ×AJ,(!(sU (N.map (jR B)) q.1).isEmpty)=true->sU (N.map (jR B)) q.1≠[]:=λq h z=>by rw[z]at h;cases h
 refine⟨⟨⟨h1,λn a=>(Gk B n (j n a)).1⟩,?_⟩,?_⟩
 ·dsimp only;rw[e];refine⟨h2,λq c=>⟨(d q.1).1,λz=>?_⟩⟩;rw[(d q.1).2]at z;exact(Aa _ q b (i q c) (g q z)).1
 ·unfold fY sV;dsimp only;rw[e];have m:(vo.filter λq1:AJ×AJ=>!(dG (N.map (jR B)) q1.1).isEmpty)=vo.filter λq=>!(sU (N.map (jR B)) q.1).isEmpty:=dz λq _=>by rw[(d q.1).2]
  rw[m];refine ZY λq c=>?_;obtain⟨k,l⟩:=ap.mp c;exact(Aa _ q b (i q k) (g q l)).2
theorem Uj{B:O cu}(a:(B.map (·.1)).Nodup){n:AJ}(h:n∈B.map (·.1)):jR B.reverse n=jR B n:=by
 obtain⟨r,b,rfl⟩:=ae.mp h;rw[Ae a b,Ae (by rw[k4];exact(List.reverse_perm _).nodup_iff.mpr a) (eh.mpr b)]
open S1 S6
theorem Om{h:AJ}(f:h∈nZ)(a:ws≠[])(c:ws.length<64):gF ws h/\dh ws h=BZ eX h ws:=by
 have hp:0<ws.length:=ax.mpr a;have g:(gY ws).length=ws.length:=(cU ws).length_eq;have lt:(wU Ms (ws.map λd:AJ=>(((0:Int)-(d.length:Int)),d))).length=ws.length:=by rw[(lN (e:=Ms) _).length_eq,zk]
 have b:=W2 a;refine⟨⟨λ_=>B6 () (),λ_=>⟨λ_=>B6 () (),λ_=>⟨λ_=>⟨c,B6 () ()⟩,λ_=>⟨λ_=>⟨c,B6 () ()⟩,λ_=>⟨λ_=>⟨⟨by omega,by rw[zk];exact c⟩,B6 () ()⟩,λ_=>⟨by omega,⟨⟨by rw[zk];exact hp,b.2.1,by rw[zk];omega⟩,B6 () (by have:=b.2.2;omega)⟩⟩⟩⟩⟩⟩⟩,?_⟩;unfold BZ dh;simp only[nZ,Q4,qv,or_false]at f;rcases f with rfl|rfl|rfl|rfl|rfl|rfl
 ·rw[FU,zr (by decide +kernel)];rfl
 ·rw[F6,zI (by decide +kernel),zr (by decide +kernel)];exact(Co a).symm
 ·rw[FG,zI (by decide +kernel),zI (by decide +kernel),zI (by decide +kernel),zI (by decide +kernel),zI (by decide +kernel)];exact b.1
 ·rw[F',zI (by decide +kernel),zI (by decide +kernel),zI (by decide +kernel),zI (by decide +kernel),zr (by decide +kernel)];exact Ng a
 ·rw[FS,zI (by decide +kernel),zI (by decide +kernel),zr (by decide +kernel)];exact Uc a
 ·rw[FV,zI (by decide +kernel),zI (by decide +kernel),zI (by decide +kernel),zr (by decide +kernel)];exact KH a
abbrev Fd(r:cu):Prop:=(r.2.map (·.1)).Nodup/\r.2.length<=8
theorem W3{f:AJ}:∀{ws:O (AJ×AJ)},f∉ws.map (·.1)->(ws.filter λq=>decide (q.1=f))=[]:=λ{ws} h=>by
 rw[List.filter_eq_nil_iff];intro q a z;exact h (by rw[<-of_decide_eq_true z];exact ZU a)
theorem yW(n f:AJ):∀{ws:O (AJ×AJ)},(ws.map (·.1)).Nodup->((ws.filter λq=>decide (q.1=f)).map λq=>(n,q.2))=(fw ws f).toList.map λw=>(n,w)
 |[],_=>rfl
 |q::ws,h=>by
  rw[zo,ag]at h;unfold fw;rw[ku,JU];by_cases e:q.1=f
  ·rw[qS e,zr rfl,W3 (by rw[<-e];exact h.1)];rfl
  ·rw[Zp e,zI z5];exact yW n f h.2
def C9(a:O cu)(f:AJ):O (AJ×AJ):=a.flatMap λr=>(fw r.2 f).toList.map λw=>(r.1,w)
theorem X5(f:AJ):∀a:O cu,(C9 a f).map (·.2)=sU a f
 |[]=>rfl
 |r::a=>by
  have b:=X5 f a;unfold C9 sU at *
  rw[j3,QE,b,ja];cases fw r.2 f<;>rfl
theorem Oo(f:AJ):∀a:O cu,(C9 a f).length<=a.length
 |[]=>zl _
 |r::a=>by
  have b:=Oo f a;unfold C9 at *
  rw[j3,qa,qc];cases fw r.2 f with
  |none=>show 0+_<=_;omega
  |some w=>show([_]:O (AJ×AJ)).length+_<=_;rw[cw];omega
theorem KN(f u:AJ):∀a:O cu,(((C9 a f).filter λb:AJ×AJ=>decide (b.2=u)).map λb=>b.1)=Oj a f u
 |[]=>rfl
 |r::a=>by
  have c:=KN f u a;unfold C9 Oj at *
  rw[j3,List.filter_append,QE,c,ku];cases e:fw r.2 f with
  |none=>rw[zI (by simp)];rfl
  |some w=>
   by_cases z:w=u
   ·subst z;simp
   ·simp[z]
theorem Uk(f:AJ)(a:O cu)(e:∀r∈a,Fd r)(g:a.length<=60):(pR (λ(vs:O (AJ×AJ)) (q2:cu)=>bx f vs q2) (λvs q2=>U (eU f vs q2)) a [])/\a.foldl (λvs q2=>bx f vs q2) []=C9 a f:=by
 have go:∀(l:O cu) (s:O (AJ×AJ)),(∀r∈l,Fd r)->s.length+l.length<=100->(pR (λ(vs:O (AJ×AJ)) (q2:cu)=>bx f vs q2) (λvs q2=>U (eU f vs q2)) l s)/\l.foldl (λvs q2=>bx f vs q2) s=s++C9 l f:=by
  intro l
  induction l with
  |nil=>intro s _ _;exact⟨trivial,by simp[C9]⟩
  |cons r l d=>
   intro s h1 h2;have b:=h1 r (ze ..);have st:bx f s r=s++(fw r.2 f).toList.map λw=>(r.1,w):=congrArg (s++·) (yW r.1 f b.1);have h:((fw r.2 f).toList.map λw=>(r.1,w)).length<=1:=by cases fw r.2 f<;>simp
   rw[qc]at h2;obtain⟨i1,i2⟩:=d (s++(fw r.2 f).toList.map λw=>(r.1,w)) (λz c=>h1 z (zg _ c)) (by rw[qa];omega);refine⟨⟨⟨by have:=b.2;omega,?_⟩,by show pR _ _ l (bx f s r);rw[st];exact i1⟩,?_⟩
   ·have:=congrArg aw (yW r.1 f b.1);show Hq (s.length+((r.2.filter λq3:aP=>decide (q3.1=f)).map λq3:aP=>(r.1,q3.2)).length);rw[this];exact jz ()
   ·rw[js,st,i2];unfold C9;rw[j3,bp]
 have:=go a [] e (by rw[cf];omega);exact this
theorem Ul(a:O cu)(k:∀r∈a,Fd r)(j:a.length<=60)(b:O cN)(n:b.length<=500)(q:AJ×AJ)(d:q.2∈nZ):eV a b q/\bF a b q=if(!(sU a q.1).isEmpty)=true then b++[KJ a q]else b:=by
 obtain⟨h1,h2⟩:=Uk q.1 a k j;have l:=Oo q.1 a;have e2:((C9 a q.1).map λc:aP=>c.2)=sU a q.1:=X5 q.1 a;have m:=Ui a q.1;have g:C9 a q.1≠[]->sU a q.1≠[]:=λh z=>h (by rw[<-List.map_eq_nil_iff (f:=λc:aP=>c.2),e2,z]);have i:(!decide (C9 a q.1=([]:O aP)))=(!(sU a q.1).isEmpty):=by
  rw[<-e2];cases C9 a q.1<;>rfl
 constructor
 ·refine⟨h1,?_⟩;dsimp only;rw[h2];intro z;have z2:C9 a q.1≠[]:=by simpa using z
  rw[e2];exact⟨⟨by omega,(Om d (g z2) ()).1⟩,by omega,jz ()⟩
 ·unfold bF;dsimp only;rw[h2,i];split
  ·rename_i z;have z2:sU a q.1≠[]:=λe=>by rw[e]at z;cases z
   rw[e2,(Om d z2 ()).2];unfold KJ;rw[KN]
  ·rfl
theorem KQ(b:O cu)(e:∀r∈b,Fd r)(c:b.length<=60):∀(vo:O (AJ×AJ)) (a:O cN),(∀q∈vo,q.2∈nZ)->a.length+vo.length<=500->pR (λ(a:O cN) (q1:aP)=>bF b a q1) (λa q1=>U (eV b a q1)) vo a/\vo.foldl (λa q1=>bF b a q1) a=a++sV b vo
 |[],a,_,_=>⟨trivial,by simp[sV]⟩
 |q::vo,a,h1,h2=>by
  rw[qc]at h2;obtain⟨d,t⟩:=Ul b e c a () q (h1 q (ze ..));have h:=λw g=>KQ b e c vo w (λz f=>h1 z (zg _ f)) g;have i:(bF b a q).length<=a.length+1:=by
   rw[t];split
   ·simp
   ·omega
  obtain⟨i1,i2⟩:=h (bF b a q) ();refine⟨⟨d,i1⟩,?_⟩;rw[js,i2,t];unfold sV;rw[ku];split
  ·rename_i z;rw[zo,bp];rfl
  ·rfl
structure Bk (B:List cu):Prop where
 nd:(B.map (·.1)).Nodup
 ln:B.length<=40
 fd:∀r∈B,Fd r
theorem W4{B:O cu}(b:Bk B)(hs:N.Pairwise zG)(i:N.Nodup)(j:∀n∈N,n∈B.map (·.1)):mO ((B.filter λd:cu=>decide (d.1∈N)).map λd:cu=>d)=N.map (jR B):=by
 rw[List.map_id'];have p:=vI (B.filter λd:cu=>decide (d.1∈N));have sub:∀r∈mO (B.filter λd:cu=>decide (d.1∈N)),r∈B:=λr e=>(ap.mp (p.mem_iff.mp e)).1;have g:((B.filter λd:cu=>decide (d.1∈N)).map (·.1)).Nodup:=(b.nd).sublist (be.map _);have e1:(mO (B.filter λd:cu=>decide (d.1∈N))).map (·.1)=N:=by
  refine Hg ((p.map _).trans (Mr g i λx=>⟨λh=>?_,λh=>?_⟩)) ?_ hs
  ·obtain⟨r,e,rfl⟩:=ae.mp h;exact of_decide_eq_true (ap.mp e).2
  ·obtain⟨r,e,rfl⟩:=ae.mp (j x h);exact ZU (ap.mpr ⟨e,qS h⟩)
  ·rw[az];refine(BX _).imp λ{a c} h=>?_;have:dX [.inr c.1] [.inr a.1]=false:=by
    have h:(!dX [.inr c.1] [.inr a.1])=true:=h;simpa using h
   have:Dk c.1 a.1=false:=by
    cases q:Dk c.1 a.1 with
    |false=>rfl
    |true=>
     have f:(Sum.inr c.1:AY)≠Sum.inr a.1:=λz=>((BS _ _).mp q).2 (by injection z);unfold dX at this;rw[zI f]at this;have this:Dk c.1 a.1=false:=this;rw[q]at this;cases this
   exact yV.mp this
 have e3:(mO (B.filter λd:cu=>decide (d.1∈N))).map (λr=>jR B r.1)=mO (B.filter λd:cu=>decide (d.1∈N)):=by
  conv=>rhs;rw[<-List.map_id (mO (B.filter λd:cu=>decide (d.1∈N)))]
  exact ZY λr e=>Ae b.nd (sub r e)
 rw[<-e3];have:=congrArg (List.map (jR B)) e1;rw[JI]at this;exact this
theorem Oq:("abcdefghijklmnopqrstuvwxyz0123456789":AJ).length=36:=by decide +kernel
theorem W5:("ab1":AJ).length=3:=by decide +kernel
theorem IQ(x:Int)(k:Nat)(s:AJ)(hk:k<4)(h:s.length=k):jC x s k/\(gq x s k).length=k+1:=by
 have hi:In [(1:Int),(3:Int),(9:Int),(27:Int)].length (k:Int):=B6 () (by show(k:Int)<4;omega);have hp:(0<(Ap [(1:Int),(3:Int),(9:Int),(27:Int)] (k:Int))/\(Ap [(1:Int),(3:Int),(9:Int),(27:Int)] (k:Int))<1073741824):=by
  have:=yp hi;simp only[Q4,qv,or_false]at this;rcases this with e|e|e|e<;>rw[e]<;>decide
 refine⟨⟨⟨⟨hi,hp⟩,nM () (by rw[W5];decide)⟩,jz (by rw[nO];omega)⟩,?_⟩;show(s++ch _ _).length=k+1;rw[jN,nO,h]
theorem HA(x:Int):qw x:=by
 have b:=oN (x / 4) (m:=4) ();have a:=oN (x / 20736) (m:=6) ();have lp:=oM (P:=λf k=>U (jC x f k)) (step:=λf k=>gq x f k) (λk (s:AJ)=>s.length=k) (1+x / 4%4).toNat ("":AJ) S λk s hk h=>IQ x k s () h;exact⟨λ_=>nM () (),λ_=>⟨λ_=>⟨⟨⟨nM () (by rw[Oq];decide),nM () (by rw[Oq];decide)⟩,jz (by rw[nO,nO];decide)⟩,by omega,by omega,by rw[jN,nO,nO];decide⟩,λ_=>⟨λ_=>nM () (),λ_=>⟨BL () (),lp.1⟩⟩⟩⟩
def FL:AZ:=[("day":AJ),("name":AJ),(("name":AJ)++("s":AJ)),("p":AJ)]
theorem K0:FL.Nodup:=by unfold FL;decide +kernel
theorem Iy(xs:O Int)(e:xs.length=4)(k:Nat)(ws:O (AJ×AJ))(hk:k<4)(h:(ws.map (·.1)).Sublist (FL.take k)):j8 xs FL ws k/\((fW xs FL ws k).map (·.1)).Sublist (FL.take (k+1)):=by
 have c:=h.length_le;rw[zk,kq]at c;have d:FL.length=4:=rfl;have hi:In xs.length (k:Int):=B6 () ();have a:In FL.length (k:Int):=B6 () ();have b:Ap FL (k:Int)=FL[k]'():=BK _ _ _;refine⟨⟨hi,λ_=>⟨⟨a,hi,HA _⟩,jz ()⟩⟩,?_⟩;unfold fW;dsimp only;rw[ko ()];split
 ·rw[QE,b];exact h.append (List.Sublist.refl _)
 ·exact h.trans (List.sublist_append_left _ _)
theorem GN(n:AJ)(xs:O Int)(c:xs.length=4):pB n xs/\(jx n xs).1=n/\Fd (jx n xs):=by
 have lp:=oM (P:=λf k=>U (j8 xs FL f k)) (step:=λf k=>fW xs FL f k) (λk (ws:O (AJ×AJ))=>(ws.map λq:AJ×AJ=>q.1).Sublist (FL.take k)) (kN 4) [] (List.nil_sublist _) λk s hk h=>Iy xs c k s (by rw[show kN 4=4 from XD 4]at hk;exact hk) h;have h2:((jx n xs).2.map (·.1)).Sublist (FL.take (kN 4)):=lp.2;have a:=h2.trans (dv _ _);have b:=a.length_le;rw[zk]at b;exact⟨⟨jz (by decide +kernel),lp.1⟩,rfl,K0.sublist a,zD b ()⟩
theorem L8{xs:AZ}(a:xs.Nodup){i j:Int}(hi:0<=i/\i<xs.length)(b:0<=j/\j<xs.length)(h:Ap xs i=Ap xs j):i=j:=by
 rw[show i=((i.toNat:Nat):Int) by omega,show j=((j.toNat:Nat):Int) by omega,BK _ _ (),BK _ _ ()]at h;have:=(bv a).mp h;omega
theorem W6(a:O Int)(m:Int)(z:1<=m)(h1:m<=14)(y:a.length<=63):qx a m/\Bk (bZ a m)/\1<=(bZ a m).length/\(bZ a m).length<=14:=by
 have p:=Ig (bC a 0) 9 () ();obtain⟨o,g,u⟩:=p;have g:(aX (bC a 0) 9).length=9:=g;generalize e3:aX (bC a 0) 9=hd at *
 obtain⟨q1,q2,q3⟩:=Ue hd () 15 () ();have t:=Uh hd 15 ();have q2:(cM hd 15).length=15:=q2;generalize d:cM hd 15=na at *
 have l:In [(1:Int),(2:Int),(5:Int),(8:Int),m,m].length (Ap hd 6%6):=nM () (dA 6);have x:1<=Ap [(1:Int),(2:Int),(5:Int),(8:Int),m,m] (Ap hd 6%6)/\Ap [(1:Int),(2:Int),(5:Int),(8:Int),m,m] (Ap hd 6%6)<=14:=by
  have:=yp l;simp only[Q4,qv,or_false]at this;rcases this with e|e|e|e|e|e<;>rw[e]<;>omega
 generalize n:Ap [(1:Int),(2:Int),(5:Int),(8:Int),m,m] (Ap hd 6%6)=mn at *
 have w:0<=Ap hd 7:=u _ (yp (B6 () ()))
 let nm:=λk:Int=>Ap na ((4*k+Ap hd 7)%15)
 let b:=λk:Int=>jx (nm k) (aX (bC a (1+k)) 4)
 have c:∀k:Int,pB (nm k) (aX (bC a (1+k)) 4)/\(b k).1=nm k/\Fd (b k):=λk=>GN _ _ (Ig (bC a (1+k)) 4 () ()).2.1;have lp:=oM (P:=λf k=>U (nU a hd na f k)) (step:=λf k=>jD a hd na f k) (λk (s:O cu)=>s=(rng 0 k).map b) mn.toNat [] S λk s hk h=>by
  refine⟨⟨⟨⟨⟨B6 () (),nM () (by rw[q2];decide)⟩,Nf a _ () (),(Ig _ 4 () ()).1⟩,(c k).1⟩,jz (by rw[h,zk,iJ];omega)⟩,?_⟩;show s++[b k]=_;rw[h];unfold rng;rw[List.range_succ,QE,QE];simp
 have eB:bZ a m=(rng 0 mn.toNat).map b:=by
  unfold bZ;dsimp only;rw[e3];unfold nY;dsimp only;rw[d];unfold nW;dsimp only;rw[n];exact lp.2
 refine⟨⟨⟨Nf a 0 () (),o⟩,?_⟩,?_,?_,?_⟩
 ·dsimp only;rw[e3];refine⟨q1,?_⟩;dsimp only;rw[d];refine⟨⟨B6 () (),l⟩,?_⟩;dsimp only;rw[n];exact⟨BL () (),lp.1⟩
 ·rw[eB];refine⟨?_,by rw[zk,iJ];omega,λr q=>?_⟩
  ·rw[JI];refine Mi λi j hi v h=>?_;have h:(b (i:Int)).1=(b (j:Int)).1:=h;rw[(c i).2.1,(c j).2.1]at h;have:=L8 t (by rw[q2];exact⟨by omega,by omega⟩) (by rw[q2];exact⟨by omega,by omega⟩) h;omega
  ·obtain⟨k,_,rfl⟩:=ae.mp q;exact(c k).2.2
 ·rw[eB,zk,iJ];omega
 ·rw[eB,zk,iJ];omega
theorem D0(xs:O Int)(i:8<=xs.length)(j:∀x∈xs,0<=x)(k:Nat)(s:AZ×O (AJ×AJ))(hk:k<5)(h:s.1.length=5-k/\s.2.length=k/\∀q∈s.2,q.2∈nZ):jE xs nZ s k/\(dF xs nZ s k).1.length=5-(k+1)/\(dF xs nZ s k).2.length=k+1/\∀q∈(dF xs nZ s k).2,q.2∈nZ:=by
 obtain⟨a,b,c⟩:=h;have hi:In [(1:Int),(5:Int),(20:Int),(60:Int),(120:Int)].length (k:Int):=B6 () (by show(k:Int)<5;omega);have hp:(0<(Ap [(1:Int),(5:Int),(20:Int),(60:Int),(120:Int)] (k:Int))/\(Ap [(1:Int),(5:Int),(20:Int),(60:Int),(120:Int)] (k:Int))<1073741824):=by
  have:=yp hi;simp only[Q4,qv,or_false]at this;rcases this with e|e|e|e|e<;>rw[e]<;>decide
 have f:=oN ((Ap xs 1) / (Ap [(1:Int),(5:Int),(20:Int),(60:Int),(120:Int)] (k:Int))) (m:=(s.1.length:Int)) ();have g:In nZ.length (Ap xs (2+k)%6):=nM () ();refine⟨⟨⟨⟨⟨⟨B6 () (),hi⟩,hp⟩,by omega⟩,f.1,f.2,by omega⟩,⟨B6 () (),g⟩,jz ()⟩,?_,?_,?_⟩
 ·show(s.1.eraseIdx _).length=_;rw[List.length_eraseIdx_of_lt ()];omega
 ·show(s.2++[_]).length=_;rw[qa,b];rfl
 ·intro q d;rcases ai.mp d with d|d
  ·exact c q d
  ·rw[af.mp d];exact yp g
theorem Qv(xs:O Int)(c:8<=xs.length)(b:∀x∈xs,0<=x):qy xs/\(gQ xs).length<=5/\∀q∈gQ xs,q.2∈nZ:=by
 have a:=oN (Ap xs 0) (m:=6) ();have lp:=oM (P:=λf k=>U (jE xs nZ f k)) (step:=λf k=>dF xs nZ f k) (λk (s:AZ×O (AJ×AJ))=>s.1.length=5-k/\s.2.length=k/\∀q∈s.2,q.2∈nZ) (Ap xs 0%6).toNat ([("day":AJ),("name":AJ),("names":AJ),("p":AJ),("zzz":AJ)],[]) ⟨rfl,rfl,λq h=>by cases h⟩ λk s hk h=>D0 xs c b k s () h;refine⟨⟨⟨B6 () (),BL a.1 ()⟩,lp.1⟩,?_,lp.2.2.2⟩;have:=lp.2.2.1;have e:(gQ xs).length=(Ap xs 0%6).toNat:=this;omega
theorem HK(a:AZ):(rng 0 a.length).map (Ap a)=a:=by
 apply dD
 ·rw[zk,iJ]
 ·intro k h1 h2;rw[k5];have:=Ob (Z3 (show k<(rng 0 a.length).length by rw[iJ];exact h2));rw[this.1,bX,BK _ _ h2]
theorem W7(a:AZ)(xs:O Int)(b:a.length<=40)(e:a.Nodup)(g:xs.length=8)(i:∀x∈xs,0<=x):qz a xs/\(gR a xs).Pairwise zG/\(gR a xs).Nodup/\∀n∈gR a xs,n∈a:=by
 have sub:∀p:Int->Bool,(((rng 0 (a.length:Int).toNat).filter p).map λk:Int=>Ap a k).Sublist a:=λp=>by
  have:=(be (p:=p) (l:=rng 0 (a.length:Int).toNat)).map (Ap a);rw[bo]at this ⊢;rw[HK]at this;exact this
 have p:=λxs:AZ=>cU xs;refine⟨⟨⟨⟨BL () (),by rw[iJ];omega⟩,λk hk=>?_⟩,?_⟩,lG _,(p _).nodup_iff.mpr (e.sublist (sub _)),λn b=>(sub _).subset ((p _).mem_iff.mp b)⟩
 ·have:=Wj hk;have d:=oN k (m:=(xs.length:Int)) ();have f:0<=k / (xs.length:Int):=Int.ediv_nonneg this.1 ();have h:k / (xs.length:Int)<=k:=Int.ediv_le_self _ this.1;exact⟨⟨⟨⟨by omega,B6 d.1 d.2⟩,by omega,by omega⟩,by omega,by omega⟩,λ_=>B6 this.1 ()⟩
 ·have:=(sub λc:Int=>(decide ((0:Int)<(((Ap xs (c%(xs.length:Int))) / (1+(c / (xs.length:Int))))%3)))).length_le;omega
theorem KP{B:O cu}(b:Bk B){vo:O (AJ×AJ)}(hs:N.Pairwise zG)(f:N.Nodup)(c:∀n∈N,n∈B.map (·.1))(i:∀q∈vo,q.2∈nZ)(l:vo.length<=100):iV B vo N/\dM B vo N=sV (N.map (jR B)) vo:=by
 have e:=W4 b hs f c;have k:N.length<=40:=by
  have:=vK f c;rw[zk]at this;exact zD this b.ln
 have j:∀r∈N.map (jR B),Fd r:=λr h=>by
  obtain⟨n,g,rfl⟩:=ae.mp h;obtain⟨r,d,rfl⟩:=ae.mp (c n g);rw[Ae b.nd d];exact b.fd r d
 obtain⟨f1,f2⟩:=KQ (N.map (jR B)) j (by rw[zk];omega) vo [] i (by rw[cf];omega);have sub:((B.filter λa:cu=>decide (a.1∈N)).map λa:cu=>a).Sublist B:=by rw[List.map_id'];exact be
 have bl:=b.ln;constructor
 ·refine⟨⟨by omega,dr sub.length_le (),b.nd.sublist (sub.map _)⟩,?_⟩;dsimp only;rw[e];exact f1
 ·unfold dM;dsimp only;rw[e];exact f2
theorem Di{B:O cu}(b:Bk B){vo:O (AJ×AJ)}(hs:N.Pairwise zG)(g:N.Nodup)(a:∀n∈N,n∈B.map (·.1))(d:∀q∈vo,q.2∈nZ)(f:vo.length<=100):iw B vo N/\dU B vo N=true:=by
 obtain⟨h,t1⟩:=KP b hs g a d f;have k:N.length<=40:=by
  have:=vK g a;rw[zk]at this;exact zD this b.ln
 obtain⟨d2,t2⟩:=Ol B vo N a () () d;have j:∀n∈N,n∈B.reverse.map (·.1):=λn c=>by rw[k4];exact eh.mpr (a n c)
 obtain⟨i,t3⟩:=Ol B.reverse vo N j () () d;have er:N.map (jR B.reverse)=N.map (jR B):=ZY λn c=>Uj b.nd (a n c);rw[er]at t3;have l:(sV (N.map (jR B)) vo).length<=100:=by
  unfold sV;rw[zk];exact zD (List.length_filter_le _ _) f
 have all:(((sV (N.map (jR B)) vo).map λe:cN=>((cT (f9 e))&&(cT ((eT eS) e.2.2)))).all id)=true:=by
  rw[qA];intro x hx;obtain⟨q,_,rfl⟩:=ae.mp hx;rfl
 have c1:mq B vo N (sV (N.map (jR B)) vo) []/\iZ B vo N (sV (N.map (jR B)) vo) []=true:=by
  refine⟨⟨d2,λ_=>i⟩,?_⟩;unfold iZ;rw[t2,t3,qS rfl];rfl
 constructor
 ·refine⟨h,?_⟩;dsimp only;rw[t1];refine⟨d2,?_⟩;dsimp only;rw[t2];exact λ_=>⟨by omega,λ_=>⟨jz (),c1.1⟩⟩
 ·unfold dU;dsimp only;rw[t1];unfold mC;dsimp only;rw[t2];unfold mz;rw[qS rfl,zI (),all,zI ()];exact c1.2
theorem Ot{B:O cu}(b:Bk B)(x:Int):xM B (B.map λa:cu=>a.1) eu x/\mD B (B.map λa:cu=>a.1) eu x=.nx eu:=by
 have o:=Ig x 16 () ();obtain⟨f,c,d⟩:=o;have c:(aX x 16).length=16:=c;generalize e3:aX x 16=xs at *
 obtain⟨j,p,g⟩:=Qv xs () d;have cl:(C1 xs (U 8) Z).length=8:=by
  rw[show(8:Int)=((8:Nat):Int) from rfl,S7 (),QN,c]
 obtain⟨h,i,n,m⟩:=W7 (B.map λa:cu=>a.1) (C1 xs (U 8) Z) (by rw[zk];exact b.ln) b.nd cl λz k=>d z (Wk k);obtain⟨e,l⟩:=Di b i n m g ();constructor
 ·refine⟨f,?_⟩;dsimp only;rw[e3];exact⟨j,h,e⟩
 ·unfold mD;dsimp only;rw[e3,l];rfl
theorem Um:∀a:O Int,a.length<=63->Oi a/\KD a=true:=λa k=>by
 obtain⟨b1,b2,m,l⟩:=W6 a 14 () () k;obtain⟨g,i⟩:=JL (step:=λ(e:Unit) (f:Int)=>(mD (bZ a 14) ((bZ a 14).map λb:cu=>b.1) e f:ux Unit Bool)) (P:=λe f=>U (xM (bZ a 14) ((bZ a 14).map λb:cu=>b.1) e f)) ([(bC a 16)]++C1 a (U 17) (U 30)) λx _=>⟨(Ot b2 x).1,.inl (Ot b2 x).2⟩;have p:=cU ((bZ a 14).map λb:cu=>b.1);obtain⟨h,j⟩:=Di b2 (vo:=[(("name":AJ),("most":AJ)),(("day":AJ),("longest":AJ))]) (lG _) (p.nodup_iff.mpr b2.nd) (λn d=>p.mem_iff.mp d) (λq c=>by
  simp only[Q4,qv,or_false]at c;rcases c with rfl|rfl<;>decide +kernel) ()
 obtain⟨t1,t2⟩:=Di b2 (vo:=[]) (N:=[]) .nil cx (λn d=>by cases d) (λq c=>by cases c) ();have cl:=Wm a (U 17) (U 30);constructor
 ·refine⟨b1,zD l (),⟨⟨⟨Nf a 16 () (),jz (by show 1+_<=_;omega)⟩,i⟩,?_⟩⟩;rw[g];exact⟨⟨by rw[zk];omega,h⟩,λ_=>t1⟩
 ·unfold KD;dsimp only;unfold Dg Dd;dsimp only;rw[g];show xO a _ _=true;unfold xO;rw[j,t2];rfl
theorem H1:∀a:O Int,a.length<=63->F_law [.z (.lst (a.map .int))]=U (.z (.bl true)):=(X4 Um).1
theorem H2:∀a:O Int,a.length<=63->F_law [.l (a.map .int)]=U (.z (.bl true)):=(X4 Um).2
end G35
end
open PySem PySem.W PyProof.Rows
namespace PySem.W.Fast
def tw315504681295858194:=0
def tw3573444712834136340:=0
def tw13965480575591751648:=0
def tw13863209694867148302:=0
def tw7686898045081232840:=0
def tw13159488779993439439:=0
def tw6532879102596648690:=0
def tw7062231974551722146:=0
def tw963603069772276858:=0
def tw1108826500022931015:=0
def tw14413549748232554225:=0
def tw17073831724824359852:=0
def tw4515790584283408763:=0
def tw15395401010570441054:=0
def tw11818370784512418484:=0
def tw6684288181654986341:=0
def tw4348374917506262075:=0
def tw6636738305813111452:=0
def tw614109745781910500:=0
def tw16000228730711411405:=0
def tw9484732078594424395:=0
def tw4317888224939365777:=0
def tw16741309079295292785:=0
def tw8206199592748198577:=0
def tw17162568088321161417:=0
def tw16833299123047378026:=0
def tw7741942901340655689:=0
def tw2375385739678166037:=0
def tw15075034010753189107:=0
def tw13218901047389202773:=0
def tw16672037075097341870:=0
def tw8968629219384619213:=0
def tw9928229526395194710:=0
def tw6619614728950543622:=0
def tw6300375002613209201:=0
def tw4965261069557387891:=0
def tw2650196758997423127:=0
def tw14771327769929209120:=0
def tw3691937840432385586:=0
def tw8045725362951837313:=0
def tw5008535608633711644:=0
def tw4766827531107083679:=0
def tw7436853444584340224:=0
def tw738669548091999105:=0
def tw4600681846105642379:=0
def tw8553876940754124288:=0
def tw12494550279717358751:=0
def tw2349478330260668997:=0
def tw16669484812659814016:=0
def tw17708324299645892912:=0
def tw8489312479075564914:=0
def tw5277708959654082529:=0
def tw4902865860169227324:=0
def tw894368597756418860:=0
def tw4516878990939265086:=0
def tw1304198878212802206:=0
def tw10553982959233932463:=0
def tw14359846429705566704:=0
def tw6837198284177351914:=0
def tw10358832329734192375:=0
end PySem.W.Fast
set_option maxRecDepth 100000 in
set_option maxHeartbeats 0 in
theorem PySem.Challenge.cw_onefolk_k35_views_told_holds : PySem.Challenge.rw_onefolk_k35_views_told.Holds := by
 w_on;refine PySem.W.holds_law (by decide +kernel) λsaid=>?_
 k_head;(case hw=>w_witness2)
 k_fill
 refine P1.DE (l:=PySem.Challenge.rw_onefolk_k35_views_told) (T:=G35.T) (k:=6) (x := "_law_script") (st:=G35.s_law) (F_law:=G35.F_law) (λt=>t.x_law) ⟨rfl,by decide,by decide⟩ rfl (λw mg base t=>G35.D1 t) rfl rfl G35.H1 G35.H2 (λ_ _ _ _ _ _ _=>rfl) (λw h Y=>PySem.W.km_in_of Y) (λw h _ _ _ _ X T=>⟨_,P1.Cc (by kernel_rfl) X T⟩) ?F
 case F=>
  intro w mg h KX G
  refine' ⟨PySem.W.mg_of KX G _,P1.lO KX G _ _ _ _,P1.lO KX G _ _ _ _,P1.lO KX G _ _ _ _,P1.lO KX G _ _ _ _,P1.lO KX G _ _ _ _,P1.lO KX G _ _ _ _,P1.lO KX G _ _ _ _,P1.lO KX G _ _ _ _,P1.lO KX G _ _ _ _,P1.lO KX G _ _ _ _,P1.lO KX G _ _ _ _,P1.lO KX G _ _ _ _,P1.lO KX G _ _ _ _,P1.lO KX G _ _ _ _,P1.lO KX G _ _ _ _,P1.lO KX G _ _ _ _,P1.lO KX G _ _ _ _,P1.lO KX G _ _ _ _,P1.lO KX G _ _ _ _,P1.lO KX G _ _ _ _,P1.lO KX G _ _ _ _,P1.lO KX G _ _ _ _,P1.lO KX G _ _ _ _,ZN KX G _,ZN KX G _,ZN KX G _,ZN KX G _,ZN KX G _,ZN KX G _,ZN KX G _,ZN KX G _,ZN KX G _,ZN KX G _,ZN KX G _,_,_,_⟩
  all_goals try (show _=_;k_is)
  all_goals try kernel_rfl
  all_goals (show _=true;kernel_rfl)
