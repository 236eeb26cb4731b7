import PyProof.Rows.All
import Wide.All
import OpenK.AllK
import Wide.FinOn
import Lean
import PySem.Challenge.RW_onefolk_k37_whole_views_and_rows
open PySem.Heap renaming get?_push_of_some->zd,get?_push_size->zt,lt_size->zv,get?_update_other->ZI,size_push->ZZ,get?_update_self->kG,get?_update_ne->da,get?_push_ne->dt,size_update->dI
open List renaming mem_cons_self->zg,mem_cons_of_mem->zh,size_toArray->zi,length_map->zk,map_cons->zr,mem_append_right->zz,length_append->ZA,getElem?_map->ZH,map_append->ZT,getElem?_append_left->ZU,filterMap_cons->ZY,mem_append_left->qo,filter_cons->qv,map_congr_left->qA,find?_cons->qV,not_mem_nil->Qr,getElem?_append_right->QO,mem_map_of_mem->QQ,zip_cons_cons->QU,getElem?_replicate->Q1,append_nil->Q3,map_map->ja,mem_cons->jb,length_drop->jn,length_cons->js,all_eq_true->jv,getElem?_toArray->jI,rel_of_pairwise_cons->jS,getElem?_eq_getElem->JI,foldl_cons->JY,any_cons->ka,all_cons->kc,lookup_cons_self->ke,lookup_cons->kl,nil_append->ko,length_set->kq,getElem?_set->kC,take_succ_eq_append_getElem->kF,length_take->kK,cons_append->kM,of_mem_zip->k4,nodup_cons->k5,getD_eq_getElem?_getD->k8,filter_congr->Kj,append_assoc->Kk,pairwise_mergeSort->KG,replicate->aa,getElem?_eq_some_iff->ae,mem_append->af,mem_map->ag,mem_singleton->ah,length_pos_iff->ai,mem_filter->al,pairwise_cons->am,filter_sublist->ap,nodup_append->ar,length->av,range->ax,any_eq_true->ay,mem_filterMap->aE,mem_range->aS,length_singleton->aT,contains_iff_mem->ba,getElem?_set_ne->bb,mem_of_getElem?->bg,mem_iff_getElem->bi,eq_nil_of_length_eq_zero->bo,mergeSort_perm->bq,map_eq_nil_iff->bu,find?_eq_none->bz,pairwise_map->ca,drop_eq_getElem_cons->cb,getElem_inj->ce,map_nil->cf,countP_cons->ck,take_length->cm,length_nil->cr,getElem?_set_self->cy,drop_eq_nil_of_le->cz,countP_mono_left->cE,set_comm->cK,getElem?_range->cN,replicate_succ->cS,filterMap_map->dc,map_id'->dm,count_pos_iff->dq,take_sublist->dr,flatMap_cons->du,mapM_toArray->dv,le_antisymm->dA,isEmpty_map->dL,getElem_map->dP,zipIdx_cons->dQ
open Nat renaming le_refl->zl,ne_of_lt->zD,le_of_ble_eq_true->zI,le_trans->zS,lt_of_lt_of_le->z5,zero_le->qi,lt_irrefl->QA,le_of_lt->j3,lt_succ_of_lt->Jn,lt_succ_self->JP,le_succ->ky,le_add_right->kH,succ_le_succ->KA,ne_of_gt->be,zero_add->bn,lt_of_succ_lt->bX,lt_trans->ci,min_self->df,succ_mul->dg,not_lt->dS
open Bool renaming false_eq_true->zw,false_ne_true->ZE,and_eq_true->qf,not_true->kn,not_false->kA,and_false->kB,not_eq_true'->kD,and_true->kT,or_eq_true->bj,false_or->bE,eq_iff_iff->cw,decide_and->cx
open Or renaming inr->QE,inl->JA
open Array renaming size_append->kg,toList_append->km,append_assoc->k7,length_toList->bp,perm_iff_toList_perm->bP,toList_inj->dC
open Unit renaming unit->eg
local macro_rules|`(())=>`(by first|omega|decide)
open Option renaming map_some->kX,map_eq_some_iff->aw,isSome_iff_exists->aI,isNone_iff_eq_none->cc,isSome_some->de,getD_none->dz,bind_some->dE
open Int renaming toNat_natCast->Kn,toNat_of_nonneg->br,zero_add->cq,emod_lt_of_pos->di,ofNat_le->dl,le_refl->dy
open PySem.SetTable renaming leap->az,bits->bS,runEnd->dV
open Prod renaming ext->bv
open Option renaming some->U,none->Z
abbrev O:=List
abbrev Y:=Option
theorem S{α:Sort u}{a:α}:a=a:=rfl
open PySem renaming Value->A0,Addr->A1,Shared->A2,Program->A3,World->A4,Around->A5,Heap->A6,wpAny->A7,model->A8,starEach->A9,sizeLine->AA,Stmt->AB,Keyword->AC,backTo->AD,Obj->AE,codeAny->AF,compareOp->AG,bootBuiltins->AH,Paired->AI,Str->AJ
abbrev dX(x:AJ):=(x==("__debug__":AJ))=false
open PyProof.Rows renaming envOfC->AK,wpS_bind->AL,arrOf->AM
open PySem.W (methodObj keepIn callWith_K cellsFrom_some fnOf codeIn nsIn mg_of kla_obj envX kla_fn)
set_option maxRecDepth 100000
set_option maxHeartbeats 4000000
set_option linter.all false
set_option Elab.async false
open PySem PySem.Spec PyProof.Rows
variable{w:A4}{i:Nat}{x:AJ}{a:A1}{prog:A3}{us:O A0}{u:A0}{κ:Type}{o:AE}{h:A6}{items:Array A0}{P:A3}{α β:Type}{k:Nat}{e:Expr}{n:Nat}{mg:AJ->Y A0}{base:A6}{l:A1}{env:Env}{m:Nat}{AN:O (A1×AE)}{s:A2}{it:A1}{j:Nat}{M:Model}{A:A5}{hi:Y Int}{D:O (AJ×A1)}{es:O Expr}{st:AB}{pos:Pos}{c tg:Expr}{fp:O A1}{tn:Nat->A6->Prop}{iter:Expr}{lo:Y Int}{body:O AB}{C:A1}{op:CmpOp}{AQ:O A0}{name:AJ}{tpos:Pos}{fd:FuncData}{apos:Pos}{qual:AJ}{scope:Scope}{params:Arguments}{pm:A0}{osl sl:Array (Y A0)}{p2 cpos:Pos}{XP:(AJ->Y A0)->A6->Prop}{YP:A4->A6->Prop}{cl:O (AJ×A1)}{is:O Nat}{ifs:O Expr}{elt tgt:Expr}{el:A1->Env->Sem Unit}{RR:A0->A1->Result->A2->Prop}{elts:O Expr}{x1:Nat}{γ δ:Type}{h0:A6}{os:OsState}{bmB:O A0}{newId initId:String}{vo:O (AJ×AJ)}
abbrev AZ:=O PySem.Str
abbrev BE:=PySem.Value->PySem.Shared->Prop
abbrev B5:=PySem.W.Frag
abbrev Au:=O Int
abbrev zb:=@wpAny_bind
abbrev ze:=@wpAny_pure
abbrev zo:=@if_pos
abbrev zC:=@if_neg
abbrev z4:=@decide_eq_false
abbrev Zl:=@decide_eq_true
abbrev Zp:=@wpAny_holding
abbrev Zs:=@wpAny_tryCatch
abbrev ZN:=@if_false
abbrev ZO:=@codeAny_builtin
abbrev Z3:=@if_true
abbrev qa:=@wpAny_mono
abbrev qc:=@PySem.W.mg_none_of
abbrev qh:=@wpAny_truthy_bool
abbrev qk:=@wpAny_seqItems
abbrev qr:=@wpAny_updateSeq
abbrev qB:=@wpAny_letGo
abbrev qS:=@wpAny_newObj_type
abbrev Qb:=@List.cons.injEq
abbrev QI:=@PySem.F.plain_min_loop
abbrev QN:=@PySem.F.plain_max_loop
abbrev QP:=@PySem.mem_of_lookup
abbrev QR:=@wpAny_Call_Name_kw
abbrev QY:=@decide_eq_false_iff_not
abbrev Q2:=@Option.some.inj
abbrev Q4:=@wpAny_typeOf
abbrev j0:=@Ne.symm
abbrev JE:=@wpAny_rule
abbrev JJ:=@Heap.SameBut.update
abbrev JO:=@wpAny_call_entry
abbrev JS:=@F.plain_min_loop
abbrev JU:=@F.plain_max_loop
abbrev kf:=@wpAny_pyIter_list
abbrev ki:=@decide_false
abbrev ku:=@wpAny_pyIter_tuple
abbrev kz:=@wpAny_getItem_str_slice
abbrev kP:=@wpAny_standAt
abbrev kQ:=@wpAny_newList
abbrev kR:=@Prod.mk.injEq
abbrev kU:=@wpAny_passesOwn
abbrev k6:=@wpAny_tupleItemsOf
abbrev k9:=@wpAny_of_eq
abbrev Kb:=@decide_true
abbrev Ki:=@of_decide_eq_true
abbrev Kt:=@PySem.F.args_tuple_add_2
abbrev Kx:=@wpAny_isInstance
abbrev KB:=@wpAny_callSpecial?_slot
abbrev KF:=@PySem.F.entry_tuple_add
variable{ps:AZ}{K:B5}{N:AZ}{E Q:BE}{ts ws:AZ}
namespace L2
abbrev AY:=Sum Int AJ
def fQ:AY->A0->Bool
 |.inl k,v=>Value.isInt k v
 |.inr x,v=>Value.isStrOf x v
def L5(w:A4):AY->Int
 |.inl k=>hashInt k
 |.inr x=>hashStr w x
theorem bw:∀{k:AY} {v:A0},fQ k v=true->(∃i t,k=Sum.inl i/\v=Value.int i t)\/(∃x t,k=Sum.inr x/\v=Value.str x t)
 |.inl i,v,h=>by
  obtain⟨t,e⟩:=Value.isInt_shape (k:=i) (v:=v) h;exact .inl ⟨i,t,rfl,e⟩
 |.inr x,v,h=>by
  obtain⟨t,e⟩:=Value.isStrOf_shape (x:=x) (v:=v) h;exact .inr ⟨x,t,rfl,e⟩
theorem QC(i:Int)(t:Tok):fQ (.inl i) (.int i t)=true:=by simp[fQ,Value.isInt]
theorem QD(x:AJ)(t:Tok):fQ (.inr x) (.str x t)=true:=by simp[fQ,Value.isStrOf]
theorem ZX(a b:Int):decide ((Sum.inl a:AY)=Sum.inl b)=(a==b):=by
 by_cases e:a=b
 ·subst e;simp
 ·have h:¬ (Sum.inl a:AY)=Sum.inl b:=λq=>e (Sum.inl.inj q);rw[z4 h];exact(beq_eq_false_iff_ne.mpr e).symm
theorem Z0(a b:AJ):decide ((Sum.inr a:AY)=Sum.inr b)=decide (a=b):=by
 by_cases e:a=b
 ·subst e;simp
 ·have h:¬ (Sum.inr a:AY)=Sum.inr b:=λq=>e (Sum.inr.inj q);rw[z4 h,z4 e]
theorem Z1(a:Int)(b:AJ):decide ((Sum.inl a:AY)=Sum.inr b)=false:=z4 (λq=>nomatch q)
theorem Z2(a:AJ)(b:Int):decide ((Sum.inr a:AY)=Sum.inl b)=false:=z4 (λq=>nomatch q)
def dJ(prog:A3)(w:A4):PySem.KeyKind prog w AY where
 is:=fQ
 hash:=L5 w
 inj:=λv a b f d=>by
  rcases bw f with⟨i,t,rfl,rfl⟩|⟨x,t,rfl,rfl⟩
  ·rcases bw d with⟨j,u,rfl,e⟩|⟨y,u,rfl,e⟩
   ·injection e with e1 _;rw[e1]
   ·exact nomatch e
  ·rcases bw d with⟨j,u,rfl,e⟩|⟨y,u,rfl,e⟩
   ·exact nomatch e
   ·injection e with e1 _;rw[e1]
 byValue:=λk v h=>by
  rcases bw h with⟨i,t,rfl,rfl⟩|⟨x,t,rfl,rfl⟩<;>rfl
 pyHash:=λc h=>by
  rcases bw c with⟨i,t,rfl,rfl⟩|⟨x,t,rfl,rfl⟩
  ·exact wpAny_pyHash_int h
  ·exact wpAny_pyHash_str h
 eqBool:=λg c h=>by
  rcases bw g with⟨i,t,rfl,rfl⟩|⟨x,t,rfl,rfl⟩
  ·rcases bw c with⟨j,u,rfl,rfl⟩|⟨y,u,rfl,rfl⟩
   ·rw[ZX]at h;exact wpAny_eqBool_int h
   ·rw[Z1]at h;exact SeqAt.EqAt.int_str i t y u _ _ _ _ h
  ·rcases bw c with⟨j,u,rfl,rfl⟩|⟨y,u,rfl,rfl⟩
   ·rw[Z2]at h;exact SeqAt.EqAt.str_int x t j u _ _ _ _ h
   ·rw[Z0]at h;exact wpAny_eqBool_str h
 «strs»:=λk x t v h=>by
  rcases bw h with⟨i,u,rfl,e⟩|⟨y,u,rfl,e⟩
  ·exact nomatch e
  ·injection e with e1 _;subst e1;cases v<;>rfl
theorem Jt(prog:A3)(w:A4)(i:Int)(t:Tok):(dJ prog w).is (.inl i) (.int i t)=true:=QC i t
theorem Ju(prog:A3)(w:A4)(x:AJ)(t:Tok):(dJ prog w).is (.inr x) (.str x t)=true:=QD x t
end L2
namespace L2
inductive V where
 |non|bl (b:Bool)|int (i:Int)|str (x:Str)|byt (b:Array UInt8)|flt (b:UInt64)|ref (a:Addr)|ty (n:String)
 deriving DecidableEq
def At:V->A0->Prop
 |.non,u=>u=Value.none
 |.bl b,u=>u=Value.bool b
 |.int i,u=>∃t,u=Value.int i t
 |.str x,u=>∃t,u=Value.str x t
 |.byt b,u=>∃t,u=Value.bytes b t
 |.flt b,u=>∃t,u=Value.float b t
 |.ref a,u=>u=Value.ref a
 |.ty n,u=>u=Value.type n
abbrev AX:O V->O A0->Prop:=AI At
theorem AX.length{xs:O V}{us:O A0}(r:AX xs us):xs.length=us.length:=Paired.length r
theorem AX.get:∀{xs:O V} {us:O A0} {i:Nat} {x:V},AX xs us->xs[i]?=U x->∃u,us[i]?=U u/\At x u
 |_,_,_,_,.nil,e=>by simp at e
 |_,_,0,_,.cons r _,e=>by simp at e;subst e;exact⟨_,rfl,r⟩
 |_,_,i+1,x,.cons _ t,e=>by
  obtain⟨u,h1,h2⟩:=AX.get (i:=i) (x:=x) t (by simpa using e);exact⟨u,by simpa using h1,h2⟩
theorem AX.set{x:V}{u:A0}(r:At x u):∀{xs:O V} {us:O A0} (i:Nat),AX xs us->AX (xs.set i x) (us.set i u)
 |_,_,_,.nil=>.nil
 |_,_,0,.cons _ t=>.cons r t
 |_,_,i+1,.cons q t=>.cons q (AX.set r i t)
theorem AX.append:∀{xs ys:O V} {us ws:O A0},AX xs us->AX ys ws->AX (xs++ys) (us++ws)
 |_,_,_,_,.nil,s=>s
 |_,_,_,_,.cons r t,s=>.cons r (AX.append t s)
theorem AX.take:∀{xs:O V} {us:O A0} (n:Nat),AX xs us->AX (xs.take n) (us.take n)
 |_,_,0,_=>.nil
 |_,_,_+1,.nil=>.nil
 |_,_,n+1,.cons r t=>.cons r (AX.take n t)
theorem AX.drop:∀{xs:O V} {us:O A0} (n:Nat),AX xs us->AX (xs.drop n) (us.drop n)
 |_,_,0,r=>r
 |_,_,_+1,.nil=>.nil
 |_,_,n+1,.cons _ t=>AX.drop n t
def Jv:Y V->Y A0->Prop
 |some v,U u=>At v u
 |none,Z=>True
 |_,_=>False
def KV:O (κ×V)->O (κ×A0)->Prop:=AI λ(p:κ×V) (q:κ×A0)=>p.1=q.1/\At p.2 q.2
def kV:AY->V
 |.inl i=>.int i
 |.inr x=>.str x
inductive HO where
 |lst (xs:List V)
 |tup (xs:List V)
 |dK (AO:List (AY×V))|dT (AO:List (List AY×V))
 |set (S:Int->Bool) (n:Nat)
 |ins (C dx:Addr) (fs:List (Str×V))
 |own (x:Addr)
 |xd (fs:List (Str×V))
 |met (f x:Addr)
 |rng (lo hi:Int)
 |rA (o:Obj) (u:HO)
 |G5 (ps:Array Value)
 |ext (φ:Heap->Prop)
abbrev Hp:=A1->Y HO
def B7(H:Hp)(a:A1)(o:HO):Hp:=λb=>if b=a then U o else H b
theorem aW{H:Hp}{o:HO}:B7 H a o a=U o:=by unfold B7;rw[zo rfl]
theorem aX{H:Hp}{b:A1}{o:HO}(h:b≠a):B7 H a o b=H b:=by unfold B7;rw[zC h]
def dO(h:A6)(a:A1)(items:Array A0):Prop:=∃o,h.get? a=U o/\o.cls=.type "tuple" ∧ (∃n,o.data=.seq items n)/\o.dict=Z
theorem dO.weak(x:dO h a items):IsTup h a items:=let ⟨o,e,c,d,_⟩:=x;⟨o,e,c,d⟩
theorem dO.new(h:A6)(items:Array A0):dO (h.push { cls:=.type "tuple",data:=.seq items }) h.objs.size items:=⟨_,zt _ rfl,rfl,⟨_,rfl⟩,rfl⟩
theorem zA{H:Hp}{b:A1}{o u:HO}(h:H a=U o)(h':H b=U u)(d:o≠u):a≠b:=by
 intro e;subst e;rw[h]at h';exact d (Q2 h')
theorem bZ{H:Hp}{b:A1}{o:HO}(h:H a=U o)(h':H b=Z):a≠b:=by
 intro e;subst e;rw[h]at h';cases h'
def tq(ps:Array A0):AJ:=match ps[0]? with
 |some (Value.str q _)=>q
 |_ => ""
def tr(ps:Array A0):Array A0:=ps.extract 1 ps.size
def Ss:AZ:=["most_word","longest_word","ground_of","least_for","nearest_pair"]
def Z4(K:B5)(P:A1)(q:AJ):Prop:=∃c o vs x t,K.lookup c=U o/\o.data=.fields vs/\vs[1]?=U (.str x t)/\x∈Ss/\vs[11]?=U (.ref P)/\q=x++(".<locals>.<lambda>":AJ)
def O'(o:AE):Bool:=match o.data with
 |.fields vs=>match vs[1]? with
  |some (Value.str x _)=>!Ss.contains x
  |_=>true
 |_=>true
def BY(K:B5)(H:Hp):Prop:=∀P q,Z4 K P q->∃ps,H P=U (.G5 ps)/\tq ps=q/\0<ps.size
theorem BY.go{H H':Hp}(x:BY K H)(u:∀b ps,H b=U (.G5 ps)->∃a,H' b=U (.G5 (ps++a))):BY K H':=λP q k=>by
 obtain⟨ps,e,h,z⟩:=x P q k;obtain⟨a,e'⟩:=u P ps e;refine⟨_,e',?_,by rw[kg];omega⟩;rw[<-h];unfold tq;rw[Array.getElem?_append_left z]
section
variable(P:A3)(w:A4)
def iB(H:Hp)(h:A6)(a:A1):HO->Prop
 |.lst xs=>xs.length<=AA/\∃(AQ:O A0) (n:Nat),AX xs AQ/\h.get? a=U { cls:=.type "list",data:=.seq AQ.toArray n }
 |.tup xs=>xs.length<=AA/\∃AQ:O A0,AX xs AQ/\dO h a AQ.toArray
 |.dK AO=>AO.length<=AA/\(a==sysModules)=false/\∃vs,KV AO vs/\h.DictOf (dJ P w) a vs
 |.dT AO=>AO.length<=AA/\(a==sysModules)=false/\∃xs:O (O AY×A1×A0),
   AI (λ(p:O AY×V) (q:O AY×A1×A0)=>p.1=q.1/\H q.2.1=U (.tup (p.1.map kV))/\At p.2 q.2.2) AO xs ∧
   ∃o es ep,h.get? a=U o/\o.ExactDict/\o.data=.dict es ep/\es.toList=xs.map (entryOfKey (tupleKind (dJ P w)))/\(xs.map (·.1)).Nodup
 |.set S n=>h.SetOf (intKind P w) a S n
 |.ins C dx fs=>H dx=U (.own a)/\fs.length<=1000/\dx≠a/\h.get? a=U (PySem.W.instObj C dx) ∧
   ∃mA,h.Ns1 dx mA/\(∀f,Jv (fs.lookup f) (mA f))/\PySem.Within mA (fs.map (·.1))
 |.own _=>∃o,h.get? a=U o
 |.xd fs=>∃mA,h.Ns1 a mA/\∀f,Jv (fs.lookup f) (mA f)
 |.rng lo hi=>∃t u v,h.get? a=U { cls:=.type "range",data:=.fields #[.int lo t,.int hi u,.int 1 v] }
 |.rA o u=>h.get? a=U o/\iB H h a u
 |.G5 ps=>∃b,h.get? a=U { cls:=.none,data:=.fields (tr ps++b) }/\TriplesOk (tr ps++b).toList ∧
   ∀pos g,codeAmong pos (tr ps++b).toList=U g->∃c e vs t,g=.ref c/\H c=U (.rA e (.ext λ_=>True))/\e.data=.fields vs/\vs[1]?=U (.str (tq ps) t)
 |.met f x=>h.get? a=U (methodObj (.ref f) (.ref x))
 |.ext d=>d h/\(∃o,h.get? a=U o)/\∀h1 h2:A6,d h1->(∀o,h1.get? a=U o->h2.get? a=U o)->d h2
def yc(H:Hp)(h:A6):Prop:=∀a o,H a=U o->iB P w H h a o
end
section
variable{H H':Hp}{h':A6}{o:HO}
theorem iB.lt(x:iB P w H h a o):a<h.objs.size:=by
 cases o with
 |lst xs=>obtain⟨_,_,_,_,e⟩:=x;exact zv e
 |tup xs=>obtain⟨_,_,_,p⟩:=x;exact p.weak.lt
 |dK AO=>obtain⟨_,_,_,_,o,_,_,e,_⟩:=x;exact zv e
 |dT AO=>obtain⟨_,_,_,_,o,_,_,e,_⟩:=x;exact zv e
 |set S n=>obtain⟨o,_,_,_,e,_⟩:=x;exact zv e
 |ins C dx fs=>obtain⟨_,_,_,e,_⟩:=x;exact zv e
 |own y=>obtain⟨_,e⟩:=x;exact zv e
 |xd fs=>obtain⟨_,⟨_,_,_,e,_⟩,_⟩:=x;exact zv e
 |rng lo hi=>obtain⟨_,_,_,e⟩:=x;exact zv e
 |rA b u=>obtain⟨e,_⟩:=x;exact zv e
 |G5 ps=>obtain⟨_,e,_⟩:=x;exact zv e
 |met f y=>exact zv (show h.get? a=U _ from x)
 |ext c=>obtain⟨_,⟨_,e⟩,_⟩:=x;exact zv e
theorem Paired.Z5{α β:Type}{F G:α->β->Prop}:∀{d:O α} {c:O β},AI F d c->(∀a b,F a b->G a b)->AI G d c
 |_,_,.nil,_=>.nil
 |_,_,.cons r t,f=>.cons (f _ _ r) (Paired.Z5 t f)
theorem Paired.imp'{F G:α->β->Prop}(f:∀a b,F a b->G a b){d:O α}{c:O β}(r:AI F d c):AI G d c:=Paired.Z5 r f
theorem iB.stay(x:iB P w H h a o)(k:∀b u,(b=a\/H b=U (.own a))->h.get? b=U u->h'.get? b=U u)
  (B:∀b,H b=U (.own a)->H' b=U (.own a)) (G:∀b xs,H b=U (.tup xs)->H' b=U (.tup xs)) (F:∀b o l,H b=U (.rA o (.ext l))->H' b=U (.rA o (.ext l))):iB P w H' h' a o:=by
 induction o with
 |lst xs=>obtain⟨z,AQ,n,r,e⟩:=x;exact⟨z,AQ,n,r,k _ _ (.inl rfl) e⟩
 |tup xs=>obtain⟨z,AQ,r,i,e,c⟩:=x;exact⟨z,AQ,r,i,k _ _ (.inl rfl) e,c⟩
 |dK AO=>obtain⟨z,y,vs,r,i,es,ep,e,c⟩:=x;exact⟨z,y,vs,r,i,es,ep,k _ _ (.inl rfl) e,c⟩
 |dT AO=>
  obtain⟨z,y,xs,r,i,es,ep,e,c⟩:=x;exact⟨z,y,xs,Paired.Z5 r λp q z=>⟨z.1,G _ _ z.2.1,z.2.2⟩,i,es,ep,k _ _ (.inl rfl) e,c⟩
 |set S n=>obtain⟨i,es,ep,t,e,c⟩:=x;exact⟨i,es,ep,t,k _ _ (.inl rfl) e,c⟩
 |ins C dx fs=>
  obtain⟨d,z,s,e,mA,⟨j,es,ep,e2,c⟩,r⟩:=x;exact⟨B _ d,z,s,k _ _ (.inl rfl) e,mA,⟨j,es,ep,k _ _ (.inr d) e2,c⟩,r⟩
 |own y=>obtain⟨i,e⟩:=x;exact⟨i,k _ _ (.inl rfl) e⟩
 |xd fs=>obtain⟨mA,⟨j,es,ep,e,c⟩,r⟩:=x;exact⟨mA,⟨j,es,ep,k _ _ (.inl rfl) e,c⟩,r⟩
 |rng lo hi=>obtain⟨t,u,v,e⟩:=x;exact⟨t,u,v,k _ _ (.inl rfl) e⟩
 |rA i u A=>obtain⟨e,q⟩:=x;exact⟨k _ _ (.inl rfl) e,A q⟩
 |G5 ps=>
  obtain⟨E,e,J,I⟩:=x;refine⟨E,k a _ (.inl rfl) e,J,λpos D z=>?_⟩;obtain⟨c,m,vs,t,rfl,g,d,v⟩:=I pos D z;exact⟨c,m,vs,t,rfl,F c m _ g,d,v⟩
 |met f y=>
  have e:h.get? a=U (methodObj (.ref f) (.ref y)):=x;show h'.get? a=U (methodObj (.ref f) (.ref y));exact k a _ (.inl rfl) e
 |ext l=>obtain⟨p,⟨o,e⟩,st⟩:=x;exact⟨st _ _ p λo q=>k _ _ (.inl rfl) q,⟨o,k _ _ (.inl rfl) e⟩,st⟩
theorem yc.lt(x:yc P w H h)(e:H a=U o):a<h.objs.size:=(x a o e).lt
theorem yc.fresh(x:yc P w H h)(e:h.objs.size<=a):H a=Z:=by
 cases q:H a with
 |none=>rfl
 |some u=>exact absurd (z5 (x.lt q) e) (QA _)
theorem yc.kept(x:yc P w H h)(k:∀b u,h.get? b=U u->h'.get? b=U u):yc P w H h':=λa o e=>
 (x a o e).stay (λb u _ q=>k b u q) (λ_ q=>q) (λ_ _ q=>q) λ_ _ _ q=>q
theorem yc.laid(x:yc P w H h)(k:∀b u,h.get? b=U u->h'.get? b=U u)(hp:h.objs.size<=a)(new:iB P w (B7 H a o) h' a o):yc P w (B7 H a o) h':=λb u e=>by
 have d:=x.fresh hp;by_cases f:b=a
 ·subst f;rw[aW]at e;cases e;exact new
 ·rw[aX f]at e;exact(x b u e).stay (λc v _ q=>k c v q) (λc q=>by rw[aX (bZ q d)];exact q) (λc xs q=>by rw[aX (bZ q d)];exact q) λc o' g q=>by rw[aX (bZ q d)];exact q
end
def Rd(H:Hp)(a:A1)(u:HO):Prop:=H a=U u\/∃o,H a=U (.rA o u)
theorem Rd.ok{H:Hp}{u:HO}(r:Rd H a u)(x:yc P w H h):iB P w H h a u:=by
 rcases r with r|⟨o,r⟩
 ·exact x a u r
 ·obtain⟨_,q⟩:=x a _ r;exact q
def EH:Y HO->Prop
 |some (.lst _)=>True
 |some (.dK _)=>True
 |some (.dT _)=>True
 |some (.set _ _)=>True
 |some (.ins _ _ _)=>True
 |some (.ext _)=>True
 |_=>False
section
variable{H:Hp}{h':A6}{x e:A1}{o':HO}
theorem yc.write(ok:yc P w H h)(a:EH (H x))(m:e=x\/H e=U (.own x))(k:∀b u,b≠e->h.get? b=U u->h'.get? b=U u)(o:∃u,h'.get? e=U u)
  (new:iB P w (B7 H x o') h' x o'):yc P w (B7 H x o') h':=λb u q=>by
 have l:∀c y,H c=U (.own y)->c≠x:=λc y r z=>by subst z;rw[r]at a;exact a
 have n:∀c xs,H c=U (.tup xs)->c≠x:=λc xs r z=>by subst z;rw[r]at a;exact a
 have s:∀c o' i,H c=U (.rA o' i)->c≠x:=λc o' i r z=>by subst z;rw[r]at a;exact a
 by_cases f:b=x
 ·subst f;rw[aW]at q;cases q;exact new
 ·rw[aX f]at q;by_cases d:b=e
  ·have j:H b=U (.own x):=by
    rcases m with z|z
    ·exact absurd (d.trans z) f
    ·rw[d];exact z
   rw[q]at j;cases j;obtain⟨v,p⟩:=o;exact⟨v,by rw[d];exact p⟩
  ·refine(ok b u q).stay (λc v g r=>k c v ?_ r) (λc r=>by rw[aX (l c b r)];exact r) (λc xs r=>by rw[aX (n c xs r)];exact r) λc o' i r=>by rw[aX (s c o' _ r)];exact r
   rcases g with rfl|g
   ·exact d
   ·rintro rfl;rcases m with z|z
    ·exact l c b g z
    ·rw[g]at z;cases z;exact f rfl
end
structure Un (fs ex:List Addr) (H H':Hp) (h h':Heap):Prop where
 keep:∀b o,h.get? b=some o->H b=none->b∉fs->b∉ex->h'.get? b=some o
 slot:∀b o,h.get? b=some o->H b=none->b∈fs->b∉ex->∃sl,h'.get? b=some { o with slots:=sl }
 free:∀b o,h.get? b=some o->H b=none->b∉ex->H' b=none
 there:∀b o,h.get? b=some o->b∉ex->∃o',h'.get? b=some o'
 tups:∀b xs,H b=some (.tup xs)->H' b=some (.tup xs)
 DP:∀b o u,H b=some (.rA o u)->H' b=some (.rA o u)
 wj:∀b ps,H b=some (.G5 ps)->∃more,H' b=some (.G5 (ps++more))
section
variable{fs fs' ex ex':O A1}{H H1 H2:Hp}{h1 h2 h':A6}{x e:A1}{o:HO}
theorem Un.any(u:Un fs ex H H1 h h1){b:A1}{a:AE}(q:h.get? b=U a)(n:H b=Z)(hx:b∉ex):∃sl,h1.get? b=U { a with slots:=sl }:=by
 by_cases c:b∈fs
 ·exact u.slot b a q n c hx
 ·exact⟨a.slots,u.keep b a q n c hx⟩
theorem Un.kept(k:∀b u,h.get? b=U u->h'.get? b=U u):Un fs ex H H h h':=
 ⟨λb a q _ _ _=>k b a q,λb a q _ _ _=>⟨a.slots,k b a q⟩,λ_ _ _ n _=>n,λb a q _=>⟨a,k b a q⟩,λ_ _ q=>q,λ_ _ _ q=>q,λ_ ps q=>⟨#[],by rw[q];simp⟩⟩
theorem Un.refl:Un fs ex H H h h:=Un.kept λ_ _ q=>q
theorem Un.laid(k:∀b u,h.get? b=U u->h'.get? b=U u)(hp:h.objs.size<=a)(c:H a=Z):Un fs ex H (B7 H a o) h h' where
 keep:=λb u q _ _ _=>k b u q
 slot:=λb u q _ _ _=>⟨u.slots,k b u q⟩
 free:=λb u q n _=>by rw[aX (zD (z5 (zv q) hp))];exact n
 there:=λb u q _=>⟨u,k b u q⟩
 tups:=λb xs q=>by rw[aX (bZ q c)];exact q
 DP:=λb u xs q=>by rw[aX (bZ q c)];exact q
 wj:=λb ps q=>⟨#[],by rw[aX (bZ q c),q];simp⟩
theorem Un.write(a:EH (H x))(i:e=x\/H e=U (.own x))(k:∀b u,b≠e->h.get? b=U u->h'.get? b=U u)(g:∃u,h'.get? e=U u):Un fs ex H (B7 H x o) h h':=by
 have hx:∀b,H b=Z->b≠x:=λb n z=>by subst z;rw[n]at a;exact a
 have f:∀b,H b=Z->b≠e:=λb n z=>by
  subst z;rcases i with r|r
  ·exact hx b n r
  ·rw[n]at r;cases r
 have c:∀b u,H b=U u->¬ EH (U u)->b≠x:=λb u q nm z=>by subst z;rw[q]at a;exact nm a
 refine⟨λb u q n _ _=>k b u (f b n) q,λb u q n _ _=>⟨u.slots,k b u (f b n) q⟩,λb u q n _=>by rw[aX (hx b n)];exact n,λb u q _=>?_,
  λb xs q=>by rw[aX (c b _ q λz=>z)];exact q,λb u xs q=>by rw[aX (c b _ q λz=>z)];exact q,λb ps q=>⟨#[],by rw[aX (c b _ q λz=>z),q];simp⟩⟩
 by_cases d:b=e
 ·subst d;exact g
 ·exact⟨u,k b u d q⟩
end
def DU(h:A6)(H:Hp):O A1:=(ax h.objs.size).filter λa=>(H a).isSome
def G6(h:A6)(H:Hp):A6:=PySem.W.hideAll h (DU h H)
theorem QF(h:A6)(H:Hp):(G6 h H).objs.size=h.objs.size:=PySem.W.hideAll_size _ _
theorem Sv{H:Hp}{b:A1}(e:h.get? b=U o)(n:H b=Z):(G6 h H).get? b=U o:=
 PySem.W.hideAll_get _ e λa=>by
  have q:(H b).isSome=true:=(al.mp a).2;rw[n]at q;simp at q
theorem Wk{H:Hp}{b:A1}(e:(G6 h H).get? b=U o):h.get? b=U o/\H b=Z:=by
 have e':h.get? b=U o:=PySem.W.of_hideAll (DU h H) e;refine⟨e',?_⟩;cases q:H b with
 |none=>rfl
 |some x=>
  have a:b∈DU h H:=al.mpr ⟨aS.mpr (zv e'),by simp[q]⟩;have z:(G6 h H).get? b=Z:=PySem.W.hideAll_none (DU h H) a;rw[z]at e;cases e
def Wm(g h:A6)(L:A1):O (A1×AE):=(ax h.objs.size).filterMap λa=>if a=L\/(g.get? a).isSome=true then Z else(h.get? a).map λo=>(a,o)
def AS(g h:A6)(L d:A1):O (A1×AE):=(Wm g h L).filter λp=>decide (p.1≠d)
end L2
namespace L2
structure Mod (K:B5) (mg:Str->Option Value) (base:Heap):Prop where
 kin:K.In base
 glob:base.Ns mainGlobals mg
 blt:∃mb,base.Ns builtinsNs mb/\∀x:Str,x ≠ "__name__" → mb x=bootBuiltins x
 nolimit:base.NoLimit
 bmain:∃bm ob,mg "__builtins__"=some (.ref bm)/\bm≠builtinsNs/\base.get? bm=some ob/\ob.cls=.type "module" ∧ ob.dict=some builtinsNs/\ob.data=.plain
structure Cx where
 prog:Program
 w:World
 K:B5
 mg:Str->Option Value
 base:Heap
 A:Around
 N:AZ
 s₀:Shared
 H₀:Hp
 env:Env
 outer:List Env
 stack:List Env
 ex:List Addr
 fn:Str->Bool
 calm:Bool
 pn:List (Addr×Obj)
 xe:BE
abbrev d9(X:Cx):=A8 X.prog X.w
def CS(l:O Env):O A1:=l.filterMap (·.frame)
abbrev Cx.fs(X:Cx):O A1:=CS X.outer
def QG(a:Scope)(x:AJ):Prop:=a.names.lookup x=U .local\/a.names.lookup x=U .cell\/a.names.lookup x=U .free
def CL(a:Scope)(x:AJ):Prop:=a.names.lookup x=U .local\/a.names.lookup x=U .cell
def FM(env:Env)(h:A6)(m:AJ->Y A0)(x:AJ)(u:A0):Prop:=
 (env.kindOf x=U .local/\m x=U u)\/((env.kindOf x=U .cell\/env.kindOf x=U .free)/\∃c,env.cells.lookup x=U c/\h.IsCell c (U u))
structure Cx.Ok (X:Cx):Prop where
 mod:Mod X.K X.mg X.base
 kind:X.env.scope.kind=.function
 glob:X.env.globals=mainGlobals
 blt:X.env.builtins=builtinsNs
 above:X.s₀.heap.objs.size<=X.env.locals
 inj:∀x y c,X.env.cells.lookup x=some c->X.env.cells.lookup y=some c->x=y
 has:∀x,(X.env.kindOf x=some .cell\/X.env.kindOf x=some .free)->∃c,X.env.cells.lookup x=some c
 cab:∀x c,X.fn x=true->X.env.cells.lookup x=some c->X.s₀.heap.objs.size<=c
 hd:X.calm=true->X.A.handled=none
 frames:X.A.frames=some X.stack
 stk:X.stack=X.outer\/(X.stack=X.env::X.outer/\X.env.frame=some X.env.locals)
 exf:∀b∈X.ex,b≠X.env.locals/\∀x c,X.env.cells.lookup x=some c->c≠b
 bs:∀b o,X.base.get? b=some o->X.s₀.heap.get? b=some o/\X.H₀ b=none
 Wn:X.base.objs.size<=X.s₀.heap.objs.size
 Sw:∀b o,X.base.get? b=some o->b∉X.ex
 Wo:∀b∈X.ex,b∉X.fs
 Av:X.s₀.heap.FunFrames X.base X.outer
 frf:∀b∈X.fs,X.H₀ b=none
 tabs:BY X.K X.H₀
structure AU (X:Cx) (AN:List (Addr×Obj)) (σ:List (Option V)) (H:Hp) (s:Shared):Prop where
 ok:X.Ok
 os:s.os=X.s₀.os
 bare:AllBare s.gens
 base:Un X.fs X.ex X.H₀ H X.s₀.heap s.heap
 loc:∃m,s.heap.Ns X.env.locals m/\∀(i:Nat) (x:Str) (v:V),X.N[i]?=some x->σ[i]?=some (some v)->QG X.env.scope x->∃u,At v u/\FM X.env s.heap m x u
 cell:∀x c,X.env.cells.lookup x=some c->∃v,s.heap.IsCell c v
 free:H X.env.locals=none
 oZ:∀x c,X.env.cells.lookup x=some c->H c=none
 pin:∀p∈X.pn++AN,s.heap.get? p.1=some p.2/\H p.1=none/\p.1≠X.env.locals/\p.1∉X.fs/\∀v,p.2.data≠.cell v
 hok:yc X.prog X.w H s.heap
 len:σ.length=X.N.length
section
variable{X:Cx}{σ:O (Y V)}{H H':Hp}{h':A6}
theorem Cx.Ok.aeG(ok:X.Ok){b:A1}(e:X.base.get? b=U o):b∉X.fs:=λa=>by
 have:=(ok.Av.mem a).1;rw[e]at this;cases this
theorem AU.bs(I:AU X AN σ H s):∀b o,X.base.get? b=U o->s.heap.get? b=U o/\H b=Z:=λb o e=>
 ⟨I.base.keep b o (I.ok.bs b o e).1 (I.ok.bs b o e).2 (I.ok.aeG e) (I.ok.Sw b o e),I.base.free b o (I.ok.bs b o e).1 (I.ok.bs b o e).2 (I.ok.Sw b o e)⟩
theorem AU.bk(I:AU X AN σ H s):∀b o,X.base.get? b=U o->s.heap.get? b=U o:=λb o e=>(I.bs b o e).1
theorem AU.mod(I:AU X AN σ H s):Mod X.K X.mg X.base:=I.ok.mod
theorem AU.Wf(I:AU X AN σ H s):X.K.In s.heap:=I.ok.mod.kin.keeps I.bk
theorem AU.nolimit(I:AU X AN σ H s):s.heap.NoLimit:=I.ok.mod.nolimit.keeps I.bk
theorem AU.lt(I:AU X AN σ H s):X.env.locals<s.heap.objs.size:=let ⟨_,hn,_⟩:=I.loc;hn.lt
theorem AU.sz(I:AU X AN σ H s):X.s₀.heap.objs.size<=s.heap.objs.size:=zS I.ok.above (j3 I.lt)
theorem AU.Z6(I:AU X AN σ H s)(h:s.heap.objs.size<=a):a∉X.fs:=λb=>by
 obtain⟨_,o,c,_⟩:=I.ok.Av.mem b;exact absurd (z5 (zv c) (zS I.sz h)) (QA _)
theorem AU.Z7(I:AU X AN σ H s):∀x c,X.env.cells.lookup x=U c->c≠X.env.locals:=λx c e z=>by
 obtain⟨v,o,a,hd⟩:=I.cell x c e;obtain⟨m,⟨o',es,ep,d,b,_⟩,_⟩:=I.loc;rw[z,d]at a;cases a;rw[b]at hd;cases hd
theorem AU.Av(I:AU X AN σ H s):s.heap.FunFrames X.base X.outer:=by
 have all:∀(l:O Env),(∀b∈CS l,b∈X.fs)->X.s₀.heap.FunFrames X.base l->s.heap.FunFrames X.base l:=by
  intro l
  induction l with
  |nil=>intro _ _;trivial
  |cons env r j=>
   intro hs f;obtain⟨hk,⟨L,o,c,i,g,hd⟩,h⟩:=f;have d:L∈X.fs:=hs L (by unfold CS;rw[ZY,c];exact zg);obtain⟨sl,e⟩:=I.base.slot L o g (I.ok.frf L d) d λz=>I.ok.Wo L z d;exact⟨hk,⟨L,_,c,i,e,hd⟩,j (λb a=>hs b (by unfold CS;rw[ZY,c];exact zh _ a)) h⟩
 exact all X.outer (λ_ a=>a) I.ok.Av
theorem AU.stack(I:AU X AN σ H s):s.heap.FunFrames X.base X.stack:=by
 rcases I.ok.stk with e|⟨e,b⟩
 ·rw[e];exact I.Av
 ·rw[e];obtain⟨m,a,_⟩:=I.loc;refine .cons (by rw[I.ok.kind];decide) b a ?_ I.Av;exact Heap.get?_none_of_le (zS I.ok.Wn I.ok.above)
theorem AU.G7(I:AU X AN σ H s):∀b∈CS X.stack,b∈X.env.locals::X.fs:=λb a=>by
 rcases I.ok.stk with e|⟨e,c⟩
 ·rw[e]at a;exact zh _ a
 ·rw[e]at a;unfold CS at a;rw[ZY,c]at a;exact a
theorem AU.G8(I:AU X AN σ H s):∀b∈CS X.stack,H b=Z:=λb a=>by
 rcases List.mem_cons.mp (I.G7 b a)with e|a
 ·rw[e];exact I.free
 ·obtain⟨_,o,c,_⟩:=I.ok.Av.mem a;exact I.base.free b o c (I.ok.frf b a) λz=>I.ok.Wo b z a
theorem AU.step{g':Array GenState}{t':Nat}{d':Drawn}{ch:O A1}(I:AU X AN σ H s)
  (g:∀b∈ch,(b∈X.ex\/X.s₀.heap.objs.size<=b)/\b≠X.env.locals/\(∀x c,X.env.cells.lookup x=U c->c≠b)/\∀p∈X.pn++AN,p.1≠b)
  (keep:∀b o,b≠X.env.locals->b∉X.fs->b∉ch->s.heap.get? b=U o->H b=Z->h'.get? b=U o)
  (A:∀b o,b≠X.env.locals->b∈X.fs->b∉ch->s.heap.get? b=U o->H b=Z->∃sl,h'.get? b=U { o with slots:=sl }) (free:∀b o,b∉ch->s.heap.get? b=U o->H b=Z->H' b=Z)
  (G:∀b o,b∉ch->s.heap.get? b=U o->∃o',h'.get? b=U o')
  (J:∀b xs,H b=U (.tup xs)->H' b=U (.tup xs)) (P:∀b o u,H b=U (.rA o u)->H' b=U (.rA o u)) (L:∀b ps,H b=U (.G5 ps)->∃a0,H' b=U (.G5 (ps++a0)))
  (M:∀m,s.heap.Ns X.env.locals m->h'.Ns X.env.locals m) (E:yc X.prog X.w H' h') (Q:AllBare g'):
  AU X AN σ H' { s with heap:=h',gens:=g',drawn:=d',toks:=t' }:=by
 have y:∀b o,X.s₀.heap.get? b=U o->b≠X.env.locals:=λb o e=>zD (z5 (zv e) I.ok.above);have j:∀b o,X.s₀.heap.get? b=U o->b∉X.ex->b∉ch:=λb o e hx a=>by
  rcases(g b a).1 with z|z
  ·exact hx z
  ·exact absurd (z5 (zv e) z) (QA _)
 have B:∀x c,X.env.cells.lookup x=U c->∀v,s.heap.IsCell c v->h'.IsCell c v:=λx c e v ⟨o,f,hd⟩=>by
  have h:c∉ch:=λz=>(g c z).2.2.1 x c e rfl;by_cases D:c∈X.fs
  ·obtain⟨sl,q⟩:=A c o (I.Z7 x c e) D h f (I.oZ x c e);exact⟨_,q,hd⟩
  ·exact⟨o,keep c o (I.Z7 x c e) D h f (I.oZ x c e),hd⟩
 refine⟨I.ok,I.os,Q,⟨λb o e n a hx=>?_,λb o e n a hx=>?_,λb o e n hx=>?_,λb o e hx=>?_,λb xs e=>J b xs (I.base.tups b xs e),λb o xs e=>P b o xs (I.base.DP b o xs e),λb ps e=>?_⟩,?_,λx c e=>?_,?_,λx c e=>?_,λp hp=>?_,E,I.len⟩
 ·exact keep b o (y b o e) a (j b o e hx) (I.base.keep b o e n a hx) (I.base.free b o e n hx)
 ·obtain⟨sl,e1⟩:=I.base.slot b o e n a hx;obtain⟨K,e2⟩:=A b _ (y b o e) a (j b o e hx) e1 (I.base.free b o e n hx);exact⟨K,e2⟩
 ·obtain⟨o',e1⟩:=I.base.there b o e hx;exact free b o' (j b o e hx) e1 (I.base.free b o e n hx)
 ·obtain⟨o',e1⟩:=I.base.there b o e hx;exact G b o' (j b o e hx) e1
 ·obtain⟨m1,e1⟩:=I.base.wj b ps e;obtain⟨N,e2⟩:=L b _ e1;exact⟨m1++N,by rw[e2,k7]⟩
 ·obtain⟨m,W,F⟩:=I.loc;refine⟨m,M m W,λi x v e1 e2 e3=>?_⟩;obtain⟨u,r,l⟩:=F i x v e1 e2 e3;refine⟨u,r,?_⟩;rcases l with l|⟨k,c,e,z⟩
  ·exact .inl l
  ·exact .inr ⟨k,c,e,B x c e _ z⟩
 ·obtain⟨v,z⟩:=I.cell x c e;exact⟨v,B x c e v z⟩
 ·obtain⟨m,⟨o,_,_,f,_⟩,_⟩:=I.loc;exact free _ o (λz=>(g _ z).2.1 S) f I.free
 ·obtain⟨v,o,f,hd⟩:=I.cell x c e;exact free c o (λz=>(g c z).2.2.1 x c e S) f (I.oZ x c e)
 ·obtain⟨e,n,t,C,d⟩:=I.pin p hp;have h:p.1∉ch:=λz=>(g p.1 z).2.2.2 p hp rfl;exact⟨keep p.1 p.2 t C h e n,free p.1 p.2 h e n,t,C,d⟩
theorem AU.un{t':Nat}(I:AU X AN σ H s)(u:Un X.fs [] H H' s.heap h')(f:yc X.prog X.w H' h'):AU X AN σ H' { s with heap:=h',toks:=t' }:=by
 obtain⟨m,⟨o,es,ep,c,r⟩,_⟩:=id I.loc;obtain⟨sl,k⟩:=u.any c I.free (by simp);exact I.step (g':=s.gens) (d':=s.drawn) (ch:=[]) (λ_ z=>nomatch z) (λb o _ a _ e n=>u.keep b o e n a (by simp)) (λb o _ a _ e n=>u.slot b o e n a (by simp)) (λb o _ e n=>u.free b o e n (by simp)) (λb o _ e=>u.there b o e (by simp)) u.tups u.DP u.wj (λl h=>by
  obtain⟨o',j,i,d,g⟩:=h;rw[c]at d;cases d;exact⟨_,j,i,k,g⟩) f I.bare
theorem AU.call{g':Array GenState}{t':Nat}{d':Drawn}{ch:O A1}(I:AU X AN σ H s)(u:Un (CS X.stack) ch H H' s.heap h')(i:yc X.prog X.w H' h')(t:AllBare g')
  (h:∀b∈ch,(b∈X.ex\/X.s₀.heap.objs.size<=b)/\b≠X.env.locals/\(∀x c,X.env.cells.lookup x=U c->c≠b)/\∀p∈X.pn++AN,p.1≠b):
  AU X AN σ H' { s with heap:=h',gens:=g',drawn:=d',toks:=t' }:=by
 obtain⟨m,⟨o,es,ep,f,r⟩,_⟩:=id I.loc;obtain⟨sl,d⟩:=u.any f I.free λz=>(h _ z).2.1 rfl;exact I.step (ch:=ch) h (λb o d q a e n=>u.keep b o e n (λz=>(List.mem_cons.mp (I.G7 b z)).elim d q) a) (λb o _ _ a e n=>u.any e n a) (λb o a e n=>u.free b o e n a) (λb o a e=>u.there b o e a) u.tups u.DP u.wj (λy k=>by
  obtain⟨o',v,l,g,j⟩:=k;rw[f]at g;cases g;exact⟨_,v,l,d,j⟩) i t
theorem AU.turned{t':Nat}(I:AU X AN σ H s)(k:∀b o,b≠it->s.heap.get? b=U o->h'.get? b=U o)(l:H it=Z)(f:it≠X.env.locals)(h1:it∈X.ex\/X.s₀.heap.objs.size<=it)(h2:∀x c,X.env.cells.lookup x=U c->c≠it)(g:∀p∈X.pn++AN,p.1≠it):AU X AN σ H { s with heap:=h',toks:=t' }:=by
 have d:∀b u,H b=U u->b≠it:=λb u e z=>by rw[z,l]at e;cases e
 refine I.step (g':=s.gens) (d':=s.drawn) (ch:=[it]) (λb j=>?_) (λb o _ _ a e _=>k b o (λz=>a (by simp[z])) e) (λb o _ _ a e _=>⟨o.slots,k b o (λz=>a (by simp[z])) e⟩) (λ_ _ _ _ n=>n)
  (λb o a e=>⟨o,k b o (λz=>a (by simp[z])) e⟩) (λ_ _ e=>e) (λ_ _ _ e=>e) (λb ps e=>⟨#[],by rw[e];simp⟩) (λm h=>?_) (λb u e=>?_) I.bare
 ·have e:b=it:=by simpa using j
  subst e;exact⟨h1,f,h2,g⟩
 ·obtain⟨o,es,ep,i,r⟩:=h;exact⟨o,es,ep,k _ o (j0 f) i,r⟩
 ·refine(I.hok b u e).stay (λc v a q=>k c v ?_ q) (λ_ q=>q) (λ_ _ q=>q) λ_ _ _ q=>q;rcases a with z|z
  ·rw[z];exact d b u e
  ·exact d c _ z
theorem AU.tok(I:AU X AN σ H s)(t:Nat):AU X AN σ H { s with toks:=t }:=I.un (h':=s.heap) (t':=t) Un.refl I.hok
theorem AU.kept{t':Nat}(I:AU X AN σ H s)(k:∀b u,s.heap.get? b=U u->h'.get? b=U u):AU X AN σ H { s with heap:=h',toks:=t' }:=I.un (Un.kept k) (I.hok.kept k)
theorem AU.laid{a:A1}{o:HO}{t':Nat}(I:AU X AN σ H s)(k:∀b u,s.heap.get? b=U u->h'.get? b=U u)(hp:s.heap.objs.size<=a)(new:iB X.prog X.w (B7 H a o) h' a o):
  AU X AN σ (B7 H a o) { s with heap:=h',toks:=t' }:=I.un (Un.laid k hp (I.hok.fresh hp)) (I.hok.laid k hp new)
theorem AU.write{x e:A1}{o:HO}{t':Nat}(I:AU X AN σ H s)(a:EH (H x))(c:e=x\/H e=U (.own x))(k:∀b u,b≠e->s.heap.get? b=U u->h'.get? b=U u)(d:∃u,h'.get? e=U u)
  (new:iB X.prog X.w (B7 H x o) h' x o):AU X AN σ (B7 H x o) { s with heap:=h',toks:=t' }:=I.un (Un.write a c k d) (I.hok.write a c k d new)
theorem AU.wk{a:O (A1×AE)}(I:AU X AN σ H s)(h:∀p∈a,s.heap.get? p.1=U p.2/\H p.1=Z/\p.1≠X.env.locals/\p.1∉X.fs/\∀v,p.2.data≠.cell v):AU X a σ H s:=
 ⟨I.ok,I.os,I.bare,I.base,I.loc,I.cell,I.free,I.oZ,λp hp=>(af.mp hp).elim (λz=>I.pin p (qo _ z)) (h p),I.hok,I.len⟩
theorem Jw(hN:N.Nodup)(a:N[i]?=U x)(b:N[j]?=U x):i=j:=by
 obtain⟨h1,e1⟩:=ae.mp a;obtain⟨h2,e2⟩:=ae.mp b;exact(ce hN).mp (e1.trans e2.symm)
theorem QH{v:V}{Q:Unit->A2->Prop}(I:AU X AN σ H s)(hN:X.N.Nodup)(hi:X.N[i]?=U x)(hx:CL X.env.scope x)(r:At v u)(h:∀s',AU X AN (σ.set i (U v)) H s'->(∃a,Heap.SameBut a s.heap s'.heap/\(a=X.env.locals\/X.env.cells.lookup x=U a))->Q eg s')(hf:X.fn x=true\/X.env.scope.names.lookup x=U .local:=by first|exact .inl rfl|exact .inr rfl|assumption):A7 M A (storeName X.env x u) Q E s:=by
 obtain⟨m,K,L⟩:=id I.loc;have a7:(X.env.scope.kind==.class||(X.env.scope.kind==.module&&X.env.locals !=X.env.globals))=false:=by rw[I.ok.kind];rfl
 have W:i<σ.length:=by rw[I.len];exact(ae.mp hi).1
 have Z7:=I.Z7;have a1:∀{a:A1} {h':A6},(∃o,s.heap.get? a=U o/\H a=Z)->Heap.SameBut a s.heap h'->yc X.prog X.w H h':=λ{a h'} ha hs b ob e=>by
  obtain⟨_,_,a4⟩:=ha;refine(I.hok b ob e).stay (λc B f q=>(hs.2 c ?_).trans q) (λ_ q=>q) (λ_ _ q=>q) λ_ _ _ q=>q;rintro rfl;rcases f with rfl|f
  ·rw[a4]at e;cases e
  ·rw[a4]at f;cases f
 rcases hx with hk|hk
 ·refine wpAny_storeName_local hk K (λh' a6 hs=>?_) a7;obtain⟨oL,_,_,a8,_⟩:=id K;refine h _ ⟨I.ok,I.os,I.bare,⟨λb o e n g hx=>?_,λb o e n g hx=>?_,I.base.free,λb o e hx=>?_,I.base.tups,I.base.DP,I.base.wj⟩,⟨_,a6,λj y F e1 e2 e3=>?_⟩,λy c e=>?_,I.free,I.oZ,λp hp=>?_,a1 ⟨oL,a8,I.free⟩ hs,by simpa using I.len⟩ ⟨_,hs,.inl rfl⟩
  ·exact(hs.2 b (zD (z5 (zv e) I.ok.above))).trans (I.base.keep b o e n g hx)
  ·obtain⟨sl,e1⟩:=I.base.slot b o e n g hx;exact⟨sl,(hs.2 b (zD (z5 (zv e) I.ok.above))).trans e1⟩
  ·obtain⟨o',e1⟩:=I.base.there b o e hx;exact⟨o',(hs.2 b (zD (z5 (zv e) I.ok.above))).trans e1⟩
  ·by_cases l:j=i
   ·subst l;rw[hi]at e1;cases e1;rw[cy W]at e2;cases e2;exact⟨u,r,.inl ⟨hk,by simp⟩⟩
   ·rw[bb (j0 l)]at e2;obtain⟨G,C,q⟩:=L j y F e1 e2 e3;refine⟨G,C,?_⟩;rcases q with⟨k,e⟩|⟨k,c,e,z⟩
    ·refine .inl ⟨k,?_⟩;have:y≠x:=λe=>l (Jw hN e1 (e▸hi));simp[this,e]
    ·exact .inr ⟨k,c,e,z.sameBut hs (Z7 y c e)⟩
  ·obtain⟨B,z⟩:=I.cell y c e;exact⟨B,z.sameBut hs (Z7 y c e)⟩
  ·obtain⟨e,n,t,J,d⟩:=I.pin p hp;exact⟨(hs.2 p.1 t).trans e,n,t,J,d⟩
 ·have D:X.fn x=true:=by
   rcases hf with z|z
   ·exact z
   ·rw[z]at hk;cases hk
  obtain⟨c,f⟩:=I.ok.has x (.inl hk);obtain⟨B,z⟩:=I.cell x c f;refine wpAny_storeName_cell I.ok.kind hk f z (λh' a2 hs=>?_);obtain⟨P,a0,a5⟩:=id z;refine h { s with heap:=h' } ⟨I.ok,I.os,I.bare,⟨λb o e n g hx=>?_,λb o e n g hx=>?_,I.base.free,λb o e hx=>?_,I.base.tups,I.base.DP,I.base.wj⟩,⟨m,K.sameBut hs (j0 (Z7 x c f)),λj y F e1 e2 e3=>?_⟩,λy c' e=>?_,I.free,I.oZ,λp hp=>?_,a1 ⟨P,a0,I.oZ x c f⟩ hs,by simpa using I.len⟩ ⟨c,hs,.inr f⟩
  ·exact(hs.2 b (zD (z5 (zv e) (I.ok.cab x c D f)))).trans (I.base.keep b o e n g hx)
  ·obtain⟨sl,e1⟩:=I.base.slot b o e n g hx;exact⟨sl,(hs.2 b (zD (z5 (zv e) (I.ok.cab x c D f)))).trans e1⟩
  ·obtain⟨o',e1⟩:=I.base.there b o e hx;exact⟨o',(hs.2 b (zD (z5 (zv e) (I.ok.cab x c D f)))).trans e1⟩
  ·by_cases l:j=i
   ·subst l;rw[hi]at e1;cases e1;rw[cy W]at e2;cases e2;exact⟨u,r,.inr ⟨.inl hk,c,f,a2⟩⟩
   ·rw[bb (j0 l)]at e2;obtain⟨G,C,q⟩:=L j y F e1 e2 e3;refine⟨G,C,?_⟩;rcases q with q|⟨k,c',e,z'⟩
    ·exact .inl q
    ·refine .inr ⟨k,c',e,z'.sameBut hs ?_⟩;rintro rfl;exact l (Jw hN e1 (I.ok.inj _ _ _ e f▸hi))
  ·by_cases a3:c'=c
   ·subst a3;exact⟨_,a2⟩
   ·obtain⟨w2,z2⟩:=I.cell y c' e;exact⟨w2,z2.sameBut hs a3⟩
  ·obtain⟨e,n,t,J,d⟩:=I.pin p hp;refine⟨(hs.2 p.1 ?_).trans e,n,t,J,d⟩;intro q;rw[q,a0]at e;have q':P=p.2:=Q2 e;exact d B (by rw[<-q'];exact a5)
theorem rD{v:V}{Q:Unit->A2->Prop}(I:AU X AN σ H s)(hN:X.N.Nodup)(hi:X.N[i]?=U x)(hx:CL X.env.scope x)(r:At v u)(h:∀s',AU X AN (σ.set i (U v)) H s'->Q eg s')(a:X.fn x=true\/X.env.scope.names.lookup x=U .local:=by first|exact .inl rfl|exact .inr rfl|assumption):A7 M A (storeName X.env x u) Q E s:=
 QH I hN hi hx r (λs' b _=>h s' b) a
theorem AU.call'{s':A2}{ch:O A1}(I:AU X AN σ H s)(g:s'.os=s.os)(u:Un (CS X.stack) ch H H' s.heap s'.heap)(a:yc X.prog X.w H' s'.heap)(f:AllBare s'.gens)
  (d:∀b∈ch,(b∈X.ex\/X.s₀.heap.objs.size<=b)/\b≠X.env.locals/\(∀x c,X.env.cells.lookup x=U c->c≠b)/\∀p∈X.pn++AN,p.1≠b):AU X AN σ H' s':=by
 obtain⟨h',g',d',t',o'⟩:=s';have e:o'=s.os:=g;subst e;exact I.call (g':=g') (t':=t') (d':=d') u a f d
end
abbrev XK:=A0->Y A1->Hp->Prop
abbrev St:=O (Y V)
abbrev VK:=V->Hp->Prop
abbrev TE:=St->Hp->VK->Prop
abbrev TT:=St->Hp->(Bool->Hp->Prop)->Prop
abbrev TA:=St->Hp->(O V->Hp->Prop)->Prop
structure C1 where
 nx:St->Hp->Prop
 rt:VK
 bk:St->Hp->Prop:=λ_ _=>False
 ct:St->Hp->Prop:=λ_ _=>False
abbrev TS:=C1->St->Hp->Prop
def EP(X:Cx)(AN:O (A1×AE))(σ:St)(Q:VK)(u:A0)(s':A2):Prop:=∃v H',AU X AN σ H' s'/\At v u/\Q v H'
def TP(X:Cx)(AN:O (A1×AE))(σ:St)(Q:Bool->Hp->Prop)(b:Bool)(s':A2):Prop:=∃H',AU X AN σ H' s'/\Q b H'
def AP(X:Cx)(AN:O (A1×AE))(σ:St)(Q:O V->Hp->Prop)(us:O A0)(s':A2):Prop:=∃vs H',AU X AN σ H' s'/\AX vs us/\Q vs H'
def SP(X:Cx)(AN:O (A1×AE))(D:C1)(f:Flow)(s':A2):Prop:=
 match f with
 |.next=>∃ σ' H',AU X AN σ' H' s'/\D.nx σ' H'
 |.brk=>∃ σ' H',AU X AN σ' H' s'/\D.bk σ' H'
 |.cont=>∃ σ' H',AU X AN σ' H' s'/\D.ct σ' H'
 |.ret u=>∃v σ' H',AU X AN σ' H' s'/\At v u/\D.rt v H'
def PE(X:Cx)(e:Expr)(t:TE):Prop:=
 ∀(AN:O (A1×AE)) (s:A2) (σ:St) (H:Hp) (Q:VK),AU X AN σ H s->t σ H Q->A7 (d9 X) X.A (eval e X.env) (EP X AN σ Q) X.xe s
def PT(X:Cx)(e:Expr)(t:TT):Prop:=
 ∀(AN:O (A1×AE)) (s:A2) (σ:St) (H:Hp) (Q:Bool->Hp->Prop),AU X AN σ H s->t σ H Q->A7 (d9 X) X.A (isTrue e X.env (eval e X.env)) (TP X AN σ Q) X.xe s
def PW(X:Cx)(e:Expr)(t:TT):Prop:=
 ∀(a:Sem A0) (AN:O (A1×AE)) (s:A2) (σ:St) (H:Hp) (Q:Bool->Hp->Prop),AU X AN σ H s->t σ H Q->A7 (d9 X) X.A (isTrue e X.env a) (TP X AN σ Q) X.xe s
theorem PW.pt{X:Cx}{t:TT}(h:PW X e t):PT X e t:=h _
def PA(X:Cx)(es:O Expr)(t:TA):Prop:=
 ∀(pos:Pos) (AN:O (A1×AE)) (s:A2) (σ:St) (H:Hp) (Q:O V->Hp->Prop),AU X AN σ H s->t σ H Q->A7 (d9 X) X.A (spliced (AD pos (A9 es X.env))) (AP X AN σ Q) X.xe s
def PS(X:Cx)(st:AB)(t:TS):Prop:=
 ∀(AN:O (A1×AE)) (s:A2) (σ:St) (H:Hp) (D:C1),AU X AN σ H s->t D σ H->A7 (d9 X) X.A (exec st X.env) (SP X AN D) X.xe s
def LQ(X:Cx)(st:O AB)(t:TS):Prop:=
 ∀(AN:O (A1×AE)) (s:A2) (σ:St) (H:Hp) (D:C1),AU X AN σ H s->t D σ H->A7 (d9 X) X.A (execs st X.env) (SP X AN D) X.xe s
theorem jO{t:Sem α}{Q b:α->A2->Prop}(h:A7 M A t Q E s)(c:∀a s,Q a s->b a s):A7 M A t b E s:=qa h c λ_ _ x=>x
end L2
namespace L2
section
variable{X:Cx}
def HA(i:Nat):TE:=λσ H Q=>∃v,σ[i]?=U (U v)/\Q v H
def tC(v:V):TE:=λ_ H Q=>Q v H
theorem yd(hN:X.N[i]?=U x)(j:QG X.env.scope x)(hd:dX x:=by decide)(n:(x==("__classdict__":AJ))=false:=by decide):PE X (.Name x pos) (HA i):=by
 intro AN s σ H Q I h;obtain⟨v,e,h⟩:=h;obtain⟨m,k,g⟩:=I.loc;obtain⟨u,r,l⟩:=g i x v hN e j;have a:EP X AN σ Q u s:=⟨v,H,I,r,h⟩;rcases l with⟨hk,f⟩|⟨hk,c,d,b⟩
 ·exact wpAny_Name (wpAny_loadName_local I.ok.kind hk k f a) hd
 ·rcases hk with hk|hk
  ·exact wpAny_Name (wpAny_loadName_cell I.ok.kind hk d b a) hd
  ·exact wpAny_Name (wpAny_loadName_free I.ok.kind hk d b a n) hd
theorem Z8{i j pos}:PE X (.Constant (.int i) j pos) (tC (.int i)):=λ_ _ _ H _ I h=>wpAny_Constant_int ⟨.int i,H,I.tok _,⟨_,rfl⟩,h⟩
theorem M3{b j pos}:PE X (.Constant (.bool b) j pos) (tC (.bl b)):=λ_ _ _ H _ I h=>Constant_bool ⟨.bl b,H,I,rfl,h⟩
theorem Z9{j pos}:PE X (.Constant .none j pos) (tC .non):=λ_ _ _ H _ I h=>Constant_none ⟨.non,H,I,rfl,h⟩
theorem ME{x j pos}:PE X (.Constant (.str x) j pos) (tC (.str x)):=λ_ _ _ H _ I h=>Calls.Constant_str ⟨.str x,H,I.tok _,⟨_,rfl⟩,h⟩
def Gl(X:Cx)(x:AJ):Prop:=X.env.kindOf x=U .globalImplicit
theorem Ol{σ:St}{H:Hp}(I:AU X AN σ H s)(a:Gl X x)(b:X.mg x=U u)(h:Q u s)(hd:dX x:=by decide):A7 (d9 X) X.A (eval (.Name x pos) X.env) Q E s:=
 Calls.Name_function_global I.ok.kind a (Calls.loadGlobal_global (by rw[I.ok.glob];exact I.mod.glob.keeps I.bk) b h) hd
theorem Aw{σ:St}{H:Hp}(I:AU X AN σ H s)(c:Gl X x)(a:X.mg x=Z)(b:AH x=U u)(h:Q u s)(d:x ≠ "__name__":=by decide)(hd:dX x:=by decide):A7 (d9 X) X.A (eval (.Name x pos) X.env) Q E s:=by
 obtain⟨e,h1,h2⟩:=I.mod.blt;exact Calls.Name_function_global I.ok.kind c (Calls.loadGlobal_builtin (by rw[I.ok.glob];exact I.mod.glob.keeps I.bk) a (by rw[I.ok.blt];exact h1.keeps I.bk) ((h2 x d).trans b) h) hd
variable{a b:Expr}{ta tb:TE}
variable{tA tB':TT}{AS:O Expr}
def F'(t u:TT):TT:=λσ H Q=>t σ H λc H1=>if c=true then u σ H1 Q else Q false H1
def GY(t u:TT):TT:=λσ H Q=>t σ H λc H1=>if c=true then Q true H1 else u σ H1 Q
def NY(t:TT):TT:=λσ H Q=>t σ H λc H1=>Q (!c) H1
theorem Wq(b:PT X a tA):PW X (.BoolOp .And [a] pos) tA:=by
 intro d AN s σ H Q I h;refine isTrue_and (jO (b AN s σ H Q I h) λc s1 e=>?_);cases c with
 |true=>exact isTrue_and_nil e
 |false=>exact e
theorem MT(b:PT X a tA):PW X (.BoolOp .Or [a] pos) tA:=by
 intro d AN s σ H Q I h;refine isTrue_or (jO (b AN s σ H Q I h) λc s1 e=>?_);cases c with
 |false=>exact isTrue_or_nil e
 |true=>exact e
theorem L3(e:PT X a tA)(d:PW X (.BoolOp .And (b::AS) pos) tB'):PW X (.BoolOp .And (a::b::AS) pos) (F' tA tB'):=by
 intro f AN s σ H Q I h;refine isTrue_and (jO (e AN s σ H _ I h) λc s1 ⟨H1,I1,q1⟩=>?_);cases c with
 |true=>exact d f AN s1 σ H1 Q I1 q1
 |false=>exact⟨H1,I1,q1⟩
theorem L9(e:PT X a tA)(d:PW X (.BoolOp .Or (b::AS) pos) tB'):PW X (.BoolOp .Or (a::b::AS) pos) (GY tA tB'):=by
 intro f AN s σ H Q I h;refine isTrue_or (jO (e AN s σ H _ I h) λc s1 ⟨H1,I1,q1⟩=>?_);cases c with
 |true=>exact⟨H1,I1,q1⟩
 |false=>exact d f AN s1 σ H1 Q I1 q1
theorem IF(b:PT X a tA):PT X (.UnaryOp .Not a pos) (NY tA):=by
 intro AN s σ H Q I h;exact isTrue_not (b AN s σ H (λc H1=>Q (!c) H1) I h)
def Mc(ta tb:TE):TE:=λσ H Q=>ta σ H λx H1=>∃c,x=.bl c/\if c=true then Q (.bl true) H1 else tb σ H1 Q
theorem IA{op}{t:TE}(h:PE X a t):PE X (.BoolOp op [a] pos) t:=λAN s σ H Q I b=>BoolOp_one (h AN s σ H Q I b)
theorem LG(e:PE X a ta)(d:PE X (.BoolOp .Or (b::AS) pos) tb):PE X (.BoolOp .Or (a::b::AS) pos) (Mc ta tb):=by
 intro AN s σ H Q I h;refine BoolOp_or (jO (e AN s σ H _ I h) λv s1 ⟨x,H1,I1,r1,q1⟩=>?_);obtain⟨c,rfl,q1⟩:=q1;cases r1;refine qh ?_;cases c with
 |false=>exact d AN s1 σ H1 Q I1 q1
 |true=>exact⟨.bl true,H1,I1,rfl,q1⟩
end
end L2
namespace L2
def oK(K:B5)(H:Hp)(a:A1)(xs:O V):Prop:=
 Rd H a (.lst xs) ∨
  ∃(o:AE) (AQ:Array A0) (n:Nat),K.lookup a=U o/\o.cls=.type "list" ∧ o.dict=Z/\o.data=.seq AQ n/\AQ.size<=AA/\AX xs AQ.toList
def wg(K:B5)(H:Hp)(a:A1)(xs:O V):Prop:=
 Rd H a (.tup xs) ∨
  ∃(o:AE) (AQ:Array A0) (n:Nat),K.lookup a=U o/\(o.cls=.type "tuple" ∧ o.dict=Z)/\o.data=.seq AQ n/\AQ.size<=AA/\AX xs AQ.toList
def EO:A0->Y V
 |.none=>U .non
 |.bool b=>U (.bl b)
 |.int i _=>U (.int i)
 |.str x _=>U (.str x)
 |.bytes b _=>U (.byt b)
 |.float b _=>U (.flt b)
 |.ref a=>U (.ref a)
 |.type n=>U (.ty n)
 |_=>Z
theorem At.abs{x:V}(r:At x u):EO u=U x:=by
 cases x with
 |non=>cases r;rfl
 |bl _=>cases r;rfl
 |int _=>obtain⟨t,rfl⟩:=r;rfl
 |str _=>obtain⟨t,rfl⟩:=r;rfl
 |byt _=>obtain⟨t,rfl⟩:=r;rfl
 |flt _=>obtain⟨t,rfl⟩:=r;rfl
 |ref _=>cases r;rfl
 |ty _=>cases r;rfl
theorem At.inj{x y:V}{u:A0}(r:At x u)(q:At y u):x=y:=Q2 (r.abs.symm.trans q.abs)
theorem AX.inj:∀{xs ys:O V} {us:O A0},AX xs us->AX ys us->xs=ys
 |_,_,_,.nil,.nil=>rfl
 |_,_,_,.cons r t,.cons r' t'=>by rw[r.inj r',AX.inj t t']
section
variable{X:Cx}{σ:St}{H:Hp}{xs ys:O V}
theorem AU.list(I:AU X AN σ H s)(h:oK X.K H a xs):∃AQ:O A0,AX xs AQ/\PlainL s.heap a AQ.toArray/\xs.length<=AA:=by
 rcases h with h|⟨o,AQ,n,hk,b,hd,hs,c,r⟩
 ·obtain⟨z,AQ,n,r,e⟩:=h.ok I.hok;exact⟨AQ,r,⟨_,n,e,rfl,rfl,rfl⟩,z⟩
 ·refine⟨AQ.toList,r,⟨o,n,I.Wf a o hk,b,hd,by simpa using hs⟩,?_⟩;have e:=r.length;simp only[bp]at e;omega
theorem AU.tuple(I:AU X AN σ H s)(h:wg X.K H a xs):∃AQ:O A0,AX xs AQ/\IsTup s.heap a AQ.toArray/\xs.length<=AA:=by
 rcases h with h|⟨o,AQ,n,hk,b,hs,c,r⟩
 ·obtain⟨z,AQ,r,p⟩:=h.ok I.hok;exact⟨AQ,r,p.weak,z⟩
 ·refine⟨AQ.toList,r,⟨o,I.Wf a o hk,b.1,n,by simpa using hs⟩,?_⟩;have e:=r.length;simp only[bp]at e;omega
theorem AU.Jx(I:AU X AN σ H s)(h:oK X.K H a xs)(h':oK X.K H a ys):xs=ys:=by
 obtain⟨AQ,r,⟨o,n,e,_,_,d⟩,_⟩:=I.list h;obtain⟨g,c,⟨o',i,e',_,_,b⟩,_⟩:=I.list h';rw[e]at e';cases e';rw[d]at b;injection b with f _;have:AQ=g:=by simpa using congrArg Array.toList f
 subst this;exact r.inj c
theorem AU.Fo(I:AU X AN σ H s)(h:wg X.K H a xs)(h':wg X.K H a ys):xs=ys:=by
 obtain⟨AQ,r,⟨o,e,_,n,d⟩,_⟩:=I.tuple h;obtain⟨g,c,⟨o',e',_,i,b⟩,_⟩:=I.tuple h';rw[e]at e';cases e';rw[d]at b;injection b with f _;have:AQ=g:=by simpa using congrArg Array.toList f
 subst this;exact r.inj c
end
abbrev Cx.wish(X:Cx)(E:BE):Cx:={ X with xe:=E }
abbrev Cx.Wg(X:Cx):Cx:=X.wish λ_ _=>False
theorem Cx.Ok.wish{X:Cx}(ok:X.Ok)(E:BE):(X.wish E).Ok:=
 ⟨ok.mod,ok.kind,ok.glob,ok.blt,ok.above,ok.inj,ok.has,ok.cab,ok.hd,ok.frames,ok.stk,ok.exf,ok.bs,ok.Wn,ok.Sw,ok.Wo,ok.Av,ok.frf,ok.tabs⟩
theorem Cx.Ok.rE{X:Cx}(ok:(X.wish E).Ok):X.Ok:=
 ⟨ok.mod,ok.kind,ok.glob,ok.blt,ok.above,ok.inj,ok.has,ok.cab,ok.hd,ok.frames,ok.stk,ok.exf,ok.bs,ok.Wn,ok.Sw,ok.Wo,ok.Av,ok.frf,ok.tabs⟩
section
variable{X:Cx}{σ:St}{H:Hp}
theorem AU.wish(I:AU X AN σ H s)(E:BE):AU (X.wish E) AN σ H s:=⟨I.ok.wish E,I.os,I.bare,I.base,I.loc,I.cell,I.free,I.oZ,I.pin,I.hok,I.len⟩
theorem AU.rE(I:AU (X.wish E) AN σ H s):AU X AN σ H s:=⟨I.ok.rE,I.os,I.bare,I.base,I.loc,I.cell,I.free,I.oZ,I.pin,I.hok,I.len⟩
theorem SP.rE{D:C1}{f:Flow}{s':A2}(h:SP (X.wish E) AN D f s'):SP X AN D f s':=by
 cases f with
 |next=>obtain⟨σ',H',I,q⟩:=h;exact⟨σ',H',I.rE,q⟩
 |brk=>obtain⟨σ',H',I,q⟩:=h;exact⟨σ',H',I.rE,q⟩
 |cont=>obtain⟨σ',H',I,q⟩:=h;exact⟨σ',H',I.rE,q⟩
 |ret u=>obtain⟨v,σ',H',I,r,q⟩:=h;exact⟨v,σ',H',I.rE,r,q⟩
theorem LQ.Wg{st:O AB}{t:TS}(h:LQ X.Wg st t):LQ X st t:=λAN s σ H D I a=>
 qa (h AN s σ H D (I.wish _) a) (λ_ _ q=>q.rE) λ_ _ z=>False.elim z
end
section
variable{X:Cx}{AS:O AB}{t u:TS}{te:TE}
def K0:TS:=λD σ H=>D.nx σ H
def Ix(t u:TS):TS:=λD σ H=>t { D with nx:=u D } σ H
theorem Wr:LQ X [] K0:=λ_ _ σ H _ I h=>wpAny_execs_nil ⟨σ,H,I,h⟩
theorem Ax(h1:PS X st t)(h2:LQ X AS u):LQ X (st::AS) (Ix t u):=by
 intro AN s σ H D I h;refine wpAny_execs_cons (jO (h1 AN s σ H { D with nx:=u D } I h) λf s1 q=>?_);cases f with
 |next=>
  obtain⟨σ',H',a,q⟩:=q;exact h2 AN s1 σ' H' D a q
 |ret v=>exact q
 |brk=>exact q
 |cont=>exact q
theorem AU.quiet{σ:St}{H:Hp}(I:AU X AN σ H s):interactive X.env=false:=by simp[interactive,I.ok.kind]
def NO(te:TE):TS:=λD σ H=>te σ H λ_ H1=>D.nx σ H1
theorem Ws(a:PE X e te)(hs:swapsWith e Z pos.line X.env=pure false:=by rfl):PS X (.Expr e pos) (NO te):=by
 intro AN s σ H D I h;exact wpAny_Expr_any (jO (a AN s σ H _ I h) λv s1 ⟨x,H1,I1,r1,q1⟩=>⟨σ,H1,I1,q1⟩) I.quiet hs
def HR(te:TE):TS:=λD σ H=>te σ H D.rt
theorem Sx(a:PE X e te):PS X (.Return (U e) pos) (HR te):=by
 intro AN s σ H D I h;exact wpAny_Return_some (jO (a AN s σ H _ I h) λv s1 ⟨x,H1,I1,r1,q1⟩=>⟨x,σ,H1,I1,r1,q1⟩)
def IG(c:TT)(t u:TS):TS:=λD σ H=>c σ H λb H1=>if b=true then t D σ H1 else u D σ H1
theorem NJ{a b:O AB}{tc:TT}(g:PT X c tc)(f:LQ X a t)(e:LQ X b u):PS X (.If c a b pos) (IG tc t u):=by
 intro AN s σ H D I h;refine wpAny_If (jO (g AN s σ H _ I h) λd s1 ⟨H1,I1,q1⟩=>?_);cases d with
 |true=>exact f AN s1 σ H1 D I1 q1
 |false=>exact e AN s1 σ H1 D I1 q1
end
abbrev TG:=V->St->Hp->(St->Hp->Prop)->Prop
abbrev Y8:=O V->St->Hp->(St->Hp->Prop)->Prop
def PG(X:Cx)(a:Expr)(t:TG):Prop:=
 ∀(AN:O (A1×AE)) (s:A2) (σ:St) (H:Hp) (v:V) (u:A0) (Q:St->Hp->Prop),AU X AN σ H s->At v u->t v σ H Q →
  A7 (d9 X) X.A (assign a X.env u) (λ_ s'=>∃ σ' H',AU X AN σ' H' s'/\Q σ' H') X.xe s
def Sy(X:Cx)(ts:O Expr)(t:Y8):Prop:=
 ∀(AN:O (A1×AE)) (s:A2) (σ:St) (H:Hp) (vs:O V) (us:O A0) (Q:St->Hp->Prop),AU X AN σ H s->AX vs us->t vs σ H Q →
  A7 (d9 X) X.A (assignInOrder ((assignEach ts X.env).map (·.2)) us) (λ_ s'=>∃ σ' H',AU X AN σ' H' s'/\Q σ' H') X.xe s
section
variable{X:Cx}
def Y9(i:Nat):TG:=λv σ H Q=>Q (σ.set i (U v)) H
theorem Om(hN:X.N.Nodup)(hi:X.N[i]?=U x)(hx:CL X.env.scope x)(a:X.fn x=true\/X.env.scope.names.lookup x=U .local:=by first|exact .inl rfl|exact .inr rfl|assumption):PG X (.Name x pos) (Y9 i):=by
 intro AN s σ H v u Q I r h;exact wpAny_assign_Name (rD I hN hi hx r (λs' b=>⟨_,H,b,h⟩) a)
def LX:Y8:=λvs σ H Q=>vs=[]/\Q σ H
def Hc(t:TG)(u:Y8):Y8:=λvs σ H Q=>∃v r,vs=v::r/\t v σ H λσ' H'=>u r σ' H' Q
theorem Wt:Sy X [] LX:=by
 intro AN s σ H vs us Q I r h;obtain⟨e,h⟩:=h;subst e;cases r;exact assignInOrder_nil ⟨σ,H,I,h⟩
theorem SJ{t:TG}{u:Y8}(h1:PG X e t)(h2:Sy X es u)(hs:(assignEach (e::es) X.env).map (·.2)=assign e X.env::(assignEach es X.env).map (·.2):=by rfl):Sy X (e::es) (Hc t u):=by
 intro AN s σ H vs us Q I r h;obtain⟨v,b,e1,h⟩:=h;subst e1;cases r with
 |cons r a=>
  rw[hs];refine assignInOrder_cons (jO (h1 AN s σ H _ _ _ I r h) λ_ s1 ⟨σ1,H1,I1,q1⟩=>?_);exact h2 AN s1 σ1 H1 _ _ Q I1 a q1
def Nc(K:B5)(n:Nat)(t:Y8):TG:=λv σ H Q=>∃a xs,v=.ref a/\wg K H a xs/\xs.length=n/\t xs σ H Q
theorem LH{t:Y8}(l:X.calm=true)(h:Sy X es t)(i:(assignEach es X.env).length=n:=by rfl)(m:(assignEach es X.env).findIdx? (·.1)=Z:=by rfl):PG X (.Tuple es k pos) (Nc X.K n t):=by
 intro AN s σ H v u Q I r c;obtain⟨a,xs,e1,hq,f,c⟩:=c;subst e1;cases r;obtain⟨AQ,d,j,p⟩:=I.tuple hq;refine assign_Tuple_tuple (I.ok.hd l) j (by simp[i,<-f,d.length]) m λh' hx=>?_;have g:AU X AN σ H { s with heap:=h' }:=I.kept (t':=s.toks) λb o e=>hx b o (zD (zv e)) e;exact h AN _ σ H xs _ Q g (by simpa using d) c
def Fu(te:TE)(g:TG):TS:=λD σ H=>te σ H λx H1=>g x σ H1 D.nx
theorem Hn{te:TE}{g:TG}(a:PE X e te)(b:PG X tg g)(hs:swapsWithSole [tg] e pos.line X.env=pure false:=by rfl)(c:swappedStores [tg] e X.env=pure Z:=by rfl)(h1:(assignEach [tg] X.env).map (·.2)=[assign tg X.env]:=by rfl):PS X (.Assign [tg] e pos) (Fu te g):=by
 intro AN s σ H D I h;refine wpAny_Assign_stores (jO (a AN s σ H _ I h) λv s1 ⟨x,H1,I1,r1,q1⟩=>?_) hs c;rw[h1];exact jO (b AN s1 σ H1 x v _ I1 r1 q1) λ_ s2 q=>q
theorem G9{te:TE}{pos':Pos}(hN:X.N.Nodup)(hi:X.N[i]?=U x)(hx:CL X.env.scope x)(a:PE X e te)(hs:swapsWith e (U (.Name x pos')) pos.line X.env=pure false:=by rfl)(c:X.fn x=true\/X.env.scope.names.lookup x=U .local:=by first|exact .inl rfl|exact .inr rfl|assumption):
  PS X (.Assign [.Name x pos'] e pos) (Fu te (Y9 i)):=by
 intro AN s σ H D I h;refine wpAny_Assign_Name (jO (a AN s σ H _ I h) λv s1 ⟨y,H1,I1,r1,q1⟩=>?_) hs;exact rD I1 hN hi hx r1 (λs2 b=>⟨_,H1,b,q1⟩) c
end
structure It where
 go:Nat->Hp->Prop
 yld:Nat->Hp->V->Hp->Prop
 stop:Nat->Hp->Prop
def q8(X:Cx)(AN:O (A1×AE))(H:Hp)(b:A1):Prop:=
 H b=Z/\b≠X.env.locals/\b∉X.fs/\(b∈X.ex\/X.s₀.heap.objs.size<=b)/\(∀x c,X.env.cells.lookup x=U c->c≠b)/\∀p∈X.pn++AN,p.1≠b
theorem AU.Wu{X:Cx}{σ:St}{H H':Hp}{b:A1}(I:AU X AN σ H s)(a:s.heap.objs.size<=b)(d:H' b=Z):q8 X AN H' b:=by
 refine⟨d,be (z5 I.lt a),I.Z6 a,.inr (zS I.sz a),λx c e z=>?_,λp hp z=>?_⟩
 ·obtain⟨v,q⟩:=I.cell x c e;exact absurd (z5 q.lt (by rw[z];exact a)) (QA _)
 ·exact absurd (z5 (zv (I.pin p hp).1) (by rw[z];exact a)) (QA _)
structure CB (P:Program) (w:World) (K:B5) (tg:Expr) (J:It) (fp:List Addr) (it:Addr) (tn:Nat->Heap->Prop):Prop where
 mem:it∈fp
 obj:∀i h,tn i h->∀b∈fp,∃o,h.get? b=some o/\∀v,o.data≠.cell v
 keep:∀i h h',tn i h->(∀b∈fp,∀o,h.get? b=some o->h'.get? b=some o)->tn i h'
 item:∀(X:Cx),X.prog=P->X.w=w->X.K=K->X.calm=true->∀(i:Nat) (AN:List (Addr×Obj)) (s:Shared) (σ:St) (H:Hp) (E:BE),AU X AN σ H s->(∀b∈fp,q8 X AN H b)->tn i s.heap->J.go i H →
  wpAny (model P w) X.A (pyNext (.ref it)) (λr s1=>∃u,r=some u ∧
   wpAny (model P w) X.A (letOwnedTupleGo tg (.ref it) u) (λ_ s2=>∃x H',AU X AN σ H' s2/\At x u/\J.yld i H x H'/\tn (i+1) s2.heap/\∀b∈fp,H' b=none) E s1) E s
 done:∀(X:Cx),X.prog=P->X.w=w->X.K=K->X.calm=true->∀(i:Nat) (AN:List (Addr×Obj)) (s:Shared) (σ:St) (H:Hp) (E:BE),AU X AN σ H s->(∀b∈fp,q8 X AN H b)->tn i s.heap->J.stop i H →
  wpAny (model P w) X.A (pyNext (.ref it)) (λr s1=>r=none/\AU X AN σ H s1) E s
 self:∀(A:Around) (i:Nat) (s:Shared) (Q:BE) (E:BE),tn i s.heap->Q (.ref it) s->wpAny (model P w) A (pyIter (.ref it)) Q E s
abbrev TI:=St->Hp->(It->Hp->Prop)->Prop
def Fh(X:Cx)(AN:O (A1×AE))(σ:St)(tg:Expr)(R:It->Hp->Prop)(a:A0)(s2:A2):Prop:=
 ∃(it:A1) (fp:O A1) (tn:Nat->A6->Prop) (J:It) (H':Hp),a=.ref it/\AU X AN σ H' s2/\CB X.prog X.w X.K tg J fp it tn/\tn 0 s2.heap/\(∀b∈fp,q8 X AN H' b)/\R J H'
def PI(X:Cx)(tg iter:Expr)(a:TI):Prop:=
 ∀(AN:O (A1×AE)) (s:A2) (σ:St) (H:Hp) (R:It->Hp->Prop),AU X AN σ H s->a σ H R →
  A7 (d9 X) X.A (eval iter X.env) (λv s1=>A7 (d9 X) X.A (pyIter v) (Fh X AN σ tg R) X.xe s1) X.xe s
theorem Jy{n:String}{vs:Array A0}{Q:Unit->A2->Prop}(c:s.heap.get? it=U o)(d:o.cls=.type n)(hd:o.data=.fields vs)(b:["enumerate","zip","dict_itemiterator","dict_reverseitemiterator","odict_iterator","itertools.zip_longest","itertools.pairwise"].contains n=false)(a:Q eg s):A7 M A (letOwnedTupleGo tg (.ref it) u) Q E s:=by
 unfold letOwnedTupleGo;cases tg<;>first
  |exact ze a
  |(cases u<;>first
    |exact ze a
    |(refine zb (wpAny_load c ?_)
      rw[d,hd];show A7 M A (if(["enumerate","zip","dict_itemiterator","dict_reverseitemiterator","odict_iterator","itertools.zip_longest","itertools.pairwise"].contains n&&vs[0]?==U (rawInt _))=true then _ else _) Q E s;rw[zC (by intro h;rw[b,Bool.false_and]at h;cases h)];exact ze a))
def E6(K:B5)(a:A1):It:=
 ⟨λi H=>∃xs x,oK K H a xs/\xs[i]?=U x,λi H x H'=>H'=H/\∀xs,oK K H a xs->xs[i]?=U x,λi H=>∃xs,oK K H a xs/\xs.length<=i⟩
def F0(K:B5)(a:A1):It:=
 ⟨λi H=>∃xs x,wg K H a xs/\xs[i]?=U x,λi H x H'=>H'=H/\∀xs,wg K H a xs->xs[i]?=U x,λi H=>∃xs,wg K H a xs/\xs.length<=i⟩
def EA(lo:Int)(n:Nat):It:=⟨λi _=>i<n,λi H x H'=>H'=H/\x=.int (lo+i),λi _=>n<=i⟩
theorem QJ(a it:A1):CB P w K tg (E6 K a) [it] it (λi h=>h.IsListIter it a i) where
 mem:=by simp
 obj:=λi h st b f=>by
  have e:b=it:=by simpa using f
  subst e;obtain⟨o,e,c,d⟩:=st;exact⟨o,e,λv z=>by rw[d]at z;cases z⟩
 keep:=λi h h' st k=>st.at λo e=>k it (by simp) o e
 item:=by
  intro X j m y C i AN s σ H E I g st l;subst j m y;obtain⟨xs,x,hq,hx⟩:=l;obtain⟨AQ,q,p,L⟩:=I.list hq;obtain⟨u,M,G⟩:=q.get hx;obtain⟨f0,f1,f2,n,A,t⟩:=g it (by simp);refine wpAny_pyNext_list_item st p.isList (x:=u) (by simpa using M) λh' B J=>?_;have F:AU X AN σ H { s with heap:=h' }:=I.turned (t':=s.toks) (λb o f e=>(J.2 b f).trans e) f0 f1 n A t;obtain⟨o,e,c,d⟩:=id B;exact⟨u,rfl,Jy (s:={ s with heap:=h' }) e c d () ⟨x,H,F,G,⟨rfl,λys D=>by rw[I.Jx D hq];exact hx⟩,B,λb f=>(g b f).1⟩⟩
 done:=by
  intro X j m y C i AN s σ H E I g st l;subst j m y;obtain⟨xs,hq,hx⟩:=l;obtain⟨AQ,q,p,L⟩:=I.list hq;obtain⟨f0,f1,f2,n,A,t⟩:=g it (by simp);have N:=q.length;exact wpAny_pyNext_list_end (I.ok.hd C) st p.isList (by simp;omega) λh' eb=>⟨rfl,I.turned (t':=s.toks) (λb o f e=>eb b o f e) f0 f1 n A t⟩
 self:=λ_ _ _ _ _ st h=>wpAny_pyIter_listiter st h
theorem LR(a it:A1):CB P w K tg (F0 K a) [it] it (λi h=>h.IsTupleIter it a i) where
 mem:=by simp
 obj:=λi h st b f=>by
  have e:b=it:=by simpa using f
  subst e;obtain⟨o,e,c,d⟩:=st;exact⟨o,e,λv z=>by rw[d]at z;cases z⟩
 keep:=λi h h' st k=>st.at λo e=>k it (by simp) o e
 item:=by
  intro X j m y C i AN s σ H E I g st l;subst j m y;obtain⟨xs,x,hq,hx⟩:=l;obtain⟨AQ,q,p,L⟩:=I.tuple hq;obtain⟨u,M,G⟩:=q.get hx;obtain⟨f0,f1,f2,n,A,t⟩:=g it (by simp);refine wpAny_pyNext_tuple_item st (show s.heap.IsTuple a AQ.toArray from p) (x:=u) (by simpa using M) λh' B J=>?_;have F:AU X AN σ H { s with heap:=h' }:=I.turned (t':=s.toks) (λb o f e=>(J.2 b f).trans e) f0 f1 n A t;obtain⟨o,e,c,d⟩:=id B;exact⟨u,rfl,Jy (s:={ s with heap:=h' }) e c d () ⟨x,H,F,G,⟨rfl,λys D=>by rw[I.Fo D hq];exact hx⟩,B,λb f=>(g b f).1⟩⟩
 done:=by
  intro X j m y C i AN s σ H E I g st l;subst j m y;obtain⟨xs,hq,hx⟩:=l;obtain⟨AQ,q,p,L⟩:=I.tuple hq;obtain⟨f0,f1,f2,n,A,t⟩:=g it (by simp);have N:=q.length;exact wpAny_pyNext_tuple_end (I.ok.hd C) st (show s.heap.IsTuple a AQ.toArray from p) (by simp;omega) λh' eb=>⟨rfl,I.turned (t':=s.toks) (λb o f e=>eb b o f e) f0 f1 n A t⟩
 self:=λ_ _ _ _ _ st h=>wpAny_pyIter_tupleiter st h
theorem Ma(it:A1)(lo:Int)(n:Nat):CB P w K tg (EA lo n) [it] it (λi h=>IsRangeIter h it (lo+(i:Nat)*1) ((n:Int)-(i:Nat)) 1) where
 mem:=by simp
 obj:=λi h st b a=>by
  have e:b=it:=by simpa using a
  subst e;exact⟨_,st,λv z=>by
   have A:Data.fields _=Data.cell v:=z;cases A⟩
 keep:=λi h h' st k=>k it (by simp) _ st
 item:=by
  intro X f q j m i AN s σ H E I c st g;subst f q j;obtain⟨f0,f1,f2,p,l,d⟩:=c it (by simp);have W:=Walks.range (prog:=X.prog) (w:=X.w) (I.ok.hd m) it lo 1 n;refine W.item i s _ _ g st λv h' tk x u kk=>?_;obtain⟨t,rfl⟩:=x;have y:AU X AN σ H { s with heap:=h',toks:=tk }:=I.turned (λb o a e=>kk b o (by simpa using a) e) f0 f1 p l d;refine⟨_,rfl,Jy (s:={ s with heap:=h',toks:=tk }) (n :="range_iterator") u S S () ⟨.int (lo+i),H,y,⟨t,?_⟩,⟨rfl,rfl⟩,u,λb a=>(c b a).1⟩⟩;rw[Int.mul_one]
 done:=by
  intro X f q j m i AN s σ H E I c st g;subst f q j;obtain⟨f0,f1,f2,p,l,d⟩:=c it (by simp);exact wpAny_pyNext_range_end (I.ok.hd m) st (by have:n<=i:=g;omega) λh' eb=>⟨rfl,I.turned (t':=s.toks) (λb o a e=>eb b o a e) f0 f1 p l d⟩
 self:=λ_ _ _ _ _ st h=>wpAny_pyIter_rangeiter st h
end L2
namespace L2
section
variable{X:Cx}
theorem SM{σ:St}{H:Hp}{R:It->Hp->Prop}{lo hi:Int}{t u v:Tok}{tk:Nat}(I:AU X AN σ H s)(h1 : -(2 ^ 62)<=lo)(h2:lo<2 ^ 62)(d : -(2 ^ 62)<=hi)(c:hi<2 ^ 62)(q:R (EA lo (hi-lo).toNat) H):A7 (d9 X) X.A (pyIter (.ref s.heap.objs.size)) (Fh X AN σ tg R) E { s with heap:=s.heap.push { cls:=.type "range",data:=.fields #[.int lo t,.int hi u,.int 1 v] },toks:=tk }:=by
 refine wpAny_pyIter_range (IsRange.new ..) (small_one h1 h2 d c) ?_;have a:AU X AN σ H { s with heap:=s.heap.push { cls:=.type "range",data:=.fields #[.int lo t,.int hi u,.int 1 v] },toks:=tk }:=I.kept λb o e=>zd _ e;refine⟨(s.heap.push { cls:=.type "range",data:=.fields #[.int lo t,.int hi u,.int 1 v] }).objs.size,[(s.heap.push { cls:=.type "range",data:=.fields #[.int lo t,.int hi u,.int 1 v] }).objs.size],_,_,H,rfl,
  a.kept (t':=tk) λb o e=>zd _ e,Ma _ lo (hi-lo).toNat,?_,λb f=>?_,q⟩
 ·have e1:lo+((0:Nat):Int)*1=lo:=by simp
  have e2:(((hi-lo).toNat:Nat):Int)-((0:Nat):Int)=Builtin.Range.rangeSize lo hi 1:=by rw[rangeSize_one];split<;>omega
  show IsRangeIter _ _ (lo+((0:Nat):Int)*1) ((((hi-lo).toNat:Nat):Int)-((0:Nat):Int)) 1;rw[e1,e2];exact zt _ rfl
 ·have e:b=(s.heap.push { cls:=.type "range",data:=.fields #[.int lo t,.int hi u,.int 1 v] }).objs.size:=by simpa using f
  subst e;exact a.Wu (zl _) (a.hok.fresh (zl _))
def OL(ta:TA):TI:=λσ H R=>ta σ H λvs H1=>∃j:Int,vs=[.int j] ∧ -(2 ^ 62)<=j/\j<2 ^ 62/\R (EA 0 j.toNat) H1
theorem QK{a:Expr}{ta:TA}{p:Pos}(b:Gl X "range")(d:X.mg "range"=Z)(f:PA X [a] ta)(hs:A9 [a] X.env=[(false,eval a X.env)]:=by rfl):PI X tg (.Call (.Name "range" p) [a] [] pos) (OL ta):=by
 intro AN s σ H R I h;refine Call_ (Aw I b d boot_range (PyProof.Rows.callWith_type1 (jO (f pos AN s σ H _ I h) λus s1 ⟨vs,H1,I1,r1,q1⟩=>?_) hs S));obtain⟨j,e,q1,q2,q⟩:=q1;subst e;cases r1 with
 |cons r c=>
  cases c;obtain⟨t,rfl⟩:=r;exact call_range_1 (SM I1 () () q1 q2 (by simpa using q))
def No(c:TI)(g:TG)(tb:TS):TS:=λD σ H=>c σ H λJ H1=>∃W:Nat->Nat->St->Hp->Prop,(∃m,W 0 m σ H1)/\∀i m σ H,W i m σ H →
 (J.stop i H/\D.nx σ H)\/(J.go i H/\∃N:St->Hp->Prop,(∀ σ' H',N σ' H'->∃a,a<m/\W (i+1) a σ' H')/\∀x H',J.yld i H x H'->g x σ H' λb H2=>tb { D with nx:=N,ct:=N,bk:=D.nx } b H2)
def yg(fp:O A1)(h:A6):O (A1×AE):=fp.filterMap λb=>(h.get? b).map λo=>(b,o)
theorem pY{b:A1}(a:b∈fp)(e:h.get? b=U o):(b,o)∈yg fp h:=aE.mpr ⟨b,a,by rw[e];rfl⟩
theorem QL{p:A1×AE}(hp:p∈yg fp h):p.1∈fp/\h.get? p.1=U p.2:=by
 obtain⟨b,a,e⟩:=aE.mp hp;cases q:h.get? b with
 |none=>rw[q]at e;cases e
 |some o=>
  rw[q]at e;have e':(b,o)=p:=Q2 e;subst e';exact⟨a,q⟩
theorem AU.pinned{σ:St}{H:Hp}(I:AU X AN σ H s)(c:∀b∈fp,q8 X AN H b)(f:∀b∈fp,∃o,s.heap.get? b=U o/\∀v,o.data≠.cell v):AU X (AN++yg fp s.heap) σ H s:=
 I.wk λp hp=>(af.mp hp).elim (λz=>I.pin p (zz _ z)) λz=>by
  obtain⟨a,e⟩:=QL z;obtain⟨f0,f1,f2,_⟩:=c p.1 a;obtain⟨o,e',d⟩:=f p.1 a;rw[e]at e';cases e';exact⟨e,f0,f1,f2,d⟩
theorem AU.rG{pl:O (A1×AE)}{σ:St}{H:Hp}(I:AU X (AN++pl) σ H s):AU X AN σ H s:=I.wk λp hp=>I.pin p (zz _ (qo _ hp))
theorem SN{G:TI}{g:TG}{tb:TS}(hp:PassesOwn (d9 X) X.A X.env X.xe)(K:X.calm=true)(hi:PI X tg iter G)(hg:PG X tg g)(c:LQ X body tb)(hs:∀x,foldedSetIterable iter X.env x=pure x:=by intro _;rfl):PS X (.For tg iter body [] pos) (No G g tb):=by
 intro AN s σ H D I h;refine wpAny_For (jO (hi AN s σ H _ I h) λv s1 h1=>jO h1 λa2 s2 h2=>?_) hs;obtain⟨it,fp,tn,J,H2,e,I2,T,M,f2,W,⟨m0,w0⟩,turn⟩:=h2;subst e;have z:∀{H':Hp},(∀b∈fp,H' b=Z)->∀b∈fp,q8 X AN H' b:=λhn b c=>⟨hn b c,(f2 b c).2⟩;refine codeAny_forLoop_any (λn s'=>∃i σ' H',AU X AN σ' H' s'/\tn i s'.heap/\(∀b∈fp,H' b=Z)/\W i n σ' H') ?_ m0 ⟨0,σ,H2,I2,M,λb c=>(f2 b c).1,w0⟩;rintro n s3 ⟨i,q,t,E,C,B,w3⟩;rcases turn i n q t w3 with⟨a0,L⟩|⟨go,N,hN,step⟩
 ·refine kU hp (jO (T.done X S S S K i AN s3 q t X.xe E (z B) C a0) λr s4 ⟨hr,I4⟩=>?_);subst hr;exact wpAny_execs_nil ⟨q,t,I4,L⟩
 ·refine kU hp (jO (T.item X S S S K i AN s3 q t X.xe E (z B) C go) λr s4 ⟨u,hr,h4⟩=>?_);subst hr;refine kU hp (jO h4 λ_ s5 ⟨x,H5,I5,r5,y5,st5,fr5⟩=>?_);have a1:=I5.pinned (z fr5) (T.obj _ _ st5);refine kU hp (jO (hg _ s5 q H5 x u _ a1 r5 (step x H5 y5)) λ_ s6 ⟨σ6,H6,I6,q6⟩=>?_);refine kU hp (jO (c _ s6 σ6 H6 _ I6 q6) λf y l=>?_);have F:∀{a:St} {j:Hp},AU X (AN++yg fp s5.heap) a j y->N a j->∃m,m<n/\∃i σ' H',AU X AN σ' H' y/\tn i y.heap/\(∀b∈fp,H' b=Z)/\W i m σ' H':=λ{a j} k p=>by
   obtain⟨m',hm,w7⟩:=hN a j p;refine⟨m',hm,i+1,a,j,k.rG,T.keep _ _ _ st5 λb c o e=>(k.pin (b,o) (zz _ (zz _ (pY c e)))).1,λb c=>?_,w7⟩;obtain⟨o,e,d⟩:=T.obj _ _ st5 b c;exact(k.pin (b,o) (zz _ (zz _ (pY c e)))).2.1
  cases f with
  |next=>obtain⟨a,j,k,p⟩:=l;exact F k p
  |cont=>obtain⟨a,j,k,p⟩:=l;exact F k p
  |brk=>obtain⟨a,j,k,l⟩:=l;exact⟨a,j,k.rG,l⟩
  |ret v=>obtain⟨Q,a,j,k,P,l⟩:=l;exact⟨Q,a,j,k.rG,P,l⟩
end
end L2
namespace L2
abbrev R2:=V->V->Hp->VK->Prop
def wz(X:Cx)(f:A0->A0->Sem A0)(r:R2):Prop:=
 ∀(AN:O (A1×AE)) (s:A2) (σ:St) (H:Hp) (x y:V) (v u:A0) (Q:VK),AU X AN σ H s->At x v->At y u->r x y H Q →
  A7 (d9 X) X.A (f v u) (EP X AN σ Q) X.xe s
def Za(X:Cx)(f:A0->Sem A0)(r:V->Hp->VK->Prop):Prop:=
 ∀(AN:O (A1×AE)) (s:A2) (σ:St) (H:Hp) (x:V) (v:A0) (Q:VK),AU X AN σ H s->At x v->r x H Q →
  A7 (d9 X) X.A (f v) (EP X AN σ Q) X.xe s
def fU(X:Cx)(f:A0)(r:O V->Hp->VK->Prop):Prop:=
 ∀(AN:O (A1×AE)) (s:A2) (σ:St) (H:Hp) (xs:O V) (us:O A0) (Q:VK),AU X AN σ H s->AX xs us->r xs H Q →
  A7 (d9 X) X.A (call f us) (EP X AN σ Q) X.xe s
def OF(X:Cx)(r:V->Hp->(Bool->Hp->Prop)->Prop):Prop:=
 ∀(AN:O (A1×AE)) (s:A2) (σ:St) (H:Hp) (x:V) (v:A0) (Q:Bool->Hp->Prop),AU X AN σ H s->At x v->r x H Q →
  A7 (d9 X) X.A (truthy v) (TP X AN σ Q) X.xe s
def DC(r:R2)(ta tb:TE):TE:=λσ H Q=>ta σ H λx H1=>tb σ H1 λy H2=>r x y H2 Q
def GB(r:V->Hp->VK->Prop)(ta:TE):TE:=λσ H Q=>ta σ H λx H1=>r x H1 Q
def rI(C:Int->Int->Prop)(g:Int->Int->V):R2:=λx y H Q=>∃i j,x=.int i/\y=.int j/\C i j/\Q (g i j) H
def Cs(g:Int->Int->V):R2:=λx y H Q=>∃i j,x=.int i/\y=.int j/\Q (g i j) H
def rU(g:Int->V):V->Hp->VK->Prop:=λx H Q=>∃i,x=.int i/\Q (g i) H
section
variable{X:Cx}{a b:Expr}{ta tb tc:TE}
theorem EN(c:PE X a ta)(d:PE X b tb){σ:St}{H:Hp}{R:V->V->Hp->Prop}(I:AU X AN σ H s)(h:ta σ H λx H1=>tb σ H1 λy H2=>R x y H2){f:A0->A0->Sem A0}(e:∀v u s2 x y H2,AU X AN σ H2 s2->At x v->At y u->R x y H2->A7 (d9 X) X.A (f v u) Q X.xe s2):
  A7 (d9 X) X.A (eval a X.env) (λv i=>A7 (d9 X) X.A (eval b X.env) (λu g=>A7 (d9 X) X.A (f v u) Q X.xe g) X.xe i) X.xe s:=by
 refine jO (c AN s σ H _ I h) λv s1 ⟨x,H1,I1,r1,q1⟩=>?_;refine jO (d AN s1 σ H1 _ I1 q1) λu s2 ⟨y,H2,I2,r2,q2⟩=>?_;exact e v u s2 x y H2 I2 r1 r2 q2
theorem LN{op:Operator}{r:R2}(e:wz X (binaryOp op) r)(d:PE X a ta)(f:PE X b tb):PE X (.BinOp a op b pos) (DC r ta tb):=by
 intro AN s σ H Q I h;exact wpAny_BinOp (EN d f I h λv u s2 x y H2 c i g q=>e AN s2 σ H2 x y v u Q c i g q)
theorem On{op:UnaryOp}{r:V->Hp->VK->Prop}(c:Za X (unaryOp op) r)(b:PE X a ta):PE X (.UnaryOp op a pos) (GB r ta):=by
 intro AN s σ H Q I h;exact UnaryOp_ (jO (b AN s σ H _ I h) λv s1 ⟨x,H1,I1,r1,q1⟩=>c AN s1 σ H1 x v Q I1 r1 q1)
theorem EC{f:A0->A0->Sem A0}{C:Int->Int->Prop}{g:Int->Int->Int}
  (c:∀(i j:Int) (t u:Tok) (s:A2) (Q:BE) (E:BE),C i j->Q (.int (g i j) s.toks) { s with toks:=s.toks+1 }->A7 (d9 X) X.A (f (.int i t) (.int j u)) Q E s):
  wz X f (rI C λi j=>.int (g i j)):=by
 intro AN s σ H x y v u Q I d b h;obtain⟨i,j,rfl,rfl,e,q⟩:=h;obtain⟨t,rfl⟩:=d;obtain⟨a,rfl⟩:=b;exact c i j t a s _ _ e ⟨.int (g i j),H,I.tok _,⟨_,rfl⟩,q⟩
theorem Fc{f:A0->A0->Sem A0}{g:Int->Int->Int}
  (a:∀(i j:Int) (t u:Tok) (s:A2) (Q:BE) (E:BE),Q (.int (g i j) s.toks) { s with toks:=s.toks+1 }->A7 (d9 X) X.A (f (.int i t) (.int j u)) Q E s):
  wz X f (Cs λi j=>.int (g i j)):=by
 intro AN s σ H x y v u Q I d c h;obtain⟨i,j,rfl,rfl,q⟩:=h;obtain⟨t,rfl⟩:=d;obtain⟨b,rfl⟩:=c;exact a i j t b s _ _ ⟨.int (g i j),H,I.tok _,⟨_,rfl⟩,q⟩
theorem Ee{f:A0->A0->Sem A0}{g:Int->Int->Bool}
  (a:∀(i j:Int) (t u:Tok) (s:A2) (Q:BE) (E:BE),Q (.bool (g i j)) s->A7 (d9 X) X.A (f (.int i t) (.int j u)) Q E s):
  wz X f (Cs λi j=>.bl (g i j)):=by
 intro AN s σ H x y v u Q I d c h;obtain⟨i,j,rfl,rfl,q⟩:=h;obtain⟨t,rfl⟩:=d;obtain⟨b,rfl⟩:=c;exact a i j t b s _ _ ⟨.bl (g i j),H,I,rfl,q⟩
def OB(i j:Int):Prop:=0<j/\j<1073741824
def HV(i j:Int):Prop:=0<=j/\j<=1000000/\i.natAbs<2 ^ 64
def FC(i j:Int):Prop:=(-(2 ^ 64)<i/\i<2 ^ 64)\/(-(2 ^ 64)<j/\j<2 ^ 64)
theorem FC.ok{i j:Int}(h:FC i j):IntMulOk i j:=by
 rcases h with⟨h1,h2⟩|⟨h1,h2⟩
 ·exact .of_left (intBits_le_64 h1 h2)
 ·exact .of_right (intBits_le_64 h1 h2)
theorem OC:wz X (binaryOp .Add) (Cs λi j=>.int (i+j)):=Fc λ_ _ _ _ _ _ _ q=>add_int q
theorem OW:wz X (binaryOp .Sub) (Cs λi j=>.int (i-j)):=Fc λ_ _ _ _ _ _ _ q=>sub_int q
theorem HM:wz X (binaryOp .Mult) (rI FC λi j=>.int (i*j)):=EC λ_ _ _ _ _ _ _ a q=>mul_int q a.ok
theorem Wv:wz X (binaryOp .FloorDiv) (rI OB λi j=>.int (i / j)):=EC λi j _ _ _ _ _ a q=>by
 have h1:(0:Int)<j:=a.1;have h2:j<1073741824:=a.2;exact floordiv_int () (by rw[Int.fdiv_eq_ediv_of_nonneg i ()];exact q) (.inl (PyProof.noPylong_small ()))
theorem LU:wz X (binaryOp .Mod) (rI (λ_ j=>0<j) λi j=>.int (i%j)):=EC λi j _ _ _ _ _ a q=>by
 have h1:(0:Int)<j:=a;exact mod_int' () (by rw[Int.fmod_eq_emod_of_nonneg i ()];exact q)
theorem NL:wz X (binaryOp .Pow) (rI HV λi j=>.int (i ^ j.toNat)):=EC λ_ _ _ _ _ _ _ a q=>pow_int_small a.1 a.2.1 a.2.2 q
theorem N0{f:A0->Sem A0}{g:Int->Int}
  (a:∀(i:Int) (t:Tok) (s:A2) (Q:BE) (E:BE),Q (.int (g i) s.toks) { s with toks:=s.toks+1 }->A7 (d9 X) X.A (f (.int i t)) Q E s):
  Za X f (rU λi=>.int (g i)):=by
 intro AN s σ H x v Q I b h;obtain⟨i,rfl,q⟩:=h;obtain⟨t,rfl⟩:=b;exact a i t s _ _ ⟨.int (g i),H,I.tok _,⟨_,rfl⟩,q⟩
theorem HG:Za X (unaryOp .USub) (rU λi=>.int (-i)):=N0 λ_ _ _ _ _ q=>neg_int q
theorem SQ{σ:St}{H:Hp}{Q:VK}{k a:Bool}(I:AU X AN σ H s)(q:Q (.bl k) H)(e:k=a):EP X AN σ Q (.bool a) s:=by
 subst e;exact⟨.bl k,H,I,rfl,q⟩
theorem NE:wz X (AG .Lt) (Cs λi j=>.bl (decide (i<j))):=Ee λ_ _ _ _ _ _ _ q=>lt_int q
theorem NC:wz X (AG .Gt) (Cs λi j=>.bl (decide (j<i))):=Ee λ_ _ _ _ _ _ _ q=>gt_int q
theorem MZ:wz X (AG .GtE) (Cs λi j=>.bl (decide (j<=i))):=Ee λ_ _ _ _ _ _ _ q=>ge_int q
theorem QM:wz X (AG .In) (λx y H Q=>∃i j,x=.str i/\y=.str j/\Q (.bl (!(Builtin.Str.occurrences j i 0 j.length 1).isEmpty)) H):=by
 intro AN s σ H x y v u Q I b a h;obtain⟨i,j,rfl,rfl,q⟩:=h;obtain⟨t,rfl⟩:=b;obtain⟨c,rfl⟩:=a;exact in_str (SQ I q S)
theorem Ww:wz X (AG .IsNot) (λx y H Q=>y=.non/\Q (.bl (!decide (x=.non))) H):=by
 intro AN s σ H x y v u Q I a b h;obtain⟨rfl,q⟩:=h;cases b;refine isnot_none_gen (SQ I q ?_);cases x<;>first
  |(cases a;rfl)
  |(obtain⟨t,rfl⟩:=a;rfl)
theorem bA(b:Expr)(h:op≠.In:=by decide)(h2:op≠.NotIn:=by decide):behindInMarks op b=false:=by
 have e1:(op==CmpOp.In)=false:=by cases op<;>first|rfl|exact absurd S h
 have e2:(op==CmpOp.NotIn)=false:=by cases op<;>first|rfl|exact absurd S h2
 cases b<;>simp[behindInMarks,e1,e2]
theorem Wx{r:R2}(f:wz X (AG op) r)(e:PE X a ta)(g:PE X b tb)(d:behindInMarks op b=false):PE X (.Compare a [op] [b] pos) (DC r ta tb):=by
 intro AN s σ H Q I h;exact wpAny_Compare1 (EN e g I h λv u s2 x y H2 c j i q=>f AN s2 σ H2 x y v u Q c j i q) d
def I0(t:TE):TT:=λσ H Q=>t σ H λx H'=>∃k,x=.bl k/\Q k H'
theorem Wy{r:R2}(g:wz X (AG op) r)(f:PE X a ta)(d:PE X b tb)(i:behindInMarks op b=false):PT X (.Compare a [op] [b] pos) (I0 (DC r ta tb)):=by
 intro AN s σ H Q I h;refine wpAny_isTrue_Compare1 (jO (f AN s σ H _ I h) λv s1 ⟨x,H1,I1,r1,q1⟩=>jO (d AN s1 σ H1 _ I1 q1) λu s2 ⟨y,H2,I2,r2,q2⟩=>
  jO (g AN s2 σ H2 x y v u _ I2 r1 r2 q2) λc s3 ⟨z,H3,I3,r3,k,e,q3⟩=>?_) i
 subst e;cases r3;exact qh ⟨H3,I3,q3⟩
def FH(K:B5)(x:V)(H:Hp)(k:Bool):Prop:=
 match x with
 |.non=>k=false
 |.bl b=>k=b
 |.int i=>k=(i != 0)
 |.str y=>y.length<=AA/\k=((y.length:Int) != 0)
 |.byt y=>y.size<=AA/\k=((y.size:Int) != 0)
 |.ref p=>(∃xs,oK K H p xs/\k=!xs.isEmpty)\/(∃xs,wg K H p xs/\k=!xs.isEmpty)\/∃AO,H p=U (.dK AO)/\k=!AO.isEmpty
 |_=>False
theorem Mf{AO:O (κ×V)}{vs:O (κ×A0)}(r:KV AO vs):(!vs.isEmpty)=!AO.isEmpty:=by
 cases r<;>rfl
theorem Ay{xs:O V}(r:AX xs AQ):(!AQ.toArray.isEmpty)=!xs.isEmpty:=by
 cases r<;>simp
theorem yh:(AA:Nat)<2 ^ 63:=by rw[sizeLine_eq];decide
theorem NN:OF X (λx H Q=>∃k,FH X.K x H k/\Q k H):=by
 intro AN s σ H x v Q I a h;obtain⟨k,e,q⟩:=h;have j:=yh;have hs:AA=16777216:=sizeLine_eq;cases x with
 |non=>
  cases a;have e':k=false:=e;subst e';exact truthy_none ⟨H,I,q⟩
 |bl b=>
  cases a;have e':k=b:=e;subst e';exact qh ⟨H,I,q⟩
 |int i=>
  obtain⟨t,rfl⟩:=a;have e':k=(i != 0):=e;subst e';exact PySem.P.truthy_int ⟨H,I,q⟩
 |str y=>
  obtain⟨t,rfl⟩:=a;obtain⟨f,e'⟩:y.length<=AA/\k=((y.length:Int) != 0):=e;subst e';exact PySem.P.truthy_str () ⟨H,I.tok _,q⟩
 |byt y=>
  obtain⟨t,rfl⟩:=a;obtain⟨f,e'⟩:y.size<=AA/\k=((y.size:Int) != 0):=e;subst e';exact PySem.W.truthy_bytes () ⟨H,I.tok _,q⟩
 |ref p=>
  cases a;have e':(∃xs,oK X.K H p xs/\k=!xs.isEmpty)\/(∃xs,wg X.K H p xs/\k=!xs.isEmpty)\/∃AO,H p=U (.dK AO)/\k=!AO.isEmpty:=e;rcases e' with⟨xs,hx,e'⟩|⟨xs,hx,e'⟩|⟨AO,hx,e'⟩
  ·subst e';obtain⟨AQ,r,pl,d⟩:=I.list hx;have c:=r.length;exact wpAny_truthy_list pl.isList (by simp only[zi];omega) ⟨H,I.tok _,by rw[Ay r];exact q⟩
  ·subst e';obtain⟨AQ,r,pl,d⟩:=I.tuple hx;have c:=r.length;exact truthy_tuple pl (by simp only[zi];omega) ⟨H,I.tok _,by rw[Ay r];exact q⟩
  ·subst e';obtain⟨d,g,vs,r,m⟩:AO.length<=AA/\(p==sysModules)=false/\∃vs,KV AO vs/\s.heap.DictOf (dJ X.prog X.w) p vs:=I.hok p _ hx;have c:AO.length=vs.length:=Paired.length r;exact wpAny_truthy_dict g m () ⟨H,I.tok _,by rw[Mf r];exact q⟩
 |_=>exact(show False from e).elim
theorem SX(d:PE X a ta)(c:∀b,isTrue a X.env b=(do let v <-b;standAt a.pos;holding [v] (truthy v))):
  PT X a (λσ H Q=>ta σ H λx H'=>∃k,FH X.K x H' k/\Q k H'):=by
 intro AN s σ H Q I h;exact isTrue_plain (jO (d AN s σ H _ I h) λv s1 ⟨x,H1,I1,r1,q1⟩=>NN AN s1 σ H1 x v Q I1 r1 q1) (c _)
theorem Mg:wz X (binaryOp .Add) (λx y H Q=>∃i j,x=.str i/\y=.str j/\i.length+j.length<=AA/\Q (.str (i++j)) H):=by
 intro AN s σ H x y v u Q I d c h;obtain⟨i,j,rfl,rfl,a,q⟩:=h;obtain⟨t,rfl⟩:=d;obtain⟨b,rfl⟩:=c;exact add_str (λb tk=>⟨.str (i++j),H,I.tok _,⟨_,rfl⟩,q⟩) a
theorem BA{x:V}(r:AX [x] us):∃u,us=[u]/\At x u:=by
 cases r with
 |cons b a=>cases a;exact⟨_,rfl,b⟩
theorem C6{x y:V}(r:AX [x,y] us):∃u a,us=[u,a]/\At x u/\At y a:=by
 cases r with
 |cons e b=>
  cases b with
  |cons d c=>cases c;exact⟨_,_,rfl,e,d⟩
theorem S5:fU X (.builtin "abs") (λxs H Q=>∃i,xs=[.int i]/\Q (.int (if i<0 then -i else i)) H):=by
 intro AN s σ H xs us Q I r h;obtain⟨i,rfl,q⟩:=h;obtain⟨u,rfl,t,rfl⟩:=BA r;exact call_abs_int λu tk=>⟨.int (if i<0 then -i else i),H,I.tok _,⟨_,rfl⟩,q⟩
theorem QS:fU X (.type "int") (λxs H Q=>(∃i,xs=[.int i]/\Q (.int i) H)\/∃k,xs=[.bl k]/\Q (.int (if k then 1 else 0)) H):=by
 intro AN s σ H xs us Q I r h;rcases h with⟨i,rfl,q⟩|⟨k,rfl,q⟩
 ·obtain⟨u,rfl,t,rfl⟩:=BA r;exact call_int_int ⟨.int i,H,I,⟨_,rfl⟩,q⟩
 ·obtain⟨u,rfl,a⟩:=BA r;cases a;exact call_int_bool ⟨.int (if k then 1 else 0),H,I.tok _,⟨_,rfl⟩,q⟩
end
end L2
namespace L2
section
variable{x dx f:A1}{mA:AJ->Y A0}{v:A0}
end
theorem Jv.some_of{v:V}{o:Y A0}(r:Jv (U v) o):∃u,o=U u/\At v u:=by
 cases o with
 |none=>exact(show False from r).elim
 |some u=>exact⟨u,rfl,r⟩
section
variable{H H':Hp}{h':A6}{dx:A1}{fs fs':O (AJ×V)}
end
section
variable{X:Cx}{σ:St}{H:Hp}{dx:A1}{fs:O (AJ×V)}{f:AJ}{v:V}
end
section
variable{X:Cx}{o value:Expr}{f:AJ}{pos':Pos}{ta tv:TE}
end
section
variable{X:Cx}{σ:St}{H:Hp}{c:A0}{b:Bool}
end
end L2
namespace L2
structure jt (k:Nat) (A:Around):Prop where
 hd:A.handled=none
 dp:A.depth+3*k+5<recursionLimit
 un:A.units+16*k+200<cLine
theorem jt.mono(r:jt k A)(h:j<=k):jt j A:=⟨r.hd,by have:=r.dp;omega,by have:=r.un;omega⟩
theorem jt.deeper(r:jt (k+1) A)(env:Env):jt k (A.deeper env):=
 ⟨r.hd,by have:=r.dp;show A.depth+1+3*k+5<_;omega,by have:=r.un;show A.units+3+16*k+200<_;omega⟩
theorem jt.depth(r:jt k A):A.depth<recursionLimit:=by have:=r.dp;omega
def KW:TA:=λ_ H Q=>Q [] H
def MV(ta:TE)(tr:TA):TA:=λσ H Q=>ta σ H λx H1=>tr σ H1 λxs H2=>Q (x::xs) H2
section
variable{X:Cx}{te:TE}{t:TA}
theorem yj:PA X [] KW:=λ_ _ _ _ H Q I h=>Calls.spliced_nil ⟨[],H,I,.nil,h⟩
theorem tW(a:PE X e te)(b:PA X es t)(hs:A9 (e::es) X.env=(false,eval e X.env)::A9 es X.env:=by rfl):PA X (e::es) (MV te t):=by
 intro pos AN s σ H Q I h;rw[hs];show A7 _ _ (spliced ((false,eval e X.env)::AD pos (A9 es X.env))) _ _ s;refine Calls.spliced_cons (jO (a AN s σ H _ I h) λu s1 ⟨x,H1,I1,r1,q1⟩=>?_);exact jO (b pos AN s1 σ H1 _ I1 q1) λus s2 ⟨xs,H2,I2,r2,q2⟩=>⟨x::xs,H2,I2,.cons r1 r2,q2⟩
def LB(t:TA):TE:=λσ H Q=>t σ H λxs H1=>xs.length<=AA/\∀p,H1 p=Z->Q (.ref p) (B7 H1 p (.tup xs))
def MR(t:TA):TE:=λσ H Q=>t σ H λxs H1=>xs.length<=AA/\∀p,H1 p=Z->Q (.ref p) (B7 H1 p (.lst xs))
theorem NB{x1}(h:PA X es t):PE X (.Tuple es x1 pos) (LB t):=by
 intro AN s σ H Q I hq;refine wpAny_Tuple_spliced (jO (h pos AN s σ H _ I hq) λus s1 ⟨xs,H1,I1,r,z,q⟩=>⟨by rw[<-r.length];exact z,?_⟩);have a:H1 s1.heap.objs.size=Z:=I1.hok.fresh (zl _);refine⟨.ref s1.heap.objs.size,B7 H1 s1.heap.objs.size (.tup xs),I1.laid (t':=s1.toks) (λb u e=>zd _ e) (zl _) ?_,rfl,q _ a⟩;exact⟨z,us,r,⟨_,zt _ rfl,rfl,⟨_,rfl⟩,rfl⟩⟩
theorem ID(h:PA X es t):PE X (.List es pos) (MR t):=by
 intro AN s σ H Q I hq;refine wpAny_List_spliced (jO (h pos AN s σ H _ I hq) λus s1 ⟨xs,H1,I1,r,z,q⟩=>⟨by rw[<-r.length];exact z,?_⟩);have a:H1 s1.heap.objs.size=Z:=I1.hok.fresh (zl _);refine⟨.ref s1.heap.objs.size,B7 H1 s1.heap.objs.size (.lst xs),I1.laid (t':=s1.toks) (λb u e=>zd _ e) (zl _) ?_,rfl,q _ a⟩;exact⟨z,us,0,r,zt _ rfl⟩
end
abbrev Sp:=O V->Hp->VK->XK->Prop
abbrev R7:=O Env->Hp->A2->XK->A0->A2->Prop
structure Wz (P:Program) (w:World) (K:B5) (mg:Str->Option Value) (base:Heap) (A:Around) (outer:List Env) (s:Shared) (H:Hp):Prop where
 frames:A.frames=some outer
 mod:Mod K mg base
 bs:∀b o,base.get? b=some o->s.heap.get? b=some o/\H b=none
 Wn:base.objs.size<=s.heap.objs.size
 Av:s.heap.FunFrames base outer
 frf:∀b∈CS outer,H b=none
 hok:yc P w H s.heap
 bare:AllBare s.gens
 tabs:BY K H
def CE(outer:O Env)(P:A3)(w:A4)(H:Hp)(s:A2)(Q:VK)(u:A0)(s':A2):Prop:=
 ∃v H',s'.os=s.os/\AllBare s'.gens/\Un (CS outer) [] H H' s.heap s'.heap/\yc P w H' s'.heap/\At v u/\Q v H'
def CR(CX:R7)(outer:O Env)(P:A3)(w:A4)(H:Hp)(s:A2)(Q:VK)(E:XK)(r:Result)(s':A2):Prop:=
 match r with
 |.ok (.ret u)=>CE outer P w H s Q u s'
 |.ok _=>False
 |.error e=>CX outer H s E e s'
structure rH (P:Program) (w:World) (K:B5) (mg:Str->Option Value) (base:Heap) (CX:R7) (k:Nat) (f:Addr) (fd:FuncData) (ps:AZ) (sp:Sp):Prop where
 len:∀vs H Q E,sp vs H Q E->vs.length=ps.length
 run:∀(A:Around) (outer:List Env) (s:Shared) (H:Hp) (args:Args) (us:List Value) (vs:List V) (Q:VK) (E:XK),jt k A->Wz P w K mg base A outer s H->BindsTo s fd args (ps.zip us)->AX vs us->sp vs H Q E →
  codeAny (model P w) A (.call (.ref f) args) (CR CX outer P w H s Q E) s
section
variable{X:Cx}{σ:St}{H:Hp}{s':A2}
theorem AU.env0(I:AU X AN σ H s):Wz X.prog X.w X.K X.mg X.base X.A X.stack s H:=
 ⟨I.ok.frames,I.ok.mod,I.bs,zS I.ok.Wn I.sz,I.stack,I.G8,I.hok,I.bare,I.ok.tabs.go I.base.wj⟩
theorem AU.after{Q:VK}(I:AU X AN σ H s)(h:CE X.stack X.prog X.w H s Q u s'):EP X AN σ Q u s':=by
 obtain⟨v,H',os,e,un,a,r,q⟩:=h;obtain⟨c,g,d,t,f⟩:=s';obtain rfl:f=s.os:=os;exact⟨v,H',I.call (h':=c) (g':=g) (d':=d) (t':=t) (ch:=[]) un a e (λb z=>absurd z (by simp)),r,q⟩
end
def MC(sp:Sp)(Zb:O V)(E:XK)(t:TA):TE:=λσ H Q=>t σ H λvs H1=>sp (vs++Zb) H1 Q E
def BF(K:B5)(fd:FuncData)(ps:AZ)(ds:O A0):Prop:=
 ∀(s:A2) (us:O A0),K.In s.heap->(us++ds).length=ps.length->BindsTo s fd ⟨us,[]⟩ (ps.zip (us++ds))
theorem BF.all(h:∀us:O A0,us.length=ps.length->bindArgs fd ⟨us,[]⟩=pure (ps.zip us)):BF K fd ps []:=λs us _ a=>by
 rw[Q3]at a ⊢;exact .of_eq (h us a)
def C3(CX:R7)(X:Cx)(E:XK):Prop:=∀(AN:O (A1×AE)) (σ:St) (H:Hp) (s:A2) (e:A0) (s':A2),AU X AN σ H s->CX X.stack H s E e s'->X.xe e s'
section
variable{X:Cx}{CX:R7}{f:A1}{sp:Sp}{Zb:O V}{ds:O A0}{E:XK}{m:AJ}{p:Pos}{o:Expr}{ta:TE}{t:TA}
theorem S7{σ:St}{H:Hp}{Q:VK}{vs:O V}(F:rH X.prog X.w X.K X.mg X.base CX k f fd ps sp)(c:jt k X.A)(b:BF X.K fd ps ds)(hd:AX Zb ds)(hx:C3 CX X E)(I:AU X AN σ H s)(r:AX vs us)(h:sp (vs++Zb) H Q E):A7 (d9 X) X.A (call (.ref f) us) (EP X AN σ Q) X.xe s:=by
 have a:AX (vs++Zb) (us++ds):=r.append hd;have d:(us++ds).length=ps.length:=by rw[<-a.length];exact F.len _ _ _ _ h
 refine wpAny_call (codeAny_mono (F.run X.A X.stack s H ⟨us,[]⟩ (us++ds) (vs++Zb) Q E c I.env0 (b s us I.Wf d) a h) λr s' hq=>?_);cases r with
 |error e=>exact hx AN σ H s e s' I hq
 |ok fl=>
  cases fl with
  |ret u=>exact I.after hq
  |next=>exact False.elim hq
  |brk=>exact False.elim hq
  |cont=>exact False.elim hq
theorem WD(F:rH X.prog X.w X.K X.mg X.base CX k f fd ps sp)(g:jt k X.A)(j:Gl X x)(b:X.mg x=U (.ref f))(hk:keepIn X.K (.ref f)=true)(i:BF X.K fd ps ds)(hd:AX Zb ds)(hx:C3 CX X E)
  (d:PA X (e::es) t) (a:dX x:=by decide) (l:A9 (e::es) X.env=(false,eval e X.env)::A9 es X.env:=by rfl) (c:(AD pos (A9 es X.env)).any (·.1)=false:=by rfl):
  PE X (.Call (.Name x p) (e::es) [] pos) (MC sp Zb E t):=by
 intro AN s σ H Q I h;refine QR (Ol I j b ?_ a);refine callWith_K (h₀:=X.base) I.ok.mod.kin hk (jO (d pos AN s σ H _ I h) λus s1 ⟨vs,H1,I1,r,q⟩=>⟨I1.Wf,?_⟩) l c;exact S7 F g i hd hx I1 r q
end
section
variable{X:Cx}{CX:R7}{f:A1}{ks:AZ}{sp:Sp}{E:XK}{m:AJ}{p kpos:Pos}{o:Expr}{kws:O AC}{te ta:TE}{t tk:TA}{nm:Y AJ}
variable{g:O A0->O A0->O A0}{gV:O V->O V->O V}
end
structure bF (N P:AZ) (sc:Scope):Prop where
 kind:sc.kind=.function
 co:sc.isCoroutine=false
 gen:sc.isGenerator=false
 nd:N.Nodup
 pre:N.take P.length=P
 par:∀x∈P,sc.names.lookup x=some .local\/sc.names.lookup x=some .cell
 aay:∀y∈sc.names,y.2≠.free
theorem Fp{a:AJ->Y NameKind}{x:AJ}:∀{binds:O (AJ×A0)} {m:AJ->Y A0},(∀v,(x,v)∉binds)->bindL a binds m x=m x
 |[],_,_=>rfl
 |(n,v)::r,m,h=>by
  unfold bindL;rw[Fp λw b=>h w (zh _ b)];split
  ·have:x≠n:=by rintro rfl;exact h v zg
   simp[this]
  ·rfl
theorem Fq{a:AJ->Y NameKind}{x:AJ}:∀{binds:O (AJ×A0)} {m:AJ->Y A0},(∀v,(x,v)∉binds)->bindC a binds m x=m x
 |[],_,_=>rfl
 |(n,v)::r,m,h=>by
  unfold bindC;rw[Fq λw b=>h w (zh _ b)];split
  ·rfl
  ·have:x≠n:=by rintro rfl;exact h v zg
   simp[this]
theorem Ft{a:AJ->Y NameKind}{x:AJ}{v:A0}:∀{P:AZ} {vs:O A0} {i:Nat} {m:AJ->Y A0},P.Nodup->P[i]?=U x->vs[i]?=U v->a x=U .local →
  bindL a (P.zip vs) m x=U v
 |[],_,_,_,_,h,_,_=>by simp at h
 |_::_,[],_,_,_,_,h,_=>by simp at h
 |p::P,w::vs,0,m,nd,h1,h2,hk=>by
  simp at h1 h2;subst h1;subst h2;show bindL a ((p,w)::P.zip vs) m p=_;unfold bindL;rw[Fp λv b=>(List.nodup_cons.mp nd).1 (k4 b).1,zo hk];simp
 |p::P,w::vs,i+1,m,nd,h1,h2,hk=>by
  show bindL a ((p,w)::P.zip vs) m x=_;unfold bindL;exact Ft (i:=i) (List.nodup_cons.mp nd).2 (by simpa using h1) (by simpa using h2) hk
theorem Fv{a:AJ->Y NameKind}{x:AJ}{v:A0}:∀{P:AZ} {vs:O A0} {i:Nat} {m:AJ->Y A0},P.Nodup->P[i]?=U x->vs[i]?=U v->a x≠U .local →
  bindC a (P.zip vs) m x=U v
 |[],_,_,_,_,h,_,_=>by simp at h
 |_::_,[],_,_,_,_,h,_=>by simp at h
 |p::P,w::vs,0,m,nd,h1,h2,hk=>by
  simp at h1 h2;subst h1;subst h2;show bindC a ((p,w)::P.zip vs) m p=_;unfold bindC;rw[Fq λv b=>(List.nodup_cons.mp nd).1 (k4 b).1,zC hk];simp
 |p::P,w::vs,i+1,m,nd,h1,h2,hk=>by
  show bindC a ((p,w)::P.zip vs) m x=_;unfold bindC;exact Fv (i:=i) (List.nodup_cons.mp nd).2 (by simpa using h1) (by simpa using h2) hk
def start(N:AZ)(vs:O V):St:=vs.map U++aa (N.length-vs.length) Z
def Az(CX:R7)(P:A3)(w:A4)(K:B5)(mg:AJ->Y A0)(base:A6)(N:AZ)(qual:AJ)(scope:Scope)(f:A1)(a:A0)(A:A5)(outer:O Env)(s:A2)(H:Hp)(E:XK):Cx where
 prog:=P
 w:=w
 K:=K
 mg:=mg
 base:=base
 A:=A.deeper (AK qual scope s.heap.objs.size f a)
 N:=N
 s₀:=s
 H₀:=H
 env:=AK qual scope s.heap.objs.size f a
 outer:=outer
 stack:=AK qual scope s.heap.objs.size f a::outer
 ex:=[]
 calm:=true
 fn:=λ_=>true
 pn:=[]
 xe:=λe s'=>A7 (A8 P w) (A.deeper (AK qual scope s.heap.objs.size f a)) (leaving (AK qual scope s.heap.objs.size f a) e) (λ_ b=>CX outer H s E e b) (λe' b=>CX outer H s E e' b) s'
theorem Jz{a:Scope}(h:a.names.lookup x=U .cell):∃c,(cellsFrom n a.names []).lookup x=U c:=by
 have q:=cellsFrom_some a.names n [] (.inl h);exact aI.mp q
theorem QT{CX:R7}{f:A1}{g:A0}{outer:O Env}{s1:A2}{H:Hp}{E:XK}{vs:O V}(S:bF N ps scope)(hd:A.handled=Z)(e0:Wz P w K mg base A outer s H)(D:vs.length=ps.length)(r:AX vs us)(x:InCallC s s.heap.objs.size (bindL (AK qual scope s.heap.objs.size f g).kindOf (ps.zip us) λ_=>Z) (cellsFrom (s.heap.objs.size+1) scope.names []) (bindC (AK qual scope s.heap.objs.size f g).kindOf (ps.zip us) λ_=>Z) s1):
  AU (Az CX P w K mg base N qual scope f g A outer s H E) [] (start N vs) H s1:=by
 have C:ps.length<=N.length:=by have:=congrArg av S.pre;rw[kK]at this;omega
 obtain⟨h1,tk,rfl,hk⟩:=x.done;have j:∀b:A1,b∉(Az CX P w K mg base N qual scope f g A outer s H E).ex:=λb z=>absurd (show b∈([]:O A1) from z) (by simp);refine⟨⟨e0.mod,S.kind,rfl,rfl,zl _,λy z c h1 h2=>?_,λy d=>?_,λy c _ h=>?_,λ_=>hd,Around.frames_deeper e0.frames,.inr ⟨rfl,rfl⟩,λb z=>absurd z (j b),e0.bs,e0.Wn,λb _ _=>j b,λb z=>absurd z (j b),e0.Av,e0.frf,e0.tabs⟩,
  rfl,e0.bare,Un.kept hk,⟨_,x.toInCall.ns,λi y v h1 h2 B=>?_⟩,λy c h=>⟨_,x.cell y c h⟩,e0.hok.fresh (zl _),λy c h=>?_,λp hp=>absurd (show p∈([]:O (A1×AE)) from hp) (by simp),e0.hok.kept hk,?_⟩
 ·exact name_of_addr x.apart (QP h1) (QP h2)
 ·have d:scope.names.lookup y=U .cell\/scope.names.lookup y=U .free:=d;rcases d with d|d
  ·exact Jz d
  ·exact absurd rfl (S.aay _ (QP d))
 ·exact j3 (x.above y c (QP h))
 ·have hi:i<vs.length:=by
   unfold start at h2;by_cases hi:i<vs.length
   ·exact hi
   ·rw[QO (by simpa using hi)]at h2;rw[Q1]at h2;split at h2<;>cases h2
  have t:vs[i]?=U v:=by
   unfold start at h2;rw[ZU (by simpa using hi),ZH]at h2;cases e:vs[i]? with
   |none=>rw[e]at h2;cases h2
   |some a=>rw[e]at h2;cases h2;rfl
  obtain⟨u,m,o⟩:=r.get t;have hp:ps[i]?=U y:=by
   rw[<-S.pre,List.getElem?_take_of_lt ()];exact h1
  have l:ps.Nodup:=by rw[<-S.pre];exact S.nd.sublist (dr _ _)
  refine⟨u,o,?_⟩;rcases S.par y (bg hp)with k|k
  ·exact .inl ⟨k,Ft l hp m k⟩
  ·obtain⟨c,e⟩:=Jz (n:=s.heap.objs.size+1) k;refine .inr ⟨.inl k,c,e,?_⟩;have q:=x.cell y c e;rw[Fv l hp m (by show scope.names.lookup y≠_;rw[k];decide)]at q;exact q
 ·exact e0.hok.fresh (j3 (x.above y c (QP h)))
 ·unfold start;show _=N.length;rw[ZA,zk,List.length_replicate];omega
theorem Zc{CX:R7}{f:A1}{i kV l a ct B:A0}{h z:Y A1}{sp:Sp}(M:K.lookup f=U ⟨B,z,.func (fnOf name qual params body scope i kV l pm h a ct),osl⟩)(a0:codeIn K a qual=true)(S:bF N ps scope)(len:∀vs H Q E,sp vs H Q E->vs.length=ps.length)(L:∀(A:A5) (outer:O Env) (s:A2) (H:Hp) (vs:O V) (Q:VK) (E:XK),jt k (A.deeper (AK qual scope s.heap.objs.size f a))->sp vs H Q E →
   ∃t,LQ (Az CX P w K mg base N qual scope f a A outer s H E) body t/\t { nx:=λ_ H'=>Q .non H',rt:=Q } (start N vs) H):
  rH P w K mg base CX (k+1) f (fnOf name qual params body scope i kV l pm h a ct) ps sp:=by
 refine⟨len,λA outer s H a1 us vs Q E c e0 D r j=>?_⟩;have p:=len _ _ _ _ j;have m:K.In s.heap:=e0.mod.kin.keeps λb o e=>(e0.bs b o e).1;have C:s.heap.NoLimit:=e0.mod.nolimit.keeps λb o e=>(e0.bs b o e).1;have X:∀y∈ps.zip us,scope.names.lookup y.1=U .local\/(scope.names.lookup y.1=U .cell/\((cellsFrom (s.heap.objs.size+1) scope.names []).lookup y.1).isSome=true):=λ⟨n,v⟩ hy=>by
  rcases S.par n (k4 hy).1 with q|q
  ·exact .inl q
  ·exact .inr ⟨q,cellsFrom_some _ _ _ (.inl q)⟩
 refine codeAny_call_function c.depth (m _ _ M) rfl S.co S.gen rfl (PySem.W.codeRec_of m a0) (D _ _ _ _ ?_);refine wpAny_newFunctionEnv_cells S.kind X λenv G s1 x=>?_;subst G;refine⟨C.keeps x.toInCall.keep,codeAny_func ?_⟩;obtain⟨t,F,hq⟩:=L A outer s H vs Q E (c.deeper _) j;have I:AU (Az CX P w K mg base N qual scope f a A outer s H E) [] (start N vs) H s1:=QT S c.hd e0 p r x;refine qa (F [] s1 (start N vs) H _ I hq) (λfl s' hs=>?_) λe s' hs=>hs;have g:∀{σ':St} {H':Hp} {v:V} {u:A0},AU (Az CX P w K mg base N qual scope f a A outer s H E) [] σ' H' s'->At v u->Q v H'->CE outer P w H s Q u s':=
  λ{σ' H' v u} J d q=>⟨v,H',J.os,J.bare,J.base,J.hok,d,q⟩
 cases fl with
 |ret u=>
  obtain⟨v,σ',H',J,d,q⟩:=hs;exact g J d q
 |next=>
  obtain⟨σ',H',J,q⟩:=hs;exact g (v:=V.non) (u:=Value.none) J rfl q
 |brk=>
  obtain⟨_,_,_,q⟩:=hs;exact False.elim q
 |cont=>
  obtain⟨_,_,_,q⟩:=hs;exact False.elim q
end L2
namespace L2
section
variable{X:Cx}{p:Pos}{t:TA}{id T:String}{r:O V->Hp->VK->Prop}
def F5(r:O V->Hp->VK->Prop)(t:TA):TE:=λσ H Q=>t σ H λvs H1=>r vs H1 Q
theorem S8(j:fU X (.builtin id) r)(g:Gl X x)(b:X.mg x=Z)(f:AH x=U (.builtin id))(d:PA X (e::es) t)(i:x ≠ "__name__":=by decide)(a:dX x:=by decide)
  (k:A9 (e::es) X.env=(false,eval e X.env)::A9 es X.env:=by rfl) (c:(AD pos (A9 es X.env)).any (·.1)=false:=by rfl):PE X (.Call (.Name x p) (e::es) [] pos) (F5 r t):=by
 intro AN s σ H Q I h;refine QR (Aw I g b f ?_ i a);exact PyProof.Rows.callWith_builtin1 (jO (d pos AN s σ H _ I h) λus s1 ⟨vs,H1,I1,r1,q1⟩=>j AN s1 σ H1 vs us Q I1 r1 q1) k c
theorem QW(j:fU X (.type T) r)(g:Gl X x)(b:X.mg x=Z)(f:AH x=U (.type T))(d:PA X (e::es) t)(i:x ≠ "__name__":=by decide)(a:dX x:=by decide)
  (k:A9 (e::es) X.env=(false,eval e X.env)::A9 es X.env:=by rfl) (c:(AD pos (A9 es X.env)).any (·.1)=false:=by rfl):PE X (.Call (.Name x p) (e::es) [] pos) (F5 r t):=by
 intro AN s σ H Q I h;refine QR (Aw I g b f ?_ i a);exact PyProof.Rows.callWith_type1 (jO (d pos AN s σ H _ I h) λus s1 ⟨vs,H1,I1,r1,q1⟩=>j AN s1 σ H1 vs us Q I1 r1 q1) k c
end
end L2
namespace HT
open PySem PyProof.Rows
section
open PySem.SeqAt
open PySem.AutoSeq1 (wpAny_loadPart')
open PySem.MeetsSeq PySem.MeetsSeq2 PySem.MeetsSeq3
end
theorem WL{t b:A1}{vs ws:O A0}(q:IsTup s.heap t vs.toArray)(p:IsTup s.heap b ws.toArray)(i:vs≠[])(h1:ws=[]->Q (.ref t) s)(h2:ws≠[]->Q (.ref s.heap.objs.size) { s with heap:=s.heap.push { cls:=.type "tuple",data:=.seq (vs++ws).toArray } })(o:vs.length+ws.length<=AA):A7 (A8 prog w) A (binaryOp .Add (.ref t) (.ref b)) Q E s:=by
 obtain⟨⟨cls,g,data,sl⟩,a,l,n,hd⟩:=id q;obtain⟨⟨cls2,f,u,h⟩,c,j,m,k⟩:=id p;simp only at l hd j k;subst l hd j k;have e:vs.toArray++ws.toArray=(vs++ws).toArray:=by simp
 by_cases d:ws=[]
 ·exact concat_meets ⟨_,a,rfl⟩ ⟨_,c,rfl⟩ noFill_tuple_add seq_tuple_add PySem.F.slot_tuple_add KF (Kt _ _)
   (tuple_addW1 t b vs.toArray ws.toArray n m g f sl h (by simpa using i) (by simp[d])) ⟨a,c,h1 d⟩
 ·refine concat_meets ⟨_,a,rfl⟩ ⟨_,c,rfl⟩ noFill_tuple_add seq_tuple_add PySem.F.slot_tuple_add KF (Kt _ _)
   (tuple_addW2 t b vs.toArray ws.toArray n m g f sl h (by simpa using i) (by simpa using d) (by rw[zi,zi];exact o)) ⟨a,c,?_⟩
  rw[e];exact h2 d
def fV(n d:Nat):Y Int->Nat
 |none=>d
 |some v=>if v<0 then(v+(n:Int)).toNat else min v.toNat n
theorem S9(n d:Nat):fV n d Z=d:=rfl
theorem WM(n d k:Nat):fV n d (U (k:Int))=min k n:=by
 show(if(k:Int)<0 then((k:Int)+(n:Int)).toNat else min (k:Int).toNat n)=min k n;rw[zC (),Kn]
theorem OU(n d:Nat)(hd:d<=n)(o:Y Int):fV n d o<=n:=by
 cases o with
 |none=>exact hd
 |some v=>
  show(if v<0 then(v+(n:Int)).toNat else min v.toNat n)<=n;by_cases a:v<0
  ·rw[zo a];omega
  ·rw[zC a];exact Nat.min_le_right _ _
theorem Oo(v:Int)(n d:Nat):(if v<0 then max (v+(n:Int)) 0 else min v (n:Int))=((fV n d (U v):Nat):Int):=by
 show(if v<0 then max (v+(n:Int)) 0 else min v (n:Int))=(((if v<0 then(v+(n:Int)).toNat else min v.toNat n):Nat):Int);by_cases a:v<0
 ·simp only[zo a];omega
 ·simp only[zC a];omega
theorem Mh(lo hi:Y Int)(n:Nat):Builtin.Slice.sliceAdjust lo hi 1 (n:Int)=(((fV n 0 lo:Nat):Int),((fV n n hi:Nat):Int)):=by
 have h1:¬ ((1:Int)<0):=by omega
 unfold Builtin.Slice.sliceAdjust;simp only[h1,ZN];refine bv ?_ ?_
 ·cases lo with
  |none=>rfl
  |some v=>exact Oo v n 0
 ·cases hi with
  |none=>rfl
  |some v=>exact Oo v n n
theorem Mi(i j:Nat):Builtin.Slice.slicePlaces (i:Int) (j:Int) 1=j-i:=by
 unfold Builtin.Slice.slicePlaces;have h1:(1:Int)>0:=by omega
 simp only[h1,Z3,Int.ediv_one];split<;>omega
theorem Ba{v:A0}{o:Y Int}{Q:Y Int->A2->Prop}(p:IsPart v o)(h:Q o s):A7 (A8 prog w) A (Builtin.Slice.slicePartIndex v) Q E s:=by
 cases p with
 |none=>exact slicePart_none h
 |int i t=>exact slicePart_int h
theorem o7{sl:A1}{d b:A0}{Q:Int×Int×Nat->A2->Prop}(hs:s.heap.IsSliceOf sl d b .none)(pl:IsPart d lo)(e:IsPart b hi)(h:Q (((fV n 0 lo:Nat):Int),1,fV n n hi-fV n 0 lo) s):A7 (A8 prog w) A (Builtin.Slice.sliceApplied (.ref sl) (pure (n:Int))) Q E s:=by
 obtain⟨os,c,f,a⟩:=id hs;unfold Builtin.Slice.sliceApplied Builtin.Slice.sliceFields;refine zb (zb (wpAny_field c a (x:=d) S (zb (wpAny_field c a (x:=b) S (zb (wpAny_field c a (x:=.none) S (ze ?_)))))));refine zb (slicePart_none ?_);show A7 _ _ (if((1:Int)==0)=true then _ else _) _ _ s;rw[zC ()];refine zb (Ba pl (zb (Ba e (zb (ze ?_)))));show A7 _ _ (match Builtin.Slice.sliceAdjust lo hi 1 (n:Int)with|(lo,hi)=>pure (lo,(1:Int),Builtin.Slice.slicePlaces lo hi 1)) _ _ s;rw[Mh lo hi n];show A7 _ _ (pure (((fV n 0 lo:Nat):Int),(1:Int),Builtin.Slice.slicePlaces ((fV n 0 lo:Nat):Int) ((fV n n hi:Nat):Int) 1)) _ _ s;rw[Mi];exact ze h
theorem Tc(xs:Array A0)(i k:Nat):((ax k).filterMap λ(m:Nat)=>xs[((i:Int)+(m:Int)*1).toNat]?).toArray=((xs.toList.drop i).take k).toArray:=by
 have e:(λ(m:Nat)=>xs[((i:Int)+(m:Int)*1).toNat]?)=λm=>xs[i+m]?:=by
  funext m;have:((i:Int)+(m:Int)*1).toNat=i+m:=by omega
  rw[this]
 rw[e];have:=pick_run xs i k;rw[dc]at this;have e2:((λx=>xs[x]?) ∘ λx=>i+x)=λm=>xs[i+m]?:=rfl;rw[e2]at this;rw[this]
theorem wA{t sl:A1}{d c:A0}(a:IsTup s.heap t items)(hs:s.heap.IsSliceOf sl d c .none)(pl:IsPart d lo)(i:IsPart c hi)(k:¬ (fV items.size 0 lo=0/\fV items.size items.size hi=items.size))(h:Q (.ref s.heap.objs.size) { s with heap:=s.heap.push { cls:=.type "tuple",data:=.seq ((items.toList.drop (fV items.size 0 lo)).take (fV items.size items.size hi-fV items.size 0 lo)).toArray } })(n:items.size<=AA):A7 (A8 prog w) A (getItem (.ref t) (.ref sl)) Q E s:=by
 have b:sizeOk (.seq ((items.toList.drop (fV items.size 0 lo)).take (fV items.size items.size hi-fV items.size 0 lo)).toArray):=by
  show((items.toList.drop (fV items.size 0 lo)).take (fV items.size items.size hi-fV items.size 0 lo)).toArray.size<=AA;rw[zi,kK,jn,bp];omega
 have o:fV items.size items.size hi<=items.size:=OU _ _ (zl _) hi;obtain⟨os,f,g,l⟩:=id hs;have j:s.TypeIs (.ref sl) "slice":=⟨os,f,g⟩;unfold getItem
 try with_reducible refine Zp ?_
 first|refine zb (ze ?_)|skip
 refine zb (wpAny_sequenceKey a.typeIs () ?_);refine zb (KB (name:=Str.ofString "__getitem__") a.typeIs PyProof.Rows.slot_tuple_getitem
  (JO PyProof.Rows.slot_tuple_getitem a.typeIs entry_tuple_getitem ?_ (args_tuple_getitem _ _)))
 show A7 _ _ (Builtin.Tuple.tupleItemsOf (.ref t) >>= _) _ _ s;refine zb (tupleItemsOf_ a ?_);refine zb (Q4 j ?_);rw[zo ()];refine zb (o7 hs pl i ?_);have e:¬ ((((fV items.size 0 lo:Nat):Int)==0&&(1:Int)==1&&(fV items.size items.size hi-fV items.size 0 lo)==items.size)=true):=by
  intro q;rw[qf,qf]at q;have q1:((fV items.size 0 lo:Nat):Int)=0:=eq_of_beq q.1.1;have q2:fV items.size items.size hi-fV items.size 0 lo=items.size:=eq_of_beq q.2;exact k ⟨by omega,by omega⟩
 show A7 _ _ (if(((fV items.size 0 lo:Nat):Int)==0&&(1:Int)==1&&(fV items.size items.size hi-fV items.size 0 lo)==items.size)=true then _ else _) _ _ s;rw[zC e,Tc]
 first
  |exact zb (m:=Builtin.Tuple.tupleExact _) (qS (ze ⟨_,rfl,ze h⟩) b)
  |exact zb (m:=Builtin.Tuple.tupleExact _) (qS (zb (ze (ze ⟨_,rfl,ze h⟩))) b)
  |exact zb (zb (m:=Builtin.Tuple.tupleExact _) (qS (ze (ze ⟨_,rfl,ze h⟩)) b))
  |exact zb (zb (m:=Builtin.Tuple.tupleExact _) (qS (ze ⟨_,rfl,ze h⟩) b))
end HT
namespace L2
abbrev TO:=St->Hp->(Y Int->Hp->Prop)->Prop
def PO(X:Cx)(e:Y Expr)(t:TO):Prop:=
 ∀(AN:O (A1×AE)) (s:A2) (σ:St) (H:Hp) (Q:Y Int->Hp->Prop),AU X AN σ H s->t σ H Q →
  A7 (d9 X) X.A (evalPart e X.env) (λu s'=>∃o H',AU X AN σ H' s'/\IsPart u o/\Q o H') X.xe s
def WQ:TO:=λ_ H Q=>Q Z H
def LL(t:TE):TO:=λσ H Q=>t σ H λx H1=>∃i,x=.int i/\Q (U i) H1
section
variable{X:Cx}{te:TE}{lo hi:Y Expr}{tl th:TO}
theorem WR:PO X Z WQ:=by
 intro AN s σ H Q I h;rw[evalPart_none];exact ze ⟨Z,H,I,.none,h⟩
theorem WT(h:PE X e te):PO X (U e) (LL te):=by
 intro AN s σ H Q I a;rw[evalPart_some];refine jO (h AN s σ H _ I a) λu s1 ⟨x,H1,I1,r1,q1⟩=>?_;obtain⟨i,rfl,q⟩:=q1;obtain⟨t,rfl⟩:=r1;exact⟨U i,H1,I1,.int i t,q⟩
def E8(X:Cx)(r:V->Y Int->Y Int->Hp->VK->Prop):Prop:=
 ∀(AN:O (A1×AE)) (s:A2) (σ:St) (H:Hp) (x:V) (v a b:A0) (lo hi:Y Int) (sl:A1) (Q:VK),AU X AN σ H s->At x v->s.heap.IsSliceOf sl a b .none->IsPart a lo->IsPart b hi->r x lo hi H Q →
  ∃T id,typeLookup (.type T) "__getitem__"=pure (U (.builtin id))/\s.TypeIs v T/\A7 (d9 X) X.A (getItem v (.ref sl)) (EP X AN σ Q) X.xe s
def Lc(r:V->Y Int->Y Int->Hp->VK->Prop)(te:TE)(tl th:TO):TE:=λσ H Q=>te σ H λx H1=>tl σ H1 λl H2=>th σ H2 λu a=>r x l u a Q
theorem Td{r:V->Y Int->Y Int->Hp->VK->Prop}(c:E8 X r)(j:PE X e te)(a:PO X lo tl)(g:PO X hi th):PE X (.Subscript e (.Slice lo hi Z p2) pos) (Lc r te tl th):=by
 intro AN s σ H Q I h;refine Subscript_ (jO (j AN s σ H _ I h) λv s1 ⟨x,H1,I1,r1,q1⟩=>?_);refine wpAny_Slice (jO (a AN s1 σ H1 _ I1 q1) λvl s2 ⟨l,H2,I2,pl,q2⟩=>jO (g AN s2 σ H2 _ I2 q2) λvu s3 ⟨u,H3,I3,pu,q3⟩=>?_);rw[evalPart_none];refine ze ?_;have k:AU X AN σ H3 { s3 with heap:=s3.heap.push { cls:=.type "slice",data:=.fields #[vl,vu,.none] } }:=I3.kept (t':=s3.toks) λb m q=>zd _ q;obtain⟨T,id,f,i,d⟩:=c AN { s3 with heap:=s3.heap.push { cls:=.type "slice",data:=.fields #[vl,vu,.none] } } σ H3 x v vl vu l u s3.heap.objs.size Q k r1 (Heap.IsSliceOf.new ..) pl pu q3;show A7 (d9 X) X.A (subscriptTail e (.Slice lo hi Z p2) v (.ref s3.heap.objs.size)) (EP X AN σ Q) X.xe { s3 with heap:=s3.heap.push { cls:=.type "slice",data:=.fields #[vl,vu,.none] } };exact tail_any (ops:=[.ref s3.heap.objs.size,v]) i f d (by with_unfolding_all rfl)
def JB(xs:O V)(lo hi:Y Int):O V:=(xs.drop (HT.fV xs.length 0 lo)).take (HT.fV xs.length xs.length hi-HT.fV xs.length 0 lo)
theorem zB(xs:O V)(lo hi:Y Int):(JB xs lo hi).length<=xs.length:=by
 unfold JB;rw[kK,jn];omega
def OS(K:B5):V->Y Int->Y Int->Hp->VK->Prop:=λx lo hi H Q=>∃a xs,x=.ref a/\wg K H a xs ∧
 ¬ (HT.fV xs.length 0 lo=0/\HT.fV xs.length xs.length hi=xs.length)/\∀p,H p=Z->Q (.ref p) (B7 H p (.tup (JB xs lo hi)))
theorem NU:E8 X (OS X.K):=by
 intro AN s σ H x v l j lo hi sl Q I f hs pl g h;obtain⟨a,xs,rfl,hx,i,q⟩:=h;cases f;obtain⟨AQ,r,e,d⟩:=I.tuple hx;have c:AQ.toArray.size=xs.length:=by rw[zi];exact r.length.symm
 refine⟨"tuple", _,PyProof.Rows.slot_tuple_getitem.lookup,e.typeIs,?_⟩;refine HT.wA e hs pl g (by rw[c];exact i) ?_ (by rw[c];exact d);rw[c];refine⟨.ref s.heap.objs.size,_,I.laid (t':=s.toks) (o:=.tup (JB xs lo hi)) (λb k q=>zd _ q) (zl _) ?_,rfl,q _ (I.hok.fresh (zl _))⟩;exact⟨zS (zB xs lo hi) d,_,(r.drop (HT.fV xs.length 0 lo)).take (HT.fV xs.length xs.length hi-HT.fV xs.length 0 lo),dO.new _ _⟩
def OR(K:B5):R2:=λx y H Q=>∃a b xs ys,x=.ref a/\y=.ref b/\wg K H a xs/\wg K H b ys/\xs≠[]/\xs.length+ys.length<=AA ∧
 (ys=[]->Q (.ref a) H)/\(ys≠[]->∀p,H p=Z->Q (.ref p) (B7 H p (.tup (xs++ys))))
theorem AX.Ae{xs:O V}(r:AX xs us):us=[]↔xs=[]:=by
 cases r with
 |nil=>simp
 |cons _ _=>simp
theorem WW:wz X (binaryOp .Add) (OR X.K):=by
 intro AN s σ H x y v u Q I j i h;obtain⟨a,b,xs,ys,rfl,rfl,f,g,hx,e,q1,q2⟩:=h;cases j;cases i;obtain⟨AQ,d,p1,_⟩:=I.tuple f;obtain⟨k,c,p2,_⟩:=I.tuple g;refine HT.WL p1 p2 (λz=>hx (d.Ae.mp z)) (λz=>⟨.ref a,H,I,rfl,q1 (c.Ae.mp z)⟩) (λz=>?_) (by rw[<-d.length,<-c.length];exact e);refine⟨.ref s.heap.objs.size,_,I.laid (t':=s.toks) (o:=.tup (xs++ys)) (λb l q=>zd _ q) (zl _) ?_,rfl,q2 (λw=>z (c.Ae.mpr w)) _ (I.hok.fresh (zl _))⟩;exact⟨by rw[ZA];exact e,_,d.append c,dO.new _ _⟩
end
end L2
namespace L2
def D1(n:Nat)(i:Int):Y Nat:=if 0<=i then(if i<n then U i.toNat else Z)else if -(n:Int)<=i then U (i+n).toNat else Z
def DN(xs:O α)(i:Int):Y α:=(D1 xs.length i).bind λj=>xs[j]?
theorem WX{i:Int}(h:D1 n i=U j):seqIndex? i n=U j/\j<n ∧ -(n:Int)<=i/\i<n:=by
 unfold D1 at h;by_cases h0:0<=i
 ·rw[zo h0]at h;by_cases h1:i<n
  ·rw[zo h1]at h;have e:i.toNat=j:=Q2 h;exact⟨by rw[seqIndex_of h0 h1,e],by omega,by omega,h1⟩
  ·rw[zC h1]at h;cases h
 ·rw[zC h0]at h;by_cases h1 : -(n:Int)<=i
  ·rw[zo h1]at h;have e:(i+n).toNat=j:=Q2 h;exact⟨by rw[seqIndex_neg () h1,e],by omega,h1,by omega⟩
  ·rw[zC h1]at h;cases h
theorem Hf{xs:O α}{i:Int}{v:α}(h:DN xs i=U v):∃j,seqIndex? i xs.length=U j/\xs[j]?=U v/\j<xs.length ∧ -(xs.length:Int)<=i/\i<xs.length:=by
 unfold DN at h;cases e:D1 xs.length i with
 |none=>rw[e]at h;cases h
 |some j=>
  rw[e]at h;obtain⟨h1,h2,b,a⟩:=WX e;exact⟨j,h1,h,h2,b,a⟩
def Ot(b:Expr):Prop:=∀o i,subscripted b false o i=operate [o,i] (getItem o i)
def WY(X:Cx)(r:R2):Prop:=
 ∀(value a:Expr) (AN:O (A1×AE)) (s:A2) (σ:St) (H:Hp) (x y:V) (v u:A0) (Q:VK),AU X AN σ H s->At x v->At y u->r x y H Q →
  subscripted a false v u=operate [v,u] (getItem v u)->A7 (d9 X) X.A (subscriptTail value a v u) (EP X AN σ Q) X.xe s
def Eg(X:Cx)(id:String)(r:V->O V->Hp->VK->Prop):Prop:=
 ∀(AN:O (A1×AE)) (s:A2) (σ:St) (H:Hp) (x:V) (xs:O V) (v:A0) (us:O A0) (Q:VK),AU X AN σ H s->At x v->AX xs us->r x xs H Q →
  A7 (d9 X) X.A (call (.builtin id) (v::us)) (EP X AN σ Q) X.xe s
section
variable{X:Cx}{a b:Expr}{ta tb:TE}
theorem WY.or{r a:R2}(h:WY X r)(h':WY X a):WY X (λx y H Q=>r x y H Q\/a x y H Q):=by
 intro value b AN s σ H x y v u Q I d c q hs;rcases q with q|q
 ·exact h value b AN s σ H x y v u Q I d c q hs
 ·exact h' value b AN s σ H x y v u Q I d c q hs
theorem NW{r:R2}(e:WY X r)(d:PE X a ta)(f:PE X b tb)(hs:Ot b):PE X (.Subscript a b pos) (DC r ta tb):=by
 intro AN s σ H Q I h;exact Subscript_ (EN d f I h λv u s2 x y H2 c i g q=>e a b AN s2 σ H2 x y v u Q c i g q (hs _ _))
def HE(K:B5):R2:=λx y H Q=>∃p xs i v,x=.ref p/\y=.int i/\oK K H p xs/\DN xs i=U v/\Q v H
def GV(K:B5):R2:=λx y H Q=>∃p xs i v,x=.ref p/\y=.int i/\wg K H p xs/\DN xs i=U v/\Q v H
def GH:R2:=λx y H Q=>∃z i c,x=.str z/\y=.int i/\z.length<=AA/\DN z.cps.toList i=U c/\Q (.str ⟨#[c]⟩) H
theorem W0:WY X (HE X.K):=by
 intro value A AN s σ H x y v u Q I l g h hs;obtain⟨p,xs,i,z,rfl,rfl,hq,m,q⟩:=h;cases l;obtain⟨t,rfl⟩:=g;obtain⟨AQ,r,pl,o⟩:=I.list hq;obtain⟨j,h1,h2,n,f,d⟩:=Hf m;obtain⟨w,b,k⟩:=r.get h2;have e:=r.length;have B:=yh;have c:EP X AN σ Q w s:=⟨z,H,I,k,q⟩;by_cases h0:0<=i
 ·have a:i.toNat=j:=by
   rw[seqIndex_of h0 d]at h1;exact Q2 h1
  exact item_listR pl.isList h0 () (by rw[a];simpa using b) c hs
 ·have a:(i+(AQ.toArray.size:Int)).toNat=j:=by
   rw[seqIndex_neg () f]at h1;rw[zi,<-e];exact Q2 h1
  exact subscriptTail_builtinR (x:=w) pl.isList.typeIs slot_list_getitem.lookup
   (wpAny_getItem_list_neg (Q:=λr s'=>r=w/\EP X AN σ Q r s') pl.isList () (by rw[zi]<;>omega) () (by rw[a];simpa using b) ⟨rfl,c⟩) hs
theorem HU:WY X (GV X.K):=by
 intro value o AN s σ H x y v u Q I e c h hs;obtain⟨p,xs,i,z,rfl,rfl,hq,g,q⟩:=h;cases e;obtain⟨t,rfl⟩:=c;obtain⟨AQ,r,pl,m⟩:=I.tuple hq;obtain⟨j,h1,h2,k,n,l⟩:=Hf g;obtain⟨w,b,d⟩:=r.get h2;have a:=r.length;have A:=yh;have f:EP X AN σ Q w s:=⟨z,H,I,d,q⟩;exact subscriptTail_builtinR (x:=w) pl.typeIs slot_tuple_getitem.lookup
  (getItem_tuple (j:=j) (Q:=λr s'=>r=w/\EP X AN σ Q r s') pl () () (by rw[zi,<-a];exact h1) (by simpa using b) ⟨rfl,f⟩) hs
theorem LD:WY X GH:=by
 intro value n AN s σ H x y v u Q I f e h hs;obtain⟨z,i,c,rfl,rfl,l,g,q⟩:=h;obtain⟨t,rfl⟩:=f;obtain⟨o,rfl⟩:=e;obtain⟨j,h1,h2,k,d,a⟩:=Hf g;have b:z.cps.toList.length=z.length:=by simp[Str.length]
 rw[b]at h1 d a;have m:=yh;exact tail_any (typeIs_str s z t) slot_str_getitem.lookup (getItem_str (c:=c) (by
  have e1:decide (i < -(2 ^ 63:Int))=false:=z4 ();have e2:decide (i>=2 ^ 63)=false:=z4 ();rw[e1,e2,Bool.or_false]) (by rw[h1];simpa using h2) ⟨.str ⟨#[c]⟩,H,I.tok _,⟨_,rfl⟩,q⟩) hs
def LY(K:B5):R2:=λx y H Q=>HE K x y H Q\/GV K x y H Q\/GH x y H Q
theorem KM:WY X (LY X.K):=W0.or (HU.or LD)
theorem AU.lst{σ:St}{H:Hp}{p:A1}{xs:O V}(I:AU X AN σ H s)(h:H p=U (.lst xs)):
  ∃(AQ:O A0) (n:Nat),AX xs AQ/\s.heap.get? p=U { cls:=.type "list",data:=.seq AQ.toArray n }/\xs.length<=AA:=by
 obtain⟨z,AQ,n,r,e⟩:=I.hok p _ h;exact⟨AQ,n,r,e,z⟩
theorem Hg(lo hi:Y Int)(n:Nat):(sliceBounds lo hi Z n).1=((HT.fV n 0 lo:Nat):Int)/\(sliceBounds lo hi Z n).2.1=((HT.fV n n hi:Nat):Int)/\(sliceBounds lo hi Z n).2.2=1:=by
 refine⟨?_,?_,rfl⟩
 ·cases lo with
  |none=>simp[sliceBounds,HT.fV]
  |some i=>
   simp only[sliceBounds,HT.fV,dz,show(1:Int)>0 by decide,Z3];by_cases h:i<0
   ·simp only[h,Z3]<;>omega
   ·simp only[h,ZN]<;>omega
 ·cases hi with
  |none=>simp[sliceBounds,HT.fV]
  |some i=>
   simp only[sliceBounds,HT.fV,dz,show(1:Int)>0 by decide,Z3];by_cases h:i<0
   ·simp only[h,Z3]<;>omega
   ·simp only[h,ZN]<;>omega
theorem DR(AQ:O A0)(lo hi:Y Int):slicePick AQ.toArray lo hi Z=((AQ.drop (HT.fV AQ.length 0 lo)).take (HT.fV AQ.length AQ.length hi-HT.fV AQ.length 0 lo)).toArray:=by
 obtain⟨h1,h2,a⟩:=Hg lo hi AQ.toArray.size;unfold slicePick;rw[h1,h2,a];simp only[sliceRange_one,pick_run,zi]<;>rfl
def HP(K:B5):V->Y Int->Y Int->Hp->VK->Prop:=λx lo hi H Q=>∃a xs,x=.ref a/\oK K H a xs/\∀p,H p=Z->Q (.ref p) (B7 H p (.lst (JB xs lo hi)))
theorem W4:E8 X (HP X.K):=by
 intro AN s σ H x v k i lo hi sl Q I f hs pl g h;obtain⟨a,xs,rfl,hx,q⟩:=h;cases f;obtain⟨AQ,r,c,e⟩:=I.list hx;have d:=r.length;refine⟨"list", _,slot_list_getitem.lookup,c.isList.typeIs,?_⟩;refine wpAny_getItem_list_slice c.isList hs pl g .none (by simp) ?_ (by rw[zi]<;>omega);rw[DR,<-d];refine⟨.ref s.heap.objs.size,_,I.laid (t':=s.toks) (o:=.lst (JB xs lo hi)) (λb j q=>zd _ q) (zl _) ?_,rfl,q _ (I.hok.fresh (zl _))⟩;exact⟨zS (zB xs lo hi) e,_,0,(r.drop (HT.fV xs.length 0 lo)).take (HT.fV xs.length xs.length hi-HT.fV xs.length 0 lo),zt _ rfl⟩
def qQ:V->Bool
 |.non=>true
 |.bl _=>true
 |.int _=>true
 |.str _=>true
 |_=>false
def W5:V->V->Bool
 |.non,.non=>true
 |.bl a,.bl b=>a==b
 |.bl a,.int b=>(if a then 1 else 0)==b
 |.int a,.bl b=>a==(if b then 1 else 0)
 |.int a,.int b=>a==b
 |.str a,.str b=>a==b
 |_,_=>false
theorem IY{y x:V}{v:A0}(e:At y u)(c:At x v)(fy:qQ y=true)(fx:qQ x=true):SeqAt.EqAt A s u v (W5 y x):=by
 cases y with
 |non=>
  cases e;cases x with
  |non=>cases c;exact SeqAt.EqAt.same _
  |bl b=>cases c;exact SeqAt.EqAt.none_bool b
  |int b=>obtain⟨t,rfl⟩:=c;exact SeqAt.EqAt.none_int b t
  |str b=>obtain⟨t,rfl⟩:=c;exact SeqAt.EqAt.none_str b t
  |_=>exact absurd (show false=true from fx) ZE
 |bl a=>
  cases e;cases x with
  |non=>cases c;exact SeqAt.EqAt.bool_none a
  |bl b=>cases c;exact SeqAt.EqAt.bool_bool a b
  |int b=>obtain⟨t,rfl⟩:=c;exact SeqAt.EqAt.bool_int a b t
  |str b=>obtain⟨t,rfl⟩:=c;exact SeqAt.EqAt.bool_str a b t
  |_=>exact absurd (show false=true from fx) ZE
 |int a=>
  obtain⟨d,rfl⟩:=e;cases x with
  |non=>cases c;exact SeqAt.EqAt.int_none a d
  |bl b=>cases c;exact SeqAt.EqAt.int_bool a d b
  |int b=>obtain⟨t,rfl⟩:=c;exact SeqAt.EqAt.int_int a d b t
  |str b=>obtain⟨t,rfl⟩:=c;exact SeqAt.EqAt.int_str a d b t
  |_=>exact absurd (show false=true from fx) ZE
 |str a=>
  obtain⟨d,rfl⟩:=e;cases x with
  |non=>cases c;exact SeqAt.EqAt.str_none a d
  |bl b=>cases c;exact SeqAt.EqAt.str_bool a d b
  |int b=>obtain⟨t,rfl⟩:=c;exact SeqAt.EqAt.str_int a d b t
  |str b=>obtain⟨t,rfl⟩:=c;exact SeqAt.EqAt.str_str a d b t
  |_=>exact absurd (show false=true from fx) ZE
 |_=>exact absurd (show false=true from fy) ZE
def Mj(x:V)(u:A0):Bool:=match u with
 |.none=>W5 .non x
 |.bool b=>W5 (.bl b) x
 |.int i _=>W5 (.int i) x
 |.str z _=>W5 (.str z) x
 |_=>false
theorem Te{x y:V}(r:At y u)(f:qQ y=true):Mj x u=W5 y x:=by
 cases y with
 |non=>cases r;rfl
 |bl b=>cases r;rfl
 |int i=>obtain⟨t,rfl⟩:=r;rfl
 |str z=>obtain⟨t,rfl⟩:=r;rfl
 |_=>exact absurd (show false=true from f) ZE
theorem wB{x:V}:∀{xs:O V} {us:O A0},AX xs us->xs.all qQ=true->us.any (Mj x)=xs.any λy=>W5 y x
 |_,_,.nil,_=>rfl
 |y::xs,u::us,.cons r t,f=>by
  rw[kc,qf]at f;rw[ka,ka,Te r f.1,wB t f.2]
theorem rJ{A:A5}{s:A2}{x:V}{v:A0}(b:At x v)(fx:qQ x=true):∀{xs:O V} {us:O A0},AX xs us->xs.all qQ=true->∀u∈us,SeqAt.EqAt A s u v (Mj x u)
 |_,_,.nil,_=>λu a=>by cases a
 |y::xs,u::us,.cons r t,f=>λc a=>by
  rw[kc,qf]at f;rcases List.mem_cons.mp a with rfl|a
  ·rw[Te r f.1];exact IY r b f.1 fx
  ·exact rJ b fx t f.2 c a
def ED(x:V)(xs:O V):Bool:=xs.any λy=>W5 y x
def Fk(K:B5)(a:Bool):R2:=λx y H Q=>∃p xs,y=.ref p/\(oK K H p xs\/wg K H p xs)/\qQ x=true/\xs.all qQ=true/\Q (.bl (if a then !ED x xs else ED x xs)) H
theorem QX:wz X (AG .In) (Fk X.K false):=by
 intro AN s σ H x y v u Q I b d h;obtain⟨p,xs,rfl,hq,fx,fs,q⟩:=h;cases d;rcases hq with hq|hq
 ·obtain⟨AQ,r,pl,c⟩:=I.list hq;refine SeqAt.in_listAt (Mj x) pl.isList (λw a=>rJ b fx r fs w (by simpa using a)) ⟨.bl _,H,I,rfl,?_⟩;rw[show AQ.toArray.any (Mj x)=AQ.any (Mj x) by simp,wB r fs];exact q
 ·obtain⟨AQ,r,pl,c⟩:=I.tuple hq;refine SeqAt.in_tupleAt (Mj x) pl (λw a=>rJ b fx r fs w (by simpa using a)) ⟨.bl _,H,I,rfl,?_⟩;rw[show AQ.toArray.any (Mj x)=AQ.any (Mj x) by simp,wB r fs];exact q
theorem Hh:wz X (AG .NotIn) (Fk X.K true):=by
 intro AN s σ H x y v u Q I b d h;obtain⟨p,xs,rfl,hq,fx,fs,q⟩:=h;cases d;rcases hq with hq|hq
 ·obtain⟨AQ,r,pl,c⟩:=I.list hq;refine SeqAt.notIn_listAt (Mj x) pl.isList (λw a=>rJ b fx r fs w (by simpa using a)) ⟨.bl _,H,I,rfl,?_⟩;rw[show AQ.toArray.any (Mj x)=AQ.any (Mj x) by simp,wB r fs];exact q
 ·obtain⟨AQ,r,pl,c⟩:=I.tuple hq;refine SeqAt.notIn_tupleAt (Mj x) pl (λw a=>rJ b fx r fs w (by simpa using a)) ⟨.bl _,H,I,rfl,?_⟩;rw[show AQ.toArray.any (Mj x)=AQ.any (Mj x) by simp,wB r fs];exact q
theorem Hi:wz X (AG .NotIn) (λx y H Q=>∃i j,x=.str i/\y=.str j/\Q (.bl (!(!(Builtin.Str.occurrences j i 0 j.length 1).isEmpty))) H):=by
 intro AN s σ H x y v u Q I b a h;obtain⟨i,j,rfl,rfl,q⟩:=h;obtain⟨t,rfl⟩:=b;obtain⟨c,rfl⟩:=a;exact notIn_str ⟨.bl _,H,I,rfl,q⟩
theorem Hj:fU X (.builtin "len") (λxs H Q=>∃p ys,xs=[.ref p]/\(oK X.K H p ys\/wg X.K H p ys)/\Q (.int ys.length) H):=by
 intro AN s σ H xs us Q I r h;obtain⟨p,ys,rfl,hq,q⟩:=h;obtain⟨u,rfl,d⟩:=BA r;cases d;have e:=yh;rcases hq with hq|hq
 ·obtain⟨AQ,a,pl,c⟩:=I.list hq;have b:=a.length;exact Calls.call_len_list pl.isList (by simp only[zi]<;>omega) ⟨.int ys.length,H,I.tok _,⟨s.toks+1,by rw[zi,b]⟩,q⟩
 ·obtain⟨AQ,a,pl,c⟩:=I.tuple hq;have b:=a.length;exact len_tuple pl (by simp only[zi]<;>omega) ⟨.int ys.length,H,I.tok _,⟨s.toks+1,by rw[zi,b]⟩,q⟩
theorem Hl:fU X (.builtin "len") (λxs H Q=>∃z,xs=[.str z]/\z.length<=AA/\Q (.int z.length) H):=by
 intro AN s σ H xs us Q I r h;obtain⟨z,rfl,a,q⟩:=h;obtain⟨u,rfl,t,rfl⟩:=BA r;have b:=yh;exact len_str () ⟨.int z.length,H,I.tok _,⟨_,rfl⟩,q⟩
theorem fU.or{f:A0}{r a:O V->Hp->VK->Prop}(h:fU X f r)(h':fU X f a):fU X f (λxs H Q=>r xs H Q\/a xs H Q):=by
 intro AN s σ H xs us Q I b q;rcases q with q|q
 ·exact h AN s σ H xs us Q I b q
 ·exact h' AN s σ H xs us Q I b q
theorem Ho:fU X (.type "list") (λxs H Q=>∃p ys,xs=[.ref p]/\(oK X.K H p ys\/wg X.K H p ys)/\∀l,H l=Z->Q (.ref l) (B7 H l (.lst ys))):=by
 intro AN s σ H xs us Q I r h;obtain⟨p,ys,rfl,hq,q⟩:=h;obtain⟨u,rfl,j⟩:=BA r;cases j;have g:∀(AQ:O A0),AX ys AQ->ys.length<=AA->∀(h':A6) (c':Nat),(∀b o',s.heap.get? b=U o'->h'.get? b=U o') →
   h'.get? s.heap.objs.size=U { cls:=.type "list",dict:=Z,data:=.seq AQ.toArray c',slots:=#[] }->EP X AN σ Q (.ref s.heap.objs.size) { s with heap:=h' }:=λAQ a c h' c' kp e=>
  ⟨.ref s.heap.objs.size,_,I.laid (t':=s.toks) kp (zl _) (show iB X.prog X.w _ h' _ (.lst ys) from⟨c,AQ,c',a,e⟩),rfl,q _ (I.hok.fresh (zl _))⟩
 rcases hq with hq|hq
 ·obtain⟨AQ,a,pl,c⟩:=I.list hq;have i:=a.length;obtain⟨o,d,f,n,hd⟩:=pl.isList;exact call_list_seq p (.inl S) d f hd (λh' c' kp e=>g AQ a c h' c' kp e) (by simp only[zi]<;>omega)
 ·obtain⟨AQ,a,pl,c⟩:=I.tuple hq;have i:=a.length;obtain⟨o,d,f,n,hd⟩:=pl;exact call_list_seq p (.inr S) d f hd (λh' c' kp e=>g AQ a c h' c' kp e) (by simp only[zi]<;>omega)
theorem DW:fU X (.type "tuple") (λxs H Q=>∃p ys,xs=[.ref p]/\((oK X.K H p ys/\∀l,H l=Z->Q (.ref l) (B7 H l (.tup ys)))\/(wg X.K H p ys/\Q (.ref p) H))):=by
 intro AN s σ H xs us Q I r h;obtain⟨p,ys,rfl,h⟩:=h;obtain⟨u,rfl,g⟩:=BA r;cases g;rcases h with⟨hq,q⟩|⟨hq,q⟩
 ·obtain⟨AQ,a,pl,c⟩:=I.list hq;have i:=a.length;refine call_tuple_list pl.isList (λh' kp=>?_) (by simp only[zi]<;>omega);have d:AU X AN σ H { s with heap:=h' }:=I.kept (t':=s.toks) kp;have f:AU X AN σ (B7 H h'.objs.size (.tup ys)) { s with heap:=h'.push { cls:=.type "tuple",data:=.seq AQ.toArray } }:=
   d.laid (t':=s.toks) (λb o e=>zd _ e) (zl _) (show iB X.prog X.w _ _ _ (.tup ys) from⟨c,AQ,a,dO.new _ _⟩)
  exact⟨.ref h'.objs.size,_,f,rfl,q _ (d.hok.fresh (zl _))⟩
 ·obtain⟨AQ,a,pl,c⟩:=I.tuple hq;exact call_tuple_same pl ⟨.ref p,H,I,rfl,q⟩
def Gc(K:B5)(T:String)(x:V)(H:Hp):Prop:=match x with
 |.str _=>T ="str"
 |.int _=>T ="int"
 |.ref p=>(T ="list" ∧ ∃xs,oK K H p xs)\/(T ="tuple" ∧ ∃o,K.lookup p=U o/\o.cls=.type "tuple" ∧ o.dict=Z) ∨
   (T ="dict" ∧ ((∃AO,H p=U (.dK AO))\/∃AO,H p=U (.dT AO)))\/(T ="set" ∧ ∃S n,H p=U (.set S n))
 |_=>False
theorem KP{σ:St}{H:Hp}{T:String}{x:V}{v:A0}(I:AU X AN σ H s)(r:At x v)(ty:Gc X.K T x H):
  s.TypeIs v T/\∀a,v=.ref a->∃b,s.heap.get? a=U b/\b.dict=Z:=by
 cases x with
 |str z=>
  obtain⟨t,rfl⟩:=r;cases(show T ="str" from ty);exact⟨typeIs_str s z t,λ_ e=>nomatch e⟩
 |int i=>
  obtain⟨t,rfl⟩:=r;cases(show T ="int" from ty);exact⟨typeIs_int s i t,λ_ e=>nomatch e⟩
 |ref p=>
  cases r;rcases ty with⟨rfl,xs,hq⟩|⟨rfl,o,hk,d,hd⟩|⟨rfl,hk⟩|⟨rfl,S,n,hk⟩
  ·obtain⟨AQ,_,pl,_⟩:=I.list hq;refine⟨pl.isList.typeIs,λa e=>?_⟩;cases e;obtain⟨o,n,e,c,hd,_⟩:=pl;exact⟨o,e,hd⟩
  ·refine⟨⟨o,I.Wf p o hk,d⟩,λa e=>?_⟩;cases e;exact⟨o,I.Wf _ o hk,hd⟩
  ·have z:∃o,s.heap.get? p=U o/\o.ExactDict:=by
    rcases hk with⟨AO,hk⟩|⟨AO,hk⟩
    ·obtain⟨_,_,_,_,o,_,_,e,ex,_⟩:=I.hok p _ hk;exact⟨o,e,ex⟩
    ·obtain⟨_,_,_,_,o,_,_,e,ex,_⟩:=I.hok p _ hk;exact⟨o,e,ex⟩
   obtain⟨o,e,ex⟩:=z;refine⟨⟨o,e,ex.1⟩,λa e2=>?_⟩;cases e2;exact⟨o,e,ex.2.1⟩
  ·obtain⟨o,_,_,_,e,ex,_⟩:=I.hok p _ hk;refine⟨⟨o,e,ex.1⟩,λa e2=>?_⟩;cases e2;exact⟨o,e,ex.2.1⟩
 |_=>exact False.elim ty
def Lv(K:B5)(T:String)(r:V->O V->Hp->VK->Prop)(to:TE)(t:TA):TE:=λσ H Q=>to σ H λx H1=>Gc K T x H1/\t σ H1 λxs H2=>r x xs H2 Q
variable{o:Expr}{to:TE}{t:TA}{T id:String}{r:V->O V->Hp->VK->Prop}
theorem Ou(pa:PlainAttrs T)(c:Slot T name id)(k:typeOf (.builtin id)=pure (.type "method_descriptor"))(d:Eg X id r)(g:PE X o to)(f:PA X (e::es) t)
  (i:attributeBase o name X.env (eval o X.env)=eval o X.env:=by rfl)
  (b:((AD cpos (A9 (e::es) X.env)).all (λx=>!x.1)&&(backToKw cpos (keywordEach [] X.env)).all (λx=>x.1.isSome)
   && decide ((e::es).length+([]:O AC).length+(if([]:O AC).isEmpty then 0 else 1)<30))=true:=by rfl)
  (j:(apos.endLine==cpos.line)=true:=by rfl) (hs:A9 (e::es) X.env=(false,eval e X.env)::A9 es X.env:=by rfl) (l:(AD cpos (A9 es X.env)).any (·.1)=false:=by rfl):
  PE X (.Call (.Attribute o name apos) (e::es) [] cpos) (Lv X.K T r to t):=by
 intro AN s σ H Q I h;refine wpAny_Call_method_late i b j S (jO (g AN s σ H _ I h) λv s1 ⟨x,H1,I1,r1,ty,q1⟩=>?_);obtain⟨h1,h2⟩:=KP I1 r1 ty;refine⟨T,id,pa,c,k,h1,h2,?_⟩;have a:=f cpos AN s1 σ H1 _ I1 q1;rw[hs]at a ⊢;refine Calls.callWith_builtin (by show(false||(AD cpos (A9 es X.env)).any (·.1))=false;rw[l]<;>rfl) (Calls.evalArgs_plain ?_);exact jO a λus s2 ⟨vs,H2,I2,r2,q2⟩=>d AN s2 σ H2 x vs v us Q I2 r1 r2 q2
end
end L2
namespace L2
def GM(X:Cx)(id:String)(r:V->O V->Hp->VK->Prop):Prop:=
 ∀(AN:O (A1×AE)) (s:A2) (σ:St) (H:Hp) (x:V) (xs:O V) (v:A0) (us:O A0) (Q:VK),AU X AN σ H s->At x v->AX xs us->r x xs H Q →
  A7 (d9 X) X.A (call (.builtin id) (v::us)) (EP X AN σ Q) X.xe s
theorem AX.one:∀{x:V} {us:O A0},AX [x] us->∃u,us=[u]/\At x u:=λh=>by
 cases h with
 |cons r t=>cases t;exact⟨_,rfl,r⟩
theorem AX.two:∀{x y:V} {us:O A0},AX [x,y] us->∃u v,us=[u,v]/\At x u/\At y v:=λh=>by
 cases h with
 |cons r t=>
  cases t with
  |cons q t=>cases t;exact⟨_,_,rfl,r,q⟩
theorem AX.eraseIdx:∀{xs:O V} {us:O A0} (i:Nat),AX xs us->AX (xs.eraseIdx i) (us.eraseIdx i)
 |_,_,_,.nil=>.nil
 |_,_,0,.cons _ t=>t
 |_,_,i+1,.cons r t=>.cons r (AX.eraseIdx i t)
theorem Fw{α:Type}:∀(l:O α) (i:Nat),(l.eraseIdx i).length<=l.length
 |[],_=>zl _
 |_::_,0=>ky _
 |_::r,i+1=>KA (Fw r i)
section
variable{X:Cx}{σ:St}{H:Hp}{b:A1}{xs ys zs:O V}
theorem AU.Tf{its':O A0}{f:Array A0->Array A0}{t':Nat}(I:AU X AN σ H s)(h:H l=U (.lst xs))(e:s.heap.get? l=U { cls:=.type "list",data:=.seq AQ.toArray n })(d:f AQ.toArray=its'.toArray)(b:AX ys its')(a:ys.length<=AA):
  AU X AN σ (B7 H l (.lst ys)) { s with heap:=s.heap.update l (Obj.mapSeq f),toks:=t' }:=by
 have q:=PySem.IsL.update e f;rw[d]at q;refine I.write (x:=l) (e:=l) (by rw[h];exact trivial) (.inl S) (λi u c g=>(ZI s.heap (Obj.mapSeq f) (j0 c)).trans g) ⟨_,q⟩ ?_;exact⟨a,its',_,b,q⟩
theorem AU.zV(I:AU X AN σ H s)(a:H l=U (.lst xs)):xs.length<=AA/\∃(AQ:O A0) (n:Nat),AX xs AQ/\xs.length=AQ.length/\s.heap.get? l=U { cls:=.type "list",data:=.seq AQ.toArray n }:=by
 obtain⟨z,AQ,n,r,e⟩:=I.hok l _ a;exact⟨z,AQ,n,r,r.length,e⟩
end
section
variable{X:Cx}
def W6:V->O V->Hp->VK->Prop:=λx vs H Q=>∃l xs y,x=.ref l/\vs=[y]/\H l=U (.lst xs)/\xs.length<AA/\Q .non (B7 H l (.lst (xs++[y])))
theorem Fy:GM X "list.append" W6:=by
 intro AN s σ H x vs v us Q I c b h;obtain⟨l,xs,y,rfl,rfl,a,f,q⟩:=h;cases c;obtain⟨u,rfl,d⟩:=b.one;obtain⟨z,AQ,n,r,g,e⟩:=I.zV a;refine call_meets F.slot_list_append ⟨_,e,rfl⟩ F.entry_list_append (F.args_list_append_2 _ _) (PySem.list_append l AQ.toArray n u (by rw[zi];omega)) ⟨e,?_⟩;refine⟨.non,_,I.Tf (its':=AQ++[u]) a e (by simp) (r.append (.cons d .nil)) ?_,rfl,q⟩;rw[ZA,aT];omega
def L4:V->O V->Hp->VK->Prop:=λx vs H Q=>∃l xs i k y,x=.ref l/\vs=[.int i]/\H l=U (.lst xs) ∧ -(2 ^ 63)<=i/\i<2 ^ 63/\seqIndex? i xs.length=U k/\xs[k]?=U y/\Q y (B7 H l (.lst (xs.eraseIdx k)))
theorem Tg:GM X "list.pop" L4:=by
 intro AN s σ H x vs v us Q I g c h;obtain⟨l,xs,i,k,y,rfl,rfl,a,h1,h2,hk,b,q⟩:=h;cases g;obtain⟨u,rfl,m⟩:=c.one;obtain⟨t,rfl⟩:=m;obtain⟨z,AQ,n,r,d,e⟩:=I.zV a;obtain⟨w,j,f⟩:=r.get b;refine call_meets F.slot_list_pop ⟨_,e,rfl⟩ F.entry_list_pop (F.args_list_pop_2 _ _)
  (MeetsSeq.list_pop_at l AQ.toArray n i t k w (fitsIndex_both h1 h2) (by rw[zi,<-d];exact hk) (by rw[<-Array.getElem?_toList];exact j) (by rw[zi];omega)) ⟨e,?_⟩
 refine⟨y,_,I.Tf (its':=AQ.eraseIdx k) a e ?_ (r.eraseIdx k) ?_,f,q⟩
 ·show AQ.toArray.eraseIdxIfInBounds k=(AQ.eraseIdx k).toArray;rw[List.eraseIdxIfInBounds_toArray]
 ·have:=Fw xs k;omega
end
section
variable{X:Cx}
end
end L2
namespace L2
section
variable [DecidableEq κ]
def DX(AO:O (κ×V))(k:κ):Y V:=(AO.find? λa=>decide (a.1=k)).map (·.2)
def BT(AO:O (κ×V))(k:κ)(v:V):O (κ×V):=
 if(AO.any λa=>decide (a.1=k))=true then AO.map (λa=>if a.1=k then(a.1,v)else a)else AO++[(k,v)]
theorem Bb{p:κ×V}{r:O (κ×V)}{k:κ}(e:p.1=k):DX (p::r) k=U p.2:=by simp[DX,qV,e]
theorem Bc{p:κ×V}{r:O (κ×V)}{k:κ}(e:¬ p.1=k):DX (p::r) k=DX r k:=by simp[DX,qV,e]
theorem JC(AO:O (κ×V))(k:κ)(v:V):(BT AO k v).length<=AO.length+1:=by
 unfold BT;split
 ·rw[zk];omega
 ·rw[ZA,js,cr];omega
theorem KV.val{AO:O (κ×V)}{vs:O (κ×A0)}(r:KV AO vs)(k:κ):Jv (DX AO k) (valueAt vs k):=by
 unfold KV at r
 induction r with
 |nil=>exact True.intro
 |@cons p q ps a h t c=>
  obtain⟨h1,h2⟩:=h;by_cases e:p.1=k
  ·have e':q.1=k:=h1.symm.trans e;have b:valueAt (q::a) k=U q.2:=by simp[valueAt,qV,e']
   rw[Bb e,b];exact h2
  ·have e':¬ q.1=k:=λz=>e (h1.trans z);have b:valueAt (q::a) k=valueAt a k:=by simp[valueAt,qV,e']
   rw[Bc e,b];exact c
theorem KV.any{AO:O (κ×V)}{vs:O (κ×A0)}(r:KV AO vs)(k:κ):(AO.any λa=>decide (a.1=k))=vs.any λa=>decide (a.1=k):=by
 unfold KV at r
 induction r with
 |nil=>rfl
 |cons h t b=>rw[ka,ka,b,h.1]
theorem KV.repl{AO:O (κ×V)}{vs:O (κ×A0)}(r:KV AO vs)(k:κ){y:V}(c:At y u):
  KV (AO.map λa=>if a.1=k then(a.1,y)else a) (vs.map λa=>if a.1=k then(a.1,u)else a):=by
 unfold KV at r ⊢
 induction r with
 |nil=>exact .nil
 |@cons p q ps d h t b=>
  rw[zr,zr];refine .cons ?_ b;obtain⟨h1,h2⟩:=h;by_cases e:p.1=k
  ·rw[zo e,zo (h1.symm.trans e)];exact⟨h1,c⟩
  ·rw[zC e,zC (λz=>e (h1.trans z))];exact⟨h1,h2⟩
theorem KV.put{AO:O (κ×V)}{vs:O (κ×A0)}(r:KV AO vs)(k:κ){y:V}(a:At y u):KV (BT AO k y) (stored vs k u):=by
 unfold BT stored;rw[r.any k];by_cases e:(vs.any λb=>decide (b.1=k))=true
 ·rw[zo e,zo e];exact r.repl k a
 ·rw[zC e,zC e];exact Paired.snoc r ⟨rfl,a⟩
end
theorem Ov{k:AY}(r:At (kV k) u):(dJ P w).is k u=true:=by
 cases k with
 |inl i=>obtain⟨t,e⟩:=(show ∃t,u=Value.int i t from r);subst e;exact Jt P w i t
 |inr x=>obtain⟨t,e⟩:=(show ∃t,u=Value.str x t from r);subst e;exact Ju P w x t
theorem Fz{P:A3}{w:A4}:∀{ks:O AY} {us:O A0},AX (ks.map kV) us->ItemsAre (dJ P w) ks us
 |[],_,r=>by rw[cf]at r;cases r;exact .nil
 |k::ks,_,r=>by
  rw[zr]at r;cases r with
  |cons h t=>exact .cons (Ov h) (Fz t)
abbrev KT(H:Hp):O (O AY×V)->O (O AY×A1×A0)->Prop:=AI λp q=>p.1=q.1/\H q.2.1=U (.tup (p.1.map kV))/\At p.2 q.2.2
theorem KT.val{H:Hp}{AO:O (O AY×V)}{xs:O (O AY×A1×A0)}(r:KT H AO xs)(k:O AY):Jv (DX AO k) ((atKey xs k).map (·.2)):=by
 induction r with
 |nil=>exact True.intro
 |@cons p q ps a h t c=>
  obtain⟨h1,_,h2⟩:=h;by_cases e:p.1=k
  ·have e':q.1=k:=h1.symm.trans e;have b:atKey (q::a) k=U q.2:=by simp[atKey,qV,e']
   rw[Bb e,b];exact h2
  ·have e':¬ q.1=k:=λz=>e (h1.trans z);have b:atKey (q::a) k=atKey a k:=by simp[atKey,qV,e']
   rw[Bc e,b];exact c
section
variable{H:Hp}
theorem Zd{u:HO}(ok:yc P w H h)(e:Rd H a u):iB P w H h a u:=e.ok ok
theorem zF{AO:O (AY×V)}(ok:yc P w H h)(e:Rd H a (.dK AO)):AO.length<=AA/\(a==sysModules)=false/\∃vs,KV AO vs/\h.DictOf (dJ P w) a vs:=
 show iB P w H h a (.dK AO) from Zd ok e
theorem Ti{ks:O AY}(ok:yc P w H h)(e:H a=U (.tup (ks.map kV))):(tupleKind (dJ P w)).is h ks a:=by
 obtain⟨_,AQ,r,o,h1,h2,⟨n,b⟩,_⟩:=(show iB P w H h a (.tup (ks.map kV)) from ok a _ e);exact⟨o,AQ.toArray,n,h1,h2,b,by simpa using Fz r⟩
theorem Ze{AO:O (O AY×V)}(ok:yc P w H h)(e:Rd H a (.dT AO)):AO.length<=AA/\(a==sysModules)=false ∧
  ∃xs,KT H AO xs/\h.DictOfH (tupleKind (dJ P w)) a xs:=by
 obtain⟨z,y,xs,r,o,es,ep,h1,h2,b,d,c⟩:=(show iB P w H h a (.dT AO) from Zd ok e);refine⟨z,y,xs,r,o,es,ep,h1,h2,b,d,λx hx=>?_,c⟩;have all:∀{l:O (O AY×V)} {m:O (O AY×A1×A0)},KT H l m->∀x∈m,(tupleKind (dJ P w)).is h x.1 x.2.1:=by
  intro l m q
  induction q with
  |nil=>intro x hx;exact nomatch hx
  |@cons p q ps g hq t f=>
   intro x hx;rcases List.mem_cons.mp hx with e|hx
   ·subst e;exact Ti ok (by rw[<-hq.1];exact hq.2.1)
   ·exact f x hx
 exact all r x hx
end
def FK(H:Hp)(a:A1)(y:V)(r:Y V):Prop:=
 (∃AO k,Rd H a (.dK AO)/\y=kV k/\r=DX AO k)\/∃AO k b,Rd H a (.dT AO)/\y=.ref b/\H b=U (.tup (k.map kV))/\r=DX AO k
section
variable{X:Cx}{σ:St}{H:Hp}{y v:V}{r:A0}{o:Y V}
theorem AU.big(I:AU X AN σ H s):sysModules<s.heap.objs.size:=by
 have h:mainGlobals<s.heap.objs.size:=(I.mod.glob.keeps I.bk).lt;exact ci () h
theorem QZ(t:A.units+1<cLine)(I:AU X AN σ H s)(g:FK H a y (U v))(n:At y u)(h:∀c s',AU X AN σ H s'->At v c->Q c s'):
  A7 (d9 X) A (getItem (.ref a) u) Q E s:=by
 rcases g with⟨AO,k,e,i,l⟩|⟨AO,k,b,e,i,eb,l⟩
 ·subst i;obtain⟨z,hd,vs,m,d⟩:=zF I.hok e;obtain⟨c,j,f⟩:=Jv.some_of (v:=v) (o:=valueAt vs k) (by rw[l];exact m.val k);exact wpAny_getItem_of (Ov n) d.mapOf j (h c _ (I.tok _) f)
 ·subst i;cases(show u=Value.ref b from n);obtain⟨z,hd,xs,m,d⟩:=Ze I.hok e;obtain⟨c,j,f⟩:=Jv.some_of (v:=v) (o:=(atKey xs k).map (·.2)) (by rw[l];exact m.val k);obtain⟨p,hp,q⟩:=aw.mp j;refine wpAny_getItem_heap (tupleKind_room_in1 t) (Ti I.hok eb) d hp ?_;rw[q];exact h c _ (I.tok _) f
end
section
variable{X:Cx}{σ:St}{H:Hp}{AO:O (AY×V)}{k:AY}
end
def Tj(i:Expr):Prop:=∀a iv,subscripted i false a iv=operate [a,iv] (getItem a iv)
theorem Ow{value a:Expr}{T id:String}(j:typeLookup (.type T) "__getitem__"=pure (U (.builtin id)))(hs:Tj a)(h:A7 (A8 prog w) A (eval value env) (λo g=>A7 (A8 prog w) A (eval a env) (λi b=>b.TypeIs o T/\A7 (A8 prog w) A (getItem o i) Q E b) E g) E s):
  A7 (A8 prog w) A (eval (.Subscript value a pos) env) Q E s:=by
 refine Subscript_ (qa h (λo g k=>qa k (λi b d=>?_) λ_ _ x=>x) λ_ _ x=>x);obtain⟨f,d⟩:=d;unfold subscriptTail;refine zb ?_;rw[getitemInPython_of_ne f.not_modules];refine zb (wpAny_specialOf f j ?_);have c:A7 (A8 prog w) A (subscripted a false o i) (λr e=>A7 (A8 prog w) A (letTemporaryGo value o r >>= λ_=>pure r) Q E e) E b:=by
  rw[hs o i];exact wpAny_operating (qa d (λr e l=>zb (wpAny_letTemporaryGo (ze l))) λ_ _ x=>x)
 first
  |exact ze (zb c)
  |exact zb (ze (zb c))
  |exact zb c
theorem JD{X:Cx}{σ:St}{H:Hp}{y:V}{o:Y V}(I:AU X AN σ H s)(g:FK H a y o):s.TypeIs (.ref a) "dict":=by
 rcases g with⟨AO,k,e,_,_⟩|⟨AO,k,b,e,_,_,_⟩
 ·obtain⟨_,_,vs,_,c⟩:=zF I.hok e;exact c.typeIs
 ·obtain⟨_,_,xs,_,c⟩:=Ze I.hok e;exact c.typeIs
def IZ(td ty:TE):TE:=λσ H Q=>td σ H λx H1=>ty σ H1 λy H2=>∃a v,x=.ref a/\FK H2 a y (U v)/\Q v H2
section
variable{X:Cx}{o i value:Expr}{pos':Pos}{td ty tv:TE}
theorem W7(d:X.A.units+1<cLine)(b:PE X o td)(hi:PE X i ty)(hs:Tj i):PE X (.Subscript o i pos) (IZ td ty):=by
 intro AN s σ H Q I h;refine Ow PySem.F.slot_dict_getitem.lookup hs (jO (b AN s σ H _ I h) λu s1 ⟨x,H1,I1,rx,q1⟩=>jO (hi AN s1 σ H1 _ I1 q1) λiv s2 ⟨y,H2,I2,ry,a,v,ex,g,q2⟩=>?_);subst ex;obtain rfl:u=Value.ref a:=rx;exact⟨JD I2 g,QZ d I2 g ry λf s3 e c=>⟨v,H2,e,c,q2⟩⟩
end
section
variable{X:Cx}
end
def yp(AO b:O (AY×V)):O (AY×V):=b.foldl (λc a=>BT c a.1 a.2) AO
theorem KV.merge:∀{a:O (AY×V)} {rs:O (AY×A0)} {AO:O (AY×V)} {vs:O (AY×A0)},KV a rs->KV AO vs->KV (yp AO a) (merged vs rs):=by
 intro a rs AO vs r;unfold KV at r
 induction r generalizing AO vs with
 |nil=>intro q;exact q
 |@cons p q ps d h t b=>
  intro c;have e:KV (BT AO p.1 p.2) (stored vs q.1 q.2):=by
   have:=c.put p.1 h.2;rw[<-h.1];exact this
  exact b e
theorem uN:∀(a AO:O (AY×V)),(yp AO a).length<=AO.length+a.length
 |[],AO=>by show AO.length<=AO.length+0;omega
 |p::r,AO=>by
  have h1:=uN r (BT AO p.1 p.2);have h2:=JC AO p.1 p.2;show(yp (BT AO p.1 p.2) r).length<=_;rw[js];omega
structure M1 (X:Cx) (o:Expr) (m:Str) (apos:Pos) (e:Expr) (cpos:Pos):Prop where
 base:attributeBase o m X.env (eval o X.env)=eval o X.env
 few:((backTo cpos (starEach [e] X.env)).all (λx=>!x.1)&&(backToKw cpos (keywordEach [] X.env)).all (λx=>x.1.isSome)
  && decide (([e]:List Expr).length+([]:List Keyword).length+(if([]:List Keyword).isEmpty then 0 else 1)<30))=true
 line:(apos.endLine==cpos.line)=true
 trees:backTo cpos (starEach [e] X.env)=[(false,eval e X.env)]
structure M2 (X:Cx) (o:Expr) (m:Str) (apos:Pos) (e f:Expr) (cpos:Pos):Prop where
 base:attributeBase o m X.env (eval o X.env)=eval o X.env
 few:((backTo cpos (starEach [e,f] X.env)).all (λx=>!x.1)&&(backToKw cpos (keywordEach [] X.env)).all (λx=>x.1.isSome)
  && decide (([e,f]:List Expr).length+([]:List Keyword).length+(if([]:List Keyword).isEmpty then 0 else 1)<30))=true
 line:(apos.endLine==cpos.line)=true
 trees:backTo cpos (starEach [e,f] X.env)=[(false,eval e X.env),(false,eval f X.env)]
section
variable{X:Cx}{σ:St}{H:Hp}{y d:V}{r:A0}{o:Y V}
end
section
variable{X:Cx}{o f:Expr}{td ty tx:TE}
end
section
variable{X:Cx}{σ:St}{H:Hp}{AO:O (AY×V)}
end
section
variable{X:Cx}{σ:St}{H:Hp}{y:V}
end
end L2
namespace Att
open PySem PySem.W PySem.Calls PyProof.Rows
theorem zW{P:Params}:∀(c:O Int) (vs:O A0),WellAll P h vs (c.map WData.int)->IntsAre vs c:=by
 intro c
 induction c with
 |nil=>
  intro vs w;rw[cf]at w;cases w;exact .nil
 |cons n c d=>
  intro vs w;rw[zr]at w;cases w with
  |cons a b=>
   cases a;exact .cons _ _ (d _ b)
theorem Q0{l:OpenLaw}(u:l.most=U n){P:Params}{args:O WData}{f:O A0}(i:l.row.toRowW.claim.pre args=true)(m:WellAll P h f args):
  ∃a vs b,f=[Value.ref a]/\args=[WData.list (b.map WData.int)]/\h.get? a=U { cls:=.type "list",data:=.seq vs.toArray }/\IntsAre vs b/\b.length<=n:=by
 have t:WShape.hasAll [] args [.list .int]=true:=(pre_splitW i).1;have g:l.pre.holds [] { args:=args }=true:=(pre_splitW i).2;obtain⟨d,r,rfl,h1,h2⟩:=hasAllW_cons t;obtain rfl:=hasAllW_nil h2;obtain⟨xs,rfl,k⟩:=hasW_list h1;obtain⟨b,rfl⟩:=items_int k;have j:b.length<=n:=by
  unfold OpenLaw.pre at g;have e:(WTm.not (.lt (.lit (.int (n:Int))) (.len (.arg 0)))).holds [] { args:=[.list (b.map .int)] }=true:=by
   have e:=(holds_andW g).1;rw[u]at e;exact e
  have c:=condW_of e (w_not (w_lt w_lit (w_len_list (w_arg S))));rw[zk]at c;refine Nat.le_of_not_lt λq=>?_;have o:(n:Int)<((b.length:Nat):Int):=by omega
  first
   |(rw[Zl o]at c;exact absurd c ())
   |(simp at c;omega)
 cases m with
 |cons v p=>
  cases p;cases v with
  |list s w=>exact⟨_,_,b,rfl,rfl,s,zW b _ w,j⟩
theorem Q5(l:OpenLaw)(args:O WData):l.row.toRowW.claim.post args (.bool true) args=true:=
 postW_of (r:=l.row.toRowW) (X:=(true==true))
  (show WShape.has [] (.bool true) .bool=true by first|rfl|decide|simp[WShape.has,WShape.arms,WShape.armsAll])
  (show(WTm.eq .res (.lit (.bool true))).value [] { args:=args,res:=U (.bool true),after:=args }=U (.bool (true==true)) from w_eq_bool (w_res S) w_lit) rfl
theorem JF{l:OpenLaw}{q:A3}{loose:AZ}{d:DefRec}(y:l.most=U n)(v:d.params.defaults=[])(call:∀(w:A4) (g b:A2) (mg h:AJ->Option A0) (fa:A1) (o:AE) (pm e i:A0) (a:A1) (vs:O A0) (c:O Int),
   Ground q loose [] XP w g mg h b.heap->YP w b.heap →
   b.heap.get? fa=U o->o.data=.func (docDef d.name d.params d.body d.scope pm e i)->b.heap.CodeRec e d.name->mg d.name=U (.ref fa) →
   b.heap.get? a=U { cls:=.type "list",data:=.seq vs.toArray }->IntsAre vs c->c.length<=n->b.gens=#[] →
   AF (A8 l.prog w) callerA (.call (.ref fa) ⟨[.ref a],[]⟩) (λr s'=>r=.ok (.ret (.bool true))/\OldK b.heap s'.heap/\s'.os=b.os/\AllBare s'.gens) b):
  WalkO q loose XP YP l.row.toRowW d [] (λf vs=>PySem.call f vs):=by
 intro w g b mg h G Y fa o pm e i u kV s hd E j t z J F as p K I D H;obtain rfl:u=.none:=Dflts.none j v;obtain rfl:kV=.none:=Dflts.noKw j;obtain⟨a,vs,c,rfl,rfl,A,C,B⟩:=Q0 y p D;refine enter_call (codeAny_mono (call w g b mg h fa o pm e i a vs c G Y s (fd_plain hd) E t A C B z) λr s' hq=>?_);obtain⟨rfl,h2,k,m⟩:=hq;exact⟨.inl ⟨.bool true,.bool true,[],rfl,λ_=>S,.bool true,Q5 l _,λ_=>⟨List.Pairwise.nil,λ_ x=>(nomatch x)⟩⟩,h2,k,m⟩
section
variable{K:Frag}
end
end Att
namespace L2
theorem tX:∀{vs:O A0} {a:O Int},IntsAre vs a->AX (a.map V.int) vs
 |_,_,.nil=>.nil
 |_,_,.cons n t h=>.cons ⟨t,rfl⟩ (tX h)
def CU(H:Hp):Prop:=∀b,H b=Z\/(∃o xs,H b=U (.rA o (.lst xs)))\/∃ps,H b=U (.G5 ps)
structure Tn (K:B5) (h:Heap) (TL:List (Addr×Array Value)):Prop where
 all:∀P q,Z4 K P q->∃ps,TL.lookup P=some ps/\tq ps=q/\0<ps.size
 ok:∀P ps,TL.lookup P=some ps->K.lookup P=none/\h.get? P=some { cls:=.none,data:=.fields #[] }/\isCodeTable h P/\tr ps=#[]
theorem Tp{G:AJ->Y A0}{CX:R7}{fa:A1}{sp:Sp}{c:A2}{vs:O A0}{A:O Int}{f:O (A1×Array A0)}(KX:K.In c.heap)(Q:c.heap.Ns mainGlobals mg)(i:c.heap.Ns builtinsNs G)(a6:∀x:AJ,x ≠ "__name__" → G x=AH x)(a7:c.heap.NoLimit)(a4:∃j p,mg "__builtins__"=U (.ref j)/\j≠builtinsNs/\c.heap.get? j=U p/\p.cls=.type "module" ∧ p.dict=U builtinsNs/\p.data=.plain)(hg:c.gens=#[])(t:c.heap.get? a=U { cls:=.type "list",data:=.seq vs.toArray })(hi:IntsAre vs A)(I:A.length<=AA)(hr:jt k callerA)(F:∀base:A6,K.In base->base.Ns mainGlobals mg->rH P w K mg base CX k fa fd [x] sp)(a2:∀(s:A2) (u:A0),BindsTo s fd ⟨[u],[]⟩ [(x,u)])(b0:∀H:Hp,CU H->oK K H a (A.map V.int)->sp [.ref a] H (λv _=>v=.bl true) λ_ _ _=>False)(a8:∀H e s',CX [] H c (λ_ _ _=>False) e s'->False)(T:Tn K c.heap f):
  AF (A8 P w) callerA (.call (.ref fa) ⟨[.ref a],[]⟩) (λr s'=>r=.ok (.ret (.bool true))/\OldK c.heap s'.heap/\s'.os=c.os/\AllBare s'.gens) c:=by
 have rv:=tX hi;have a3:=hi.length;have N:f.lookup a=Z:=by
  cases e:f.lookup a with
  |none=>rfl
  |some ps=>
   have q:=(T.ok a ps e).2.1;rw[t]at q;cases q
 have tok:∀(H:Hp) (b:A1) (ps:Array A0),f.lookup b=U ps->iB P w H c.heap b (.G5 ps):=λH b ps e=>by
  obtain⟨_,g,_,z⟩:=T.ok b ps e;refine⟨#[],by rw[z];exact g,?_,λpos cv q=>?_⟩
  ·rw[z];simp[TriplesOk]
  ·rw[z]at q;cases q
 have L:∀H:Hp,CU H->oK K H a (A.map V.int)->yc P w H c.heap->(∀b,H b≠Z->b=a\/∃ps,f.lookup b=U ps)->(∀b ps,f.lookup b=U ps->H b=U (.G5 ps))->(H a≠Z->K.lookup a=Z) →
   AF (A8 P w) callerA (.call (.ref fa) ⟨[.ref a],[]⟩) (λr s'=>r=.ok (.ret (.bool true))/\OldK c.heap s'.heap/\s'.os=c.os/\AllBare s'.gens) c:=by
  intro H M hS D C a5 hK;have E:∀{b:A1} {o:AE},c.heap.get? b=U o->H b=Z->(G6 c.heap H).get? b=U o:=λe n=>Sv e n;have WK:∀{b:A1} {o:AE} {es:Array DictEntry} {ep:Nat},c.heap.get? b=U o->o.data=.dict es ep->H b=Z:=λ{b o es ep} e d=>by
   cases q:H b with
   |none=>rfl
   |some u=>
    rcases C b (by rw[q];simp)with e'|⟨ps,e'⟩
    ·subst e';rw[t]at e;cases e;have d':Data.seq vs.toArray _=Data.dict es ep:=d;cases d'
    ·rw[(T.ok b ps e').2.1]at e;cases e;cases d
  have B:∀{b:A1} {m:AJ->Y A0},c.heap.Ns b m->(G6 c.heap H).Ns b m:=λ{b m} ⟨o,es,ep,e,d,r⟩=>⟨o,es,ep,E e (WK e d),d,r⟩;have J:K.In (G6 c.heap H):=λb o e=>E (KX b o e) (by
   cases q:H b with
   |none=>rfl
   |some u=>
    rcases C b (by rw[q];simp)with e'|⟨ps,e'⟩
    ·subst e';rw[hK (by rw[q];simp)]at e;cases e
    ·rw[(T.ok b ps e').1]at e;cases e)
  have hM:Mod K mg (G6 c.heap H):=⟨J,B Q,⟨G,B i,a6⟩,let ⟨mc,h1,h2⟩:=a7;⟨mc,B h1,h2⟩,let ⟨j,p,b1,b2,b3,b4,b5,b6⟩:=a4;⟨j,p,b1,b2,E b3 (by
   cases q:H j with
   |none=>rfl
   |some u=>
    rcases C j (by rw[q];simp)with e'|⟨ps,e'⟩
    ·subst e';rw[t]at b3;cases b3;injection b4 with z;exact absurd z ()
    ·rw[(T.ok j ps e').2.1]at b3;cases b3;cases b4),b4,b5,b6⟩⟩
  have e0:Wz P w K mg (G6 c.heap H) callerA [] c H:=⟨rfl,hM,λb o e=>Wk e,Nat.le_of_eq (QF _ _),trivial,λb i=>absurd (show b∈([]:O A1) from i) (by simp),D,.of_eq hg,λP q k=>by
   obtain⟨ps,l,r⟩:=T.all P q k;exact⟨ps,a5 P ps l,r⟩⟩
  refine codeAny_mono ((F _ J (B Q)).run callerA [] c H ⟨[.ref a],[]⟩ [.ref a] [.ref a] _ _ hr e0 (a2 c (.ref a)) (.cons S .nil) (b0 H M hS)) λr s' h=>?_;cases r with
  |error e=>exact(a8 H e s' h).elim
  |ok fl=>
   cases fl with
   |next=>exact False.elim h
   |brk=>exact False.elim h
   |cont=>exact False.elim h
   |ret u=>
    obtain⟨v,H',os,a9,un,a0,r',q⟩:=h;have q':v=.bl true:=q;subst q';obtain rfl:u=Value.bool true:=r';have W:∀b o,c.heap.get? b=U o->s'.heap.get? b=U o\/(isCodeTable c.heap b/\o.cls=.none/\∃vs X,o.data=.fields vs/\s'.heap.get? b=U { o with data:=.fields (vs++X) }):=λb o e=>by
     cases q:H b with
     |none=>exact .inl (un.keep b o e q (by intro z;exact absurd (show b∈([]:O A1) from z) (by simp)) (by simp))
     |some u=>
      rcases M b with z|⟨p,xs,z⟩|⟨ps,z⟩
      ·rw[q]at z;cases z
      ·have z2:=un.DP b p _ z;obtain⟨e1,_⟩:=D b _ z;obtain⟨e2,_⟩:=a0 b _ z2;rw[e]at e1;cases e1;exact .inl e2
      ·rcases C b (by rw[q];simp)with e'|⟨a1,e'⟩
       ·subst e';obtain⟨X,g,_⟩:=D b _ z;rw[t]at g;cases g
       ·obtain⟨_,g,ct,_⟩:=T.ok b a1 e';rw[e]at g;cases g;obtain⟨m1,z2⟩:=un.wj b ps z;obtain⟨m2,g2,_⟩:=a0 b _ z2;exact .inr ⟨ct,rfl,#[],_,rfl,by rw[g2,Array.empty_append]⟩
    refine⟨rfl,⟨λb o e=>(W b o e).imp id .inl,λb o e=>?_⟩,os,a9⟩;rcases W b o e with z|⟨_,_,_,_,_,z⟩<;>exact⟨_,z⟩
 cases hk:K.lookup a with
 |some o=>
  have e:=KX a o hk;rw[t]at e;cases e;refine L (λb=>(f.lookup b).map .G5) (λb=>?_) (.inr ⟨_,vs.toArray,_,hk,rfl,rfl,rfl,by rw[zi,a3];exact I,by simpa using rv⟩) (λb u z=>?_) (λb z=>?_) (λb ps e=>by show(f.lookup b).map _=_;rw[e];rfl) λz=>absurd (by show(f.lookup a).map _=Z;rw[N];rfl) z
  ·cases e:f.lookup b with
   |none=>exact .inl (by show(f.lookup b).map HO.G5=Z;rw[e];rfl)
   |some ps=>exact .inr (.inr ⟨ps,by show(f.lookup b).map HO.G5=_;rw[e];rfl⟩)
  ·have z:(f.lookup b).map HO.G5=U u:=z;cases e:f.lookup b with
   |none=>rw[e]at z;cases z
   |some ps=>rw[e]at z;cases z;exact tok _ b ps e
  ·cases e:f.lookup b with
   |none=>exact absurd (by show(f.lookup b).map HO.G5=Z;rw[e];rfl) z
   |some ps=>exact .inr ⟨ps,rfl⟩
 |none=>
  refine L (λb=>if b=a then U (.rA { cls:=.type "list",data:=.seq vs.toArray } (.lst (A.map V.int)))else(f.lookup b).map .G5) (λb=>?_) (.inl (.inr ⟨{ cls:=.type "list",data:=.seq vs.toArray },zo rfl⟩)) (λb u z=>?_) (λb z=>?_) (λb ps e=>?_) λ_=>hk
  ·by_cases i:b=a
   ·exact .inr (.inl ⟨_,_,zo i⟩)
   ·cases e:f.lookup b with
    |none=>exact .inl ((zC i).trans (by rw[e];rfl))
    |some ps=>exact .inr (.inr ⟨ps,(zC i).trans (by rw[e];rfl)⟩)
  ·by_cases i:b=a
   ·have y:=(zo i).symm.trans z;cases y;subst i;exact⟨t,by rw[zk];exact I,vs,_,rv,t⟩
   ·have y:=(zC i).symm.trans z;cases e:f.lookup b with
    |none=>rw[e]at y;cases y
    |some ps=>rw[e]at y;cases y;exact tok _ b ps e
  ·by_cases i:b=a
   ·exact .inl i
   ·cases e:f.lookup b with
    |none=>exact absurd ((zC i).trans (by rw[e];rfl)) z
    |some ps=>exact .inr ⟨ps,rfl⟩
  ·have i:b≠a:=λz=>by rw[z,N]at e;cases e
   exact(zC i).trans (by rw[e];rfl)
end L2
namespace L2
theorem W8{l:PySem.W.OpenLaw}{q:A3}{loose:AZ}{d:DefRec}{K:Params->B5}{CX:A4->R7}{sp:A4->Sp}(L:l.most=U n)(D:n<=AA)(J:d.params.defaults=[])(t:jt k callerA)(z:∀(w:A4) (h:A6),YP w h->(K w.params).In h)(F:∀(w:A4) (mg:AJ->Option A0) (fa:A1) (h:A6),(K w.params).In h->h.Ns mainGlobals mg->mg d.name=U (.ref fa) →
   ∃fd:FuncData,(∀(s:A2) (u:A0),BindsTo s fd ⟨[u],[]⟩ [(x,u)]) ∧
    ∀base:A6,(K w.params).In base->base.Ns mainGlobals mg->rH l.prog w (K w.params) mg base (CX w) k fa fd [x] (sp w))(a0:∀(w:A4) (H:Hp) (a:A1) (c:O Int),c.length<=n->CU H->oK (K w.params) H a (c.map V.int)->sp w [.ref a] H (λv _=>v=.bl true) λ_ _ _=>False)(P:∀(w:A4) (H:Hp) (s:A2) (e:A0) (s':A2),CX w [] H s (λ_ _ _=>False) e s'->False)(C:∀(w:A4) (h:A6) (mg p:AJ->Option A0) (a1:ExcName->Option A0) (ls:AZ),(K w.params).In h->Top q ls a1 mg p h->∃m,Tn (K w.params) h m):
  PySem.W.WalkO q loose XP YP l.row.toRowW d [] (λf vs=>PySem.call f vs):=by
 refine Att.JF L J λw a2 Q mg p fa o pm cd a4 a vs c G Y ho hd a3 I N X j M=>?_;have i:=z w _ Y;obtain⟨fd,B,y⟩:=F w mg fa _ i G.T.g I;obtain⟨m,tl⟩:=C w _ _ _ _ _ i G.T;exact Tp i G.T.g G.T.b G.T.builtins G.T.nolimit G.T.bmain M N X (zS j D) t y B (λH A E=>a0 w H a c j A E) (λH e s'=>P w H Q e s') tl
theorem Tq{l:PySem.W.OpenLaw}{q:A3}{loose:AZ}{d:DefRec}{K:Params->B5}{CX:R7}{sp:B5->Sp}(o:l.most=U n)(z:n<=AA)(i:d.params.defaults=[])(j:jt k callerA)(A:∀(w:A4) (h:A6),YP w h->(K w.params).In h)(F:∀(w:A4) (mg:AJ->Y A0) (fa:A1) (h:A6),(K w.params).In h->h.Ns mainGlobals mg->mg d.name=U (.ref fa) →
   ∃fd:FuncData,(∀(s:A2) (u:A0),BindsTo s fd ⟨[u],[]⟩ [(x,u)]) ∧
    ∀base:A6,(K w.params).In base->base.Ns mainGlobals mg->rH l.prog w (K w.params) mg base CX k fa fd [x] (sp (K w.params)))(g:∀(K:B5) (H:Hp) (a:A1) (b:O Int),b.length<=n->CU H->oK K H a (b.map V.int)->sp K [.ref a] H (λv _=>v=.bl true) λ_ _ _=>False)(B:∀(H:Hp) (s:A2) (e:A0) (s':A2),CX [] H s (λ_ _ _=>False) e s'->False)(t:∀(w:A4) (h:A6) (mg p:AJ->Y A0) (y:ExcName->Y A0) (C:AZ),(K w.params).In h->Top q C y mg p h->∃m,Tn (K w.params) h m):
  PySem.W.WalkO q loose XP YP l.row.toRowW d [] (λf vs=>PySem.call f vs):=
 W8 (K:=K) (CX:=λ_=>CX) (sp:=λw=>sp (K w.params)) o z i j A F (λw H a b h1 h2 c=>g (K w.params) H a b h1 h2 c) (λ_ H s e s'=>B H s e s') t
end L2
namespace L2
def pZ(s:AB):Arguments:=match s with
 |.FunctionDef _ a _ _ _ _ _ _ _ _=>a
 |_=>{ posonlyargs:=[],args:=[],vararg:=Z,kwonlyargs:=[],kw_defaults:=[],kwarg:=Z,defaults:=[] }
def gn(s:AB):O AB:=match s with
 |.FunctionDef _ _ b _ _ _ _ _ _ _=>b
 |_=>[]
def aH(s:AB):Scope:=match s with
 |.FunctionDef _ _ _ _ _ _ a _ _ _=>a
 |_=>{ kind:=.function,names:=[],isGenerator:=false,isCoroutine:=false }
abbrev Hr:R7:=λ_ _ _ _ _ _=>False
abbrev E0:XK:=λ_ _ _=>False
theorem Zf{X:Cx}:C3 Hr X E0:=λ_ _ _ _ _ _ _ h=>h.elim
structure Wh (K:B5) (x qual:Str) (st:Stmt) (f:Addr) (fd:FuncData):Prop where
 ex:∃(oc:Value) (od:Option Addr) (kV doc pm:Value) (an:Option Addr) (cdv ct:Value) (osl:Array (Option Value)),
  fd=fnOf x qual (pZ st) (gn st) (aH st) .none kV doc pm an cdv ct/\K.lookup f=some ⟨oc,od,.func fd,osl⟩/\codeIn K cdv qual=true
 kp:keepIn K (.ref f)=true
theorem Wh.ok{f:A1}{sp:Sp}(F:Wh K x qual st f fd)(S:bF N ps (aH st))(len:∀vs H Q E,sp vs H Q E->vs.length=ps.length)(c:∀(a:A0) (A:A5) (outer:O Env) (s:A2) (H:Hp) (vs:O V) (Q:VK) (E:XK),jt k (A.deeper (AK qual (aH st) s.heap.objs.size f a))->sp vs H Q E →
   ∃t,LQ (Az Hr P w K mg base N qual (aH st) f a A outer s H E).Wg (gn st) t/\t { nx:=λ_ H'=>Q .non H',rt:=Q } (start N vs) H):rH P w K mg base Hr (k+1) f fd ps sp:=by
 obtain⟨l,j,kV,m,pm,i,a,ct,osl,rfl,d,g⟩:=F.ex;refine Zc d g S len λA outer s H vs Q E e b=>?_;obtain⟨t,h,q⟩:=c a A outer s H vs Q E e b;exact⟨t,h.Wg,q⟩
theorem Wh.binds{f:A1}(F:Wh K x qual st f fd)(h:∀(kV c pm:A0) (b:Y A1) (a ct:A0) (us:O A0),us.length=ps.length->bindArgs (fnOf x qual (pZ st) (gn st) (aH st) .none kV c pm b a ct) ⟨us,[]⟩=pure (ps.zip us)):BF K fd ps []:=by
 obtain⟨i,e,kV,c,pm,b,a,ct,osl,rfl,d,g⟩:=F.ex;exact .all (h kV c pm b a ct)
theorem Tr{f:A1}{g:A0}{e b:Y A1}{kV d a ct:A0}(l:K.lookup f=U ⟨g,e,.func (fnOf x qual (pZ st) (gn st) (aH st) .none kV d pm b a ct),osl⟩)(c:codeIn K a qual=true)(k:keepIn K (.ref f)=true):Wh K x qual st f (fnOf x qual (pZ st) (gn st) (aH st) .none kV d pm b a ct):=⟨⟨g,e,kV,d,pm,b,a,ct,osl,rfl,l,c⟩,k⟩
section
variable{X:Cx}
theorem pv(i:Nat)(hN:X.N[i]?=U x:=by rfl)(b:QG X.env.scope x:=by first|exact JA rfl|exact QE (JA S)|exact QE (QE S))(hd:dX x:=by decide)(a:(x==("__classdict__":AJ))=false:=by decide):PE X (.Name x pos) (HA i):=yd hN b hd a
end
def AV(H H':Hp):Prop:=∀b o,H b=U o->H' b=U o
theorem AV.refl(H:Hp):AV H H:=λ_ _ h=>h
theorem AV.trans{H H1 H2:Hp}(a:AV H H1)(b:AV H1 H2):AV H H2:=λc o h=>b c o (a c o h)
theorem AV.free{H H':Hp}(e:AV H H')(h:H' l=Option.none):H l=Option.none:=by
 cases q:H l with
 |none=>rfl
 |some o=>
  rw[e l o q]at h;cases h
theorem AV.seq{H H':Hp}{xs:O V}(e:AV H H')(h:oK K H a xs):oK K H' a xs:=by
 rcases h with (h|⟨o,h⟩)|h
 ·exact .inl (.inl (e _ _ h))
 ·exact .inl (.inr ⟨o,e _ _ h⟩)
 ·exact .inr h
end L2
variable{t:L2.TA}{xs:O L2.V}{H:L2.Hp}{X:L2.Cx}{σ:L2.St}{v:L2.V}{ta:L2.TE}{y:L2.V}{te:L2.TE}{J:L2.It}{vs:O L2.V}{sp:L2.Sp}{ks:O (L2.AY×L2.V)}{H0 Hs:L2.Hp}{iz:O (O L2.AY)}
namespace P1
open L2
inductive Dt where
 |non|bl (b:Bool)|int (i:Int)|str (x:Str)|tup (xs:List Dt)|lst (xs:List Dt)|emp
inductive Bx where
 |z (d:Dt)|l (ds:List Dt)|o (ds:List Dt)|n (AO:List (AY×Dt))|m (AO:List (AY×Dt)) (w:Option Addr)
abbrev Ev:=O (Y Bx)
def DS(K:B5)(H:Hp)(a:A1)(xs:O V):Prop:=
 (∃o,H a=U (.rA o (.lst xs))) ∨
  ∃(o:AE) (AQ:Array A0) (n:Nat),K.lookup a=U o/\o.cls=.type "list" ∧ o.dict=Z/\o.data=.seq AQ n/\AQ.size<=AA/\AX xs AQ.toList
theorem DS.sq(h:DS K H a xs):oK K H a xs:=by
 rcases h with h|h
 ·exact .inl (.inr h)
 ·exact .inr h
mutual
def AW(K:B5)(H:Hp):Dt->V->Prop
 |.non,v=>v=.non
 |.bl b,v=>v=.bl b
 |.int i,v=>v=.int i
 |.str x,v=>v=.str x/\x.length<=AA
 |.tup ds,v=>∃a vs,v=.ref a/\wg K H a vs/\aG K H ds vs
 |.lst ds,v=>∃a vs,v=.ref a/\DS K H a vs/\aG K H ds vs
 |.emp,v=>∃a o,v=.ref a/\H a=U (.rA o (.dK []))
def aG(K:B5)(H:Hp):O Dt->O V->Prop
 |[],vs=>vs=[]
 |d::ds,vs=>∃v r,vs=v::r/\AW K H d v/\aG K H ds r
end
structure Kp (H H':Hp):Prop where
 t:∀a xs,H a=some (.tup xs)->H' a=some (.tup xs)
 f:∀a o u,H a=some (.rA o u)->H' a=some (.rA o u)
theorem Kp.of{H':Hp}(s:AV H H'):Kp H H':=⟨λa _ h=>s a _ h,λa _ _ h=>s a _ h⟩
theorem Kp.sqT{H':Hp}(k:Kp H H')(h:wg K H a xs):wg K H' a xs:=by
 rcases h with (h|⟨o,h⟩)|h
 ·exact .inl (.inl (k.t _ _ h))
 ·exact .inl (.inr ⟨o,k.f _ _ _ h⟩)
 ·exact .inr h
theorem Kp.fzL{H':Hp}(k:Kp H H')(h:DS K H a xs):DS K H' a xs:=by
 rcases h with⟨o,h⟩|h
 ·exact .inl ⟨o,k.f _ _ _ h⟩
 ·exact .inr h
theorem Kp.lst{o:HO}(h:H a=U (.lst xs)):Kp H (B7 H a o):=by
 refine⟨λb ys e=>?_,λb c u e=>?_⟩
 ·rw[aX (zA e h (by intro z;cases z))];exact e
 ·rw[aX (zA e h (by intro z;cases z))];exact e
mutual
theorem AW.kp{K:B5}{H H':Hp}(k:Kp H H'):∀{d:Dt} {v:V},AW K H d v->AW K H' d v
 |.non,_,h=>by simpa only[AW]using h
 |.bl _,_,h=>by simpa only[AW]using h
 |.int _,_,h=>by simpa only[AW]using h
 |.str _,_,h=>by simpa only[AW]using h
 |.tup ds,_,h=>by
  simp only[AW]at h ⊢;obtain⟨a,vs,e,q,r⟩:=h;exact⟨a,vs,e,k.sqT q,aG.kp k r⟩
 |.lst ds,_,h=>by
  simp only[AW]at h ⊢;obtain⟨a,vs,e,q,r⟩:=h;exact⟨a,vs,e,k.fzL q,aG.kp k r⟩
 |.emp,_,h=>by
  simp only[AW]at h ⊢;obtain⟨a,o,e,q⟩:=h;exact⟨a,o,e,k.f _ _ _ q⟩
theorem aG.kp{K:B5}{H H':Hp}(k:Kp H H'):∀{ds:O Dt} {vs:O V},aG K H ds vs->aG K H' ds vs
 |[],_,h=>by simpa only[aG]using h
 |d::ds,_,h=>by
  simp only[aG]at h ⊢;obtain⟨v,r,e,q,t⟩:=h;exact⟨v,r,e,AW.kp k q,aG.kp k t⟩
end
theorem aG.length{K:B5}{H:Hp}:∀{ds:O Dt} {vs:O V},aG K H ds vs->vs.length=ds.length
 |[],_,h=>by simp only[aG]at h;subst h;rfl
 |d::ds,_,h=>by
  simp only[aG]at h;obtain⟨v,r,rfl,_,t⟩:=h;simp[aG.length t]
theorem aG.nil:aG K H [] []:=by simp only[aG]
theorem aG.cons{K:B5}{H:Hp}{d:Dt}{v:V}{ds:O Dt}{vs:O V}(h:AW K H d v)(t:aG K H ds vs):aG K H (d::ds) (v::vs):=by
 simp only[aG];exact⟨v,vs,rfl,h,t⟩
theorem aG.append{K:B5}{H:Hp}:∀{ds es:O Dt} {vs us:O V},aG K H ds vs->aG K H es us->aG K H (ds++es) (vs++us)
 |[],_,_,_,h,t=>by simp only[aG]at h;subst h;exact t
 |d::ds,_,_,_,h,t=>by
  simp only[aG]at h;obtain⟨v,r,rfl,q,h⟩:=h;exact aG.cons q (aG.append h t)
theorem aG.drop{K:B5}{H:Hp}:∀(n:Nat) {ds:O Dt} {vs:O V},aG K H ds vs->aG K H (ds.drop n) (vs.drop n)
 |0,_,_,h=>h
 |n+1,[],_,h=>by simp only[aG]at h;subst h;exact aG.nil
 |n+1,d::ds,_,h=>by
  simp only[aG]at h;obtain⟨v,r,rfl,q,h⟩:=h;exact aG.drop n h
theorem aG.take{K:B5}{H:Hp}:∀(n:Nat) {ds:O Dt} {vs:O V},aG K H ds vs->aG K H (ds.take n) (vs.take n)
 |0,_,_,_=>aG.nil
 |n+1,[],_,h=>by simp only[aG]at h;subst h;exact aG.nil
 |n+1,d::ds,_,h=>by
  simp only[aG]at h;obtain⟨v,r,rfl,q,h⟩:=h;exact aG.cons q (aG.take n h)
theorem aG.get{K:B5}{H:Hp}:∀{ds:O Dt} {vs:O V} {i:Nat} {d:Dt},aG K H ds vs->ds[i]?=U d->∃v,vs[i]?=U v/\AW K H d v
 |[],_,_,_,_,e=>by simp at e
 |d::ds,_,0,_,h,e=>by
  simp only[aG]at h;obtain⟨v,r,rfl,q,h⟩:=h;simp at e;subst e;exact⟨v,rfl,q⟩
 |d::ds,_,i+1,_,h,e=>by
  simp only[aG]at h;obtain⟨v,r,rfl,q,h⟩:=h;obtain⟨u,e1,e2⟩:=aG.get h (i:=i) (by simpa using e);exact⟨u,by simpa using e1,e2⟩
def D7:AY->Prop
 |.inl _=>True
 |.inr x=>x.length<=AA
def fO(K:B5)(H:Hp)(AO:O (AY×Dt))(ks:O (AY×V)):Prop:=ks.map (·.1)=AO.map (·.1)/\aG K H (AO.map (·.2)) (ks.map (·.2))/\∀p∈AO,D7 p.1
theorem fO.kp{K:B5}{H H':Hp}{AO:O (AY×Dt)}{ks:O (AY×V)}(h:fO K H AO ks)(k:Kp H H'):fO K H' AO ks:=⟨h.1,h.2.1.kp k,h.2.2⟩
def aQ(K:B5)(H:Hp):Bx->V->Prop
 |.z d,v=>AW K H d v
 |.l ds,v=>∃a vs,v=.ref a/\Rd H a (.lst vs)/\aG K H ds vs
 |.o ds,v=>∃a vs,v=.ref a/\H a=U (.lst vs)/\aG K H ds vs
 |.n AO,v=>∃a ks,v=.ref a/\Rd H a (.dK ks)/\fO K H AO ks
 |.m AO w,v=>∃a ks,v=.ref a/\H a=U (.dK ks)/\fO K H AO ks/\∀b,w=U b->b=a
theorem aQ.same{H':Hp}(s:AV H H'){b:Bx}(h:aQ K H b v):aQ K H' b v:=by
 cases b with
 |z d=>exact AW.kp (.of s) h
 |l ds=>
  obtain⟨a,vs,e,q,r⟩:=h;refine⟨a,vs,e,?_,r.kp (.of s)⟩;rcases q with q|⟨o,q⟩
  ·exact .inl (s _ _ q)
  ·exact .inr ⟨o,s _ _ q⟩
 |o ds=>
  obtain⟨a,vs,e,q,r⟩:=h;exact⟨a,vs,e,s _ _ q,r.kp (.of s)⟩
 |n AO=>
  obtain⟨a,vs,e,q,r⟩:=h;refine⟨a,vs,e,?_,r.kp (.of s)⟩;rcases q with q|⟨o,q⟩
  ·exact .inl (s _ _ q)
  ·exact .inr ⟨o,s _ _ q⟩
 |m AO _=>
  obtain⟨a,vs,e,q,r⟩:=h;exact⟨a,vs,e,s _ _ q,r.1.kp (.of s),r.2⟩
def lM:Bx->Y (O Dt)
 |.z (.lst ds)=>U ds
 |.l ds=>U ds
 |.o ds=>U ds
 |_=>Z
theorem aQ.zG{b:Bx}{ds:O Dt}(h:aQ K H b v)(e:lM b=U ds):∃a vs,v=.ref a/\oK K H a vs/\aG K H ds vs:=by
 cases b with
 |z d=>
  cases d<;>first|(cases e;done)|skip;cases e;simp only[aQ,AW]at h;obtain⟨a,vs,e,q,r⟩:=h;exact⟨a,vs,e,q.sq,r⟩
 |l c=>
  cases e;obtain⟨a,vs,e,q,r⟩:=h;exact⟨a,vs,e,.inl q,r⟩
 |o c=>
  cases e;obtain⟨a,vs,e,q,r⟩:=h;exact⟨a,vs,e,.inl (.inl q),r⟩
 |n _=>cases e
 |m _ _=>cases e
abbrev uO(K:B5)(H:Hp):O Bx->O V->Prop:=AI (aQ K H)
def Nw(H:Hp):Bx->V->Prop
 |.o _,v=>∀a,v=.ref a->H a=Z
 |.m _ _,v=>∀a,v=.ref a->H a=Z
 |_,_=>True
theorem Nw.old{H1:Hp}(s:AV H H1){b:Bx}(h:Nw H1 b v):Nw H b v:=by
 cases b with
 |o ds=>exact λa e=>s.free (h a e)
 |m ds _=>exact λa e=>s.free (h a e)
 |_=>trivial
def loose:Bx->Bool
 |.z _=>false
 |_=>true
def wC:Bx->Bool
 |.o _=>true
 |.m _ _=>true
 |_=>false
structure bB (K:B5) (H0 H:Hp) (σ:L2.St) (ρ:Ev):Prop where
 len:σ.length=ρ.length
 val:∀(i:Nat) b,ρ[i]?=some (some b)->∃v,σ[i]?=some (some v)/\aQ K H b v
 own:∀(i j:Nat) c a b,ρ[i]?=some (some c)->wC c=true->σ[i]?=some (some (.ref a))->ρ[j]?=some (some b)->loose b=true->σ[j]?=some (some (.ref a))->i=j
 base:AV H0 H
 new:∀(i:Nat) c a,ρ[i]?=some (some c)->wC c=true->σ[i]?=some (some (.ref a))->H0 a=none
theorem bB.grow{H':Hp}{ρ:Ev}(r:bB K H0 H σ ρ)(s:AV H H'):bB K H0 H' σ ρ:=
 ⟨r.len,λi b e=>let ⟨v,e1,h⟩:=r.val i b e;⟨v,e1,h.same s⟩,r.own,r.base.trans s,r.new⟩
def tF(K:B5)(f:Ev->Y Bx):TE:=λσ H Q=>∃H0 ρ b,bB K H0 H σ ρ/\f ρ=U b/\∀v H',AV H H'->Nw H b v->aQ K H' b v->Q v H'
def GG(K:B5)(f:Ev->Y (O Bx)):TA:=λσ H Q=>∃H0 ρ bs,bB K H0 H σ ρ/\f ρ=U bs/\∀vs H',AV H H'->uO K H' bs vs->Q vs H'
def W9(K:B5)(f:Ev->Y Bool):TT:=λσ H Q=>∃H0 ρ b,bB K H0 H σ ρ/\f ρ=U b/\∀H',AV H H'->Q b H'
def PV(X:Cx)(e:Expr)(f:Ev->Y Bx):Prop:=PE X e (tF X.K f)
structure QV (X:Cx) (e:Expr) (f:Ev->Option Bx):Prop where
 run:PV X e f
def DE(X:Cx)(es:O Expr)(f:Ev->Y (O Bx)):Prop:=PA X es (GG X.K f)
structure Tt (X:Cx) (es:List Expr) (f:Ev->Option (List Bx)):Prop where
 run:DE X es f
def PB(X:Cx)(e:Expr)(f:Ev->Y Bool):Prop:=PT X e (W9 X.K f)
structure QB (X:Cx) (e:Expr) (f:Ev->Option Bool):Prop where
 run:PB X e f
theorem LK{t t':TE}(h:PE X e t)(m:∀ σ H Q,t' σ H Q->t σ H Q):PE X e t':=λAN s σ H Q I q=>h AN s σ H Q I (m σ H Q q)
theorem Ff{e:O Expr}{t':TA}(h:PA X e t)(m:∀ σ H Q,t' σ H Q->t σ H Q):PA X e t':=λpos AN s σ H Q I q=>h pos AN s σ H Q I (m σ H Q q)
theorem EK{t t':TT}(h:PT X e t)(m:∀ σ H Q,t' σ H Q->t σ H Q):PT X e t':=λAN s σ H Q I q=>h AN s σ H Q I (m σ H Q q)
theorem GN{t t':TT}(h:PW X e t)(m:∀ σ H Q,t' σ H Q->t σ H Q):PW X e t':=λa AN s σ H Q I q=>h a AN s σ H Q I (m σ H Q q)
theorem Wi{e:AB}{t t':TS}(h:PS X e t)(m:∀D σ H,t' D σ H->t D σ H):PS X e t':=λAN s σ H D I q=>h AN s σ H D I (m D σ H q)
theorem Xa{e:O AB}{t t':TS}(h:LQ X e t)(m:∀D σ H,t' D σ H->t D σ H):LQ X e t':=λAN s σ H D I q=>h AN s σ H D I (m D σ H q)
def rF(K:B5)(g:Bx->Bx->Y Bx):R2:=λx y H Q=>∃a b c,aQ K H a x/\aQ K H b y/\g a b=U c/\∀w H',AV H H'->Nw H c w->aQ K H' c w->Q w H'
def Fs(K:B5)(g:Bx->Y Bx):V->Hp->VK->Prop:=λx H Q=>∃a c,aQ K H a x/\g a=U c/\∀w H',AV H H'->Nw H c w->aQ K H' c w->Q w H'
def FR(K:B5)(g:O Bx->Y Bx):O V->Hp->VK->Prop:=λxs H Q=>∃bs c,uO K H bs xs/\g bs=U c/\∀w H',AV H H'->Nw H c w->aQ K H' c w->Q w H'
abbrev Ht(X:Cx)(f:A0->A0->Sem A0)(g:Bx->Bx->Y Bx):Prop:=wz X f (rF X.K g)
abbrev Fn(X:Cx)(f:A0->Sem A0)(g:Bx->Y Bx):Prop:=Za X f (Fs X.K g)
abbrev jh(X:Cx)(f:A0)(g:O Bx->Y Bx):Prop:=fU X f (FR X.K g)
theorem wz.imp{f:A0->A0->Sem A0}{r a:R2}(h:wz X f r)(m:∀x y H Q,a x y H Q->r x y H Q):wz X f a:=λAN s σ H x y v u Q I c b q=>h AN s σ H x y v u Q I c b (m x y H Q q)
theorem Za.imp{f:A0->Sem A0}{r a:V->Hp->VK->Prop}(h:Za X f r)(m:∀x H Q,a x H Q->r x H Q):Za X f a:=λAN s σ H x v Q I b q=>h AN s σ H x v Q I b (m x H Q q)
theorem fU.imp{f:A0}{r a:O V->Hp->VK->Prop}(h:fU X f r)(m:∀x H Q,a x H Q->r x H Q):fU X f a:=λAN s σ H xs us Q I b q=>h AN s σ H xs us Q I b (m xs H Q q)
def b2(g:Bx->Bx->Y Bx)(fa fb:Ev->Y Bx):Ev->Y Bx:=λρ=>(fa ρ).bind λx=>(fb ρ).bind λy=>g x y
def b1(g:Bx->Y Bx)(fa:Ev->Y Bx):Ev->Y Bx:=λρ=>(fa ρ).bind g
def bx(g:O Bx->Y Bx)(fs:Ev->Y (O Bx)):Ev->Y Bx:=λρ=>(fs ρ).bind g
theorem AT{o:Y α}{f:α->Y β}{b:β}(h:o.bind f=U b):∃a,o=U a/\f a=U b:=by
 cases o with
 |none=>cases h
 |some a=>exact⟨a,rfl,h⟩
theorem Tv{g:Bx->Bx->Y Bx}{fa fb:Ev->Y Bx}(σ:L2.St)(H:Hp)(Q:VK)(h:tF K (b2 g fa fb) σ H Q):DC (rF K g) (tF K fa) (tF K fb) σ H Q:=by
 obtain⟨H0,ρ,c,E,e,q⟩:=h;obtain⟨a,ea,e⟩:=AT e;obtain⟨b,eb,e⟩:=AT e;refine⟨H0,ρ,a,E,ea,λv H1 s1 m k=>⟨H0,ρ,b,E.grow s1,eb,λu H2 s2 l d=>?_⟩⟩;exact⟨a,b,c,k.same s2,d,e,λw i s3 f j=>q w i ((s1.trans s2).trans s3) (f.old (s1.trans s2)) j⟩
theorem MB{g:Bx->Y Bx}{fa:Ev->Y Bx}(σ:L2.St)(H:Hp)(Q:VK)(h:tF K (b1 g fa) σ H Q):GB (Fs K g) (tF K fa) σ H Q:=by
 obtain⟨H0,ρ,c,E,e,q⟩:=h;obtain⟨a,ea,e⟩:=AT e;exact⟨H0,ρ,a,E,ea,λv H1 s1 j i=>⟨a,c,i,e,λw d s3 b f=>q w d (s1.trans s3) (b.old s1) f⟩⟩
theorem Ch{g:O Bx->Y Bx}{fs:Ev->Y (O Bx)}(σ:L2.St)(H:Hp)(Q:VK)(h:tF K (bx g fs) σ H Q):F5 (FR K g) (GG K fs) σ H Q:=by
 obtain⟨H0,ρ,c,E,e,q⟩:=h;obtain⟨a,ea,e⟩:=AT e;exact⟨H0,ρ,a,E,ea,λv H1 s1 i=>⟨a,c,i,e,λw d s3 f b=>q w d (s1.trans s3) (f.old s1) b⟩⟩
section
variable{a b:Expr}{fa fb fc f:Ev->Y Bx}{fs:Ev->Y (O Bx)}
theorem aO{op:Operator}{g:Bx->Bx->Y Bx}(e:Ht X (binaryOp op) g)(d:QV X a fa)(c:QV X b fb):QV X (.BinOp a op b pos) (b2 g fa fb):=⟨have d:=d.run;have c:=c.run;LK (LN e d c) Tv⟩
theorem Ox{op:UnaryOp}{g:Bx->Y Bx}(c:Fn X (unaryOp op) g)(b:QV X a fa):QV X (.UnaryOp op a pos) (b1 g fa):=⟨have b:=b.run;LK (On c b) MB⟩
theorem mJ{g:Bx->Bx->Y Bx}(e:Ht X (AG op) g)(d:QV X a fa)(c:QV X b fb)(f:behindInMarks op b=false):QV X (.Compare a [op] [b] pos) (b2 g fa fb):=⟨have d:=d.run;have c:=c.run;LK (Wx e d c f) Tv⟩
def Ml:Bx->Y Bool
 |.z (.bl b)=>U b
 |_=>Z
theorem JG{b:Bx}{k:Bool}(h:aQ K H b v)(e:Ml b=U k):v=.bl k:=by
 cases b with
 |z d=>
  cases d<;>first|(cases e;done)|skip;cases e;simpa only[aQ,AW]using h
 |_=>cases e
theorem Ll(σ:L2.St)(H:Hp)(Q:Bool->Hp->Prop)(h:W9 K (λρ=>(f ρ).bind Ml) σ H Q):tF K f σ H (λx H'=>∃k,x=.bl k/\Q k H'):=by
 obtain⟨H0,ρ,k,E,e,q⟩:=h;obtain⟨b,eb,e⟩:=AT e;exact⟨H0,ρ,b,E,eb,λv H1 s1 c a=>⟨k,JG a e,q H1 s1⟩⟩
theorem bO{g:Bx->Bx->Y Bx}(e:Ht X (AG op) g)(d:QV X a fa)(c:QV X b fb)(f:behindInMarks op b=false):QB X (.Compare a [op] [b] pos) (λρ=>(b2 g fa fb ρ).bind Ml):=⟨have d:=d.run;have c:=c.run;EK (Wy e d c f) λσ H Q h=>Tv σ H _ (Ll σ H Q h)⟩
def zX(ρ:Ev)(i:Nat):Y Bx:=match ρ[i]? with
 |some (U (.o ds))=>U (.l ds)
 |some (U (.m AO _))=>U (.n AO)
 |some (U b)=>U b
 |_=>Z
theorem JH{ρ:Ev}{b:Bx}(E:bB K H0 H σ ρ)(e:zX ρ i=U b):∃v,σ[i]?=U (U v)/\aQ K H b v:=by
 unfold zX at e;split at e
 ·rename_i ds h;cases e;obtain⟨v,e1,a,vs,e2,q,r⟩:=E.val i _ h;exact⟨v,e1,a,vs,e2,.inl q,r⟩
 ·rename_i ds h;cases e;obtain⟨v,e1,a,vs,e2,q,r⟩:=E.val i _ h;exact⟨v,e1,a,vs,e2,.inl q,r.1⟩
 ·rename_i c h;cases e;exact E.val i _ h
 ·cases e
theorem Af{ρ:Ev}{b:Bx}(e:zX ρ i=U b):wC b=false:=by
 unfold zX at e;split at e
 ·cases e;rfl
 ·cases e;rfl
 ·rename_i a h1 h2 c;cases e;cases b with
  |o ds=>exact absurd S (h1 ds)
  |m ds _=>exact absurd S (h2 ds _)
  |_=>rfl
 ·cases e
theorem ak(i:Nat)(hN:X.N[i]?=U x:=by rfl)(c:QG X.env.scope x:=by first|exact JA rfl|exact QE (JA S)|exact QE (QE S))(hd:dX x:=by decide)(a:(x==("__classdict__":AJ))=false:=by decide):QV X (.Name x pos) (λρ=>zX ρ i):=⟨LK (yd hN c hd a) λσ H Q h=>by
 obtain⟨H0,ρ,b,E,e,q⟩:=h;obtain⟨v,e1,r⟩:=JH E e;refine⟨v,e1,q v H (AV.refl H) ?_ r⟩;cases b with
 |o ds=>have:=Af e;cases this
 |m ds _=>have:=Af e;cases this
 |_=>trivial⟩
def cB(d:Dt):Ev->Y Bx:=λ_=>U (.z d)
theorem Xb{d:Dt}(h:PE X e (tC v))(r:∀H,AW X.K H d v):PV X e (cB d):=LK h λσ H Q q=>by
 obtain⟨H0,ρ,b,E,e,q⟩:=q;cases e;exact q v H (AV.refl H) trivial (r H)
theorem aC{i j}:QV X (.Constant (.int i) j pos) (cB (.int i)):=⟨Xb Z8 λH=>by simp only[AW]⟩
theorem zH{i j}:QV X (.Constant (.bool i) j pos) (cB (.bl i)):=⟨Xb M3 λH=>by simp only[AW]⟩
theorem Mp{j}:QV X (.Constant .none j pos) (cB .non):=⟨Xb Z9 λH=>by simp only[AW]⟩
theorem Tw{j}(hx:x.length<=AA:=by decide):PV X (.Constant (.str x) j pos) (cB (.str x)):=Xb ME λH=>by unfold AW;exact⟨rfl,hx⟩
def Tz:Bx->Y Bool
 |.z .non=>U false
 |.z (.bl b)=>U b
 |.z (.int i)=>U (i != 0)
 |.z (.str x)=>U ((x.length:Int) != 0)
 |.z (.tup ds)=>U (!ds.isEmpty)
 |.z (.lst ds)=>U (!ds.isEmpty)
 |.l ds=>U (!ds.isEmpty)
 |.o ds=>U (!ds.isEmpty)
 |.z .emp=>Z
 |.n _=>Z
 |.m _ _=>Z
theorem aG.isEmpty{ds:O Dt}(h:aG K H ds vs):(!ds.isEmpty)=!vs.isEmpty:=by
 have:=h.length;cases ds<;>cases vs<;>simp_all
theorem Xc{b:Bx}{k:Bool}(r:aQ K H b v)(e:Tz b=U k):FH K v H k:=by
 cases b with
 |z d=>
  cases d with
  |non=>cases e;simp only[aQ,AW]at r;subst r;rfl
  |bl b=>cases e;simp only[aQ,AW]at r;subst r;rfl
  |int b=>cases e;simp only[aQ,AW]at r;subst r;rfl
  |str x=>cases e;simp only[aQ,AW]at r;obtain⟨rfl,h⟩:=r;exact⟨h,rfl⟩
  |tup ds=>
   cases e;simp only[aQ,AW]at r;obtain⟨a,vs,rfl,q,r⟩:=r;exact .inr (.inl ⟨vs,q,r.isEmpty⟩)
  |lst ds=>
   cases e;obtain⟨a,vs,rfl,q,r⟩:=r.zG rfl;exact .inl ⟨vs,q,r.isEmpty⟩
  |emp=>cases e
 |l ds=>
  cases e;obtain⟨a,vs,rfl,q,r⟩:=r.zG rfl;exact .inl ⟨vs,q,r.isEmpty⟩
 |o ds=>
  cases e;obtain⟨a,vs,rfl,q,r⟩:=r.zG rfl;exact .inl ⟨vs,q,r.isEmpty⟩
 |n _=>cases e
 |m _ _=>cases e
theorem Mq(h:QV X e f)(c:∀a,isTrue e X.env a=(do let v <-a;standAt e.pos;holding [v] (truthy v)):=by intro _;rfl):QB X e (λρ=>(f ρ).bind Tz):=⟨have h:=h.run;EK (SX h c) λσ H Q q=>by
 obtain⟨H0,ρ,k,E,e,q⟩:=q;obtain⟨b,eb,e⟩:=AT e;exact⟨H0,ρ,b,E,eb,λv H1 s1 g d=>⟨k,Xc d e,q H1 s1⟩⟩⟩
def zY(p q:Ev->Y Bool):Ev->Y Bool:=λρ=>(p ρ).bind λc=>if c=true then q ρ else U false
def R8(p q:Ev->Y Bool):Ev->Y Bool:=λρ=>(p ρ).bind λc=>if c=true then U true else q ρ
def TF(p:Ev->Y Bool):Ev->Y Bool:=λρ=>(p ρ).bind λc=>U (!c)
def OV(X:Cx)(e:Expr)(f:Ev->Y Bool):Prop:=PW X e (W9 X.K f)
structure D0 (X:Cx) (e:Expr) (f:Ev->Option Bool):Prop where
 run:OV X e f
variable{p q:Ev->Y Bool}{AS:O Expr}
theorem wD(b:QB X a p):D0 X (.BoolOp .And [a] pos) p:=⟨have b:=b.run;Wq b⟩
theorem wF(b:QB X a p):D0 X (.BoolOp .Or [a] pos) p:=⟨have b:=b.run;MT b⟩
theorem Xd(σ:L2.St)(H:Hp)(Q:Bool->Hp->Prop)(h:W9 K (zY p q) σ H Q):F' (W9 K p) (W9 K q) σ H Q:=by
 obtain⟨H0,ρ,k,E,e,w⟩:=h;obtain⟨c,a,e⟩:=AT e;refine⟨H0,ρ,c,E,a,λH1 s1=>?_⟩;cases c with
 |true=>rw[zo rfl]at e ⊢;exact⟨H0,ρ,k,E.grow s1,e,λH2 s2=>w H2 (s1.trans s2)⟩
 |false=>rw[zC ZE]at e ⊢;cases e;exact w H1 s1
theorem MQ(σ:L2.St)(H:Hp)(Q:Bool->Hp->Prop)(h:W9 K (R8 p q) σ H Q):GY (W9 K p) (W9 K q) σ H Q:=by
 obtain⟨H0,ρ,k,E,e,w⟩:=h;obtain⟨c,a,e⟩:=AT e;refine⟨H0,ρ,c,E,a,λH1 s1=>?_⟩;cases c with
 |true=>rw[zo rfl]at e ⊢;cases e;exact w H1 s1
 |false=>rw[zC ZE]at e ⊢;exact⟨H0,ρ,k,E.grow s1,e,λH2 s2=>w H2 (s1.trans s2)⟩
theorem Ag(d:QB X a p)(c:D0 X (.BoolOp .And (b::AS) pos) q):D0 X (.BoolOp .And (a::b::AS) pos) (zY p q):=⟨have d:=d.run;have c:=c.run;GN (L3 d c) Xd⟩
theorem Bd(d:QB X a p)(c:D0 X (.BoolOp .Or (b::AS) pos) q):D0 X (.BoolOp .Or (a::b::AS) pos) (R8 p q):=⟨have d:=d.run;have c:=c.run;GN (L9 d c) MQ⟩
theorem Hu(h:D0 X e p):QB X e p:=⟨have h:=h.run;h.pt⟩
theorem TJ(b:QB X a p):QB X (.UnaryOp .Not a pos) (TF p):=⟨have b:=b.run;EK (IF b) λσ H Q h=>by
 obtain⟨H0,ρ,k,E,e,w⟩:=h;obtain⟨c,d,e⟩:=AT e;cases e;exact⟨H0,ρ,c,E,d,λH1 s1=>w H1 s1⟩⟩
def Ct(fa fb:Ev->Y Bx):Ev->Y Bx:=λρ=>((fa ρ).bind Ml).bind λc=>if c=true then U (.z (.bl true))else fb ρ
theorem TQ{op}(h:QV X a fa):QV X (.BoolOp op [a] pos) fa:=⟨have h:=h.run;IA h⟩
theorem Zg(d:QV X a fa)(f:QV X (.BoolOp .Or (b::AS) pos) fb):QV X (.BoolOp .Or (a::b::AS) pos) (Ct fa fb):=⟨have d:=d.run;have f:=f.run;LK (LG d f) λσ H Q h=>by
 obtain⟨H0,ρ,k,E,e,w⟩:=h;obtain⟨c,g,e⟩:=AT e;obtain⟨x,ex,g⟩:=AT g;refine⟨H0,ρ,x,E,ex,λv H1 s1 m j=>⟨c,JG j g,?_⟩⟩;cases c with
 |false=>rw[zC ZE]at e ⊢;exact⟨H0,ρ,k,E.grow s1,e,λv H2 s2 l i=>w v H2 (s1.trans s2) (l.old s1) i⟩
 |true=>rw[zo rfl]at e ⊢;cases e;exact w _ H1 s1 trivial (by simp only[aQ,AW])⟩
theorem Oz:DE X [] (λ_=>U []):=Ff yj λσ H Q h=>by
 obtain⟨H0,ρ,bs,E,e,q⟩:=h;cases e;exact q [] H (AV.refl H) .nil
def ao(f:Ev->Y Bx)(fs:Ev->Y (O Bx)):Ev->Y (O Bx):=λρ=>(f ρ).bind λb=>(fs ρ).bind λbs=>U (b::bs)
theorem JK(h1:PV X e f)(h2:DE X es fs)(hs:A9 (e::es) X.env=(false,eval e X.env)::A9 es X.env:=by rfl):DE X (e::es) (ao f fs):=Ff (tW h1 h2 hs) λσ H Q h=>by
 obtain⟨H0,ρ,bs,E,e,q⟩:=h;obtain⟨b,eb,e⟩:=AT e;obtain⟨a,d,e⟩:=AT e;cases e;refine⟨H0,ρ,b,E,eb,λv H1 s1 i g=>⟨H0,ρ,a,E.grow s1,d,λvs H2 s2 c=>?_⟩⟩;exact q (v::vs) H2 (s1.trans s2) (.cons (g.same s2) c)
def zJ:Bx->Y Bx
 |.z d=>U (.z d)
 |.o ds=>U (.z (.lst ds))
 |.l _=>Z
 |.n _=>Z
 |.m _ _=>Z
theorem Mr{a:A1}(I:L2.AU X AN σ H s)(h:H a=U (.lst vs)):∃o,L2.AU X AN σ (B7 H a (.rA o (.lst vs))) s:=by
 obtain⟨z,AQ,n,r,e⟩:=I.hok a _ h;refine⟨{ cls:=.type "list",data:=.seq AQ.toArray n },⟨I.ok,I.os,I.bare,⟨I.base.keep,I.base.slot,λb d q1 q2 q3=>?_,I.base.there,λb xs q=>?_,λb d u q=>?_,λb ps q=>?_⟩,I.loc,I.cell,?_,λx c q=>?_,λp hp=>?_,?_,I.len⟩⟩
 ·have:=I.base.free b d q1 q2 q3;rw[aX (bZ h this).symm];exact this
 ·have:=I.base.tups b xs q;rw[aX (zA this h (by intro z;cases z))];exact this
 ·have:=I.base.DP b d u q;rw[aX (zA this h (by intro z;cases z))];exact this
 ·obtain⟨m,this⟩:=I.base.wj b ps q;rw[aX (zA this h (by intro z;cases z))];exact⟨m,this⟩
 ·rw[aX (bZ h I.free).symm];exact I.free
 ·rw[aX (bZ h (I.oZ x c q)).symm];exact I.oZ x c q
 ·obtain⟨q1,q2,q3⟩:=I.pin p hp;refine⟨q1,?_,q3⟩;rw[aX (bZ h q2).symm];exact q2
 ·intro b u q;by_cases f:b=a
  ·subst f;rw[aW]at q;cases q;exact⟨e,z,AQ,n,r,e⟩
  ·rw[aX f]at q;refine(I.hok b u q).stay (λc v _ w=>w) (λc w=>?_) (λc xs w=>?_) λc o' g w=>?_
   ·rw[aX (zA w h (by intro z;cases z))];exact w
   ·rw[aX (zA w h (by intro z;cases z))];exact w
   ·rw[aX (zA w h (by intro z;cases z))];exact w
theorem jQ(h:QV X e f):QV X e (b1 zJ f):=⟨by
 have h:=h.run;intro AN s σ H Q I q;obtain⟨H0,ρ,b,E,e,q⟩:=q;obtain⟨x,ex,e⟩:=AT e;cases x with
 |z d=>
  cases e;exact h AN s σ H Q I ⟨H0,ρ,_,E,ex,λv H' s' i g=>q v H' s' trivial g⟩
 |l ds=>cases e
 |n ds=>cases e
 |m ds _=>cases e
 |o ds=>
  cases e;refine jO (h AN s σ H (λv H'=>AV H H'/\Nw H (.o ds) v/\aQ X.K H' (.o ds) v) I ⟨H0,ρ,_,E,ex,λv H' s' i g=>⟨s',i,g⟩⟩) λu s1 hq=>?_;obtain⟨v,H1,y,t,s',i,g⟩:=hq;obtain⟨a,vs,rfl,j,A⟩:=g;obtain⟨o,p⟩:=Mr y j;refine⟨.ref a,_,p,t,q _ _ (λc w k=>?_) trivial ?_⟩
  ·rw[aX (bZ k (i a S))];exact s' c w k
  ·simp only[aQ,AW];exact⟨a,vs,rfl,.inl ⟨o,aW⟩,A.kp (.lst j)⟩⟩
def Hv:O Bx->Y (O Dt)
 |[]=>U []
 |.z d::r=>(Hv r).bind λds=>U (d::ds)
 |_=>Z
theorem Bf{K:B5}{H:Hp}:∀{bs:O Bx} {vs:O V} {ds:O Dt},uO K H bs vs->Hv bs=U ds->aG K H ds vs
 |_,_,_,.nil,e=>by cases e;exact aG.nil
 |b::bs,_,_,.cons h t,e=>by
  cases b with
  |z d=>
   simp only[Hv]at e;obtain⟨a,e1,e2⟩:=AT e;cases e2;exact aG.cons h (Bf t e1)
  |_=>cases e
theorem Bg:∀{bs:O Bx} {ds:O Dt},Hv bs=U ds->ds.length=bs.length
 |[],_,e=>by cases e;rfl
 |.z d::r,_,e=>by
  simp only[Hv]at e;obtain⟨a,e1,e2⟩:=AT e;cases e2;simp[Bg e1]
 |.l _::_,_,e=>by cases e
 |.o _::_,_,e=>by cases e
 |.n _::_,_,e=>by cases e
 |.m _ _::_,_,e=>by cases e
def gq(bs:O Bx):Y Bx:=if bs.length<=1000 then(Hv bs).bind λds=>U (.z (.tup ds))else Z
def lC(bs:O Bx):Y Bx:=if bs.length<=1000 then(Hv bs).bind λds=>U (.o ds)else Z
theorem bD{p:A1}{o:HO}(h:H p=Z):AV H (B7 H p o):=λb u e=>by rw[aX (bZ e h)];exact e
theorem Zh(h:n<=1000):n<=AA:=zS h ()
theorem eV{x1}(h:Tt X es fs):QV X (.Tuple es x1 pos) (bx gq fs):=⟨have h:=h.run;LK (NB h) λσ H Q q=>by
 obtain⟨H0,ρ,c,E,e,q⟩:=q;obtain⟨bs,d,e⟩:=AT e;refine⟨H0,ρ,bs,E,d,λvs H1 s1 f=>?_⟩;unfold gq at e;split at e
 ·rename_i b;obtain⟨ds,e1,e⟩:=AT e;cases e;have a:=Bf f e1;refine⟨Zh (by rw[a.length,Bg e1];exact b),λp hp=>q _ _ (s1.trans (bD hp)) trivial ?_⟩;simp only[aQ,AW];exact⟨p,vs,rfl,.inl (.inl aW),a.kp (.of (bD hp))⟩
 ·cases e⟩
theorem fW(h:Tt X es fs):QV X (.List es pos) (bx lC fs):=⟨have h:=h.run;LK (ID h) λσ H Q q=>by
 obtain⟨H0,ρ,c,E,e,q⟩:=q;obtain⟨bs,f,e⟩:=AT e;refine⟨H0,ρ,bs,E,f,λvs H1 s1 g=>?_⟩;unfold lC at e;split at e
 ·rename_i d;obtain⟨ds,e1,e⟩:=AT e;cases e;have b:=Bf g e1;refine⟨Zh (by rw[b.length,Bg e1];exact d),λp hp=>q _ _ (s1.trans (bD hp)) (λa ea=>by cases ea;exact s1.free hp) ?_⟩;exact⟨p,vs,rfl,aW,b.kp (.of (bD hp))⟩
 ·cases e⟩
theorem aU{id:String}{g:O Bx->Y Bx}{p:Pos}(j:jh X (.builtin id) g)(h:Gl X x)(c:X.mg x=Z)(f:AH x=U (.builtin id))(a:Tt X (e::es) fs)(i:x ≠ "__name__":=by decide)(b:dX x:=by decide)(k:A9 (e::es) X.env=(false,eval e X.env)::A9 es X.env:=by rfl)(d:(AD pos (A9 es X.env)).any (·.1)=false:=by rfl):QV X (.Call (.Name x p) (e::es) [] pos) (bx g fs):=⟨have a:=a.run;LK (S8 j h c f a i b k d) Ch⟩
theorem dG{T:String}{g:O Bx->Y Bx}{p:Pos}(j:jh X (.type T) g)(h:Gl X x)(c:X.mg x=Z)(f:AH x=U (.type T))(a:Tt X (e::es) fs)(i:x ≠ "__name__":=by decide)(b:dX x:=by decide)(k:A9 (e::es) X.env=(false,eval e X.env)::A9 es X.env:=by rfl)(d:(AD pos (A9 es X.env)).any (·.1)=false:=by rfl):QV X (.Call (.Name x p) (e::es) [] pos) (bx g fs):=⟨have a:=a.run;LK (QW j h c f a i b k d) Ch⟩
end
inductive As where
 |nx (ρ:Ev)|rt (b:Bx)|bk (ρ:Ev)|ct (ρ:Ev)
def TV(K:B5)(H0:Hp)(D:C1):As->Prop
 |.nx ρ=>∀ σ H,bB K H0 H σ ρ->D.nx σ H
 |.rt b=>∀v H,AV H0 H->Nw H0 b v->aQ K H b v->D.rt v H
 |.bk ρ=>∀ σ H,bB K H0 H σ ρ->D.bk σ H
 |.ct ρ=>∀ σ H,bB K H0 H σ ρ->D.ct σ H
def tG(K:B5)(g:Ev->Y As):TS:=λD σ H=>∃H0 ρ r,bB K H0 H σ ρ/\g ρ=U r/\TV K H0 D r
def GL(X:Cx)(st:AB)(g:Ev->Y As):Prop:=PS X st (tG X.K g)
structure Q6 (X:Cx) (st:Stmt) (g:Ev->Option As):Prop where
 run:GL X st g
def Sy(X:Cx)(st:O AB)(g:Ev->Y As):Prop:=LQ X st (tG X.K g)
structure OD (X:Cx) (st:List Stmt) (g:Ev->Option As):Prop where
 run:Sy X st g
def aD(g1 g2:Ev->Y As):Ev->Y As:=λρ=>(g1 ρ).bind λr=>match r with
 |.nx a=>g2 a
 |r=>U r
section
variable{a b:Expr}{fa fb fc f:Ev->Y Bx}{fs:Ev->Y (O Bx)}{AS:O AB}{g g1 g2:Ev->Y As}
theorem aJ  :OD X [] (λρ=>U (.nx ρ)):=⟨Xa Wr λD σ H h=>by
 obtain⟨H0,ρ,r,E,e,q⟩:=h;cases e;exact q σ H E⟩
theorem au(h1:Q6 X st g1)(h2:OD X AS g2):OD X (st::AS) (aD g1 g2):=⟨have h1:=h1.run;have h2:=h2.run;Xa (Ax h1 h2) λD σ H h=>by
 obtain⟨H0,ρ,r,E,e,q⟩:=h;obtain⟨c,e1,e⟩:=AT e;refine⟨H0,ρ,c,E,e1,?_⟩;cases c with
 |nx a=>exact λσ' H' d=>⟨H0,a,r,d,e,q⟩
 |rt b=>cases e;exact q
 |bk a=>cases e;exact q
 |ct a=>cases e;exact q⟩
def TX:Bx->Y As
 |.l _=>Z
 |.n _=>Z
 |b=>U (.rt b)
theorem bJ(h:QV X e f):Q6 X (.Return (U e) pos) (λρ=>(f ρ).bind TX):=⟨have h:=h.run;Wi (Sx h) λD σ H h=>by
 obtain⟨H0,ρ,r,E,e,q⟩:=h;obtain⟨b,eb,e⟩:=AT e;refine⟨H0,ρ,b,E,eb,λv H1 s1 c a=>?_⟩;cases b with
 |l ds=>cases e
 |z d=>cases e;exact q v H1 (E.base.trans s1) trivial a
 |o ds=>cases e;exact q v H1 (E.base.trans s1) (c.old E.base) a
 |n ds=>cases e
 |m ds _=>cases e;exact q v H1 (E.base.trans s1) (c.old E.base) a⟩
def Hw(i:Nat)(ρ:Ev):Y As:=match ρ[i]? with
 |some (U b)=>TX b
 |_=>Z
theorem OJ(i:Nat){p:Pos}(hN:X.N[i]?=U x:=by rfl)(j:QG X.env.scope x:=by first|exact JA rfl|exact QE (JA S)|exact QE (QE S))(hd:dX x:=by decide)(g:(x==("__classdict__":AJ))=false:=by decide):Q6 X (.Return (U (.Name x p)) pos) (Hw i):=⟨Wi (Sx (yd hN j hd g)) λD σ H h=>by
 obtain⟨H0,ρ,r,E,e,q⟩:=h;unfold Hw at e;split at e
 ·rename_i b c;obtain⟨v,e1,f⟩:=E.val i b c;refine⟨v,e1,?_⟩;cases b with
  |l ds=>cases e
  |z d=>cases e;exact q v H E.base trivial f
  |o ds=>cases e;exact q v H E.base (λa ea=>E.new i _ a c S (by rw[e1,ea])) f
  |n ds=>cases e
  |m ds _=>cases e;exact q v H E.base (λa ea=>E.new i _ a c S (by rw[e1,ea])) f
 ·cases e⟩
def rB(p:Ev->Y Bool)(g1 g2:Ev->Y As):Ev->Y As:=λρ=>(p ρ).bind λk=>if k=true then g1 ρ else g2 ρ
theorem ji{p:Ev->Y Bool}{u v:O AB}(d:QB X c p)(b:OD X u g1)(a:OD X v g2):Q6 X (.If c u v pos) (rB p g1 g2):=⟨have d:=d.run;have b:=b.run;have a:=a.run;Wi (NJ d b a) λD σ H h=>by
 obtain⟨H0,ρ,r,E,e,q⟩:=h;obtain⟨k,ek,e⟩:=AT e;refine⟨H0,ρ,k,E,ek,λH1 s1=>?_⟩;cases k with
 |true=>rw[zo rfl]at e ⊢;exact⟨H0,ρ,r,E.grow s1,e,q⟩
 |false=>rw[zC ZE]at e ⊢;exact⟨H0,ρ,r,E.grow s1,e,q⟩⟩
theorem BD{l:O α}{x y:α}(h:(l.set i x)[j]?=U y):(j=i/\y=x/\i<l.length)\/(j≠i/\l[j]?=U y):=by
 rw[kC]at h;by_cases e:i=j
 ·subst e;rw[zo rfl]at h;split at h
  ·cases h;exact .inl ⟨rfl,rfl,by assumption⟩
  ·cases h
 ·rw[zC e]at h;exact .inr ⟨λz=>e z.symm,h⟩
theorem Bh{l:O α}(x:α)(h:i<l.length):(l.set i x)[i]?=U x:=by
 rw[kC,zo rfl,zo h]
theorem Bj{l:O α}(x:α)(h:j≠i):(l.set i x)[j]?=l[j]?:=by
 rw[kC,zC (j0 h)]
theorem bB.set{H1:Hp}{ρ:Ev}{b:Bx}(E:bB K H0 H σ ρ)(s:AV H H1)(r:aQ K H1 b v)(u:wC b=true\/loose b=false)(n:Nw H b v):bB K H0 H1 (σ.set i (U v)) (ρ.set i (U b)):=by
 have C:=E.grow s;have D:∀(j:Nat) (g:Bx) (a:A1),ρ[j]?=U (U g)->loose g=true->σ[j]?=U (U (.ref a))->H a≠Z:=λj g a e1 e2 e3 z=>by
  obtain⟨I,h,x⟩:=E.val j g e1;rw[e3]at h;cases h;cases g with
  |z d=>cases e2
  |l ds=>
   obtain⟨B,vs,f,q,_⟩:=x;cases f;rcases q with q|⟨o,q⟩<;>(rw[z]at q;cases q)
  |o ds=>
   obtain⟨B,vs,f,q,_⟩:=x;cases f;rw[z]at q;cases q
  |n ds=>
   obtain⟨B,vs,f,q,_⟩:=x;cases f;rcases q with q|⟨o,q⟩<;>(rw[z]at q;cases q)
  |m ds _=>
   obtain⟨B,vs,f,q,_⟩:=x;cases f;rw[z]at q;cases q
 have y:wC b=true->∀a,v=.ref a->H a=Z:=λF=>by
  cases b with
  |o ds=>exact n
  |m ds _=>exact n
  |_=>cases F
 refine⟨by rw[kq,kq];exact E.len,λj g e=>?_,λj k c a g e1 t e2 e3 h f=>?_,C.base,λj c a e1 t e2=>?_⟩
 ·rcases BD e with⟨rfl,e',hi⟩|⟨w,e'⟩
  ·cases e';exact⟨v,Bh _ (by rw[E.len];exact hi),r⟩
  ·rw[Bj _ w];exact C.val j g e'
 ·rcases BD e1 with⟨rfl,e',hi⟩|⟨w,e'⟩
  ·cases e';rw[Bh _ (by rw[E.len];exact hi)]at e2;cases e2;rcases BD e3 with⟨rfl,p,_⟩|⟨A,p⟩
   ·rfl
   ·rw[Bj _ A]at f;exact absurd (y t a S) (D k g a p h f)
  ·rw[Bj _ w]at e2;rcases BD e3 with⟨rfl,p,hi⟩|⟨A,p⟩
   ·cases p;rw[Bh _ (by rw[E.len];exact hi)]at f;cases f;have G:loose c=true:=by cases c<;>first|rfl|cases t
    rcases u with u|u
    ·exact absurd (y u a S) (D j _ a e' G e2)
    ·rw[u]at h;cases h
   ·rw[Bj _ A]at f;exact E.own j k c a g e' t e2 p h f
 ·rcases BD e1 with⟨rfl,e',hi⟩|⟨w,e'⟩
  ·cases e';rw[Bh _ (by rw[E.len];exact hi)]at e2;cases e2;exact E.base.free (y t a S)
  ·rw[Bj _ w]at e2;exact E.new j c a e' t e2
def JL(ρ:Ev)(i:Nat):Bx->Y Ev
 |.l _=>Z
 |.n _=>Z
 |b=>U (ρ.set i (U b))
theorem Hx{H1:Hp}{ρ ρ':Ev}{b:Bx}(E:bB K H0 H σ ρ)(s:AV H H1)(r:aQ K H1 b v)(n:Nw H b v)(e:JL ρ i b=U ρ'):bB K H0 H1 (σ.set i (U v)) ρ':=by
 cases b with
 |l ds=>cases e
 |z d=>cases e;exact E.set s r (.inr S) n
 |o d=>cases e;exact E.set s r (.inl S) n
 |n ds=>cases e
 |m d _=>cases e;exact E.set s r (.inl S) n
theorem bL(i:Nat){p:Pos}(hN:X.N.Nodup)(a:QV X e f)(hi:X.N[i]?=U x:=by rfl)(hx:CL X.env.scope x:=by first|exact JA rfl|exact QE S)(hs:swapsWith e (U (.Name x p)) pos.line X.env=pure false:=by rfl)(c:X.fn x=true\/X.env.scope.names.lookup x=U .local:=by first|exact .inl rfl|exact .inr S):Q6 X (.Assign [.Name x p] e pos) (λρ=>(f ρ).bind λb=>(JL ρ i b).bind λρ'=>U (.nx ρ')):=⟨have a:=a.run;Wi (G9 hN hi hx a hs c) λD σ H h=>by
 obtain⟨H0,ρ,r,E,e,q⟩:=h;obtain⟨b,eb,e⟩:=AT e;obtain⟨ρ',d,e⟩:=AT e;cases e;exact⟨H0,ρ,b,E,eb,λv H1 s1 j g=>q _ _ (Hx E s1 g j d)⟩⟩
def Lo(σ:L2.St)(ρ:Ev)(σ':L2.St)(ρ':Ev):Prop:=∀(j:Nat) b,loose b=true->ρ'[j]?=U (U b)->ρ[j]?=U (U b)/\σ'[j]?=σ[j]?
theorem Lo.refl{ρ:Ev}:Lo σ ρ σ ρ:=λ_ _ _ e=>⟨e,rfl⟩
theorem Lo.trans{σ h f:L2.St}{ρ d g:Ev}(a:Lo σ ρ h d)(b:Lo h d f g):Lo σ ρ f g:=λj c l e=>by
 obtain⟨e1,e2⟩:=b j c l e;obtain⟨e3,i⟩:=a j c l e1;exact⟨e3,e2.trans i⟩
theorem Lo.set{ρ:Ev}(i:Nat)(v:V)(d:Dt):Lo σ ρ (σ.set i (U v)) (ρ.set i (U (.z d))):=λj b l e=>by
 rcases BD e with⟨rfl,e',_⟩|⟨a,e'⟩
 ·cases e';cases l
 ·exact⟨e',Bj _ a⟩
def FU(K:B5)(g:Dt->Ev->Y Ev):TG:=λv σ H Q=>∃H0 ρ d a,bB K H0 H σ ρ/\AW K H d v/\g d ρ=U a/\∀ σ',bB K H0 H σ' a->Lo σ ρ σ' a->Q σ' H
def DV(X:Cx)(t:Expr)(g:Dt->Ev->Y Ev):Prop:=PG X t (FU X.K g)
structure Zi (X:Cx) (t:Expr) (g:Dt->Ev->Option Ev):Prop where
 run:DV X t g
theorem bf(i:Nat)(hN:X.N.Nodup)(hi:X.N[i]?=U x:=by rfl)(hx:CL X.env.scope x:=by first|exact JA rfl|exact QE S)(a:X.fn x=true\/X.env.scope.names.lookup x=U .local:=by first|exact .inl rfl|exact .inr S):Zi X (.Name x pos) (λd ρ=>U (ρ.set i (U (.z d)))):=⟨λAN s σ H v u Q I r h=>by
 obtain⟨H0,ρ,d,f,E,c,e,q⟩:=h;cases e;exact Om hN hi hx a AN s σ H v u Q I r (q _ (E.set (b:=.z d) (AV.refl H) c (.inr S) trivial) (Lo.set i v d))⟩
theorem ef(i:Nat)(hN:X.N.Nodup:=by show List.Nodup (_++_);decide +kernel)(hi:X.N[i]?=U x:=by rfl)(hx:CL X.env.scope x:=by first|exact JA rfl|exact QE S)(a:X.fn x=true\/X.env.scope.names.lookup x=U .local:=by first|exact .inl rfl|exact .inr S):Zi X (.Name x pos) (λd ρ=>U (ρ.set i (U (.z d)))):=bf i hN hi hx a
def MD(K:B5)(g:O Dt->Ev->Y Ev):Y8:=λvs σ H Q=>∃H0 ρ ds a,bB K H0 H σ ρ/\aG K H ds vs/\g ds ρ=U a/\∀ σ',bB K H0 H σ' a->Lo σ ρ σ' a->Q σ' H
def MI(X:Cx)(t:O Expr)(g:O Dt->Ev->Y Ev):Prop:=L2.Sy X t (MD X.K g)
structure Xf (X:Cx) (t:List Expr) (g:List Dt->Ev->Option Ev):Prop where
 run:MI X t g
def Bl:O Dt->Ev->Y Ev
 |[],ρ=>U ρ
 |_,_=>Z
def iU(g:Dt->Ev->Y Ev)(gs:O Dt->Ev->Y Ev):O Dt->Ev->Y Ev
 |d::ds,ρ=>(g d ρ).bind (gs ds)
 |_,_=>Z
theorem wG  :Xf X [] Bl:=⟨λAN s σ H vs us Q I r h=>by
 obtain⟨H0,ρ,ds,b,E,a,e,q⟩:=h;cases ds with
 |nil=>cases e;unfold aG at a;exact Wt AN s σ H vs us Q I r ⟨a,q _ E Lo.refl⟩
 |cons d ds=>cases e⟩
theorem fX{t:Expr}{ts:O Expr}{gt:Dt->Ev->Y Ev}{gs:O Dt->Ev->Y Ev}(h1:Zi X t gt)(h2:Xf X ts gs)(hs:(assignEach (t::ts) X.env).map (·.2)=assign t X.env::(assignEach ts X.env).map (·.2):=by rfl):Xf X (t::ts) (iU gt gs):=⟨have h1:=h1.run;have h2:=h2.run;λAN s σ H vs us Q I r h=>by
 obtain⟨H0,ρ,ds,l,E,b,e,q⟩:=h;cases ds with
 |nil=>cases e
 |cons d ds=>
  unfold aG at b;obtain⟨v,n,rfl,m,c⟩:=b;simp only[iU]at e;obtain⟨a,e1,e⟩:=AT e;exact SJ h1 h2 hs AN s σ H _ us Q I r ⟨v,n,rfl,H0,ρ,d,a,E,m,e1,λo i k=>⟨H0,a,ds,l,i,c,e,λg f j=>q g f (k.trans j)⟩⟩⟩
def wH(n:Nat)(gs:O Dt->Ev->Y Ev):Dt->Ev->Y Ev
 |.tup ds,ρ=>if ds.length=n then gs ds ρ else Z
 |_,_=>Z
theorem Bm{ts:O Expr}{gs:O Dt->Ev->Y Ev}(f:X.calm=true)(h:Xf X ts gs)(i:(assignEach ts X.env).length=n:=by rfl)(m:(assignEach ts X.env).findIdx? (·.1)=Z:=by rfl):Zi X (.Tuple ts k pos) (wH n gs):=⟨have h:=h.run;λAN s σ H v u Q I r l=>by
 obtain⟨H0,ρ,d,j,E,b,e,q⟩:=l;cases d with
 |tup ds=>
  simp only[wH]at e;split at e
  ·rename_i g;unfold AW at b;obtain⟨a,vs,rfl,hq,c⟩:=b;exact LH f h i m AN s σ H _ u Q I r ⟨a,vs,rfl,hq,by rw[c.length];exact g,H0,ρ,ds,j,E,c,e,q⟩
  ·cases e
 |_=>cases e⟩
theorem MU{gt:Dt->Ev->Y Ev}(c:QV X e f)(a:Zi X tg gt)(hs:swapsWithSole [tg] e pos.line X.env=pure false:=by rfl)(j:swappedStores [tg] e X.env=pure Z:=by rfl)(h1:(assignEach [tg] X.env).map (·.2)=[assign tg X.env]:=by rfl):Q6 X (.Assign [tg] e pos) (λρ=>(f ρ).bind λb=>match b with|.z d=>(gt d ρ).bind λρ'=>U (.nx ρ')|_=>Z):=⟨have c:=c.run;have a:=a.run;Wi (Hn c a hs j h1) λD σ H h=>by
 obtain⟨H0,ρ,r,E,e,q⟩:=h;obtain⟨b,eb,e⟩:=AT e;refine⟨H0,ρ,b,E,eb,λv H1 s1 l k=>?_⟩;cases b with
 |z d=>
  obtain⟨ρ',i,e⟩:=AT e;cases e;exact⟨H0,ρ,d,ρ',E.grow s1,k,i,λσ' g _=>q _ _ g⟩
 |_=>cases e⟩
def Xg(ρ:Ev)(i:Nat):Bx->Y As
 |.z d=>match ρ[i]? with
  |some (U (.o ds))=>if ds.length<AA then U (.nx (ρ.set i (U (.o (ds++[d])))))else Z
  |_=>Z
 |_=>Z
theorem bB.ae5{ρ:Ev}{w c1:Bx}{a:A1}{u:HO}(E:bB K H0 H σ ρ)(h:ρ[i]?=U (U w))(x:wC w=true)(hs:σ[i]?=U (U (.ref a)))(k:Kp H (B7 H a u))(r:aQ K (B7 H a u) c1 (.ref a)):
  bB K H0 (B7 H a u) σ (ρ.set i (U c1)):=by
 have hi:i<ρ.length:=(ae.mp h).1;have M:H0 a=Z:=E.new i w a h x hs;have lo:∀c,wC c=true->loose c=true:=λc Q=>by cases c<;>first|rfl|cases Q
 refine⟨by rw[kq];exact E.len,λj y e=>?_,λj G c f y e1 B e2 e3 P N=>?_,λc o e=>?_,λj c f e1 B e2=>?_⟩
 ·rcases BD e with⟨rfl,e',_⟩|⟨D,e'⟩
  ·cases e';exact⟨_,hs,r⟩
  ·obtain⟨v,e1,t⟩:=E.val j y e';refine⟨v,e1,?_⟩;have A:∀f,v=.ref f->loose y=true->f≠a:=λf ev J z=>by
    subst z;exact D (E.own i j w _ _ h x hs e' J (by rw[e1,ev])).symm
   cases y with
   |z d=>exact AW.kp k t
   |l C=>
    obtain⟨f,s,rfl,q,p⟩:=t;refine⟨f,s,rfl,?_,p.kp k⟩;have g:=A f S rfl;rcases q with q|⟨o,q⟩
    ·exact .inl (by rw[aX g];exact q)
    ·exact .inr ⟨o,by rw[aX g];exact q⟩
   |o C=>
    obtain⟨f,s,rfl,q,p⟩:=t;have g:=A f S rfl;exact⟨f,s,rfl,by rw[aX g];exact q,p.kp k⟩
   |n C=>
    obtain⟨f,s,rfl,q,p⟩:=t;refine⟨f,s,rfl,?_,p.kp k⟩;have g:=A f S rfl;rcases q with q|⟨o,q⟩
    ·exact .inl (by rw[aX g];exact q)
    ·exact .inr ⟨o,by rw[aX g];exact q⟩
   |m C=>
    obtain⟨f,s,rfl,q,p⟩:=t;have g:=A f S rfl;exact⟨f,s,rfl,by rw[aX g];exact q,p.1.kp k,p.2⟩
 ·have F:∀(m:Nat) (b:Bx),(ρ.set i (U c1))[m]?=U (U b)->loose b=true->∃b0,ρ[m]?=U (U b0)/\loose b0=true/\(wC b=true->wC b0=true):=λm b e l=>by
   rcases BD e with⟨rfl,e',_⟩|⟨D,e'⟩
   ·exact⟨_,h,lo _ x,λ_=>x⟩
   ·exact⟨b,e',l,λz=>z⟩
  obtain⟨b0,q1,q2,q3⟩:=F j _ e1 (lo _ B);obtain⟨b1,I,L,_⟩:=F G _ e3 P;exact E.own j G b0 f b1 q1 (q3 B) e2 I L N
 ·rw[aX (bZ e M)];exact E.base c o e
 ·rcases BD e1 with⟨rfl,e',_⟩|⟨D,e'⟩
  ·exact E.new _ w f h x e2
  ·exact E.new j c f e' B e2
theorem bB.Tf{ρ:Ev}{ds es:O Dt}{a:A1}{us:O V}(E:bB K H0 H σ ρ)(h:ρ[i]?=U (U (.o ds)))(hs:σ[i]?=U (U (.ref a)))(b:H a=U (.lst vs))(r:aG K H es us):
  bB K H0 (B7 H a (.lst us)) σ (ρ.set i (U (.o es))):=E.ae5 h S hs (.lst b) ⟨a,us,rfl,aW,r.kp (.lst b)⟩
theorem Bo(i:Nat){p:Pos}(g:QV X e f)(hN:X.N[i]?=U x:=by rfl)(w:QG X.env.scope x:=by first|exact JA rfl|exact QE (JA S)|exact QE (QE S))(hd:dX x:=by decide)(y:(x==("__classdict__":AJ))=false:=by decide)(l:A9 [e] X.env=[(false,eval e X.env)]:=by rfl)(o:attributeBase (.Name x p) "append" X.env (eval (.Name x p) X.env)=eval (.Name x p) X.env:=by rfl)(m:((AD cpos (A9 [e] X.env)).all (λx=>!x.1)&&(backToKw cpos (keywordEach [] X.env)).all (λx=>x.1.isSome)&&decide ([e].length+([]:O AC).length+(if([]:O AC).isEmpty then 0 else 1)<30))=true:=by rfl)(t:(apos.endLine==cpos.line)=true:=by rfl)(hs:swapsWith (.Call (.Attribute (.Name x p) "append" apos) [e] [] cpos) Z pos.line X.env=pure false:=by rfl):Q6 X (.Expr (.Call (.Attribute (.Name x p) "append" apos) [e] [] cpos) pos) (λρ=>(f ρ).bind (Xg ρ i)):=⟨have g:=g.run;Wi (Ws (Ou PySem.F.plainAttrs_list PySem.F.slot_list_append PySem.F.type_list_append Fy (yd (i:=i) hN w hd y) (tW g yj (by rw[l]<;>rfl)) o m t (by rw[l]<;>rfl) S) hs) λD σ H h=>by
  obtain⟨H0,ρ,r,E,e,q⟩:=h;obtain⟨b,eb,e⟩:=AT e;cases b with
  |z d=>
   simp only[Xg]at e;split at e
   ·rename_i ds k;split at e
    ·rename_i n;cases e;obtain⟨v,e1,a,vs,rfl,c,j⟩:=E.val i _ k;refine⟨_,e1,.inl ⟨rfl,vs,.inl (.inl c)⟩,H0,ρ,_,E,eb,λu H1 s1 B A=>?_⟩;have s:=E.grow s1;refine⟨a,vs,u,rfl,rfl,s1 _ _ c,by rw[j.length];exact n,q _ _ ?_⟩;exact s.Tf k e1 (s1 _ _ c) ((j.kp (.of s1)).append (aG.cons A aG.nil))
    ·cases e
   ·cases e
  |_=>cases e⟩
end
def F2(x:AJ):It:=⟨λi _=>i<x.cps.size,λi H v H'=>H'=H/\∃c,x.cps[i]?=U c/\v=.str ⟨#[c]⟩,λi _=>x.cps.size<=i⟩
def MH(h:A6)(it:A1)(x:AJ)(i:Nat):Prop:=∃t,h.IsStrIter it "str_ascii_iterator" x t i\/h.IsStrIter it "str_iterator" x t i
theorem JM(it:A1)(x:AJ):CB P w K tg (F2 x) [it] it (λi h=>MH h it x i) where
 mem:=by simp
 obj:=λi h st b a=>by
  have e:b=it:=by simpa using a
  subst e;obtain⟨t,⟨o,e,c,d⟩|⟨o,e,c,d⟩⟩:=st
  ·exact⟨o,e,λv z=>by rw[d]at z;cases z⟩
  ·exact⟨o,e,λv z=>by rw[d]at z;cases z⟩
 keep:=λi h h' st k=>by
  obtain⟨t,⟨o,e,c⟩|⟨o,e,c⟩⟩:=st
  ·exact⟨t,.inl ⟨o,k it (by simp) o e,c⟩⟩
  ·exact⟨t,.inr ⟨o,k it (by simp) o e,c⟩⟩
 item:=by
  intro X n B u A i AN s σ H E I j st q;subst n B u;obtain⟨f0,f1,f2,m,l,f⟩:=j it (by simp);have hi:i<x.cps.size:=q;have hx:x.cps[i]?=U x.cps[i]:=by simp[hi]
  obtain⟨t,st|st⟩:=st
  ·refine wpAny_pyNext_ascii_item st hx λh' g y=>?_;have p:L2.AU X AN σ H { s with heap:=h',toks:=s.toks+1 }:=I.turned (λb o a e=>(y.2 b a).trans e) f0 f1 m l f;obtain⟨o,e,c,d⟩:=id g;exact⟨_,rfl,Jy (s:={ s with heap:=h',toks:=s.toks+1 }) e c d () ⟨.str ⟨#[x.cps[i]]⟩,H,p,⟨_,rfl⟩,⟨rfl,_,hx,rfl⟩,⟨t,.inl g⟩,λb a=>(j b a).1⟩⟩
  ·refine wpAny_pyNext_wide_item st hx λh' g y=>?_;have p:L2.AU X AN σ H { s with heap:=h',toks:=s.toks+1 }:=I.turned (λb o a e=>(y.2 b a).trans e) f0 f1 m l f;obtain⟨o,e,c,d⟩:=id g;exact⟨_,rfl,Jy (s:={ s with heap:=h',toks:=s.toks+1 }) e c d () ⟨.str ⟨#[x.cps[i]]⟩,H,p,⟨_,rfl⟩,⟨rfl,_,hx,rfl⟩,⟨t,.inr g⟩,λb a=>(j b a).1⟩⟩
 done:=by
  intro X n B u A i AN s σ H E I j st q;subst n B u;obtain⟨f0,f1,f2,m,l,f⟩:=j it (by simp);have hx:x.cps[i]?=Z:=by have:x.cps.size<=i:=q;simp[this]
  obtain⟨t,st|st⟩:=st
  ·exact wpAny_pyNext_ascii_end (I.ok.hd A) st hx λh' eb=>⟨rfl,I.turned (t':=s.toks) (λb o a e=>eb b o a e) f0 f1 m l f⟩
  ·exact wpAny_pyNext_wide_end (I.ok.hd A) st hx λh' eb=>⟨rfl,I.turned (t':=s.toks) (λb o a e=>eb b o a e) f0 f1 m l f⟩
 self:=λ_ _ _ _ _ st h=>by
  obtain⟨t,st|st⟩:=st
  ·exact wpAny_pyIter_striter_ascii st h
  ·exact wpAny_pyIter_striter_wide st h
def Na(K:B5)(tl:TE):TI:=λσ H R=>tl σ H λx H1=>(∃a,x=.ref a/\(∃xs,oK K H1 a xs)/\R (E6 K a) H1)\/(∃a,x=.ref a/\(∃xs,wg K H1 a xs)/\R (F0 K a) H1)\/∃y,x=.str y/\R (F2 y) H1
theorem Mt{l:Expr}{tl:TE}(i:PE X l tl):PI X tg l (Na X.K tl):=by
 intro AN s σ H R I h;refine jO (i AN s σ H _ I h) λv s1 ⟨x,H1,I1,r1,q1⟩=>?_;have c:∀(o:AE) (b:A1),b∈[s1.heap.objs.size]->q8 X AN H1 b:=λo b j=>by
  have e:b=s1.heap.objs.size:=by simpa using j
  subst e;exact I1.Wu (zl _) (I1.hok.fresh (zl _))
 rcases q1 with⟨a,e,⟨xs,hq⟩,q⟩|⟨a,e,⟨xs,hq⟩,q⟩|⟨y,e,q⟩
 ·subst e;cases r1;obtain⟨AQ,f,p,g⟩:=I1.list hq;refine kf p.isList ?_;exact⟨s1.heap.objs.size,[s1.heap.objs.size],_,_,H1,rfl,I1.kept (t':=s1.toks) λb o e=>zd _ e,QJ a _,⟨_,zt _ rfl,rfl,rfl⟩,c default,q⟩
 ·subst e;cases r1;obtain⟨AQ,f,p,g⟩:=I1.tuple hq;refine ku (show s1.heap.IsTuple a AQ.toArray from p) ?_;exact⟨s1.heap.objs.size,[s1.heap.objs.size],_,_,H1,rfl,I1.kept (t':=s1.toks) λb o e=>zd _ e,LR a _,⟨_,zt _ rfl,rfl,rfl⟩,c default,q⟩
 ·subst e;obtain⟨t,rfl⟩:=r1;cases d:y.cps.all (· < 128)with
  |true=>
   refine wpAny_pyIter_ascii d ?_;exact⟨s1.heap.objs.size,[s1.heap.objs.size],_,_,H1,rfl,I1.kept (t':=s1.toks) λb o e=>zd _ e,JM _ y,⟨t,.inl ⟨_,zt _ rfl,rfl,rfl⟩⟩,c default,q⟩
  |false=>
   refine wpAny_pyIter_wide d ?_;exact⟨s1.heap.objs.size,[s1.heap.objs.size],_,_,H1,rfl,I1.kept (t':=s1.toks) λb o e=>zd _ e,JM _ y,⟨t,.inr ⟨_,zt _ rfl,rfl,rfl⟩⟩,c default,q⟩
def B6(K:B5)(J:It)(ds:O Dt)(Hs:Hp):Prop:=∀(i:Nat) (H:Hp),AV Hs H →
 (∀d,ds[i]?=U d->J.go i H/\∀x H',J.yld i H x H'->AV H H'/\AW K H' d x)/\(ds.length<=i->J.stop i H)
theorem B6.of{ds:O Dt}(h:∀(i:Nat) (H:Hp),AV Hs H →
  (∀d,ds[i]?=U d->J.go i H/\∀x H',J.yld i H x H'->H'=H/\AW K H d x)/\(ds.length<=i->J.stop i H)):B6 K J ds Hs:=λi H s=>
 ⟨λd e=>⟨((h i H s).1 d e).1,λx H' y=>by
  obtain⟨rfl,r⟩:=((h i H s).1 d e).2 x H' y;exact⟨AV.refl _,r⟩⟩,(h i H s).2⟩
def Be(x:AJ):O Dt:=x.cps.toList.map λc=>.str ⟨#[c]⟩
theorem B6.list{ds:O Dt}(h:oK K Hs a vs)(r:aG K Hs ds vs):B6 K (E6 K a) ds Hs:=.of λi H s=>by
 have h':=s.seq h;have b:=r.kp (.of s);refine⟨λd e=>?_,λe=>⟨vs,h',by rw[r.length];exact e⟩⟩;obtain⟨v,ev,c⟩:=b.get e;refine⟨⟨vs,v,h',ev⟩,λx H' y=>?_⟩;obtain⟨y1,y2⟩:=y;have:=y2 vs h';rw[ev]at this;cases this;exact⟨y1,c⟩
theorem B6.tup{ds:O Dt}(h:wg K Hs a vs)(r:aG K Hs ds vs):B6 K (F0 K a) ds Hs:=.of λi H s=>by
 have h':=(Kp.of s).sqT h;have b:=r.kp (.of s);refine⟨λd e=>?_,λe=>⟨vs,h',by rw[r.length];exact e⟩⟩;obtain⟨v,ev,c⟩:=b.get e;refine⟨⟨vs,v,h',ev⟩,λx H' y=>?_⟩;obtain⟨y1,y2⟩:=y;have:=y2 vs h';rw[ev]at this;cases this;exact⟨y1,c⟩
theorem B6.str(x:AJ):B6 K (F2 x) (Be x) Hs:=.of λi H s=>by
 refine⟨λd e=>?_,λe=>?_⟩
 ·unfold Be at e;rw[ZH]at e;cases h:x.cps.toList[i]? with
  |none=>rw[h]at e;cases e
  |some c=>
   rw[h]at e;cases e;have b:x.cps[i]?=U c:=by simpa using h
   have hi:i<x.cps.size:=by
    have:=(ae.mp h).1;simpa using this
   refine⟨hi,λv H' y=>?_⟩;obtain⟨y1,c',a,rfl⟩:=y;rw[b]at a;cases a;refine⟨y1,?_⟩;unfold AW;exact⟨rfl,by show(1:Nat)<=AA;decide⟩
 ·have:(Be x).length=x.cps.size:=by simp[Be]
  show x.cps.size<=i;omega
def Hy(lo:Int)(n:Nat):O Dt:=(ax n).map λk=>.int (lo+(k:Nat))
theorem B6.rng(lo:Int)(n:Nat):B6 K (EA lo n) (Hy lo n) Hs:=.of λi H s=>by
 refine⟨λd e=>?_,λe=>?_⟩
 ·unfold Hy at e;rw[ZH]at e;by_cases hi:i<n
  ·rw[cN hi]at e;cases e;refine⟨hi,λv H' y=>?_⟩;obtain⟨y1,y2⟩:=y;refine⟨y1,?_⟩;unfold AW;exact y2
  ·rw[List.getElem?_eq_none (by simp;omega)]at e;cases e
 ·have:(Hy lo n).length=n:=by simp[Hy]
  show n<=i;omega
def iF(K:B5)(f:Ev->Y (O Dt)):TI:=λσ H R=>∃H0 ρ ds,bB K H0 H σ ρ/\f ρ=U ds/\∀J H',AV H H' →
 (∀Hs,AV Hs H'->(∀a,H a=Z->Hs a=H' a)->(∀a o u,H' a=U (.rA o u)->Hs a=H' a)->(∀a vs,H' a=U (.tup vs)->Hs a=H' a)->B6 K J ds Hs)->R J H'
def Hk(X:Cx)(tg iter:Expr)(f:Ev->Y (O Dt)):Prop:=PI X tg iter (iF X.K f)
structure EG (X:Cx) (tg iter:Expr) (f:Ev->Option (List Dt)):Prop where
 run:Hk X tg iter f
def TY:Bx->Y (O Dt)
 |.z (.lst ds)=>U ds
 |.z (.tup ds)=>U ds
 |.z (.str x)=>U (Be x)
 |.o ds=>U ds
 |_=>Z
section
variable{f:Ev->Y Bx}{fs:Ev->Y (O Bx)}
mutual
theorem AW.part{K:B5}{H Hs:Hp}(b:∀a o u,H a=U (.rA o u)->Hs a=H a)(c:∀a vs,H a=U (.tup vs)->Hs a=H a):∀{d:Dt} {v:V},AW K H d v->AW K Hs d v
 |.non,_,h=>by simpa only[AW]using h
 |.bl _,_,h=>by simpa only[AW]using h
 |.int _,_,h=>by simpa only[AW]using h
 |.str _,_,h=>by simpa only[AW]using h
 |.tup ds,_,h=>by
  simp only[AW]at h ⊢;obtain⟨a,vs,e,q,r⟩:=h;refine⟨a,vs,e,?_,aG.part b c r⟩;rcases q with (q|⟨o,q⟩)|q
  ·exact .inl (.inl ((c _ _ q).trans q))
  ·exact .inl (.inr ⟨o,(b _ _ _ q).trans q⟩)
  ·exact .inr q
 |.lst ds,_,h=>by
  simp only[AW]at h ⊢;obtain⟨a,vs,e,q,r⟩:=h;refine⟨a,vs,e,?_,aG.part b c r⟩;rcases q with⟨o,q⟩|q
  ·exact .inl ⟨o,(b _ _ _ q).trans q⟩
  ·exact .inr q
 |.emp,_,h=>by
  simp only[AW]at h ⊢;obtain⟨a,o,e,q⟩:=h;exact⟨a,o,e,(b _ _ _ q).trans q⟩
theorem aG.part{K:B5}{H Hs:Hp}(b:∀a o u,H a=U (.rA o u)->Hs a=H a)(c:∀a vs,H a=U (.tup vs)->Hs a=H a):∀{ds:O Dt} {vs:O V},aG K H ds vs->aG K Hs ds vs
 |[],_,h=>by simpa only[aG]using h
 |d::ds,_,h=>by
  simp only[aG]at h ⊢;obtain⟨v,r,e,q,t⟩:=h;exact⟨v,r,e,AW.part b c q,aG.part b c t⟩
end
theorem Hz(h:QV X e f):EG X tg e (λρ=>(f ρ).bind TY):=⟨have h:=h.run;λAN s σ H R I q=>by
 refine Mt h AN s σ H R I ?_;obtain⟨H0,ρ,ds,E,e,q⟩:=q;obtain⟨b,eb,e⟩:=AT e;refine⟨H0,ρ,b,E,eb,λv H1 s1 t i=>?_⟩;cases b with
 |z d=>
  cases d with
  |tup j=>
   cases e;simp only[aQ,AW]at i;obtain⟨a,vs,rfl,hq,k⟩:=i;refine .inr (.inl ⟨a,rfl,⟨vs,hq⟩,q _ _ s1 λHs hs p c g=>.tup ?_ (k.part c g)⟩);rcases hq with (hq|⟨o,hq⟩)|hq
   ·exact .inl (.inl ((g _ _ hq).trans hq))
   ·exact .inl (.inr ⟨o,(c _ _ _ hq).trans hq⟩)
   ·exact .inr hq
  |lst j=>
   cases e;simp only[aQ,AW]at i;obtain⟨a,vs,rfl,hq,k⟩:=i;refine .inl ⟨a,rfl,⟨vs,hq.sq⟩,q _ _ s1 λHs hs p c g=>.list ?_ (k.part c g)⟩;rcases hq with⟨o,hq⟩|hq
   ·exact .inl (.inr ⟨o,(c _ _ _ hq).trans hq⟩)
   ·exact .inr hq
  |str x=>
   cases e;simp only[aQ,AW]at i;obtain⟨rfl,_⟩:=i;exact .inr (.inr ⟨x,rfl,q _ _ s1 λHs hs p c g=>.str x⟩)
  |_=>cases e
 |l j=>cases e
 |n j=>cases e
 |m j=>cases e
 |o j=>
  cases e;obtain⟨a,vs,rfl,hq,k⟩:=i;refine .inl ⟨a,rfl,⟨vs,.inl (.inl hq)⟩,q _ _ s1 λHs hs p c g=>.list (.inl (.inl ((p a (t a S)).trans hq))) (k.part c g)⟩⟩
def FE:O Bx->Y (O Dt)
 |[.z (.int j)]=>if -(2 ^ 62)<=j/\j<2 ^ 62 then U (Hy 0 j.toNat)else Z
 |_=>Z
theorem kZ{p:Pos}(d:Gl X "range")(c:X.mg "range"=Z)(a:Tt X [e] fs)(hs:A9 [e] X.env=[(false,eval e X.env)]:=by rfl):EG X tg (.Call (.Name "range" p) [e] [] pos) (λρ=>(fs ρ).bind FE):=⟨have a:=a.run;λAN s σ H R I q=>by
 refine QK d c a hs AN s σ H R I ?_;obtain⟨H0,ρ,ds,E,e,q⟩:=q;obtain⟨bs,eb,e⟩:=AT e;refine⟨H0,ρ,bs,E,eb,λvs H1 s1 f=>?_⟩;unfold FE at e;split at e
 ·rename_i j;split at e
  ·rename_i b;cases e;cases f with
   |cons p t=>
    cases t;simp only[aQ,AW]at p;subst p;exact⟨j,rfl,b.1,b.2,q _ _ s1 λHs _ _ _ _=>.rng 0 _⟩
  ·cases e
 ·cases e⟩
def rK(gt:Dt->Ev->Y Ev)(gb:Ev->Y As):O Dt->Ev->Y As
 |[],ρ=>U (.nx ρ)
 |d::ds,ρ=>(gt d ρ).bind λc=>(gb c).bind λr=>match r with
  |.nx a=>rK gt gb ds a
  |.ct a=>rK gt gb ds a
  |.bk a=>U (.nx a)
  |.rt b=>U (.rt b)
noncomputable def d7(H:Hp)(σ:L2.St)(ρ:Ev):Hp:=λa=>@ite _ (∃(i:Nat) (c:Bx),ρ[i]?=U (U c)/\wC c=true/\σ[i]?=U (U (.ref a))) (Classical.propDecidable _) Z (H a)
theorem wI{ρ:Ev}:AV (d7 H σ ρ) H:=λa o e=>by
 unfold d7 at e;split at e
 ·cases e
 ·exact e
theorem bB.rebase{ρ:Ev}(E:bB K Hs H σ ρ)(s:AV H0 Hs):bB K H0 H σ ρ:=⟨E.len,E.val,E.own,s.trans E.base,λi c a e1 b e2=>s.free (E.new i c a e1 b e2)⟩
theorem bB.sans{ρ:Ev}(E:bB K H0 H σ ρ):bB K (d7 H σ ρ) H σ ρ:=⟨E.len,E.val,E.own,wI,λi c a e1 b e2=>by
 unfold d7;rw[zo ⟨i,c,e1,b,e2⟩]⟩
theorem bB.sub{ρ:Ev}(E:bB K H0 H σ ρ):AV H0 (d7 H σ ρ):=λa o e=>by
 unfold d7;split
 ·rename_i h;obtain⟨i,c,e1,b,e2⟩:=h;rw[E.new i c a e1 b e2]at e;cases e
 ·exact E.base a o e
theorem gw{ρ:Ev}(E:bB K H0 H σ ρ)(h:∀vs,H a≠U (.lst vs))(h2:∀vs,H a≠U (.dK vs)):d7 H σ ρ a=H a:=by
 unfold d7;split
 ·rename_i e;obtain⟨i,c,e1,f,e2⟩:=e;obtain⟨v,e3,d⟩:=E.val i _ e1;rw[e2]at e3;cases e3;cases c with
  |o ds=>obtain⟨g,vs,b,q,_⟩:=d;cases b;exact absurd q (h vs)
  |m ds _=>obtain⟨g,vs,b,q,_⟩:=d;cases b;exact absurd q (h2 vs)
  |_=>cases f
 ·rfl
theorem TV.rebase{K:B5}{H0 Hs:Hp}{D:C1}{r:As}(s:AV H0 Hs)(h:TV K H0 D r):TV K Hs D r:=by
 cases r with
 |nx ρ=>exact λσ H E=>h σ H (E.rebase s)
 |bk ρ=>exact λσ H E=>h σ H (E.rebase s)
 |ct ρ=>exact λσ H E=>h σ H (E.rebase s)
 |rt b=>exact λv H s' n r=>h v H (s.trans s') (n.old s) r
theorem o8{gt:Dt->Ev->Option Ev}{gb:Ev->Option As}{ds:O Dt}{H1:Hp}{ρ:Ev}{D:C1}{r:As}(n:bB X.K H0 H1 σ ρ)(Y:B6 X.K J ds (d7 H1 σ ρ))(e:rK gt gb ds ρ=U r)(q:TV X.K H0 D r):
  ∃W:Nat->Nat->L2.St->Hp->Prop,(∃m,W 0 m σ H1)/\∀i m σ H,W i m σ H →
   (J.stop i H/\D.nx σ H)\/(J.go i H/\∃N:L2.St->Hp->Prop,(∀ σ' H',N σ' H'->∃o,o<m/\W (i+1) o σ' H')/\∀x H',J.yld i H x H'->FU X.K gt x σ H' λc H2=>tG X.K gb { D with nx:=N,ct:=N,bk:=D.nx } c H2):=by
 have k:=n.sans;have q2:=q.rebase n.sub;generalize d7 H1 σ ρ=Hs at Y k q2;refine⟨λi m σ' H'=>m=ds.length-i/\i<=ds.length/\∃d,bB X.K Hs H' σ' d/\rK gt gb (ds.drop i) d=U r,⟨ds.length,by simp,qi _,ρ,k,by simpa using e⟩,?_⟩;rintro i m σ' H' ⟨rfl,A,d,h,e'⟩;obtain⟨y1,y2⟩:=Y i H' h.base;by_cases j:i<ds.length
 ·right;have hd:ds[i]?=U ds[i]:=by simp[j]
  obtain⟨go,w⟩:=y1 _ hd;rw[cb j]at e';simp only[rK]at e';obtain⟨p,e1,e'⟩:=AT e';obtain⟨s,e2,e'⟩:=AT e';refine⟨go,λc H2=>∃a,bB X.K Hs H2 c a/\rK gt gb (ds.drop (i+1)) a=U r,λc H2 ⟨a,f,e3⟩=>⟨ds.length-(i+1),by omega,rfl,j,a,f,e3⟩,λx H2 y=>?_⟩;obtain⟨v,t⟩:=w x H2 y;refine⟨Hs,d,ds[i],p,h.grow v,t,e1,λz f _=>⟨Hs,p,s,f,e2,?_⟩⟩;cases s with
  |nx a=>exact λc u g=>⟨a,g,e'⟩
  |ct a=>exact λc u g=>⟨a,g,e'⟩
  |bk a=>cases e';exact q2
  |rt b=>cases e';exact q2
 ·left;have l:ds.length<=i:=by omega
  refine⟨y2 l,?_⟩;rw[cz l]at e';cases e';exact q2 σ' H' h
theorem p7{fi:Ev->Y (O Dt)}{gt:Dt->Ev->Y Ev}{gb:Ev->Y As}(hp:PassesOwn (d9 X) X.A X.env X.xe)(t:X.calm=true)(hi:EG X tg iter fi)(j:Zi X tg gt)(g:OD X body gb)(hs:∀x,foldedSetIterable iter X.env x=pure x:=by intro _;rfl):Q6 X (.For tg iter body [] pos) (λρ=>(fi ρ).bind λds=>rK gt gb ds ρ):=⟨have hi:=hi.run;have j:=j.run;have g:=g.run;Wi (SN hp t hi j g hs) λD σ H h=>by
 obtain⟨H0,ρ,r,E,e,q⟩:=h;obtain⟨ds,l,e⟩:=AT e;refine⟨H0,ρ,ds,E,l,λJ H1 s1 y=>?_⟩;have f:=E.grow s1;refine o8 f ?_ e q;refine y _ wI (λa b=>?_) (λa o u b=>gw f (λvs z=>by rw[b]at z;cases z) (λvs z=>by rw[b]at z;cases z)) λa vs b=>gw f (λvs z=>by rw[b]at z;cases z) (λvs z=>by rw[b]at z;cases z);unfold d7;split
 ·rename_i n;obtain⟨i,c,e1,p,e2⟩:=n;obtain⟨v,e3,k⟩:=E.val i _ e1;rw[e2]at e3;cases e3;cases c with
  |o ds=>obtain⟨s,vs,d,q,_⟩:=k;cases d;rw[b]at q;cases q
  |m ds _=>obtain⟨s,vs,d,q,_⟩:=k;cases d;rw[b]at q;cases q
  |_=>cases p
 ·rfl⟩
theorem bB.lend{ρ:Ev}{ds:O Dt}(E:bB K H0 H σ ρ)(h:ρ[i]?=U (U (.o ds))):bB K H0 H σ (ρ.set i (U (.l ds))):=by
 have f:∀(j:Nat) (b:Bx),(ρ.set i (U (.l ds)))[j]?=U (U b)->(j=i/\b=.l ds)\/(j≠i/\ρ[j]?=U (U b)):=λj b e=>by
  rcases BD e with⟨rfl,e',_⟩|⟨g,e'⟩
  ·cases e';exact .inl ⟨rfl,rfl⟩
  ·exact .inr ⟨g,e'⟩
 refine⟨by rw[kq];exact E.len,λj b e=>?_,λj k c a b e1 d e2 e3 p m=>?_,E.base,λj c a e1 d e2=>?_⟩
 ·rcases f j b e with⟨rfl,rfl⟩|⟨g,e'⟩
  ·obtain⟨v,e1,a,vs,e2,q,r⟩:=E.val _ _ h;exact⟨v,e1,a,vs,e2,.inl q,r⟩
  ·exact E.val j b e'
 ·rcases f j _ e1 with⟨rfl,z⟩|⟨g,e'⟩
  ·subst z;cases d
  ·rcases f k _ e3 with⟨rfl,z⟩|⟨s,n⟩
   ·exact E.own j _ c a _ e' d e2 h S m
   ·exact E.own j k c a b e' d e2 n p m
 ·rcases f j _ e1 with⟨rfl,z⟩|⟨g,e'⟩
  ·subst z;cases d
  ·exact E.new j c a e' d e2
def DY(i:Nat)(gt:Dt->Ev->Y Ev)(gb:Ev->Y As)(ρ:Ev):Y As:=match ρ[i]? with
 |some (U (.o ds))=>rK gt gb ds (ρ.set i (U (.l ds)))
 |some (U (.l ds))=>rK gt gb ds ρ
 |some (U b)=>(TY b).bind λds=>rK gt gb ds ρ
 |_=>Z
theorem T3{ρ:Ev}{ds:O Dt}(E:bB X.K H0 H σ ρ)(h:ρ[i]?=U (U (.l ds))):∃a vs,σ[i]?=U (U (.ref a))/\oK X.K H a vs/\B6 X.K (E6 X.K a) ds (d7 H σ ρ):=by
 obtain⟨v,e1,a,vs,rfl,q,r⟩:=E.val i _ h;have hk:d7 H σ ρ a=H a:=by
  unfold d7;split
  ·rename_i f;obtain⟨j,c,e2,e,e3⟩:=f;have:=E.own j i c a _ e2 e e3 h S e1;subst this;rw[h]at e2;cases e2;cases e
  ·rfl
 refine⟨a,vs,e1,.inl q,.list (.inl ?_) (r.part (λb o u d=>gw E (λvs z=>by rw[d]at z;cases z) (λvs z=>by rw[d]at z;cases z)) λb ws d=>gw E (λvs z=>by rw[d]at z;cases z) (λvs z=>by rw[d]at z;cases z))⟩;rcases q with q|⟨o,q⟩
 ·exact .inl (hk.trans q)
 ·exact .inr ⟨o,hk.trans q⟩
theorem O1(i:Nat){p:Pos}{gt:Dt->Ev->Option Ev}{gb:Ev->Option As}(hp:PassesOwn (d9 X) X.A X.env X.xe)(I:X.calm=true)(t:Zi X tg gt)(c:OD X body gb)(hN:X.N[i]?=U x:=by rfl)(G:QG X.env.scope x:=by first|exact JA rfl|exact QE (JA S)|exact QE (QE S))(hd:dX x:=by decide)(J:(x==("__classdict__":AJ))=false:=by decide)(hs:∀y,foldedSetIterable (.Name x p) X.env y=pure y:=by intro _;rfl):Q6 X (.For tg (.Name x p) body [] pos) (DY i gt gb):=⟨have t:=t.run;have c:=c.run;Wi (SN hp I (Mt (yd (i:=i) hN G hd J)) t c hs) λD σ H h=>by
 obtain⟨H0,ρ,r,E,e,q⟩:=h;unfold DY at e;split at e
 ·rename_i ds k;have F:=E.lend k;have hi:i<ρ.length:=(ae.mp k).1;obtain⟨a,vs,e1,sq,Y⟩:=T3 F (Bh _ hi);exact⟨_,e1,.inl ⟨a,rfl,⟨vs,sq⟩,o8 F Y e q⟩⟩
 ·rename_i ds k;obtain⟨a,vs,e1,sq,Y⟩:=T3 E k;exact⟨_,e1,.inl ⟨a,rfl,⟨vs,sq⟩,o8 E Y e q⟩⟩
 ·rename_i b K L k;obtain⟨ds,f,e⟩:=AT e;obtain⟨v,e1,g⟩:=E.val i _ k;have s:∀b o u,H b=U (.rA o u)->d7 H σ ρ b=H b:=λb o u c=>gw E (λvs z=>by rw[c]at z;cases z) (λvs z=>by rw[c]at z;cases z);have B:∀b ws,H b=U (.tup ws)->d7 H σ ρ b=H b:=λb ws c=>gw E (λvs z=>by rw[c]at z;cases z) (λvs z=>by rw[c]at z;cases z);cases b with
  |z d=>
   cases d with
   |tup j=>
    cases f;simp only[aQ,AW]at g;obtain⟨a,vs,rfl,hq,C⟩:=g;refine⟨_,e1,.inr (.inl ⟨a,rfl,⟨vs,hq⟩,o8 E (.tup ?_ (C.part s B)) e q⟩)⟩;rcases hq with (hq|⟨o,hq⟩)|hq
    ·exact .inl (.inl ((B _ _ hq).trans hq))
    ·exact .inl (.inr ⟨o,(s _ _ _ hq).trans hq⟩)
    ·exact .inr hq
   |lst j=>
    cases f;simp only[aQ,AW]at g;obtain⟨a,vs,rfl,hq,C⟩:=g;refine⟨_,e1,.inl ⟨a,rfl,⟨vs,hq.sq⟩,o8 E (.list ?_ (C.part s B)) e q⟩⟩;rcases hq with⟨o,hq⟩|hq
    ·exact .inl (.inr ⟨o,(s _ _ _ hq).trans hq⟩)
    ·exact .inr hq
   |str x=>
    cases f;simp only[aQ,AW]at g;obtain⟨rfl,_⟩:=g;exact⟨_,e1,.inr (.inr ⟨x,rfl,o8 E (.str x) e q⟩)⟩
   |_=>cases f
  |l j=>cases f
  |o j=>exact absurd S (K j)
  |n j=>cases f
  |m j=>cases f
 ·cases e⟩
end
def Bn(a:O (AJ×A1)):O (AJ×A1)->Prop
 |[]=>True
 |(n,c)::r=>a.lookup n=U c/\Bn a r
theorem Bn.get{a:O (AJ×A1)}:∀{cl:O (AJ×A1)},Bn a cl->∀{x:AJ} {c:A1},cl.lookup x=U c->a.lookup x=U c
 |[],_,_,_,e=>by cases e
 |(n,d)::r,h,x,c,e=>by
  rw[kl]at e;by_cases hx:x==n
  ·simp only[hx]at e;cases e;have:x=n:=by simpa using hx
   rw[this];exact h.1
  ·have hx:(x==n)=false:=by simpa using hx
   simp only[hx]at e;exact Bn.get h.2 e
structure GA (X:Cx) (scope:Scope) (cl:List (Str×Addr)) (x:Str) (i:Nat):Prop where
 n:X.N[i]?=some x
 k:X.env.kindOf x=some .cell\/X.env.kindOf x=some .free
 k':(relabel scope X.env).names.lookup x=some .cell\/(relabel scope X.env).names.lookup x=some .free
 c:∃c,cl.lookup x=some c
def Ea(X:Cx)(scope:Scope)(cl:O (AJ×A1)):AZ->O Nat->Prop
 |[],[]=>True
 |x::xs,i::is=>GA X scope cl x i/\Ea X scope cl xs is
 |_,_=>False
theorem Ea.get{X:Cx}{scope:Scope}{cl:O (AJ×A1)}:∀{xs:AZ} {is:O Nat},Ea X scope cl xs is->xs.length=is.length/\∀(j:Nat) (x:AJ),xs[j]?=U x->∃i,is[j]?=U i/\GA X scope cl x i
 |[],[],_=>⟨rfl,λj x e=>by simp at e⟩
 |x::xs,i::is,h=>by
  obtain⟨h1,h2⟩:=h;obtain⟨l,g⟩:=Ea.get h2;refine⟨by simp[l],λj y e=>?_⟩;cases j with
  |zero=>simp at e;subst e;exact⟨i,rfl,h1⟩
  |succ j=>obtain⟨k,e1,e2⟩:=g j y (by simpa using e);exact⟨k,by simpa using e1,e2⟩
 |[],_::_,h=>h.elim
 |_::_,[],h=>h.elim
def EJ(a:O (AJ×NameKind))(x:AJ):Bool:=match a.lookup x with
 |some .cell=>true
 |_=>false
def Mu(X:Cx)(a:AZ)(scope:Scope)(cl:O (AJ×A1))(C:A1)(s₀:A2)(H₀:Hp)(fp:O A1):Cx:=
 { X with N:=a,s₀:=s₀,H₀:=H₀,env:=compEnvC scope (cellsFrom (C+1) scope.names cl) C X.env,outer:=X.stack,ex:=fp,fn:=EJ scope.names,pn:=[],xe:=λ_ _=>False }
structure EU (h:Heap) (cs:List (Str×Addr)):Prop where
 inj:∀x y c,cs.lookup x=some c->cs.lookup y=some c->x=y
 cell:∀x c,cs.lookup x=some c->∃v,h.IsCell c v
theorem jj{n:AJ}{a:α}{l:O (AJ×α)}(h:x≠n):((n,a)::l).lookup x=l.lookup x:=by
 rw[kl,beq_eq_false_iff_ne.mpr h]
theorem T4:∀(g:O (AJ×NameKind)) (h:A6) (acc:O (AJ×A1)),EU h acc->EU (pushCells h g) (cellsFrom h.objs.size g acc)
 |[],_,_,x=>x
 |(n,k)::r,h,acc,x=>by
  unfold pushCells cellsFrom;split
  ·have f:∀y c,acc.lookup y=U c->c≠h.objs.size:=λy c e=>let ⟨_,q⟩:=x.cell y c e;zD q.lt;have:=T4 r (h.push { cls:=.type "cell",data:=.cell Z }) ((n,h.objs.size)::acc) ⟨λy z c e1 e2=>?_,λy c e=>?_⟩
   ·rwa [ZZ]at this
   ·by_cases a:y=n<;>by_cases d:z=n
    ·rw[a,d]
    ·subst a;rw[ke]at e1;rw[jj d]at e2;cases e1;exact absurd S (f _ _ e2)
    ·subst d;rw[ke]at e2;rw[jj a]at e1;cases e2;exact absurd S (f _ _ e1)
    ·rw[jj a]at e1;rw[jj d]at e2;exact x.inj y z c e1 e2
   ·by_cases a:y=n
    ·subst a;rw[ke]at e;cases e;exact⟨Z,_,zt _ rfl,rfl⟩
    ·rw[jj a]at e;obtain⟨v,q⟩:=x.cell y c e;exact⟨v,q.keeps λb o e=>zd _ e⟩
  ·exact T4 r h acc x
theorem wJ:∀(a:O (AJ×NameKind)) (n:Nat) (acc:O (AJ×A1)) (x:AJ) (c:A1),(cellsFrom n a acc).lookup x=U c->acc.lookup x=U c\/n<=c
 |[],_,_,_,_,e=>.inl e
 |(m,k)::r,n,acc,x,c,e=>by
  unfold cellsFrom at e;split at e
  ·rcases wJ r _ _ x c e with h|h
   ·by_cases hx:x=m
    ·subst hx;rw[ke]at h;cases h;exact .inr (zl _)
    ·rw[jj hx]at h;exact .inl h
   ·exact .inr ()
  ·exact wJ r _ _ x c e
theorem HB:∀(b:O (AJ×NameKind)) (n:Nat) (acc:O (AJ×A1)) (x:AJ),(x,NameKind.cell)∉b->(cellsFrom n b acc).lookup x=acc.lookup x
 |[],_,_,_,_=>rfl
 |(m,k)::r,n,acc,x,h=>by
  unfold cellsFrom;have a:(x,NameKind.cell)∉r:=λz=>h (zh _ z);split
  ·rename_i hk;rw[HB r _ _ x a,jj λz=>h (by rw[z,<-beq_iff_eq.mp hk];exact zg ..)]
  ·exact HB r _ _ x a
theorem Mv:∀(a:O (AJ×NameKind)) (n:Nat) (acc:O (AJ×A1)) (x:AJ),((x,NameKind.cell)∈a\/∃c,acc.lookup x=U c)->∃c,(cellsFrom n a acc).lookup x=U c
 |[],_,_,_,h=>h.elim (λz=>by simp at z) λz=>z
 |(m,k)::r,n,acc,x,h=>by
  unfold cellsFrom;split
  ·refine Mv r _ _ x ?_;by_cases hx:x=m
   ·exact .inr ⟨n,by rw[hx,ke]⟩
   ·rw[jj hx];exact h.imp_left λz=>(List.mem_cons.mp z).elim (λz=>absurd (congrArg Prod.fst z) hx) λz=>z
  ·rename_i hk;exact Mv r _ _ x (h.imp_left λz=>(List.mem_cons.mp z).elim (λz=>by cases z;exact absurd S hk) λz=>z)
theorem Q7{g:A1}{Q:Env->A2->Prop}(h:Q (newEnv scope s.heap.objs.size g (cellsFrom (s.heap.objs.size+1) scope.names cl) qual Z .none (U env) builtinsNs) { s with heap:=pushCells (s.heap.push { cls:=.type "dict",data:=.dict #[] }) scope.names }):
  A7 M A (newFunctionEnv scope g cl [] qual Z .none (U env)) Q E s:=by
 simp only[newFunctionEnv,de,Z3];refine zb (wpAny_alloc ?_);refine zb (wpAny_layCells _ (λname a b=>by cases a==NameKind.cell<;>simp) _ _ _ _ ?_);rw[show({ s with heap:=s.heap.push { cls:=.type "dict",data:=.dict #[] } }:A2).heap.objs.size=s.heap.objs.size+1 from ZZ ..];rw[List.forIn_nil];exact zb (ze (ze h))
structure vJ (X:Cx) (scope:Scope) (cl:List (Str×Addr)) (xs:AZ) (is:List Nat):Prop where
 clos:closureFor scope X.env=pure cl
 kind:scope.kind=.function
 cell:∀y∈scope.names,y.2=.cell->cl.lookup y.1=none
 names:∀y∈scope.names,y.2=.local->scope.names.lookup y.1=some .local
 sub:Bn X.env.cells cl
 has:∀x,((relabel scope X.env).names.lookup x=some .cell\/(relabel scope X.env).names.lookup x=some .free)->(x,NameKind.cell)∈scope.names\/∃c,cl.lookup x=some c
 cap:Ea X scope cl xs is
def p8(is:O Nat)(σ:L2.St):L2.St:=is.map λi=>(σ[i]?).bind λv=>v
def jr(is:O Nat)(ρ:Ev):Ev:=is.map λi=>zX ρ i
def Zj(n m:Nat)(g:Dt->Ev->Y Ev):Prop:=∀d ρ a,g d ρ=U a->a.length=ρ.length/\∀j,j<n\/m<=j->a[j]?=ρ[j]?
def Xh(n m:Nat)(g:O Dt->Ev->Y Ev):Prop:=∀d ρ a,g d ρ=U a->a.length=ρ.length/\∀j,j<n\/m<=j->a[j]?=ρ[j]?
theorem cW(h:n<=i:=by decide)(h':i<m:=by decide):Zj n m (λd ρ=>U (ρ.set i (U (.z d)))):=λd ρ b e=>by
 cases e;exact⟨by rw[kq],λj a=>Bj _ ()⟩
theorem O2:Xh n m Bl:=λd ρ a e=>by
 cases d with
 |nil=>cases e;exact⟨rfl,λ_ _=>S⟩
 |cons=>cases e
theorem wK{g:Dt->Ev->Y Ev}{gs:O Dt->Ev->Y Ev}(h:Zj n m g)(hs:Xh n m gs):Xh n m (iU g gs):=λd ρ l e=>by
 cases d with
 |nil=>cases e
 |cons d ds=>
  simp only[iU]at e;obtain⟨k,e1,e⟩:=AT e;obtain⟨a,b⟩:=h _ _ _ e1;obtain⟨i,f⟩:=hs _ _ _ e;exact⟨i.trans a,λj c=>(f j c).trans (b j c)⟩
theorem T5{gs:O Dt->Ev->Y Ev}(hs:Xh n m gs):Zj n m (wH k gs):=λd ρ a e=>by
 cases d with
 |tup ds=>
  simp only[wH]at e;split at e
  ·exact hs _ _ _ e
  ·cases e
 |_=>cases e
def zZ(gt:Dt->Ev->Y Ev)(p:Ev->Y Bool)(fs:Ev->Y (O Dt))(ρ:Ev):O Dt->Y (O Dt)
 |[]=>U []
 |d::ds=>(gt d ρ).bind λa=>(p a).bind λk=>if k=true then(fs a).bind λys=>(zZ gt p fs ρ ds).bind λzs=>U (ys++zs)else zZ gt p fs ρ ds
def FG:Bx->Y (O Dt)
 |.z y=>U [y]
 |_=>Z
def FJ(gt:Dt->Ev->Y Ev)(p:Ev->Y Bool)(fe:Ev->Y Bx)(ρ:Ev):O Dt->Y (O Dt):=zZ gt p (λρ=>(fe ρ).bind FG) ρ
theorem FN{b:Bx}{ys:O Dt}(h:FG b=U ys):∃y,b=.z y/\ys=[y]:=by
 cases b<;>cases h;exact⟨_,rfl,rfl⟩
theorem yq{gt:Dt->Ev->Y Ev}{p:Ev->Y Bool}{fe:Ev->Y Bx}{ρ:Ev}:∀{ds out:O Dt},FJ gt p fe ρ ds=U out->out.length<=ds.length
 |[],_,e=>by cases e;exact zl _
 |d::ds,out,e=>by
  simp only[FJ,zZ]at e;obtain⟨f,_,e⟩:=AT e;obtain⟨k,_,e⟩:=AT e;cases k with
  |false=>
   rw[zC ZE]at e;exact zS (yq (gt:=gt) (p:=p) (fe:=fe) e) (by simp)
  |true=>
   rw[zo rfl]at e;obtain⟨ys,a,e⟩:=AT e;obtain⟨zs,c,e⟩:=AT e;obtain⟨b,_,a⟩:=AT a;obtain⟨y,_,rfl⟩:=FN a;cases e;simpa using yq (gt:=gt) (p:=p) (fe:=fe) c
def C7(X:Cx)(ifs:O Expr)(p:Ev->Y Bool):Prop:=(ifs=[]/\p=λ_=>U true)\/∃c,ifs=[c]/\PB X c p
structure HD (X:Cx) (ifs:List Expr) (p:Ev->Option Bool):Prop where
 run:C7 X ifs p
section
variable{xs:AZ}{gt:Dt->Ev->Y Ev}{p:Ev->Y Bool}{fe:Ev->Y Bx}{fi:Ev->Y (O Dt)}
theorem T6{m:Hp}{s3:A2}(a:L2.AU X AN σ m s3)(O:vJ X scope cl xs is)(s:∀b∈fp,q8 X AN m b)(w:∀b∈fp,b<s3.heap.objs.size):
  L2.AU (Mu X (xs++ts) scope cl s3.heap.objs.size s3 m fp) [] (p8 is σ++aa ts.length Z) m { s3 with heap:=pushCells (s3.heap.push { cls:=.type "dict",data:=.dict #[] }) scope.names }:=by
 obtain⟨E,P⟩:=O.cap.get;have g:=O.sub;have D:(s3.heap.push { cls:=.type "dict",data:=.dict #[] }).objs.size=s3.heap.objs.size+1:=ZZ ..;have hk:∀b o,s3.heap.get? b=U o->(pushCells (s3.heap.push { cls:=.type "dict",data:=.dict #[] }) scope.names).get? b=U o:=λb o e=>pushCells_keeps _ _ b o (zd _ e);have B:EU (pushCells (s3.heap.push { cls:=.type "dict",data:=.dict #[] }) scope.names) (cellsFrom (s3.heap.objs.size+1) scope.names cl):=by
  rw[<-D];refine T4 _ _ _ ⟨λx y c e1 e2=>a.ok.inj x y c (g.get e1) (g.get e2),λx c e=>?_⟩;obtain⟨v,q⟩:=a.cell x c (g.get e);exact⟨v,q.keeps λb o e=>zd _ e⟩
 have C:∀x c,(cellsFrom (s3.heap.objs.size+1) scope.names cl).lookup x=U c->X.env.cells.lookup x=U c\/s3.heap.objs.size<c:=λx c e=>(wJ _ _ _ x c e).imp_left g.get;refine⟨⟨a.ok.mod,O.kind,a.ok.glob,a.ok.blt,zl _,B.inj,λx hx=>Mv _ _ _ x (O.has x hx),λx c hx e=>?_,a.ok.hd,a.ok.frames,.inl rfl,λb d=>⟨zD (w b d),λx c e=>?_⟩,a.bs,zS a.ok.Wn a.sz,λb o e d=>?_,λb d M=>?_,a.stack,a.G8,a.ok.tabs.go a.base.wj⟩,
  rfl,a.bare,Un.kept hk,⟨_,(Heap.Ns.new s3.heap (.type "dict")).keeps (pushCells_keeps _ _),λj x v e1 e2 _=>?_⟩,B.cell,a.hok.fresh (zl _),λx c e=>(C x c e).elim (a.oZ x c) λh=>a.hok.fresh (j3 h),λq hq=>absurd (show q∈([]:List (A1×AE)) from hq) (by simp),a.hok.kept hk,?_⟩
 ·refine(wJ _ _ _ x c e).elim (λh=>?_) λh=>j3 h;have hx:(x,NameKind.cell)∈scope.names:=by
   have hx:EJ scope.names x=true:=hx;unfold EJ at hx;split at hx
   ·rename_i q;exact mem_of_lookup q
   ·cases hx
  rw[O.cell _ hx rfl]at h;cases h
 ·rcases C x c e with h|h
  ·exact(s b d).2.2.2.2.1 x c h
  ·exact be (ci (w b d) h)
 ·obtain⟨_,_,_,z,_⟩:=s b d;rcases z with z|z
  ·exact a.ok.Sw b o e z
  ·exact absurd (z5 (zv e) (zS a.ok.Wn z)) (QA _)
 ·obtain⟨_,L,Q,_⟩:=s b d;rcases List.mem_cons.mp (a.G7 b M)with z|z
  ·exact L z
  ·exact Q z
 ·have A:j<is.length:=by
   by_cases A:j<is.length
   ·exact A
   ·rw[QO (by simp[p8];omega)]at e2;rw[Q1]at e2;split at e2<;>cases e2
  have H:xs[j]?=U x:=by
   have e1:(xs++ts)[j]?=U x:=e1;rw[ZU ()]at e1;exact e1
  obtain⟨i,I,f⟩:=P j x H;have e3:σ[i]?=U (U v):=by
   rw[ZU (by simp[p8];omega)]at e2;unfold p8 at e2;rw[ZH,I]at e2;cases q:σ[i]? with
   |none=>rw[kX,q]at e2;cases e2
   |some o=>
    rw[kX,q]at e2;have:o=U v:=by simpa using e2
    rw[this]
  have G:QG X.env.scope x:=by
   rcases f.k with k|k
   ·exact .inr (.inl k)
   ·exact .inr (.inr k)
  obtain⟨W,a0,K⟩:=a.loc;obtain⟨u,r,l⟩:=K i x v f.n e3 G;refine⟨u,r,?_⟩;rcases l with⟨k,_⟩|⟨k,c,N,F⟩
  ·rcases f.k with t|t<;>(rw[k]at t;cases t)
  ·obtain⟨c',p⟩:=f.c;have:=g.get p;rw[N]at this;cases this;refine .inr ⟨f.k',c,(HB _ _ _ x λz=>by rw[O.cell _ z rfl]at p;cases p).trans p,?_⟩;obtain⟨o,J,hd⟩:=F;exact⟨o,hk c o J,hd⟩
 ·show(p8 is σ++aa ts.length Z).length=(xs++ts).length;simp[p8,E]
theorem bB.caps{ρ:Ev}(E:bB K H0 H σ ρ)(is:O Nat)(n:Nat):bB K H H (p8 is σ++aa n Z) (jr is ρ++aa n Z):=by
 have f:∀(j:Nat) c,(jr is ρ++aa n Z)[j]?=U (U c)->wC c=false:=λj c e=>by
  by_cases g:j<is.length
  ·rw[ZU (by simp[jr];omega)]at e;unfold jr at e;rw[ZH]at e;cases q:is[j]? with
   |none=>rw[q]at e;cases e
   |some i=>
    rw[q]at e;have:zX ρ i=U c:=by simpa using e
    exact Af this
  ·rw[QO (by simp[jr];omega),Q1]at e;split at e<;>cases e
 refine⟨by simp[p8,jr],λj b e=>?_,λj k c a b e d=>absurd d (by rw[f j c e];exact ZE),AV.refl H,λj c a e d=>absurd d (by rw[f j c e];exact ZE)⟩;by_cases g:j<is.length
 ·rw[ZU (by simp[jr];omega)]at e;rw[ZU (by simp[p8];omega)];unfold jr at e;unfold p8;rw[ZH]at e ⊢;cases q:is[j]? with
  |none=>rw[q]at e;cases e
  |some i=>
   rw[q]at e;have:zX ρ i=U b:=by simpa using e
   obtain⟨v,e1,r⟩:=JH E this;exact⟨v,by simp[e1],r⟩
 ·rw[QO (by simp[jr];omega),Q1]at e;split at e<;>cases e
theorem bB.forget{ρ ρ':Ev}(E:bB K H0 H σ ρ')(f:ρ'.length=ρ.length)(h:∀(j:Nat) b,ρ[j]?=U (U b)->ρ'[j]?=U (U b)):bB K H0 H σ ρ:=
 ⟨E.len.trans f,λj b e=>E.val j b (h j b e),λi j c a b e1 d e2 e3 k g=>E.own i j c a b (h _ _ e1) d e2 (h _ _ e3) k g,E.base,λi c a e1 d e2=>E.new i c a (h _ _ e1) d e2⟩
structure Zk (Hb:Hp) (σ:L2.St) (ρ:Ev) (n:Nat):Prop where
 own:∀(j:Nat) c,ρ[j]?=some (some c)->wC c=false
 lt:∀(j:Nat) b,ρ[j]?=some (some b)->j<n
 old:∀(j:Nat) c a,ρ[j]?=some (some c)->loose c=true->σ[j]?=some (some (.ref a))->Hb a≠none
def Fx(σ σ':L2.St)(ρ:Ev):Prop:=∀(j:Nat) c,loose c=true->ρ[j]?=U (U c)->σ'[j]?=σ[j]?
theorem Zk.fx{d:Hp}{σ':L2.St}{ρ:Ev}(P:Zk d σ ρ n)(f:Fx σ σ' ρ):Zk d σ' ρ n:=⟨P.own,P.lt,λj c a e b ea=>P.old j c a e b (by rw[<-f j c b e];exact ea)⟩
theorem DH{ρ:Ev}(E:bB K H0 H σ ρ)(j:Nat)(c:Bx)(a:A1)(e:ρ[j]?=U (U c))(h:loose c=true)(ea:σ[j]?=U (U (.ref a))):H a≠Z:=λz=>by
 obtain⟨v,e1,b⟩:=E.val j _ e;rw[ea]at e1;cases e1;cases c with
 |z d=>cases h
 |l g=>
  obtain⟨f,vs,e2,q,_⟩:=b;cases e2;rcases q with q|⟨o,q⟩<;>(rw[z]at q;cases q)
 |n g=>
  obtain⟨f,vs,e2,q,_⟩:=b;cases e2;rcases q with q|⟨o,q⟩<;>(rw[z]at q;cases q)
 |o g=>
  obtain⟨f,vs,e2,q,_⟩:=b;cases e2;rw[z]at q;cases q
 |m g _=>
  obtain⟨f,vs,e2,q,_⟩:=b;cases e2;rw[z]at q;cases q
theorem bB.grown{g:Hp}{ρ:Ev}{D:A1}{o:HO}(E:bB K g H σ ρ)(P:Zk g σ ρ n)(s:g D=Z)(kp:Kp H (B7 H D o)):bB K g (B7 H D o) σ ρ:=by
 refine⟨E.len,λj b e=>?_,λj k c a b e p=>absurd p (by rw[P.own j c e];exact ZE),λc o e=>?_,λj c a e p=>absurd p (by rw[P.own j c e];exact ZE)⟩
 ·obtain⟨v,ev,i⟩:=E.val j b e;refine⟨v,ev,?_⟩;cases b with
  |z d=>exact AW.kp kp i
  |o h=>have:=P.own j _ e;cases this
  |m h _=>have:=P.own j _ e;cases this
  |n h=>
   obtain⟨a,vs,rfl,q,t⟩:=i;refine⟨a,vs,rfl,?_,t.kp kp⟩;have f:a≠D:=λz=>P.old j _ _ e S ev (by rw[z];exact s);exact q.imp (λq=>by rw[aX f];exact q) λ⟨o,q⟩=>⟨o,by rw[aX f];exact q⟩
  |l h=>
   obtain⟨a,vs,rfl,q,t⟩:=i;refine⟨a,vs,rfl,?_,t.kp kp⟩;have f:a≠D:=λz=>P.old j _ _ e S ev (by rw[z];exact s);exact q.imp (λq=>by rw[aX f];exact q) λ⟨o,q⟩=>⟨o,by rw[aX f];exact q⟩
 ·rw[aX (bZ e s)];exact E.base c o e
def Xi(X:Cx)(el:A1->Env->Sem Unit)(fs:Ev->Y (O Dt))(Ac:A1->Hp->O Dt->HO->Prop)(N n:Nat):Prop:=∀(AN:O (A1×AE)) (s:A2) (σ:L2.St) (H a:Hp) (ρ:Ev) (D:A1) (o:HO) (b ys:O Dt),L2.AU X AN σ H s->bB X.K a H σ ρ->Zk a σ ρ n->a D=Z->fs ρ=U ys->H D=U o->Ac D H b o->b.length+ys.length<=N →
 A7 (d9 X) X.A (el D X.env) (λ_ s'=>∃ σ' H' o',L2.AU X AN σ' H' s'/\bB X.K a H' σ' ρ/\Fx σ σ' ρ/\H' D=U o'/\Ac D H' (b++ys) o') X.xe s
theorem OT{fs:Ev->Y (O Dt)}{Ac:A1->Hp->O Dt->HO->Prop}{N:Nat}(h:∀(AN:O (A1×AE)) (s:A2) (σ:L2.St) (H c:Hp) (ρ:Ev) (D:A1) (o:HO) (b ys:O Dt),L2.AU X AN σ H s->bB X.K c H σ ρ->fs ρ=U ys->H D=U o->Ac D H b o->b.length+ys.length<=N →
  A7 (d9 X) X.A (el D X.env) (λ_ s'=>∃a o',L2.AU X AN σ (B7 a D o') s'/\AV H a/\Kp a (B7 a D o')/\Ac D (B7 a D o') (b++ys) o') X.xe s):Xi X el fs Ac N n:=λAN s σ H c ρ D o b ys I E P d e1 e2 a1 l=>by
 refine qa (h AN s σ H c ρ D o b ys I E e1 e2 a1 l) (λ_ s' ⟨a,o',I',s9,kp,a'⟩=>?_) λ_ _ z=>z;exact⟨σ,_,o',I',(E.grow s9).grown P d kp,λ_ _ _ _=>S,aW,a'⟩
structure O4 (B:Around->Bool->Prop) (P:Program) (w:World) (K:B5) (tg:Expr) (J:It) (fp:List Addr) (it:Addr) (tn:Nat->Heap->Prop):Prop where
 obj:∀i h,tn i h->∀b∈fp,∃o,h.get? b=some o/\∀v,o.data≠.cell v
 keep:∀i h h',tn i h->(∀b∈fp,∀o,h.get? b=some o->h'.get? b=some o)->tn i h'
 item:∀(X:Cx),X.prog=P->X.w=w->X.K=K->B X.A X.calm->∀(i:Nat) (AN:List (Addr×Obj)) (s:Shared) (σ:L2.St) (H:Hp) (E:BE),L2.AU X AN σ H s->(∀b∈fp,q8 X AN H b)->tn i s.heap->J.go i H →
  wpAny (model P w) X.A (pyNext (.ref it)) (λr s1=>∃u,r=some u ∧
   wpAny (model P w) X.A (letOwnedTupleGo tg (.ref it) u) (λ_ s2=>∃x H',L2.AU X AN σ H' s2/\At x u/\J.yld i H x H'/\tn (i+1) s2.heap/\∀b∈fp,H' b=none) E s1) E s
 done:∀(X:Cx),X.prog=P->X.w=w->X.K=K->B X.A X.calm->∀(i:Nat) (AN:List (Addr×Obj)) (s:Shared) (σ:L2.St) (H:Hp) (E:BE),L2.AU X AN σ H s->(∀b∈fp,q8 X AN H b)->tn i s.heap->J.stop i H →
  wpAny (model P w) X.A (pyNext (.ref it)) (λr s1=>r=none/\L2.AU X AN σ H s1) E s
 self:∀(A:Around) (i:Nat) (s:Shared) (Q:BE) (E:BE),tn i s.heap->Q (.ref it) s->wpAny (model P w) A (pyIter (.ref it)) Q E s
abbrev T7:A5->Bool->Prop:=λ_ c=>c=true
theorem Zm(T:CB P w K tg J fp it tn):O4 T7 P w K tg J fp it tn:=⟨T.obj,T.keep,T.item,T.done,T.self⟩
theorem Q8{B:A5->Bool->Prop}{G:Expr}{d:Nat}{d0:Pos}{Ac:A1->Hp->O Dt->HO->Prop}{fs:Ev->Option (O Dt)}{N:Nat}{l:Hp}{D:A1}{ds o0 out:O Dt}{o:HO}{ρ:Ev}{R:Result->A2->Prop}(b0:B X.A X.calm)(hx:X.xe=λ_ _=>False)(Q9:DV X tgt gt)(d3:C7 X ifs p)(c2:Xi X el fs Ac N m)(b6:Zj n m gt)(c6:n<=m)(I:L2.AU X AN σ H s)(E:bB X.K l H σ ρ)(P:Zk l σ ρ n)(hD:l D=Z)(c1:H D=U o)(hA:Ac D H o0 o)(T:O4 B X.prog X.w X.K tgt J fp it tn)(st:tn 0 s.heap)(hf:∀b∈fp,q8 X AN H b)(Y:B6 X.K J ds l)(c5:zZ gt p fs ρ ds=U out)(hN:o0.length+out.length<=N)(a6:∀{D:A1} {H H':Hp} {y:O Dt} {o:HO},Kp H H'->Ac D H y o->Ac D H' y o)(c3:∀(it:A0) (D:A1) (env:Env),compTurn G d it (.ref D) env=(standAt d0 >>= λ_=>pyNext it >>= λr=>match r with
   |none=>pure (.done .next)
   |some v=>letOwnedTupleGo tgt it v >>= λ_=>assign tgt env v >>= λ_=>(forIn ifs true λc r=>if r=true then isTrue c env (eval c env) >>= λok=>pure (ForInStep.yield ok)else pure (ForInStep.yield r)) >>= λok=>if ok=true then el D env >>= λ_=>again (.compLoop G d it (.ref D) env)else again (.compLoop G d it (.ref D) env)))(b7:∀{it acc:A0} {env:Env} {Q:Fin->A2->Prop} {E:BE} {s:A2},A7 (d9 X) X.A ((compTurn G d it acc env).onRaise (λx=>noteFrame x env >>= λ_=>theTreesLotGoes x)) Q E s->A7 (d9 X) (X.A.under (.compLoop G d it acc env)) ((d9 X).den (.compLoop G d it acc env)) Q E s)(hR:∀s' σ' H' o',L2.AU X AN σ' H' s'->bB X.K l H' σ' ρ->Fx σ σ' ρ->H' D=U o'->Ac D H' (o0++out) o'->R (.ok .next) s'):
  AF (d9 X) X.A (.compLoop G d (.ref it) (.ref D) X.env) R s:=by
 have a8:∀{H':Hp},(∀b∈fp,H' b=Z)->∀b∈fp,q8 X AN H' b:=λ{H'} hn b t=>⟨hn b t,(hf b t).2⟩;refine codeAny_loop S (λk s'=>∃(i:Nat) (σ':L2.St) (H':Hp) (y o2:O Dt) (o:HO),k=ds.length-i/\i<=ds.length/\L2.AU X AN σ' H' s'/\tn i s'.heap/\(∀b∈fp,H' b=Z)/\bB X.K l H' σ' ρ/\Fx σ σ' ρ/\H' D=U o/\Ac D H' y o/\zZ gt p fs ρ (ds.drop i)=U o2/\y++o2=o0++out) ?_ ds.length
  ⟨0,σ,H,o0,out,o,by simp,qi _,I,st,λb t=>(hf b t).1,E,λ_ _ _ _=>S,c1,hA,by simpa using c5,rfl⟩
 rintro k s4 ⟨i,a0,H4,y,o2,o,rfl,hi,I4,b4,b3,E4,F4,a2,r4,g,ho⟩;have P4:=P.fx F4;refine b7 (wpAny_noted ?_);rw[c3];obtain⟨y1,y2⟩:=Y i H4 E4.base;by_cases a4:i<ds.length
 ·have hd:ds[i]?=U ds[i]:=by simp[a4]
  obtain⟨go,yl⟩:=y1 _ hd;rw[cb a4]at g;simp only[zZ]at g;obtain⟨C,e1,g⟩:=AT g;obtain⟨k,ek,g⟩:=AT g;obtain⟨c0,a7⟩:=b6 _ _ _ e1;have b5:∀{a3:L2.St} {H5:Hp},bB X.K l H5 a3 C->bB X.K l H5 a3 ρ:=λE5=>E5.forget c0 λj b e=>by rw[a7 j (.inl (P.lt j b e))];exact e
  refine zb (kP (zb ?_));refine jO (T.item X S S S b0 i AN s4 a0 H4 _ I4 (a8 b3) b4 go) λr s5 ⟨u,hr,h5⟩=>?_;subst hr;refine zb (jO h5 λ_ s6 ⟨x,H6,I6,r6,y6,DT,fr6⟩=>?_);obtain⟨sm,rx⟩:=yl x H6 y6;have E4:=E4.grow sm;have a2:=sm _ _ a2;have r4:=a6 (.of sm) r4;have b9:=I6.pinned (a8 fr6) (T.obj _ _ DT);have ha:=Q9 _ s6 a0 H6 x u (λσ' H'=>H'=H6/\bB X.K l H6 σ' C/\Lo a0 ρ σ' C) b9 r6 ⟨l,ρ,ds[i],C,E4,rx,e1,λσ' E' L'=>⟨rfl,E',L'⟩⟩;rw[hx]at ha;refine zb (qa ha (λ_ s7 h7=>?_) λ_ _ z=>z.elim);obtain⟨W,H7,I7,rfl,E7,L7⟩:=h7;have P7:Zk l W C m:=by
   refine⟨λj c e=>?_,λj c e=>?_,λj c a e F ea=>?_⟩
   ·cases c with
    |o ds=>exact P.own j _ (L7 j _ S e).1
    |m ds _=>exact P.own j _ (L7 j _ S e).1
    |_=>rfl
   ·refine Nat.lt_of_not_le λh=>?_;rw[a7 j (.inr h)]at e;exact absurd (z5 (P.lt j c e) c6) (dS.mpr h)
   ·obtain⟨e',ee⟩:=L7 j c F e;exact P4.old j c a e' F (by rw[<-ee];exact ea)
  have Zn:∀{a3:L2.St},Fx W a3 C->Fx σ a3 ρ:=λf j c F e=>by
   have e':C[j]?=U (U c):=by rw[a7 j (.inl (P.lt j c e))];exact e
   exact(f j c F e').trans ((L7 j c F e').2.trans (F4 j c F e))
  have ht:A7 (d9 X) X.A (forIn ifs true λc r=>if r=true then do let ok <-isTrue c X.env (eval c X.env);pure (ForInStep.yield ok)else pure (ForInStep.yield r))
    (λok L=>ok=k/\∃q,L2.AU X (AN++yg fp s6.heap) W q L/\AV H7 q) (notedBy (d9 X) X.A X.env λe s'=>R (.error e) s') s7:=by
   rcases d3 with⟨rfl,rfl⟩|⟨c,rfl,hc⟩
   ·cases ek;exact wpAny_tests_nil ⟨rfl,H7,I7,AV.refl H7⟩
   ·refine wpAny_tests_one ?_;have:=hc _ s7 W H7 (λb q=>b=k/\AV H7 q) I7 ⟨l,C,k,E7,ek,λq L=>⟨rfl,L⟩⟩;rw[hx]at this;exact qa this (λb L ⟨q,I8,eb,s8'⟩=>⟨eb,q,I8,s8'⟩) λ_ _ z=>z.elim
  refine zb (qa ht (λok L h8=>?_) λ_ _ z=>z);obtain⟨rfl,q,I8,M⟩:=h8;have T8:∀{a1:L2.St} {H9:Hp} {s9:A2},L2.AU X (AN++yg fp s6.heap) a1 H9 s9->L2.AU X AN a1 H9 s9/\tn (i+1) s9.heap/\∀b∈fp,H9 b=Z:=λ{a1 H9 s9} I9=>by
   refine⟨I9.rG,T.keep _ _ _ DT λb t o e=>(I9.pin (b,o) (zz _ (zz _ (pY t e)))).1,λb t=>?_⟩;obtain⟨o,e,d⟩:=T.obj _ _ DT b t;exact(I9.pin (b,o) (zz _ (zz _ (pY t e)))).2.1
  cases ok with
  |false=>
   rw[zC ZE]at g;obtain⟨I9,b8,d4⟩:=T8 I8;exact ze ⟨rfl,ds.length-(i+1),by omega,i+1,W,q,y,o2,o,rfl,a4,I9,b8,d4,b5 (E7.grow M),Zn (λ_ _ _ _=>S),M _ _ a2,a6 (.of M) r4,g,ho⟩
  |true=>
   rw[zo rfl]at g;obtain⟨ys,eb,g⟩:=AT g;obtain⟨zs,e5,g⟩:=AT g;cases g;have F:=congrArg av ho;simp only[ZA]at F;have he:=c2 _ L W q l C D o y ys I8 (E7.grow M) P7 hD eb (M _ _ a2) (a6 (.of M) r4) ();rw[hx]at he;refine zb (qa he (λ_ d6 c9=>?_) λ_ _ z=>z.elim);obtain⟨a1,H9,o',c4,E9,F9,d5,a5⟩:=c9;obtain⟨d1,d2,c8⟩:=T8 c4;exact ze ⟨rfl,ds.length-(i+1),by omega,i+1,a1,H9,y++ys,zs,o',rfl,a4,d1,d2,c8,b5 E9,Zn F9,d5,a5,e5,by rw[Kk];exact ho⟩
 ·have a9:ds.length<=i:=by omega
  rw[cz a9]at g;cases g;refine zb (kP (zb ?_));refine jO (T.done X S S S b0 i AN s4 a0 H4 _ I4 (a8 b3) b4 (y2 a9)) λr s5 ⟨hr,I5⟩=>?_;subst hr;rw[Q3]at ho;exact ze (hR s5 a0 H4 o I5 E4 F4 a2 (by rw[<-ho];exact r4))
theorem Ra{B:A5->Bool->Prop}{d:Expr}{mk:Sem A0}{o0:AE}{O0:HO}{Ac:A1->Hp->List Dt->HO->Prop}{fs:Ev->Option (List Dt)}{N:Nat}{H2:Hp}{s2:A2}{ds out:List Dt}{ρ:Ev}(O:vJ X scope cl xs is)(c4:B X.A X.calm)(Q9:∀C l k fp,DV (Mu X (xs++ts) scope cl C l k fp) tgt gt)(c0:∀C l k fp,C7 (Mu X (xs++ts) scope cl C l k fp) ifs p)(a4:∀C l k fp,Xi (Mu X (xs++ts) scope cl C l k fp) el fs Ac N m)(a1:Zj is.length m gt)(a2:is.length<=m)(W:L2.AU X AN σ H2 s2)(Ec:bB X.K H2 H2 (p8 is σ++aa ts.length Z) (jr is ρ++aa ts.length Z))(T:O4 B X.prog X.w X.K tgt J fp it tn)(st:tn 0 s2.heap)(L:∀b∈fp,q8 X AN H2 b)(Y:B6 X.K J ds H2)(a8:zZ gt p fs (jr is ρ++aa ts.length Z) ds=U out)(c1:out.length<=N)(c2:∀(D C:A1) (s':A2) (H':Hp) (o:HO),H2 D=Z->L2.AU X AN σ H' s'->q8 X AN H' C->(∃m,s'.heap.Ns C m)->AV H2 H'->H' D=U o->Ac D H' out o->RR (.ref D) C (.ok .next) s')(a7:∀{Q:BE},Q (.ref s2.heap.objs.size) { s2 with heap:=s2.heap.push o0 }->A7 (d9 X) X.A mk Q E s2)(b5:∀H,iB X.prog X.w H (s2.heap.push o0) s2.heap.objs.size O0)(c5:∀H,Ac s2.heap.objs.size H [] O0)(a9:∀{D:A1} {H H':Hp} {o1:List Dt} {o:HO},Kp H H'->Ac D H o1 o->Ac D H' o1 o)(b4:∀(it:A0) (D:A1) (env:Env),compTurn d 0 it (.ref D) env=(standAt iter.pos >>= λ_=>pyNext it >>= λr=>match r with
   |none=>pure (.done .next)
   |some v=>letOwnedTupleGo tgt it v >>= λ_=>assign tgt env v >>= λ_=>(forIn ifs true λc r=>if r=true then isTrue c env (eval c env) >>= λok=>pure (ForInStep.yield ok)else pure (ForInStep.yield r)) >>= λok=>if ok=true then el D env >>= λ_=>again (.compLoop d 0 it (.ref D) env)else again (.compLoop d 0 it (.ref D) env)))(a6:∀{it acc:A0} {env:Env} {R:Result->A2->Prop} {s:A2},AF (d9 X) X.A (.compLoop d 0 it acc env) R s->A7 (d9 X) X.A (pyIter it) (λb8 s'=>AF (d9 X) X.A (.compLoop d 0 b8 acc env) R s') (notedBy (d9 X) X.A env λx s'=>R (.error x) s') s->AF (d9 X) X.A (.compStart d 0 it acc env) R s)(a3:∀{it acc:A0} {env:Env} {Q:Fin->A2->Prop} {E:BE} {s:A2},A7 (d9 X) X.A ((compTurn d 0 it acc env).onRaise (λx=>noteFrame x env >>= λ_=>theTreesLotGoes x)) Q E s->A7 (d9 X) (X.A.under (.compLoop d 0 it acc env)) ((d9 X).den (.compLoop d 0 it acc env)) Q E s):
  A7 (d9 X) X.A mk (λacc b0=>A7 (d9 X) X.A (newFunctionEnv scope X.env.globals cl [] X.env.qual Z .none (U X.env)) (λP c3=>
   AF (d9 X) X.A (.compStart d 0 (.ref it) acc { P with scope:=relabel scope X.env }) (RR acc P.locals) c3) E b0) E s2:=by
 refine a7 (Q7 ?_);have y:H2 s2.heap.objs.size=Z:=W.hok.fresh (zl _);have n:L2.AU X AN σ (B7 H2 s2.heap.objs.size O0) { s2 with heap:=s2.heap.push o0 }:=
  W.laid (t':=s2.toks) (λb o e=>zd _ e) (zl _) (b5 _)
 have I:∀b∈fp,b<s2.heap.objs.size:=λb a=>let ⟨o,e,_⟩:=T.obj 0 _ st b a;zv e;have u:∀b∈fp,q8 X AN (B7 H2 s2.heap.objs.size O0) b:=λb a=>⟨by rw[aX (zD (I b a))];exact(L b a).1,(L b a).2⟩;have G:tn 0 (s2.heap.push o0):=T.keep 0 _ _ st λb a o e=>zd _ e;have t:∀b∈fp,b<(s2.heap.push o0).objs.size:=λb a=>by rw[ZZ];exact Jn (I b a)
 generalize b6:({ s2 with heap:=s2.heap.push o0 }:A2)=s3 at *
 have b9:s3.heap=s2.heap.push o0:=by rw[<-b6]
 rw[<-b9]at G t;have IC:=T6 (ts:=ts) n O u t;have a0:tn 0 (pushCells (s3.heap.push { cls:=.type "dict",data:=.dict #[] }) scope.names):=T.keep 0 _ _ G λb a o e=>pushCells_keeps _ _ b o (zd _ e);have b3:∀b∈fp,q8 (Mu X (xs++ts) scope cl s3.heap.objs.size s3 (B7 H2 s2.heap.objs.size O0) fp) [] (B7 H2 s2.heap.objs.size O0) b:=λb a=>by
  obtain⟨f0,f1,f2,f3,F,f5⟩:=u b a;refine⟨f0,zD (t b a),λz=>?_,.inl a,λx c e z=>?_,λq hq=>absurd (show q∈([]:List (A1×AE)) from hq) (by simp)⟩
  ·rcases List.mem_cons.mp (n.G7 b z)with q|q
   ·exact f1 q
   ·exact f2 q
  ·rcases wJ _ _ _ x c e with h|h
   ·exact F x c (O.sub.get h) z
   ·rw[z]at h;exact absurd (z5 (t b a) (Nat.le_of_succ_le h)) (QA _)
 have P0:Zk H2 (p8 is σ++aa ts.length Z) (jr is ρ++aa ts.length Z) is.length:=by
  have g:∀(j:Nat) c,(jr is ρ++aa ts.length Z)[j]?=U (U c)->j<is.length/\wC c=false:=λj c e=>by
   by_cases hj:j<is.length
   ·refine⟨hj,?_⟩;rw[ZU (by simp[jr];omega)]at e;unfold jr at e;rw[ZH]at e;cases q:is[j]? with
    |none=>rw[q]at e;cases e
    |some i=>rw[q]at e;exact Af (by simpa using e)
   ·rw[QO (by simp[jr];omega),Q1]at e;split at e<;>cases e
  exact⟨λj c e=>(g j c e).2,λj c e=>(g j c e).1,DH Ec⟩
 have h:=Q8 (B:=B) (X:=Mu X (xs++ts) scope cl s3.heap.objs.size s3 (B7 H2 s2.heap.objs.size O0) fp) (R:=RR (.ref s2.heap.objs.size) s3.heap.objs.size) (o0:=[]) c4 S (Q9 _ _ _ _) (c0 _ _ _ _) (a4 _ _ _ _) a1 a2 IC (Ec.grow (bD y)) P0 y aW (c5 _) T a0 b3 Y a8 (by simpa using c1) a9 b4 a3 λs5 c6 M o5 f E5 _ b7 a5=>by
  have IB:L2.AU X AN σ M s5:=n.call' (ch:=fp) f.os f.base f.hok f.bare λb a=>by
   obtain⟨f0,f1,f2,f3,F,f5⟩:=u b a;exact⟨f3,f1,F,f5⟩
  obtain⟨m,hn,_⟩:=f.loc;exact c2 _ _ s5 M o5 y IB (n.Wu (zl _) f.free) ⟨m,hn⟩ E5.base b7 a5
 exact a6 h (T.self _ 0 _ _ _ a0 h)
def D2(K:B5)(_:A1)(H:Hp)(a:O Dt)(o:HO):Prop:=∃us,o=.lst us/\aG K H a us
theorem D2.kp{K:B5}{D:A1}{H H':Hp}{a:O Dt}{o:HO}(k:Kp H H'):D2 K D H a o->D2 K D H' a o:=λ⟨us,e,r⟩=>⟨us,e,r.kp k⟩
def OG(fe:Ev->Y Bx):Ev->Y (O Dt):=λρ=>(fe ρ).bind FG
theorem Xk(h:PV X elt fe):Xi X (λD env=>do let _ <-call (.builtin "list.append") [.ref D,<-eval elt env]) (OG fe) (D2 X.K) 100000 n:=by
 refine OT λAN s σ H Hb ρ D o o1 ys I En d hD ⟨us,e,r4⟩ hl=>?_;subst e;obtain⟨b,eb,d⟩:=AT d;obtain⟨y,rfl,rfl⟩:=FN d;refine zb (qa (h AN s σ H (λv a=>AV H a/\AW X.K a y v) I ⟨Hb,ρ,_,En,eb,λv a i _ g=>⟨i,g⟩⟩) (λv i q=>?_) λ_ _ z=>z);obtain⟨c,a,t,l,f,g⟩:=q;have k:=f _ _ hD;refine zb (qa ((Fy (X:=X)) _ i σ a (.ref D) [c] (.ref D) [v] (λw j=>j=B7 a D (.lst (us++[c]))) t S (.cons l .nil) ⟨_,us,c,rfl,rfl,k,by rw[r4.length];have h0:(100000:Nat)<AA:=();simp at hl;omega,rfl⟩) (λw u p=>?_) λ_ _ z=>z);obtain⟨x,j,m,_,rfl⟩:=p;have kp:Kp a (B7 a D (.lst (us++[c]))):=.lst k;exact ze ⟨a,_,m,f,kp,us++[c],rfl,((r4.kp (.of f)).append (aG.cons g aG.nil)).kp kp⟩
theorem JN{B:A5->Bool->Prop}{H2:Hp}{s2:A2}{ds out:List Dt}{ρ:Ev}(O:vJ X scope cl xs is)(z:B X.A X.calm)(u:∀C j i fp,DV (Mu X (xs++ts) scope cl C j i fp) tgt gt)(H:∀C j i fp,C7 (Mu X (xs++ts) scope cl C j i fp) ifs p)(F:∀C j i fp,PV (Mu X (xs++ts) scope cl C j i fp) elt fe)(t:Zj is.length (is.length+ts.length) gt)(q:L2.AU X AN σ H2 s2)(s:bB X.K H2 H2 (p8 is σ++aa ts.length Z) (jr is ρ++aa ts.length Z))(T:O4 B X.prog X.w X.K tgt J fp it tn)(st:tn 0 s2.heap)(G:∀b∈fp,q8 X AN H2 b)(Y:B6 X.K J ds H2)(n:ds.length<=100000)(k:FJ gt p fe (jr is ρ++aa ts.length Z) ds=U out)(v:∀(D C:A1) (s':A2) (H':Hp) (us:List V),H2 D=Z->L2.AU X AN σ H' s'->q8 X AN H' C->(∃m,s'.heap.Ns C m)->AV H2 H'->H' D=U (.lst us)->aG X.K H' out us->RR (.ref D) C (.ok .next) s'):
  A7 (d9 X) X.A (newList []) (λacc x=>A7 (d9 X) X.A (newFunctionEnv scope X.env.globals cl [] X.env.qual Z .none (U X.env)) (λl y=>
   AF (d9 X) X.A (.compStart (.ListComp elt [⟨tgt,iter,ifs,0⟩] scope pos) 0 (.ref it) acc { l with scope:=relabel scope X.env }) (RR acc l.locals) y) E x) E s2:=
 Ra (B:=B) (Ac:=D2 X.K) (O0:=.lst []) (N:=100000) O z u H (λC j i fp=>Xk (F C j i fp)) t (kH ..) q s T st G Y k (zS (yq k) n) (λD C s' H' o a b c d e f g=>by obtain⟨us,rfl,r⟩:=g;exact v D C s' H' us a b c d e f r)
  qS (λ_=>⟨qi _,[],0,.nil,zt _ rfl⟩) (λ_=>⟨[],rfl,aG.nil⟩) D2.kp (λ_ _ _=>S) codeAny_compStart_list λh=>h
end
def iC(K:B5)(f:Ev->Y (O Dt)):TI:=λσ H R=>∃H0 ρ ds,bB K H0 H σ ρ/\f ρ=U ds/\∀J H',AV H H'->B6 K J ds H'->R J H'
def NF(X:Cx)(tg iter:Expr)(f:Ev->Y (O Dt)):Prop:=PI X tg iter (iC X.K f)
structure EE (X:Cx) (tg iter:Expr) (f:Ev->Option (List Dt)):Prop where
 run:NF X tg iter f
def Xl:Bx->Y (O Dt)
 |.z (.lst ds)=>U ds
 |.z (.tup ds)=>U ds
 |.z (.str x)=>U (Be x)
 |.o ds=>U ds
 |.l ds=>U ds
 |_=>Z
section
variable{f:Ev->Y Bx}{fs:Ev->Y (O Bx)}{xs:AZ}{gt:Dt->Ev->Y Ev}{p:Ev->Y Bool}{fe:Ev->Y Bx}{fi:Ev->Y (O Dt)}
theorem T9(h:EG X tgt iter fi):EE X tgt iter fi:=⟨have h:=h.run;λAN s σ H R I q=>by
 obtain⟨H0,ρ,ds,E,e,q⟩:=q;exact h AN s σ H R I ⟨H0,ρ,ds,E,e,λJ H' s' y=>q J H' s' (y H' (AV.refl H') (λ_ _=>S) (λ_ _ _ _=>S) λ_ _ _=>S)⟩⟩
theorem eE(h:QV X e f):EE X tgt e (λρ=>(f ρ).bind Xl):=⟨have h:=h.run;λAN s σ H R I q=>by
 refine Mt h AN s σ H R I ?_;obtain⟨H0,ρ,ds,E,e,q⟩:=q;obtain⟨b,eb,e⟩:=AT e;refine⟨H0,ρ,b,E,eb,λv H1 s1 j g=>?_⟩;cases b with
 |z d=>
  cases d with
  |tup i=>
   cases e;simp only[aQ,AW]at g;obtain⟨a,vs,rfl,hq,c⟩:=g;exact .inr (.inl ⟨a,rfl,⟨vs,hq⟩,q _ _ s1 (.tup hq c)⟩)
  |lst i=>
   cases e;obtain⟨a,vs,rfl,hq,c⟩:=g.zG rfl;exact .inl ⟨a,rfl,⟨vs,hq⟩,q _ _ s1 (.list hq c)⟩
  |str x=>
   cases e;simp only[aQ,AW]at g;obtain⟨rfl,_⟩:=g;exact .inr (.inr ⟨x,rfl,q _ _ s1 (.str x)⟩)
  |_=>cases e
 |l i=>
  cases e;obtain⟨a,vs,rfl,hq,c⟩:=g.zG rfl;exact .inl ⟨a,rfl,⟨vs,hq⟩,q _ _ s1 (.list hq c)⟩
 |o i=>
  cases e;obtain⟨a,vs,rfl,hq,c⟩:=g.zG rfl;exact .inl ⟨a,rfl,⟨vs,hq⟩,q _ _ s1 (.list hq c)⟩
 |n _=>cases e
 |m _ _=>cases e⟩
def cQ(fi:Ev->Y (O Dt))(gt:Dt->Ev->Y Ev)(p:Ev->Y Bool)(fe:Ev->Y Bx)(is:O Nat)(n:Nat):Ev->Y Bx:=λρ=>(fi ρ).bind λds=>
 if ds.length<=100000 then(FJ gt p fe (jr is ρ++aa n Z) ds).bind λa=>U (.o a)else Z
theorem fu(ts:AZ)(O:vJ X scope cl xs is)(a0:X.calm=true)(hi:EE X tgt iter fi)(f:∀C d c fp,Zi (Mu X (xs++ts) scope cl C d c fp) tgt gt)(i:∀C d c fp,HD (Mu X (xs++ts) scope cl C d c fp) ifs p)(g:∀C d c fp,QV (Mu X (xs++ts) scope cl C d c fp) elt fe)(l:Zj is.length (is.length+ts.length) gt)(hs:∀x,foldedSetIterable iter X.env x=pure x:=by intro _;rfl):QV X (.ListComp elt [⟨tgt,iter,ifs,0⟩] scope pos) (cQ fi gt p fe is ts.length):=⟨have hi:=hi.run;have f:=λC d c fp=>(f C d c fp).run;have i:=λC d c fp=>(i C d c fp).run;have g:=λC d c fp=>(g C d c fp).run;λAN s σ H Q I h=>by
 obtain⟨H0,ρ,b,E,e,q⟩:=h;obtain⟨ds,W,e⟩:=AT e;split at e
 ·rename_i P;obtain⟨a2,k,e⟩:=AT e;cases e;rw[eval_ListComp];refine wpAny_comprehension_free (use:=Z) S hs O.clos O.kind O.names ?_;refine jO (hi AN s σ H (λJ H'=>AV H H'/\B6 X.K J ds H') I ⟨H0,ρ,ds,E,W,λJ H' s' y=>⟨s',y⟩⟩) λv s1 h1=>jO h1 λa1 s2 h2=>?_;obtain⟨it,fp,tn,J,H2,rfl,F,T,st,t,j,Y⟩:=h2;refine JN (B:=T7) (RR:=λu C=>compPost (d9 X) X.A X.xe Z (EP X AN σ Q) u C) (ts:=ts) (xs:=xs) O a0 f i g l F ((E.grow j).caps is ts.length) (Zm T) st t Y P k ?_;intro D C s' H' us M n z ⟨m,hn⟩ s2' hD' r';refine⟨m,hn,λh' L=>⟨.ref D,H',?_,rfl,q _ _ (j.trans s2') (λa ea=>by cases ea;exact j.free M) ⟨D,us,rfl,hD',r'⟩⟩⟩;obtain⟨f0,f1,f2,N,f4,f5⟩:=z;exact n.turned (t':=s'.toks) (λb o G e=>(L.2 b G).trans e) f0 f1 N f4 f5
 ·cases e⟩
theorem HF(i:Nat){y:AJ}{py spos:Pos}(ts:AZ)(O:vJ X scope cl xs is)(a9:X.calm=true)(hN:X.N.Nodup)(hi:EE X tgt iter fi)(j:∀C d c fp,Zi (Mu X (xs++ts) scope cl C d c fp) tgt gt)(l:∀C d c fp,HD (Mu X (xs++ts) scope cl C d c fp) ifs p)(k:∀C d c fp,QV (Mu X (xs++ts) scope cl C d c fp) elt fe)(W:Zj is.length (is.length+ts.length) gt)(a6:swapsWith (.ListComp elt [⟨tgt,iter,ifs,0⟩] scope pos) (U (.Name y py)) spos.line X.env=pure true:=by with_unfolding_all rfl)(P:X.N[i]?=U y:=by rfl)(hx:CL X.env.scope y:=by first|exact JA rfl|exact QE S)(hf:X.fn y=true\/X.env.scope.names.lookup y=U .local:=by first|exact .inl rfl|exact .inr S)(hs:∀x,foldedSetIterable iter X.env x=pure x:=by intro _;rfl):Q6 X (.Assign [.Name y py] (.ListComp elt [⟨tgt,iter,ifs,0⟩] scope pos) spos) (λρ=>(cQ fi gt p fe is ts.length ρ).bind λb=>(JL ρ i b).bind λρ'=>U (.nx ρ')):=⟨have hi:=hi.run;have j:=λC d c fp=>(j C d c fp).run;have l:=λC d c fp=>(l C d c fp).run;have k:=λC d c fp=>(k C d c fp).run;λAN s σ H D I h=>by
 obtain⟨H0,ρ,r,E,e,q⟩:=h;obtain⟨b,eb,e⟩:=AT e;obtain⟨ds,ed,eb⟩:=AT eb;split at eb
 ·rename_i a5;obtain⟨a8,M,eb⟩:=AT eb;cases eb;cases e;rw[exec_Assign_Name_used _ _ _ _ a6];refine zb (kP (zb ?_));show A7 _ X.A (do let _ <-comprehension (.ListComp elt [⟨tgt,iter,ifs,0⟩] scope pos) scope X.env _ (newList []) false (eval iter X.env) (U (assign (.Name y py) X.env))) _ _ s;refine zb (qa (wpAny_comprehension_free (use:=U (assign (.Name y py) X.env)) (Q:=λ_ s'=>SP X AN D .next s') S hs O.clos O.kind O.names ?_) (λ_ s' hq=>ze (ze hq)) λ_ _ e=>e);refine jO (hi AN s σ H (λJ H'=>AV H H'/\B6 X.K J ds H') I ⟨H0,ρ,ds,E,ed,λJ H' s' y=>⟨s',y⟩⟩) λv s1 h1=>jO h1 λb0 s2 h2=>?_;obtain⟨it,fp,tn,J,H2,rfl,I2,T,st,L,n,Y⟩:=h2;refine JN (B:=T7) (RR:=λa1 C=>compPost (d9 X) X.A X.xe (U (assign (.Name y py) X.env)) (λ_ s'=>SP X AN D .next s') a1 C) (ts:=ts) (xs:=xs) O a9 j l k W I2 ((E.grow n).caps is ts.length) (Zm T) st L Y a5 M ?_;intro f C s' H' us hD G fC ⟨m,hn⟩ s2' hD' r';show A7 _ X.A (assign (.Name y py) X.env (.ref f)) _ _ s';obtain⟨f0,f1,f2,f3,f4,f5⟩:=fC;obtain⟨g,a2,ep,a3,F,a7⟩:=id hn;have a0:L2.AU X (AN++[(C,g)]) σ H' s':=G.wk λu hp=>by
   rcases af.mp hp with z|z
   ·exact G.pin u (zz _ z)
   ·have:u=(C,g):=by simpa using z
    subst this;exact⟨a3,f0,f1,f2,λv z=>by rw[F]at z;cases z⟩
  refine jO (L2.Om hN P hx hf (AN++[(C,g)]) s' σ H' (.ref f) (.ref f) (λσ' t=>σ'=σ.set i (U (.ref f))/\t=H') a0 S ⟨rfl,rfl⟩) λ_ s'' ⟨σ',t,J',e1,e2⟩=>?_;subst e1 e2;have a4:=(J'.pin (C,g) (by simp)).1;refine⟨m,⟨g,a2,ep,a4,F,a7⟩,λh' sb=>?_⟩;refine⟨σ.set i (U (.ref f)),t,J'.rG.turned (t':=s''.toks) (λb o hb e=>(sb.2 b hb).trans e) f0 f1 f3 f4 f5,q _ _ ?_⟩;exact E.set (n.trans s2') (b:=.o a8) ⟨f,us,rfl,hD',r'⟩ (.inl S) λa ea=>by cases ea;exact n.free hD
 ·cases eb⟩
def lend:Bx->Bx
 |.o ds=>.l ds
 |.m ds _=>.n ds
 |b=>b
def Oy:Bx->Bool
 |.o _=>true
 |.m _ _=>true
 |_=>false
def R9(K:B5)(n:Nat)(F:O Bx->Y Bx):Sp:=λvs H Q _=>vs.length=n/\∃bs r,uO K H bs vs/\bs.all (λb=>!Oy b)=true/\F bs=U r/\∀v H',AV H H'->Nw H r v->aQ K H' r v->Q v H'
def dj(n:Nat)(g:Ev->Y As):O Bx->Y Bx:=λbs=>(g (bs.map U++aa (n-bs.length) Z)).bind λr=>match r with
 |.rt b=>U b
 |.nx _=>U (.z .non)
 |_=>Z
theorem bB.start{K:B5}{H:Hp}{N:AZ}{bs:O Bx}{vs:O V}(r:uO K H bs vs)(h:bs.all (λb=>!Oy b)=true):bB K H H (L2.start N vs) (bs.map U++aa (N.length-bs.length) Z):=by
 have g:bs.length=vs.length:=Paired.length r;have get:∀(i:Nat) b,(bs.map U++aa (N.length-bs.length) Z)[i]?=U (U b)->bs[i]?=U b:=λi b e=>by
  by_cases hi:i<bs.length
  ·rw[ZU (by simpa using hi),ZH]at e;cases q:bs[i]? with
   |none=>rw[q]at e;cases e
   |some l=>rw[q]at e;simpa using e
  ·rw[QO (by simp;omega),Q1]at e;split at e<;>cases e
 have f:∀(i:Nat) c,(bs.map U++aa (N.length-bs.length) Z)[i]?=U (U c)->wC c=true->False:=λi c e d=>by
  have:=List.all_eq_true.mp h _ (bg (get i _ e));cases c with
  |o ds=>cases this
  |m ds _=>cases this
  |_=>cases d
 refine⟨?_,λi b e=>?_,λi j c a b e d=>(f i c e d).elim,AV.refl H,λi c a e d=>(f i c e d).elim⟩
 ·unfold L2.start;simp[g]
 ·have e':=get i b e;have hi:i<bs.length:=(ae.mp e').1;have:∀{bs:O Bx} {vs:O V} {i:Nat} {b:Bx},AI (aQ K H) bs vs->bs[i]?=U b->∃v,vs[i]?=U v/\aQ K H b v:=by
   intro bs vs i b r
   induction r generalizing i with
   |nil=>intro e;simp at e
   |cons p t k=>
    intro e;cases i with
    |zero=>simp at e;subst e;exact⟨_,rfl,p⟩
    |succ i=>obtain⟨v,e1,e2⟩:=k (i:=i) (by simpa using e);exact⟨v,by simpa using e1,e2⟩
  obtain⟨v,e1,e2⟩:=this r e';refine⟨v,?_,e2⟩;unfold L2.start;rw[ZU (by simp;omega),ZH,e1];rfl
end
theorem HZ{f:A1}{g:Ev->Y As}(F:Wh K x qual st f fd)(S:bF N ps (aH st))(d:∀(c:A0) (A:A5) (outer:O Env) (s:A2) (H:Hp) (E:XK),jt k (A.deeper (AK qual (aH st) s.heap.objs.size f c))->Sy (Az Hr P w K mg base N qual (aH st) f c A outer s H E).Wg (gn st) g):
  rH P w K mg base Hr (k+1) f fd ps (R9 K ps.length (dj N.length g)):=by
 refine F.ok S (λvs H Q E h=>h.1) λc A outer s H vs Q E j h=>?_;obtain⟨o,bs,r,i,n,e,q⟩:=h;refine⟨_,d c A outer s H E j,?_⟩;obtain⟨a,er,e⟩:=AT e;refine⟨H,_,a,bB.start i n,er,?_⟩;cases a with
 |rt b=>cases e;exact λv H' s' m a=>q v H' s' m a
 |nx ρ=>cases e;exact λσ H' l=>q _ H' l.base trivial (by unfold aQ AW;rfl)
 |bk ρ=>cases e
 |ct ρ=>cases e
section
variable{f:A1}{F:O Bx->Y Bx}{p:Pos}{fs:Ev->Y (O Bx)}
theorem Bp{K:B5}{H:Hp}:∀{bs:O Bx} {vs:O V},uO K H bs vs->uO K H (bs.map lend) vs
 |_,_,.nil=>.nil
 |b::bs,_,.cons h t=>by
  refine .cons ?_ (Bp t);cases b with
  |z d=>exact h
  |l ds=>exact h
  |o ds=>obtain⟨a,vs,e,q,r⟩:=h;exact⟨a,vs,e,.inl q,r⟩
  |n ds=>exact h
  |m ds _=>obtain⟨a,vs,e,q,r⟩:=h;exact⟨a,vs,e,.inl q,r.1⟩
theorem HJ:∀bs:O Bx,(bs.map lend).all (λb=>!Oy b)=true
 |[]=>rfl
 |b::bs=>by
  rw[zr,kc,HJ bs];cases b<;>rfl
def cF(n:Nat)(F:O Bx->Y Bx)(fs:Ev->Y (O Bx)):Ev->Y Bx:=λρ=>(fs ρ).bind λbs=>if bs.length=n then F (bs.map lend)else Z
theorem Xm(G:rH X.prog X.w X.K X.mg X.base Hr k f fd ps (R9 X.K n F))(l:jt k X.A)(o:Gl X x)(g:X.mg x=U (.ref f))(hk:keepIn X.K (.ref f)=true)(m:BF X.K fd ps [])(a:Tt X (e::es) fs)(d:dX x:=by decide)(t:A9 (e::es) X.env=(false,eval e X.env)::A9 es X.env:=by rfl)(i:(AD pos (A9 es X.env)).any (·.1)=false:=by rfl):QV X (.Call (.Name x p) (e::es) [] pos) (cF n F fs):=⟨have a:=a.run;LK (WD G l o g hk m .nil (Zf) a d t i) λσ H Q h=>by
 obtain⟨H0,ρ,r,E,e,q⟩:=h;obtain⟨bs,eb,e⟩:=AT e;refine⟨H0,ρ,bs,E,eb,λvs H1 s1 b=>?_⟩;split at e
 ·rename_i s;rw[Q3];exact⟨by rw[<-Paired.length b];exact s,_,r,Bp b,HJ bs,e,λv H2 s2 j c=>q v H2 (s1.trans s2) (j.old s1) c⟩
 ·cases e⟩
end
end P1
variable{d:P1.Dt}{q:P1.Ev->Y Bool}{F:O P1.Bx->Y P1.Bx}{f:P1.Ev->Y P1.Bx}{g:P1.Ev->Y P1.As}{p:P1.Ev->Y Bool}{AO:O (L2.AY×P1.Dt)}{ds:O P1.Dt}{fa:P1.Ev->Y P1.Bx}{ρ:P1.Ev}{fb fc:P1.Ev->Y P1.Bx}{g1 g2:P1.Ev->Y P1.As}{gt:P1.Dt->P1.Ev->Y P1.Ev}{gb:P1.Ev->Y P1.As}{fi:P1.Ev->Y (O P1.Dt)}{fe:P1.Ev->Y P1.Bx}{Ac:A1->L2.Hp->O P1.Dt->L2.HO->Prop}{fk:P1.Dt->Y P1.Bx}{fo fv:P1.Ev->Y P1.Bx}{bt:P1.Dt->P1.Dt->Bool}{f1:P1.Ev->Y P1.Bx}{gx:P1.Ev->Y P1.Dt}{rC:P1.Dt->Bool}{bQ b_1:P1.Bx}
namespace P1
open L2 SeqAt
open AutoSeq1 (wpAny_loadPart')
def Eb(h:A6)(a:A1):Prop:=∃o ep,h.get? a=U o/\o.ExactDict/\o.data=.dict #[] ep
section
variable{b:A1}
theorem wL{AO:O (AY×V)}{vs:O (AY×A0)}(q:AO=[])(r:KV AO vs)(d:h.DictOf (dJ P w) a vs):Eb h a:=by
 subst q;cases r;obtain⟨o,es,ep,h1,h2,b,_,c,_⟩:=d;have:es=#[]:=by
  have:=c.length;apply Array.eq_empty_of_size_eq_zero;simpa using this
 subst this;exact⟨o,ep,h1,h2,b⟩
theorem Eb.dict(P:A3)(w:A4)(x:Eb h a):h.DictOf (strKind P w) a []:=by
 obtain⟨o,ep,h1,h2,b⟩:=x;exact⟨o,#[],ep,h1,h2,b,λe c=>by simp at c,.nil,List.nodup_nil⟩
theorem Zo(c:(a==sysModules)=false)(d:(b==sysModules)=false)(g:Eb s.heap a)(f:Eb s.heap b)(e:A.units<cLine):RcAt A s (.ref a) (.ref b) true:=λprog w E Q h=>
 PySem.W.keq_eq (knd:=strKind prog w) c d (g.dict prog w) (f.dict prog w) e (λ_=>.nil) h
theorem HQ(c:(a==sysModules)=false)(d:(b==sysModules)=false)(g:Eb s.heap a)(f:Eb s.heap b)(e:A.units<cLine):RcNeAt A s (.ref a) (.ref b) false:=λprog w E Q h=>
 PySem.W.keq_ne (r:=true) (knd:=strKind prog w) c d (g.dict prog w) (f.dict prog w) e (λ_=>.nil) h
theorem JQ(o:AE)(b:AJ)(u:Tok):Meets (Builtin.«dict.__eq__» ⟨[.ref a,.str b u],[]⟩) (λ_ R s=>(s.heap.get? a=U o/\o.cls=.type "dict")/\R (.ok (.ret .notImplemented)) s):=
 .of_wp λprog w A R s h=>by
  have c:s.TypeIs (.ref a) "dict":=⟨o,h.1.1,h.1.2⟩;show A7 _ _ (Builtin.Dict.dictSlotArgs "__eq__" ⟨[.ref a,.str b u],[]⟩ >>= _) _ _ s;refine zb ?_;unfold Builtin.Dict.dictSlotArgs;refine zb (wpAny_notOrdered_dict c ?_);show A7 _ _ (pure (Value.ref a,Value.str b u)) _ _ s;refine ze ?_;refine zb (Kx (T :="str") (typeIs_str s b u) PySem.F.sub_str_dict ?_);simp only[kA,Z3];refine zb (JE ?_);exact ze ⟨_,rfl,h.2⟩
theorem JR(b:AJ)(u:Tok)(es:Array DictEntry)(ep:Nat)(e:Y A1)(sl:Array (Y A0)):Meets (Builtin.«str.__eq__» ⟨[.str b u,.ref a],[]⟩) (λ_ R s=>s.heap.get? a=U { cls:=.type "dict",dict:=e,data:=.dict es ep,slots:=sl }/\R (.ok (.ret .notImplemented)) s):=
 .of_wp λprog w A R s h=>by obtain⟨hp,g,d,tk,os⟩:=s;obtain⟨c,h⟩:=h;wp_walk using wpAny_loadPart' c,wpAny_load c;exact⟨_,rfl,h⟩
theorem FP(x:AJ)(t:Tok)(d:Eb s.heap a)(g:A.units<cLine):RcAt A s (.str x t) (.ref a) false:=λprog w E Q h=>by
 obtain⟨⟨j,f,i,sl⟩,ep,b,⟨c,hd,hs⟩,e⟩:=d;simp only at c e;subst c e;exact rc_eq_decline_or (k:=false) (typeIs_str s x t) ⟨_,b,rfl⟩ () PySem.F.sub_dict_str PySem.F.slot_str_eq PySem.F.slot_dict_eq_refl
  (λ_ hq=>call_meets PySem.F.slot_str_eq (typeIs_str s x t) PySem.F.entry_str_eq (PySem.F.args_str_eq_2 _ _) (JR x t #[] ep f sl) ⟨b,hq⟩)
  (λ_ hq=>call_meets PySem.F.slot_dict_eq_refl ⟨_,b,rfl⟩ PySem.F.entry_dict_eq (PySem.F.args_dict_eq_2 _ _) (JQ _ x t) ⟨⟨b,rfl⟩,hq⟩)
  (λ_ hq=>k9 (rfl:isSame (.str x t) (.ref a)=pure false) hq) (.inr g) h
theorem JT(o:AE)(b:AJ)(u:Tok):Meets (Builtin.«dict.__ne__» ⟨[.ref a,.str b u],[]⟩) (λ_ R s=>(s.heap.get? a=U o/\o.cls=.type "dict")/\R (.ok (.ret .notImplemented)) s):=
 .of_wp λprog w A R s h=>by
  have c:s.TypeIs (.ref a) "dict":=⟨o,h.1.1,h.1.2⟩;show A7 _ _ (Builtin.Dict.dictSlotArgs "__ne__" ⟨[.ref a,.str b u],[]⟩ >>= _) _ _ s;refine zb ?_;unfold Builtin.Dict.dictSlotArgs;refine zb (wpAny_notOrdered_dict c ?_);show A7 _ _ (pure (Value.ref a,Value.str b u)) _ _ s;refine ze ?_;refine zb (Kx (T :="str") (typeIs_str s b u) PySem.F.sub_str_dict ?_);simp only[kA,Z3];refine zb (JE ?_);exact ze ⟨_,rfl,h.2⟩
theorem JV(b:AJ)(u:Tok)(es:Array DictEntry)(ep:Nat)(e:Y A1)(sl:Array (Y A0)):Meets (Builtin.«str.__ne__» ⟨[.str b u,.ref a],[]⟩) (λ_ R s=>s.heap.get? a=U { cls:=.type "dict",dict:=e,data:=.dict es ep,slots:=sl }/\R (.ok (.ret .notImplemented)) s):=
 .of_wp λprog w A R s h=>by obtain⟨hp,g,d,tk,os⟩:=s;obtain⟨c,h⟩:=h;wp_walk using wpAny_loadPart' c,wpAny_load c;exact⟨_,rfl,h⟩
theorem Rb(x:AJ)(t:Tok)(d:Eb s.heap a)(g:A.units<cLine):RcNeAt A s (.str x t) (.ref a) true:=λprog w E Q h=>by
 obtain⟨⟨j,f,i,sl⟩,ep,b,⟨c,hd,hs⟩,e⟩:=d;simp only at c e;subst c e;exact rc_ne_decline_or (k:=false) (typeIs_str s x t) ⟨_,b,rfl⟩ () PySem.F.sub_dict_str PySem.F.slot_str_ne PySem.F.slot_dict_ne_refl
  (λ_ hq=>call_meets PySem.F.slot_str_ne (typeIs_str s x t) PySem.F.entry_str_ne (PySem.F.args_str_ne_2 _ _) (JV x t #[] ep f sl) ⟨b,hq⟩)
  (λ_ hq=>call_meets PySem.F.slot_dict_ne_refl ⟨_,b,rfl⟩ PySem.F.entry_dict_ne (PySem.F.args_dict_ne_2 _ _) (JT _ x t) ⟨⟨b,rfl⟩,hq⟩)
  (λ_ hq=>k9 (rfl:isSame (.str x t) (.ref a)=pure false) hq) (.inr g) h
theorem Rc(x:AJ)(t:Tok)(d:Eb s.heap a)(c:A.units<cLine):EqAt A s (.str x t) (.ref a) false:=λprog w E Q h=>by
 unfold eqBool;refine Zp ?_;refine wpAny_ite_split (λb=>absurd (eq_of_beq b) nofun) (λ_=>?_);exact zb (FP x t d c prog w E _ (qh h))
end
mutual
def yr:Dt->Nat
 |.tup xs=>wM xs+1
 |.lst xs=>wM xs+1
 |_=>1
def wM:O Dt->Nat
 |[]=>0
 |d::ds=>max (yr d) (wM ds)
end
mutual
def Js:Dt->Dt->Y Bool
 |.non,.non=>U true
 |.non,.bl _=>U false|.non,.int _=>U false|.non,.str _=>U false|.non,.tup _=>U false|.non,.lst _=>U false
 |.bl a,.bl b=>U (a==b)
 |.bl a,.int b=>U ((if a then 1 else 0)==b)
 |.bl _,.non=>U false|.bl _,.str _=>U false|.bl _,.tup _=>U false|.bl _,.lst _=>U false
 |.int a,.int b=>U (a==b)
 |.int a,.bl b=>U (a==(if b then 1 else 0))
 |.int _,.non=>U false|.int _,.str _=>U false|.int _,.tup _=>U false|.int _,.lst _=>U false
 |.str a,.str b=>U (a==b)
 |.str _,.non=>U false|.str _,.bl _=>U false|.str _,.int _=>U false|.str _,.tup _=>U false|.str _,.lst _=>U false|.str _,.emp=>U false
 |.tup xs,.tup ys=>jT xs ys
 |.tup _,.non=>U false|.tup _,.bl _=>U false|.tup _,.int _=>U false|.tup _,.str _=>U false|.tup _,.lst _=>U false
 |.lst xs,.lst ys=>jT xs ys
 |.emp,.emp=>U true
 |.lst _,.non=>U false|.lst _,.bl _=>U false|.lst _,.int _=>U false|.lst _,.str _=>U false|.lst _,.tup _=>U false
 |_,_=>Z
def jT:O Dt->O Dt->Y Bool
 |[],[]=>U true
 |[],_::_=>U false
 |_::_,[]=>U false
 |x::xs,y::ys=>match Js x y with
  |some b=>match jT xs ys with
   |some c=>U (b&&c)
   |none=>Z
  |none=>Z
end
mutual
theorem JW:∀{d:Dt} {k:Bool},Js d d=U k->k=true
 |.non,_,e=>by cases e;rfl
 |.bl b,_,e=>by cases e;simp
 |.int b,_,e=>by cases e;simp
 |.str b,_,e=>by cases e;simp
 |.tup xs,_,e=>yt (ds:=xs) e
 |.lst xs,_,e=>yt (ds:=xs) e
 |.emp,_,e=>by cases e;rfl
theorem yt:∀{ds:O Dt} {k:Bool},jT ds ds=U k->k=true
 |[],_,e=>by simp only[jT]at e;cases e;rfl
 |d::ds,_,e=>by
  simp only[jT]at e;cases h:Js d d with
  |none=>rw[h]at e;cases e
  |some b=>
   rw[h]at e;simp only at e;cases h2:jT ds ds with
   |none=>rw[h2]at e;cases e
   |some c=>
    rw[h2]at e;cases e;rw[JW h,yt h2];rfl
end
theorem Ah(xs ys:O Dt):Js (.tup xs) (.tup ys)=jT xs ys:=rfl
theorem rM:∀{xs ys:O Dt} {k:Bool},jT xs ys=U k->∃e:Nat->Bool,(∀(j:Nat) x y,xs[j]?=U x->ys[j]?=U y->Js x y=U (e j))/\k=((ax (min xs.length ys.length)).all e&&xs.length==ys.length)
 |[],[],k,h=>by simp only[jT]at h;cases h;exact⟨λ_=>true,λj x y e=>by simp at e,by simp⟩
 |[],y::ys,k,h=>by simp only[jT]at h;cases h;exact⟨λ_=>true,λj x y e=>by simp at e,by simp⟩
 |x::xs,[],k,h=>by simp only[jT]at h;cases h;exact⟨λ_=>true,λj x y _ e=>by simp at e,by simp⟩
 |x::xs,y::ys,k,h=>by
  simp only[jT]at h;cases h1:Js x y with
  |none=>rw[h1]at h;cases h
  |some b=>
   rw[h1]at h;simp only at h;cases h2:jT xs ys with
   |none=>rw[h2]at h;cases h
   |some c=>
    rw[h2]at h;cases h;obtain⟨e,g,f⟩:=rM h2;refine⟨λj=>match j with|0=>b|j+1=>e j,λj u v a ev=>?_,?_⟩
    ·cases j with
     |zero=>simp at a ev;subst a ev;exact h1
     |succ j=>exact g j u v (by simpa using a) (by simpa using ev)
    ·have:min (x::xs).length (y::ys).length=min xs.length ys.length+1:=by simp only[js];omega
     rw[this,List.range_succ_eq_map,kc,List.all_map,f];have d:((x::xs).length==(y::ys).length)=(xs.length==ys.length):=by
      rw[cw];simp
     rw[d,Bool.and_assoc];rfl
theorem rN:∀{ds:O Dt} {j:Nat} {d:Dt},ds[j]?=U d->yr d<=wM ds
 |[],_,_,e=>by simp at e
 |d::ds,0,_,e=>by simp at e;subst e;simp only[wM];exact Nat.le_max_left _ _
 |d::ds,j+1,_,e=>by
  simp only[wM];exact zS (rN (ds:=ds) (j:=j) (by simpa using e)) (Nat.le_max_right _ _)
theorem Ai(I:L2.AU X AN σ H s)(h:wg X.K H a vs):∃b,s.heap.get? a=U b/\b.cls=.type "tuple":=by
 obtain⟨AQ,_,⟨b,e,c,_⟩,_⟩:=I.tuple h;exact⟨b,e,c⟩
theorem Aj(I:L2.AU X AN σ H s)(h:oK X.K H a vs):∃b,s.heap.get? a=U b/\b.cls=.type "list":=by
 obtain⟨AQ,_,⟨b,n,e,c,_⟩,_⟩:=I.list h;exact⟨b,e,c⟩
theorem Ak(I:L2.AU X AN σ H s)(h:H a=U (.rA o (.dK []))):∃b,s.heap.get? a=U b/\b.cls=.type "dict":=by
 obtain⟨e,_,_,vs,_,b,es,ep,e2,ex,_⟩:=I.hok a _ h;exact⟨b,e2,ex.1⟩
theorem yu{n m:String}(h:∃b,s.heap.get? a=U b/\b.cls=.type n)(q:∃b,s.heap.get? a=U b/\b.cls=.type m)(d:n≠m):False:=by
 obtain⟨o,e,c⟩:=h;obtain⟨o',e',c'⟩:=q;rw[e]at e';cases e';rw[c]at c';exact d (by injection c')
mutual
theorem AW.inj(I:L2.AU X AN σ H s):∀{d e:Dt} {v:V},AW X.K H d v->AW X.K H e v->d=e
 |.non,e,v,h,q=>by
  simp only[AW]at h;subst h;cases e<;>simp only[AW]at q<;>first|rfl|(cases q;done)|(obtain⟨a,b,z,_⟩:=q;cases z;done)|(obtain⟨z,_⟩:=q;cases z;done)
 |.bl _,e,v,h,q=>by
  simp only[AW]at h;subst h;cases e<;>simp only[AW]at q<;>first|(cases q;rfl)|(cases q;done)|(obtain⟨a,b,z,_⟩:=q;cases z;done)|(obtain⟨z,_⟩:=q;cases z;done)
 |.int _,e,v,h,q=>by
  simp only[AW]at h;subst h;cases e<;>simp only[AW]at q<;>first|(cases q;rfl)|(cases q;done)|(obtain⟨a,b,z,_⟩:=q;cases z;done)|(obtain⟨z,_⟩:=q;cases z;done)
 |.str x,e,v,h,q=>by
  simp only[AW]at h;have g:v=.str x:=h.1;subst g;cases e with
  |str y=>
   simp only[AW]at q;have z:V.str x=V.str y:=q.1;injection z with z;rw[z]
  |tup es=>simp only[AW]at q;obtain⟨a,b,z,_⟩:=q;cases z
  |lst es=>simp only[AW]at q;obtain⟨a,b,z,_⟩:=q;cases z
  |emp=>simp only[AW]at q;obtain⟨a,b,z,_⟩:=q;cases z
  |_=>simp only[AW]at q;cases q
 |.tup ds,e,v,h,q=>by
  simp only[AW]at h;obtain⟨a,vs,rfl,sq,r⟩:=h;cases e with
  |tup es=>
   simp only[AW]at q;obtain⟨b,us,z,c,f⟩:=q;cases z;have:=I.Fo sq c;subst this;rw[aG.inj I r f]
  |lst es=>
   simp only[AW]at q;obtain⟨b,us,z,c,f⟩:=q;cases z;exact(yu (Ai I sq) (Aj I c.sq) ()).elim
  |emp=>
   simp only[AW]at q;obtain⟨b,o,z,c⟩:=q;cases z;exact(yu (Ai I sq) (Ak I c) ()).elim
  |str x=>simp only[AW]at q;have z:=q.1;cases z
  |_=>simp only[AW]at q;cases q
 |.lst ds,e,v,h,q=>by
  simp only[AW]at h;obtain⟨a,vs,rfl,sq,r⟩:=h;cases e with
  |lst es=>
   simp only[AW]at q;obtain⟨b,us,z,c,f⟩:=q;cases z;have:=I.Jx sq.sq c.sq;subst this;rw[aG.inj I r f]
  |tup es=>
   simp only[AW]at q;obtain⟨b,us,z,c,f⟩:=q;cases z;exact(yu (Aj I sq.sq) (Ai I c) ()).elim
  |emp=>
   simp only[AW]at q;obtain⟨b,o,z,c⟩:=q;cases z;exact(yu (Aj I sq.sq) (Ak I c) ()).elim
  |str x=>simp only[AW]at q;have z:=q.1;cases z
  |_=>simp only[AW]at q;cases q
 |.emp,e,v,h,q=>by
  simp only[AW]at h;obtain⟨a,o,rfl,sq⟩:=h;cases e with
  |emp=>rfl
  |tup es=>
   simp only[AW]at q;obtain⟨b,us,z,c,f⟩:=q;cases z;exact(yu (Ak I sq) (Ai I c) ()).elim
  |lst es=>
   simp only[AW]at q;obtain⟨b,us,z,c,f⟩:=q;cases z;exact(yu (Ak I sq) (Aj I c.sq) ()).elim
  |str x=>simp only[AW]at q;have z:=q.1;cases z
  |_=>simp only[AW]at q;cases q
theorem aG.inj(I:L2.AU X AN σ H s):∀{ds es:O Dt} {vs:O V},aG X.K H ds vs->aG X.K H es vs->ds=es
 |[],es,vs,h,q=>by
  simp only[aG]at h;subst h;cases es with
  |nil=>rfl
  |cons e es=>simp only[aG]at q;obtain⟨_,_,z,_⟩:=q;cases z
 |d::ds,es,vs,h,q=>by
  simp only[aG]at h;obtain⟨v,r,rfl,h1,h2⟩:=h;cases es with
  |nil=>simp only[aG]at q;cases q
  |cons e es=>
   simp only[aG]at q;obtain⟨b,a,z,q1,q2⟩:=q;cases z;rw[AW.inj I h1 q1,aG.inj I h2 q2]
end
theorem ML(I:L2.AU X AN σ H s):∀(n:Nat) {A:A5} {d e:Dt} {x y:V} {u v:A0} {k:Bool},min (yr d) (yr e)<=n->A.units+n<cLine->AW X.K H d x->AW X.K H e y->At x u->At y v->Js d e=U k->EqAt A s u v k:=by
 intro n
 induction n with
 |zero=>
  intro A d e x y u v k P;have h1:1<=yr d:=by cases d<;>simp only[yr]<;>omega
  have h2:1<=yr e:=by cases e<;>simp only[yr]<;>omega
  omega
 |succ n ih=>
  intro A d e x y u v k P hA m c w g ek;have h:A.units<cLine:=by omega
  by_cases J:u=v/\∃a,u=.ref a
  ·obtain⟨rfl,a,rfl⟩:=J;have hx:x=.ref a:=by have:=w.abs;simpa[EO]using this.symm
   have hy:y=.ref a:=by have:=g.abs;simpa[EO]using this.symm
   subst hx hy;have:=AW.inj I m c;subst this;rw[JW ek];exact EqAt.same _
  ·have items:∀{ds es:O Dt} {vs us:O V} {AQ l:O A0} {f:Nat->Bool},min (wM ds) (wM es)<=n->aG X.K H ds vs->aG X.K H es us->AX vs AQ->AX us l->(∀(j:Nat) x y,ds[j]?=U x->es[j]?=U y->Js x y=U (f j)) →
     ∀j (h1:j<AQ.toArray.size) (h2:j<l.toArray.size),EqAt A.in1 s AQ.toArray[j] l.toArray[j] (f j):=by
    intro ds es vs us AQ l f hm r1 W w1 w2 D j h1 h2;have l1:=w1.length;have l2:=w2.length;have l3:=r1.length;have l4:=W.length;have j1:j<AQ.length:=by simpa using h1
    have j2:j<l.length:=by simpa using h2
    have M:ds[j]?=U ds[j]:=by simp
    have d2:es[j]?=U es[j]:=by simp
    obtain⟨a,ea,B⟩:=r1.get M;obtain⟨b,eb,C⟩:=W.get d2;obtain⟨p,ep,rp⟩:=w1.get ea;obtain⟨q,eq,rq⟩:=w2.get eb;have e1:AQ.toArray[j]=p:=by simpa[j1]using ep
    have e2:l.toArray[j]=q:=by simpa[j2]using eq
    rw[e1,e2];have m1:=rN M;have m2:=rN d2;exact ih () (by rw[units_in1];omega) B C rp rq (D j _ _ M d2)
   cases d with
   |non=>
    cases m;cases w;cases e with
    |non=>cases c;cases g;cases ek;exact EqAt.same _
    |bl b=>cases c;cases g;cases ek;exact EqAt.none_bool b
    |int b=>cases c;obtain⟨t,rfl⟩:=g;cases ek;exact EqAt.none_int b t
    |str b=>obtain⟨rfl,_⟩:=c;obtain⟨t,rfl⟩:=g;cases ek;exact EqAt.none_str b t
    |tup es=>obtain⟨b,us,rfl,sq,_⟩:=c;cases g;cases ek;obtain⟨_,_,p,_⟩:=I.tuple sq;exact EqAt.none_tuple p h
    |lst es=>obtain⟨b,us,rfl,sq,_⟩:=c;cases g;cases ek;obtain⟨_,_,p,_⟩:=I.list sq.sq;exact EqAt.none_list p.isList h
    |emp=>cases ek
   |bl a=>
    cases m;cases w;cases e with
    |non=>cases c;cases g;cases ek;exact EqAt.bool_none a
    |bl b=>cases c;cases g;cases ek;exact EqAt.bool_bool a b
    |int b=>cases c;obtain⟨t,rfl⟩:=g;cases ek;exact EqAt.bool_int a b t
    |str b=>obtain⟨rfl,_⟩:=c;obtain⟨t,rfl⟩:=g;cases ek;exact EqAt.bool_str a b t
    |tup es=>obtain⟨b,us,rfl,sq,_⟩:=c;cases g;cases ek;obtain⟨_,_,p,_⟩:=I.tuple sq;exact EqAt.bool_tuple a p h
    |lst es=>obtain⟨b,us,rfl,sq,_⟩:=c;cases g;cases ek;obtain⟨_,_,p,_⟩:=I.list sq.sq;exact EqAt.bool_list a p.isList h
    |emp=>cases ek
   |int a=>
    cases m;obtain⟨i,rfl⟩:=w;cases e with
    |non=>cases c;cases g;cases ek;exact EqAt.int_none a i
    |bl b=>cases c;cases g;cases ek;exact EqAt.int_bool a i b
    |int b=>cases c;obtain⟨t,rfl⟩:=g;cases ek;exact EqAt.int_int a i b t
    |str b=>obtain⟨rfl,_⟩:=c;obtain⟨t,rfl⟩:=g;cases ek;exact EqAt.int_str a i b t
    |tup es=>obtain⟨b,us,rfl,sq,_⟩:=c;cases g;cases ek;obtain⟨_,_,p,_⟩:=I.tuple sq;exact EqAt.int_tuple a i p h
    |lst es=>obtain⟨b,us,rfl,sq,_⟩:=c;cases g;cases ek;obtain⟨_,_,p,_⟩:=I.list sq.sq;exact EqAt.int_list a i p.isList h
    |emp=>cases ek
   |str a=>
    obtain⟨rfl,_⟩:=m;obtain⟨i,rfl⟩:=w;cases e with
    |non=>cases c;cases g;cases ek;exact EqAt.str_none a i
    |bl b=>cases c;cases g;cases ek;exact EqAt.str_bool a i b
    |int b=>cases c;obtain⟨t,rfl⟩:=g;cases ek;exact EqAt.str_int a i b t
    |str b=>obtain⟨rfl,_⟩:=c;obtain⟨t,rfl⟩:=g;cases ek;exact EqAt.str_str a i b t
    |tup es=>obtain⟨b,us,rfl,sq,_⟩:=c;cases g;cases ek;obtain⟨_,_,p,_⟩:=I.tuple sq;exact EqAt.str_tuple a i p h
    |lst es=>obtain⟨b,us,rfl,sq,_⟩:=c;cases g;cases ek;obtain⟨_,_,p,_⟩:=I.list sq.sq;exact EqAt.str_list a i p.isList h
    |emp=>
     simp only[AW]at c;obtain⟨p,o,rfl,e⟩:=c;cases g;cases ek;obtain⟨_,_,vs,r,q⟩:=zF I.hok (.inr ⟨o,e⟩);exact Rc a i (wL S r q) h
   |tup ds=>
    obtain⟨a,vs,rfl,N,B⟩:=m;cases w;obtain⟨AQ,E,p,_⟩:=I.tuple N;cases e with
    |non=>cases c;cases g;cases ek;exact EqAt.tuple_none p h
    |bl b=>cases c;cases g;cases ek;exact EqAt.tuple_bool b p h
    |int b=>cases c;obtain⟨t,rfl⟩:=g;cases ek;exact EqAt.tuple_int b t p h
    |str b=>obtain⟨rfl,_⟩:=c;obtain⟨t,rfl⟩:=g;cases ek;exact EqAt.tuple_str b t p h
    |lst es=>obtain⟨b,us,rfl,sq,_⟩:=c;cases g;cases ek;obtain⟨_,_,p2,_⟩:=I.list sq.sq;exact EqAt.tuple_list p p2.isList h
    |tup es=>
     obtain⟨b,us,rfl,Q,C⟩:=c;cases g;obtain⟨l,F,p2,_⟩:=I.tuple Q;change jT _ _=U _ at ek;obtain⟨f,D,rfl⟩:=rM ek;have L:a≠b:=λz=>J ⟨by rw[z],a,rfl⟩;have z:=EqAt.of_refs L (RcAt.tuples (A:=A) (e:=f) p p2 h (items (by simp only[yr]at P;omega) B C E F D));have q1:AQ.toArray.size=ds.length:=by rw[zi,<-E.length,B.length]
     have q2:l.toArray.size=es.length:=by rw[zi,<-F.length,C.length]
     rw[q1,q2]at z;exact z
    |emp=>cases ek
   |lst ds=>
    obtain⟨a,vs,rfl,N,B⟩:=m;cases w;obtain⟨AQ,E,p,_⟩:=I.list N.sq;cases e with
    |non=>cases c;cases g;cases ek;exact EqAt.list_none p.isList h
    |bl b=>cases c;cases g;cases ek;exact EqAt.list_bool b p.isList h
    |int b=>cases c;obtain⟨t,rfl⟩:=g;cases ek;exact EqAt.list_int b t p.isList h
    |str b=>obtain⟨rfl,_⟩:=c;obtain⟨t,rfl⟩:=g;cases ek;exact EqAt.list_str b t p.isList h
    |tup es=>obtain⟨b,us,rfl,sq,_⟩:=c;cases g;cases ek;obtain⟨_,_,p2,_⟩:=I.tuple sq;exact EqAt.list_tuple p.isList p2 h
    |lst es=>
     obtain⟨b,us,rfl,Q,C⟩:=c;cases g;obtain⟨l,F,p2,_⟩:=I.list Q.sq;change jT _ _=U _ at ek;obtain⟨f,D,rfl⟩:=rM ek;have L:a≠b:=λz=>J ⟨by rw[z],a,rfl⟩;have q1:AQ.toArray.size=ds.length:=by rw[zi,<-E.length,B.length]
     have q2:l.toArray.size=es.length:=by rw[zi,<-F.length,C.length]
     by_cases a0:AQ.toArray.size=l.toArray.size
     ·have z:=EqAt.of_refs L (RcAt.lists (A:=A) (e:=f) p.isList p2.isList a0 h (items (by simp only[yr]at P;omega) B C E F D));have G:ds.length=es.length:=by omega
      rw[q1]at z;rw[G,df,beq_self_eq_true,kT,<-G];exact z
     ·have G:(ds.length==es.length)=false:=by rw[beq_eq_false_iff_ne];omega
      rw[G,kB];exact EqAt.of_refs L (RcAt.lists_lengths p.isList p2.isList (by simpa using a0) h)
    |emp=>cases ek
   |emp=>
    cases e<;>first|(cases ek;done)|skip;simp only[AW]at m c;obtain⟨a,o,rfl,e1⟩:=m;obtain⟨b,o',rfl,e2⟩:=c;cases w;cases g;cases ek;obtain⟨_,m1,vs,r,q⟩:=zF I.hok (.inr ⟨o,e1⟩);obtain⟨_,m2,a1,r',q'⟩:=zF I.hok (.inr ⟨o',e2⟩);exact EqAt.of_refs (λz=>J ⟨by rw[z],a,rfl⟩) (Zo m1 m2 (wL S r q) (wL S r' q') h)
theorem JZ(I:L2.AU X AN σ H s){es:O Dt}{us:O V}{c:O A0}{f:Nat->Bool}(D:min (wM ds) (wM es)<=n)(G:A.units+n+1<cLine)(i:aG X.K H ds vs)(e:aG X.K H es us)(g:AX vs AQ)(h:AX us c)(k:∀(j:Nat) x y,ds[j]?=U x->es[j]?=U y->Js x y=U (f j)):∀j (h1:j<AQ.toArray.size) (h2:j<c.toArray.size),EqAt A.in1 s AQ.toArray[j] c.toArray[j] (f j):=by
 intro j h1 h2;have E:=g.length;have z:=h.length;have B:=i.length;have C:=e.length;have t:j<AQ.length:=by simpa using h1
 have u:j<c.length:=by simpa using h2
 have d:ds[j]?=U (ds[j]'()):=by simp
 have d2:es[j]?=U (es[j]'()):=by simp
 obtain⟨a,ea,m⟩:=i.get d;obtain⟨b,eb,w⟩:=e.get d2;obtain⟨p,ep,v⟩:=g.get ea;obtain⟨q,l,o⟩:=h.get eb;have e1:AQ.toArray[j]=p:=by simpa[t]using ep
 have e2:c.toArray[j]=q:=by simpa[u]using l
 rw[e1,e2];have J:=rN d;have F:=rN d2;exact ML I n () (by rw[units_in1];omega) m w v o (k j _ _ d d2)
def Ua(K:B5)(H:Hp):Dt->V->Prop
 |.lst ds,v=>∃a vs,v=.ref a/\oK K H a vs/\aG K H ds vs
 |d,v=>AW K H d v
def rO:Bx->Bool
 |.n _=>true
 |.m _ _=>true
 |_=>false
def toD:Bx->Dt
 |.z d=>d
 |.l ds=>.lst ds
 |.o ds=>.lst ds
 |.n _=>.non
 |.m _ _=>.non
theorem aQ.toD{b:Bx}(h:aQ K H b v)(a:rO b=false):Ua K H (toD b) v:=by
 cases b with
 |z d=>
  cases d with
  |lst ds=>exact h.zG rfl
  |_=>exact h
 |l ds=>exact h.zG rfl
 |o ds=>exact h.zG rfl
 |n _=>cases a
 |m _ _=>cases a
theorem O5(I:L2.AU X AN σ H s){e:Dt}{x:V}{v:A0}{k:Bool}(P:min (yr d) (yr e)<=100)(hA:X.A.units+100<cLine)(z:Ua X.K H d x)(h:Ua X.K H e y)(B:At x u)(i:At y v)(ek:Js d e=U k):RcAt X.A s u v k/\RcNeAt X.A s u v (!k):=by
 have g:X.A.units<cLine:=by omega
 cases d with
 |non=>
  cases z;cases B;cases e with
  |non=>
   cases h;cases i;cases ek;exact⟨.none_none,.none_none⟩
  |bl c=>
   cases h;cases i;cases ek;exact⟨.none_bool c,.none_bool c⟩
  |int c=>
   cases h;obtain⟨t2,rfl⟩:=i;cases ek;exact⟨.none_int c t2,.none_int c t2⟩
  |str c=>
   obtain⟨rfl,_⟩:=h;obtain⟨t2,rfl⟩:=i;cases ek;exact⟨.none_str c t2,.none_str c t2⟩
  |tup c=>
   obtain⟨a2,w,rfl,j,l⟩:=h;cases i;obtain⟨t,m,p2,_⟩:=I.tuple j;cases ek;exact⟨.none_tuple p2 g,.none_tuple p2 g⟩
  |lst c=>
   obtain⟨a2,w,rfl,j,l⟩:=h;cases i;obtain⟨t,m,p2,_⟩:=I.list j;cases ek;exact⟨.none_list p2.isList g,.none_list p2.isList g⟩
  |emp=>cases ek
 |bl x1=>
  cases z;cases B;cases e with
  |non=>
   cases h;cases i;cases ek;exact⟨.bool_none x1,.bool_none x1⟩
  |bl c=>
   cases h;cases i;cases ek;exact⟨.bool_bool x1 c,.bool_bool x1 c⟩
  |int c=>
   cases h;obtain⟨t2,rfl⟩:=i;cases ek;exact⟨.bool_int x1 c t2,.bool_int x1 c t2⟩
  |str c=>
   obtain⟨rfl,_⟩:=h;obtain⟨t2,rfl⟩:=i;cases ek;exact⟨.bool_str x1 c t2,.bool_str x1 c t2⟩
  |tup c=>
   obtain⟨a2,w,rfl,j,l⟩:=h;cases i;obtain⟨t,m,p2,_⟩:=I.tuple j;cases ek;exact⟨.bool_tuple x1 p2 g,.bool_tuple x1 p2 g⟩
  |lst c=>
   obtain⟨a2,w,rfl,j,l⟩:=h;cases i;obtain⟨t,m,p2,_⟩:=I.list j;cases ek;exact⟨.bool_list x1 p2.isList g,.bool_list x1 p2.isList g⟩
  |emp=>cases ek
 |int x1=>
  cases z;obtain⟨t1,rfl⟩:=B;cases e with
  |non=>
   cases h;cases i;cases ek;exact⟨.int_none x1 t1,.int_none x1 t1⟩
  |bl c=>
   cases h;cases i;cases ek;exact⟨.int_bool x1 t1 c,.int_bool x1 t1 c⟩
  |int c=>
   cases h;obtain⟨t2,rfl⟩:=i;cases ek;exact⟨.int_int x1 t1 c t2,.int_int x1 t1 c t2⟩
  |str c=>
   obtain⟨rfl,_⟩:=h;obtain⟨t2,rfl⟩:=i;cases ek;exact⟨.int_str x1 t1 c t2,.int_str x1 t1 c t2⟩
  |tup c=>
   obtain⟨a2,w,rfl,j,l⟩:=h;cases i;obtain⟨t,m,p2,_⟩:=I.tuple j;cases ek;exact⟨.int_tuple x1 t1 p2 g,.int_tuple x1 t1 p2 g⟩
  |lst c=>
   obtain⟨a2,w,rfl,j,l⟩:=h;cases i;obtain⟨t,m,p2,_⟩:=I.list j;cases ek;exact⟨.int_list x1 t1 p2.isList g,.int_list x1 t1 p2.isList g⟩
  |emp=>cases ek
 |str x1=>
  obtain⟨rfl,_⟩:=z;obtain⟨t1,rfl⟩:=B;cases e with
  |non=>
   cases h;cases i;cases ek;exact⟨.str_none x1 t1,.str_none x1 t1⟩
  |bl c=>
   cases h;cases i;cases ek;exact⟨.str_bool x1 t1 c,.str_bool x1 t1 c⟩
  |int c=>
   cases h;obtain⟨t2,rfl⟩:=i;cases ek;exact⟨.str_int x1 t1 c t2,.str_int x1 t1 c t2⟩
  |str c=>
   obtain⟨rfl,_⟩:=h;obtain⟨t2,rfl⟩:=i;cases ek;exact⟨.str_str x1 t1 c t2,.str_str x1 t1 c t2⟩
  |tup c=>
   obtain⟨a2,w,rfl,j,l⟩:=h;cases i;obtain⟨t,m,p2,_⟩:=I.tuple j;cases ek;exact⟨.str_tuple x1 t1 p2 g,.str_tuple x1 t1 p2 g⟩
  |lst c=>
   obtain⟨a2,w,rfl,j,l⟩:=h;cases i;obtain⟨t,m,p2,_⟩:=I.list j;cases ek;exact⟨.str_list x1 t1 p2.isList g,.str_list x1 t1 p2.isList g⟩
  |emp=>
   simp only[Ua,AW]at h;obtain⟨p,o,rfl,e⟩:=h;cases i;cases ek;obtain⟨_,_,vs,r,q⟩:=zF I.hok (.inr ⟨o,e⟩);exact⟨FP x1 t1 (wL S r q) g,Rb x1 t1 (wL S r q) g⟩
 |tup x1=>
  obtain⟨a1,a0,rfl,L,C⟩:=z;cases B;obtain⟨G,D,p1,_⟩:=I.tuple L;cases e with
  |non=>
   cases h;cases i;cases ek;exact⟨.tuple_none p1 g,.tuple_none p1 g⟩
  |bl c=>
   cases h;cases i;cases ek;exact⟨.tuple_bool c p1 g,.tuple_bool c p1 g⟩
  |int c=>
   cases h;obtain⟨t2,rfl⟩:=i;cases ek;exact⟨.tuple_int c t2 p1 g,.tuple_int c t2 p1 g⟩
  |str c=>
   obtain⟨rfl,_⟩:=h;obtain⟨t2,rfl⟩:=i;cases ek;exact⟨.tuple_str c t2 p1 g,.tuple_str c t2 p1 g⟩
  |tup c=>
   obtain⟨a2,w,rfl,j,l⟩:=h;cases i;obtain⟨t,m,p2,_⟩:=I.tuple j;change jT _ _=U _ at ek;obtain⟨f,J,rfl⟩:=rM ek;have q1:G.toArray.size=x1.length:=by rw[zi,<-D.length,C.length]
   have q2:t.toArray.size=c.length:=by rw[zi,<-m.length,l.length]
   have it:=JZ I (n:=99) (A:=X.A) (by simp only[yr]at P;omega) () C l D m J;rw[<-q1,<-q2];exact⟨.tuples p1 p2 g it,.tuples p1 p2 g it⟩
  |lst c=>
   obtain⟨a2,w,rfl,j,l⟩:=h;cases i;obtain⟨t,m,p2,_⟩:=I.list j;cases ek;exact⟨.tuple_list p1 p2.isList g,.tuple_list p1 p2.isList g⟩
  |emp=>cases ek
 |lst x1=>
  obtain⟨a1,a0,rfl,L,C⟩:=z;cases B;obtain⟨G,D,p1,_⟩:=I.list L;cases e with
  |non=>
   cases h;cases i;cases ek;exact⟨.list_none p1.isList g,.list_none p1.isList g⟩
  |bl c=>
   cases h;cases i;cases ek;exact⟨.list_bool c p1.isList g,.list_bool c p1.isList g⟩
  |int c=>
   cases h;obtain⟨t2,rfl⟩:=i;cases ek;exact⟨.list_int c t2 p1.isList g,.list_int c t2 p1.isList g⟩
  |str c=>
   obtain⟨rfl,_⟩:=h;obtain⟨t2,rfl⟩:=i;cases ek;exact⟨.list_str c t2 p1.isList g,.list_str c t2 p1.isList g⟩
  |tup c=>
   obtain⟨a2,w,rfl,j,l⟩:=h;cases i;obtain⟨t,m,p2,_⟩:=I.tuple j;cases ek;exact⟨.list_tuple p1.isList p2 g,.list_tuple p1.isList p2 g⟩
  |lst c=>
   obtain⟨a2,w,rfl,j,l⟩:=h;cases i;obtain⟨t,m,p2,_⟩:=I.list j;change jT _ _=U _ at ek;obtain⟨f,J,rfl⟩:=rM ek;have q1:G.toArray.size=x1.length:=by rw[zi,<-D.length,C.length]
   have q2:t.toArray.size=c.length:=by rw[zi,<-m.length,l.length]
   have it:=JZ I (n:=99) (A:=X.A) (by simp only[yr]at P;omega) () C l D m J;by_cases E:G.toArray.size=t.toArray.size
   ·have F:x1.length=c.length:=by omega
    rw[F,df,beq_self_eq_true,kT,<-F,<-q1];exact⟨.lists p1.isList p2.isList E g it,.lists p1.isList p2.isList E g it⟩
   ·have F:(x1.length==c.length)=false:=by rw[beq_eq_false_iff_ne];omega
    rw[F,kB];exact⟨.lists_lengths p1.isList p2.isList (by simpa using E) g,.lists_lengths p1.isList p2.isList (by simpa using E) g⟩
  |emp=>cases ek
 |emp=>
  cases e<;>first|(cases ek;done)|skip;simp only[Ua,AW]at z h;obtain⟨a,o,rfl,e1⟩:=z;obtain⟨b,o',rfl,e2⟩:=h;cases B;cases i;cases ek;obtain⟨_,W,vs,r,q⟩:=zF I.hok (.inr ⟨o,e1⟩);obtain⟨_,Q,a3,M,N⟩:=zF I.hok (.inr ⟨o',e2⟩);exact⟨Zo W Q (wL S r q) (wL S M N) g,HQ W Q (wL S r q) (wL S M N) g⟩
def BB(a b:Bx):Y Bx:=if rO a=true\/rO b=true then Z else if min (yr (toD a)) (yr (toD b))<=100 then(Js (toD a) (toD b)).bind λk=>U (.z (.bl k))else Z
def Sd(a b:Bx):Y Bx:=if rO a=true\/rO b=true then Z else if min (yr (toD a)) (yr (toD b))<=100 then(Js (toD a) (toD b)).bind λk=>U (.z (.bl (!k)))else Z
theorem of_eq(o:X.A.units+100<cLine):Ht X (AG .Eq) BB:=by
 intro AN s σ H x y v u Q I n m h;obtain⟨a,b,c,f,i,e,q⟩:=h;unfold BB at e;split at e
 ·cases e
 rename_i d;have j:rO a=false:=by cases h:rO a with|false=>rfl|true=>exact absurd (.inl h) d
 have l:rO b=false:=by cases h:rO b with|false=>rfl|true=>exact absurd (.inr h) d
 split at e
 ·rename_i g;obtain⟨k,ek,e⟩:=AT e;cases e;exact(O5 I g o (f.toD j) (i.toD l) n m ek).1 X.prog X.w X.xe _ ⟨.bl k,H,I,rfl,q _ H (AV.refl H) trivial (by unfold aQ AW;rfl)⟩
 ·cases e
theorem O6(o:X.A.units+100<cLine):Ht X (AG .NotEq) Sd:=by
 intro AN s σ H x y v u Q I n m h;obtain⟨a,b,c,f,i,e,q⟩:=h;unfold Sd at e;split at e
 ·cases e
 rename_i d;have j:rO a=false:=by cases h:rO a with|false=>rfl|true=>exact absurd (.inl h) d
 have l:rO b=false:=by cases h:rO b with|false=>rfl|true=>exact absurd (.inr h) d
 split at e
 ·rename_i g;obtain⟨k,ek,e⟩:=AT e;cases e;exact(O5 I g o (f.toD j) (i.toD l) n m ek).2 X.prog X.w X.xe _ ⟨.bl (!k),H,I,rfl,q _ H (AV.refl H) trivial (by unfold aQ AW;rfl)⟩
 ·cases e
theorem Ed{i:Int}:aQ K H (.z (.int i)) (.int i):=by unfold aQ AW;rfl
theorem Rf{b:Bool}:aQ K H (.z (.bl b)) (.bl b):=by unfold aQ AW;rfl
theorem Xo(h:x.length<=AA):aQ K H (.z (.str x)) (.str x):=by unfold aQ AW;exact⟨rfl,h⟩
theorem J0{i:Int}(h:aQ K H (.z (.int i)) v):v=.int i:=by simpa only[aQ,AW]using h
theorem HN(h:aQ K H (.z (.str x)) v):v=.str x/\x.length<=AA:=by simpa only[aQ,AW]using h
theorem EB(h:aQ K H (.z (.tup ds)) v):∃a vs,v=.ref a/\wg K H a vs/\aG K H ds vs:=by simpa only[aQ,AW]using h
def i2(g:Int->Int->Y Dt):Bx->Bx->Y Bx
 |.z (.int i),.z (.int j)=>(g i j).bind λd=>U (.z d)
 |_,_=>Z
theorem FQ{f:A0->A0->Sem A0}{r:R2}{g:Int->Int->Y Dt}(o:wz X f r)(h:∀i j d H Q,g i j=U d->(∀v,AW X.K H d v->Q v H)->r (.int i) (.int j) H Q):Ht X f (i2 g):=wz.imp o λx y H Q q=>by
 obtain⟨a,b,c,m,n,e,q⟩:=q;unfold i2 at e;split at e
 ·rename_i i j;obtain⟨d,k,e⟩:=AT e;cases e;rw[J0 m,J0 n];exact h i j d H Q k λv l=>q v H (AV.refl H) trivial l
 ·cases e
theorem EF{i:Int}:AW K H (.int i) (.int i):=by unfold AW;rfl
theorem EI{b:Bool}:AW K H (.bl b) (.bl b):=by unfold AW;rfl
abbrev CC:=i2 λi j=>U (.int (i-j))
abbrev DD:=i2 λi j=>U (.bl (decide (j<i)))
abbrev D6:=i2 λi j=>U (.bl (decide (j<=i)))
abbrev mK:=i2 λi j=>if 0<j/\j<1073741824 then U (.int (i / j))else Z
abbrev gA:=i2 λi j=>if 0<j then U (.int (i%j))else Z
abbrev Xp:=i2 λi j=>if 0<=j/\j<=1000/\i.natAbs<2 ^ 64 then U (.int (i ^ j.toNat))else Z
theorem Ub:Ht X (binaryOp .Sub) CC:=FQ OW λi j d H Q e q=>by cases e;exact⟨i,j,rfl,rfl,q _ EF⟩
theorem Uc:Ht X (AG .Gt) DD:=FQ NC λi j d H Q e q=>by cases e;exact⟨i,j,rfl,rfl,q _ EI⟩
theorem Zq:Ht X (AG .GtE) D6:=FQ MZ λi j d H Q e q=>by cases e;exact⟨i,j,rfl,rfl,q _ EI⟩
theorem ju:Ht X (binaryOp .FloorDiv) mK:=FQ Wv λi j d H Q e q=>by
 split at e
 ·rename_i h;cases e;exact⟨i,j,rfl,rfl,h,q _ EF⟩
 ·cases e
theorem cY:Ht X (binaryOp .Mod) gA:=FQ LU λi j d H Q e q=>by
 split at e
 ·rename_i h;cases e;exact⟨i,j,rfl,rfl,h,q _ EF⟩
 ·cases e
theorem Ha:Ht X (binaryOp .Pow) Xp:=FQ NL λi j d H Q e q=>by
 split at e
 ·rename_i h;cases e;exact⟨i,j,rfl,rfl,⟨h.1,by omega,h.2.2⟩,q _ EF⟩
 ·cases e
def Ef:Bx->Y Bx
 |.z (.int i)=>U (.z (.int (-i)))
 |_=>Z
theorem HS:Fn X (unaryOp .USub) Ef:=Za.imp HG λx H Q q=>by
 obtain⟨a,c,b,e,q⟩:=q;unfold Ef at e;split at e
 ·rename_i i;cases e;exact⟨i,J0 b,q _ H (AV.refl H) trivial Ed⟩
 ·cases e
def Mx:Nat:=1000000
theorem Xq:Mx<=AA:=by decide
theorem MO{b:A1}{us:O V}{Q:VK}(I:L2.AU X AN σ H s)(i:oK X.K H l vs)(j:oK X.K H b us)(n:vs.length+us.length<=AA)(q:∀p,H p=Z->Q (.ref p) (B7 H p (.lst (vs++us)))):
  A7 (d9 X) X.A (binaryOp .Add (.ref l) (.ref b)) (EP X AN σ Q) X.xe s:=by
 obtain⟨AQ,h,⟨⟨x,C,y,sl⟩,k,e1,c1,d,f⟩,z1⟩:=I.list i;obtain⟨a,c,⟨⟨cls2,z,v,m⟩,t,e2,c2,d2,g⟩,z2⟩:=I.list j;simp only at c1 d f c2 d2 g;subst c1 d f c2 d2 g;have B:=h.length;have u:=c.length;have e:AQ.toArray++a.toArray=(AQ++a).toArray:=by simp
 refine concat_meets ⟨_,e1,rfl⟩ ⟨_,e2,rfl⟩ noFill_list_add seq_list_add PySem.F.slot_list_add PySem.F.entry_list_add (PySem.F.args_list_add_2 _ _) (list_addW l b AQ.toArray a.toArray k t Z Z sl m (by rw[zi,zi];omega)) ⟨e1,e2,?_⟩;rw[e];exact⟨.ref s.heap.objs.size,_,I.laid (t':=s.toks) (o:=.lst (vs++us)) (λb D q=>zd _ q) (zl _) ⟨by rw[ZA];exact n,_,0,h.append c,zt _ rfl⟩,rfl,q _ (I.hok.fresh (zl _))⟩
theorem OA{b:A1}{us:O V}{Q:VK}(I:L2.AU X AN σ H s)(d:wg X.K H l vs)(e:wg X.K H b us)(j:vs.length+us.length<=AA)(q0:vs=[]->Q (.ref b) H)(q1:us=[]->Q (.ref l) H)(q2:∀p,H p=Z->Q (.ref p) (B7 H p (.tup (vs++us)))):
  A7 (d9 X) X.A (binaryOp .Add (.ref l) (.ref b)) (EP X AN σ Q) X.xe s:=by
 by_cases a:vs=[]
 ·obtain⟨AQ,o,⟨⟨v,h,q,sl⟩,e1,c1,n,c⟩,z1⟩:=I.tuple d;obtain⟨i,t,⟨⟨cls2,g,u,k⟩,e2,c2,m,f⟩,z2⟩:=I.tuple e;simp only at c1 c c2 f;subst c1 c c2 f;have:AQ=[]:=o.Ae.mpr a;exact concat_meets ⟨_,e1,rfl⟩ ⟨_,e2,rfl⟩ noFill_tuple_add seq_tuple_add PySem.F.slot_tuple_add KF (Kt _ _)
   (tuple_addW0 l b AQ.toArray i.toArray n m h g sl k (by simp[this])) ⟨e1,e2,⟨.ref b,H,I,rfl,q0 a⟩⟩
 ·exact WW AN s σ H (.ref l) (.ref b) (.ref l) (.ref b) Q I S S ⟨l,b,vs,us,rfl,rfl,d,e,a,j,q1,λ_=>q2⟩
def fP:Bx->Bx->Y Bx
 |.z (.int i),.z (.int j)=>U (.z (.int (i+j)))
 |.z (.str i),.z (.str j)=>if i.length+j.length<=Mx then U (.z (.str (i++j)))else Z
 |.z (.tup xs),.z (.tup ys)=>if xs.length+ys.length<=Mx then U (.z (.tup (xs++ys)))else Z
 |a,b=>(lM a).bind λxs=>(lM b).bind λys=>if xs.length+ys.length<=Mx then U (.o (xs++ys))else Z
theorem CY(i j:AJ):(i++j).length=i.length+j.length:=by
 show(i.cps++j.cps).size=_;rw[kg];rfl
theorem c7:Ht X (binaryOp .Add) fP:=by
 intro AN s σ H x y v u Q I t o h;obtain⟨a,b,c,g,k,e,q⟩:=h;have A:=Xq;unfold fP at e;split at e
 ·rename_i i j;cases e;exact OC AN s σ H x y v u Q I t o ⟨i,j,J0 g,J0 k,q _ H (AV.refl H) trivial Ed⟩
 ·rename_i i j;split at e
  ·rename_i w;cases e;exact Mg AN s σ H x y v u Q I t o ⟨i,j,(HN g).1,(HN k).1,by omega,q _ H (AV.refl H) trivial (Xo (by rw[CY];omega))⟩
  ·cases e
 ·rename_i xs ys;split at e
  ·rename_i w;cases e;obtain⟨l,vs,rfl,sl,f⟩:=EB g;obtain⟨m,us,rfl,n,d⟩:=EB k;cases t;cases o;have h1:=f.length;have h2:=d.length;refine OA I sl n () (λz=>q _ H (AV.refl H) trivial ?_) (λz=>q _ H (AV.refl H) trivial ?_) λp hp=>q _ _ (bD hp) trivial ?_
   ·unfold aQ AW;refine⟨m,us,rfl,n,?_⟩;have:xs=[]:=by subst z;exact bo (by simpa using h1.symm)
    rw[this,ko];exact d
   ·unfold aQ AW;refine⟨l,vs,rfl,sl,?_⟩;have:ys=[]:=by subst z;exact bo (by simpa using h2.symm)
    rw[this,Q3];exact f
   ·unfold aQ AW;exact⟨p,_,rfl,.inl (.inl aW),(f.append d).kp (.of (bD hp))⟩
  ·cases e
 ·obtain⟨xs,ea,e⟩:=AT e;obtain⟨ys,eb,e⟩:=AT e;split at e
  ·rename_i w;cases e;obtain⟨l,vs,rfl,sl,f⟩:=g.zG ea;obtain⟨m,us,rfl,n,d⟩:=k.zG eb;cases t;cases o;have h1:=f.length;have h2:=d.length;refine MO I sl n () λp hp=>q _ _ (bD hp) (λa ea=>by cases ea;exact hp) ⟨p,_,rfl,aW,(f.append d).kp (.of (bD hp))⟩
  ·cases e
def uG:Bx->Bx->Y Bx
 |.z (.int i),.z (.int j)=>if(-(2 ^ 64)<i/\i<2 ^ 64)\/(-(2 ^ 64)<j/\j<2 ^ 64)then U (.z (.int (i*j)))else Z
 |.z (.str x),.z (.int n)=>if n<=1000 ∧ -1000<=n/\x.length<=1000 then U (.z (.str (Txt.mul x n)))else Z
 |_,_=>Z
theorem uP(x:Array Nat):∀(n:Nat) (acc:Array Nat),((aa n x).foldl (·++·) acc).size=acc.size+n*x.size
 |0,acc=>by simp
 |n+1,acc=>by
  rw[cS,JY,uP x n,kg,dg];omega
theorem HW(x:AJ)(n:Int):(Txt.mul x n).length<=n.toNat*x.length+x.length:=by
 unfold Txt.mul;split
 ·exact qi _
 ·split
  ·exact Nat.le_add_left _ _
  ·show((aa n.toNat x.cps).foldl (·++·) #[]).size<=_;rw[uP];show(#[]:Array Nat).size+n.toNat*x.cps.size<=n.toNat*x.cps.size+x.cps.size;simp
theorem qb:Ht X (binaryOp .Mult) uG:=by
 intro AN s σ H x y v u Q I o m h;obtain⟨a,b,c,g,l,e,q⟩:=h;unfold uG at e;split at e
 ·rename_i i j;split at e
  ·rename_i d;cases e;exact HM AN s σ H x y v u Q I o m ⟨i,j,J0 g,J0 l,d,q _ H (AV.refl H) trivial Ed⟩
  ·cases e
 ·rename_i f n;split at e
  ·rename_i d;cases e;obtain⟨rfl,hx⟩:=HN g;have p:=J0 l;subst p;obtain⟨t,rfl⟩:=o;obtain⟨w,rfl⟩:=m;have hs:AA=16777216:=sizeLine_eq;have A:n.toNat*f.length<=1000*1000:=Nat.mul_le_mul () d.2.2;refine SB.mul ⟨?_,λh1 h2=>?_,λh1 h2=>?_⟩ λw k=>⟨.str _,H,I.tok _,⟨_,rfl⟩,q _ H (AV.refl H) trivial (Xo (zS (HW f n) ()))⟩
   ·have e1:decide (n < -(2 ^ 63:Int))=false:=z4 ();have e2:decide (n>=2 ^ 63)=false:=z4 ();rw[e1,e2];rfl
   ·have z:0<n:=by omega
    have:(1000:Int)<=(2 ^ 63-1) / n:=(Int.le_ediv_iff_mul_le z).mpr ();omega
   ·show decide (f.length*n.toNat>AA)=false;rw[Nat.mul_comm];exact z4 ()
  ·cases e
 ·cases e
def Zr(i j:AJ):Bool:=!(Builtin.Str.occurrences j i 0 j.length 1).isEmpty
def wN:Dt->Bool
 |.non=>true
 |.bl _=>true
 |.int _=>true
 |.str _=>true
 |_=>false
def CA(x:Dt)(ys:O Dt):Y Bool:=if wN x=true/\ys.all wN=true then U (ys.any λy=>match Js y x with|some true=>true|_=>false)else Z
def vK:Bx->Y (O Dt)
 |.z (.lst ds)=>U ds
 |.z (.tup ds)=>U ds
 |.l ds=>U ds
 |.o ds=>U ds
 |_=>Z
def DA:Bx->Bx->Y Bool
 |.z (.str i),.z (.str j)=>U (Zr i j)
 |.z d,b=>(vK b).bind λys=>CA d ys
 |_,_=>Z
def inF(a b:Bx):Y Bx:=(DA a b).bind λk=>U (.z (.bl k))
def J1(a b:Bx):Y Bx:=(DA a b).bind λk=>U (.z (.bl (!k)))
theorem J2(r:AW K H d v)(f:wN d=true):qQ v=true:=by
 cases d<;>first|(cases f;done)|skip
 all_goals simp only[AW]at r
 ·subst r;rfl
 ·subst r;rfl
 ·subst r;rfl
 ·obtain⟨rfl,_⟩:=r;rfl
theorem FT{K:B5}{H:Hp}:∀{ds:O Dt} {vs:O V},aG K H ds vs->ds.all wN=true->vs.all qQ=true
 |[],_,h,_=>by simp only[aG]at h;subst h;rfl
 |d::ds,_,h,f=>by
  simp only[aG]at h;obtain⟨v,r,rfl,h1,h2⟩:=h;rw[kc,qf]at f;rw[kc,J2 h1 f.1,FT h2 f.2];rfl
theorem HX(b:Bool):(match U b with|some true=>true|_=>false)=b:=by cases b<;>rfl
theorem Xr{e:Dt}{x:V}(b:AW K H d x)(a:AW K H e y)(fd:wN d=true)(fe:wN e=true):W5 x y=(match Js d e with|some true=>true|_=>false):=by
 cases d<;>first|(cases fd;done)|skip
 all_goals (cases e<;>first|(cases fe;done)|skip)
 all_goals simp only[AW]at b a
 all_goals first
  |(subst b;subst a;exact(HX _).symm)
  |(obtain⟨rfl,_⟩:=b;subst a;exact(HX _).symm)
  |(subst b;obtain⟨rfl,_⟩:=a;exact(HX _).symm)
  |(obtain⟨rfl,_⟩:=b;obtain⟨rfl,_⟩:=a;exact(HX _).symm)
theorem O7{K:B5}{H:Hp}{d:Dt}{x:V}(a:AW K H d x)(fd:wN d=true):∀{ds:O Dt} {vs:O V},aG K H ds vs->ds.all wN=true->ED x vs=ds.any λy=>match Js y d with|some true=>true|_=>false
 |[],_,h,_=>by simp only[aG]at h;subst h;rfl
 |e::ds,_,h,f=>by
  simp only[aG]at h;obtain⟨v,r,rfl,h1,h2⟩:=h;rw[kc,qf]at f;have:=O7 a fd h2 f.2;unfold ED at this ⊢;rw[ka,ka,Xr h1 a f.1 fd,this]
theorem rP{b:Bx}(h:aQ K H b v)(e:vK b=U ds):∃a vs,v=.ref a/\(oK K H a vs\/wg K H a vs)/\aG K H ds vs:=by
 cases b with
 |z d=>
  cases d<;>first|(cases e;done)|skip
  ·cases e;obtain⟨a,vs,e,q,r⟩:=EB h;exact⟨a,vs,e,.inr q,r⟩
  ·cases e;obtain⟨a,vs,e,q,r⟩:=h.zG rfl;exact⟨a,vs,e,.inl q,r⟩
 |l c=>
  cases e;obtain⟨a,vs,e,q,r⟩:=h.zG rfl;exact⟨a,vs,e,.inl q,r⟩
 |o c=>
  cases e;obtain⟨a,vs,e,q,r⟩:=h.zG rfl;exact⟨a,vs,e,.inl q,r⟩
 |n _=>cases e
 |m _ _=>cases e
theorem FW{a b:Bx}{x:V}{k:Bool}(f:aQ X.K H a x)(g:aQ X.K H b y)(e:DA a b=U k):
  (∃i j,x=.str i/\y=.str j/\k=Zr i j)\/(∃p xs,y=.ref p/\(oK X.K H p xs\/wg X.K H p xs)/\qQ x=true/\xs.all qQ=true/\k=ED x xs):=by
 unfold DA at e;split at e
 ·rename_i i j;cases e;exact .inl ⟨i,j,(HN f).1,(HN g).1,rfl⟩
 ·rename_i d _;obtain⟨ys,m,e⟩:=AT e;unfold CA at e;split at e
  ·rename_i c;cases e;obtain⟨p,vs,rfl,sq,l⟩:=rP g m;have h:AW X.K H d x:=f;exact .inr ⟨p,vs,rfl,sq,J2 h c.1,FT l c.2,(O7 h c.1 l c.2).symm⟩
  ·cases e
 ·cases e
theorem Ue:Ht X (AG .In) inF:=by
 intro AN s σ H x y v u Q I f d h;obtain⟨a,b,c,g,l,e,q⟩:=h;obtain⟨k,ek,e⟩:=AT e;cases e;rcases FW g l ek with⟨i,j,rfl,rfl,rfl⟩|⟨p,xs,rfl,sq,f1,f2,rfl⟩
 ·exact QM AN s σ H _ _ v u Q I f d ⟨i,j,rfl,rfl,q _ H (AV.refl H) trivial Rf⟩
 ·exact QX AN s σ H _ _ v u Q I f d ⟨p,xs,rfl,sq,f1,f2,q _ H (AV.refl H) trivial Rf⟩
theorem J3:Ht X (AG .NotIn) J1:=by
 intro AN s σ H x y v u Q I f d h;obtain⟨a,b,c,g,l,e,q⟩:=h;obtain⟨k,ek,e⟩:=AT e;cases e;rcases FW g l ek with⟨i,j,rfl,rfl,rfl⟩|⟨p,xs,rfl,sq,f1,f2,rfl⟩
 ·exact Hi AN s σ H _ _ v u Q I f d ⟨i,j,rfl,rfl,q _ H (AV.refl H) trivial Rf⟩
 ·exact Hh AN s σ H _ _ v u Q I f d ⟨p,xs,rfl,sq,f1,f2,q _ H (AV.refl H) trivial Rf⟩
def Mz:Bx->Bool
 |.z .non=>true
 |_=>false
theorem Rh{b:Bx}(h:aQ K H b v):decide (v=.non)=Mz b:=by
 cases b with
 |z d=>
  cases d<;>simp only[aQ,AW]at h
  ·subst h;rfl
  ·subst h;rfl
  ·subst h;rfl
  ·obtain⟨rfl,_⟩:=h;rfl
  ·obtain⟨_,_,rfl,_⟩:=h;rfl
  ·obtain⟨_,_,rfl,_⟩:=h;rfl
  ·obtain⟨_,_,rfl,_⟩:=h;rfl
 |l ds=>obtain⟨_,_,rfl,_⟩:=h;rfl
 |o ds=>obtain⟨_,_,rfl,_⟩:=h;rfl
 |n ds=>obtain⟨_,_,rfl,_⟩:=h;rfl
 |m ds _=>obtain⟨_,_,rfl,_⟩:=h;rfl
def Br(a:Bx):Bx->Y Bx
 |.z .non=>U (.z (.bl (!Mz a)))
 |_=>Z
theorem O8:Ht X (AG .IsNot) Br:=wz.imp Ww λx y H Q q=>by
 obtain⟨a,b,c,f,d,e,q⟩:=q;unfold Br at e;split at e
 ·cases e;simp only[aQ,AW]at d;exact⟨d,by rw[Rh f];exact q _ H (AV.refl H) trivial Rf⟩
 ·cases e
def bV:Bx->Bx->Y Bx
 |.z (.str x),.z (.int i)=>(DN x.cps.toList i).bind λc=>U (.z (.str ⟨#[c]⟩))
 |b,.z (.int i)=>(vK b).bind λds=>(DN ds i).bind λd=>U (.z d)
 |_,_=>Z
theorem Xu{i:Int}(r:aG K H ds vs)(e:DN ds i=U d):∃v,DN vs i=U v/\AW K H d v:=by
 unfold DN at e ⊢;rw[r.length];obtain⟨j,a,e⟩:=AT e;rw[a];exact r.get e
theorem aM{a b:Expr}(f:QV X a fa)(g:QV X b fb)(hs:Ot b:=by intro _ _;with_unfolding_all rfl):QV X (.Subscript a b pos) (b2 bV fa fb):=⟨have f:=f.run;have g:=g.run;LK (NW KM f g hs) λσ H Q h=>by
 obtain⟨H0,ρ,c,E,e,q⟩:=h;obtain⟨a,ea,e⟩:=AT e;obtain⟨b,eb,e⟩:=AT e;refine⟨H0,ρ,a,E,ea,λv H1 s1 A t=>⟨H0,ρ,b,E.grow s1,eb,λu H2 s2 z k=>?_⟩⟩;have j:=t.same s2;unfold bV at e;split at e
 ·rename_i x i;obtain⟨c',s,e⟩:=AT e;cases e;exact .inr (.inr ⟨_,_,c',(HN j).1,J0 k,(HN j).2,s,q _ _ (s1.trans s2) trivial (Xo (by show(1:Nat)<=AA;decide))⟩)
 ·obtain⟨ds,o,e⟩:=AT e;obtain⟨d,n,e⟩:=AT e;cases e;obtain⟨p,vs,rfl,sq,y⟩:=rP j o;obtain⟨w,l,m⟩:=Xu y n;have hi:=J0 k;rcases sq with sq|sq
  ·exact .inl ⟨p,vs,_,w,rfl,hi,sq,l,q _ _ (s1.trans s2) trivial m⟩
  ·exact .inr (.inl ⟨p,vs,_,w,rfl,hi,sq,l,q _ _ (s1.trans s2) trivial m⟩)
 ·cases e⟩
theorem LS:AH "int"=U (.type "int"):=by decide +kernel
theorem jw:AH "tuple"=U (.type "tuple"):=by decide +kernel
theorem Xv:AH "list"=U (.type "list"):=by decide +kernel
theorem Xw:AH "dict"=U (.type "dict"):=by decide +kernel
theorem iV:AH "len"=U (.builtin "len"):=by decide +kernel
theorem L0:AH "abs"=U (.builtin "abs"):=by decide +kernel
theorem HH:AH "all"=U (.builtin "all"):=by decide +kernel
theorem yw:AH "min"=U (.builtin "min"):=by decide +kernel
theorem rQ:AH "max"=U (.builtin "max"):=by decide +kernel
theorem tY:AH "sorted"=U (.builtin "sorted"):=by decide +kernel
def OE(K:B5)(f:Ev->Y (Y Int)):TO:=λσ H Q=>∃H0 ρ o,bB K H0 H σ ρ/\f ρ=U o/\∀H',AV H H'->Q o H'
def Mb(X:Cx)(e:Y Expr)(f:Ev->Y (Y Int)):Prop:=PO X e (OE X.K f)
structure Do (X:Cx) (e:Option Expr) (f:Ev->Option (Option Int)):Prop where
 run:Mb X e f
theorem FY{e:Y Expr}{t t':TO}(h:PO X e t)(m:∀ σ H Q,t' σ H Q->t σ H Q):PO X e t':=λAN s σ H Q I q=>h AN s σ H Q I (m σ H Q q)
def vL:Ev->Y (Y Int):=λ_=>U Z
theorem rR  :Do X Z vL:=⟨FY WR λσ H Q h=>by
 obtain⟨H0,ρ,o,E,e,q⟩:=h;cases e;exact q H (AV.refl H)⟩
def ET:Bx->Y (Y Int)
 |.z (.int i)=>U (U i)
 |_=>Z
def qR(f:Ev->Y Bx):Ev->Y (Y Int):=λρ=>(f ρ).bind ET
theorem mL(h:QV X e f):Do X (U e) (qR f):=⟨have h:=h.run;FY (WT h) λσ H Q q=>by
 obtain⟨H0,ρ,o,E,e,q⟩:=q;obtain⟨b,eb,e⟩:=AT e;refine⟨H0,ρ,b,E,eb,λv H1 s1 c a=>?_⟩;unfold ET at e;split at e
 ·rename_i i;cases e;exact⟨i,J0 a,q H1 s1⟩
 ·cases e⟩
def Bi(xs:O Dt)(lo hi:Y Int):O Dt:=(xs.drop (HT.fV xs.length 0 lo)).take (HT.fV xs.length xs.length hi-HT.fV xs.length 0 lo)
theorem J4(r:aG K H ds vs)(lo hi:Y Int):aG K H (Bi ds lo hi) (JB vs lo hi):=by
 unfold Bi JB;rw[r.length];exact(r.drop _).take _
theorem Ug(ds:O Dt)(h1:HT.fV ds.length 0 lo=0)(h2:HT.fV ds.length ds.length hi=ds.length):Bi ds lo hi=ds:=by
 unfold Bi;rw[h1,h2];simp
theorem wO{t sl:A1}{c b:A0}(a:IsTup s.heap t items)(hs:s.heap.IsSliceOf sl c b .none)(pl:IsPart c lo)(g:IsPart b hi)(h1:HT.fV items.size 0 lo=0)(h2:HT.fV items.size items.size hi=items.size)(h:Q (.ref t) s):A7 (A8 prog w) A (getItem (.ref t) (.ref sl)) Q E s:=by
 obtain⟨os,e,f,j⟩:=id hs;have i:s.TypeIs (.ref sl) "slice":=⟨os,e,f⟩;unfold getItem
 try with_reducible refine Zp ?_
 first|refine zb (ze ?_)|skip
 refine zb (wpAny_sequenceKey a.typeIs () ?_);refine zb (KB (name:=Str.ofString "__getitem__") a.typeIs PyProof.Rows.slot_tuple_getitem
  (JO PyProof.Rows.slot_tuple_getitem a.typeIs entry_tuple_getitem ?_ (args_tuple_getitem _ _)))
 show A7 _ _ (Builtin.Tuple.tupleItemsOf (.ref t) >>= _) _ _ s;refine zb (tupleItemsOf_ a ?_);refine zb (Q4 i ?_);rw[zo ()];refine zb (HT.o7 hs pl g ?_);have d:(((HT.fV items.size 0 lo:Nat):Int)==0&&(1:Int)==1&&(HT.fV items.size items.size hi-HT.fV items.size 0 lo)==items.size)=true:=by
  rw[h1,h2];simp
 show A7 _ _ (if(((HT.fV items.size 0 lo:Nat):Int)==0&&(1:Int)==1&&(HT.fV items.size items.size hi-HT.fV items.size 0 lo)==items.size)=true then _ else _) _ _ s;rw[zo d]
 first
  |refine zb (zb (Q4 a.typeIs (ze ?_)))
  |refine zb (Q4 a.typeIs (zb (ze ?_)))
  |refine zb (Q4 a.typeIs ?_)
 rw[zo ()]
 first
  |exact zb (JE (ze ⟨_,rfl,ze h⟩))
  |exact zb (JE (zb (ze (ze ⟨_,rfl,ze h⟩))))
def DI(b:Bx)(lo hi:Y Int):Y Bx:=match b with
 |.z (.str x)=>U (.z (.str (Txt.slice x lo hi)))
 |.z (.tup ds)=>U (.z (.tup (Bi ds lo hi)))
 |b=>(lM b).bind λds=>U (.o (Bi ds lo hi))
def LM(K:B5):V->Y Int->Y Int->Hp->VK->Prop:=λx lo hi H Q=>∃b c,aQ K H b x/\DI b lo hi=U c/\∀w H',AV H H'->Nw H c w->aQ K H' c w->Q w H'
theorem Me:E8 X (LM X.K):=by
 intro AN s σ H x v G D lo hi sl Q I w hs pl f h;obtain⟨b,c,n,e,q⟩:=h;unfold DI at e;split at e
 ·rename_i y;cases e;obtain⟨rfl,d⟩:=HN n;obtain⟨t,rfl⟩:=w;refine⟨"str", _,F.slot_str_getitem.lookup,typeIs_str _ _ _,?_⟩;obtain⟨o,e1,e2,e3⟩:=hs;have z:∀E k,EP X AN σ Q (.str (Txt.slice y lo hi) E) { s with toks:=k }:=λE k=>⟨.str _,H,I.tok _,⟨_,rfl⟩,q _ H (AV.refl H) trivial (Xo (zS (Txt.slice_le y _ _) d))⟩;cases pl with
  |none=>
   cases f with
   |none=>exact kz (l:=Z) (u:=Z) (st:=Z) ⟨o,e1,e2,e3⟩ S (post_val_or_str ⟨zS (Txt.slice_le y _ _) d,z⟩)
   |int j A=>exact kz (l:=Z) (u:=U (j,A)) (st:=Z) ⟨o,e1,e2,e3⟩ S (post_val_or_str ⟨zS (Txt.slice_le y _ _) d,z⟩)
  |int i C=>
   cases f with
   |none=>exact kz (l:=U (i,C)) (u:=Z) (st:=Z) ⟨o,e1,e2,e3⟩ S (post_val_or_str ⟨zS (Txt.slice_le y _ _) d,z⟩)
   |int j A=>exact kz (l:=U (i,C)) (u:=U (j,A)) (st:=Z) ⟨o,e1,e2,e3⟩ S (post_val_or_str ⟨zS (Txt.slice_le y _ _) d,z⟩)
 ·rename_i ds;cases e;obtain⟨a,vs,rfl,sq,m⟩:=EB n;by_cases g:HT.fV vs.length 0 lo=0/\HT.fV vs.length vs.length hi=vs.length
  ·cases w;obtain⟨AQ,r,J,M⟩:=I.tuple sq;have B:AQ.toArray.size=vs.length:=by rw[zi];exact r.length.symm
   refine⟨"tuple", _,PyProof.Rows.slot_tuple_getitem.lookup,J.typeIs,wO J hs pl f (by rw[B];exact g.1) (by rw[B];exact g.2) ⟨.ref a,H,I,rfl,q _ H (AV.refl H) trivial ?_⟩⟩;rw[Ug ds (by rw[<-m.length];exact g.1) (by rw[<-m.length];exact g.2)];exact n
  ·refine NU AN s σ H _ v G D lo hi sl Q I w hs pl f ⟨a,vs,rfl,sq,g,λp hp=>q _ _ (bD hp) trivial ?_⟩;unfold aQ AW;exact⟨p,_,rfl,.inl (.inl aW),(J4 m lo hi).kp (.of (bD hp))⟩
 ·obtain⟨ds,L,e⟩:=AT e;cases e;obtain⟨a,vs,rfl,sq,m⟩:=n.zG L;exact W4 AN s σ H _ v G D lo hi sl Q I w hs pl f ⟨a,vs,rfl,sq,λp hp=>q _ _ (bD hp) (λa ea=>by cases ea;exact hp) ⟨p,_,rfl,aW,(J4 m lo hi).kp (.of (bD hp))⟩⟩
def Sg(f:Ev->Y Bx)(fl fh:Ev->Y (Y Int)):Ev->Y Bx:=λρ=>(f ρ).bind λb=>(fl ρ).bind λlo=>(fh ρ).bind λhi=>DI b lo hi
theorem FZ{lo hi:Y Expr}{fl fh:Ev->Y (Y Int)}(g:QV X e f)(a:Do X lo fl)(d:Do X hi fh):QV X (.Subscript e (.Slice lo hi Z p2) pos) (Sg f fl fh):=⟨have g:=g.run;have a:=a.run;have d:=d.run;LK (Td Me g a d) λσ H Q h=>by
 obtain⟨H0,ρ,c,E,e,q⟩:=h;obtain⟨b,eb,e⟩:=AT e;obtain⟨lo,el,e⟩:=AT e;obtain⟨hi,n,e⟩:=AT e;refine⟨H0,ρ,b,E,eb,λv H1 s1 s o=>⟨H0,ρ,lo,E.grow s1,el,λH2 s2=>⟨H0,ρ,hi,E.grow (s1.trans s2),n,λp s3=>?_⟩⟩⟩;have i:=(s1.trans s2).trans s3;exact⟨b,c,(o.same s2).same s3,e,λw k j m l=>q w k (i.trans j) (m.old i) l⟩⟩
def iD:O Bx->Y Bx
 |[.z (.str x)]=>U (.z (.int x.length))
 |[b]=>(vK b).bind λds=>U (.z (.int ds.length))
 |_=>Z
theorem BM{b:Bx}(r:uO K H [b] vs):∃v,vs=[v]/\aQ K H b v:=by
 cases r with
 |cons p t=>cases t;exact⟨_,rfl,p⟩
theorem iW:jh X (.builtin "len") iD:=fU.imp (Hj.or Hl) λxs H Q q=>by
 obtain⟨bs,c,b,e,q⟩:=q;unfold iD at e;split at e
 ·rename_i x;cases e;obtain⟨v,rfl,a⟩:=BM b;obtain⟨rfl,hx⟩:=HN a;exact .inr ⟨x,rfl,hx,q _ H (AV.refl H) trivial Ed⟩
 ·obtain⟨ds,d,e⟩:=AT e;cases e;obtain⟨v,rfl,a⟩:=BM b;obtain⟨p,vs,rfl,sq,f⟩:=rP a d;exact .inl ⟨p,vs,rfl,sq,by rw[f.length];exact q _ H (AV.refl H) trivial Ed⟩
 ·cases e
def Ri:O Bx->Y Bx
 |[.z (.int i)]=>U (.z (.int (if i<0 then -i else i)))
 |_=>Z
theorem LW:jh X (.builtin "abs") Ri:=fU.imp S5 λxs H Q q=>by
 obtain⟨bs,c,a,e,q⟩:=q;unfold Ri at e;split at e
 ·rename_i i;cases e;obtain⟨v,rfl,b⟩:=BM a;have:=J0 b;subst this;exact⟨i,rfl,q _ H (AV.refl H) trivial Ed⟩
 ·cases e
def Uh:O Bx->Y Bx
 |[.z (.int i)]=>U (.z (.int i))
 |[.z (.bl k)]=>U (.z (.int (if k then 1 else 0)))
 |_=>Z
theorem N1:jh X (.type "int") Uh:=fU.imp QS λxs H Q q=>by
 obtain⟨bs,c,b,e,q⟩:=q;unfold Uh at e;split at e
 ·rename_i i;cases e;obtain⟨v,rfl,a⟩:=BM b;have:=J0 a;subst this;exact .inl ⟨i,rfl,q _ H (AV.refl H) trivial Ed⟩
 ·rename_i k;cases e;obtain⟨v,rfl,a⟩:=BM b;simp only[aQ,AW]at a;subst a;exact .inr ⟨k,rfl,q _ H (AV.refl H) trivial Ed⟩
 ·cases e
def Ga:O Bx->Y Bx
 |[b]=>(vK b).bind λds=>U (.o ds)
 |_=>Z
theorem Xx:jh X (.type "list") Ga:=fU.imp Ho λxs H Q q=>by
 obtain⟨bs,c,f,e,q⟩:=q;unfold Ga at e;split at e
 ·obtain⟨ds,d,e⟩:=AT e;cases e;obtain⟨v,rfl,h⟩:=BM f;obtain⟨p,vs,rfl,sq,g⟩:=rP h d;exact⟨p,vs,rfl,sq,λl b=>q _ _ (bD b) (λa ea=>by cases ea;exact b) ⟨l,vs,rfl,aW,g.kp (.of (bD b))⟩⟩
 ·cases e
def jx:O Bx->Y Bx
 |[b]=>(vK b).bind λds=>U (.z (.tup ds))
 |_=>Z
theorem jy:jh X (.type "tuple") jx:=fU.imp DW λxs H Q q=>by
 obtain⟨bs,c,f,e,q⟩:=q;unfold jx at e;split at e
 ·obtain⟨ds,d,e⟩:=AT e;cases e;obtain⟨v,rfl,g⟩:=BM f;obtain⟨p,vs,rfl,sq,b⟩:=rP g d;refine⟨p,vs,rfl,?_⟩;rcases sq with sq|sq
  ·refine .inl ⟨sq,λl a=>q _ _ (bD a) trivial ?_⟩;unfold aQ AW;exact⟨l,vs,rfl,.inl (.inl aW),b.kp (.of (bD a))⟩
  ·refine .inr ⟨sq,q _ H (AV.refl H) trivial ?_⟩;unfold aQ AW;exact⟨p,vs,rfl,sq,b⟩
 ·cases e
def Gb:O Dt->Y (O Bool)
 |[]=>U []
 |.bl b::ds=>(Gb ds).bind λbs=>U (b::bs)
 |_=>Z
theorem Bt{K:B5}{H:Hp}:∀{ds:O Dt} {bs:O Bool} {vs:O V} {us:O A0},Gb ds=U bs->aG K H ds vs->AX vs us->us=bs.map Value.bool
 |[],_,_,_,e,r,w=>by
  cases e;simp only[aG]at r;subst r;cases w;rfl
 |d::ds,_,_,_,e,r,w=>by
  simp only[aG]at r;obtain⟨v,a,rfl,h1,h2⟩:=r;cases d<;>first|(cases e;done)|skip;simp only[Gb]at e;obtain⟨bs,e1,e⟩:=AT e;cases e;simp only[AW]at h1;subst h1;cases w with
  |cons p t=>
   cases p;rw[Bt e1 h2 t];rfl
theorem C8(bs:O Bool):((ax bs.length).all λi=>bs.getD i false)=bs.all id:=by
 rw[cw,jv,jv];constructor
 ·intro h b a;obtain⟨i,hi,rfl⟩:=bi.mp a;have:=h i (by simpa using hi);simpa[List.getD,hi]using this
 ·intro h i hi;have hi:i<bs.length:=by simpa using hi
  have:=h bs[i] (List.getElem_mem hi);simpa[List.getD,hi]using this
def CM:O Bx->Y Bx
 |[b]=>(lM b).bind λds=>(Gb ds).bind λbs=>U (.z (.bl (bs.all id)))
 |_=>Z
theorem J5(bs:O Bool):TruthOf prog w A (λi v=>(bs.map Value.bool).toArray[i]?=U v) λi=>bs.getD i false:=λi v s Q E h q=>by
 have h':(bs.map Value.bool)[i]?=U v:=by simpa using h
 rw[ZH]at h';cases e:bs[i]? with
 |none=>rw[e]at h';cases h'
 |some b=>
  rw[e]at h';cases h';have:bs.getD i false=b:=by simp[List.getD,e]
  have a:Q b s:=by rw[<-this];exact q
  exact qh a
theorem KL(z:X.calm=true):jh X (.builtin "all") CM:=by
 intro AN s σ H xs us Q I r h;obtain⟨bs,c,l,e,q⟩:=h;unfold CM at e;split at e
 ·obtain⟨ds,f,e⟩:=AT e;obtain⟨ks,ek,e⟩:=AT e;cases e;obtain⟨v,rfl,C⟩:=BM l;obtain⟨a,vs,rfl,sq,g⟩:=C.zG f;obtain⟨u,rfl,D⟩:=BA r;cases D;obtain⟨AQ,w,pl,E⟩:=I.list sq;have d:=Bt ek g w;have j:a<s.heap.objs.size:=by obtain⟨o,n,e,_⟩:=pl;exact zv e
  refine call_all_walk (kf pl.isList ?_);refine⟨s.heap.objs.size,_,_,_,_,_,λi=>ks.getD i false,rfl,Walks.list (by show X.A.handled=Z;exact I.ok.hd z) s.heap.objs.size a (zD j) AQ.toArray,⟨⟨_,zt _ rfl,rfl,rfl⟩,pl.isList.push _⟩,?_,λh' tk k=>?_⟩
  ·rw[d];exact J5 ks
  ·have x:AQ.toArray.size=ks.length:=by rw[d];simp
   rw[x,C8];have t:L2.AU X AN σ H { s with heap:=s.heap.push { cls:=.type "list_iterator",data:=.fields #[.ref a,.int 0 0] } }:=I.kept (t':=s.toks) λb o e=>zd _ e;refine⟨.bl _,H,?_,rfl,q _ H (AV.refl H) trivial Rf⟩;obtain⟨f0,f1,f2,B,y,m⟩:=I.Wu (b:=s.heap.objs.size) (H':=H) (zl _) (I.hok.fresh (zl _));exact t.turned (it:=s.heap.objs.size) (λb o p e=>k b o (by simpa using p) e) f0 f1 B y m
 ·cases e
end P1
namespace P1
open L2
def gv(i:Nat):Ev->Y Bx:=λρ=>zX ρ i
def jR(g:Bx->Bx->Y Bx)(fa fb:Ev->Y Bx):Ev->Y Bool:=λρ=>(b2 g fa fb ρ).bind Ml
def tV(f:Ev->Y Bx):Ev->Y Bool:=λρ=>(f ρ).bind Tz
def aF:Ev->Y (O Bx):=λ_=>U []
def cZ:Ev->Y As:=λρ=>U (.nx ρ)
def cR(f:Ev->Y Bx):Ev->Y As:=λρ=>(f ρ).bind TX
def B1(i:Nat)(f:Ev->Y Bx):Ev->Y As:=λρ=>(f ρ).bind λb=>(JL ρ i b).bind λa=>U (.nx a)
def EL(gt:Dt->Ev->Y Ev)(f:Ev->Y Bx):Ev->Y As:=λρ=>(f ρ).bind λb=>match b with|.z d=>(gt d ρ).bind λa=>U (.nx a)|_=>Z
def MF(i:Nat)(f:Ev->Y Bx):Ev->Y As:=λρ=>(f ρ).bind (Xg ρ i)
def oM(fi:Ev->Y (O Dt))(gt:Dt->Ev->Y Ev)(gb:Ev->Y As):Ev->Y As:=λρ=>(fi ρ).bind λds=>rK gt gb ds ρ
def Zt(f:Ev->Y Bx):Ev->Y (O Dt):=λρ=>(f ρ).bind TY
def zK(f:Ev->Y Bx):Ev->Y (O Dt):=λρ=>(f ρ).bind Xl
def J6(fs:Ev->Y (O Bx)):Ev->Y (O Dt):=λρ=>(fs ρ).bind FE
def mO(i:Nat):Dt->Ev->Y Ev:=λd ρ=>U (ρ.set i (U (.z d)))
def q9:Ev->Y Bool:=λ_=>U true
theorem fB:HD X [] q9:=⟨.inl ⟨rfl,rfl⟩⟩
theorem fD(h:QB X c p):HD X [c] p:=⟨have h:=h.run;.inr ⟨c,rfl,h⟩⟩
theorem OX:Ea X scope cl [] []:=trivial
theorem Xy{xs:AZ}(n:X.N[i]?=U x)(k:X.env.kindOf x=U .cell\/X.env.kindOf x=U .free)(a:(relabel scope X.env).names.lookup x=U .cell\/(relabel scope X.env).names.lookup x=U .free)(c:∃c,cl.lookup x=U c)(r:Ea X scope cl xs is):Ea X scope cl (x::xs) (i::is):=⟨⟨n,k,a,c⟩,r⟩
theorem mem_of_lookup{a:O (AJ×NameKind)}{x:AJ}{k:NameKind}:a.lookup x=U k->(x,k)∈a:=QP
theorem OM{xs:AZ}(clos:closureFor scope X.env=pure cl)(kind:scope.kind=.function)(cell:scope.names.all (λy=>decide (y.2≠.cell)||(cl.lookup y.1).isNone)=true)(names:scope.names.all (λy=>decide (y.2=.local->scope.names.lookup y.1=U .local))=true)(sub:Bn X.env.cells cl)(has:(relabel scope X.env).names.all (λy=>!(y.2==.cell||y.2==.free)||(cl.lookup y.1).isSome||scope.names.contains (y.1,.cell))=true)(cap:Ea X scope cl xs is):vJ X scope cl xs is where
 clos:=clos
 kind:=kind
 cell:=λy a b=>by
  have:=List.all_eq_true.mp cell y a;simp only[b,ne_eq,not_true_eq_false,ki,bE,cc]at this;exact this
 names:=λy a=>Ki (List.all_eq_true.mp names y a)
 sub:=sub
 has:=λx hx=>by
  have h:∃k,(relabel scope X.env).names.lookup x=U k/\(k==NameKind.cell||k==NameKind.free)=true:=by
   rcases hx with hx|hx
   ·exact⟨_,hx,rfl⟩
   ·exact⟨_,hx,rfl⟩
  obtain⟨k,e,hk⟩:=h;have:=List.all_eq_true.mp has _ (mem_of_lookup e);simp only[hk,kn,bE,bj]at this;rcases this with h|h
  ·exact .inr (aI.mp h)
  ·exact .inl (ba.mp h)
 cap:=cap
theorem Al(r:jt k A):A.units+100<cLine:=by have:=r.un;omega
theorem O3(h:∀b:O Int,b.length<=63->F [.z (.lst (b.map .int))]=U (.z (.bl true)))(i:∀b:O Int,b.length<=63->F [.l (b.map .int)]=U (.z (.bl true)))(K:B5)(H:Hp)(a:A1)(b:O Int)(e:b.length<=63)(_:CU H)(d:oK K H a (b.map V.int)):
  R9 K 1 F [.ref a] H (λv _=>v=.bl true) λ_ _ _=>False:=by
 have g:∀c:O Int,aG K H (c.map Dt.int) (c.map V.int):=λc=>by
  induction c with
  |nil=>exact aG.nil
  |cons m c j=>exact aG.cons (by unfold AW;rfl) j
 have f:∀v (H':Hp),AV H H'->Nw H (.z (.bl true)) v->aQ K H' (.z (.bl true)) v->v=.bl true:=λv H' _ _ r=>by simpa only[aQ,AW]using r
 rcases d with d|d
 ·exact⟨rfl,[.l (b.map .int)],_,.cons ⟨a,_,rfl,d,g b⟩ .nil,rfl,i b e,f⟩
 ·refine⟨rfl,[.z (.lst (b.map .int))],_,.cons ?_ .nil,rfl,h b e,f⟩;unfold aQ AW;exact⟨a,_,rfl,.inr d,g b⟩
theorem NV{f:A1}(F:Wh K x qual st f fd)(S:bF N ps (aH st))(c:N.length=n)(d:ps.length=m)(b:∀(a:A0) (A:A5) (outer:O Env) (s:A2) (H:Hp) (E:XK),jt k (A.deeper (AK qual (aH st) s.heap.objs.size f a))->Sy (Az Hr P w K mg base N qual (aH st) f a A outer s H E).Wg (gn st) g):
  rH P w K mg base Hr (k+1) f fd ps (R9 K m (dj n g)):=by
 subst c d;exact HZ F S b
section
variable{st:Expr}{fs:Ev->Y Bx}
end
def MJ:Bx->Bx->Y Bx
 |.z (.int i),.z (.int j)=>U (.z (.bl (decide (i<j))))
 |.z (.str x),.z (.str y)=>U (.z (.bl (decide (x.cps.toList<y.cps.toList))))
 |_,_=>Z
theorem Bu:Ht X (AG .Lt) MJ:=by
 intro AN s σ H x y v u Q I k g h;obtain⟨a,b,c,d,f,e,q⟩:=h;unfold MJ at e;split at e
 ·rename_i i j;cases e;exact NE AN s σ H x y v u Q I k g ⟨i,j,J0 d,J0 f,q _ H (AV.refl H) trivial (by unfold aQ;exact EI)⟩
 ·rename_i i j;cases e;obtain⟨rfl,_⟩:=HN d;obtain⟨rfl,_⟩:=HN f;obtain⟨t,rfl⟩:=k;obtain⟨l,rfl⟩:=g;exact PySem.P.lt_str ⟨.bl _,H,I,rfl,q _ H (AV.refl H) trivial (by unfold aQ;exact EI)⟩
 ·cases e
def nO:O Dt->Y AZ
 |[]=>U []
 |.str x::r=>(nO r).bind λys=>U (x::ys)
 |_=>Z
theorem jU{K:B5}{H:Hp}:∀{ds:O Dt} {vs:O V} {ys:AZ},aG K H ds vs->nO ds=U ys->vs=ys.map V.str/\∀y∈ys,y.length<=AA
 |[],_,_,h,e=>by cases e;simp only[aG]at h;subst h;exact⟨rfl,λy a=>by cases a⟩
 |.str x::ds,_,_,h,e=>by
  simp only[nO]at e;obtain⟨ys,e1,e2⟩:=AT e;cases e2;simp only[aG]at h;obtain⟨v,r,rfl,hd,b⟩:=h;obtain⟨rfl,hx⟩:v=.str x/\x.length<=AA:=by simpa only[AW]using hd
  obtain⟨rfl,h2⟩:=jU b e1;refine⟨rfl,λy a=>?_⟩;rcases List.mem_cons.mp a with rfl|a
  ·exact hx
  ·exact h2 y a
 |.non::_,_,_,_,e=>by cases e
 |.bl _::_,_,_,_,e=>by cases e
 |.int _::_,_,_,_,e=>by cases e
 |.tup _::_,_,_,_,e=>by cases e
 |.lst _::_,_,_,_,e=>by cases e
 |.emp::_,_,_,_,e=>by cases e
theorem Bv{K:B5}{H:Hp}:∀{ys:AZ},(∀y∈ys,y.length<=AA)->aG K H (ys.map Dt.str) (ys.map V.str)
 |[],_=>aG.nil
 |y::ys,h=>aG.cons (by unfold AW;exact⟨rfl,h y (zg ..)⟩) (Bv λz a=>h z (zh _ a))
theorem iY:∀{ys:AZ} {AQ:O A0},AX (ys.map V.str) AQ->StrsAre AQ ys
 |[],_,h=>by cases h;exact .nil
 |y::ys,_,h=>by
  cases h with
  |cons r t=>
   obtain⟨tk,rfl⟩:=r;exact .cons y tk (iY t)
theorem yx:∀{AQ:O A0} {ys:AZ},StrsAre AQ ys->AX (ys.map V.str) AQ
 |_,_,.nil=>.nil
 |_,_,.cons y t h=>.cons ⟨t,rfl⟩ (yx h)
theorem HY:fU X (.builtin "sorted") (λxs H Q=>∃p ys,xs=[.ref p]/\oK X.K H p (ys.map V.str)/\ys.length<64/\∀l zs,H l=Z->zs.Perm ys->sortedS zs=true->Q (.ref l) (B7 H l (.lst (zs.map V.str)))):=by
 intro AN s σ H xs us Q I r h;obtain⟨p,ys,rfl,hq,m,q⟩:=h;obtain⟨u,rfl,i⟩:=BA r;cases i;obtain⟨AQ,c,pl,d⟩:=I.list hq;have g:=c.length;rw[zk]at g d;refine sorted_strs pl.isList (iY c) () λf zs hs hp j=>?_;obtain⟨n,k⟩:=sortedAll_at s.heap AQ f;refine⟨.ref (s.heap.objs.size+1),_,I.laid (t':=s.toks) (a:=s.heap.objs.size+1) (o:=.lst (zs.map V.str)) (λb o e=>sortedAll_old e) (ky _) ?_,rfl,q _ zs (I.hok.fresh (ky _)) hp j⟩;refine⟨by rw[zk,hp.length_eq];exact d,f.toList,n,yx hs,?_⟩;rw[k]
def qT(a b:AJ):Prop:=ltCps b.cps.toList a.cps.toList=false
theorem wQ:∀(p:AJ) (l:AZ),risingS p l=true->(p::l).Pairwise qT
 |p,[],_=>by simp
 |p,x::r,h=>by
  have h':(!ltCps x.cps.toList p.cps.toList&&risingS x r)=true:=h;rw[qf]at h';have c:=wQ x r h'.2;have hx:qT p x:=by simpa[qT]using h'.1
  refine am.mpr ⟨λy b=>?_,c⟩;rcases List.mem_cons.mp b with rfl|b
  ·exact hx
  ·have a:qT x y:=jS c b;unfold qT at hx a ⊢;rw[ltCps_eq]at hx a ⊢;simp only[QY]at hx a ⊢;exact List.le_trans (α:=Nat) hx a
theorem Ib{l:AZ}(h:sortedS l=true):l.Pairwise qT:=by
 cases l with
 |nil=>exact .nil
 |cons p l=>exact wQ p l h
theorem fG{a b:AJ}(h:qT a b)(h':qT b a):a=b:=by
 unfold qT at h h';rw[ltCps_eq]at h h';simp only[QY]at h h';have:=dA (as:=a.cps.toList) (bs:=b.cps.toList) h h';cases a;cases b;simp only[Str.mk.injEq];exact dC.mp this
theorem Ie:∀{l c:AZ},l.Perm c->l.Pairwise qT->c.Pairwise qT->l=c
 |[],c,h,_,_=>by rw[List.nil_perm.mp h]
 |a::l,[],h,_,_=>by cases List.perm_nil.mp h
 |a::l,b::c,h,p,p'=>by
  have e:a=b:=by
   have f:a∈b::c:=h.mem_iff.mp (zg ..);have d:b∈a::l:=h.mem_iff.mpr (zg ..);rcases List.mem_cons.mp f with h1|h1
   ·exact h1
   ·rcases List.mem_cons.mp d with h2|h2
    ·exact h2.symm
    ·exact fG (jS p h2) (jS p' h1)
  subst e;rw[Ie ((List.perm_cons a).mp h) (am.mp p).2 (am.mp p').2]
def Rj(a b:AJ):Bool:=!ltCps b.cps.toList a.cps.toList
def eX(ys:AZ):AZ:=ys.mergeSort Rj
theorem iZ(ys:AZ):(eX ys).Perm ys:=bq ys Rj
theorem mQ(ys:AZ):(eX ys).Pairwise qT:=by
 have h:=KG (le:=Rj) (λa b c h1 h2=>by
  unfold Rj at *
  rw[ltCps_eq]at *
  simp only[kD,QY]at *
  exact List.le_trans (α:=Nat) h1 h2) (λa b=>by
  unfold Rj;rw[ltCps_eq,ltCps_eq];simp only[bj,kD,QY];exact List.le_total a.cps.toList b.cps.toList) ys
 exact h.imp λ{a b} hh=>by simpa[Rj,qT]using hh
theorem J7{ys zs:AZ}(hp:zs.Perm ys)(hs:sortedS zs=true):zs=eX ys:=Ie (hp.trans (iZ ys).symm) (Ib hs) (mQ ys)
def J8:O Bx->Y Bx
 |[b]=>(lM b).bind λds=>(nO ds).bind λys=>if ys.length<64 then U (.o ((eX ys).map Dt.str))else Z
 |_=>Z
theorem Rk:jh X (.builtin "sorted") J8:=fU.imp HY λxs H Q q=>by
 obtain⟨bs,c,j,e,q⟩:=q;unfold J8 at e;split at e
 ·rename_i b;obtain⟨ds,f,e⟩:=AT e;obtain⟨ys,k,e⟩:=AT e;split at e
  ·rename_i m;cases e;obtain⟨v,rfl,n⟩:=BM j;obtain⟨p,vs,rfl,sq,g⟩:=n.zG f;obtain⟨rfl,i⟩:=jU g k;refine⟨p,ys,rfl,sq,m,λl zs d hp hs=>?_⟩;rw[J7 hp hs];refine q _ _ (bD d) (λa ea=>by cases ea;exact d) ⟨l,_,rfl,aW,Bv λy h=>i y ((iZ ys).mem_iff.mp h)⟩
  ·cases e
 ·cases e
def Gd(x:AJ)(b:Bx):Y Bx:=(lM b).bind λds=>(nO ds).bind λys=>if(ys.map (·.length)).sum+ys.length*x.length<=100000 then U (.z (.str (Txt.join x ys)))else Z
theorem Xz:Eg X "str.join" (λx xs H Q=>∃y p ys,x=.str y/\xs=[.ref p]/\oK X.K H p (ys.map V.str)/\(ys.map (·.length)).sum+ys.length*y.length<=100000/\Q (.str (Txt.join y ys)) H):=by
 intro AN s σ H x xs v us Q I b c h;obtain⟨y,p,ys,rfl,rfl,sq,f,q⟩:=h;obtain⟨t,rfl⟩:=b;obtain⟨u,rfl,d⟩:=BA c;cases d;obtain⟨AQ,a,pl,e⟩:=I.list sq;exact join_list pl.isList (iY a) () λg k=>⟨.str _,H,I.tok _,⟨_,rfl⟩,q⟩
theorem XC{p1:Pos}(h:QV X e f)(hx:x.length<=AA:=by decide)(i:attributeBase (.Constant (.str x) j p1) "join" X.env (eval (.Constant (.str x) j p1) X.env)=eval (.Constant (.str x) j p1) X.env:=by rfl)(g:((AD cpos (A9 [e] X.env)).all (λx=>!x.1)&&(backToKw cpos (keywordEach [] X.env)).all (λx=>x.1.isSome)&&decide ([e].length+([]:O AC).length+(if([]:O AC).isEmpty then 0 else 1)<30))=true:=by rfl)(k:(apos.endLine==cpos.line)=true:=by rfl)(hs:A9 [e] X.env=(false,eval e X.env)::A9 [] X.env:=by rfl):QV X (.Call (.Attribute (.Constant (.str x) j p1) "join" apos) [e] [] cpos) (b1 (Gd x) f):=⟨have h:=h.run;LK (Ou (T :="str") F.plainAttrs_str F.slot_str_join F.type_str_join Xz (Tw (hx:=hx)) (JK h Oz hs) i g k hs S) λσ H Q q=>by
  obtain⟨H0,ρ,c,E,e,q⟩:=q;obtain⟨a,ea,e⟩:=AT e;refine⟨H0,ρ,_,E,rfl,λv H1 s1 y s=>?_⟩;obtain⟨rfl,u⟩:v=.str x/\x.length<=AA:=by simpa only[aQ,AW]using s
  refine⟨rfl,H0,ρ,[a],E.grow s1,by simp only[ao,ea,dE],λvs H2 s2 d=>?_⟩;obtain⟨w,rfl,m⟩:=BM d;unfold Gd at e;obtain⟨ds,b,e⟩:=AT e;obtain⟨ys,n,e⟩:=AT e;split at e
  ·rename_i l;cases e;obtain⟨p,ws,rfl,sq,o⟩:=m.zG b;obtain⟨rfl,t⟩:=jU o n;refine⟨x,p,ys,rfl,rfl,sq,l,q _ _ (s1.trans s2) trivial ?_⟩;unfold aQ AW;exact⟨rfl,joinOk_length (joinOk_of ())⟩
  ·cases e⟩
def Rm:O Bx->Y Bx
 |[.z (.int a),.z (.int b)]=>U (.z (.int (if b>a then b else a)))
 |_=>Z
theorem J9{a b:Bx}(h:uO K H [a,b] vs):∃v w,vs=[v,w]/\aQ K H a v/\aQ K H b w:=by
 cases h with
 |cons p t=>
  cases t with
  |cons p' c=>cases c;exact⟨_,_,rfl,p,p'⟩
theorem OZ(l:X.calm=true):jh X (.builtin "max") Rm:=by
 intro AN s σ H xs us Q I r h;obtain⟨bs,c,g,e,q⟩:=h;unfold Rm at e;split at e
 ·rename_i a b;cases e;obtain⟨v,w,rfl,n,f⟩:=J9 g;have i:=J0 n;have m:=J0 f;subst i m;obtain⟨u,p,rfl,j,k⟩:=AX.two r;obtain⟨t,rfl⟩:=j;obtain⟨o,rfl⟩:=k;refine max_two_ints (I.ok.hd l) λh' tk kp=>?_;by_cases d:b>a
  ·rw[zo d]at q ⊢;exact⟨.int b,H,I.kept kp,⟨_,rfl⟩,q _ H (AV.refl H) trivial Ed⟩
  ·rw[zC d]at q ⊢;exact⟨.int a,H,I.kept kp,⟨_,rfl⟩,q _ H (AV.refl H) trivial Ed⟩
 ·cases e
def Bw(AO:O (AY×Dt))(x:AY):Y Dt:=(AO.find? λa=>decide (a.1=x)).map (·.2)
def Ka(AO:O (AY×Dt))(x:AY)(d:Dt):O (AY×Dt):=
 if(AO.any λa=>decide (a.1=x))=true then AO.map (λa=>if a.1=x then(a.1,d)else a)else AO++[(x,d)]
theorem fO.nil:fO K H [] []:=⟨rfl,aG.nil,λp hp=>by cases hp⟩
theorem fO.inv{p:AY×Dt}(h:fO K H (p::AO) ks):∃v r,ks=(p.1,v)::r/\AW K H p.2 v/\D7 p.1/\fO K H AO r:=by
 obtain⟨h1,h2,a⟩:=h;cases ks with
 |nil=>simp at h1
 |cons q r=>
  simp only[zr,Qb]at h1;obtain⟨e,h1⟩:=h1;simp only[zr,aG]at h2;obtain⟨v,d,e2,c,b⟩:=h2;simp only[Qb]at e2;obtain⟨rfl,rfl⟩:=e2;exact⟨q.2,r,by rw[<-e],c,a p (zg ..),h1,b,λx hx=>a x (zh _ hx)⟩
theorem fO.cons{p:AY×Dt}{AO:O (AY×Dt)}{v:V}{r:O (AY×V)}(a:AW K H p.2 v)(hp:D7 p.1)(h:fO K H AO r):fO K H (p::AO) ((p.1,v)::r):=
 ⟨by simp[h.1],aG.cons a h.2.1,λx hx=>by
  rcases List.mem_cons.mp hx with rfl|hx
  ·exact hp
  ·exact h.2.2 x hx⟩
theorem fO.append{AO:O (AY×Dt)}{ks:O (AY×V)}{x:AY}{d:Dt}{v:V}(h:fO K H AO ks)(a:AW K H d v)(hx:D7 x):fO K H (AO++[(x,d)]) (ks++[(x,v)]):=
 ⟨by simp[h.1],by rw[ZT,ZT];exact aG.append h.2.1 (aG.cons a aG.nil),λp hp=>by
  rcases af.mp hp with hp|hp
  ·exact h.2.2 p hp
  ·cases ah.mp hp;exact hx⟩
theorem fO.len(h:fO K H AO ks):ks.length=AO.length:=by
 have:=congrArg av h.1;simpa using this
theorem fO.look:∀{AO:O (AY×Dt)} {ks:O (AY×V)} {x:AY} {d:Dt},fO K H AO ks->Bw AO x=U d->∃v,DX ks x=U v/\AW K H d v
 |[],_,_,_,_,e=>by cases e
 |p::AO,_,x,d,h,e=>by
  obtain⟨v,r,rfl,b,c,a⟩:=h.inv;unfold Bw at e;by_cases hp:p.1=x
  ·rw[List.find?_cons_of_pos (by simpa using hp)]at e;cases e;exact⟨v,Bb (by rw[hp]),b⟩
  ·rw[List.find?_cons_of_neg (by simpa using hp)]at e;obtain⟨w,e1,e2⟩:=fO.look a e;exact⟨w,(Bc (by simpa using hp)).trans e1,e2⟩
theorem fO.any:∀{AO:O (AY×Dt)} {ks:O (AY×V)} {x:AY},fO K H AO ks->(ks.any λa=>decide (a.1=x))=AO.any λa=>decide (a.1=x)
 |[],ks,_,h=>by
  have:=h.len;cases ks with
  |nil=>rfl
  |cons _ _=>simp at this
 |p::AO,_,x,h=>by
  obtain⟨v,r,rfl,d,c,b⟩:=h.inv;rw[ka,ka,fO.any b]
theorem fO.Uj:∀{AO:O (AY×Dt)} {ks:O (AY×V)} {x:AY} {d:Dt} {v:V},fO K H AO ks->AW K H d v->fO K H (AO.map λa=>if a.1=x then(a.1,d)else a) (ks.map λa=>if a.1=x then(a.1,v)else a)
 |[],ks,_,_,_,h,_=>by
  have:=h.len;cases ks with
  |nil=>exact fO.nil
  |cons _ _=>simp at this
 |p::AO,_,x,d,v,h,hd=>by
  obtain⟨w,r,rfl,f,b,e⟩:=h.inv;rw[zr,zr];have c:=fO.Uj (x:=x) e hd;by_cases hp:p.1=x
  ·rw[zo hp,zo (by simp[hp])];exact fO.cons (p:=(p.1,d)) hd b c
  ·rw[zC hp,zC (by simpa using hp)];exact fO.cons f b c
theorem fO.put{x:AY}(h:fO K H AO ks)(a:AW K H d v)(hx:D7 x):fO K H (Ka AO x d) (BT ks x v):=by
 unfold Ka BT;rw[h.any];split
 ·exact h.Uj a
 ·exact h.append a hx
section
variable{ek o:Expr}{fk:Ev->Y Bx}{pos':Pos}
def DL:Bx->Y AY
 |.z (.str x)=>U (.inr x)
 |.z (.int i)=>U (.inl i)
 |_=>Z
theorem XD{b:Bx}{k:AY}(e:DL b=U k)(r:aQ K H b v):v=kV k/\D7 k:=by
 unfold DL at e;split at e
 ·cases e;simp only[aQ,AW]at r;exact r
 ·cases e;simp only[aQ,AW]at r;exact⟨r,trivial⟩
 ·cases e
def Ge:Bx->Bx->Y Bx
 |.n AO,b=>(DL b).bind λk=>(Bw AO k).bind λd=>U (.z d)
 |_,_=>Z
theorem MK{a b c:Bx}(h:Ge a b=U c):∃AO k d,a=.n AO/\DL b=U k/\Bw AO k=U d/\c=.z d:=by
 unfold Ge at h;split at h
 ·obtain⟨k,ek,h⟩:=AT h;obtain⟨d,e,h⟩:=AT h;cases h;exact⟨_,k,d,rfl,ek,e,rfl⟩
 ·cases h
theorem XF(u:X.A.units+100<cLine)(f:QV X o fo)(hk:QV X ek fk)(hs:Tj ek:=by intro _ _;rfl):QV X (.Subscript o ek pos) (b2 Ge fo fk):=⟨have f:=f.run;have hk:=hk.run;LK (W7 () f hk hs) λσ H Q h=>by
 obtain⟨H0,ρ,c,E,e,q⟩:=h;obtain⟨a,ea,e⟩:=AT e;obtain⟨b,eb,e⟩:=AT e;refine⟨H0,ρ,a,E,ea,λv H1 s1 y s=>⟨H0,ρ,b,E.grow s1,eb,λw H2 s2 t i=>?_⟩⟩;obtain⟨AO,x,d,rfl,m,g,rfl⟩:=MK e;obtain⟨p,ks,rfl,l,k⟩:=s.same s2;obtain⟨n,ev,j⟩:=k.look g;obtain⟨rfl,_⟩:=XD m i;exact⟨p,n,rfl,.inl ⟨ks,x,l,rfl,ev.symm⟩,q _ _ (s1.trans s2) trivial j⟩⟩
end
section
variable{a b:Expr}{fs:Ev->Y (O Bx)}
theorem bI{j}(hx:x.length<=AA:=by decide):QV X (.Constant (.str x) j pos) (cB (.str x)):=⟨P1.Tw (hx:=hx)⟩
end
section
variable{a b:Expr}{fs:Ev->Y (O Bx)}
variable{AS:O Expr}
theorem aj(h1:QV X e f)(h2:Tt X es fs)(hs:A9 (e::es) X.env=(false,eval e X.env)::A9 es X.env:=by rfl):Tt X (e::es) (ao f fs):=⟨P1.JK (h1:=h1.run) (h2:=h2.run) (hs:=hs)⟩
theorem aA  :Tt X [] (λ_=>U []):=⟨P1.Oz ⟩
end
theorem Iy{f:A1}(F:Wh K x qual st f fd)(S:bF N ps (aH st))(e:N.length=n)(c:ps.length=m)(b:∀(a:A0) (A:A5) (outer:O Env) (s:A2) (H:Hp) (E:XK),jt k (A.deeper (AK qual (aH st) s.heap.objs.size f a))->OD (Az Hr P w K mg base N qual (aH st) f a A outer s H E).Wg (gn st) g):
  rH P w K mg base Hr (k+1) f fd ps (R9 K m (dj n g)):=NV F S e c λa A outer s H E d=>(b a A outer s H E d).run
theorem bB.adu(E:bB K H0 H σ ρ)(i:Nat):bB K H0 H σ (ρ.set i Z):=by
 have d:∀(j:Nat) (b:Bx),(ρ.set i Z)[j]?=U (U b)->ρ[j]?=U (U b):=λj b e=>by
  rw[kC]at e;split at e
  ·split at e<;>cases e
  ·exact e
 refine⟨by rw[kq];exact E.len,λj b e=>E.val j b (d j b e),λj k c a b e1 f e2 e3 h g=>E.own j k c a b (d _ _ e1) f e2 (d _ _ e3) h g,E.base,λj c a e1 f e2=>E.new j c a (d _ _ e1) f e2⟩
def kill(is:O Nat)(ρ:Ev):Ev:=is.foldl (λρ i=>ρ.set i Z) ρ
theorem bB.kill{K:B5}{H0 H:Hp}{σ:L2.St}:∀(is:O Nat) {ρ:Ev},bB K H0 H σ ρ->bB K H0 H σ (P1.kill is ρ)
 |[],_,E=>E
 |i::is,_,E=>bB.kill is (E.adu i)
def gU(is:O Nat):Ev->Y As:=λρ=>U (.nx (kill is ρ))
theorem Uk{a:O AB}(is:O Nat)(h:Sy X a g):Sy X a (aD g (gU is)):=Xa h λD σ H q=>by
 obtain⟨H0,ρ,r,E,e,q⟩:=q;obtain⟨c,e1,e⟩:=AT e;refine⟨H0,ρ,c,E,e1,?_⟩;cases c with
 |nx f=>cases e;exact λσ' H' d=>q σ' H' (d.kill is)
 |rt b=>cases e;exact q
 |bk b=>cases e;exact q
 |ct b=>cases e;exact q
theorem cT{a:O AB}(is:O Nat)(h:OD X a g):OD X a (aD g (gU is)):=⟨Uk is h.run⟩
end P1
namespace S1
section
variable(rk:A0->Nat)
def at_(xs:Array Keyed)(i:Nat):Nat:=match xs[i]? with
 |some p=>rk p.1
 |none=>0
def Up(xs:Array Keyed)(k:Nat):Prop:=∀i j,i<=j->j<k->at_ rk xs i<=at_ rk xs j
def C9(xs:Array Keyed)(k:Nat):Prop:=∀i j,i<=j->j<k->at_ rk xs j<=at_ rk xs i
structure Bs (kd:SortKind) (b:Array Keyed) (st:SortSt):Prop where
 pm:(arrOf st).Perm b
 kd:kindOf st=kd
 fl:failedOf st=none
 pd:pendingOf st=#[]
variable{rk}{kd:SortKind}{b:Array Keyed}
theorem Bs.sz{st:SortSt}(h:Bs kd b st):(AM st).size=b.size:=h.pm.size_eq
theorem Bs.arr{st:SortSt}{xs:Array Keyed}(h:Bs kd b st)(hp:xs.Perm (AM st)):Bs kd b (PyProof.Rows.setArr st xs):=⟨hp.trans h.pm,h.kd,h.fl,h.pd⟩
theorem rT{xs ys:Array Keyed}(h:xs[i]?=ys[j]?):at_ rk xs i=at_ rk ys j:=by unfold at_;rw[h]
theorem Ul{xs:Array Keyed}{p d:Nat}(hs:p<xs.size)(hd:d<=p)(k:Nat):at_ rk (bubble xs p d) k=if k=p-d then at_ rk xs p else if p-d<k/\k<=p then at_ rk xs (k-1)else at_ rk xs k:=by
 have e:=getElem?_bubble hs d hd k;by_cases q:k=p-d
 ·simp only[zo q]at e ⊢;exact rT e
 ·simp only[zC q]at e ⊢;by_cases q2:p-d<k/\k<=p
  ·simp only[zo q2]at e ⊢;exact rT e
  ·simp only[zC q2]at e ⊢;exact rT e
theorem MN{xs:Array Keyed}(a:j<=xs.size)(k:Nat):at_ rk (mirror xs i j ((j-i) / 2)) k=if i<=k/\k<j then at_ rk xs (i+j-1-k)else at_ rk xs k:=by
 have e:=getElem?_mirror_all (i:=i) a k;by_cases q:i<=k/\k<j
 ·simp only[zo q]at e ⊢;exact rT e
 ·simp only[zC q]at e ⊢;exact rT e
theorem wR{xs:Array Keyed}(b:j<=xs.size)(a:∀k,i<=k->k<j->at_ rk xs k=at_ rk xs (j-1))(k:Nat):at_ rk (mirror xs i j ((j-i) / 2)) k=at_ rk xs k:=by
 rw[MN b];by_cases q:i<=k/\k<j
 ·rw[zo q,a (i+j-1-k) () (),a k q.1 q.2]
 ·rw[zC q]
end
section
variable{b:Array Keyed}{kd:SortKind}{rk:A0->Nat}
def Wj(prog:A3)(w:A4)(A:A5)(s:A2)(kd:SortKind)(rk:A0->Nat)(b:Array Keyed):Prop:=
 ∀(E:BE) (p q:Keyed) (Q:Bool->A2->Prop),p∈b.toList->q∈b.toList->Q (decide (rk p.1<rk q.1)) s->A7 (A8 prog w) A (keyLt' kd p.1 q.1) Q E s
theorem Kc{st:SortSt}{Q:Y Bool->SortSt->Prop}(f:Wj prog w A s kd rk b)(B:Bs kd b st)(hi:i<b.size)(c:j<b.size)(h:Q (U (decide (at_ rk (AM st) i<at_ rk (AM st) j))) st):wpS (A8 prog w) A E s (ltAt' i j) Q st:=by
 have get:∀k,k<b.size->∃p,(AM st)[k]?=U p/\p∈b.toList:=λk hk=>by
  have d:k<(AM st).size:=by rw[B.sz];exact hk
  exact⟨(AM st)[k],getElem?_pos _ k d,(bP.mp B.pm).mem_iff.mp (by simp)⟩
 obtain⟨p,e1,e⟩:=get i hi;obtain⟨q,e2,a⟩:=get j c;have h:Q (U (decide (rk p.1<rk q.1))) st:=by unfold at_ at h;rw[e1,e2]at h;exact h
 rw[ltAt'_eq];refine AL (wpS_get ?_);show wpS _ _ _ _ (elem' (AM st) i >>= λx=>elem' (AM st) j >>= λy=>lt' x y) Q st;rw[elem'_eq,elem'_eq,e1,e2];refine AL (wpS_pure ?_);refine AL (wpS_pure ?_);rw[lt'_eq];refine AL (wpS_get ?_);rw[B.kd];exact AL (wpS_lift (wpAny_attempt (f _ p q _ e a ⟨rfl,wpS_pure h⟩)))
theorem Go{st:SortSt}{a:Nat}{Q:AscSt->SortSt->Prop}(g:Wj prog w A s kd rk b)(u:n<=b.size)(p:1<=a)(k:a<=n)(B:Bs kd b st)(hs:Up rk (AM st) a)(h:∀m,a<=m->m<=n->Up rk (AM st) m->(m=n\/at_ rk (AM st) m<at_ rk (AM st) (m-1))->Q (Z,m) st):wpS (A8 prog w) A E s (ascLoop a n) Q st:=by
 unfold ascLoop;refine wpS_forRange (I:=λx c t=>t=st/\c=(Z,x)/\Up rk (AM st) x) ?_ ?_ ⟨rfl,rfl,hs⟩
 ·rintro x c t l v ⟨rfl,rfl,d⟩;refine AL (Kc g B () () ?_);by_cases q:at_ rk (AM t) x<at_ rk (AM t) (x-1)
  ·simp only[q,Kb,Z3];exact wpS_pure (h x l () d (.inr q))
  ·simp only[q,ki,zw,ZN];refine wpS_pure ⟨rfl,rfl,λi j f o=>?_⟩;by_cases hx:j<x
   ·exact d i j f hx
   ·have e:j=x:=by omega
    subst e;by_cases hi:i=j
    ·rw[hi];exact zl _
    ·have:=d i (j-1) () ();omega
 ·rintro c t ⟨rfl,rfl,d⟩;rw[show max a n=n by omega]at d ⊢;exact h n k (zl _) d (.inl S)
theorem t3{st:SortSt}{Q:Y Nat->SortSt->Prop}(l:Wj prog w A s kd rk b)(f:n<=b.size)(h1:1<=m)(d:m<=n)(B:Bs kd b st)(hs:C9 rk (AM st) m)(h:∀k t,Bs kd b t->1<=k->k<=n->Up rk (AM t) k->Q (U k) t):wpS (A8 prog w) A E s (tail3 m n) Q st:=by
 unfold tail3;have a:m<=(AM st).size:=by rw[B.sz];omega
 refine AL (wpS_reverse ?_);have c:Bs kd b (PyProof.Rows.setArr st (mirror (AM st) 0 m ((m-0) / 2))):=B.arr (mirror_perm _ _ _ _);refine AL (Go l f h1 d c (λi j q o=>?_) λk p e g _=>wpS_pure (h k _ c () e g));show at_ rk (mirror (AM st) 0 m ((m-0) / 2)) i<=at_ rk (mirror (AM st) 0 m ((m-0) / 2)) j;rw[MN a,MN a,zo ⟨by omega,by omega⟩,zo ⟨by omega,by omega⟩];exact hs _ _ () ()
theorem MY{st:SortSt}{Q:DescSt->SortSt->Prop}(g:Wj prog w A s kd rk b)(F:n<=b.size)(h1:1<=m)(o:m<=n)(B:Bs kd b st)(hs:C9 rk (AM st) m)(h:∀k e t,Bs kd b t->m<=k->k<=n->C9 rk (AM t) k->e+1<=k->(∀i,k-(e+1)<=i->i<k->at_ rk (AM t) i=at_ rk (AM t) (k-1))->Q (Z,k,e) t):wpS (A8 prog w) A E s (descLoop m n) Q st:=by
 unfold descLoop;refine wpS_forRange (I:=λx c t=>∃e,c=(Z,x,e)/\Bs kd b t/\C9 rk (AM t) x/\e+1<=x/\∀i,x-(e+1)<=i->i<x->at_ rk (AM t) i=at_ rk (AM t) (x-1)) ?_ ?_ ⟨0,rfl,B,hs,by omega,λi q1 q2=>by rw[show i=m-1 by omega]⟩
 ·rintro x c t v D ⟨e,rfl,a,dn,f,d⟩;have p:x<=(AM t).size:=by rw[a.sz];omega
  have grow:∀xs:Array Keyed,(∀k,at_ rk xs k=at_ rk (AM t) k)->at_ rk (AM t) x<=at_ rk (AM t) (x-1)->C9 rk xs (x+1):=λxs hk z i j u C=>by
   rw[hk,hk];by_cases hx:j<x
   ·exact dn i j u hx
   ·have l:j=x:=by omega
    subst l;by_cases hi:i=j
    ·rw[hi];exact zl _
    ·have:=dn i (j-1) () ();omega
  dsimp only;refine AL (Kc g a () () ?_);by_cases q:at_ rk (AM t) x<at_ rk (AM t) (x-1)
  ·simp only[q,Kb,Z3];by_cases h0:e>0
   ·rw[zo h0];exact AL (wpS_reverse (wpS_pure ⟨0,rfl,a.arr (mirror_perm _ _ _ _),grow _ (wR p d) (),by omega,λi q1 q2=>by rw[show i=x by omega];rfl⟩))
   ·rw[zC h0];exact wpS_pure ⟨0,rfl,a,grow _ (λ_=>S) (),by omega,λi q1 q2=>by rw[show i=x by omega];rfl⟩
  ·simp only[q,ki,zw,ZN];refine AL (Kc g a () () ?_);by_cases q2:at_ rk (AM t) (x-1)<at_ rk (AM t) x
   ·simp only[q2,Kb,Z3];exact wpS_pure (h x e t a v () dn f d)
   ·simp only[q2,ki,zw,ZN];refine wpS_pure ⟨e+1,rfl,a,grow _ (λ_=>S) (),by omega,λi q3 y=>?_⟩;rw[show x+1-1=x by omega];by_cases hi:i=x
    ·rw[hi]
    ·rw[d i () ()];omega
 ·rintro c t ⟨e,rfl,a,dn,f,d⟩;rw[show max m n=n by omega]at dn f d ⊢;exact h n e t a o (zl _) dn f d
theorem Zu{st:SortSt}{Q:Y Nat->SortSt->Prop}(a:Wj prog w A s kd rk b)(c:n<=b.size)(o:m+1<=n)(B:Bs kd b st)(hs:C9 rk (AM st) (m+1))(h:∀k t,Bs kd b t->1<=k->k<=n->Up rk (AM t) k->Q (U k) t):wpS (A8 prog w) A E s (descPart m n) Q st:=by
 unfold descPart;refine AL (wpS_lift (JE ⟨rfl,?_⟩));refine AL (MY a c () o B hs λk e t d u f dn v l=>?_);have g:k<=(AM t).size:=by rw[d.sz];omega
 by_cases h0:e>0
 ·simp only[zo h0];refine AL (wpS_reverse (t3 a c () f (d.arr (mirror_perm _ _ _ _)) (λi j q p=>?_) h));show at_ rk (mirror (AM t) _ _ _) j<=at_ rk (mirror (AM t) _ _ _) i;rw[wR g l,wR g l];exact dn i j q p
 ·simp only[zC h0];exact t3 a c () f d dn h
theorem MS{st:SortSt}{Q:Y Nat->SortSt->Prop}(c:Wj prog w A s kd rk b)(e:n<=b.size)(h1:1<=n)(B:Bs kd b st)(h:∀k t,Bs kd b t->1<=k->k<=n->Up rk (AM t) k->Q (U k) t):wpS (A8 prog w) A E s (countRun' 0 n) Q st:=by
 rw[countRun0_eq];refine AL (Go c e (zl 1) h1 B (λi j o g=>by rw[show i=j by omega];exact zl _) λm p f a or=>?_);by_cases d:m=n
 ·simp only[zo (show(m==n)=true by simpa using d)];exact wpS_pure (h m st B p f a)
 ·simp only[zC (show ¬ (m==n)=true by simpa using d)];have lt:=or.resolve_left d;have l:m<=(AM st).size:=by rw[B.sz];omega
  by_cases g1:m>1
  ·rw[zo g1];refine AL (Kc c B () () ?_);by_cases q:at_ rk (AM st) 0<at_ rk (AM st) (m-1)
   ·simp only[q,Kb,Z3];exact wpS_pure (h m st B p f a)
   ·simp only[q,ki,zw,ZN];have all:∀k,0<=k->k<m->at_ rk (AM st) k=at_ rk (AM st) (m-1):=λk _ hk=>by
     have a1:=a 0 k () hk;have a2:=a k (m-1) () ();omega
    refine AL (wpS_reverse (Zu c e () (B.arr (mirror_perm _ _ _ _)) (λi j o g=>?_) h));show at_ rk (mirror (AM st) _ _ _) j<=at_ rk (mirror (AM st) _ _ _) i;rw[wR l all,wR l all];by_cases v:j<m
    ·rw[all i () (),all j () v];exact zl _
    ·have u:j=m:=by omega
     subst u;by_cases hi:i=j
     ·rw[hi];exact zl _
     ·rw[all i () ()];omega
  ·rw[zC g1];have e1:m=1:=by omega
   subst e1;refine Zu c e () B (λi j o g=>?_) h;by_cases hi:i=j
   ·rw[hi];exact zl _
   ·rw[show i=0 by omega,show j=1 by omega];exact j3 lt
theorem F6{st:SortSt}{g:Nat}{Q:Bool->SortSt->Prop}(F:Wj prog w A s kd rk b)(J:n<=b.size)(L:g<=n)(B:Bs kd b st)(hs:Up rk (AM st) g)(h:∀t,Bs kd b t->Up rk (AM t) n->Q true t):wpS (A8 prog w) A E s (binarySort' 0 n g) Q st:=by
 rw[binarySort'_eq];simp only[bn];refine AL (wpS_mono (wpS_forRange (I:=λk c t=>c=(Z,eg)/\Bs kd b t/\Up rk (AM t) (min k n)) (Q:=λc t=>c=(Z,eg)/\Bs kd b t/\Up rk (AM t) n) ?_ ?_ ?_) ?_)
 ·rintro k c t G K ⟨rfl,f,d⟩;rw[show min k n=k by omega]at d;have hk:k<b.size:=by omega
  refine AL (wpS_mono (wpS_forRange (I:=λx c a=>a=t/\∃l r,c=(Z,l,r)/\l<=r/\r<=k/\r-l<=k-x/\(∀i,i<l->at_ rk (AM t) i<=at_ rk (AM t) k)/\(∀i,r<=i->i<k->at_ rk (AM t) k<at_ rk (AM t) i))
   (Q:=λc a=>a=t/\∃l r,c=(Z,l,r)/\l<=k/\(∀i,i<l->at_ rk (AM t) i<=at_ rk (AM t) k)/\(∀i,l<=i->i<k->at_ rk (AM t) k<at_ rk (AM t) i)) ?_ ?_ ?_) ?_)
  ·rintro x c a _ hx ⟨rfl,l,r,rfl,y,m,v,lo,hi⟩;dsimp only;by_cases o:l>=r
   ·rw[zo o];have e:l=r:=by omega
    subst e;exact wpS_pure ⟨rfl,l,l,rfl,m,lo,hi⟩
   ·rw[zC o];refine AL (Kc F f hk () ?_);by_cases q:at_ rk (AM a) k<at_ rk (AM a) ((l+r) / 2)
    ·simp only[q,Kb,Z3];refine wpS_pure ⟨rfl,l,(l+r) / 2,rfl,by omega,by omega,by omega,lo,λi q1 q2=>?_⟩;have:=d ((l+r) / 2) i q1 q2;omega
    ·simp only[q,ki,zw,ZN];refine wpS_pure ⟨rfl,(l+r) / 2+1,r,rfl,by omega,by omega,by omega,λi q1=>?_,hi⟩;have:=d i ((l+r) / 2) () ();omega
  ·rintro c a ⟨rfl,l,r,rfl,y,m,v,lo,hi⟩;have e:l=r:=by omega
   subst e;exact⟨rfl,l,l,rfl,m,lo,hi⟩
  ·exact⟨rfl,0,k,rfl,by omega,by omega,by omega,λi hi=>by omega,λi q1 q2=>by omega⟩
  ·rintro c a ⟨rfl,l,r,rfl,H,lo,hi⟩;show wpS _ _ _ _ (moveDown' k l >>= λ_=>pure (ForInStep.yield (Z,eg))) _ _;rw[moveDown'_eq];refine AL (wpS_modify (wpS_pure ⟨rfl,f.arr (bubble_perm _ _ _),?_⟩));rw[show min (k+1) n=k+1 by omega];have p:k<(AM a).size:=by rw[f.sz];exact hk
   intro i j u C;show at_ rk (bubble (AM a) k (k-l)) i<=at_ rk (bubble (AM a) k (k-l)) j;rw[Ul p (),Ul p (),show k-(k-l)=l by omega]
   repeat' split
   all_goals first
    |(exfalso;omega)
    |exact zl _
    |exact lo _ ()
    |exact j3 (hi _ () ())
    |exact d _ _ () ()
 ·rintro c t ⟨D,f,d⟩;refine⟨D,f,?_⟩;rwa [show min (max (max g 1) n) n=n by omega]at d
 ·refine⟨rfl,B,λi j u C=>?_⟩;by_cases z:g=0
  ·rw[show i=j by omega];exact zl _
  ·exact hs i j u ()
 ·rintro c t ⟨rfl,f,d⟩;exact wpS_pure (h t f d)
def Dn(kd:SortKind)(rk:A0->Nat)(b:Array Keyed)(st:SortSt):Prop:=(AM st).Perm b/\failedOf st=Z/\pendingOf st=#[(0,b.size,0)]/\Up rk (AM st) b.size
theorem Bs.dn{st:SortSt}(B:Bs kd b st)(a:Up rk (AM st) b.size):Dn kd rk b (setPending st ((pendingOf st).push (0,b.size,0))):=⟨B.pm,B.fl,(by show(pendingOf st).push _=_;rw[B.pd];rfl),a⟩
theorem ES{st:SortSt}{Q:Unit->SortSt->Prop}(d:Wj prog w A s kd rk b)(B:Bs kd b st)(h2:2<=b.size)(y:b.size<64)
  (h:∀t,(AM t).Perm b->failedOf t=Z->Up rk (AM t) b.size->Q eg t):wpS (A8 prog w) A E s sortRuns' Q st:=by
 rw[sortRuns'_eq];refine AL (wpS_get ?_);have k:minRun' b.size b.size 0=b.size:=by
  obtain⟨f,o⟩:∃f,b.size=f+1:=⟨b.size-1,by omega⟩;have q:minRun' (f+1) b.size 0=b.size:=(minRun'_succ f b.size 0).trans (zo y);rwa [<-o]at q
 simp only[B.sz,k];have i:∀{t:SortSt},Bs kd b t->(pendingOf t).back?=Z:=λB=>by rw[B.pd];rfl
 refine AL (wpS_mono (wpS_forRange (I:=λx c t=>(x=0/\c=(Z,0)/\Bs kd b t)\/(1<=x/\c=(Z,b.size)/\Dn kd rk b t)) (Q:=λc t=>c=(Z,b.size)/\Dn kd rk b t) ?_ ?_ (.inl ⟨rfl,rfl,B⟩)) ?_)
 ·rintro x c t _ hx (⟨rfl,rfl,v⟩|⟨z,rfl,D⟩)
  ·dsimp only;rw[zC ()];simp only[Nat.sub_zero,df,bn];refine AL (MS d (zl _) () v λm t2 a C n g=>?_);dsimp only;by_cases lt:m<b.size
   ·rw[zo lt];refine AL (wpS_lift (JE ⟨rfl,AL (F6 d (zl _) n a g λt3 j l=>?_)⟩));simp only[kn,zw,ZN];refine AL (wpS_get ?_);rw[i j];exact AL (wpS_modify (wpS_pure (.inr ⟨by omega,rfl,j.dn l⟩)))
   ·rw[zC lt];have e:m=b.size:=by omega
    subst e;refine AL (wpS_get ?_);rw[i a];exact AL (wpS_modify (wpS_pure (.inr ⟨by omega,rfl,a.dn g⟩)))
  ·dsimp only;rw[zo (zl _)];exact wpS_pure ⟨rfl,D⟩
 ·rintro c t (⟨hx,_,_⟩|⟨_,p,D⟩)
  ·omega
  ·exact⟨p,D⟩
 ·rintro c t ⟨rfl,D⟩;dsimp only;refine AL (wpS_mono (wpS_forRange (I:=λ_ c u=>u=t/\c=(Z,eg)) (Q:=λc u=>u=t/\c=(Z,eg)) ?_ (λ_ _ q=>q) ⟨rfl,rfl⟩) ?_)
  ·rintro x c u _ _ ⟨rfl,rfl⟩;refine AL (wpS_get ?_);rw[zo (by rw[D.2.2.1];exact zl 1)];exact wpS_pure ⟨rfl,rfl⟩
  ·rintro c u ⟨rfl,rfl⟩;exact wpS_pure (h _ D.1 D.2.1 D.2.2.2)
def DZ(a:A1)(s s':A2):Prop:=∀c o,c≠a->s.heap.get? c=U o->s'.heap.get? c=U o
theorem IX{vs:O A0}{P:Fin->A2->Prop}(d:s.heap.get? a=U (seqObj "list" vs.toArray n))(m:2<=vs.length->∀s',DZ a s s'->∀Q:SortKind->A2->Prop,Q kd s'->A7 (A8 prog w) A (keyKind' vs.toArray) Q E s')(v:∀s',DZ a s s'->Wj prog w A s' kd rk (pairsOf vs))(x:vs.length<64)(h:∀st:SortSt,(AM st).Perm (pairsOf vs)->Up rk (AM st) (pairsOf vs).size->P (.done (.ret .none)) { s with heap:=sortedHeap s.heap a vs ((AM st).map (·.2)) }):
  A7 (A8 prog w) A (Builtin.«list.sort» ⟨[.ref a],[]⟩) P E s:=by
 rw[list_sort_plain];have l:=zv d;refine zb (listItems_at d S (zb (listUpdate_at d S ?_)));obtain⟨e1,g1⟩:∃e1,(s.heap.update a (Obj.mapSeq λ_=>#[])).get? a=U (seqObj "list" #[] e1):=⟨_,get?_update_seq d λ_=>#[]⟩;refine zb (seqEpoch_at g1 S (zb (wpAny_newTuple (zb (kQ (Zp ?_))))));have z1:(s.heap.update a (Obj.mapSeq λ_=>#[])).objs.size=s.heap.objs.size:=dI ..;have keep:∀c,c<s.heap.objs.size->(((s.heap.update a (Obj.mapSeq λ_=>#[])).push (seqObj "tuple" vs.toArray 0)).push (seqObj "list" #[] 0)).get? c=(s.heap.update a (Obj.mapSeq λ_=>#[])).get? c:=λc f=>by
  rw[dt _ _ _ (by rw[size_push',z1];exact zD (Jn f)),dt _ _ _ (by rw[z1];exact zD f)]
 have b:=(keep a l).trans g1;have old:DZ a s { s with heap:=((s.heap.update a (Obj.mapSeq λ_=>#[])).push (seqObj "tuple" vs.toArray 0)).push (seqObj "list" #[] 0) }:=λc o f e=>by
  show(((s.heap.update a (Obj.mapSeq λ_=>#[])).push (seqObj "tuple" vs.toArray 0)).push (seqObj "list" #[] 0)).get? c=U o;rw[keep c (zv e),da _ _ _ _ f];exact e
 show A7 _ _ _ _ _ { s with heap:=((s.heap.update a (Obj.mapSeq λ_=>#[])).push (seqObj "tuple" vs.toArray 0)).push (seqObj "list" #[] 0) };have y:vs.toArray.size=vs.length:=by simp
 have g:∀st:SortSt,(AM st).Perm (pairsOf vs)->((AM st).map (·.2)).size<=AA+1:=λst hp=>by
  have q:((AM st).map (·.2)).size=vs.length:=(Array.size_map ..).trans (hp.size_eq.trans (pairsOf_size _));rw[q,sizeLine_eq];omega
 by_cases h2:vs.toArray.size<2
 ·simp only[zo h2];refine zb (ze ?_);rw[StateT.run_pure];refine zb (ze (zb (seqEpoch_at b S (zb (listUpdate_at b S ?_ (hsz2:=g (SortSt.mk' general' (pairsOf vs) #[] 7 Z) (Array.Perm.refl _)))))));simp only[bne_self_eq_false,zw,ZN];refine ze (h (SortSt.mk' general' (pairsOf vs) #[] 7 Z) (Array.Perm.refl _) λi j z k=>?_);rw[pairsOf_size]at k;rw[show i=j by omega];exact zl _
 ·simp only[zC h2];refine zb (m () _ old _ ?_);refine zb (qa (ES (v _ old) (st:=SortSt.mk' kd (pairsOf vs) #[] 7 Z) (Q:=λ_ t=>(AM t).Perm (pairsOf vs)/\failedOf t=Z/\Up rk (AM t) (pairsOf vs).size) ⟨Array.Perm.refl _,rfl,rfl,rfl⟩ (by rw[pairsOf_size];omega) (by rw[pairsOf_size];exact x) λt q1 q2 q3=>⟨q1,q2,q3⟩) ?_ λ_ _ q=>q);rintro⟨⟨⟩,t⟩ s' ⟨rfl,hp,p,u⟩;dsimp only;refine zb (seqEpoch_at b S (zb (listUpdate_at b S ?_ (hsz2:=g t hp))));rw[p];simp only[bne_self_eq_false,zw,ZN];exact ze (h t hp u)
theorem Rn{x:A0}{vs:O A0}(i:∀(b:BE) (g:O A0->A2->Prop),(∀h' tk,s.heap.objs.size<=h'.objs.size->(∀c o,s.heap.get? c=U o->h'.get? c=U o)->g vs { s with heap:=h',toks:=tk })->A7 (A8 prog w) A.in1 (collect x) g b s)(j:2<=vs.length->∀(b:BE) (d:A5) (s':A2),(∀c o,s.heap.get? c=U o->s'.heap.get? c=U o)->∀Q:SortKind->A2->Prop,Q kd s'->A7 (A8 prog w) d (keyKind' vs.toArray) Q b s')(k:∀(d:A5) (s':A2),(∀c o,s.heap.get? c=U o->s'.heap.get? c=U o)->Wj prog w d s' kd rk (pairsOf vs))(t:vs.length<64)(h:∀(l:A1) (h':A6) (tk n:Nat) (st:SortSt),(AM st).Perm (pairsOf vs)->Up rk (AM st) (pairsOf vs).size->s.heap.objs.size<=l->(∀c o,s.heap.get? c=U o->h'.get? c=U o)->h'.get? l=U (seqObj "list" ((AM st).map (·.2)) n)->Q (.ref l) { s with heap:=h',toks:=tk }):
  A7 (A8 prog w) A (call (.builtin "sorted") [x]) Q E s:=by
 refine Calls.call_function_entry kind_sorted plain_sorted entry_sorted (args_sorted1 _) ?_;unfold Builtin.«sorted»;refine zb (m:=checkCount "sorted" 1 1 _) (ze (zb (i _ _ λh1 tk p ext=>zb (kQ ?_))));have a:(h1.push (seqObj "list" vs.toArray 0)).get? h1.objs.size=U (seqObj "list" vs.toArray 0):=zt _ rfl;have old:∀s':A2,DZ h1.objs.size { s with heap:=h1.push (seqObj "list" vs.toArray 0),toks:=tk } s'->∀c o,s.heap.get? c=U o->s'.heap.get? c=U o:=λs' q c o e=>
  q c o (zD (zv (ext c o e))) (zd _ (ext c o e))
 refine zb (Zp (JO slot_list_sort ⟨_,a,rfl⟩ entry_list_sort (IX a (λq s' o=>j q _ _ s' (old s' o)) (λs' o=>k _ s' (old s' o)) t λst q1 q2=>⟨_,rfl,ze ⟨_,rfl,?_⟩⟩) (args_list_sort _)));obtain⟨n,u⟩:=sortedHeap_at (out:=(AM st).map (·.2)) a;refine h h1.objs.size _ tk n st q1 q2 p (λc o e=>?_) u;have f:=zv (ext c o e);rw[sortedHeap_old (zD f) (by rw[ZZ];exact Jn f)];exact zd _ (ext c o e)
end
end S1
namespace S1
open L2
theorem Gf(fb:Bool)(x y:A0):keyLt' (tuples' fb) x y=(do
  let xs <-Builtin.List.listItems x
  let ys <-Builtin.List.listItems y
  for ((p,q),i) in (xs.toList.zip ys.toList).zipIdx do
   if !(<-eqBool p q)then return <-oneLt' (fb&&i==0) p q
  return decide (xs.size<ys.size)):=rfl
def O9:AY->AY->Bool
 |.inl a,.inl b=>decide (a<b)
 |.inr x,.inr y=>decide (x.cps.toList<y.cps.toList)
 |.inl _,.inr _=>true
 |.inr _,.inl _=>false
def Gg:AY->AY->Bool
 |.inl _,.inl _=>true
 |.inr _,.inr _=>true
 |_,_=>false
def cV:O AY->O AY->Bool
 |[],[]=>false
 |[],_::_=>true
 |_::_,[]=>false
 |x::xs,y::ys=>if x=y then cV xs ys else O9 x y
def Um:O AY->O AY->Prop
 |x::xs,y::ys=>Gg x y=true/\Um xs ys
 |_,_=>True
theorem C4{x y:AY}{p q:A0}{Q:Bool->A2->Prop}(hp:fQ x p=true)(hq:fQ y q=true)(h:Q (decide (x=y)) s):A7 (A8 prog w) A (eqBool p q) Q E s:=
 (dJ prog w).eqBool (a:=x) (b:=y) hp hq h
theorem N4{fb:Bool}{x y:AY}{p q:A0}{Q:Bool->A2->Prop}(hs:Gg x y=true)(hp:fQ x p=true)(hq:fQ y q=true)(h:Q (O9 x y) s):A7 (A8 prog w) A (oneLt' fb p q) Q E s:=by
 rcases bw hp with⟨i,t,rfl,rfl⟩|⟨z,t,rfl,rfl⟩
 ·rcases bw hq with⟨j,u,rfl,rfl⟩|⟨z,u,rfl,rfl⟩
  ·cases fb with
   |true=>exact oneLt_int h
   |false=>
    rw[oneLt'_eq];simp only[zw,ZN];refine zb (show A7 _ _ (AG .Lt (.int i t) (.int j u)) _ _ _ from lt_int ?_);exact qh h
  ·cases hs
 ·rcases bw hq with⟨j,u,rfl,rfl⟩|⟨a,u,rfl,rfl⟩
  ·cases hs
  ·cases fb with
   |true=>exact oneLt_str h
   |false=>
    rw[oneLt'_eq];simp only[zw,ZN];refine zb (show A7 _ _ (AG .Lt (.str z t) (.str a u)) _ _ _ from PySem.P.lt_str ?_);exact qh h
def Ks(ks:O AY)(AQ:O A0):Prop:=AI (λk v=>fQ k v=true) ks AQ
def turn(fb:Bool):(A0×A0)×Nat->Y Bool×Unit->Sem (ForInStep (Y Bool×Unit)):=λx _=>match x with
 |((p,q),i)=>do
  let e <-eqBool p q
  if(!e)=true then do
    let r <-oneLt' (fb&&i==0) p q
    pure (ForInStep.done (U r,eg))
   else pure (ForInStep.yield (Z,eg))
theorem XH(x:AY):O9 x x=false:=by
 cases x with
 |inl a=>simp[O9]
 |inr a=>simp[O9]
theorem Ro{x y z:AY}(h:O9 x y=true)(h':O9 y z=true):O9 x z=true:=by
 cases x<;>cases y<;>cases z<;>simp only[O9,decide_eq_true_eq,zw,reduceCtorEq]at h h' ⊢
 ·omega
 ·exact List.lt_trans h h'
theorem XJ{x y:AY}(h:O9 x y=false)(h':O9 y x=false):x=y:=by
 cases x<;>cases y<;>simp only[O9,QY,Bool.true_eq_false,reduceCtorEq]at h h'
 ·congr 1;omega
 ·rename_i a b;have:=dA (as:=a.cps.toList) (bs:=b.cps.toList) h' h;cases a;cases b;simp only at this;rw[dC.mp this]
theorem mR:∀xs:O AY,cV xs xs=false
 |[]=>rfl
 |x::xs=>by simp only[cV,Z3];exact mR xs
theorem jV:∀{xs ys zs:O AY},cV xs ys=true->cV ys zs=true->cV xs zs=true
 |[],[],_,h,_=>by cases h
 |[],_::_,[],_,h'=>by cases h'
 |[],_::_,_::_,_,_=>rfl
 |_::_,[],_,h,_=>by cases h
 |_::_,_::_,[],_,h'=>by cases h'
 |x::xs,y::ys,z::zs,h,h'=>by
  simp only[cV]at h h' ⊢;by_cases e1:x=y
  ·subst e1;rw[zo rfl]at h;by_cases e2:x=z
   ·subst e2;rw[zo rfl]at h' ⊢;exact jV h h'
   ·rw[zC e2]at h' ⊢;exact h'
  ·rw[zC e1]at h;by_cases e2:y=z
   ·subst e2;rw[zC e1];exact h
   ·rw[zC e2]at h';have:=Ro h h';rw[zC (λe=>by subst e;rw[XH]at this;cases this)];exact this
theorem rW:∀{xs ys:O AY},cV xs ys=false->cV ys xs=false->xs=ys
 |[],[],_,_=>rfl
 |[],_::_,h,_=>by cases h
 |_::_,[],_,h'=>by cases h'
 |x::xs,y::ys,h,h'=>by
  simp only[cV]at h h';by_cases e:x=y
  ·subst e;rw[zo rfl]at h h';rw[rW h h']
  ·rw[zC e]at h;rw[zC (j0 e)]at h';exact absurd (XJ h h') e
def o9(xs ys:O AY):Bool:=!cV ys xs
theorem qd(a b c:O AY)(h:o9 a b=true)(h':o9 b c=true):o9 a c=true:=by
 unfold o9 at *
 simp only[kD]at *
 cases f:cV c a with
 |false=>rfl
 |true=>
  cases d:cV a b with
  |true=>rw[jV f d]at h';cases h'
  |false=>
   have e:=rW d h;subst e;rw[f]at h';cases h'
theorem BJ(a b:O AY):(o9 a b||o9 b a)=true:=by
 unfold o9;cases h:cV b a with
 |false=>rfl
 |true=>
  cases h':cV a b with
  |false=>rfl
  |true=>have:=jV h h';rw[mR]at this;cases this
theorem Gh{a b:O AY}(h:o9 a b=true)(h':o9 b a=true):a=b:=by
 unfold o9 at *
 simp only[kD]at *
 exact rW h' h
theorem rY{α:Type}{le:α->α->Prop}(d:∀a b,le a b->le b a->a=b):∀{l c:O α},l.Perm c->l.Pairwise le->c.Pairwise le->l=c
 |[],c,h,_,_=>by rw[List.nil_perm.mp h]
 |a::l,[],h,_,_=>by cases List.perm_nil.mp h
 |a::l,b::c,h,p,p'=>by
  have e:a=b:=by
   have g:a∈b::c:=h.mem_iff.mp (zg ..);have f:b∈a::l:=h.mem_iff.mpr (zg ..);rcases List.mem_cons.mp g with h1|h1
   ·exact h1
   ·rcases List.mem_cons.mp f with h2|h2
    ·exact h2.symm
    ·exact d a b (jS p h2) (jS p' h1)
  subst e;rw[rY d ((List.perm_cons a).mp h) (am.mp p).2 (am.mp p').2]
def yC(iz:O (O AY)):O (O AY):=iz.mergeSort o9
theorem zL(iz:O (O AY)):(yC iz).Perm iz:=bq ..
theorem Kd(iz:O (O AY)):(yC iz).Pairwise (λa b=>o9 a b=true):=KG qd BJ iz
theorem Gi{out:O (O AY)}(hp:out.Perm iz)(hs:out.Pairwise (λa b=>o9 a b=true)):out=yC iz:=rY (λ_ _=>Gh) (hp.trans (zL iz).symm) hs (Kd iz)
def Cc(iz:O (O AY))(k:O AY):Nat:=iz.countP λu=>cV u k
theorem Gj{α:Type}{p q:α->Bool}:∀{l:O α},(∀x∈l,p x=true->q x=true)->(∃x∈l,p x=false/\q x=true)->l.countP p<l.countP q
 |[],_,⟨x,hx,_⟩=>by cases hx
 |a::l,h,⟨x,hx,h1,h2⟩=>by
  have le:l.countP p<=l.countP q:=cE λy b=>h y (zh _ b);rw[ck,ck];rcases List.mem_cons.mp hx with rfl|hx
  ·rw[h1,h2];simp;omega
  ·have:=Gj (λy b=>h y (zh _ b)) ⟨x,hx,h1,h2⟩;have c:=h a (zg ..);cases hp:p a with
   |true=>rw[c hp];simp;omega
   |false=>simp;omega
theorem Pa{a b:O AY}(e:a∈iz):decide (Cc iz a<Cc iz b)=cV a b:=by
 cases h:cV a b with
 |true=>
  refine Zl (Gj (λu _ c=>jV c h) ⟨a,e,mR a,h⟩)
 |false=>
  refine z4 (dS.mpr (cE λu _ c=>?_));cases d:cV b a with
  |true=>exact jV c d
  |false=>rw[rW h d];exact c
theorem Pb{f:α->Sem β}:∀(xs:O α) (ys:O β) (Q:O β->A2->Prop),AI (λx y=>∀(c:BE) (a:β->A2->Prop),a y s->A7 (A8 prog w) A (f x) a c s) xs ys->Q ys s->A7 (A8 prog w) A (xs.mapM f) Q E s:=by
 intro xs
 induction xs with
 |nil=>intro ys Q p h;cases p;rw[List.mapM_nil];exact ze h
 |cons x xs b=>
  intro ys Q p q;cases p with
  |cons h t=>
   rw[List.mapM_cons];exact zb (h _ _ (zb (b _ _ t (ze q))))
theorem Uo(v:A0):firstOfTuple' v=(do
  if(<-typeOf v) != .type "tuple" then return Z
  return (<-Builtin.List.listItems v)[0]?):=rfl
theorem Uq{k:AY}(h:fQ k u=true)(b:BE)(a:BE)(q:a (.type (if k.isLeft then "int" else "str")) s):A7 (A8 prog w) A (typeOf u) a b s:=by
 rcases bw h with⟨i,t,rfl,rfl⟩|⟨x,t,rfl,rfl⟩
 ·exact Q4 (typeIs_int s i t) q
 ·exact Q4 (typeIs_str s x t) q
def BS(iz:O (O AY))(vs:O A0)(v:A0):O AY:=match (vs.zip iz).find? (λp=>p.1==v)with
 |some p=>p.2
 |none=>[]
end S1
namespace P1
open L2 S1
theorem BK{T:String}{vs:O A0}{Q:O A0->A2->Prop}(a:s.heap.get? l=U o)(f:o.cls=.type T)(b:T ="list" ∨ T ="tuple")(hd:o.data=.seq vs.toArray n)(g:vs.length<=AA)(h:∀h' tk,s.heap.objs.size<=h'.objs.size->(∀c o,s.heap.get? c=U o->h'.get? c=U o)->Q vs { s with heap:=h',toks:=tk }):A7 (A8 prog w) A (collect (.ref l)) Q E s:=by
 unfold collect;refine zb (wpAny_runValue (ZO entry_proto_collect' ?_));show A7 _ _ (newList [] >>= λq=>again (.builtin "list.__iadd__" ⟨[q,.ref l],[]⟩)) _ _ s;refine zb (kQ (ze ⟨Code.quiet_builtin _ (by decide +kernel),ZO entry_list_iadd' ?_⟩));show A7 _ _ (Builtin.List.listExtendWith (.ref s.heap.objs.size) (.ref l) (.ref s.heap.objs.size)) _ _ _;unfold Builtin.List.listExtendWith;have g1:(s.heap.push (seqObj "list" #[] 0)).get? l=U o:=zd _ a;refine zb (Q4 (T:=T) ⟨o,g1,f⟩ ?_);have d:(Value.type T==Value.type "list" || Value.type T==Value.type "tuple")=true:=by rcases b with rfl|rfl<;>decide
 rw[zo (by rw[Bool.or_assoc,d];simp)];refine zb (listItems_at g1 hd (zb (listItems_at (xs:=#[]) (n:=0) (zt _ S) S ?_)));rw[zC (by simp)];have g2:(s.heap.push (seqObj "list" #[] 0)).get? s.heap.objs.size=U (seqObj "list" #[] 0):=zt _ rfl;refine zb (listUpdate_at (xs:=#[]) (n:=0) g2 S (ze ?_) (qi _) (by show(#[]++vs.toArray).size<=AA+1;simp only[kg,zi,cr];omega));show A7 (A8 prog w) A (load s.heap.objs.size >>= _) Q E _;refine zb (wpAny_load (get?_update_seq g2 _) ?_);show A7 _ _ (pure ((#[]:Array A0)++vs.toArray).toList) Q E _;rw[show((#[]:Array A0)++vs.toArray).toList=vs by simp];refine ze (h _ s.toks ?_ λc i e=>?_)
 ·rw[dI,size_push'];exact ky _
 ·rw[da _ _ _ _ (zD (zv e))];exact zd _ e
def FF:Dt->Y AY
 |.int i=>U (.inl i)
 |.str x=>U (.inr x)
 |_=>Z
def Gk:O Dt->Y (O AY)
 |[]=>U []
 |d::ds=>(FF d).bind λk=>(Gk ds).bind λks=>U (k::ks)
def nQ:Dt->Y (O AY)
 |.tup ds=>Gk ds
 |_=>Z
def dK:AY->Dt
 |.inl i=>.int i
 |.inr x=>.str x
def Co(ks:O AY):Dt:=.tup (ks.map dK)
theorem XM{k:AY}(h:FF d=U k):d=dK k:=by
 cases d<;>cases h<;>rfl
theorem Ke:∀{ds:O Dt} {ks:O AY},Gk ds=U ks->ds=ks.map dK
 |[],_,h=>by cases h;rfl
 |d::ds,_,h=>by
  obtain⟨k,e1,h⟩:=AT h;obtain⟨ks,e2,h⟩:=AT h;cases h;rw[zr,XM e1,Ke e2]
theorem BL{ks:O AY}(h:nQ d=U ks):d=Co ks:=by
 cases d with
 |tup ds=>exact congrArg Dt.tup (Ke h)
 |_=>cases h
theorem XQ{k:AY}(h:AW K H (dK k) v):v=kV k:=by
 cases k with
 |inl i=>exact(show v=.int i by simpa only[dK,AW]using h)
 |inr x=>exact(show v=.str x/\x.length<=AA by simpa only[dK,AW]using h).1
theorem tZ{K:B5}{H:Hp}:∀{ks:O AY} {vs:O V},aG K H (ks.map dK) vs->vs=ks.map kV
 |[],_,h=>by simp only[cf,aG]at h;exact h
 |k::ks,_,h=>by
  simp only[zr,aG]at h;obtain⟨v,r,rfl,h1,h2⟩:=h;rw[XQ h1,tZ h2,zr]
theorem Ur(X:Cx){ks:O AY}:∀{us:O A0},AX (ks.map kV) us->Ks ks us:=by
 induction ks with
 |nil=>intro us h;cases h;exact .nil
 |cons k ks a=>
  intro us h;cases h with
  |cons r t=>exact .cons (Ov (P:=X.prog) (w:=X.w) r) (a t)
def wU(k l:O AY):Bool:=((k.zip l).all λp=>Gg p.1 p.2)
theorem qe:∀{k l:O AY},wU k l=true->Um k l
 |[],_,_=>by simp[Um]
 |_::_,[],_=>by simp[Um]
 |x::k,y::l,h=>by
  unfold wU at h;rw[QU,kc,qf]at h;exact⟨h.1,qe h.2⟩
theorem Pg{b:Bx}(h:aQ K H b v)(e:vK b=U ds):∃a vs,v=.ref a/\(oK K H a vs\/wg K H a vs)/\aG K H ds vs:=by
 cases b with
 |z d=>
  cases d<;>first|(cases e;done)|skip
  ·cases e;simp only[aQ,AW]at h;obtain⟨a,vs,e,q,r⟩:=h;exact⟨a,vs,e,.inr q,r⟩
  ·cases e;simp only[aQ,AW]at h;obtain⟨a,vs,e,q,r⟩:=h;exact⟨a,vs,e,.inl q.sq,r⟩
 |l c=>cases e;obtain⟨a,vs,e,q,r⟩:=h;exact⟨a,vs,e,.inl (.inl q),r⟩
 |o c=>cases e;obtain⟨a,vs,e,q,r⟩:=h;exact⟨a,vs,e,.inl (.inl (.inl q)),r⟩
 |n _=>cases e
 |m _ _=>cases e
end P1
namespace S6
def LZ(xs:Array Nat):Prop:=∀i j,i<j->j<xs.size->xs.getD i 0<xs.getD j 0
def It(h:A6)(it a:A1)(first:A0)(i n ep:Nat):Prop:=∃o,h.get? it=U o/\o.cls=.type "set_iterator" ∧ o.data=.fields #[first,.int (i:Int) 0,.ref a,.int (n:Int) 0,.int (ep:Int) 0]
section
variable{ep:Nat}{es:Array (Int×A0)}{t:SetTable}
end
end S6
namespace S6
open P1
section
variable{ep:Nat}{es:Array (Int×A0)}{t:SetTable}
end
section
variable{R:Result->A2->Prop}{I:A1}{wr:O A1}{P:Nat->A0->Prop}{St:Nat->A2->Prop}{C:A6->O κ->Prop}{val:Nat->κ}
end
end S6
namespace S6
open PySem
structure Tb (t:SetTable):Prop where
 mask:t.mask=7\/t.mask=31\/t.mask=127
 dum:t.dummies=#[]
 rise:LZ t.place
 bd:∀j:Nat,j∈t.place->j<=t.mask
 full:t.place.size<=t.mask
def N2(a:Nat)(p:SetTable.Probe):SetTable.Probe:=
 if p.more>0 then { p with j:=p.j+1,more:=p.more-1 }else
 { p with j:=(az a p.i p.perturb).1,more:=dV a (az a p.i p.perturb).1-(az a p.i p.perturb).1,i:=(az a p.i p.perturb).1,perturb:=(az a p.i p.perturb).2 }
def Nd(a i perturb:Nat):SetTable.Probe:={ j:=i,more:=dV a i-i,i,perturb,dummy:=Z }
def F8(a:Nat)(h:Int):Nat->SetTable.Probe
 |0=>Nd a (bS h%(a+1)) (bS h)
 |n+1=>N2 a (F8 a h n)
def nx(M i:Nat):Nat:=(i*5+1)%M
def lp(a:Nat)(h:Int):Nat->Nat×Nat
 |0=>(bS h%(a+1),bS h)
 |l+1=>az a (lp a h l).1 (lp a h l).2
structure Tok (t:SetTable) (es:Array (Int×Value)):Prop extends Tb t where
 size:t.place.size=es.size
 reach:∀(i j:Nat) e,t.place[i]?=some j->es[i]?=some e->∃n,n<10*SetTable.turns t.mask/\(F8 t.mask e.1 n).j=j/\∀m,m<n->(F8 t.mask e.1 m).j∈t.place
end S6
namespace S6
open P1 L2
abbrev Of(prog:A3)(w:A4)(ks:O AY):Int:=tupleKeyHash (dJ prog w) ks
def TE(prog:A3)(w:A4)(h:A6)(z:O AY×A1)(e:Int×A0):Prop:=e=(Of prog w z.1,.ref z.2)/\IsTupleKey (dJ prog w) h z.1 z.2
theorem least(p:Nat->Prop):∀(k n:Nat),p (n+k)->∃d,d<=k/\p (n+d)/\∀m,n<=m->m<n+d->¬ p m
 |0,n,h=>⟨0,zl _,h,λm h1 h2=>absurd h2 ()⟩
 |k+1,n,h=>by
  by_cases q:p n
  ·exact⟨0,qi _,q,λm h1 h2=>absurd h2 ()⟩
  ·obtain⟨d,h1,h2,c⟩:=least p k (n+1) (by rw[show n+1+k=n+(k+1) by omega];exact h);refine⟨d+1,by omega,by rw[show n+(d+1)=n+1+d by omega];exact h2,λm a b=>?_⟩;by_cases e:m=n
   ·rw[e];exact q
   ·exact c m () ()
end S6
namespace S1
open L2
end S1
namespace S6
end S6
namespace P1
open L2 S6
theorem rZ:∀{vs:O A0} {ys:AZ},StrsAre vs ys->∀(i:Nat) (v:A0),vs[i]?=U v->∃y t,ys[i]?=U y/\v=.str y t
 |_,_,.nil,i,v,h=>by simp at h
 |_,_,.cons y t r,0,v,h=>by simp at h;exact⟨y,t,rfl,h.symm⟩
 |_,_,.cons y t r,i+1,v,h=>by
  obtain⟨z,t',e,a⟩:=rZ r i v (by simpa using h);exact⟨z,t',by simpa using e,a⟩
section
variable{fs:Ev->Y AZ}{p:Pos}
end
section
variable{xs:AZ}
end
section
variable{xs:AZ}
variable{fs:Ev->Y AZ}{p':Pos}
end
end P1
namespace P1
open L2 S1 S6
section
variable [DecidableEq α]
end
section
def XR(ks:O AY):Bool:=ks.any λk=>k.isRight
variable{fs:Ev->Y (O (O AY))}{p:Pos}
end
end P1
namespace P1
open L2
section
variable{kx vx:Expr}{xs:AZ}{fk:Ev->Y Bx}
end
section
variable{fd:Ev->Y Bx}{xs:AZ}
end
theorem Us{P:Nat->A0->Prop}(val:Nat->AJ)(a:∀i v,P i v->∃t,v=.str (val i) t):CmpOf prog w A .Lt P (λi j=>decide ((val i).cps.toList<(val j).cps.toList)):=λi j c d s Q E hi b h=>by
 obtain⟨t,rfl⟩:=a i c hi;obtain⟨u,rfl⟩:=a j d b;exact richCompare_gives (op:=.Lt) (typeIs_str s _ t) (typeIs_str s _ u) F.slot_str_lt F.entry_str_lt (F.args_str_lt_2 _ _) (gives_str_lt _ _ t u) (λx=>nomatch x) h
theorem CI{P:Nat->A0->Prop}(val:Nat->AJ)(a:∀i v,P i v->∃t,v=.str (val i) t):CmpOf prog w A .Gt P (λi j=>decide ((val j).cps.toList<(val i).cps.toList)):=λi j c d s Q E hi b h=>by
 obtain⟨t,rfl⟩:=a i c hi;obtain⟨u,rfl⟩:=a j d b;exact richCompare_gives (op:=.Gt) (typeIs_str s _ t) (typeIs_str s _ u) F.slot_str_gt F.entry_str_gt (F.args_str_gt_2 _ _) (gives_str_gt _ _ t u) (λx=>nomatch x) h
def two(a b:AJ)(i:Nat):AJ:=if i=0 then a else b
theorem Ut{a b:AJ}{t u:Tok}(i:Nat)(v:A0)(h:(#[Value.str a t,Value.str b u])[i]?=U v):∃t',v=.str (two a b i) t':=by
 match i,h with
 |0,h=>cases h;exact⟨t,rfl⟩
 |1,h=>cases h;exact⟨u,rfl⟩
 |_+2,h=>simp at h
theorem Kf{a b:AJ}{t u:Tok}{bt:Nat->Nat->Bool}(p:A.handled=Z)(d:CmpOf prog w A.in1 op (λi v=>(#[Value.str a t,Value.str b u])[i]?=U v) bt)(h:∀h' tk,(∀c o,s.heap.get? c=U o->h'.get? c=U o)->Q (if bt 1 0=true then .str b u else .str a t) { s with heap:=h',toks:=tk }):
  A7 (A8 prog w) A.in1 (pyIter (.ref s.heap.objs.size)) (λit j=>∃I fp wr n P St bt,it=.ref I/\Walks prog w A.in1 I fp wr n P St/\St 0 j.heap/\(∀b∈fp,b<j.heap.objs.size)/\0<n/\CmpOf prog w A.in1 op P bt ∧
   ∀v h' tk,P (argBest bt (n-1)) v->(∀b o,b∉wr->j.heap.get? b=U o->h'.get? b=U o)->Q v { j with heap:=h',toks:=tk }) E
   { s with heap:=s.heap.push { cls:=.type "tuple",data:=.seq #[.str a t,.str b u] } }:=by
 have m:(s.heap.push { cls:=.type "tuple",data:=.seq #[.str a t,.str b u] }).IsTuple s.heap.objs.size #[.str a t,.str b u]:=⟨_,zt _ rfl,rfl,0,rfl⟩;refine ku m ?_;have g:(s.heap.push { cls:=.type "tuple",data:=.seq #[.str a t,.str b u] }).objs.size=s.heap.objs.size+1:=ZZ ..;refine⟨_,[_,s.heap.objs.size],[_],_,_,_,bt,rfl,Walks.tuple (A:=A.in1) p _ s.heap.objs.size (by rw[g];exact zD (JP _)) #[.str a t,.str b u],
  ⟨⟨_,zt _ rfl,rfl,rfl⟩,m.push _⟩,λc d=>?_,by simp,d,λv h' tk q hk=>?_⟩
 ·show c<((s.heap.push _).push _).objs.size;rw[ZZ,g];rcases List.mem_cons.mp d with rfl|d
  ·rw[g];exact JP _
  ·rcases List.mem_cons.mp d with rfl|d
   ·exact Jn (JP _)
   ·cases d
 ·have hold:∀c o,s.heap.get? c=U o->h'.get? c=U o:=λc o e=>by
   refine hk c o (λk=>?_) (zd _ (zd _ e));rcases List.mem_cons.mp k with e1|k
   ·have:=zv e;rw[e1,g]at this;exact QA _ (bX this)
   ·cases k
  have:=h h' tk hold;have x:v=if bt 1 0=true then Value.str b u else Value.str a t:=by
   have f:(#[Value.str a t,Value.str b u])[argBest bt 1]?=U v:=q;unfold argBest argBest at f;by_cases l:bt 1 0=true
   ·rw[zo l]at f ⊢;exact(by simpa using f.symm)
   ·rw[zC l]at f ⊢;exact(by simpa using f.symm)
  rw[x];exact this
def su:O Bx->Y Bx
 |[.z (.str a),.z (.str b)]=>U (.z (.str (if Rp b a=true then b else a)))
 |_=>Z
where Rp (x y:AJ):Bool:=decide (x.cps.toList<y.cps.toList)
def Gm:O Bx->Y Bx
 |[.z (.str a),.z (.str b)]=>U (.z (.str (if su.Rp a b=true then b else a)))
 |_=>Z
theorem XS(l:X.calm=true):jh X (.builtin "min") su:=by
 intro AN s σ H xs us Q I r h;obtain⟨bs,c,i,e,q⟩:=h;unfold su at e;split at e
 ·rename_i a b;cases e;obtain⟨v,w,rfl,g,d⟩:=J9 i;obtain⟨rfl,h1⟩:=HN g;obtain⟨rfl,h2⟩:=HN d;obtain⟨u,n,rfl,j,k⟩:=AX.two r;obtain⟨t,rfl⟩:=j;obtain⟨m,rfl⟩:=k;refine call_min_two (Kf (I.ok.hd l) (Us (two a b) Ut) λh' tk kp=>?_);show EP X AN σ Q (if su.Rp b a=true then _ else _) _;by_cases f:su.Rp b a=true
  ·rw[zo f]at q ⊢;exact⟨.str b,H,I.kept kp,⟨_,rfl⟩,q _ H (AV.refl H) trivial d⟩
  ·rw[zC f]at q ⊢;exact⟨.str a,H,I.kept kp,⟨_,rfl⟩,q _ H (AV.refl H) trivial g⟩
 ·cases e
theorem X3(l:X.calm=true):jh X (.builtin "max") Gm:=by
 intro AN s σ H xs us Q I r h;obtain⟨bs,c,i,e,q⟩:=h;unfold Gm at e;split at e
 ·rename_i a b;cases e;obtain⟨v,w,rfl,g,d⟩:=J9 i;obtain⟨rfl,h1⟩:=HN g;obtain⟨rfl,h2⟩:=HN d;obtain⟨u,n,rfl,j,k⟩:=AX.two r;obtain⟨t,rfl⟩:=j;obtain⟨m,rfl⟩:=k;refine call_max_two (Kf (I.ok.hd l) (CI (two a b) Ut) λh' tk kp=>?_);show EP X AN σ Q (if su.Rp a b=true then _ else _) _;by_cases f:su.Rp a b=true
  ·rw[zo f]at q ⊢;exact⟨.str b,H,I.kept kp,⟨_,rfl⟩,q _ H (AV.refl H) trivial d⟩
  ·rw[zC f]at q ⊢;exact⟨.str a,H,I.kept kp,⟨_,rfl⟩,q _ H (AV.refl H) trivial g⟩
 ·cases e
section
variable{fs:Ev->Y (O Bx)}{p px spos:Pos}{y:AJ}{f:A1}{G:A1->O (AY×Dt)->O Bx->Y (O (AY×Dt))}
end
section
variable{st:O AB}
end
open AutoSeq1 (wpAny_loadPart')
open SeqAt
theorem Uu(I:L2.AU X AN σ H s)(h:wg X.K H a xs):∃AQ:O A0,AX xs AQ/\dO s.heap a AQ.toArray:=by
 rcases h with h|⟨o,AQ,n,hk,b,hs,c,r⟩
 ·obtain⟨z,AQ,r,p⟩:=h.ok I.hok;exact⟨AQ,r,p⟩
 ·exact⟨AQ.toList,r,o,I.Wf a o hk,b.1,⟨n,by simpa using hs⟩,b.2⟩
section
variable{o:Expr}{fx:Ev->Y Bx}
end
section
variable{t:Ev->Y Bool}
end
section
variable{h':A6}
end
section
variable{p:Pos}{fs:Ev->Y (O Bx)}
end
def Uv(j i:Nat)(f:Ev->Y Bx):Ev->Y As:=λρ=>(f ρ).bind λb=>match b with
 |.z (.int k)=>match ρ[i]? with
  |some (U (.o ds))=>if -(2 ^ 62)<=k/\k<2 ^ 62 then(seqIndex? k ds.length).bind λm=>(ds[m]?).bind λd=>(JL (ρ.set i (U (.o (ds.eraseIdx m)))) j (.z d)).bind λa=>U (.nx a)else Z
  |_=>Z
 |_=>Z
theorem BP{K:B5}{H:Hp}:∀(m:Nat) {ds:O Dt} {vs:O V},aG K H ds vs->aG K H (ds.eraseIdx m) (vs.eraseIdx m)
 |m,[],vs,h=>by
  cases vs with
  |nil=>exact h
  |cons v vs=>have:=h.length;simp at this
 |m,d::ds,vs,h=>by
  cases vs with
  |nil=>have:=h.length;simp at this
  |cons v vs=>
   obtain⟨a,r,e,q,t⟩:∃a r,v::vs=a::r/\AW K H d a/\aG K H ds r:=by
    simpa only[aG]using h
   cases e;cases m with
   |zero=>exact t
   |succ m=>exact aG.cons q (BP m t)
theorem Iq(j i:Nat){y:AJ}{p:Pos}(nd:X.N.Nodup)(M:PV X e f)(hN:X.N[i]?=U x:=by rfl)(I:QG X.env.scope x:=by first|exact JA rfl|exact QE (JA S)|exact QE (QE S))(hd:dX x:=by decide)(a2:(x==("__classdict__":AJ))=false:=by decide)(s:A9 [e] X.env=[(false,eval e X.env)]:=by rfl)(Q:attributeBase (.Name x p) "pop" X.env (eval (.Name x p) X.env)=eval (.Name x p) X.env:=by rfl)(a0:((AD cpos (A9 [e] X.env)).all (λx=>!x.1)&&(backToKw cpos (keywordEach [] X.env)).all (λx=>x.1.isSome)
   && decide ([e].length+([]:O AC).length+(if([]:O AC).isEmpty then 0 else 1)<30))=true:=by rfl)(J:(apos.endLine==cpos.line)=true:=by rfl)(P:X.N[j]?=U y:=by rfl)(t:CL X.env.scope y:=by first|exact JA rfl|exact QE S)(hs:swapsWith (.Call (.Attribute (.Name x p) "pop" apos) [e] [] cpos) (U (.Name y p2)) pos.line X.env=pure false:=by rfl)(C:X.fn y=true\/X.env.scope.names.lookup y=U .local:=by first|exact .inl rfl|exact .inr S):
  GL X (.Assign [.Name y p2] (.Call (.Attribute (.Name x p) "pop" apos) [e] [] cpos) pos) (Uv j i f):=
 Wi (G9 nd P t (Ou PySem.F.plainAttrs_list PySem.F.slot_list_pop PySem.F.type_list_pop Tg (yd (i:=i) hN I hd a2) (tW M yj (by rw[s]<;>rfl)) Q a0 J (by rw[s]<;>rfl) S) hs C) λD σ H h=>by
  obtain⟨H0,ρ,r,E,e,q⟩:=h;obtain⟨b,eb,e⟩:=AT e;split at e
  ·rename_i k;split at e
   ·rename_i ds o;split at e
    ·rename_i hb;obtain⟨m,G,e⟩:=AT e;obtain⟨d,ed,e⟩:=AT e;obtain⟨a3,a1,e⟩:=AT e;cases e;obtain⟨v,e1,a,vs,rfl,n,g⟩:=E.val i _ o;refine⟨_,e1,.inl ⟨rfl,vs,.inl (.inl n)⟩,H0,ρ,_,E,eb,λu H1 s1 n1 W=>?_⟩;have K:=E.grow s1;have l:=g.kp (.of s1);obtain⟨w,B,L⟩:=l.get ed;have hu:u=.int k:=by simpa only[aQ,AW]using W
     subst hu;have c:=s1 _ _ n;refine⟨a,vs,k,m,w,rfl,rfl,c,by omega,by omega,by rw[g.length];exact G,B,?_⟩;have A:=K.Tf o e1 c (BP m l);have kp:Kp H1 (B7 H1 a (.lst (vs.eraseIdx m))):=.lst c;exact q _ _ (Hx A (AV.refl _) (b:=.z d) (by simp only[aQ];exact AW.kp kp L) trivial a1)
    ·cases e
   ·cases e
  ·cases e
theorem NS(j i:Nat){y:AJ}{p:Pos}(nd:X.N.Nodup)(m:QV X e f)(hN:X.N[i]?=U x:=by rfl)(g:QG X.env.scope x:=by first|exact JA rfl|exact QE (JA S)|exact QE (QE S))(hd:dX x:=by decide)(l:(x==("__classdict__":AJ))=false:=by decide)(n:A9 [e] X.env=[(false,eval e X.env)]:=by rfl)(d:attributeBase (.Name x p) "pop" X.env (eval (.Name x p) X.env)=eval (.Name x p) X.env:=by rfl)(b:((AD cpos (A9 [e] X.env)).all (λx=>!x.1)&&(backToKw cpos (keywordEach [] X.env)).all (λx=>x.1.isSome)
   && decide ([e].length+([]:O AC).length+(if([]:O AC).isEmpty then 0 else 1)<30))=true:=by rfl)(h:(apos.endLine==cpos.line)=true:=by rfl)(c:X.N[j]?=U y:=by rfl)(a:CL X.env.scope y:=by first|exact JA rfl|exact QE S)(hs:swapsWith (.Call (.Attribute (.Name x p) "pop" apos) [e] [] cpos) (U (.Name y p2)) pos.line X.env=pure false:=by rfl)(k:X.fn y=true\/X.env.scope.names.lookup y=U .local:=by first|exact .inl rfl|exact .inr S):
  Q6 X (.Assign [.Name y p2] (.Call (.Attribute (.Name x p) "pop" apos) [e] [] cpos) pos) (Uv j i f):=
 ⟨Iq j i nd m.run hN g hd l n d b h c a hs k⟩
def Gn:O Dt->Y Au
 |[]=>U []
 |.int k::r=>(Gn r).bind λks=>U (k::ks)
 |_=>Z
theorem BR{K:B5}{H:Hp}:∀{ds:O Dt} {ks:O Int} {vs:O V} {AQ:O A0},Gn ds=U ks->aG K H ds vs->AX vs AQ->AQ.length=ks.length/\∀i v,AQ[i]?=U v->∃t,v=Value.int (ks.getD i 0) t
 |[],ks,vs,AQ,e,r,w=>by
  cases e;simp only[aG]at r;subst r;cases w;exact⟨rfl,λi v h=>by simp at h⟩
 |d::ds,ks,vs,AQ,e,r,w=>by
  cases d with
  |int k=>
   simp only[Gn]at e;obtain⟨n,e1,e2⟩:=AT e;cases e2;obtain⟨a,b,rfl,q,t⟩:∃a b,vs=a::b/\AW K H (.int k) a/\aG K H ds b:=by
    simpa only[aG]using r
   have l:a=.int k:=by simpa only[AW]using q
   subst l;cases w with
   |cons c m=>
    obtain⟨j,rfl⟩:=c;obtain⟨f,g⟩:=BR e1 t m;refine⟨by simp[f],λi v h=>?_⟩;cases i with
    |zero=>simp at h;exact⟨j,h.symm⟩
    |succ i=>simpa using g i v (by simpa using h)
  |_=>cases e
section
variable{ek ev:Expr}{fk:Ev->Y Bx}
def EV:Ev->Y As:=λ_=>Z
theorem X4:Q6 X st EV:=⟨λD AN s σ H I q=>by
 obtain⟨H0,ρ,r,E,e,q⟩:=q;cases e⟩
end
section
variable{st:Expr}{fs:Ev->Y Bx}
end
theorem ad{a b:Nat}(h:a≠b):@Ne A1 a b:=h
theorem Gp:entryFor table "dict.update.loop"=U Builtin.«dict.update.loop»:=entryFor_of_tree (by kernel_rfl)
section
variable{K:Type} [DecidableEq K] {knd:KeyKind prog w K}
end
def Uw(ps:O (AJ×Dt)):O (AY×Dt):=ps.foldl (λa p=>Ka a (.inr p.1) p.2) []
theorem Gq{K:B5}{H:Hp}:∀{ps:O (AJ×Dt)} {us:O V} {acc:O (AY×Dt)} {ks:O (AY×V)},fO K H acc ks->aG K H (ps.map (·.2)) us->(∀p∈ps,p.1.length<=AA)->fO K H (ps.foldl (λacc p=>Ka acc (.inr p.1) p.2) acc) (yp ks ((ps.map λp=>(Sum.inr p.1:AY)).zip us))
 |[],us,acc,ks,h,r,_=>by simpa[yp]using h
 |p::ps,us,acc,ks,h,r,hl=>by
  obtain⟨u,a,rfl,b,c⟩:∃v r,us=v::r/\AW K H p.2 v/\aG K H (ps.map (·.2)) r:=by simpa only[zr,aG]using r
  exact Gq (ps:=ps) (us:=a) (acc:=Ka acc (.inr p.1) p.2) (ks:=BT ks (Sum.inr p.1) u) (h.put (x:=Sum.inr p.1) b (hl p (zg ..))) c λq hq=>hl q (zh _ hq)
section
variable{ea eb:Expr}{p1 pos1 pos2:Pos}
end
def wV:O Int->Int
 |[]=>0
 |k::ks=>ks.foldl (λm x=>if m<x then x else m) k
theorem X5(ks:O Int)(n:Nat)(b:n<ks.length):ks.getD (argBest (λi j=>decide (ks.getD i 0>ks.getD j 0)) n) 0=wV (ks.take (n+1)):=by
 induction n with
 |zero=>
  cases ks with
  |nil=>cases b
  |cons k ks=>rfl
 |succ n a=>
  have a:=a ();cases ks with
  |nil=>cases b
  |cons k ks=>
   have c:n<ks.length:=by simpa using b
   rw[List.take_succ_cons]at a ⊢;rw[kF c];have e:wV (k::(ks.take n++[ks[n]]))=(if wV (k::ks.take n)<ks[n]then ks[n]else wV (k::ks.take n)):=by
    show(ks.take n++[ks[n]]).foldl _ k=_;rw[List.foldl_append];rfl
   rw[e,<-a];have d:(k::ks).getD (n+1) 0=ks[n]:=by simp[c]
   show(k::ks).getD (if decide ((k::ks).getD (n+1) 0>(k::ks).getD (argBest _ n) 0)=true then n+1 else argBest _ n) 0=_;rw[d];by_cases q:ks[n]>(k::ks).getD (argBest (λi j=>decide ((k::ks).getD i 0>(k::ks).getD j 0)) n) 0
   ·rw[zo (Zl q),zo q,d]
   ·rw[zC (by simpa using q),zC q]
def zM:O Bx->Y Bx
 |[b]=>(lM b).bind λds=>(Gn ds).bind λks=>if 0<ks.length then U (.z (.int (wV ks)))else Z
 |_=>Z
theorem BW:∀{AQ:O A0} {ks:O Int},AQ.length=ks.length->(∀(i:Nat) (v:A0),AQ[i]?=U v->∃t,v=Value.int (ks.getD i 0) t)->∃xs:O (Int×Tok),AQ=xs.map (λp=>Value.int p.1 p.2)/\xs.map (·.1)=ks
 |[],[],_,_=>⟨[],rfl,rfl⟩
 |[],_::_,h,_=>by cases h
 |_::_,[],h,_=>by cases h
 |v::AQ,k::ks,h,g=>by
  obtain⟨t,a⟩:=g 0 v rfl;obtain⟨xs,e1,e2⟩:=BW (AQ:=AQ) (ks:=ks) (by simpa using h) λi v b=>by simpa using g (i+1) v (by simpa using b)
  exact⟨(k,t)::xs,by rw[zr,<-e1,a];rfl,by rw[zr,e2]⟩
theorem Ph(p:X.calm=true):jh X (.builtin "max") zM:=by
 intro AN s σ H xs us Q I r h;obtain⟨bs,c,m,e,q⟩:=h;unfold zM at e;split at e
 ·obtain⟨ds,j,e⟩:=AT e;obtain⟨ks,ek,e⟩:=AT e;split at e
  ·rename_i b;cases e;obtain⟨v,rfl,y⟩:=BM m;obtain⟨a,vs,rfl,sq,x⟩:=y.zG j;obtain⟨u,rfl,z⟩:=BA r;cases z;obtain⟨AQ,w,pl,A⟩:=I.list sq;obtain⟨l,o⟩:=BR ek x w;obtain⟨ps,e1,e2⟩:=BW l o;have g:ps.length=ks.length:=by rw[<-e2,zk]
   have k:numAt ps.toArray=λi=>ks.getD i 0:=funext λi=>by
    unfold numAt;rw[<-e2,k8,ZH];simp
   have n:s.heap.IsList a (intItems ps.toArray):=by
    have:=pl.isList;rw[e1]at this;simpa[intItems]using this
   refine max_intList (I.ok.hd p) n (by simpa[g]using b) λv h' tk d kp=>?_;obtain⟨t,rfl⟩:=intItems_at d;rw[k]at d ⊢;have f:=X5 ks (ks.length-1) ();rw[Nat.sub_add_cancel b,cm]at f;have e3:ps.toArray.size-1=ks.length-1:=by simp[g]
   refine⟨.int (wV ks),H,I.kept (t':=tk) kp,⟨t,?_⟩,q _ H (AV.refl H) trivial (by simp only[aQ,AW])⟩;rw[e3,<-f]
  ·cases e
 ·cases e
theorem rz(xs:AZ)(is:O Nat)(d:closureFor scope X.env=pure cl:=by with_unfolding_all rfl)(b:scope.kind=.function:=by rfl)(a:scope.names.all (λy=>decide (y.2≠.cell)||(cl.lookup y.1).isNone)=true:=by rfl)(e:scope.names.all (λy=>decide (y.2=.local->scope.names.lookup y.1=U .local))=true:=by decide +kernel)(sub:Bn X.env.cells cl:=by repeat (first|exact trivial|refine⟨rfl,?_⟩))(has:(relabel scope X.env).names.all (λy=>!(y.2==.cell||y.2==.free)||(cl.lookup y.1).isSome||scope.names.contains (y.1,.cell))=true:=by rfl)(c:Ea X scope cl xs is:=by repeat (first|exact OX|refine Xy S (by first|exact .inl rfl|exact .inr S) (by first|exact .inl rfl|exact .inr S) ⟨_,rfl⟩ ?_)):vJ X scope cl xs is:=OM d b a e sub has c
theorem mU{a:Scope}(h1:a.kind=.function:=by rfl)(h2:a.isCoroutine=false:=by rfl)(b:a.isGenerator=false:=by rfl)(e:N.Nodup:=by decide +kernel)(c:N.take ps.length=ps:=by rfl)(f:∀x∈ps,a.names.lookup x=U .local\/a.names.lookup x=U .cell:=by decide +kernel)(d:∀y∈a.names,y.2≠.free:=by decide +kernel):bF N ps a:=⟨h1,h2,b,e,c,f,d⟩
instance:Inhabited Dt:=⟨.non⟩
theorem bnd(a:α)(f:α->Y β):(U a).bind f=f a:=(dE a f).trans (Eq.refl _)
def hold:Y Prop->Prop
 |none=>True
 |some p=>p
def aV:Y Prop->Y Prop->Y Prop
 |none,q=>q
 |some p,Z=>U p
 |some p,U q=>U (p/\q)
def Eh(c:Prop):Y Prop->Y Prop
 |none=>Z
 |some p=>U (c->p)
theorem aB{p q:Y Prop}(h:hold (aV p q)):hold p/\hold q:=by
 cases p with
 |none=>exact⟨trivial,h⟩
 |some p=>cases q with
  |none=>exact⟨h,trivial⟩
  |some q=>exact h
theorem lg{c:Prop}{p:Y Prop}(h:hold (Eh c p))(a:c):hold p:=by
 cases p with
 |none=>trivial
 |some p=>exact h a
structure R {α β:Type} (f:Ev->Option β) (ρ:Ev) (c:α->β) where
 v:α
 D:Option Prop
 ok:hold D->f ρ=some (c v)
abbrev zE(e:α->Dt):α->Bx:=λa=>.z (e a)
abbrev oE(e:α->Dt):O α->Bx:=λxs=>.o (xs.map e)
abbrev lE(e:α->Dt):O α->Bx:=λxs=>.l (xs.map e)
abbrev tE:Bool->Bool:=λb=>b
abbrev iE(e:α->Dt):O α->O Dt:=λxs=>xs.map e
abbrev eI:Int->Dt:=Dt.int
abbrev eB:Bool->Dt:=Dt.bl
abbrev eS:AJ->Dt:=Dt.str
abbrev eN:Unit->Dt:=λ_=>.non
abbrev eL(e:α->Dt):O α->Dt:=λxs=>.lst (xs.map e)
abbrev eT(e:α->Dt):O α->Dt:=λxs=>.tup (xs.map e)
abbrev eO(e:α->Dt):Y α->Dt:=λo=>match o with|none=>.non|some a=>e a
abbrev GW(a:α->Dt):α->Dt:=λx=>.tup [a x]
abbrev mV(a:α->Dt)(b:β->Dt):α×β->Dt:=λx=>.tup [a x.1,b x.2]
abbrev D4(a:α->Dt)(b:β->Dt)(c:γ->Dt):α×β×γ->Dt:=λx=>.tup [a x.1,b x.2.1,c x.2.2]
abbrev Db(a:α->Dt)(b:β->Dt)(c:γ->Dt)(d:δ->Dt):α×β×γ×δ->Dt:=λx=>.tup [a x.1,b x.2.1,c x.2.2.1,d x.2.2.2]
structure RL {α:Type} (f:Ev->Option Bx) (ρ:Ev) (e:α->Dt) where
 v:List α
 D:Option Prop
 b:Bx
 lk:lM b=some (v.map e)
 ok:hold D->f ρ=some b
section
variable{fs:Ev->Y (O Bx)}{e:α->Dt}{e':β->Dt}
def jc(a:R f ρ (oE e)):RL f ρ e:=⟨a.v,a.D,_,rfl,a.ok⟩
def iG(a:R f ρ (lE e)):RL f ρ e:=⟨a.v,a.D,_,rfl,a.ok⟩
def Rq(a:R f ρ (zE (eL e))):RL f ρ e:=⟨a.v,a.D,_,rfl,a.ok⟩
def Lp(b:Bx)(ds:O Dt):Prop:=b=.z (.lst ds)\/b=.l ds
theorem Lp.zG{b:Bx}(h:Lp b ds):lM b=U ds:=by rcases h with rfl|rfl<;>rfl
theorem Lp.get{b:Bx}{ds:O Dt}{i:Nat}(h:Lp b ds)(hi:ρ[i]?=U (U b)):zX ρ i=U b:=by
 rcases h with rfl|rfl<;>(unfold zX;rw[hi])
theorem jz{b:Bx}(h:lM b=U ds):Lp (P1.lend b) ds:=by
 cases b with
 |z d=>cases d<;>cases h;exact .inl rfl
 |l d=>cases h;exact .inr rfl
 |o d=>cases h;exact .inr rfl
 |n d=>cases h
 |m d _=>cases h
def aq(i:Nat)(c:α->Bx)(a:α)(h:zX ρ i=U (c a)):R (gv i) ρ c:=⟨a,Z,λ_=>h⟩
def bY(i:Nat)(e:α->Dt)(a:O α){b:Bx}(h:Lp b (a.map e))(hi:ρ[i]?=U (U b)):RL (gv i) ρ e:=⟨a,Z,b,h.zG,λ_=>h.get hi⟩
def uQ(d:Dt)(e:α->Dt)(a:α)(h:d=e a):R (cB d) ρ (zE e):=⟨a,Z,λ_=>by rw[h];rfl⟩
def MP(a:R f ρ (zE e)):R f ρ (zE (eO e)):=⟨U a.v,a.D,a.ok⟩
def IS:R (cB .non) ρ (zE (eO e)):=⟨Z,Z,λ_=>S⟩
def Zv[Inhabited α](a:R f ρ (zE (eO e))):R f ρ (zE e):=⟨a.v.getD default,aV a.D (U (a.v.isSome=true)),λh=>by
 obtain⟨h1,h2⟩:=aB h;rw[a.ok h1];have h2:a.v.isSome=true:=h2;cases b:a.v with
 |none=>rw[b]at h2;cases h2
 |some x=>rfl⟩
def X6(a:R f ρ (oE e)):R (b1 zJ f) ρ (zE (eL e)):=⟨a.v,a.D,λh=>by simp only[b1,a.ok h,bnd,zJ]⟩
def nR(a:R f ρ (zE e)):R (b1 zJ f) ρ (zE e):=⟨a.v,a.D,λh=>by simp only[b1,a.ok h,bnd,zJ]⟩
def Pj(a:R f ρ (zE eI)):R (b1 Ef f) ρ (zE eI):=⟨-a.v,a.D,λh=>by simp only[b1,a.ok h,bnd,Ef]⟩
def mW(a:R fa ρ (zE eI))(b:R fb ρ (zE eI)):R (b2 fP fa fb) ρ (zE eI):=⟨a.v+b.v,aV a.D b.D,λh=>by
 obtain⟨h1,h2⟩:=aB h;simp only[b2,a.ok h1,b.ok h2,bnd,fP]⟩
def Zw(a:R fa ρ (zE eI))(b:R fb ρ (zE eI)):R (b2 CC fa fb) ρ (zE eI):=⟨a.v-b.v,aV a.D b.D,λh=>by
 obtain⟨h1,h2⟩:=aB h;simp only[b2,a.ok h1,b.ok h2,bnd,i2]⟩
def Dx(a b:Int):Prop:=(-18446744073709551616<a/\a<18446744073709551616)\/(-18446744073709551616<b/\b<18446744073709551616)
def Zx(a:R fa ρ (zE eI))(b:R fb ρ (zE eI)):R (b2 uG fa fb) ρ (zE eI):=⟨a.v*b.v,aV (aV a.D b.D) (U (Dx a.v b.v)),λh=>by
 obtain⟨h,c⟩:=aB h;obtain⟨h1,h2⟩:=aB h;simp only[b2,a.ok h1,b.ok h2,bnd];exact zo c⟩
def Ig(n:Int)(a : -18446744073709551616<n/\n<18446744073709551616)(b:R fb ρ (zE eI)):R (b2 uG (cB (.int n)) fb) ρ (zE eI):=⟨n*b.v,b.D,λh=>by
 simp only[b2,b.ok h,bnd,cB];exact zo (.inl a)⟩
def Pk(a:R fa ρ (zE eI))(n:Int)(b : -18446744073709551616<n/\n<18446744073709551616):R (b2 uG fa (cB (.int n))) ρ (zE eI):=⟨a.v*n,a.D,λh=>by
 simp only[b2,a.ok h,bnd,cB];exact zo (.inr b)⟩
def Ih(a:R fa ρ (zE eI))(b:R fb ρ (zE eI)):R (b2 mK fa fb) ρ (zE eI):=⟨a.v / b.v,aV (aV a.D b.D) (U (0<b.v/\b.v<1073741824)),λh=>by
 obtain⟨h,c⟩:=aB h;obtain⟨h1,h2⟩:=aB h;have c:0<b.v/\b.v<1073741824:=c;simp only[b2,a.ok h1,b.ok h2,bnd,i2,zo c]⟩
def qg(a:R fa ρ (zE eI))(n:Int)(b:0<n/\n<1073741824):R (b2 mK fa (cB (.int n))) ρ (zE eI):=⟨a.v / n,a.D,λh=>by
 simp only[b2,a.ok h,bnd,i2,cB,zo b]⟩
def Ux(a:R fa ρ (zE eI))(b:R fb ρ (zE eI)):R (b2 gA fa fb) ρ (zE eI):=⟨a.v%b.v,aV (aV a.D b.D) (U (0<b.v)),λh=>by
 obtain⟨h,c⟩:=aB h;obtain⟨h1,h2⟩:=aB h;have c:0<b.v:=c;simp only[b2,a.ok h1,b.ok h2,bnd,i2,zo c]⟩
def dD(a:R fa ρ (zE eI))(n:Int)(b:0<n):R (b2 gA fa (cB (.int n))) ρ (zE eI):=⟨a.v%n,a.D,λh=>by
 simp only[b2,a.ok h,bnd,i2,cB,zo b]⟩
def II(a b:Int)(n:Nat)(h:0<=b/\b<=1000/\a.natAbs<18446744073709551616)(c:b.toNat=n):R (b2 Xp (cB (.int a)) (cB (.int b))) ρ (zE eI):=⟨a ^ n,Z,λ_=>by
 simp only[b2,bnd,cB];show((if 0<=b/\b<=1000/\a.natAbs<2 ^ 64 then U (Dt.int (a ^ b.toNat))else Z).bind λd=>U (Bx.z d))=_;rw[zo h,c];rfl⟩
def FO(a:R fa ρ (zE eI))(b:R fb ρ (zE eI)):R (b2 DD fa fb) ρ (zE eB):=⟨decide (b.v<a.v),aV a.D b.D,λh=>by
 obtain⟨h1,h2⟩:=aB h;simp only[b2,a.ok h1,b.ok h2,bnd,i2]⟩
def DM(a:R fa ρ (zE eI))(b:R fb ρ (zE eI)):R (b2 D6 fa fb) ρ (zE eB):=⟨decide (b.v<=a.v),aV a.D b.D,λh=>by
 obtain⟨h1,h2⟩:=aB h;simp only[b2,a.ok h1,b.ok h2,bnd,i2]⟩
def Pn(a:R fa ρ (zE eI))(b:R fb ρ (zE eI)):R (b2 MJ fa fb) ρ (zE eB):=⟨decide (a.v<b.v),aV a.D b.D,λh=>by
 obtain⟨h1,h2⟩:=aB h;simp only[b2,a.ok h1,b.ok h2,bnd,MJ]⟩
def jA(x y:AJ):Bool:=decide (x.cps.toList<y.cps.toList)
def Hd(a:R fa ρ (zE eS))(b:R fb ρ (zE eS)):R (b2 MJ fa fb) ρ (zE eB):=⟨jA a.v b.v,aV a.D b.D,λh=>by
 obtain⟨h1,h2⟩:=aB h;simp only[b2,a.ok h1,b.ok h2,bnd,MJ,jA]⟩
end
class B9 {α:Type} [DecidableEq α] (e:α->Dt) (n:outParam Nat):Prop where
 eq:∀a b,Js (e a) (e b)=some (decide (a=b))
 dp:∀a,yr (e a)<=n
class CD {α:Type} (e:α->Dt):Prop where
 l:∀a,Js .non (e a)=some false
 r:∀a,Js (e a) .non=some false
instance:B9 eI 1:=⟨λa b=>rfl,λa=>by simp[yr]⟩
instance:B9 eB 1:=⟨λa b=>rfl,λa=>by simp[yr]⟩
instance:B9 eS 1:=⟨λa b=>rfl,λa=>by simp[yr]⟩
instance:CD eI:=⟨λa=>rfl,λa=>rfl⟩
instance:CD eB:=⟨λa=>rfl,λa=>rfl⟩
instance:CD eS:=⟨λa=>rfl,λa=>rfl⟩
section
variable [DecidableEq α] [DecidableEq β] [DecidableEq γ] [DecidableEq δ] {e:α->Dt}{e':β->Dt}{e'':γ->Dt}{e3:δ->Dt}{l:Nat}
theorem BX[B9 e n]:∀xs ys:O α,jT (xs.map e) (ys.map e)=U (decide (xs=ys))
 |[],[]=>by simp[jT]
 |[],y::ys=>by simp[jT]
 |x::xs,[]=>by simp[jT]
 |x::xs,y::ys=>by
  simp only[zr,jT,B9.eq,BX xs ys];congr 1;by_cases h:x=y<;>by_cases h':xs=ys<;>simp[h,h']
theorem BZ[B9 e n]:∀xs:O α,wM (xs.map e)<=n
 |[]=>by simp[wM]
 |x::xs=>by
  have:=B9.dp (e:=e) x;have:=BZ xs;simp only[zr,wM];omega
instance [B9 e n]:B9 (eL e) (n+1):=⟨λa b=>BX a b,λa=>by simp only[yr];have:=BZ (e:=e) a;omega⟩
instance [B9 e n]:B9 (eT e) (n+1):=⟨λa b=>BX a b,λa=>by simp only[yr];have:=BZ (e:=e) a;omega⟩
instance:CD (eL e):=⟨λa=>rfl,λa=>rfl⟩
instance:CD (eT e):=⟨λa=>rfl,λa=>rfl⟩
instance:CD (GW e):=⟨λa=>rfl,λa=>rfl⟩
instance:CD (mV e e'):=⟨λa=>rfl,λa=>rfl⟩
instance:CD (D4 e e' e''):=⟨λa=>rfl,λa=>rfl⟩
instance:CD (Db e e' e'' e3):=⟨λa=>rfl,λa=>rfl⟩
instance [B9 e n]:B9 (GW e) (n+1):=⟨λa b=>by
 simp only[Ah,jT,B9.eq,kT],λa=>by
 have:=B9.dp (e:=e) a;simp only[yr,wM];omega⟩
theorem D8{a b:Nat}(h:a<=n)(h':b<=m):max a b<=max n m:=Nat.max_le.mpr ⟨zS h (Nat.le_max_left ..),zS h' (Nat.le_max_right ..)⟩
theorem EM{a:Nat}(h:a<=n):max a 0<=n:=Nat.max_le.mpr ⟨h,qi _⟩
instance [B9 e n] [B9 e' m]:B9 (mV e e') (max n m+1):=⟨λa b=>by
 obtain⟨a,a'⟩:=a;obtain⟨b,b'⟩:=b;simp only[Ah,jT,B9.eq,kR,cx,kT],λa=>KA (D8 (B9.dp (e:=e) a.1) (EM (B9.dp (e:=e') a.2)))⟩
instance [B9 e n] [B9 e' m] [B9 e'' k]:B9 (D4 e e' e'') (max n (max m k)+1):=⟨λa b=>by
 obtain⟨a,a',a2⟩:=a;obtain⟨b,b',b2⟩:=b;simp only[Ah,jT,B9.eq,kR,cx,kT],λa=>KA (D8 (B9.dp (e:=e) a.1) (D8 (B9.dp (e:=e') a.2.1) (EM (B9.dp (e:=e'') a.2.2))))⟩
instance [B9 e n] [B9 e' m] [B9 e'' k] [B9 e3 l]:B9 (Db e e' e'' e3) (max n (max m (max k l))+1):=⟨λa b=>by
 obtain⟨a,a',a2,a3⟩:=a;obtain⟨b,b',b2,b3⟩:=b;simp only[Ah,jT,B9.eq,kR,cx,kT],λa=>KA (D8 (B9.dp (e:=e) a.1) (D8 (B9.dp (e:=e') a.2.1) (D8 (B9.dp (e:=e'') a.2.2.1) (EM (B9.dp (e:=e3) a.2.2.2)))))⟩
instance [B9 e n] [CD e]:B9 (eO e) (n+1):=⟨λa b=>by
 cases a with
 |none=>cases b with
  |none=>exact rfl
  |some b=>exact(CD.l (e:=e) b).trans (by simp)
 |some a=>cases b with
  |none=>exact(CD.r (e:=e) a).trans (by simp)
  |some b=>exact(B9.eq (e:=e) a b).trans (by simp),λa=>by
 cases a with
 |none=>show yr .non<=n+1;simp[yr]
 |some a=>exact Nat.le_succ_of_le (B9.dp (e:=e) a)⟩
end
section
variable{fs:Ev->Y (O Bx)}{e:α->Dt}{e':β->Dt}
def BC[DecidableEq α][B9 e n](c:n<=100)(a:R fa ρ (zE e))(b:R fb ρ (zE e)):R (b2 BB fa fb) ρ (zE eB):=⟨decide (a.v=b.v),aV a.D b.D,λh=>by
 obtain⟨h1,h2⟩:=aB h;have:=B9.dp (e:=e) a.v;simp only[b2,a.ok h1,b.ok h2,bnd,BB,rO,toD,zw,or_self,ZN,B9.eq];rw[zo ()]⟩
def Is[DecidableEq α][B9 e n](c:n<=100)(a:R fa ρ (zE e))(b:R fb ρ (zE e)):R (b2 Sd fa fb) ρ (zE eB):=⟨!decide (a.v=b.v),aV a.D b.D,λh=>by
 obtain⟨h1,h2⟩:=aB h;have:=B9.dp (e:=e) a.v;simp only[b2,a.ok h1,b.ok h2,bnd,Sd,rO,toD,zw,or_self,ZN,B9.eq];rw[zo ()]⟩
theorem nT{b:Bx}(h:lM b=U ds):toD b=.lst ds/\rO b=false:=by
 cases b with
 |z d=>cases d<;>cases h;exact⟨rfl,rfl⟩
 |l d=>cases h;exact⟨rfl,rfl⟩
 |o d=>cases h;exact⟨rfl,rfl⟩
 |n d=>cases h
 |m d _=>cases h
def Uy[DecidableEq α][B9 e n](c:n+1<=100)(a:RL fa ρ e)(b:RL fb ρ e):R (b2 BB fa fb) ρ (zE eB):=⟨decide (a.v=b.v),aV a.D b.D,λh=>by
 obtain⟨h1,h2⟩:=aB h;have:=B9.dp (e:=eL e) a.v;simp only[b2,a.ok h1,b.ok h2,bnd,BB,(nT a.lk).1,(nT a.lk).2,(nT b.lk).1,(nT b.lk).2,zw,or_self,ZN];have e1:=B9.eq (e:=eL e) a.v b.v;rw[zo (zS (Nat.min_le_left _ _) (zS (B9.dp (e:=eL e) a.v) c)),e1,bnd]⟩
def Uz[DecidableEq α][B9 e n](c:n+1<=100)(a:RL fa ρ e)(b:RL fb ρ e):R (b2 Sd fa fb) ρ (zE eB):=⟨!decide (a.v=b.v),aV a.D b.D,λh=>by
 obtain⟨h1,h2⟩:=aB h;simp only[b2,a.ok h1,b.ok h2,bnd,Sd,(nT a.lk).1,(nT a.lk).2,(nT b.lk).1,(nT b.lk).2,zw,or_self,ZN];have e1:=B9.eq (e:=eL e) a.v b.v;rw[zo (zS (Nat.min_le_left _ _) (zS (B9.dp (e:=eL e) a.v) c)),e1,bnd]⟩
def Pq(a:R fa ρ (zE (eO e)))(b:∀x,Mz (.z (e x))=false):R (b2 Br fa (cB .non)) ρ (zE eB):=⟨a.v.isSome,a.D,λh=>by
 simp only[b2,a.ok h,bnd,cB,Br];cases c:a.v with
 |none=>rfl
 |some x=>simp only[de,b,kA]⟩
def GT(a:R fa ρ (zE eB))(b:R fb ρ (zE eB)):R (Ct fa fb) ρ (zE eB):=⟨a.v||b.v,aV a.D (Eh (a.v=false) b.D),λh=>by
 obtain⟨h1,h2⟩:=aB h;simp only[Ct,a.ok h1,bnd,Ml];cases c:a.v with
 |true=>simp only[Z3,Bool.true_or]
 |false=>simp only[zw,ZN,bE];exact b.ok (lg h2 c)⟩
def Fm(a:R fa ρ (zE eB)):R (tV fa) ρ tE:=⟨a.v,a.D,λh=>by simp only[tV,a.ok h,bnd,Tz]⟩
def IJ(a:RL fa ρ e):R (tV fa) ρ tE:=⟨!a.v.isEmpty,a.D,λh=>by
 have:Tz a.b=U (!(a.v.map e).isEmpty):=by
  have:=a.lk;generalize a.v.map e=ds at this
  revert this
  generalize a.b=b;intro this;cases b with
  |z d=>cases d<;>cases this;rfl
  |l d=>cases this;rfl
  |o d=>cases this;rfl
  |n d=>cases this
  |m d _=>cases this
 simp only[tV,a.ok h,bnd,this,dL]⟩
def cU{g:Bx->Bx->Y Bx}(a:R (b2 g fa fb) ρ (zE eB)):R (jR g fa fb) ρ tE:=⟨a.v,a.D,λh=>by simp only[jR,a.ok h,bnd,Ml]⟩
def Pr(a:R p ρ tE)(b:R q ρ tE):R (zY p q) ρ tE:=⟨a.v&&b.v,aV a.D (Eh (a.v=true) b.D),λh=>by
 obtain⟨h1,h2⟩:=aB h;simp only[zY,a.ok h1,bnd];cases c:a.v with
 |true=>simp only[Z3,Bool.true_and];exact b.ok (lg h2 c)
 |false=>simp only[zw,ZN,Bool.false_and]⟩
def UG(a:R p ρ tE)(b:R q ρ tE):R (R8 p q) ρ tE:=⟨a.v||b.v,aV a.D (Eh (a.v=false) b.D),λh=>by
 obtain⟨h1,h2⟩:=aB h;simp only[R8,a.ok h1,bnd];cases c:a.v with
 |true=>simp only[Z3,Bool.true_or]
 |false=>simp only[zw,ZN,bE];exact b.ok (lg h2 c)⟩
def Zy(a:R p ρ tE):R (TF p) ρ tE:=⟨!a.v,a.D,λh=>by simp only[TF,a.ok h,bnd]⟩
end
section
variable{ε:Type}{fd:Ev->Y Bx}{fs:Ev->Y (O Bx)}{e:α->Dt}{e':β->Dt}{e'':γ->Dt}{e3:δ->Dt}
def LJ(e:α->Dt):R (bx gq aF) ρ (zE (eT e)):=⟨[],Z,λ_=>S⟩
def jB(a:R fa ρ (zE e))(b:R fb ρ (zE e')):R (bx gq (ao fa (ao fb aF))) ρ (zE (mV e e')):=⟨(a.v,b.v),aV a.D b.D,λh=>by
 obtain⟨h1,h2⟩:=aB h;simp only[bx,ao,aF,a.ok h1,b.ok h2,bnd];rfl⟩
def Mk(a:R fa ρ (zE e))(b:R fb ρ (zE e'))(c:R fc ρ (zE e'')):R (bx gq (ao fa (ao fb (ao fc aF)))) ρ (zE (D4 e e' e'')):=⟨(a.v,b.v,c.v),aV a.D (aV b.D c.D),λh=>by
 obtain⟨h1,h⟩:=aB h;obtain⟨h2,d⟩:=aB h;simp only[bx,ao,aF,a.ok h1,b.ok h2,c.ok d,bnd];rfl⟩
def dR(e:α->Dt):R aF ρ (λxs:O α=>xs.map (zE e)):=⟨[],Z,λ_=>S⟩
def aK(a:R fa ρ (zE e))(t:R fs ρ (λxs:O α=>xs.map (zE e))):R (ao fa fs) ρ (λxs:O α=>xs.map (zE e)):=⟨a.v::t.v,aV a.D t.D,λh=>by
 obtain⟨h1,h2⟩:=aB h;simp only[ao,a.ok h1,t.ok h2,bnd,zr]⟩
theorem Ca:∀xs:O α,Hv (xs.map (zE e))=U (xs.map e)
 |[]=>rfl
 |x::xs=>by simp only[zr,Hv,Ca xs,bnd]
def lq(t:R fs ρ (λxs:O α=>xs.map (zE e)))(a:t.v.length<=1000):R (bx lC fs) ρ (oE e):=⟨t.v,t.D,λh=>by
 simp only[bx,t.ok h,bnd,lC,zk,zo a,Ca]⟩
def Ii(t:R fs ρ (λxs:O α=>xs.map (zE e)))(a:t.v.length<=1000):R (bx gq fs) ρ (zE (eT e)):=⟨t.v,t.D,λh=>by
 simp only[bx,t.ok h,bnd,gq,zk,zo a,Ca]⟩
def Ap[Inhabited α](xs:O α)(i:Int):α:=(DN xs i).getD default
def In(n:Nat)(i:Int):Prop:=-(n:Int)<=i/\i<n
theorem Ij{xs:O α}{i:Int}(h:In xs.length i):∃x,DN xs i=U x:=by
 obtain⟨h1,h2⟩:=h;unfold DN D1;by_cases h0:0<=i
 ·rw[zo h0,zo h2];exact⟨xs[i.toNat]'(),JI ()⟩
 ·rw[zC h0,zo h1];exact⟨xs[(i+xs.length).toNat]'(),JI ()⟩
theorem N3{xs:O α}{i:Int}{x:α}(h:DN xs i=U x):DN (xs.map e) i=U (e x):=by
 unfold DN at h ⊢;rw[zk];obtain⟨j,a,h⟩:=AT h;rw[a,bnd,ZH,h];rfl
theorem UJ[Inhabited α]{xs:O α}{i:Int}(h:In xs.length i):DN (xs.map e) i=U (e (Ap xs i)):=by
 obtain⟨x,hx⟩:=Ij h;rw[N3 hx];unfold Ap;rw[hx];rfl
theorem X7{b:Bx}{i:Int}(h:lM b=U ds):bV b (.z (.int i))=(DN ds i).bind λd=>U (.z d):=by
 cases b with
 |z d=>cases d<;>cases h;rfl
 |l d=>cases h;rfl
 |o d=>cases h;rfl
 |n d=>cases h
 |m d _=>cases h
def gZ[Inhabited α](a:RL fa ρ e)(b:R fb ρ (zE eI)):R (b2 bV fa fb) ρ (zE e):=⟨Ap a.v b.v,aV (aV a.D b.D) (U (In a.v.length b.v)),λh=>by
 obtain⟨h,c⟩:=aB h;obtain⟨h1,h2⟩:=aB h;simp only[b2,a.ok h1,b.ok h2,bnd,X7 a.lk,UJ (show In a.v.length b.v from c)]⟩
def Kg[Inhabited α](a:R fa ρ (zE (eT e)))(b:R fb ρ (zE eI)):R (b2 bV fa fb) ρ (zE e):=⟨Ap a.v b.v,aV (aV a.D b.D) (U (In a.v.length b.v)),λh=>by
 obtain⟨h,c⟩:=aB h;obtain⟨h1,h2⟩:=aB h;simp only[b2,a.ok h1,b.ok h2,bnd,bV,vK,UJ (show In a.v.length b.v from c)]⟩
def ch(x:AJ)(i:Int):AJ:=⟨#[(DN x.cps.toList i).getD 0]⟩
def Pu(a:R fa ρ (zE eS))(b:R fb ρ (zE eI)):R (b2 bV fa fb) ρ (zE eS):=⟨ch a.v b.v,aV (aV a.D b.D) (U (In a.v.length b.v)),λh=>by
 obtain⟨h,c⟩:=aB h;obtain⟨h1,h2⟩:=aB h;obtain⟨x,hx⟩:=Ij (xs:=a.v.cps.toList) (i:=b.v) (show In a.v.length b.v from c);simp only[b2,a.ok h1,b.ok h2,bnd,bV,hx,ch,Option.getD_some]⟩
def cM(a:R fa ρ (zE e))(g:α->β)(e':β->Dt)(i:Int)(h:∀x,bV (.z (e x)) (.z (.int i))=U (.z (e' (g x)))):R (b2 bV fa (cB (.int i))) ρ (zE e'):=⟨g a.v,a.D,λhd=>by
 simp only[b2,a.ok hd,bnd,cB,h]⟩
def BI(xs:O α)(lo hi:Y Int):O α:=(xs.drop (HT.fV xs.length 0 lo)).take (HT.fV xs.length xs.length hi-HT.fV xs.length 0 lo)
theorem X8(xs:O α)(lo hi:Y Int):Bi (xs.map e) lo hi=(BI xs lo hi).map e:=by
 unfold Bi BI;rw[zk,List.map_take,List.map_drop]
abbrev pE:Y Int->Y Int:=λo=>o
def UL:R vL ρ pE:=⟨Z,Z,λ_=>S⟩
def M4(a:R fa ρ (zE eI)):R (qR fa) ρ pE:=⟨U a.v,a.D,λh=>by simp only[qR,a.ok h,bnd,ET]⟩
variable{fl fh:Ev->Y (Y Int)}
theorem Yb{b:Bx}(h:lM b=U ds):DI b lo hi=U (.o (Bi ds lo hi)):=by
 cases b with
 |z d=>cases d<;>cases h;rfl
 |l d=>cases h;rfl
 |o d=>cases h;rfl
 |n d=>cases h
 |m d _=>cases h
def Yc(a:RL fa ρ e)(l:R fl ρ pE)(u:R fh ρ pE):R (Sg fa fl fh) ρ (oE e):=⟨BI a.v l.v u.v,aV a.D (aV l.D u.D),λh=>by
 obtain⟨h1,h⟩:=aB h;obtain⟨h2,b⟩:=aB h;simp only[Sg,a.ok h1,l.ok h2,u.ok b,bnd,Yb a.lk,X8]⟩
def Zz(a:R fa ρ (zE eS))(l:R fl ρ pE)(u:R fh ρ pE):R (Sg fa fl fh) ρ (zE eS):=⟨Txt.slice a.v l.v u.v,aV a.D (aV l.D u.D),λh=>by
 obtain⟨h1,h⟩:=aB h;obtain⟨h2,b⟩:=aB h;simp only[Sg,a.ok h1,l.ok h2,u.ok b,bnd,DI]⟩
def Ik(n:Nat):Prop:=n<=1000000
def Il(a:R fa ρ (zE eS))(b:R fb ρ (zE eS)):R (b2 fP fa fb) ρ (zE eS):=⟨a.v++b.v,aV (aV a.D b.D) (U (Ik (a.v.length+b.v.length))),λh=>by
 obtain⟨h,c⟩:=aB h;obtain⟨h1,h2⟩:=aB h;simp only[b2,a.ok h1,b.ok h2,bnd,fP,zo (show a.v.length+b.v.length<=Mx from c)]⟩
def M5(a:R fa ρ (zE (eT e)))(b:R fb ρ (zE (eT e))):R (b2 fP fa fb) ρ (zE (eT e)):=⟨a.v++b.v,aV (aV a.D b.D) (U (Ik (a.v.length+b.v.length))),λh=>by
 obtain⟨h,c⟩:=aB h;obtain⟨h1,h2⟩:=aB h;simp only[b2,a.ok h1,b.ok h2,bnd,fP,zk,zo (show a.v.length+b.v.length<=Mx from c),zE,eT,ZT]⟩
theorem UW{b e:Bx}{f:O Dt}(h:lM b=U ds)(h':lM e=U f)(c:ds.length+f.length<=Mx):fP b e=U (.o (ds++f)):=by
 cases b with
 |z d=>
  cases d<;>cases h;cases e with
  |z a=>cases a<;>cases h';exact zo c
  |l a=>cases h';exact zo c
  |o a=>cases h';exact zo c
  |n a=>cases h'
  |m a=>cases h'
 |l d=>
  cases h;cases e with
  |z a=>cases a<;>cases h';exact zo c
  |l a=>cases h';exact zo c
  |o a=>cases h';exact zo c
  |n a=>cases h'
  |m a=>cases h'
 |o d=>
  cases h;cases e with
  |z a=>cases a<;>cases h';exact zo c
  |l a=>cases h';exact zo c
  |o a=>cases h';exact zo c
  |n a=>cases h'
  |m a=>cases h'
 |n d=>cases h
 |m d _=>cases h
def U0(a:RL fa ρ e)(b:RL fb ρ e):R (b2 fP fa fb) ρ (oE e):=⟨a.v++b.v,aV (aV a.D b.D) (U (Ik (a.v.length+b.v.length))),λh=>by
 obtain⟨h,c⟩:=aB h;obtain⟨h1,h2⟩:=aB h;simp only[b2,a.ok h1,b.ok h2,bnd];rw[UW a.lk b.lk (by rw[zk,zk];exact c)];simp only[oE,ZT]⟩
def HI(a:R fa ρ (zE eS))(b:R fb ρ (zE eI)):R (b2 uG fa fb) ρ (zE eS):=⟨Txt.mul a.v b.v,aV (aV a.D b.D) (U (b.v<=1000 ∧ -1000<=b.v/\a.v.length<=1000)),λh=>by
 obtain⟨h,c⟩:=aB h;obtain⟨h1,h2⟩:=aB h;simp only[b2,a.ok h1,b.ok h2,bnd];exact zo c⟩
theorem U3{b:Bx}(h:lM b=U ds):iD [b]=U (.z (.int ds.length)):=by
 cases b with
 |z d=>cases d<;>cases h;rfl
 |l d=>cases h;rfl
 |o d=>cases h;rfl
 |n d=>cases h
 |m d _=>cases h
theorem U4{b:Bx}(h:lM b=U ds):vK b=U ds:=by
 cases b with
 |z d=>cases d<;>cases h;rfl
 |l d=>cases h;rfl
 |o d=>cases h;rfl
 |n d=>cases h
 |m d _=>cases h
def C0(a:RL fa ρ e):R (bx iD (ao fa aF)) ρ (zE eI):=⟨(a.v.length:Int),a.D,λh=>by
 simp only[bx,ao,aF,a.ok h,bnd,U3 a.lk,zk]⟩
def Im(a:R fa ρ (zE (eT e))):R (bx iD (ao fa aF)) ρ (zE eI):=⟨(a.v.length:Int),a.D,λh=>by
 simp only[bx,ao,aF,a.ok h,bnd,iD,vK,zk]⟩
def yD(a:R fa ρ (zE eS)):R (bx iD (ao fa aF)) ρ (zE eI):=⟨(a.v.length:Int),a.D,λh=>by
 simp only[bx,ao,aF,a.ok h,bnd,iD]⟩
def lN(a:RL fa ρ e):R (bx jx (ao fa aF)) ρ (zE (eT e)):=⟨a.v,a.D,λh=>by
 simp only[bx,ao,aF,a.ok h,bnd,jx,U4 a.lk]⟩
def Yd(a:R fa ρ (zE (eT e))):R (bx Ga (ao fa aF)) ρ (oE e):=⟨a.v,a.D,λh=>by
 simp only[bx,ao,aF,a.ok h,bnd,Ga,vK]⟩
def LA(a:R fa ρ (zE eI)):R (bx Ri (ao fa aF)) ρ (zE eI):=⟨if a.v<0 then -a.v else a.v,a.D,λh=>by
 simp only[bx,ao,aF,a.ok h,bnd,Ri]⟩
def NA(a:R fa ρ (zE eB)):R (bx Uh (ao fa aF)) ρ (zE eI):=⟨if a.v=true then 1 else 0,a.D,λh=>by
 simp only[bx,ao,aF,a.ok h,bnd,Uh]⟩
theorem Gr:∀l:O Bool,Gb (l.map eB)=U l
 |[]=>rfl
 |a::l=>by simp only[zr,Gb,Gr l,bnd]
def MM(a:RL fa ρ eB):R (bx CM (ao fa aF)) ρ (zE eB):=⟨a.v.all id,a.D,λh=>by
 simp only[bx,ao,aF,a.ok h,bnd,CM,a.lk,Gr]⟩
def IT(a:R fa ρ (zE eI))(b:R fb ρ (zE eI)):R (bx Rm (ao fa (ao fb aF))) ρ (zE eI):=⟨if b.v>a.v then b.v else a.v,aV a.D b.D,λh=>by
 obtain⟨h1,h2⟩:=aB h;simp only[bx,ao,aF,a.ok h1,b.ok h2,bnd,Rm]⟩
theorem BN:∀l:AZ,nO (l.map eS)=U l
 |[]=>rfl
 |a::l=>by simp only[zr,nO,BN l,bnd]
def LP(s:AJ)(a:RL fa ρ eS):R (b1 (Gd s) fa) ρ (zE eS):=⟨Txt.join s a.v,aV a.D (U ((a.v.map (·.length)).sum+a.v.length*s.length<=100000)),λh=>by
 obtain⟨h,b⟩:=aB h;simp only[b1,a.ok h,bnd,Gd,a.lk,BN];exact zo b⟩
def Ye(a:RL fa ρ eS):R (bx J8 (ao fa aF)) ρ (oE eS):=⟨eX a.v,aV a.D (U (a.v.length<64)),λh=>by
 obtain⟨h,b⟩:=aB h;simp only[bx,ao,aF,a.ok h,bnd,J8,a.lk,BN];exact zo b⟩
class By {α:Type} (e:α->Dt):Prop where
 f:∀a,wN (e a)=true
instance:By eI:=⟨λ_=>rfl⟩
instance:By eB:=⟨λ_=>rfl⟩
instance:By eS:=⟨λ_=>rfl⟩
theorem Cd[DecidableEq α][B9 e n][By e](x:α)(ys:O α):CA (e x) (ys.map e)=U (decide (x∈ys)):=by
 unfold CA;rw[zo ⟨By.f x,by rw[List.all_map];exact List.all_eq_true.mpr λy _=>By.f y⟩,List.any_map];congr 1;rw[cw,ay,decide_eq_true_iff];constructor
 ·rintro⟨y,a,h⟩;simp only[Function.comp,B9.eq]at h;by_cases e1:y=x
  ·rw[<-e1];exact a
  ·simp only[e1,ki]at h;cases h
 ·intro h;exact⟨x,h,by simp only[Function.comp,B9.eq,Kb]⟩
theorem Yg{b:Bx}(h:lM b=U ds):DA (.z d) b=CA d ds:=by
 cases b with
 |z a=>cases a<;>cases h;cases d<;>rfl
 |l a=>cases h;cases d<;>rfl
 |o a=>cases h;cases d<;>rfl
 |n a=>cases h
 |m a=>cases h
theorem Px:DA (.z d) (.z (.tup ds))=CA d ds:=by cases d<;>rfl
def Hm[DecidableEq α][B9 e n][By e](a:R fa ρ (zE e))(b:RL fb ρ e):R (b2 J1 fa fb) ρ (zE eB):=⟨!decide (a.v∈b.v),aV a.D b.D,λh=>by
 obtain⟨h1,h2⟩:=aB h;simp only[b2,a.ok h1,b.ok h2,bnd,J1,Yg b.lk,Cd]⟩
def U5[DecidableEq α][B9 e n][By e](a:R fa ρ (zE e))(b:R fb ρ (zE (eT e))):R (b2 inF fa fb) ρ (zE eB):=⟨decide (a.v∈b.v),aV a.D b.D,λh=>by
 obtain⟨h1,h2⟩:=aB h;simp only[b2,a.ok h1,b.ok h2,bnd,inF,Px,Cd]⟩
def NH[DecidableEq α][B9 e n][By e](a:R fa ρ (zE e))(b:R fb ρ (zE (eT e))):R (b2 J1 fa fb) ρ (zE eB):=⟨!decide (a.v∈b.v),aV a.D b.D,λh=>by
 obtain⟨h1,h2⟩:=aB h;simp only[b2,a.ok h1,b.ok h2,bnd,J1,Px,Cd]⟩
end
structure AR {γ:Type} (cA:γ->List Bx->Prop) (fs:Ev->Option (List Bx)) (ρ:Ev) where
 v:γ
 D:Option Prop
 bs:List Bx
 h:cA v bs
 ok:hold D->fs ρ=some bs
section
variable{ε σ:Type}{fd:Ev->Y Bx}{fs:Ev->Y (O Bx)}{e:α->Dt}{e':β->Dt}{e'':γ->Dt}{e3:δ->Dt}
def aN:Unit->O Bx->Prop:=λ_ bs=>bs=[]
def aZ(e:α->Dt)(t:γ->O Bx->Prop):α×γ->O Bx->Prop:=λx bs=>∃r,bs=.z (e x.1)::r/\t x.2 r
def aL(e:α->Dt)(t:γ->O Bx->Prop):O α×γ->O Bx->Prop:=λx bs=>∃b r,bs=b::r/\lM b=U (x.1.map e)/\t x.2 r
def cJ:AR aN aF ρ:=⟨eg,Z,[],rfl,λ_=>S⟩
def dF{t:γ->O Bx->Prop}(a:R fa ρ (zE e))(r:AR t fs ρ):AR (aZ e t) (ao fa fs) ρ:=⟨(a.v,r.v),aV a.D r.D,_,⟨_,rfl,r.h⟩,λh=>by
 obtain⟨h1,h2⟩:=aB h;simp only[ao,a.ok h1,r.ok h2,bnd]⟩
def sy{t:γ->O Bx->Prop}(a:RL fa ρ e)(r:AR t fs ρ):AR (aL e t) (ao fa fs) ρ:=⟨(a.v,r.v),aV a.D r.D,_,⟨_,_,rfl,a.lk,r.h⟩,λh=>by
 obtain⟨h1,h2⟩:=aB h;simp only[ao,a.ok h1,r.ok h2,bnd]⟩
def B0{b:γ->O Bx->Prop}{c:α->Bx}{T:γ->α}{d:γ->Y Prop}(S:∀v bs,b v bs->bs.length=n/\(hold (d v)->F (bs.map lend)=U (c (T v))))(a:AR b fs ρ):R (cF n F fs) ρ c:=⟨T a.v,aV a.D (d a.v),λh=>by
 obtain⟨h1,h2⟩:=aB h;obtain⟨f,e⟩:=S a.v a.bs a.h;simp only[cF,a.ok h1,bnd,zo f,e h2]⟩
theorem Mo{bs:O Bx}{c:α->Bx}(x:R g (bs.map U++aa (n-bs.length) Z) (λr=>As.rt (c r)))(h:hold x.D):dj n g bs=U (c x.v):=by
 unfold dj;rw[x.ok h];rfl
def G2(xs:O α)(P:α->Y Prop):Y Prop:=U (∀x∈xs,hold (P x))
theorem Kh{fs:Ev->Y (O Dt)}{b:Ev}{g:α->O Dt}{π:α->Bool}:∀xs:O α,(∀x∈xs,∃a,gt (e x) b=U a/\p a=U (π x)/\(π x=true->fs a=U (g x)))->zZ gt p fs b (xs.map e)=U ((xs.filter π).flatMap g)
 |[],_=>rfl
 |x::xs,h=>by
  obtain⟨a,h1,h2,d⟩:=h x (zg ..);have c:=Kh (g:=g) (π:=π) xs λy f=>h y (zh _ f);cases hp:π x with
  |true=>simp only[zr,zZ,h1,bnd,h2,hp,Z3,d hp,c,qv,du]
  |false=>simp only[zr,zZ,h1,bnd,h2,hp,c,qv,zw,ZN]
theorem Kl{g:α->β}:∀xs:O α,xs.flatMap (λx=>[e' (g x)])=(xs.map g).map e'
 |[]=>rfl
 |x::xs=>by rw[du,Kl xs];rfl
theorem Ce{b:Ev}{g:α->β}{π:α->Bool}(xs:O α)(h:∀x∈xs,∃a,gt (e x) b=U a/\p a=U (π x)/\(π x=true->fe a=U (.z (e' (g x))))):FJ gt p fe b (xs.map e)=U (((xs.filter π).map g).map e'):=by
 rw[<-Kl];exact Kh xs λx hx=>let ⟨a,h1,h2,h3⟩:=h x hx;⟨a,h1,h2,λhp=>by rw[h3 hp];rfl⟩
theorem Bz{b:Ev}{g:α->β}(xs:O α)(h:∀x∈xs,∃a,gt (e x) b=U a/\fe a=U (.z (e' (g x)))):FJ gt q9 fe b (xs.map e)=U ((xs.map g).map e'):=
 (Ce (π:=λ_=>true) xs λx hx=>let ⟨a,h1,h2⟩:=h x hx;⟨a,h1,rfl,λ_=>h2⟩).trans (by rw[List.filter_eq_self.mpr λ_ _=>S])
def yE(it:R fi ρ (iE e))(c:α->Ev)(d:∀x,gt (e x) (jr is ρ++aa n Z)=U (c x))(b:∀x,R fe (c x) (zE e')):R (cQ fi gt q9 fe is n) ρ (oE e'):=⟨it.v.map λx=>(b x).v,aV (aV it.D (U (it.v.length<=100000))) (G2 it.v λx=>(b x).D),λh=>by
 obtain⟨h,a⟩:=aB h;obtain⟨h1,h2⟩:=aB h;have a:∀x∈it.v,hold (b x).D:=a;simp only[cQ,it.ok h1,bnd,zk,zo (show it.v.length<=100000 from h2),Bz it.v λx hx=>⟨c x,d x,(b x).ok (a x hx)⟩]⟩
def Io(it:R fi ρ (iE e))(a:α->Ev)(d:∀x,gt (e x) (jr is ρ++aa n Z)=U (a x))(b:∀x,R fe (a x) (zE e'))(c:∀x,(b x).D=Z):R (cQ fi gt q9 fe is n) ρ (oE e'):=⟨it.v.map λx=>(b x).v,aV it.D (U (it.v.length<=100000)),λh=>by
 obtain⟨h1,h2⟩:=aB h;simp only[cQ,it.ok h1,bnd,zk,zo (show it.v.length<=100000 from h2),Bz it.v λx hx=>⟨a x,d x,(b x).ok (by rw[c x];trivial)⟩]⟩
def wW(it:R fi ρ (iE e))(c:α->Ev)(d:∀x,gt (e x) (jr is ρ++aa n Z)=U (c x))(t:∀x,R p (c x) tE)(b:∀x,R fe (c x) (zE e')):R (cQ fi gt p fe is n) ρ (oE e'):=⟨(it.v.filter λx=>(t x).v).map λx=>(b x).v,aV (aV it.D (U (it.v.length<=100000))) (G2 it.v λx=>aV (t x).D (Eh ((t x).v=true) (b x).D)),λh=>by
 obtain⟨h,a⟩:=aB h;obtain⟨h1,h2⟩:=aB h;have a:∀x∈it.v,hold (aV (t x).D (Eh ((t x).v=true) (b x).D)):=a;simp only[cQ,it.ok h1,bnd,zk,zo (show it.v.length<=100000 from h2),Ce it.v λx hx=>⟨c x,d x,(t x).ok (aB (a x hx)).1,λf=>(b x).ok (lg (aB (a x hx)).2 f)⟩]⟩
def wX(it:R fi ρ (iE e))(a:α->Ev)(d:∀x,gt (e x) (jr is ρ++aa n Z)=U (a x))(t:∀x,R p (a x) tE)(b:∀x,R fe (a x) (zE e'))(f:∀x,(t x).D=Z)(c:∀x,(b x).D=Z):R (cQ fi gt p fe is n) ρ (oE e'):=⟨(it.v.filter λx=>(t x).v).map λx=>(b x).v,aV it.D (U (it.v.length<=100000)),λh=>by
 obtain⟨h1,h2⟩:=aB h;simp only[cQ,it.ok h1,bnd,zk,zo (show it.v.length<=100000 from h2),Ce it.v λx hx=>⟨a x,d x,(t x).ok (by rw[f x];trivial),λ_=>(b x).ok (by rw[c x];trivial)⟩]⟩
def Cg(a:RL fa ρ e):R (zK fa) ρ (iE e):=⟨a.v,a.D,λh=>by
 have:Xl a.b=U (a.v.map e):=by
  have:=a.lk
  revert this
  generalize a.b=b;generalize a.v.map e=ds;intro this;cases b with
  |z d=>cases d<;>cases this;rfl
  |l d=>cases this;rfl
  |o d=>cases this;rfl
  |n d=>cases this
  |m d _=>cases this
 simp only[zK,a.ok h,bnd,this]⟩
def U6(a:R fa ρ (zE (eT e))):R (zK fa) ρ (iE e):=⟨a.v,a.D,λh=>by simp only[zK,a.ok h,bnd,Xl]⟩
def HC(a:R fa ρ (oE e)):R (Zt fa) ρ (iE e):=⟨a.v,a.D,λh=>by simp only[Zt,a.ok h,bnd,TY]⟩
def OK(a:R fa ρ (zE (eT e))):R (Zt fa) ρ (iE e):=⟨a.v,a.D,λh=>by simp only[Zt,a.ok h,bnd,TY]⟩
def rng(i:Int)(n:Nat):O Int:=(ax n).map λk:Nat=>i+(k:Int)
theorem Py(i:Int)(n:Nat):Hy i n=(rng i n).map eI:=by
 unfold Hy rng;rw[ja];rfl
def Rg(j:Int):Prop:=-4611686018427387904<=j/\j<4611686018427387904
def Ci(a:R fa ρ (zE eI)):R (J6 (ao fa aF)) ρ (iE eI):=⟨rng 0 a.v.toNat,aV a.D (U (Rg a.v)),λh=>by
 obtain⟨h,b⟩:=aB h;simp only[J6,ao,aF,a.ok h,bnd];show(if -(2 ^ 62)<=a.v/\a.v<2 ^ 62 then U (Hy 0 a.v.toNat)else Z)=_;exact(zo b).trans (by rw[Py])⟩
def My(n:Int)(m:Nat)(b:n.toNat=m)(a:Rg n):R (J6 (ao (cB (.int n)) aF)) ρ (iE eI):=⟨rng 0 m,Z,λ_=>by
 simp only[J6,ao,aF,bnd,cB];show(if -(2 ^ 62)<=n/\n<2 ^ 62 then U (Hy 0 n.toNat)else Z)=_;exact(zo a).trans (by rw[Py,b])⟩
end
section
variable{ε σ τ:Type}{fd:Ev->Y Bx}{fs:Ev->Y (O Bx)}{e:α->Dt}{e':β->Dt}{k:Ev->Y As}{cO:γ->As}
theorem mX{ρ':Ev}(h:g1 ρ=U (.nx ρ')):aD g1 k ρ=k ρ':=by
 unfold aD;rw[h];rfl
def bN(x:R (aD g (aD g1 k)) ρ cO):R (aD (aD g g1) k) ρ cO:=⟨x.v,x.D,λh=>by
 rw[<-x.ok h];unfold aD;cases g ρ with
 |none=>rfl
 |some o=>cases o<;>rfl⟩
def cX(x:R k ρ cO):R (aD cZ k) ρ cO:=⟨x.v,x.D,λh=>x.ok h⟩
def dM(x:γ)(h:cO x=.nx (kill is ρ)):R (gU is) ρ cO:=⟨x,Z,λ_=>by rw[h];rfl⟩
def cH{c:α->Bx}(inj:α->γ)(a:R f ρ c)(h:∀x,cO (inj x)=.rt (c x))(b:∀x,TX (c x)=U (.rt (c x))):R (aD (cR f) k) ρ cO:=⟨inj a.v,a.D,λhd=>by
 have:cR f ρ=U (.rt (c a.v)):=by unfold cR;rw[a.ok hd,bnd,b]
 unfold aD;rw[this,h];rfl⟩
def U7{c:α->Bx}(i:Nat)(inj:α->γ)(a:α)(hi:ρ[i]?=U (U (c a)))(h:∀x,cO (inj x)=.rt (c x))(b:∀x,TX (c x)=U (.rt (c x))):R (aD (Hw i) k) ρ cO:=⟨inj a,Z,λhd=>by
 have:Hw i ρ=U (.rt (c a)):=by unfold Hw;rw[hi];exact b a
 unfold aD;rw[this,h];rfl⟩
def cD{c:α->Bx}(i:Nat)(a:R f ρ c)(b:∀x,JL ρ i (c x)=U (ρ.set i (U (c x))))(K:∀x,R k (ρ.set i (U (c x))) cO):R (aD (B1 i f) k) ρ cO:=⟨(K a.v).v,aV a.D (K a.v).D,λhd=>by
 obtain⟨h1,h2⟩:=aB hd;rw[mX (ρ':=ρ.set i (U (c a.v))) (by unfold B1;rw[a.ok h1,bnd,b,bnd])];exact(K a.v).ok h2⟩
def OO(a:R f ρ (zE e))(b:α->Ev)(c:∀x,gt (e x) ρ=U (b x))(K:∀x,R k (b x) cO):R (aD (EL gt f) k) ρ cO:=⟨(K a.v).v,aV a.D (K a.v).D,λhd=>by
 obtain⟨h1,h2⟩:=aB hd;rw[mX (ρ':=b a.v) (by unfold EL;rw[a.ok h1,bnd];simp only[c,bnd])];exact(K a.v).ok h2⟩
def Km(i:Nat)(xs:O α)(hi:ρ[i]?=U (U (.o (xs.map e))))(a:R f ρ (zE e))(K:∀ys:O α,R k (ρ.set i (U (.o (ys.map e)))) cO):R (aD (MF i f) k) ρ cO:=⟨(K (xs++[a.v])).v,aV (aV a.D (U (Ik xs.length))) (K (xs++[a.v])).D,λhd=>by
 obtain⟨h1,b⟩:=aB hd;obtain⟨h1,h2⟩:=aB h1;have h2:xs.length<=1000000:=h2;rw[mX (ρ':=ρ.set i (U (.o ((xs++[a.v]).map e)))) (by
  unfold MF;rw[a.ok h1,bnd];simp only[Xg,hi,zk,ZT,zr,cf];rw[zo (Nat.lt_of_le_of_lt h2 ())])]
 exact(K _).ok b⟩
def lu(t:R p ρ tE)(a:R (aD g1 k) ρ cO)(b:R (aD g2 k) ρ cO):R (aD (rB p g1 g2) k) ρ cO:=⟨if t.v=true then a.v else b.v,aV t.D (aV (Eh (t.v=true) a.D) (Eh (t.v=false) b.D)),λhd=>by
 obtain⟨h1,h2⟩:=aB hd;obtain⟨h2,e⟩:=aB h2;have e1:∀c,t.v=c->aD (rB p g1 g2) k ρ=aD (if c=true then g1 else g2) k ρ:=λc f=>by
  unfold aD rB;rw[t.ok h1,bnd,f];cases c<;>rfl
 cases d:t.v with
 |true=>rw[e1 true d];simp only[Z3];exact a.ok (lg h2 d)
 |false=>rw[e1 false d];simp only[zw,ZN];exact b.ok (lg e d)⟩
def U8(E:σ->Ev)(t:R p ρ tE)(a:R g1 ρ (λs=>As.nx (E s)))(b:R g2 ρ (λs=>As.nx (E s)))(K:∀s,R k (E s) cO):R (aD (rB p g1 g2) k) ρ cO:=⟨(K (if t.v=true then a.v else b.v)).v,aV (aV t.D (aV (Eh (t.v=true) a.D) (Eh (t.v=false) b.D))) (K (if t.v=true then a.v else b.v)).D,λhd=>by
 obtain⟨h,d⟩:=aB hd;obtain⟨h1,h2⟩:=aB h;obtain⟨h2,e⟩:=aB h2;rw[mX (ρ':=E (if t.v=true then a.v else b.v)) (by
  unfold rB;rw[t.ok h1,bnd];cases c:t.v with
  |true=>simp only[Z3];exact a.ok (lg h2 c)
  |false=>simp only[zw,ZN];exact b.ok (lg e c))]
 exact(K _).ok d⟩
def z6(step:σ->α->σ)(P:σ->α->Y Prop):O α->σ->Prop
 |[],_=>True
 |x::xs,s=>hold (P s x)/\z6 step P xs (step s x)
theorem Cj{gb:Ev->Y As}(E:σ->Ev)(a:σ->α->Ev)(b:∀s x,gt (e x) (E s)=U (a s x))(body:∀s x,R gb (a s x) (λs=>As.nx (E s))):∀(xs:O α) (s:σ),z6 (λs x=>(body s x).v) (λs x=>(body s x).D) xs s->rK gt gb (xs.map e) (E s)=U (.nx (E (xs.foldl (λs x=>(body s x).v) s)))
 |[],s,_=>rfl
 |x::xs,s,h=>by
  simp only[zr,rK,b,bnd,(body s x).ok h.1,JY];exact Cj E a b body xs _ h.2
def Gs(E:σ->Ev)(a:σ)(c:ρ=E a)(it:R fi ρ (iE e))(b:σ->α->Ev)(f:∀s x,gt (e x) (E s)=U (b s x))(body:∀s x,R gb (b s x) (λs=>As.nx (E s)))(K:∀s,R k (E s) cO):R (aD (oM fi gt gb) k) ρ cO:=⟨(K (it.v.foldl (λs x=>(body s x).v) a)).v,aV (aV it.D (U (z6 (λs x=>(body s x).v) (λs x=>(body s x).D) it.v a))) (K (it.v.foldl (λs x=>(body s x).v) a)).D,λhd=>by
 obtain⟨h,d⟩:=aB hd;obtain⟨h1,h2⟩:=aB h;rw[mX (ρ':=E (it.v.foldl (λs x=>(body s x).v) a)) (by
  unfold oM;rw[it.ok h1,bnd];subst c;exact Cj E b f body it.v a h2)]
 exact(K _).ok d⟩
def M'(E:σ->Ev)(a:σ)(c:ρ=E a)(it:R fi ρ (iE e))(b:σ->α->Ev)(g:∀s x,gt (e x) (E s)=U (b s x))(body:∀s x,R gb (b s x) (λs=>As.nx (E s)))(d:∀s x,(body s x).D=Z)(K:∀s,R k (E s) cO):R (aD (oM fi gt gb) k) ρ cO:=⟨(K (it.v.foldl (λs x=>(body s x).v) a)).v,aV it.D (K (it.v.foldl (λs x=>(body s x).v) a)).D,λhd=>by
 obtain⟨h1,f⟩:=aB hd;have h2:∀(xs:O α) (s:σ),z6 (λs x=>(body s x).v) (λs x=>(body s x).D) xs s:=λxs=>by
  induction xs with
  |nil=>intro s;trivial
  |cons x xs h=>intro s;exact⟨by show hold (body s x).D;rw[d s x];trivial,h _⟩
 rw[mX (ρ':=E (it.v.foldl (λs x=>(body s x).v) a)) (by
  unfold oM;rw[it.ok h1,bnd];subst c;exact Cj E b g body it.v a (h2 _ _))]
 exact(K _).ok f⟩
inductive pq (σ τ:Type) where
 |nx (s:σ)|rt (r:τ)|bk (s:σ)|ct (s:σ)
def cC(E:σ->Ev)(c:τ->Bx):pq σ τ->As
 |.nx s=>.nx (E s)
 |.rt r=>.rt (c r)
 |.bk s=>.bk (E s)
 |.ct s=>.ct (E s)
def jP(step:σ->α->pq σ τ):O α->σ->pq σ τ
 |[],s=>.nx s
 |x::xs,s=>match step s x with
  |.nx s'=>jP step xs s'
  |.ct s'=>jP step xs s'
  |.bk s'=>.nx s'
  |.rt r=>.rt r
def qU(step:σ->α->pq σ τ)(P:σ->α->Y Prop):O α->σ->Prop
 |[],_=>True
 |x::xs,s=>hold (P s x)/\match step s x with
  |.nx s'=>qU step P xs s'
  |.ct s'=>qU step P xs s'
  |.bk _=>True
  |.rt _=>True
theorem Am{c:τ->Bx}(E:σ->Ev)(a:σ->α->Ev)(b:∀s x,gt (e x) (E s)=U (a s x))(body:∀s x,R gb (a s x) (cC E c)):∀(xs:O α) (s:σ),qU (λs x=>(body s x).v) (λs x=>(body s x).D) xs s->rK gt gb (xs.map e) (E s)=U (cC E c (jP (λs x=>(body s x).v) xs s))
 |[],s,_=>rfl
 |x::xs,s,h=>by
  obtain⟨h1,h2⟩:=h;dsimp only at h2;simp only[zr,rK,b,bnd,(body s x).ok h1,jP]
  revert h2
  cases(body s x).v with
  |nx s'=>intro h2;exact Am E a b body xs s' h2
  |ct s'=>intro h2;exact Am E a b body xs s' h2
  |bk s'=>intro _;rfl
  |rt r=>intro _;rfl
theorem wY(step:σ->α->pq σ τ):∀(xs:O α) (s:σ),(∃s',jP step xs s=.nx s')\/∃r,jP step xs s=.rt r
 |[],s=>.inl ⟨s,rfl⟩
 |x::xs,s=>by
  unfold jP;cases step s x with
  |nx s'=>exact wY step xs s'
  |ct s'=>exact wY step xs s'
  |bk s'=>exact .inl ⟨s',rfl⟩
  |rt r=>exact .inr ⟨r,rfl⟩
def BQ(r:pq σ τ)(inj:τ->γ)(K:σ->γ):γ:=match r with
 |.rt r=>inj r
 |.nx s=>K s
 |.bk s=>K s
 |.ct s=>K s
def wZ(r:pq σ τ)(K:σ->Prop):Prop:=match r with
 |.rt _=>True
 |.nx s=>K s
 |.bk s=>K s
 |.ct s=>K s
def Pz(r:pq σ τ)(K:σ->Y Prop):Y Prop:=U (wZ r λs=>hold (K s))
def U9{c:τ->Bx}(E:σ->Ev)(a:σ)(f:ρ=E a)(it:R fi ρ (iE e))(b:σ->α->Ev)(i:∀s x,gt (e x) (E s)=U (b s x))(body:∀s x,R gb (b s x) (cC E c))(inj:τ->γ)(g:∀r,cO (inj r)=.rt (c r))(K:∀s,R k (E s) cO):R (aD (oM fi gt gb) k) ρ cO:=⟨BQ (jP (λs x=>(body s x).v) it.v a) inj λs=>(K s).v,aV (aV it.D (U (qU (λs x=>(body s x).v) (λs x=>(body s x).D) it.v a))) (Pz (jP (λs x=>(body s x).v) it.v a) λs=>(K s).D),λhd=>by
 obtain⟨h,d⟩:=aB hd;obtain⟨h1,h2⟩:=aB h;have e1:oM fi gt gb ρ=U (cC E c (jP (λs x=>(body s x).v) it.v a)):=by
  unfold oM;rw[it.ok h1,bnd];subst f;exact Am E b i body it.v a h2
 rcases wY (λs x=>(body s x).v) it.v a with⟨s',es⟩|⟨r,es⟩
 ·rw[es]at e1 d ⊢;rw[mX e1];exact(K s').ok d
 ·rw[es]at e1 ⊢;show aD (oM fi gt gb) k ρ=U (cO (inj r));unfold aD;rw[e1,g];rfl⟩
theorem Va(h:ρ[i]?=U (U (.z (.tup ds)))):DY i gt gb ρ=rK gt gb ds ρ:=by unfold DY;rw[h];rfl
def PJ{c:τ->Bx}(i:Nat){ρ':Ev}(xs:O α)(h:DY i gt gb ρ=rK gt gb (xs.map e) ρ')(E:σ->Ev)(a:σ)(f:ρ'=E a)(b:σ->α->Ev)(j:∀s x,gt (e x) (E s)=U (b s x))(body:∀s x,R gb (b s x) (cC E c))(inj:τ->γ)(g:∀r,cO (inj r)=.rt (c r))(K:∀s,R k (E s) cO):R (aD (DY i gt gb) k) ρ cO:=⟨BQ (jP (λs x=>(body s x).v) xs a) inj λs=>(K s).v,aV (U (qU (λs x=>(body s x).v) (λs x=>(body s x).D) xs a)) (Pz (jP (λs x=>(body s x).v) xs a) λs=>(K s).D),λhd=>by
 obtain⟨h2,d⟩:=aB hd;have e1:DY i gt gb ρ=U (cC E c (jP (λs x=>(body s x).v) xs a)):=by
  rw[h,f];exact Am E b j body xs a h2
 rcases wY (λs x=>(body s x).v) xs a with⟨s',es⟩|⟨r,es⟩
 ·rw[es]at e1 d ⊢;rw[mX e1];exact(K s').ok d
 ·rw[es]at e1 ⊢;show aD (DY i gt gb) k ρ=U (cO (inj r));unfold aD;rw[e1,g];rfl⟩
class Ky {κ:Type} (c:κ->AY):Prop where
 inj:∀a b,c a=c b->a=b
abbrev kS:AJ->AY:=Sum.inr
abbrev kI:Int->AY:=Sum.inl
instance:Ky kS:=⟨λ_ _ h=>by cases h;rfl⟩
instance:Ky kI:=⟨λ_ _ h=>by cases h;rfl⟩
abbrev mE(e:α->Dt):O (AJ×α)->Bx:=λm=>.m (m.map λq=>(kS q.1,e q.2)) Z
abbrev nE(e:α->Dt):O (AJ×α)->Bx:=λm=>.n (m.map λq=>(kS q.1,e q.2))
section
variable [DecidableEq κ] {c:κ->AY}
def look[Inhabited α](m:O (κ×α))(x:κ):α:=((m.find? λq=>decide (q.1=x)).map (·.2)).getD default
def has(m:O (κ×α))(x:κ):Bool:=m.any λq=>decide (q.1=x)
def put(m:O (κ×α))(x:κ)(a:α):O (κ×α):=if has m x=true then m.map (λq=>if q.1=x then(q.1,a)else q)else m++[(x,a)]
theorem ZC[Ky c](a b:κ):decide (c a=c b)=decide (a=b):=by
 by_cases h:a=b
 ·rw[h];simp
 ·rw[z4 h,z4 λz=>h (Ky.inj (c:=c) _ _ z)]
theorem Vb[Ky c](m:O (κ×α))(x:κ):Bw (m.map λq=>(c q.1,e q.2)) (c x)=((m.find? λq=>decide (q.1=x)).map (·.2)).map e:=by
 unfold Bw;rw[List.find?_map];simp only[Option.map_map,Function.comp_def,ZC]
theorem Vc[Ky c][Inhabited α]{m:O (κ×α)}{x:κ}(h:has m x=true):Bw (m.map λq=>(c q.1,e q.2)) (c x)=U (e (look m x)):=by
 rw[Vb];unfold look;unfold has at h;rw[ay]at h;obtain⟨q,hq,hx⟩:=h;cases a:m.find? λq=>decide (q.1=x)with
 |none=>exact absurd hx (by simpa using bz.mp a q hq)
 |some q=>rfl
theorem Yh[Ky c](m:O (κ×α))(x:κ)(a:α):Ka (m.map λq=>(c q.1,e q.2)) (c x) (e a)=(put m x a).map λq=>(c q.1,e q.2):=by
 unfold Ka put has;rw[List.any_map];simp only[Function.comp_def,ZC];by_cases h:(m.any λq=>decide (q.1=x))=true
 ·rw[zo h,zo h];rw[ja,ja];refine qA λq _=>?_;simp only[Function.comp];by_cases hq:q.1=x
  ·simp[hq]
  ·have h':¬ c q.1=c x:=λz=>hq (Ky.inj (c:=c) _ _ z);simp[hq,h']
 ·rw[zC h,zC h];simp
end
def LV[Inhabited α](a:R fa ρ (nE e))(b:R fb ρ (zE eS)):R (b2 Ge fa fb) ρ (zE e):=⟨look a.v b.v,aV (aV a.D b.D) (U (has a.v b.v=true)),λh=>by
 obtain⟨h,d⟩:=aB h;obtain⟨h1,h2⟩:=aB h;simp only[b2,a.ok h1,b.ok h2,bnd,Ge,DL,Vc (c:=kS) (show has a.v b.v=true from d)]⟩
end
section
variable{fs:Ev->Y AZ}{e:α->Dt}
theorem ZD(n:Nat):∃m,m=n:=⟨n,rfl⟩
noncomputable def kN(n:Nat):Nat:=Classical.choose (ZD n)
theorem ZF(n:Nat):kN n=n:=Classical.choose_spec (ZD n)
noncomputable def K'(n:Int)(m:Nat)(b:n.toNat=m)(a:Rg n):R (J6 (ao (cB (.int n)) aF)) ρ (iE eI):=⟨rng 0 (kN m),Z,λh=>by rw[ZF];exact(My n m b a).ok h⟩
end
end P1
namespace P1
open L2 S1 S6
class nU {α:Type} (e:α->Dt) where
 k:α->AY
 ok:∀a,FF (e a)=some (k a)
 inj:∀a b,k a=k b->a=b
 same:∀a b,Gg (k a) (k b)=true
instance:nU eI:=⟨λi=>.inl i,λ_=>rfl,λa b h=>by cases h;rfl,λ_ _=>rfl⟩
instance:nU eS:=⟨λi=>.inr i,λ_=>rfl,λa b h=>by cases h;rfl,λ_ _=>rfl⟩
class uR {α:Type} (e:α->Dt) where
 k:α->List AY
 ok:∀a,nQ (e a)=some (k a)
 inj:∀a b,k a=k b->a=b
 shp:∀a b,wU (k a) (k b)=true
 ne:∀a,(k a).isEmpty=false
class EQ {α:Type} (e:α->Dt) [uR e]:Prop where
 tx:∀a,XR (uR.k e a)=true
section
variable{e:α->Dt}{e':β->Dt}{e'':γ->Dt}{e3:δ->Dt}
instance [nU e] [nU e']:uR (mV e e'):=⟨λq=>[nU.k e q.1,nU.k e' q.2],λq=>by simp only[nQ,Gk,nU.ok,bnd],λa b h=>by
 simp only[Qb,and_true]at h;exact bv (nU.inj _ _ h.1) (nU.inj _ _ h.2),λa b=>by simp[wU,nU.same],λ_=>rfl⟩
instance [nU e] [nU e'] [nU e'']:uR (D4 e e' e''):=⟨λq=>[nU.k e q.1,nU.k e' q.2.1,nU.k e'' q.2.2],λq=>by simp only[nQ,Gk,nU.ok,bnd],λa b h=>by
 simp only[Qb,and_true]at h;exact bv (nU.inj _ _ h.1) (bv (nU.inj _ _ h.2.1) (nU.inj _ _ h.2.2)),λa b=>by simp[wU,nU.same],λ_=>rfl⟩
instance [nU e] [nU e'] [nU e''] [nU e3]:uR (Db e e' e'' e3):=⟨λq=>[nU.k e q.1,nU.k e' q.2.1,nU.k e'' q.2.2.1,nU.k e3 q.2.2.2],λq=>by simp only[nQ,Gk,nU.ok,bnd],λa b h=>by
 simp only[Qb,and_true]at h;exact bv (nU.inj _ _ h.1) (bv (nU.inj _ _ h.2.1) (bv (nU.inj _ _ h.2.2.1) (nU.inj _ _ h.2.2.2))),λa b=>by simp[wU,nU.same],λ_=>rfl⟩
instance [nU e]:EQ (mV e eS):=⟨λa=>by simp[uR.k,XR,nU.k]⟩
instance [nU e] [nU e']:EQ (D4 e eS e'):=⟨λa=>by simp[uR.k,XR,nU.k]⟩
instance [nU e] [nU e'] [nU e'']:EQ (Db e eS e' e''):=⟨λa=>by simp[uR.k,XR,nU.k]⟩
variable{fs:Ev->Y (O (O AY))}
def PK(e:α->Dt)[uR e](a b:α):Bool:=o9 (uR.k e a) (uR.k e b)
def Ei(e:α->Dt)[uR e](a b:α):Bool:=cV (uR.k e a) (uR.k e b)
theorem Vd[uR e]{a b:α}(h:PK e a b=true)(h':PK e b a=true):a=b:=uR.inj _ _ (Gh h h')
end
end P1
namespace P1
open L2
section
variable{fd fk:Ev->Y Bx}{fs:Ev->Y (O Bx)}{e:α->Dt}{e':β->Dt}{k:Ev->Y As}{cO:γ->As}
def HL(a:R fa ρ (zE eS))(b:R fb ρ (zE eS)):R (bx su (ao fa (ao fb aF))) ρ (zE eS):=⟨if jA b.v a.v=true then b.v else a.v,aV a.D b.D,λh=>by
 obtain⟨h1,h2⟩:=aB h;simp only[bx,ao,aF,a.ok h1,b.ok h2,bnd,su];rfl⟩
def OI(a:R fa ρ (zE eS))(b:R fb ρ (zE eS)):R (bx Gm (ao fa (ao fb aF))) ρ (zE eS):=⟨if jA a.v b.v=true then b.v else a.v,aV a.D b.D,λh=>by
 obtain⟨h1,h2⟩:=aB h;simp only[bx,ao,aF,a.ok h1,b.ok h2,bnd,Gm];rfl⟩
end
section
variable{e:α->Dt}
end
end P1
namespace P1
open L2 S1 S6
section
variable{e:α->Dt}
theorem map_some(e:α->Dt)(xs:O α):(xs.map U).map (eO e)=xs.map e:=by rw[ja];rfl
end
end P1
namespace P1
open L2
section
variable{k:Ev->Y As}{cO:α->As}
end
section
variable{e:α->Dt}
end
section
variable{σ τ:Type}{k:Ev->Y As}{cO:γ->As}
end
section
variable{e:α->Dt}
end
section
variable{σ τ:Type}
theorem PL{step:σ->α->σ}{P:σ->α->Y Prop}(I:Nat->σ->Prop):∀(xs:O α) (m:Nat) (a:σ),I m a->(∀k x s,xs[k]?=U x->I (m+k) s->hold (P s x)/\I (m+k+1) (step s x))->z6 step P xs a/\I (m+xs.length) (xs.foldl step a)
 |[],m,a,h0,_=>⟨trivial,h0⟩
 |x::xs,m,a,h0,hs=>by
  obtain⟨h1,h2⟩:=hs 0 x a S h0;have:=PL I xs (m+1) (step a x) h2 λk y s e h=>by
   have:=hs (k+1) y s (by simpa using e) (by rw[show m+(k+1)=m+1+k by omega];exact h);rw[show m+(k+1)+1=m+1+k+1 by omega]at this;exact this
  refine⟨⟨h1,this.1⟩,?_⟩;rw[js,show m+(xs.length+1)=m+1+xs.length by omega];exact this.2
theorem PN{i:Int}{x:Int}(h:(rng i n)[k]?=U x):x=i+k/\k<n:=by
 unfold rng at h;rw[ZH]at h;cases hk:(ax n)[k]? with
 |none=>rw[hk]at h;cases h
 |some j=>
  rw[hk]at h;have a:k<n:=by simpa using(ae.mp hk).1
  have:j=k:=by
   rw[cN a]at hk;cases hk;rfl
  subst this;cases h;exact⟨rfl,a⟩
theorem jC(i:Int)(n:Nat):(rng i n).length=n:=by unfold rng;simp
theorem Yi{i:Int}{x:Int}(h:x∈rng i n):i<=x/\x<i+n:=by
 unfold rng at h;obtain⟨k,hk,rfl⟩:=ag.mp h;have:=aS.mp hk;omega
theorem mY{step:σ->Int->σ}{P:σ->Int->Y Prop}(I:Nat->σ->Prop)(n:Nat)(a:σ)(h0:I 0 a)(hs:∀(k:Nat) s,k<n->I k s->hold (P s k)/\I (k+1) (step s k)):z6 step P (rng 0 n) a/\I n ((rng 0 n).foldl step a):=by
 have:=PL (P:=P) I (rng 0 n) 0 a h0 λk x s e h=>by
  obtain⟨rfl,hk⟩:=PN e;rw[bn]at h ⊢;rw[cq];exact hs k s hk h
 rw[jC,bn]at this;exact this
theorem Ck{step:Unit->α->pq Unit Bool}{P:Unit->α->Y Prop}:∀xs:O α,(∀x∈xs,hold (P eg x)/\(step eg x=.nx eg\/step eg x=.ct eg))->jP step xs eg=.nx eg/\qU step P xs eg
 |[],_=>⟨rfl,trivial⟩
 |x::xs,h=>by
  obtain⟨h1,h2⟩:=h x (zg ..);have a:=Ck (P:=P) xs λy b=>h y (zh _ b);rcases h2 with h2|h2
  ·exact⟨by unfold jP;rw[h2];exact a.1,h1,by rw[h2];exact a.2⟩
  ·exact⟨by unfold jP;rw[h2];exact a.1,h1,by rw[h2];exact a.2⟩
theorem qj[Inhabited α]{xs:O α}{i:Int}(h:In xs.length i):Ap xs i∈xs:=by
 obtain⟨x,hx⟩:=Ij h;unfold Ap;rw[hx];unfold DN at hx;obtain⟨j,_,hx⟩:=AT hx;exact bg hx
theorem jW[Inhabited α]{xs:O α}{x:α}(h:xs[k]?=U x):Ap xs (k:Int)=x:=by
 have a:k<xs.length:=(ae.mp h).1;unfold Ap DN D1;rw[zo (),zo (),bnd,Kn,h];rfl
theorem yF[Inhabited α](xs:O α)(k:Nat)(h:k<xs.length):Ap xs (k:Int)=xs[k]:=jW (JI h)
theorem B4{i:Int}(h0:0<=i)(h1:i<n):In n i:=⟨by omega,h1⟩
theorem sE{x m:Int}(a:0<m)(h:m<=n):In n (x%m):=B4 (Int.emod_nonneg _ ()) (Int.lt_of_lt_of_le (di _ a) h)
theorem mZ(x:Int){m:Int}(a:0<m):0<=x%m/\x%m<m:=⟨Int.emod_nonneg _ (),di _ a⟩
theorem Cm{j:Int}(h0:0<=j)(h1:j<=1000000):Rg j:=⟨by omega,by omega⟩
theorem ZG{a b:Int}(h0:0<=a)(h1:a<18446744073709551616):Dx a b:=.inl ⟨by omega,h1⟩
theorem Yj{xs:O α}{x:α}(h:x∈BI xs lo hi):x∈xs:=List.mem_of_mem_drop (List.mem_of_mem_take h)
theorem Yk(xs:O α)(lo hi:Y Int):(BI xs lo hi).length<=xs.length:=by
 unfold BI;rw[kK,jn];omega
theorem Ve{xs:O α}(h:k<=xs.length):BI xs (U (k:Int)) Z=xs.drop k:=by
 unfold BI;rw[HT.WM,HT.S9,Nat.min_eq_left h,List.take_of_length_le (by simp)]
theorem nW(x y:AJ):(x++y).length=x.length+y.length:=by
 show(x.cps++y.cps).size=_;rw[kg];rfl
theorem vM(x:AJ)(i:Int):(ch x i).length=1:=rfl
theorem slice_le(x:AJ)(l u:Y Int):(Txt.slice x l u).length<=x.length:=PyProof.Txt.length_slice_le x l u
end
section
variable [Inhabited α] {e:α->Dt}{k:Ev->Y As}{cO:γ->As}
end
theorem Gu:∀xs:O Int,Gn (xs.map eI)=U xs
 |[]=>rfl
 |x::xs=>by simp only[zr,eI,Gn,Gu xs,bnd]
section
variable{e:α->Dt}{k:Ev->Y As}{cO:γ->As}
end
section
variable{e:α->Dt}{k:Ev->Y As}{cO:γ->As}
def Yl[Inhabited γ]:R (aD EV k) ρ cO:=⟨default,U False,λh=>absurd h id⟩
end
section
variable{e:α->Dt}
end
section
variable{e:α->Dt}{e':β->Dt}
def D9(ps:O (AJ×α)):O (AJ×α):=ps.foldl (λa p=>put a p.1 p.2) []
theorem Rr(ps:O (AJ×α)):Uw (ps.map λp=>(p.1,e p.2))=(D9 ps).map λp=>(kS p.1,e p.2):=by
 unfold Uw D9;have:∀(ps a:O (AJ×α)),(ps.map λp=>(p.1,e p.2)).foldl (λa p=>Ka a (kS p.1) p.2) (a.map λp=>(kS p.1,e p.2))=(ps.foldl (λa p=>put a p.1 p.2) a).map λp=>(kS p.1,e p.2):=by
  intro ps
  induction ps with
  |nil=>intro a;rfl
  |cons p ps b=>
   intro a;simp only[zr,JY];rw[Yh (c:=kS),b]
 exact this ps []
def Vf(a:RL fa ρ eI):R (bx zM (ao fa aF)) ρ (zE eI):=⟨wV a.v,aV a.D (U (0<a.v.length)),λh=>by
 obtain⟨h1,h2⟩:=aB h;have h2:0<a.v.length:=h2;simp only[bx,ao,aF,a.ok h1,bnd,zM,a.lk,Gu,zo h2]⟩
end
def RP(f:Ev->Y β)(ρ:Ev)(c:α->β)(v:α)(D:Y Prop):Prop:=hold D->f ρ=U (c v)
theorem R.tp{f:Ev->Y β}{c:α->β}{a:α}{b:Y Prop}(x:R f ρ c)(d:x.v=a:=by kernel_rfl)(e:x.D=b:=by kernel_rfl):RP f ρ c a b:=λh=>by
 subst d e;exact x.ok h
def RP.r{f:Ev->Y β}{c:α->β}{v:α}{D:Y Prop}(h:RP f ρ c v D):R f ρ c:=⟨v,D,h⟩
theorem F3{p:O α->Prop}(h:∀a,p [a]):∀us:O α,us.length=1->p us
 |[a],_=>h a
theorem FB{p:O α->Prop}(h:∀a b,p [a,b]):∀us:O α,us.length=2->p us
 |[a,b],_=>h a b
theorem L6{p:O α->Prop}(h:∀a b c,p [a,b,c]):∀us:O α,us.length=3->p us
 |[a,b,c],_=>h a b c
theorem OQ{p:O α->Prop}(h:∀a b c d,p [a,b,c,d]):∀us:O α,us.length=4->p us
 |[a,b,c,d],_=>h a b c d
theorem KS{p:O α->Prop}(h:∀a b c d e,p [a,b,c,d,e]):∀us:O α,us.length=5->p us
 |[a,b,c,d,e],_=>h a b c d e
end P1
namespace P1
open L2 S1
theorem M6{T:String}{vs:O A0}{ys:AZ}(g:s.heap.get? l=U o)(k:o.cls=.type T)(j:T ="list" ∨ T ="tuple")(hd:o.data=.seq vs.toArray n)(c:StrsAre vs ys)(f:vs.length<64)(h:∀(l:A1) (h':A6) (tk:Nat) (out:Array A0) (zs:AZ) (n:Nat),s.heap.objs.size<=l->(∀b o,s.heap.get? b=U o->h'.get? b=U o)->h'.get? l=U (seqObj "list" out n)->StrsAre out.toList zs->zs.Perm ys->sortedS zs=true->Q (.ref l) { s with heap:=h',toks:=tk }):
  A7 (A8 prog w) A (call (.builtin "sorted") [.ref l]) Q E s:=by
 refine Calls.call_function_entry kind_sorted plain_sorted entry_sorted (args_sorted1 _) ?_;unfold Builtin.«sorted»;refine zb (m:=checkCount "sorted" 1 1 _) (ze (zb (BK g k j hd (zS (j3 f) ()) λh1 tk p ext=>?_)));refine zb (kQ ?_);have a:(h1.push (seqObj "list" vs.toArray 0)).get? h1.objs.size=U (seqObj "list" vs.toArray 0):=zt _ rfl;refine zb (Zp (JO slot_list_sort ⟨_,a,rfl⟩ entry_list_sort (list_sort_treeK strKind_oneLt a c.keysOf (λu t AS e=>keyKind_strs (by rw[<-e];exact c)) f λi a1 a2=>⟨_,rfl,ze ⟨_,rfl,?_⟩⟩) (args_list_sort _)));obtain⟨zs,z1,z2,z3⟩:=sorted_out_str c a1 a2;obtain⟨n,q⟩:=sortedHeap_at (out:=(AM i).map (·.2)) a;exact h h1.objs.size _ tk _ zs n p (λb o e=>by
  have e1:=ext b o e;have d:=zv e1;rw[sortedHeap_old (zD d) (by rw[ZZ];exact Jn d)];exact zd _ e1) q z1 z2 z3
def yG:O Bx->Y Bx
 |[b]=>(vK b).bind λds=>(nO ds).bind λys=>if ys.length<64 then U (.o ((eX ys).map Dt.str))else Z
 |_=>Z
theorem Ko:jh X (.builtin "sorted") yG:=by
 intro AN s σ H xs us Q I w h;obtain⟨bs,c,F,e,q⟩:=h;unfold yG at e;split at e
 ·rename_i b;obtain⟨ds,D,e⟩:=AT e;obtain⟨ys,x,e⟩:=AT e;split at e
  ·rename_i C;cases e;obtain⟨v,rfl,L⟩:=BM F;obtain⟨p,vs,rfl,sq,z⟩:=Pg L D;obtain⟨u,rfl,A⟩:=BA w;cases A;obtain⟨rfl,k⟩:=jU z x;have m:∃(AQ:O A0) (o:AE) (T:String) (n:Nat),AX (ys.map V.str) AQ/\s.heap.get? p=U o/\o.cls=.type T/\(T ="list" ∨ T ="tuple")/\o.data=.seq AQ.toArray n:=by
    rcases sq with sq|sq
    ·obtain⟨AQ,f,pl,E⟩:=I.list sq;obtain⟨o,g,c,n,d⟩:=pl.isList;exact⟨AQ,o,_,n,f,g,c,.inl rfl,d⟩
    ·obtain⟨AQ,f,⟨o,g,c,n,d⟩,E⟩:=I.tuple sq;exact⟨AQ,o,_,n,f,g,c,.inr rfl,d⟩
   obtain⟨AQ,o,T,n,f,g,K,B,hd⟩:=m;have t:=f.length;rw[zk]at t;refine M6 g K B hd (iY f) () λl h' tk J zs n j ext M z1 z2 z3=>?_;have G:=J7 z2 z3;subst G;have i:=I.hok.fresh j;refine⟨.ref l,_,I.laid (t':=tk) (a:=l) (o:=.lst ((eX ys).map V.str)) ext j ?_,rfl,q _ _ (bD i) (λa ea=>by cases ea;exact i) ⟨l,_,rfl,aW,Bv λy h=>k y ((iZ ys).mem_iff.mp h)⟩⟩;refine⟨by rw[zk,(iZ _).length_eq];exact zS (j3 C) (),J.toList,n,yx z1,?_⟩;rw[M]
  ·cases e
 ·cases e
def Kq(a:R fa ρ (zE (eT eS))):R (bx yG (ao fa aF)) ρ (oE eS):=⟨eX a.v,aV a.D (U (a.v.length<64)),λh=>by
 obtain⟨h,b⟩:=aB h;simp only[bx,ao,aF,a.ok h,bnd,yG,vK,eT,BN];exact zo b⟩
end P1
namespace P1
open L2
section
variable{fs:Ev->Y (O Bx)}
end
section
variable{AS:O AB}
end
section
variable{ks:O V}
end
section
variable{M0 M1 M2 er:Expr}{f0 f2:Ev->Y Bx}{d0 d2:Dt}{z0 z1 z2 z3:Pos}
end
section
variable{st:O AB}{fr:Ev->Y Bx}{i':Nat}{W:O Nat}{z:Pos}
end
section
variable{a b c:Ev->Y As}
end
end P1
namespace P1
open L2 S6
section
variable{kx vx t1 i1 t2 i2:Expr}{f1 f2:O Expr}{xs:AZ}{g1 g2:Dt->Ev->Y Ev}{p1 p2:Ev->Y Bool}{fk:Ev->Y Bx}{fi1 fi2:Ev->Y (O Dt)}{fs:Ev->Y (O Dt)}{N:Nat}
def cls2(fi:Ev->Y (O Dt))(gt:Dt->Ev->Y Ev)(p:Ev->Y Bool)(fs:Ev->Y (O Dt))(is:O Nat)(n:Nat):Ev->Y (O Dt):=λρ=>(fi ρ).bind λds=>zZ gt p fs (jr is ρ++aa n Z) ds
end
end P1
namespace P1
open L2
section
variable{e:α->Dt}{e':β->Dt}{fs:Ev->Y (O Dt)}
end
def hx(h:A6)(a:A1):HO:=.ext λh'=>h'.get? a=h.get? a
section
variable{H2:Hp}{as:O A1}
end
section
variable{D:A1}{gs:O (Int×A1×O Dt)}{k:Int}{x:Dt}{u:V}
end
section
variable{e1 e2 ev:Expr}{f2:Ev->Y Bx}{y w:AJ}{pw py py2 py3 px p1 p3 p4 pl a1 a2 c1 c2:Pos}
end
end P1
namespace P1
open L2 S6
section
variable{kx vx t1 i1 t2 i2:Expr}{f1 f2:O Expr}{xs:AZ}{g1 g2:Dt->Ev->Y Ev}{p1 p2:Ev->Y Bool}{fk:Ev->Y Bx}{fi1 fi2:Ev->Y (O Dt)}
end
end P1
namespace P1
open L2
section
variable{e:α->Dt}{e0:β->Dt}{fd f2:Ev->Y Bx}{kk:Ev->Y As}{cO:γ->As}
end
section
variable{e:α->Dt}{fs:Ev->Y (O Dt)}
end
section
variable{a:Expr}
end
theorem cG{bs:O Bx}{c:α->Bx}{v:α}{D:Y Prop}(x:RP g (bs.map U++aa (n-bs.length) Z) (λr=>As.rt (c r)) v D)(h:hold D):dj n g bs=U (c v):=Mo x.r h
section
variable{e:α->Dt}
end
open PySem.Builtin PySem.Builtin.Str
section
variable{o:Expr}{fx:Ev->Y Bx}
def FS:Bx->Y AJ
 |.z (.str x)=>U x
 |_=>Z
end
section
variable{g:Ev->Y AJ}
end
def PX(g f j:Nat)(f1:Ev->Y Bx)(p:Ev->Y Bool)(fe:Ev->Y Bx)(e:Ev):O Dt->AZ->O Dt->Y (O Dt)
 |[],_,out=>U out
 |d::ds,seen,out=>match d with
  |.tup [a,b]=>(f1 ((e.set g (U (.z a))).set f (U (.z b)))).bind λr=>match r with
   |.z h=>(p (((e.set g (U (.z a))).set f (U (.z b))).set j (U (.z h)))).bind λc=>(fe (((e.set g (U (.z a))).set f (U (.z b))).set j (U (.z h)))).bind λv=>(FS v).bind λx=>
    if c=false/\x∉seen/\seen.length<4000/\out.length<4000 then PX g f j f1 p fe e ds (seen++[x]) (out++[h])else Z
   |_=>Z
  |_=>Z
section
variable{e1 e2 e3:Expr}{gr:Ev->Y As}{fx:Ev->Y Dt}{tR tQ:TS}{xr xj y1 y2:AJ}{AS no:O AB}{kk:Nat}{p0 p00 p01 p02 q1 q2 pt pj pa px pb pif pf2 px3 a1 c1 pe1 pr a2 pj2 c2 pe2:Pos}
end
section
variable{e:α->Dt}{ea:β->Dt}{eb:δ->Dt}{kk:Ev->Y As}{cO:γ->As}
theorem Ao[Inhabited α]{d c j:Nat}{A:β×δ->Y α}{V:β×δ->AJ}:∀(xs:O (β×δ)) (b:AZ) (a:O α),(∀x∈xs,(A x).isSome=true/\f1 ((ρ.set d (U (.z (ea x.1)))).set c (U (.z (eb x.2))))=U (.z (eO e (A x)))/\p (((ρ.set d (U (.z (ea x.1)))).set c (U (.z (eb x.2)))).set j (U (.z (eO e (A x)))))=U false/\fe (((ρ.set d (U (.z (ea x.1)))).set c (U (.z (eb x.2)))).set j (U (.z (eO e (A x)))))=U (.z (.str (V x)))) →
  (b++xs.map V).Nodup->b.length+xs.length<4000->a.length+xs.length<4000->PX d c j f1 p fe ρ (xs.map (mV ea eb)) b (a.map e)=U ((a++xs.map λx=>(A x).getD default).map e)
 |[],b,a,_,_,_,_=>by simp[PX]
 |x::xs,b,a,h,hn,h1,h2=>by
  obtain⟨a1,a2,k,f⟩:=h x (zg ..);rw[js]at h1 h2;rw[zr];simp only[PX,mV,a2,bnd,k,f,FS];rw[zo ⟨by first|rfl|trivial,λi=>by
   rw[zr]at hn;exact(ar.mp hn).2.2 _ i _ (zg ..) rfl,by omega,by rw[zk];omega⟩]
  have e1:a.map e++[eO e (A x)]=(a++[(A x).getD default]).map e:=by
   rw[ZT];cases l:A x with
   |none=>rw[l]at a1;cases a1
   |some y=>rfl
  rw[e1,Ao xs (b++[V x]) (a++[(A x).getD default]) (λy g=>h y (zh _ g)) (by simpa using hn) (by simp;omega) (by simp;omega)];simp
end
end P1
namespace P1
open L2 S1
theorem Ym{x y:AY}{p q:A0}(hs:Gg x y=true)(hp:fQ x p=true)(hq:fQ y q=true)(h:Q (.bool (O9 x y)) s):A7 (A8 prog w) A (AG .Lt p q) Q E s:=by
 rcases bw hp with⟨i,t,rfl,rfl⟩|⟨z,t,rfl,rfl⟩
 ·rcases bw hq with⟨j,u,rfl,rfl⟩|⟨z,u,rfl,rfl⟩
  ·exact lt_int h
  ·cases hs
 ·rcases bw hq with⟨j,u,rfl,rfl⟩|⟨a,u,rfl,rfl⟩
  ·cases hs
  ·exact PySem.P.lt_str h
theorem sG{ks g:O AY}{b:A1}{d:O A0}(N:dO s.heap a AQ.toArray)(J:dO s.heap b d.toArray)(hk:Ks ks AQ)(B:Ks g d)(hs:Um ks g)(X:A.units<cLine)(h:Q (.bool (cV ks g)) s):A7 (A8 prog w) A (AG .Lt (.ref a) (.ref b)) Q E s:=by
 obtain⟨t,ea,x,⟨na,L⟩,_⟩:=N;obtain⟨z,eb,y,⟨nb,db⟩,_⟩:=J;show A7 _ _ (richCompare .Lt (.ref a) (.ref b)) _ _ _;refine wpAny_richCompare_same_room ⟨t,ea,x⟩ ⟨z,eb,y⟩ F.slot_tuple_lt (JO F.slot_tuple_lt ⟨t,ea,x⟩ F.entry_tuple_lt ?_ (F.args_tuple_lt_2 _ _)) X;show A7 _ _ (isInstance (.ref b) (.type "tuple") >>= _) _ _ s;refine zb (Kx ⟨z,eb,y⟩ isSubtype_tuple_tuple ?_);simp only[kn,zw,ZN];refine zb (k6 ea L ?_);refine zb (k6 eb db ?_);refine zb ?_;refine wpAny_forIn_list _
  (λAS r s'=>r.1=Z/\s'=s/\∃l j i k,AS=List.zip i k/\Ks l i/\Ks j k/\Um l j/\cV l j=cV ks g/\(i.length<k.length↔AQ.length<d.length))
  _ ?_ ?_ _ _ ⟨rfl,rfl,ks,g,AQ,d,by simp,hk,B,hs,rfl,Iff.rfl⟩
 ·rintro⟨u,v⟩ AS r s' ⟨n,rfl,l,j,i,k,f,p,m,o,c,q⟩;cases p with
  |nil=>simp at f
  |@cons P u' C G h1 K=>
   cases m with
   |nil=>simp at f
   |@cons H v' W M h2 D=>
    simp only[QU,Qb,kR]at f;obtain⟨⟨rfl,rfl⟩,rfl⟩:=f;refine zb (C4 h1 h2 ?_);simp only[cV]at c;by_cases e:P=H
    ·rw[zo e]at c;rw[Zl e];simp only[kn,zw,ZN];exact ze ⟨rfl,rfl,C,W,G,M,rfl,K,D,o.2,c,by simpa using q⟩
    ·rw[zC e]at c;rw[z4 e];simp only[kA,Z3];refine zb (JE ?_);refine zb (show A7 _ _ (AG .Lt u v) _ _ _ from Ym o.1 h1 h2 ?_);rw[c];exact zb (ze (ze (ze ⟨_,rfl,by simp,h⟩)))
 ·rintro⟨r1,r2⟩ s' ⟨n,rfl,l,j,i,k,f,p,m,o,c,q⟩;simp only at n;subst n;have I:decide (AQ.length<d.length)=cV ks g:=by
   rw[<-c,<-decide_eq_decide.mpr q];cases p with
   |nil=>cases m with
    |nil=>rfl
    |cons _ _=>rfl
   |cons _ _=>cases m with
    |nil=>rfl
    |cons _ _=>simp at f
  refine ze ⟨_,rfl,?_⟩;show Value.bool (decide (AQ.toArray.size<d.toArray.size))≠_/\Q (Value.bool (decide (AQ.toArray.size<d.toArray.size))) _;rw[zi,zi,I];exact⟨by simp,h⟩
section
variable{f:A1}{p:Pos}
end
end P1
namespace P1
open L2 S1 S6
theorem F1{p:O α->Prop}(h:p []):∀us:O α,us.length=0->p us
 |[],_=>h
section
variable{e:α->Dt}{g:Ev->Y Bx}{c:α->Bx}
end
def B8(i:Int):R (cB (.int i)) ρ (zE eI):=uQ (.int i) eI i rfl
def qW(s:AJ):R (cB (.str s)) ρ (zE eS):=uQ (.str s) eS s rfl
abbrev Nn(K:B5)(n:AJ)(f:A1):Prop:=nsIn K mainGlobals n=U (U (.ref f))
abbrev Lk(K:B5)(f:A1)(n:AJ)(st:AB)(e:A0)(b:Y A1)(sl:Array (Y A0))(kV d pm:A0)(a:Y A1)(c ct:A0):Prop:=K.lookup f=U ⟨e,b,.func (fnOf n n (pZ st) (gn st) (aH st) .none kV d pm a c ct),sl⟩
end P1
namespace P1
open L2
section
variable{e:α->Dt}
end
section
variable{Ex:BE}{outer:O Env}{L e T:A1}{C fl:A0}{dx:Y A1}{Q:Unit->A2->Prop}
end
section
variable{H':Hp}{h':A6}{ch:O A1}
end
section
variable{g:Array GenState}{d:Drawn}{t:Nat}{fI e:A1}{AS:O A0}{B:String}
end
section
variable{g:Array GenState}{d:Drawn}{t:Nat}{e:A1}
end
section
variable{g:Array GenState}{d:Drawn}{t:Nat}{e dx:A1}{v:A0}{vs:Array A0}{m:AJ->Y A0}
end
section
variable{o value:Expr}{tv:TE}{f:AJ}{pos' p:Pos}{B:String}
end
section
variable{f:AJ}{p:Pos}{B:String}
end
section
variable{E:XK}
end
section
variable{Cn f:A1}{iv iy:Nat}{n cn y:AJ}{np hp p py pa:Pos}{b0:AB}{suite:O AB}{ts:A1->TS}{tf:TE}
end
section
variable{d:A1}{fs:O (AJ×V)}{f:AJ}{o:Expr}
end
section
variable{f:AJ}{E:XK}{gy:Ev->Y Dt}{p:Pos}{AS a b:O AB}{B:String}{pc:Ev->Y Bool}
end
section
variable{f h:A1}{fs:Ev->Y (O Bx)}{y:AJ}{p q:Pos}
end
end P1
namespace P1
open L2 S6
section
variable{xs:AZ}
end
section
variable{y:AJ}{e2 se:Expr}{fS:Ev->Y AZ}{fx:Ev->Y Dt}{no AS:O AB}{tR tQ:TS}{p0 p02 px pb pif pk:Pos}{f:AJ}{E:XK}
end
end P1
namespace P1
open L2
section
variable{e1 e2 e3:Expr}{gr:Ev->Y As}{xr xj y1 y2:AJ}{AS no:O AB}{kk:Nat}{p0 p00 p01 p02 q1 q2 pt pj pa px pb pif pf2 px3 a1 c1 pe1 pr a2 pj2 c2 pe2:Pos}{fx:Ev->Y Dt}{f:AJ}{E:XK}
end
section
variable{Cn f:A1}{iv:Nat}{n cn:AJ}{np hp p pa:Pos}{b0:AB}{suite:O AB}{ts:A1->TS}{tf:TE}
end
section
variable{fx:Ev->Y Bx}
def hoI(f:Ev->Y Bx):Ev->Y Bx:=λρ=>(f ρ).bind λb=>match b with
 |.z (.int i)=>if 0<=i/\i<1000000 then U (.z (.str (toString i)))else Z
 |_=>Z
end
section
variable{xs:Array A0}
end
theorem tX:∀{AQ:O A0} {a:O Int},IntsAre AQ a->AX (a.map V.int) AQ
 |_,_,.nil=>.nil
 |_,_,.cons y t h=>.cons ⟨t,rfl⟩ (tX h)
section
variable{e:α->Dt}
end
section
variable{e:α->Dt}{ea:β->Dt}{eb:δ->Dt}{fx:Ev->Y Dt}
end
section
variable{e:α->Dt}{g:Ev->Y β}{c:γ->β}
end
section
variable{E:XK}
end
section
variable{f:AJ}{E:XK}{fs:Ev->Y (O Bx)}{gy:Ev->Y Dt}{p p1 epos:Pos}{AS:O AB}
end
section
variable{o:Expr}
def Vg:Dt->Bool
 |.non=>true
 |.tup _=>true
 |_=>false
def FX:Dt->Bool
 |.non=>true
 |_=>false
end
section
variable{o l:Expr}{fs:Ev->Y (O Bx)}{y z:AJ}
end
instance {σ τ:Type} [Inhabited σ]:Inhabited (pq σ τ):=⟨.nx default⟩
section
variable{e:α->Dt}
theorem M7(a:∀x,∃ds,e x=.tup ds)(ys:O (Y α)):(ys.map (eO e)).all Vg=true/\(FX ∘ eO e)=Option.isNone:=by
 refine⟨?_,?_⟩
 ·rw[jv];intro d hd;obtain⟨o,_,rfl⟩:=ag.mp hd;cases o with
  |none=>rfl
  |some x=>obtain⟨ds,q⟩:=a x;show Vg (e x)=true;rw[q];rfl
 ·funext o;cases o with
  |none=>rfl
  |some x=>obtain⟨ds,q⟩:=a x;show FX (e x)=false;rw[q];rfl
end
section
variable{o e2:Expr}{fx fy:Ev->Y Bx}
end
section
variable{f:AJ}{E:XK}{gy:Ev->Y Dt}{sts AS:O AB}{p0 p00 p01 p02:Pos}
end
structure DQ (K:B5) (mg:Str->Option Value) (x:Str) (st:Stmt) (ps:AZ) where
 f:Addr
 fd:FuncData
 F:Wh K x x st f fd
 b:BF K fd ps []
 m:mg x=some (.ref f)
 k:keepIn K (.ref f)=true
def m5{f:A1}{g b:Y A1}{m kV j d ct:A0}(X:K.In h)(G:h.Ns mainGlobals mg)(a:Nn K x f)(l:Lk K f x st m g sl kV j pm b d ct)(c:codeIn K d x=true)(k:keepIn K (.ref f)=true)(i:∀(kV n pm:A0) (b:Y A1) (e ct:A0) (us:O A0),us.length=ps.length->bindArgs (fnOf x x (pZ st) (gn st) (aH st) .none kV n pm b e ct) ⟨us,[]⟩=pure (ps.zip us):=by intro _ _ _ _ _ _;first|exact P1.F3 λ_=>S|exact P1.FB λ_ _=>S|exact P1.L6 λ_ _ _=>S|exact P1.OQ λ_ _ _ _=>S|exact P1.KS λ_ _ _ _ _=>S|exact P1.F1 S):DQ K mg x st ps:=
 ⟨f,_,Tr l c k,(Tr l c k).binds i,mg_of X G a,k⟩
abbrev Ok(P:A3)(w:A4)(base:A6)(d:DQ K mg x st ps)(k n:Nat)(F:O Bx->Y Bx):Prop:=rH P w K mg base Hr k d.f d.fd ps (R9 K n F)
theorem Ej(d:DQ K mg x st ps)(S:bF N ps (aH st))(c:∀(a:A0) (A:A5) (outer:O Env) (s:A2) (H:Hp) (E:XK),jt k (A.deeper (AK x (aH st) s.heap.objs.size d.f a))->(A.deeper (AK x (aH st) s.heap.objs.size d.f a)).units+100<cLine->N.Nodup->OD (Az Hr P w K mg base N x (aH st) d.f a A outer s H E).Wg (gn st) g)(h:N.length=n:=by rfl)(e:ps.length=m:=by rfl):Ok P w base d (k+1) m (dj n g):=Iy d.F S h e λa A outer s H E b=>c a A outer s H E b (Al b) S.nd
section
variable{fs:Ev->Y (O Bx)}{p:Pos}
theorem eY(d:DQ X.K X.mg x st ps)(G:Ok X.prog X.w X.base d k n F)(h:jt m X.A)(g:Tt X (e::es) fs)(i:Gl X x:=by rfl)(f:k<=m:=by decide)(a:dX x:=by decide)(j:A9 (e::es) X.env=(false,eval e X.env)::A9 es X.env:=by rfl)(c:(AD pos (A9 es X.env)).any (·.1)=false:=by rfl):QV X (.Call (.Name x p) (e::es) [] pos) (cF n F fs):=
 Xm G (h.mono f) i d.m d.k d.b g a j c
end
theorem DF{l:PySem.W.OpenLaw}{q:A3}{loose:AZ}{d:DefRec}{K:Params->B5}{T:B5->(AJ->Y A0)->Type}{F_law:O Bx->Y Bx}(c:∀{K mg},T K mg->DQ K mg "law" st [x])(hk:jt k callerA)(hd:d.name ="law")(G:∀(w:A4) (mg:AJ->Y A0) (base:A6) (t:T (K w.params) mg),Ok l.prog w base (c t) k 1 F_law)(E:l.most=U 63)(D:d.params.defaults=[])(h1:∀b:O Int,b.length<=63->F_law [.z (.lst (b.map .int))]=U (.z (.bl true)))(h2:∀b:O Int,b.length<=63->F_law [.l (b.map .int)]=U (.z (.bl true)))(A:∀(kV j pm:A0) (i:Y A1) (g ct u:A0),bindArgs (fnOf "law" "law" (pZ st) (gn st) (aH st) .none kV j pm i g ct) ⟨[u],[]⟩=pure [(x,u)])(v:∀(w:A4) (h:A6),YP w h->(K w.params).In h)(B:∀(w:A4) (h:A6) (mg J:AJ->Y A0) (L:ExcName->Y A0) (M:AZ),(K w.params).In h->Top q M L mg J h->∃I,L2.Tn (K w.params) h I)(F:∀(w:A4) (mg:AJ->Y A0) (h:A6),(K w.params).In h->h.Ns mainGlobals mg->T (K w.params) mg):
  PySem.W.WalkO q loose XP YP l.row.toRowW d [] (λf vs=>PySem.call f vs):=
 L2.Tq (n:=63) (k:=k) (x:=x) (CX:=Hr) (sp:=λK=>R9 K 1 F_law) E () D hk v (λw mg fa h X N e=>by
  have t:=F w mg h X N;have p:=(c t).m;rw[hd,p]at e;cases e;refine⟨(c t).fd,λs u=>?_,λbase _ _=>G w mg base t⟩;obtain⟨Q,P,kV,j,pm,i,g,ct,osl,e,lk,a0⟩:=(c t).F.ex;rw[e];exact .of_eq (A kV j pm i g ct u)) (λK H a b o y C=>O3 h1 h2 K H a b o y C) (λ_ _ _ _ z=>z) B
section
variable{f:A1}{sp:A1->O V->Hp->VK->Prop}{p:Pos}
end
section
variable{p0 p1:Pos}{xs:AZ}{e:A1}{a:Expr}{ta:TA}
end
section
variable{f:AJ}{E:XK}{fs:Ev->Y (O Bx)}{p:Pos}
end
section
variable{g:Array GenState}{d:Drawn}{t:Nat}{AS:O A0}{B:String}
end
section
variable{E:XK}{p:Pos}{B:String}
end
section
variable{p kp cp:Pos}{fs:Ev->Y (O Bx)}{j:Int}{kk:Nat}
end
section
variable{e:α->Dt}
end
section
variable{g:Ev->Y AJ}
variable{e:α->Dt}
end
section
variable{e:α->Dt}{σ' τ:Type}
def qE(e:α->Dt):Y (O α)->Bx
 |none=>.z .non
 |some l=>.o (l.map e)
def Mn(e:α->Dt):Y (O α)->Bx
 |none=>.z .non
 |some l=>.l (l.map e)
class EX (c:Option (List α)->Bx) (e:outParam (α->Dt)):Prop where
 d:∀v,toD (c v)=eO (eL e) v/\rO (c v)=false
instance:EX (qE e) e:=⟨λv=>by cases v<;>exact⟨rfl,rfl⟩⟩
instance:EX (Mn e) e:=⟨λv=>by cases v<;>exact⟨rfl,rfl⟩⟩
instance:EX (zE (eO (eL e))) e:=⟨λv=>⟨rfl,rfl⟩⟩
end
section
variable{p:Pos}{fs:Ev->Y (O Bx)}
end
section
variable{e:α->Dt}
end
section
variable{e:α->Dt}
end
section
variable{AS:O AB}{ga:Ev->Y As}
end
section
variable{f:A1}{Fa Fb:O Bx->Y Bx}{p spos:Pos}{fs:Ev->Y (O Bx)}
end
section
variable{e:α->Dt}
end
end P1
namespace P1
open L2 S1 S6
section
variable{e:α->Dt}
end
end P1
namespace P1
open L2
section
variable{e:α->Dt}
end
section
variable{R:Result->A2->Prop}{I:A1}{wr:O A1}{P:Nat->A0->Prop}{St:Nat->A6->Prop}
end
section
variable{e:α->Dt}
end
def DT{α:Type}:O α->O α
 |[]=>[]
 |x::xs=>x::DT (xs.drop 5)
termination_by l=>l.length
decreasing_by simp;omega
section
variable{st:Expr}{fs:Ev->Y Bx}
end
section
variable{e:α->Dt}
end
section
variable{AS:O AB}{W:O Nat}
end
section
variable{e:α->Dt}
end
section
variable{st:O AB}{fr:Ev->Y Bx}{W:O Nat}{z:Pos}{Φ:Hp->Hp->L2.St->Ev->Prop}
end
section
variable{AS:O AB}
end
end P1
namespace P1
open L2 S6
section
variable{p p' pos':Pos}
end
end P1
namespace P1
open L2 S1
section
variable{T:O AY->A0->Prop}(inj:∀ k l v,T k v->T l v->k=l)
include inj
theorem jX:∀{iz:O (O AY)} {vs:O A0},AI T iz vs->∀v∈vs,BS iz vs v∈iz/\T (BS iz vs v) v
 |_,_,.nil,v,hv=>by cases hv
 |k::iz,u::vs,.cons q t,v,hv=>by
  unfold BS;rw[QU,qV];by_cases e:u=v
  ·subst e;simp only[beq_self_eq_true];exact⟨zg ..,q⟩
  ·have e':(u==v)=false:=by simpa using e
   simp only[e'];have a:=jX t v ((List.mem_cons.mp hv).resolve_left λh=>e h.symm);exact⟨zh _ a.1,a.2⟩
theorem w5:∀{iz:O (O AY)} {vs:O A0},AI T iz vs->∀(K:A0->O AY),(∀v∈vs,T (K v) v)->vs.map K=iz
 |_,_,.nil,_,_=>rfl
 |k::iz,v::vs,.cons q t,K,hK=>by
  rw[zr,inj _ _ _ (hK v (zg ..)) q,w5 t K λu a=>hK u (zh _ a)]
theorem LF{vs:O A0}(a:AI T iz vs){xs:Array Keyed}(hp:xs.Perm (pairsOf vs))(l:Up (λv=>Cc iz (BS iz vs v)) xs (pairsOf vs).size):(xs.map (·.2)).toList.map (BS iz vs)=yC iz/\∀v∈(xs.map (·.2)).toList,v∈vs:=by
 have c:xs.toList.Perm (vs.zip vs):=by rw[<-pairsOf_toList];exact bP.mp hp
 have b:∀p∈xs.toList,p.1=p.2/\p.1∈vs:=λp q=>mem_zip_self (c.mem_iff.mp q);have e:(xs.map (·.2)).toList=xs.toList.map (·.1):=by
  rw[Array.toList_map];exact qA λp q=>(b p q).1.symm
 have pv:(xs.toList.map (·.1)).Perm vs:=by
  have:=c.map Prod.fst;rwa [List.map_fst_zip (zl _)]at this
 rw[e];refine⟨Gi ?_ ?_,λv a=>pv.mem_iff.mp a⟩
 ·have:=pv.map (BS iz vs);rwa [w5 inj a _ λv q=>(jX inj a v q).2]at this
 ·rw[List.pairwise_iff_getElem];intro i j hi g h;have k:i<xs.size:=by simpa using hi
  have d:j<xs.size:=by simpa using g
  have u:=l i j (j3 h) (by rw[<-hp.size_eq];exact d);unfold at_ at u;rw[getElem?_pos xs i k,getElem?_pos xs j d]at u;have f:=(jX inj a xs[j].1 (b xs[j] (by simp)).2).1;simp only[dP,Array.getElem_toList];unfold o9;rw[<-Pa f,z4 (dS.mpr u)];rfl
end
end P1
namespace P1
open L2 S1 S6
section
variable{e:α->Dt}{e':β->Dt}
end
end P1
namespace P1
open L2
theorem M8{pos':Pos}{c e:A0}(l:O A0)(h:TriplesOk l)(d:codeAmong pos' (l++[rawInt pos.line,rawInt pos.col,c])=U e):codeAmong pos' l=U e\/e=c:=by
 fun_induction TriplesOk l with
 |case1=>
  simp only[ko,codeAmong,rawInt]at d;split at d
  ·cases d;exact .inr rfl
  ·cases d
 |case2 a t b u x AS g=>
  simp only[kM,codeAmong]at d ⊢;split at d
  ·rename_i f;rw[zo f];exact .inl d
  ·rename_i f;rw[zC f];exact g h d
 |case3 l h1 h2=>exact h.elim
def Kr(K:B5)(c P:A1)(q:AJ):Prop:=∃o vs b tf d tg inF a tt x t,K.lookup c=U o/\o.cls=.type "code" ∧ o.data=.fields vs/\vs[11]?=U (.ref P)/\vs.getD 11 .none=.ref P/\vs.getD 18 .none=.str b tf ∧
 vs.getD 7 .none=.int d tg/\vs.getD 9 .none=.bool inF/\vs.getD 10 .none=.int a tt/\c≠P/\vs[1]?=U (.str x t)/\x∈Ss/\q=x++(".<locals>.<lambda>":AJ)
theorem Kr.tab{c P:A1}{q:AJ}(h:Kr K c P q):Z4 K P q:=by
 obtain⟨o,vs,_,_,_,_,_,_,_,x,t,a,_,d,e,_,_,_,_,_,_,f,g,i⟩:=h;exact⟨c,o,vs,x,t,a,d,f,g,e,i⟩
theorem Kr.hd{c P:A1}{q:AJ}(h:Kr K c P q){hp:A6}(k:K.In hp):PySem.W.CodeHd hp c P:=by
 obtain⟨o,vs,a1,a2,j,f,p,m,g,x,t,a,b,d,e,e1,e2,e3,i,l,n,_⟩:=h;exact⟨o,vs,a1,a2,j,f,p,m,g,k _ _ a,b,d,e,e1,e2,e3,i,l,n⟩
abbrev z7:HO:=.ext λ_=>True
structure Gv (H:Hp) (f:Addr) (q:Str) (params:Arguments) (body:Expr) (scope:Scope) (clos:List (Str×Addr)) (pm:Value):Prop where
 at_:∃c' ctv oc vs t,H f=some (.rA (kla_obj "<lambda>" q params body scope clos pm c' ctv) z7)/\H c'=some (.rA oc z7)/\oc.data=.fields vs/\vs[1]?=some (.str q t)
theorem Gv.same{H':Hp}{f:A1}{q:AJ}{body:Expr}{d:O (AJ×A1)}(h:Gv H f q params body scope d pm)(s:AV H H'):Gv H' f q params body scope d pm:=by
 obtain⟨c',g,e,vs,t,a,b,c⟩:=h.at_;exact⟨c',g,e,vs,t,s _ _ a,s _ _ b,c⟩
theorem Ip(e:h.get? a=U o):iB P w H h a (.rA o z7):=⟨e,trivial,⟨o,e⟩,λ_ _ _ _=>trivial⟩
theorem Ku{c P:A1}{q:AJ}{body:Expr}{D:O (AJ×A1)}{R:BE}(I:L2.AU X AN σ H s)(hK:Kr X.K c P q)(a4:X.env.code=.ref c)(hq:X.env.qual++("<lambda>":AJ)=q)(b8:defaultsOf params X.env=([],[]))(a6:closureFor scope X.env=pure D)(h:∀f H' s',L2.AU X AN σ H' s'->AV H H'->H f=Z->Gv H' f q params body scope D ((X.mg "__name__").getD .none)->R (.ref f) s'):A7 M A (eval (.Lambda params body scope pos) X.env) R E s:=by
 refine PySem.W.kla_eval b8 ?_;rw[show X.env.qual++("<lambda>":AJ)=q from hq];obtain⟨ps,x,a2,c4⟩:=(I.ok.tabs.go I.base.wj) P q hK.tab;obtain⟨a5,B,G,a1⟩:=I.hok P _ x;have F:s.heap.Ns mainGlobals X.mg:=I.mod.glob.keeps I.bk;have C:=hK.hd I.Wf;obtain⟨Q,ob,b1,b2,b3,b4,b5,N⟩:=I.mod.bmain;have b0:mainGlobals≠P:=λz=>by
  obtain⟨o,es,ep,e,hd,_⟩:=F;rw[z,B]at e;cases e;cases hd
 have m:=I.bk _ _ b3;have y:Q≠P:=λz=>by rw[z,B]at m;cases m;cases b4
 have a9:Q≠mainGlobals:=λz=>by
  obtain⟨o,es,ep,e,hd,_⟩:=F;rw[z,e]at m;cases m;rw[hd]at N;cases N
 have hB:s.heap.BuiltinsAt X.mg P:=⟨Q,ob,b1,b2,a9,y,m,b4,b5,N⟩;cases J:codeAmong pos (tr ps++a5).toList with
 |some L=>
  obtain⟨c',a,vs,t,rfl,g1,g2,g3⟩:=a1 pos L J;refine PySem.W.kla_makeFunctionHit (mg:=X.mg) a6 I.ok.glob F a4 C B G J hB λp h' tk hk c2=>?_;have j:L2.AU X AN σ H { s with heap:=h',toks:=tk }:=I.kept hk;have i:H h'.objs.size=Z:=j.hok.fresh (zl _);have k:AV H (B7 H h'.objs.size (.rA (kla_obj "<lambda>" q params body scope D ((X.mg "__name__").getD .none) c' p) z7)):=bD i;refine h h'.objs.size _ _ (j.laid (t':=tk) (λb u e=>zd _ e) (zl _) (Ip (zt _ S))) k i ⟨c',p,a,vs,t,aW,k _ _ g1,g2,?_⟩;rw[a2]at g3;exact g3
 |none=>
  refine PySem.W.kla_makeFunction (mg:=X.mg) a6 I.ok.glob F a4 C B G J b0 hB λc' p h' tk hx a3 c0 c1 a0=>?_;obtain⟨c3,a,vs,t,e2,b7,hd,hv⟩:=c1;cases e2;have a8:H c'=Z:=I.hok.fresh a3;have nP:∀b,H b=Z->b≠P:=λb n z=>by rw[z,x]at n;cases n
  have c5:=a0;have g:AV H (B7 H c' (.rA a z7)):=bD a8;have u:Un X.fs [] H (B7 H c' (.rA a z7)) s.heap h':=by
   refine⟨λb o e n _ _=>hx b o (nP b n) e,λb o e n _ _=>⟨o.slots,hx b o (nP b n) e⟩,λb o e n _=>?_,λb o e _=>?_,λb xs e=>g _ _ e,λb o u e=>g _ _ e,λb ps e=>⟨#[],by rw[g _ _ e];simp⟩⟩
   ·rw[aX (zD (z5 (zv e) a3))];exact n
   ·by_cases l:b=P
    ·subst l;exact⟨_,a0⟩
    ·exact⟨o,hx b o l e⟩
  have a7:yc X.prog X.w (B7 H c' (.rA a z7)) h':=λb ob e=>by
   by_cases l:b=c'
   ·subst l;rw[aW]at e;cases e;exact Ip b7
   ·rw[aX l]at e;by_cases y:b=P
    ·subst y;rw[x]at e;cases e;refine⟨a5++#[rawInt pos.line,rawInt pos.col,.ref c'],?_,?_,λpos' L z=>?_⟩
     ·rw[<-k7];exact a0
     ·rw[<-k7,km];exact TriplesOk_snoc _ _ _ _ G
     ·rw[<-k7,km]at z;rcases M8 _ G z with z|z
      ·obtain⟨d,od,ws,t',e1,e2,e3,e4⟩:=a1 pos' L z;exact⟨d,od,ws,t',e1,g _ _ e2,e3,e4⟩
      ·exact⟨c',a,vs,t,z,aW,hd,by rw[a2];exact hv⟩
    ·refine(I.hok b ob e).stay (λd v hd q'=>hx d v (λz=>?_) q') (λd z=>g _ _ z) (λd xs z=>g _ _ z) λd o φ z=>g _ _ z;subst z;rcases hd with z|z
     ·exact y z.symm
     ·rw[x]at z;cases z
  have j:L2.AU X AN σ (B7 H c' (.rA a z7)) { s with heap:=h',toks:=tk }:=I.un u a7;have i:(B7 H c' (.rA a z7)) h'.objs.size=Z:=j.hok.fresh (zl _);have b9:H h'.objs.size=Z:=by rw[aX (be c0)]at i;exact i
  have k:AV (B7 H c' (.rA a z7)) (B7 (B7 H c' (.rA a z7)) h'.objs.size (.rA (kla_obj "<lambda>" q params body scope D ((X.mg "__name__").getD .none) c' p) z7)):=bD i;exact h h'.objs.size _ _ (j.laid (t':=tk) (λb u e=>zd _ e) (zl _) (Ip (zt _ S))) (g.trans k) b9 ⟨c',p,a,vs,t,aW,k _ _ aW,hd,hv⟩
def Gw(X:Cx)(scope:Scope)(cl:O (AJ×A1)):AZ->O Nat->Prop
 |[],[]=>True
 |x::xs,i::is=>(X.N[i]?=U x/\(X.env.kindOf x=U .cell\/X.env.kindOf x=U .free)/\scope.names.lookup x=U .free/\∃c,cl.lookup x=U c)/\Gw X scope cl xs is
 |_,_=>False
theorem Gw.get{X:Cx}{scope:Scope}{cl:O (AJ×A1)}:∀{xs:AZ} {is:O Nat},Gw X scope cl xs is->xs.length=is.length/\∀(j:Nat) (x:AJ),xs[j]?=U x->∃i,is[j]?=U i/\X.N[i]?=U x/\(X.env.kindOf x=U .cell\/X.env.kindOf x=U .free)/\scope.names.lookup x=U .free/\∃c,cl.lookup x=U c
 |[],[],_=>⟨rfl,λj x e=>by simp at e⟩
 |x::xs,i::is,h=>by
  obtain⟨h1,h2⟩:=h;obtain⟨l,g⟩:=Gw.get h2;refine⟨by simp[l],λj y e=>?_⟩;cases j with
  |zero=>simp at e;subst e;exact⟨i,rfl,h1⟩
  |succ j=>obtain⟨k,e1,e2⟩:=g j y (by simpa using e);exact⟨k,by simpa using e1,e2⟩
 |[],_::_,h=>h.elim
 |_::_,[],h=>h.elim
structure Gx (X:Cx) (scope:Scope) (cl:List (Str×Addr)) (x:Str) (xs:AZ) (is:List Nat):Prop where
 clos:closureFor scope X.env=pure cl
 kind:scope.kind=.function
 co:scope.isCoroutine=false
 gen:scope.isGenerator=false
 ZK:∀y∈scope.names,y.2≠.cell
 par:scope.names.lookup x=some .local
 sub:Bn X.env.cells cl
 has:∀y∈scope.names,y.2=.free->∃c,cl.lookup y.1=some c
 cap:Gw X scope cl xs is
def DB(X:Cx)(A:A5)(a:AZ)(env:Env)(s₀:A2)(H₀:Hp):Cx:=
 { X with A:=A.deeper env,N:=a,s₀:=s₀,H₀:=H₀,env:=env,outer:=X.stack,stack:=env::X.stack,ex:=[],calm:=true,fn:=λ_=>false,pn:=[],xe:=λ_ _=>False }
section
variable{q:AJ}{body:Expr}{xs:AZ}{f c':A1}
theorem Yn{h1:A6}{t1:Nat}(I:L2.AU X AN σ H s)(O:Gx X scope cl x xs is)(W:A.frames=U X.stack)(K:A.handled=Z)(r:At v u)(P:h1.Ns s.heap.objs.size (λy=>[(x,u)].reverse.lookup y))(hk:∀b o,s.heap.get? b=U o->h1.get? b=U o):
  L2.AU (DB X A (x::xs) (envX q scope s.heap.objs.size f (.ref c') cl) s H) [] (U v::p8 is σ) H { s with heap:=h1,toks:=t1 }:=by
 obtain⟨C,hc⟩:=O.cap.get;have m:∀b:A1,b∉(DB X A (x::xs) (envX q scope s.heap.objs.size f (.ref c') cl) s H).ex:=λb z=>absurd (show b∈([]:List A1) from z) (by simp);have d:∀y c,cl.lookup y=U c->X.env.cells.lookup y=U c:=λy c e=>O.sub.get e;refine⟨⟨I.ok.mod,O.kind,rfl,rfl,zl _,λy z c e1 e2=>I.ok.inj y z c (d _ _ e1) (d _ _ e2),λy a=>?_,λy c h _=>absurd h (by show ¬ (false=true);simp),λ_=>K,Around.frames_deeper W,.inr ⟨rfl,rfl⟩,λb z=>absurd z (m b),I.bs,zS I.ok.Wn I.sz,λb _ _=>m b,λb z=>absurd z (m b),I.stack,I.G8,I.ok.tabs.go I.base.wj⟩,
  rfl,I.bare,Un.kept hk,⟨_,P,λj y w e1 e2 _=>?_⟩,λy c e=>?_,I.hok.fresh (zl _),λy c e=>I.oZ y c (d _ _ e),λp hp=>absurd (show p∈([]:List (A1×AE)) from hp) (by simp),I.hok.kept hk,?_⟩
 ·have a:scope.names.lookup y=U .cell\/scope.names.lookup y=U .free:=a;rcases a with a|a
  ·exact absurd S (O.ZK _ (QP a))
  ·exact O.has _ (QP a) rfl
 ·cases j with
  |zero=>
   have e1:U x=U y:=e1;have e2:U (U v)=U (U w):=e2;cases e1;cases e2;exact⟨u,r,.inl ⟨O.par,by simp⟩⟩
  |succ j=>
   have e1:xs[j]?=U y:=e1;have e2:(p8 is σ)[j]?=U (U w):=e2;obtain⟨i,J,n,k,N,c,t⟩:=hc j y e1;have e3:σ[i]?=U (U w):=by
    unfold p8 at e2;rw[ZH,J]at e2;cases q:σ[i]? with
    |none=>rw[kX,q]at e2;cases e2
    |some o=>
     rw[kX,q]at e2;have:o=U w:=by simpa using e2
     rw[this]
   have E:QG X.env.scope y:=by
    rcases k with k|k
    ·exact .inr (.inl k)
    ·exact .inr (.inr k)
   obtain⟨m',a0,M⟩:=I.loc;obtain⟨G,B,l⟩:=M i y w n e3 E;refine⟨G,B,?_⟩;rcases l with⟨L,_⟩|⟨_,c2,Q,D⟩
   ·rcases k with k|k<;>(rw[L]at k;cases k)
   ·have:=d _ _ t;rw[Q]at this;cases this;obtain⟨o,g,hd⟩:=D;exact .inr ⟨.inr N,_,t,o,hk _ o g,hd⟩
 ·obtain⟨F,o,g,hd⟩:=I.cell y c (d _ _ e);exact⟨F,o,hk _ _ g,hd⟩
 ·show(U v::p8 is σ).length=(x::xs).length;simp[p8,C]
theorem Yo{y:Bx}(I:L2.AU X AN σ H s)(O:Gx X scope cl x xs is)(hA:A.frames=U X.stack)(hh:A.handled=Z)(a7:A.depth<recursionLimit)(L:Gv H f q params body scope cl pm)(a9:∀G ct u,bindArgs (kla_fn "<lambda>" q params body scope cl pm G ct) ⟨[u],[]⟩=pure [(x,u)])(hb:∀f c' s H,PV (DB X A (x::xs) (envX q scope s.heap.objs.size f (.ref c') cl) s H) body fb)(E:bB X.K H0 H σ ρ)(r:At v u)(P:AW X.K H d v)(e:fb (U (.z d)::jr is ρ)=U y):
  A7 (d9 X) A (call (.ref f) [u]) (λp s'=>∃g H',L2.AU X AN σ H' s'/\At g p/\AV H H'/\Nw H y g/\aQ X.K H' y g) (λ_ _=>False) s:=by
 obtain⟨c',b0,oc,vs,t,a1,a2,a3,a4⟩:=L.at_;have N:=(I.hok _ _ a1).1;have hc:=(I.hok _ _ a2).1;refine wpAny_call (PySem.W.kla_callFunE a7 N S O.co O.gen S ⟨c',oc,vs,t,rfl,hc,a3,a4⟩ ?_);rw[a9];refine ze (wpAny_newFunctionEnv O.ZK (λz hz=>by rw[ah.mp hz];exact O.par) (λa0 a5 C=>⟨(I.nolimit).fresh _ C,?_⟩) O.kind);show AF _ _ (.expr body (envX q scope s.heap.objs.size f (.ref c') cl)) _ _;have a6:∀b o,s.heap.get? b=U o->a0.get? b=U o:=λb o e=>C.extBut b o (zD (zv e)) (zd _ e);have J:=Yn (t1:=s.toks+1) (c':=c') (f:=f) (q:=q) I O hA hh r a5 a6;have E0:=E.caps is 0;have E1:bB X.K H H (U v::p8 is σ) (U (.z d)::jr is ρ):=by
  have B:=E0.len;simp only[List.replicate_zero,Q3]at E0 B;refine⟨by simpa using B,λi b e=>?_,λi j c a b e h=>?_,AV.refl H,λi c a e h=>?_⟩
  ·cases i with
   |zero=>cases e;exact⟨v,rfl,P⟩
   |succ i=>exact E0.val i b (by simpa using e)
  ·cases i with
   |zero=>cases e;cases h
   |succ i=>
    intro h1 h2 n M;cases j with
    |zero=>cases h2;cases n
    |succ j=>rw[E0.own i j c a b (by simpa using e) h (by simpa using h1) (by simpa using h2) n (by simpa using M)]
  ·cases i with
   |zero=>cases e;cases h
   |succ i=>intro h1;exact E0.new i c a (by simpa using e) h (by simpa using h1)
 refine PySem.W.kla_codeExpr (qa (hb f c' s H [] _ _ _ (λg H'=>AV H H'/\Nw H y g/\aQ X.K H' y g) J ⟨H,_,y,E1,e,λg H' s1 l m=>⟨s1,l,m⟩⟩) (λp s' hs=>?_) λe s' hs=>hs.elim);obtain⟨g,H',k,rv,s1,l,m⟩:=hs;obtain⟨F,H2,I2,a8,s2,n2,D⟩:=I.after (Q:=λg H'=>AV H H'/\Nw H y g/\aQ X.K H' y g) ⟨g,H',k.os,k.bare,k.base,k.hok,rv,s1,l,m⟩;exact⟨F,H2,I2,a8,s2,n2,D⟩
end
end P1
namespace P1
open L2 S1
def sH(bt:Dt->Dt->Bool):Dt->Dt->O (Dt×Dt)->Dt
 |b,_,[]=>b
 |b,kb,(d,k)::r=>if bt k kb=true then sH bt d k r else sH bt b kb r
def BH(rC:Dt->Bool)(fk:Dt->Y Bx):O Dt->Y (O (Dt×Dt))
 |[]=>U []
 |d::ds=>match fk d with
  |some (.z k)=>if rC k=true then(BH rC fk ds).bind λr=>U ((d,k)::r)else Z
  |_=>Z
def w6(X:Cx)(σ:L2.St)(H1:Hp)(f:A1)(fk:Dt->Y Bx):Prop:=∀(AN:O (A1×AE)) (s:A2) (H:Hp) (d k:Dt) (v:V) (u:A0),L2.AU X AN σ H s->AV H1 H->At v u->AW X.K H d v->fk d=U (.z k) →
 A7 (d9 X) X.A.in1 (call (.ref f) [u]) (λb s'=>∃a H',L2.AU X AN σ H' s'/\At a b/\AV H H'/\AW X.K H' k a) (λ_ _=>False) s
def sI(X:Cx)(op:CmpOp)(bt:Dt->Dt->Bool)(rC:Dt->Bool):Prop:=∀(AN:O (A1×AE)) (σ:L2.St) (H:Hp) (s:A2) (b a:Dt) (d c:V) (e f:A0) (Q:BE) (E:BE),L2.AU X AN σ H s->At d e->At c f →
 AW X.K H b d->AW X.K H a c->rC b=true->rC a=true->Q (.bool (bt b a)) s->A7 (d9 X) X.A.in1 (richCompare op e f) Q E s
theorem mD{H1:Hp}{S:A1}{o:HO}(s:AV H1 H)(h:H1 S=Z):AV H1 (B7 H S o):=λa u e=>by
 rw[aX (bZ e h)];exact s a u e
theorem jY{r:O (Dt×Dt)}(h:BH rC fk (d::ds)=U r):∃k a,fk d=U (.z k)/\rC k=true/\BH rC fk ds=U a/\r=(d,k)::a:=by
 simp only[BH]at h;split at h
 ·rename_i k hk;split at h
  ·rename_i ok;obtain⟨a,e,h⟩:=AT h;cases h;exact⟨k,a,hk,ok,e,rfl⟩
  ·cases h
 ·cases h
theorem jD{H':Hp}(h:oK K H a xs)(s:AV H H'):oK K H' a xs:=by
 rcases h with (h|⟨o,h⟩)|h
 ·exact .inl (.inl (s _ _ h))
 ·exact .inl (.inr ⟨o,s _ _ h⟩)
 ·exact .inr h
theorem yH{p:A1×AE}(I:L2.AU X AN σ H s)(h1:s.heap.get? p.1=U p.2)(h2:H p.1=Z)(b:p.1≠X.env.locals)(a:p.1∉X.fs)(c:∀v,p.2.data≠.cell v):L2.AU X (p::AN) σ H s:=
 I.wk λq hq=>by
  rcases List.mem_cons.mp hq with rfl|hq
  ·exact⟨h1,h2,b,a,c⟩
  ·exact I.pin q (zz _ hq)
theorem uc{p:A1×AE}(I:L2.AU X (p::AN) σ H s):L2.AU X AN σ H s:=
 I.wk λq hq=>I.pin q (zz _ (zh _ hq))
section
variable{R:Result->A2->Prop}
theorem Vh{f S a:A1}{H1:Hp}{a2:Dt}(b5:X.calm=true)(hT:w6 X σ H1 f fk)(hC:sI X .Lt bt rC)(hl:oK X.K H1 l vs)(a5:aG X.K H1 ds vs)(b8:H1 S=Z)(b3:l≠a)(d0:S≠a)(a6:a≠X.env.locals)(b0:X.s₀.heap.objs.size<=a)(c4:a∉X.fs)(Vi:∀x c,X.env.cells.lookup x=U c->c≠a)(Vj:∀p∈X.pn++AN,p.1≠a)(hR:∀v u H' s',L2.AU X AN σ H' s'->AV H1 H'->At v u->AW X.K H' a2 v->R (.ok (.ret u)) s'):
  ∀(r:O (Dt×Dt)) (j:Nat) (s:A2) (H:Hp) (i:AE) (d k:Dt) (t n:V),BH rC fk (ds.drop j)=U r->j<=ds.length->L2.AU X ((a,i)::AN) σ H s->AV H1 H->i.cls=.type "list_iterator" → i.data=.fields #[.ref l,.int j 0] →
   H S=U (.lst [t,n])->AW X.K H d t->AW X.K H k n->rC k=true->sH bt d k r=a2 →
   AF (d9 X) X.A (.builtin "min.loop" ⟨[.ref a,.ref f,.ref S],[]⟩) R s:=by
 have c0:(toString "min" ++ toString ".loop":String) ="min.loop":=by decide
 intro r
 induction r with
 |nil=>
  intro j s H i d k t n hk hj I m a4 a1 C rd rk ok g;have hh:X.A.in1.handled=Z:=I.ok.hd b5;have c9:ds.drop j=[]:=by
   cases e:ds.drop j with
   |nil=>rfl
   |cons x y=>
    rw[e]at hk;obtain⟨_,_,_,_,_,h⟩:=jY hk;cases h
  have M:j=ds.length:=by
   have:=congrArg av c9;rw[jn]at this;simp at this;omega
  obtain⟨AQ,rv,pl,hz⟩:=I.list (jD hl m);have a8:AQ.length=ds.length:=by rw[<-rv.length,a5.length]
  obtain⟨_,c1,n2,rs,_,eS⟩:=I.zV C;obtain⟨u1,u2,rfl,b7,b6⟩:=C6 rs;have gI:=(I.pin (a,i) (zz _ zg)).1;have W:=Walks.list (prog:=X.prog) (w:=X.w) (A:=X.A.in1) hh a l b3 AQ.toArray;refine ZO PySem.F.entry_min_loop ?_;rw[Around.under_plainId QI _];show A7 _ X.A.in1 (seqItems? (.ref S) >>= _) _ _ _;refine zb (qk eS rfl ?_);show A7 _ X.A.in1 (tryCatch (pyNext (.ref a)) _ >>= _) _ _ _;refine zb (Zs (W.done _ _ _ ⟨⟨i,gI,a4,by rw[a1,zi,a8,<-M]⟩,pl.isList⟩ λh' G P=>?_));have I1:L2.AU X AN σ H { s with heap:=h',toks:=G }:=(uc I).turned (it:=a) (λb o g e=>P b o (by simpa using g) e) (I.pin (a,i) (zz _ zg)).2.1 a6 (.inr b0) Vi Vj;have b9:=P S _ (by simpa using d0) eS;show A7 _ X.A.in1 (updateSeq S (λ_=>#[]) >>= _) _ _ _;refine zb ?_;refine qr b9 rfl (zb (qB (ze ?_)));have s1:=JJ h' S (Obj.mapSeq λ_=>(#[]:Array A0));obtain⟨c2,E⟩:∃c2,(h'.update S (Obj.mapSeq λ_=>(#[]:Array A0))).get? S=U { cls:=.type "list",data:=.seq #[] c2 }:=⟨_,get?_update_seq b9 λ_=>#[]⟩;have q:L2.AU X AN σ (B7 H S (.lst [])) { s with heap:=h'.update S (Obj.mapSeq λ_=>(#[]:Array A0)),toks:=G }:=I1.write (by rw[C];trivial) (.inl rfl) (λb u g e=>(s1.2 b g).trans e) ⟨_,E⟩ ⟨qi _,[],c2,.nil,E⟩;have e0:d=a2:=g;subst e0;exact hR t u1 _ _ q (mD m b8) b7 (rd.kp (Kp.lst C))
 |cons dk r ih=>
  intro j s H i d k t n hk hj I m a4 a1 C rd rk ok g;have hh:X.A.in1.handled=Z:=I.ok.hd b5;obtain⟨d2,AS,N⟩:∃d2 AS,ds.drop j=d2::AS:=by
   cases e:ds.drop j with
   |nil=>rw[e]at hk;cases hk
   |cons x y=>exact⟨x,y,rfl⟩
  have M:j<ds.length:=by
   have:=congrArg av N;rw[jn]at this;simp at this;omega
  have d5:ds[j]?=U d2:=by
   have:=congrArg (·[0]?) N;simpa using this
  have b4:ds.drop (j+1)=AS:=by
   have:=congrArg List.tail N;rw[List.tail_drop]at this;simpa using this
  rw[N]at hk;obtain⟨L,r',c8,Ir,a7,hk⟩:=jY hk;cases hk;obtain⟨v2,c3,Vk⟩:=a5.get d5;obtain⟨AQ,rv,pl,hz⟩:=I.list (jD hl m);have a8:AQ.length=ds.length:=by rw[<-rv.length,a5.length]
  obtain⟨w2,c5,Vl⟩:=rv.get c3;obtain⟨_,c1,n2,rs,_,eS⟩:=I.zV C;obtain⟨u1,u2,rfl,b7,b6⟩:=C6 rs;have pI:=I.pin (a,i) (zz _ zg);have W:=Walks.list (prog:=X.prog) (w:=X.w) (A:=X.A.in1) hh a l b3 AQ.toArray;refine ZO PySem.F.entry_min_loop ?_;rw[Around.under_plainId QI _];show A7 _ X.A.in1 (seqItems? (.ref S) >>= _) _ _ _;refine zb (qk eS rfl ?_);show A7 _ X.A.in1 (tryCatch (pyNext (.ref a)) _ >>= _) _ _ _;refine zb (Zs (W.item j _ _ _ (by rw[zi];omega) ⟨⟨i,pI.1,a4,a1⟩,pl.isList⟩ λv h' G hP d3 P=>?_));have hv:v=w2:=by
   rw[jI,c5]at hP;cases hP;rfl
  subst hv;obtain⟨a0,d1,Iu,a3⟩:=id d3.1;have I1:L2.AU X ((a,a0)::AN) σ H { s with heap:=h',toks:=G }:=yH ((uc I).turned (it:=a) (t':=G) (λb o g e=>P b o (by simpa using g) e) pI.2.1 a6 (.inr b0) Vi Vj) d1 pI.2.1 a6 c4 (λv z=>by rw[a3]at z;cases z);show A7 _ X.A.in1 (tryCatch (holding [v] (call (.ref f) [v])) _ >>= _) _ _ _;refine zb (Zs (Zp (qa (hT _ _ H d2 L v2 v I1 m Vl (Vk.kp (.of m)) c8) (λx J he=>?_) λ_ _ hF=>hF.elim)));obtain⟨kv,H2,q,Yp,B,Yq⟩:=he;have D:=B _ _ C;obtain⟨_,d6,n3,d8,_,Vm⟩:=q.zV D;have c6:=rd.kp (.of B);have a9:=rk.kp (.of B);show A7 _ X.A.in1 (tryCatch (holding [v,x] (richCompare .Lt x u2 >>= _)) _ >>= _) _ _ _;refine zb (Zs (Zp (zb (hC _ _ _ _ L k kv n x u2 _ _ q Yp b6 Yq a9 Ir ok ?_))));refine zb (Zp (qh ?_));refine zb (qB (ze ?_));simp only[sH]at g;by_cases Q:bt L k=true
  ·rw[zo Q]at g;simp only[Q,Z3];have s1:=JJ J.heap S (Obj.mapSeq λ_=>#[v,x]);obtain⟨c2,E⟩:∃c2,(J.heap.update S (Obj.mapSeq λ_=>#[v,x])).get? S=U { cls:=.type "list",data:=.seq #[v,x] c2 }:=⟨_,get?_update_seq Vm λ_=>#[v,x]⟩;have I3:L2.AU X ((a,a0)::AN) σ (B7 H2 S (.lst [v2,kv])) { J with heap:=J.heap.update S (Obj.mapSeq λ_=>#[v,x]) }:=q.write (t':=J.toks) (by rw[D];trivial) (.inl rfl) (λb u g e=>(s1.2 b g).trans e) ⟨_,E⟩ ⟨(show 2<=AA by decide),[v,x],c2,.cons Vl (.cons Yp .nil),E⟩;refine zb ?_;refine qr Vm rfl (zb (qB ?_));rw[c0];exact ze ⟨plainId_quiet QI _,ih (j+1) _ _ a0 d2 L v2 kv (by rw[b4];exact a7) M I3 (mD (m.trans B) b8) Iu (by rw[a3]) aW (((Vk.kp (.of m)).kp (.of B)).kp (Kp.lst D)) (Yq.kp (Kp.lst D)) Ir g⟩
  ·rw[zC Q]at g;have d4:bt L k=false:=by simpa using Q
   simp only[d4,zw,ZN];refine zb (qB ?_);rw[c0];exact ze ⟨plainId_quiet QI _,ih (j+1) _ _ a0 d k t n (by rw[b4];exact a7) M q (m.trans B) Iu (by rw[a3]) D c6 a9 ok g⟩
theorem Iv(a v:A0):argsOk "min" ⟨[a],[(Str.ofString "key",v)]⟩:=by unfold argsOk;kernel_rfl
theorem Yr{f:A1}{a6 d0 m:Dt}{D:O (Dt×Dt)}(I:L2.AU X AN σ H s)(a7:X.calm=true)(hT:w6 X σ H f fk)(hC:sI X .Lt bt rC)(B:oK X.K H l vs)(a4:aG X.K H ds vs)(hk:BH rC fk ds=U ((d0,m)::D))(g:sH bt d0 m D=a6)(hQ:∀v u H' s',L2.AU X AN σ H' s'->AV H H'->At v u->AW X.K H' a6 v->Q u s'):
  A7 (d9 X) X.A (call (.builtin "min") [.ref l] [(Str.ofString "key", .ref f)]) Q E s:=by
 have P:(toString "min" ++ toString ".loop":String) ="min.loop":=by decide
 have hh:X.A.in1.handled=Z:=I.ok.hd a7;obtain⟨AQ,rv,pl,hz⟩:=I.list B;have b7:l<s.heap.objs.size:=by obtain⟨o,n,e,_⟩:=pl;exact zv e
 refine kmk_tree PySem.F.kind_min PySem.F.plain_min PySem.F.entry_min (Iv _ _) ?_;show A7 _ X.A.in1 (Builtin.Builtins.bindParams "min" ["key","default"] 0 ⟨[],[(Str.ofString "key", .ref f)]⟩ >>= _) _ _ s;refine zb (k9 (show Builtin.Builtins.bindParams "min" ["key","default"] 0 ⟨[],[(Str.ofString "key", .ref f)]⟩=pure [U (.ref f),Z] from S) ?_);refine zb (ze ?_);refine zb (kf pl.isList ?_);refine zb (kQ ?_ (qi _));rw[P];generalize hoI:({ cls:=.type "list_iterator",data:=.fields #[.ref l,.int 0 0] }:AE)=oI;have hS:(s.heap.push oI).objs.size=s.heap.objs.size+1:=size_push' ..;have b8:(s.heap.push oI).get? s.heap.objs.size=U oI:=zt _ (by rw[<-hoI];rfl);have q:s.heap.objs.size≠X.env.locals:=be I.lt;have a0:X.s₀.heap.objs.size<=s.heap.objs.size:=I.sz;have G:s.heap.objs.size∉X.fs:=I.Z6 (zl _);have Vi:∀x c,X.env.cells.lookup x=U c->c≠s.heap.objs.size:=λx c e=>by obtain⟨v,o,ho,_⟩:=I.cell x c e;exact zD (zv ho)
 have Vj:∀p∈X.pn++AN,p.1≠s.heap.objs.size:=λp hp=>zD (zv (I.pin p hp).1);have a2:l≠s.heap.objs.size:=zD b7;have c6:(s.heap.push oI).objs.size≠s.heap.objs.size:=by rw[hS];exact Nat.succ_ne_self _
 have fI:H s.heap.objs.size=Z:=I.hok.fresh (zl _);have fS:H (s.heap.push oI).objs.size=Z:=I.hok.fresh (by rw[hS];exact ky _);have I1:L2.AU X ((s.heap.objs.size,oI)::AN) σ H { s with heap:=s.heap.push oI }:=yH (I.kept (t':=s.toks) λb o e=>zd _ e) b8 fI q G (λv z=>by rw[<-hoI]at z;cases z);have k:L2.AU X ((s.heap.objs.size,oI)::AN) σ (B7 H (s.heap.push oI).objs.size (.lst [])) { s with heap:=(s.heap.push oI).push { cls:=.type "list",data:=.seq #[] } }:=I1.laid (t':=s.toks) (λb o e=>zd _ e) (zl _) ⟨qi _,[],0,.nil,zt _ rfl⟩;have a:AV H (B7 H (s.heap.push oI).objs.size (.lst [])):=bD fS;refine ze ⟨plainId_quiet QI _,?_⟩;obtain⟨d2,AS,b3⟩:∃d2 AS,ds=d2::AS:=by
  cases e:ds with
  |nil=>rw[e]at hk;cases hk
  |cons x y=>exact⟨x,y,rfl⟩
 subst b3;obtain⟨k2,r',b4,Ir,b9,hk⟩:=jY hk;cases hk;obtain⟨t,c0,Vk⟩:=a4.get (i:=0) (d:=d0) rfl;obtain⟨a3,b6,c5,_⟩:=k.list (jD B a);obtain⟨w2,a5,Vl⟩:=b6.get c0;have C:=k.pin (s.heap.objs.size,oI) (zz _ zg);obtain⟨_,c8,n2,rs,_,eS⟩:=k.zV (l:=(s.heap.push oI).objs.size) (xs:=[]) aW;cases rs;have W:=Walks.list (prog:=X.prog) (w:=X.w) (A:=X.A.in1) hh s.heap.objs.size l a2 a3.toArray;refine ZO PySem.F.entry_min_loop ?_;rw[Around.under_plainId QI _];show A7 _ X.A.in1 (seqItems? (.ref _) >>= _) _ _ _;refine zb (qk eS S ?_);show A7 _ X.A.in1 (tryCatch (pyNext (.ref s.heap.objs.size)) _ >>= _) _ _ _;have c4:0<a3.length:=(ae.mp a5).1;refine zb (Zs (W.item 0 _ _ _ (by rw[zi];exact c4) ⟨⟨oI,C.1,by rw[<-hoI],by rw[<-hoI];rfl⟩,c5.isList⟩ λv h' a9 hP c3 b5=>?_));have hv:v=w2:=by
  rw[jI,a5]at hP;cases hP;rfl
 subst hv;obtain⟨J,b0,Iu,a8⟩:=id c3.1;have c1:=(uc k).turned (h':=h') (it:=s.heap.objs.size) (t':=a9) (λb o g e=>b5 b o (by simpa using g) e) C.2.1 q (.inr a0) Vi Vj;have I3:L2.AU X ((s.heap.objs.size,J)::AN) σ (B7 H (s.heap.push oI).objs.size (.lst [])) { s with heap:=h',toks:=a9 }:=yH c1 b0 C.2.1 q G (λv z=>by rw[a8]at z;cases z);show A7 _ X.A.in1 (tryCatch (holding [v] (call (.ref f) [v])) _ >>= _) _ _ _;refine zb (Zs (Zp (qa (hT _ _ _ d0 m t v I3 a Vl (Vk.kp (.of a)) b4) (λx h he=>?_) λ_ _ hF=>hF.elim)));obtain⟨M,H2,I4,Yp,L,Yq⟩:=he;have j:=L _ _ (show(B7 H (s.heap.push oI).objs.size (.lst [])) (s.heap.push oI).objs.size=U (.lst []) from aW);obtain⟨_,d1,n3,c9,_,N⟩:=I4.zV j;have s1:=JJ h.heap (s.heap.push oI).objs.size (Obj.mapSeq λ_=>#[v,x]);obtain⟨c2,a1⟩:∃c2,(h.heap.update (s.heap.push oI).objs.size (Obj.mapSeq λ_=>#[v,x])).get? (s.heap.push oI).objs.size=U { cls:=.type "list",data:=.seq #[v,x] c2 }:=⟨_,get?_update_seq N λ_=>#[v,x]⟩;have I5:L2.AU X ((s.heap.objs.size,J)::AN) σ (B7 H2 (s.heap.push oI).objs.size (.lst [t,M])) { h with heap:=h.heap.update (s.heap.push oI).objs.size (Obj.mapSeq λ_=>#[v,x]) }:=I4.write (t':=h.toks) (by rw[j];trivial) (.inl S) (λb u g e=>(s1.2 b g).trans e) ⟨_,a1⟩ ⟨(show 2<=AA by decide),[v,x],c2,.cons Vl (.cons Yp .nil),a1⟩;show A7 _ X.A.in1 (updateSeq (s.heap.push oI).objs.size (λ_=>#[v,x]) >>= _) _ _ _;refine zb ?_;refine qr N S ?_;rw[P];exact ze ⟨plainId_quiet QI _,Vh a7 hT hC B a4 fS a2 c6 q a0 G Vi Vj hQ D 1 _ _ J d0 m t M b9 (by simp) I5 (mD (a.trans L) fS) Iu (by rw[a8]) aW (((Vk.kp (.of a)).kp (.of L)).kp (Kp.lst j)) (Yq.kp (Kp.lst j)) Ir g⟩
theorem Vn{f S a:A1}{H1:Hp}{a2:Dt}(b5:X.calm=true)(hT:w6 X σ H1 f fk)(hC:sI X .Gt bt rC)(hl:oK X.K H1 l vs)(a5:aG X.K H1 ds vs)(b8:H1 S=Z)(b3:l≠a)(d0:S≠a)(a6:a≠X.env.locals)(b0:X.s₀.heap.objs.size<=a)(c4:a∉X.fs)(Vi:∀x c,X.env.cells.lookup x=U c->c≠a)(Vj:∀p∈X.pn++AN,p.1≠a)(hR:∀v u H' s',L2.AU X AN σ H' s'->AV H1 H'->At v u->AW X.K H' a2 v->R (.ok (.ret u)) s'):
  ∀(r:O (Dt×Dt)) (j:Nat) (s:A2) (H:Hp) (i:AE) (d k:Dt) (t n:V),BH rC fk (ds.drop j)=U r->j<=ds.length->L2.AU X ((a,i)::AN) σ H s->AV H1 H->i.cls=.type "list_iterator" → i.data=.fields #[.ref l,.int j 0] →
   H S=U (.lst [t,n])->AW X.K H d t->AW X.K H k n->rC k=true->sH bt d k r=a2 →
   AF (d9 X) X.A (.builtin "max.loop" ⟨[.ref a,.ref f,.ref S],[]⟩) R s:=by
 have c0:(toString "max" ++ toString ".loop":String) ="max.loop":=by decide
 intro r
 induction r with
 |nil=>
  intro j s H i d k t n hk hj I m a4 a1 C rd rk ok g;have hh:X.A.in1.handled=Z:=I.ok.hd b5;have c9:ds.drop j=[]:=by
   cases e:ds.drop j with
   |nil=>rfl
   |cons x y=>
    rw[e]at hk;obtain⟨_,_,_,_,_,h⟩:=jY hk;cases h
  have M:j=ds.length:=by
   have:=congrArg av c9;rw[jn]at this;simp at this;omega
  obtain⟨AQ,rv,pl,hz⟩:=I.list (jD hl m);have a8:AQ.length=ds.length:=by rw[<-rv.length,a5.length]
  obtain⟨_,c1,n2,rs,_,eS⟩:=I.zV C;obtain⟨u1,u2,rfl,b7,b6⟩:=C6 rs;have gI:=(I.pin (a,i) (zz _ zg)).1;have W:=Walks.list (prog:=X.prog) (w:=X.w) (A:=X.A.in1) hh a l b3 AQ.toArray;refine ZO PySem.F.entry_max_loop ?_;rw[Around.under_plainId QN _];show A7 _ X.A.in1 (seqItems? (.ref S) >>= _) _ _ _;refine zb (qk eS rfl ?_);show A7 _ X.A.in1 (tryCatch (pyNext (.ref a)) _ >>= _) _ _ _;refine zb (Zs (W.done _ _ _ ⟨⟨i,gI,a4,by rw[a1,zi,a8,<-M]⟩,pl.isList⟩ λh' G P=>?_));have I1:L2.AU X AN σ H { s with heap:=h',toks:=G }:=(uc I).turned (it:=a) (λb o g e=>P b o (by simpa using g) e) (I.pin (a,i) (zz _ zg)).2.1 a6 (.inr b0) Vi Vj;have b9:=P S _ (by simpa using d0) eS;show A7 _ X.A.in1 (updateSeq S (λ_=>#[]) >>= _) _ _ _;refine zb ?_;refine qr b9 rfl (zb (qB (ze ?_)));have s1:=JJ h' S (Obj.mapSeq λ_=>(#[]:Array A0));obtain⟨c2,E⟩:∃c2,(h'.update S (Obj.mapSeq λ_=>(#[]:Array A0))).get? S=U { cls:=.type "list",data:=.seq #[] c2 }:=⟨_,get?_update_seq b9 λ_=>#[]⟩;have q:L2.AU X AN σ (B7 H S (.lst [])) { s with heap:=h'.update S (Obj.mapSeq λ_=>(#[]:Array A0)),toks:=G }:=I1.write (by rw[C];trivial) (.inl rfl) (λb u g e=>(s1.2 b g).trans e) ⟨_,E⟩ ⟨qi _,[],c2,.nil,E⟩;have e0:d=a2:=g;subst e0;exact hR t u1 _ _ q (mD m b8) b7 (rd.kp (Kp.lst C))
 |cons dk r ih=>
  intro j s H i d k t n hk hj I m a4 a1 C rd rk ok g;have hh:X.A.in1.handled=Z:=I.ok.hd b5;obtain⟨d2,AS,N⟩:∃d2 AS,ds.drop j=d2::AS:=by
   cases e:ds.drop j with
   |nil=>rw[e]at hk;cases hk
   |cons x y=>exact⟨x,y,rfl⟩
  have M:j<ds.length:=by
   have:=congrArg av N;rw[jn]at this;simp at this;omega
  have d5:ds[j]?=U d2:=by
   have:=congrArg (·[0]?) N;simpa using this
  have b4:ds.drop (j+1)=AS:=by
   have:=congrArg List.tail N;rw[List.tail_drop]at this;simpa using this
  rw[N]at hk;obtain⟨L,r',c8,Ir,a7,hk⟩:=jY hk;cases hk;obtain⟨v2,c3,Vk⟩:=a5.get d5;obtain⟨AQ,rv,pl,hz⟩:=I.list (jD hl m);have a8:AQ.length=ds.length:=by rw[<-rv.length,a5.length]
  obtain⟨w2,c5,Vl⟩:=rv.get c3;obtain⟨_,c1,n2,rs,_,eS⟩:=I.zV C;obtain⟨u1,u2,rfl,b7,b6⟩:=C6 rs;have pI:=I.pin (a,i) (zz _ zg);have W:=Walks.list (prog:=X.prog) (w:=X.w) (A:=X.A.in1) hh a l b3 AQ.toArray;refine ZO PySem.F.entry_max_loop ?_;rw[Around.under_plainId QN _];show A7 _ X.A.in1 (seqItems? (.ref S) >>= _) _ _ _;refine zb (qk eS rfl ?_);show A7 _ X.A.in1 (tryCatch (pyNext (.ref a)) _ >>= _) _ _ _;refine zb (Zs (W.item j _ _ _ (by rw[zi];omega) ⟨⟨i,pI.1,a4,a1⟩,pl.isList⟩ λv h' G hP d3 P=>?_));have hv:v=w2:=by
   rw[jI,c5]at hP;cases hP;rfl
  subst hv;obtain⟨a0,d1,Iu,a3⟩:=id d3.1;have I1:L2.AU X ((a,a0)::AN) σ H { s with heap:=h',toks:=G }:=yH ((uc I).turned (it:=a) (t':=G) (λb o g e=>P b o (by simpa using g) e) pI.2.1 a6 (.inr b0) Vi Vj) d1 pI.2.1 a6 c4 (λv z=>by rw[a3]at z;cases z);show A7 _ X.A.in1 (tryCatch (holding [v] (call (.ref f) [v])) _ >>= _) _ _ _;refine zb (Zs (Zp (qa (hT _ _ H d2 L v2 v I1 m Vl (Vk.kp (.of m)) c8) (λx J he=>?_) λ_ _ hF=>hF.elim)));obtain⟨kv,H2,q,Yp,B,Yq⟩:=he;have D:=B _ _ C;obtain⟨_,d6,n3,d8,_,Vm⟩:=q.zV D;have c6:=rd.kp (.of B);have a9:=rk.kp (.of B);show A7 _ X.A.in1 (tryCatch (holding [v,x] (richCompare .Gt x u2 >>= _)) _ >>= _) _ _ _;refine zb (Zs (Zp (zb (hC _ _ _ _ L k kv n x u2 _ _ q Yp b6 Yq a9 Ir ok ?_))));refine zb (Zp (qh ?_));refine zb (qB (ze ?_));simp only[sH]at g;by_cases Q:bt L k=true
  ·rw[zo Q]at g;simp only[Q,Z3];have s1:=JJ J.heap S (Obj.mapSeq λ_=>#[v,x]);obtain⟨c2,E⟩:∃c2,(J.heap.update S (Obj.mapSeq λ_=>#[v,x])).get? S=U { cls:=.type "list",data:=.seq #[v,x] c2 }:=⟨_,get?_update_seq Vm λ_=>#[v,x]⟩;have I3:L2.AU X ((a,a0)::AN) σ (B7 H2 S (.lst [v2,kv])) { J with heap:=J.heap.update S (Obj.mapSeq λ_=>#[v,x]) }:=q.write (t':=J.toks) (by rw[D];trivial) (.inl rfl) (λb u g e=>(s1.2 b g).trans e) ⟨_,E⟩ ⟨(show 2<=AA by decide),[v,x],c2,.cons Vl (.cons Yp .nil),E⟩;refine zb ?_;refine qr Vm rfl (zb (qB ?_));rw[c0];exact ze ⟨plainId_quiet QN _,ih (j+1) _ _ a0 d2 L v2 kv (by rw[b4];exact a7) M I3 (mD (m.trans B) b8) Iu (by rw[a3]) aW (((Vk.kp (.of m)).kp (.of B)).kp (Kp.lst D)) (Yq.kp (Kp.lst D)) Ir g⟩
  ·rw[zC Q]at g;have d4:bt L k=false:=by simpa using Q
   simp only[d4,zw,ZN];refine zb (qB ?_);rw[c0];exact ze ⟨plainId_quiet QN _,ih (j+1) _ _ a0 d k t n (by rw[b4];exact a7) M q (m.trans B) Iu (by rw[a3]) D c6 a9 ok g⟩
theorem Iw(a v:A0):argsOk "max" ⟨[a],[(Str.ofString "key",v)]⟩:=by unfold argsOk;kernel_rfl
theorem Ys{f:A1}{a6 d0 m:Dt}{D:O (Dt×Dt)}(I:L2.AU X AN σ H s)(a7:X.calm=true)(hT:w6 X σ H f fk)(hC:sI X .Gt bt rC)(B:oK X.K H l vs)(a4:aG X.K H ds vs)(hk:BH rC fk ds=U ((d0,m)::D))(g:sH bt d0 m D=a6)(hQ:∀v u H' s',L2.AU X AN σ H' s'->AV H H'->At v u->AW X.K H' a6 v->Q u s'):
  A7 (d9 X) X.A (call (.builtin "max") [.ref l] [(Str.ofString "key", .ref f)]) Q E s:=by
 have P:(toString "max" ++ toString ".loop":String) ="max.loop":=by decide
 have hh:X.A.in1.handled=Z:=I.ok.hd a7;obtain⟨AQ,rv,pl,hz⟩:=I.list B;have b7:l<s.heap.objs.size:=by obtain⟨o,n,e,_⟩:=pl;exact zv e
 refine kmk_tree PySem.F.kind_max PySem.F.plain_max PySem.F.entry_max (Iw _ _) ?_;show A7 _ X.A.in1 (Builtin.Builtins.bindParams "max" ["key","default"] 0 ⟨[],[(Str.ofString "key", .ref f)]⟩ >>= _) _ _ s;refine zb (k9 (show Builtin.Builtins.bindParams "max" ["key","default"] 0 ⟨[],[(Str.ofString "key", .ref f)]⟩=pure [U (.ref f),Z] from S) ?_);refine zb (ze ?_);refine zb (kf pl.isList ?_);refine zb (kQ ?_ (qi _));rw[P];generalize hoI:({ cls:=.type "list_iterator",data:=.fields #[.ref l,.int 0 0] }:AE)=oI;have hS:(s.heap.push oI).objs.size=s.heap.objs.size+1:=size_push' ..;have b8:(s.heap.push oI).get? s.heap.objs.size=U oI:=zt _ (by rw[<-hoI];rfl);have q:s.heap.objs.size≠X.env.locals:=be I.lt;have a0:X.s₀.heap.objs.size<=s.heap.objs.size:=I.sz;have G:s.heap.objs.size∉X.fs:=I.Z6 (zl _);have Vi:∀x c,X.env.cells.lookup x=U c->c≠s.heap.objs.size:=λx c e=>by obtain⟨v,o,ho,_⟩:=I.cell x c e;exact zD (zv ho)
 have Vj:∀p∈X.pn++AN,p.1≠s.heap.objs.size:=λp hp=>zD (zv (I.pin p hp).1);have a2:l≠s.heap.objs.size:=zD b7;have c6:(s.heap.push oI).objs.size≠s.heap.objs.size:=by rw[hS];exact Nat.succ_ne_self _
 have fI:H s.heap.objs.size=Z:=I.hok.fresh (zl _);have fS:H (s.heap.push oI).objs.size=Z:=I.hok.fresh (by rw[hS];exact ky _);have I1:L2.AU X ((s.heap.objs.size,oI)::AN) σ H { s with heap:=s.heap.push oI }:=yH (I.kept (t':=s.toks) λb o e=>zd _ e) b8 fI q G (λv z=>by rw[<-hoI]at z;cases z);have k:L2.AU X ((s.heap.objs.size,oI)::AN) σ (B7 H (s.heap.push oI).objs.size (.lst [])) { s with heap:=(s.heap.push oI).push { cls:=.type "list",data:=.seq #[] } }:=I1.laid (t':=s.toks) (λb o e=>zd _ e) (zl _) ⟨qi _,[],0,.nil,zt _ rfl⟩;have a:AV H (B7 H (s.heap.push oI).objs.size (.lst [])):=bD fS;refine ze ⟨plainId_quiet QN _,?_⟩;obtain⟨d2,AS,b3⟩:∃d2 AS,ds=d2::AS:=by
  cases e:ds with
  |nil=>rw[e]at hk;cases hk
  |cons x y=>exact⟨x,y,rfl⟩
 subst b3;obtain⟨k2,r',b4,Ir,b9,hk⟩:=jY hk;cases hk;obtain⟨t,c0,Vk⟩:=a4.get (i:=0) (d:=d0) rfl;obtain⟨a3,b6,c5,_⟩:=k.list (jD B a);obtain⟨w2,a5,Vl⟩:=b6.get c0;have C:=k.pin (s.heap.objs.size,oI) (zz _ zg);obtain⟨_,c8,n2,rs,_,eS⟩:=k.zV (l:=(s.heap.push oI).objs.size) (xs:=[]) aW;cases rs;have W:=Walks.list (prog:=X.prog) (w:=X.w) (A:=X.A.in1) hh s.heap.objs.size l a2 a3.toArray;refine ZO PySem.F.entry_max_loop ?_;rw[Around.under_plainId QN _];show A7 _ X.A.in1 (seqItems? (.ref _) >>= _) _ _ _;refine zb (qk eS S ?_);show A7 _ X.A.in1 (tryCatch (pyNext (.ref s.heap.objs.size)) _ >>= _) _ _ _;have c4:0<a3.length:=(ae.mp a5).1;refine zb (Zs (W.item 0 _ _ _ (by rw[zi];exact c4) ⟨⟨oI,C.1,by rw[<-hoI],by rw[<-hoI];rfl⟩,c5.isList⟩ λv h' a9 hP c3 b5=>?_));have hv:v=w2:=by
  rw[jI,a5]at hP;cases hP;rfl
 subst hv;obtain⟨J,b0,Iu,a8⟩:=id c3.1;have c1:=(uc k).turned (h':=h') (it:=s.heap.objs.size) (t':=a9) (λb o g e=>b5 b o (by simpa using g) e) C.2.1 q (.inr a0) Vi Vj;have I3:L2.AU X ((s.heap.objs.size,J)::AN) σ (B7 H (s.heap.push oI).objs.size (.lst [])) { s with heap:=h',toks:=a9 }:=yH c1 b0 C.2.1 q G (λv z=>by rw[a8]at z;cases z);show A7 _ X.A.in1 (tryCatch (holding [v] (call (.ref f) [v])) _ >>= _) _ _ _;refine zb (Zs (Zp (qa (hT _ _ _ d0 m t v I3 a Vl (Vk.kp (.of a)) b4) (λx h he=>?_) λ_ _ hF=>hF.elim)));obtain⟨M,H2,I4,Yp,L,Yq⟩:=he;have j:=L _ _ (show(B7 H (s.heap.push oI).objs.size (.lst [])) (s.heap.push oI).objs.size=U (.lst []) from aW);obtain⟨_,d1,n3,c9,_,N⟩:=I4.zV j;have s1:=JJ h.heap (s.heap.push oI).objs.size (Obj.mapSeq λ_=>#[v,x]);obtain⟨c2,a1⟩:∃c2,(h.heap.update (s.heap.push oI).objs.size (Obj.mapSeq λ_=>#[v,x])).get? (s.heap.push oI).objs.size=U { cls:=.type "list",data:=.seq #[v,x] c2 }:=⟨_,get?_update_seq N λ_=>#[v,x]⟩;have I5:L2.AU X ((s.heap.objs.size,J)::AN) σ (B7 H2 (s.heap.push oI).objs.size (.lst [t,M])) { h with heap:=h.heap.update (s.heap.push oI).objs.size (Obj.mapSeq λ_=>#[v,x]) }:=I4.write (t':=h.toks) (by rw[j];trivial) (.inl S) (λb u g e=>(s1.2 b g).trans e) ⟨_,a1⟩ ⟨(show 2<=AA by decide),[v,x],c2,.cons Vl (.cons Yp .nil),a1⟩;show A7 _ X.A.in1 (updateSeq (s.heap.push oI).objs.size (λ_=>#[v,x]) >>= _) _ _ _;refine zb ?_;refine qr N S ?_;rw[P];exact ze ⟨plainId_quiet QN _,Vn a7 hT hC B a4 fS a2 c6 q a0 G Vi Vj hQ D 1 _ _ J d0 m t M b9 (by simp) I5 (mD (a.trans L) fS) Iu (by rw[a8]) aW (((Vk.kp (.of a)).kp (.of L)).kp (Kp.lst j)) (Yq.kp (Kp.lst j)) Ir g⟩
end
def Kv(bt:Dt->Dt->Bool)(rC:Dt->Bool)(fe fb:Ev->Y Bx)(is:O Nat):Ev->Y Bx:=λρ=>(fe ρ).bind λb=>(lM b).bind λds=>(BH rC (λd=>fb (U (.z d)::jr is ρ)) ds).bind fun
 |(d,k)::r=>U (.z (sH bt d k r))
 |[]=>Z
section
variable{body:Expr}{Yt p kpos:Pos}{xs:AZ}{c P:A1}{q:AJ}
theorem Kw{f:A1}(j:X.calm=true)(hd:X.A.depth<recursionLimit)(O:Gx X scope cl x xs is)(g:∀pm c ct u,bindArgs (kla_fn "<lambda>" q params body scope cl pm c ct) ⟨[u],[]⟩=pure [(x,u)])(i:∀f c' s H,QV (DB X X.A.in1 (x::xs) (envX q scope s.heap.objs.size f (.ref c') cl) s H) body fb)(E:bB X.K H0 H σ ρ)(L:Gv H f q params body scope cl pm):
  w6 X σ H f λd=>fb (U (.z d)::jr is ρ):=λAN s H' d k v u I a b l e=>
 qa (Yo I O (show X.A.in1.frames=U X.stack from I.ok.frames) (show X.A.in1.handled=Z from I.ok.hd j) (show X.A.in1.depth<recursionLimit from hd) (L.same a) (g pm) (λf c' s H=>(i f c' s H).run) (E.grow a) b l e)
  (λu' s' ⟨v',H'',I',r',s'',_,r''⟩=>⟨v',H'',I',r',s'',r''⟩) λ_ _ h=>h
theorem Rt(m:X.calm=true)(hd:X.A.depth<recursionLimit)(hC:sI X .Lt bt rC)(W:Gl X "min")(N:X.mg "min"=Z)(C:AH "min"=U (.builtin "min"))(O:Gx X scope cl x xs is)(hK:Kr X.K c P q)(a0:X.env.code=.ref c)(hq:X.env.qual++("<lambda>":AJ)=q)
  (F:defaultsOf params X.env=([],[])) (a2:∀pm n ct u,bindArgs (kla_fn "<lambda>" q params body scope cl pm n ct) ⟨[u],[]⟩=pure [(x,u)]) (J:QV X e fe)
  (D:∀f c' s H,QV (DB X X.A.in1 (x::xs) (envX q scope s.heap.objs.size f (.ref c') cl) s H) body fb)
  (hs:A9 [e] X.env=(false,eval e X.env)::A9 [] X.env:=by rfl) (h1:AD pos (A9 [e] X.env)=(false,eval e X.env)::AD pos (A9 [] X.env):=by rfl) (h2:(AD pos (A9 [e] X.env)).any (·.1)=false:=by rfl) (hn:("min":AJ) ≠ "__name__":=by decide) (M:(("min":AJ)==("__debug__":AJ))=false:=by decide):
  QV X (.Call (.Name "min" p) [e] [⟨U "key", .Lambda params body scope Yt,kpos⟩] pos) (Kv bt rC fe fb is):=⟨λAN s σ H Q I h=>by
 obtain⟨H0,ρ,b,E,g,qq⟩:=h;unfold Kv at g;obtain⟨b1,e1,g⟩:=AT g;obtain⟨ds,ed,g⟩:=AT g;obtain⟨kr,ek,g⟩:=AT g;cases kr with
 |nil=>cases g
 |cons G r=>
  obtain⟨d,k⟩:=G;cases g;refine QR (Aw I W N C ?_ hn M);refine callWith_kw (jO (tW J.run yj hs pos AN s σ H (λvs H1=>∃v,vs=[v]/\AV H H1/\aQ X.K H1 b1 v) I ⟨H0,ρ,b1,E,e1,λv H' B _ j=>⟨v,rfl,B,j⟩⟩) λus s1 hu=>?_) h1 h2 S rfl;obtain⟨vs,H1,o,r1,v,rfl,l,j⟩:=hu;obtain⟨u,rfl,y⟩:=BA r1;obtain⟨a,ws,rfl,sq,w⟩:=j.zG ed;cases y;show A7 _ _ (evalAll [do let v <-eval (.Lambda params body scope Yt) X.env;standAt pos;pure v]) _ _ s1;refine wpAny_evalAll_cons (zb (Ku o hK a0 hq F O.clos λf H2 s2 z i hf L=>zb (kP (ze (wpAny_evalAll_nil ?_)))));show A7 _ _ (call (.builtin "min") [.ref a] [(Str.ofString "key", .ref f)]) _ _ _;exact Yr z m (Kw m hd O a2 D ((E.grow l).grow i) L) hC (jD sq i) (w.kp (.of i)) ek S λv u H' s' t a1 rv rp=>⟨v,H',t,rv,qq v H' ((l.trans i).trans a1) trivial rp⟩⟩
theorem Ru(m:X.calm=true)(hd:X.A.depth<recursionLimit)(hC:sI X .Gt bt rC)(W:Gl X "max")(N:X.mg "max"=Z)(C:AH "max"=U (.builtin "max"))(O:Gx X scope cl x xs is)(hK:Kr X.K c P q)(a0:X.env.code=.ref c)(hq:X.env.qual++("<lambda>":AJ)=q)
  (F:defaultsOf params X.env=([],[])) (a2:∀pm n ct u,bindArgs (kla_fn "<lambda>" q params body scope cl pm n ct) ⟨[u],[]⟩=pure [(x,u)]) (J:QV X e fe)
  (D:∀f c' s H,QV (DB X X.A.in1 (x::xs) (envX q scope s.heap.objs.size f (.ref c') cl) s H) body fb)
  (hs:A9 [e] X.env=(false,eval e X.env)::A9 [] X.env:=by rfl) (h1:AD pos (A9 [e] X.env)=(false,eval e X.env)::AD pos (A9 [] X.env):=by rfl) (h2:(AD pos (A9 [e] X.env)).any (·.1)=false:=by rfl) (hn:("max":AJ) ≠ "__name__":=by decide) (M:(("max":AJ)==("__debug__":AJ))=false:=by decide):
  QV X (.Call (.Name "max" p) [e] [⟨U "key", .Lambda params body scope Yt,kpos⟩] pos) (Kv bt rC fe fb is):=⟨λAN s σ H Q I h=>by
 obtain⟨H0,ρ,b,E,g,qq⟩:=h;unfold Kv at g;obtain⟨b1,e1,g⟩:=AT g;obtain⟨ds,ed,g⟩:=AT g;obtain⟨kr,ek,g⟩:=AT g;cases kr with
 |nil=>cases g
 |cons G r=>
  obtain⟨d,k⟩:=G;cases g;refine QR (Aw I W N C ?_ hn M);refine callWith_kw (jO (tW J.run yj hs pos AN s σ H (λvs H1=>∃v,vs=[v]/\AV H H1/\aQ X.K H1 b1 v) I ⟨H0,ρ,b1,E,e1,λv H' B _ j=>⟨v,rfl,B,j⟩⟩) λus s1 hu=>?_) h1 h2 S rfl;obtain⟨vs,H1,o,r1,v,rfl,l,j⟩:=hu;obtain⟨u,rfl,y⟩:=BA r1;obtain⟨a,ws,rfl,sq,w⟩:=j.zG ed;cases y;show A7 _ _ (evalAll [do let v <-eval (.Lambda params body scope Yt) X.env;standAt pos;pure v]) _ _ s1;refine wpAny_evalAll_cons (zb (Ku o hK a0 hq F O.clos λf H2 s2 z i hf L=>zb (kP (ze (wpAny_evalAll_nil ?_)))));show A7 _ _ (call (.builtin "max") [.ref a] [(Str.ofString "key", .ref f)]) _ _ _;exact Ys z m (Kw m hd O a2 D ((E.grow l).grow i) L) hC (jD sq i) (w.kp (.of i)) ek S λv u H' s' t a1 rv rp=>⟨v,H',t,rv,qq v H' ((l.trans i).trans a1) trivial rp⟩⟩
def DJ:Dt->Bool
 |.int _=>true
 |_=>false
def D3:Dt->Dt->Bool
 |.int a,.int b=>decide (b<a)
 |_,_=>false
theorem Yu:sI X .Gt D3 DJ:=λAN σ H s d c j i k l Q E I g a p1 p2 e b h=>by
 cases d<;>first|(cases e;done)|skip;cases c<;>first|(cases b;done)|skip;simp only[AW]at p1 p2;subst p1 p2;obtain⟨t,rfl⟩:=g;obtain⟨f,rfl⟩:=a;have:=PyProof.Rows.gt_int (prog:=X.prog) (w:=X.w) (A:=X.A.in1) (E:=E) (Q:=Q) (t:=t) (u:=f) h;exact this
def Yv:Dt->Bool
 |.tup [.int _,.str _]=>true
 |_=>false
def DO(a b:Dt):Bool:=match nQ a,nQ b with
 |some ks,U ls=>cV ks ls
 |_,_=>false
theorem Qa(h:Yv d=true):∃i x,d=.tup [.int i,.str x]:=by
 unfold Yv at h;split at h
 ·exact⟨_,_,rfl⟩
 ·cases h
theorem Vo(C:X.A.units+100<cLine):sI X .Lt DO Yv:=λAN σ H s z u t o B D Q E I n c p1 p2 e k h=>by
 obtain⟨i,x,rfl⟩:=Qa e;obtain⟨j,y,rfl⟩:=Qa k;have e1:nQ (.tup [.int i,.str x])=U [.inl i,.inr x]:=rfl;have e2:nQ (.tup [.int j,.str y])=U [.inl j,.inr y]:=rfl;unfold DO at h;rw[e1,e2]at h;rw[BL e1]at p1;rw[BL e2]at p2;simp only[Co,AW]at p1 p2;obtain⟨p,vs,rfl,sq,d⟩:=p1;obtain⟨p',q,rfl,g,f⟩:=p2;cases n;cases c;obtain⟨AQ,b,t1⟩:=Uu I sq;obtain⟨v,a,t2⟩:=Uu I g;rw[tZ d]at b;rw[tZ f]at a;have m:X.A.in1.units<cLine:=by
  show X.A.units+1<cLine;omega
 have l:Um [Sum.inl i,Sum.inr x] [Sum.inl j,Sum.inr y]:=⟨rfl,rfl,trivial⟩;have:=sG (prog:=X.prog) (w:=X.w) (E:=E) (Q:=Q) t1 t2 (Ur X b) (Ur X a) l m h;exact this
end
end P1
namespace P1
open L2
theorem Cp(k:AJ):∀{vs:O A0} {ys:AZ},StrsAre vs ys->vs.countP (isStrOf k)=ys.count k
 |_,_,.nil=>rfl
 |_,_,.cons n u h=>by
  rw[ck,List.count_cons,Cp k h];rfl
section
variable{o:Expr}
theorem Rv:Eg X "list.count" (λx xs H Q=>∃a vs ds ys k,x=.ref a/\xs=[.str k]/\oK X.K H a vs/\aG X.K H ds vs/\nO ds=U ys/\Q (.int (ys.count k:Nat)) H):=by
 intro AN s σ H x xs v us Q I j l h;obtain⟨a,vs,ds,ys,k,rfl,rfl,sq,i,b,q⟩:=h;obtain rfl:v=Value.ref a:=j;obtain⟨u,rfl,m⟩:=BA l;obtain⟨t,rfl⟩:=m;obtain⟨AQ,f,pl,p⟩:=I.list sq;obtain⟨⟨w,e,o,sl⟩,g,c,n,d⟩:=pl.isList;simp only at c d;subst c d;obtain⟨rfl,_⟩:=jU i b;have hi:=iY f;refine call_meets F.slot_list_count ⟨_,g,rfl⟩ F.entry_list_count (F.args_list_count_2 _ _) (SeqAt.list_countAt a AQ.toArray n e sl (.str k t) (isStrOf k)) ⟨g,λy b=>(eq_isStrOf k t hi y (by simpa using b)).at _ _,?_⟩;rw[show AQ.toArray.toList=AQ from rfl,Cp k hi];exact⟨.int _,H,I.tok _,⟨_,rfl⟩,q⟩
def ql:Bx->Bx->Y Bx
 |b,.z (.str k)=>(lM b).bind λds=>(nO ds).bind λys=>U (.z (.int (ys.count k:Nat)))
 |_,_=>Z
theorem Gy(i:QV X o fo)(h:QV X e fe)(j:attributeBase o "count" X.env (eval o X.env)=eval o X.env:=by rfl)(g:((AD cpos (A9 [e] X.env)).all (λx=>!x.1)&&(backToKw cpos (keywordEach [] X.env)).all (λx=>x.1.isSome)&&decide (([e]:O Expr).length+([]:O AC).length+(if([]:O AC).isEmpty then 0 else 1)<30))=true:=by rfl)(l:(apos.endLine==cpos.line)=true:=by rfl)(hs:A9 [e] X.env=(false,eval e X.env)::A9 [] X.env:=by rfl):QV X (.Call (.Attribute o "count" apos) [e] [] cpos) (b2 ql fo fe):=
 ⟨LK (Ou (T :="list") F.plainAttrs_list F.slot_list_count F.type_list_count Rv i.run (tW h.run yj hs) j g l hs S) λσ H Q q=>by
  obtain⟨H0,ρ,c,E,e,q⟩:=q;obtain⟨a,ea,e⟩:=AT e;obtain⟨b,eb,e⟩:=AT e;unfold ql at e;split at e
  ·rename_i k;obtain⟨ds,d,e⟩:=AT e;obtain⟨ys,n,e⟩:=AT e;cases e;refine⟨H0,ρ,_,E,ea,λv H1 s1 w m=>?_⟩;obtain⟨p,vs,rfl,sq,s⟩:=m.zG d;refine⟨.inl ⟨rfl,vs,sq⟩,H0,ρ,_,E.grow s1,eb,λt H2 s2 u f=>?_⟩;obtain⟨rfl,_⟩:=HN f;exact⟨p,vs,ds,ys,k,rfl,rfl,jD sq s2,s.kp (.of s2),n,q _ _ (s1.trans s2) trivial (by simp only[aQ,AW])⟩
  ·cases e⟩
end
def m7(b:AJ->AJ->Bool):AJ->AZ->AJ
 |y,[]=>y
 |y,z::r=>if b z y=true then m7 b z r else m7 b y r
theorem vO(b:AJ->AJ->Bool)(z:AJ):∀(l:AZ) (y:AJ),m7 b y (l++[z])=if b z (m7 b y l)=true then z else m7 b y l
 |[],y=>rfl
 |x::l,y=>by
  simp only[kM,m7];split
  ·exact vO b z l x
  ·exact vO b z l y
theorem ud(b:AJ->AJ->Bool):∀(l:AZ) (y:AJ),m7 b y l∈y::l
 |[],y=>zg
 |x::l,y=>by
  simp only[m7];split
  ·exact zh _ (ud b l x)
  ·rcases List.mem_cons.mp (ud b l y)with h|h
   ·rw[h];exact zg
   ·exact zh _ (zh _ h)
theorem Cq(b:AJ->AJ->Bool)(y:AJ)(r:AZ):∀j,j<=r.length->(y::r).getD (argBest (λi j=>b ((y::r).getD i "") ((y::r).getD j "")) j) ""=m7 b y (r.take j)
 |0,_=>rfl
 |j+1,h=>by
  have a:=Cq b y r j ();have e:(y::r).getD (j+1) ""=r[j]:=by simp[show j<r.length by omega]
  rw[kF (),vO,argBest];rw[a,e];split
  ·rw[e]
  ·rw[a]
def Cr:O Bx->Y Bx
 |[b]=>(lM b).bind λds=>(nO ds).bind fun
  |y::r=>U (.z (.str (m7 (λx z=>decide (x.cps.toList<z.cps.toList)) y r)))
  |[]=>Z
 |_=>Z
theorem Qc(E:X.calm=true):jh X (.builtin "min") Cr:=by
 intro AN s σ H xs us Q I D h;obtain⟨bs,c,B,e,q⟩:=h;unfold Cr at e;split at e
 ·obtain⟨ds,m,e⟩:=AT e;obtain⟨ys,F,e⟩:=AT e;cases ys with
  |nil=>cases e
  |cons y r=>
   cases e;obtain⟨v,rfl,J⟩:=BM B;obtain⟨a,vs,rfl,sq,G⟩:=J.zG m;obtain⟨u,rfl,K⟩:=BA D;cases K;obtain⟨AQ,g,pl,M⟩:=I.list sq;obtain⟨rfl,p⟩:=jU G F;have hi:=iY g;have j:a<s.heap.objs.size:=by obtain⟨o,n,e,_⟩:=pl;exact zv e
   have L:AQ.length=r.length+1:=by rw[<-g.length];simp
   have l:∀(i:Nat) (v:A0),AQ.toArray[i]?=U v->∃t,v=.str ((y::r).getD i "") t:=λi v d=>by
    rw[jI]at d;obtain⟨z,t,e1,e2⟩:=rZ hi i v d;exact⟨t,by rw[e2,k8,e1];rfl⟩
   refine call_min_walk (kf pl.isList ?_);refine⟨s.heap.objs.size,_,_,_,_,_,_,rfl,Walks.list (by show X.A.handled=Z;exact I.ok.hd E) s.heap.objs.size a (zD j) AQ.toArray,⟨⟨_,zt _ rfl,rfl,rfl⟩,pl.isList.push _⟩,?_,by rw[zi];omega,Us (λi=>(y::r).getD i "") l,λv h' tk C k=>?_⟩
   ·intro b f;have w:(s.heap.push { cls:=.type "list_iterator",data:=.fields #[.ref a,.int 0 0] }).objs.size=s.heap.objs.size+1:=ZZ ..;simp only[jb,Qr,or_false]at f;show b<(s.heap.push { cls:=.type "list_iterator",data:=.fields #[.ref a,.int 0 0] }).objs.size;rw[w];rcases f with rfl|rfl
    ·exact JP _
    ·exact Jn j
   ·have keep:∀b o,s.heap.get? b=U o->h'.get? b=U o:=λb o e=>k b o (λf=>QA _ (by have:=zv e;rw[ah.mp f]at this;exact this)) (zd _ e);obtain⟨t,d⟩:=l _ _ C;have e1:AQ.toArray.size-1=r.length:=by rw[zi];omega
    have e2:=Cq (λx z=>decide (x.cps.toList<z.cps.toList)) y r r.length (zl _);rw[cm]at e2;rw[e1]at d;have e3:v=.str (m7 (λx z=>decide (x.cps.toList<z.cps.toList)) y r) t:=d.trans (by rw[<-e2]);exact⟨.str _,H,I.kept (t':=tk) keep,⟨t,e3⟩,q _ H (AV.refl H) trivial ⟨rfl,p _ (ud _ r y)⟩⟩
 ·cases e
def Cu:O Bx->Y Bx
 |[b]=>(lM b).bind λds=>(nO ds).bind fun
  |y::r=>U (.z (.str (m7 (λx z=>decide (z.cps.toList<x.cps.toList)) y r)))
  |[]=>Z
 |_=>Z
theorem Qd(E:X.calm=true):jh X (.builtin "max") Cu:=by
 intro AN s σ H xs us Q I D h;obtain⟨bs,c,B,e,q⟩:=h;unfold Cu at e;split at e
 ·obtain⟨ds,m,e⟩:=AT e;obtain⟨ys,F,e⟩:=AT e;cases ys with
  |nil=>cases e
  |cons y r=>
   cases e;obtain⟨v,rfl,J⟩:=BM B;obtain⟨a,vs,rfl,sq,G⟩:=J.zG m;obtain⟨u,rfl,K⟩:=BA D;cases K;obtain⟨AQ,g,pl,M⟩:=I.list sq;obtain⟨rfl,p⟩:=jU G F;have hi:=iY g;have j:a<s.heap.objs.size:=by obtain⟨o,n,e,_⟩:=pl;exact zv e
   have L:AQ.length=r.length+1:=by rw[<-g.length];simp
   have l:∀(i:Nat) (v:A0),AQ.toArray[i]?=U v->∃t,v=.str ((y::r).getD i "") t:=λi v d=>by
    rw[jI]at d;obtain⟨z,t,e1,e2⟩:=rZ hi i v d;exact⟨t,by rw[e2,k8,e1];rfl⟩
   refine call_max_walk (kf pl.isList ?_);refine⟨s.heap.objs.size,_,_,_,_,_,_,rfl,Walks.list (by show X.A.handled=Z;exact I.ok.hd E) s.heap.objs.size a (zD j) AQ.toArray,⟨⟨_,zt _ rfl,rfl,rfl⟩,pl.isList.push _⟩,?_,by rw[zi];omega,CI (λi=>(y::r).getD i "") l,λv h' tk C k=>?_⟩
   ·intro b f;have w:(s.heap.push { cls:=.type "list_iterator",data:=.fields #[.ref a,.int 0 0] }).objs.size=s.heap.objs.size+1:=ZZ ..;simp only[jb,Qr,or_false]at f;show b<(s.heap.push { cls:=.type "list_iterator",data:=.fields #[.ref a,.int 0 0] }).objs.size;rw[w];rcases f with rfl|rfl
    ·exact JP _
    ·exact Jn j
   ·have keep:∀b o,s.heap.get? b=U o->h'.get? b=U o:=λb o e=>k b o (λf=>QA _ (by have:=zv e;rw[ah.mp f]at this;exact this)) (zd _ e);obtain⟨t,d⟩:=l _ _ C;have e1:AQ.toArray.size-1=r.length:=by rw[zi];omega
    have e2:=Cq (λx z=>decide (z.cps.toList<x.cps.toList)) y r r.length (zl _);rw[cm]at e2;rw[e1]at d;have e3:v=.str (m7 (λx z=>decide (z.cps.toList<x.cps.toList)) y r) t:=d.trans (by rw[<-e2]);exact⟨.str _,H,I.kept (t':=tk) keep,⟨t,e3⟩,q _ H (AV.refl H) trivial ⟨rfl,p _ (ud _ r y)⟩⟩
 ·cases e
end P1
namespace P1
open L2 S1
def sJ(h:A6)(k:O AY)(v:A0):Prop:=∃(a:A1) (o:AE) (x:AJ) (t:Tok) (r:O A0) (n:Nat),v=.ref a/\h.get? a=U o/\o.cls=.type "tuple" ∧ o.data=.seq (Value.str x t::r).toArray n/\k=[.inr x]
theorem sJ.keep{h':A6}{k:O AY}{v:A0}(q:sJ h k v)(kp:∀c o,h.get? c=U o->h'.get? c=U o):sJ h' k v:=by
 obtain⟨a,o,x,t,r,n,e,g,c⟩:=q;exact⟨a,o,x,t,r,n,e,kp _ _ g,c⟩
theorem ZM(k l:O AY)(v:A0)(p:sJ h k v)(q:sJ h l v):k=l:=by
 obtain⟨a,o,x,t,r,n,rfl,g,c,d,rfl⟩:=p;obtain⟨m,o',s,j,f,i,e',e,c',b,rfl⟩:=q;cases e';rw[g]at e;cases e;rw[d]at b;simp at b;rw[b.1.1.1]
theorem Cb{v:A0}{Q:Bool->A2->Prop}(h:Q true s):A7 (A8 prog w) A (eqBool v v) Q E s:=by
 unfold eqBool;refine Zp ?_;rw[zo (by simp)];exact zb (JE (ze h))
theorem Gz(fb:Bool):∀(AQ:O A0) (i:Nat) (R:Y Bool×Unit->A2->Prop),R (Z,eg) s->A7 (A8 prog w) A (forIn ((AQ.zip AQ).zipIdx i) ((Z,eg):Y Bool×Unit) (turn fb)) R E s
 |[],i,R,h=>ze h
 |v::AQ,i,R,h=>by
  rw[QU,dQ,List.forIn_cons];refine zb ?_;show A7 _ _ (eqBool v v >>= _) _ _ _;refine zb (Cb ?_);simp only[kn,zw,ZN];exact ze (Gz fb AQ (i+1) R h)
theorem Yw{k l:O AY}{v:A0}{Q:Bool->A2->Prop}(p:sJ s.heap k u)(q:sJ s.heap l v)(hd:u=v\/k≠l)(h:Q (cV k l) s):A7 (A8 prog w) A (keyLt' (tuples' true) u v) Q E s:=by
 by_cases e:u=v
 ·subst e;have:=ZM _ _ _ p q;subst this;rw[mR]at h;obtain⟨a,o,x,t,r,n,rfl,g,c,d,rfl⟩:=p;rw[Gf];refine zb (listItems_at g d (zb (listItems_at g d ?_)));refine zb (Gz true (Value.str x t::r) 0 _ ?_);refine ze ?_;simpa using h
 ·have C:=hd.resolve_left e;obtain⟨a,o,x,t,r,n,rfl,g,c,d,rfl⟩:=p;obtain⟨F,o',b,f,m,D,rfl,y,c',B,rfl⟩:=q;have hx:(Sum.inr x:AY)≠Sum.inr b:=λz=>C (by rw[z]);rw[Gf];refine zb (listItems_at g d (zb (listItems_at y B ?_)));show A7 _ _ (forIn (((Value.str x t::r).zip (Value.str b f::m)).zipIdx 0) ((Z,eg):Y Bool×Unit) (turn true) >>= _) _ _ _;refine zb ?_;rw[QU,dQ,List.forIn_cons];refine zb ?_;show A7 _ _ (eqBool (Value.str x t) (Value.str b f) >>= _) _ _ _;have j:fQ (Sum.inr x) (Value.str x t)=true:=by simp[fQ,Value.isStrOf]
  have i:fQ (Sum.inr b) (Value.str b f)=true:=by simp[fQ,Value.isStrOf]
  refine zb (C4 j i ?_);simp only[hx,ki,kA,Z3];refine zb (N4 S j i (ze (ze (ze ?_))));simp only[cV,zC hx]at h;exact h
theorem M9{k:AY}{ks:O AY}{v:A0}(q:sJ s.heap (k::ks) v):∃u,fQ k u=true/\∀(e:BE) (b:Y A0->A2->Prop),b (U u) s->A7 (A8 prog w) A (firstOfTuple' v) b e s:=by
 obtain⟨a,o,x,t,r,n,rfl,g,c,d,p⟩:=q;cases p;refine⟨.str x t,by simp[fQ,Value.isStrOf],λe b h=>?_⟩;rw[Uo];refine zb (Q4 (T :="tuple") ⟨o,g,c⟩ ?_);rw[zC ()];exact zb (listItems_at g d (ze h))
theorem Nb{vs:O A0}{Q:SortKind->A2->Prop}(i:AI (sJ s.heap) iz vs)(g:∀k∈iz,k≠[])(n:∀k∈iz,∀l∈iz,Um k l)(h2:1<=vs.length)(h:Q (tuples' true) s):A7 (A8 prog w) A (keyKind' vs.toArray) Q E s:=by
 have step:∀(iz:O (O AY)) (vs:O A0),AI (sJ s.heap) iz vs->(∀k∈iz,k≠[])->∃us:O A0,AI (λv u=>∀(c:BE) (a:Y A0->A2->Prop),a (U u) s->A7 (A8 prog w) A (firstOfTuple' v) a c s) vs us/\AI (λ(k:O AY) u=>∃x r,k=x::r/\fQ x u=true) iz us:=by
  intro iz vs i
  induction i with
  |nil=>intro _;exact⟨[],.nil,.nil⟩
  |@cons k v iz vs q t d=>
   intro g;obtain⟨us,p1,p2⟩:=d λk hk=>g k (zh _ hk);cases k with
   |nil=>exact absurd S (g _ (zg ..))
   |cons x r=>
    obtain⟨u,f,B⟩:=M9 (prog:=prog) (w:=w) (A:=A) q;exact⟨u::us,.cons B p1,.cons ⟨x,r,rfl,f⟩ p2⟩
 obtain⟨us,p1,p2⟩:=step iz vs i g;have C:us.length=vs.length:=(Paired.length p1).symm;have m:∀{l:O A0} {ws:O A0},AI (λv u=>∀(c:BE) (a:Y A0->A2->Prop),a (U u) s->A7 (A8 prog w) A (firstOfTuple' v) a c s) l ws->AI (λv u=>∀(c:BE) (a:Y A0->A2->Prop),a u s->A7 (A8 prog w) A (firstOfTuple' v) a c s) l (ws.map U):=λh=>by
  induction h with
  |nil=>exact .nil
  |cons q t d=>exact .cons q d
 rw[keyKind'_eq,dv,map_eq_pure_bind];refine zb (zb (Pb vs (us.map U) _ (m p1) (ze ?_)));have z:(us.map U).toArray.all (·.isSome)=true:=by simp
 rw[zo z];refine zb (JE ?_);have o:(us.map U).toArray.filterMap id=us.toArray:=by simp
 rw[o,oneTypeOnly'_eq,dv,map_eq_pure_bind];have ty:∀(iz:O (O AY)) (us:O A0),AI (λ(k:O AY) u=>∃x r,k=x::r/\fQ x u=true) iz us->∃ts:O A0,AI (λu t=>∀(c:BE) (a:BE),a t s->A7 (A8 prog w) A (typeOf u) a c s) us ts/\AI (λ(k:O AY) t=>∃x r,k=x::r/\t=.type (if x.isLeft then "int" else "str")) iz ts:=by
  intro iz us hp
  induction hp with
  |nil=>exact⟨[],.nil,.nil⟩
  |@cons k u iz us q t d=>
   obtain⟨ts,q1,q2⟩:=d;obtain⟨x,r,rfl,hx⟩:=q;exact⟨_::ts,.cons (λc a h=>Uq hx c a h) q1,.cons ⟨x,r,rfl,rfl⟩ q2⟩
 obtain⟨ts,q1,q2⟩:=ty iz us p2;refine zb (zb (zb (Pb us ts _ q1 (ze ?_))));have lt:ts.length=vs.length:=by rw[<-Paired.length q1,C]
 cases q2 with
 |nil=>simp at lt;omega
 |@cons F H G j h0 p=>
  obtain⟨b,r,rfl,rfl⟩:=h0;have same:∀t∈j,t=Value.type (if b.isLeft then "int" else "str"):=by
   have y:∀(iz:O (O AY)) (ts:O A0),AI (λ(k:O AY) t=>∃x r,k=x::r/\t=Value.type (if x.isLeft then "int" else "str")) iz ts->(∀k∈iz,Um (b::r) k)->∀t∈ts,t=Value.type (if b.isLeft then "int" else "str"):=by
    intro iz ts hp
    induction hp with
    |nil=>intro _ t e;cases e
    |@cons k t iz ts q _ d=>
     intro hs u f;rcases List.mem_cons.mp f with rfl|f
     ·obtain⟨x,D,rfl,rfl⟩:=q;have:=(hs _ (zg ..)).1;cases b<;>cases x<;>first|rfl|cases this
     ·exact d (λk hk=>hs k (zh _ hk)) u f
   exact y _ _ p λk hk=>n _ (zg ..) k (zh _ hk)
  have e0:(Value.type (if b.isLeft then "int" else "str")::j).toArray[0]?=U (Value.type (if b.isLeft then "int" else "str")):=by simp
  have e1:((Value.type (if b.isLeft then "int" else "str")::j).toArray.all λx=>x==Value.type (if b.isLeft then "int" else "str"))=true:=by
   simp only[List.all_toArray,jv];intro t e;rcases List.mem_cons.mp e with rfl|e
   ·simp
   ·rw[same t e];simp
  rw[e0];simp only[e1,Z3];refine ze (ze ?_);have e2:((U (Value.type (if b.isLeft then "int" else "str"))).any λx=>x !=Value.type "tuple")=true:=by
   cases b with
   |inl _=>exact(by decide:((U (Value.type "int")).any λx=>x !=Value.type "tuple")=true)
   |inr _=>exact(by decide:((U (Value.type "str")).any λx=>x !=Value.type "tuple")=true)
  rw[e2];exact h
def gW:Dt->O AY
 |.tup (.str x::_)=>[.inr x]
 |_=>[]
def BO(d:Dt):Bool:=!(gW d).isEmpty
def C2(ds:O Dt)(k:O AY):Dt:=(ds.find? λd=>decide (gW d=k)).getD .non
theorem yI:∀{ds:O Dt},(ds.map gW).Nodup->∀d∈ds,C2 ds (gW d)=d
 |[],_,_,h=>by cases h
 |a::ds,hn,d,h=>by
  rw[zr,k5]at hn;unfold C2;rw[qV];by_cases e:gW a=gW d
  ·rcases List.mem_cons.mp h with rfl|h
   ·rw[Zl e];rfl
   ·exact absurd (show gW d∈ds.map gW from QQ h) (by rw[<-e];exact hn.1)
  ·rw[z4 e];rcases List.mem_cons.mp h with rfl|h
   ·exact absurd S e
   ·exact yI hn.2 d h
def yJ:O Bx->Y Bx
 |[b]=>(vK b).bind λds=>if ds.length<64/\ds.all BO=true/\(ds.map gW).Nodup then U (.o ((yC (ds.map gW)).map (C2 ds)))else Z
 |_=>Z
theorem Qe(I:L2.AU X AN σ H s)(hd:BO d=true)(h:AW X.K H d v)(r:At v u):sJ s.heap (gW d) u:=by
 unfold BO at hd;unfold gW at hd ⊢;split at hd
 ·rename_i x ds;simp only[AW]at h;obtain⟨a,ws,rfl,sq,e⟩:=h;obtain⟨AQ,b,⟨o,g,c,n,d⟩,_⟩:=I.tuple sq;simp only[aG]at e;obtain⟨i,f,rfl,h1,_⟩:=e;simp only[AW]at h1;obtain⟨rfl,_⟩:=h1;cases r;cases b with
  |cons q1 b=>
   obtain⟨t,rfl⟩:=q1;exact⟨a,o,x,t,_,n,rfl,g,c,d,rfl⟩
 ·cases hd
theorem Kz{AN:O (A1×AE)}{σ:L2.St}{H:Hp}{s:A2}(I:L2.AU X AN σ H s):∀{ds:O Dt} {vs:O V} {AQ:O A0},(∀d∈ds,BO d=true)->aG X.K H ds vs->AX vs AQ->AI (sJ s.heap) (ds.map gW) AQ/\∀u∈AQ,∃v d,d∈ds/\At v u/\AW X.K H d v
 |[],_,_,_,h,r=>by
  simp only[aG]at h;subst h;cases r;exact⟨.nil,λu h=>by cases h⟩
 |d::ds,_,_,hk,h,r=>by
  simp only[aG]at h;obtain⟨v,vs,rfl,h1,h2⟩:=h;cases r with
  |cons b c=>
   obtain⟨i1,i2⟩:=Kz I (λz e=>hk z (zh _ e)) h2 c;refine⟨.cons (Qe I (hk d (zg ..)) h1 b) i1,λu a=>?_⟩;rcases List.mem_cons.mp a with rfl|a
   ·exact⟨v,d,zg ..,b,h1⟩
   ·obtain⟨g,f,m,x,y⟩:=i2 u a;exact⟨g,f,zh _ m,x,y⟩
theorem yK{T:O AY->A0->Prop}:∀{iz:O (O AY)} {vs:O A0},AI T iz vs->∀v∈vs,∃i:Nat,vs[i]?=U v/\∃k,iz[i]?=U k/\T k v
 |_,_,.nil,v,h=>by cases h
 |_,_,.cons q t,v,h=>by
  rcases List.mem_cons.mp h with rfl|h
  ·exact⟨0,rfl,_,rfl,q⟩
  ·obtain⟨i,e,k,e',a⟩:=yK t v h;exact⟨i+1,by simpa using e,k,by simpa using e',a⟩
theorem Yx{vs:O A0}(a:AI (sJ h) iz vs)(d:iz.Nodup){k l:O AY}{v:A0}(f:u∈vs)(b:v∈vs)(p:sJ h k u)(q:sJ h l v):u=v\/k≠l:=by
 by_cases e:k=l
 ·left;subst e;obtain⟨i,e1,m,e2,q1⟩:=yK a u f;obtain⟨j,e3,g,c,q2⟩:=yK a v b;have a1:=ZM _ _ _ q1 p;have a2:=ZM _ _ _ q2 q;subst a1;subst a2;obtain⟨h1,g1⟩:=ae.mp e2;obtain⟨h2,g2⟩:=ae.mp c;have:i=j:=(ce d).mp (g1.trans g2.symm);subst this;rw[e1]at e3;exact Q2 e3
 ·exact .inr e
theorem Vp:jh X (.builtin "sorted") yJ:=by
 intro AN s σ H xs us Q I rx h;obtain⟨bs,c,rb,e,q⟩:=h;unfold yJ at e;split at e
 ·rename_i b;obtain⟨ds,ed,e⟩:=AT e;split at e
  ·rename_i hs;cases e;obtain⟨a1,w,M⟩:=hs;obtain⟨v,rfl,r1⟩:=BM rb;obtain⟨p,vs,rfl,sq,D⟩:=Pg r1 ed;obtain⟨u,rfl,ru⟩:=BA rx;cases ru;have P:∃(AQ:O A0) (o:AE) (T:String) (n:Nat),AX vs AQ/\s.heap.get? p=U o/\o.cls=.type T/\(T ="list" ∨ T ="tuple")/\o.data=.seq AQ.toArray n/\vs.length<=AA:=by
    rcases sq with sq|sq
    ·obtain⟨AQ,f,pl,j⟩:=I.list sq;obtain⟨o,g,c,n,d⟩:=pl.isList;exact⟨AQ,o,_,n,f,g,c,.inl rfl,d,j⟩
    ·obtain⟨AQ,f,⟨o,g,c,n,d⟩,j⟩:=I.tuple sq;exact⟨AQ,o,_,n,f,g,c,.inr rfl,d,j⟩
   obtain⟨AQ,o,T,n,f,g,hc,hT,hd,j⟩:=P;have a2:AQ.length=ds.length:=by rw[<-f.length,D.length]
   obtain⟨tv,bk⟩:=Kz I (List.all_eq_true.mp w) D f;have kp:∀{h':A6},(∀c o,s.heap.get? c=U o->h'.get? c=U o)->AI (sJ h') (ds.map gW) AQ:=λk=>Paired.imp' (λ_ _ z=>sJ.keep z k) tv;have A:∀k∈ds.map gW,∃x,k=[Sum.inr x]:=λk hk=>by
    obtain⟨d,hd,rfl⟩:=ag.mp hk;have:=List.all_eq_true.mp w d hd;unfold BO gW at this;unfold gW;split at this
    ·exact⟨_,rfl⟩
    ·cases this
   refine Rn (kd:=tuples' true) (rk:=λv=>Cc (ds.map gW) (BS (ds.map gW) AQ v)) (vs:=AQ) (λE' W hq=>BK g hc hT hd (by rw[<-f.length];exact j) hq)
    (λh2 E' A' s' k W hq=>Nb (kp k) (λk hk=>by obtain⟨x,rfl⟩:=A k hk;exact List.cons_ne_nil _ _) (λk hk l t=>by obtain⟨x,rfl⟩:=A k hk;obtain⟨y,rfl⟩:=A l t;exact⟨rfl,trivial⟩) () hq)
    (λA' s' k=>?_) () λl h' tk m st hp up t ext hL=>?_
   ·intro E p q Q hp hq h;rw[pairsOf_toList]at hp hq;obtain⟨m1,t1⟩:=jX ZM (kp k) p.1 (mem_zip_self hp).2;obtain⟨m2,t2⟩:=jX ZM (kp k) q.1 (mem_zip_self hq).2;rw[Pa m1]at h;exact Yw t1 t2 (Yx (kp k) M (mem_zip_self hp).2 (mem_zip_self hq).2 t1 t2) h
   ·obtain⟨o1,o2⟩:=LF ZM tv hp up;have a0:∀i:O A0,(∀u∈i,u∈AQ)->∃zs,AX zs i/\aG X.K H ((i.map (BS (ds.map gW) AQ)).map (C2 ds)) zs:=by
     intro i
     induction i with
     |nil=>intro _;exact⟨[],.nil,aG.nil⟩
     |cons u i ih=>
      intro G;obtain⟨zs,z1,z2⟩:=ih λx hx=>G x (zh _ hx);have L:=G u (zg ..);obtain⟨v,d,N,J,C⟩:=bk u L;have t1:=(jX ZM tv u L).2;have t2:=Qe I (List.all_eq_true.mp w d N) C J;have ek:=ZM _ _ _ t1 t2;refine⟨v::zs,.cons J z1,?_⟩;rw[zr,zr,ek,yI M d N];exact aG.cons C z2
    obtain⟨zs,z1,z2⟩:=a0 _ o2;rw[o1]at z2;have B:H l=Z:=I.hok.fresh t;have F:AV H (B7 H l (.lst zs)):=bD B;have lz:zs.length<=AA:=by
     rw[z2.length,zk,(zL _).length_eq,zk];have:(64:Nat)<=AA:=by decide
     omega
    exact⟨.ref l,_,I.laid (t':=tk) (o:=.lst zs) ext t ⟨lz,_,m,z1,hL⟩,rfl,q _ _ F (λa z=>by cases z;exact B) ⟨l,zs,rfl,aW,z2.kp (.of F)⟩⟩
  ·cases e
 ·cases e
end P1
namespace P1
open L2 S1 S6
section
variable{e:α->Dt}{e':β->Dt}
theorem uf:∀xs:AZ,nO (xs.map eS)=U xs
 |[]=>rfl
 |x::xs=>by rw[zr,nO,uf xs,bnd]
def jE(b:α->α->Bool):α->O α->α
 |y,[]=>y
 |y,z::r=>if b z y=true then jE b z r else jE b y r
def An[Inhabited α](b:α->α->Bool):O α->α
 |[]=>default
 |y::r=>jE b y r
theorem Aq(b:AJ->AJ->Bool):∀(r:AZ) (y:AJ),m7 b y r=jE b y r
 |[],_=>rfl
 |z::r,y=>by
  simp only[m7,jE];rw[Aq b r z,Aq b r y]
def GC(x z:AJ):Bool:=decide (x.cps.toList<z.cps.toList)
def Iz(x z:AJ):Bool:=decide (z.cps.toList<x.cps.toList)
def Vq[Inhabited AJ](a:RL fa ρ eS):R (bx Cr (ao fa aF)) ρ (zE eS):=⟨An GC a.v,aV a.D (U (a.v≠[])),λh=>by
 obtain⟨h1,h2⟩:=aB h;cases e:a.v with
 |nil=>exact absurd e h2
 |cons y r=>
  have b:=a.lk;rw[e]at b;simp only[bx,ao,aF,a.ok h1,bnd,Cr,b,uf,Aq];rfl⟩
def Vr[Inhabited AJ](a:RL fa ρ eS):R (bx Cu (ao fa aF)) ρ (zE eS):=⟨An Iz a.v,aV a.D (U (a.v≠[])),λh=>by
 obtain⟨h1,h2⟩:=aB h;cases e:a.v with
 |nil=>exact absurd e h2
 |cons y r=>
  have b:=a.lk;rw[e]at b;simp only[bx,ao,aF,a.ok h1,bnd,Cu,b,uf,Aq];rfl⟩
def KC(b:RL fb ρ eS)(a:R fa ρ (zE eS)):R (b2 ql fb fa) ρ (zE eI):=⟨(b.v.count a.v:Nat),aV b.D a.D,λh=>by
 obtain⟨h1,h2⟩:=aB h;simp only[b2,b.ok h1,a.ok h2,bnd,ql,b.lk,uf]⟩
theorem GD{rC:Dt->Bool}{fk:Dt->Y Bx}{g:α->β}(a:∀y,rC (e' y)=true):∀{xs:O α},(∀x∈xs,fk (e x)=U (.z (e' (g x))))->BH rC fk (xs.map e)=U (xs.map λx=>(e x,e' (g x)))
 |[],_=>rfl
 |x::xs,h=>by
  rw[zr,BH,h x (zg ..)];simp only[a,Z3];rw[GD a λz b=>h z (zh _ b),bnd];rfl
theorem yL(bt:Dt->Dt->Bool)(g:α->β):∀(xs:O α) (y:α),sH bt (e y) (e' (g y)) (xs.map λx=>(e x,e' (g x)))=e (jE (λx z=>bt (e' (g x)) (e' (g z))) y xs)
 |[],_=>rfl
 |x::xs,y=>by
  simp only[zr,sH,jE];rw[yL bt g xs x,yL bt g xs y];split<;>rfl
def ZP[Inhabited α](c:∀y,rC (e' y)=true)(a:RL fe ρ e)(k:∀x:α,R fb (U (.z (e x))::jr is ρ) (zE e')):R (Kv bt rC fe fb is) ρ (zE e):=
 ⟨An (λx z=>bt (e' (k x).v) (e' (k z).v)) a.v,aV a.D (U (a.v≠[]/\∀x∈a.v,hold (k x).D)),λh=>by
 obtain⟨h1,h2,b⟩:=aB h;have hk:=GD (e:=e) (e':=e') (fk:=λd=>fb (U (.z d)::jr is ρ)) (g:=λx=>(k x).v) c λx hx=>(k x).ok (b x hx);unfold Kv;rw[a.ok h1,bnd,a.lk,bnd,hk,bnd];cases ea:a.v with
 |nil=>exact absurd ea h2
 |cons y r=>
  simp only[zr];rw[yL bt (λx=>(k x).v) r y];rfl⟩
def hk(q:AJ×β):O AY:=[.inr q.1]
def qX(xs:O (AJ×β)):O (AJ×β):=xs.mergeSort λa b=>o9 (hk a) (hk b)
theorem vP(xs:O (AJ×β)):(qX xs).Perm xs:=bq ..
theorem Cv(xs:O (AJ×β)):(qX xs).Pairwise (λa b=>o9 (hk a) (hk b)=true):=KG (le:=λa b=>o9 (hk a) (hk b)) (λa b c=>qd (hk a) (hk b) (hk c)) (λa b=>BJ (hk a) (hk b)) xs
theorem GF(xs:O (AJ×β)):(xs.map (mV eS e')).map gW=xs.map hk:=by
 rw[ja];exact qA λa _=>S
theorem KD:∀{xs:O (AJ×β)},(xs.map (·.1)).Nodup->(xs.map hk).Nodup
 |[],_=>List.nodup_nil
 |x::xs,h=>by
  rw[zr,k5]at h ⊢;refine⟨λb=>h.1 ?_,KD h.2⟩;obtain⟨y,a,e⟩:=ag.mp b;have e2:y.1=x.1:=by
   unfold hk at e;simpa using e
  rw[<-e2];exact QQ a
end
end P1
namespace P1
open L2
section
variable [Inhabited α] {e:α->Dt}{k:Ev->Y As}{cO:γ->As}
theorem uT{β:Type}(g:α->β):∀(xs:O α) (m:Nat),(xs.map g).eraseIdx m=(xs.eraseIdx m).map g
 |[],_=>by simp
 |x::xs,0=>by simp
 |x::xs,m+1=>by simp[uT g xs m]
def HK(j i:Nat)(xs:O α)(hi:ρ[i]?=U (U (.o (xs.map e))))(a:R f ρ (zE eI))(K:∀(ys:O α) (y:α),R k ((ρ.set i (U (.o (ys.map e)))).set j (U (zE e y))) cO):R (aD (Uv j i f) k) ρ cO:=
 ⟨(K (xs.eraseIdx a.v.toNat) (Ap xs a.v)).v,aV (aV a.D (U (0<=a.v/\a.v<xs.length/\xs.length<=100000))) (K (xs.eraseIdx a.v.toNat) (Ap xs a.v)).D,λhd=>by
 obtain⟨h1,c⟩:=aB hd;obtain⟨h1,h2⟩:=aB h1;obtain⟨h0,d,g⟩:0<=a.v/\a.v<xs.length/\xs.length<=100000:=h2;rw[mX (ρ':=(ρ.set i (U (.o ((xs.eraseIdx a.v.toNat).map e)))).set j (U (zE e (Ap xs a.v)))) (by
  unfold Uv;rw[a.ok h1,bnd];show(match (Bx.z (Dt.int a.v))with|.z (.int k)=>_|_=>Z)=_;dsimp only;rw[hi];dsimp only;have b:a.v.toNat<xs.length:=by omega
  have e0:a.v=((a.v.toNat:Nat):Int):=by omega
  have e1:Ap xs a.v=xs[a.v.toNat]:=by
   conv=>lhs;rw[e0]
   exact jW (xs:=xs) (k:=a.v.toNat) (by simp[b])
  rw[zo ⟨by omega,by omega⟩];have e2:seqIndex? a.v (xs.map e).length=U a.v.toNat:=PySem.seqIndex_of h0 (by simpa using d);rw[e2,bnd,ZH,JI b,kX,bnd,e1,uT];rfl)]
 exact(K (xs.eraseIdx a.v.toNat) (Ap xs a.v)).ok c⟩
end
theorem ZQ{f c:A1}(F:Wh K x qual st f fd)(d:fd.code=.ref c)(S:bF N ps (aH st))(z:N.length=n)(i:ps.length=m)(j:∀(A:A5) (outer:O Env) (s:A2) (H:Hp) (E:XK),jt k (A.deeper (AK qual (aH st) s.heap.objs.size f (.ref c)))->OD (Az Hr P w K mg base N qual (aH st) f (.ref c) A outer s H E).Wg (gn st) g):
  rH P w K mg base Hr (k+1) f fd ps (R9 K m (dj n g)):=by
 subst z i;obtain⟨J,I,kV,L,pm,G,l,ct,osl,rfl,y,C⟩:=F.ex;have d:l=.ref c:=d;subst d;refine Zc y C S (λvs H Q E h=>h.1) λA outer s H vs Q E o h=>?_;refine⟨_,LQ.Wg (j A outer s H E o).run,?_⟩;obtain⟨D,bs,r,B,p,e,q⟩:=h;obtain⟨a,er,e⟩:=AT e;refine⟨H,_,a,bB.start B p,er,?_⟩;cases a with
 |rt b=>cases e;exact λv H' s' t a=>q v H' s' t a
 |nx ρ=>cases e;exact λσ H' u=>q _ H' u.base trivial (by unfold aQ AW;rfl)
 |bk ρ=>cases e
 |ct ρ=>cases e
section
variable{f:A1}{p:Pos}{fs:Ev->Y (O Bx)}
theorem Vs(G:rH X.prog X.w X.K X.mg X.base Hr k f fd ps (R9 X.K n F))(z:jt k X.A)(hN:X.N[i]?=U x)(C:QG X.env.scope x)(hk:keepIn X.K (.ref f)=true)(D:BF X.K fd ps [])
  (ha:DE X (e::es) fs) (g:dX x:=by decide) (a0:(x==("__classdict__":AJ))=false:=by decide) (J:A9 (e::es) X.env=(false,eval e X.env)::A9 es X.env:=by rfl) (P:(AD pos (A9 es X.env)).any (·.1)=false:=by rfl):
  PE X (.Call (.Name x p) (e::es) [] pos) (λσ H Q=>σ[i]?=U (U (.ref f))/\tF X.K (cF n F fs) σ H Q):=by
 intro AN s σ H Q I h;obtain⟨h1,H0,ρ,r,E,b,q⟩:=h;obtain⟨bs,eb,b⟩:=AT b;split at b
 ·rename_i W;obtain⟨m,L,y⟩:=id I.loc;obtain⟨u,B,l⟩:=y i x _ hN h1 C;cases B;have go:A7 (d9 X) X.A (callWith pos (.ref f) [] (AD pos (A9 (e::es) X.env)) (backToKw pos (keywordEach [] X.env))) (EP X AN σ Q) X.xe s:=by
   refine callWith_K (h₀:=X.base) I.ok.mod.kin hk (jO (ha pos AN s σ H (λvs H1=>AV H H1/\uO X.K H1 bs vs) I ⟨H0,ρ,bs,E,eb,λvs H1 s1 d=>⟨s1,d⟩⟩) λus s1 ⟨vs,H1,I1,rv,ZL,d⟩=>⟨I1.Wf,?_⟩) J P;refine S7 G z D .nil Zf I1 rv ?_;rw[Q3];exact⟨by rw[<-Paired.length d];exact W,_,r,Bp d,HJ bs,b,λv H2 s2 n2 t=>q v H2 (ZL.trans s2) (n2.old ZL) t⟩
  rcases l with⟨a,M⟩|⟨a,c,o,j⟩
  ·exact QR (wpAny_Name (wpAny_loadName_local I.ok.kind a L M go) g)
  ·rcases a with a|a
   ·exact QR (wpAny_Name (wpAny_loadName_cell I.ok.kind a o j go) g)
   ·exact QR (wpAny_Name (wpAny_loadName_free I.ok.kind a o j go a0) g)
 ·cases b
end
end P1
namespace P1
open PySem PySem.Spec PySem.Calls PyProof.Rows L2
def IK(f:A1)(v:A0):Bool:=match v with
 |.ref g=>g==f
 |_=>false
def Vt(K:B5)(a:A1)(D:O (AJ×A1)):Prop:=KTD.tabLook IK (λb=>K.lookup b) a D=true
theorem KH(f:A1)(v:A0)(h:IK f v=true):v=.ref f:=by
 unfold IK at h;split at h
 ·rw[eq_of_beq h]
 ·cases h
theorem Vt.tab(k:Vt K a D)(x:K.In h):KTD.TabOf (λf v=>v=Value.ref f) h a D:=KTD.tab_of_look KH (λb o q=>x b o q) k
section
variable{k:AJ}{tk:Tok}
theorem Yy{f:A1}{Q:Y A0->A2->Prop}(T:KTD.TabOf (λf v=>v=Value.ref f) s.heap a D)(hk:KTD.datumAt k D=U f)(h1:Q (U (.ref f)) { s with toks:=s.toks+1 }):
  A7 (A8 prog w) A (dictGet a (.str k tk)) Q E s:=by
 obtain⟨_,o,es,ep,b,h,hd,c⟩:=T;unfold dictGet
 try with_reducible refine Zp ?_
 refine zb (wpAny_pyHash_str (zb (KTD.kt_dictFind_strs (s:={ s with toks:=s.toks+1 }) b hd (by obtain⟨l⟩:=es;simpa using c.exact) ?_)));have hq:Q (findBy (λk v=>v.isStr k) es k) { s with toks:=s.toks+1 }:=by
  have g:findBy (λk v=>v.isStr k) es k=(es.toList.find? λe=>e.key.isStr k).map (·.val):=by
   obtain⟨l⟩:=es;simp[findBy]
  rw[g];obtain⟨v,d,rfl⟩:=c.find_some hk;rw[d];exact h1
 rw[findBy_of_findIdx?]at hq;cases hi:es.findIdx? λe=>e.key.isStr k with
 |none=>rw[hi]at hq;exact ze hq
 |some i=>rw[hi]at hq;exact zb (wpAny_dictEntries (s:={ s with toks:=s.toks+1 }) b hd (ze hq))
theorem Vu{f:A1}(T:KTD.TabOf (λf v=>v=Value.ref f) s.heap a D)(hk:KTD.datumAt k D=U f)(h:Q (.ref f) { s with toks:=s.toks+1 }):
  A7 (A8 prog w) A (getItem (.ref a) (.str k tk)) Q E s:=by
 have ty:s.TypeIs (.ref a) "dict":=let ⟨_,o,_,_,ho,hc,_⟩:=T;⟨o,ho,hc.1⟩;unfold getItem
 try with_reducible refine Zp ?_
 refine zb (wpAny_sequenceKey ty () ?_);refine zb (KB (name:=Str.ofString "__getitem__") ty slot_dict_getitem
  (JO slot_dict_getitem ty entry_dict_getitem ?_ (args_dict_getitem _ _)))
 show A7 _ _ (dictGet a (.str k tk) >>= _) _ _ s;exact zb (Yy T hk (ze ⟨_,rfl,ze h⟩))
end
def zN(X:Cx):O (AJ×A1)->O (AJ×(O Bx->Y Bx))->Prop
 |[],[]=>True
 |(x,f)::D,(y,F)::T=>(x=y/\∃k fd ps,rH X.prog X.w X.K X.mg X.base Hr k f fd ps (R9 X.K 1 F)/\jt k X.A/\keepIn X.K (.ref f)=true/\BF X.K fd ps [])/\zN X D T
 |_,_=>False
theorem Ic:zN X [] []:=trivial
theorem ug{f:A1}{T:O (AJ×(O Bx->Y Bx))}(G:rH X.prog X.w X.K X.mg X.base Hr k f fd ps (R9 X.K 1 F))(b:jt k X.A)(hk:keepIn X.K (.ref f)=true)(a:BF X.K fd ps [])(r:zN X D T):zN X ((x,f)::D) ((x,F)::T):=⟨⟨rfl,k,fd,ps,G,b,hk,a⟩,r⟩
theorem zN.get{h:AJ}{F:O Bx->Y Bx}:∀{D:O (AJ×A1)} {T:O (AJ×(O Bx->Y Bx))},zN X D T->T.lookup h=U F->∃f k fd ps,KTD.datumAt h D=U f/\rH X.prog X.w X.K X.mg X.base Hr k f fd ps (R9 X.K 1 F)/\jt k X.A/\keepIn X.K (.ref f)=true/\BF X.K fd ps []
 |[],[],_,e=>by cases e
 |(x,f)::D,(y,G)::T,r,e=>by
  obtain⟨⟨rfl,k,fd,ps,a,b,c,d⟩,r⟩:=r;rw[kl]at e;unfold KTD.datumAt;by_cases hx:h=x
  ·subst hx;rw[beq_self_eq_true]at e;cases e;exact⟨f,k,fd,ps,by simp,a,b,c,d⟩
  ·rw[beq_eq_false_iff_ne.mpr hx]at e;obtain⟨i,g,l,j,q,z⟩:=zN.get r e;exact⟨i,g,l,j,by simp[hx,q],z⟩
 |[],_::_,r,_=>r.elim
 |_::_,[],r,_=>r.elim
def Rw(i j:Nat)(tab:O (AJ×(O Bx->Y Bx)))(fh fa:Ev->Y Bx):Ev->Y As:=λρ=>if i<ρ.length then(fh ρ).bind λb=>match b with
 |.z (.str h)=>(tab.lookup h).bind λF=>(cF 1 F (ao fa aF) (ρ.set i Z)).bind λr=>(JL (ρ.set i Z) j r).bind λa=>U (.nx a)
 |_=>Z
 else Z
theorem bB.afG{H1:Hp}(E:bB K H0 H σ ρ)(s:AV H H1):bB K H0 H1 (σ.set i (U v)) (ρ.set i Z):=by
 have f:=E.grow s;have d:∀{j:Nat} {b:Bx},(ρ.set i Z)[j]?=U (U b)->j≠i/\ρ[j]?=U (U b):=λ{j b} e=>by
  rw[kC]at e;split at e
  ·split at e<;>cases e
  ·rename_i h;exact⟨λz=>h z.symm,e⟩
 have g:∀{j:Nat},j≠i->(σ.set i (U v))[j]?=σ[j]?:=λ{j} h=>bb (λz=>h z.symm);refine⟨by simp[E.len],λj b e=>?_,λj m c a b e k ea eb n l=>?_,f.base,λj c a e k ea=>?_⟩
 ·obtain⟨h,e⟩:=d e;rw[g h];exact f.val j b e
 ·obtain⟨h,e⟩:=d e;obtain⟨h',eb⟩:=d eb;rw[g h]at ea;rw[g h']at l;exact f.own j m c a b e k ea eb n l
 ·obtain⟨h,e⟩:=d e;rw[g h]at ea;exact f.new j c a e k ea
section
variable{tab:O (AJ×(O Bx->Y Bx))}{dn y:AJ}{ek:Expr}{p0 p1 p3 q0 q1 q2 q3:Pos}{AS:O AB}{fh:Ev->Y Bx}
theorem IH(e:Gl X dn)(c:X.mg dn=U (.ref a))(g:Vt X.K a D)(d:PV X ek fh)(b:dX dn:=by decide)(hs:Tj ek:=by intro _ _;rfl):
  PE X (.Subscript (.Name dn p1) ek p2) (λσ H Q=>tF X.K fh σ H λv H1=>∃h f,v=.str h/\KTD.datumAt h D=U f/\Q (.ref f) H1):=by
 intro AN s σ H Q I h;refine Ow PySem.F.slot_dict_getitem.lookup hs (Ol I e c (jO (d AN s σ H _ I h) λiv s2 ⟨v,H2,I2,rv,k,f,ev,hk,q⟩=>?_) b);subst ev;obtain⟨t,rfl⟩:=rv;have T:=g.tab I2.Wf;exact⟨let ⟨_,o,_,_,ho,hc,_⟩:=T;⟨o,ho,hc.1⟩,Vu T hk ⟨.ref f,H2,I2.tok _,rfl,q⟩⟩
theorem KO(i j:Nat)(hN:X.N.Nodup)(hg:Gl X dn)(hm:X.mg dn=U (.ref a))(hD:Vt X.K a D)(m:zN X D tab)(B:QV X ek fh)(ha:QV X e fa)(w:OD X AS g)
  (hs:Tj ek:=by intro _ _;rfl) (hi:X.N[i]?=U x:=by rfl) (hj:X.N[j]?=U y:=by rfl) (hx:CL X.env.scope x:=by first|exact JA rfl|exact QE S) (u:CL X.env.scope y:=by first|exact JA rfl|exact QE S) (C:QG X.env.scope x:=by first|exact JA rfl|exact QE (JA S)|exact QE (QE S))
  (a1:X.fn x=true\/X.env.scope.names.lookup x=U .local:=by first|exact .inl rfl|exact .inr S) (L:X.fn y=true\/X.env.scope.names.lookup y=U .local:=by first|exact .inl rfl|exact .inr S)
  (P:dX dn:=by decide) (A:dX x:=by decide) (W:(x==("__classdict__":AJ))=false:=by decide)
  (s1:swapsWith (.Subscript (.Name dn p1) ek p2) (U (.Name x p0)) p3.line X.env=pure false:=by rfl) (s2:swapsWith (.Call (.Name x q1) [e] [] q2) (U (.Name y q0)) q3.line X.env=pure false:=by rfl)
  (o:A9 [e] X.env=(false,eval e X.env)::A9 [] X.env:=by rfl) (a0:(AD q2 (A9 [] X.env)).any (·.1)=false:=by rfl):
  OD X (.Assign [.Name x p0] (.Subscript (.Name dn p1) ek p2) p3::.Assign [.Name y q0] (.Call (.Name x q1) [e] [] q2) q3::AS) (aD (Rw i j tab fh fa) g):=by
 have call:PE X (.Call (.Name x q1) [e] [] q2) (λσ H Q=>∃h f F,KTD.datumAt h D=U f/\tab.lookup h=U F/\σ[i]?=U (U (.ref f))/\tF X.K (cF 1 F (ao fa aF)) σ H Q):=by
  intro AN s σ H Q I h;obtain⟨k,f,F,e1,e2,e3,q⟩:=h;obtain⟨f',n,fd,ps,z,G,r,hk,J⟩:=m.get e2;rw[e1]at z;cases z;exact Vs G r hi C hk J (aj ha aA o).run A W o a0 AN s σ H Q I ⟨e3,q⟩
 refine⟨Xa (Ax (G9 (pos:=p3) (pos':=p0) hN hi hx (IH hg hm hD B.run P hs) s1 a1) (Ax (G9 (pos:=q3) (pos':=q0) hN hj u call s2 L) w.run)) λDe σ H h=>?_⟩;obtain⟨H0,ρ,r,E,c,q⟩:=h;obtain⟨r1,e1,c⟩:=AT c;unfold Rw at e1;split at e1;rotate_left
 ·cases e1
 rename_i p;rw[<-E.len]at p;obtain⟨b,eb,e1⟩:=AT e1;split at e1;rotate_left
 ·cases e1
 rename_i k;obtain⟨F,d,e1⟩:=AT e1;obtain⟨bc,ec,e1⟩:=AT e1;obtain⟨M,a2,e1⟩:=AT e1;cases e1;obtain⟨f,n,fd,ps,z,_⟩:=m.get d;refine⟨H0,ρ,_,E,eb,λv H1 s1 n1 rb=>?_⟩;obtain⟨rfl,_⟩:=HN rb;refine⟨k,f,rfl,z,?_⟩;have l:=E.afG (i:=i) (v:=.ref f) s1;refine⟨k,f,F,z,d,by simp[p],H0,_,bc,l,ec,λv2 H2 s2 n2 t=>?_⟩;exact⟨H0,M,r,Hx l s2 t n2 a2,c,q⟩
end
end P1
namespace P1
open L2
def sO(o:AE):Y (AJ×A1):=match o.data with
 |.fields vs=>match vs[1]?,vs[11]? with
  |some (Value.str x _),U (Value.ref P)=>if Ss.contains x=true then U (x,P)else Z
  |_,_=>Z
 |_=>Z
def TN(K:B5):O (A1×AJ):=K.filterMap λp=>(sO p.2).map λq=>(q.2,q.1)
def GI(x:AJ):Array A0:=#[.str (x++(".<locals>.<lambda>":AJ)) 0]
def F7(K:B5):O (A1×Array A0):=(TN K).map λp=>(p.1,GI p.2)
def CO(K:B5)(x:AJ):Y A1:=match nsIn K mainGlobals x with
 |some (U (.ref f))=>match K.lookup f with
  |some a=>match a.data with
   |.func fd=>match fd.code with
    |.ref c=>U c
    |_=>Z
   |_=>Z
  |none=>Z
 |_=>Z
def Ar(p:A3)(K:B5)(c:A1)(x:AJ)(P:A1):Bool:=(recsOf p).any (λd=>d.name==x)&&CO K x==U c&&(K.lookup c).bind sO==U (x,P)&&(K.lookup P).isNone&&(TN K).lookup P==U x
def Yz(p:A3)(K:B5):Bool:=K.all λr=>match sO r.2 with
 |none=>true
 |some (x,P)=>Ar p K r.1 x P
theorem vQ{α β γ:Type}[BEq α]{a:α}(f:β->γ):∀l:O (α×β),(l.map λp=>(p.1,f p.2)).lookup a=(l.lookup a).map f
 |[]=>rfl
 |(b,c)::l=>by
  simp only[zr,kl];split
  ·rfl
  ·exact vQ f l
theorem yM{α β:Type}[BEq α][LawfulBEq α]{a:α}{b:β}:∀{l:O (α×β)},l.lookup a=U b->(a,b)∈l
 |[],h=>by cases h
 |(c,d)::l,h=>by
  rw[kl]at h;split at h
  ·rename_i e;cases h;rw[eq_of_beq e];exact zg ..
  ·exact zh _ (yM h)
theorem Rx{P:A1}(h:sO o=U (x,P)):∃vs t,o.data=.fields vs/\vs[1]?=U (.str x t)/\vs[11]?=U (.ref P):=by
 unfold sO at h;cases hd:o.data with
 |fields vs=>
  rw[hd]at h;dsimp only at h;split at h
  ·rename_i y t Q e1 e2;split at h
   ·cases h;exact⟨vs,t,rfl,e1,e2⟩
   ·cases h
  ·cases h
 |_=>rw[hd]at h;cases h
theorem Cf{p:A3}{J:AJ->Y A0}{L:ExcName->Y A0}{N:AZ}(g:Yz p K=true)(X:K.In h)(T:Top p N L mg J h):L2.Tn K h (F7 K):=by
 have n:∀c o x P,(c,o)∈K->sO o=U (x,P)->Ar p K c x P=true:=λc o x P m e=>by
  have:=List.all_eq_true.mp g _ m;simp only[e]at this;exact this
 refine⟨λP q k=>?_,λP ps e=>?_⟩
 ·obtain⟨c,o,vs,x,t,e,d,v,m,f,hq⟩:=k;subst hq;have er:sO o=U (x,P):=by
   unfold sO;simp only[d,v,f];rw[zo (ba.mpr m)]
  have z:=n c o x P (yM e) er;simp only[Ar,qf,beq_iff_eq]at z;refine⟨GI x,?_,rfl,Nat.zero_lt_one⟩;unfold F7;rw[vQ,z.2];rfl
 ·unfold F7 at e;rw[vQ]at e;obtain⟨x,ex,rfl⟩:=aw.mp e;have m:=yM ex;obtain⟨⟨c,o⟩,B,i⟩:=aE.mp m;obtain⟨⟨M,C⟩,i,hq⟩:=aw.mp i;obtain⟨q1,q2⟩:=Prod.mk.inj hq;have q1:C=P:=q1;have q2:M=x:=q2;rw[q1,q2]at i;have z:=n c o x P B i;simp only[Ar,qf,beq_iff_eq,ay,cc]at z;obtain⟨⟨⟨⟨⟨d,hd,hx⟩,b⟩,s⟩,F⟩,_⟩:=z;obtain⟨a,Q,fd,c1,P1,t1,t2,t3,A,_,j⟩:=T.tab d hd;rw[hx]at t1;obtain⟨o',D,H⟩:=Option.bind_eq_some_iff.mp s;obtain⟨vs,t,I,_,E⟩:=Rx H;have G:c1=c:=by
   unfold CO at b;split at b
   ·rename_i f y;have:=mg_of X T.g y;rw[t1]at this;cases this;split at b
    ·rename_i ob w;have:=X _ _ w;rw[t2]at this;cases this;split at b
     ·rename_i a0 l;rw[t3]at l;cases l;rw[A]at b;cases b;rfl
     ·cases b
    ·cases b
   ·cases b
  subst G;have u:P1=P:=by
   obtain⟨⟨W,ws,e1,_,e2,e3⟩,_⟩:=j;rw[X _ _ D]at e1;cases e1;rw[I]at e2;cases e2;rw[E]at e3;cases e3;rfl
  subst u;exact⟨F,j.2,j.isCodeTable,rfl⟩
def YB(K:B5)(fd:FuncData)(q:AJ):Bool:=match fd.code with
 |.ref c=>match K.lookup c with
  |some o=>match o.data with
   |.fields vs=>o.cls==.type "code" && (match vs[11]?,vs[1]?,vs.getD 18 .none,vs.getD 7 .none,vs.getD 9 .none,vs.getD 10 .none with
    |some (Value.ref P),U (Value.str x _),Value.str _ _,Value.int _ _,Value.bool _,Value.int _ _=>!(c==P)&&Ss.contains x&&q==x++(".<locals>.<lambda>":AJ)
    |_,_,_,_,_,_=>false)
   |_=>false
  |none=>false
 |_=>false
theorem Qf{q:AJ}(h:YB K fd q=true):∃c P,fd.code=.ref c/\Kr K c P q:=by
 unfold YB at h;split at h;rotate_left
 ·cases h
 rename_i c u;split at h;rotate_left
 ·cases h
 rename_i o m;split at h;rotate_left
 ·cases h
 rename_i vs hd;rw[qf]at h;obtain⟨h1,h⟩:=h;split at h;rotate_left
 ·cases h
 rename_i P x t f tf i l b j e a e1 n k g s;simp only[qf,kD,beq_eq_false_iff_ne,ne_eq,beq_iff_eq]at h;obtain⟨⟨h2,d⟩,p⟩:=h;exact⟨c,P,u,o,vs,f,tf,i,l,b,j,e,x,t,m,eq_of_beq h1,hd,a,by rw[Array.getD_eq_getD_getElem?,a];rfl,n,k,g,s,h2,e1,ba.mp d,p⟩
theorem Vv{xs:AZ}(f:closureFor scope X.env=pure cl)(c:scope.kind=.function)(i:scope.isCoroutine=false)(b:scope.isGenerator=false)(g:(scope.names.all λy=>!(y.2==.cell))=true)(h:scope.names.lookup x=U .local)(sub:Bn X.env.cells cl)(has:(scope.names.all λy=>!(y.2==.free)||(cl.lookup y.1).isSome)=true)(d:Gw X scope cl xs is):Gx X scope cl x xs is:=by
 refine⟨f,c,i,b,λy a e=>?_,h,sub,λy a e=>?_,d⟩
 ·have:=List.all_eq_true.mp g y a;rw[e]at this;simp at this
 ·have:=List.all_eq_true.mp has y a;rw[e]at this;exact aI.mp (by simpa using this)
section
variable{e:α->Dt}{c:β->Bx}{fh:Ev->Y Bx}{k:Ev->Y As}{cO:γ->As}{tab:O (AJ×(O Bx->Y Bx))}{tt:O (AJ×(O α->β)×(O α->Y Prop))}
def g8[Inhabited β](tt:O (AJ×(O α->β)×(O α->Y Prop)))(h:AJ)(v:O α):β:=match tt.lookup h with
 |some p=>p.1 v
 |none=>default
def Ry(tt:O (AJ×(O α->β)×(O α->Y Prop)))(h:AJ)(v:O α):Prop:=match tt.lookup h with
 |some p=>hold (p.2 v)
 |none=>False
inductive Rz (e:α->Dt) (c:β->Bx):List (Str×(List Bx->Option Bx))->List (Str×(List α->β)×(List α->Option Prop))->Prop
 |nil:Rz e c [] []
 |cons {x:Str} {F:List Bx->Option Bx} {t:List α->β} {d:List α->Option Prop} {tab:List (Str×(List Bx->Option Bx))} {tt:List (Str×(List α->β)×(List α->Option Prop))}:(∀(v:List α×Unit) bs,aL e aN v bs->bs.length=1/\(hold (d v.1)->F (bs.map lend)=some (c (t v.1))))->Rz e c tab tt->Rz e c ((x,F)::tab) ((x,t,d)::tt)
theorem Rz.get{h:AJ}{p:(O α->β)×(O α->Y Prop)}(T:Rz e c tab tt)(q:tt.lookup h=U p):∃F,tab.lookup h=U F/\∀(v:O α×Unit) bs,aL e aN v bs->bs.length=1/\(hold (p.2 v.1)->F (bs.map lend)=U (c (p.1 v.1))):=by
 induction T with
 |nil=>cases q
 |cons S r a=>
  rw[kl]at q ⊢;split at q
  ·cases q;exact⟨_,rfl,S⟩
  ·exact a q
def L8[Inhabited β](i j:Nat)(T:Rz e c tab tt)(h:R fh ρ (zE eS))(a:RL fa (ρ.set i Z) e)(l:i<ρ.length)(n:∀x,JL (ρ.set i Z) j (c x)=U ((ρ.set i Z).set j (U (c x))))(K:∀x,R k ((ρ.set i Z).set j (U (c x))) cO):R (aD (Rw i j tab fh fa) k) ρ cO:=
 ⟨(K (g8 tt h.v a.v)).v,aV (aV (aV h.D a.D) (U (Ry tt h.v a.v))) (K (g8 tt h.v a.v)).D,λhd=>by
 obtain⟨hd,m⟩:=aB hd;obtain⟨hd,d⟩:=aB hd;obtain⟨h1,h2⟩:=aB hd;have d:Ry tt h.v a.v:=d;have go:Rw i j tab fh fa ρ=U (.nx ((ρ.set i Z).set j (U (c (g8 tt h.v a.v))))):=by
  unfold Rw g8;unfold Ry at d;rw[zo l,h.ok h1,bnd];simp only[eS];split at d
  ·rename_i p hp;obtain⟨F,o,S⟩:=T.get hp;rw[o,hp,bnd];obtain⟨f,g⟩:=S (a.v,eg) [a.b] ⟨a.b,[],rfl,a.lk,rfl⟩;have:cF 1 F (ao fa aF) (ρ.set i Z)=U (c (p.1 a.v)):=by
    unfold cF ao aF;rw[a.ok h2];simp only[bnd];rw[zo f];exact g d
   rw[this];simp only[bnd,n]
  ·exact d.elim
 rw[mX go];exact(K (g8 tt h.v a.v)).ok m⟩
end
end P1
namespace P1
open PySem PySem.Spec PySem.Calls PyProof.Rows L2 S1
def RB(prog:A3)(w:A4)(A:A5)(op:CmpOp)(h0:A6)(out:A1->Prop)(P:Nat->A0->Prop)(bt:Nat->Nat->Bool):Prop:=
 ∀i j vi vj (s:A2) (Q:BE) (E:BE),(∀b o,¬ out b->h0.get? b=U o->s.heap.get? b=U o)->P i vi->P j vj->Q (.bool (bt i j)) s->A7 (A8 prog w) A (richCompare op vi vj) Q E s
section
variable{R:Result->A2->Prop}{I:A1}{wr:O A1}{P:Nat->A0->Prop}{St:Nat->A6->Prop}
theorem RD(W:Walks prog w A.in1 I fp wr n P St)(bt:Nat->Nat->Bool)(S:A1)(K:S∉fp)(X:RB prog w A.in1 .Lt h0 (λb=>b∈wr\/b=S) P bt):
  ∀(k j:Nat) (s:A2) (a:A0) (c:Nat),n-(j+1)=k->j+1<=n->(∀b o,b∉wr->b≠S->h0.get? b=U o->s.heap.get? b=U o)->St (j+1) s.heap->P (argBest bt j) a->s.heap.get? S=U { cls:=.type "list",dict:=Z,data:=.seq #[a,a] c,slots:=#[] } →
  (∀v h' tk,P (argBest bt (n-1)) v->(∀b o,b∉wr->b≠S->h0.get? b=U o->h'.get? b=U o)->R (.ok (.ret v)) { s with heap:=h',toks:=tk })->AF (A8 prog w) A (.builtin "min.loop" ⟨[.ref I,.none,.ref S],[]⟩) R s:=by
 have G:S∉wr:=λh=>K (W.sub _ h);have C:(toString "min" ++ toString ".loop":String) ="min.loop":=by decide
 have B:∀{b:A1},¬ (b∈wr\/b=S)->b∉wr/\b≠S:=λz=>⟨λx=>z (.inl x),λx=>z (.inr x)⟩;intro k
 induction k with
 |zero=>
  intro j s a c hk Q p t l g i;have L:j+1=n:=by omega
  refine ZO F.entry_min_loop ?_;rw[Around.under_plainId JS _];show A7 _ A.in1 (seqItems? (.ref S) >>= _) _ _ s;refine zb (qk g rfl ?_);show A7 _ A.in1 (tryCatch (pyNext (.ref I)) _ >>= _) _ _ s;refine zb (Zs (W.done s _ _ (L▸t) λh' tk f=>?_));have d:=f S _ G g;show A7 _ A.in1 (updateSeq S (λ_=>#[]) >>= _) _ _ _;refine zb ?_;refine qr d rfl (zb (qB (ze ?_)));refine i a _ tk (by rw[<-L];exact l) λb o H E e=>(ZI _ _ (j0 E)).trans (f b o H (p b o H E e))
 |succ k u=>
  intro j s a c hk Q p t l g i;have q:j+1<n:=by omega
  refine ZO F.entry_min_loop ?_;rw[Around.under_plainId JS _];show A7 _ A.in1 (seqItems? (.ref S) >>= _) _ _ s;refine zb (qk g rfl ?_);show A7 _ A.in1 (tryCatch (pyNext (.ref I)) _ >>= _) _ _ s;refine zb (Zs (W.item (j+1) s _ _ q t λv h' tk J M f=>?_));have d:=f S _ G g;have m:∀b o,b∉wr->b≠S->h0.get? b=U o->h'.get? b=U o:=λb o x y e=>f b o x (p b o x y e);show A7 _ A.in1 (tryCatch (holding [v,v] (richCompare .Lt v a >>= _)) _ >>= _) _ _ _;refine zb (Zs (Zp (zb (X (j+1) (argBest bt j) v a _ _ _ (λb o x e=>m b o (B x).1 (B x).2 e) J l ?_))));refine zb (Zp (qh ?_));refine zb (qB (ze ?_));cases D:bt (j+1) (argBest bt j)with
  |true=>
   simp only[Z3];refine zb ?_;refine qr d rfl (zb (qB ?_));rw[C];refine ze ⟨plainId_quiet JS _,u (j+1) _ v _ () q (λb o x y e=>(ZI _ _ (j0 y)).trans (m b o x y e)) (W.frame _ _ _ M λb N o e=>?_) (by simp only[argBest,D,Z3];exact J) (kG _ d rfl) i⟩;exact(ZI _ _ (λh:S=b=>K (by rw[h];exact N))).trans e
  |false=>
   simp only[zw,ZN];refine zb (qB ?_);rw[C];exact ze ⟨plainId_quiet JS _,u (j+1) _ a c () q m M (by simp only[argBest,D,zw,ZN];exact l) d i⟩
theorem Nf(W:Walks prog w A.in1 I fp wr n P St)(bt:Nat->Nat->Bool)(S:A1)(a:S∉fp)(j:RB prog w A.in1 .Lt h0 (λb=>b∈wr\/b=S) P bt)(f:0<n){c:Nat}(z:∀b o,b∉wr->b≠S->h0.get? b=U o->s.heap.get? b=U o)(m:St 0 s.heap)(i:s.heap.get? S=U { cls:=.type "list",dict:=Z,data:=.seq #[] c,slots:=#[] })(p:∀v h' tk,P (argBest bt (n-1)) v->(∀b o,b∉wr->b≠S->h0.get? b=U o->h'.get? b=U o)->R (.ok (.ret v)) { s with heap:=h',toks:=tk }):
  AF (A8 prog w) A (.builtin "min.loop" ⟨[.ref I,.none,.ref S],[]⟩) R s:=by
 have u:S∉wr:=λh=>a (W.sub _ h);have q:(toString "min" ++ toString ".loop":String) ="min.loop":=by decide
 refine ZO F.entry_min_loop ?_;rw[Around.under_plainId JS _];show A7 _ A.in1 (seqItems? (.ref S) >>= _) _ _ s;refine zb (qk i rfl ?_);show A7 _ A.in1 (tryCatch (pyNext (.ref I)) _ >>= _) _ _ s;refine zb (Zs (W.item 0 s _ _ f m λv h' tk t k g=>?_));have d:=g S _ u i;show A7 _ A.in1 (updateSeq S (λ_=>#[v,v]) >>= _) _ _ _;refine zb ?_;refine qr d rfl ?_;rw[q];refine ze ⟨plainId_quiet JS _,RD W bt S a j _ 0 _ v _ rfl f (λb o x y e=>(ZI _ _ (j0 y)).trans (g b o x (z b o x y e))) (W.frame _ _ _ k λb l o e=>?_) t (kG _ d rfl) p⟩;exact(ZI _ _ (λh:S=b=>a (by rw[h];exact l))).trans e
theorem Ng{a b:A0}{bt:Nat->Nat->Bool}(p:A.handled=Z)(m:RB prog w A.in1 .Lt s.heap (λc=>s.heap.objs.size<=c) (λi v=>(#[a,b])[i]?=U v) bt)(n:∀h' tk,(∀c o,s.heap.get? c=U o->h'.get? c=U o)->Q (if bt 1 0=true then b else a) { s with heap:=h',toks:=tk }):A7 (A8 prog w) A (call (.builtin "min") [a,b]) Q E s:=by
 have t:(toString "min" ++ toString ".loop":String) ="min.loop":=by decide
 refine call_function_tree F.kind_min F.plain_min F.entry_min (F.args_min2 _ _) ?_;show A7 _ A.in1 (Builtin.Builtins.bindParams "min" ["key","default"] 0 ⟨[],[]⟩ >>= _) _ _ s;refine zb (k9 (show Builtin.Builtins.bindParams "min" ["key","default"] 0 ⟨[],[]⟩=pure [Z,Z] from S) ?_);show A7 _ A.in1 (newTuple [a,b] >>= _) _ _ s;refine zb (qS ?_);have l:(s.heap.push { cls:=.type "tuple",data:=.seq #[a,b] }).IsTuple s.heap.objs.size #[a,b]:=⟨_,zt _ rfl,rfl,0,rfl⟩;refine zb (ku l ?_);have h:(s.heap.push { cls:=.type "tuple",data:=.seq #[a,b] }).objs.size=s.heap.objs.size+1:=ZZ ..;have W:=Walks.tuple (prog:=prog) (w:=w) (A:=A.in1) p (s.heap.objs.size+1) s.heap.objs.size (zD (JP _)) #[a,b];refine zb (qS ?_);rw[t];refine ze ⟨plainId_quiet JS _,?_⟩;rw[h];have e3:((s.heap.push { cls:=.type "tuple",data:=.seq #[a,b] }).push { cls:=.type "tuple_iterator",data:=.fields #[.ref s.heap.objs.size,.int 0 0] }).objs.size=s.heap.objs.size+2:=by rw[ZZ,h]
 have lo:∀{c:A1} {o:AE},s.heap.get? c=U o->c<s.heap.objs.size:=λe=>zv e;refine Nf (h0:=s.heap) W bt _ ?_ (λi j B C s' D u hk hi q hq=>m i j B C s' D u (λc o g e=>hk c o (λz=>?_) e) hi q hq) (show 0<2 by decide) (λc o _ _ e=>zd _ (zd _ (zd _ e))) ?_ (zt _ S) λv h' tk x hk=>?_
 ·rw[e3];intro d;rcases List.mem_cons.mp d with e|d
  ·exact absurd (show(s.heap.objs.size+2:Nat)=s.heap.objs.size+1 from e) ()
  ·rcases List.mem_cons.mp d with e|d
   ·exact absurd (show(s.heap.objs.size+2:Nat)=s.heap.objs.size from e) ()
   ·cases d
 ·rcases z with z|z
  ·rcases List.mem_cons.mp z with z|z
   ·rw[z]at g;exact g (ky _)
   ·cases z
  ·rw[e3]at z;rw[z]at g;exact g (kH _ 2)
 ·exact⟨⟨_,zd _ (by rw[<-h];exact zt _ S),rfl,rfl⟩,(l.push _).push _⟩
 ·have:=n h' tk λc o e=>hk c o (λz=>?_) (λz=>?_) e
  ·have y:v=if bt 1 0=true then b else a:=by
    have f:(#[a,b])[argBest bt 1]?=U v:=x;unfold argBest argBest at f;by_cases k:bt 1 0=true
    ·rw[zo k]at f ⊢;exact(by simpa using f.symm)
    ·rw[zC k]at f ⊢;exact(by simpa using f.symm)
   rw[y];exact this
  ·rcases List.mem_cons.mp z with z|z
   ·have:=lo e;rw[z]at this;exact QA _ (bX this)
   ·cases z
  ·have:=lo e;rw[e3]at z;rw[z]at this;exact absurd this (Nat.not_lt_of_le (kH _ 2))
theorem RG(W:Walks prog w A.in1 I fp wr n P St)(bt:Nat->Nat->Bool)(S:A1)(K:S∉fp)(X:RB prog w A.in1 .Gt h0 (λb=>b∈wr\/b=S) P bt):
  ∀(k j:Nat) (s:A2) (a:A0) (c:Nat),n-(j+1)=k->j+1<=n->(∀b o,b∉wr->b≠S->h0.get? b=U o->s.heap.get? b=U o)->St (j+1) s.heap->P (argBest bt j) a->s.heap.get? S=U { cls:=.type "list",dict:=Z,data:=.seq #[a,a] c,slots:=#[] } →
  (∀v h' tk,P (argBest bt (n-1)) v->(∀b o,b∉wr->b≠S->h0.get? b=U o->h'.get? b=U o)->R (.ok (.ret v)) { s with heap:=h',toks:=tk })->AF (A8 prog w) A (.builtin "max.loop" ⟨[.ref I,.none,.ref S],[]⟩) R s:=by
 have G:S∉wr:=λh=>K (W.sub _ h);have C:(toString "max" ++ toString ".loop":String) ="max.loop":=by decide
 have B:∀{b:A1},¬ (b∈wr\/b=S)->b∉wr/\b≠S:=λz=>⟨λx=>z (.inl x),λx=>z (.inr x)⟩;intro k
 induction k with
 |zero=>
  intro j s a c hk Q p t l g i;have L:j+1=n:=by omega
  refine ZO F.entry_max_loop ?_;rw[Around.under_plainId JU _];show A7 _ A.in1 (seqItems? (.ref S) >>= _) _ _ s;refine zb (qk g rfl ?_);show A7 _ A.in1 (tryCatch (pyNext (.ref I)) _ >>= _) _ _ s;refine zb (Zs (W.done s _ _ (L▸t) λh' tk f=>?_));have d:=f S _ G g;show A7 _ A.in1 (updateSeq S (λ_=>#[]) >>= _) _ _ _;refine zb ?_;refine qr d rfl (zb (qB (ze ?_)));refine i a _ tk (by rw[<-L];exact l) λb o H E e=>(ZI _ _ (j0 E)).trans (f b o H (p b o H E e))
 |succ k u=>
  intro j s a c hk Q p t l g i;have q:j+1<n:=by omega
  refine ZO F.entry_max_loop ?_;rw[Around.under_plainId JU _];show A7 _ A.in1 (seqItems? (.ref S) >>= _) _ _ s;refine zb (qk g rfl ?_);show A7 _ A.in1 (tryCatch (pyNext (.ref I)) _ >>= _) _ _ s;refine zb (Zs (W.item (j+1) s _ _ q t λv h' tk J M f=>?_));have d:=f S _ G g;have m:∀b o,b∉wr->b≠S->h0.get? b=U o->h'.get? b=U o:=λb o x y e=>f b o x (p b o x y e);show A7 _ A.in1 (tryCatch (holding [v,v] (richCompare .Gt v a >>= _)) _ >>= _) _ _ _;refine zb (Zs (Zp (zb (X (j+1) (argBest bt j) v a _ _ _ (λb o x e=>m b o (B x).1 (B x).2 e) J l ?_))));refine zb (Zp (qh ?_));refine zb (qB (ze ?_));cases D:bt (j+1) (argBest bt j)with
  |true=>
   simp only[Z3];refine zb ?_;refine qr d rfl (zb (qB ?_));rw[C];refine ze ⟨plainId_quiet JU _,u (j+1) _ v _ () q (λb o x y e=>(ZI _ _ (j0 y)).trans (m b o x y e)) (W.frame _ _ _ M λb N o e=>?_) (by simp only[argBest,D,Z3];exact J) (kG _ d rfl) i⟩;exact(ZI _ _ (λh:S=b=>K (by rw[h];exact N))).trans e
  |false=>
   simp only[zw,ZN];refine zb (qB ?_);rw[C];exact ze ⟨plainId_quiet JU _,u (j+1) _ a c () q m M (by simp only[argBest,D,zw,ZN];exact l) d i⟩
theorem Nh(W:Walks prog w A.in1 I fp wr n P St)(bt:Nat->Nat->Bool)(S:A1)(a:S∉fp)(j:RB prog w A.in1 .Gt h0 (λb=>b∈wr\/b=S) P bt)(f:0<n){c:Nat}(z:∀b o,b∉wr->b≠S->h0.get? b=U o->s.heap.get? b=U o)(m:St 0 s.heap)(i:s.heap.get? S=U { cls:=.type "list",dict:=Z,data:=.seq #[] c,slots:=#[] })(p:∀v h' tk,P (argBest bt (n-1)) v->(∀b o,b∉wr->b≠S->h0.get? b=U o->h'.get? b=U o)->R (.ok (.ret v)) { s with heap:=h',toks:=tk }):
  AF (A8 prog w) A (.builtin "max.loop" ⟨[.ref I,.none,.ref S],[]⟩) R s:=by
 have u:S∉wr:=λh=>a (W.sub _ h);have q:(toString "max" ++ toString ".loop":String) ="max.loop":=by decide
 refine ZO F.entry_max_loop ?_;rw[Around.under_plainId JU _];show A7 _ A.in1 (seqItems? (.ref S) >>= _) _ _ s;refine zb (qk i rfl ?_);show A7 _ A.in1 (tryCatch (pyNext (.ref I)) _ >>= _) _ _ s;refine zb (Zs (W.item 0 s _ _ f m λv h' tk t k g=>?_));have d:=g S _ u i;show A7 _ A.in1 (updateSeq S (λ_=>#[v,v]) >>= _) _ _ _;refine zb ?_;refine qr d rfl ?_;rw[q];refine ze ⟨plainId_quiet JU _,RG W bt S a j _ 0 _ v _ rfl f (λb o x y e=>(ZI _ _ (j0 y)).trans (g b o x (z b o x y e))) (W.frame _ _ _ k λb l o e=>?_) t (kG _ d rfl) p⟩;exact(ZI _ _ (λh:S=b=>a (by rw[h];exact l))).trans e
theorem Ni{a b:A0}{bt:Nat->Nat->Bool}(p:A.handled=Z)(m:RB prog w A.in1 .Gt s.heap (λc=>s.heap.objs.size<=c) (λi v=>(#[a,b])[i]?=U v) bt)(n:∀h' tk,(∀c o,s.heap.get? c=U o->h'.get? c=U o)->Q (if bt 1 0=true then b else a) { s with heap:=h',toks:=tk }):A7 (A8 prog w) A (call (.builtin "max") [a,b]) Q E s:=by
 have t:(toString "max" ++ toString ".loop":String) ="max.loop":=by decide
 refine call_function_tree F.kind_max F.plain_max F.entry_max (F.args_max2 _ _) ?_;show A7 _ A.in1 (Builtin.Builtins.bindParams "max" ["key","default"] 0 ⟨[],[]⟩ >>= _) _ _ s;refine zb (k9 (show Builtin.Builtins.bindParams "max" ["key","default"] 0 ⟨[],[]⟩=pure [Z,Z] from S) ?_);show A7 _ A.in1 (newTuple [a,b] >>= _) _ _ s;refine zb (qS ?_);have l:(s.heap.push { cls:=.type "tuple",data:=.seq #[a,b] }).IsTuple s.heap.objs.size #[a,b]:=⟨_,zt _ rfl,rfl,0,rfl⟩;refine zb (ku l ?_);have h:(s.heap.push { cls:=.type "tuple",data:=.seq #[a,b] }).objs.size=s.heap.objs.size+1:=ZZ ..;have W:=Walks.tuple (prog:=prog) (w:=w) (A:=A.in1) p (s.heap.objs.size+1) s.heap.objs.size (zD (JP _)) #[a,b];refine zb (qS ?_);rw[t];refine ze ⟨plainId_quiet JU _,?_⟩;rw[h];have e3:((s.heap.push { cls:=.type "tuple",data:=.seq #[a,b] }).push { cls:=.type "tuple_iterator",data:=.fields #[.ref s.heap.objs.size,.int 0 0] }).objs.size=s.heap.objs.size+2:=by rw[ZZ,h]
 have lo:∀{c:A1} {o:AE},s.heap.get? c=U o->c<s.heap.objs.size:=λe=>zv e;refine Nh (h0:=s.heap) W bt _ ?_ (λi j B C s' D u hk hi q hq=>m i j B C s' D u (λc o g e=>hk c o (λz=>?_) e) hi q hq) (show 0<2 by decide) (λc o _ _ e=>zd _ (zd _ (zd _ e))) ?_ (zt _ S) λv h' tk x hk=>?_
 ·rw[e3];intro d;rcases List.mem_cons.mp d with e|d
  ·exact absurd (show(s.heap.objs.size+2:Nat)=s.heap.objs.size+1 from e) ()
  ·rcases List.mem_cons.mp d with e|d
   ·exact absurd (show(s.heap.objs.size+2:Nat)=s.heap.objs.size from e) ()
   ·cases d
 ·rcases z with z|z
  ·rcases List.mem_cons.mp z with z|z
   ·rw[z]at g;exact g (ky _)
   ·cases z
  ·rw[e3]at z;rw[z]at g;exact g (kH _ 2)
 ·exact⟨⟨_,zd _ (by rw[<-h];exact zt _ S),rfl,rfl⟩,(l.push _).push _⟩
 ·have:=n h' tk λc o e=>hk c o (λz=>?_) (λz=>?_) e
  ·have y:v=if bt 1 0=true then b else a:=by
    have f:(#[a,b])[argBest bt 1]?=U v:=x;unfold argBest argBest at f;by_cases k:bt 1 0=true
    ·rw[zo k]at f ⊢;exact(by simpa using f.symm)
    ·rw[zC k]at f ⊢;exact(by simpa using f.symm)
   rw[y];exact this
  ·rcases List.mem_cons.mp z with z|z
   ·have:=lo e;rw[z]at this;exact QA _ (bX this)
   ·cases z
  ·have:=lo e;rw[e3]at z;rw[z]at this;exact absurd this (Nat.not_lt_of_le (kH _ 2))
end
theorem YC{x y:AY}{p q:A0}(hs:Gg x y=true)(hp:fQ x p=true)(hq:fQ y q=true)(h:Q (.bool (O9 y x)) s):A7 (A8 prog w) A (AG .Gt p q) Q E s:=by
 rcases bw hp with⟨i,t,rfl,rfl⟩|⟨z,t,rfl,rfl⟩
 ·rcases bw hq with⟨j,u,rfl,rfl⟩|⟨z,u,rfl,rfl⟩
  ·exact gt_int h
  ·cases hs
 ·rcases bw hq with⟨j,u,rfl,rfl⟩|⟨a,u,rfl,rfl⟩
  ·cases hs
  ·exact PySem.P.gt_str h
theorem xg{ks g:O AY}{b:A1}{d:O A0}(P:dO s.heap a AQ.toArray)(K:dO s.heap b d.toArray)(hk:Ks ks AQ)(C:Ks g d)(hs:Um ks g)(hu:A.units<cLine)(h:Q (.bool (cV g ks)) s):A7 (A8 prog w) A (AG .Gt (.ref a) (.ref b)) Q E s:=by
 obtain⟨t,ea,x,⟨na,M⟩,_⟩:=P;obtain⟨B,eb,y,⟨nb,db⟩,_⟩:=K;show A7 _ _ (richCompare .Gt (.ref a) (.ref b)) _ _ _;refine wpAny_richCompare_same_room ⟨t,ea,x⟩ ⟨B,eb,y⟩ F.slot_tuple_gt (JO F.slot_tuple_gt ⟨t,ea,x⟩ F.entry_tuple_gt ?_ (F.args_tuple_gt_2 _ _)) hu;show A7 _ _ (isInstance (.ref b) (.type "tuple") >>= _) _ _ s;refine zb (Kx ⟨B,eb,y⟩ isSubtype_tuple_tuple ?_);simp only[kn,zw,ZN];refine zb (k6 ea M ?_);refine zb (k6 eb db ?_);refine zb ?_;refine wpAny_forIn_list _
  (λAS r s'=>r.1=Z/\s'=s/\∃l j i k,AS=List.zip i k/\Ks l i/\Ks j k/\Um l j/\cV j l=cV g ks/\(k.length<i.length↔d.length<AQ.length))
  _ ?_ ?_ _ _ ⟨rfl,rfl,ks,g,AQ,d,by simp,hk,C,hs,rfl,Iff.rfl⟩
 ·rintro⟨u,v⟩ AS r s' ⟨n,rfl,l,j,i,k,f,p,m,o,c,q⟩;cases p with
  |nil=>simp at f
  |@cons W u' D H h1 L=>
   cases m with
   |nil=>simp at f
   |@cons I v' X N h2 G=>
    simp only[QU,Qb,kR]at f;obtain⟨⟨rfl,rfl⟩,rfl⟩:=f;refine zb (C4 h1 h2 ?_);simp only[cV]at c;by_cases e:I=W
    ·rw[zo e]at c;rw[Zl e.symm];simp only[kn,zw,ZN];exact ze ⟨rfl,rfl,D,X,H,N,rfl,L,G,o.2,c,by simpa using q⟩
    ·rw[zC e]at c;rw[z4 λz=>e z.symm];simp only[kA,Z3];refine zb (JE ?_);refine zb (show A7 _ _ (AG .Gt u v) _ _ _ from YC o.1 h1 h2 ?_);rw[c];exact zb (ze (ze (ze ⟨_,rfl,by simp,h⟩)))
 ·rintro⟨r1,r2⟩ s' ⟨n,rfl,l,j,i,k,f,p,m,o,c,q⟩;simp only at n;subst n;have J:decide (d.length<AQ.length)=cV g ks:=by
   rw[<-c,<-decide_eq_decide.mpr q];cases p with
   |nil=>cases m with
    |nil=>rfl
    |cons _ _=>rfl
   |cons _ _=>cases m with
    |nil=>rfl
    |cons _ _=>simp at f
  refine ze ⟨_,rfl,?_⟩;show Value.bool (decide (d.toArray.size<AQ.toArray.size))≠_/\Q (Value.bool (decide (d.toArray.size<AQ.toArray.size))) _;rw[zi,zi,J];exact⟨by simp,h⟩
theorem Qg{ks:O AY}(I:L2.AU X AN σ H s)(ek:nQ d=U ks)(r:aQ X.K H (.z d) v)(b:At v u):∃a AQ,u=.ref a/\dO s.heap a (List.toArray AQ)/\Ks ks AQ:=by
 rw[BL ek]at r;simp only[aQ,Co,AW]at r;obtain⟨p,vs,rfl,sq,c⟩:=r;cases b;obtain⟨AQ,b,t1⟩:=Uu I sq;rw[tZ c]at b;exact⟨p,AQ,rfl,t1,Ur X b⟩
theorem jk{h':A6}{AQ:Array A0}(t:dO h a AQ)(k:∀o,h.get? a=U o->h'.get? a=U o):dO h' a AQ:=let ⟨o,e,r⟩:=t;⟨o,k _ e,r⟩
def xq:O Bx->Y Bx
 |[.z a,.z b]=>(nQ a).bind λks=>(nQ b).bind λc=>if wU ks c=true/\wU c ks=true then U (.z (if cV c ks=true then b else a))else Z
 |_=>Z
def Cw:O Bx->Y Bx
 |[.z a,.z b]=>(nQ a).bind λks=>(nQ b).bind λc=>if wU ks c=true/\wU c ks=true then U (.z (if cV ks c=true then b else a))else Z
 |_=>Z
theorem Qh(n:X.calm=true)(hu:X.A.units+100<cLine):jh X (.builtin "min") xq:=by
 intro AN s σ H xs us Q I r h;obtain⟨bs,c,L,e,q⟩:=h;unfold xq at e;split at e;rotate_left
 ·cases e
 rename_i a b;obtain⟨ks,ek,e⟩:=AT e;obtain⟨m,el,e⟩:=AT e;split at e;rotate_left
 ·cases e
 rename_i hs;cases e;obtain⟨v,w,rfl,F,t⟩:=J9 L;obtain⟨u,N,rfl,z,y⟩:=AX.two r;obtain⟨p,AQ,rfl,t1,l⟩:=Qg I ek F z;obtain⟨p',W,rfl,t2,g⟩:=Qg I el t y;have J:p<s.heap.objs.size:=by obtain⟨o,e,_⟩:=t1;exact zv e
 have G:p'<s.heap.objs.size:=by obtain⟨o,e,_⟩:=t2;exact zv e
 have hx:X.A.in1.units<cLine:=by show X.A.units+1<cLine;omega
 have kp:∀{s':A2} {c:A1},(∀b o,¬ s.heap.objs.size<=b->s.heap.get? b=U o->s'.heap.get? b=U o)->c<s.heap.objs.size->∀o,s.heap.get? c=U o->s'.heap.get? c=U o:=λhk n o e=>hk _ o (Nat.not_le_of_lt n) e
 let E:=λi:Nat=>if i=0 then ks else m
 refine Ng (I.ok.hd n) (bt:=λi j=>cV (E i) (E j)) (λi j vi vj s' M P hk hi K hq=>?_) λh' tk kk=>?_
 ·have D:∀{i:Nat} {v:A0},(#[Value.ref p,Value.ref p'])[i]?=U v->(i=0/\v=.ref p)\/(i=1/\v=.ref p'):=λ{i v} h=>by
   match i,h with
   |0,h=>cases h;exact .inl ⟨rfl,rfl⟩
   |1,h=>cases h;exact .inr ⟨rfl,rfl⟩
   |_+2,h=>simp at h
  have C:∀k:O AY,wU k k=true:=λk=>by
   unfold wU;rw[jv];intro x hx;have:=k4 hx;have e:x.1=x.2:=by
    obtain⟨i,hi,rfl⟩:=bi.mp hx;simp
   rw[e];cases x.2<;>rfl
  have f:=jk t1 (kp hk J);have d:=jk t2 (kp hk G);rcases D hi with⟨rfl,rfl⟩|⟨rfl,rfl⟩<;>rcases D K with⟨rfl,rfl⟩|⟨rfl,rfl⟩
  ·exact sG f f l l (qe (C ks)) hx hq
  ·exact sG f d l g (qe hs.1) hx hq
  ·exact sG d f g l (qe hs.2) hx hq
  ·exact sG d d g g (qe (C m)) hx hq
 ·show EP X AN σ Q (if cV m ks=true then _ else _) _;by_cases B:cV m ks=true
  ·rw[zo B]at q ⊢;exact⟨_,H,I.kept kk,y,q _ H (AV.refl H) trivial t⟩
  ·rw[zC B]at q ⊢;exact⟨_,H,I.kept kk,z,q _ H (AV.refl H) trivial F⟩
theorem YD(n:X.calm=true)(hu:X.A.units+100<cLine):jh X (.builtin "max") Cw:=by
 intro AN s σ H xs us Q I r h;obtain⟨bs,c,L,e,q⟩:=h;unfold Cw at e;split at e;rotate_left
 ·cases e
 rename_i a b;obtain⟨ks,ek,e⟩:=AT e;obtain⟨m,el,e⟩:=AT e;split at e;rotate_left
 ·cases e
 rename_i hs;cases e;obtain⟨v,w,rfl,F,t⟩:=J9 L;obtain⟨u,N,rfl,z,y⟩:=AX.two r;obtain⟨p,AQ,rfl,t1,l⟩:=Qg I ek F z;obtain⟨p',W,rfl,t2,g⟩:=Qg I el t y;have J:p<s.heap.objs.size:=by obtain⟨o,e,_⟩:=t1;exact zv e
 have G:p'<s.heap.objs.size:=by obtain⟨o,e,_⟩:=t2;exact zv e
 have hx:X.A.in1.units<cLine:=by show X.A.units+1<cLine;omega
 have kp:∀{s':A2} {c:A1},(∀b o,¬ s.heap.objs.size<=b->s.heap.get? b=U o->s'.heap.get? b=U o)->c<s.heap.objs.size->∀o,s.heap.get? c=U o->s'.heap.get? c=U o:=λhk n o e=>hk _ o (Nat.not_le_of_lt n) e
 let E:=λi:Nat=>if i=0 then ks else m
 refine Ni (I.ok.hd n) (bt:=λi j=>cV (E j) (E i)) (λi j vi vj s' M P hk hi K hq=>?_) λh' tk kk=>?_
 ·have D:∀{i:Nat} {v:A0},(#[Value.ref p,Value.ref p'])[i]?=U v->(i=0/\v=.ref p)\/(i=1/\v=.ref p'):=λ{i v} h=>by
   match i,h with
   |0,h=>cases h;exact .inl ⟨rfl,rfl⟩
   |1,h=>cases h;exact .inr ⟨rfl,rfl⟩
   |_+2,h=>simp at h
  have C:∀k:O AY,wU k k=true:=λk=>by
   unfold wU;rw[jv];intro x hx;have:=k4 hx;have e:x.1=x.2:=by
    obtain⟨i,hi,rfl⟩:=bi.mp hx;simp
   rw[e];cases x.2<;>rfl
  have f:=jk t1 (kp hk J);have d:=jk t2 (kp hk G);rcases D hi with⟨rfl,rfl⟩|⟨rfl,rfl⟩<;>rcases D K with⟨rfl,rfl⟩|⟨rfl,rfl⟩
  ·exact xg f f l l (qe (C ks)) hx hq
  ·exact xg f d l g (qe hs.1) hx hq
  ·exact xg d f g l (qe hs.2) hx hq
  ·exact xg d d g g (qe (C m)) hx hq
 ·show EP X AN σ Q (if cV ks m=true then _ else _) _;by_cases B:cV ks m=true
  ·rw[zo B]at q ⊢;exact⟨_,H,I.kept kk,y,q _ H (AV.refl H) trivial t⟩
  ·rw[zC B]at q ⊢;exact⟨_,H,I.kept kk,z,q _ H (AV.refl H) trivial F⟩
def RJ:Bx->Bx->Y Bx
 |.z (.str x),.z (.str y)=>U (.z (.bl (decide (y.cps.toList<x.cps.toList))))
 |_,_=>Z
theorem LI:Ht X (AG .Gt) RJ:=by
 intro AN s σ H x y v u Q I i g h;obtain⟨a,b,c,d,f,e,q⟩:=h;unfold RJ at e;split at e
 ·cases e;obtain⟨rfl,_⟩:=HN d;obtain⟨rfl,_⟩:=HN f;obtain⟨t,rfl⟩:=i;obtain⟨j,rfl⟩:=g;exact PySem.P.gt_str ⟨.bl _,H,I,rfl,q _ H (AV.refl H) trivial (by unfold aQ AW;rfl)⟩
 ·cases e
end P1
namespace P1
open L2
theorem Nj:typeLookup (.type "tuple") "keys"=pure Z:=by rw[typeLookup_type,builtinLookup_eq_fast];kernel_rfl
theorem Nk:typeLookup (.type "tuple") "__getattr__"=pure Z:=by rw[typeLookup_type,builtinLookup_eq_fast];kernel_rfl
def YF(h:A6)(t:A1)(AQ:Array A0)(n:Nat)(sl:Array (Y A0)):Prop:=h.get? t=U { cls:=.type "tuple",dict:=Z,data:=.seq AQ n,slots:=sl }
section
theorem Vw{t:A1}{AQ:Array A0}{u:Tok}:Meets (Builtin.«object.__getattribute__» ⟨[.ref t,.str "keys" u],[]⟩) (λA R s=>YF s.heap t AQ n sl/\raisesAttr (.ref t) "keys" A R s):=
 Meets.of_wp λprog w A R s hs=>by
  obtain⟨hp,g,d,tk,os⟩:=s;obtain⟨a,hs⟩:=hs;have b:(⟨hp,g,d,tk,os⟩:A2).TypeIs (.ref t) "tuple":=⟨_,a,rfl⟩;have hk:=Nj;unfold YF at a;unfold Builtin.«object.__getattribute__»
  repeat (any_goals (first|assumption|wp_step))
  exact wpAny_raiseAttrError hs.1 hs.2 (attrMsg_fits (by decide +kernel) (by decide +kernel))
theorem Vx{t:A1}{AQ:Array A0}{Q:Y A0->A2->Prop}(k:A.handled=Z)(a:YF s.heap t AQ n sl)(h:∀h' tk,(∀b o,s.heap.get? b=U o->h'.get? b=U o)->Q Z { s with heap:=h',toks:=tk }):A7 (A8 prog w) A (getAttr? (.ref t) "keys") Q E s:=by
 obtain⟨hp,g,d,tk,os⟩:=s;have i:=a;have f:∀c:Nat,(⟨hp,g,d,c,os⟩:A2).TypeIs (.ref t) "tuple":= λ_=>⟨_,a,rfl⟩;have m:=sub_AttributeError;have v:=F.slot_tuple_getattribute.lookup;have q:=F.slot_tuple_getattribute.bind (.ref t);have p:=Nk;unfold YF at a;unfold getAttr? getAttrBy? getAttrBy
 repeat (any_goals (first|assumption|exact f _|((with_reducible show A7 _ _ (call (Value.builtin "tuple.__getattribute__") _ _) _ _ _);refine call_meets F.slot_tuple_getattribute (f _) F.entry_tuple_ga (F.args_tuple_getattribute_2 _ _) (Vw (AQ:=AQ) (n:=n) (sl:=sl)) ⟨i,k,λh' u e hx=>?_⟩)|wp_step))
 obtain⟨c,x,l⟩:=hx.there;have j:∀t2:Nat,(⟨h',g,d,t2,os⟩:A2).TypeIs (.ref e) "AttributeError":= λ_=>⟨_,l,rfl⟩;show A7 _ _ (getattributeRaised _ _ _ _ _ _ _) _ _ _;unfold getattributeRaised
 repeat (any_goals (first|assumption|exact j _|wp_step))
 exact h _ _ hx.keeps
variable{K:Type} [DecidableEq K] {knd:KeyKind prog w K}
theorem KJ{p:A1}{x y:A0}{Q:O A0->A2->Prop}(hp:dO s.heap p #[x,y])(h:Q [x,y] s):A7 (A8 prog w) A (Builtin.Dict.pairItems (.ref p)) Q E s:=by
 obtain⟨o,a,b,⟨n,hd⟩,_⟩:=hp;unfold Builtin.Dict.pairItems;refine zb (Q4 (T :="tuple") ⟨_,a,b⟩ ?_);rw[zo ()];exact zb (qk a hd (ze h))
theorem Qi{it t d:A1}{xs:Array A0}{Q:A2->Prop}(i:A.handled=Z)(h:t≠it)(f:d≠it)(D:t≠d)(hs:xs.size<=1000):
  ∀(m k:Nat) (s:A2) (AO AS:O (K×A0)),m=xs.size-k->k<=xs.size->AS.length=m->AO.length<=k->(∀(j:Nat) (b:K×A0),AS[j]?=U b->∃p x,xs[k+j]?=U (.ref p)/\p≠it/\p≠d/\dO s.heap p #[x,b.2]/\knd.is b.1 x=true) →
   s.heap.IsTupleIter it t k->s.heap.IsTuple t xs->s.heap.DictOf knd d AO →
   (∀h' tk,h'.DictOf knd d (merged AO AS)->(∀(c:A1) o,c≠it->c≠d->s.heap.get? c=U o->h'.get? c=U o)->Q { s with heap:=h',toks:=tk }) →
   AF (A8 prog w) A (.builtin "dict.update.loop" ⟨[.ref d,.ref it,rawInt k,.none],[]⟩) (wants (λr N=>r=.none/\Q N) E) s
 |0,k,s,AO,AS,hm,hk,hr,hkl,hrest,hi,ht,hd,hQ=>by
  have e:AS=[]:=List.length_eq_zero_iff.mp hr;subst e;have W:=Walks.tuple (prog:=prog) (w:=w) (A:=A.in1) i it t h xs;refine ZO Gp ?_;show A7 _ _ (pyNext (.ref it) >>= _) _ _ _;have H:k=xs.size:=by omega
  refine zb (W.done s _ _ ⟨H▸hi,ht⟩ λh' tk kp=>?_);show A7 _ _ (Builtin.Dict.addKeywords d [] >>= _) _ _ _;have a:∀(c:A1) o,c≠it->s.heap.get? c=U o->h'.get? c=U o:=λc o c1 q=>kp c o (by simpa using c1) q;have I:h'.DictOf knd d AO:=let ⟨o,es,ep,g,r⟩:=hd;⟨o,es,ep,a d o f g,r⟩;exact zb (ze (ze ⟨rfl,hQ h' tk I λc o c1 _ q=>a c o c1 q⟩))
 |m+1,k,s,AO,AS,hm,hk,hr,hkl,hrest,hi,ht,hd,hQ=>by
  cases AS with
  |nil=>cases hr
  |cons b AS=>
   obtain⟨p,x,hx,M,a7,hp,X⟩:=hrest 0 b rfl;rw[Nat.add_zero]at hx;have G:k<xs.size:=(Array.getElem?_eq_some_iff.mp hx).1;have W:=Walks.tuple (prog:=prog) (w:=w) (A:=A.in1) i it t h xs;refine ZO Gp ?_;show A7 _ _ (pyNext (.ref it) >>= _) _ _ _;refine zb (W.item k s _ _ G ⟨hi,ht⟩ λv n tk C F kp=>?_);rw[hx]at C;cases C;have a:∀(c:A1) o,c≠it->s.heap.get? c=U o->n.get? c=U o:=λc o c1 q=>kp c o (by simpa using c1) q;have J:n.DictOf knd d AO:=let ⟨o,es,ep,g,r⟩:=hd;⟨o,es,ep,a d o f g,r⟩;refine zb (Zp (zb (Zs (KJ (jk hp λo q=>a p o M q) ?_))));refine Zp (wpAny_dictSet_pairs X J (λu a0 a6=>?_) (by have:=sizeLine_eq;omega));have l:∀(c:A1) o,c≠d->n.get? c=U o->u.get? c=U o:=λc o c1 q=>a6.extBut _ _ (ad c1) q;have y:∀(c:A1) o,c≠it->c≠d->s.heap.get? c=U o->u.get? c=U o:=λc o c1 c2 q=>l c o c2 (a c o c1 q);refine ze ⟨Code.quiet_builtin _ (by decide +kernel),?_⟩;have:=Qi i h f D hs m (k+1) { s with heap:=u,toks:=tk+1 } (stored AO b.1 b.2) AS () G (by simpa using hr) ?_ (λj q hq=>?_) (F.1.at λo q=>l _ o (j0 f) q) (F.2.at λo q=>l _ o D q) a0 λh' tk P a=>hQ h' tk P λc o c1 c2 q=>a c o c1 c2 (y c o c1 c2 q)
   ·have e:(rawInt ((k+1:Nat):Int))=rawInt ((k:Int)+1):=by push_cast;rfl
    rw[e]at this;exact this
   ·unfold stored;split<;>simp<;>omega
   ·obtain⟨p',x',a1,a2,B,a4,L⟩:=hrest (j+1) q (by simpa using hq);exact⟨p',x',by rw[show k+1+j=k+(j+1) by omega];exact a1,a2,B,jk a4 λo z=>y p' o a2 B z,L⟩
theorem Vy{t:A1}{xs:Array A0}{rs:O (K×A0)}(v:A.handled=Z)(hs:xs.size<=1000)(a0:rs.length=xs.size)(I:∀(j:Nat) (b:K×A0),rs[j]?=U b->∃p x,xs[j]?=U (.ref p)/\dO s.heap p #[x,b.2]/\knd.is b.1 x=true)(B:dO s.heap t xs)(h:∀h' tk,h'.DictOf knd s.heap.objs.size (merged [] rs)->(∀(c:A1) o,s.heap.get? c=U o->h'.get? c=U o)->Q (.ref s.heap.objs.size) { s with heap:=h',toks:=tk }):
  A7 (A8 prog w) A (call (.type "dict") [.ref t]) Q E s:=by
 refine callType_codes (Q₁:=λG D=>G=.ref s.heap.objs.size/\D={ s with heap:=s.heap.push { cls:=.type "dict",data:=.dict #[] } }) F.kt_called_dict (F.kt_typeCall_dict_1 _) F.entry_dict_init (kt_code_dict_new _ ⟨rfl,rfl⟩) ?_;rintro G D ⟨rfl,rfl⟩;have a:(s.heap.push { cls:=.type "dict",data:=.dict #[] }).DictOf knd s.heap.objs.size []:=Heap.DictOf.new s.heap;have lo:∀{c:A1} {o:AE},s.heap.get? c=U o->c<s.heap.objs.size:=λe=>zv e;have u:t<s.heap.objs.size:=by obtain⟨o,e,_⟩:=B;exact lo e
 have k:∀(c:A1) o,s.heap.get? c=U o->(s.heap.push { cls:=.type "dict",data:=.dict #[] }).get? c=U o:=λc o q=>zd _ q;refine⟨a.typeIs,F.args_dict_init_2 _ _,?_⟩;unfold Builtin.«dict.__init__»;refine zb ?_;unfold Builtin.Dict.selfAndRest;refine zb (wpAny_notOrdered_dict a.typeIs ?_);show A7 _ _ (pure (s.heap.objs.size,[Value.ref t])) _ _ _;refine ze ?_;show A7 _ _ (Builtin.Dict.updateFrom "dict.__init__" s.heap.objs.size (.ref t) [] .none) _ _ _;have W:=jk B λo q=>k t o q;obtain⟨⟨cls,dd,data,sl⟩,f,H,⟨n,hd⟩,l⟩:=W;simp only at H hd l;subst H hd l;generalize J:s.heap.push { cls:=.type "dict",data:=.dict #[] }=h1 at a f k ⊢;have a4:h1.objs.size=s.heap.objs.size+1:=by rw[<-J];exact ZZ ..
 unfold Builtin.Dict.updateFrom;refine zb (Q4 (T :="tuple") ⟨_,f,rfl⟩ ?_);rw[zo ()];refine zb (Vx v f λh2 tk kp=>?_);rw[zo (show(Z:Y A0).isNone=true from S)];have y:h2.IsTuple t xs:=⟨_,kp _ _ f,rfl,n,rfl⟩;have C:∀(c:A1) o,s.heap.get? c=U o->h2.get? c=U o:=λc o q=>kp c o (k c o q);have i:s.heap.objs.size<h2.objs.size:=let ⟨o,es,ep,g,r⟩:=a;zv (kp _ _ g);refine zb (JE (zb (ku y (ze ⟨Code.quiet_builtin _ (by decide +kernel),?_⟩))));have m:∀(c:A1) o,s.heap.get? c=U o->(h2.push { cls:=.type "tuple_iterator",data:=.fields #[.ref t,.int 0 0] }).get? c=U o:=λc o q=>zd _ (C c o q);have P:∀{c:A1} {o:AE},s.heap.get? c=U o->c<h2.objs.size:=λe=>zv (C _ _ e);have lp:=Qi (A:=A.in1) (E:=E) (it:=h2.objs.size) (t:=t) (d:=s.heap.objs.size) (xs:=xs) (Q:=λM=>Q (.ref s.heap.objs.size) M) v (zD (ci u i)) (zD i) (zD u) hs xs.size 0 { s with heap:=h2.push { cls:=.type "tuple_iterator",data:=.fields #[.ref t,.int 0 0] },toks:=tk } [] rs S (qi _) a0 (zl _) (λj b q=>by
  obtain⟨p,x,a1,a2,L⟩:=I j b q;have pl:p<s.heap.objs.size:=by obtain⟨o,e,_⟩:=a2;exact lo e
  exact⟨p,x,by rw[bn];exact a1,zD (ci pl i),zD pl,jk a2 λo z=>m p o z,L⟩) ⟨_,zt _ rfl,rfl,rfl⟩ (y.push _) (let ⟨o,es,ep,g,r⟩:=a;⟨o,es,ep,zd _ (kp _ _ g),r⟩) λh' X N Sh=>h h' X N λc o q=>Sh c o (zD (P q)) (zD (lo q)) (m c o q)
 exact lp
end
def vR:O Dt->Y (O (AJ×Dt))
 |[]=>U []
 |.tup [.str x,d]::ds=>(vR ds).bind λr=>U ((x,d)::r)
 |_=>Z
def GJ:O Bx->Y Bx
 |[.z (.tup ds)]=>if ds.length<=1000 then(vR ds).bind λps=>U (.m (Uw ps) Z)else Z
 |_=>Z
theorem Cy(I:L2.AU X AN σ H s):∀{ds:O Dt} {ps:O (AJ×Dt)} {vs:O V} {AQ:O A0},vR ds=U ps->aG X.K H ds vs->AX vs AQ →
  ∃(us:O V) (ws:O A0),us.length=ps.length/\ws.length=ps.length/\AQ.length=ps.length/\AX us ws/\aG X.K H (ps.map (·.2)) us/\(∀p∈ps,p.1.length<=AA) ∧
   ∀(j:Nat) (k:AY) (v:A0),((ps.map λp=>(Sum.inr p.1:AY)).zip ws)[j]?=U (k,v)->∃a x,AQ[j]?=U (.ref a)/\dO s.heap a #[x,v]/\(dJ X.prog X.w).is k x=true
 |[],ps,vs,AQ,e,r,w=>by
  cases e;simp only[aG]at r;subst r;cases w;exact⟨[],[],rfl,rfl,rfl,.nil,aG.nil,λp h=>(by cases h),λj k v h=>by simp at h⟩
 |d::ds,ps,vs,AQ,e,r,w=>by
  unfold vR at e;split at e
  ·cases ‹_::_=([]:O Dt)›
  ·rename_i x d0 L q;cases q;obtain⟨M,e1,e2⟩:=AT e;cases e2;obtain⟨v,P,rfl,c,D⟩:∃v r,vs=v::r/\AW X.K H (.tup [.str x,d0]) v/\aG X.K H ds r:=by simpa only[aG]using r
   simp only[AW]at c;obtain⟨p,N,rfl,sq,f⟩:=c;simp only[aG]at f;obtain⟨kx,AS,rfl,hk,t,W,rfl,F,rfl⟩:=f;simp only[AW]at hk;obtain⟨rfl,n⟩:=hk;cases w with
   |cons A rw=>
    cases A;obtain⟨us,ws,B,l,o,E,J,m,g⟩:=Cy I e1 D rw;obtain⟨Q,C,t1⟩:=Uu I sq;cases C with
    |cons q1 q2=>cases q2 with
     |cons q3 i=>
      cases i;rename_i G u;refine⟨t::us,u::ws,by simp[B],by simp[l],by simp[o],.cons q3 E,aG.cons F J,λz b=>?_,λj k v h=>?_⟩
      ·rcases List.mem_cons.mp b with rfl|b
       ·exact n
       ·exact m z b
      ·cases j with
       |zero=>
        simp only[zr,QU,List.getElem?_cons_zero,Option.some.injEq,kR]at h;obtain⟨rfl,rfl⟩:=h;exact⟨p,G,rfl,t1,Ov (k:=Sum.inr x) q1⟩
       |succ j=>
        simp only[zr,QU,List.getElem?_cons_succ]at h;obtain⟨a,y,g1,g2⟩:=g j k v h;exact⟨a,y,by simpa using g1,g2⟩
  ·cases e
theorem Qj:∀{ks:O AY} {us:O V} {ws:O A0},AX us ws->KV (ks.zip us) (ks.zip ws)
 |[],_,_,_=>by simp;exact .nil
 |k::ks,_,_,.nil=>by simp;exact .nil
 |k::ks,_,_,.cons r t=>.cons ⟨rfl,r⟩ (Qj t)
theorem Vz(J:X.calm=true):jh X (.type "dict") GJ:=by
 intro AN s σ H xs us Q I r h;obtain⟨bs,c,G,e,q⟩:=h;unfold GJ at e;split at e;rotate_left
 ·cases e
 rename_i ds;split at e;rotate_left
 ·cases e
 rename_i M;obtain⟨ps,ep,e⟩:=AT e;cases e;obtain⟨v,rfl,m⟩:=BM G;simp only[aQ,AW]at m;obtain⟨t,vt,rfl,sq,rt⟩:=m;obtain⟨u,rfl,y⟩:=BA r;cases y;obtain⟨k,l,tt⟩:=Uu I sq;obtain⟨d,ws,l1,N,W,F,n,C,g⟩:=Cy I ep rt l;have l4:k.length=ds.length:=by rw[<-l.length];exact rt.length
 have f:KV ((ps.map λp=>(Sum.inr p.1:AY)).zip d) ((ps.map λp=>(Sum.inr p.1:AY)).zip ws):=Qj F;refine Vy (K:=AY) (knd:=dJ X.prog X.w) (xs:=k.toArray) (rs:=(ps.map λp=>(Sum.inr p.1:AY)).zip ws) (I.ok.hd J) (by simp;omega) (by simp;omega) (λj f D=>?_) tt λh' tk E L=>?_
 ·obtain⟨a,x,a1,a2,B⟩:=g j f.1 f.2 D;exact⟨a,x,by simpa using a1,a2,B⟩
 ·have sz:((ps.map λp=>(Sum.inr p.1:AY)).zip d).length<=1000:=by simp;omega
  have A:=uN ((ps.map λp=>(Sum.inr p.1:AY)).zip d) [];rw[cr]at A;have P:(1000:Nat)<=AA:=by decide
  have i:H s.heap.objs.size=Z:=I.hok.fresh (zl _);refine⟨.ref s.heap.objs.size,B7 H s.heap.objs.size (.dK (yp [] ((ps.map λp=>(Sum.inr p.1:AY)).zip d))),I.laid (a:=s.heap.objs.size) (t':=tk) (h':=h') (λb o e=>L b o e) (zl _) ⟨by omega,?_,_,KV.merge f .nil,E⟩,rfl,q _ _ (bD i) (λa z=>by cases z;exact i) ⟨s.heap.objs.size,_,rfl,aW,(Gq fO.nil n C).kp (.of (bD i)),λb z=>by cases z⟩⟩;have:=I.big;exact beq_eq_false_iff_ne.mpr (j0 (zD this))
end P1
namespace L2
def OP(i j k:Nat)(ta:TA):TS:=λD σ H=>ta σ H λvs H1=>∃u v w,vs=[u,v,w]/\D.nx (((σ.set i (U u)).set j (U v)).set k (U w)) H1
theorem YG{y z:AJ}{a b:Expr}{ta:TA}{px py g pt:Pos}{kt k2 pt2}(hc:X.calm=true)(hN:X.N.Nodup)(hi:X.N[i]?=U x)(L:X.N[j]?=U y)(hk:X.N[k]?=U z)(t:i≠j)(M:i≠k)(P:j≠k)(hx:X.env.scope.names.lookup x=U .local)(l:X.env.scope.names.lookup y=U .local)(m:X.env.scope.names.lookup z=U .local)(ha:PA X [a,b,c] ta)(Q:swappedStores [.Tuple [.Name x px,.Name y py,.Name z g] kt pt] (.Tuple [a,b,c] k2 pt2) X.env=pure (U [x,y,z]))(hs:swapsWithSole [.Tuple [.Name x px,.Name y py,.Name z g] kt pt] (.Tuple [a,b,c] k2 pt2) pos.line X.env=pure false:=by rfl):
  PS X (.Assign [.Tuple [.Name x px,.Name y py,.Name z g] kt pt] (.Tuple [a,b,c] k2 pt2) pos) (OP i j k ta):=by
 intro AN s σ H D I h;rw[exec_Assign_arm];refine zb (kP ?_);rw[hs];refine zb (ze ?_);rw[zC ()];refine zb (Tuple_ (jO (ha _ AN s σ H _ I h) λus s1 ⟨vs,H1,I1,r1,q1⟩=>?_));obtain⟨u,v,w,e1,q1⟩:=q1;subst e1;obtain⟨f,u2,d,rfl,C,W,G⟩:∃f u2 d,us=[f,u2,d]/\At u f/\At v u2/\At w d:=by
  cases r1 with
  |cons p q=>
   cases q with
   |cons p' F=>
    cases F with
    |cons p2 q2=>
     cases q2;exact⟨_,_,_,rfl,p,p',p2⟩
 refine qS ?_ (by show 3<=AA;decide);have E:AU X AN σ H1 { s1 with heap:=s1.heap.push { cls:=.type "tuple",data:=.seq [f,u2,d].toArray } }:=I1.kept (t':=s1.toks) λb o e=>zd _ e;rw[Q];refine zb (ze ?_);show A7 (d9 X) X.A (do rule "assign.swapped-stores"; let items <-unpackItems (.ref s1.heap.objs.size) 3 Z;assignInOrder [λv=>bindName X.env z v,λv=>bindName X.env y v,λv=>bindName X.env x v] items.reverse;pure Flow.next) _ _ _;refine zb (JE (zb (unpackItems_tuple (items:=#[f,u2,d]) (I.ok.hd hc) (IsTup.new s1.heap _) λh' J=>?_)));have B:=E.kept (h':=h') (t':=s1.toks) λb o e=>J b o (zD (zv e)) e;show A7 _ _ (assignInOrder [λv=>bindName X.env z v,λv=>bindName X.env y v,λv=>bindName X.env x v] [d,u2,f] >>= λ_=>pure Flow.next) _ _ _;refine zb (assignInOrder_cons (wpAny_bindName (rD B hN hk (.inl m) G (λs2 K=>?_) (.inr m))));refine assignInOrder_cons (wpAny_bindName (rD K hN L (.inl l) W (λs3 I5=>?_) (.inr l)));refine assignInOrder_cons (wpAny_bindName (rD I5 hN hi (.inl hx) C (λs4 n=>assignInOrder_nil (ze ?_)) (.inr hx)));have e:((σ.set k (U w)).set j (U v)).set i (U u)=((σ.set i (U u)).set j (U v)).set k (U w):=by
  rw[cK _ _ (j0 t),cK _ _ (j0 M),cK _ _ (j0 P)]
 rw[e]at n;exact⟨_,H1,n,q1⟩
end L2
namespace P1
open L2
def FA(i j k:Nat)(ρ:Ev):O Bx->Y As
 |[.z a,.z b,.z c]=>U (.nx (((ρ.set i (U (.z a))).set j (U (.z b))).set k (U (.z c))))
 |_=>Z
def Qk(i j k:Nat)(fs:Ev->Y (O Bx)):Ev->Y As:=λρ=>(fs ρ).bind (FA i j k ρ)
section
variable{a b:Expr}{fs:Ev->Y (O Bx)}
theorem YH(i j k:Nat){y z:AJ}{px py d pt:Pos}{kt k2 pt2}(v:X.calm=true)(hN:X.N.Nodup)(n:Tt X [a,b,c] fs)(hi:X.N[i]?=U x:=by rfl)(m:X.N[j]?=U y:=by rfl)(hk:X.N[k]?=U z:=by rfl)(o:i≠j:=by decide)(s:i≠k:=by decide)(g:j≠k:=by decide)(hx:X.env.scope.names.lookup x=U .local:=by rfl)(f:X.env.scope.names.lookup y=U .local:=by rfl)(l:X.env.scope.names.lookup z=U .local:=by rfl)(w:swappedStores [.Tuple [.Name x px,.Name y py,.Name z d] kt pt] (.Tuple [a,b,c] k2 pt2) X.env=pure (U [x,y,z]):=by rfl)(hs:swapsWithSole [.Tuple [.Name x px,.Name y py,.Name z d] kt pt] (.Tuple [a,b,c] k2 pt2) pos.line X.env=pure false:=by rfl):
  Q6 X (.Assign [.Tuple [.Name x px,.Name y py,.Name z d] kt pt] (.Tuple [a,b,c] k2 pt2) pos) (Qk i j k fs):=⟨Wi (YG v hN hi m hk o s g hx f l n.run w hs) λD σ H h=>by
 obtain⟨H0,ρ,r,E,e,q⟩:=h;obtain⟨bs,eb,e⟩:=AT e;refine⟨H0,ρ,bs,E,eb,λvs H1 s1 A=>?_⟩;unfold FA at e;split at e
 ·cases e;cases A with
  |cons p t=>
   cases t with
   |cons p' u=>
    cases u with
    |cons p2 t2=>
     cases t2;refine⟨_,_,_,rfl,q _ _ ?_⟩;exact(((E.grow s1).set (b:=.z _) (AV.refl H1) p (.inr S) trivial).set (b:=.z _) (AV.refl H1) p' (.inr S) trivial).set (b:=.z _) (AV.refl H1) p2 (.inr S) trivial
 ·cases e⟩
end
end P1
namespace P1
open L2 S1 S6
section
variable{e:α->Dt}{e':β->Dt}{e3:γ->Dt}{k:Ev->Y As}{cO:δ->As}
def VB[uR e](a:R fa ρ (zE e))(b:R fb ρ (zE e)):R (bx xq (ao fa (ao fb aF))) ρ (zE e):=⟨if Ei e b.v a.v=true then b.v else a.v,aV a.D b.D,λh=>by
 obtain⟨h1,h2⟩:=aB h;simp only[bx,ao,aF,a.ok h1,b.ok h2,bnd];show xq [.z (e a.v),.z (e b.v)]=_;unfold xq;simp only[uR.ok,bnd,uR.shp,and_self,Z3];show U (Bx.z (if Ei e b.v a.v=true then _ else _))=_;split<;>rfl⟩
def OY[uR e](a:R fa ρ (zE e))(b:R fb ρ (zE e)):R (bx Cw (ao fa (ao fb aF))) ρ (zE e):=⟨if Ei e a.v b.v=true then b.v else a.v,aV a.D b.D,λh=>by
 obtain⟨h1,h2⟩:=aB h;simp only[bx,ao,aF,a.ok h1,b.ok h2,bnd];show Cw [.z (e a.v),.z (e b.v)]=_;unfold Cw;simp only[uR.ok,bnd,uR.shp,and_self,Z3];show U (Bx.z (if Ei e a.v b.v=true then _ else _))=_;split<;>rfl⟩
def Lm(a:R fa ρ (zE eS))(b:R fb ρ (zE eS)):R (b2 RJ fa fb) ρ (zE eB):=⟨jA b.v a.v,aV a.D b.D,λh=>by
 obtain⟨h1,h2⟩:=aB h;simp only[b2,a.ok h1,b.ok h2,bnd,RJ];rfl⟩
theorem Cz:∀xs:O (AJ×α),vR (xs.map (mV eS e))=U (xs.map λp=>(p.1,e p.2))
 |[]=>rfl
 |x::xs=>by
  simp only[zr,mV,eS,vR];rw[show vR (xs.map λq=>Dt.tup [.str q.1,e q.2])=_ from Cz xs,bnd]
def YJ(a:R fa ρ (zE (eT (mV eS e)))):R (bx GJ (ao fa aF)) ρ (mE e):=⟨D9 a.v,aV a.D (U (a.v.length<=1000)),λh=>by
 obtain⟨h1,h2⟩:=aB h;have h2:a.v.length<=1000:=h2;have b:(a.v.map (mV eS e)).length<=1000:=by rw[zk];exact h2
 simp only[bx,ao,aF,a.ok h1,bnd];show GJ [.z (.tup (a.v.map (mV eS e)))]=_;unfold GJ;simp only[zo b,Cz,bnd,Rr]⟩
def IE(i j m:Nat)(a:R fa ρ (zE e))(b:R fb ρ (zE e'))(c:R fc ρ (zE e3))(K:∀x y z,R k (((ρ.set i (U (.z (e x)))).set j (U (.z (e' y)))).set m (U (.z (e3 z)))) cO):R (aD (Qk i j m (ao fa (ao fb (ao fc aF)))) k) ρ cO:=⟨(K a.v b.v c.v).v,aV (aV a.D (aV b.D c.D)) (K a.v b.v c.v).D,λhd=>by
 obtain⟨h1,d⟩:=aB hd;obtain⟨h1,h2⟩:=aB h1;obtain⟨h2,f⟩:=aB h2;rw[mX (ρ':=((ρ.set i (U (.z (e a.v)))).set j (U (.z (e' b.v)))).set m (U (.z (e3 c.v)))) (by unfold Qk;simp only[ao,aF,a.ok h1,b.ok h2,c.ok f,bnd,FA])];exact(K a.v b.v c.v).ok d⟩
def VD(a:R fa ρ (zE (eT (mV eS e')))):R (bx yJ (ao fa aF)) ρ (oE (mV eS e')):=⟨qX a.v,aV a.D (U (a.v.length<64/\(a.v.map (·.1)).Nodup)),λh=>by
 obtain⟨h,h2,c⟩:=aB h;have b:((a.v.map (mV eS e')).map gW).Nodup:=by rw[GF];exact KD c
 have m:yC (a.v.map hk)=(qX a.v).map hk:=(Gi ((vP a.v).map _) (ca.mpr (Cv a.v))).symm;have e:(a.v.map (mV eS e')).all BO=true:=by
  rw[jv];intro d hd;obtain⟨q,_,rfl⟩:=ag.mp hd;rfl
 have f:((qX a.v).map hk).map (C2 (a.v.map (mV eS e')))=(qX a.v).map (mV eS e'):=by
  rw[ja];refine qA λq hq=>?_;exact yI b (mV eS e' q) (QQ ((vP a.v).mem_iff.mp hq))
 simp only[bx,ao,aF,a.ok h,bnd];show yJ [.z (.tup (a.v.map (mV eS e')))]=_;simp only[yJ,vK,bnd];rw[zo ⟨by rw[zk];exact h2,e,b⟩,GF,m,f]⟩
end
end P1
namespace P1
open L2
theorem BG(a b:AJ):jA a b=true↔qT a b/\a≠b:=by
 unfold jA qT;rw[ltCps_eq];simp only[decide_eq_true_eq,QY];constructor
 ·intro h;exact⟨List.lt_asymm h,λe=>by subst e;exact List.lt_irrefl _ h⟩
 ·intro⟨h,hn⟩;by_cases q:a.cps.toList<b.cps.toList
  ·exact q
  ·exact absurd (fG (a:=a) (b:=b) (by unfold qT;rw[ltCps_eq];simpa using h) (by unfold qT;rw[ltCps_eq];simpa using q)) hn
theorem Ql{i:Int}(h:i∈rng 0 n):∃k:Nat,k<n/\i=(k:Int):=by
 unfold rng at h;obtain⟨k,hk,rfl⟩:=ag.mp h;exact⟨k,aS.mp hk,by omega⟩
end P1
namespace P1
open L2 S1 S6
theorem fY{α:Type}[DecidableEq α]:∀{xs ys:O α},xs.Nodup->(∀x∈xs,x∈ys)->xs.length<=ys.length
 |[],_,_,_=>qi _
 |x::xs,ys,nd,h=>by
  obtain⟨h1,h2⟩:=List.nodup_cons.mp nd;have hx:=h x (zg ..);have:=fY (ys:=ys.erase x) h2 λy a=>(List.mem_erase_of_ne λe=>h1 (by rw[<-e];exact a)).mpr (h y (zh _ a));rw[List.length_erase_of_mem hx]at this;have:=List.length_pos_of_mem hx;simp only[js];omega
theorem Nm[DecidableEq α]{xs ys:O α}(h1:xs.Nodup)(h2:ys.Nodup)(h:∀x,x∈xs↔x∈ys):xs.Perm ys:=by
 rw[List.perm_iff_count];intro a;by_cases b:a∈xs
 ·rw[h1.count,h2.count,zo b,zo ((h a).mp b)]
 ·rw[h1.count,h2.count,zC b,zC λz=>b ((h a).mpr z)]
def same(w:O AZ)(x y:AJ):Prop:=∃s∈w,x∈s/\y∈s
end P1
section
set_option maxHeartbeats 1000000
namespace P1
open L2
open PySem.Builtin PySem.Builtin.Str
abbrev cs(s:AJ):O Nat:=s.cps.toList
end P1
end
section
set_option maxHeartbeats 1000000
namespace P1
open L2 S1 S6
section
variable [Inhabited α]
end
theorem KU(a b c:AJ)(h1:jA a b=true)(h2:jA b c=true):jA a c=true:=by
 unfold jA at *
 simp only[decide_eq_true_eq]at *
 exact List.lt_trans h1 h2
section
variable{e:α->Dt} [uR e]
theorem Qm(a b:α):Ei e a b=true↔PK e a b=true/\a≠b:=by
 unfold Ei PK o9;constructor
 ·intro h;refine⟨?_,λz=>?_⟩
  ·cases q:cV (uR.k e b) (uR.k e a)with
   |false=>rfl
   |true=>have:=jV h q;rw[mR]at this;cases this
  ·rw[z,mR]at h;cases h
 ·rintro⟨h1,h2⟩;cases q:cV (uR.k e a) (uR.k e b)with
  |true=>rfl
  |false=>
   have h1:cV (uR.k e b) (uR.k e a)=false:=by
    cases z:cV (uR.k e b) (uR.k e a)with
    |false=>rfl
    |true=>rw[z]at h1;cases h1
   exact absurd (uR.inj _ _ (rW q h1)) h2
end
end P1
end
namespace P1
open L2
open PySem.Builtin PySem.Builtin.Str
end P1
section
set_option maxHeartbeats 1000000
namespace P1
open L2
open PySem.Builtin PySem.Builtin.Str
end P1
end
section
set_option synthInstance.maxSize 100000
namespace G37
open L2 P1
noncomputable section
abbrev Os:=O P1.Dt
abbrev bU:Type:=AJ×AJ
abbrev iH:bU->Dt:=mV eS eS
abbrev aP:Type:=AJ×(O bU)
abbrev aY:aP->Dt:=mV eS (eT iH)
abbrev Op:Type:=Int×AJ
abbrev YK:Op->Dt:=mV eI eS
abbrev cI:Type:=AJ×AJ×AZ
abbrev bW:cI->Dt:=D4 eS eS (eT eS)
abbrev m9:Type:=AJ×(Y AJ)
abbrev z8:m9->Dt:=mV eS (eO eS)
def top(i:Nat):AB:=PySem.Challenge.pw_onefolk_k37_whole_views_and_rows.main.body.getD i (.Pass ⟨0,0,0,0⟩)
abbrev CG:AB:=top 18
abbrev uU:AB:=top 19
abbrev zO:AB:=top 20
abbrev CJ:AB:=top 21
abbrev GK:AB:=top 22
abbrev CK:AB:=top 23
abbrev CN:AB:=top 24
abbrev CP:AB:=top 25
abbrev KN:AB:=top 14
abbrev GP:AB:=top 4
abbrev CQ:AB:=top 15
abbrev qY:AB:=top 11
abbrev xu:AB:=top 10
abbrev sS:AB:=top 9
abbrev zP:AB:=top 8
abbrev zQ:AB:=top 7
abbrev xG:AB:=top 6
abbrev GQ:AB:=top 16
abbrev GR:AB:=top 13
abbrev xH:AB:=top 26
abbrev pA:AB:=top 27
abbrev pB:AB:=top 28
abbrev s_law:AB:=top 29
def uV:Ev->Y As:=(aD (aD (B1 2 (b2 gA (b2 fP (b2 uG (gv 2) (cB (.int 69621))) (gv 3)) (cB (.int 2147483647)))) cZ) (gU [3]))
def qm:Ev->Y As:=(aD (rB (jR MJ (gv 1) (bx iD (ao (gv 0) aF))) (aD (cR (b2 bV (gv 0) (gv 1))) cZ) cZ) (aD (B1 2 (b2 gA (b2 uG (cB (.int 48271)) (b2 fP (b2 fP (b2 uG (gv 1) (gv 1)) (b2 uG (cB (.int 7)) (gv 1))) (cB (.int 11)))) (cB (.int 2147483647)))) (aD (oM (Zt (Sg (gv 0) vL (qR (cB (.int 3))))) (mO 3) uV) (aD (cR (gv 2)) cZ))))
def fZ:O Bx->Y Bx:=dj 4 qm
def jZ:Ev->Y As:=(aD (aD (B1 3 (b2 gA (b2 fP (b2 fP (b2 uG (gv 3) (b2 fP (b2 gA (gv 3) (cB (.int 65521))) (cB (.int 40487)))) (b2 uG (cB (.int 7)) (gv 5))) (cB (.int 5))) (cB (.int 1999999973)))) (aD (MF 2 (b2 bV (bx lC (ao (gv 3) (ao (b2 gA (gv 4) (cB (.int 1000000))) aF))) (bx Uh (ao (b2 DD (gv 4) (cB (.int 0))) aF)))) (aD (B1 4 (b2 mK (gv 4) (cB (.int 1000000)))) cZ))) (gU [5]))
def kO:Ev->Y As:=(aD (B1 2 (bx lC aF)) (aD (B1 3 (b2 gA (b2 uG (b2 fP (b2 gA (gv 0) (cB (.int 1999999973))) (cB (.int 31))) (cB (.int 765432101))) (cB (.int 1999999973)))) (aD (B1 4 (cB (.int 0))) (aD (rB (R8 (jR MJ (gv 0) (cB (.int 0))) (jR D6 (gv 0) (b2 Xp (cB (.int 10)) (cB (.int 18))))) (aD (aD (B1 4 (bx Ri (ao (gv 0) aF))) cZ) (gU [])) (aD cZ (gU []))) (aD (oM (J6 (ao (gv 1) aF)) (mO 5) jZ) (aD (Hw 2) cZ))))))
def dU:O Bx->Y Bx:=dj 6 kO
def ni:Ev->Y As:=(aD (aD (B1 7 (b2 bV (gv 2) (b2 gA (b2 fP (gv 6) (b2 bV (gv 0) (cB (.int 2)))) (cB (.int 15))))) (aD (B1 8 (b2 fP (b2 fP (Sg (gv 3) vL (qR (gv 4))) (gv 7)) (Sg (gv 3) (qR (gv 4)) vL))) (aD (rB (jR BB (b2 gA (b2 bV (gv 0) (cB (.int 3))) (cB (.int 3))) (cB (.int 1))) (aD (aD (B1 8 (b2 uG (b2 bV (gv 2) (b2 mK (gv 6) (cB (.int 8)))) (b2 fP (cB (.int 1)) (b2 gA (gv 6) (cB (.int 8)))))) cZ) (gU [])) (aD cZ (gU []))) (aD (MF 5 (gv 8)) cZ)))) (gU [6,7,8]))
def nY:Ev->Y As:=(aD (B1 2 (cB (.str "abcdefghijklmnopqrstuvwxyz"))) (aD (B1 3 (b1 (Gd "") (cQ (J6 (ao (b2 gA (b2 bV (gv 0) (cB (.int 0))) (cB (.int 6))) aF)) (mO 2) q9 (b2 bV (gv 0) (b2 gA (b2 mK (b2 bV (gv 1) (gv 2)) (cB (.int 40))) (cB (.int 26)))) [2,0] 1))) (aD (B1 4 (b2 gA (b2 bV (gv 0) (cB (.int 1))) (b2 fP (bx iD (ao (gv 3) aF)) (cB (.int 1))))) (aD (B1 5 (bx lC aF)) (aD (oM (J6 (ao (gv 1) aF)) (mO 6) ni) (aD (Hw 5) cZ))))))
def lA:O Bx->Y Bx:=dj 9 nY
def uW:Ev->Y As:=(aD (aD (B1 1 (b2 fP (gv 1) (b2 bV (cB (.str "ab1")) (b2 gA (b2 mK (b2 mK (gv 0) (cB (.int 16))) (b2 bV (bx lC (ao (cB (.int 1)) (ao (cB (.int 3)) (ao (cB (.int 9)) (ao (cB (.int 27)) aF))))) (gv 2))) (cB (.int 3)))))) cZ) (gU [2]))
def qp:Ev->Y As:=(aD (rB (jR BB (b2 gA (gv 0) (cB (.int 4))) (cB (.int 0))) (aD (cR (b2 bV (bx lC (ao (cB (.str "a")) (ao (cB (.str "ab")) (ao (cB (.str "abc")) (ao (cB (.str "b")) (ao (cB (.str "1")) (ao (cB (.str "12")) (ao (cB (.str "a1")) aF)))))))) (b2 gA (b2 mK (gv 0) (cB (.int 4))) (cB (.int 7))))) cZ) cZ) (aD (B1 1 (cB (.str ""))) (aD (oM (J6 (ao (b2 fP (cB (.int 1)) (b2 gA (b2 mK (gv 0) (cB (.int 4))) (cB (.int 4)))) aF)) (mO 2) uW) (aD (cR (gv 1)) cZ))))
def qt:O Bx->Y Bx:=dj 3 qp
def xJ:Ev->Y As:=(aD (aD (rB (jR DD (b2 gA (b2 bV (gv 1) (gv 4)) (cB (.int 4))) (cB (.int 0))) (aD (aD (MF 3 (bx gq (ao (b2 bV (gv 2) (gv 4)) (ao (b1 zJ (cF 1 qt (ao (b2 mK (b2 bV (gv 1) (gv 4)) (cB (.int 4))) aF))) aF)))) cZ) (gU [])) (aD cZ (gU []))) cZ) (gU [4]))
def uh:Ev->Y As:=(aD (B1 2 (bx lC (ao (cB (.str "day")) (ao (cB (.str "name")) (ao (b1 zJ (b2 fP (cB (.str "name")) (cB (.str "s")))) (ao (cB (.str "p")) aF)))))) (aD (B1 3 (bx lC aF)) (aD (oM (J6 (ao (cB (.int 4)) aF)) (mO 4) xJ) (aD (cR (bx gq (ao (gv 0) (ao (bx jx (ao (gv 3) aF)) aF)))) cZ))))
def um:O Bx->Y Bx:=dj 5 uh
def oN:Ev->Y As:=(aD (aD (MF 5 (b1 zJ (cF 2 um (ao (b2 bV (gv 3) (b2 gA (b2 fP (b2 uG (cB (.int 4)) (gv 6)) (b2 bV (gv 2) (cB (.int 7)))) (cB (.int 15)))) (ao (b1 zJ (cF 2 dU (ao (b1 zJ (cF 2 fZ (ao (gv 0) (ao (b1 zJ (b2 fP (cB (.int 1)) (gv 6))) aF)))) (ao (cB (.int 4)) aF)))) aF))))) cZ) (gU [6]))
def qu:Ev->Y As:=(aD (B1 2 (cF 2 dU (ao (b1 zJ (cF 2 fZ (ao (gv 0) (ao (cB (.int 0)) aF)))) (ao (cB (.int 9)) aF)))) (aD (B1 3 (cF 2 lA (ao (gv 2) (ao (cB (.int 15)) aF)))) (aD (B1 4 (b2 bV (bx lC (ao (cB (.int 1)) (ao (cB (.int 2)) (ao (cB (.int 5)) (ao (cB (.int 8)) (ao (gv 1) (ao (gv 1) aF))))))) (b2 gA (b2 bV (gv 2) (cB (.int 6))) (cB (.int 6))))) (aD (B1 5 (bx lC aF)) (aD (oM (J6 (ao (gv 4) aF)) (mO 6) oN) (aD (cR (bx jx (ao (gv 5) aF))) cZ))))))
def qw:O Bx->Y Bx:=dj 7 qu
def uX:Ev->Y As:=(aD (aD (Uv 5 1 (b2 gA (b2 mK (b2 bV (gv 0) (cB (.int 1))) (b2 bV (bx lC (ao (cB (.int 1)) (ao (cB (.int 5)) (ao (cB (.int 20)) (ao (cB (.int 60)) (ao (cB (.int 120)) aF)))))) (gv 4))) (bx iD (ao (gv 1) aF)))) (aD (MF 3 (bx gq (ao (gv 5) (ao (b2 bV (gv 2) (b2 gA (b2 bV (gv 0) (b2 fP (cB (.int 2)) (gv 4))) (cB (.int 6)))) aF)))) cZ)) (gU [4,5]))
def qx:Ev->Y As:=(aD (B1 1 (bx lC (ao (cB (.str "day")) (ao (cB (.str "name")) (ao (cB (.str "names")) (ao (cB (.str "p")) (ao (cB (.str "zzz")) aF))))))) (aD (B1 2 (bx lC (ao (cB (.str "first")) (ao (cB (.str "last")) (ao (cB (.str "most")) (ao (cB (.str "longest")) (ao (cB (.str "least")) (ao (cB (.str "greatest")) aF)))))))) (aD (B1 3 (bx lC aF)) (aD (oM (J6 (ao (b2 gA (b2 bV (gv 0) (cB (.int 0))) (cB (.int 6))) aF)) (mO 4) uX) (aD (cR (bx jx (ao (gv 3) aF))) cZ)))))
def qy:O Bx->Y Bx:=dj 6 qx
def qz:Ev->Y As:=(aD (cR (bx jx (ao (bx J8 (ao (cQ (J6 (ao (bx iD (ao (gv 0) aF)) aF)) (mO 2) (jR DD (b2 gA (b2 mK (b2 bV (gv 1) (b2 gA (gv 2) (bx iD (ao (gv 1) aF)))) (b2 fP (cB (.int 1)) (b2 mK (gv 2) (bx iD (ao (gv 1) aF))))) (cB (.int 3))) (cB (.int 0))) (b2 bV (gv 0) (gv 2)) [0,1] 1) aF)) aF))) cZ)
def nj:O Bx->Y Bx:=dj 2 qz
def zR:Ev->Y As:=(aD (aD (rB (jR BB (b2 bV (gv 2) (cB (.int 0))) (gv 1)) (aD (cR (gv 2)) cZ) cZ) cZ) (gU [2]))
def xK:Ev->Y As:=(aD (DY 0 (mO 2) zR) (aD EV cZ))
def xM:O Bx->Y Bx:=dj 3 xK
def xO:Ev->Y As:=(aD (aD (rB (jR BB (gv 2) (gv 1)) (aD (cR (gv 3)) cZ) cZ) cZ) (gU [2,3]))
def uo:Ev->Y As:=(aD (oM (Zt (b2 bV (gv 0) (cB (.int 1)))) (wH 2 (iU (mO 2) (iU (mO 3) Bl))) xO) (aD (cR (cB .non)) cZ))
def jl:O Bx->Y Bx:=dj 4 uo
def qC:Ev->Y As:=(aD (cR (cQ (zK (cQ (zK (gv 0)) (mO 1) q9 (b1 zJ (cF 2 jl (ao (gv 1) (ao (gv 0) aF)))) [1] 1)) (mO 0) (jR Br (gv 0) (cB .non)) (gv 0) [] 1)) cZ)
def j4:O Bx->Y Bx:=dj 2 qC
def iM:Ev->Y As:=(aD (cR (bx Cu (ao (gv 0) aF))) cZ)
def iQ:O Bx->Y Bx:=dj 1 iM
def lO:Ev->Y As:=(aD (cR (bx Cr (ao (gv 0) aF))) cZ)
def lQ:O Bx->Y Bx:=dj 1 lO
def jF:Ev->Y As:=(aD (cR (Kv DO Yv (gv 0) (bx gq (ao (b1 Ef (bx iD (ao (gv 0) aF))) (ao (gv 0) aF))) [])) cZ)
def f9:O Bx->Y Bx:=dj 1 jF
def nZ:Ev->Y As:=(aD (cR (Kv D3 DJ (gv 0) (b2 ql (gv 1) (gv 0)) [0])) cZ)
def lB:O Bx->Y Bx:=dj 1 nZ
def n6:Ev->Y As:=(aD (cR (b2 bV (gv 0) (b1 Ef (cB (.int 1))))) cZ)
def n8:O Bx->Y Bx:=dj 1 n6
def lR:Ev->Y As:=(aD (cR (b2 bV (gv 0) (cB (.int 0)))) cZ)
def lU:O Bx->Y Bx:=dj 1 lR
def VF:O (AJ×(O Bx->Y Bx)):=[("first",lU),("last",n8),("most",lB),("longest",f9),("least",lQ),("greatest",iQ)]
def uq:Ev->Y As:=(aD (Rw 3 4 VF (gv 2) (cF 2 j4 (ao (gv 0) (ao (gv 1) aF)))) (aD (cR (bx gq (ao (gv 1) (ao (gv 4) (ao (bx jx (ao (cQ (zK (gv 0)) (mO 2) (jR BB (cF 2 jl (ao (gv 2) (ao (gv 1) aF))) (gv 0)) (b2 bV (gv 2) (cB (.int 0))) [4,1] 1) aF)) aF))))) cZ))
def uw:O Bx->Y Bx:=dj 5 uq
def ux:Ev->Y As:=(aD (B1 3 (cQ (zK (gv 2)) (mO 1) q9 (b1 zJ (cF 2 xM (ao (gv 0) (ao (gv 1) aF)))) [0] 1)) (aD (cR (cQ (zK (gv 1)) (wH 2 (iU (mO 1) (iU (mO 2) Bl))) (tV (cF 2 j4 (ao (gv 0) (ao (gv 1) aF)))) (b1 zJ (cF 3 uw (ao (gv 0) (ao (gv 1) (ao (gv 2) aF))))) [3] 2)) cZ))
def j5:O Bx->Y Bx:=dj 4 ux
def lV:Ev->Y As:=(aD (cR (cQ (zK (bx yJ (ao (gv 0) aF))) (wH 2 (iU (mO 2) (iU (mO 3) Bl))) (jR inF (gv 2) (gv 1)) (bx gq (ao (gv 2) (ao (b1 zJ (cF 2 jl (ao (bx gq (ao (gv 2) (ao (gv 3) aF))) (ao (gv 0) aF)))) aF))) [2,1] 2)) cZ)
def jG:O Bx->Y Bx:=dj 3 lV
def gB:Ev->Y As:=(aD (EL (wH 3 (iU (mO 4) (iU (mO 5) (iU (mO 6) Bl)))) (gv 3)) (aD (B1 7 (cQ (zK (cF 3 jG (ao (gv 0) (ao (gv 1) (ao (gv 4) aF))))) (mO 0) (jR Br (b2 bV (gv 0) (cB (.int 1))) (cB .non)) (gv 0) [] 1)) (aD (B1 8 (cQ (zK (gv 7)) (mO 0) q9 (b2 bV (gv 0) (cB (.int 1))) [] 1)) (aD (rB (R8 (jR J1 (gv 5) (gv 8)) (jR Sd (bx Ga (ao (gv 6) aF)) (cQ (zK (gv 7)) (mO 1) (jR BB (b2 bV (gv 1) (cB (.int 1))) (gv 0)) (b2 bV (gv 1) (cB (.int 0))) [5] 1))) (aD (cR (cB (.bl false))) cZ) cZ) (aD (rB (R8 (zY (jR BB (gv 2) (cB (.str "least"))) (jR RJ (gv 5) (bx Cr (ao (gv 8) aF)))) (zY (jR BB (gv 2) (cB (.str "greatest"))) (jR MJ (gv 5) (bx Cu (ao (gv 8) aF))))) (aD (cR (cB (.bl false))) cZ) cZ) (aD (rB (zY (jR BB (gv 2) (cB (.str "longest"))) (jR MJ (bx iD (ao (gv 5) aF)) (bx zM (ao (cQ (zK (gv 8)) (mO 0) q9 (b1 zJ (bx iD (ao (gv 0) aF))) [] 1) aF)))) (aD (cR (cB (.bl false))) cZ) cZ) (aD (rB (zY (jR BB (gv 2) (cB (.str "most"))) (jR MJ (bx iD (ao (gv 6) aF)) (bx zM (ao (cQ (zK (gv 8)) (mO 1) q9 (b1 zJ (b2 ql (gv 0) (gv 1))) [8] 1) aF)))) (aD (cR (cB (.bl false))) cZ) cZ) (aD (cR (Ct (b2 Sd (gv 2) (cB (.str "first"))) (b2 BB (b2 bV (gv 6) (cB (.int 0))) (b2 bV (b2 bV (gv 7) (cB (.int 0))) (cB (.int 0)))))) cZ))))))))
def gC:O Bx->Y Bx:=dj 9 gB
def gD:Ev->Y As:=(aD (rB (R8 (jR BB (gv 1) (bx lC aF)) (jR BB (gv 2) (bx lC aF))) (aD (cR (b2 BB (gv 3) (b2 fP (gv 1) (gv 2)))) cZ) cZ) (aD (Qk 4 5 6 (ao (b2 bV (gv 1) (cB (.int 0))) (ao (b2 bV (gv 2) (cB (.int 0))) (ao (b2 bV (b2 bV (gv 3) (cB (.int 0))) (cB (.int 1))) aF)))) (aD (rB (jR BB (gv 0) (cB (.str "least"))) (aD (cR (b2 BB (gv 6) (bx su (ao (b2 bV (gv 4) (cB (.int 1))) (ao (b2 bV (gv 5) (cB (.int 1))) aF))))) cZ) cZ) (aD (rB (jR BB (gv 0) (cB (.str "greatest"))) (aD (cR (b2 BB (gv 6) (bx Gm (ao (b2 bV (gv 4) (cB (.int 1))) (ao (b2 bV (gv 5) (cB (.int 1))) aF))))) cZ) cZ) (aD (rB (jR BB (gv 0) (cB (.str "first"))) (aD (cR (b2 BB (gv 6) (b2 bV (bx xq (ao (bx gq (ao (b2 bV (b2 bV (gv 4) (cB (.int 2))) (cB (.int 0))) (ao (b2 bV (gv 4) (cB (.int 1))) aF))) (ao (bx gq (ao (b2 bV (b2 bV (gv 5) (cB (.int 2))) (cB (.int 0))) (ao (b2 bV (gv 5) (cB (.int 1))) aF))) aF))) (cB (.int 1))))) cZ) cZ) (aD (rB (jR BB (gv 0) (cB (.str "last"))) (aD (cR (b2 BB (gv 6) (b2 bV (bx Cw (ao (bx gq (ao (b2 bV (b2 bV (gv 4) (cB (.int 2))) (b1 Ef (cB (.int 1)))) (ao (b2 bV (gv 4) (cB (.int 1))) aF))) (ao (bx gq (ao (b2 bV (b2 bV (gv 5) (cB (.int 2))) (b1 Ef (cB (.int 1)))) (ao (b2 bV (gv 5) (cB (.int 1))) aF))) aF))) (cB (.int 1))))) cZ) cZ) (aD (rB (jR BB (gv 0) (cB (.str "longest"))) (aD (cR (b2 BB (gv 6) (b2 bV (bx xq (ao (bx gq (ao (b2 CC (cB (.int 0)) (bx iD (ao (b2 bV (gv 4) (cB (.int 1))) aF))) (ao (b2 bV (gv 4) (cB (.int 1))) aF))) (ao (bx gq (ao (b2 CC (cB (.int 0)) (bx iD (ao (b2 bV (gv 5) (cB (.int 1))) aF))) (ao (b2 bV (gv 5) (cB (.int 1))) aF))) aF))) (cB (.int 1))))) cZ) cZ) (aD (cR (Ct (b2 inF (gv 6) (bx gq (ao (b2 bV (gv 4) (cB (.int 1))) (ao (b2 bV (gv 5) (cB (.int 1))) aF)))) (b2 D6 (bx iD (ao (b2 bV (b2 bV (gv 3) (cB (.int 0))) (cB (.int 2))) aF)) (bx Rm (ao (bx iD (ao (b2 bV (gv 4) (cB (.int 2))) aF)) (ao (bx iD (ao (b2 bV (gv 5) (cB (.int 2))) aF)) aF)))))) cZ))))))))
def gF:O Bx->Y Bx:=dj 7 gD
def KQ:Ev->Y As:=(aD (aD (B1 14 (cQ (zK (bx lC (ao (gv 6) (ao (gv 7) (ao (bx jx (ao (bx yG (ao (b2 fP (gv 6) (gv 7)) aF)) aF)) aF))))) (mO 3) q9 (b1 zJ (cF 3 j5 (ao (gv 0) (ao (bx gq (ao (bx gq (ao (gv 1) (ao (gv 2) aF))) aF)) (ao (gv 3) aF))))) [1,12,13] 1)) (aD (rB (TF (tV (cF 4 gF (ao (gv 13) (ao (b2 bV (gv 14) (cB (.int 0))) (ao (b2 bV (gv 14) (cB (.int 1))) (ao (b2 bV (gv 14) (cB (.int 2))) aF))))))) (aD (cR (cB (.bl false))) cZ) cZ) cZ)) (gU [12,13,14]))
def CT:Ev->Y As:=(aD (aD (B1 4 (cF 2 dU (ao (gv 3) (ao (cB (.int 22)) aF)))) (aD (B1 5 (cF 1 qy (ao (gv 4) aF))) (aD (B1 6 (cF 2 nj (ao (gv 2) (ao (b1 zJ (Sg (gv 4) (qR (cB (.int 8))) vL)) aF)))) (aD (B1 7 (bx jx (ao (cQ (zK (cF 2 nj (ao (gv 2) (ao (b1 zJ (Sg (gv 4) (qR (cB (.int 12))) vL)) aF)))) (mO 1) (jR J1 (gv 1) (gv 0)) (gv 1) [6] 1) aF))) (aD (B1 8 (bx jx (ao (cQ (zK (gv 1)) (mO 1) (jR inF (b2 bV (gv 1) (cB (.int 0))) (gv 0)) (gv 1) [6] 1) aF))) (aD (B1 9 (b2 fP (gv 1) (bx gq (ao (bx gq (ao (cB (.str "qqq")) (ao (bx gq aF) aF))) aF)))) (aD (B1 10 (cF 3 j5 (ao (gv 1) (ao (gv 5) (ao (gv 6) aF))))) (aD (rB (R8 (jR Sd (cF 3 j5 (ao (gv 8) (ao (gv 5) (ao (gv 6) aF)))) (gv 10)) (jR Sd (cF 3 j5 (ao (gv 9) (ao (gv 5) (ao (bx jx (ao (bx yG (ao (b2 fP (gv 6) (bx gq (ao (cB (.str "qqq")) aF))) aF)) aF)) aF)))) (gv 10))) (aD (cR (cB (.bl false))) cZ) cZ) (aD (B1 11 (bx GJ (ao (gv 5) aF))) (aD (rB (TF (tV (bx CM (ao (cQ (zK (gv 10)) (mO 3) q9 (b1 zJ (cF 4 gC (ao (gv 0) (ao (gv 1) (ao (b2 Ge (gv 2) (b2 bV (gv 3) (cB (.int 0)))) (ao (gv 3) aF)))))) [1,6,11] 1) aF)))) (aD (cR (cB (.bl false))) cZ) cZ) (aD (DY 5 (wH 2 (iU (mO 12) (iU (mO 13) Bl))) KQ) cZ))))))))))) (gU [3,4,5,6,7,8,9,10,11,12,13,14]))
def Qn:Ev->Y As:=(aD (B1 1 (cF 2 qw (ao (gv 0) (ao (cB (.int 14)) aF)))) (aD (B1 2 (cQ (zK (gv 1)) (mO 0) q9 (b2 bV (gv 0) (cB (.int 0))) [] 1)) (aD (oM (Zt (b2 fP (bx lC (ao (b1 zJ (cF 2 fZ (ao (gv 0) (ao (cB (.int 16)) aF)))) aF)) (Sg (gv 0) (qR (cB (.int 17))) (qR (cB (.int 26)))))) (mO 3) CT) (aD (cR (cB (.bl true))) cZ))))
def F_law:O Bx->Y Bx:=dj 15 Qn
end
end G37
end
section
set_option synthInstance.maxSize 100000
namespace G37
open L2 P1
set_option genInjectivity false
set_option genSizeOf false
structure T (K:B5) (mg:Str->Option Value) where
 {VG:Addr}
 abL:mg "HOWS"=some (.ref VG)
 jd:DQ K mg "_law_cell" CG ["_law_script","_law_k"]
 dW:DQ K mg "_law_numbers" uU ["_law_cell_here","_law_many"]
 oh:DQ K mg "_law_names" zO ["_law_xs","_law_many"]
 qD:DQ K mg "_law_word" CJ ["_law_x"]
 uy:DQ K mg "_law_row" GK ["_law_name","_law_xs"]
 qF:DQ K mg "_law_book" CK ["_law_script","_law_most"]
 qG:DQ K mg "_law_view" CN ["_law_xs"]
 nq:DQ K mg "_law_some" CP ["_law_names_here","_law_xs"]
 xP:DQ K mg "row_of" KN ["book","name"]
 jm:DQ K mg "word_of" GP ["row","field"]
 j6:DQ K mg "words_in" CQ ["rows","field"]
 dH:DQ K mg "greatest_word" qY ["words"]
 gG:DQ K mg "least_word" xu ["words"]
 dw:DQ K mg "longest_word" sS ["words"]
 gj:DQ K mg "most_word" zP ["words"]
 jo:DQ K mg "last_word" zQ ["words"]
 gH:DQ K mg "first_word" xG ["words"]
 uz:DQ K mg "seen_of" GQ ["rows","field","how"]
 j7:DQ K mg "view_of" GR ["book","view","names"]
 lW:DQ K mg "_law_having" xH ["_law_book_here","_law_names_here","_law_field"]
 gJ:DQ K mg "_law_word_right" pA ["_law_book_here","_law_names_here","_law_how","_law_told"]
 gK:DQ K mg "_law_both_right" pB ["_law_how","_law_one","_law_other","_law_both"]
 x_law:DQ K mg "law" s_law ["_law_script"]
 adV:mg "abs"=none
 adW:mg "all"=none
 abM:mg "dict"=none
 adX:mg "int"=none
 nu:mg "len"=none
 abN:mg "list"=none
 zT:mg "max"=none
 GX:mg "min"=none
 ou:mg "range"=none
 xQ:mg "sorted"=none
 lX:mg "tuple"=none
 abO:Vt K VG [("first",gH.f),("last",jo.f),("most",gj.f),("longest",dw.f),("least",gG.f),("greatest",dH.f)]
 yN:YB K dw.fd "longest_word.<locals>.<lambda>"=true
 Ek:YB K gj.fd "most_word.<locals>.<lambda>"=true
section
variable(t:T K mg)
theorem KR:bF ["_law_script","_law_k","_law_state","_law_cell_here"] ["_law_script","_law_k"] (aH CG):=mU
theorem KY:Ok P w base t.jd 1 2 fZ:=Ej (g:=qm) t.jd KR λ_ _ _ _ _ _ a b nd=>(au (ji (bO Bu (ak 1) (aU iW S t.nu iV (aj (ak 0) aA)) (bA _)) (au (bJ (aM (ak 0) (ak 1))) aJ) aJ) (au (bL 2 nd (aO cY (aO qb aC (aO c7 (aO c7 (aO qb (ak 1) (ak 1)) (aO qb aC (ak 1))) aC)) aC)) (au (p7 PassesOwn.never S (Hz (FZ (ak 0) rR (mL aC))) (bf 3 nd) (cT [3] (au (bL 2 nd (aO cY (aO c7 (aO qb (ak 2) aC) (ak 3)) aC)) aJ))) (au (bJ (ak 2)) aJ))))
theorem CV:bF ["_law_cell_here","_law_many","_law_found","_law_state","_law_digits","_law_k"] ["_law_cell_here","_law_many"] (aH uU):=mU
theorem CW:Ok P w base t.dW 1 2 dU:=Ej (g:=kO) t.dW CV λ_ _ _ _ _ _ a b nd=>(au (bL 2 nd (fW aA)) (au (bL 3 nd (aO cY (aO qb (aO c7 (aO cY (ak 0) aC) aC) aC) aC)) (au (bL 4 nd aC) (au (ji (Hu (Bd (bO Bu (ak 0) aC (bA _)) (wF (bO Zq (ak 0) (aO Ha aC aC) (bA _))))) (cT [] (au (bL 4 nd (aU LW S t.adV L0 (aj (ak 0) aA))) aJ)) (cT [] aJ)) (au (p7 PassesOwn.never S (kZ S t.ou (aj (ak 1) aA)) (bf 5 nd) (cT [5] (au (bL 3 nd (aO cY (aO c7 (aO c7 (aO qb (ak 3) (aO c7 (aO cY (ak 3) aC) aC)) (aO qb aC (ak 5))) aC) aC)) (au (Bo 2 (aM (fW (aj (ak 3) (aj (aO cY (ak 4) aC) aA))) (dG N1 S t.adX LS (aj (mJ Uc (ak 4) aC (bA _)) aA)))) (au (bL 4 nd (aO ju (ak 4) aC)) aJ))))) (au (OJ 2) aJ))))))
theorem IV:bF ["_law_xs","_law_many","_law_letters","_law_stem","_law_at","_law_found","_law_k","_law_mark","_law_name"] ["_law_xs","_law_many"] (aH zO):=mU
theorem IW:Ok P w base t.oh 1 2 lA:=Ej (g:=nY) t.oh IV λ_ _ _ _ _ _ b a nd=>(au (bL 2 nd bI) (au (bL 3 nd (XC (fu ["_law_k"] (rz ["_law_letters","_law_xs"] [2,0]) S (T9 (kZ S t.ou (aj (aO cY (aM (ak 0) aC) aC) aA))) (λ_ _ _ _=>(ef 2)) (λ_ _ _ _=>fB) (λ_ _ _ _=>(aM (ak 0) (aO cY (aO ju (aM (ak 1) (ak 2)) aC) aC))) (cW)))) (au (bL 4 nd (aO cY (aM (ak 0) aC) (aO c7 (aU iW S t.nu iV (aj (ak 3) aA)) aC))) (au (bL 5 nd (fW aA)) (au (p7 PassesOwn.never S (kZ S t.ou (aj (ak 1) aA)) (bf 6 nd) (cT [6,7,8] (au (bL 7 nd (aM (ak 2) (aO cY (aO c7 (ak 6) (aM (ak 0) aC)) aC))) (au (bL 8 nd (aO c7 (aO c7 (FZ (ak 3) rR (mL (ak 4))) (ak 7)) (FZ (ak 3) (mL (ak 4)) rR))) (au (ji (bO (of_eq a) (aO cY (aM (ak 0) aC) aC) aC (bA _)) (cT [] (au (bL 8 nd (aO qb (aM (ak 2) (aO ju (ak 6) aC)) (aO c7 aC (aO cY (ak 6) aC)))) aJ)) (cT [] aJ)) (au (Bo 5 (ak 8)) aJ)))))) (au (OJ 5) aJ))))))
theorem KZ:bF ["_law_x","_law_found","_law_j"] ["_law_x"] (aH CJ):=mU
theorem K1:Ok P w base t.qD 1 1 qt:=Ej (g:=qp) t.qD KZ λ_ _ _ _ _ _ b a nd=>(au (ji (bO (of_eq a) (aO cY (ak 0) aC) aC (bA _)) (au (bJ (aM (fW (aj bI (aj bI (aj bI (aj bI (aj bI (aj bI (aj bI aA)))))))) (aO cY (aO ju (ak 0) aC) aC))) aJ) aJ) (au (bL 1 nd bI) (au (p7 PassesOwn.never S (kZ S t.ou (aj (aO c7 aC (aO cY (aO ju (ak 0) aC) aC)) aA)) (bf 2 nd) (cT [2] (au (bL 1 nd (aO c7 (ak 1) (aM bI (aO cY (aO ju (aO ju (ak 0) aC) (aM (fW (aj aC (aj aC (aj aC (aj aC aA))))) (ak 2))) aC)))) aJ))) (au (bJ (ak 1)) aJ))))
theorem Np:bF ["_law_name","_law_xs","_law_fields","_law_words","_law_k"] ["_law_name","_law_xs"] (aH GK):=mU
theorem Nq(a:Ok P w base t.qD 1 1 qt):Ok P w base t.uy 2 2 um:=Ej (g:=uh) t.uy Np λ_ _ _ _ _ _ b c nd=>(au (bL 2 nd (fW (aj bI (aj bI (aj (jQ (aO c7 bI bI)) (aj bI aA)))))) (au (bL 3 nd (fW aA)) (au (p7 PassesOwn.never S (kZ S t.ou (aj aC aA)) (bf 4 nd) (cT [4] (au (ji (bO Uc (aO cY (aM (ak 1) (ak 4)) aC) aC (bA _)) (cT [] (au (Bo 3 (eV (aj (aM (ak 2) (ak 4)) (aj (jQ (eY t.qD a b (aj (aO ju (aM (ak 1) (ak 4)) aC) aA))) aA)))) aJ)) (cT [] aJ)) aJ))) (au (bJ (eV (aj (ak 0) (aj (dG jy S t.lX jw (aj (ak 3) aA)) aA)))) aJ))))
theorem K3:bF ["_law_script","_law_most","_law_head","_law_names_here","_law_many","_law_rows","_law_k"] ["_law_script","_law_most"] (aH CK):=mU
theorem K4(c:Ok P w base t.jd 1 2 fZ)(d:Ok P w base t.oh 1 2 lA)(b:Ok P w base t.dW 1 2 dU)(e:Ok P w base t.uy 2 2 um):Ok P w base t.qF 3 2 qw:=Ej (g:=qu) t.qF K3 λ_ _ _ _ _ _ a f nd=>(au (bL 2 nd (eY t.dW b a (aj (jQ (eY t.jd c a (aj (ak 0) (aj aC aA)))) (aj aC aA)))) (au (bL 3 nd (eY t.oh d a (aj (ak 2) (aj aC aA)))) (au (bL 4 nd (aM (fW (aj aC (aj aC (aj aC (aj aC (aj (ak 1) (aj (ak 1) aA))))))) (aO cY (aM (ak 2) aC) aC))) (au (bL 5 nd (fW aA)) (au (p7 PassesOwn.never S (kZ S t.ou (aj (ak 4) aA)) (bf 6 nd) (cT [6] (au (Bo 5 (jQ (eY t.uy e a (aj (aM (ak 3) (aO cY (aO c7 (aO qb aC (ak 6)) (aM (ak 2) aC)) aC)) (aj (jQ (eY t.dW b a (aj (jQ (eY t.jd c a (aj (ak 0) (aj (jQ (aO c7 aC (ak 6))) aA)))) (aj aC aA)))) aA))))) aJ))) (au (bJ (dG jy S t.lX jw (aj (ak 5) aA))) aJ))))))
theorem K5:bF ["_law_xs","_law_fields","_law_hows","_law_found","_law_k","_law_field"] ["_law_xs"] (aH CN):=mU
theorem K6:Ok P w base t.qG 1 1 qy:=Ej (g:=qx) t.qG K5 λ_ _ _ _ _ _ a b nd=>(au (bL 1 nd (fW (aj bI (aj bI (aj bI (aj bI (aj bI aA))))))) (au (bL 2 nd (fW (aj bI (aj bI (aj bI (aj bI (aj bI (aj bI aA)))))))) (au (bL 3 nd (fW aA)) (au (p7 PassesOwn.never S (kZ S t.ou (aj (aO cY (aM (ak 0) aC) aC) aA)) (bf 4 nd) (cT [4,5] (au (NS 5 1 nd (aO cY (aO ju (aM (ak 0) aC) (aM (fW (aj aC (aj aC (aj aC (aj aC (aj aC aA)))))) (ak 4))) (aU iW S t.nu iV (aj (ak 1) aA)))) (au (Bo 3 (eV (aj (ak 5) (aj (aM (ak 2) (aO cY (aM (ak 0) (aO c7 aC (ak 4))) aC)) aA)))) aJ)))) (au (bJ (dG jy S t.lX jw (aj (ak 3) aA))) aJ)))))
theorem K7:bF ["_law_names_here","_law_xs"] ["_law_names_here","_law_xs"] (aH CP):=mU
theorem K8:Ok P w base t.nq 1 2 nj:=Ej (g:=qz) t.nq K7 λ_ _ _ _ _ _ a b nd=>(au (bJ (dG jy S t.lX jw (aj (aU Rk S t.xQ tY (aj (fu ["_law_k"] (rz ["_law_names_here","_law_xs"] [0,1]) S (T9 (kZ S t.ou (aj (aU iW S t.nu iV (aj (ak 0) aA)) aA))) (λ_ _ _ _=>(ef 2)) (λ_ _ _ _=>(fD (bO Uc (aO cY (aO ju (aM (ak 1) (aO cY (ak 2) (aU iW S t.nu iV (aj (ak 1) aA)))) (aO c7 aC (aO ju (ak 2) (aU iW S t.nu iV (aj (ak 1) aA))))) aC) aC (bA _)))) (λ_ _ _ _=>(aM (ak 0) (ak 2))) (cW)) aA)) aA))) aJ)
theorem RK:bF ["book","name","row"] ["book","name"] (aH KN):=mU
theorem RM:Ok P w base t.xP 1 2 xM:=Ej (g:=xK) t.xP RK λ_ _ _ _ _ _ b a nd=>(au (O1 0 PassesOwn.never S (bf 2 nd) (cT [2] (au (ji (bO (of_eq a) (aM (ak 2) aC) (ak 1) (bA _)) (au (bJ (ak 2)) aJ) aJ) aJ))) (au X4 aJ))
theorem Nr:bF ["row","field","own_field","word"] ["row","field"] (aH GP):=mU
theorem Nt:Ok P w base t.jm 1 2 jl:=Ej (g:=uo) t.jm Nr λ_ _ _ _ _ _ b a nd=>(au (p7 PassesOwn.never S (Hz (aM (ak 0) aC)) (Bm S (fX (bf 2 nd) (fX (bf 3 nd) wG))) (cT [2,3] (au (ji (bO (of_eq a) (ak 2) (ak 1) (bA _)) (au (bJ (ak 3)) aJ) aJ) aJ))) (au (bJ Mp) aJ))
theorem K9:bF ["rows","field"] ["rows","field"] (aH CQ):=mU
theorem La(a:Ok P w base t.jm 1 2 jl):Ok P w base t.j6 2 2 j4:=Ej (g:=qC) t.j6 K9 λ_ _ _ _ _ _ b c nd=>(au (bJ (fu ["word"] (rz [] []) S (eE (fu ["row"] (rz ["field"] [1]) S (eE (ak 0)) (λ_ _ _ _=>(ef 1)) (λ_ _ _ _=>fB) (λ_ _ _ _=>(jQ (eY t.jm a b (aj (ak 1) (aj (ak 0) aA))))) (cW))) (λ_ _ _ _=>(ef 0)) (λ_ _ _ _=>(fD (bO O8 (ak 0) Mp (bA _)))) (λ_ _ _ _=>(ak 0)) (cW))) aJ)
theorem yP:bF ["words"] ["words"] (aH qY):=mU
theorem yQ:Ok P w base t.dH 1 1 iQ:=Ej (g:=iM) t.dH yP λ_ _ _ _ _ _ a b nd=>(au (bJ (aU (Qd S) S t.zT rQ (aj (ak 0) aA))) aJ)
theorem El:bF ["words"] ["words"] (aH xu):=mU
theorem Em:Ok P w base t.gG 1 1 lQ:=Ej (g:=lO) t.gG El λ_ _ _ _ _ _ a b nd=>(au (bJ (aU (Qc S) S t.GX yw (aj (ak 0) aA))) aJ)
theorem qZ:bF ["words"] ["words"] (aH sS):=mU
theorem z9:Ok P w base t.dw 1 1 f9:=by
 unfold f9;obtain⟨h,d,c,b⟩:=Qf t.yN;refine ZQ (k:=0) (g:=jF) t.dw.F c qZ S S λA outer s H E a=>?_;have f:=Al a;have nd:=qZ.nd;exact(au (bJ (Rt (x :="word") (xs:=[]) (is:=[]) (cl:=[]) S a.depth (Vo (Al a)) S t.GX yw (Vv S S S S S S trivial S trivial) b S S S (λ_ _ _ _=>S) (ak 0) λe c' s' H'=>(eV (aj (Ox HS (aU iW S t.nu iV (aj (ak 0) aA))) (aj (ak 0) aA))))) aJ)
theorem xR:bF ["words"] ["words"] (aH zP):=mU
theorem Ja:Ok P w base t.gj 1 1 lB:=by
 unfold lB;obtain⟨h,d,c,b⟩:=Qf t.Ek;refine ZQ (k:=0) (g:=nZ) t.gj.F c xR S S λA outer s H E a=>?_;have f:=Al a;have nd:=xR.nd;exact(au (bJ (Ru (x :="word") (xs:=["words"]) (is:=[0]) (cl:=[("words",s.heap.objs.size+1)]) S a.depth Yu S t.zT rQ (Vv S S S S S S ⟨rfl,trivial⟩ S ⟨⟨rfl,.inl rfl,rfl,_,rfl⟩,trivial⟩) b S S S (λ_ _ _ _=>S) (ak 0) λe c' s' H'=>(Gy (ak 1) (ak 0)))) aJ)
theorem Jb:bF ["words"] ["words"] (aH zQ):=mU
theorem Jc:Ok P w base t.jo 1 1 n8:=Ej (g:=n6) t.jo Jb λ_ _ _ _ _ _ a b nd=>(au (bJ (aM (ak 0) (Ox HS aC))) aJ)
theorem Eo:bF ["words"] ["words"] (aH xG):=mU
theorem Ep:Ok P w base t.gH 1 1 lU:=Ej (g:=lR) t.gH Eo λ_ _ _ _ _ _ a b nd=>(au (bJ (aM (ak 0) aC)) aJ)
theorem Nu:bF ["rows","field","how","choose","chosen"] ["rows","field","how"] (aH GQ):=mU
theorem Nv(d:Ok P w base t.gH 1 1 lU)(l:Ok P w base t.dH 1 1 iQ)(i:Ok P w base t.jo 1 1 n8)(e:Ok P w base t.gG 1 1 lQ)(m:Ok P w base t.dw 1 1 f9)(c:Ok P w base t.gj 1 1 lB)(f:Ok P w base t.jm 1 2 jl)(h:Ok P w base t.j6 2 2 j4):Ok P w base t.uz 3 3 uw:=Ej (g:=uq) t.uz Nu λ_ _ _ _ _ _ a j nd=>(KO 3 4 nd S t.abL t.abO (ug d (a.mono ()) t.gH.k t.gH.b (ug i (a.mono ()) t.jo.k t.jo.b (ug c (a.mono ()) t.gj.k t.gj.b (ug m (a.mono ()) t.dw.k t.dw.b (ug e (a.mono ()) t.gG.k t.gG.b (ug l (a.mono ()) t.dH.k t.dH.b Ic)))))) (ak 2) (eY t.j6 h a (aj (ak 0) (aj (ak 1) aA))) (au (bJ (eV (aj (ak 1) (aj (ak 4) (aj (dG jy S t.lX jw (aj (fu ["row"] (rz ["chosen","field"] [4,1]) S (eE (ak 0)) (λ_ _ _ _=>(ef 2)) (λ_ _ _ _=>(fD (bO (of_eq j) (eY t.jm f a (aj (ak 2) (aj (ak 1) aA))) (ak 0) (bA _)))) (λ_ _ _ _=>(aM (ak 2) aC)) (cW)) aA)) aA))))) aJ))
theorem Nx:bF ["book","view","names","rows"] ["book","view","names"] (aH GR):=mU
theorem Ny(b:Ok P w base t.xP 1 2 xM)(c:Ok P w base t.uz 3 3 uw)(d:Ok P w base t.j6 2 2 j4):Ok P w base t.j7 4 3 j5:=Ej (g:=ux) t.j7 Nx λ_ _ _ _ _ _ a e nd=>(au (bL 3 nd (fu ["name"] (rz ["book"] [0]) S (eE (ak 2)) (λ_ _ _ _=>(ef 1)) (λ_ _ _ _=>fB) (λ_ _ _ _=>(jQ (eY t.xP b a (aj (ak 0) (aj (ak 1) aA))))) (cW))) (au (bJ (fu ["field","how"] (rz ["rows"] [3]) S (eE (ak 1)) (λ_ _ _ _=>(Bm S (fX (ef 1) (fX (ef 2) wG)))) (λ_ _ _ _=>(fD (Mq (eY t.j6 d a (aj (ak 0) (aj (ak 1) aA)))))) (λ_ _ _ _=>(jQ (eY t.uz c a (aj (ak 0) (aj (ak 1) (aj (ak 2) aA)))))) (T5 (wK (cW) (wK (cW) O2))))) aJ))
theorem Er:bF ["_law_book_here","_law_names_here","_law_field"] ["_law_book_here","_law_names_here","_law_field"] (aH xH):=mU
theorem Es(a:Ok P w base t.jm 1 2 jl):Ok P w base t.lW 2 3 jG:=Ej (g:=lV) t.lW Er λ_ _ _ _ _ _ b c nd=>(au (bJ (fu ["_law_name","_law_words"] (rz ["_law_field","_law_names_here"] [2,1]) S (eE (aU Vp S t.xQ tY (aj (ak 0) aA))) (λ_ _ _ _=>(Bm S (fX (ef 2) (fX (ef 3) wG)))) (λ_ _ _ _=>(fD (bO Ue (ak 2) (ak 1) (by with_unfolding_all rfl)))) (λ_ _ _ _=>(eV (aj (ak 2) (aj (jQ (eY t.jm a b (aj (eV (aj (ak 2) (aj (ak 3) aA))) (aj (ak 0) aA)))) aA)))) (T5 (wK (cW) (wK (cW) O2))))) aJ)
theorem xT:bF ["_law_book_here","_law_names_here","_law_how","_law_told","_law_field","_law_word_here","_law_rows","_law_having_here","_law_words"] ["_law_book_here","_law_names_here","_law_how","_law_told"] (aH pA):=mU
theorem xU(b:Ok P w base t.lW 2 3 jG):Ok P w base t.gJ 3 4 gC:=Ej (g:=gB) t.gJ xT λ_ _ _ _ _ _ c a nd=>(au (MU (ak 3) (Bm S (fX (bf 4 nd) (fX (bf 5 nd) (fX (bf 6 nd) wG))))) (au (HF 7 ["_law_pair"] (rz [] []) S nd (eE (eY t.lW b c (aj (ak 0) (aj (ak 1) (aj (ak 4) aA))))) (λ_ _ _ _=>(ef 0)) (λ_ _ _ _=>(fD (bO O8 (aM (ak 0) aC) Mp (bA _)))) (λ_ _ _ _=>(ak 0)) (cW)) (au (bL 8 nd (fu ["_law_pair"] (rz [] []) S (eE (ak 7)) (λ_ _ _ _=>(ef 0)) (λ_ _ _ _=>fB) (λ_ _ _ _=>(aM (ak 0) aC)) (cW))) (au (ji (Hu (Bd (bO J3 (ak 5) (ak 8) (by with_unfolding_all rfl)) (wF (bO (O6 a) (dG Xx S t.abN Xv (aj (ak 6) aA)) (fu ["_law_pair"] (rz ["_law_word_here"] [5]) S (eE (ak 7)) (λ_ _ _ _=>(ef 1)) (λ_ _ _ _=>(fD (bO (of_eq a) (aM (ak 1) aC) (ak 0) (bA _)))) (λ_ _ _ _=>(aM (ak 1) aC)) (cW)) (bA _))))) (au (bJ zH) aJ) aJ) (au (ji (Hu (Bd (Hu (Ag (bO (of_eq a) (ak 2) bI (bA _)) (wD (bO LI (ak 5) (aU (Qc S) S t.GX yw (aj (ak 8) aA)) (bA _))))) (wF (Hu (Ag (bO (of_eq a) (ak 2) bI (bA _)) (wD (bO Bu (ak 5) (aU (Qd S) S t.zT rQ (aj (ak 8) aA)) (bA _)))))))) (au (bJ zH) aJ) aJ) (au (ji (Hu (Ag (bO (of_eq a) (ak 2) bI (bA _)) (wD (bO Bu (aU iW S t.nu iV (aj (ak 5) aA)) (aU (Ph S) S t.zT rQ (aj (fu ["_law_one"] (rz [] []) S (eE (ak 8)) (λ_ _ _ _=>(ef 0)) (λ_ _ _ _=>fB) (λ_ _ _ _=>(jQ (aU iW S t.nu iV (aj (ak 0) aA)))) (cW)) aA)) (bA _))))) (au (bJ zH) aJ) aJ) (au (ji (Hu (Ag (bO (of_eq a) (ak 2) bI (bA _)) (wD (bO Bu (aU iW S t.nu iV (aj (ak 6) aA)) (aU (Ph S) S t.zT rQ (aj (fu ["_law_one"] (rz ["_law_words"] [8]) S (eE (ak 8)) (λ_ _ _ _=>(ef 1)) (λ_ _ _ _=>fB) (λ_ _ _ _=>(jQ (Gy (ak 0) (ak 1)))) (cW)) aA)) (bA _))))) (au (bJ zH) aJ) aJ) (au (bJ (Zg (mJ (O6 a) (ak 2) bI (bA _)) (TQ (mJ (of_eq a) (aM (ak 6) aC) (aM (aM (ak 7) aC) aC) (bA _))))) aJ))))))))
theorem xV:bF ["_law_how","_law_one","_law_other","_law_both","_law_here","_law_there","_law_word_here"] ["_law_how","_law_one","_law_other","_law_both"] (aH pB):=mU
theorem xW:Ok P w base t.gK 1 4 gF:=Ej (g:=gD) t.gK xV λ_ _ _ _ _ _ b a nd=>(au (ji (Hu (Bd (bO (of_eq a) (ak 1) (fW aA) (bA _)) (wF (bO (of_eq a) (ak 2) (fW aA) (bA _))))) (au (bJ (mJ (of_eq a) (ak 3) (aO c7 (ak 1) (ak 2)) (bA _))) aJ) aJ) (au (YH 4 5 6 S nd (aj (aM (ak 1) aC) (aj (aM (ak 2) aC) (aj (aM (aM (ak 3) aC) aC) aA)))) (au (ji (bO (of_eq a) (ak 0) bI (bA _)) (au (bJ (mJ (of_eq a) (ak 6) (aU (XS S) S t.GX yw (aj (aM (ak 4) aC) (aj (aM (ak 5) aC) aA))) (bA _))) aJ) aJ) (au (ji (bO (of_eq a) (ak 0) bI (bA _)) (au (bJ (mJ (of_eq a) (ak 6) (aU (X3 S) S t.zT rQ (aj (aM (ak 4) aC) (aj (aM (ak 5) aC) aA))) (bA _))) aJ) aJ) (au (ji (bO (of_eq a) (ak 0) bI (bA _)) (au (bJ (mJ (of_eq a) (ak 6) (aM (aU (Qh S a) S t.GX yw (aj (eV (aj (aM (aM (ak 4) aC) aC) (aj (aM (ak 4) aC) aA))) (aj (eV (aj (aM (aM (ak 5) aC) aC) (aj (aM (ak 5) aC) aA))) aA))) aC) (bA _))) aJ) aJ) (au (ji (bO (of_eq a) (ak 0) bI (bA _)) (au (bJ (mJ (of_eq a) (ak 6) (aM (aU (YD S a) S t.zT rQ (aj (eV (aj (aM (aM (ak 4) aC) (Ox HS aC)) (aj (aM (ak 4) aC) aA))) (aj (eV (aj (aM (aM (ak 5) aC) (Ox HS aC)) (aj (aM (ak 5) aC) aA))) aA))) aC) (bA _))) aJ) aJ) (au (ji (bO (of_eq a) (ak 0) bI (bA _)) (au (bJ (mJ (of_eq a) (ak 6) (aM (aU (Qh S a) S t.GX yw (aj (eV (aj (aO Ub aC (aU iW S t.nu iV (aj (aM (ak 4) aC) aA))) (aj (aM (ak 4) aC) aA))) (aj (eV (aj (aO Ub aC (aU iW S t.nu iV (aj (aM (ak 5) aC) aA))) (aj (aM (ak 5) aC) aA))) aA))) aC) (bA _))) aJ) aJ) (au (bJ (Zg (mJ Ue (ak 6) (eV (aj (aM (ak 4) aC) (aj (aM (ak 5) aC) aA))) (by with_unfolding_all rfl)) (TQ (mJ Zq (aU iW S t.nu iV (aj (aM (aM (ak 3) aC) aC) aA)) (aU (OZ S) S t.zT rQ (aj (aU iW S t.nu iV (aj (aM (ak 4) aC) aA)) (aj (aU iW S t.nu iV (aj (aM (ak 5) aC) aA)) aA))) (bA _))))) aJ))))))))
theorem MG:bF ["_law_script","_law_book_here","_law_names_here","_law_cell_here","_law_xs","_law_view_here","_law_one","_law_other","_law_alone","_law_more","_law_told","_law_hows","_law_field","_law_how","_law_parts"] ["_law_script"] (aH s_law):=mU
theorem IR(h:Ok P w base t.qF 3 2 qw)(j:Ok P w base t.gK 1 4 gF)(i:Ok P w base t.jd 1 2 fZ)(e:Ok P w base t.dW 1 2 dU)(d:Ok P w base t.nq 1 2 nj)(k:Ok P w base t.qG 1 1 qy)(f:Ok P w base t.gJ 3 4 gC)(b:Ok P w base t.j7 4 3 j5):Ok P w base t.x_law 5 1 F_law:=Ej (g:=Qn) t.x_law MG λ_ _ _ _ _ _ a c nd=>(au (bL 1 nd (eY t.qF h a (aj (ak 0) (aj aC aA)))) (au (HF 2 ["_law_row_here"] (rz [] []) S nd (eE (ak 1)) (λ_ _ _ _=>(ef 0)) (λ_ _ _ _=>fB) (λ_ _ _ _=>(aM (ak 0) aC)) (cW)) (au (p7 PassesOwn.never S (Hz (aO c7 (fW (aj (jQ (eY t.jd i a (aj (ak 0) (aj aC aA)))) aA)) (FZ (ak 0) (mL aC) (mL aC)))) (bf 3 nd) (cT [3,4,5,6,7,8,9,10,11,12,13,14] (au (bL 4 nd (eY t.dW e a (aj (ak 3) (aj aC aA)))) (au (bL 5 nd (eY t.qG k a (aj (ak 4) aA))) (au (bL 6 nd (eY t.nq d a (aj (ak 2) (aj (jQ (FZ (ak 4) (mL aC) rR)) aA)))) (au (bL 7 nd (dG jy S t.lX jw (aj (fu ["_law_name"] (rz ["_law_one"] [6]) S (eE (eY t.nq d a (aj (ak 2) (aj (jQ (FZ (ak 4) (mL aC) rR)) aA)))) (λ_ _ _ _=>(ef 1)) (λ_ _ _ _=>(fD (bO J3 (ak 1) (ak 0) (by with_unfolding_all rfl)))) (λ_ _ _ _=>(ak 1)) (cW)) aA))) (au (bL 8 nd (dG jy S t.lX jw (aj (fu ["_law_row_here"] (rz ["_law_one"] [6]) S (eE (ak 1)) (λ_ _ _ _=>(ef 1)) (λ_ _ _ _=>(fD (bO Ue (aM (ak 1) aC) (ak 0) (by with_unfolding_all rfl)))) (λ_ _ _ _=>(ak 1)) (cW)) aA))) (au (bL 9 nd (aO c7 (ak 1) (eV (aj (eV (aj bI (aj (eV aA) aA))) aA)))) (au (bL 10 nd (eY t.j7 b a (aj (ak 1) (aj (ak 5) (aj (ak 6) aA))))) (au (ji (Hu (Bd (bO (O6 c) (eY t.j7 b a (aj (ak 8) (aj (ak 5) (aj (ak 6) aA)))) (ak 10) (bA _)) (wF (bO (O6 c) (eY t.j7 b a (aj (ak 9) (aj (ak 5) (aj (dG jy S t.lX jw (aj (aU Ko S t.xQ tY (aj (aO c7 (ak 6) (eV (aj bI aA))) aA)) aA)) aA)))) (ak 10) (bA _))))) (au (bJ zH) aJ) aJ) (au (bL 11 nd (dG (Vz S) S t.abM Xw (aj (ak 5) aA))) (au (ji (TJ (Mq (aU (KL S) S t.adW HH (aj (fu ["_law_part"] (rz ["_law_book_here","_law_one","_law_hows"] [1,6,11]) S (eE (ak 10)) (λ_ _ _ _=>(ef 3)) (λ_ _ _ _=>fB) (λ_ _ _ _=>(jQ (eY t.gJ f a (aj (ak 0) (aj (ak 1) (aj (XF c (ak 2) (aM (ak 3) aC)) (aj (ak 3) aA))))))) (cW)) aA)))) (au (bJ zH) aJ) aJ) (au (O1 5 PassesOwn.never S (Bm S (fX (bf 12 nd) (fX (bf 13 nd) wG))) (cT [12,13,14] (au (HF 14 ["_law_some_here"] (rz ["_law_book_here","_law_field","_law_how"] [1,12,13]) S nd (eE (fW (aj (ak 6) (aj (ak 7) (aj (dG jy S t.lX jw (aj (aU Ko S t.xQ tY (aj (aO c7 (ak 6) (ak 7)) aA)) aA)) aA))))) (λ_ _ _ _=>(ef 3)) (λ_ _ _ _=>fB) (λ_ _ _ _=>(jQ (eY t.j7 b a (aj (ak 0) (aj (eV (aj (eV (aj (ak 1) (aj (ak 2) aA))) aA)) (aj (ak 3) aA)))))) (cW)) (au (ji (TJ (Mq (eY t.gK j a (aj (ak 13) (aj (aM (ak 14) aC) (aj (aM (ak 14) aC) (aj (aM (ak 14) aC) aA))))))) (au (bJ zH) aJ) aJ) aJ)))) aJ))))))))))))) (au (bJ zH) aJ))))
theorem C':Ok P w base t.x_law 5 1 F_law:=by
 have b:=KY (P:=P) (w:=w) (base:=base) t;have c:=CW (P:=P) (w:=w) (base:=base) t;have g:=IW (P:=P) (w:=w) (base:=base) t;have o:=K1 (P:=P) (w:=w) (base:=base) t;have z:=Nq (P:=P) (w:=w) (base:=base) t o;have e:=K4 (P:=P) (w:=w) (base:=base) t b g c z;have j:=K6 (P:=P) (w:=w) (base:=base) t;have s:=K8 (P:=P) (w:=w) (base:=base) t;have i:=RM (P:=P) (w:=w) (base:=base) t;have a:=Nt (P:=P) (w:=w) (base:=base) t;have d:=La (P:=P) (w:=w) (base:=base) t a;have v:=yQ (P:=P) (w:=w) (base:=base) t;have f:=Em (P:=P) (w:=w) (base:=base) t;have h:=z9 (P:=P) (w:=w) (base:=base) t;have k:=Ja (P:=P) (w:=w) (base:=base) t;have p:=Jc (P:=P) (w:=w) (base:=base) t;have n:=Ep (P:=P) (w:=w) (base:=base) t;have l:=Nv (P:=P) (w:=w) (base:=base) t n v p f h k a d;have x:=Ny (P:=P) (w:=w) (base:=base) t i l d;have y:=Es (P:=P) (w:=w) (base:=base) t a;have m:=xU (P:=P) (w:=w) (base:=base) t y;have u:=xW (P:=P) (w:=w) (base:=base) t;have q:=IR (P:=P) (w:=w) (base:=base) t e u b c s j m x;exact q
end
end G37
end
section
set_option synthInstance.maxSize 100000
namespace G37
open L2 P1
noncomputable section
def uY(a:Int)(b:Int):Int:=(let a:=(((a*69621)+b)%2147483647);a)
theorem Et(d:Au)(e:Lp bQ (d.map eI))(c:Int)(a:Int)(b:Int):RP uV [U bQ,U (zE eI c),U (zE eI a),U (zE eI b)] (λs=>As.nx ((λa:Int=>[U bQ,U (zE eI c),U (zE eI a),Z]) s)) (uY  a b) (Z):=R.tp (bN (cD 2 (dD (mW (Pk (aq 2 (zE eI) a S) 69621 ()) (aq 3 (zE eI) b S)) 2147483647 ()) (λ_=>S) λa=>(cX (dM a S))))
def bh(c:Au)(b:Int):Int:=(if(decide (b<(c.length:Int)))=true then(Ap c b)else(let a:=((48271*(((b*b)+(7*b))+11))%2147483647);(let a:Int:=((BI c Z (U 3)).foldl (λ(a:Int) (d:Int)=>(uY  a d)) a);a)))
def jf(b:Au)(a:Int):Prop:=(((decide (a<(b.length:Int)))=true->In b.length a)/\((decide (a<(b.length:Int)))=false->Dx a a))
theorem Nz(c:Au)(d:Lp bQ (c.map eI))(a:Int):RP qm [U bQ,U (zE eI a),Z,Z] (λr=>As.rt (zE eI r)) (bh c a) (U (jf c a)):=R.tp (lu (cU (Pn (aq 1 (zE eI) a S) (C0 (bY 0 eI c d S)))) (bN (cH (λr=>r) (gZ (bY 0 eI c d S) (aq 1 (zE eI) a S)) (λ_=>S) λ_=>S)) (cX (cD 2 (dD (Ig 48271 () (mW (mW (Zx (aq 1 (zE eI) a S) (aq 1 (zE eI) a S)) (Ig 7 () (aq 1 (zE eI) a S))) (B8 11))) 2147483647 ()) (λ_=>S) λb=>(M' (λb:Int=>[U bQ,U (zE eI a),U (zE eI b),Z]) b S (HC (Yc (bY 0 eI c d S) UL (M4 (B8 3)))) _ (λ_ _=>S) (λ(b:Int) (e:Int)=>(Et c d a b e).r) (λ_ _=>S) λb=>(cH (λr=>r) (aq 2 (zE eI) b S) (λ_=>S) λ_=>S)))))
theorem vX:∀v bs,(aL eI (aZ eI aN)) v bs->bs.length=2/\(hold (U (jf v.1 v.2.1))->fZ (bs.map lend)=U ((zE eI) (bh v.1 v.2.1))):=by
 rintro⟨c,a,_⟩ _ ⟨bQ,_,rfl,b,⟨_,rfl,rfl⟩⟩;exact⟨rfl,λh=>cG (g:=qm) (n:=4) (bs:=[lend bQ,.z (eI a)]) (Nz c (jz b) a) h⟩
def bR(s1:Int×Au×Int)(b:Int):Int×Au×Int:=(let a:=((((s1.1*((s1.1%65521)+40487))+(7*b))+5)%1999999973);(let d:=s1.2.1++[(Ap [a,(s1.2.2%1000000)] (if(decide ((0:Int)<s1.2.2))=true then(1:Int)else 0))];(let c:=(s1.2.2 / (1000000:Int));(a,d,c))))
def gO(s1:Int×Au×Int)(b:Int):Prop:=(Dx s1.1 ((s1.1%65521)+40487)/\(let a:=((((s1.1*((s1.1%65521)+40487))+(7*b))+5)%1999999973);(In [a,(s1.2.2%1000000)].length (if(decide ((0:Int)<s1.2.2))=true then(1:Int)else 0)/\Ik s1.2.1.length)))
theorem yS(d:Int)(c:Int)(s1:Int×Au×Int)(a:Int):RP jZ [U (zE eI d),U (zE eI c),U ((oE eI) s1.2.1),U ((zE eI) s1.1),U ((zE eI) s1.2.2),U (zE eI a)] (λs=>As.nx ((λs1:Int×Au×Int=>[U (zE eI d),U (zE eI c),U ((oE eI) s1.2.1),U ((zE eI) s1.1),U ((zE eI) s1.2.2),Z]) s)) (bR  s1 a) (U (gO  s1 a)):=R.tp (bN (cD 3 (dD (mW (mW (Zx (aq 3 (zE eI) s1.1 S) (mW (dD (aq 3 (zE eI) s1.1 S) 65521 ()) (B8 40487))) (Ig 7 () (aq 5 (zE eI) a S))) (B8 5)) 1999999973 ()) (λ_=>S) λb=>(bN (Km 2 s1.2.1 S (gZ (jc (lq (aK (aq 3 (zE eI) b S) (aK (dD (aq 4 (zE eI) s1.2.2 S) 1000000 ()) (dR eI))) (zI S))) (NA (FO (aq 4 (zE eI) s1.2.2 S) (B8 0)))) λe=>(bN (cD 4 (qg (aq 4 (zE eI) s1.2.2 S) 1000000 ()) (λ_=>S) λf=>(cX (dM (b,e,f) S))))))))
def pC(e:Int)(d:Int)(a:Au)(c:Int)(b:Int):Au:=a
def pD:Ev->Y As:=(aD (Hw 2) cZ)
theorem yU(e:Int)(d:Int)(a:Au)(c:Int)(b:Int):RP pD [U (zE eI e),U (zE eI d),U (oE eI a),U (zE eI c),U (zE eI b),Z] (λr=>As.rt (oE eI r)) (pC e d a c b) (Z):=R.tp (U7 2 (λr=>r) a S (λ_=>S) λ_=>S)
def gP(f:Int)(a:Int)(b:Au)(e:Int)(d:Int):Au:=(let s1:Int×Au×Int:=((rng 0 a.toNat).foldl (λ(s1:Int×Au×Int) (c:Int)=>(bR  s1 c)) (e,b,d));(pC f a s1.2.1 s1.1 s1.2.2))
def kj(f:Int)(b:Int)(c:Au)(e:Int)(d:Int):Prop:=(Rg b/\z6 (λ(s1:Int×Au×Int) (a:Int)=>(bR  s1 a)) (λ(s1:Int×Au×Int) (a:Int)=>U (gO  s1 a)) (rng 0 b.toNat) (e,c,d))
def pF:Ev->Y As:=(aD (oM (J6 (ao (gv 1) aF)) (mO 5) jZ) pD)
theorem yV(b:Int)(a:Int)(c:Au)(e:Int)(d:Int):RP pF [U (zE eI b),U (zE eI a),U (oE eI c),U (zE eI e),U (zE eI d),Z] (λr=>As.rt (oE eI r)) (gP b a c e d) (U (kj b a c e d)):=R.tp (Gs (λs1:Int×Au×Int=>[U (zE eI b),U (zE eI a),U ((oE eI) s1.2.1),U ((zE eI) s1.1),U ((zE eI) s1.2.2),Z]) (e,c,d) S (Ci (aq 1 (zE eI) a S)) _ (λ_ _=>S) (λ(s1:Int×Au×Int) (f:Int)=>(yS b a s1 f).r) λs1=>(yU b a s1.2.1 s1.1 s1.2.2).r)
def pG(a:Int)(e:Int)(c:Au)(d:Int)(b:Int):Au:=(let b:Int:=(if((decide (a<0))||(decide (((10:Int) ^ 18)<=a)))=true then(let b:=(if a<0 then -a else a);b)else b);(gP a e c d b))
def pH(a:Int)(e:Int)(c:Au)(d:Int)(b:Int):Prop:=(let b:Int:=(if((decide (a<0))||(decide (((10:Int) ^ 18)<=a)))=true then(let b:=(if a<0 then -a else a);b)else b);(kj a e c d b))
def pJ:Ev->Y As:=(aD (rB (R8 (jR MJ (gv 0) (cB (.int 0))) (jR D6 (gv 0) (b2 Xp (cB (.int 10)) (cB (.int 18))))) (aD (aD (B1 4 (bx Ri (ao (gv 0) aF))) cZ) (gU [])) (aD cZ (gU []))) pF)
theorem yW(b:Int)(e:Int)(c:Au)(d:Int)(a:Int):RP pJ [U (zE eI b),U (zE eI e),U (oE eI c),U (zE eI d),U (zE eI a),Z] (λr=>As.rt (oE eI r)) (pG b e c d a) (U (pH b e c d a)):=R.tp (U8 (λa:Int=>[U (zE eI b),U (zE eI e),U (oE eI c),U (zE eI d),U (zE eI a),Z]) (UG (cU (Pn (aq 0 (zE eI) b S) (B8 0))) (cU (DM (aq 0 (zE eI) b S) (II 10 18 18 () S)))) (bN (cD 4 (LA (aq 0 (zE eI) b S)) (λ_=>S) λa=>(cX (dM a S)))) (cX (dM a S)) λa=>(yV b e c d a).r)
def pK(e:Int)(d:Int)(a:Au)(c:Int):Au:=(let b:=(0:Int);(pG e d a c b))
def pL(e:Int)(d:Int)(a:Au)(c:Int):Prop:=(let b:=(0:Int);(pH e d a c b))
def pN:Ev->Y As:=(aD (B1 4 (cB (.int 0))) pJ)
theorem yX(d:Int)(c:Int)(a:Au)(b:Int):RP pN [U (zE eI d),U (zE eI c),U (oE eI a),U (zE eI b),Z,Z] (λr=>As.rt (oE eI r)) (pK d c a b) (U (pL d c a b)):=R.tp (cD 4 (B8 0) (λ_=>S) λe=>(yW d c a b e).r)
def pO(a:Int)(c:Int)(d:Au):Au:=(let b:=((((a%1999999973)+31)*765432101)%1999999973);(pK a c d b))
def pP(a:Int)(c:Int)(d:Au):Prop:=(let b:=((((a%1999999973)+31)*765432101)%1999999973);(pL a c d b))
def yZ:Ev->Y As:=(aD (B1 3 (b2 gA (b2 uG (b2 fP (b2 gA (gv 0) (cB (.int 1999999973))) (cB (.int 31))) (cB (.int 765432101))) (cB (.int 1999999973)))) pN)
theorem za(a:Int)(b:Int)(c:Au):RP yZ [U (zE eI a),U (zE eI b),U (oE eI c),Z,Z,Z] (λr=>As.rt (oE eI r)) (pO a b c) (U (pP a b c)):=R.tp (cD 3 (dD (Pk (mW (dD (aq 0 (zE eI) a S) 1999999973 ()) (B8 31)) 765432101 ()) 1999999973 ()) (λ_=>S) λd=>(yX a b c d).r)
def aR(b:Int)(a:Int):Au:=(let c:=([]:O Int);(pO b a c))
def fJ(b:Int)(a:Int):Prop:=(let c:=([]:O Int);(pP b a c))
theorem Eu(b:Int)(a:Int):RP kO [U (zE eI b),U (zE eI a),Z,Z,Z,Z] (λr=>As.rt (oE eI r)) (aR b a) (U (fJ b a)):=R.tp (cD 2 (lq (dR eI) (zI S)) (λ_=>S) λc=>(za b a c).r)
theorem oO:∀v bs,(aZ eI (aZ eI aN)) v bs->bs.length=2/\(hold (U (fJ v.1 v.2.1))->dU (bs.map lend)=U ((oE eI) (aR v.1 v.2.1))):=by
 rintro⟨b,a,_⟩ _ ⟨_,rfl,⟨_,rfl,rfl⟩⟩;exact⟨rfl,λh=>cG (g:=kO) (n:=6) (bs:=[.z (eI b),.z (eI a)]) (Eu b a) h⟩
def dB(d:Au)(g:AJ)(e:AJ)(f:Int)(b:AZ)(c:Int):AZ:=(let h:=(ch g ((c+(Ap d 2))%15));(let a:=(((Txt.slice e Z (U f))++h)++(Txt.slice e (U f) Z));(let a:AJ:=(if(decide (((Ap d 3)%3)=1))=true then(let a:=(Txt.mul (ch g (c / (8:Int))) (1+(c%8)));a)else a);(let b:=b++[a];b))))
def jH(b:Au)(e:AJ)(c:AJ)(d:Int)(h:AZ)(a:Int):Prop:=((In b.length 2/\In e.length ((a+(Ap b 2))%15))/\(let g:=(ch e ((a+(Ap b 2))%15));((Ik ((Txt.slice c Z (U d)).length+g.length)/\Ik (((Txt.slice c Z (U d))++g).length+(Txt.slice c (U d) Z).length))/\(let f:=(((Txt.slice c Z (U d))++g)++(Txt.slice c (U d) Z));((In b.length 3/\((decide (((Ap b 3)%3)=1))=true->(In e.length (a / (8:Int))/\((1+(a%8))<=1000 ∧ -1000<=(1+(a%8))/\(ch e (a / (8:Int))).length<=1000))))/\(let f:AJ:=(if(decide (((Ap b 3)%3)=1))=true then(let f:=(Txt.mul (ch e (a / (8:Int))) (1+(a%8)));f)else f);Ik h.length))))))
theorem Dc(g:Au)(i:Lp bQ (g.map eI))(h:Int)(f:AJ)(b:AJ)(e:Int)(a:AZ)(d:Int):RP ni [U bQ,U (zE eI h),U (zE eS f),U (zE eS b),U (zE eI e),U (oE eS a),U (zE eI d),Z,Z] (λs=>As.nx ((λa:AZ=>[U bQ,U (zE eI h),U (zE eS f),U (zE eS b),U (zE eI e),U (oE eS a),Z,Z,Z]) s)) (dB g f b e a d) (U (jH g f b e a d)):=R.tp (bN (cD 7 (Pu (aq 2 (zE eS) f S) (dD (mW (aq 6 (zE eI) d S) (gZ (bY 0 eI g i S) (B8 2))) 15 ())) (λ_=>S) λj=>(bN (cD 8 (Il (Il (Zz (aq 3 (zE eS) b S) UL (M4 (aq 4 (zE eI) e S))) (aq 7 (zE eS) j S)) (Zz (aq 3 (zE eS) b S) (M4 (aq 4 (zE eI) e S)) UL)) (λ_=>S) λc=>(bN (U8 (λc:AJ=>[U bQ,U (zE eI h),U (zE eS f),U (zE eS b),U (zE eI e),U (oE eS a),U (zE eI d),U (zE eS j),U (zE eS c)]) (cU (BC () (dD (gZ (bY 0 eI g i S) (B8 3)) 3 ()) (B8 1))) (bN (cD 8 (HI (Pu (aq 2 (zE eS) f S) (qg (aq 6 (zE eI) d S) 8 ())) (mW (B8 1) (dD (aq 6 (zE eI) d S) 8 ()))) (λ_=>S) λc=>(cX (dM c S)))) (cX (dM c S)) λc=>(bN (Km 5 a S (aq 8 (zE eS) c S) λa=>(cX (dM a S))))))))))
def sX(b:Au)(d:Int)(f:AJ)(c:AJ)(e:Int)(a:AZ):AZ:=a
def sY:Ev->Y As:=(aD (Hw 5) cZ)
theorem Dd(b:Au)(g:Lp bQ (b.map eI))(d:Int)(f:AJ)(c:AJ)(e:Int)(a:AZ):RP sY [U bQ,U (zE eI d),U (zE eS f),U (zE eS c),U (zE eI e),U (oE eS a),Z,Z,Z] (λr=>As.rt (oE eS r)) (sX b d f c e a) (Z):=R.tp (U7 5 (λr=>r) a S (λ_=>S) λ_=>S)
def sZ(b:Au)(d:Int)(f:AJ)(c:AJ)(e:Int)(a:AZ):AZ:=(let a:AZ:=((rng 0 d.toNat).foldl (λ(a:AZ) (g:Int)=>(dB b f c e a g)) a);(sX b d f c e a))
def tu(c:Au)(e:Int)(g:AJ)(d:AJ)(f:Int)(a:AZ):Prop:=(Rg e/\z6 (λ(a:AZ) (b:Int)=>(dB c g d f a b)) (λ(a:AZ) (b:Int)=>U (jH c g d f a b)) (rng 0 e.toNat) a)
def tB:Ev->Y As:=(aD (oM (J6 (ao (gv 1) aF)) (mO 6) ni) sY)
theorem Dg(f:Au)(g:Lp bQ (f.map eI))(b:Int)(e:AJ)(c:AJ)(d:Int)(a:AZ):RP tB [U bQ,U (zE eI b),U (zE eS e),U (zE eS c),U (zE eI d),U (oE eS a),Z,Z,Z] (λr=>As.rt (oE eS r)) (sZ f b e c d a) (U (tu f b e c d a)):=R.tp (Gs (λa:AZ=>[U bQ,U (zE eI b),U (zE eS e),U (zE eS c),U (zE eI d),U (oE eS a),Z,Z,Z]) a S (Ci (aq 1 (zE eI) b S)) _ (λ_ _=>S) (λ(a:AZ) (h:Int)=>(Dc f g b e c d a h).r) λa=>(Dd f g b e c d a).r)
def tD(a:Au)(d:Int)(f:AJ)(b:AJ)(e:Int):AZ:=(let c:=([]:AZ);(sZ a d f b e c))
def tH(a:Au)(d:Int)(f:AJ)(b:AJ)(e:Int):Prop:=(let c:=([]:AZ);(tu a d f b e c))
def tK:Ev->Y As:=(aD (B1 5 (bx lC aF)) tB)
theorem Dh(a:Au)(f:Lp bQ (a.map eI))(c:Int)(e:AJ)(b:AJ)(d:Int):RP tK [U bQ,U (zE eI c),U (zE eS e),U (zE eS b),U (zE eI d),Z,Z,Z,Z] (λr=>As.rt (oE eS r)) (tD a c e b d) (U (tH a c e b d)):=R.tp (cD 5 (lq (dR eS) (zI S)) (λ_=>S) λg=>(Dg a f c e b d g).r)
def jJ(a:Au)(c:Int)(e:AJ)(b:AJ):AZ:=(let d:=((Ap a 1)%((b.length:Int)+1));(tD a c e b d))
def nC(a:Au)(c:Int)(e:AJ)(b:AJ):Prop:=((In a.length 1/\0<((b.length:Int)+1))/\(let d:=((Ap a 1)%((b.length:Int)+1));(tH a c e b d)))
def tL:Ev->Y As:=(aD (B1 4 (b2 gA (b2 bV (gv 0) (cB (.int 1))) (b2 fP (bx iD (ao (gv 3) aF)) (cB (.int 1))))) tK)
theorem Di(a:Au)(e:Lp bQ (a.map eI))(c:Int)(d:AJ)(b:AJ):RP tL [U bQ,U (zE eI c),U (zE eS d),U (zE eS b),Z,Z,Z,Z,Z] (λr=>As.rt (oE eS r)) (jJ a c d b) (U (nC a c d b)):=R.tp (cD 4 (Ux (gZ (bY 0 eI a e S) (B8 1)) (mW (yD (aq 3 (zE eS) b S)) (B8 1))) (λ_=>S) λf=>(Dh a e c d b f).r)
def tM(a:Au)(e:Int)(b:AJ):AZ:=(let c:=(Txt.join "" ((rng 0 ((Ap a 0)%6).toNat).map λd:Int=>(ch b (((Ap a d) / (40:Int))%26))));(jJ a e b c))
def tO(a:Au)(e:Int)(c:AJ):Prop:=(((((In a.length 0/\Rg ((Ap a 0)%6))/\(rng 0 ((Ap a 0)%6).toNat).length<=100000)/\(∀b∈(rng 0 ((Ap a 0)%6).toNat),(In a.length b/\In c.length (((Ap a b) / (40:Int))%26))))/\(((rng 0 ((Ap a 0)%6).toNat).map λb:Int=>(ch c (((Ap a b) / (40:Int))%26))).map (·.length)).sum+((rng 0 ((Ap a 0)%6).toNat).map λb:Int=>(ch c (((Ap a b) / (40:Int))%26))).length*("":AJ).length<=100000)/\(let d:=(Txt.join "" ((rng 0 ((Ap a 0)%6).toNat).map λb:Int=>(ch c (((Ap a b) / (40:Int))%26))));(nC a e c d)))
def Dj:Ev->Y As:=(aD (B1 3 (b1 (Gd "") (cQ (J6 (ao (b2 gA (b2 bV (gv 0) (cB (.int 0))) (cB (.int 6))) aF)) (mO 2) q9 (b2 bV (gv 0) (b2 gA (b2 mK (b2 bV (gv 1) (gv 2)) (cB (.int 40))) (cB (.int 26)))) [2,0] 1))) tL)
theorem Dk(a:Au)(c:Lp bQ (a.map eI))(d:Int)(b:AJ):RP Dj [U bQ,U (zE eI d),U (zE eS b),Z,Z,Z,Z,Z,Z] (λr=>As.rt (oE eS r)) (tM a d b) (U (tO a d b)):=R.tp (cD 3 (LP "" (jc (yE (Ci (dD (gZ (bY 0 eI a c S) (B8 0)) 6 ())) _ (λ_=>S) (λf:Int=>(Pu (aq 0 (zE eS) b S) (dD (qg (gZ (bY 1 eI a c (congrArg U (c.get S))) (aq 2 (zE eI) f S)) 40 ()) 26 ())))))) (λ_=>S) λe=>(Di a c d b e).r)
def cj(a:Au)(b:Int):AZ:=(let c:=("abcdefghijklmnopqrstuvwxyz":AJ);(tM a b c))
def oA(a:Au)(b:Int):Prop:=(let c:=("abcdefghijklmnopqrstuvwxyz":AJ);(tO a b c))
theorem Lb(a:Au)(c:Lp bQ (a.map eI))(b:Int):RP nY [U bQ,U (zE eI b),Z,Z,Z,Z,Z,Z,Z] (λr=>As.rt (oE eS r)) (cj a b) (U (oA a b)):=R.tp (cD 2 (qW "abcdefghijklmnopqrstuvwxyz") (λ_=>S) λd=>(Dk a c b d).r)
theorem Ld:∀v bs,(aL eI (aZ eI aN)) v bs->bs.length=2/\(hold (U (oA v.1 v.2.1))->lA (bs.map lend)=U ((oE eS) (cj v.1 v.2.1))):=by
 rintro⟨c,a,_⟩ _ ⟨bQ,_,rfl,b,⟨_,rfl,rfl⟩⟩;exact⟨rfl,λh=>cG (g:=nY) (n:=9) (bs:=[lend bQ,.z (eI a)]) (Lb c (jz b) a) h⟩
def iI(b:Int)(a:AJ)(c:Int):AJ:=(let a:=(a++(ch ("ab1":AJ) (((b / (16:Int)) / (Ap [(1:Int),(3:Int),(9:Int),(27:Int)] c))%3)));a)
def kW(b:Int)(c:AJ)(a:Int):Prop:=(((In [(1:Int),(3:Int),(9:Int),(27:Int)].length a/\(0<(Ap [(1:Int),(3:Int),(9:Int),(27:Int)] a)/\(Ap [(1:Int),(3:Int),(9:Int),(27:Int)] a)<1073741824))/\In ("ab1":AJ).length (((b / (16:Int)) / (Ap [(1:Int),(3:Int),(9:Int),(27:Int)] a))%3))/\Ik (c.length+(ch ("ab1":AJ) (((b / (16:Int)) / (Ap [(1:Int),(3:Int),(9:Int),(27:Int)] a))%3)).length))
theorem Ew(b:Int)(a:AJ)(c:Int):RP uW [U (zE eI b),U (zE eS a),U (zE eI c)] (λs=>As.nx ((λa:AJ=>[U (zE eI b),U (zE eS a),Z]) s)) (iI b a c) (U (kW b a c)):=R.tp (bN (cD 1 (Il (aq 1 (zE eS) a S) (Pu (qW "ab1") (dD (Ih (qg (aq 0 (zE eI) b S) 16 ()) (gZ (jc (lq (aK (B8 1) (aK (B8 3) (aK (B8 9) (aK (B8 27) (dR eI))))) (zI S))) (aq 2 (zE eI) c S))) 3 ()))) (λ_=>S) λa=>(cX (dM a S))))
def vY(b:Int):AJ:=(if(decide ((b%4)=0))=true then(Ap [("a":AJ),("ab":AJ),("abc":AJ),("b":AJ),("1":AJ),("12":AJ),("a1":AJ)] ((b / (4:Int))%7))else(let a:=("":AJ);(let a:AJ:=((rng 0 (1+((b / (4:Int))%4)).toNat).foldl (λ(a:AJ) (c:Int)=>(iI b a c)) a);a)))
def qL(a:Int):Prop:=(((decide ((a%4)=0))=true->In [("a":AJ),("ab":AJ),("abc":AJ),("b":AJ),("1":AJ),("12":AJ),("a1":AJ)].length ((a / (4:Int))%7))/\((decide ((a%4)=0))=false->(let b:=("":AJ);(Rg (1+((a / (4:Int))%4))/\z6 (λ(b:AJ) (c:Int)=>(iI a b c)) (λ(b:AJ) (c:Int)=>U (kW a b c)) (rng 0 (1+((a / (4:Int))%4)).toNat) b))))
theorem NK(a:Int):RP qp [U (zE eI a),Z,Z] (λr=>As.rt (zE eS r)) (vY a) (U (qL a)):=R.tp (lu (cU (BC () (dD (aq 0 (zE eI) a S) 4 ()) (B8 0))) (bN (cH (λr=>r) (gZ (jc (lq (aK (qW "a") (aK (qW "ab") (aK (qW "abc") (aK (qW "b") (aK (qW "1") (aK (qW "12") (aK (qW "a1") (dR eS)))))))) (zI S))) (dD (qg (aq 0 (zE eI) a S) 4 ()) 7 ())) (λ_=>S) λ_=>S)) (cX (cD 1 (qW "") (λ_=>S) λb=>(Gs (λb:AJ=>[U (zE eI a),U (zE eS b),Z]) b S (Ci (mW (B8 1) (dD (qg (aq 0 (zE eI) a S) 4 ()) 4 ()))) _ (λ_ _=>S) (λ(b:AJ) (c:Int)=>(Ew a b c).r) λb=>(cH (λr=>r) (aq 1 (zE eS) b S) (λ_=>S) λ_=>S)))))
theorem NP:∀v bs,(aZ eI aN) v bs->bs.length=1/\(hold (U (qL v.1))->qt (bs.map lend)=U ((zE eS) (vY v.1))):=by
 rintro⟨a,_⟩ _ ⟨_,rfl,rfl⟩;exact⟨rfl,λh=>cG (g:=qp) (n:=3) (bs:=[.z (eI a)]) (NK a) h⟩
def gQ(c:Au)(d:AZ)(a:O bU)(b:Int):(O bU):=(let a:(O bU):=(if(decide ((0:Int)<((Ap c b)%4)))=true then(let a:=a++[((Ap d b),(vY ((Ap c b) / (4:Int))))];a)else a);a)
def lY(b:Au)(c:AZ)(d:O bU)(a:Int):Prop:=(In b.length a/\((decide ((0:Int)<((Ap b a)%4)))=true->((In c.length a/\(In b.length a/\(qL ((Ap b a) / (4:Int)))))/\Ik d.length)))
theorem Jd(e:AJ)(d:Au)(f:Lp b_1 (d.map eI))(c:AZ)(a:O bU)(b:Int):RP xJ [U (zE eS e),U b_1,U (oE eS c),U (oE iH a),U (zE eI b)] (λs=>As.nx ((λa:(O bU)=>[U (zE eS e),U b_1,U (oE eS c),U (oE iH a),Z]) s)) (gQ d c a b) (U (lY d c a b)):=R.tp (bN (U8 (λa:(O bU)=>[U (zE eS e),U b_1,U (oE eS c),U (oE iH a),U (zE eI b)]) (cU (FO (dD (gZ (bY 1 eI d f S) (aq 4 (zE eI) b S)) 4 ()) (B8 0))) (bN (Km 3 a S (jB (gZ (iG (aq 2 (lE eS) c S)) (aq 4 (zE eI) b S)) (nR (B0 NP (dF (qg (gZ (bY 1 eI d f S) (aq 4 (zE eI) b S)) 4 ()) cJ)))) λa=>(cX (dM a S)))) (cX (dM a S)) λa=>(cX (dM a S))))
def kE(c:AJ)(b:Au):aP:=(let e:=[("day":AJ),("name":AJ),(("name":AJ)++("s":AJ)),("p":AJ)];(let a:=([]:O bU);(let a:(O bU):=((rng 0 (kN 4)).foldl (λ(a:O bU) (d:Int)=>(gQ b e a d)) a);(c,a))))
def pQ(e:AJ)(c:Au):Prop:=(Ik (("name":AJ).length+("s":AJ).length)/\(let d:=[("day":AJ),("name":AJ),(("name":AJ)++("s":AJ)),("p":AJ)];(let a:=([]:O bU);z6 (λ(a:O bU) (b:Int)=>(gQ c d a b)) (λ(a:O bU) (b:Int)=>U (lY c d a b)) (rng 0 (kN 4)) a)))
theorem RN(b:AJ)(c:Au)(f:Lp b_1 (c.map eI)):RP uh [U (zE eS b),U b_1,Z,Z,Z] (λr=>As.rt (zE aY r)) (kE b c) (U (pQ b c)):=R.tp (cD 2 (lq (aK (qW "day") (aK (qW "name") (aK (nR (Il (qW "name") (qW "s"))) (aK (qW "p") (dR eS))))) (zI S)) (λ_=>S) λd=>(cD 3 (lq (dR iH) (zI S)) (λ_=>S) λa=>(Gs (λa:(O bU)=>[U (zE eS b),U b_1,U (oE eS d),U (oE iH a),Z]) a S (K' 4 4 S (by unfold Rg;decide)) _ (λ_ _=>S) (λ(a:O bU) (e:Int)=>(Jd b c f d a e).r) λa=>(cH (λr=>r) (jB (aq 0 (zE eS) b S) (lN (iG (aq 3 (lE iH) a S)))) (λ_=>S) λ_=>S))))
theorem RQ:∀v bs,(aZ eS (aL eI aN)) v bs->bs.length=2/\(hold (U (pQ v.1 v.2.1))->um (bs.map lend)=U ((zE aY) (kE v.1 v.2.1))):=by
 rintro⟨a,b,_⟩ _ ⟨_,rfl,⟨b_1,_,rfl,c,rfl⟩⟩;exact⟨rfl,λh=>cG (g:=uh) (n:=5) (bs:=[.z (eS a),lend b_1]) (RN a b (jz c)) h⟩
def fK(e:Au)(c:Au)(d:AZ)(a:O aP)(b:Int):(O aP):=(let a:=a++[(kE (Ap d (((4*b)+(Ap c 7))%15)) (aR (bh e (1+b)) 4))];a)
def oR(c:Au)(b:Au)(d:AZ)(e:O aP)(a:Int):Prop:=((((In b.length 7/\In d.length (((4*a)+(Ap b 7))%15))/\((jf c (1+a))/\(fJ (bh c (1+a)) 4)))/\(pQ (Ap d (((4*a)+(Ap b 7))%15)) (aR (bh c (1+a)) 4)))/\Ik e.length)
theorem Ey(e:Au)(h:Lp bQ (e.map eI))(f:Int)(c:Au)(d:AZ)(g:Int)(a:O aP)(b:Int):RP oN [U bQ,U (zE eI f),U (oE eI c),U (oE eS d),U (zE eI g),U (oE aY a),U (zE eI b)] (λs=>As.nx ((λa:(O aP)=>[U bQ,U (zE eI f),U (oE eI c),U (oE eS d),U (zE eI g),U (oE aY a),Z]) s)) (fK e c d a b) (U (oR e c d a b)):=R.tp (bN (Km 5 a S (nR (B0 RQ (dF (gZ (iG (aq 3 (lE eS) d S)) (dD (mW (Ig 4 () (aq 6 (zE eI) b S)) (gZ (iG (aq 2 (lE eI) c S)) (B8 7))) 15 ())) (sy (Rq (X6 (B0 oO (dF (nR (B0 vX (sy (bY 0 eI e h S) (dF (nR (mW (B8 1) (aq 6 (zE eI) b S))) cJ)))) (dF (B8 4) cJ))))) cJ)))) λa=>(cX (dM a S))))
def uZ(f:Au)(b:Int)(d:Au)(e:AZ)(c:Int)(a:O aP):(O aP):=a
def u0:Ev->Y As:=(aD (cR (bx jx (ao (gv 5) aF))) cZ)
theorem Ez(f:Au)(g:Lp bQ (f.map eI))(b:Int)(d:Au)(e:AZ)(c:Int)(a:O aP):RP u0 [U bQ,U (zE eI b),U (oE eI d),U (oE eS e),U (zE eI c),U (oE aY a),Z] (λr=>As.rt ((zE (eT aY)) r)) (uZ f b d e c a) (Z):=R.tp (cH (λr=>r) (lN (iG (aq 5 (lE aY) a S))) (λ_=>S) λ_=>S)
def u5(e:Au)(f:Int)(c:Au)(d:AZ)(b:Int)(a:O aP):(O aP):=(let a:(O aP):=((rng 0 b.toNat).foldl (λ(a:O aP) (g:Int)=>(fK e c d a g)) a);(uZ e f c d b a))
def u6(f:Au)(g:Int)(d:Au)(e:AZ)(c:Int)(a:O aP):Prop:=(Rg c/\z6 (λ(a:O aP) (b:Int)=>(fK f d e a b)) (λ(a:O aP) (b:Int)=>U (oR f d e a b)) (rng 0 c.toNat) a)
def u9:Ev->Y As:=(aD (oM (J6 (ao (gv 4) aF)) (mO 6) oN) u0)
theorem EY(f:Au)(g:Lp bQ (f.map eI))(c:Int)(d:Au)(e:AZ)(b:Int)(a:O aP):RP u9 [U bQ,U (zE eI c),U (oE eI d),U (oE eS e),U (zE eI b),U (oE aY a),Z] (λr=>As.rt ((zE (eT aY)) r)) (u5 f c d e b a) (U (u6 f c d e b a)):=R.tp (Gs (λa:(O aP)=>[U bQ,U (zE eI c),U (oE eI d),U (oE eS e),U (zE eI b),U (oE aY a),Z]) a S (Ci (aq 4 (zE eI) b S)) _ (λ_ _=>S) (λ(a:O aP) (h:Int)=>(Ey f g c d e b a h).r) λa=>(Ez f g c d e b a).r)
def vA(f:Au)(a:Int)(d:Au)(e:AZ)(c:Int):(O aP):=(let b:=([]:O aP);(u5 f a d e c b))
def vB(f:Au)(a:Int)(d:Au)(e:AZ)(c:Int):Prop:=(let b:=([]:O aP);(u6 f a d e c b))
def vC:Ev->Y As:=(aD (B1 5 (bx lC aF)) u9)
theorem Fe(e:Au)(f:Lp bQ (e.map eI))(a:Int)(c:Au)(d:AZ)(b:Int):RP vC [U bQ,U (zE eI a),U (oE eI c),U (oE eS d),U (zE eI b),Z,Z] (λr=>As.rt ((zE (eT aY)) r)) (vA e a c d b) (U (vB e a c d b)):=R.tp (cD 5 (lq (dR aY) (zI S)) (λ_=>S) λg=>(EY e f a c d b g).r)
def oU(e:Au)(a:Int)(b:Au)(d:AZ):(O aP):=(let c:=(Ap [(1:Int),(2:Int),(5:Int),(8:Int),a,a] ((Ap b 6)%6));(vA e a b d c))
def vD(e:Au)(a:Int)(b:Au)(d:AZ):Prop:=((In b.length 6/\In [(1:Int),(2:Int),(5:Int),(8:Int),a,a].length ((Ap b 6)%6))/\(let c:=(Ap [(1:Int),(2:Int),(5:Int),(8:Int),a,a] ((Ap b 6)%6));(vB e a b d c)))
def vG:Ev->Y As:=(aD (B1 4 (b2 bV (bx lC (ao (cB (.int 1)) (ao (cB (.int 2)) (ao (cB (.int 5)) (ao (cB (.int 8)) (ao (gv 1) (ao (gv 1) aF))))))) (b2 gA (b2 bV (gv 2) (cB (.int 6))) (cB (.int 6))))) vC)
theorem Fg(d:Au)(e:Lp bQ (d.map eI))(a:Int)(b:Au)(c:AZ):RP vG [U bQ,U (zE eI a),U (oE eI b),U (oE eS c),Z,Z,Z] (λr=>As.rt ((zE (eT aY)) r)) (oU d a b c) (U (vD d a b c)):=R.tp (cD 4 (gZ (jc (lq (aK (B8 1) (aK (B8 2) (aK (B8 5) (aK (B8 8) (aK (aq 1 (zE eI) a S) (aK (aq 1 (zE eI) a S) (dR eI))))))) (zI S))) (dD (gZ (iG (aq 2 (lE eI) b S)) (B8 6)) 6 ())) (λ_=>S) λf=>(Fe d e a b c f).r)
def oV(d:Au)(c:Int)(a:Au):(O aP):=(let b:=(cj a 15);(oU d c a b))
def vH(d:Au)(c:Int)(a:Au):Prop:=((oA a 15)/\(let b:=(cj a 15);(vD d c a b)))
def Fi:Ev->Y As:=(aD (B1 3 (cF 2 lA (ao (gv 2) (ao (cB (.int 15)) aF)))) vG)
theorem Fj(c:Au)(d:Lp bQ (c.map eI))(b:Int)(a:Au):RP Fi [U bQ,U (zE eI b),U (oE eI a),Z,Z,Z,Z] (λr=>As.rt ((zE (eT aY)) r)) (oV c b a) (U (vH c b a)):=R.tp (cD 3 (B0 Ld (sy (iG (aq 2 (lE eI) a S)) (dF (B8 15) cJ))) (λ_=>S) λe=>(Fg c d b a e).r)
def cg(a:Au)(b:Int):(O aP):=(let c:=(aR (bh a 0) 9);(oV a b c))
def qM(a:Au)(b:Int):Prop:=(((jf a 0)/\(fJ (bh a 0) 9))/\(let c:=(aR (bh a 0) 9);(vH a b c)))
theorem NQ(a:Au)(c:Lp bQ (a.map eI))(b:Int):RP qu [U bQ,U (zE eI b),Z,Z,Z,Z,Z] (λr=>As.rt ((zE (eT aY)) r)) (cg a b) (U (qM a b)):=R.tp (cD 2 (B0 oO (dF (nR (B0 vX (sy (bY 0 eI a c S) (dF (B8 0) cJ)))) (dF (B8 9) cJ))) (λ_=>S) λd=>(Fj a c b d).r)
theorem NT:∀v bs,(aL eI (aZ eI aN)) v bs->bs.length=2/\(hold (U (qM v.1 v.2.1))->qw (bs.map lend)=U ((zE (eT aY)) (cg v.1 v.2.1))):=by
 rintro⟨c,a,_⟩ _ ⟨bQ,_,rfl,b,⟨_,rfl,rfl⟩⟩;exact⟨rfl,λh=>cG (g:=qu) (n:=7) (bs:=[lend bQ,.z (eI a)]) (NQ c (jz b) a) h⟩
def cP(a:Au)(vo:AZ)(s1:AZ×(O bU))(c:Int):AZ×(O bU):=(let y2:=s1.1;let b:=(((Ap a 1) / (Ap [(1:Int),(5:Int),(20:Int),(60:Int),(120:Int)] c))%(s1.1.length:Int));let e:=y2.eraseIdx b.toNat;let f:=Ap y2 b;(let d:=s1.2++[(f,(Ap vo ((Ap a (2+c))%6)))];(e,d)))
def iJ(b:Au)(vo:AZ)(s1:AZ×(O bU))(a:Int):Prop:=(((((In b.length 1/\In [(1:Int),(5:Int),(20:Int),(60:Int),(120:Int)].length a)/\(0<(Ap [(1:Int),(5:Int),(20:Int),(60:Int),(120:Int)] a)/\(Ap [(1:Int),(5:Int),(20:Int),(60:Int),(120:Int)] a)<1073741824))/\0<(s1.1.length:Int))/\(0<=(((Ap b 1) / (Ap [(1:Int),(5:Int),(20:Int),(60:Int),(120:Int)] a))%(s1.1.length:Int))/\(((Ap b 1) / (Ap [(1:Int),(5:Int),(20:Int),(60:Int),(120:Int)] a))%(s1.1.length:Int))<s1.1.length/\s1.1.length<=100000))/\(let y2:=s1.1;let c:=(((Ap b 1) / (Ap [(1:Int),(5:Int),(20:Int),(60:Int),(120:Int)] a))%(s1.1.length:Int));let d:=y2.eraseIdx c.toNat;let e:=Ap y2 c;((In b.length (2+a)/\In vo.length ((Ap b (2+a))%6))/\Ik s1.2.length)))
theorem Fl(a:Au)(c:Lp bQ (a.map eI))(vo:AZ)(s1:AZ×(O bU))(b:Int):RP uX [U bQ,U ((oE eS) s1.1),U (oE eS vo),U ((oE iH) s1.2),U (zE eI b),Z] (λs=>As.nx ((λs1:AZ×(O bU)=>[U bQ,U ((oE eS) s1.1),U (oE eS vo),U ((oE iH) s1.2),Z,Z]) s)) (cP a vo s1 b) (U (iJ a vo s1 b)):=R.tp (bN (HK 5 1 s1.1 S (Ux (Ih (gZ (bY 0 eI a c S) (B8 1)) (gZ (jc (lq (aK (B8 1) (aK (B8 5) (aK (B8 20) (aK (B8 60) (aK (B8 120) (dR eI)))))) (zI S))) (aq 4 (zE eI) b S))) (C0 (iG (aq 1 (lE eS) s1.1 S)))) λe f=>(bN (Km 3 s1.2 S (jB (aq 5 (zE eS) f S) (gZ (iG (aq 2 (lE eS) vo S)) (dD (gZ (bY 0 eI a c S) (mW (B8 2) (aq 4 (zE eI) b S))) 6 ()))) λd=>(cX (dM (e,d) S))))))
def dY(a:Au):(O bU):=(let c:=[("day":AJ),("name":AJ),("names":AJ),("p":AJ),("zzz":AJ)];(let vo:=[("first":AJ),("last":AJ),("most":AJ),("longest":AJ),("least":AJ),("greatest":AJ)];(let d:=([]:O bU);(let s1:AZ×(O bU):=((rng 0 ((Ap a 0)%6).toNat).foldl (λ(s1:AZ×(O bU)) (b:Int)=>(cP a vo s1 b)) (c,d));s1.2))))
def qO(a:Au):Prop:=(let c:=[("day":AJ),("name":AJ),("names":AJ),("p":AJ),("zzz":AJ)];(let vo:=[("first":AJ),("last":AJ),("most":AJ),("longest":AJ),("least":AJ),("greatest":AJ)];(let d:=([]:O bU);((In a.length 0/\Rg ((Ap a 0)%6))/\z6 (λ(s1:AZ×(O bU)) (b:Int)=>(cP a vo s1 b)) (λ(s1:AZ×(O bU)) (b:Int)=>U (iJ a vo s1 b)) (rng 0 ((Ap a 0)%6).toNat) (c,d)))))
theorem NZ(a:Au)(b:Lp bQ (a.map eI)):RP qx [U bQ,Z,Z,Z,Z,Z] (λr=>As.rt ((zE (eT iH)) r)) (dY a) (U (qO a)):=R.tp (cD 1 (lq (aK (qW "day") (aK (qW "name") (aK (qW "names") (aK (qW "p") (aK (qW "zzz") (dR eS)))))) (zI S)) (λ_=>S) λe=>(cD 2 (lq (aK (qW "first") (aK (qW "last") (aK (qW "most") (aK (qW "longest") (aK (qW "least") (aK (qW "greatest") (dR eS))))))) (zI S)) (λ_=>S) λvo=>(cD 3 (lq (dR iH) (zI S)) (λ_=>S) λc=>(Gs (λs1:AZ×(O bU)=>[U bQ,U ((oE eS) s1.1),U (oE eS vo),U ((oE iH) s1.2),Z,Z]) (e,c) S (Ci (dD (gZ (bY 0 eI a b S) (B8 0)) 6 ())) _ (λ_ _=>S) (λ(s1:AZ×(O bU)) (d:Int)=>(Fl a b vo s1 d).r) λs1=>(cH (λr=>r) (lN (iG (aq 3 (lE iH) s1.2 S))) (λ_=>S) λ_=>S)))))
theorem N5:∀v bs,(aL eI aN) v bs->bs.length=1/\(hold (U (qO v.1))->qy (bs.map lend)=U ((zE (eT iH)) (dY v.1))):=by
 rintro⟨a,_⟩ _ ⟨bQ,_,rfl,b,rfl⟩;exact⟨rfl,λh=>cG (g:=qx) (n:=6) (bs:=[lend bQ]) (NZ a (jz b)) h⟩
def bM(c:AZ)(b:Au):AZ:=(eX (((rng 0 (c.length:Int).toNat).filter λa:Int=>(decide ((0:Int)<(((Ap b (a%(b.length:Int))) / (1+(a / (b.length:Int))))%3)))).map λa:Int=>(Ap c a)))
def jg(c:AZ)(a:Au):Prop:=(((Rg (c.length:Int)/\(rng 0 (c.length:Int).toNat).length<=100000)/\(∀b∈(rng 0 (c.length:Int).toNat),((((0<(a.length:Int)/\In a.length (b%(a.length:Int)))/\(0<(a.length:Int)/\(a.length:Int)<1073741824))/\(0<(1+(b / (a.length:Int)))/\(1+(b / (a.length:Int)))<1073741824))/\((decide ((0:Int)<(((Ap a (b%(a.length:Int))) / (1+(b / (a.length:Int))))%3)))=true->In c.length b))))/\(((rng 0 (c.length:Int).toNat).filter λb:Int=>(decide ((0:Int)<(((Ap a (b%(a.length:Int))) / (1+(b / (a.length:Int))))%3)))).map λb:Int=>(Ap c b)).length<64)
theorem N6(c:AZ)(e:Lp bQ (c.map eS))(a:Au)(b:Lp b_1 (a.map eI)):RP qz [U bQ,U b_1] (λr=>As.rt ((zE (eT eS)) r)) (bM c a) (U (jg c a)):=R.tp (cH (λr=>r) (lN (jc (Ye (jc (wW (Ci (C0 (bY 0 eS c e S))) _ (λ_=>S) (λd:Int=>(cU (FO (dD (Ih (gZ (bY 1 eI a b (congrArg U (b.get S))) (Ux (aq 2 (zE eI) d S) (C0 (bY 1 eI a b (congrArg U (b.get S)))))) (mW (B8 1) (Ih (aq 2 (zE eI) d S) (C0 (bY 1 eI a b (congrArg U (b.get S))))))) 3 ()) (B8 0)))) (λd:Int=>(gZ (bY 0 eS c e (congrArg U (e.get S))) (aq 2 (zE eI) d S)))))))) (λ_=>S) λ_=>S)
theorem Dl:∀v bs,(aL eS (aL eI aN)) v bs->bs.length=2/\(hold (U (jg v.1 v.2.1))->nj (bs.map lend)=U ((zE (eT eS)) (bM v.1 v.2.1))):=by
 rintro⟨b,a,_⟩ _ ⟨bQ,_,rfl,c,⟨b_1,_,rfl,d,rfl⟩⟩;exact⟨rfl,λh=>cG (g:=qz) (n:=2) (bs:=[lend bQ,lend b_1]) (N6 b (jz c) a (jz d)) h⟩
def jq(b:AJ)(s1:Unit)(a:aP):pq (Unit) aP:=(if(decide (a.1=b))=true then(pq.rt a)else(pq.nx eg))
theorem Le(c:O aP)(b:AJ)(s1:Unit)(a:aP):RP zR [U ((zE (eT aY)) c),U (zE eS b),U (zE aY a)] (cC (λs1:Unit=>[U ((zE (eT aY)) c),U (zE eS b),Z]) (zE aY)) (jq b s1 a) (Z):=R.tp (bN (lu (cU (BC () (cM (aq 2 (zE aY) a S) (λq=>q.1) eS 0 λ_=>S) (aq 1 (zE eS) b S))) (bN (cH .rt (aq 2 (zE aY) a S) (λ_=>S) λ_=>S)) (cX (cX (dM (.nx eg) S)))))
def nD(c:O aP)(b:AJ):aP:=(BQ (jP (λ(s1:Unit) (a:aP)=>((jq b s1 a):pq (Unit) aP)) c eg) (λr=>r) λs1:Unit=>default)
def xX(c:O aP)(b:AJ):Prop:=(qU (λ(s1:Unit) (a:aP)=>((jq b s1 a):pq (Unit) aP)) (λ(s1:Unit) (a:aP)=>Z) c eg/\(wZ (jP (λ(s1:Unit) (a:aP)=>((jq b s1 a):pq (Unit) aP)) c eg) λs1:Unit=>False))
theorem VH(a:O aP)(b:AJ):RP xK [U ((zE (eT aY)) a),U (zE eS b),Z] (λr=>As.rt (zE aY r)) (nD a b) (U (xX a b)):=R.tp (PJ 0 a (Va S) (λs1:Unit=>[U ((zE (eT aY)) a),U (zE eS b),Z]) eg S _ (λ_ _=>S) (λ(s1:Unit) (c:aP)=>((Le a b s1 c).r:R _ _ (cC (λs1:Unit=>[U ((zE (eT aY)) a),U (zE eS b),Z]) (zE aY)))) (λr=>r) (λ_=>S) λs1=>Yl)
theorem VJ:∀v bs,(aZ (eT aY) (aZ eS aN)) v bs->bs.length=2/\(hold (U (xX v.1 v.2.1))->xM (bs.map lend)=U ((zE aY) (nD v.1 v.2.1))):=by
 rintro⟨b,a,_⟩ _ ⟨_,rfl,⟨_,rfl,rfl⟩⟩;exact⟨rfl,λh=>cG (g:=xK) (n:=3) (bs:=[.z (eT aY b),.z (eS a)]) (VH b a) h⟩
def gR(a:AJ)(s1:Unit)(q2:bU):pq (Unit) (Y AJ):=(if(decide (q2.1=a))=true then(pq.rt (U q2.2))else(pq.nx eg))
theorem Je(b:aP)(a:AJ)(s1:Unit)(q2:bU):RP xO [U (zE aY b),U (zE eS a),U ((zE eS) q2.1),U ((zE eS) q2.2)] (cC (λs1:Unit=>[U (zE aY b),U (zE eS a),Z,Z]) (zE (eO eS))) (gR a s1 q2) (Z):=R.tp (bN (lu (cU (BC () (aq 2 (zE eS) q2.1 S) (aq 1 (zE eS) a S))) (bN (cH .rt (MP (aq 3 (zE eS) q2.2 S)) (λ_=>S) λ_=>S)) (cX (cX (dM (.nx eg) S)))))
def fL(b:aP)(a:AJ):(Y AJ):=(BQ (jP (λ(s1:Unit) (q2:bU)=>((gR a s1 q2):pq (Unit) (Y AJ))) b.2 eg) (λr=>r) λs1:Unit=>Z)
def mG(b:aP)(a:AJ):Prop:=(qU (λ(s1:Unit) (q2:bU)=>((gR a s1 q2):pq (Unit) (Y AJ))) (λ(s1:Unit) (q2:bU)=>Z) b.2 eg/\(wZ (jP (λ(s1:Unit) (q2:bU)=>((gR a s1 q2):pq (Unit) (Y AJ))) b.2 eg) λs1:Unit=>True))
theorem RT(a:aP)(b:AJ):RP uo [U (zE aY a),U (zE eS b),Z,Z] (λr=>As.rt ((zE (eO eS)) r)) (fL a b) (U (mG a b)):=R.tp (U9 (λs1:Unit=>[U (zE aY a),U (zE eS b),Z,Z]) eg S (OK (cM (aq 0 (zE aY) a S) (λq=>q.2) (eT iH) 1 λ_=>S)) _ (λ_ _=>S) (λ(s1:Unit) (q2:bU)=>((Je a b s1 q2).r:R _ _ (cC (λs1:Unit=>[U (zE aY a),U (zE eS b),Z,Z]) (zE (eO eS))))) (λr=>r) (λ_=>S) λs1=>(cH (λr=>r) IS (λ_=>S) λ_=>S))
theorem zc:∀v bs,(aZ aY (aZ eS aN)) v bs->bs.length=2/\(hold (U (mG v.1 v.2.1))->jl (bs.map lend)=U ((zE (eO eS)) (fL v.1 v.2.1))):=by
 rintro⟨b,a,_⟩ _ ⟨_,rfl,⟨_,rfl,rfl⟩⟩;exact⟨rfl,λh=>cG (g:=uo) (n:=4) (bs:=[.z (aY b),.z (eS a)]) (RT b a) h⟩
def dZ(b:O aP)(c:AJ):AZ:=(((b.map λd:aP=>(fL d c)).filter λa:(Y AJ)=>a.isSome).map λa:(Y AJ)=>(a.getD default))
def nF(b:O aP)(c:AJ):Prop:=(((b.length<=100000/\(∀a∈b,(mG a c)))/\(b.map λa:aP=>(fL a c)).length<=100000)/\(∀d∈(b.map λa:aP=>(fL a c)),(d.isSome=true->d.isSome=true)))
theorem N7(a:O aP)(d:Lp bQ (a.map aY))(b:AJ):RP qC [U bQ,U (zE eS b)] (λr=>As.rt (oE eS r)) (dZ a b) (U (nF a b)):=R.tp (cH (λr=>r) (wW (Cg (jc (yE (Cg (bY 0 aY a d S)) _ (λ_=>S) (λe:aP=>(nR (B0 zc (dF (aq 1 (zE aY) e S) (dF (aq 0 (zE eS) b S) cJ)))))))) _ (λ_=>S) (λc:(Y AJ)=>(cU (Pq (aq 0 (zE (eO eS)) c S) λ_=>S))) (λc:(Y AJ)=>(Zv (aq 0 (zE (eO eS)) c S)))) (λ_=>S) λ_=>S)
theorem Dm:∀v bs,(aL aY (aZ eS aN)) v bs->bs.length=2/\(hold (U (nF v.1 v.2.1))->j4 (bs.map lend)=U ((oE eS) (dZ v.1 v.2.1))):=by
 rintro⟨c,a,_⟩ _ ⟨bQ,_,rfl,b,⟨_,rfl,rfl⟩⟩;exact⟨rfl,λh=>cG (g:=qC) (n:=2) (bs:=[lend bQ,.z (eS a)]) (N7 c (jz b) a) h⟩
def iR(a:AZ):AJ:=(An Iz a)
def iT(a:AZ):Prop:=a≠[]
theorem Aa(a:AZ)(b:Lp bQ (a.map eS)):RP iM [U bQ] (λr=>As.rt (zE eS r)) (iR a) (U (iT a)):=R.tp (cH (λr=>r) (Vr (bY 0 eS a b S)) (λ_=>S) λ_=>S)
theorem Ab:∀v bs,(aL eS aN) v bs->bs.length=1/\(hold (U (iT v.1))->iQ (bs.map lend)=U ((zE eS) (iR v.1))):=by
 rintro⟨b,_⟩ _ ⟨bQ,_,rfl,a,rfl⟩;exact⟨rfl,λh=>cG (g:=iM) (n:=1) (bs:=[lend bQ]) (Aa b (jz a)) h⟩
def lZ(a:AZ):AJ:=(An GC a)
def mj(a:AZ):Prop:=a≠[]
theorem Jf(a:AZ)(b:Lp bQ (a.map eS)):RP lO [U bQ] (λr=>As.rt (zE eS r)) (lZ a) (U (mj a)):=R.tp (cH (λr=>r) (Vq (bY 0 eS a b S)) (λ_=>S) λ_=>S)
theorem Jg:∀v bs,(aL eS aN) v bs->bs.length=1/\(hold (U (mj v.1))->lQ (bs.map lend)=U ((zE eS) (lZ v.1))):=by
 rintro⟨b,_⟩ _ ⟨bQ,_,rfl,a,rfl⟩;exact⟨rfl,λh=>cG (g:=lO) (n:=1) (bs:=[lend bQ]) (Jf b (jz a)) h⟩
def jK(b:AZ):AJ:=(An (λx z=>DO (YK ((λa:AJ=>((-(a.length:Int)),a)) x)) (YK ((λa:AJ=>((-(a.length:Int)),a)) z))) b)
def jL(a:AZ):Prop:=(a≠[]/\∀b∈a,True)
theorem Dp(a:AZ)(c:Lp bQ (a.map eS)):RP jF [U bQ] (λr=>As.rt (zE eS r)) (jK a) (U (jL a)):=R.tp (cH (λr=>r) (ZP (e':=YK) (λ_=>S) (bY 0 eS a c S) (λb:AJ=>(jB (Pj (yD (aq 0 (zE eS) b S))) (aq 0 (zE eS) b S)))) (λ_=>S) λ_=>S)
theorem Dq:∀v bs,(aL eS aN) v bs->bs.length=1/\(hold (U (jL v.1))->f9 (bs.map lend)=U ((zE eS) (jK v.1))):=by
 rintro⟨b,_⟩ _ ⟨bQ,_,rfl,a,rfl⟩;exact⟨rfl,λh=>cG (g:=jF) (n:=1) (bs:=[lend bQ]) (Dp b (jz a)) h⟩
def oF(b:AZ):AJ:=(An (λx z=>D3 (eI ((λa:AJ=>((b.count a:Nat):Int)) x)) (eI ((λa:AJ=>((b.count a:Nat):Int)) z))) b)
def oG(a:AZ):Prop:=(a≠[]/\∀b∈a,True)
theorem Lf(a:AZ)(b:Lp bQ (a.map eS)):RP nZ [U bQ] (λr=>As.rt (zE eS r)) (oF a) (U (oG a)):=R.tp (cH (λr=>r) (ZP (e':=eI) (λ_=>S) (bY 0 eS a b S) (λc:AJ=>(KC (bY 1 eS a b (congrArg U (b.get S))) (aq 0 (zE eS) c S)))) (λ_=>S) λ_=>S)
theorem Lg:∀v bs,(aL eS aN) v bs->bs.length=1/\(hold (U (oG v.1))->lB (bs.map lend)=U ((zE eS) (oF v.1))):=by
 rintro⟨b,_⟩ _ ⟨bQ,_,rfl,a,rfl⟩;exact⟨rfl,λh=>cG (g:=nZ) (n:=1) (bs:=[lend bQ]) (Lf b (jz a)) h⟩
def oH(a:AZ):AJ:=(Ap a (-(1:Int)))
def oJ(a:AZ):Prop:=In a.length (-(1:Int))
theorem Lh(a:AZ)(b:Lp bQ (a.map eS)):RP n6 [U bQ] (λr=>As.rt (zE eS r)) (oH a) (U (oJ a)):=R.tp (cH (λr=>r) (gZ (bY 0 eS a b S) (Pj (B8 1))) (λ_=>S) λ_=>S)
theorem Li:∀v bs,(aL eS aN) v bs->bs.length=1/\(hold (U (oJ v.1))->n8 (bs.map lend)=U ((zE eS) (oH v.1))):=by
 rintro⟨b,_⟩ _ ⟨bQ,_,rfl,a,rfl⟩;exact⟨rfl,λh=>cG (g:=n6) (n:=1) (bs:=[lend bQ]) (Lh b (jz a)) h⟩
def mq(a:AZ):AJ:=(Ap a 0)
def mz(a:AZ):Prop:=In a.length 0
theorem Jh(a:AZ)(b:Lp bQ (a.map eS)):RP lR [U bQ] (λr=>As.rt (zE eS r)) (mq a) (U (mz a)):=R.tp (cH (λr=>r) (gZ (bY 0 eS a b S) (B8 0)) (λ_=>S) λ_=>S)
theorem Ji:∀v bs,(aL eS aN) v bs->bs.length=1/\(hold (U (mz v.1))->lU (bs.map lend)=U ((zE eS) (mq v.1))):=by
 rintro⟨b,_⟩ _ ⟨bQ,_,rfl,a,rfl⟩;exact⟨rfl,λh=>cG (g:=lR) (n:=1) (bs:=[lend bQ]) (Jh b (jz a)) h⟩
def bH:O (AJ×(AZ->AJ)×(AZ->Y Prop)):=[("first",mq,λv=>U (mz v)),("last",oH,λv=>U (oJ v)),("most",oF,λv=>U (oG v)),("longest",jK,λv=>U (jL v)),("least",lZ,λv=>U (mj v)),("greatest",iR,λv=>U (iT v))]
def pR(c:O aP)(b:AJ)(e:AJ):cI:=(let d:=(g8 bH e (dZ c b));(b,d,((c.filter λa:aP=>(decide ((fL a b)=(U d)))).map λa:aP=>a.1)))
def uD(a:O aP)(b:AJ)(c:AJ):Prop:=(((nF a b)/\Ry bH c (dZ a b))/\(let e:=(g8 bH c (dZ a b));(a.length<=100000/\(∀d∈a,(mG d b)))))
theorem RV(b:O aP)(e:Lp bQ (b.map aY))(a:AJ)(c:AJ):RP uq [U bQ,U (zE eS a),U (zE eS c),Z,Z] (λr=>As.rt (zE bW r)) (pR b a c) (U (uD b a c)):=R.tp (L8 3 4 (tt:=bH) (.cons Ji (.cons Li (.cons Lg (.cons Dq (.cons Jg (.cons Ab .nil)))))) (aq 2 (zE eS) c S) (jc (B0 Dm (sy (bY 0 aY b e S) (dF (aq 1 (zE eS) a S) cJ)))) (zI S) (λ_=>S) λf=>(cH (λr=>r) (Mk (aq 1 (zE eS) a S) (aq 4 (zE eS) f S) (lN (jc (wW (Cg (bY 0 aY b e S)) _ (λ_=>S) (λd:aP=>(cU (BC () (B0 zc (dF (aq 2 (zE aY) d S) (dF (aq 1 (zE eS) a S) cJ))) (MP (aq 0 (zE eS) f S))))) (λd:aP=>(cM (aq 2 (zE aY) d S) (λq=>q.1) eS 0 λ_=>S)))))) (λ_=>S) λ_=>S))
theorem RW:∀v bs,(aL aY (aZ eS (aZ eS aN))) v bs->bs.length=3/\(hold (U (uD v.1 v.2.1 v.2.2.1))->uw (bs.map lend)=U ((zE bW) (pR v.1 v.2.1 v.2.2.1))):=by
 rintro⟨d,a,b,_⟩ _ ⟨bQ,_,rfl,c,⟨_,rfl,⟨_,rfl,rfl⟩⟩⟩;exact⟨rfl,λh=>cG (g:=uq) (n:=5) (bs:=[lend bQ,.z (eS a),.z (eS b)]) (RV d (jz c) a b) h⟩
def bG(d:O aP)(b:O bU)(vx:AZ):(O cI):=(let a:=(vx.map λc:AJ=>(nD d c));((b.filter λq1:bU=>(!(dZ a q1.1).isEmpty)).map λq1:bU=>(pR a q1.1 q1.2)))
def fM(d:O aP)(c:O bU)(vx:AZ):Prop:=((vx.length<=100000/\(∀b∈vx,(xX d b)))/\(let a:=(vx.map λb:AJ=>(nD d b));(c.length<=100000/\(∀q1∈c,((nF a q1.1)/\((!(dZ a q1.1).isEmpty)=true->(uD a q1.1 q1.2)))))))
theorem RX(b:O aP)(a:O bU)(vx:AZ):RP ux [U ((zE (eT aY)) b),U ((zE (eT iH)) a),U ((zE (eT eS)) vx),Z] (λr=>As.rt (oE bW r)) (bG b a vx) (U (fM b a vx)):=R.tp (cD 3 (yE (U6 (aq 2 (zE (eT eS)) vx S)) _ (λ_=>S) (λd:AJ=>(nR (B0 VJ (dF (aq 0 (zE (eT aY)) b S) (dF (aq 1 (zE eS) d S) cJ)))))) (λ_=>S) λc=>(cH (λr=>r) (wW (U6 (aq 1 (zE (eT iH)) a S)) _ (λ_=>S) (λq1:bU=>(IJ (jc (B0 Dm (sy (iG (aq 0 (lE aY) c S)) (dF (aq 1 (zE eS) q1.1 S) cJ)))))) (λq1:bU=>(nR (B0 RW (sy (iG (aq 0 (lE aY) c S)) (dF (aq 1 (zE eS) q1.1 S) (dF (aq 2 (zE eS) q1.2 S) cJ))))))) (λ_=>S) λ_=>S))
theorem uE:∀v bs,(aZ (eT aY) (aZ (eT iH) (aZ (eT eS) aN))) v bs->bs.length=3/\(hold (U (fM v.1 v.2.1 v.2.2.1))->j5 (bs.map lend)=U ((oE bW) (bG v.1 v.2.1 v.2.2.1))):=by
 rintro⟨b,a,vx,_⟩ _ ⟨_,rfl,⟨_,rfl,⟨_,rfl,rfl⟩⟩⟩;exact⟨rfl,λh=>cG (g:=ux) (n:=4) (bs:=[.z (eT aY b),.z (eT iH a),.z (eT eS vx)]) (RX b a vx) h⟩
def dN(c:O aP)(b:AZ)(a:AJ):(O m9):=(((qX c).filter λq1:aP=>(decide (q1.1∈b))).map λq1:aP=>(q1.1,(fL (q1.1,q1.2) a)))
def mC(a:O aP)(c:AZ)(b:AJ):Prop:=(((a.length<64/\(a.map (·.1)).Nodup)/\(qX a).length<=100000)/\(∀q1∈(qX a),((decide (q1.1∈c))=true->(mG (q1.1,q1.2) b))))
theorem Jj(c:O aP)(b:AZ)(a:AJ):RP lV [U ((zE (eT aY)) c),U ((zE (eT eS)) b),U (zE eS a)] (λr=>As.rt (oE z8 r)) (dN c b a) (U (mC c b a)):=R.tp (cH (λr=>r) (wW (Cg (jc (VD (aq 0 (zE (eT aY)) c S)))) _ (λ_=>S) (λq1:aP=>(cU (U5 (aq 2 (zE eS) q1.1 S) (aq 1 (zE (eT eS)) b S)))) (λq1:aP=>(jB (aq 2 (zE eS) q1.1 S) (nR (B0 zc (dF (jB (aq 2 (zE eS) q1.1 S) (aq 3 (zE (eT iH)) q1.2 S)) (dF (aq 0 (zE eS) a S) cJ))))))) (λ_=>S) λ_=>S)
theorem Jk:∀v bs,(aZ (eT aY) (aZ (eT eS) (aZ eS aN))) v bs->bs.length=3/\(hold (U (mC v.1 v.2.1 v.2.2.1))->jG (bs.map lend)=U ((oE z8) (dN v.1 v.2.1 v.2.2.1))):=by
 rintro⟨c,b,a,_⟩ _ ⟨_,rfl,⟨_,rfl,⟨_,rfl,rfl⟩⟩⟩;exact⟨rfl,λh=>cG (g:=lV) (n:=3) (bs:=[.z (eT aY c),.z (eT eS b),.z (eS a)]) (Jj c b a) h⟩
def ig(i:O aP)(k:AZ)(c:AJ)(h:cI)(j:AJ)(b:AJ)(d:AZ)(g:O m9)(a:AZ):Bool:=(if((!decide (b∈a))||(!decide (d=((g.filter λe:m9=>(decide (e.2=(U b)))).map λe:m9=>e.1))))=true then false else(if(((decide (c=("least":AJ)))&&(jA (An GC a) b))||((decide (c=("greatest":AJ)))&&(jA b (An Iz a))))=true then false else(if((decide (c=("longest":AJ)))&&(decide ((b.length:Int)<(wV (a.map λf:AJ=>(f.length:Int))))))=true then false else(if((decide (c=("most":AJ)))&&(decide ((d.length:Int)<(wV (a.map λf:AJ=>((a.count f:Nat):Int))))))=true then false else((!decide (c=("first":AJ)))||(decide ((Ap d 0)=(Ap g 0).1)))))))
def lG(i:O aP)(k:AZ)(b:AJ)(h:cI)(j:AJ)(c:AJ)(f:AZ)(e:O m9)(a:AZ):Prop:=(((!decide (c∈a))=false->e.length<=100000)/\(((!decide (c∈a))||(!decide (f=((e.filter λg:m9=>(decide (g.2=(U c)))).map λg:m9=>g.1))))=false->((((decide (b=("least":AJ)))=true->a≠[])/\(((decide (b=("least":AJ)))&&(jA (An GC a) c))=false->((decide (b=("greatest":AJ)))=true->a≠[])))/\((((decide (b=("least":AJ)))&&(jA (An GC a) c))||((decide (b=("greatest":AJ)))&&(jA c (An Iz a))))=false->(((decide (b=("longest":AJ)))=true->(a.length<=100000/\0<(a.map λd:AJ=>(d.length:Int)).length))/\(((decide (b=("longest":AJ)))&&(decide ((c.length:Int)<(wV (a.map λd:AJ=>(d.length:Int))))))=false->(((decide (b=("most":AJ)))=true->(a.length<=100000/\0<(a.map λd:AJ=>((a.count d:Nat):Int)).length))/\(((decide (b=("most":AJ)))&&(decide ((f.length:Int)<(wV (a.map λd:AJ=>((a.count d:Nat):Int))))))=false->((!decide (b=("first":AJ)))=false->(In f.length 0/\In e.length 0))))))))))
def lH:Ev->Y As:=(aD (rB (R8 (jR J1 (gv 5) (gv 8)) (jR Sd (bx Ga (ao (gv 6) aF)) (cQ (zK (gv 7)) (mO 1) (jR BB (b2 bV (gv 1) (cB (.int 1))) (gv 0)) (b2 bV (gv 1) (cB (.int 0))) [5] 1))) (aD (cR (cB (.bl false))) cZ) cZ) (aD (rB (R8 (zY (jR BB (gv 2) (cB (.str "least"))) (jR RJ (gv 5) (bx Cr (ao (gv 8) aF)))) (zY (jR BB (gv 2) (cB (.str "greatest"))) (jR MJ (gv 5) (bx Cu (ao (gv 8) aF))))) (aD (cR (cB (.bl false))) cZ) cZ) (aD (rB (zY (jR BB (gv 2) (cB (.str "longest"))) (jR MJ (bx iD (ao (gv 5) aF)) (bx zM (ao (cQ (zK (gv 8)) (mO 0) q9 (b1 zJ (bx iD (ao (gv 0) aF))) [] 1) aF)))) (aD (cR (cB (.bl false))) cZ) cZ) (aD (rB (zY (jR BB (gv 2) (cB (.str "most"))) (jR MJ (bx iD (ao (gv 6) aF)) (bx zM (ao (cQ (zK (gv 8)) (mO 1) q9 (b1 zJ (b2 ql (gv 0) (gv 1))) [8] 1) aF)))) (aD (cR (cB (.bl false))) cZ) cZ) (aD (cR (Ct (b2 Sd (gv 2) (cB (.str "first"))) (b2 BB (b2 bV (gv 6) (cB (.int 0))) (b2 bV (b2 bV (gv 7) (cB (.int 0))) (cB (.int 0)))))) cZ)))))
theorem uH(g:O aP)(k:AZ)(c:AJ)(f:cI)(i:AJ)(b:AJ)(d:AZ)(e:O m9)(a:AZ):RP lH [U ((zE (eT aY)) g),U ((zE (eT eS)) k),U (zE eS c),U (zE bW f),U (zE eS i),U (zE eS b),U ((zE (eT eS)) d),U (oE z8 e),U (oE eS a)] (λr=>As.rt (zE eB r)) (ig g k c f i b d e a) (U (lG g k c f i b d e a)):=R.tp (lu (UG (cU (Hm (aq 5 (zE eS) b S) (iG (aq 8 (lE eS) a S)))) (cU (Uz () (jc (Yd (aq 6 (zE (eT eS)) d S))) (jc (wX (Cg (iG (aq 7 (lE z8) e S))) _ (λ_=>S) (λh:m9=>(cU (BC () (cM (aq 1 (zE z8) h S) (λq=>q.2) (eO eS) 1 λ_=>S) (MP (aq 0 (zE eS) b S))))) (λh:m9=>(cM (aq 1 (zE z8) h S) (λq=>q.1) eS 0 λ_=>S)) (λ_=>S) λ_=>S))))) (bN (cH (λr=>r) (uQ (.bl false) eB false S) (λ_=>S) λ_=>S)) (cX (lu (UG (Pr (cU (BC () (aq 2 (zE eS) c S) (qW "least"))) (cU (Lm (aq 5 (zE eS) b S) (Vq (iG (aq 8 (lE eS) a S)))))) (Pr (cU (BC () (aq 2 (zE eS) c S) (qW "greatest"))) (cU (Hd (aq 5 (zE eS) b S) (Vr (iG (aq 8 (lE eS) a S))))))) (bN (cH (λr=>r) (uQ (.bl false) eB false S) (λ_=>S) λ_=>S)) (cX (lu (Pr (cU (BC () (aq 2 (zE eS) c S) (qW "longest"))) (cU (Pn (yD (aq 5 (zE eS) b S)) (Vf (jc (Io (Cg (iG (aq 8 (lE eS) a S))) _ (λ_=>S) (λj:AJ=>(nR (yD (aq 0 (zE eS) j S)))) λ_=>S)))))) (bN (cH (λr=>r) (uQ (.bl false) eB false S) (λ_=>S) λ_=>S)) (cX (lu (Pr (cU (BC () (aq 2 (zE eS) c S) (qW "most"))) (cU (Pn (Im (aq 6 (zE (eT eS)) d S)) (Vf (jc (Io (Cg (iG (aq 8 (lE eS) a S))) _ (λ_=>S) (λj:AJ=>(nR (KC (iG (aq 0 (lE eS) a S)) (aq 1 (zE eS) j S)))) λ_=>S)))))) (bN (cH (λr=>r) (uQ (.bl false) eB false S) (λ_=>S) λ_=>S)) (cX (cH (λr=>r) (GT (Is () (aq 2 (zE eS) c S) (qW "first")) (BC () (Kg (aq 6 (zE (eT eS)) d S) (B8 0)) (cM (gZ (iG (aq 7 (lE z8) e S)) (B8 0)) (λq=>q.1) eS 0 λ_=>S))) (λ_=>S) λ_=>S)))))))))
def iu(d:O aP)(j:AZ)(i:AJ)(c:cI)(h:AJ)(b:AJ)(e:AZ)(a:O m9):Bool:=(let g:=(a.map λf:m9=>(f.2.getD default));(ig d j i c h b e a g))
def lJ(e:O aP)(j:AZ)(i:AJ)(d:cI)(h:AJ)(c:AJ)(f:AZ)(a:O m9):Prop:=((a.length<=100000/\(∀b∈a,b.2.isSome=true))/\(let g:=(a.map λb:m9=>(b.2.getD default));(lG e j i d h c f a g)))
def lK:Ev->Y As:=(aD (B1 8 (cQ (zK (gv 7)) (mO 0) q9 (b2 bV (gv 0) (cB (.int 1))) [] 1)) lH)
theorem uI(d:O aP)(h:AZ)(g:AJ)(c:cI)(f:AJ)(b:AJ)(e:AZ)(a:O m9):RP lK [U ((zE (eT aY)) d),U ((zE (eT eS)) h),U (zE eS g),U (zE bW c),U (zE eS f),U (zE eS b),U ((zE (eT eS)) e),U (oE z8 a),Z] (λr=>As.rt (zE eB r)) (iu d h g c f b e a) (U (lJ d h g c f b e a)):=R.tp (cD 8 (yE (Cg (iG (aq 7 (lE z8) a S))) _ (λ_=>S) (λi:m9=>(Zv (cM (aq 0 (zE z8) i S) (λq=>q.2) (eO eS) 1 λ_=>S)))) (λ_=>S) λj=>(uH d h g c f b e a j).r)
def eG(b:O aP)(d:AZ)(i:AJ)(f:cI)(c:AJ)(e:AJ)(g:AZ):Bool:=(let h:=(((dN b d c).filter λa:m9=>a.2.isSome).map λa:m9=>a);(iu b d i f c e g h))
def eH(a:O aP)(c:AZ)(i:AJ)(f:cI)(b:AJ)(e:AJ)(g:AZ):Prop:=(((mC a c b)/\(dN a c b).length<=100000)/\(let h:=(((dN a c b).filter λd:m9=>d.2.isSome).map λd:m9=>d);(lJ a c i f b e g h)))
def uJ:Ev->Y As:=(aD (B1 7 (cQ (zK (cF 3 jG (ao (gv 0) (ao (gv 1) (ao (gv 4) aF))))) (mO 0) (jR Br (b2 bV (gv 0) (cB (.int 1))) (cB .non)) (gv 0) [] 1)) lK)
theorem uK(a:O aP)(c:AZ)(g:AJ)(e:cI)(b:AJ)(d:AJ)(f:AZ):RP uJ [U ((zE (eT aY)) a),U ((zE (eT eS)) c),U (zE eS g),U (zE bW e),U (zE eS b),U (zE eS d),U ((zE (eT eS)) f),Z,Z] (λr=>As.rt (zE eB r)) (eG a c g e b d f) (U (eH a c g e b d f)):=R.tp (cD 7 (wX (Cg (jc (B0 Jk (dF (aq 0 (zE (eT aY)) a S) (dF (aq 1 (zE (eT eS)) c S) (dF (aq 4 (zE eS) b S) cJ)))))) _ (λ_=>S) (λh:m9=>(cU (Pq (cM (aq 0 (zE z8) h S) (λq=>q.2) (eO eS) 1 λ_=>S) λ_=>S))) (λh:m9=>(aq 0 (zE z8) h S)) (λ_=>S) λ_=>S) (λ_=>S) λi=>(uI a c g e b d f i).r)
def cu(d:O aP)(b:AZ)(c:AJ)(a:cI):Bool:=(let q1:=a;(eG d b c a q1.1 q1.2.1 q1.2.2))
def dh(d:O aP)(b:AZ)(c:AJ)(a:cI):Prop:=(let q1:=a;(eH d b c a q1.1 q1.2.1 q1.2.2))
theorem zj(d:O aP)(b:AZ)(c:AJ)(a:cI):RP gB [U ((zE (eT aY)) d),U ((zE (eT eS)) b),U (zE eS c),U (zE bW a),Z,Z,Z,Z,Z] (λr=>As.rt (zE eB r)) (cu d b c a) (U (dh d b c a)):=R.tp (OO (aq 3 (zE bW) a S) _ (λ_=>S) λq1=>(uK d b c a q1.1 q1.2.1 q1.2.2).r)
theorem zm:∀v bs,(aZ (eT aY) (aZ (eT eS) (aZ eS (aZ bW aN)))) v bs->bs.length=4/\(hold (U (dh v.1 v.2.1 v.2.2.1 v.2.2.2.1))->gC (bs.map lend)=U ((zE eB) (cu v.1 v.2.1 v.2.2.1 v.2.2.2.1))):=by
 rintro⟨d,a,c,b,_⟩ _ ⟨_,rfl,⟨_,rfl,⟨_,rfl,⟨_,rfl,rfl⟩⟩⟩⟩;exact⟨rfl,λh=>cG (g:=gB) (n:=9) (bs:=[.z (eT aY d),.z (eT eS a),.z (eS c),.z (bW b)]) (zj d a c b) h⟩
def eU(d:AJ)(f:O cI)(g:O cI)(e:O cI)(b:cI)(a:cI)(c:AJ):Bool:=(if(decide (d=("least":AJ)))=true then(decide (c=(if jA a.2.1 b.2.1=true then a.2.1 else b.2.1)))else(if(decide (d=("greatest":AJ)))=true then(decide (c=(if jA b.2.1 a.2.1=true then a.2.1 else b.2.1)))else(if(decide (d=("first":AJ)))=true then(decide (c=(if Ei iH ((Ap a.2.2 0),a.2.1) ((Ap b.2.2 0),b.2.1)=true then((Ap a.2.2 0),a.2.1)else((Ap b.2.2 0),b.2.1)).2))else(if(decide (d=("last":AJ)))=true then(decide (c=(if Ei iH ((Ap b.2.2 (-(1:Int))),b.2.1) ((Ap a.2.2 (-(1:Int))),a.2.1)=true then((Ap a.2.2 (-(1:Int))),a.2.1)else((Ap b.2.2 (-(1:Int))),b.2.1)).2))else(if(decide (d=("longest":AJ)))=true then(decide (c=(if Ei YK (((0:Int)-(a.2.1.length:Int)),a.2.1) (((0:Int)-(b.2.1.length:Int)),b.2.1)=true then(((0:Int)-(a.2.1.length:Int)),a.2.1)else(((0:Int)-(b.2.1.length:Int)),b.2.1)).2))else((decide (c∈[b.2.1,a.2.1]))||(decide ((if(a.2.2.length:Int)>(b.2.2.length:Int)then(a.2.2.length:Int)else(b.2.2.length:Int))<=((Ap e 0).2.2.length:Int)))))))))
def iw(a:AJ)(f:O cI)(g:O cI)(e:O cI)(c:cI)(b:cI)(d:AJ):Prop:=((decide (a=("least":AJ)))=false->((decide (a=("greatest":AJ)))=false->(((decide (a=("first":AJ)))=true->(In c.2.2.length 0/\In b.2.2.length 0))/\((decide (a=("first":AJ)))=false->(((decide (a=("last":AJ)))=true->(In c.2.2.length (-(1:Int))/\In b.2.2.length (-(1:Int))))/\((decide (a=("last":AJ)))=false->((decide (a=("longest":AJ)))=false->((decide (d∈[c.2.1,b.2.1]))=false->In e.length 0))))))))
def uL:Ev->Y As:=(aD (rB (jR BB (gv 0) (cB (.str "least"))) (aD (cR (b2 BB (gv 6) (bx su (ao (b2 bV (gv 4) (cB (.int 1))) (ao (b2 bV (gv 5) (cB (.int 1))) aF))))) cZ) cZ) (aD (rB (jR BB (gv 0) (cB (.str "greatest"))) (aD (cR (b2 BB (gv 6) (bx Gm (ao (b2 bV (gv 4) (cB (.int 1))) (ao (b2 bV (gv 5) (cB (.int 1))) aF))))) cZ) cZ) (aD (rB (jR BB (gv 0) (cB (.str "first"))) (aD (cR (b2 BB (gv 6) (b2 bV (bx xq (ao (bx gq (ao (b2 bV (b2 bV (gv 4) (cB (.int 2))) (cB (.int 0))) (ao (b2 bV (gv 4) (cB (.int 1))) aF))) (ao (bx gq (ao (b2 bV (b2 bV (gv 5) (cB (.int 2))) (cB (.int 0))) (ao (b2 bV (gv 5) (cB (.int 1))) aF))) aF))) (cB (.int 1))))) cZ) cZ) (aD (rB (jR BB (gv 0) (cB (.str "last"))) (aD (cR (b2 BB (gv 6) (b2 bV (bx Cw (ao (bx gq (ao (b2 bV (b2 bV (gv 4) (cB (.int 2))) (b1 Ef (cB (.int 1)))) (ao (b2 bV (gv 4) (cB (.int 1))) aF))) (ao (bx gq (ao (b2 bV (b2 bV (gv 5) (cB (.int 2))) (b1 Ef (cB (.int 1)))) (ao (b2 bV (gv 5) (cB (.int 1))) aF))) aF))) (cB (.int 1))))) cZ) cZ) (aD (rB (jR BB (gv 0) (cB (.str "longest"))) (aD (cR (b2 BB (gv 6) (b2 bV (bx xq (ao (bx gq (ao (b2 CC (cB (.int 0)) (bx iD (ao (b2 bV (gv 4) (cB (.int 1))) aF))) (ao (b2 bV (gv 4) (cB (.int 1))) aF))) (ao (bx gq (ao (b2 CC (cB (.int 0)) (bx iD (ao (b2 bV (gv 5) (cB (.int 1))) aF))) (ao (b2 bV (gv 5) (cB (.int 1))) aF))) aF))) (cB (.int 1))))) cZ) cZ) (aD (cR (Ct (b2 inF (gv 6) (bx gq (ao (b2 bV (gv 4) (cB (.int 1))) (ao (b2 bV (gv 5) (cB (.int 1))) aF)))) (b2 D6 (bx iD (ao (b2 bV (b2 bV (gv 3) (cB (.int 0))) (cB (.int 2))) aF)) (bx Rm (ao (bx iD (ao (b2 bV (gv 4) (cB (.int 2))) aF)) (ao (bx iD (ao (b2 bV (gv 5) (cB (.int 2))) aF)) aF)))))) cZ))))))
theorem uM(d:AJ)(f:O cI)(l:Lp b_1 (f.map bW))(g:O cI){h:Bx}(k:Lp h (g.map bW))(e:O cI){i:Bx}(j:Lp i (e.map bW))(b:cI)(a:cI)(c:AJ):RP uL [U (zE eS d),U b_1,U h,U i,U (zE bW b),U (zE bW a),U (zE eS c)] (λr=>As.rt (zE eB r)) (eU d f g e b a c) (U (iw d f g e b a c)):=R.tp (lu (cU (BC () (aq 0 (zE eS) d S) (qW "least"))) (bN (cH (λr=>r) (BC () (aq 6 (zE eS) c S) (HL (cM (aq 4 (zE bW) b S) (λq=>q.2.1) eS 1 λ_=>S) (cM (aq 5 (zE bW) a S) (λq=>q.2.1) eS 1 λ_=>S))) (λ_=>S) λ_=>S)) (cX (lu (cU (BC () (aq 0 (zE eS) d S) (qW "greatest"))) (bN (cH (λr=>r) (BC () (aq 6 (zE eS) c S) (OI (cM (aq 4 (zE bW) b S) (λq=>q.2.1) eS 1 λ_=>S) (cM (aq 5 (zE bW) a S) (λq=>q.2.1) eS 1 λ_=>S))) (λ_=>S) λ_=>S)) (cX (lu (cU (BC () (aq 0 (zE eS) d S) (qW "first"))) (bN (cH (λr=>r) (BC () (aq 6 (zE eS) c S) (cM (VB (jB (Kg (cM (aq 4 (zE bW) b S) (λq=>q.2.2) (eT eS) 2 λ_=>S) (B8 0)) (cM (aq 4 (zE bW) b S) (λq=>q.2.1) eS 1 λ_=>S)) (jB (Kg (cM (aq 5 (zE bW) a S) (λq=>q.2.2) (eT eS) 2 λ_=>S) (B8 0)) (cM (aq 5 (zE bW) a S) (λq=>q.2.1) eS 1 λ_=>S))) (λq=>q.2) eS 1 λ_=>S)) (λ_=>S) λ_=>S)) (cX (lu (cU (BC () (aq 0 (zE eS) d S) (qW "last"))) (bN (cH (λr=>r) (BC () (aq 6 (zE eS) c S) (cM (OY (jB (Kg (cM (aq 4 (zE bW) b S) (λq=>q.2.2) (eT eS) 2 λ_=>S) (Pj (B8 1))) (cM (aq 4 (zE bW) b S) (λq=>q.2.1) eS 1 λ_=>S)) (jB (Kg (cM (aq 5 (zE bW) a S) (λq=>q.2.2) (eT eS) 2 λ_=>S) (Pj (B8 1))) (cM (aq 5 (zE bW) a S) (λq=>q.2.1) eS 1 λ_=>S))) (λq=>q.2) eS 1 λ_=>S)) (λ_=>S) λ_=>S)) (cX (lu (cU (BC () (aq 0 (zE eS) d S) (qW "longest"))) (bN (cH (λr=>r) (BC () (aq 6 (zE eS) c S) (cM (VB (jB (Zw (B8 0) (yD (cM (aq 4 (zE bW) b S) (λq=>q.2.1) eS 1 λ_=>S))) (cM (aq 4 (zE bW) b S) (λq=>q.2.1) eS 1 λ_=>S)) (jB (Zw (B8 0) (yD (cM (aq 5 (zE bW) a S) (λq=>q.2.1) eS 1 λ_=>S))) (cM (aq 5 (zE bW) a S) (λq=>q.2.1) eS 1 λ_=>S))) (λq=>q.2) eS 1 λ_=>S)) (λ_=>S) λ_=>S)) (cX (cH (λr=>r) (GT (U5 (aq 6 (zE eS) c S) (Ii (aK (cM (aq 4 (zE bW) b S) (λq=>q.2.1) eS 1 λ_=>S) (aK (cM (aq 5 (zE bW) a S) (λq=>q.2.1) eS 1 λ_=>S) (dR eS))) (zI S))) (DM (Im (cM (gZ (bY 3 bW e j S) (B8 0)) (λq=>q.2.2) (eT eS) 2 λ_=>S)) (IT (Im (cM (aq 4 (zE bW) b S) (λq=>q.2.2) (eT eS) 2 λ_=>S)) (Im (cM (aq 5 (zE bW) a S) (λq=>q.2.2) (eT eS) 2 λ_=>S))))) (λ_=>S) λ_=>S)))))))))))
def eZ(g:AJ)(a:O cI)(b:O cI)(c:O cI):Bool:=(if((decide (a=([]:O cI)))||(decide (b=([]:O cI))))=true then(decide (c=(a++b)))else(let y1:=(Ap a 0);let y2:=(Ap b 0);let e:=(Ap c 0).2.1;let h:=y1;let f:=y2;let d:=e;(eU g a b c h f d)))
def fj(g:AJ)(a:O cI)(b:O cI)(c:O cI):Prop:=((((decide (a=([]:O cI)))||(decide (b=([]:O cI))))=true->Ik (a.length+b.length))/\(((decide (a=([]:O cI)))||(decide (b=([]:O cI))))=false->((In a.length 0/\(In b.length 0/\In c.length 0))/\(let y1:=(Ap a 0);let y2:=(Ap b 0);let e:=(Ap c 0).2.1;let h:=y1;let f:=y2;let d:=e;(iw g a b c h f d)))))
theorem zp(f:AJ)(a:O cI)(e:Lp b_1 (a.map bW))(b:O cI){h:Bx}(d:Lp h (b.map bW))(c:O cI){i:Bx}(g:Lp i (c.map bW)):RP gD [U (zE eS f),U b_1,U h,U i,Z,Z,Z] (λr=>As.rt (zE eB r)) (eZ f a b c) (U (fj f a b c)):=R.tp (lu (UG (cU (Uy () (bY 1 bW a e S) (jc (lq (dR bW) (zI S))))) (cU (Uy () (bY 2 bW b d S) (jc (lq (dR bW) (zI S)))))) (bN (cH (λr=>r) (Uy () (bY 3 bW c g S) (jc (U0 (bY 1 bW a e S) (bY 2 bW b d S)))) (λ_=>S) λ_=>S)) (cX (IE 4 5 6 (gZ (bY 1 bW a e S) (B8 0)) (gZ (bY 2 bW b d S) (B8 0)) (cM (gZ (bY 3 bW c g S) (B8 0)) (λq=>q.2.1) eS 1 λ_=>S) λl k j=>(uM f a e b d c g l k j).r)))
theorem zq:∀v bs,(aZ eS (aL bW (aL bW (aL bW aN)))) v bs->bs.length=4/\(hold (U (fj v.1 v.2.1 v.2.2.1 v.2.2.2.1))->gF (bs.map lend)=U ((zE eB) (eZ v.1 v.2.1 v.2.2.1 v.2.2.2.1))):=by
 rintro⟨a,f,k,j,_⟩ _ ⟨_,rfl,⟨b_1,_,rfl,i,⟨d,_,rfl,c,⟨e,_,rfl,b,rfl⟩⟩⟩⟩;exact⟨rfl,λh=>cG (g:=gD) (n:=7) (bs:=[.z (eS a),lend b_1,lend d,lend e]) (zp a f (jz i) k (jz c) j (jz b)) h⟩
def nG(d:O aP)(b:AZ)(c:AZ)(s2:Unit)(q3:bU):pq (Unit) Bool:=(let a:=([b,c,(eX (b++c))].map λe:AZ=>(bG d [(q3.1,q3.2)] e));(if(!(eZ q3.2 (Ap a 0) (Ap a 1) (Ap a 2)))=true then(pq.rt false)else(pq.nx eg)))
def xY(e:O aP)(a:AZ)(b:AZ)(s2:Unit)(q3:bU):Prop:=((((Ik (a.length+b.length)/\(a++b).length<64)/\[a,b,(eX (a++b))].length<=100000)/\(∀d∈[a,b,(eX (a++b))],(fM e [(q3.1,q3.2)] d)))/\(let c:=([a,b,(eX (a++b))].map λd:AZ=>(bG e [(q3.1,q3.2)] d));((In c.length 0/\(In c.length 1/\In c.length 2))/\(fj q3.2 (Ap c 0) (Ap c 1) (Ap c 2)))))
theorem VL(l:Au)(m:Lp bQ (l.map eI))(c:O aP)(j:AZ)(i:Int)(e:Au)(f:O bU)(a:AZ)(b:AZ)(vs:O aP)(h:O aP)(g:O cI)(vo:(O (AJ×AJ)))(s2:Unit)(q3:bU):RP KQ [U bQ,U ((zE (eT aY)) c),U (oE eS j),U (zE eI i),U (oE eI e),U ((zE (eT iH)) f),U ((zE (eT eS)) a),U ((zE (eT eS)) b),U ((zE (eT aY)) vs),U ((zE (eT aY)) h),U (oE bW g),U (mE eS vo),U ((zE eS) q3.1),U ((zE eS) q3.2),Z] (cC (λs2:Unit=>[U bQ,U ((zE (eT aY)) c),U (oE eS j),U (zE eI i),U (oE eI e),U ((zE (eT iH)) f),U ((zE (eT eS)) a),U ((zE (eT eS)) b),U ((zE (eT aY)) vs),U ((zE (eT aY)) h),U (oE bW g),U (mE eS vo),Z,Z,Z]) (zE eB)) (nG c a b s2 q3) (U (xY c a b s2 q3)):=R.tp (bN (cD 14 (yE (Cg (jc (lq (aK (aq 6 (zE (eT eS)) a S) (aK (aq 7 (zE (eT eS)) b S) (aK (lN (jc (Kq (M5 (aq 6 (zE (eT eS)) a S) (aq 7 (zE (eT eS)) b S))))) (dR (eT eS))))) (zI S)))) _ (λ_=>S) (λk:AZ=>(X6 (B0 uE (dF (aq 0 (zE (eT aY)) c S) (dF (Ii (aK (jB (aq 1 (zE eS) q3.1 S) (aq 2 (zE eS) q3.2 S)) (dR iH)) (zI S)) (dF (aq 3 (zE (eT eS)) k S) cJ))))))) (λ_=>S) λd=>(bN (lu (Zy (Fm (B0 zq (dF (aq 13 (zE eS) q3.2 S) (sy (Rq (gZ (iG (aq 14 (lE (eL bW)) d S)) (B8 0))) (sy (Rq (gZ (iG (aq 14 (lE (eL bW)) d S)) (B8 1))) (sy (Rq (gZ (iG (aq 14 (lE (eL bW)) d S)) (B8 2))) cJ))))))) (bN (cH .rt (uQ (.bl false) eB false S) (λ_=>S) λ_=>S)) (cX (cX (dM (.nx eg) S)))))))
def nH(c:O aP)(i:AZ)(s1:Unit)(k:Int):pq (Unit) Bool:=(let d:=(aR k 22);(let b:=(dY d);(let a:=(bM i (BI d (U 8) Z));(let l:=(((bM i (BI d (U 12) Z)).filter λf:AJ=>(!decide (f∈a))).map λf:AJ=>f);(let vs:=((c.filter λg:aP=>(decide (g.1∈a))).map λg:aP=>g);(let j:=(c++[(("qqq":AJ),([]:O bU))]);(let e:=(bG c b a);(if((!decide ((bG vs b a)=e))||(!decide ((bG j b (eX (a++[("qqq":AJ)])))=e)))=true then(pq.rt false)else(let vo:=(D9 b);(if(!((e.map λh:cI=>(cu c a (look vo h.1) h)).all id))=true then(pq.rt false)else(BQ (jP (λ(s2:Unit) (q3:bU)=>((nG c a l s2 q3):pq (Unit) Bool)) b eg) (λr=>pq.rt r) λs2:Unit=>(pq.nx eg))))))))))))
def xZ(c:O aP)(g:AZ)(s1:Unit)(l:Int):Prop:=((fJ l 22)/\(let d:=(aR l 22);((qO d)/\(let b:=(dY d);((jg g (BI d (U 8) Z))/\(let a:=(bM g (BI d (U 8) Z));(((jg g (BI d (U 12) Z))/\(bM g (BI d (U 12) Z)).length<=100000)/\(let j:=(((bM g (BI d (U 12) Z)).filter λh:AJ=>(!decide (h∈a))).map λh:AJ=>h);(c.length<=100000/\(let vs:=((c.filter λi:aP=>(decide (i.1∈a))).map λi:aP=>i);(Ik (c.length+[(("qqq":AJ),([]:O bU))].length)/\(let k:=(c++[(("qqq":AJ),([]:O bU))]);((fM c b a)/\(let e:=(bG c b a);(((fM vs b a)/\((!decide ((bG vs b a)=e))=false->((Ik (a.length+[("qqq":AJ)].length)/\(a++[("qqq":AJ)]).length<64)/\(fM k b (eX (a++[("qqq":AJ)]))))))/\(((!decide ((bG vs b a)=e))||(!decide ((bG k b (eX (a++[("qqq":AJ)])))=e)))=false->(b.length<=1000/\(let vo:=(D9 b);((e.length<=100000/\(∀f∈e,(has vo f.1=true/\(dh c a (look vo f.1) f))))/\((!((e.map λf:cI=>(cu c a (look vo f.1) f)).all id))=false->(qU (λ(s2:Unit) (q3:bU)=>((nG c a j s2 q3):pq (Unit) Bool)) (λ(s2:Unit) (q3:bU)=>U (xY c a j s2 q3)) b eg/\(wZ (jP (λ(s2:Unit) (q3:bU)=>((nG c a j s2 q3):pq (Unit) Bool)) b eg) λs2:Unit=>True))))))))))))))))))))))
theorem VN(m:Au)(n:Lp bQ (m.map eI))(a:O aP)(c:AZ)(s1:Unit)(e:Int):RP CT [U bQ,U ((zE (eT aY)) a),U (oE eS c),U (zE eI e),Z,Z,Z,Z,Z,Z,Z,Z,Z,Z,Z] (cC (λs1:Unit=>[U bQ,U ((zE (eT aY)) a),U (oE eS c),Z,Z,Z,Z,Z,Z,Z,Z,Z,Z,Z,Z]) (zE eB)) (nH a c s1 e) (U (xZ a c s1 e)):=R.tp (bN (cD 4 (B0 oO (dF (aq 3 (zE eI) e S) (dF (B8 22) cJ))) (λ_=>S) λf=>(bN (cD 5 (B0 N5 (sy (iG (aq 4 (lE eI) f S)) cJ)) (λ_=>S) λd=>(bN (cD 6 (B0 Dl (sy (iG (aq 2 (lE eS) c S)) (sy (Rq (X6 (Yc (iG (aq 4 (lE eI) f S)) (M4 (B8 8)) UL))) cJ))) (λ_=>S) λb=>(bN (cD 7 (lN (jc (wX (U6 (B0 Dl (sy (iG (aq 2 (lE eS) c S)) (sy (Rq (X6 (Yc (iG (aq 4 (lE eI) f S)) (M4 (B8 12)) UL))) cJ)))) _ (λ_=>S) (λi:AJ=>(cU (NH (aq 1 (zE eS) i S) (aq 0 (zE (eT eS)) b S)))) (λi:AJ=>(aq 1 (zE eS) i S)) (λ_=>S) λ_=>S))) (λ_=>S) λk=>(bN (cD 8 (lN (jc (wX (U6 (aq 1 (zE (eT aY)) a S)) _ (λ_=>S) (λj:aP=>(cU (U5 (cM (aq 1 (zE aY) j S) (λq=>q.1) eS 0 λ_=>S) (aq 0 (zE (eT eS)) b S)))) (λj:aP=>(aq 1 (zE aY) j S)) (λ_=>S) λ_=>S))) (λ_=>S) λvs=>(bN (cD 9 (M5 (aq 1 (zE (eT aY)) a S) (Ii (aK (jB (qW "qqq") (LJ iH)) (dR aY)) (zI S))) (λ_=>S) λh=>(bN (cD 10 (B0 uE (dF (aq 1 (zE (eT aY)) a S) (dF (aq 5 (zE (eT iH)) d S) (dF (aq 6 (zE (eT eS)) b S) cJ)))) (λ_=>S) λg=>(bN (lu (UG (cU (Uz () (jc (B0 uE (dF (aq 8 (zE (eT aY)) vs S) (dF (aq 5 (zE (eT iH)) d S) (dF (aq 6 (zE (eT eS)) b S) cJ))))) (iG (aq 10 (lE bW) g S)))) (cU (Uz () (jc (B0 uE (dF (aq 9 (zE (eT aY)) h S) (dF (aq 5 (zE (eT iH)) d S) (dF (lN (jc (Kq (M5 (aq 6 (zE (eT eS)) b S) (Ii (aK (qW "qqq") (dR eS)) (zI S)))))) cJ))))) (iG (aq 10 (lE bW) g S))))) (bN (cH .rt (uQ (.bl false) eB false S) (λ_=>S) λ_=>S)) (cX (bN (cD 11 (YJ (aq 5 (zE (eT iH)) d S)) (λ_=>S) λvo=>(bN (lu (Zy (Fm (MM (jc (yE (Cg (iG (aq 10 (lE bW) g S))) _ (λ_=>S) (λl:cI=>(nR (B0 zm (dF (aq 0 (zE (eT aY)) a S) (dF (aq 1 (zE (eT eS)) b S) (dF (LV (aq 2 (nE eS) vo S) (cM (aq 3 (zE bW) l S) (λq=>q.1) eS 0 λ_=>S)) (dF (aq 3 (zE bW) l S) cJ)))))))))))) (bN (cH .rt (uQ (.bl false) eB false S) (λ_=>S) λ_=>S)) (cX (bN (PJ 5 d (Va S) (λs2:Unit=>[U bQ,U ((zE (eT aY)) a),U (oE eS c),U (zE eI e),U (oE eI f),U ((zE (eT iH)) d),U ((zE (eT eS)) b),U ((zE (eT eS)) k),U ((zE (eT aY)) vs),U ((zE (eT aY)) h),U (oE bW g),U (mE eS vo),Z,Z,Z]) eg S _ (λ_ _=>S) (λ(s2:Unit) (q3:bU)=>((VL m n a c e f d b k vs h g vo s2 q3).r:R _ _ (cC (λs2:Unit=>[U bQ,U ((zE (eT aY)) a),U (oE eS c),U (zE eI e),U (oE eI f),U ((zE (eT iH)) d),U ((zE (eT eS)) b),U ((zE (eT eS)) k),U ((zE (eT aY)) vs),U ((zE (eT aY)) h),U (oE bW g),U (mE eS vo),Z,Z,Z]) (zE eB)))) .rt (λ_=>S) λs2=>(cX (dM (.nx eg) S))))))))))))))))))))))))))
def Lj(b:Au)(c:O aP)(a:AZ):Bool:=true
def Ln:Ev->Y As:=(aD (cR (cB (.bl true))) cZ)
theorem VP(b:Au)(d:Lp bQ (b.map eI))(c:O aP)(a:AZ):RP Ln [U bQ,U ((zE (eT aY)) c),U (oE eS a),Z,Z,Z,Z,Z,Z,Z,Z,Z,Z,Z,Z] (λr=>As.rt (zE eB r)) (Lj b c a) (Z):=R.tp (cH (λr=>r) (uQ (.bl true) eB true S) (λ_=>S) λ_=>S)
def Dr(a:Au)(c:O aP)(b:AZ):Bool:=(BQ (jP (λ(s1:Unit) (d:Int)=>((nH c b s1 d):pq (Unit) Bool)) ([(bh a 16)]++(BI a (U 17) (U 26))) eg) (λr=>r) λs1:Unit=>(Lj a c b))
def Lq(a:Au)(d:O aP)(c:AZ):Prop:=((((jf a 16)/\Ik ([(bh a 16)].length+(BI a (U 17) (U 26)).length))/\qU (λ(s1:Unit) (b:Int)=>((nH d c s1 b):pq (Unit) Bool)) (λ(s1:Unit) (b:Int)=>U (xZ d c s1 b)) ([(bh a 16)]++(BI a (U 17) (U 26))) eg)/\(wZ (jP (λ(s1:Unit) (b:Int)=>((nH d c s1 b):pq (Unit) Bool)) ([(bh a 16)]++(BI a (U 17) (U 26))) eg) λs1:Unit=>True))
def Lr:Ev->Y As:=(aD (oM (Zt (b2 fP (bx lC (ao (b1 zJ (cF 2 fZ (ao (gv 0) (ao (cB (.int 16)) aF)))) aF)) (Sg (gv 0) (qR (cB (.int 17))) (qR (cB (.int 26)))))) (mO 3) CT) Ln)
theorem VR(c:Au)(d:Lp bQ (c.map eI))(a:O aP)(b:AZ):RP Lr [U bQ,U ((zE (eT aY)) a),U (oE eS b),Z,Z,Z,Z,Z,Z,Z,Z,Z,Z,Z,Z] (λr=>As.rt (zE eB r)) (Dr c a b) (U (Lq c a b)):=R.tp (U9 (λs1:Unit=>[U bQ,U ((zE (eT aY)) a),U (oE eS b),Z,Z,Z,Z,Z,Z,Z,Z,Z,Z,Z,Z]) eg S (HC (U0 (jc (lq (aK (nR (B0 vX (sy (bY 0 eI c d S) (dF (B8 16) cJ)))) (dR eI)) (zI S))) (jc (Yc (bY 0 eI c d S) (M4 (B8 17)) (M4 (B8 26)))))) _ (λ_ _=>S) (λ(s1:Unit) (e:Int)=>((VN c d a b s1 e).r:R _ _ (cC (λs1:Unit=>[U bQ,U ((zE (eT aY)) a),U (oE eS b),Z,Z,Z,Z,Z,Z,Z,Z,Z,Z,Z,Z]) (zE eB)))) (λr=>r) (λ_=>S) λs1=>(VP c d a b).r)
def Ds(d:Au)(a:O aP):Bool:=(let c:=(a.map λb:aP=>b.1);(Dr d a c))
def Ls(d:Au)(a:O aP):Prop:=(a.length<=100000/\(let c:=(a.map λb:aP=>b.1);(Lq d a c)))
def V0:Ev->Y As:=(aD (B1 2 (cQ (zK (gv 1)) (mO 0) q9 (b2 bV (gv 0) (cB (.int 0))) [] 1)) Lr)
theorem V4(b:Au)(c:Lp bQ (b.map eI))(a:O aP):RP V0 [U bQ,U ((zE (eT aY)) a),Z,Z,Z,Z,Z,Z,Z,Z,Z,Z,Z,Z,Z] (λr=>As.rt (zE eB r)) (Ds b a) (U (Ls b a)):=R.tp (cD 2 (Io (U6 (aq 1 (zE (eT aY)) a S)) _ (λ_=>S) (λd:aP=>(cM (aq 0 (zE aY) d S) (λq=>q.1) eS 0 λ_=>S)) λ_=>S) (λ_=>S) λe=>(VR b c a e).r)
def Lw(a:Au):Bool:=(let b:=(cg a 14);(Ds a b))
def Qp(a:Au):Prop:=((qM a 14)/\(let b:=(cg a 14);(Ls a b)))
theorem IM(a:Au)(b:Lp bQ (a.map eI)):RP Qn [U bQ,Z,Z,Z,Z,Z,Z,Z,Z,Z,Z,Z,Z,Z,Z] (λr=>As.rt (zE eB r)) (Lw a) (U (Qp a)):=R.tp (cD 1 (B0 NT (sy (bY 0 eI a b S) (dF (B8 14) cJ))) (λ_=>S) λc=>(V4 a b c).r)
theorem ZR:∀v bs,(aL eI aN) v bs->bs.length=1/\(hold (U (Qp v.1))->F_law (bs.map lend)=U ((zE eB) (Lw v.1))):=by
 rintro⟨b,_⟩ _ ⟨bQ,_,rfl,a,rfl⟩;exact⟨rfl,λh=>cG (g:=Qn) (n:=15) (bs:=[lend bQ]) (IM b (jz a)) h⟩
theorem ZS(h:∀a:O Int,a.length<=63->Qp a/\Lw a=true):(∀a:O Int,a.length<=63->F_law [.z (.lst (a.map .int))]=U (.z (.bl true)))/\∀a:O Int,a.length<=63->F_law [.l (a.map .int)]=U (.z (.bl true)):=
 ⟨λa b=>((ZR (a,eg) [.z (.lst (a.map .int))] ⟨_,_,rfl,rfl,rfl⟩).2 (h a b).1).trans (by rw[(h a b).2]),λa b=>((ZR (a,eg) [.l (a.map .int)] ⟨_,_,rfl,rfl,rfl⟩).2 (h a b).1).trans (by rw[(h a b).2])⟩
end
theorem Oa(a:O Int)(k:Int)(h0:0<=k)(h1:k<=1000):jf a k:=by
 unfold jf;exact⟨λh=>B4 h0 (by simpa using h),λ_=>ZG h0 ()⟩
theorem V5(k:Nat)(s:Int×O Int×Int)(hk:k<1000)(h:(0<=s.1/\s.1<1999999973)/\s.2.1.length=k/\(∀x∈s.2.1,0<=x)/\0<=s.2.2):gO s k/\(0<=(bR s k).1/\(bR s k).1<1999999973)/\(bR s k).2.1.length=k+1/\(∀x∈(bR s k).2.1,0<=x)/\0<=(bR s k).2.2:=by
 obtain⟨h1,h2,c,b⟩:=h;have a:In 2 (if(decide ((0:Int)<s.2.2))=true then(1:Int)else 0):=by split<;>exact B4 () ()
 refine⟨⟨ZG h1.1 (),a,?_⟩,mZ _ (),?_,?_,Int.ediv_nonneg b ()⟩
 ·show s.2.1.length<=1000000;omega
 ·show(s.2.1++[_]).length=k+1;rw[ZA,h2];rfl
 ·intro x hx;rcases af.mp hx with hx|hx
  ·exact c x hx
  ·cases ah.mp hx;have:=qj (xs:=[((((s.1*((s.1%65521)+40487))+(7*k))+5)%1999999973),(s.2.2%1000000)]) a;simp only[jb,Qr,or_false]at this;rcases this with e|e<;>rw[e]
   ·exact(mZ _ ()).1
   ·exact(mZ _ ()).1
theorem Du(c m:Int)(h0:0<=m)(h1:m<=1000):fJ c m/\(aR c m).length=m.toNat/\∀x∈aR c m,0<=x:=by
 have b:∀st a:Int,(0<=st/\st<1999999973)->0<=a->kj c m [] st a/\(gP c m [] st a).length=m.toNat/\∀x∈gP c m [] st a,0<=x:=λst a hs hd=>by
  have:=mY (P:=λs k=>U (gO s k)) (λk s=>(0<=s.1/\s.1<1999999973)/\s.2.1.length=k/\(∀x∈s.2.1,0<=x)/\0<=s.2.2) (step:=λs k=>bR s k) m.toNat (st,[],a) ⟨hs,rfl,λx h=>(by cases h),hd⟩ λk s hk h=>V5 k s () h;exact⟨⟨Cm h0 (),this.1⟩,this.2.2.1,this.2.2.2.1⟩
 refine b _ _ (mZ _ ()) ?_;dsimp only;split<;>(try split)<;>omega
open S1 S6
abbrev bT:=AJ×O (AJ×AJ)
theorem zu{α τ:Type}{p:α->Bool}{g:α->τ}{step:Unit->α->pq Unit τ}(hs:∀s x,step s x=if p x=true then .rt (g x)else .nx eg):∀(xs:O α),jP step xs eg=(match xs.find? p with|some x=>.rt (g x)|none=>.nx eg)/\qU step (λ_ _=>Z) xs eg
 |[]=>⟨rfl,trivial⟩
 |x::xs=>by
  obtain⟨h1,h2⟩:=zu hs xs;unfold jP qU;rw[hs,qV];cases p x with
  |true=>exact⟨rfl,trivial,trivial⟩
  |false=>exact⟨h1,trivial,h2⟩
def fw(ws:O (AJ×AJ))(f:AJ):Y AJ:=(ws.find? λq=>decide (q.1=f)).map (·.2)
theorem pU(r:bT)(f:AJ):mG r f/\fL r f=fw r.2 f:=by
 obtain⟨h1,h2⟩:=zu (p:=λq:AJ×AJ=>decide (q.1=f)) (g:=λq:AJ×AJ=>U q.2) (step:=λs q=>gR f s q) (λ_ _=>S) r.2;refine⟨⟨h2,?_⟩,?_⟩
 ·cases jP (λ(s1:Unit) (q2:AJ×AJ)=>((gR f s1 q2):pq Unit (Y AJ))) r.2 eg<;>trivial
 ·unfold fL fw;rw[h1];cases r.2.find? λq=>decide (q.1=f)<;>rfl
def zx(rs:O bT)(f:AJ):AZ:=rs.filterMap λr=>fw r.2 f
theorem V6{α:Type}[Inhabited α]:∀xs:O (Y α),(xs.filter λv=>v.isSome).map (λv=>v.getD default)=xs.filterMap id
 |[]=>rfl
 |none::xs=>V6 xs
 |some x::xs=>by
  show _::_=x::_;rw[<-V6 xs];rfl
theorem zU(rs:O bT)(f:AJ)(h:rs.length<=100000):nF rs f/\dZ rs f=zx rs f:=by
 refine⟨⟨⟨⟨h,λr _=>(pU r f).1⟩,by rw[zk];exact h⟩,λ_ _ z=>z⟩,?_⟩;unfold dZ zx;rw[V6,dc];refine congrArg (λg=>List.filterMap g rs) (funext λr=>(pU r f).2)
def fH(B:O bT)(n:AJ):bT:=(B.find? λr=>decide (r.1=n)).getD default
theorem GZ(B:O bT)(n:AJ)(h:n∈B.map (·.1)):xX B n/\nD B n=fH B n:=by
 obtain⟨h1,h2⟩:=zu (p:=λq:bT=>decide (q.1=n)) (g:=λq:bT=>q) (step:=λs q=>jq n s q) (λ_ _=>S) B;obtain⟨r,b,e⟩:=ag.mp h;have hs:∃x,B.find? (λq:bT=>decide (q.1=n))=U x:=by
  cases a:B.find? (λq:bT=>decide (q.1=n))with
  |some x=>exact⟨x,rfl⟩
  |none=>exact absurd (bz.mp a r b) (by simp[e])
 obtain⟨x,hx⟩:=hs;rw[hx]at h1;have h1:jP (λ(s1:Unit) (q:bT)=>((jq n s1 q):pq Unit bT)) B eg=.rt x:=h1;refine⟨⟨h2,?_⟩,?_⟩
 ·rw[h1];trivial
 ·unfold nD fH;rw[h1,hx];rfl
theorem uF{B:O bT}(nd:(B.map (·.1)).Nodup){r:bT}(h:r∈B):fH B r.1=r:=by
 unfold fH;have:B.find? (λq=>decide (q.1=r.1))=U r:=by
  induction B with
  |nil=>cases h
  |cons a B b=>
   rw[zr,k5]at nd;rw[qV];rcases List.mem_cons.mp h with e|e
   ·subst e;simp
   ·have:a.1≠r.1:=λz=>nd.1 (by rw[z];exact QQ e);rw[z4 this];exact b nd.2 e
 rw[this];rfl
theorem zy{α:Type}{f:α->Int}{b:α->α->Bool}(d:∀x z,b x z=decide (f z<f x)):∀(r:O α) (y:α),∃a c,y::r=a++jE b y r::c/\(∀x∈a,f x<f (jE b y r))/\∀x∈c,f x<=f (jE b y r)
 |[],y=>⟨[],[],rfl,λ_ h=>(by cases h),λ_ h=>(by cases h)⟩
 |z::r,y=>by
  unfold jE;by_cases h:f y<f z
  ·rw[d,zo (Zl h)];obtain⟨a,c,e,h1,h2⟩:=zy d r z;generalize jE b z r=m at *
   refine⟨y::a,c,by rw[e];rfl,λx hx=>?_,h2⟩;have i:f z<=f m:=by
    cases a with
    |nil=>rw[ko,Qb]at e;rw[e.1];exact dy _
    |cons p a=>rw[kM,Qb]at e;rw[e.1];exact Int.le_of_lt (h1 _ (zg ..))
   rcases List.mem_cons.mp hx with e'|e'
   ·rw[e'];omega
   ·exact h1 x e'
  ·rw[d,zC (by simpa using h)];obtain⟨a,c,e,h1,h2⟩:=zy d r y;generalize jE b y r=m at *
   cases a with
   |nil=>
    rw[ko,Qb]at e;obtain⟨e1,e2⟩:=e;subst e1;refine⟨[],z::r,rfl,λ_ h=>(by cases h),λx hx=>?_⟩;rcases List.mem_cons.mp hx with e'|e'
    ·rw[e'];omega
    ·exact h2 x (by rw[<-e2];exact e')
   |cons p a=>
    rw[kM,Qb]at e;obtain⟨e1,e2⟩:=e;subst e1;have g:=h1 y (zg ..);refine⟨y::z::a,c,by rw[e2];rfl,λx hx=>?_,h2⟩;rcases List.mem_cons.mp hx with e'|hx
    ·rw[e'];exact g
    rcases List.mem_cons.mp hx with e'|hx
    ·rw[e'];omega
    ·exact h1 x (zh _ hx)
theorem pW{α:Type}{b:α->α->Bool}(as:∀x z,b x z=true->b z x=false)(a:∀x y z,b x y=false->b y z=false->b x z=false)(c:∀x,b x x=false):∀(r:O α) (y:α),jE b y r∈y::r/\∀x∈y::r,b x (jE b y r)=false
 |[],y=>⟨zg ..,λx hx=>by rw[ah.mp hx];exact c y⟩
 |z::r,y=>by
  unfold jE;cases h:b z y with
  |true=>
   rw[zo rfl];obtain⟨h1,h2⟩:=pW as a c r z;refine⟨zh _ h1,λx hx=>?_⟩;rcases List.mem_cons.mp hx with e|e
   ·rw[e];exact a _ _ _ (as _ _ h) (h2 z (zg ..))
   ·exact h2 x e
  |false=>
   rw[zC (by simp)];obtain⟨h1,h2⟩:=pW as a c r y;refine⟨?_,λx hx=>?_⟩
   ·rcases List.mem_cons.mp h1 with e|e
    ·rw[e];exact zg ..
    ·exact zh _ (zh _ e)
   ·rcases List.mem_cons.mp hx with e|hx
    ·rw[e];exact h2 y (zg ..)
    rcases List.mem_cons.mp hx with e|hx
    ·rw[e];exact a _ _ _ h (h2 y (zg ..))
    ·exact h2 x (zh _ hx)
theorem nJ{z:AJ}:jA x z=false↔qT z x:=by
 constructor
 ·intro h;cases q:jA z x with
  |true=>exact((BG _ _).mp q).1
  |false=>
   unfold jA at h;unfold qT;rw[ltCps_eq];exact h
 ·intro h;cases q:jA x z with
  |false=>rfl
  |true=>have:=(BG _ _).mp q;exact absurd (fG this.1 h) this.2
theorem Jl(x:AJ):jA x x=false:=by
 cases q:jA x x with
 |false=>rfl
 |true=>exact absurd S ((BG _ _).mp q).2
theorem Dv(x z:AJ)(h:jA x z=true):jA z x=false:=nJ.mpr ((BG _ _).mp h).1
theorem Ob(x y z:AJ)(h1:jA x y=false)(h2:jA y z=false):jA x z=false:=by
 cases q:jA x z with
 |false=>rfl
 |true=>
  exfalso;cases e:jA y x with
  |true=>
   have:=KU _ _ _ e q;rw[h2]at this;cases this
  |false=>
   have:x=y:=fG (nJ.mp e) (nJ.mp h1);rw[this,h2]at q;cases q
theorem Qq[Inhabited α]:∀{xs:O α} (h:xs≠[]),Ap xs ((xs.length:Int)-1)=xs.getLast h:=λ{xs} h=>by
 have a:0<xs.length:=ai.mpr h;rw[show((xs.length:Int)-1)=((xs.length-1:Nat):Int) by omega,yF _ _ (),List.getLast_eq_getElem]
theorem CH[Inhabited α]{xs:O α}(h:xs≠[]):Ap xs (-1)=Ap xs ((xs.length:Int)-1):=by
 have a:0<xs.length:=ai.mpr h;unfold Ap DN D1;rw[zC (),zo (),zo (),zo ()];congr 3
abbrev kL(u:AJ):Int×AJ:=(-(u.length:Int),u)
theorem BU{α:Type}(c:Array α):∀(n:Nat) (a:Array α),((aa n c).foldl (·++·) a).size=a.size+n*c.size
 |0,a=>by simp
 |n+1,a=>by
  rw[cS,JY,BU c n,kg,dg];omega
theorem HW(x:AJ)(k:Int):(Txt.mul x k).length<=x.length*k.toNat:=by
 unfold Txt.mul;split
 ·exact qi _
 split
 ·rename_i h0 h;simp only[bj,beq_iff_eq]at h;rcases h with h|h
  ·subst h;simp
  ·rw[h];simp
 ·show(Array.size _)<=_;rw[BU];have:x.cps.size=x.length:=rfl;rw[this,Nat.mul_comm];simp
def LT:AJ:=("abcdefghijklmnopqrstuvwxyz":AJ)
theorem Oc:LT.length=26:=by decide +kernel
theorem jM(h:n<=1000):Ik n:=zS h ()
theorem Od(xs:O Int)(f:6<=xs.length)(b:AJ)(hs:b.length<=5)(at_:Int)(k:Nat)(a:AZ)(hk:k<200)(h:a.length=k/\∀n∈a,n.length<=12):jH xs LT b at_ a k/\(dB xs LT b at_ a k).length=k+1/\∀n∈dB xs LT b at_ a k,n.length<=12:=by
 have s1:=zS (slice_le b Z (U at_)) hs;have s2:=zS (slice_le b (U at_) Z) hs;have c1:=vM LT ((↑k+Ap xs 2)%15);have g:=mZ (k:Int) (m:=8) ();have hd:(0:Int)<=(k:Int) / 8/\(k:Int) / 8<26:=by omega
 refine⟨⟨⟨B4 () (),sE () (by rw[Oc];decide)⟩,⟨jM (),jM (by rw[nW];omega)⟩,⟨B4 () (),λ_=>⟨B4 hd.1 (by rw[Oc];exact hd.2),by omega,by omega,by rw[vM];decide⟩⟩,jM ()⟩,?_⟩;have d:∀n:AJ,n.length<=12->(a++[n]).length=k+1/\∀m∈a++[n],m.length<=12:=λn e=>⟨by simp[h.1],λm c=>by
  rcases af.mp c with c|c
  ·exact h.2 m c
  ·cases ah.mp c;exact e⟩
 unfold dB;dsimp only;split
 ·exact d _ (by have:=HW (ch LT ((k:Int) / 8)) (1+(k:Int)%8);rw[vM]at this;exact zS this ())
 ·exact d _ (by rw[nW,nW,c1];omega)
theorem NR(xs:AZ)(n:Nat)(h:∀x∈xs,x.length<=n):(Txt.join "" xs).length<=xs.length*n:=by
 have h1:=StrLaws.join_length_le ("":AJ) xs;rw[<-StrLaws.glued_eq_join]at h1;have h2:(xs.map (·.length)).sum<=xs.length*n:=by
  clear h1
  induction xs with
  |nil=>simp
  |cons a l c=>
   have:=c λx hx=>h x (zh _ hx);have:=h a (zg ..);simp only[zr,List.sum_cons,js,dg];omega
 have b:("":AJ).length=0:=rfl;rw[b,Nat.mul_zero]at h1;exact zS h1 ()
theorem KI(xs:AZ)(h:∀x∈xs,x.length=1):(xs.map (·.length)).sum=xs.length:=by
 induction xs with
 |nil=>rfl
 |cons a l b=>
  have:=b λx hx=>h x (zh _ hx);have:=h a (zg ..);simp only[zr,List.sum_cons,js];omega
theorem Lx(xs:O Int)(g:6<=xs.length)(a:Int)(h0:0<=a)(h1:a<=200):oA xs a/\(cj xs a).length=a.toNat/\∀n∈cj xs a,n.length<=12:=by
 have e:=mZ (Ap xs 0) (m:=6) ();have st:∀b:AJ,b.length<=5->nC xs a LT b/\(jJ xs a LT b).length=a.toNat/\∀n∈jJ xs a LT b,n.length<=12:=λb hs=>by
  have:=mY (P:=λf k=>U (jH xs LT b (Ap xs 1%((b.length:Int)+1)) f k)) (step:=λf k=>dB xs LT b (Ap xs 1%((b.length:Int)+1)) f k) (λk s=>s.length=k/\∀n∈s,n.length<=12) a.toNat [] ⟨rfl,λn h=>(by cases h)⟩ λk s hk h=>Od xs g b hs _ k s () h;exact⟨⟨⟨B4 () (),by omega⟩,Cm h0 (),this.1⟩,this.2⟩
 have c1:∀x∈((rng 0 (Ap xs 0%6).toNat).map λc:Int=>ch LT (Ap xs c / 40%26)),x.length=1:=λx hx=>by
  obtain⟨k,_,rfl⟩:=ag.mp hx;exact vM _ _
 have:=st (Txt.join "" ((rng 0 (Ap xs 0%6).toNat).map λc:Int=>ch LT (Ap xs c / 40%26))) (by
  have:=NR _ 1 λx hx=>Nat.le_of_eq (c1 x hx);rw[zk,jC]at this;omega)
 refine⟨⟨⟨⟨⟨⟨B4 () (),Cm e.1 ()⟩,by rw[jC];omega⟩,λk hk=>?_⟩,?_⟩,this.1⟩,this.2⟩
 ·obtain⟨j,i,rfl⟩:=Ql hk;exact⟨B4 () (),sE () (by rw[show("abcdefghijklmnopqrstuvwxyz":AJ)=LT from rfl,Oc];decide)⟩
 ·rw[show("abcdefghijklmnopqrstuvwxyz":AJ)=LT from rfl,KI _ c1,zk,jC];have d:("":AJ).length=0:=rfl;rw[d];omega
def D5(xs:O Int)(a:AJ)(at_:Int)(k:Int):AJ:=if(decide (((Ap xs 3)%3)=1))=true then(Txt.mul (ch LT (k / (8:Int))) (1+(k%8)))else(((Txt.slice a Z (U at_))++(ch LT ((k+(Ap xs 2))%15)))++(Txt.slice a (U at_) Z))
theorem Dw{α β:Type}(g:β->α):∀(l:O β) (f:O α),l.foldl (λf k=>f++[g k]) f=f++l.map g
 |[],f=>by simp
 |k::l,f=>by rw[JY,Dw g l];simp
theorem Ly(xs:O Int)(a:Int):∃b at_,cj xs a=(rng 0 a.toNat).map (D5 xs b at_):=by
 refine⟨_,_,(Dw (D5 xs _ _) _ []).trans (ko _)⟩
theorem Oe{a b m c:AJ}(h:(a++m)++b=(a++c)++b):m=c:=by
 have h:=congrArg (λs:AJ=>s.cps.toList) h;have h:((a.cps++m.cps)++b.cps).toList=((a.cps++c.cps)++b.cps).toList:=h;simp only[km]at h;have:=List.append_cancel_left (List.append_cancel_right h);cases m;cases c;congr 1;exact Array.ext' this
theorem IU:∀i:Fin 30,∀j:Fin 30,Txt.mul (ch LT ((i.val:Int) / 8)) (1+(i.val:Int)%8)=Txt.mul (ch LT ((j.val:Int) / 8)) (1+(j.val:Int)%8)->i=j:=by decide +kernel
theorem OH:∀i:Fin 15,∀j:Fin 15,ch LT (i.val:Int)=ch LT (j.val:Int)->i=j:=by decide +kernel
theorem N9{x y:Int}(hx:0<=x/\x<15)(a:0<=y/\y<15)(h:ch LT x=ch LT y):x=y:=by
 have:=OH ⟨x.toNat,by omega⟩ ⟨y.toNat,by omega⟩ (by
  show ch LT ((x.toNat:Nat):Int)=ch LT ((y.toNat:Nat):Int);rw[br hx.1,br a.1];exact h)
 have:=congrArg Fin.val this;have:x.toNat=y.toNat:=this;omega
theorem MA{xs:O Int}{a:AJ}{at_:Int}(hi:i<15)(b:j<15)(h:D5 xs a at_ i=D5 xs a at_ j):i=j:=by
 unfold D5 at h;by_cases e:(decide (((Ap xs 3)%3)=1))=true
 ·rw[zo e,zo e]at h;exact congrArg Fin.val (IU ⟨i,by omega⟩ ⟨j,by omega⟩ h)
 ·rw[zC e,zC e]at h;have:=N9 (mZ _ ()) (mZ _ ()) (Oe h);omega
theorem M7{g:Int->AJ}(h:∀i j:Nat,i<n->j<n->g i=g j->i=j):((rng 0 n).map g).Nodup:=by
 unfold rng;rw[ja];unfold List.Nodup;rw[ca];refine List.Pairwise.imp_of_mem ?_ (List.nodup_range (n:=n));intro a b d c f e;refine f (h a b (aS.mp d) (aS.mp c) ?_);have e:g (0+(a:Int))=g (0+(b:Int)):=e;rwa [cq,cq]at e
theorem V7(xs:O Int)(a:Int)(h:a<=15):(cj xs a).Nodup:=by
 obtain⟨c,at_,e⟩:=Ly xs a;rw[e];exact M7 λi j hi b=>MA () ()
open S1 S6
def jN:AZ:=["first","last","most","longest","least","greatest"]
theorem GS:bH.lookup ("first":AJ)=U (mq,λv=>U (mz v)):=by kernel_rfl
theorem GU:bH.lookup ("last":AJ)=U (oH,λv=>U (oJ v)):=by kernel_rfl
theorem GO:bH.lookup ("most":AJ)=U (oF,λv=>U (oG v)):=by kernel_rfl
theorem G':bH.lookup ("longest":AJ)=U (jK,λv=>U (jL v)):=by kernel_rfl
theorem G0:bH.lookup ("least":AJ)=U (lZ,λv=>U (mj v)):=by kernel_rfl
theorem GE:bH.lookup ("greatest":AJ)=U (iR,λv=>U (iT v)):=by kernel_rfl
theorem NG{h:AJ}(b:h∈jN)(a:ws≠[]):Ry bH h ws:=by
 have c:0<ws.length:=ai.mpr a;unfold Ry;simp only[jN,jb,Qr,or_false]at b;rcases b with rfl|rfl|rfl|rfl|rfl|rfl
 ·rw[GS];exact B4 () ()
 ·rw[GU];exact⟨by omega,by omega⟩
 ·rw[GO];exact⟨a,λ_ _=>trivial⟩
 ·rw[G'];exact⟨a,λ_ _=>trivial⟩
 ·rw[G0];exact a
 ·rw[GE];exact a
def Qs(rs:O bT)(f u:AJ):AZ:=(rs.filter λr=>decide (fw r.2 f=U u)).map (·.1)
def Qt(rs:O bT)(q:AJ×AJ):AJ×AJ×AZ:=(q.1,g8 bH q.2 (zx rs q.1),Qs rs q.1 (g8 bH q.2 (zx rs q.1)))
theorem Ao(rs:O bT)(q:AJ×AJ)(a:rs.length<=100000)(hq:q.2∈jN)(b:zx rs q.1≠[]):uD rs q.1 q.2/\pR rs q.1 q.2=Qt rs q:=by
 obtain⟨h1,h2⟩:=zU rs q.1 a;refine⟨⟨⟨h1,by rw[h2];exact NG hq b⟩,a,λr _=>(pU r q.1).1⟩,?_⟩;unfold pR Qt Qs;rw[h2];dsimp only;congr 3;exact Kj λr _=>by rw[(pU r q.1).2]
def Qu(rs:O bT)(vo:O (AJ×AJ)):O (AJ×AJ×AZ):=(vo.filter λq=>!(zx rs q.1).isEmpty).map (Qt rs)
theorem Jm(B:O bT)(vo:O (AJ×AJ))(N:AZ)(hN:∀n∈N,n∈B.map (·.1))(h1:N.length<=100000)(h2:vo.length<=100000)(g:∀q∈vo,q.2∈jN):fM B vo N/\bG B vo N=Qu (N.map (fH B)) vo:=by
 have e:(N.map λn=>nD B n)=N.map (fH B):=qA λn c=>(GZ B n (hN n c)).2;have b:(N.map (fH B)).length<=100000:=by rw[zk];exact h1
 have a:=λf=>zU (N.map (fH B)) f b;have d:∀q:AJ×AJ,(!(zx (N.map (fH B)) q.1).isEmpty)=true->zx (N.map (fH B)) q.1≠[]:=λq h z=>by rw[z]at h;cases h
 refine⟨⟨⟨h1,λn c=>(GZ B n (hN n c)).1⟩,?_⟩,?_⟩
 ·dsimp only;rw[e];refine⟨h2,λq hq=>⟨(a q.1).1,λz=>?_⟩⟩;rw[(a q.1).2]at z;exact(Ao _ q b (g q hq) (d q z)).1
 ·unfold bG Qu;dsimp only;rw[e];have k:(vo.filter λq1:AJ×AJ=>!(dZ (N.map (fH B)) q1.1).isEmpty)=vo.filter λq=>!(zx (N.map (fH B)) q.1).isEmpty:=Kj λq _=>by rw[(a q.1).2]
  rw[k];refine qA λq hq=>?_;obtain⟨i,j⟩:=al.mp hq;exact(Ao _ q b (g q i) (d q j)).2
open S1 S6
abbrev Fd(r:bT):Prop:=(r.2.map (·.1)).Nodup/\r.2.length<=8
structure Bk (B:List bT):Prop where
 nd:(B.map (·.1)).Nodup
 ln:B.length<=40
 fd:∀r∈B,Fd r
theorem YL:("ab1":AJ).length=3:=by decide +kernel
theorem MX(x:Int)(k:Nat)(s:AJ)(hk:k<4)(h:s.length=k):kW x s k/\(iI x s k).length=k+1:=by
 have hi:In [(1:Int),(3:Int),(9:Int),(27:Int)].length (k:Int):=B4 () (by show(k:Int)<4;omega);have hp:(0<(Ap [(1:Int),(3:Int),(9:Int),(27:Int)] (k:Int))/\(Ap [(1:Int),(3:Int),(9:Int),(27:Int)] (k:Int))<1073741824):=by
  have:=qj hi;simp only[jb,Qr,or_false]at this;rcases this with e|e|e|e<;>rw[e]<;>decide
 refine⟨⟨⟨⟨hi,hp⟩,sE () (by rw[YL];decide)⟩,jM (by rw[vM];omega)⟩,?_⟩;show(s++ch _ _).length=k+1;rw[nW,vM,h]
theorem NX(x:Int):qL x:=by
 have a:=mZ (x / 4) (m:=4) ();have lp:=mY (P:=λf k=>U (kW x f k)) (step:=λf k=>iI x f k) (λk (s:AJ)=>s.length=k) (1+x / 4%4).toNat ("":AJ) S λk s hk h=>MX x k s () h;exact⟨λ_=>sE () (),λ_=>⟨Cm () (),lp.1⟩⟩
def FL:AZ:=[("day":AJ),("name":AJ),(("name":AJ)++("s":AJ)),("p":AJ)]
theorem LO:FL.Nodup:=by unfold FL;decide +kernel
theorem IP(xs:O Int)(d:xs.length=4)(k:Nat)(ws:O (AJ×AJ))(hk:k<4)(h:(ws.map (·.1)).Sublist (FL.take k)):lY xs FL ws k/\((gQ xs FL ws k).map (·.1)).Sublist (FL.take (k+1)):=by
 have a:=h.length_le;rw[zk,kK]at a;have e:FL.length=4:=rfl;have hi:In xs.length (k:Int):=B4 () ();have b:In FL.length (k:Int):=B4 () ();have c:Ap FL (k:Int)=FL[k]'():=yF _ _ _;refine⟨⟨hi,λ_=>⟨⟨b,hi,NX _⟩,jM ()⟩⟩,?_⟩;unfold gQ;dsimp only;rw[kF ()];split
 ·rw[ZT,c];exact h.append (List.Sublist.refl _)
 ·exact h.trans (List.sublist_append_left _ _)
theorem He(n:AJ)(xs:O Int)(c:xs.length=4):pQ n xs/\(kE n xs).1=n/\Fd (kE n xs):=by
 have lp:=mY (P:=λf k=>U (lY xs FL f k)) (step:=λf k=>gQ xs FL f k) (λk (ws:O (AJ×AJ))=>(ws.map λq:AJ×AJ=>q.1).Sublist (FL.take k)) (kN 4) [] (List.nil_sublist _) λk s hk h=>IP xs c k s (by rw[show kN 4=4 from ZF 4]at hk;exact hk) h;have h2:((kE n xs).2.map (·.1)).Sublist (FL.take (kN 4)):=lp.2;have a:=h2.trans (dr _ _);have b:=a.length_le;rw[zk]at b;exact⟨⟨jM (by decide +kernel),lp.1⟩,rfl,LO.sublist a,zS b ()⟩
theorem Mm{xs:AZ}(nd:xs.Nodup){i j:Int}(hi:0<=i/\i<xs.length)(a:0<=j/\j<xs.length)(h:Ap xs i=Ap xs j):i=j:=by
 rw[show i=((i.toNat:Nat):Int) by omega,show j=((j.toNat:Nat):Int) by omega,yF _ _ (),yF _ _ ()]at h;have:=(ce nd).mp h;omega
theorem YM(a:O Int)(m:Int)(h0:1<=m)(h1:m<=14)(y:a.length<=63):qM a m/\Bk (cg a m)/\1<=(cg a m).length/\(cg a m).length<=14:=by
 have q:=Du (bh a 0) 9 () ();obtain⟨u,g,t⟩:=q;have g:(aR (bh a 0) 9).length=9:=g;generalize e3:aR (bh a 0) 9=hd at *
 obtain⟨q1,q2,q3⟩:=Lx hd () 15 () ();have o:=V7 hd 15 ();have q2:(cj hd 15).length=15:=q2;generalize l:cj hd 15=na at *
 have n:In [(1:Int),(2:Int),(5:Int),(8:Int),m,m].length (Ap hd 6%6):=sE () (dy 6);have v:1<=Ap [(1:Int),(2:Int),(5:Int),(8:Int),m,m] (Ap hd 6%6)/\Ap [(1:Int),(2:Int),(5:Int),(8:Int),m,m] (Ap hd 6%6)<=14:=by
  have:=qj n;simp only[jb,Qr,or_false]at this;rcases this with e|e|e|e|e|e<;>rw[e]<;>omega
 generalize d:Ap [(1:Int),(2:Int),(5:Int),(8:Int),m,m] (Ap hd 6%6)=mn at *
 have x:0<=Ap hd 7:=t _ (qj (B4 () ()))
 let nm:=λk:Int=>Ap na ((4*k+Ap hd 7)%15)
 let b:=λk:Int=>kE (nm k) (aR (bh a (1+k)) 4)
 have c:∀k:Int,pQ (nm k) (aR (bh a (1+k)) 4)/\(b k).1=nm k/\Fd (b k):=λk=>He _ _ (Du (bh a (1+k)) 4 () ()).2.1;have lp:=mY (P:=λf k=>U (oR a hd na f k)) (step:=λf k=>fK a hd na f k) (λk (s:O bT)=>s=(rng 0 k).map b) mn.toNat [] S λk s hk h=>by
  refine⟨⟨⟨⟨⟨B4 () (),sE () (by rw[q2];decide)⟩,Oa a _ () (),(Du _ 4 () ()).1⟩,(c k).1⟩,jM (by rw[h,zk,jC];omega)⟩,?_⟩;show s++[b k]=_;rw[h];unfold rng;rw[List.range_succ,ZT,ZT];simp
 have eB:cg a m=(rng 0 mn.toNat).map b:=by
  unfold cg;dsimp only;rw[e3];unfold oV;dsimp only;rw[l];unfold oU;dsimp only;rw[d];exact lp.2
 refine⟨⟨⟨Oa a 0 () (),u⟩,?_⟩,?_,?_,?_⟩
 ·dsimp only;rw[e3];refine⟨q1,?_⟩;dsimp only;rw[l];refine⟨⟨B4 () (),n⟩,?_⟩;dsimp only;rw[d];exact⟨Cm () (),lp.1⟩
 ·rw[eB];refine⟨?_,by rw[zk,jC];omega,λr p=>?_⟩
  ·rw[ja];refine M7 λi j hi w h=>?_;have h:(b (i:Int)).1=(b (j:Int)).1:=h;rw[(c i).2.1,(c j).2.1]at h;have:=Mm o (by rw[q2];exact⟨by omega,by omega⟩) (by rw[q2];exact⟨by omega,by omega⟩) h;omega
  ·obtain⟨k,_,rfl⟩:=ag.mp p;exact(c k).2.2
 ·rw[eB,zk,jC];omega
 ·rw[eB,zk,jC];omega
theorem CF(xs:O Int)(g:8<=xs.length)(h0:∀x∈xs,0<=x)(k:Nat)(s:AZ×O (AJ×AJ))(hk:k<5)(h:s.1.length=5-k/\s.2.length=k/\∀q∈s.2,q.2∈jN):iJ xs jN s k/\(cP xs jN s k).1.length=5-(k+1)/\(cP xs jN s k).2.length=k+1/\∀q∈(cP xs jN s k).2,q.2∈jN:=by
 obtain⟨a,b,c⟩:=h;have hi:In [(1:Int),(5:Int),(20:Int),(60:Int),(120:Int)].length (k:Int):=B4 () (by show(k:Int)<5;omega);have hp:(0<(Ap [(1:Int),(5:Int),(20:Int),(60:Int),(120:Int)] (k:Int))/\(Ap [(1:Int),(5:Int),(20:Int),(60:Int),(120:Int)] (k:Int))<1073741824):=by
  have:=qj hi;simp only[jb,Qr,or_false]at this;rcases this with e|e|e|e|e<;>rw[e]<;>decide
 have f:=mZ ((Ap xs 1) / (Ap [(1:Int),(5:Int),(20:Int),(60:Int),(120:Int)] (k:Int))) (m:=(s.1.length:Int)) ();have d:In jN.length (Ap xs (2+k)%6):=sE () ();refine⟨⟨⟨⟨⟨⟨B4 () (),hi⟩,hp⟩,by omega⟩,f.1,f.2,by omega⟩,⟨B4 () (),d⟩,jM ()⟩,?_,?_,?_⟩
 ·show(s.1.eraseIdx _).length=_;rw[List.length_eraseIdx_of_lt ()];omega
 ·show(s.2++[_]).length=_;rw[ZA,b];rfl
 ·intro q hq;rcases af.mp hq with hq|hq
  ·exact c q hq
  ·rw[ah.mp hq];exact qj d
theorem R0(xs:O Int)(a:8<=xs.length)(h0:∀x∈xs,0<=x):qO xs/\(dY xs).length<=5/\∀q∈dY xs,q.2∈jN:=by
 have b:=mZ (Ap xs 0) (m:=6) ();have lp:=mY (P:=λf k=>U (iJ xs jN f k)) (step:=λf k=>cP xs jN f k) (λk (s:AZ×O (AJ×AJ))=>s.1.length=5-k/\s.2.length=k/\∀q∈s.2,q.2∈jN) (Ap xs 0%6).toNat ([("day":AJ),("name":AJ),("names":AJ),("p":AJ),("zzz":AJ)],[]) ⟨rfl,rfl,λq h=>by cases h⟩ λk s hk h=>CF xs a h0 k s () h;refine⟨⟨⟨B4 () (),Cm b.1 ()⟩,lp.1⟩,?_,lp.2.2.2⟩;have:=lp.2.2.1;have e:(dY xs).length=(Ap xs 0%6).toNat:=this;omega
theorem ND(a:AZ):(rng 0 a.length).map (Ap a)=a:=by
 apply List.ext_getElem
 ·rw[zk,jC]
 ·intro k h1 h2;rw[dP];have:=PN (JI (show k<(rng 0 a.length).length by rw[jC];exact h2));rw[this.1,cq,yF _ _ h2]
open S1 S6
theorem YQ{B L:O bT}(b:Bk B)(hs:N.Pairwise qT)(nd:N.Nodup)(sub:∀r∈L,r∈B)(pw:(L.map (·.1)).Pairwise qT)(d:(L.map (·.1)).Nodup)(a:∀x,x∈L.map (·.1)↔x∈N):L=N.map (fH B):=by
 have e1:L.map (·.1)=N:=Ie (Nm d nd a) pw hs;have e3:L.map (λr=>fH B r.1)=L:=by
  conv=>rhs;rw[<-List.map_id L]
  exact qA λr c=>uF b.nd (sub r c)
 rw[<-e3];have:=congrArg (List.map (fH B)) e1;rw[ja]at this;exact this
def pk(B:O bT)(N:AZ)(f:AJ):O (AJ×AJ):=N.filterMap λn=>(fw (fH B n).2 f).map λw=>(n,w)
def gY(P:O (AJ×AJ))(q:AJ×AJ):AJ×AJ×AZ:=(q.1,g8 bH q.2 (P.map (·.2)),(P.filter λz=>decide (z.2=g8 bH q.2 (P.map (·.2)))).map (·.1))
def nM(p:AJ->O (AJ×AJ))(vo:O (AJ×AJ)):O (AJ×AJ×AZ):=(vo.filter λq=>!(p q.1).isEmpty).map λq=>gY (p q.1) q
theorem ZV(B:O bT)(f:AJ):∀N:AZ,(pk B N f).map (·.2)=zx (N.map (fH B)) f
 |[]=>rfl
 |n::N=>by
  have a:=ZV B f N;unfold pk zx at *
  rw[zr,ZY,ZY];cases fw (fH B n).2 f with
  |none=>exact a
  |some w=>show _::_=_::_;rw[<-a]
theorem Qv(B:O bT)(f u:AJ):∀N:AZ,(∀n∈N,(fH B n).1=n)->((pk B N f).filter λz=>decide (z.2=u)).map (·.1)=Qs (N.map (fH B)) f u
 |[],_=>rfl
 |n::N,h=>by
  have a:=Qv B f u N λm c=>h m (zh _ c);have b:=h n (zg ..);unfold pk Qs at *
  rw[zr,ZY,qv];cases e:fw (fH B n).2 f with
  |none=>rw[zC (by simp)];exact a
  |some w=>
   show((_::_).filter _).map _=_;rw[qv];by_cases z:w=u
   ·subst z;rw[zo (by simp),zo (by simp),zr,zr,b,<-a]
   ·rw[zC (by simpa using z),zC (by simpa using z)];exact a
theorem Jo{B:O bT}(h:∀n∈N,(fH B n).1=n)(vo:O (AJ×AJ)):Qu (N.map (fH B)) vo=nM (pk B N) vo:=by
 have e:∀f,zx (N.map (fH B)) f=(pk B N f).map (·.2):=λf=>(ZV B f N).symm;unfold Qu nM;have a:(vo.filter λq=>!(zx (N.map (fH B)) q.1).isEmpty)=vo.filter λq=>!(pk B N q.1).isEmpty:=Kj λq _=>by
  rw[e,dL]
 rw[a];refine qA λq _=>?_;unfold Qt gY;rw[e,<-Qv B q.1 _ N h]
theorem pX{B:O bT}{n:AJ}(h:n∈B.map (·.1)):(fH B n).1=n/\fH B n∈B:=by
 unfold fH;cases e:B.find? λr=>decide (r.1=n)with
 |none=>
  obtain⟨r,a,q⟩:=ag.mp h;exact absurd (bz.mp e r a) (by simp[q])
 |some r=>exact⟨Ki (List.find?_some (p:=λr:bT=>decide (r.1=n)) e),List.mem_of_find?_eq_some e⟩
theorem Jp{B:O bT}{f:AJ}{z:AJ×AJ}(h:z∈pk B N f):z.1∈N:=by
 unfold pk at h;obtain⟨n,a,e⟩:=aE.mp h;obtain⟨w,_,rfl⟩:=aw.mp e;exact a
theorem mH{B:O bT}{f:AJ}:∀{N:AZ},N.Pairwise qT->N.Nodup->(pk B N f).Pairwise λa b=>jA a.1 b.1=true
 |[],_,_=>.nil
 |n::N,hs,nd=>by
  rw[am]at hs;rw[k5]at nd;have c:=mH (B:=B) (f:=f) hs.2 nd.2;unfold pk at *
  rw[ZY];cases e:fw (fH B n).2 f with
  |none=>exact c
  |some w=>
   refine am.mpr ⟨λz d=>?_,c⟩;have:=Jp (B:=B) (N:=N) (f:=f) d;exact(BG _ _).mpr ⟨hs.1 _ this,λq=>nd.1 (by have q:n=z.1:=q;rw[q];exact this)⟩
theorem Dy{P c:O (AJ×AJ)}(h:P.Perm c)(h1:P.Pairwise λa b=>jA a.1 b.1=true)(h2:c.Pairwise λa b=>jA a.1 b.1=true):P=c:=
 rY (le:=λa b:AJ×AJ=>jA a.1 b.1=true) (λa b h h'=>by rw[Dv _ _ h]at h';cases h') h h1 h2
theorem IL(B:O bT)(N:AZ)(f:AJ):(pk B N f).length<=N.length:=List.length_filterMap_le ..
theorem Jq{b:AJ->AJ->Bool}:∀(r:AZ) (y:AJ),jE b y r∈y::r
 |[],y=>zg ..
 |z::r,y=>by
  unfold jE;split
  ·exact zh _ (Jq r z)
  ·rcases List.mem_cons.mp (Jq (b:=b) r y)with e|e
   ·rw[e];exact zg ..
   ·exact zh _ (zh _ e)
theorem cL{b:AJ->AJ->Bool}(h:ws≠[]):An b ws∈ws:=by
 cases ws with
 |nil=>exact absurd S h
 |cons y r=>exact Jq r y
theorem BV(h:ws≠[]):∀x∈ws,qT (An GC ws) x:=by
 cases ws with
 |nil=>exact absurd S h
 |cons y r=>exact λx hx=>nJ.mp ((pW (b:=GC) Dv Ob Jl r y).2 x hx)
theorem tU(h:ws≠[]):∀x∈ws,qT x (An Iz ws):=by
 cases ws with
 |nil=>exact absurd S h
 |cons y r=>exact λx hx=>nJ.mp ((pW (b:=Iz) (λx z=>Dv z x) (λx y z h1 h2=>Ob z y x h2 h1) Jl r y).2 x hx)
abbrev bK:AJ->AJ->Bool:=λx z=>DO (mV eI eS (kL x)) (mV eI eS (kL z))
theorem Qw(p q:Int×AJ):Ei (mV eI eS) p q=false↔PK (mV eI eS) q p=true:=by unfold Ei PK o9;simp
theorem qP(h:ws≠[]):∀x∈ws,PK (mV eI eS) (kL (An bK ws)) (kL x)=true:=by
 cases ws with
 |nil=>exact absurd S h
 |cons y r=>
  have c:∀x y z:Int×AJ,Ei (mV eI eS) x y=false->Ei (mV eI eS) y z=false->Ei (mV eI eS) x z=false:=λx y z h1 h2=>by
   rw[Qw]at *
   exact qd _ _ _ h2 h1
  exact λx hx=>(Qw _ _).mp ((pW (b:=bK) (λx z q=>by
   have q:Ei (mV eI eS) (kL x) (kL z)=true:=q;exact(Qw _ _).mpr ((Qm _ _).mp q).1) (λx y z a b=>c _ _ _ a b) (λx=>mR _) r y).2 x hx)
theorem YS{a b:AJ}(h:PK (mV eI eS) (kL a) (kL b)=true):b.length<=a.length:=by
 have h:(!cV [.inl (-(b.length:Int)),.inr b] [.inl (-(a.length:Int)),.inr a])=true:=h;unfold cV at h;by_cases e:(Sum.inl (-(b.length:Int)):AY)=Sum.inl (-(a.length:Int))
 ·injection e with e;omega
 ·rw[zC e]at h;have h:(!decide (-(b.length:Int) < -(a.length:Int)))=true:=h;simp at h;omega
abbrev bC(ws:AZ):AJ->AJ->Bool:=λx z=>D3 (eI ((ws.count x:Nat):Int)) (eI ((ws.count z:Nat):Int))
theorem Qx(h:ws≠[]):∀x∈ws,ws.count x<=ws.count (An (bC ws) ws):=by
 have a:∀(f:AJ->Int) (y:AJ) (r:AZ),∀x∈y::r,f x<=f (jE (λx z=>D3 (eI (f x)) (eI (f z))) y r):=λf y r x hx=>by
  obtain⟨d,c,e,h1,h2⟩:=zy (f:=f) (b:=λx z=>D3 (eI (f x)) (eI (f z))) (λ_ _=>S) r y;rw[e]at hx;rcases af.mp hx with hx|hx
  ·exact Int.le_of_lt (h1 x hx)
  rcases List.mem_cons.mp hx with hx|hx
  ·rw[<-hx];exact dy _
  ·exact h2 x hx
 cases ws with
 |nil=>exact absurd S h
 |cons y r=>exact λx hx=>dl.mp (a (λu=>(((y::r).count u:Nat):Int)) y r x hx)
theorem FI(ws:AZ):g8 bH "first" ws=Ap ws 0:=by unfold g8;rw[GS];rfl
theorem G1(ws:AZ):g8 bH "last" ws=Ap ws (-1):=by unfold g8;rw[GU];rfl
theorem EZ(ws:AZ):g8 bH "most" ws=An (bC ws) ws:=by unfold g8;rw[GO];rfl
theorem ER(ws:AZ):g8 bH "longest" ws=An bK ws:=by unfold g8;rw[G'];rfl
theorem EW(ws:AZ):g8 bH "least" ws=An GC ws:=by unfold g8;rw[G0];rfl
theorem FD(ws:AZ):g8 bH "greatest" ws=An Iz ws:=by unfold g8;rw[GE];rfl
theorem V8{h:AJ}(b:h∈jN)(a:ws≠[]):g8 bH h ws∈ws:=by
 have c:0<ws.length:=ai.mpr a;simp only[jN,jb,Qr,or_false]at b;rcases b with rfl|rfl|rfl|rfl|rfl|rfl
 ·rw[FI];exact qj (B4 () ())
 ·rw[G1];exact qj ⟨by omega,by omega⟩
 ·rw[EZ];exact cL a
 ·rw[ER];exact cL a
 ·rw[EW];exact cL a
 ·rw[FD];exact cL a
def FV:AZ:=[("day":AJ),("name":AJ),("names":AJ),("p":AJ),("zzz":AJ)]
theorem Dz{α:Type}:∀(l:O α) (i:Nat) (h:i<l.length),(l[i]::l.eraseIdx i).Perm l
 |a::l,0,_=>List.Perm.refl _
 |a::l,i+1,h=>by
  have:=Dz l i (by simpa using h);exact(List.Perm.swap a _ _).trans (this.cons a)
theorem Lz(xs:O Int)(l:8<=xs.length)(h0:∀x∈xs,0<=x):((dY xs).map (·.1)).Nodup:=by
 have o:=mZ (Ap xs 0) (m:=6) ();have lp:=mY (P:=λf k=>U (iJ xs jN f k)) (step:=λf k=>cP xs jN f k) (λk (s:AZ×O (AJ×AJ))=>(s.1.length=5-k/\s.2.length=k/\∀q∈s.2,q.2∈jN)/\(s.1++s.2.map λq:AJ×AJ=>q.1).Perm FV) (Ap xs 0%6).toNat (FV,[]) ⟨⟨rfl,rfl,λq h=>by cases h⟩,by simp⟩ λk s hk h=>by
  obtain⟨d,a,b,c⟩:=CF xs l h0 k s () h.1;refine⟨d,⟨a,b,c⟩,?_⟩;have n:=mZ ((Ap xs 1) / (Ap [(1:Int),(5:Int),(20:Int),(60:Int),(120:Int)] (k:Int))) (m:=(s.1.length:Int)) (by have:=h.1.1;omega);show(s.1.eraseIdx (((Ap xs 1) / (Ap [(1:Int),(5:Int),(20:Int),(60:Int),(120:Int)] (k:Int)))%(s.1.length:Int)).toNat++((s.2++[(Ap s.1 (((Ap xs 1) / (Ap [(1:Int),(5:Int),(20:Int),(60:Int),(120:Int)] (k:Int)))%(s.1.length:Int)),_)]).map λq:AJ×AJ=>q.1)).Perm FV;generalize ((Ap xs 1) / (Ap [(1:Int),(5:Int),(20:Int),(60:Int),(120:Int)] (k:Int)))%(s.1.length:Int)=i at n;obtain⟨j,rfl⟩:∃j:Nat,i=(j:Int):=⟨i.toNat,by omega⟩;have g:j<s.1.length:=by omega
  rw[Kn,yF _ _ g,ZT];refine List.Perm.trans ?_ h.2;rw[<-Kk];refine(List.perm_append_comm).trans ?_;show(s.1[j]::(s.1.eraseIdx j++_)).Perm _;rw[<-kM];exact(Dz s.1 j g).append_right _
 have p:=lp.2.2;have e:(dY xs).map (·.1)=(((rng 0 (Ap xs 0%6).toNat).foldl (λf k=>cP xs jN f k) (FV,[])).2.map λq:AJ×AJ=>q.1):=rfl;rw[e];have nd:FV.Nodup:=by unfold FV;decide +kernel
 exact(ar.mp (p.nodup_iff.mpr nd)).2.1
open S1 S6
theorem Qy(ks:O Int)(n:Int)(h:∀x∈ks,x<=n)(h0:0<=n):wV ks<=n:=by
 cases ks with
 |nil=>exact h0
 |cons k ks=>
  have go:∀(ks:O Int) (k:Int),k<=n->(∀x∈ks,x<=n)->ks.foldl (λm x=>if m<x then x else m) k<=n:=by
   intro ks
   induction ks with
   |nil=>intro k hk _;exact hk
   |cons x ks b=>
    intro k hk hx;rw[JY];have:=hx x (zg ..);exact b _ (by split<;>omega) λz a=>hx z (zh _ a)
  exact go ks k (h k (zg ..)) λx hx=>h x (zh _ hx)
theorem R3{B:O bT}:((qX B).map (·.1)).Pairwise qT:=by
 rw[ca];refine(Cv _).imp λ{a c} h=>?_;have:cV [.inr c.1] [.inr a.1]=false:=by
  have h:(!cV [.inr c.1] [.inr a.1])=true:=h;simpa using h
 have:jA c.1 a.1=false:=by
  cases q:jA c.1 a.1 with
  |false=>rfl
  |true=>
   have b:(Sum.inr c.1:AY)≠Sum.inr a.1:=λz=>((BG _ _).mp q).2 (by injection z);unfold cV at this;rw[zC b]at this;have this:jA c.1 a.1=false:=this;rw[q]at this;cases this
 exact nJ.mp this
theorem V9(g:AJ->Y AJ):∀N:AZ,((N.map λn=>(n,g n)).filter λb:AJ×Y AJ=>b.2.isSome)=(N.filterMap λn=>(g n).map λw=>(n,w)).map λz=>(z.1,U z.2)
 |[]=>rfl
 |n::N=>by
  have a:=V9 g N;rw[zr,qv,ZY];cases e:g n with
  |none=>rw[zC (by simp)];exact a
  |some w=>
   rw[zo (by simp),a];rfl
theorem G3(u:AJ):∀P:O (AJ×AJ),(((P.map λz=>(z.1,U z.2)).filter λa:AJ×Y AJ=>decide (a.2=U u)).map λa:AJ×Y AJ=>a.1)=(P.filter λz=>decide (z.2=u)).map (·.1)
 |[]=>rfl
 |z::P=>by
  have b:=G3 u P;rw[zr,qv,qv];by_cases h:z.2=u
  ·rw[zo (by simp[h]),zo (by simp[h]),zr,zr,b]
  ·rw[zC (by simpa using h),zC (by simpa using h),b]
theorem vZ(P:O (AJ×AJ))(u:AJ):((P.filter λz=>decide (z.2=u)).map (·.1)).length=(P.map (·.2)).count u:=by
 rw[zk,List.count,List.countP_map,List.countP_eq_length_filter];refine congrArg av (Kj λz _=>?_);show decide (z.2=u)=(z.2==u);by_cases h:z.2=u
 ·simp[h]
 ·simp[h]
section
variable{B:O bT}(b:Bk B)(hs:N.Pairwise qT)(nd:N.Nodup)(hN:∀ n∈N,n∈B.map (·.1))
include b hs nd hN
theorem R4(f:AJ):mC B N f/\dN B N f=N.map λn=>(n,fw (fH B n).2 f):=by
 have bl:=b.ln;have p:=vP B;have sl:(qX B).length=B.length:=p.length_eq;refine⟨⟨⟨⟨by omega,b.nd⟩,by omega⟩,λq _ _=>(pU _ f).1⟩,?_⟩;have e:((qX B).filter λq1:bT=>decide (q1.1∈N))=N.map (fH B):=by
  refine YQ b hs nd (λr a=>p.mem_iff.mp (al.mp a).1) ((R3).sublist (ap.map _)) (((p.map _).nodup_iff.mpr b.nd).sublist (ap.map _)) λx=>⟨λh=>?_,λh=>?_⟩
  ·obtain⟨r,a,rfl⟩:=ag.mp h;exact Ki (al.mp a).2
  ·have:=pX (hN x h);refine ag.mpr ⟨fH B x,al.mpr ⟨p.mem_iff.mpr this.2,Zl (by rw[this.1];exact h)⟩,this.1⟩
 unfold dN;rw[e,ja];refine qA λn c=>?_;show((fH B n).1,fL _ f)=_;rw[(pU _ f).2,(pX (hN n c)).1]
theorem MW{q:AJ×AJ}(hq:q.2∈jN)(g:pk B N q.1≠[]):dh B N q.2 (gY (pk B N q.1) q)/\cu B N q.2 (gY (pk B N q.1) q)=true:=by
 obtain⟨f,h⟩:=q;obtain⟨o,t1⟩:=R4 b hs nd hN f;have H:N.length<=40:=by
  have:=fY nd hN;rw[zk]at this;exact zS this b.ln
 have l:((dN B N f).filter λc:AJ×Y AJ=>c.2.isSome).map (λc=>c)=(pk B N f).map λz=>(z.1,U z.2):=by
  rw[t1,V9,dm];rfl
 have G:=IL B N f;generalize F:pk B N f=P at *
 have j:((P.map λz=>(z.1,U z.2)).map λc:AJ×Y AJ=>c.2.getD default)=P.map (·.2):=by
  rw[ja];rfl
 have d:P.map (·.2)≠[]:=λz=>g (bu.mp z);have n:=V8 hq d;have D:0<P.length:=ai.mpr g;have E:(P.map (·.2)).length=P.length:=zk ..;have m:=vZ P (g8 bH h (P.map (·.2)));have er:=G3 (g8 bH h (P.map (·.2))) P;have s:0<((P.filter λz=>decide (z.2=g8 bH h (P.map (·.2)))).map (·.1)).length:=by
  rw[m];exact dq.mpr n
 have least:(decide (h=("least":AJ))&&jA (An GC (P.map (·.2))) (g8 bH h (P.map (·.2))))=false:=by
  by_cases e:h=("least":AJ)
  ·rw[e,EW,Jl,kB]
  ·rw[z4 e];rfl
 have v:(decide (h=("greatest":AJ))&&jA (g8 bH h (P.map (·.2))) (An Iz (P.map (·.2))))=false:=by
  by_cases e:h=("greatest":AJ)
  ·rw[e,FD,Jl,kB]
  ·rw[z4 e];rfl
 have t:(decide (h=("longest":AJ))&&decide (((g8 bH h (P.map (·.2))).length:Int)<wV ((P.map (·.2)).map λa:AJ=>(a.length:Int))))=false:=by
  by_cases e:h=("longest":AJ)
  ·have:=Qy ((P.map (·.2)).map λa:AJ=>(a.length:Int)) ((An bK (P.map (·.2))).length:Int) (λx hx=>by
    obtain⟨w,i,rfl⟩:=ag.mp hx;exact dl.mpr (YS (qP d w i))) ()
   rw[e,ER,z4 (p:=((An bK (P.map (·.2))).length:Int)<_) (),kB]
  ·rw[z4 e];rfl
 have C:(decide (h=("most":AJ))&&decide ((((P.filter λz=>decide (z.2=g8 bH h (P.map (·.2)))).map (·.1)).length:Int)<wV ((P.map (·.2)).map λa:AJ=>(((P.map (·.2)).count a:Nat):Int))))=false:=by
  rw[m];by_cases e:h=("most":AJ)
  ·have:=Qy ((P.map (·.2)).map λa:AJ=>(((P.map (·.2)).count a:Nat):Int)) (((P.map (·.2)).count (An (bC (P.map (·.2))) (P.map (·.2))):Nat):Int) (λx hx=>by
    obtain⟨w,i,rfl⟩:=ag.mp hx;exact dl.mpr (Qx d w i)) ()
   rw[e,EZ,z4 (p:=(((P.map (·.2)).count (An (bC (P.map (·.2))) (P.map (·.2))):Nat):Int)<_) (),kB]
  ·rw[z4 e];rfl
 have first:(!decide (h=("first":AJ))||decide (Ap ((P.filter λz=>decide (z.2=g8 bH h (P.map (·.2)))).map (·.1)) 0=(Ap (P.map λz=>(z.1,U z.2)) 0).1))=true:=by
  by_cases e:h=("first":AJ)
  ·rw[e,FI];cases P with
   |nil=>exact absurd S g
   |cons z P=>
    rw[show Ap ((z::P).map (·.2)) 0=z.2 from jW (k:=0) rfl,qv,zo (by simp)];have a1:Ap ((z::P.filter λy=>decide (y.2=z.2)).map (·.1)) 0=z.1:=jW (k:=0) rfl;have a2:Ap ((z::P).map λz=>(z.1,U z.2)) 0=(z.1,U z.2):=jW (k:=0) rfl;rw[a1,a2,Zl (p:=z.1=(z.1,U z.2).1) rfl,Bool.or_true]
  ·rw[z4 e];rfl
 unfold gY;dsimp only;generalize g8 bH h (P.map (·.2))=u at *
 constructor
 ·show eH B N h (f,u,(P.filter λz=>decide (z.2=u)).map (·.1)) f u ((P.filter λz=>decide (z.2=u)).map (·.1));unfold eH;rw[l];refine⟨⟨o,by rw[t1,zk];omega⟩,⟨⟨by rw[zk];omega,λz A=>?_⟩,?_⟩⟩
  ·obtain⟨y,_,rfl⟩:=ag.mp A;rfl
  ·dsimp only;rw[j];exact⟨λ_=>by rw[zk];omega,λ_=>⟨⟨λ_=>d,λ_ _=>d⟩,λ_=>⟨λ_=>⟨by omega,by rw[zk];omega⟩,λ_=>⟨λ_=>⟨by omega,by rw[zk];omega⟩,λ_ _=>⟨B4 () (Int.ofNat_lt.mpr s),B4 () (by rw[zk];omega)⟩⟩⟩⟩⟩
 ·show eG B N h (f,u,(P.filter λz=>decide (z.2=u)).map (·.1)) f u ((P.filter λz=>decide (z.2=u)).map (·.1))=true;unfold eG;rw[l];unfold iu;dsimp only;rw[j];unfold ig;rw[er,Zl n,Zl rfl,zC (),least,v,zC (),t,zC (),C,zC ()];exact first
end
open S1 S6
theorem Jr{a b c:AJ}(h1:qT a b)(h2:qT b c):qT a c:=nJ.mp (Ob _ _ _ (nJ.mpr h2) (nJ.mpr h1))
theorem Og{P:O (AJ×AJ)}(d:P≠[])(hs:P.Pairwise λa b=>jA a.1 b.1=true):∃z∈P,(∀y∈P,y=z\/jA z.1 y.1=true)/\Ap (P.map (·.2)) 0=z.2/\Ap ((P.filter λy=>decide (y.2=z.2)).map (·.1)) 0=z.1:=by
 cases P with
 |nil=>exact absurd S d
 |cons z P=>
  rw[am]at hs;refine⟨z,zg ..,λy c=>?_,jW (k:=0) rfl,?_⟩
  ·rcases List.mem_cons.mp c with e|e
   ·exact .inl e
   ·exact .inr (hs.1 y e)
  ·rw[qv,zo (by simp)];exact jW (k:=0) rfl
theorem Oh{P:O (AJ×AJ)}(c:P≠[])(hs:P.Pairwise λa b=>jA a.1 b.1=true):∃z∈P,(∀y∈P,y=z\/jA y.1 z.1=true)/\Ap (P.map (·.2)) (-1)=z.2/\Ap ((P.filter λy=>decide (y.2=z.2)).map (·.1)) (-1)=z.1:=by
 have e:=List.dropLast_concat_getLast c;generalize P.getLast c=z at e;generalize P.dropLast=Q at e;subst e;rw[List.pairwise_append]at hs;refine⟨z,by simp,λy d=>?_,?_,?_⟩
 ·rcases af.mp d with h|h
  ·exact .inr (hs.2.2 y h z (by simp))
  ·exact .inl (ah.mp h)
 ·rw[CH (by simp),Qq (by simp)];simp
 ·rw[List.filter_append,qv,zo (by simp),ZT];rw[CH (by simp),Qq (by simp)];simp
theorem DG(B:O bT)(N:AZ)(q:AJ×AJ):nM (pk B N) [q]=if pk B N q.1=[]then[]else[gY (pk B N q.1) q]:=by
 unfold nM;rw[qv];by_cases h:pk B N q.1=[]
 ·rw[zo h,h,zC ()];rfl
 ·rw[zC h,zo (by
   cases e:pk B N q.1 with
   |nil=>exact absurd e h
   |cons _ _=>rfl)]
  rfl
theorem Wa{z y:AJ×AJ}(h:z.1≠y.1):Ei (mV eS eS) z y=jA z.1 y.1:=by
 show cV [.inr z.1,.inr z.2] [.inr y.1,.inr y.2]=_;unfold cV;rw[zC (λe=>h (by injection e))];rfl
section
variable{P1 P2 P3:O (AJ×AJ)}(s1:P1.Pairwise λa b=>jA a.1 b.1=true)(s2:P2.Pairwise λa b=>jA a.1 b.1=true)(s3:P3.Pairwise λa b=>jA a.1 b.1=true)(hp:P3.Perm (P1++P2))(hd:∀ z∈P1,∀ y∈P2,z.1≠y.1)(h1:P1≠[])(h2:P2≠[])
include s1 s2 s3 hp hd h1 h2
theorem YT:(if Ei (mV eS eS) (Ap ((P2.filter λz=>decide (z.2=Ap (P2.map (·.2)) 0)).map (·.1)) 0,Ap (P2.map (·.2)) 0) (Ap ((P1.filter λz=>decide (z.2=Ap (P1.map (·.2)) 0)).map (·.1)) 0,Ap (P1.map (·.2)) 0)=true then(Ap ((P2.filter λz=>decide (z.2=Ap (P2.map (·.2)) 0)).map (·.1)) 0,Ap (P2.map (·.2)) 0)else(Ap ((P1.filter λz=>decide (z.2=Ap (P1.map (·.2)) 0)).map (·.1)) 0,Ap (P1.map (·.2)) 0)).2=Ap (P3.map (·.2)) 0:=by
 obtain⟨z1,c,h,e1,l⟩:=Og h1 s1;obtain⟨z2,b,i,e2,g⟩:=Og h2 s2;have f:P3≠[]:=λe=>by rw[e]at hp;have:=hp.length_eq;rw[ZA]at this;have:=ai.mpr h1;simp at *;omega
 obtain⟨z3,k,d,e3,n⟩:=Og f s3;rw[e1,e2,e3,l,g];have a:=hd z1 c z2 b;have a1:=d z1 (hp.mem_iff.mpr (qo _ c));have a2:=d z2 (hp.mem_iff.mpr (zz _ b));have as:=Dv;have j:Ei (mV eS eS) (z2.1,z2.2) (z1.1,z1.2)=jA z2.1 z1.1:=Wa (j0 a);rw[j];rcases af.mp (hp.mem_iff.mp k)with m|m
 ·have:z3=z1:=by
   rcases h z3 m with e|e
   ·exact e
   ·rcases a1 with q|q
    ·exact q.symm
    ·rw[as _ _ e]at q;cases q
  subst this;have:jA z2.1 z3.1=false:=by
   rcases a2 with q|q
   ·rw[q]at a;exact absurd S a
   ·exact as _ _ q
  rw[this,zC ()]
 ·have:z3=z2:=by
   rcases i z3 m with e|e
   ·exact e
   ·rcases a2 with q|q
    ·exact q.symm
    ·rw[as _ _ e]at q;cases q
  subst this;have:jA z3.1 z1.1=true:=by
   rcases a1 with q|q
   ·rw[q]at a;exact absurd S a
   ·exact q
  rw[this,zo rfl]
theorem IQ:(if Ei (mV eS eS) (Ap ((P1.filter λz=>decide (z.2=Ap (P1.map (·.2)) (-1))).map (·.1)) (-1),Ap (P1.map (·.2)) (-1)) (Ap ((P2.filter λz=>decide (z.2=Ap (P2.map (·.2)) (-1))).map (·.1)) (-1),Ap (P2.map (·.2)) (-1))=true then(Ap ((P2.filter λz=>decide (z.2=Ap (P2.map (·.2)) (-1))).map (·.1)) (-1),Ap (P2.map (·.2)) (-1))else(Ap ((P1.filter λz=>decide (z.2=Ap (P1.map (·.2)) (-1))).map (·.1)) (-1),Ap (P1.map (·.2)) (-1))).2=Ap (P3.map (·.2)) (-1):=by
 obtain⟨z1,c,h,e1,l⟩:=Oh h1 s1;obtain⟨z2,b,i,e2,g⟩:=Oh h2 s2;have f:P3≠[]:=λe=>by rw[e]at hp;have:=hp.length_eq;rw[ZA]at this;have:=ai.mpr h1;simp at *;omega
 obtain⟨z3,k,d,e3,n⟩:=Oh f s3;rw[e1,e2,e3,l,g];have a:=hd z1 c z2 b;have a1:=d z1 (hp.mem_iff.mpr (qo _ c));have a2:=d z2 (hp.mem_iff.mpr (zz _ b));have as:=Dv;have j:Ei (mV eS eS) (z1.1,z1.2) (z2.1,z2.2)=jA z1.1 z2.1:=Wa a;rw[j];rcases af.mp (hp.mem_iff.mp k)with m|m
 ·have:z3=z1:=by
   rcases h z3 m with e|e
   ·exact e
   ·rcases a1 with q|q
    ·exact q.symm
    ·rw[as _ _ e]at q;cases q
  subst this;have:jA z3.1 z2.1=false:=by
   rcases a2 with q|q
   ·rw[q]at a;exact absurd S a
   ·exact as _ _ q
  rw[this,zC ()]
 ·have:z3=z2:=by
   rcases i z3 m with e|e
   ·exact e
   ·rcases a2 with q|q
    ·exact q.symm
    ·rw[as _ _ e]at q;cases q
  subst this;have:jA z1.1 z3.1=true:=by
   rcases a1 with q|q
   ·rw[q]at a;exact absurd S a
   ·exact q
  rw[this,zo rfl]
end
section
variable{W1 W2 W3:AZ}(hp:W3.Perm (W1++W2))(h1:W1≠[])(h2:W2≠[])
include hp h1 h2
theorem C5:W3≠[]:=λe=>by
 rw[e]at hp;have:=hp.length_eq;rw[ZA]at this;have:=ai.mpr h1;simp at *
 omega
theorem YW:An GC W3=if jA (An GC W2) (An GC W1)=true then An GC W2 else An GC W1:=by
 have d:=C5 hp h1 h2;have i1:=cL (b:=GC) h1;have i2:=cL (b:=GC) h2;have g:=cL (b:=GC) d;have e:=BV h1;have f:=BV h2;have k:=BV d;generalize An GC W1=a at *
 generalize An GC W2=b at *
 generalize An GC W3=c at *
 have j:=k a (hp.mem_iff.mpr (qo _ i1));have i:=k b (hp.mem_iff.mpr (zz _ i2));split
 ·rename_i h;have n:=((BG _ _).mp h).1;rcases af.mp (hp.mem_iff.mp g)with m|m
  ·exact fG i (Jr n (e c m))
  ·exact fG i (f c m)
 ·rename_i h;have l:qT a b:=nJ.mp (by simpa using h);rcases af.mp (hp.mem_iff.mp g)with m|m
  ·exact fG j (e c m)
  ·exact fG j (Jr l (f c m))
theorem Oi:An Iz W3=if jA (An Iz W1) (An Iz W2)=true then An Iz W2 else An Iz W1:=by
 have d:=C5 hp h1 h2;have i1:=cL (b:=Iz) h1;have i2:=cL (b:=Iz) h2;have g:=cL (b:=Iz) d;have e:=tU h1;have f:=tU h2;have k:=tU d;generalize An Iz W1=a at *
 generalize An Iz W2=b at *
 generalize An Iz W3=c at *
 have j:=k a (hp.mem_iff.mpr (qo _ i1));have i:=k b (hp.mem_iff.mpr (zz _ i2));split
 ·rename_i h;have l:=((BG _ _).mp h).1;rcases af.mp (hp.mem_iff.mp g)with m|m
  ·exact fG (Jr (e c m) l) i
  ·exact fG (f c m) i
 ·rename_i h;have n:qT b a:=nJ.mp (by simpa using h);rcases af.mp (hp.mem_iff.mp g)with m|m
  ·exact fG (e c m) j
  ·exact fG (Jr (f c m) n) j
theorem R5:An bK W3=(if Ei (mV eI eS) ((0:Int)-((An bK W2).length:Int),An bK W2) ((0:Int)-((An bK W1).length:Int),An bK W1)=true then((0:Int)-((An bK W2).length:Int),An bK W2)else((0:Int)-((An bK W1).length:Int),An bK W1)).2:=by
 have e:=C5 hp h1 h2;have i1:=cL (b:=bK) h1;have i2:=cL (b:=bK) h2;have i:=cL (b:=bK) e;have f:=qP h1;have g:=qP h2;have l:=qP e;have k:∀u:AJ,((0:Int)-(u.length:Int),u)=kL u:=λu=>by rw[Int.zero_sub]
 rw[k,k];generalize An bK W1=a at *
 generalize An bK W2=b at *
 generalize An bK W3=c at *
 have n:=l a (hp.mem_iff.mpr (qo _ i1));have j:=l b (hp.mem_iff.mpr (zz _ i2));have tr:∀{x y z:Int×AJ},PK (mV eI eS) x y=true->PK (mV eI eS) y z=true->PK (mV eI eS) x z=true:=λh h'=>qd _ _ _ h h';have d:∀{x y:AJ},PK (mV eI eS) (kL x) (kL y)=true->PK (mV eI eS) (kL y) (kL x)=true->x=y:=λh h'=>congrArg Prod.snd (Vd h h');split
 ·rename_i h;have p:=((Qm _ _).mp h).1;rcases af.mp (hp.mem_iff.mp i)with m|m
  ·exact d j (tr p (f c m))
  ·exact d j (g c m)
 ·rename_i h;have o:PK (mV eI eS) (kL a) (kL b)=true:=(Qw _ _).mp (by simpa using h);rcases af.mp (hp.mem_iff.mp i)with m|m
  ·exact d n (f c m)
  ·exact d n (tr o (g c m))
theorem IN:W1.count (An (bC W1) W1)<=W3.count (An (bC W3) W3)/\W2.count (An (bC W2) W2)<=W3.count (An (bC W3) W3):=by
 have a:=C5 hp h1 h2;have i1:=cL (b:=bC W1) h1;have i2:=cL (b:=bC W2) h2;have g:=Qx a;have c:∀u,W3.count u=W1.count u+W2.count u:=λu=>by rw[hp.count_eq,List.count_append]
 have g1:=g _ (hp.mem_iff.mpr (qo _ i1));have g2:=g _ (hp.mem_iff.mpr (zz _ i2));rw[c]at g1 g2;omega
end
open S1 S6
theorem YX{h f:AJ}(n:h∈jN){P1 P2 P3:O (AJ×AJ)}(s1:P1.Pairwise λa b=>jA a.1 b.1=true)(s2:P2.Pairwise λa b=>jA a.1 b.1=true)(s3:P3.Pairwise λa b=>jA a.1 b.1=true)(hp:P3.Perm (P1++P2))(hd:∀z∈P1,∀y∈P2,z.1≠y.1){d g i:O (AJ×AJ×AZ)}
  (e1:d=if P1=[]then[]else[gY P1 (f,h)]) (e2:g=if P2=[]then[]else[gY P2 (f,h)]) (e3:i=if P3=[]then[]else[gY P3 (f,h)]):fj h d g i/\eZ h d g i=true:=by
 have len:∀{P:O (AJ×AJ)} {V:O (AJ×AJ×AZ)},V=(if P=[]then[]else[gY P (f,h)])->V.length<=1:=λ{P V} e=>by
  rw[e];split
  ·exact qi _
  ·exact zl _
 have x:=len e1;have A:=len e2;unfold fj eZ;by_cases h1:P1=[]
 ·rw[zo h1]at e1;have:P3=P2:=Dy (by rw[h1]at hp;exact hp) s3 s2;rw[this]at e3;have c:(decide (d=([]:O cI))||decide (g=([]:O cI)))=true:=by rw[Zl e1];rfl
  rw[c,zo rfl];exact⟨⟨λ_=>jM (),λz=>(by cases z)⟩,Zl (by rw[e1,e3,<-e2];rfl)⟩
 by_cases h2:P2=[]
 ·rw[zo h2]at e2;have:P3=P1:=Dy (by rw[h2,Q3]at hp;exact hp) s3 s1;rw[this]at e3;have c:(decide (d=([]:O cI))||decide (g=([]:O cI)))=true:=by rw[Zl e2,Bool.or_true]
  rw[c,zo rfl];exact⟨⟨λ_=>jM (),λz=>(by cases z)⟩,Zl (by rw[e2,e3,<-e1,Q3])⟩
 have s:P3≠[]:=λe=>by
  rw[e]at hp;have:=hp.length_eq;rw[ZA]at this;have:=ai.mpr h1;simp at *
  omega
 rw[zC h1]at e1;rw[zC h2]at e2;rw[zC s]at e3;have c:(decide (d=([]:O cI))||decide (g=([]:O cI)))=false:=by rw[e1,e2];rfl
 rw[c,zC ()];have a1:Ap d 0=gY P1 (f,h):=by rw[e1];exact jW (k:=0) rfl
 have a2:Ap g 0=gY P2 (f,h):=by rw[e2];exact jW (k:=0) rfl
 have t:Ap i 0=gY P3 (f,h):=by rw[e3];exact jW (k:=0) rfl
 have u:In d.length 0:=by rw[e1];exact B4 () (show(0:Int)<1 by decide)
 have v:In g.length 0:=by rw[e2];exact B4 () (show(0:Int)<1 by decide)
 have o:In i.length 0:=by rw[e3];exact B4 () (show(0:Int)<1 by decide)
 have l:P1.map (·.2)≠[]:=λz=>h1 (bu.mp z);have j:P2.map (·.2)≠[]:=λz=>h2 (bu.mp z);have wp:(P3.map (·.2)).Perm (P1.map (·.2)++P2.map (·.2)):=by rw[<-ZT];exact hp.map _
 have p:∀{P:O (AJ×AJ)},P.map (·.2)≠[]->0<(gY P (f,h)).2.2.length:=λ{P} hw=>by
  unfold gY;dsimp only;rw[vZ];exact dq.mpr (V8 n hw)
 have B:=p l;have w:=p j;refine⟨⟨λz=>(by cases z),λ_=>⟨⟨u,v,o⟩,?_⟩⟩,?_⟩
 ·show iw h d g i (Ap d 0) (Ap g 0) (Ap i 0).2.1;rw[a1,a2];exact λ_ _=>⟨λ_=>⟨B4 () (),B4 () ()⟩,λ_=>⟨λ_=>⟨⟨by omega,by omega⟩,⟨by omega,by omega⟩⟩,λ_ _ _=>o⟩⟩
 show eU h d g i (Ap d 0) (Ap g 0) (Ap i 0).2.1=true;rw[a1,a2];unfold eU;rw[t];simp only[jN,jb,Qr,or_false]at n;rcases n with rfl|rfl|rfl|rfl|rfl|rfl
 ·rw[zC (by decide +kernel),zC (by decide +kernel),zo (by decide +kernel)];unfold gY;dsimp only;simp only[FI];exact Zl (YT s1 s2 s3 hp hd h1 h2).symm
 ·rw[zC (by decide +kernel),zC (by decide +kernel),zC (by decide +kernel),zo (by decide +kernel)];unfold gY;dsimp only;simp only[G1];exact Zl (IQ s1 s2 s3 hp hd h1 h2).symm
 ·rw[zC (by decide +kernel),zC (by decide +kernel),zC (by decide +kernel),zC (by decide +kernel),zC (by decide +kernel)];have m:=IN wp l j;have q:∀P:O (AJ×AJ),(gY P (f,("most":AJ))).2.2.length=(P.map (·.2)).count (An (bC (P.map (·.2))) (P.map (·.2))):=λP=>by
   unfold gY;dsimp only;rw[vZ,EZ]
  rw[<-q,<-q,<-q]at m;rw[bj];refine .inr (Zl ?_);split<;>omega
 ·rw[zC (by decide +kernel),zC (by decide +kernel),zC (by decide +kernel),zC (by decide +kernel),zo (by decide +kernel)];unfold gY;dsimp only;simp only[ER];exact Zl (R5 wp l j)
 ·rw[zo (by decide +kernel)];unfold gY;dsimp only;simp only[EW];exact Zl (YW wp l j)
 ·rw[zC (by decide +kernel),zo (by decide +kernel)];unfold gY;dsimp only;simp only[FD];exact Zl (Oi wp l j)
theorem Wb(a:AZ)(xs:O Int)(d:a.length<=40)(nd:a.Nodup)(e:0<xs.length/\xs.length<=1000)(h0:∀x∈xs,0<=x):jg a xs/\(bM a xs).Pairwise qT/\(bM a xs).Nodup/\∀n∈bM a xs,n∈a:=by
 have sub:∀p:Int->Bool,(((rng 0 (a.length:Int).toNat).filter p).map λk:Int=>Ap a k).Sublist a:=λp=>by
  have:=(ap (p:=p) (l:=rng 0 (a.length:Int).toNat)).map (Ap a);rw[Kn]at this ⊢;rw[ND]at this;exact this
 have p:=λxs:AZ=>iZ xs;refine⟨⟨⟨⟨Cm () (),by rw[jC];omega⟩,λk hk=>?_⟩,?_⟩,mQ _,(p _).nodup_iff.mpr (nd.sublist (sub _)),λn d=>(sub _).subset ((p _).mem_iff.mp d)⟩
 ·have:=Yi hk;have c:=mZ k (m:=(xs.length:Int)) ();have g:0<=k / (xs.length:Int):=Int.ediv_nonneg this.1 ();have f:k / (xs.length:Int)<=k:=Int.ediv_le_self _ this.1;exact⟨⟨⟨⟨by omega,B4 c.1 c.2⟩,by omega,by omega⟩,by omega,by omega⟩,λ_=>B4 this.1 ()⟩
 ·have:=(sub λb:Int=>(decide ((0:Int)<(((Ap xs (b%(xs.length:Int))) / (1+(b / (xs.length:Int))))%3)))).length_le;omega
theorem NM:∀i:Fin 15,Txt.mul (ch LT ((i.val:Int) / 8)) (1+(i.val:Int)%8)≠("qqq":AJ):=by decide +kernel
theorem ON:∀i:Fin 15,(ch LT (i.val:Int)).cps.toList≠[113]:=by decide +kernel
theorem NI:("qqq":AJ).cps.toList=[113,113,113]:=by decide +kernel
theorem YZ(x:AJ)(i:Int):∃c,(ch x i).cps.toList=[c]:=by
 have h:(ch x i).cps.toList.length=1:=vM x i;exact List.length_eq_one_iff.mp h
theorem R6(xs:O Int):("qqq":AJ)∉cj xs 15:=by
 obtain⟨a,at_,e⟩:=Ly xs 15;rw[e];intro h;obtain⟨k,hk,e⟩:=ag.mp h;obtain⟨j,b,rfl⟩:=Ql hk;unfold D5 at e;split at e
 ·exact NM ⟨j,by simpa using b⟩ e
 ·have e:=congrArg (λs:AJ=>s.cps.toList) e;have e:(((Txt.slice a Z (U at_)).cps++(ch LT (((j:Int)+Ap xs 2)%15)).cps)++(Txt.slice a (U at_) Z).cps).toList=("qqq":AJ).cps.toList:=e;rw[km,km,NI]at e;have m:=mZ ((j:Int)+Ap xs 2) (m:=15) ();obtain⟨c,d⟩:=YZ LT (((j:Int)+Ap xs 2)%15);have q:=ON ⟨(((j:Int)+Ap xs 2)%15).toNat,by omega⟩;simp only[br m.1]at q;rw[d]at q e;have:c∈[113,113,113]:=by rw[<-e];simp
  simp at this;exact q (by rw[this])
theorem Oj(c:O Int):∀n∈(cg c 14).map (·.1),n∈cj (aR (bh c 0) 9) 15:=by
 have a:=Du (bh c 0) 9 () ();have d:(cj (aR (bh c 0) 9) 15).length=15:=(Lx _ (by rw[a.2.1];decide) 15 () ()).2.1;have e:∀(hd:O Int) (b:AZ) (m:Int),b.length=15->∀n∈(((rng 0 m.toNat).foldl (λf k=>fK c hd b f k) ([]:O bT)).map (·.1)),n∈b:=λhd b m d n a=>by
  have:∀(l:O Int) (s:O bT),(∀n∈s.map (·.1),n∈b)->∀n∈((l.foldl (λf k=>fK c hd b f k) s).map (·.1)),n∈b:=by
   intro l
   induction l with
   |nil=>intro s h;exact h
   |cons k l g=>
    intro s h;refine g _ λn a=>?_;have a:n∈(s++[_]).map (λr:bT=>r.1):=a;rw[ZT,af]at a;rcases a with a|a
    ·exact h n a
    ·have a:n∈[Ap b (((4*k)+(Ap hd 7))%15)]:=a;rw[ah]at a;rw[a];exact qj (sE () (by rw[d];decide))
  exact this _ [] (λn h=>by cases h) n a
 exact e _ _ _ d
theorem Y0{m:O (AJ×AJ)}{q:AJ×AJ}(h:q.1∉m.map (·.1)):put m q.1 q.2=m++[q]:=by
 unfold put;rw[zC];intro z;unfold has at z;obtain⟨y,a,e⟩:=ay.mp z;exact h (by rw[<-Ki e];exact QQ a)
theorem ZW{a:O (AJ×AJ)}(nd:(a.map (·.1)).Nodup):D9 a=a:=by
 have:∀(l m:O (AJ×AJ)),((m++l).map (·.1)).Nodup->l.foldl (λc p=>put c p.1 p.2) m=m++l:=by
  intro l
  induction l with
  |nil=>intro m _;simp
  |cons q l b=>
   intro m h;rw[JY];have hq:q.1∉m.map (·.1):=λz=>by
    rw[ZT,ar]at h;exact h.2.2 _ z _ (QQ (zg ..)) rfl
   rw[Y0 hq,b _ (by rw[Kk];exact h),Kk];rfl
 exact(this a [] nd).trans (ko _)
theorem Y4{b:O (AJ×AJ)}(nd:(b.map (·.1)).Nodup){q:AJ×AJ}(h:q∈b):has b q.1=true/\look b q.1=q.2:=by
 refine⟨ay.mpr ⟨q,h,by simp⟩,?_⟩;unfold look;have:b.find? (λz=>decide (z.1=q.1))=U q:=by
  induction b with
  |nil=>cases h
  |cons a b c=>
   rw[zr,k5]at nd;rw[qV];rcases List.mem_cons.mp h with e|e
   ·subst e;simp
   ·have:a.1≠q.1:=λz=>nd.1 (by rw[z];exact QQ e);rw[z4 this];exact c nd.2 e
 rw[this];rfl
theorem DK{B a:O bT}:∀{N:AZ},(∀n∈N,fH a n=fH B n)->∀f:AJ,pk a N f=pk B N f
 |[],_,_=>rfl
 |n::N,h,f=>by
  have b:=DK (N:=N) (λm c=>h m (zh _ c)) f;unfold pk at *
  rw[ZY,ZY,h n (zg ..),b]
theorem Wc(B:O bT)(M N:AZ)(f:AJ):pk B (M++N) f=pk B M f++pk B N f:=List.filterMap_append
section
variable{B:O bT}(b:Bk B)(hq:("qqq" : AJ)∉B.map (·.1))(hs:N.Pairwise qT)(nd:N.Nodup)(hN:∀ n∈N,n∈B.map (·.1))
include b hs nd hN
theorem Y5(a:∀q∈vo,q.2∈jN)(f:vo.length<=100):fM B vo N/\bG B vo N=nM (pk B N) vo:=by
 have e:=fY nd hN;rw[zk]at e;have bl:=b.ln;obtain⟨d,t⟩:=Jm B vo N hN () () a;exact⟨d,by rw[t,Jo λn c=>(pX (hN n c)).1]⟩
theorem Y6(g:∀q∈vo,q.2∈jN)(j:vo.length<=100):fM ((B.filter λa:bT=>decide (a.1∈N)).map λa:bT=>a) vo N/\bG ((B.filter λa:bT=>decide (a.1∈N)).map λa:bT=>a) vo N=nM (pk B N) vo:=by
 rw[dm];have h:=fY nd hN;rw[zk]at h;have bl:=b.ln;have i:((B.filter λa:bT=>decide (a.1∈N)).map (·.1)).Nodup:=b.nd.sublist (ap.map _);have e:∀n∈N,fH (B.filter λa:bT=>decide (a.1∈N)) n=fH B n/\n∈(B.filter λa:bT=>decide (a.1∈N)).map (·.1):=λn c=>by
  obtain⟨r,e,rfl⟩:=ag.mp (hN n c);have m:r∈B.filter λa:bT=>decide (a.1∈N):=al.mpr ⟨e,Zl c⟩;exact⟨by rw[uF i m,uF b.nd e],QQ m⟩
 obtain⟨d,t⟩:=Jm (B.filter λa:bT=>decide (a.1∈N)) vo N (λn c=>(e n c).2) () () g;refine⟨d,?_⟩;rw[t,Jo λn c=>(pX (e n c).2).1,show pk (B.filter λa:bT=>decide (a.1∈N)) N=pk B N from funext λf=>DK (λn c=>(e n c).1) f]
include hq
theorem Lu(j:∀q∈vo,q.2∈jN)(m:vo.length<=100):fM (B++[(("qqq":AJ),([]:O bU))]) vo (eX (N++[("qqq":AJ)]))/\bG (B++[(("qqq":AJ),([]:O bU))]) vo (eX (N++[("qqq":AJ)]))=nM (pk B N) vo:=by
 have k:=fY nd hN;rw[zk]at k;have bl:=b.ln;have l:("qqq":AJ)∉N:=λz=>hq (hN _ z);have p:=iZ (N++[("qqq":AJ)]);have i:(N++[("qqq":AJ)]).Nodup:=ar.mpr ⟨nd,by simp,λx hx y a e=>l (by rw[<-ah.mp a,<-e];exact hx)⟩;have bnd:((B++[(("qqq":AJ),([]:O bU))]).map (·.1)).Nodup:=by
  rw[ZT];exact ar.mpr ⟨b.nd,by simp,λx hx y a e=>hq (by
   have a:y=("qqq":AJ):=by simpa using a
   rw[<-a,<-e];exact hx)⟩
 have g:∀n∈eX (N++[("qqq":AJ)]),n∈(B++[(("qqq":AJ),([]:O bU))]).map (·.1):=λn c=>by
  rw[ZT,af];rcases af.mp (p.mem_iff.mp c)with z|z
  ·exact .inl (hN n z)
  ·exact .inr (by simpa using z)
 obtain⟨d,t⟩:=Jm (B++[(("qqq":AJ),([]:O bU))]) vo (eX (N++[("qqq":AJ)])) g (by rw[p.length_eq,ZA,aT];omega) () j;refine⟨d,?_⟩;rw[t,Jo λn c=>(pX (g n c)).1];refine congrArg (λp=>nM p vo) (funext λf=>?_);refine Dy ?_ (mH (mQ _) (p.nodup_iff.mpr i)) (mH hs nd);have e1:pk (B++[(("qqq":AJ),([]:O bU))]) [("qqq":AJ)] f=[]:=by
  unfold pk;rw[ZY,uF bnd (r:=(("qqq":AJ),([]:O bU))) (by simp)];rfl
 have e2:pk (B++[(("qqq":AJ),([]:O bU))]) N f=pk B N f:=DK (λn c=>by
  obtain⟨r,h,rfl⟩:=ag.mp (hN n c);rw[uF bnd (qo _ h),uF b.nd h]) f
 have:=p.filterMap λn=>(fw (fH (B++[(("qqq":AJ),([]:O bU))]) n).2 f).map λw=>(n,w);refine List.Perm.trans this ?_;show(pk (B++[(("qqq":AJ),([]:O bU))]) (N++[("qqq":AJ)]) f).Perm _;rw[Wc,e1,e2,Q3]
end
theorem G4{B:O bT}(b:Bk B){M:AZ}(hs:N.Pairwise qT)(nd:N.Nodup)(hN:∀n∈N,n∈B.map (·.1))(j:M.Pairwise qT)(i:M.Nodup)(A:∀n∈M,n∈B.map (·.1))(hd:∀x∈N,x∉M){q:AJ×AJ}(hq:q.2∈jN):xY B N M eg q/\nG B N M eg q=.nx eg:=by
 have p:=iZ (N++M);have h:(N++M).Nodup:=ar.mpr ⟨nd,i,λx hx y c e=>hd x hx (by rw[e];exact c)⟩;have w:∀n∈eX (N++M),n∈B.map (·.1):=λn C=>by
  rcases af.mp (p.mem_iff.mp C)with z|z
  ·exact hN n z
  ·exact A n z
 have g:∀z∈[(q.1,q.2)],z.2∈jN:=λz d=>by rw[ah.mp d];exact hq
 have m:=Y5 b hs nd hN g (show 1<=100 by decide);have l:=Y5 b j i A g (show 1<=100 by decide);have t:=Y5 b (mQ _) (p.nodup_iff.mpr h) w g (show 1<=100 by decide);have sl:=fY h (ys:=B.map (·.1)) λx hx=>w x (p.mem_iff.mpr hx);rw[zk,ZA]at sl;have bl:=b.ln;have hp:(pk B (eX (N++M)) q.1).Perm (pk B N q.1++pk B M q.1):=by
  rw[<-Wc];exact p.filterMap _
 have u:=YX (f:=q.1) hq (mH hs nd) (mH j i) (mH (B:=B) (mQ (N++M)) (p.nodup_iff.mpr h)) hp (λz d y c e=>hd _ (Jp d) (by rw[e];exact Jp c)) (m.2.trans (DG B N q)) (l.2.trans (DG B M q)) (t.2.trans (DG B (eX (N++M)) q));have o:Ap ([N,M,eX (N++M)].map λa=>bG B [(q.1,q.2)] a) 0=bG B [(q.1,q.2)] N:=jW (k:=0) rfl;have a1:Ap ([N,M,eX (N++M)].map λa=>bG B [(q.1,q.2)] a) 1=bG B [(q.1,q.2)] M:=jW (k:=1) rfl;have a2:Ap ([N,M,eX (N++M)].map λa=>bG B [(q.1,q.2)] a) 2=bG B [(q.1,q.2)] (eX (N++M)):=jW (k:=2) rfl;constructor
 ·refine⟨⟨⟨⟨jM (),by rw[ZA];omega⟩,by show 3<=100000;decide⟩,λv s=>?_⟩,⟨B4 () (by show(0:Int)<3;decide),B4 () (by show(1:Int)<3;decide),B4 () (by show(2:Int)<3;decide)⟩,?_⟩
  ·simp only[jb,Qr,or_false]at s;rcases s with rfl|rfl|rfl
   ·exact m.1
   ·exact l.1
   ·exact t.1
  ·rw[o,a1,a2];exact u.1
 ·unfold nG;dsimp only;rw[o,a1,a2,u.2];rfl
theorem Qz{B:O bT}(b:Bk B)(hq:("qqq":AJ)∉B.map (·.1))(x:Int):xZ B (B.map λa:bT=>a.1) eg x/\nH B (B.map λa:bT=>a.1) eg x=.nx eg:=by
 obtain⟨J,o,j⟩:=Du x 22 () ();have o:(aR x 22).length=22:=o;generalize e3:aR x 22=xs at *
 obtain⟨H,W,g⟩:=R0 xs () j;have m:=Lz xs () j;have bl:=b.ln;have cl:∀k:Nat,k<=22->(BI xs (U (k:Int)) Z).length=22-k:=λk hk=>by rw[Ve (),jn,o]
 have C:=λ(k:Nat) (hk:k<=14)=>Wb (B.map λa:bT=>a.1) (BI xs (U (k:Int)) Z) (by rw[zk];exact bl) b.nd (by rw[cl k ()];exact⟨by omega,by omega⟩) (λz d=>j z (Yj d));obtain⟨s1,s2,s3,f⟩:=C 8 ();obtain⟨t1,t2,t3,i⟩:=C 12 ();have s1:jg (B.map λa:bT=>a.1) (BI xs (U 8) Z):=s1;have t1:jg (B.map λa:bT=>a.1) (BI xs (U 12) Z):=t1;change (bM (B.map λa:bT=>a.1) (BI xs (U 8) Z)).Pairwise qT at s2;change (bM (B.map λa:bT=>a.1) (BI xs (U 8) Z)).Nodup at s3;change ∀n∈bM (B.map λa:bT=>a.1) (BI xs (U 8) Z),_ at f;change (bM (B.map λa:bT=>a.1) (BI xs (U 12) Z)).Pairwise qT at t2;change (bM (B.map λa:bT=>a.1) (BI xs (U 12) Z)).Nodup at t3;change ∀n∈bM (B.map λa:bT=>a.1) (BI xs (U 12) Z),_ at i;have tl:=fY t3 i;have sl:=fY s3 f;rw[zk]at tl sl;generalize eN:bM (B.map λa:bT=>a.1) (BI xs (U 8) Z)=N at *
 generalize A:bM (B.map λa:bT=>a.1) (BI xs (U 12) Z)=M at *
 generalize ev:dY xs=vn at *
 have t:((M.filter λc:AJ=>!decide (c∈N)).map λc:AJ=>c)=M.filter λc:AJ=>!decide (c∈N):=dm _;have s:(M.filter λc:AJ=>!decide (c∈N)).Pairwise qT:=t2.sublist ap;have D:(M.filter λc:AJ=>!decide (c∈N)).Nodup:=t3.sublist ap;have E:∀n∈M.filter (λc:AJ=>!decide (c∈N)),n∈B.map (·.1):=λn K=>i n (al.mp K).1;have hd:∀y∈N,y∉M.filter λc:AJ=>!decide (c∈N):=λy h z=>by
  have:=(al.mp z).2;simp[h]at this
 obtain⟨I,w⟩:=Y5 b s2 s3 f g ();obtain⟨a1,a2⟩:=Y6 b s2 s3 f g ();obtain⟨Q,u⟩:=Lu b hq s2 s3 f g ();have X:(nM (pk B N) vn).length<=100:=by
  unfold nM;rw[zk];exact zS (List.length_filter_le _ _) ()
 have wr:∀z∈nM (pk B N) vn,has vn z.1=true/\dh B N (look vn z.1) z/\cu B N (look vn z.1) z=true:=λz d=>by
  unfold nM at d;obtain⟨q,G,rfl⟩:=ag.mp d;obtain⟨q1,q2⟩:=al.mp G;have l:=Y4 m q1;have F:pk B N q.1≠[]:=λe=>by rw[e]at q2;cases q2
  have L:=MW b s2 s3 f (g q q1) F;show has vn q.1=true/\dh B N (look vn q.1) _/\cu B N (look vn q.1) _=true;rw[l.2];exact⟨l.1,L⟩
 have all:((nM (pk B N) vn).map λp:cI=>cu B N (look vn p.1) p).all id=true:=by
  rw[jv];intro y h;obtain⟨z,d,rfl⟩:=ag.mp h;exact(wr z d).2.2
 have lp:=Ck (step:=λ(s2:Unit) (q3:bU)=>(nG B N (M.filter λc:AJ=>!decide (c∈N)) s2 q3:pq Unit Bool)) (P:=λs2 q3=>U (xY B N (M.filter λc:AJ=>!decide (c∈N)) s2 q3)) vn λq hq=>⟨(G4 b s2 s3 f s D E hd (g q hq)).1,.inl (G4 b s2 s3 f s D E hd (g q hq)).2⟩;have v:(!decide (nM (pk B N) vn=nM (pk B N) vn))=false:=by rw[Zl rfl];rfl
 constructor
 ·refine⟨J,?_⟩;dsimp only;rw[e3,ev,eN,A,t,w,a2,u,v,ZW m];refine⟨H,s1,⟨t1,by omega⟩,by omega,jM (by show B.length+1<=1000;omega),I,⟨a1,λ_=>⟨⟨jM (by show N.length+1<=1000;omega),by rw[ZA,aT];omega⟩,Q⟩⟩,λ_=>⟨by omega,⟨by omega,λz d=>⟨(wr z d).1,(wr z d).2.1⟩⟩,λ_=>⟨lp.2,?_⟩⟩⟩;rw[lp.1];trivial
 ·unfold nH;dsimp only;rw[e3,ev,eN,A,t,w,a2,u,v,zC (),ZW m,all,zC (),lp.1];rfl
theorem Wd:∀a:O Int,a.length<=63->Qp a/\Lw a=true:=λa g=>by
 obtain⟨b1,b2,h,f⟩:=YM a 14 () () g;have hq:("qqq":AJ)∉(cg a 14).map (·.1):=λz=>R6 _ (Oj a _ z);obtain⟨d,e⟩:=Ck (step:=λ(s1:Unit) (c:Int)=>(nH (cg a 14) ((cg a 14).map λb:bT=>b.1) s1 c:pq Unit Bool)) (P:=λs1 c=>U (xZ (cg a 14) ((cg a 14).map λb:bT=>b.1) s1 c)) ([(bh a 16)]++BI a (U 17) (U 26)) λx _=>⟨(Qz b2 hq x).1,.inl (Qz b2 hq x).2⟩;have cl:=Yk a (U 17) (U 26);constructor
 ·refine⟨b1,zS f (),⟨⟨⟨Oa a 16 () (),jM (by show 1+_<=_;omega)⟩,e⟩,?_⟩⟩;rw[d];trivial
 ·unfold Lw;dsimp only;unfold Ds Dr;dsimp only;rw[d];rfl
theorem H1:∀a:O Int,a.length<=63->F_law [.z (.lst (a.map .int))]=U (.z (.bl true)):=(ZS Wd).1
theorem H2:∀a:O Int,a.length<=63->F_law [.l (a.map .int)]=U (.z (.bl true)):=(ZS Wd).2
end G37
end
open PySem PySem.W PyProof.Rows
namespace PySem.W.Fast
def tw14004719210911877152:=0
def tw164257804900894867:=0
def tw7927163860992993362:=0
def tw8357061023303800401:=0
def tw5702655554372608618:=0
def tw15872898647397901943:=0
def tw16171293197110655296:=0
def tw14854897824297323568:=0
def tw8018736386403209977:=0
def tw7798609534315216521:=0
def tw1856900415802504792:=0
def tw4840470992198129429:=0
def tw15561656095344537185:=0
def tw1995601411027886355:=0
def tw8916014125202546126:=0
def tw8470650481248360855:=0
def tw8117139193501899838:=0
def tw7030851855693505327:=0
def tw5391526274017377369:=0
def tw5458175784830319763:=0
def tw11430376593937176891:=0
def tw2636976675027622856:=0
def tw12410686010932500411:=0
def tw13827174132749438791:=0
def tw246928415669429009:=0
def tw17796882383328186887:=0
def tw16389939113785835980:=0
def tw11208089636318667644:=0
def tw972446612957289775:=0
def tw16413020189614201380:=0
def tw11500782144070332307:=0
def tw1666601923070880212:=0
def tw4080955532455773129:=0
def tw7251980766206418833:=0
def tw12105918416651076581:=0
def tw16675387558074408051:=0
def tw11189688213517439762:=0
def tw17298823910762276691:=0
def tw6255390524459964928:=0
def tw4554524395660796963:=0
def tw18108172826360240318:=0
def tw5406166210344329149:=0
def tw1206500787718190898:=0
def tw8731676245040349475:=0
def tw1122470169193194777:=0
def tw12548575291024099890:=0
def tw14115210887379201725:=0
def tw14168366670136227255:=0
def tw9482258316892338610:=0
def tw14928880843687018914:=0
def tw514118996951569600:=0
def tw17911316939295146691:=0
def tw17188694199650408606:=0
def tw15891656082430686798:=0
def tw16501283047811434140:=0
def tw13761041185753919036:=0
def tw16178653062868607202:=0
def tw7505590173637456205:=0
def tw5716492633194808136:=0
def tw14617322914146188037:=0
end PySem.W.Fast
set_option maxRecDepth 100000 in
set_option maxHeartbeats 0 in
theorem PySem.Challenge.cw_onefolk_k37_whole_views_and_rows_holds : PySem.Challenge.rw_onefolk_k37_whole_views_and_rows.Holds := by
 w_on;refine PySem.W.holds_law (by decide +kernel) λsaid=>?_
 k_head;(case hw=>w_witness2)
 k_fill
 refine P1.DF (l:=PySem.Challenge.rw_onefolk_k37_whole_views_and_rows) (T:=G37.T) (k:=5) (x := "_law_script") (st:=G37.s_law) (F_law:=G37.F_law) (λt=>t.x_law) ⟨rfl,by decide,by decide⟩ rfl (λw mg base t=>G37.C' t) rfl rfl G37.H1 G37.H2 (λ_ _ _ _ _ _ _=>rfl) (λw h Y=>PySem.W.km_in_of Y) (λw h _ _ _ _ X T=>⟨_,P1.Cf (by kernel_rfl) X T⟩) ?F
 case F=>
  intro w mg h KX G
  refine' ⟨PySem.W.mg_of KX G _,P1.m5 KX G _ _ _ _,P1.m5 KX G _ _ _ _,P1.m5 KX G _ _ _ _,P1.m5 KX G _ _ _ _,P1.m5 KX G _ _ _ _,P1.m5 KX G _ _ _ _,P1.m5 KX G _ _ _ _,P1.m5 KX G _ _ _ _,P1.m5 KX G _ _ _ _,P1.m5 KX G _ _ _ _,P1.m5 KX G _ _ _ _,P1.m5 KX G _ _ _ _,P1.m5 KX G _ _ _ _,P1.m5 KX G _ _ _ _,P1.m5 KX G _ _ _ _,P1.m5 KX G _ _ _ _,P1.m5 KX G _ _ _ _,P1.m5 KX G _ _ _ _,P1.m5 KX G _ _ _ _,P1.m5 KX G _ _ _ _,P1.m5 KX G _ _ _ _,P1.m5 KX G _ _ _ _,P1.m5 KX G _ _ _ _,qc KX G _,qc KX G _,qc KX G _,qc KX G _,qc KX G _,qc KX G _,qc KX G _,qc KX G _,qc KX G _,qc KX G _,qc KX G _,_,_,_⟩
  all_goals try (show _=_;k_is)
  all_goals try kernel_rfl
  all_goals (show _=true;kernel_rfl)
