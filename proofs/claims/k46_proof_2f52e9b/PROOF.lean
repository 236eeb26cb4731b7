import PyProof.Rows.All
import Wide.All
import OpenK.AllK
import Wide.FinOn
import Lean
import PySem.Challenge.RW_onefolk_k46_least_steps
open List renaming mem_cons_self->ze,mem_cons_of_mem->zg,length_map->zi,map_cons->zo,getElem?_eq_getElem->zr,size_toArray->zw,flatten_cons->zz,length_append->zC,getElem?_map->zS,length_cons->Zp,mem_append_right->ZA,mem_of_getElem?->ZE,map_append->ZH,getElem?_append_left->ZI,append_assoc->ZO,map_map->ZT,getElem?_append_right->ZY,getElem?_eq_none->qi,map_congr_left->qq,length_set->qv,foldl_cons->Qb,append_nil->QE,getElem?_set_self->QN,nodup_append->QP,getElem?_replicate->QR,mem_append_left->QU,any_eq_true->Q4,all_eq_true->ja,mem_cons->js,mem_append->jv,length_filter_le->jI,flatMap_cons->j0,getElem?_cons_succ->JA,getElem_of_mem->JI,nodup_nil->JP,length_singleton->JS,rel_of_pairwise_cons->JU,any_cons->ki,filter_sublist->ko,not_mem_nil->kr,getElem_mem->ku,map_nil->kA,map_id'->kB,find?_cons->kF,all_cons->kL,lookup_cons_self->kP,getElem?_set_ne->k7,flatten_append->Kb,filterMap_cons->Ki,pairwise_singleton->KB,filter_cons_of_neg->KF,eraseIdx_cons_succ->KG,reverse_cons->KM,getElem?_set->KO,perm_append_comm->KS,length_take->KW,filter_cons->K0,length_eraseIdx->yb,length_nil->ye,length_reverse->ym,getElem?_range->yn,any_map->yv,zip_cons_cons->yT,perm_append_singleton->y0,drop_eq_getElem_cons->y3,length_range->y8,ext_getElem?->y9,length_erase_of_mem->YI,pairwise_mergeSort->YY,mem_map->ax,replicate->ay,mem_singleton->az,getElem?_eq_some_iff->ba,mem_filter->bb,nodup_cons->bc,length_eq_zero_iff->bj,length_pos_iff->bo,range->bq,mem_range->bz,mem_flatten->bE,pairwise_cons->cf,eq_nil_iff_forall_not_mem->ck,pairwise_map->cm,filter_eq_self->cw,find?_eq_none->cD,drop_eq_nil_of_le->cK,length_pos_of_mem->cN,take_of_length_le->cS,take_succ_eq_append_getElem->cX,of_mem_zip->da,mem_erase_of_ne->de,eq_nil_of_length_eq_zero->df,mergeSort_perm->dg,length->dr,map_id->dt,mem_filterMap->dv,append_of_mem->dB,getD_eq_getElem?_getD->dS,exists_cons_of_ne_nil->dV,perm_append_right_iff->ef,mem_or_eq_of_mem_set->eh,mem_of_find?_eq_some->ei,lookup_cons->ej,length_drop->eu,find?_range_eq_none->eH,nodup_range->eJ,nil_append->eP,contains_iff_mem->fq,countP_mono_left->fw,sum_cons->fF,replicate_succ->fN,all_map->fT,set_cons_zero->gh,set_cons_succ->gi,filter_append->gm,mapM_toArray->gz,foldl_append->gE,any_eq_false->gG,le_antisymm->gL,countP_cons->gT,getElem_zip->hB,take_length->hC,flatMap_def->hE
open PySem.Heap renaming get?_push_of_some->zh,get?_push_size->zt,lt_size->zI,size_push->qr,get?_update_ne->JJ,get?_update_self->kQ,get?_update_other->eW,get?_push_ne->gp,size_update->gS
open Nat renaming le_refl->zk,ne_of_lt->z5,le_trans->Zs,lt_of_lt_of_le->ZN,le_of_ble_eq_true->ZU,zero_le->qh,lt_succ_self->qS,lt_succ_of_lt->Qr,le_of_lt->Q2,lt_irrefl->jb,lt_of_le_of_lt->kC,ne_of_gt->k9,le_succ->Kx,zero_add->KL,lt_trans->yo,succ_le_succ->YO,le_of_not_lt->YR,not_lt_zero->dc,mod_lt->dd,eq_zero_or_pos->dA,le_of_succ_le->eg,le_of_eq->ew,min_self->ez,succ_pos->eC,not_lt->fA,succ_mul->gc,mul_comm->gd,le_succ_of_le->gu
open Bool renaming false_eq_true->zv,false_ne_true->Zl,and_eq_true->qo,not_eq_true'->ke,not_true->kM,and_true->ya,eq_iff_iff->yi,and_false->yA,not_false->dq,or_false->dC,false_or->dE,or_eq_true->eQ,decide_and->eR,false_and->ft,true_and->fE
open Array renaming length_toList->qc,getElem?_eq_getElem->QI,getElem?_toList->kR,size_append->k6,getElem?_eq_none->KP,eq_empty_of_size_eq_zero->K2,perm_iff_toList_perm->cq,toList_filterMap->fm,toList->fR,forIn_toList->gg,toList_push->gA,toList_inj->gQ,toList_map->gX,replicate->hF
open Or renaming inr->QQ,inl->JE
open Int renaming emod_nonneg->yf,emod_lt_of_pos->yY,toNat_natCast->Ya,toNat_of_nonneg->fO,zero_add->gf
open PySem.SetTable renaming bits->bg,runEnd->bp,layClean->br,below->bu,sizeAbove->bN,leap->bP,turns->bS,grown->bX,fresh->ca,eraseAt->cb,fits->cc,insertAt->cE,laid->dP,fill->dQ,road->hH
open Unit renaming unit->bv
local macro_rules|`(())=>`(by first|omega|decide)
open Option renaming isSome_iff_exists->cz,isSome_some->dz,bind_some->eA,map_some->eK,map_eq_some_iff->fg,getD_none->gI,map_map->hG
open Prod renaming ext->di
open Option renaming some->Z,none->U
abbrev O:=List
abbrev Y:=Option
theorem S{α:Sort u}{a:α}:a=a:=rfl
open PySem renaming Value->A0,Addr->A1,Shared->A2,Program->A3,World->A4,Around->A5,Heap->A6,wpAny->A7,model->A8,starEach->A9,sizeLine->AA,Stmt->AB,Keyword->AC,backTo->AD,Obj->AE,codeAny->AF,compareOp->AG,bootBuiltins->AH,Paired->AI,Str->AJ
abbrev be(x:AJ):=(x==("__debug__":AJ))=false
open PyProof.Rows renaming envOfC->AK,wpS_bind->AL,arrOf->AM
open PySem.W (methodObj keepIn cellsFrom_some fnOf codeIn)
set_option maxRecDepth 100000
set_option maxHeartbeats 4000000
set_option linter.all false
set_option Elab.async false
open PySem PySem.Spec PyProof.Rows
variable{w:A4}{i:Nat}{t:SetTable}{x:AJ}{a:A1}{prog:A3}{us:O A0}{u:A0}{κ:Type}{o:AE}{h:A6}{items:Array A0}{P:A3}{α β:Type}{e:Expr}{n:Nat}{mg:AJ->Y A0}{base:A6}{l:A1}{env:Env}{m:O (AJ×AJ)}{AN:O (A1×AE)}{s:A2}{it:A1}{j:Nat}{M:Model}{A:A5}{Q:Unit->A2->Prop}{hi:Y Int}{D:A1}{es:O Expr}{st:AB}{pos:Pos}{c:Expr}{y:AJ}{hs:O Int}{tg:Expr}{body:O AB}{fp:O A1}{tn:Nat->A6->Prop}{iter:Expr}{lo:Y Int}{pl:O Nat}{C:A1}{op:CmpOp}{AQ:O A0}{name:AJ}{tpos:Pos}{fd:FuncData}{apos:Pos}{qual:AJ}{scope:Scope}{params:Arguments}{osl:Array (Y A0)}{p2 cpos:Pos}{XP:(AJ->Y A0)->A6->Prop}{YP:A4->A6->Prop}{cl:O (AJ×A1)}{is:O Nat}{ifs:O Expr}{elt tgt:Expr}{el:A1->Env->Sem Unit}{B:A5->Bool->Prop}{comp:Expr}{RR:A0->A1->Result->A2->Prop}{ep:Nat}{rk:A0->Nat}{kd:SortKind}{W:O Keyed}{mask:Nat}{owner:Array (Y Nat)}{elts:O Expr}{x1:Nat}{γ δ:Type}{e2:Expr}{os:OsState}{bmB:O A0}{newId initId:String}{a_:A1}
abbrev AZ:=O PySem.Str
abbrev B7:=PySem.Value->PySem.Shared->Prop
abbrev Au:=PySem.W.Frag
abbrev BC:=O Int
abbrev zb:=@wpAny_bind
abbrev zd:=@wpAny_pure
abbrev zl:=@if_pos
abbrev zD:=@if_neg
abbrev ZZ:=@decide_eq_false
abbrev Z3:=@wpAny_mono
abbrev qa:=@of_decide_eq_true
abbrev qf:=@if_false
abbrev qk:=@wpAny_setState_of
abbrev qA:=@decide_eq_true
abbrev qB:=@wpAny_holding
abbrev qV:=@wpAny_newObj_type
abbrev QA:=@PySem.W.mg_none_of
abbrev QO:=@decide_eq_true_eq
abbrev QY:=@if_true
abbrev Q1:=@wpAny_typeOf
abbrev Q3:=@wpAny_call_entry
abbrev jS:=@wpAny_isInstance
abbrev Jn:=@PySem.F.plainAttrs_list
abbrev JO:=@Heap.SameBut.update
abbrev JY:=@codeAny_builtin
abbrev kc:=@Option.some.inj
abbrev kg:=@wpAny_rule
abbrev kl:=@wpAny_comprehension_free
abbrev km:=@PySem.mem_of_lookup
abbrev kq:=@List.Perm.refl
abbrev kz:=@decide_eq_false_iff_not
abbrev kD:=@wpAny_passesOwn
abbrev kK:=@wpAny_standAt
abbrev kU:=@wpAny_truthy_bool
abbrev kX:=@wpAny_storeSet_of
abbrev k5:=@wpAny_setEpoch_of
abbrev k8:=@decide_false
abbrev Kj:=@PySem.F.type_list_append
abbrev Kk:=@PySem.F.slot_list_append
abbrev Kn:=@List.cons.injEq
abbrev Kt:=@decide_true
abbrev KA:=@wpAny_getItem_str_slice
abbrev KI:=@Ne.symm
abbrev KU:=@wpAny_askSetting
abbrev yz:=@wpAny_load
abbrev yB:=@Obj.data_mapFields
abbrev y4:=@Calls.call_function_entry
abbrev y7:=@wpAny_pyIter_list
abbrev Yf:=@Heap.SameBut.refl
abbrev YA:=@wpAny_newList
abbrev YE:=@PySem.F.args_tuple_add_2
abbrev YN:=@List.Pairwise.imp_of_mem
abbrev YU:=@wpAny_callSpecial?_slot
abbrev YV:=@PySem.F.entry_tuple_add
abbrev Y1:=@F.plain_set_update_loop
variable{xs ps:AZ}{K:Au}{L:O AZ}{N:AZ}{E:B7}{ys ts n_:AZ}
namespace L2
abbrev AY:=Sum Int AJ
def iY:AY->A0->Bool
 |.inl k,v=>Value.isInt k v
 |.inr x,v=>Value.isStrOf x v
def X1(w:A4):AY->Int
 |.inl k=>hashInt k
 |.inr x=>hashStr w x
theorem bA:∀{k:AY} {v:A0},iY k v=true->(∃i t,k=Sum.inl i/\v=Value.int i t)\/(∃x t,k=Sum.inr x/\v=Value.str x t)
 |.inl i,v,h=>by
  obtain⟨t,e⟩:=Value.isInt_shape (k:=i) (v:=v) h;exact .inl ⟨i,t,rfl,e⟩
 |.inr x,v,h=>by
  obtain⟨t,e⟩:=Value.isStrOf_shape (x:=x) (v:=v) h;exact .inr ⟨x,t,rfl,e⟩
theorem Te(i:Int)(t:Tok):iY (.inl i) (.int i t)=true:=by simp[iY,Value.isInt]
theorem Tf(x:AJ)(t:Tok):iY (.inr x) (.str x t)=true:=by simp[iY,Value.isStrOf]
theorem OO(a b:Int):decide ((Sum.inl a:AY)=Sum.inl b)=(a==b):=by
 by_cases e:a=b
 ·subst e;simp
 ·have h:¬ (Sum.inl a:AY)=Sum.inl b:=λq=>e (Sum.inl.inj q);rw[ZZ h];exact(beq_eq_false_iff_ne.mpr e).symm
theorem SE(a b:AJ):decide ((Sum.inr a:AY)=Sum.inr b)=decide (a=b):=by
 by_cases e:a=b
 ·subst e;simp
 ·have h:¬ (Sum.inr a:AY)=Sum.inr b:=λq=>e (Sum.inr.inj q);rw[ZZ h,ZZ e]
theorem RF(a:Int)(b:AJ):decide ((Sum.inl a:AY)=Sum.inr b)=false:=ZZ (λq=>nomatch q)
theorem Xs(a:AJ)(b:Int):decide ((Sum.inr a:AY)=Sum.inl b)=false:=ZZ (λq=>nomatch q)
def bV(prog:A3)(w:A4):PySem.KeyKind prog w AY where
 is:=iY
 hash:=X1 w
 inj:=λv a b f d=>by
  rcases bA f with⟨i,t,rfl,rfl⟩|⟨x,t,rfl,rfl⟩
  ·rcases bA d with⟨j,u,rfl,e⟩|⟨y,u,rfl,e⟩
   ·injection e with e1 _;rw[e1]
   ·exact nomatch e
  ·rcases bA d with⟨j,u,rfl,e⟩|⟨y,u,rfl,e⟩
   ·exact nomatch e
   ·injection e with e1 _;rw[e1]
 byValue:=λk v h=>by
  rcases bA h with⟨i,t,rfl,rfl⟩|⟨x,t,rfl,rfl⟩<;>rfl
 pyHash:=λc h=>by
  rcases bA c with⟨i,t,rfl,rfl⟩|⟨x,t,rfl,rfl⟩
  ·exact wpAny_pyHash_int h
  ·exact wpAny_pyHash_str h
 eqBool:=λg c h=>by
  rcases bA g with⟨i,t,rfl,rfl⟩|⟨x,t,rfl,rfl⟩
  ·rcases bA c with⟨j,u,rfl,rfl⟩|⟨y,u,rfl,rfl⟩
   ·rw[OO]at h;exact wpAny_eqBool_int h
   ·rw[RF]at h;exact SeqAt.EqAt.int_str i t y u _ _ _ _ h
  ·rcases bA c with⟨j,u,rfl,rfl⟩|⟨y,u,rfl,rfl⟩
   ·rw[Xs]at h;exact SeqAt.EqAt.str_int x t j u _ _ _ _ h
   ·rw[SE]at h;exact wpAny_eqBool_str h
 «strs»:=λk x t v h=>by
  rcases bA h with⟨i,u,rfl,e⟩|⟨y,u,rfl,e⟩
  ·exact nomatch e
  ·injection e with e1 _;subst e1;cases v<;>rfl
theorem JX(prog:A3)(w:A4)(i:Int)(t:Tok):(bV prog w).is (.inl i) (.int i t)=true:=Te i t
theorem JZ(prog:A3)(w:A4)(x:AJ)(t:Tok):(bV prog w).is (.inr x) (.str x t)=true:=Tf x t
end L2
namespace L2
inductive V where
 |non|bl (b:Bool)|int (i:Int)|str (x:Str)|byt (b:Array UInt8)|flt (b:UInt64)|ref (a:Addr)|ty (n:String)
 deriving DecidableEq
def At:V->A0->Prop
 |.non,u=>u=Value.none
 |.bl b,u=>u=Value.bool b
 |.int i,u=>∃t,u=Value.int i t
 |.str x,u=>∃t,u=Value.str x t
 |.byt b,u=>∃t,u=Value.bytes b t
 |.flt b,u=>∃t,u=Value.float b t
 |.ref a,u=>u=Value.ref a
 |.ty n,u=>u=Value.type n
abbrev AX:O V->O A0->Prop:=AI At
theorem AX.length{xs:O V}{us:O A0}(r:AX xs us):xs.length=us.length:=Paired.length r
theorem AX.get:∀{xs:O V} {us:O A0} {i:Nat} {x:V},AX xs us->xs[i]?=Z x->∃u,us[i]?=Z u/\At x u
 |_,_,_,_,.nil,e=>by simp at e
 |_,_,0,_,.cons r _,e=>by simp at e;subst e;exact⟨_,rfl,r⟩
 |_,_,i+1,x,.cons _ t,e=>by
  obtain⟨u,h1,h2⟩:=AX.get (i:=i) (x:=x) t (by simpa using e);exact⟨u,by simpa using h1,h2⟩
theorem AX.set{x:V}{u:A0}(r:At x u):∀{xs:O V} {us:O A0} (i:Nat),AX xs us->AX (xs.set i x) (us.set i u)
 |_,_,_,.nil=>.nil
 |_,_,0,.cons _ t=>.cons r t
 |_,_,i+1,.cons q t=>.cons q (AX.set r i t)
theorem AX.append:∀{xs ys:O V} {us a:O A0},AX xs us->AX ys a->AX (xs++ys) (us++a)
 |_,_,_,_,.nil,s=>s
 |_,_,_,_,.cons r t,s=>.cons r (AX.append t s)
theorem AX.take:∀{xs:O V} {us:O A0} (n:Nat),AX xs us->AX (xs.take n) (us.take n)
 |_,_,0,_=>.nil
 |_,_,_+1,.nil=>.nil
 |_,_,n+1,.cons r t=>.cons r (AX.take n t)
theorem AX.drop:∀{xs:O V} {us:O A0} (n:Nat),AX xs us->AX (xs.drop n) (us.drop n)
 |_,_,0,r=>r
 |_,_,_+1,.nil=>.nil
 |_,_,n+1,.cons _ t=>AX.drop n t
def DN:Y V->Y A0->Prop
 |some v,Z u=>At v u
 |none,U=>True
 |_,_=>False
def KV:O (κ×V)->O (κ×A0)->Prop:=AI λ(p:κ×V) (q:κ×A0)=>p.1=q.1/\At p.2 q.2
def kV:AY->V
 |.inl i=>.int i
 |.inr x=>.str x
inductive HO where
 |lst (xs:List V)
 |tup (xs:List V)
 |dK (AO:List (AY×V))|dT (AO:List (List AY×V))
 |set (S:Int->Bool) (n:Nat)
 |ins (C dx:Addr) (fs:List (Str×V))
 |own (x:Addr)
 |xd (fs:List (Str×V))
 |met (f x:Addr)
 |rng (lo hi:Int)
 |gF (o:Obj) (u:HO)
 |Hr (ps:Array Value)
 |ext (φ:Heap->Prop)
abbrev Hp:=A1->Y HO
def B4(H:Hp)(a:A1)(o:HO):Hp:=λb=>if b=a then Z o else H b
theorem aJ{H:Hp}{o:HO}:B4 H a o a=Z o:=by unfold B4;rw[zl rfl]
theorem aD{H:Hp}{b:A1}{o:HO}(h:b≠a):B4 H a o b=H b:=by unfold B4;rw[zD h]
def rO(h:A6)(a:A1)(items:Array A0):Prop:=∃o,h.get? a=Z o/\o.cls=.type "tuple" ∧ (∃n,o.data=.seq items n)/\o.dict=U
theorem rO.weak(x:rO h a items):IsTup h a items:=let ⟨o,e,c,d,_⟩:=x;⟨o,e,c,d⟩
theorem rO.new(h:A6)(items:Array A0):rO (h.push { cls:=.type "tuple",data:=.seq items }) h.objs.size items:=⟨_,zt _ rfl,rfl,⟨_,rfl⟩,rfl⟩
theorem iZ{H:Hp}{b:A1}{o u:HO}(h:H a=Z o)(h':H b=Z u)(d:o≠u):a≠b:=by
 intro e;subst e;rw[h]at h';exact d (kc h')
theorem bK{H:Hp}{b:A1}{o:HO}(h:H a=Z o)(h':H b=U):a≠b:=by
 intro e;subst e;rw[h]at h';cases h'
def tq(ps:Array A0):AJ:=match ps[0]? with
 |some (Value.str q _)=>q
 |_ => ""
def tr(ps:Array A0):Array A0:=ps.extract 1 ps.size
def L8:AZ:=["most_word","longest_word","ground_of","least_for","nearest_pair"]
def GB(K:Au)(P:A1)(q:AJ):Prop:=∃c o vs x t,K.lookup c=Z o/\o.data=.fields vs/\vs[1]?=Z (.str x t)/\x∈L8/\vs[11]?=Z (.ref P)/\q=x++(".<locals>.<lambda>":AJ)
def Vq(o:AE):Bool:=match o.data with
 |.fields vs=>match vs[1]? with
  |some (Value.str x _)=>!L8.contains x
  |_=>true
 |_=>true
def QZ(K:Au):Bool:=K.all λp=>Vq p.2
theorem BV:∀{K:Au} {a:A1} {o:AE},K.lookup a=Z o->∃b,(b,o)∈K
 |[],_,_,h=>by cases h
 |(b,u)::K,a,o,h=>by
  rw[ej]at h;split at h
  ·cases h;exact⟨b,ze ..⟩
  ·obtain⟨c,d⟩:=BV h;exact⟨c,zg _ d⟩
theorem N5(h:QZ K=true){P:A1}{q:AJ}:¬ GB K P q:=λ⟨c,o,vs,x,t,e,d,v,m,_⟩=>by
 obtain⟨b,a⟩:=BV e;have:=List.all_eq_true.mp h _ a;unfold Vq at this;simp only[d,v]at this;rw[show L8.contains x=true from fq.mpr m]at this;cases this
def BT(K:Au)(H:Hp):Prop:=∀P q,GB K P q->∃ps,H P=Z (.Hr ps)/\tq ps=q/\0<ps.size
theorem BT.go{H H':Hp}(x:BT K H)(u:∀b ps,H b=Z (.Hr ps)->∃more,H' b=Z (.Hr (ps++more))):BT K H':=λP q k=>by
 obtain⟨ps,e,h,z⟩:=x P q k;obtain⟨more,e'⟩:=u P ps e;refine⟨_,e',?_,by rw[k6];omega⟩;rw[<-h];unfold tq;rw[Array.getElem?_append_left z]
section
variable(P:A3)(w:A4)
def eV(H:Hp)(h:A6)(a:A1):HO->Prop
 |.lst xs=>xs.length<=AA/\∃(AQ:O A0) (n:Nat),AX xs AQ/\h.get? a=Z { cls:=.type "list",data:=.seq AQ.toArray n }
 |.tup xs=>xs.length<=AA/\∃AQ:O A0,AX xs AQ/\rO h a AQ.toArray
 |.dK AO=>AO.length<=AA/\(a==sysModules)=false/\∃vs,KV AO vs/\h.DictOf (bV P w) a vs
 |.dT AO=>AO.length<=AA/\(a==sysModules)=false/\∃xs:O (O AY×A1×A0),
   AI (λ(p:O AY×V) (q:O AY×A1×A0)=>p.1=q.1/\H q.2.1=Z (.tup (p.1.map kV))/\At p.2 q.2.2) AO xs ∧
   ∃o es ep,h.get? a=Z o/\o.ExactDict/\o.data=.dict es ep/\es.toList=xs.map (entryOfKey (tupleKind (bV P w)))/\(xs.map (·.1)).Nodup
 |.set S n=>h.SetOf (intKind P w) a S n
 |.ins C dx fs=>H dx=Z (.own a)/\fs.length<=1000/\dx≠a/\h.get? a=Z (PySem.W.instObj C dx) ∧
   ∃mA,h.Ns1 dx mA/\(∀f,DN (fs.lookup f) (mA f))/\PySem.Within mA (fs.map (·.1))
 |.own _=>∃o,h.get? a=Z o
 |.xd fs=>∃mA,h.Ns1 a mA/\∀f,DN (fs.lookup f) (mA f)
 |.rng lo hi=>∃t u v,h.get? a=Z { cls:=.type "range",data:=.fields #[.int lo t,.int hi u,.int 1 v] }
 |.gF o u=>h.get? a=Z o/\eV H h a u
 |.Hr ps=>∃more,h.get? a=Z { cls:=.none,data:=.fields (tr ps++more) }/\TriplesOk (tr ps++more).toList ∧
   ∀pos e,codeAmong pos (tr ps++more).toList=Z e->∃c d vs t,e=.ref c/\H c=Z (.gF d (.ext λ_=>True))/\d.data=.fields vs/\vs[1]?=Z (.str (tq ps) t)
 |.met f x=>h.get? a=Z (methodObj (.ref f) (.ref x))
 |.ext b=>b h/\(∃o,h.get? a=Z o)/\∀h1 h2:A6,b h1->(∀o,h1.get? a=Z o->h2.get? a=Z o)->b h2
def vZ(H:Hp)(h:A6):Prop:=∀a o,H a=Z o->eV P w H h a o
end
section
variable{H H':Hp}{h':A6}{o:HO}
theorem eV.lt(x:eV P w H h a o):a<h.objs.size:=by
 cases o with
 |lst xs=>obtain⟨_,_,_,_,e⟩:=x;exact zI e
 |tup xs=>obtain⟨_,_,_,p⟩:=x;exact p.weak.lt
 |dK AO=>obtain⟨_,_,_,_,o,_,_,e,_⟩:=x;exact zI e
 |dT AO=>obtain⟨_,_,_,_,o,_,_,e,_⟩:=x;exact zI e
 |set S n=>obtain⟨o,_,_,_,e,_⟩:=x;exact zI e
 |ins C dx fs=>obtain⟨_,_,_,e,_⟩:=x;exact zI e
 |own y=>obtain⟨_,e⟩:=x;exact zI e
 |xd fs=>obtain⟨_,⟨_,_,_,e,_⟩,_⟩:=x;exact zI e
 |rng lo hi=>obtain⟨_,_,_,e⟩:=x;exact zI e
 |gF c u=>obtain⟨e,_⟩:=x;exact zI e
 |Hr ps=>obtain⟨_,e,_⟩:=x;exact zI e
 |met f y=>exact zI (show h.get? a=Z _ from x)
 |ext b=>obtain⟨_,⟨_,e⟩,_⟩:=x;exact zI e
theorem Paired.Ze{α β:Type}{F G:α->β->Prop}:∀{c:O α} {d:O β},AI F c d->(∀a b,F a b->G a b)->AI G c d
 |_,_,.nil,_=>.nil
 |_,_,.cons r t,f=>.cons (f _ _ r) (Paired.Ze t f)
theorem Paired.imp'{F G:α->β->Prop}(f:∀a b,F a b->G a b){c:O α}{d:O β}(r:AI F c d):AI G c d:=Paired.Ze r f
theorem eV.stay(x:eV P w H h a o)(k:∀b u,(b=a\/H b=Z (.own a))->h.get? b=Z u->h'.get? b=Z u)
  (A:∀b,H b=Z (.own a)->H' b=Z (.own a)) (G:∀b xs,H b=Z (.tup xs)->H' b=Z (.tup xs)) (D:∀b o l,H b=Z (.gF o (.ext l))->H' b=Z (.gF o (.ext l))):eV P w H' h' a o:=by
 induction o with
 |lst xs=>obtain⟨z,AQ,n,r,e⟩:=x;exact⟨z,AQ,n,r,k _ _ (.inl rfl) e⟩
 |tup xs=>obtain⟨z,AQ,r,i,e,c⟩:=x;exact⟨z,AQ,r,i,k _ _ (.inl rfl) e,c⟩
 |dK AO=>obtain⟨z,y,vs,r,i,es,ep,e,c⟩:=x;exact⟨z,y,vs,r,i,es,ep,k _ _ (.inl rfl) e,c⟩
 |dT AO=>
  obtain⟨z,y,xs,r,i,es,ep,e,c⟩:=x;exact⟨z,y,xs,Paired.Ze r λp q z=>⟨z.1,G _ _ z.2.1,z.2.2⟩,i,es,ep,k _ _ (.inl rfl) e,c⟩
 |set S n=>obtain⟨i,es,ep,t,e,c⟩:=x;exact⟨i,es,ep,t,k _ _ (.inl rfl) e,c⟩
 |ins C dx fs=>
  obtain⟨d,z,E,e,mA,⟨j,es,ep,e2,c⟩,r⟩:=x;exact⟨A _ d,z,E,k _ _ (.inl rfl) e,mA,⟨j,es,ep,k _ _ (.inr d) e2,c⟩,r⟩
 |own y=>obtain⟨i,e⟩:=x;exact⟨i,k _ _ (.inl rfl) e⟩
 |xd fs=>obtain⟨mA,⟨j,es,ep,e,c⟩,r⟩:=x;exact⟨mA,⟨j,es,ep,k _ _ (.inl rfl) e,c⟩,r⟩
 |rng lo hi=>obtain⟨t,u,v,e⟩:=x;exact⟨t,u,v,k _ _ (.inl rfl) e⟩
 |gF i u s=>obtain⟨e,q⟩:=x;exact⟨k _ _ (.inl rfl) e,s q⟩
 |Hr ps=>
  obtain⟨more,e,F,I⟩:=x;refine⟨more,k a _ (.inl rfl) e,F,λpos B z=>?_⟩;obtain⟨c,m,vs,t,rfl,g,d,v⟩:=I pos B z;exact⟨c,m,vs,t,rfl,D c m _ g,d,v⟩
 |met f y=>
  have e:h.get? a=Z (methodObj (.ref f) (.ref y)):=x;show h'.get? a=Z (methodObj (.ref f) (.ref y));exact k a _ (.inl rfl) e
 |ext l=>obtain⟨p,⟨o,e⟩,st⟩:=x;exact⟨st _ _ p λo q=>k _ _ (.inl rfl) q,⟨o,k _ _ (.inl rfl) e⟩,st⟩
theorem vZ.lt(x:vZ P w H h)(e:H a=Z o):a<h.objs.size:=(x a o e).lt
theorem vZ.fresh(x:vZ P w H h)(e:h.objs.size<=a):H a=U:=by
 cases q:H a with
 |none=>rfl
 |some u=>exact absurd (ZN (x.lt q) e) (jb _)
theorem vZ.kept(x:vZ P w H h)(k:∀b u,h.get? b=Z u->h'.get? b=Z u):vZ P w H h':=λa o e=>
 (x a o e).stay (λb u _ q=>k b u q) (λ_ q=>q) (λ_ _ q=>q) λ_ _ _ q=>q
theorem vZ.laid(x:vZ P w H h)(k:∀b u,h.get? b=Z u->h'.get? b=Z u)(hp:h.objs.size<=a)(new:eV P w (B4 H a o) h' a o):vZ P w (B4 H a o) h':=λb u e=>by
 have d:=x.fresh hp;by_cases f:b=a
 ·subst f;rw[aJ]at e;cases e;exact new
 ·rw[aD f]at e;exact(x b u e).stay (λc v _ q=>k c v q) (λc q=>by rw[aD (bK q d)];exact q) (λc xs q=>by rw[aD (bK q d)];exact q) λc o' g q=>by rw[aD (bK q d)];exact q
end
def Rd(H:Hp)(a:A1)(u:HO):Prop:=H a=Z u\/∃o,H a=Z (.gF o u)
theorem Rd.ok{H:Hp}{u:HO}(r:Rd H a u)(x:vZ P w H h):eV P w H h a u:=by
 rcases r with r|⟨o,r⟩
 ·exact x a u r
 ·obtain⟨_,q⟩:=x a _ r;exact q
def ER:Y HO->Prop
 |some (.lst _)=>True
 |some (.dK _)=>True
 |some (.dT _)=>True
 |some (.set _ _)=>True
 |some (.ins _ _ _)=>True
 |some (.ext _)=>True
 |_=>False
section
variable{H:Hp}{h':A6}{x e:A1}{o':HO}
theorem vZ.write(ok:vZ P w H h)(a:ER (H x))(he:e=x\/H e=Z (.own x))(k:∀b u,b≠e->h.get? b=Z u->h'.get? b=Z u)(o:∃u,h'.get? e=Z u)
  (new:eV P w (B4 H x o') h' x o'):vZ P w (B4 H x o') h':=λb u q=>by
 have l:∀c y,H c=Z (.own y)->c≠x:=λc y r z=>by subst z;rw[r]at a;exact a
 have p:∀c xs,H c=Z (.tup xs)->c≠x:=λc xs r z=>by subst z;rw[r]at a;exact a
 have n:∀c o' i,H c=Z (.gF o' i)->c≠x:=λc o' i r z=>by subst z;rw[r]at a;exact a
 by_cases g:b=x
 ·subst g;rw[aJ]at q;cases q;exact new
 ·rw[aD g]at q;by_cases d:b=e
  ·have j:H b=Z (.own x):=by
    rcases he with z|z
    ·exact absurd (d.trans z) g
    ·rw[d];exact z
   rw[q]at j;cases j;obtain⟨v,m⟩:=o;exact⟨v,by rw[d];exact m⟩
  ·refine(ok b u q).stay (λc v f r=>k c v ?_ r) (λc r=>by rw[aD (l c b r)];exact r) (λc xs r=>by rw[aD (p c xs r)];exact r) λc o' i r=>by rw[aD (n c o' _ r)];exact r
   rcases f with rfl|f
   ·exact d
   ·rintro rfl;rcases he with z|z
    ·exact l c b f z
    ·rw[f]at z;cases z;exact g rfl
end
structure Un (fs ex:List Addr) (H H':Hp) (h h':Heap):Prop where
 keep:∀b o,h.get? b=some o->H b=none->b∉fs->b∉ex->h'.get? b=some o
 slot:∀b o,h.get? b=some o->H b=none->b∈fs->b∉ex->∃sl,h'.get? b=some { o with slots:=sl }
 free:∀b o,h.get? b=some o->H b=none->b∉ex->H' b=none
 there:∀b o,h.get? b=some o->b∉ex->∃o',h'.get? b=some o'
 tups:∀b xs,H b=some (.tup xs)->H' b=some (.tup xs)
 rP:∀b o u,H b=some (.gF o u)->H' b=some (.gF o u)
 wg:∀b ps,H b=some (.Hr ps)->∃more,H' b=some (.Hr (ps++more))
section
variable{fs fs' ex ex':O A1}{H H1 H2:Hp}{h1 h2 h':A6}{x e:A1}{o:HO}
theorem Un.any(u:Un fs ex H H1 h h1){b:A1}{a:AE}(q:h.get? b=Z a)(n:H b=U)(hx:b∉ex):∃sl,h1.get? b=Z { a with slots:=sl }:=by
 by_cases c:b∈fs
 ·exact u.slot b a q n c hx
 ·exact⟨a.slots,u.keep b a q n c hx⟩
theorem Un.kept(k:∀b u,h.get? b=Z u->h'.get? b=Z u):Un fs ex H H h h':=
 ⟨λb a q _ _ _=>k b a q,λb a q _ _ _=>⟨a.slots,k b a q⟩,λ_ _ _ n _=>n,λb a q _=>⟨a,k b a q⟩,λ_ _ q=>q,λ_ _ _ q=>q,λ_ ps q=>⟨#[],by rw[q];simp⟩⟩
theorem Un.refl:Un fs ex H H h h:=Un.kept λ_ _ q=>q
theorem Un.laid(k:∀b u,h.get? b=Z u->h'.get? b=Z u)(hp:h.objs.size<=a)(c:H a=U):Un fs ex H (B4 H a o) h h' where
 keep:=λb u q _ _ _=>k b u q
 slot:=λb u q _ _ _=>⟨u.slots,k b u q⟩
 free:=λb u q n _=>by rw[aD (z5 (ZN (zI q) hp))];exact n
 there:=λb u q _=>⟨u,k b u q⟩
 tups:=λb xs q=>by rw[aD (bK q c)];exact q
 rP:=λb u xs q=>by rw[aD (bK q c)];exact q
 wg:=λb ps q=>⟨#[],by rw[aD (bK q c),q];simp⟩
theorem Un.write(a:ER (H x))(he:e=x\/H e=Z (.own x))(k:∀b u,b≠e->h.get? b=Z u->h'.get? b=Z u)(g:∃u,h'.get? e=Z u):Un fs ex H (B4 H x o) h h':=by
 have hx:∀b,H b=U->b≠x:=λb n z=>by subst z;rw[n]at a;exact a
 have f:∀b,H b=U->b≠e:=λb n z=>by
  subst z;rcases he with r|r
  ·exact hx b n r
  ·rw[n]at r;cases r
 have c:∀b u,H b=Z u->¬ ER (Z u)->b≠x:=λb u q nm z=>by subst z;rw[q]at a;exact nm a
 refine⟨λb u q n _ _=>k b u (f b n) q,λb u q n _ _=>⟨u.slots,k b u (f b n) q⟩,λb u q n _=>by rw[aD (hx b n)];exact n,λb u q _=>?_,
  λb xs q=>by rw[aD (c b _ q λz=>z)];exact q,λb u xs q=>by rw[aD (c b _ q λz=>z)];exact q,λb ps q=>⟨#[],by rw[aD (c b _ q λz=>z),q];simp⟩⟩
 by_cases d:b=e
 ·subst d;exact g
 ·exact⟨u,k b u d q⟩
end
def Eg(h:A6)(H:Hp):O A1:=(bq h.objs.size).filter λa=>(H a).isSome
def Ht(h:A6)(H:Hp):A6:=PySem.W.hideAll h (Eg h H)
theorem Tg(h:A6)(H:Hp):(Ht h H).objs.size=h.objs.size:=PySem.W.hideAll_size _ _
theorem Vr{H:Hp}{b:A1}(e:h.get? b=Z o)(n:H b=U):(Ht h H).get? b=Z o:=
 PySem.W.hideAll_get _ e λa=>by
  have q:(H b).isSome=true:=(bb.mp a).2;rw[n]at q;simp at q
theorem Zf{H:Hp}{b:A1}(e:(Ht h H).get? b=Z o):h.get? b=Z o/\H b=U:=by
 have e':h.get? b=Z o:=PySem.W.of_hideAll (Eg h H) e;refine⟨e',?_⟩;cases q:H b with
 |none=>rfl
 |some x=>
  have a:b∈Eg h H:=bb.mpr ⟨bz.mpr (zI e'),by simp[q]⟩;have z:(Ht h H).get? b=U:=PySem.W.hideAll_none (Eg h H) a;rw[z]at e;cases e
def Zg(g h:A6)(L:A1):O (A1×AE):=(bq h.objs.size).filterMap λa=>if a=L\/(g.get? a).isSome=true then U else(h.get? a).map λo=>(a,o)
def AS(g h:A6)(L d:A1):O (A1×AE):=(Zg g h L).filter λp=>decide (p.1≠d)
end L2
namespace L2
structure Mod (K:Au) (mg:Str->Option Value) (base:Heap):Prop where
 kin:K.In base
 glob:base.Ns mainGlobals mg
 blt:∃mb,base.Ns builtinsNs mb/\∀x:Str,x ≠ "__name__" → mb x=bootBuiltins x
 nolimit:base.NoLimit
 bmain:∃bm ob,mg "__builtins__"=some (.ref bm)/\bm≠builtinsNs/\base.get? bm=some ob/\ob.cls=.type "module" ∧ ob.dict=some builtinsNs/\ob.data=.plain
structure Cx where
 prog:Program
 w:World
 K:Au
 mg:Str->Option Value
 base:Heap
 A:Around
 N:AZ
 s₀:Shared
 H₀:Hp
 env:Env
 outer:List Env
 stack:List Env
 ex:List Addr
 fn:Str->Bool
 calm:Bool
 pn:List (Addr×Obj)
 xe:B7
abbrev bi(X:Cx):=A8 X.prog X.w
def CY(l:O Env):O A1:=l.filterMap (·.frame)
abbrev Cx.fs(X:Cx):O A1:=CY X.outer
def Q0(a:Scope)(x:AJ):Prop:=a.names.lookup x=Z .local\/a.names.lookup x=Z .cell\/a.names.lookup x=Z .free
def D0(a:Scope)(x:AJ):Prop:=a.names.lookup x=Z .local\/a.names.lookup x=Z .cell
def GM(env:Env)(h:A6)(m:AJ->Y A0)(x:AJ)(u:A0):Prop:=
 (env.kindOf x=Z .local/\m x=Z u)\/((env.kindOf x=Z .cell\/env.kindOf x=Z .free)/\∃c,env.cells.lookup x=Z c/\h.IsCell c (Z u))
structure Cx.Ok (X:Cx):Prop where
 mod:Mod X.K X.mg X.base
 kind:X.env.scope.kind=.function
 glob:X.env.globals=mainGlobals
 blt:X.env.builtins=builtinsNs
 above:X.s₀.heap.objs.size<=X.env.locals
 inj:∀x y c,X.env.cells.lookup x=some c->X.env.cells.lookup y=some c->x=y
 has:∀x,(X.env.kindOf x=some .cell\/X.env.kindOf x=some .free)->∃c,X.env.cells.lookup x=some c
 cab:∀x c,X.fn x=true->X.env.cells.lookup x=some c->X.s₀.heap.objs.size<=c
 hd:X.calm=true->X.A.handled=none
 frames:X.A.frames=some X.stack
 stk:X.stack=X.outer\/(X.stack=X.env::X.outer/\X.env.frame=some X.env.locals)
 exf:∀b∈X.ex,b≠X.env.locals/\∀x c,X.env.cells.lookup x=some c->c≠b
 bs:∀b o,X.base.get? b=some o->X.s₀.heap.get? b=some o/\X.H₀ b=none
 bsz:X.base.objs.size<=X.s₀.heap.objs.size
 Vs:∀b o,X.base.get? b=some o->b∉X.ex
 Zh:∀b∈X.ex,b∉X.fs
 Aa:X.s₀.heap.FunFrames X.base X.outer
 frf:∀b∈X.fs,X.H₀ b=none
 tabs:BT X.K X.H₀
structure AU (X:Cx) (AN:List (Addr×Obj)) (σ:List (Option V)) (H:Hp) (s:Shared):Prop where
 ok:X.Ok
 os:s.os=X.s₀.os
 bare:AllBare s.gens
 base:Un X.fs X.ex X.H₀ H X.s₀.heap s.heap
 loc:∃m,s.heap.Ns X.env.locals m/\∀(i:Nat) (x:Str) (v:V),X.N[i]?=some x->σ[i]?=some (some v)->Q0 X.env.scope x->∃u,At v u/\GM X.env s.heap m x u
 cell:∀x c,X.env.cells.lookup x=some c->∃v,s.heap.IsCell c v
 free:H X.env.locals=none
 mC:∀x c,X.env.cells.lookup x=some c->H c=none
 pin:∀p∈X.pn++AN,s.heap.get? p.1=some p.2/\H p.1=none/\p.1≠X.env.locals/\p.1∉X.fs/\∀v,p.2.data≠.cell v
 hok:vZ X.prog X.w H s.heap
 len:σ.length=X.N.length
section
variable{X:Cx}{σ:O (Y V)}{H H':Hp}{h':A6}
theorem Cx.Ok.ahO(ok:X.Ok){b:A1}(e:X.base.get? b=Z o):b∉X.fs:=λa=>by
 have:=(ok.Aa.mem a).1;rw[e]at this;cases this
theorem AU.bs(I:AU X AN σ H s):∀b o,X.base.get? b=Z o->s.heap.get? b=Z o/\H b=U:=λb o e=>
 ⟨I.base.keep b o (I.ok.bs b o e).1 (I.ok.bs b o e).2 (I.ok.ahO e) (I.ok.Vs b o e),I.base.free b o (I.ok.bs b o e).1 (I.ok.bs b o e).2 (I.ok.Vs b o e)⟩
theorem AU.bk(I:AU X AN σ H s):∀b o,X.base.get? b=Z o->s.heap.get? b=Z o:=λb o e=>(I.bs b o e).1
theorem AU.mod(I:AU X AN σ H s):Mod X.K X.mg X.base:=I.ok.mod
theorem AU.kIn(I:AU X AN σ H s):X.K.In s.heap:=I.ok.mod.kin.keeps I.bk
theorem AU.lt(I:AU X AN σ H s):X.env.locals<s.heap.objs.size:=let ⟨_,hn,_⟩:=I.loc;hn.lt
theorem AU.sz(I:AU X AN σ H s):X.s₀.heap.objs.size<=s.heap.objs.size:=Zs I.ok.above (Q2 I.lt)
theorem AU.ahP(I:AU X AN σ H s)(h:s.heap.objs.size<=a):a∉X.fs:=λc=>by
 obtain⟨_,o,b,_⟩:=I.ok.Aa.mem c;exact absurd (ZN (zI b) (Zs I.sz h)) (jb _)
theorem AU.cne(I:AU X AN σ H s):∀x c,X.env.cells.lookup x=Z c->c≠X.env.locals:=λx c e z=>by
 obtain⟨v,o,b,a⟩:=I.cell x c e;obtain⟨m,⟨o',es,ep,d,f,_⟩,_⟩:=I.loc;rw[z,d]at b;cases b;rw[f]at a;cases a
theorem AU.Aa(I:AU X AN σ H s):s.heap.FunFrames X.base X.outer:=by
 have all:∀(l:O Env),(∀b∈CY l,b∈X.fs)->X.s₀.heap.FunFrames X.base l->s.heap.FunFrames X.base l:=by
  intro l
  induction l with
  |nil=>intro _ _;trivial
  |cons env r f=>
   intro hs h;obtain⟨hk,⟨L,o,a,i,g,m⟩,j⟩:=h;have d:L∈X.fs:=hs L (by unfold CY;rw[Ki,a];exact ze);obtain⟨sl,e⟩:=I.base.slot L o g (I.ok.frf L d) d λz=>I.ok.Zh L z d;exact⟨hk,⟨L,_,a,i,e,m⟩,f (λb c=>hs b (by unfold CY;rw[Ki,a];exact zg _ c)) j⟩
 exact all X.outer (λ_ c=>c) I.ok.Aa
theorem AU.stack(I:AU X AN σ H s):s.heap.FunFrames X.base X.stack:=by
 rcases I.ok.stk with e|⟨e,b⟩
 ·rw[e];exact I.Aa
 ·rw[e];obtain⟨m,a,_⟩:=I.loc;refine .cons (by rw[I.ok.kind];decide) b a ?_ I.Aa;exact Heap.get?_none_of_le (Zs I.ok.bsz I.ok.above)
theorem AU.Ab(I:AU X AN σ H s):∀b∈CY X.stack,b∈X.env.locals::X.fs:=λb a=>by
 rcases I.ok.stk with e|⟨e,c⟩
 ·rw[e]at a;exact zg _ a
 ·rw[e]at a;unfold CY at a;rw[Ki,c]at a;exact a
theorem AU.Q5(I:AU X AN σ H s):∀b∈CY X.stack,H b=U:=λb a=>by
 rcases List.mem_cons.mp (I.Ab b a)with e|a
 ·rw[e];exact I.free
 ·obtain⟨_,o,c,_⟩:=I.ok.Aa.mem a;exact I.base.free b o c (I.ok.frf b a) λz=>I.ok.Zh b z a
theorem AU.step{g':Array GenState}{t':Nat}{d':Drawn}{ch:O A1}(I:AU X AN σ H s)
  (h:∀b∈ch,(b∈X.ex\/X.s₀.heap.objs.size<=b)/\b≠X.env.locals/\(∀x c,X.env.cells.lookup x=Z c->c≠b)/\∀p∈X.pn++AN,p.1≠b)
  (keep:∀b o,b≠X.env.locals->b∉X.fs->b∉ch->s.heap.get? b=Z o->H b=U->h'.get? b=Z o)
  (slot:∀b o,b≠X.env.locals->b∈X.fs->b∉ch->s.heap.get? b=Z o->H b=U->∃sl,h'.get? b=Z { o with slots:=sl }) (free:∀b o,b∉ch->s.heap.get? b=Z o->H b=U->H' b=U)
  (F:∀b o,b∉ch->s.heap.get? b=Z o->∃o',h'.get? b=Z o')
  (J:∀b xs,H b=Z (.tup xs)->H' b=Z (.tup xs)) (rP:∀b o u,H b=Z (.gF o u)->H' b=Z (.gF o u)) (Q:∀b ps,H b=Z (.Hr ps)->∃more,H' b=Z (.Hr (ps++more)))
  (E:∀m,s.heap.Ns X.env.locals m->h'.Ns X.env.locals m) (K:vZ X.prog X.w H' h') (G:AllBare g'):
  AU X AN σ H' { s with heap:=h',gens:=g',drawn:=d',toks:=t' }:=by
 have B:∀b o,X.s₀.heap.get? b=Z o->b≠X.env.locals:=λb o e=>z5 (ZN (zI e) I.ok.above);have j:∀b o,X.s₀.heap.get? b=Z o->b∉X.ex->b∉ch:=λb o e hx a=>by
  rcases(h b a).1 with z|z
  ·exact hx z
  ·exact absurd (ZN (zI e) z) (jb _)
 have D:∀x c,X.env.cells.lookup x=Z c->∀v,s.heap.IsCell c v->h'.IsCell c v:=λx c e v ⟨o,f,t⟩=>by
  have g:c∉ch:=λz=>(h c z).2.2.1 x c e rfl;by_cases A:c∈X.fs
  ·obtain⟨sl,q⟩:=slot c o (I.cne x c e) A g f (I.mC x c e);exact⟨_,q,t⟩
  ·exact⟨o,keep c o (I.cne x c e) A g f (I.mC x c e),t⟩
 refine⟨I.ok,I.os,G,⟨λb o e n a hx=>?_,λb o e n a hx=>?_,λb o e n hx=>?_,λb o e hx=>?_,λb xs e=>J b xs (I.base.tups b xs e),λb o xs e=>rP b o xs (I.base.rP b o xs e),λb ps e=>?_⟩,?_,λx c e=>?_,?_,λx c e=>?_,λp hp=>?_,K,I.len⟩
 ·exact keep b o (B b o e) a (j b o e hx) (I.base.keep b o e n a hx) (I.base.free b o e n hx)
 ·obtain⟨sl,e1⟩:=I.base.slot b o e n a hx;obtain⟨M,e2⟩:=slot b _ (B b o e) a (j b o e hx) e1 (I.base.free b o e n hx);exact⟨M,e2⟩
 ·obtain⟨o',e1⟩:=I.base.there b o e hx;exact free b o' (j b o e hx) e1 (I.base.free b o e n hx)
 ·obtain⟨o',e1⟩:=I.base.there b o e hx;exact F b o' (j b o e hx) e1
 ·obtain⟨N,e1⟩:=I.base.wg b ps e;obtain⟨m2,e2⟩:=Q b _ e1;exact⟨N++m2,by rw[e2,Array.append_assoc]⟩
 ·obtain⟨m,P,L⟩:=I.loc;refine⟨m,E m P,λi x v e1 e2 e3=>?_⟩;obtain⟨u,r,l⟩:=L i x v e1 e2 e3;refine⟨u,r,?_⟩;rcases l with l|⟨k,c,e,z⟩
  ·exact .inl l
  ·exact .inr ⟨k,c,e,D x c e _ z⟩
 ·obtain⟨v,z⟩:=I.cell x c e;exact⟨v,D x c e v z⟩
 ·obtain⟨m,⟨o,_,_,f,_⟩,_⟩:=I.loc;exact free _ o (λz=>(h _ z).2.1 S) f I.free
 ·obtain⟨v,o,f,t⟩:=I.cell x c e;exact free c o (λz=>(h c z).2.2.1 x c e S) f (I.mC x c e)
 ·obtain⟨e,n,y,C,d⟩:=I.pin p hp;have g:p.1∉ch:=λz=>(h p.1 z).2.2.2 p hp rfl;exact⟨keep p.1 p.2 y C g e n,free p.1 p.2 g e n,y,C,d⟩
theorem AU.un{t':Nat}(I:AU X AN σ H s)(u:Un X.fs [] H H' s.heap h')(h:vZ X.prog X.w H' h'):AU X AN σ H' { s with heap:=h',toks:=t' }:=by
 obtain⟨m,⟨o,es,ep,c,r⟩,_⟩:=id I.loc;obtain⟨sl,l⟩:=u.any c I.free (by simp);exact I.step (g':=s.gens) (d':=s.drawn) (ch:=[]) (λ_ z=>nomatch z) (λb o _ a _ e n=>u.keep b o e n a (by simp)) (λb o _ a _ e n=>u.slot b o e n a (by simp)) (λb o _ e n=>u.free b o e n (by simp)) (λb o _ e=>u.there b o e (by simp)) u.tups u.rP u.wg (λp i=>by
  obtain⟨o',j,f,d,g⟩:=i;rw[c]at d;cases d;exact⟨_,j,f,l,g⟩) h I.bare
theorem AU.call{g':Array GenState}{t':Nat}{d':Drawn}{ch:O A1}(I:AU X AN σ H s)(u:Un (CY X.stack) ch H H' s.heap h')(q:vZ X.prog X.w H' h')(y:AllBare g')
  (g:∀b∈ch,(b∈X.ex\/X.s₀.heap.objs.size<=b)/\b≠X.env.locals/\(∀x c,X.env.cells.lookup x=Z c->c≠b)/\∀p∈X.pn++AN,p.1≠b):
  AU X AN σ H' { s with heap:=h',gens:=g',drawn:=d',toks:=t' }:=by
 obtain⟨m,⟨o,es,ep,f,r⟩,_⟩:=id I.loc;obtain⟨sl,d⟩:=u.any f I.free λz=>(g _ z).2.1 rfl;exact I.step (ch:=ch) g (λb o d j a e n=>u.keep b o e n (λz=>(List.mem_cons.mp (I.Ab b z)).elim d j) a) (λb o _ _ a e n=>u.any e n a) (λb o a e n=>u.free b o e n a) (λb o a e=>u.there b o e a) u.tups u.rP u.wg (λA t=>by
  obtain⟨o',v,i,h,l⟩:=t;rw[f]at h;cases h;exact⟨_,v,i,d,l⟩) q y
theorem AU.turned{t':Nat}(I:AU X AN σ H s)(k:∀b o,b≠it->s.heap.get? b=Z o->h'.get? b=Z o)(h:H it=U)(f:it≠X.env.locals)(h1:it∈X.ex\/X.s₀.heap.objs.size<=it)(h2:∀x c,X.env.cells.lookup x=Z c->c≠it)(l:∀p∈X.pn++AN,p.1≠it):AU X AN σ H { s with heap:=h',toks:=t' }:=by
 have d:∀b u,H b=Z u->b≠it:=λb u e z=>by rw[z,h]at e;cases e
 refine I.step (g':=s.gens) (d':=s.drawn) (ch:=[it]) (λb i=>?_) (λb o _ _ a e _=>k b o (λz=>a (by simp[z])) e) (λb o _ _ a e _=>⟨o.slots,k b o (λz=>a (by simp[z])) e⟩) (λ_ _ _ _ n=>n)
  (λb o a e=>⟨o,k b o (λz=>a (by simp[z])) e⟩) (λ_ _ e=>e) (λ_ _ _ e=>e) (λb ps e=>⟨#[],by rw[e];simp⟩) (λm j=>?_) (λb u e=>?_) I.bare
 ·have e:b=it:=by simpa using i
  subst e;exact⟨h1,f,h2,l⟩
 ·obtain⟨o,es,ep,g,r⟩:=j;exact⟨o,es,ep,k _ o (KI f) g,r⟩
 ·refine(I.hok b u e).stay (λc v a q=>k c v ?_ q) (λ_ q=>q) (λ_ _ q=>q) λ_ _ _ q=>q;rcases a with z|z
  ·rw[z];exact d b u e
  ·exact d c _ z
theorem AU.tok(I:AU X AN σ H s)(t:Nat):AU X AN σ H { s with toks:=t }:=I.un (h':=s.heap) (t':=t) Un.refl I.hok
theorem AU.kept{t':Nat}(I:AU X AN σ H s)(k:∀b u,s.heap.get? b=Z u->h'.get? b=Z u):AU X AN σ H { s with heap:=h',toks:=t' }:=I.un (Un.kept k) (I.hok.kept k)
theorem AU.laid{a:A1}{o:HO}{t':Nat}(I:AU X AN σ H s)(k:∀b u,s.heap.get? b=Z u->h'.get? b=Z u)(hp:s.heap.objs.size<=a)(new:eV X.prog X.w (B4 H a o) h' a o):
  AU X AN σ (B4 H a o) { s with heap:=h',toks:=t' }:=I.un (Un.laid k hp (I.hok.fresh hp)) (I.hok.laid k hp new)
theorem AU.write{x e:A1}{o:HO}{t':Nat}(I:AU X AN σ H s)(a:ER (H x))(he:e=x\/H e=Z (.own x))(k:∀b u,b≠e->s.heap.get? b=Z u->h'.get? b=Z u)(c:∃u,h'.get? e=Z u)
  (new:eV X.prog X.w (B4 H x o) h' x o):AU X AN σ (B4 H x o) { s with heap:=h',toks:=t' }:=I.un (Un.write a he k c) (I.hok.write a he k c new)
theorem AU.Hu{a:O (A1×AE)}(I:AU X AN σ H s)(h:∀p∈a,s.heap.get? p.1=Z p.2/\H p.1=U/\p.1≠X.env.locals/\p.1∉X.fs/\∀v,p.2.data≠.cell v):AU X a σ H s:=
 ⟨I.ok,I.os,I.bare,I.base,I.loc,I.cell,I.free,I.mC,λp hp=>(List.mem_append.mp hp).elim (λz=>I.pin p (QU _ z)) (h p),I.hok,I.len⟩
theorem J0(c:N.Nodup)(a:N[i]?=Z x)(b:N[j]?=Z x):i=j:=by
 obtain⟨h1,e1⟩:=ba.mp a;obtain⟨h2,e2⟩:=ba.mp b;exact(List.getElem_inj c).mp (e1.trans e2.symm)
theorem Ti{v:V}(I:AU X AN σ H s)(hN:X.N.Nodup)(hi:X.N[i]?=Z x)(hx:D0 X.env.scope x)(r:At v u)(h:∀s',AU X AN (σ.set i (Z v)) H s'->(∃a,Heap.SameBut a s.heap s'.heap/\(a=X.env.locals\/X.env.cells.lookup x=Z a))->Q bv s')(hf:X.fn x=true\/X.env.scope.names.lookup x=Z .local:=by first|exact .inl rfl|exact .inr rfl|assumption):A7 M A (storeName X.env x u) Q E s:=by
 obtain⟨m,J,hl⟩:=id I.loc;have b6:(X.env.scope.kind==.class||(X.env.scope.kind==.module&&X.env.locals !=X.env.globals))=false:=by rw[I.ok.kind];rfl
 have W:i<σ.length:=by rw[I.len];exact(ba.mp hi).1
 have cne:=I.cne;have b0:∀{a:A1} {h':A6},(∃o,s.heap.get? a=Z o/\H a=U)->Heap.SameBut a s.heap h'->vZ X.prog X.w H h':=λ{a h'} ha hs b ob e=>by
  obtain⟨_,_,a5⟩:=ha;refine(I.hok b ob e).stay (λc B f q=>(hs.2 c ?_).trans q) (λ_ q=>q) (λ_ _ q=>q) λ_ _ _ q=>q;rintro rfl;rcases f with rfl|f
  ·rw[a5]at e;cases e
  ·rw[a5]at f;cases f
 rcases hx with hk|hk
 ·refine wpAny_storeName_local hk J (λh' b8 hs=>?_) b6;obtain⟨oL,_,_,b7,_⟩:=id J;refine h _ ⟨I.ok,I.os,I.bare,⟨λb o e n g hx=>?_,λb o e n g hx=>?_,I.base.free,λb o e hx=>?_,I.base.tups,I.base.rP,I.base.wg⟩,⟨_,b8,λj y C e1 e2 e3=>?_⟩,λy c e=>?_,I.free,I.mC,λp hp=>?_,b0 ⟨oL,b7,I.free⟩ hs,by simpa using I.len⟩ ⟨_,hs,.inl rfl⟩
  ·exact(hs.2 b (z5 (ZN (zI e) I.ok.above))).trans (I.base.keep b o e n g hx)
  ·obtain⟨sl,e1⟩:=I.base.slot b o e n g hx;exact⟨sl,(hs.2 b (z5 (ZN (zI e) I.ok.above))).trans e1⟩
  ·obtain⟨o',e1⟩:=I.base.there b o e hx;exact⟨o',(hs.2 b (z5 (ZN (zI e) I.ok.above))).trans e1⟩
  ·by_cases l:j=i
   ·subst l;rw[hi]at e1;cases e1;rw[QN W]at e2;cases e2;exact⟨u,r,.inl ⟨hk,by simp⟩⟩
   ·rw[k7 (KI l)]at e2;obtain⟨G,F,q⟩:=hl j y C e1 e2 e3;refine⟨G,F,?_⟩;rcases q with⟨k,e⟩|⟨k,c,e,z⟩
    ·refine .inl ⟨k,?_⟩;have:y≠x:=λe=>l (J0 hN e1 (e▸hi));simp[this,e]
    ·exact .inr ⟨k,c,e,z.sameBut hs (cne y c e)⟩
  ·obtain⟨B,z⟩:=I.cell y c e;exact⟨B,z.sameBut hs (cne y c e)⟩
  ·obtain⟨e,n,t,K,d⟩:=I.pin p hp;exact⟨(hs.2 p.1 t).trans e,n,t,K,d⟩
 ·have D:X.fn x=true:=by
   rcases hf with z|z
   ·exact z
   ·rw[z]at hk;cases hk
  obtain⟨c,f⟩:=I.ok.has x (.inl hk);obtain⟨B,z⟩:=I.cell x c f;refine wpAny_storeName_cell I.ok.kind hk f z (λh' a3 hs=>?_);obtain⟨L,b4,b5⟩:=id z;refine h { s with heap:=h' } ⟨I.ok,I.os,I.bare,⟨λb o e n g hx=>?_,λb o e n g hx=>?_,I.base.free,λb o e hx=>?_,I.base.tups,I.base.rP,I.base.wg⟩,⟨m,J.sameBut hs (KI (cne x c f)),λj y C e1 e2 e3=>?_⟩,λy c' e=>?_,I.free,I.mC,λp hp=>?_,b0 ⟨L,b4,I.mC x c f⟩ hs,by simpa using I.len⟩ ⟨c,hs,.inr f⟩
  ·exact(hs.2 b (z5 (ZN (zI e) (I.ok.cab x c D f)))).trans (I.base.keep b o e n g hx)
  ·obtain⟨sl,e1⟩:=I.base.slot b o e n g hx;exact⟨sl,(hs.2 b (z5 (ZN (zI e) (I.ok.cab x c D f)))).trans e1⟩
  ·obtain⟨o',e1⟩:=I.base.there b o e hx;exact⟨o',(hs.2 b (z5 (ZN (zI e) (I.ok.cab x c D f)))).trans e1⟩
  ·by_cases l:j=i
   ·subst l;rw[hi]at e1;cases e1;rw[QN W]at e2;cases e2;exact⟨u,r,.inr ⟨.inl hk,c,f,a3⟩⟩
   ·rw[k7 (KI l)]at e2;obtain⟨G,F,q⟩:=hl j y C e1 e2 e3;refine⟨G,F,?_⟩;rcases q with q|⟨k,c',e,z'⟩
    ·exact .inl q
    ·refine .inr ⟨k,c',e,z'.sameBut hs ?_⟩;rintro rfl;exact l (J0 hN e1 (I.ok.inj _ _ _ e f▸hi))
  ·by_cases P:c'=c
   ·subst P;exact⟨_,a3⟩
   ·obtain⟨w2,z2⟩:=I.cell y c' e;exact⟨w2,z2.sameBut hs P⟩
  ·obtain⟨e,n,t,K,d⟩:=I.pin p hp;refine⟨(hs.2 p.1 ?_).trans e,n,t,K,d⟩;intro q;rw[q,b4]at e;have q':L=p.2:=kc e;exact d B (by rw[<-q'];exact b5)
theorem J1{v:V}(I:AU X AN σ H s)(a:X.N.Nodup)(hi:X.N[i]?=Z x)(hx:D0 X.env.scope x)(r:At v u)(h:∀s',AU X AN (σ.set i (Z v)) H s'->Q bv s')(c:X.fn x=true\/X.env.scope.names.lookup x=Z .local:=by first|exact .inl rfl|exact .inr rfl|assumption):A7 M A (storeName X.env x u) Q E s:=
 Ti I a hi hx r (λs' b _=>h s' b) c
theorem AU.call'{s':A2}{ch:O A1}(I:AU X AN σ H s)(a:s'.os=s.os)(u:Un (CY X.stack) ch H H' s.heap s'.heap)(d:vZ X.prog X.w H' s'.heap)(f:AllBare s'.gens)
  (g:∀b∈ch,(b∈X.ex\/X.s₀.heap.objs.size<=b)/\b≠X.env.locals/\(∀x c,X.env.cells.lookup x=Z c->c≠b)/\∀p∈X.pn++AN,p.1≠b):AU X AN σ H' s':=by
 obtain⟨h',g',d',t',o'⟩:=s';have e:o'=s.os:=a;subst e;exact I.call (g':=g') (t':=t') (d':=d') u d f g
end
abbrev XK:=A0->Y A1->Hp->Prop
abbrev St:=O (Y V)
abbrev VK:=V->Hp->Prop
abbrev TE:=St->Hp->VK->Prop
abbrev TT:=St->Hp->(Bool->Hp->Prop)->Prop
abbrev TA:=St->Hp->(O V->Hp->Prop)->Prop
structure BU where
 nx:St->Hp->Prop
 rt:VK
 bk:St->Hp->Prop:=λ_ _=>False
 ct:St->Hp->Prop:=λ_ _=>False
abbrev TS:=BU->St->Hp->Prop
def EP(X:Cx)(AN:O (A1×AE))(σ:St)(Q:VK)(u:A0)(s':A2):Prop:=∃v H',AU X AN σ H' s'/\At v u/\Q v H'
def TP(X:Cx)(AN:O (A1×AE))(σ:St)(Q:Bool->Hp->Prop)(b:Bool)(s':A2):Prop:=∃H',AU X AN σ H' s'/\Q b H'
def AP(X:Cx)(AN:O (A1×AE))(σ:St)(Q:O V->Hp->Prop)(us:O A0)(s':A2):Prop:=∃vs H',AU X AN σ H' s'/\AX vs us/\Q vs H'
def SP(X:Cx)(AN:O (A1×AE))(D:BU)(f:Flow)(s':A2):Prop:=
 match f with
 |.next=>∃ σ' H',AU X AN σ' H' s'/\D.nx σ' H'
 |.brk=>∃ σ' H',AU X AN σ' H' s'/\D.bk σ' H'
 |.cont=>∃ σ' H',AU X AN σ' H' s'/\D.ct σ' H'
 |.ret u=>∃v σ' H',AU X AN σ' H' s'/\At v u/\D.rt v H'
def PE(X:Cx)(e:Expr)(t:TE):Prop:=
 ∀(AN:O (A1×AE)) (s:A2) (σ:St) (H:Hp) (Q:VK),AU X AN σ H s->t σ H Q->A7 (bi X) X.A (eval e X.env) (EP X AN σ Q) X.xe s
def PT(X:Cx)(e:Expr)(t:TT):Prop:=
 ∀(AN:O (A1×AE)) (s:A2) (σ:St) (H:Hp) (Q:Bool->Hp->Prop),AU X AN σ H s->t σ H Q->A7 (bi X) X.A (isTrue e X.env (eval e X.env)) (TP X AN σ Q) X.xe s
def PW(X:Cx)(e:Expr)(t:TT):Prop:=
 ∀(a:Sem A0) (AN:O (A1×AE)) (s:A2) (σ:St) (H:Hp) (Q:Bool->Hp->Prop),AU X AN σ H s->t σ H Q->A7 (bi X) X.A (isTrue e X.env a) (TP X AN σ Q) X.xe s
theorem PW.pt{X:Cx}{t:TT}(h:PW X e t):PT X e t:=h _
def PA(X:Cx)(es:O Expr)(t:TA):Prop:=
 ∀(pos:Pos) (AN:O (A1×AE)) (s:A2) (σ:St) (H:Hp) (Q:O V->Hp->Prop),AU X AN σ H s->t σ H Q->A7 (bi X) X.A (spliced (AD pos (A9 es X.env))) (AP X AN σ Q) X.xe s
def PS(X:Cx)(st:AB)(t:TS):Prop:=
 ∀(AN:O (A1×AE)) (s:A2) (σ:St) (H:Hp) (D:BU),AU X AN σ H s->t D σ H->A7 (bi X) X.A (exec st X.env) (SP X AN D) X.xe s
def Ad(X:Cx)(st:O AB)(t:TS):Prop:=
 ∀(AN:O (A1×AE)) (s:A2) (σ:St) (H:Hp) (D:BU),AU X AN σ H s->t D σ H->A7 (bi X) X.A (execs st X.env) (SP X AN D) X.xe s
theorem fX{t:Sem α}{Q Q':α->A2->Prop}(h:A7 M A t Q E s)(b:∀a s,Q a s->Q' a s):A7 M A t Q' E s:=Z3 h b λ_ _ x=>x
end L2
namespace L2
section
variable{X:Cx}
def uO(i:Nat):TE:=λσ H Q=>∃v,σ[i]?=Z (Z v)/\Q v H
def tC(v:V):TE:=λ_ H Q=>Q v H
theorem fV(g:X.N[i]?=Z x)(j:Q0 X.env.scope x)(b:be x:=by decide)(q:(x==("__classdict__":AJ))=false:=by decide):PE X (.Name x pos) (uO i):=by
 intro AN s σ H Q I h;obtain⟨v,e,h⟩:=h;obtain⟨m,o,n⟩:=I.loc;obtain⟨u,r,l⟩:=n i x v g e j;have a:EP X AN σ Q u s:=⟨v,H,I,r,h⟩;rcases l with⟨hk,p⟩|⟨hk,c,f,d⟩
 ·exact wpAny_Name (wpAny_loadName_local I.ok.kind hk o p a) b
 ·rcases hk with hk|hk
  ·exact wpAny_Name (wpAny_loadName_cell I.ok.kind hk f d a) b
  ·exact wpAny_Name (wpAny_loadName_free I.ok.kind hk f d a q) b
theorem ac{i j pos}:PE X (.Constant (.int i) j pos) (tC (.int i)):=λ_ _ _ H _ I h=>wpAny_Constant_int ⟨.int i,H,I.tok _,⟨_,rfl⟩,h⟩
theorem WH{b j pos}:PE X (.Constant (.bool b) j pos) (tC (.bl b)):=λ_ _ _ H _ I h=>Constant_bool ⟨.bl b,H,I,rfl,h⟩
theorem Mo{j pos}:PE X (.Constant .none j pos) (tC .non):=λ_ _ _ H _ I h=>Constant_none ⟨.non,H,I,rfl,h⟩
theorem To{x j pos}:PE X (.Constant (.str x) j pos) (tC (.str x)):=λ_ _ _ H _ I h=>Calls.Constant_str ⟨.str x,H,I.tok _,⟨_,rfl⟩,h⟩
def Gl(X:Cx)(x:AJ):Prop:=X.env.kindOf x=Z .globalImplicit
theorem Zi{σ:St}{H:Hp}{Q:B7}(I:AU X AN σ H s)(b:Gl X x)(c:X.mg x=Z u)(h:Q u s)(a:be x:=by decide):A7 (bi X) X.A (eval (.Name x pos) X.env) Q E s:=
 Calls.Name_function_global I.ok.kind b (Calls.loadGlobal_global (by rw[I.ok.glob];exact I.mod.glob.keeps I.bk) c h) a
theorem Hv{σ:St}{H:Hp}{Q:B7}(I:AU X AN σ H s)(e:Gl X x)(c:X.mg x=U)(a:AH x=Z u)(h:Q u s)(b:x ≠ "__name__":=by decide)(d:be x:=by decide):A7 (bi X) X.A (eval (.Name x pos) X.env) Q E s:=by
 obtain⟨f,h1,h2⟩:=I.mod.blt;exact Calls.Name_function_global I.ok.kind e (Calls.loadGlobal_builtin (by rw[I.ok.glob];exact I.mod.glob.keeps I.bk) c (by rw[I.ok.blt];exact h1.keeps I.bk) ((h2 x b).trans a) h) d
theorem Q6{v:V}(e:Gl X x)(c:X.mg x=U)(a:AH x=Z u)(r:At v u)(b:x ≠ "__name__":=by decide)(d:be x:=by decide):PE X (.Name x pos) (tC v):=
 λ_ _ _ H _ I h=>Hv I e c a ⟨v,H,I,r,h⟩ b d
variable{a b:Expr}{ta tb:TE}
variable{tA tB':TT}{AS:O Expr}
def LB(t u:TT):TT:=λσ H Q=>t σ H λc H1=>if c=true then u σ H1 Q else Q false H1
def LF(t u:TT):TT:=λσ H Q=>t σ H λc H1=>if c=true then Q true H1 else u σ H1 Q
def UK(t:TT):TT:=λσ H Q=>t σ H λc H1=>Q (!c) H1
theorem Zj(b:PT X a tA):PW X (.BoolOp .And [a] pos) tA:=by
 intro wh AN s σ H Q I h;refine isTrue_and (fX (b AN s σ H Q I h) λc d e=>?_);cases c with
 |true=>exact isTrue_and_nil e
 |false=>exact e
theorem TZ(b:PT X a tA):PW X (.BoolOp .Or [a] pos) tA:=by
 intro wh AN s σ H Q I h;refine isTrue_or (fX (b AN s σ H Q I h) λc d e=>?_);cases c with
 |false=>exact isTrue_or_nil e
 |true=>exact e
theorem XX(d:PT X a tA)(e:PW X (.BoolOp .And (b::AS) pos) tB'):PW X (.BoolOp .And (a::b::AS) pos) (LB tA tB'):=by
 intro wh AN s σ H Q I h;refine isTrue_and (fX (d AN s σ H _ I h) λc s1 ⟨H1,I1,q1⟩=>?_);cases c with
 |true=>exact e wh AN s1 σ H1 Q I1 q1
 |false=>exact⟨H1,I1,q1⟩
theorem SA(d:PT X a tA)(e:PW X (.BoolOp .Or (b::AS) pos) tB'):PW X (.BoolOp .Or (a::b::AS) pos) (LF tA tB'):=by
 intro wh AN s σ H Q I h;refine isTrue_or (fX (d AN s σ H _ I h) λc s1 ⟨H1,I1,q1⟩=>?_);cases c with
 |true=>exact⟨H1,I1,q1⟩
 |false=>exact e wh AN s1 σ H1 Q I1 q1
theorem ON(b:PT X a tA):PT X (.UnaryOp .Not a pos) (UK tA):=by
 intro AN s σ H Q I h;exact isTrue_not (b AN s σ H (λc H1=>Q (!c) H1) I h)
def OX(t:TT)(ta tb:TE):TE:=λσ H Q=>t σ H λc H1=>if c=true then ta σ H1 Q else tb σ H1 Q
theorem Vt(f:PT X c tA)(e:PE X a ta)(g:PE X b tb):PE X (.IfExp c a b pos) (OX tA ta tb):=by
 intro AN s σ H Q I h;refine wpAny_IfExp (fX (f AN s σ H _ I h) λd s1 ⟨H1,I1,q1⟩=>?_);cases d with
 |true=>exact e AN s1 σ H1 Q I1 q1
 |false=>exact g AN s1 σ H1 Q I1 q1
end
end L2
namespace L2
def rJ(K:Au)(H:Hp)(a:A1)(xs:O V):Prop:=
 Rd H a (.lst xs) ∨
  ∃(o:AE) (AQ:Array A0) (n:Nat),K.lookup a=Z o/\o.cls=.type "list" ∧ o.dict=U/\o.data=.seq AQ n/\AQ.size<=AA/\AX xs AQ.toList
def wj(K:Au)(H:Hp)(a:A1)(xs:O V):Prop:=
 Rd H a (.tup xs) ∨
  ∃(o:AE) (AQ:Array A0) (n:Nat),K.lookup a=Z o/\(o.cls=.type "tuple" ∧ o.dict=U)/\o.data=.seq AQ n/\AQ.size<=AA/\AX xs AQ.toList
def GH:A0->Y V
 |.none=>Z .non
 |.bool b=>Z (.bl b)
 |.int i _=>Z (.int i)
 |.str x _=>Z (.str x)
 |.bytes b _=>Z (.byt b)
 |.float b _=>Z (.flt b)
 |.ref a=>Z (.ref a)
 |.type n=>Z (.ty n)
 |_=>U
theorem At.abs{x:V}(r:At x u):GH u=Z x:=by
 cases x with
 |non=>cases r;rfl
 |bl _=>cases r;rfl
 |int _=>obtain⟨t,rfl⟩:=r;rfl
 |str _=>obtain⟨t,rfl⟩:=r;rfl
 |byt _=>obtain⟨t,rfl⟩:=r;rfl
 |flt _=>obtain⟨t,rfl⟩:=r;rfl
 |ref _=>cases r;rfl
 |ty _=>cases r;rfl
theorem At.inj{x y:V}{u:A0}(r:At x u)(q:At y u):x=y:=kc (r.abs.symm.trans q.abs)
theorem AX.inj:∀{xs ys:O V} {us:O A0},AX xs us->AX ys us->xs=ys
 |_,_,_,.nil,.nil=>rfl
 |_,_,_,.cons r t,.cons r' t'=>by rw[r.inj r',AX.inj t t']
section
variable{X:Cx}{σ:St}{H:Hp}{xs ys:O V}
theorem AU.list(I:AU X AN σ H s)(h:rJ X.K H a xs):∃AQ:O A0,AX xs AQ/\PlainL s.heap a AQ.toArray/\xs.length<=AA:=by
 rcases h with h|⟨o,AQ,n,hk,b,c,hs,d,r⟩
 ·obtain⟨z,AQ,n,r,e⟩:=h.ok I.hok;exact⟨AQ,r,⟨_,n,e,rfl,rfl,rfl⟩,z⟩
 ·refine⟨AQ.toList,r,⟨o,n,I.kIn a o hk,b,c,by simpa using hs⟩,?_⟩;have e:=r.length;simp only[qc]at e;omega
theorem AU.tuple(I:AU X AN σ H s)(h:wj X.K H a xs):∃AQ:O A0,AX xs AQ/\IsTup s.heap a AQ.toArray/\xs.length<=AA:=by
 rcases h with h|⟨o,AQ,n,hk,b,hs,c,r⟩
 ·obtain⟨z,AQ,r,p⟩:=h.ok I.hok;exact⟨AQ,r,p.weak,z⟩
 ·refine⟨AQ.toList,r,⟨o,I.kIn a o hk,b.1,n,by simpa using hs⟩,?_⟩;have e:=r.length;simp only[qc]at e;omega
theorem AU.J2(I:AU X AN σ H s)(h:rJ X.K H a xs)(h':rJ X.K H a ys):xs=ys:=by
 obtain⟨AQ,r,⟨o,n,e,_,_,d⟩,_⟩:=I.list h;obtain⟨c,f,⟨o',i,e',_,_,b⟩,_⟩:=I.list h';rw[e]at e';cases e';rw[d]at b;injection b with g _;have:AQ=c:=by simpa using congrArg fR g
 subst this;exact r.inj f
theorem AU.Fq(I:AU X AN σ H s)(h:wj X.K H a xs)(h':wj X.K H a ys):xs=ys:=by
 obtain⟨AQ,r,⟨o,e,_,n,d⟩,_⟩:=I.tuple h;obtain⟨c,f,⟨o',e',_,i,b⟩,_⟩:=I.tuple h';rw[e]at e';cases e';rw[d]at b;injection b with g _;have:AQ=c:=by simpa using congrArg fR g
 subst this;exact r.inj f
end
abbrev Cx.wish(X:Cx)(E:B7):Cx:={ X with xe:=E }
abbrev Cx.Zk(X:Cx):Cx:=X.wish λ_ _=>False
theorem Cx.Ok.wish{X:Cx}(ok:X.Ok)(E:B7):(X.wish E).Ok:=
 ⟨ok.mod,ok.kind,ok.glob,ok.blt,ok.above,ok.inj,ok.has,ok.cab,ok.hd,ok.frames,ok.stk,ok.exf,ok.bs,ok.bsz,ok.Vs,ok.Zh,ok.Aa,ok.frf,ok.tabs⟩
theorem Cx.Ok.rQ{X:Cx}(ok:(X.wish E).Ok):X.Ok:=
 ⟨ok.mod,ok.kind,ok.glob,ok.blt,ok.above,ok.inj,ok.has,ok.cab,ok.hd,ok.frames,ok.stk,ok.exf,ok.bs,ok.bsz,ok.Vs,ok.Zh,ok.Aa,ok.frf,ok.tabs⟩
section
variable{X:Cx}{σ:St}{H:Hp}
theorem AU.wish(I:AU X AN σ H s)(E:B7):AU (X.wish E) AN σ H s:=⟨I.ok.wish E,I.os,I.bare,I.base,I.loc,I.cell,I.free,I.mC,I.pin,I.hok,I.len⟩
theorem AU.rQ(I:AU (X.wish E) AN σ H s):AU X AN σ H s:=⟨I.ok.rQ,I.os,I.bare,I.base,I.loc,I.cell,I.free,I.mC,I.pin,I.hok,I.len⟩
theorem SP.rQ{D:BU}{f:Flow}{s':A2}(h:SP (X.wish E) AN D f s'):SP X AN D f s':=by
 cases f with
 |next=>obtain⟨σ',H',I,q⟩:=h;exact⟨σ',H',I.rQ,q⟩
 |brk=>obtain⟨σ',H',I,q⟩:=h;exact⟨σ',H',I.rQ,q⟩
 |cont=>obtain⟨σ',H',I,q⟩:=h;exact⟨σ',H',I.rQ,q⟩
 |ret u=>obtain⟨v,σ',H',I,r,q⟩:=h;exact⟨v,σ',H',I.rQ,r,q⟩
theorem Ad.Zk{st:O AB}{t:TS}(h:Ad X.Zk st t):Ad X st t:=λAN s σ H D I a=>
 Z3 (h AN s σ H D (I.wish _) a) (λ_ _ q=>q.rQ) λ_ _ z=>False.elim z
end
section
variable{X:Cx}{AS:O AB}{t u:TS}{te:TE}
def Vu:TS:=λD σ H=>D.nx σ H
def HK(t u:TS):TS:=λD σ H=>t { D with nx:=u D } σ H
theorem nM:Ad X [] Vu:=λ_ _ σ H _ I h=>wpAny_execs_nil ⟨σ,H,I,h⟩
theorem eX(h1:PS X st t)(h2:Ad X AS u):Ad X (st::AS) (HK t u):=by
 intro AN s σ H D I h;refine wpAny_execs_cons (fX (h1 AN s σ H { D with nx:=u D } I h) λf a q=>?_);cases f with
 |next=>
  obtain⟨σ',H',b,q⟩:=q;exact h2 AN a σ' H' D b q
 |ret v=>exact q
 |brk=>exact q
 |cont=>exact q
theorem Q7(h1:PS X st t):Ad X [st] t:=by
 intro AN s σ H D I h;refine wpAny_execs_cons (fX (h1 AN s σ H D I h) λf a q=>?_);cases f with
 |next=>exact wpAny_execs_nil q
 |ret v=>exact q
 |brk=>exact q
 |cont=>exact q
theorem AU.quiet{σ:St}{H:Hp}(I:AU X AN σ H s):interactive X.env=false:=by simp[interactive,I.ok.kind]
def J3(te:TE):TS:=λD σ H=>te σ H λ_ H1=>D.nx σ H1
theorem pZ(he:PE X e te)(hs:swapsWith e U pos.line X.env=pure false:=by rfl):PS X (.Expr e pos) (J3 te):=by
 intro AN s σ H D I h;exact wpAny_Expr_any (fX (he AN s σ H _ I h) λv s1 ⟨x,H1,I1,r1,q1⟩=>⟨σ,H1,I1,q1⟩) I.quiet hs
def IM(te:TE):TS:=λD σ H=>te σ H D.rt
theorem N6(he:PE X e te):PS X (.Return (Z e) pos) (IM te):=by
 intro AN s σ H D I h;exact wpAny_Return_some (fX (he AN s σ H _ I h) λv s1 ⟨x,H1,I1,r1,q1⟩=>⟨x,σ,H1,I1,r1,q1⟩)
def LU(c:TT)(t u:TS):TS:=λD σ H=>c σ H λb H1=>if b=true then t D σ H1 else u D σ H1
theorem Q8{a b:O AB}{tc:TT}(f:PT X c tc)(e:Ad X a t)(g:Ad X b u):PS X (.If c a b pos) (LU tc t u):=by
 intro AN s σ H D I h;refine wpAny_If (fX (f AN s σ H _ I h) λd s1 ⟨H1,I1,q1⟩=>?_);cases d with
 |true=>exact e AN s1 σ H1 D I1 q1
 |false=>exact g AN s1 σ H1 D I1 q1
end
abbrev TG:=V->St->Hp->(St->Hp->Prop)->Prop
abbrev DC:=O V->St->Hp->(St->Hp->Prop)->Prop
def PG(X:Cx)(a:Expr)(t:TG):Prop:=
 ∀(AN:O (A1×AE)) (s:A2) (σ:St) (H:Hp) (v:V) (u:A0) (Q:St->Hp->Prop),AU X AN σ H s->At v u->t v σ H Q →
  A7 (bi X) X.A (assign a X.env u) (λ_ s'=>∃ σ' H',AU X AN σ' H' s'/\Q σ' H') X.xe s
def Q9(X:Cx)(ts:O Expr)(t:DC):Prop:=
 ∀(AN:O (A1×AE)) (s:A2) (σ:St) (H:Hp) (vs:O V) (us:O A0) (Q:St->Hp->Prop),AU X AN σ H s->AX vs us->t vs σ H Q →
  A7 (bi X) X.A (assignInOrder ((assignEach ts X.env).map (·.2)) us) (λ_ s'=>∃ σ' H',AU X AN σ' H' s'/\Q σ' H') X.xe s
section
variable{X:Cx}
def oY(i:Nat):TG:=λv σ H Q=>Q (σ.set i (Z v)) H
theorem um(a:X.N.Nodup)(hi:X.N[i]?=Z x)(hx:D0 X.env.scope x)(c:X.fn x=true\/X.env.scope.names.lookup x=Z .local:=by first|exact .inl rfl|exact .inr rfl|assumption):PG X (.Name x pos) (oY i):=by
 intro AN s σ H v u Q I r h;exact wpAny_assign_Name (J1 I a hi hx r (λs' b=>⟨_,H,b,h⟩) c)
def NI:DC:=λvs σ H Q=>vs=[]/\Q σ H
def Op(t:TG)(u:DC):DC:=λvs σ H Q=>∃v r,vs=v::r/\t v σ H λσ' H'=>u r σ' H' Q
theorem Zm:Q9 X [] NI:=by
 intro AN s σ H vs us Q I r h;obtain⟨e,h⟩:=h;subst e;cases r;exact assignInOrder_nil ⟨σ,H,I,h⟩
theorem Vv{t:TG}{u:DC}(h1:PG X e t)(h2:Q9 X es u)(hs:(assignEach (e::es) X.env).map (·.2)=assign e X.env::(assignEach es X.env).map (·.2):=by rfl):Q9 X (e::es) (Op t u):=by
 intro AN s σ H vs us Q I r h;obtain⟨v,b,e1,h⟩:=h;subst e1;cases r with
 |cons r a=>
  rw[hs];refine assignInOrder_cons (fX (h1 AN s σ H _ _ _ I r h) λ_ s1 ⟨σ1,H1,I1,q1⟩=>?_);exact h2 AN s1 σ1 H1 _ _ Q I1 a q1
def PZ(K:Au)(n:Nat)(t:DC):TG:=λv σ H Q=>∃a xs,v=.ref a/\wj K H a xs/\xs.length=n/\t xs σ H Q
theorem PD{k:Nat}{t:DC}(j:X.calm=true)(h:Q9 X es t)(i:(assignEach es X.env).length=n:=by rfl)(g:(assignEach es X.env).findIdx? (·.1)=U:=by rfl):PG X (.Tuple es k pos) (PZ X.K n t):=by
 intro AN s σ H v u Q I r c;obtain⟨a,xs,e1,m,f,c⟩:=c;subst e1;cases r;obtain⟨AQ,d,l,q⟩:=I.tuple m;refine assign_Tuple_tuple (I.ok.hd j) l (by simp[i,<-f,d.length]) g λh' hx=>?_;have p:AU X AN σ H { s with heap:=h' }:=I.kept (t':=s.toks) λb o e=>hx b o (z5 (zI e)) e;exact h AN _ σ H xs _ Q p (by simpa using d) c
def Tj(te:TE)(g:TG):TS:=λD σ H=>te σ H λx H1=>g x σ H1 D.nx
theorem VO{te:TE}{g:TG}(he:PE X e te)(b:PG X tg g)(hs:swapsWithSole [tg] e pos.line X.env=pure false:=by rfl)(a:swappedStores [tg] e X.env=pure U:=by rfl)(h1:(assignEach [tg] X.env).map (·.2)=[assign tg X.env]:=by rfl):PS X (.Assign [tg] e pos) (Tj te g):=by
 intro AN s σ H D I h;refine wpAny_Assign_stores (fX (he AN s σ H _ I h) λv s1 ⟨x,H1,I1,r1,q1⟩=>?_) hs a;rw[h1];exact fX (b AN s1 σ H1 x v _ I1 r1 q1) λ_ c q=>q
theorem Ae{te:TE}{pos':Pos}(a:X.N.Nodup)(hi:X.N[i]?=Z x)(hx:D0 X.env.scope x)(he:PE X e te)(hs:swapsWith e (Z (.Name x pos')) pos.line X.env=pure false:=by rfl)(c:X.fn x=true\/X.env.scope.names.lookup x=Z .local:=by first|exact .inl rfl|exact .inr rfl|assumption):
  PS X (.Assign [.Name x pos'] e pos) (Tj te (oY i)):=by
 intro AN s σ H D I h;refine wpAny_Assign_Name (fX (he AN s σ H _ I h) λv s1 ⟨y,H1,I1,r1,q1⟩=>?_) hs;exact J1 I1 a hi hx r1 (λd b=>⟨_,H1,b,q1⟩) c
def VW(c:TT)(tb:TS):TS:=λD σ H=>∃W:Nat->St->Hp->Prop,(∃m,W m σ H)/\∀m σ H,W m σ H →
 c σ H λb H1=>if b=true then ∃N:St->Hp->Prop,(∀ σ' H',N σ' H'->∃a,a<m/\W a σ' H')/\tb { D with nx:=N,ct:=N,bk:=D.nx } σ H1 else D.nx σ H1
theorem Vw{tc:TT}{tb:TS}(hp:PassesOwn (bi X) X.A X.env X.xe)(t:PT X c tc)(u:Ad X body tb):PS X (.While c body [] pos) (VW tc tb):=by
 intro AN s σ H D I h;obtain⟨W,⟨q,x⟩,turn⟩:=h;refine wpAny_While (codeAny_whileLoop (λn s'=>∃ σ' H',AU X AN σ' H' s'/\W n σ' H') ?_ q ⟨σ,H,I,x⟩);rintro n p ⟨e,H1,y,z⟩;refine kD hp (fX (t AN p e H1 _ y (turn n e H1 z)) λb s2 ⟨H2,I2,q2⟩=>?_);cases b with
 |true=>
  obtain⟨N,o,q2⟩:=q2;rw[zl rfl];refine kD hp (fX (u AN s2 e H2 _ I2 q2) λf B q3=>?_);cases f with
  |next=>
   obtain⟨a,d,m,l⟩:=q3;obtain⟨i,j,g⟩:=o a d l;exact⟨i,j,a,d,m,g⟩
  |cont=>
   obtain⟨a,d,m,l⟩:=q3;obtain⟨i,j,g⟩:=o a d l;exact⟨i,j,a,d,m,g⟩
  |brk=>exact q3
  |ret v=>exact q3
 |false=>
  rw[zD Zl];exact wpAny_execs_nil ⟨e,H2,I2,q2⟩
end
structure It where
 go:Nat->Hp->Prop
 yld:Nat->Hp->V->Hp->Prop
 stop:Nat->Hp->Prop
def mD(X:Cx)(AN:O (A1×AE))(H:Hp)(b:A1):Prop:=
 H b=U/\b≠X.env.locals/\b∉X.fs/\(b∈X.ex\/X.s₀.heap.objs.size<=b)/\(∀x c,X.env.cells.lookup x=Z c->c≠b)/\∀p∈X.pn++AN,p.1≠b
theorem AU.N7{X:Cx}{σ:St}{H H':Hp}{b:A1}(I:AU X AN σ H s)(a:s.heap.objs.size<=b)(d:H' b=U):mD X AN H' b:=by
 refine⟨d,k9 (ZN I.lt a),I.ahP a,.inr (Zs I.sz a),λx c e z=>?_,λp hp z=>?_⟩
 ·obtain⟨v,q⟩:=I.cell x c e;exact absurd (ZN q.lt (by rw[z];exact a)) (jb _)
 ·exact absurd (ZN (zI (I.pin p hp).1) (by rw[z];exact a)) (jb _)
structure C5 (P:Program) (w:World) (K:Au) (tg:Expr) (J:It) (fp:List Addr) (it:Addr) (tn:Nat->Heap->Prop):Prop where
 mem:it∈fp
 obj:∀i h,tn i h->∀b∈fp,∃o,h.get? b=some o/\∀v,o.data≠.cell v
 keep:∀i h h',tn i h->(∀b∈fp,∀o,h.get? b=some o->h'.get? b=some o)->tn i h'
 item:∀(X:Cx),X.prog=P->X.w=w->X.K=K->X.calm=true->∀(i:Nat) (AN:List (Addr×Obj)) (s:Shared) (σ:St) (H:Hp) (E:B7),AU X AN σ H s->(∀b∈fp,mD X AN H b)->tn i s.heap->J.go i H →
  wpAny (model P w) X.A (pyNext (.ref it)) (λr s1=>∃u,r=some u ∧
   wpAny (model P w) X.A (letOwnedTupleGo tg (.ref it) u) (λ_ s2=>∃x H',AU X AN σ H' s2/\At x u/\J.yld i H x H'/\tn (i+1) s2.heap/\∀b∈fp,H' b=none) E s1) E s
 done:∀(X:Cx),X.prog=P->X.w=w->X.K=K->X.calm=true->∀(i:Nat) (AN:List (Addr×Obj)) (s:Shared) (σ:St) (H:Hp) (E:B7),AU X AN σ H s->(∀b∈fp,mD X AN H b)->tn i s.heap->J.stop i H →
  wpAny (model P w) X.A (pyNext (.ref it)) (λr s1=>r=none/\AU X AN σ H s1) E s
 self:∀(A:Around) (i:Nat) (s:Shared) (Q:B7) (E:B7),tn i s.heap->Q (.ref it) s->wpAny (model P w) A (pyIter (.ref it)) Q E s
abbrev TI:=St->Hp->(It->Hp->Prop)->Prop
def MD(X:Cx)(AN:O (A1×AE))(σ:St)(tg:Expr)(R:It->Hp->Prop)(c:A0)(a:A2):Prop:=
 ∃(it:A1) (fp:O A1) (tn:Nat->A6->Prop) (J:It) (H':Hp),c=.ref it/\AU X AN σ H' a/\C5 X.prog X.w X.K tg J fp it tn/\tn 0 a.heap/\(∀b∈fp,mD X AN H' b)/\R J H'
def PI(X:Cx)(tg iter:Expr)(b:TI):Prop:=
 ∀(AN:O (A1×AE)) (s:A2) (σ:St) (H:Hp) (R:It->Hp->Prop),AU X AN σ H s->b σ H R →
  A7 (bi X) X.A (eval iter X.env) (λv a=>A7 (bi X) X.A (pyIter v) (MD X AN σ tg R) X.xe a) X.xe s
theorem Ft{n:String}{vs:Array A0}(b:s.heap.get? it=Z o)(d:o.cls=.type n)(e:o.data=.fields vs)(c:["enumerate","zip","dict_itemiterator","dict_reverseitemiterator","odict_iterator","itertools.zip_longest","itertools.pairwise"].contains n=false)(a:Q bv s):A7 M A (letOwnedTupleGo tg (.ref it) u) Q E s:=by
 unfold letOwnedTupleGo;cases tg<;>first
  |exact zd a
  |(cases u<;>first
    |exact zd a
    |(refine zb (yz b ?_)
      rw[d,e];show A7 M A (if(["enumerate","zip","dict_itemiterator","dict_reverseitemiterator","odict_iterator","itertools.zip_longest","itertools.pairwise"].contains n&&vs[0]?==Z (rawInt _))=true then _ else _) Q E s;rw[zD (by intro h;rw[c,ft]at h;cases h)];exact zd a))
def EX(K:Au)(a:A1):It:=
 ⟨λi H=>∃xs x,rJ K H a xs/\xs[i]?=Z x,λi H x H'=>H'=H/\∀xs,rJ K H a xs->xs[i]?=Z x,λi H=>∃xs,rJ K H a xs/\xs.length<=i⟩
def Ff(K:Au)(a:A1):It:=
 ⟨λi H=>∃xs x,wj K H a xs/\xs[i]?=Z x,λi H x H'=>H'=H/\∀xs,wj K H a xs->xs[i]?=Z x,λi H=>∃xs,wj K H a xs/\xs.length<=i⟩
def FC(lo:Int)(n:Nat):It:=⟨λi _=>i<n,λi H x H'=>H'=H/\x=.int (lo+i),λi _=>n<=i⟩
theorem Fv(a it:A1):C5 P w K tg (EX K a) [it] it (λi h=>h.IsListIter it a i) where
 mem:=by simp
 obj:=λi h st b f=>by
  have e:b=it:=by simpa using f
  subst e;obtain⟨o,e,c,d⟩:=st;exact⟨o,e,λv z=>by rw[d]at z;cases z⟩
 keep:=λi h h' st k=>st.at λo e=>k it (by simp) o e
 item:=by
  intro X q t m C i AN s σ H E I g st l;subst q t m;obtain⟨xs,x,j,hx⟩:=l;obtain⟨AQ,A,p,F⟩:=I.list j;obtain⟨u,M,D⟩:=A.get hx;obtain⟨f0,f1,f2,f3,n,y⟩:=g it (by simp);refine wpAny_pyNext_list_item st p.isList (x:=u) (by simpa using M) λh' B G=>?_;have J:AU X AN σ H { s with heap:=h' }:=I.turned (t':=s.toks) (λb o f e=>(G.2 b f).trans e) f0 f1 f3 n y;obtain⟨o,e,c,d⟩:=id B;exact⟨u,rfl,Ft (s:={ s with heap:=h' }) e c d () ⟨x,H,J,D,⟨rfl,λys L=>by rw[I.J2 L j];exact hx⟩,B,λb f=>(g b f).1⟩⟩
 done:=by
  intro X q t m C i AN s σ H E I g st l;subst q t m;obtain⟨xs,j,hx⟩:=l;obtain⟨AQ,A,p,F⟩:=I.list j;obtain⟨f0,f1,f2,f3,n,y⟩:=g it (by simp);have N:=A.length;exact wpAny_pyNext_list_end (I.ok.hd C) st p.isList (by simp;omega) λh' eb=>⟨rfl,I.turned (t':=s.toks) (λb o f e=>eb b o f e) f0 f1 f3 n y⟩
 self:=λ_ _ _ _ _ st h=>wpAny_pyIter_listiter st h
theorem N8(a it:A1):C5 P w K tg (Ff K a) [it] it (λi h=>h.IsTupleIter it a i) where
 mem:=by simp
 obj:=λi h st b f=>by
  have e:b=it:=by simpa using f
  subst e;obtain⟨o,e,c,d⟩:=st;exact⟨o,e,λv z=>by rw[d]at z;cases z⟩
 keep:=λi h h' st k=>st.at λo e=>k it (by simp) o e
 item:=by
  intro X q t m C i AN s σ H E I g st l;subst q t m;obtain⟨xs,x,j,hx⟩:=l;obtain⟨AQ,A,p,F⟩:=I.tuple j;obtain⟨u,M,D⟩:=A.get hx;obtain⟨f0,f1,f2,f3,n,y⟩:=g it (by simp);refine wpAny_pyNext_tuple_item st (show s.heap.IsTuple a AQ.toArray from p) (x:=u) (by simpa using M) λh' B G=>?_;have J:AU X AN σ H { s with heap:=h' }:=I.turned (t':=s.toks) (λb o f e=>(G.2 b f).trans e) f0 f1 f3 n y;obtain⟨o,e,c,d⟩:=id B;exact⟨u,rfl,Ft (s:={ s with heap:=h' }) e c d () ⟨x,H,J,D,⟨rfl,λys L=>by rw[I.Fq L j];exact hx⟩,B,λb f=>(g b f).1⟩⟩
 done:=by
  intro X q t m C i AN s σ H E I g st l;subst q t m;obtain⟨xs,j,hx⟩:=l;obtain⟨AQ,A,p,F⟩:=I.tuple j;obtain⟨f0,f1,f2,f3,n,y⟩:=g it (by simp);have N:=A.length;exact wpAny_pyNext_tuple_end (I.ok.hd C) st (show s.heap.IsTuple a AQ.toArray from p) (by simp;omega) λh' eb=>⟨rfl,I.turned (t':=s.toks) (λb o f e=>eb b o f e) f0 f1 f3 n y⟩
 self:=λ_ _ _ _ _ st h=>wpAny_pyIter_tupleiter st h
theorem Oa(it:A1)(lo:Int)(n:Nat):C5 P w K tg (FC lo n) [it] it (λi h=>IsRangeIter h it (lo+(i:Nat)*1) ((n:Int)-(i:Nat)) 1) where
 mem:=by simp
 obj:=λi h st b a=>by
  have e:b=it:=by simpa using a
  subst e;exact⟨_,st,λv z=>by
   have y:Data.fields _=Data.cell v:=z;cases y⟩
 keep:=λi h h' st k=>k it (by simp) _ st
 item:=by
  intro X f m l j i AN s σ H E I c st p;subst f m l;obtain⟨f0,f1,f2,f3,d,g⟩:=c it (by simp);have W:=Walks.range (prog:=X.prog) (w:=X.w) (I.ok.hd j) it lo 1 n;refine W.item i s _ _ p st λv h' tk u q kk=>?_;obtain⟨t,rfl⟩:=u;have x:AU X AN σ H { s with heap:=h',toks:=tk }:=I.turned (λb o a e=>kk b o (by simpa using a) e) f0 f1 f3 d g;refine⟨_,rfl,Ft (s:={ s with heap:=h',toks:=tk }) (n :="range_iterator") q S S () ⟨.int (lo+i),H,x,⟨t,?_⟩,⟨rfl,rfl⟩,q,λb a=>(c b a).1⟩⟩;rw[Int.mul_one]
 done:=by
  intro X f m l j i AN s σ H E I c st p;subst f m l;obtain⟨f0,f1,f2,f3,d,g⟩:=c it (by simp);exact wpAny_pyNext_range_end (I.ok.hd j) st (by have:n<=i:=p;omega) λh' eb=>⟨rfl,I.turned (t':=s.toks) (λb o a e=>eb b o a e) f0 f1 f3 d g⟩
 self:=λ_ _ _ _ _ st h=>wpAny_pyIter_rangeiter st h
end L2
namespace L2
section
variable{X:Cx}
def Vx(K:Au)(tl:TE):TI:=λσ H R=>tl σ H λx H1=>∃a,x=.ref a/\(∃xs,rJ K H1 a xs)/\R (EX K a) H1
theorem Zn{l:Expr}{tl:TE}(c:PE X l tl):PI X tg l (Vx X.K tl):=by
 intro AN s σ H R I h;refine fX (c AN s σ H _ I h) λv s1 ⟨x,H1,I1,r1,q1⟩=>?_;obtain⟨a,e,⟨xs,f⟩,q⟩:=q1;subst e;cases r1;obtain⟨AQ,i,p,g⟩:=I1.list f;refine y7 p.isList ?_;refine⟨s1.heap.objs.size,[s1.heap.objs.size],_,_,H1,rfl,I1.kept (t':=s1.toks) λb o e=>zh _ e,Fv a _,⟨_,zt _ rfl,rfl,rfl⟩,λb d=>?_,q⟩;have e:b=s1.heap.objs.size:=by simpa using d
 subst e;exact I1.N7 (zk _) (I1.hok.fresh (zk _))
theorem Vy{σ:St}{H:Hp}{R:It->Hp->Prop}{lo hi:Int}{t u v:Tok}{tk:Nat}(I:AU X AN σ H s)(h1 : -(2 ^ 62)<=lo)(h2:lo<2 ^ 62)(f : -(2 ^ 62)<=hi)(c:hi<2 ^ 62)(q:R (FC lo (hi-lo).toNat) H):A7 (bi X) X.A (pyIter (.ref s.heap.objs.size)) (MD X AN σ tg R) E { s with heap:=s.heap.push { cls:=.type "range",data:=.fields #[.int lo t,.int hi u,.int 1 v] },toks:=tk }:=by
 refine wpAny_pyIter_range (IsRange.new ..) (small_one h1 h2 f c) ?_;have a:AU X AN σ H { s with heap:=s.heap.push { cls:=.type "range",data:=.fields #[.int lo t,.int hi u,.int 1 v] },toks:=tk }:=I.kept λb o e=>zh _ e;refine⟨(s.heap.push { cls:=.type "range",data:=.fields #[.int lo t,.int hi u,.int 1 v] }).objs.size,[(s.heap.push { cls:=.type "range",data:=.fields #[.int lo t,.int hi u,.int 1 v] }).objs.size],_,_,H,rfl,
  a.kept (t':=tk) λb o e=>zh _ e,Oa _ lo (hi-lo).toNat,?_,λb d=>?_,q⟩
 ·have e1:lo+((0:Nat):Int)*1=lo:=by simp
  have e2:(((hi-lo).toNat:Nat):Int)-((0:Nat):Int)=Builtin.Range.rangeSize lo hi 1:=by rw[rangeSize_one];split<;>omega
  show IsRangeIter _ _ (lo+((0:Nat):Int)*1) ((((hi-lo).toNat:Nat):Int)-((0:Nat):Int)) 1;rw[e1,e2];exact zt _ rfl
 ·have e:b=(s.heap.push { cls:=.type "range",data:=.fields #[.int lo t,.int hi u,.int 1 v] }).objs.size:=by simpa using d
  subst e;exact a.N7 (zk _) (a.hok.fresh (zk _))
def PR(ta:TA):TI:=λσ H R=>ta σ H λvs H1=>∃j:Int,vs=[.int j] ∧ -(2 ^ 62)<=j/\j<2 ^ 62/\R (FC 0 j.toNat) H1
theorem Tn{a:Expr}{ta:TA}{p:Pos}(d:Gl X "range")(f:X.mg "range"=U)(c:PA X [a] ta)(hs:A9 [a] X.env=[(false,eval a X.env)]:=by rfl):PI X tg (.Call (.Name "range" p) [a] [] pos) (PR ta):=by
 intro AN s σ H R I h;refine Call_ (Hv I d f boot_range (PyProof.Rows.callWith_type1 (fX (c pos AN s σ H _ I h) λus s1 ⟨vs,H1,I1,r1,q1⟩=>?_) hs S));obtain⟨j,e,q1,q2,q⟩:=q1;subst e;cases r1 with
 |cons r b=>
  cases b;obtain⟨t,rfl⟩:=r;exact call_range_1 (Vy I1 () () q1 q2 (by simpa using q))
def HP(b:TI)(g:TG)(tb:TS):TS:=λD σ H=>b σ H λJ H1=>∃W:Nat->Nat->St->Hp->Prop,(∃m,W 0 m σ H1)/\∀i m σ H,W i m σ H →
 (J.stop i H/\D.nx σ H)\/(J.go i H/\∃N:St->Hp->Prop,(∀ σ' H',N σ' H'->∃a,a<m/\W (i+1) a σ' H')/\∀x H',J.yld i H x H'->g x σ H' λc H2=>tb { D with nx:=N,ct:=N,bk:=D.nx } c H2)
def rR(fp:O A1)(h:A6):O (A1×AE):=fp.filterMap λb=>(h.get? b).map λo=>(b,o)
theorem ju{b:A1}(a:b∈fp)(e:h.get? b=Z o):(b,o)∈rR fp h:=dv.mpr ⟨b,a,by rw[e];rfl⟩
theorem Tp{p:A1×AE}(hp:p∈rR fp h):p.1∈fp/\h.get? p.1=Z p.2:=by
 obtain⟨b,a,e⟩:=dv.mp hp;cases q:h.get? b with
 |none=>rw[q]at e;cases e
 |some o=>
  rw[q]at e;have e':(b,o)=p:=kc e;subst e';exact⟨a,q⟩
theorem AU.pinned{σ:St}{H:Hp}(I:AU X AN σ H s)(f:∀b∈fp,mD X AN H b)(c:∀b∈fp,∃o,s.heap.get? b=Z o/\∀v,o.data≠.cell v):AU X (AN++rR fp s.heap) σ H s:=
 I.Hu λp hp=>(List.mem_append.mp hp).elim (λz=>I.pin p (ZA _ z)) λz=>by
  obtain⟨a,e⟩:=Tp z;obtain⟨f0,f1,f2,_⟩:=f p.1 a;obtain⟨o,e',d⟩:=c p.1 a;rw[e]at e';cases e';exact⟨e,f0,f1,f2,d⟩
theorem AU.oZ{pl:O (A1×AE)}{σ:St}{H:Hp}(I:AU X (AN++pl) σ H s):AU X AN σ H s:=I.Hu λp hp=>I.pin p (ZA _ (QU _ hp))
theorem Hw{E:TI}{g:TG}{tb:TS}(hp:PassesOwn (bi X) X.A X.env X.xe)(C:X.calm=true)(hi:PI X tg iter E)(Q:PG X tg g)(c:Ad X body tb)(hs:∀x,foldedSetIterable iter X.env x=pure x:=by intro _;rfl):PS X (.For tg iter body [] pos) (HP E g tb):=by
 intro AN s σ H D I h;refine wpAny_For (fX (hi AN s σ H _ I h) λv s1 h1=>fX h1 λb4 s2 h2=>?_) hs;obtain⟨it,fp,tn,J,H2,e,I2,T,a3,f2,W,⟨P,w0⟩,turn⟩:=h2;subst e;have B:∀{H':Hp},(∀b∈fp,H' b=U)->∀b∈fp,mD X AN H' b:=λhn b c=>⟨hn b c,(f2 b c).2⟩;refine codeAny_forLoop_any (λn s'=>∃i σ' H',AU X AN σ' H' s'/\tn i s'.heap/\(∀b∈fp,H' b=U)/\W i n σ' H') ?_ P ⟨0,σ,H2,I2,a3,λb c=>(f2 b c).1,w0⟩;rintro n G ⟨i,q,y,F,L,K,w3⟩;rcases turn i n q y w3 with⟨a5,qn⟩|⟨go,N,hN,step⟩
 ·refine kD hp (fX (T.done X S S S C i AN G q y X.xe F (B K) L a5) λr s4 ⟨hr,I4⟩=>?_);subst hr;exact wpAny_execs_nil ⟨q,y,I4,qn⟩
 ·refine kD hp (fX (T.item X S S S C i AN G q y X.xe F (B K) L go) λr s4 ⟨u,hr,h4⟩=>?_);subst hr;refine kD hp (fX h4 λ_ s5 ⟨x,H5,I5,r5,y5,st5,fr5⟩=>?_);have b0:=I5.pinned (B fr5) (T.obj _ _ st5);refine kD hp (fX (Q _ s5 q H5 x u _ b0 r5 (step x H5 y5)) λ_ s6 ⟨σ6,H6,I6,q6⟩=>?_);refine kD hp (fX (c _ s6 σ6 H6 _ I6 q6) λf z p=>?_);have again:∀{j:St} {l:Hp},AU X (AN++rR fp s5.heap) j l z->N j l->∃m,m<n/\∃i σ' H',AU X AN σ' H' z/\tn i z.heap/\(∀b∈fp,H' b=U)/\W i m σ' H':=λ{j l} a t=>by
   obtain⟨m',hm,w7⟩:=hN j l t;refine⟨m',hm,i+1,j,l,a.oZ,T.keep _ _ _ st5 λb c o e=>(a.pin (b,o) (ZA _ (ZA _ (ju c e)))).1,λb c=>?_,w7⟩;obtain⟨o,e,d⟩:=T.obj _ _ st5 b c;exact(a.pin (b,o) (ZA _ (ZA _ (ju c e)))).2.1
  cases f with
  |next=>obtain⟨j,l,a,t⟩:=p;exact again a t
  |cont=>obtain⟨j,l,a,t⟩:=p;exact again a t
  |brk=>obtain⟨j,l,a,p⟩:=p;exact⟨j,l,a.oZ,p⟩
  |ret v=>obtain⟨M,j,l,a,r7,p⟩:=p;exact⟨M,j,l,a.oZ,r7,p⟩
end
end L2
namespace L2
abbrev R2:=V->V->Hp->VK->Prop
def vX(X:Cx)(f:A0->A0->Sem A0)(r:R2):Prop:=
 ∀(AN:O (A1×AE)) (s:A2) (σ:St) (H:Hp) (x y:V) (v u:A0) (Q:VK),AU X AN σ H s->At x v->At y u->r x y H Q →
  A7 (bi X) X.A (f v u) (EP X AN σ Q) X.xe s
def D6(X:Cx)(f:A0->Sem A0)(r:V->Hp->VK->Prop):Prop:=
 ∀(AN:O (A1×AE)) (s:A2) (σ:St) (H:Hp) (x:V) (v:A0) (Q:VK),AU X AN σ H s->At x v->r x H Q →
  A7 (bi X) X.A (f v) (EP X AN σ Q) X.xe s
def eY(X:Cx)(f:A0)(r:O V->Hp->VK->Prop):Prop:=
 ∀(AN:O (A1×AE)) (s:A2) (σ:St) (H:Hp) (xs:O V) (us:O A0) (Q:VK),AU X AN σ H s->AX xs us->r xs H Q →
  A7 (bi X) X.A (call f us) (EP X AN σ Q) X.xe s
def WE(X:Cx)(r:V->Hp->(Bool->Hp->Prop)->Prop):Prop:=
 ∀(AN:O (A1×AE)) (s:A2) (σ:St) (H:Hp) (x:V) (v:A0) (Q:Bool->Hp->Prop),AU X AN σ H s->At x v->r x H Q →
  A7 (bi X) X.A (truthy v) (TP X AN σ Q) X.xe s
def D7(r:R2)(ta tb:TE):TE:=λσ H Q=>ta σ H λx H1=>tb σ H1 λy H2=>r x y H2 Q
def MR(r:V->Hp->VK->Prop)(ta:TE):TE:=λσ H Q=>ta σ H λx H1=>r x H1 Q
def rI(C:Int->Int->Prop)(g:Int->Int->V):R2:=λx y H Q=>∃i j,x=.int i/\y=.int j/\C i j/\Q (g i j) H
def EC(g:Int->Int->V):R2:=λx y H Q=>∃i j,x=.int i/\y=.int j/\Q (g i j) H
def rU(g:Int->V):V->Hp->VK->Prop:=λx H Q=>∃i,x=.int i/\Q (g i) H
section
variable{X:Cx}{a b:Expr}{ta tb tc:TE}
theorem Hn(d:PE X a ta)(g:PE X b tb){σ:St}{H:Hp}{R:V->V->Hp->Prop}(I:AU X AN σ H s)(h:ta σ H λx H1=>tb σ H1 λy H2=>R x y H2){Q:B7}{f:A0->A0->Sem A0}(e:∀v u c x y H2,AU X AN σ H2 c->At x v->At y u->R x y H2->A7 (bi X) X.A (f v u) Q X.xe c):
  A7 (bi X) X.A (eval a X.env) (λv j=>A7 (bi X) X.A (eval b X.env) (λu i=>A7 (bi X) X.A (f v u) Q X.xe i) X.xe j) X.xe s:=by
 refine fX (d AN s σ H _ I h) λv s1 ⟨x,H1,I1,r1,q1⟩=>?_;refine fX (g AN s1 σ H1 _ I1 q1) λu c ⟨y,H2,I2,r2,q2⟩=>?_;exact e v u c x y H2 I2 r1 r2 q2
theorem IT{op:Operator}{r:R2}(d:vX X (binaryOp op) r)(c:PE X a ta)(g:PE X b tb):PE X (.BinOp a op b pos) (D7 r ta tb):=by
 intro AN s σ H Q I h;exact wpAny_BinOp (Hn c g I h λv u e x y H2 i j f q=>d AN e σ H2 x y v u Q i j f q)
theorem UM{op:UnaryOp}{r:V->Hp->VK->Prop}(c:D6 X (unaryOp op) r)(b:PE X a ta):PE X (.UnaryOp op a pos) (MR r ta):=by
 intro AN s σ H Q I h;exact UnaryOp_ (fX (b AN s σ H _ I h) λv s1 ⟨x,H1,I1,r1,q1⟩=>c AN s1 σ H1 x v Q I1 r1 q1)
theorem Ee{f:A0->A0->Sem A0}{C:Int->Int->Prop}{g:Int->Int->Int}
  (a:∀(i j:Int) (t u:Tok) (s:A2) (Q:B7) (E:B7),C i j->Q (.int (g i j) s.toks) { s with toks:=s.toks+1 }->A7 (bi X) X.A (f (.int i t) (.int j u)) Q E s):
  vX X f (rI C λi j=>.int (g i j)):=by
 intro AN s σ H x y v u Q I e d h;obtain⟨i,j,rfl,rfl,c,q⟩:=h;obtain⟨t,rfl⟩:=e;obtain⟨b,rfl⟩:=d;exact a i j t b s _ _ c ⟨.int (g i j),H,I.tok _,⟨_,rfl⟩,q⟩
theorem Iy{f:A0->A0->Sem A0}{g:Int->Int->Int}
  (b:∀(i j:Int) (t u:Tok) (s:A2) (Q:B7) (E:B7),Q (.int (g i j) s.toks) { s with toks:=s.toks+1 }->A7 (bi X) X.A (f (.int i t) (.int j u)) Q E s):
  vX X f (EC λi j=>.int (g i j)):=by
 intro AN s σ H x y v u Q I a c h;obtain⟨i,j,rfl,rfl,q⟩:=h;obtain⟨t,rfl⟩:=a;obtain⟨d,rfl⟩:=c;exact b i j t d s _ _ ⟨.int (g i j),H,I.tok _,⟨_,rfl⟩,q⟩
theorem G'{f:A0->A0->Sem A0}{g:Int->Int->Bool}
  (b:∀(i j:Int) (t u:Tok) (s:A2) (Q:B7) (E:B7),Q (.bool (g i j)) s->A7 (bi X) X.A (f (.int i t) (.int j u)) Q E s):
  vX X f (EC λi j=>.bl (g i j)):=by
 intro AN s σ H x y v u Q I a c h;obtain⟨i,j,rfl,rfl,q⟩:=h;obtain⟨t,rfl⟩:=a;obtain⟨d,rfl⟩:=c;exact b i j t d s _ _ ⟨.bl (g i j),H,I,rfl,q⟩
def Pf(i j:Int):Prop:=0<j/\j<1073741824
def Sz(i j:Int):Prop:=0<=j/\j<=1000000/\i.natAbs<2 ^ 64
def GO(i j:Int):Prop:=(-(2 ^ 64)<i/\i<2 ^ 64)\/(-(2 ^ 64)<j/\j<2 ^ 64)
theorem GO.ok{i j:Int}(h:GO i j):IntMulOk i j:=by
 rcases h with⟨h1,h2⟩|⟨h1,h2⟩
 ·exact .of_left (intBits_le_64 h1 h2)
 ·exact .of_right (intBits_le_64 h1 h2)
theorem O3:vX X (binaryOp .Add) (EC λi j=>.int (i+j)):=Iy λ_ _ _ _ _ _ _ q=>add_int q
theorem Tu:vX X (binaryOp .Sub) (EC λi j=>.int (i-j)):=Iy λ_ _ _ _ _ _ _ q=>sub_int q
theorem Uf:vX X (binaryOp .Mult) (rI GO λi j=>.int (i*j)):=Ee λ_ _ _ _ _ _ _ a q=>mul_int q a.ok
theorem Zo:vX X (binaryOp .FloorDiv) (rI Pf λi j=>.int (i / j)):=Ee λi j _ _ _ _ _ a q=>by
 have h1:(0:Int)<j:=a.1;have h2:j<1073741824:=a.2;exact floordiv_int () (by rw[Int.fdiv_eq_ediv_of_nonneg i ()];exact q) (.inl (PyProof.noPylong_small ()))
theorem RU:vX X (binaryOp .Mod) (rI (λ_ j=>0<j) λi j=>.int (i%j)):=Ee λi j _ _ _ _ _ a q=>by
 have h1:(0:Int)<j:=a;exact mod_int' () (by rw[Int.fmod_eq_emod_of_nonneg i ()];exact q)
theorem NN:vX X (binaryOp .Pow) (rI Sz λi j=>.int (i ^ j.toNat)):=Ee λ_ _ _ _ _ _ _ a q=>pow_int_small a.1 a.2.1 a.2.2 q
theorem OY{f:A0->Sem A0}{g:Int->Int}
  (b:∀(i:Int) (t:Tok) (s:A2) (Q:B7) (E:B7),Q (.int (g i) s.toks) { s with toks:=s.toks+1 }->A7 (bi X) X.A (f (.int i t)) Q E s):
  D6 X f (rU λi=>.int (g i)):=by
 intro AN s σ H x v Q I a h;obtain⟨i,rfl,q⟩:=h;obtain⟨t,rfl⟩:=a;exact b i t s _ _ ⟨.int (g i),H,I.tok _,⟨_,rfl⟩,q⟩
theorem RC:D6 X (unaryOp .USub) (rU λi=>.int (-i)):=OY λ_ _ _ _ _ q=>neg_int q
theorem Vz{σ:St}{H:Hp}{Q:VK}{k a:Bool}(I:AU X AN σ H s)(q:Q (.bl k) H)(e:k=a):EP X AN σ Q (.bool a) s:=by
 subst e;exact⟨.bl k,H,I,rfl,q⟩
theorem TR:vX X (AG .Lt) (EC λi j=>.bl (decide (i<j))):=G' λ_ _ _ _ _ _ _ q=>lt_int q
theorem OB:vX X (AG .Gt) (EC λi j=>.bl (decide (j<i))):=G' λ_ _ _ _ _ _ _ q=>gt_int q
theorem Sa:vX X (AG .GtE) (EC λi j=>.bl (decide (j<=i))):=G' λ_ _ _ _ _ _ _ q=>ge_int q
theorem Tq:vX X (AG .In) (λx y H Q=>∃i j,x=.str i/\y=.str j/\Q (.bl (!(Builtin.Str.occurrences j i 0 j.length 1).isEmpty)) H):=by
 intro AN s σ H x y v u Q I a b h;obtain⟨i,j,rfl,rfl,q⟩:=h;obtain⟨t,rfl⟩:=a;obtain⟨c,rfl⟩:=b;exact in_str (Vz I q S)
theorem VV:vX X (AG .Is) (λx y H Q=>y=.non/\Q (.bl (decide (x=.non))) H):=by
 intro AN s σ H x y v u Q I a b h;obtain⟨rfl,q⟩:=h;cases b;refine is_none_gen (Vz I q ?_);cases x<;>first
  |(cases a;rfl)
  |(obtain⟨t,rfl⟩:=a;rfl)
theorem bU(b:Expr)(h:op≠.In:=by decide)(h2:op≠.NotIn:=by decide):behindInMarks op b=false:=by
 have e1:(op==CmpOp.In)=false:=by cases op<;>first|rfl|exact absurd S h
 have e2:(op==CmpOp.NotIn)=false:=by cases op<;>first|rfl|exact absurd S h2
 cases b<;>simp[behindInMarks,e1,e2]
theorem Zq{r:R2}(d:vX X (AG op) r)(c:PE X a ta)(g:PE X b tb)(i:behindInMarks op b=false):PE X (.Compare a [op] [b] pos) (D7 r ta tb):=by
 intro AN s σ H Q I h;exact wpAny_Compare1 (Hn c g I h λv u e x y H2 j l f q=>d AN e σ H2 x y v u Q j l f q) i
def ae(t:TE):TT:=λσ H Q=>t σ H λx H'=>∃k,x=.bl k/\Q k H'
theorem Zr{r:R2}(f:vX X (AG op) r)(d:PE X a ta)(g:PE X b tb)(i:behindInMarks op b=false):PT X (.Compare a [op] [b] pos) (ae (D7 r ta tb)):=by
 intro AN s σ H Q I h;refine wpAny_isTrue_Compare1 (fX (d AN s σ H _ I h) λv s1 ⟨x,H1,I1,r1,q1⟩=>fX (g AN s1 σ H1 _ I1 q1) λu s2 ⟨y,H2,I2,r2,q2⟩=>
  fX (f AN s2 σ H2 x y v u _ I2 r1 r2 q2) λc s3 ⟨z,H3,I3,r3,k,e,q3⟩=>?_) i
 subst e;cases r3;exact kU ⟨H3,I3,q3⟩
def HE(K:Au)(x:V)(H:Hp)(k:Bool):Prop:=
 match x with
 |.non=>k=false
 |.bl b=>k=b
 |.int i=>k=(i != 0)
 |.str y=>y.length<=AA/\k=((y.length:Int) != 0)
 |.byt y=>y.size<=AA/\k=((y.size:Int) != 0)
 |.ref p=>(∃xs,rJ K H p xs/\k=!xs.isEmpty)\/(∃xs,wj K H p xs/\k=!xs.isEmpty)\/∃AO,H p=Z (.dK AO)/\k=!AO.isEmpty
 |_=>False
theorem Ob{AO:O (κ×V)}{vs:O (κ×A0)}(r:KV AO vs):(!vs.isEmpty)=!AO.isEmpty:=by
 cases r<;>rfl
theorem Af{xs:O V}(r:AX xs AQ):(!AQ.toArray.isEmpty)=!xs.isEmpty:=by
 cases r<;>simp
theorem xV:(AA:Nat)<2 ^ 63:=by rw[sizeLine_eq];decide
theorem UB:WE X (λx H Q=>∃k,HE X.K x H k/\Q k H):=by
 intro AN s σ H x v Q I a h;obtain⟨k,e,q⟩:=h;have j:=xV;have hs:AA=16777216:=sizeLine_eq;cases x with
 |non=>
  cases a;have e':k=false:=e;subst e';exact truthy_none ⟨H,I,q⟩
 |bl b=>
  cases a;have e':k=b:=e;subst e';exact kU ⟨H,I,q⟩
 |int i=>
  obtain⟨t,rfl⟩:=a;have e':k=(i != 0):=e;subst e';exact PySem.P.truthy_int ⟨H,I,q⟩
 |str y=>
  obtain⟨t,rfl⟩:=a;obtain⟨f,e'⟩:y.length<=AA/\k=((y.length:Int) != 0):=e;subst e';exact PySem.P.truthy_str () ⟨H,I.tok _,q⟩
 |byt y=>
  obtain⟨t,rfl⟩:=a;obtain⟨f,e'⟩:y.size<=AA/\k=((y.size:Int) != 0):=e;subst e';exact PySem.W.truthy_bytes () ⟨H,I.tok _,q⟩
 |ref p=>
  cases a;have e':(∃xs,rJ X.K H p xs/\k=!xs.isEmpty)\/(∃xs,wj X.K H p xs/\k=!xs.isEmpty)\/∃AO,H p=Z (.dK AO)/\k=!AO.isEmpty:=e;rcases e' with⟨xs,hx,e'⟩|⟨xs,hx,e'⟩|⟨AO,hx,e'⟩
  ·subst e';obtain⟨AQ,r,pl,c⟩:=I.list hx;have d:=r.length;exact wpAny_truthy_list pl.isList (by simp only[zw];omega) ⟨H,I.tok _,by rw[Af r];exact q⟩
  ·subst e';obtain⟨AQ,r,pl,c⟩:=I.tuple hx;have d:=r.length;exact truthy_tuple pl (by simp only[zw];omega) ⟨H,I.tok _,by rw[Af r];exact q⟩
  ·subst e';obtain⟨c,g,vs,r,m⟩:AO.length<=AA/\(p==sysModules)=false/\∃vs,KV AO vs/\s.heap.DictOf (bV X.prog X.w) p vs:=I.hok p _ hx;have d:AO.length=vs.length:=Paired.length r;exact wpAny_truthy_dict g m () ⟨H,I.tok _,by rw[Ob r];exact q⟩
 |_=>exact(show False from e).elim
theorem VB(c:PE X a ta)(he:∀b,isTrue a X.env b=(do let v <-b;standAt a.pos;holding [v] (truthy v))):
  PT X a (λσ H Q=>ta σ H λx H'=>∃k,HE X.K x H' k/\Q k H'):=by
 intro AN s σ H Q I h;exact isTrue_plain (fX (c AN s σ H _ I h) λv s1 ⟨x,H1,I1,r1,q1⟩=>UB AN s1 σ H1 x v Q I1 r1 q1) (he _)
theorem Oc:vX X (binaryOp .Add) (λx y H Q=>∃i j,x=.str i/\y=.str j/\i.length+j.length<=AA/\Q (.str (i++j)) H):=by
 intro AN s σ H x y v u Q I a c h;obtain⟨i,j,rfl,rfl,b,q⟩:=h;obtain⟨t,rfl⟩:=a;obtain⟨d,rfl⟩:=c;exact add_str (λd tk=>⟨.str (i++j),H,I.tok _,⟨_,rfl⟩,q⟩) b
theorem BB{x:V}(r:AX [x] us):∃u,us=[u]/\At x u:=by
 cases r with
 |cons b a=>cases a;exact⟨_,rfl,b⟩
theorem D5{x y:V}(r:AX [x,y] us):∃u a,us=[u,a]/\At x u/\At y a:=by
 cases r with
 |cons d e=>
  cases e with
  |cons c b=>cases b;exact⟨_,_,rfl,d,c⟩
theorem VD:eY X (.builtin "abs") (λxs H Q=>∃i,xs=[.int i]/\Q (.int (if i<0 then -i else i)) H):=by
 intro AN s σ H xs us Q I r h;obtain⟨i,rfl,q⟩:=h;obtain⟨u,rfl,t,rfl⟩:=BB r;exact call_abs_int λu tk=>⟨.int (if i<0 then -i else i),H,I.tok _,⟨_,rfl⟩,q⟩
theorem Tr:eY X (.type "int") (λxs H Q=>(∃i,xs=[.int i]/\Q (.int i) H)\/∃k,xs=[.bl k]/\Q (.int (if k then 1 else 0)) H):=by
 intro AN s σ H xs us Q I r h;rcases h with⟨i,rfl,q⟩|⟨k,rfl,q⟩
 ·obtain⟨u,rfl,t,rfl⟩:=BB r;exact call_int_int ⟨.int i,H,I,⟨_,rfl⟩,q⟩
 ·obtain⟨u,rfl,a⟩:=BB r;cases a;exact call_int_bool ⟨.int (if k then 1 else 0),H,I.tok _,⟨_,rfl⟩,q⟩
end
end L2
namespace L2
section
variable{x dx f:A1}{mA:AJ->Y A0}{v:A0}
end
theorem DN.some_of{v:V}{o:Y A0}(r:DN (Z v) o):∃u,o=Z u/\At v u:=by
 cases o with
 |none=>exact(show False from r).elim
 |some u=>exact⟨u,rfl,r⟩
section
variable{H H':Hp}{h':A6}{dx:A1}{fs fs':O (AJ×V)}
end
structure Cc (K:Au) (C:Addr):Prop where
 pg:PySem.W.plainGet K C Str.empty=true
 hd:PySem.W.hasDictIn K C=true
 po:PySem.W.plainOver K C=true
 sa:PySem.W.findIn K (.ref C) "__setattr__"=some (some (.builtin "object.__setattr__"))
section
variable{X:Cx}{σ:St}{H:Hp}{dx:A1}{fs:O (AJ×V)}{f:AJ}{v:V}
end
section
variable{X:Cx}{o value:Expr}{f:AJ}{pos':Pos}{ta tv:TE}
end
section
variable{X:Cx}{σ:St}{H:Hp}{Q:B7}{c:A0}{b:Bool}
end
end L2
namespace L2
structure jN (k:Nat) (A:Around):Prop where
 hd:A.handled=none
 dp:A.depth+3*k+5<recursionLimit
 un:A.units+16*k+200<cLine
theorem jN.mono{k:Nat}(r:jN k A)(h:j<=k):jN j A:=⟨r.hd,by have:=r.dp;omega,by have:=r.un;omega⟩
theorem jN.deeper{k:Nat}(r:jN (k+1) A)(env:Env):jN k (A.deeper env):=
 ⟨r.hd,by have:=r.dp;show A.depth+1+3*k+5<_;omega,by have:=r.un;show A.units+3+16*k+200<_;omega⟩
theorem jN.depth{k:Nat}(r:jN k A):A.depth<recursionLimit:=by have:=r.dp;omega
def Ag:TA:=λ_ H Q=>Q [] H
def o7(ta:TE)(tr:TA):TA:=λσ H Q=>ta σ H λx H1=>tr σ H1 λxs H2=>Q (x::xs) H2
section
variable{X:Cx}{te:TE}{t:TA}
theorem jc:PA X [] Ag:=λ_ _ _ _ H Q I h=>Calls.spliced_nil ⟨[],H,I,.nil,h⟩
theorem dR(a:PE X e te)(b:PA X es t)(hs:A9 (e::es) X.env=(false,eval e X.env)::A9 es X.env:=by rfl):PA X (e::es) (o7 te t):=by
 intro pos AN s σ H Q I h;rw[hs];show A7 _ _ (spliced ((false,eval e X.env)::AD pos (A9 es X.env))) _ _ s;refine Calls.spliced_cons (fX (a AN s σ H _ I h) λu s1 ⟨x,H1,I1,r1,q1⟩=>?_);exact fX (b pos AN s1 σ H1 _ I1 q1) λus s2 ⟨xs,H2,I2,r2,q2⟩=>⟨x::xs,H2,I2,.cons r1 r2,q2⟩
def Sr(t:TA):TE:=λσ H Q=>t σ H λxs H1=>xs.length<=AA/\∀p,H1 p=U->Q (.ref p) (B4 H1 p (.tup xs))
def GE(t:TA):TE:=λσ H Q=>t σ H λxs H1=>xs.length<=AA/\∀p,H1 p=U->Q (.ref p) (B4 H1 p (.lst xs))
theorem Wp{x1}(h:PA X es t):PE X (.Tuple es x1 pos) (Sr t):=by
 intro AN s σ H Q I a;refine wpAny_Tuple_spliced (fX (h pos AN s σ H _ I a) λus s1 ⟨xs,H1,I1,r,z,q⟩=>⟨by rw[<-r.length];exact z,?_⟩);have c:H1 s1.heap.objs.size=U:=I1.hok.fresh (zk _);refine⟨.ref s1.heap.objs.size,B4 H1 s1.heap.objs.size (.tup xs),I1.laid (t':=s1.toks) (λb u e=>zh _ e) (zk _) ?_,rfl,q _ c⟩;exact⟨z,us,r,⟨_,zt _ rfl,rfl,⟨_,rfl⟩,rfl⟩⟩
theorem Od(h:PA X es t):PE X (.List es pos) (GE t):=by
 intro AN s σ H Q I a;refine wpAny_List_spliced (fX (h pos AN s σ H _ I a) λus s1 ⟨xs,H1,I1,r,z,q⟩=>⟨by rw[<-r.length];exact z,?_⟩);have c:H1 s1.heap.objs.size=U:=I1.hok.fresh (zk _);refine⟨.ref s1.heap.objs.size,B4 H1 s1.heap.objs.size (.lst xs),I1.laid (t':=s1.toks) (λb u e=>zh _ e) (zk _) ?_,rfl,q _ c⟩;exact⟨z,us,0,r,zt _ rfl⟩
end
abbrev Sp:=O V->Hp->VK->XK->Prop
abbrev Vl:=O Env->Hp->A2->XK->A0->A2->Prop
structure Zt (P:Program) (w:World) (K:Au) (mg:Str->Option Value) (base:Heap) (A:Around) (outer:List Env) (s:Shared) (H:Hp):Prop where
 frames:A.frames=some outer
 mod:Mod K mg base
 bs:∀b o,base.get? b=some o->s.heap.get? b=some o/\H b=none
 bsz:base.objs.size<=s.heap.objs.size
 Aa:s.heap.FunFrames base outer
 frf:∀b∈CY outer,H b=none
 hok:vZ P w H s.heap
 bare:AllBare s.gens
 tabs:BT K H
def CE(outer:O Env)(P:A3)(w:A4)(H:Hp)(s:A2)(Q:VK)(u:A0)(s':A2):Prop:=
 ∃v H',s'.os=s.os/\AllBare s'.gens/\Un (CY outer) [] H H' s.heap s'.heap/\vZ P w H' s'.heap/\At v u/\Q v H'
def CR(CX:Vl)(outer:O Env)(P:A3)(w:A4)(H:Hp)(s:A2)(Q:VK)(E:XK)(r:Result)(s':A2):Prop:=
 match r with
 |.ok (.ret u)=>CE outer P w H s Q u s'
 |.ok _=>False
 |.error e=>CX outer H s E e s'
structure uP (P:Program) (w:World) (K:Au) (mg:Str->Option Value) (base:Heap) (CX:Vl) (k:Nat) (f:Addr) (fd:FuncData) (ps:AZ) (sp:Sp):Prop where
 len:∀vs H Q E,sp vs H Q E->vs.length=ps.length
 run:∀(A:Around) (outer:List Env) (s:Shared) (H:Hp) (args:Args) (us:List Value) (vs:List V) (Q:VK) (E:XK),jN k A->Zt P w K mg base A outer s H->BindsTo s fd args (ps.zip us)->AX vs us->sp vs H Q E →
  codeAny (model P w) A (.call (.ref f) args) (CR CX outer P w H s Q E) s
section
variable{X:Cx}{σ:St}{H:Hp}{s':A2}
theorem AU.env0(I:AU X AN σ H s):Zt X.prog X.w X.K X.mg X.base X.A X.stack s H:=
 ⟨I.ok.frames,I.ok.mod,I.bs,Zs I.ok.bsz I.sz,I.stack,I.Q5,I.hok,I.bare,I.ok.tabs.go I.base.wg⟩
theorem AU.after{Q:VK}(I:AU X AN σ H s)(h:CE X.stack X.prog X.w H s Q u s'):EP X AN σ Q u s':=by
 obtain⟨v,H',os,f,un,e,r,q⟩:=h;obtain⟨c,g,d,t,a⟩:=s';obtain rfl:a=s.os:=os;exact⟨v,H',I.call (h':=c) (g':=g) (d':=d) (t':=t) (ch:=[]) un e f (λb z=>absurd z (by simp)),r,q⟩
end
def VU(sp:Sp)(dvs:O V)(E:XK)(t:TA):TE:=λσ H Q=>t σ H λvs H1=>sp (vs++dvs) H1 Q E
def BQ(K:Au)(fd:FuncData)(ps:AZ)(ds:O A0):Prop:=
 ∀(s:A2) (us:O A0),K.In s.heap->(us++ds).length=ps.length->BindsTo s fd ⟨us,[]⟩ (ps.zip (us++ds))
theorem BQ.all(h:∀us:O A0,us.length=ps.length->bindArgs fd ⟨us,[]⟩=pure (ps.zip us)):BQ K fd ps []:=λs us _ a=>by
 rw[QE]at a ⊢;exact .of_eq (h us a)
def C8(CX:Vl)(X:Cx)(E:XK):Prop:=∀(AN:O (A1×AE)) (σ:St) (H:Hp) (s:A2) (e:A0) (s':A2),AU X AN σ H s->CX X.stack H s E e s'->X.xe e s'
section
variable{X:Cx}{CX:Vl}{k:Nat}{f:A1}{sp:Sp}{dvs:O V}{ds:O A0}{E:XK}{m:AJ}{p:Pos}{o:Expr}{ta:TE}{t:TA}
theorem UE{σ:St}{H:Hp}{Q:VK}{vs:O V}(F:uP X.prog X.w X.K X.mg X.base CX k f fd ps sp)(g:jN k X.A)(d:BQ X.K fd ps ds)(i:AX dvs ds)(hx:C8 CX X E)(I:AU X AN σ H s)(r:AX vs us)(h:sp (vs++dvs) H Q E):A7 (bi X) X.A (call (.ref f) us) (EP X AN σ Q) X.xe s:=by
 have b:AX (vs++dvs) (us++ds):=r.append i;have c:(us++ds).length=ps.length:=by rw[<-b.length];exact F.len _ _ _ _ h
 refine wpAny_call (codeAny_mono (F.run X.A X.stack s H ⟨us,[]⟩ (us++ds) (vs++dvs) Q E g I.env0 (d s us I.kIn c) b h) λr s' a=>?_);cases r with
 |error e=>exact hx AN σ H s e s' I a
 |ok fl=>
  cases fl with
  |ret u=>exact I.after a
  |next=>exact False.elim a
  |brk=>exact False.elim a
  |cont=>exact False.elim a
theorem Ra(F:uP X.prog X.w X.K X.mg X.base CX k f fd ps sp)(d:jN k X.A)(l:Gl X x)(c:X.mg x=Z (.ref f))(hk:keepIn X.K (.ref f)=true)(b:BQ X.K fd ps ds)(j:AX dvs ds)(hx:C8 CX X E)
  (a:PA X (e::es) t) (g:be x:=by decide) (he:A9 (e::es) X.env=(false,eval e X.env)::A9 es X.env:=by rfl) (i:(AD pos (A9 es X.env)).any (·.1)=false:=by rfl):
  PE X (.Call (.Name x p) (e::es) [] pos) (VU sp dvs E t):=by
 intro AN s σ H Q I h;refine wpAny_Call_Name_kw (Zi I l c ?_ g);refine PySem.W.callWith_K (h₀:=X.base) I.ok.mod.kin hk (fX (a pos AN s σ H _ I h) λus s1 ⟨vs,H1,I1,r,q⟩=>⟨I1.kIn,?_⟩) he i;exact UE F d b j hx I1 r q
end
section
variable{X:Cx}{CX:Vl}{k:Nat}{f:A1}{ks:AZ}{sp:Sp}{E:XK}{m:AJ}{p kpos:Pos}{o:Expr}{kws:O AC}{te ta:TE}{t tk:TA}{nm:Y AJ}
variable{g:O A0->O A0->O A0}{gV:O V->O V->O V}
end
structure bF (N P:AZ) (sc:Scope):Prop where
 kind:sc.kind=.function
 co:sc.isCoroutine=false
 gen:sc.isGenerator=false
 nd:N.Nodup
 pre:N.take P.length=P
 par:∀x∈P,sc.names.lookup x=some .local\/sc.names.lookup x=some .cell
 ac5:∀y∈sc.names,y.2≠.free
theorem Fw{b:AJ->Y NameKind}{x:AJ}:∀{binds:O (AJ×A0)} {m:AJ->Y A0},(∀v,(x,v)∉binds)->bindL b binds m x=m x
 |[],_,_=>rfl
 |(n,v)::r,m,h=>by
  unfold bindL;rw[Fw λw a=>h w (zg _ a)];split
  ·have:x≠n:=by rintro rfl;exact h v ze
   simp[this]
  ·rfl
theorem Fy{b:AJ->Y NameKind}{x:AJ}:∀{binds:O (AJ×A0)} {m:AJ->Y A0},(∀v,(x,v)∉binds)->bindC b binds m x=m x
 |[],_,_=>rfl
 |(n,v)::r,m,h=>by
  unfold bindC;rw[Fy λw a=>h w (zg _ a)];split
  ·rfl
  ·have:x≠n:=by rintro rfl;exact h v ze
   simp[this]
theorem Fz{a:AJ->Y NameKind}{x:AJ}{v:A0}:∀{P:AZ} {vs:O A0} {i:Nat} {m:AJ->Y A0},P.Nodup->P[i]?=Z x->vs[i]?=Z v->a x=Z .local →
  bindL a (P.zip vs) m x=Z v
 |[],_,_,_,_,h,_,_=>by simp at h
 |_::_,[],_,_,_,_,h,_=>by simp at h
 |p::P,w::vs,0,m,nd,h1,h2,hk=>by
  simp at h1 h2;subst h1;subst h2;show bindL a ((p,w)::P.zip vs) m p=_;unfold bindL;rw[Fw λv b=>(bc.mp nd).1 (da b).1,zl hk];simp
 |p::P,w::vs,i+1,m,nd,h1,h2,hk=>by
  show bindL a ((p,w)::P.zip vs) m x=_;unfold bindL;exact Fz (i:=i) (bc.mp nd).2 (by simpa using h1) (by simpa using h2) hk
theorem FJ{a:AJ->Y NameKind}{x:AJ}{v:A0}:∀{P:AZ} {vs:O A0} {i:Nat} {m:AJ->Y A0},P.Nodup->P[i]?=Z x->vs[i]?=Z v->a x≠Z .local →
  bindC a (P.zip vs) m x=Z v
 |[],_,_,_,_,h,_,_=>by simp at h
 |_::_,[],_,_,_,_,h,_=>by simp at h
 |p::P,w::vs,0,m,nd,h1,h2,hk=>by
  simp at h1 h2;subst h1;subst h2;show bindC a ((p,w)::P.zip vs) m p=_;unfold bindC;rw[Fy λv b=>(bc.mp nd).1 (da b).1,zD hk];simp
 |p::P,w::vs,i+1,m,nd,h1,h2,hk=>by
  show bindC a ((p,w)::P.zip vs) m x=_;unfold bindC;exact FJ (i:=i) (bc.mp nd).2 (by simpa using h1) (by simpa using h2) hk
def start(N:AZ)(vs:O V):St:=vs.map Z++ay (N.length-vs.length) U
def Ah(CX:Vl)(P:A3)(w:A4)(K:Au)(mg:AJ->Y A0)(base:A6)(N:AZ)(qual:AJ)(scope:Scope)(f:A1)(a:A0)(A:A5)(outer:O Env)(s:A2)(H:Hp)(E:XK):Cx where
 prog:=P
 w:=w
 K:=K
 mg:=mg
 base:=base
 A:=A.deeper (AK qual scope s.heap.objs.size f a)
 N:=N
 s₀:=s
 H₀:=H
 env:=AK qual scope s.heap.objs.size f a
 outer:=outer
 stack:=AK qual scope s.heap.objs.size f a::outer
 ex:=[]
 calm:=true
 fn:=λ_=>true
 pn:=[]
 xe:=λe s'=>A7 (A8 P w) (A.deeper (AK qual scope s.heap.objs.size f a)) (leaving (AK qual scope s.heap.objs.size f a) e) (λ_ b=>CX outer H s E e b) (λe' b=>CX outer H s E e' b) s'
theorem J4{a:Scope}(h:a.names.lookup x=Z .cell):∃c,(cellsFrom n a.names []).lookup x=Z c:=by
 have q:=cellsFrom_some a.names n [] (.inl h);exact cz.mp q
theorem Tt{CX:Vl}{f:A1}{g:A0}{outer:O Env}{l:A2}{H:Hp}{E:XK}{vs:O V}(S:bF N ps scope)(C:A.handled=U)(e0:Zt P w K mg base A outer s H)(D:vs.length=ps.length)(r:AX vs us)(x:InCallC s s.heap.objs.size (bindL (AK qual scope s.heap.objs.size f g).kindOf (ps.zip us) λ_=>U) (cellsFrom (s.heap.objs.size+1) scope.names []) (bindC (AK qual scope s.heap.objs.size f g).kindOf (ps.zip us) λ_=>U) l):
  AU (Ah CX P w K mg base N qual scope f g A outer s H E) [] (start N vs) H l:=by
 have G:ps.length<=N.length:=by have:=congrArg dr S.pre;rw[KW]at this;omega
 obtain⟨h1,tk,rfl,hk⟩:=x.done;have j:∀b:A1,b∉(Ah CX P w K mg base N qual scope f g A outer s H E).ex:=λb z=>absurd (show b∈([]:O A1) from z) (by simp);refine⟨⟨e0.mod,S.kind,rfl,rfl,zk _,λy z c h1 h2=>?_,λy d=>?_,λy c _ h=>?_,λ_=>C,Around.frames_deeper e0.frames,.inr ⟨rfl,rfl⟩,λb z=>absurd z (j b),e0.bs,e0.bsz,λb _ _=>j b,λb z=>absurd z (j b),e0.Aa,e0.frf,e0.tabs⟩,
  rfl,e0.bare,Un.kept hk,⟨_,x.toInCall.ns,λi y v h1 h2 F=>?_⟩,λy c h=>⟨_,x.cell y c h⟩,e0.hok.fresh (zk _),λy c h=>?_,λp hp=>absurd (show p∈([]:O (A1×AE)) from hp) (by simp),e0.hok.kept hk,?_⟩
 ·exact name_of_addr x.apart (km h1) (km h2)
 ·have d:scope.names.lookup y=Z .cell\/scope.names.lookup y=Z .free:=d;rcases d with d|d
  ·exact J4 d
  ·exact absurd rfl (S.ac5 _ (km d))
 ·exact Q2 (x.above y c (km h))
 ·have hi:i<vs.length:=by
   unfold start at h2;by_cases hi:i<vs.length
   ·exact hi
   ·rw[ZY (by simpa using hi)]at h2;rw[QR]at h2;split at h2<;>cases h2
  have t:vs[i]?=Z v:=by
   unfold start at h2;rw[ZI (by simpa using hi),zS]at h2;cases e:vs[i]? with
   |none=>rw[e]at h2;cases h2
   |some a=>rw[e]at h2;cases h2;rfl
  obtain⟨u,m,B⟩:=r.get t;have hp:ps[i]?=Z y:=by
   rw[<-S.pre,List.getElem?_take_of_lt ()];exact h1
  have o:ps.Nodup:=by rw[<-S.pre];exact S.nd.sublist (List.take_sublist _ _)
  refine⟨u,B,?_⟩;rcases S.par y (ZE hp)with k|k
  ·exact .inl ⟨k,Fz o hp m k⟩
  ·obtain⟨c,e⟩:=J4 (n:=s.heap.objs.size+1) k;refine .inr ⟨.inl k,c,e,?_⟩;have q:=x.cell y c e;rw[FJ o hp m (by show scope.names.lookup y≠_;rw[k];decide)]at q;exact q
 ·exact e0.hok.fresh (Q2 (x.above y c (km h)))
 ·unfold start;show _=N.length;rw[zC,zi,List.length_replicate];omega
theorem ah{CX:Vl}{k:Nat}{f:A1}{i kV p pm a ct B:A0}{m z:Y A1}{sp:Sp}(lk:K.lookup f=Z ⟨B,z,.func (fnOf name qual params body scope i kV p pm m a ct),osl⟩)(a5:codeIn K a qual=true)(S:bF N ps scope)(len:∀vs H Q E,sp vs H Q E->vs.length=ps.length)(a3:∀(A:A5) (outer:O Env) (s:A2) (H:Hp) (vs:O V) (Q:VK) (E:XK),jN k (A.deeper (AK qual scope s.heap.objs.size f a))->sp vs H Q E →
   ∃t,Ad (Ah CX P w K mg base N qual scope f a A outer s H E) body t/\t { nx:=λ_ H'=>Q .non H',rt:=Q } (start N vs) H):
  uP P w K mg base CX (k+1) f (fnOf name qual params body scope i kV p pm m a ct) ps sp:=by
 refine⟨len,λA outer s H b0 us vs Q E c e0 G r j=>?_⟩;have D:=len _ _ _ _ j;have l:K.In s.heap:=e0.mod.kin.keeps λb o e=>(e0.bs b o e).1;have F:s.heap.NoLimit:=e0.mod.nolimit.keeps λb o e=>(e0.bs b o e).1;have X:∀y∈ps.zip us,scope.names.lookup y.1=Z .local\/(scope.names.lookup y.1=Z .cell/\((cellsFrom (s.heap.objs.size+1) scope.names []).lookup y.1).isSome=true):=λ⟨n,v⟩ hy=>by
  rcases S.par n (da hy).1 with q|q
  ·exact .inl q
  ·exact .inr ⟨q,cellsFrom_some _ _ _ (.inl q)⟩
 refine codeAny_call_function c.depth (l _ _ lk) rfl S.co S.gen rfl (PySem.W.codeRec_of l a5) (G _ _ _ _ ?_);refine wpAny_newFunctionEnv_cells S.kind X λenv L g x=>?_;subst L;refine⟨F.keeps x.toInCall.keep,codeAny_func ?_⟩;obtain⟨t,C,M⟩:=a3 A outer s H vs Q E (c.deeper _) j;have I:AU (Ah CX P w K mg base N qual scope f a A outer s H E) [] (start N vs) H g:=Tt S c.hd e0 D r x;refine Z3 (C [] g (start N vs) H _ I M) (λfl s' hs=>?_) λe s' hs=>hs;have h:∀{σ':St} {H':Hp} {v:V} {u:A0},AU (Ah CX P w K mg base N qual scope f a A outer s H E) [] σ' H' s'->At v u->Q v H'->CE outer P w H s Q u s':=
  λ{σ' H' v u} J d q=>⟨v,H',J.os,J.bare,J.base,J.hok,d,q⟩
 cases fl with
 |ret u=>
  obtain⟨v,σ',H',J,d,q⟩:=hs;exact h J d q
 |next=>
  obtain⟨σ',H',J,q⟩:=hs;exact h (v:=V.non) (u:=Value.none) J rfl q
 |brk=>
  obtain⟨_,_,_,q⟩:=hs;exact False.elim q
 |cont=>
  obtain⟨_,_,_,q⟩:=hs;exact False.elim q
end L2
namespace L2
section
variable{X:Cx}{p:Pos}{t:TA}{id T:String}{r:O V->Hp->VK->Prop}
def Hk(r:O V->Hp->VK->Prop)(t:TA):TE:=λσ H Q=>t σ H λvs H1=>r vs H1 Q
theorem wz(d:eY X (.builtin id) r)(j:Gl X x)(f:X.mg x=U)(b:AH x=Z (.builtin id))(a:PA X (e::es) t)(c:x ≠ "__name__":=by decide)(g:be x:=by decide)
  (he:A9 (e::es) X.env=(false,eval e X.env)::A9 es X.env:=by rfl) (i:(AD pos (A9 es X.env)).any (·.1)=false:=by rfl):PE X (.Call (.Name x p) (e::es) [] pos) (Hk r t):=by
 intro AN s σ H Q I h;refine wpAny_Call_Name_kw (Hv I j f b ?_ c g);exact PyProof.Rows.callWith_builtin1 (fX (a pos AN s σ H _ I h) λus s1 ⟨vs,H1,I1,r1,q1⟩=>d AN s1 σ H1 vs us Q I1 r1 q1) he i
theorem FN(d:eY X (.type T) r)(j:Gl X x)(f:X.mg x=U)(b:AH x=Z (.type T))(a:PA X (e::es) t)(c:x ≠ "__name__":=by decide)(g:be x:=by decide)
  (he:A9 (e::es) X.env=(false,eval e X.env)::A9 es X.env:=by rfl) (i:(AD pos (A9 es X.env)).any (·.1)=false:=by rfl):PE X (.Call (.Name x p) (e::es) [] pos) (Hk r t):=by
 intro AN s σ H Q I h;refine wpAny_Call_Name_kw (Hv I j f b ?_ c g);exact PyProof.Rows.callWith_type1 (fX (a pos AN s σ H _ I h) λus s1 ⟨vs,H1,I1,r1,q1⟩=>d AN s1 σ H1 vs us Q I1 r1 q1) he i
end
end L2
namespace HT
open PySem PyProof.Rows
section
open PySem.SeqAt
open PySem.AutoSeq1 (wpAny_loadPart')
open PySem.MeetsSeq PySem.MeetsSeq2 PySem.MeetsSeq3
end
theorem Zu{t b:A1}{vs a:O A0}{Q:B7}(u:IsTup s.heap t vs.toArray)(v:IsTup s.heap b a.toArray)(h:vs≠[])
  (h1:a=[]->Q (.ref t) s) (h2:a≠[]->Q (.ref s.heap.objs.size) { s with heap:=s.heap.push { cls:=.type "tuple",data:=.seq (vs++a).toArray } })
  (hsz:vs.length+a.length<=AA):A7 (A8 prog w) A (binaryOp .Add (.ref t) (.ref b)) Q E s:=by
 obtain⟨⟨cls,g,data,sl⟩,c,m,n,q⟩:=id u;obtain⟨⟨cls2,j,x,o⟩,d,l,i,p⟩:=id v;simp only at m q l p;subst m q l p;have e:vs.toArray++a.toArray=(vs++a).toArray:=by simp
 by_cases f:a=[]
 ·exact concat_meets ⟨_,c,rfl⟩ ⟨_,d,rfl⟩ noFill_tuple_add seq_tuple_add PySem.F.slot_tuple_add YV (YE _ _)
   (tuple_addW1 t b vs.toArray a.toArray n i g j sl o (by simpa using h) (by simp[f])) ⟨c,d,h1 f⟩
 ·refine concat_meets ⟨_,c,rfl⟩ ⟨_,d,rfl⟩ noFill_tuple_add seq_tuple_add PySem.F.slot_tuple_add YV (YE _ _)
   (tuple_addW2 t b vs.toArray a.toArray n i g j sl o (by simpa using h) (by simpa using f) (by rw[zw,zw];exact hsz)) ⟨c,d,?_⟩
  rw[e];exact h2 f
def fZ(n d:Nat):Y Int->Nat
 |none=>d
 |some v=>if v<0 then(v+(n:Int)).toNat else min v.toNat n
theorem VF(n d:Nat):fZ n d U=d:=rfl
theorem Zv(n d k:Nat):fZ n d (Z (k:Int))=min k n:=by
 show(if(k:Int)<0 then((k:Int)+(n:Int)).toNat else min (k:Int).toNat n)=min k n;rw[zD (),Ya]
theorem VS(n d:Nat)(b:d<=n)(o:Y Int):fZ n d o<=n:=by
 cases o with
 |none=>exact b
 |some v=>
  show(if v<0 then(v+(n:Int)).toNat else min v.toNat n)<=n;by_cases a:v<0
  ·rw[zl a];omega
  ·rw[zD a];exact Nat.min_le_right _ _
theorem Rb(v:Int)(n d:Nat):(if v<0 then max (v+(n:Int)) 0 else min v (n:Int))=((fZ n d (Z v):Nat):Int):=by
 show(if v<0 then max (v+(n:Int)) 0 else min v (n:Int))=(((if v<0 then(v+(n:Int)).toNat else min v.toNat n):Nat):Int);by_cases a:v<0
 ·simp only[zl a];omega
 ·simp only[zD a];omega
theorem Oe(lo hi:Y Int)(n:Nat):Builtin.Slice.sliceAdjust lo hi 1 (n:Int)=(((fZ n 0 lo:Nat):Int),((fZ n n hi:Nat):Int)):=by
 have h1:¬ ((1:Int)<0):=by omega
 unfold Builtin.Slice.sliceAdjust;simp only[h1,qf];refine di ?_ ?_
 ·cases lo with
  |none=>rfl
  |some v=>exact Rb v n 0
 ·cases hi with
  |none=>rfl
  |some v=>exact Rb v n n
theorem Og(i j:Nat):Builtin.Slice.slicePlaces (i:Int) (j:Int) 1=j-i:=by
 unfold Builtin.Slice.slicePlaces;have h1:(1:Int)>0:=by omega
 simp only[h1,QY,Int.ediv_one];split<;>omega
theorem Ai{v:A0}{o:Y Int}{Q:Y Int->A2->Prop}(p:IsPart v o)(h:Q o s):A7 (A8 prog w) A (Builtin.Slice.slicePartIndex v) Q E s:=by
 cases p with
 |none=>exact slicePart_none h
 |int i t=>exact slicePart_int h
theorem o8{sl:A1}{a d:A0}{Q:Int×Int×Nat->A2->Prop}(hs:s.heap.IsSliceOf sl a d .none)(pl:IsPart a lo)(e:IsPart d hi)(h:Q (((fZ n 0 lo:Nat):Int),1,fZ n n hi-fZ n 0 lo) s):A7 (A8 prog w) A (Builtin.Slice.sliceApplied (.ref sl) (pure (n:Int))) Q E s:=by
 obtain⟨os,b,f,c⟩:=id hs;unfold Builtin.Slice.sliceApplied Builtin.Slice.sliceFields;refine zb (zb (wpAny_field b c (x:=a) S (zb (wpAny_field b c (x:=d) S (zb (wpAny_field b c (x:=.none) S (zd ?_)))))));refine zb (slicePart_none ?_);show A7 _ _ (if((1:Int)==0)=true then _ else _) _ _ s;rw[zD ()];refine zb (Ai pl (zb (Ai e (zb (zd ?_)))));show A7 _ _ (match Builtin.Slice.sliceAdjust lo hi 1 (n:Int)with|(lo,hi)=>pure (lo,(1:Int),Builtin.Slice.slicePlaces lo hi 1)) _ _ s;rw[Oe lo hi n];show A7 _ _ (pure (((fZ n 0 lo:Nat):Int),(1:Int),Builtin.Slice.slicePlaces ((fZ n 0 lo:Nat):Int) ((fZ n n hi:Nat):Int) 1)) _ _ s;rw[Og];exact zd h
theorem VG(xs:Array A0)(i k:Nat):((bq k).filterMap λ(m:Nat)=>xs[((i:Int)+(m:Int)*1).toNat]?).toArray=((xs.toList.drop i).take k).toArray:=by
 have e:(λ(m:Nat)=>xs[((i:Int)+(m:Int)*1).toNat]?)=λm=>xs[i+m]?:=by
  funext m;have:((i:Int)+(m:Int)*1).toNat=i+m:=by omega
  rw[this]
 rw[e];have:=pick_run xs i k;rw[List.filterMap_map]at this;have e2:((λx=>xs[x]?) ∘ λx=>i+x)=λm=>xs[i+m]?:=rfl;rw[e2]at this;rw[this]
theorem wA{t sl:A1}{c d:A0}{Q:B7}(a:IsTup s.heap t items)(hs:s.heap.IsSliceOf sl c d .none)(pl:IsPart c lo)(f:IsPart d hi)(i:¬ (fZ items.size 0 lo=0/\fZ items.size items.size hi=items.size))(h:Q (.ref s.heap.objs.size) { s with heap:=s.heap.push { cls:=.type "tuple",data:=.seq ((items.toList.drop (fZ items.size 0 lo)).take (fZ items.size items.size hi-fZ items.size 0 lo)).toArray } })(hsz:items.size<=AA):A7 (A8 prog w) A (getItem (.ref t) (.ref sl)) Q E s:=by
 have b:sizeOk (.seq ((items.toList.drop (fZ items.size 0 lo)).take (fZ items.size items.size hi-fZ items.size 0 lo)).toArray):=by
  show((items.toList.drop (fZ items.size 0 lo)).take (fZ items.size items.size hi-fZ items.size 0 lo)).toArray.size<=AA;rw[zw,KW,eu,qc];omega
 have o:fZ items.size items.size hi<=items.size:=VS _ _ (zk _) hi;obtain⟨os,e,j,n⟩:=id hs;have g:s.TypeIs (.ref sl) "slice":=⟨os,e,j⟩;unfold getItem
 try with_reducible refine qB ?_
 first|refine zb (zd ?_)|skip
 refine zb (wpAny_sequenceKey a.typeIs () ?_);refine zb (YU (name:=Str.ofString "__getitem__") a.typeIs PyProof.Rows.slot_tuple_getitem
  (Q3 PyProof.Rows.slot_tuple_getitem a.typeIs entry_tuple_getitem ?_ (args_tuple_getitem _ _)))
 show A7 _ _ (Builtin.Tuple.tupleItemsOf (.ref t) >>= _) _ _ s;refine zb (tupleItemsOf_ a ?_);refine zb (Q1 g ?_);rw[zl ()];refine zb (o8 hs pl f ?_);have l:¬ ((((fZ items.size 0 lo:Nat):Int)==0&&(1:Int)==1&&(fZ items.size items.size hi-fZ items.size 0 lo)==items.size)=true):=by
  intro q;rw[qo,qo]at q;have q1:((fZ items.size 0 lo:Nat):Int)=0:=eq_of_beq q.1.1;have q2:fZ items.size items.size hi-fZ items.size 0 lo=items.size:=eq_of_beq q.2;exact i ⟨by omega,by omega⟩
 show A7 _ _ (if(((fZ items.size 0 lo:Nat):Int)==0&&(1:Int)==1&&(fZ items.size items.size hi-fZ items.size 0 lo)==items.size)=true then _ else _) _ _ s;rw[zD l,VG]
 first
  |exact zb (m:=Builtin.Tuple.tupleExact _) (qV (zd ⟨_,rfl,zd h⟩) b)
  |exact zb (m:=Builtin.Tuple.tupleExact _) (qV (zb (zd (zd ⟨_,rfl,zd h⟩))) b)
  |exact zb (zb (m:=Builtin.Tuple.tupleExact _) (qV (zd (zd ⟨_,rfl,zd h⟩)) b))
  |exact zb (zb (m:=Builtin.Tuple.tupleExact _) (qV (zd ⟨_,rfl,zd h⟩) b))
end HT
namespace L2
abbrev TO:=St->Hp->(Y Int->Hp->Prop)->Prop
def PO(X:Cx)(e:Y Expr)(t:TO):Prop:=
 ∀(AN:O (A1×AE)) (s:A2) (σ:St) (H:Hp) (Q:Y Int->Hp->Prop),AU X AN σ H s->t σ H Q →
  A7 (bi X) X.A (evalPart e X.env) (λu s'=>∃o H',AU X AN σ H' s'/\IsPart u o/\Q o H') X.xe s
def Zw:TO:=λ_ H Q=>Q U H
def XT(t:TE):TO:=λσ H Q=>t σ H λx H1=>∃i,x=.int i/\Q (Z i) H1
section
variable{X:Cx}{te:TE}{lo hi:Y Expr}{tl th:TO}
theorem Zx:PO X U Zw:=by
 intro AN s σ H Q I h;rw[evalPart_none];exact zd ⟨U,H,I,.none,h⟩
theorem Zy(h:PE X e te):PO X (Z e) (XT te):=by
 intro AN s σ H Q I a;rw[evalPart_some];refine fX (h AN s σ H _ I a) λu s1 ⟨x,H1,I1,r1,q1⟩=>?_;obtain⟨i,rfl,q⟩:=q1;obtain⟨t,rfl⟩:=r1;exact⟨Z i,H1,I1,.int i t,q⟩
def FM(X:Cx)(r:V->Y Int->Y Int->Hp->VK->Prop):Prop:=
 ∀(AN:O (A1×AE)) (s:A2) (σ:St) (H:Hp) (x:V) (v a b:A0) (lo hi:Y Int) (sl:A1) (Q:VK),AU X AN σ H s->At x v->s.heap.IsSliceOf sl a b .none->IsPart a lo->IsPart b hi->r x lo hi H Q →
  ∃T id,typeLookup (.type T) "__getitem__"=pure (Z (.builtin id))/\s.TypeIs v T/\A7 (bi X) X.A (getItem v (.ref sl)) (EP X AN σ Q) X.xe s
def WI(r:V->Y Int->Y Int->Hp->VK->Prop)(te:TE)(tl th:TO):TE:=λσ H Q=>te σ H λx H1=>tl σ H1 λl H2=>th σ H2 λu a=>r x l u a Q
theorem VH{r:V->Y Int->Y Int->Hp->VK->Prop}(g:FM X r)(he:PE X e te)(a:PO X lo tl)(d:PO X hi th):PE X (.Subscript e (.Slice lo hi U p2) pos) (WI r te tl th):=by
 intro AN s σ H Q I h;refine Subscript_ (fX (he AN s σ H _ I h) λv s1 ⟨x,H1,I1,r1,q1⟩=>?_);refine wpAny_Slice (fX (a AN s1 σ H1 _ I1 q1) λvl s2 ⟨l,H2,I2,pl,q2⟩=>fX (d AN s2 σ H2 _ I2 q2) λvu s3 ⟨u,H3,I3,pu,q3⟩=>?_);rw[evalPart_none];refine zd ?_;have j:AU X AN σ H3 { s3 with heap:=s3.heap.push { cls:=.type "slice",data:=.fields #[vl,vu,.none] } }:=I3.kept (t':=s3.toks) λb m q=>zh _ q;obtain⟨T,id,i,c,f⟩:=g AN { s3 with heap:=s3.heap.push { cls:=.type "slice",data:=.fields #[vl,vu,.none] } } σ H3 x v vl vu l u s3.heap.objs.size Q j r1 (Heap.IsSliceOf.new ..) pl pu q3;show A7 (bi X) X.A (subscriptTail e (.Slice lo hi U p2) v (.ref s3.heap.objs.size)) (EP X AN σ Q) X.xe { s3 with heap:=s3.heap.push { cls:=.type "slice",data:=.fields #[vl,vu,.none] } };exact tail_any (ops:=[.ref s3.heap.objs.size,v]) c i f (by with_unfolding_all rfl)
def J5(xs:O V)(lo hi:Y Int):O V:=(xs.drop (HT.fZ xs.length 0 lo)).take (HT.fZ xs.length xs.length hi-HT.fZ xs.length 0 lo)
theorem yJ(xs:O V)(lo hi:Y Int):(J5 xs lo hi).length<=xs.length:=by
 unfold J5;rw[KW,eu];omega
def OC(K:Au):V->Y Int->Y Int->Hp->VK->Prop:=λx lo hi H Q=>∃a xs,x=.ref a/\wj K H a xs ∧
 ¬ (HT.fZ xs.length 0 lo=0/\HT.fZ xs.length xs.length hi=xs.length)/\∀p,H p=U->Q (.ref p) (B4 H p (.tup (J5 xs lo hi)))
theorem XZ:FM X (OC X.K):=by
 intro AN s σ H x v j m lo hi sl Q I i hs pl f h;obtain⟨a,xs,rfl,hx,g,q⟩:=h;cases i;obtain⟨AQ,r,e,d⟩:=I.tuple hx;have c:AQ.toArray.size=xs.length:=by rw[zw];exact r.length.symm
 refine⟨"tuple", _,PyProof.Rows.slot_tuple_getitem.lookup,e.typeIs,?_⟩;refine HT.wA e hs pl f (by rw[c];exact g) ?_ (by rw[c];exact d);rw[c];refine⟨.ref s.heap.objs.size,_,I.laid (t':=s.toks) (o:=.tup (J5 xs lo hi)) (λb l q=>zh _ q) (zk _) ?_,rfl,q _ (I.hok.fresh (zk _))⟩;exact⟨Zs (yJ xs lo hi) d,_,(r.drop (HT.fZ xs.length 0 lo)).take (HT.fZ xs.length xs.length hi-HT.fZ xs.length 0 lo),rO.new _ _⟩
def XL(K:Au):R2:=λx y H Q=>∃a b xs ys,x=.ref a/\y=.ref b/\wj K H a xs/\wj K H b ys/\xs≠[]/\xs.length+ys.length<=AA ∧
 (ys=[]->Q (.ref a) H)/\(ys≠[]->∀p,H p=U->Q (.ref p) (B4 H p (.tup (xs++ys))))
theorem AX.zK{xs:O V}(r:AX xs us):us=[]↔xs=[]:=by
 cases r with
 |nil=>simp
 |cons _ _=>simp
theorem Zz:vX X (binaryOp .Add) (XL X.K):=by
 intro AN s σ H x y v u Q I j g h;obtain⟨a,b,xs,ys,rfl,rfl,f,i,hx,e,q1,q2⟩:=h;cases j;cases g;obtain⟨AQ,d,p1,_⟩:=I.tuple f;obtain⟨m,c,p2,_⟩:=I.tuple i;refine HT.Zu p1 p2 (λz=>hx (d.zK.mp z)) (λz=>⟨.ref a,H,I,rfl,q1 (c.zK.mp z)⟩) (λz=>?_) (by rw[<-d.length,<-c.length];exact e);refine⟨.ref s.heap.objs.size,_,I.laid (t':=s.toks) (o:=.tup (xs++ys)) (λb l q=>zh _ q) (zk _) ?_,rfl,q2 (λw=>z (c.zK.mpr w)) _ (I.hok.fresh (zk _))⟩;exact⟨by rw[zC];exact e,_,d.append c,rO.new _ _⟩
end
end L2
namespace L2
def DD(n:Nat)(i:Int):Y Nat:=if 0<=i then(if i<n then Z i.toNat else U)else if -(n:Int)<=i then Z (i+n).toNat else U
def Aj(xs:O α)(i:Int):Y α:=(DD xs.length i).bind λj=>xs[j]?
theorem ZC{i:Int}(h:DD n i=Z j):seqIndex? i n=Z j/\j<n ∧ -(n:Int)<=i/\i<n:=by
 unfold DD at h;by_cases a:0<=i
 ·rw[zl a]at h;by_cases h1:i<n
  ·rw[zl h1]at h;have e:i.toNat=j:=kc h;exact⟨by rw[seqIndex_of a h1,e],by omega,by omega,h1⟩
  ·rw[zD h1]at h;cases h
 ·rw[zD a]at h;by_cases h1 : -(n:Int)<=i
  ·rw[zl h1]at h;have e:(i+n).toNat=j:=kc h;exact⟨by rw[seqIndex_neg () h1,e],by omega,h1,by omega⟩
  ·rw[zD h1]at h;cases h
theorem Hx{xs:O α}{i:Int}{v:α}(h:Aj xs i=Z v):∃j,seqIndex? i xs.length=Z j/\xs[j]?=Z v/\j<xs.length ∧ -(xs.length:Int)<=i/\i<xs.length:=by
 unfold Aj at h;cases e:DD xs.length i with
 |none=>rw[e]at h;cases h
 |some j=>
  rw[e]at h;obtain⟨h1,h2,b,a⟩:=ZC e;exact⟨j,h1,h,h2,b,a⟩
theorem Rf{xs:O α}{v:α}(h:xs[j]?=Z v):Aj xs (j:Int)=Z v:=by
 have a:j<xs.length:=(ba.mp h).1;have e:DD xs.length (j:Int)=Z j:=by
  unfold DD;rw[zl (),zl ()];simp
 unfold Aj;rw[e];exact h
def Rh(b:Expr):Prop:=∀o i,subscripted b false o i=operate [o,i] (getItem o i)
def ZD(X:Cx)(r:R2):Prop:=
 ∀(value a:Expr) (AN:O (A1×AE)) (s:A2) (σ:St) (H:Hp) (x y:V) (v u:A0) (Q:VK),AU X AN σ H s->At x v->At y u->r x y H Q →
  subscripted a false v u=operate [v,u] (getItem v u)->A7 (bi X) X.A (subscriptTail value a v u) (EP X AN σ Q) X.xe s
def MA(X:Cx)(id:String)(r:V->O V->Hp->VK->Prop):Prop:=
 ∀(AN:O (A1×AE)) (s:A2) (σ:St) (H:Hp) (x:V) (xs:O V) (v:A0) (us:O A0) (Q:VK),AU X AN σ H s->At x v->AX xs us->r x xs H Q →
  A7 (bi X) X.A (call (.builtin id) (v::us)) (EP X AN σ Q) X.xe s
section
variable{X:Cx}{a b:Expr}{ta tb:TE}
theorem ZD.or{r d:R2}(h:ZD X r)(h':ZD X d):ZD X (λx y H Q=>r x y H Q\/d x y H Q):=by
 intro value c AN s σ H x y v u Q I b a q hs;rcases q with q|q
 ·exact h value c AN s σ H x y v u Q I b a q hs
 ·exact h' value c AN s σ H x y v u Q I b a q hs
theorem VJ{r:R2}(j:ZD X r)(c:PE X a ta)(f:PE X b tb)(hs:Rh b):PE X (.Subscript a b pos) (D7 r ta tb):=by
 intro AN s σ H Q I h;exact Subscript_ (Hn c f I h λv u d x y H2 g i e q=>j a b AN d σ H2 x y v u Q g i e q (hs _ _))
def VL(K:Au):R2:=λx y H Q=>∃p xs i v,x=.ref p/\y=.int i/\rJ K H p xs/\Aj xs i=Z v/\Q v H
def IJ(K:Au):R2:=λx y H Q=>∃p xs i v,x=.ref p/\y=.int i/\wj K H p xs/\Aj xs i=Z v/\Q v H
def IQ:R2:=λx y H Q=>∃z i c,x=.str z/\y=.int i/\z.length<=AA/\Aj z.cps.toList i=Z c/\Q (.str ⟨#[c]⟩) H
theorem Hy:ZD X (VL X.K):=by
 intro value E AN s σ H x y v u Q I n l h hs;obtain⟨p,xs,i,z,rfl,rfl,o,m,q⟩:=h;cases n;obtain⟨t,rfl⟩:=l;obtain⟨AQ,r,pl,B⟩:=I.list o;obtain⟨j,h1,h2,D,A,g⟩:=Hx m;obtain⟨w,d,e⟩:=r.get h2;have f:=r.length;have C:=xV;have b:EP X AN σ Q w s:=⟨z,H,I,e,q⟩;by_cases c:0<=i
 ·have a:i.toNat=j:=by
   rw[seqIndex_of c g]at h1;exact kc h1
  exact item_listR pl.isList c () (by rw[a];simpa using d) b hs
 ·have a:(i+(AQ.toArray.size:Int)).toNat=j:=by
   rw[seqIndex_neg () A]at h1;rw[zw,<-f];exact kc h1
  exact subscriptTail_builtinR (x:=w) pl.isList.typeIs slot_list_getitem.lookup
   (wpAny_getItem_list_neg (Q:=λr s'=>r=w/\EP X AN σ Q r s') pl.isList () (by rw[zw]<;>omega) () (by rw[a];simpa using d) ⟨rfl,b⟩) hs
theorem XV:ZD X (IJ X.K):=by
 intro value B AN s σ H x y v u Q I f d h hs;obtain⟨p,xs,i,z,rfl,rfl,g,e,q⟩:=h;cases f;obtain⟨t,rfl⟩:=d;obtain⟨AQ,r,pl,m⟩:=I.tuple g;obtain⟨j,h1,h2,A,C,o⟩:=Hx e;obtain⟨w,l,a⟩:=r.get h2;have b:=r.length;have n:=xV;have c:EP X AN σ Q w s:=⟨z,H,I,a,q⟩;exact subscriptTail_builtinR (x:=w) pl.typeIs slot_tuple_getitem.lookup
  (getItem_tuple (j:=j) (Q:=λr s'=>r=w/\EP X AN σ Q r s') pl () () (by rw[zw,<-b];exact h1) (by simpa using l) ⟨rfl,c⟩) hs
theorem SS:ZD X IQ:=by
 intro value o AN s σ H x y v u Q I f b h hs;obtain⟨z,i,c,rfl,rfl,l,d,q⟩:=h;obtain⟨t,rfl⟩:=f;obtain⟨m,rfl⟩:=b;obtain⟨j,h1,h2,p,g,e⟩:=Hx d;have a:z.cps.toList.length=z.length:=by simp[Str.length]
 rw[a]at h1 g e;have n:=xV;exact tail_any (typeIs_str s z t) slot_str_getitem.lookup (getItem_str (c:=c) (by
  have e1:decide (i < -(2 ^ 63:Int))=false:=ZZ ();have e2:decide (i>=2 ^ 63)=false:=ZZ ();rw[e1,e2,dC]) (by rw[h1];simpa using h2) ⟨.str ⟨#[c]⟩,H,I.tok _,⟨_,rfl⟩,q⟩) hs
def VC(K:Au):R2:=λx y H Q=>VL K x y H Q\/IJ K x y H Q\/IQ x y H Q
theorem UZ:ZD X (VC X.K):=Hy.or (XV.or SS)
theorem AU.lst{σ:St}{H:Hp}{p:A1}{xs:O V}(I:AU X AN σ H s)(h:H p=Z (.lst xs)):
  ∃(AQ:O A0) (n:Nat),AX xs AQ/\s.heap.get? p=Z { cls:=.type "list",data:=.seq AQ.toArray n }/\xs.length<=AA:=by
 obtain⟨z,AQ,n,r,e⟩:=I.hok p _ h;exact⟨AQ,n,r,e,z⟩
theorem Hz(lo hi:Y Int)(n:Nat):(sliceBounds lo hi U n).1=((HT.fZ n 0 lo:Nat):Int)/\(sliceBounds lo hi U n).2.1=((HT.fZ n n hi:Nat):Int)/\(sliceBounds lo hi U n).2.2=1:=by
 refine⟨?_,?_,rfl⟩
 ·cases lo with
  |none=>simp[sliceBounds,HT.fZ]
  |some i=>
   simp only[sliceBounds,HT.fZ,gI,show(1:Int)>0 by decide,QY];by_cases h:i<0
   ·simp only[h,QY]<;>omega
   ·simp only[h,qf]<;>omega
 ·cases hi with
  |none=>simp[sliceBounds,HT.fZ]
  |some i=>
   simp only[sliceBounds,HT.fZ,gI,show(1:Int)>0 by decide,QY];by_cases h:i<0
   ·simp only[h,QY]<;>omega
   ·simp only[h,qf]<;>omega
theorem DP(AQ:O A0)(lo hi:Y Int):slicePick AQ.toArray lo hi U=((AQ.drop (HT.fZ AQ.length 0 lo)).take (HT.fZ AQ.length AQ.length hi-HT.fZ AQ.length 0 lo)).toArray:=by
 obtain⟨h1,h2,a⟩:=Hz lo hi AQ.toArray.size;unfold slicePick;rw[h1,h2,a];simp only[sliceRange_one,pick_run,zw]<;>rfl
def SZ(K:Au):V->Y Int->Y Int->Hp->VK->Prop:=λx lo hi H Q=>∃a xs,x=.ref a/\rJ K H a xs/\∀p,H p=U->Q (.ref p) (B4 H p (.lst (J5 xs lo hi)))
theorem ZF:FM X (SZ X.K):=by
 intro AN s σ H x v i l lo hi sl Q I g hs pl f h;obtain⟨a,xs,rfl,hx,q⟩:=h;cases g;obtain⟨AQ,r,c,e⟩:=I.list hx;have d:=r.length;refine⟨"list", _,slot_list_getitem.lookup,c.isList.typeIs,?_⟩;refine wpAny_getItem_list_slice c.isList hs pl f .none (by simp) ?_ (by rw[zw]<;>omega);rw[DP,<-d];refine⟨.ref s.heap.objs.size,_,I.laid (t':=s.toks) (o:=.lst (J5 xs lo hi)) (λb j q=>zh _ q) (zk _) ?_,rfl,q _ (I.hok.fresh (zk _))⟩;exact⟨Zs (yJ xs lo hi) e,_,0,(r.drop (HT.fZ xs.length 0 lo)).take (HT.fZ xs.length xs.length hi-HT.fZ xs.length 0 lo),zt _ rfl⟩
def q9:V->Bool
 |.non=>true
 |.bl _=>true
 |.int _=>true
 |.str _=>true
 |_=>false
def ZG:V->V->Bool
 |.non,.non=>true
 |.bl a,.bl b=>a==b
 |.bl a,.int b=>(if a then 1 else 0)==b
 |.int a,.bl b=>a==(if b then 1 else 0)
 |.int a,.int b=>a==b
 |.str a,.str b=>a==b
 |_,_=>false
theorem XI{y x:V}{v:A0}(e:At y u)(c:At x v)(fy:q9 y=true)(fx:q9 x=true):SeqAt.EqAt A s u v (ZG y x):=by
 cases y with
 |non=>
  cases e;cases x with
  |non=>cases c;exact SeqAt.EqAt.same _
  |bl b=>cases c;exact SeqAt.EqAt.none_bool b
  |int b=>obtain⟨t,rfl⟩:=c;exact SeqAt.EqAt.none_int b t
  |str b=>obtain⟨t,rfl⟩:=c;exact SeqAt.EqAt.none_str b t
  |_=>exact absurd (show false=true from fx) Zl
 |bl a=>
  cases e;cases x with
  |non=>cases c;exact SeqAt.EqAt.bool_none a
  |bl b=>cases c;exact SeqAt.EqAt.bool_bool a b
  |int b=>obtain⟨t,rfl⟩:=c;exact SeqAt.EqAt.bool_int a b t
  |str b=>obtain⟨t,rfl⟩:=c;exact SeqAt.EqAt.bool_str a b t
  |_=>exact absurd (show false=true from fx) Zl
 |int a=>
  obtain⟨d,rfl⟩:=e;cases x with
  |non=>cases c;exact SeqAt.EqAt.int_none a d
  |bl b=>cases c;exact SeqAt.EqAt.int_bool a d b
  |int b=>obtain⟨t,rfl⟩:=c;exact SeqAt.EqAt.int_int a d b t
  |str b=>obtain⟨t,rfl⟩:=c;exact SeqAt.EqAt.int_str a d b t
  |_=>exact absurd (show false=true from fx) Zl
 |str a=>
  obtain⟨d,rfl⟩:=e;cases x with
  |non=>cases c;exact SeqAt.EqAt.str_none a d
  |bl b=>cases c;exact SeqAt.EqAt.str_bool a d b
  |int b=>obtain⟨t,rfl⟩:=c;exact SeqAt.EqAt.str_int a d b t
  |str b=>obtain⟨t,rfl⟩:=c;exact SeqAt.EqAt.str_str a d b t
  |_=>exact absurd (show false=true from fx) Zl
 |_=>exact absurd (show false=true from fy) Zl
def Oh(x:V)(u:A0):Bool:=match u with
 |.none=>ZG .non x
 |.bool b=>ZG (.bl b) x
 |.int i _=>ZG (.int i) x
 |.str z _=>ZG (.str z) x
 |_=>false
theorem VN{x y:V}(r:At y u)(f:q9 y=true):Oh x u=ZG y x:=by
 cases y with
 |non=>cases r;rfl
 |bl b=>cases r;rfl
 |int i=>obtain⟨t,rfl⟩:=r;rfl
 |str z=>obtain⟨t,rfl⟩:=r;rfl
 |_=>exact absurd (show false=true from f) Zl
theorem wB{x:V}:∀{xs:O V} {us:O A0},AX xs us->xs.all q9=true->us.any (Oh x)=xs.any λy=>ZG y x
 |_,_,.nil,_=>rfl
 |y::xs,u::us,.cons r t,f=>by
  rw[kL,qo]at f;rw[ki,ki,VN r f.1,wB t f.2]
theorem rT{A:A5}{s:A2}{x:V}{v:A0}(b:At x v)(fx:q9 x=true):∀{xs:O V} {us:O A0},AX xs us->xs.all q9=true->∀u∈us,SeqAt.EqAt A s u v (Oh x u)
 |_,_,.nil,_=>λu a=>by cases a
 |y::xs,u::us,.cons r t,f=>λc a=>by
  rw[kL,qo]at f;rcases List.mem_cons.mp a with rfl|a
  ·rw[VN r f.1];exact XI r b f.1 fx
  ·exact rT b fx t f.2 c a
def F6(x:V)(xs:O V):Bool:=xs.any λy=>ZG y x
def IY(K:Au)(a:Bool):R2:=λx y H Q=>∃p xs,y=.ref p/\(rJ K H p xs\/wj K H p xs)/\q9 x=true/\xs.all q9=true/\Q (.bl (if a then !F6 x xs else F6 x xs)) H
theorem Tv:vX X (AG .In) (IY X.K false):=by
 intro AN s σ H x y v u Q I c e h;obtain⟨p,xs,rfl,a,fx,fs,q⟩:=h;cases e;rcases a with a|a
 ·obtain⟨AQ,r,pl,d⟩:=I.list a;refine SeqAt.in_listAt (Oh x) pl.isList (λw b=>rT c fx r fs w (by simpa using b)) ⟨.bl _,H,I,rfl,?_⟩;rw[show AQ.toArray.any (Oh x)=AQ.any (Oh x) by simp,wB r fs];exact q
 ·obtain⟨AQ,r,pl,d⟩:=I.tuple a;refine SeqAt.in_tupleAt (Oh x) pl (λw b=>rT c fx r fs w (by simpa using b)) ⟨.bl _,H,I,rfl,?_⟩;rw[show AQ.toArray.any (Oh x)=AQ.any (Oh x) by simp,wB r fs];exact q
theorem HB:vX X (AG .NotIn) (IY X.K true):=by
 intro AN s σ H x y v u Q I c e h;obtain⟨p,xs,rfl,a,fx,fs,q⟩:=h;cases e;rcases a with a|a
 ·obtain⟨AQ,r,pl,d⟩:=I.list a;refine SeqAt.notIn_listAt (Oh x) pl.isList (λw b=>rT c fx r fs w (by simpa using b)) ⟨.bl _,H,I,rfl,?_⟩;rw[show AQ.toArray.any (Oh x)=AQ.any (Oh x) by simp,wB r fs];exact q
 ·obtain⟨AQ,r,pl,d⟩:=I.tuple a;refine SeqAt.notIn_tupleAt (Oh x) pl (λw b=>rT c fx r fs w (by simpa using b)) ⟨.bl _,H,I,rfl,?_⟩;rw[show AQ.toArray.any (Oh x)=AQ.any (Oh x) by simp,wB r fs];exact q
theorem HD:vX X (AG .NotIn) (λx y H Q=>∃i j,x=.str i/\y=.str j/\Q (.bl (!(!(Builtin.Str.occurrences j i 0 j.length 1).isEmpty))) H):=by
 intro AN s σ H x y v u Q I a b h;obtain⟨i,j,rfl,rfl,q⟩:=h;obtain⟨t,rfl⟩:=a;obtain⟨c,rfl⟩:=b;exact notIn_str ⟨.bl _,H,I,rfl,q⟩
theorem HF:eY X (.builtin "len") (λxs H Q=>∃p ys,xs=[.ref p]/\(rJ X.K H p ys\/wj X.K H p ys)/\Q (.int ys.length) H):=by
 intro AN s σ H xs us Q I r h;obtain⟨p,ys,rfl,a,q⟩:=h;obtain⟨u,rfl,e⟩:=BB r;cases e;have f:=xV;rcases a with a|a
 ·obtain⟨AQ,c,pl,d⟩:=I.list a;have b:=c.length;exact Calls.call_len_list pl.isList (by simp only[zw]<;>omega) ⟨.int ys.length,H,I.tok _,⟨s.toks+1,by rw[zw,b]⟩,q⟩
 ·obtain⟨AQ,c,pl,d⟩:=I.tuple a;have b:=c.length;exact len_tuple pl (by simp only[zw]<;>omega) ⟨.int ys.length,H,I.tok _,⟨s.toks+1,by rw[zw,b]⟩,q⟩
theorem HJ:eY X (.builtin "len") (λxs H Q=>∃z,xs=[.str z]/\z.length<=AA/\Q (.int z.length) H):=by
 intro AN s σ H xs us Q I r h;obtain⟨z,rfl,a,q⟩:=h;obtain⟨u,rfl,t,rfl⟩:=BB r;have b:=xV;exact len_str () ⟨.int z.length,H,I.tok _,⟨_,rfl⟩,q⟩
theorem eY.or{f:A0}{r a:O V->Hp->VK->Prop}(h:eY X f r)(h':eY X f a):eY X f (λxs H Q=>r xs H Q\/a xs H Q):=by
 intro AN s σ H xs us Q I b q;rcases q with q|q
 ·exact h AN s σ H xs us Q I b q
 ·exact h' AN s σ H xs us Q I b q
theorem HN:eY X (.type "list") (λxs H Q=>∃p ys,xs=[.ref p]/\(rJ X.K H p ys\/wj X.K H p ys)/\∀l,H l=U->Q (.ref l) (B4 H l (.lst ys))):=by
 intro AN s σ H xs us Q I r h;obtain⟨p,ys,rfl,d,q⟩:=h;obtain⟨u,rfl,t⟩:=BB r;cases t;have j:∀(AQ:O A0),AX ys AQ->ys.length<=AA->∀(h':A6) (c':Nat),(∀b o',s.heap.get? b=Z o'->h'.get? b=Z o') →
   h'.get? s.heap.objs.size=Z { cls:=.type "list",dict:=U,data:=.seq AQ.toArray c',slots:=#[] }->EP X AN σ Q (.ref s.heap.objs.size) { s with heap:=h' }:=λAQ a c h' c' kp e=>
  ⟨.ref s.heap.objs.size,_,I.laid (t':=s.toks) kp (zk _) (show eV X.prog X.w _ h' _ (.lst ys) from⟨c,AQ,c',a,e⟩),rfl,q _ (I.hok.fresh (zk _))⟩
 rcases d with d|d
 ·obtain⟨AQ,a,pl,c⟩:=I.list d;have m:=a.length;obtain⟨o,f,g,n,i⟩:=pl.isList;exact call_list_seq p (.inl S) f g i (λh' c' kp e=>j AQ a c h' c' kp e) (by simp only[zw]<;>omega)
 ·obtain⟨AQ,a,pl,c⟩:=I.tuple d;have m:=a.length;obtain⟨o,f,g,n,i⟩:=pl;exact call_list_seq p (.inr S) f g i (λh' c' kp e=>j AQ a c h' c' kp e) (by simp only[zw]<;>omega)
theorem DR:eY X (.type "tuple") (λxs H Q=>∃p ys,xs=[.ref p]/\((rJ X.K H p ys/\∀l,H l=U->Q (.ref l) (B4 H l (.tup ys)))\/(wj X.K H p ys/\Q (.ref p) H))):=by
 intro AN s σ H xs us Q I r h;obtain⟨p,ys,rfl,h⟩:=h;obtain⟨u,rfl,i⟩:=BB r;cases i;rcases h with⟨c,q⟩|⟨c,q⟩
 ·obtain⟨AQ,a,pl,d⟩:=I.list c;have j:=a.length;refine call_tuple_list pl.isList (λh' kp=>?_) (by simp only[zw]<;>omega);have f:AU X AN σ H { s with heap:=h' }:=I.kept (t':=s.toks) kp;have g:AU X AN σ (B4 H h'.objs.size (.tup ys)) { s with heap:=h'.push { cls:=.type "tuple",data:=.seq AQ.toArray } }:=
   f.laid (t':=s.toks) (λb o e=>zh _ e) (zk _) (show eV X.prog X.w _ _ _ (.tup ys) from⟨d,AQ,a,rO.new _ _⟩)
  exact⟨.ref h'.objs.size,_,g,rfl,q _ (f.hok.fresh (zk _))⟩
 ·obtain⟨AQ,a,pl,d⟩:=I.tuple c;exact call_tuple_same pl ⟨.ref p,H,I,rfl,q⟩
def Ll(K:Au)(T:String)(x:V)(H:Hp):Prop:=match x with
 |.str _=>T ="str"
 |.int _=>T ="int"
 |.ref p=>(T ="list" ∧ ∃xs,rJ K H p xs)\/(T ="tuple" ∧ ∃o,K.lookup p=Z o/\o.cls=.type "tuple" ∧ o.dict=U) ∨
   (T ="dict" ∧ ((∃AO,H p=Z (.dK AO))\/∃AO,H p=Z (.dT AO)))\/(T ="set" ∧ ∃S n,H p=Z (.set S n))
 |_=>False
theorem SO{σ:St}{H:Hp}{T:String}{x:V}{v:A0}(I:AU X AN σ H s)(r:At x v)(ty:Ll X.K T x H):
  s.TypeIs v T/\∀a,v=.ref a->∃d,s.heap.get? a=Z d/\d.dict=U:=by
 cases x with
 |str z=>
  obtain⟨t,rfl⟩:=r;cases(show T ="str" from ty);exact⟨typeIs_str s z t,λ_ e=>nomatch e⟩
 |int i=>
  obtain⟨t,rfl⟩:=r;cases(show T ="int" from ty);exact⟨typeIs_int s i t,λ_ e=>nomatch e⟩
 |ref p=>
  cases r;rcases ty with⟨rfl,xs,f⟩|⟨rfl,o,hk,g,b⟩|⟨rfl,hk⟩|⟨rfl,S,n,hk⟩
  ·obtain⟨AQ,_,pl,_⟩:=I.list f;refine⟨pl.isList.typeIs,λa e=>?_⟩;cases e;obtain⟨o,n,e,c,b,_⟩:=pl;exact⟨o,e,b⟩
  ·refine⟨⟨o,I.kIn p o hk,g⟩,λa e=>?_⟩;cases e;exact⟨o,I.kIn _ o hk,b⟩
  ·have z:∃o,s.heap.get? p=Z o/\o.ExactDict:=by
    rcases hk with⟨AO,hk⟩|⟨AO,hk⟩
    ·obtain⟨_,_,_,_,o,_,_,e,ex,_⟩:=I.hok p _ hk;exact⟨o,e,ex⟩
    ·obtain⟨_,_,_,_,o,_,_,e,ex,_⟩:=I.hok p _ hk;exact⟨o,e,ex⟩
   obtain⟨o,e,ex⟩:=z;refine⟨⟨o,e,ex.1⟩,λa e2=>?_⟩;cases e2;exact⟨o,e,ex.2.1⟩
  ·obtain⟨o,_,_,_,e,ex,_⟩:=I.hok p _ hk;refine⟨⟨o,e,ex.1⟩,λa e2=>?_⟩;cases e2;exact⟨o,e,ex.2.1⟩
 |_=>exact False.elim ty
def Da(K:Au)(T:String)(r:V->O V->Hp->VK->Prop)(to:TE)(t:TA):TE:=λσ H Q=>to σ H λx H1=>Ll K T x H1/\t σ H1 λxs H2=>r x xs H2 Q
variable{o:Expr}{to:TE}{t:TA}{T id:String}{r:V->O V->Hp->VK->Prop}
theorem yK(pa:PlainAttrs T)(slot:Slot T name id)(l:typeOf (.builtin id)=pure (.type "method_descriptor"))(f:MA X id r)(c:PE X o to)(b:PA X (e::es) t)
  (g:attributeBase o name X.env (eval o X.env)=eval o X.env:=by rfl)
  (d:((AD cpos (A9 (e::es) X.env)).all (λx=>!x.1)&&(backToKw cpos (keywordEach [] X.env)).all (λx=>x.1.isSome)
   && decide ((e::es).length+([]:O AC).length+(if([]:O AC).isEmpty then 0 else 1)<30))=true:=by rfl)
  (i:(apos.endLine==cpos.line)=true:=by rfl) (hs:A9 (e::es) X.env=(false,eval e X.env)::A9 es X.env:=by rfl) (j:(AD cpos (A9 es X.env)).any (·.1)=false:=by rfl):
  PE X (.Call (.Attribute o name apos) (e::es) [] cpos) (Da X.K T r to t):=by
 intro AN s σ H Q I h;refine wpAny_Call_method_late g d i S (fX (c AN s σ H _ I h) λv s1 ⟨x,H1,I1,r1,ty,q1⟩=>?_);obtain⟨h1,h2⟩:=SO I1 r1 ty;refine⟨T,id,pa,slot,l,h1,h2,?_⟩;have a:=b cpos AN s1 σ H1 _ I1 q1;rw[hs]at a ⊢;refine Calls.callWith_builtin (by show(false||(AD cpos (A9 es X.env)).any (·.1))=false;rw[j]<;>rfl) (Calls.evalArgs_plain ?_);exact fX a λus s2 ⟨vs,H2,I2,r2,q2⟩=>f AN s2 σ H2 x vs v us Q I2 r1 r2 q2
end
end L2
namespace L2
def FU(X:Cx)(id:String)(r:V->O V->Hp->VK->Prop):Prop:=
 ∀(AN:O (A1×AE)) (s:A2) (σ:St) (H:Hp) (x:V) (xs:O V) (v:A0) (us:O A0) (Q:VK),AU X AN σ H s->At x v->AX xs us->r x xs H Q →
  A7 (bi X) X.A (call (.builtin id) (v::us)) (EP X AN σ Q) X.xe s
theorem AX.one:∀{x:V} {us:O A0},AX [x] us->∃u,us=[u]/\At x u:=λh=>by
 cases h with
 |cons r t=>cases t;exact⟨_,rfl,r⟩
theorem AX.two:∀{x y:V} {us:O A0},AX [x,y] us->∃u v,us=[u,v]/\At x u/\At y v:=λh=>by
 cases h with
 |cons r t=>
  cases t with
  |cons q t=>cases t;exact⟨_,_,rfl,r,q⟩
theorem AX.eraseIdx:∀{xs:O V} {us:O A0} (i:Nat),AX xs us->AX (xs.eraseIdx i) (us.eraseIdx i)
 |_,_,_,.nil=>.nil
 |_,_,0,.cons _ t=>t
 |_,_,i+1,.cons r t=>.cons r (AX.eraseIdx i t)
theorem AX.reverse{xs:O V}(h:AX xs us):AX xs.reverse us.reverse:=by
 induction h with
 |nil=>exact .nil
 |cons r t a=>rw[KM,KM];exact AX.append a (.cons r .nil)
theorem FP{α:Type}:∀(l:O α) (i:Nat),(l.eraseIdx i).length<=l.length
 |[],_=>zk _
 |_::_,0=>Kx _
 |_::r,i+1=>YO (FP r i)
section
variable{X:Cx}{σ:St}{H:Hp}{b:A1}{xs ys zs:O V}
theorem AU.Tw{its':O A0}{f:Array A0->Array A0}{t':Nat}(I:AU X AN σ H s)(h:H l=Z (.lst xs))(e:s.heap.get? l=Z { cls:=.type "list",data:=.seq AQ.toArray n })(c:f AQ.toArray=its'.toArray)(b:AX ys its')(a:ys.length<=AA):
  AU X AN σ (B4 H l (.lst ys)) { s with heap:=s.heap.update l (Obj.mapSeq f),toks:=t' }:=by
 have q:=PySem.IsL.update e f;rw[c]at q;refine I.write (x:=l) (e:=l) (by rw[h];exact trivial) (.inl S) (λi u g d=>(eW s.heap (Obj.mapSeq f) (KI g)).trans d) ⟨_,q⟩ ?_;exact⟨a,its',_,b,q⟩
theorem AU.ZJ(I:AU X AN σ H s)(a:H l=Z (.lst xs)):xs.length<=AA/\∃(AQ:O A0) (n:Nat),AX xs AQ/\xs.length=AQ.length/\s.heap.get? l=Z { cls:=.type "list",data:=.seq AQ.toArray n }:=by
 obtain⟨z,AQ,n,r,e⟩:=I.hok l _ a;exact⟨z,AQ,n,r,r.length,e⟩
theorem VP(h:n<=AA):Builtin.List.listTooLong n=false:=by
 unfold Builtin.List.listTooLong;exact ZZ ()
end
section
variable{X:Cx}
def zL:V->O V->Hp->VK->Prop:=λx vs H Q=>∃l xs y,x=.ref l/\vs=[y]/\H l=Z (.lst xs)/\xs.length<AA/\Q .non (B4 H l (.lst (xs++[y])))
theorem lY:FU X "list.append" zL:=by
 intro AN s σ H x vs v us Q I c d h;obtain⟨l,xs,y,rfl,rfl,a,f,q⟩:=h;cases c;obtain⟨u,rfl,b⟩:=d.one;obtain⟨z,AQ,n,r,g,e⟩:=I.ZJ a;refine call_meets F.slot_list_append ⟨_,e,rfl⟩ F.entry_list_append (F.args_list_append_2 _ _) (PySem.list_append l AQ.toArray n u (by rw[zw];omega)) ⟨e,?_⟩;refine⟨.non,_,I.Tw (its':=AQ++[u]) a e (by simp) (r.append (.cons b .nil)) ?_,rfl,q⟩;rw[zC,JS];omega
def ZK:V->O V->Hp->VK->Prop:=λx vs H Q=>∃l b xs zs,x=.ref l/\vs=[.ref b]/\H l=Z (.lst xs)/\H b=Z (.lst zs)/\xs.length+zs.length<=AA/\Q .non (B4 H l (.lst (xs++zs)))
theorem Tz:FU X "list.extend" ZK:=by
 intro AN s σ H x vs v us Q I m o h;obtain⟨l,b,xs,zs,rfl,rfl,c,i,t,q⟩:=h;cases m;obtain⟨u,rfl,d⟩:=o.one;cases d;obtain⟨z,AQ,n,r,w,e⟩:=I.ZJ c;obtain⟨z2,a,f,p,y,e2⟩:=I.ZJ i;have j:AQ.toArray.size+a.toArray.size<=AA:=by rw[zw,zw];omega
 have g:¬ (!AQ.toArray.isEmpty&&Builtin.List.listTooLong (AQ.toArray.size+a.toArray.size))=true:=by
  rw[VP j,yA];exact Zl
 refine call_meets F.slot_list_extend ⟨_,e,rfl⟩ F.entry_list_extend (F.args_list_extend_2 _ _)
  (AutoSeq1.list_extend_list_list_0 l AQ.toArray n b a.toArray f g (by rw[zw];omega) ()) ⟨e,e2,?_⟩
 refine⟨.non,_,I.Tw (its':=AQ++a) c e (by simp) (r.append p) ?_,rfl,q⟩;rw[zC];omega
def Oi:V->O V->Hp->VK->Prop:=λx vs H Q=>∃l xs i k y,x=.ref l/\vs=[.int i]/\H l=Z (.lst xs) ∧ -(2 ^ 63)<=i/\i<2 ^ 63/\seqIndex? i xs.length=Z k/\xs[k]?=Z y/\Q y (B4 H l (.lst (xs.eraseIdx k)))
theorem VR:FU X "list.pop" Oi:=by
 intro AN s σ H x vs v us Q I j m h;obtain⟨l,xs,i,k,y,rfl,rfl,a,h1,h2,hk,b,q⟩:=h;cases j;obtain⟨u,rfl,c⟩:=m.one;obtain⟨t,rfl⟩:=c;obtain⟨z,AQ,n,r,f,e⟩:=I.ZJ a;obtain⟨w,g,d⟩:=r.get b;refine call_meets F.slot_list_pop ⟨_,e,rfl⟩ F.entry_list_pop (F.args_list_pop_2 _ _)
  (MeetsSeq.list_pop_at l AQ.toArray n i t k w (fitsIndex_both h1 h2) (by rw[zw,<-f];exact hk) (by rw[<-kR];exact g) (by rw[zw];omega)) ⟨e,?_⟩
 refine⟨y,_,I.Tw (its':=AQ.eraseIdx k) a e ?_ (r.eraseIdx k) ?_,d,q⟩
 ·show AQ.toArray.eraseIdxIfInBounds k=(AQ.eraseIdx k).toArray;rw[List.eraseIdxIfInBounds_toArray]
 ·have:=FP xs k;omega
end
section
variable{X:Cx}
end
end L2
namespace L2
section
variable [DecidableEq κ]
def o9(AO:O (κ×V))(k:κ):Y V:=(AO.find? λa=>decide (a.1=k)).map (·.2)
def B9(AO:O (κ×V))(k:κ)(v:V):O (κ×V):=
 if(AO.any λa=>decide (a.1=k))=true then AO.map (λa=>if a.1=k then(a.1,v)else a)else AO++[(k,v)]
theorem rW{p:κ×V}{r:O (κ×V)}{k:κ}(e:p.1=k):o9 (p::r) k=Z p.2:=by simp[o9,kF,e]
theorem rY{p:κ×V}{r:O (κ×V)}{k:κ}(e:¬ p.1=k):o9 (p::r) k=o9 r k:=by simp[o9,kF,e]
theorem wC(k:κ):∀AO:O (κ×V),(AO.any λa=>decide (a.1=k))=(o9 AO k).isSome
 |[]=>rfl
 |p::r=>by
  rw[ki];by_cases e:p.1=k
  ·simp only[rW e,qA e,Bool.true_or,dz]
  ·rw[rY e,ZZ e,dE];exact wC k r
theorem jO(AO:O (κ×V))(k:κ)(v:V):(B9 AO k v).length<=AO.length+1:=by
 unfold B9;split
 ·rw[zi];omega
 ·rw[zC,Zp,ye];omega
theorem DN.TF{o:Y V}{u:Y A0}(r:DN o u):o.isSome=u.isSome:=by
 cases o with
 |none=>cases u with
  |none=>rfl
  |some _=>exact(show False from r).elim
 |some _=>cases u with
  |none=>exact(show False from r).elim
  |some _=>rfl
theorem KV.val{AO:O (κ×V)}{vs:O (κ×A0)}(r:KV AO vs)(k:κ):DN (o9 AO k) (valueAt vs k):=by
 unfold KV at r
 induction r with
 |nil=>exact True.intro
 |@cons p q ps a h t c=>
  obtain⟨h1,h2⟩:=h;by_cases e:p.1=k
  ·have e':q.1=k:=h1.symm.trans e;have b:valueAt (q::a) k=Z q.2:=by simp[valueAt,kF,e']
   rw[rW e,b];exact h2
  ·have e':¬ q.1=k:=λz=>e (h1.trans z);have b:valueAt (q::a) k=valueAt a k:=by simp[valueAt,kF,e']
   rw[rY e,b];exact c
theorem KV.any{AO:O (κ×V)}{vs:O (κ×A0)}(r:KV AO vs)(k:κ):(AO.any λa=>decide (a.1=k))=vs.any λa=>decide (a.1=k):=by
 unfold KV at r
 induction r with
 |nil=>rfl
 |cons h t b=>rw[ki,ki,b,h.1]
theorem KV.repl{AO:O (κ×V)}{vs:O (κ×A0)}(r:KV AO vs)(k:κ){y:V}(c:At y u):
  KV (AO.map λa=>if a.1=k then(a.1,y)else a) (vs.map λa=>if a.1=k then(a.1,u)else a):=by
 unfold KV at r ⊢
 induction r with
 |nil=>exact .nil
 |@cons p q ps d h t b=>
  rw[zo,zo];refine .cons ?_ b;obtain⟨h1,h2⟩:=h;by_cases e:p.1=k
  ·rw[zl e,zl (h1.symm.trans e)];exact⟨h1,c⟩
  ·rw[zD e,zD (λz=>e (h1.trans z))];exact⟨h1,h2⟩
theorem KV.put{AO:O (κ×V)}{vs:O (κ×A0)}(r:KV AO vs)(k:κ){y:V}(a:At y u):KV (B9 AO k y) (stored vs k u):=by
 unfold B9 stored;rw[r.any k];by_cases e:(vs.any λb=>decide (b.1=k))=true
 ·rw[zl e,zl e];exact r.repl k a
 ·rw[zD e,zD e];exact Paired.snoc r ⟨rfl,a⟩
theorem KV.length{AO:O (κ×V)}{vs:O (κ×A0)}(r:KV AO vs):AO.length=vs.length:=Paired.length r
end
theorem FQ{k:AY}(r:At (kV k) u):(bV P w).is k u=true:=by
 cases k with
 |inl i=>obtain⟨t,e⟩:=(show ∃t,u=Value.int i t from r);subst e;exact JX P w i t
 |inr x=>obtain⟨t,e⟩:=(show ∃t,u=Value.str x t from r);subst e;exact JZ P w x t
theorem FT{P:A3}{w:A4}:∀{ks:O AY} {us:O A0},AX (ks.map kV) us->ItemsAre (bV P w) ks us
 |[],_,r=>by rw[kA]at r;cases r;exact .nil
 |k::ks,_,r=>by
  rw[zo]at r;cases r with
  |cons h t=>exact .cons (FQ h) (FT t)
abbrev KT(H:Hp):O (O AY×V)->O (O AY×A1×A0)->Prop:=AI λp q=>p.1=q.1/\H q.2.1=Z (.tup (p.1.map kV))/\At p.2 q.2.2
theorem KT.val{H:Hp}{AO:O (O AY×V)}{xs:O (O AY×A1×A0)}(r:KT H AO xs)(k:O AY):DN (o9 AO k) ((atKey xs k).map (·.2)):=by
 induction r with
 |nil=>exact True.intro
 |@cons p q ps a h t c=>
  obtain⟨h1,_,h2⟩:=h;by_cases e:p.1=k
  ·have e':q.1=k:=h1.symm.trans e;have b:atKey (q::a) k=Z q.2:=by simp[atKey,kF,e']
   rw[rW e,b];exact h2
  ·have e':¬ q.1=k:=λz=>e (h1.trans z);have b:atKey (q::a) k=atKey a k:=by simp[atKey,kF,e']
   rw[rY e,b];exact c
theorem KT.repl{H:Hp}{AO:O (O AY×V)}{xs:O (O AY×A1×A0)}(r:KT H AO xs)(k:O AY){y:V}(c:At y u):
  KT H (AO.map λa=>if a.1=k then(a.1,y)else a) (xs.map (putAt k u)):=by
 induction r with
 |nil=>exact .nil
 |@cons p q ps f h t b=>
  rw[zo,zo];refine .cons ?_ b;obtain⟨h1,h2,d⟩:=h;unfold putAt;by_cases e:p.1=k
  ·rw[zl e,zl (h1.symm.trans e)];exact⟨h1,h2,c⟩
  ·rw[zD e,zD (λz=>e (h1.trans z))];exact⟨h1,h2,d⟩
theorem KT.put{H:Hp}{AO:O (O AY×V)}{xs:O (O AY×A1×A0)}(r:KT H AO xs)(k:O AY){b:A1}{y:V}(d:H b=Z (.tup (k.map kV)))(a:At y u):
  KT H (B9 AO k y) (storedH xs k b u):=by
 have e:(AO.any λc=>decide (c.1=k))=(atKey xs k).isSome:=by
  rw[wC,(r.val k).TF,Option.isSome_map]
 unfold B9 storedH;rw[e];by_cases q:(atKey xs k).isSome=true
 ·rw[zl q,zl q];exact r.repl k a
 ·rw[zD q,zD q];exact Paired.snoc r ⟨rfl,d,a⟩
theorem KT.keeps{H H':Hp}{AO:O (O AY×V)}{xs:O (O AY×A1×A0)}(r:KT H AO xs)(a:∀b ys,H b=Z (.tup ys)->H' b=Z (.tup ys)):KT H' AO xs:=
 Paired.Ze r λ_ _ z=>⟨z.1,a _ _ z.2.1,z.2.2⟩
section
variable{H:Hp}
theorem MT{u:HO}(ok:vZ P w H h)(e:Rd H a u):eV P w H h a u:=e.ok ok
theorem rZ{AO:O (AY×V)}(ok:vZ P w H h)(e:Rd H a (.dK AO)):AO.length<=AA/\(a==sysModules)=false/\∃vs,KV AO vs/\h.DictOf (bV P w) a vs:=
 show eV P w H h a (.dK AO) from MT ok e
theorem V0{AO:O (AY×V)}(ok:vZ P w H h)(e:H a=Z (.dK AO)):AO.length<=AA/\(a==sysModules)=false/\∃vs,KV AO vs/\h.DictOf (bV P w) a vs:=rZ ok (.inl e)
theorem Oj{ks:O AY}(ok:vZ P w H h)(e:H a=Z (.tup (ks.map kV))):(tupleKind (bV P w)).is h ks a:=by
 obtain⟨_,AQ,r,o,h1,h2,⟨n,b⟩,_⟩:=(show eV P w H h a (.tup (ks.map kV)) from ok a _ e);exact⟨o,AQ.toArray,n,h1,h2,b,by simpa using FT r⟩
theorem V1{AO:O (O AY×V)}(ok:vZ P w H h)(e:Rd H a (.dT AO)):AO.length<=AA/\(a==sysModules)=false ∧
  ∃xs,KT H AO xs/\h.DictOfH (tupleKind (bV P w)) a xs:=by
 obtain⟨z,y,xs,r,o,es,ep,h1,h2,f,g,d⟩:=(show eV P w H h a (.dT AO) from MT ok e);refine⟨z,y,xs,r,o,es,ep,h1,h2,f,g,λx hx=>?_,d⟩;have all:∀{l:O (O AY×V)} {m:O (O AY×A1×A0)},KT H l m->∀x∈m,(tupleKind (bV P w)).is h x.1 x.2.1:=by
  intro l m q
  induction q with
  |nil=>intro x hx;exact nomatch hx
  |@cons p q ps i b t c=>
   intro x hx;rcases List.mem_cons.mp hx with e|hx
   ·subst e;exact Oj ok (by rw[<-b.1];exact b.2.1)
   ·exact c x hx
 exact all r x hx
theorem Sj{AO:O (O AY×V)}(ok:vZ P w H h)(e:H a=Z (.dT AO)):AO.length<=AA/\(a==sysModules)=false ∧
  ∃xs,KT H AO xs/\h.DictOfH (tupleKind (bV P w)) a xs:=V1 ok (.inl e)
end
def Ha(H:Hp)(a:A1)(y:V)(r:Y V):Prop:=
 (∃AO k,Rd H a (.dK AO)/\y=kV k/\r=o9 AO k)\/∃AO k b,Rd H a (.dT AO)/\y=.ref b/\H b=Z (.tup (k.map kV))/\r=o9 AO k
def V2(H:Hp)(a:A1)(y v:V)(H':Hp):Prop:=
 (∃AO k,H a=Z (.dK AO)/\y=kV k/\AO.length<AA/\H'=B4 H a (.dK (B9 AO k v))) ∨
 ∃AO k b,H a=Z (.dT AO)/\y=.ref b/\H b=Z (.tup (k.map kV))/\AO.length<AA/\H'=B4 H a (.dT (B9 AO k v))
theorem V2.k{H:Hp}{a:A1}{AO:O (AY×V)}{k:AY}{v:V}(e:H a=Z (.dK AO))(b:AO.length<AA):V2 H a (kV k) v (B4 H a (.dK (B9 AO k v))):=.inl ⟨AO,k,e,rfl,b,rfl⟩
section
variable{X:Cx}{σ:St}{H:Hp}{y v:V}{r:A0}{o:Y V}
theorem AU.big(I:AU X AN σ H s):sysModules<s.heap.objs.size:=by
 have h:mainGlobals<s.heap.objs.size:=(I.mod.glob.keeps I.bk).lt;exact yo () h
theorem TJ{Q:B7}(q:A.units+1<cLine)(I:AU X AN σ H s)(g:Ha H a y (Z v))(n:At y u)(h:∀c s',AU X AN σ H s'->At v c->Q c s'):
  A7 (bi X) A (getItem (.ref a) u) Q E s:=by
 rcases g with⟨AO,k,e,m,l⟩|⟨AO,k,b,e,m,eb,l⟩
 ·subst m;obtain⟨z,x,vs,f,d⟩:=rZ I.hok e;obtain⟨c,j,i⟩:=DN.some_of (v:=v) (o:=valueAt vs k) (by rw[l];exact f.val k);exact wpAny_getItem_of (FQ n) d.mapOf j (h c _ (I.tok _) i)
 ·subst m;cases(show u=Value.ref b from n);obtain⟨z,x,xs,f,d⟩:=V1 I.hok e;obtain⟨c,j,i⟩:=DN.some_of (v:=v) (o:=(atKey xs k).map (·.2)) (by rw[l];exact f.val k);obtain⟨p,hp,t⟩:=fg.mp j;refine wpAny_getItem_heap (tupleKind_room_in1 q) (Oj I.hok eb) d hp ?_;rw[t];exact h c _ (I.tok _) i
theorem zM{h':A6}{t':Nat}{c:HO}(I:AU X AN σ H s)(d:ER (H a))(hs:Heap.SameBut a s.heap h')(he:∃q,h'.get? a=Z q)(new:eV X.prog X.w (B4 H a c) h' a c):
  AU X AN σ (B4 H a c) { s with heap:=h',toks:=t' }:=
 I.write (x:=a) (e:=a) d (.inl S) (λb q f z=>(hs.2 b f).trans z) he new
theorem Ol{H':Hp}{h':A6}{AO:O (AY×V)}{vs:O (AY×A0)}(z:AO.length<=AA)(c:(a==sysModules)=false)(d:KV AO vs)(b:h'.DictOf (bV P w) a vs):
  eV P w H' h' a (.dK AO):=⟨z,c,vs,d,b⟩
theorem TQ{H':Hp}(J:A.units+1<cLine)(I:AU X AN σ H s)(g:V2 H a y v H')(B:At y u)(C:At v r)(h:∀s',AU X AN σ H' s'->Q bv s'):
  A7 (bi X) A (setItem (.ref a) u r) Q E s:=by
 rcases g with⟨AO,k,e,p,l,o⟩|⟨AO,k,b,e,p,eb,l,o⟩
 ·subst p o;obtain⟨z,t,vs,d,j⟩:=V0 I.hok e;have m:vs.length<=AA:=by rw[<-d.length];exact z
  have n:(B9 AO k v).length<=AA:=by have:=jO AO k v;omega
  refine wpAny_setItem_pairs (hsz:=m) (FQ B) j λh' f hs=>h _ ?_;have G:∃q,h'.get? a=Z q:=let ⟨q,_,_,i,_⟩:=f;⟨q,i⟩;exact zM I (by rw[e];exact True.intro) hs G (Ol n t (d.put k C) f)
 ·subst p o;cases(show u=Value.ref b from B);obtain⟨z,t,xs,d,j⟩:=Sj I.hok e;have m:xs.length<=AA:=by rw[<-Paired.length d];exact z
  have n:(B9 AO k v).length<=AA:=by have:=jO AO k v;omega
  refine wpAny_setItem_heap (hsz:=m) (tupleKind_room_in1 J) (Oj I.hok eb) j λh' f hs=>h _ ?_;obtain⟨q,es,ep,i,h2,F,K,_,D⟩:=f;refine zM I (by rw[e];exact True.intro) hs ⟨q,i⟩ ⟨n,t,_,(d.put k eb C).keeps λc ys x=>?_,q,es,ep,i,h2,F,K,D⟩;rw[aD (iZ x e (λz=>nomatch z))];exact x
end
section
variable{X:Cx}{σ:St}{H:Hp}{AO:O (AY×V)}{k:AY}
end
def HA(i:Expr):Prop:=∀a iv,subscripted i false a iv=operate [a,iv] (getItem a iv)
theorem ZL{value a:Expr}{T id:String}{Q:B7}(j:typeLookup (.type T) "__getitem__"=pure (Z (.builtin id)))(hs:HA a)(h:A7 (A8 prog w) A (eval value env) (λo f=>A7 (A8 prog w) A (eval a env) (λi b=>b.TypeIs o T/\A7 (A8 prog w) A (getItem o i) Q E b) E f) E s):
  A7 (A8 prog w) A (eval (.Subscript value a pos) env) Q E s:=by
 refine Subscript_ (Z3 h (λo f l=>Z3 l (λi b d=>?_) λ_ _ x=>x) λ_ _ x=>x);obtain⟨g,d⟩:=d;unfold subscriptTail;refine zb ?_;rw[getitemInPython_of_ne g.not_modules];refine zb (wpAny_specialOf g j ?_);have c:A7 (A8 prog w) A (subscripted a false o i) (λr e=>A7 (A8 prog w) A (letTemporaryGo value o r >>= λ_=>pure r) Q E e) E b:=by
  rw[hs o i];exact wpAny_operating (Z3 d (λr e m=>zb (wpAny_letTemporaryGo (zd m))) λ_ _ x=>x)
 first
  |exact zd (zb c)
  |exact zb (zd (zb c))
  |exact zb c
theorem J6{X:Cx}{σ:St}{H:Hp}{y:V}{o:Y V}(I:AU X AN σ H s)(g:Ha H a y o):s.TypeIs (.ref a) "dict":=by
 rcases g with⟨AO,k,e,_,_⟩|⟨AO,k,b,e,_,_,_⟩
 ·obtain⟨_,_,vs,_,c⟩:=rZ I.hok e;exact c.typeIs
 ·obtain⟨_,_,xs,_,c⟩:=V1 I.hok e;exact c.typeIs
def WO(td ty:TE):TE:=λσ H Q=>td σ H λx H1=>ty σ H1 λy H2=>∃a v,x=.ref a/\Ha H2 a y (Z v)/\Q v H2
def OP(td ty tv:TE):TS:=λD σ H=>tv σ H λv H1=>td σ H1 λx H2=>ty σ H2 λy c=>∃a b,x=.ref a/\V2 c a y v b/\D.nx σ b
section
variable{X:Cx}{o i value:Expr}{pos':Pos}{td ty tv:TE}
theorem ZM(d:X.A.units+1<cLine)(b:PE X o td)(hi:PE X i ty)(hs:HA i):PE X (.Subscript o i pos) (WO td ty):=by
 intro AN s σ H Q I h;refine ZL PySem.F.slot_dict_getitem.lookup hs (fX (b AN s σ H _ I h) λu s1 ⟨x,H1,I1,rx,q1⟩=>fX (hi AN s1 σ H1 _ I1 q1) λiv s2 ⟨y,H2,I2,ry,a,v,ex,g,q2⟩=>?_);subst ex;obtain rfl:u=Value.ref a:=rx;exact⟨J6 I2 g,TJ d I2 g ry λj f e c=>⟨v,H2,e,c,q2⟩⟩
theorem ZP(d:X.A.units+1<cLine)(b:PE X o td)(hi:PE X i ty)(c:PE X value tv)(hs:swapsWith value (Z (.Subscript o i pos')) pos.line X.env=pure false):
  PS X (.Assign [.Subscript o i pos'] value pos) (OP td ty tv):=by
 intro AN s σ H D I h;refine wpAny_Assign_Subscript (fX (c AN s σ H _ I h) λr s1 ⟨v,H1,I1,rv,q1⟩=>fX (b AN s1 σ H1 _ I1 q1) λu s2 ⟨x,H2,I2,rx,q2⟩=>fX (hi AN s2 σ H2 _ I2 q2) λiv s3 ⟨y,H3,I3,ry,a,H4,ex,g,q3⟩=>?_) hs;subst ex;obtain rfl:u=Value.ref a:=rx;exact TQ d I3 g ry rv λf e=>⟨σ,H4,e,q3⟩
end
theorem J7{H:Hp}(h:A6)(a:sysModules<h.objs.size):eV P w H (h.push { cls:=.type "dict",data:=.dict #[] }) h.objs.size (.dK []):=
 ⟨qh _,beq_eq_false_iff_ne.mpr (KI (z5 a)),[],.nil,Heap.DictOf.new h⟩
def S0:TE:=λ_ H Q=>∀p,H p=U->Q (.ref p) (B4 H p (.dK []))
section
variable{X:Cx}
theorem V3:PE X (.Dict [] [] pos) S0:=λAN s σ H Q I h=>
 wpAny_Dict_empty ⟨.ref s.heap.objs.size,_,I.laid (a:=s.heap.objs.size) (o:=.dK []) (t':=s.toks) (λ_ _ q=>zh _ q) (zk _) (J7 s.heap I.big),rfl,h _ (I.hok.fresh (zk _))⟩
end
structure M1 (X:Cx) (o:Expr) (m:Str) (apos:Pos) (e:Expr) (cpos:Pos):Prop where
 base:attributeBase o m X.env (eval o X.env)=eval o X.env
 few:((backTo cpos (starEach [e] X.env)).all (λx=>!x.1)&&(backToKw cpos (keywordEach [] X.env)).all (λx=>x.1.isSome)
  && decide (([e]:List Expr).length+([]:List Keyword).length+(if([]:List Keyword).isEmpty then 0 else 1)<30))=true
 line:(apos.endLine==cpos.line)=true
 trees:backTo cpos (starEach [e] X.env)=[(false,eval e X.env)]
structure M2 (X:Cx) (o:Expr) (m:Str) (apos:Pos) (e f:Expr) (cpos:Pos):Prop where
 base:attributeBase o m X.env (eval o X.env)=eval o X.env
 few:((backTo cpos (starEach [e,f] X.env)).all (λx=>!x.1)&&(backToKw cpos (keywordEach [] X.env)).all (λx=>x.1.isSome)
  && decide (([e,f]:List Expr).length+([]:List Keyword).length+(if([]:List Keyword).isEmpty then 0 else 1)<30))=true
 line:(apos.endLine==cpos.line)=true
 trees:backTo cpos (starEach [e,f] X.env)=[(false,eval e X.env),(false,eval f X.env)]
section
variable{X:Cx}{σ:St}{H:Hp}{y d:V}{r:A0}{o:Y V}
end
section
variable{X:Cx}{o f:Expr}{td ty tx:TE}
end
section
variable{X:Cx}{σ:St}{H:Hp}{AO:O (AY×V)}
end
section
variable{X:Cx}{σ:St}{H:Hp}{y:V}
end
end L2
namespace Att
open PySem PySem.W PySem.Calls PyProof.Rows
theorem zj{P:Params}:∀(c:O Int) (vs:O A0),WellAll P h vs (c.map WData.int)->IntsAre vs c:=by
 intro c
 induction c with
 |nil=>
  intro vs w;rw[kA]at w;cases w;exact .nil
 |cons n c d=>
  intro vs w;rw[zo]at w;cases w with
  |cons a b=>
   cases a;exact .cons _ _ (d _ b)
theorem TV{l:OpenLaw}(s:l.most=Z n){P:Params}{args:O WData}{i:O A0}(f:l.row.toRowW.claim.pre args=true)(u:WellAll P h i args):
  ∃a vs b,i=[Value.ref a]/\args=[WData.list (b.map WData.int)]/\h.get? a=Z { cls:=.type "list",data:=.seq vs.toArray }/\IntsAre vs b/\b.length<=n:=by
 have j:WShape.hasAll [] args [.list .int]=true:=(pre_splitW f).1;have g:l.pre.holds [] { args:=args }=true:=(pre_splitW f).2;obtain⟨d,r,rfl,h1,h2⟩:=hasAllW_cons j;obtain rfl:=hasAllW_nil h2;obtain⟨xs,rfl,t⟩:=hasW_list h1;obtain⟨b,rfl⟩:=items_int t;have o:b.length<=n:=by
  unfold OpenLaw.pre at g;have e:(WTm.not (.lt (.lit (.int (n:Int))) (.len (.arg 0)))).holds [] { args:=[.list (b.map .int)] }=true:=by
   have e:=(holds_andW g).1;rw[s]at e;exact e
  have c:=condW_of e (w_not (w_lt w_lit (w_len_list (w_arg S))));rw[zi]at c;refine YR λq=>?_;have v:(n:Int)<((b.length:Nat):Int):=by omega
  first
   |(rw[qA v]at c;exact absurd c ())
   |(simp at c;omega)
 cases u with
 |cons x w=>
  cases w;cases x with
  |list m p=>exact⟨_,_,b,rfl,rfl,m,zj b _ p,o⟩
theorem TX(l:OpenLaw)(args:O WData):l.row.toRowW.claim.post args (.bool true) args=true:=
 postW_of (r:=l.row.toRowW) (X:=(true==true))
  (show WShape.has [] (.bool true) .bool=true by first|rfl|decide|simp[WShape.has,WShape.arms,WShape.armsAll])
  (show(WTm.eq .res (.lit (.bool true))).value [] { args:=args,res:=Z (.bool true),after:=args }=Z (.bool (true==true)) from w_eq_bool (w_res S) w_lit) rfl
theorem J8{l:OpenLaw}{q:A3}{loose:AZ}{d:DefRec}(E:l.most=Z n)(H:d.params.defaults=[])(call:∀(w:A4) (g b:A2) (mg h:AJ->Option A0) (fa:A1) (o:AE) (pm e i:A0) (a:A1) (vs:O A0) (c:O Int),
   Ground q loose [] XP w g mg h b.heap->YP w b.heap →
   b.heap.get? fa=Z o->o.data=.func (docDef d.name d.params d.body d.scope pm e i)->b.heap.CodeRec e d.name->mg d.name=Z (.ref fa) →
   b.heap.get? a=Z { cls:=.type "list",data:=.seq vs.toArray }->IntsAre vs c->c.length<=n->b.gens=#[] →
   AF (A8 l.prog w) callerA (.call (.ref fa) ⟨[.ref a],[]⟩) (λr s'=>r=.ok (.ret (.bool true))/\OldK b.heap s'.heap/\s'.os=b.os/\AllBare s'.gens) b):
  WalkO q loose XP YP l.row.toRowW d [] (λf vs=>PySem.call f vs):=by
 intro w g b mg h G Y fa o pm e i p kV u F I j y t L M as B J N m K;obtain rfl:p=.none:=Dflts.none j H;obtain rfl:kV=.none:=Dflts.noKw j;obtain⟨a,vs,c,rfl,rfl,z,D,C⟩:=TV E B m;refine enter_call (codeAny_mono (call w g b mg h fa o pm e i a vs c G Y u (fd_plain F) I y z D C t) λr s' A=>?_);obtain⟨rfl,h2,x,s⟩:=A;exact⟨.inl ⟨.bool true,.bool true,[],rfl,λ_=>S,.bool true,TX l _,λ_=>⟨List.Pairwise.nil,λ_ v=>(nomatch v)⟩⟩,h2,x,s⟩
section
variable{K:Frag}
end
end Att
namespace L2
theorem uo:∀{vs:O A0} {a:O Int},IntsAre vs a->AX (a.map V.int) vs
 |_,_,.nil=>.nil
 |_,_,.cons n t h=>.cons ⟨t,rfl⟩ (uo h)
def CI(H:Hp):Prop:=∀b,H b=U\/(∃o xs,H b=Z (.gF o (.lst xs)))\/∃ps,H b=Z (.Hr ps)
structure C9 (K:Au) (h:Heap) (TL:List (Addr×Array Value)):Prop where
 all:∀P q,GB K P q->∃ps,TL.lookup P=some ps/\tq ps=q/\0<ps.size
 ok:∀P ps,TL.lookup P=some ps->K.lookup P=none/\h.get? P=some { cls:=.none,data:=.fields #[] }/\isCodeTable h P/\tr ps=#[]
theorem C9.free(x:QZ K=true):C9 K h []:=⟨λP q k=>(N5 x k).elim,λP ps e=>by cases e⟩
theorem V4{G:AJ->Y A0}{CX:Vl}{k:Nat}{fa:A1}{sp:Sp}{c:A2}{vs:O A0}{A:O Int}{f:O (A1×Array A0)}(W:K.In c.heap)(a3:c.heap.Ns mainGlobals mg)(i:c.heap.Ns builtinsNs G)(b0:∀x:AJ,x ≠ "__name__" → G x=AH x)(b9:c.heap.NoLimit)(c6:∃p j,mg "__builtins__"=Z (.ref p)/\p≠builtinsNs/\c.heap.get? p=Z j/\j.cls=.type "module" ∧ j.dict=Z builtinsNs/\j.data=.plain)(hg:c.gens=#[])(t:c.heap.get? a=Z { cls:=.type "list",data:=.seq vs.toArray })(hi:IntsAre vs A)(Q:A.length<=AA)(hr:jN k callerA)(F:∀base:A6,K.In base->base.Ns mainGlobals mg->uP P w K mg base CX k fa fd [x] sp)(c4:∀(s:A2) (u:A0),BindsTo s fd ⟨[u],[]⟩ [(x,u)])(b8:∀H:Hp,CI H->rJ K H a (A.map V.int)->sp [.ref a] H (λv _=>v=.bl true) λ_ _ _=>False)(a5:∀H e s',CX [] H c (λ_ _ _=>False) e s'->False)(T:C9 K c.heap f):
  AF (A8 P w) callerA (.call (.ref fa) ⟨[.ref a],[]⟩) (λr s'=>r=.ok (.ret (.bool true))/\OldK c.heap s'.heap/\s'.os=c.os/\AllBare s'.gens) c:=by
 have rv:=uo hi;have b7:=hi.length;have X:f.lookup a=U:=by
  cases e:f.lookup a with
  |none=>rfl
  |some ps=>
   have q:=(T.ok a ps e).2.1;rw[t]at q;cases q
 have tok:∀(H:Hp) (b:A1) (ps:Array A0),f.lookup b=Z ps->eV P w H c.heap b (.Hr ps):=λH b ps e=>by
  obtain⟨_,g,_,z⟩:=T.ok b ps e;refine⟨#[],by rw[z];exact g,?_,λpos cv q=>?_⟩
  ·rw[z];simp[TriplesOk]
  ·rw[z]at q;cases q
 have M:∀H:Hp,CI H->rJ K H a (A.map V.int)->vZ P w H c.heap->(∀b,H b≠U->b=a\/∃ps,f.lookup b=Z ps)->(∀b ps,f.lookup b=Z ps->H b=Z (.Hr ps))->(H a≠U->K.lookup a=U) →
   AF (A8 P w) callerA (.call (.ref fa) ⟨[.ref a],[]⟩) (λr s'=>r=.ok (.ret (.bool true))/\OldK c.heap s'.heap/\s'.os=c.os/\AllBare s'.gens) c:=by
  intro H J hS D B c8 hK;have E:∀{b:A1} {o:AE},c.heap.get? b=Z o->H b=U->(Ht c.heap H).get? b=Z o:=λe n=>Vr e n;have c3:∀{b:A1} {o:AE} {es:Array DictEntry} {ep:Nat},c.heap.get? b=Z o->o.data=.dict es ep->H b=U:=λ{b o es ep} e d=>by
   cases q:H b with
   |none=>rfl
   |some u=>
    rcases B b (by rw[q];simp)with e'|⟨ps,e'⟩
    ·subst e';rw[t]at e;cases e;have d':Data.seq vs.toArray _=Data.dict es ep:=d;cases d'
    ·rw[(T.ok b ps e').2.1]at e;cases e;cases d
  have C:∀{b:A1} {m:AJ->Y A0},c.heap.Ns b m->(Ht c.heap H).Ns b m:=λ{b m} ⟨o,es,ep,e,d,r⟩=>⟨o,es,ep,E e (c3 e d),d,r⟩;have L:K.In (Ht c.heap H):=λb o e=>E (W b o e) (by
   cases q:H b with
   |none=>rfl
   |some u=>
    rcases B b (by rw[q];simp)with e'|⟨ps,e'⟩
    ·subst e';rw[hK (by rw[q];simp)]at e;cases e
    ·rw[(T.ok b ps e').1]at e;cases e)
  have hM:Mod K mg (Ht c.heap H):=⟨L,C a3,⟨G,C i,b0⟩,let ⟨mc,h1,h2⟩:=b9;⟨mc,C h1,h2⟩,let ⟨p,j,b1,b2,b3,b4,b5,b6⟩:=c6;⟨p,j,b1,b2,E b3 (by
   cases q:H p with
   |none=>rfl
   |some u=>
    rcases B p (by rw[q];simp)with e'|⟨ps,e'⟩
    ·subst e';rw[t]at b3;cases b3;injection b4 with z;exact absurd z ()
    ·rw[(T.ok p ps e').2.1]at b3;cases b3;cases b4),b4,b5,b6⟩⟩
  have e0:Zt P w K mg (Ht c.heap H) callerA [] c H:=⟨rfl,hM,λb o e=>Zf e,ew (Tg _ _),trivial,λb i=>absurd (show b∈([]:O A1) from i) (by simp),D,.of_eq hg,λP q k=>by
   obtain⟨ps,l,r⟩:=T.all P q k;exact⟨ps,c8 P ps l,r⟩⟩
  refine codeAny_mono ((F _ L (C a3)).run callerA [] c H ⟨[.ref a],[]⟩ [.ref a] [.ref a] _ _ hr e0 (c4 c (.ref a)) (.cons S .nil) (b8 H J hS)) λr s' h=>?_;cases r with
  |error e=>exact(a5 H e s' h).elim
  |ok fl=>
   cases fl with
   |next=>exact False.elim h
   |brk=>exact False.elim h
   |cont=>exact False.elim h
   |ret u=>
    obtain⟨v,H',os,c9,un,N,r',q⟩:=h;have q':v=.bl true:=q;subst q';obtain rfl:u=Value.bool true:=r';have I:∀b o,c.heap.get? b=Z o->s'.heap.get? b=Z o\/(isCodeTable c.heap b/\o.cls=.none/\∃vs more,o.data=.fields vs/\s'.heap.get? b=Z { o with data:=.fields (vs++more) }):=λb o e=>by
     cases q:H b with
     |none=>exact .inl (un.keep b o e q (by intro z;exact absurd (show b∈([]:O A1) from z) (by simp)) (by simp))
     |some u=>
      rcases J b with z|⟨j,xs,z⟩|⟨ps,z⟩
      ·rw[q]at z;cases z
      ·have z2:=un.rP b j _ z;obtain⟨e1,_⟩:=D b _ z;obtain⟨e2,_⟩:=N b _ z2;rw[e]at e1;cases e1;exact .inl e2
      ·rcases B b (by rw[q];simp)with e'|⟨c5,e'⟩
       ·subst e';obtain⟨more,g,_⟩:=D b _ z;rw[t]at g;cases g
       ·obtain⟨_,g,ct,_⟩:=T.ok b c5 e';rw[e]at g;cases g;obtain⟨m1,z2⟩:=un.wg b ps z;obtain⟨m2,g2,_⟩:=N b _ z2;exact .inr ⟨ct,rfl,#[],_,rfl,by rw[g2,Array.empty_append]⟩
    refine⟨rfl,⟨λb o e=>(I b o e).imp id .inl,λb o e=>?_⟩,os,c9⟩;rcases I b o e with z|⟨_,_,_,_,_,z⟩<;>exact⟨_,z⟩
 cases hk:K.lookup a with
 |some o=>
  have e:=W a o hk;rw[t]at e;cases e;refine M (λb=>(f.lookup b).map .Hr) (λb=>?_) (.inr ⟨_,vs.toArray,_,hk,rfl,rfl,rfl,by rw[zw,b7];exact Q,by simpa using rv⟩) (λb u z=>?_) (λb z=>?_) (λb ps e=>by show(f.lookup b).map _=_;rw[e];rfl) λz=>absurd (by show(f.lookup a).map _=U;rw[X];rfl) z
  ·cases e:f.lookup b with
   |none=>exact .inl (by show(f.lookup b).map HO.Hr=U;rw[e];rfl)
   |some ps=>exact .inr (.inr ⟨ps,by show(f.lookup b).map HO.Hr=_;rw[e];rfl⟩)
  ·have z:(f.lookup b).map HO.Hr=Z u:=z;cases e:f.lookup b with
   |none=>rw[e]at z;cases z
   |some ps=>rw[e]at z;cases z;exact tok _ b ps e
  ·cases e:f.lookup b with
   |none=>exact absurd (by show(f.lookup b).map HO.Hr=U;rw[e];rfl) z
   |some ps=>exact .inr ⟨ps,rfl⟩
 |none=>
  refine M (λb=>if b=a then Z (.gF { cls:=.type "list",data:=.seq vs.toArray } (.lst (A.map V.int)))else(f.lookup b).map .Hr) (λb=>?_) (.inl (.inr ⟨{ cls:=.type "list",data:=.seq vs.toArray },zl rfl⟩)) (λb u z=>?_) (λb z=>?_) (λb ps e=>?_) λ_=>hk
  ·by_cases i:b=a
   ·exact .inr (.inl ⟨_,_,zl i⟩)
   ·cases e:f.lookup b with
    |none=>exact .inl ((zD i).trans (by rw[e];rfl))
    |some ps=>exact .inr (.inr ⟨ps,(zD i).trans (by rw[e];rfl)⟩)
  ·by_cases i:b=a
   ·have y:=(zl i).symm.trans z;cases y;subst i;exact⟨t,by rw[zi];exact Q,vs,_,rv,t⟩
   ·have y:=(zD i).symm.trans z;cases e:f.lookup b with
    |none=>rw[e]at y;cases y
    |some ps=>rw[e]at y;cases y;exact tok _ b ps e
  ·by_cases i:b=a
   ·exact .inl i
   ·cases e:f.lookup b with
    |none=>exact absurd ((zD i).trans (by rw[e];rfl)) z
    |some ps=>exact .inr ⟨ps,rfl⟩
  ·have i:b≠a:=λz=>by rw[z,X]at e;cases e
   exact(zD i).trans (by rw[e];rfl)
end L2
namespace L2
theorem ZQ{l:PySem.W.OpenLaw}{k:Nat}{q:A3}{loose:AZ}{d:DefRec}{K:Params->Au}{CX:A4->Vl}{sp:A4->Sp}(hn:l.most=Z n)(z:n<=AA)(a5:d.params.defaults=[])(E:jN k callerA)(P:∀(w:A4) (h:A6),YP w h->(K w.params).In h)(F:∀(w:A4) (mg:AJ->Option A0) (fa:A1) (h:A6),(K w.params).In h->h.Ns mainGlobals mg->mg d.name=Z (.ref fa) →
   ∃fd:FuncData,(∀(s:A2) (u:A0),BindsTo s fd ⟨[u],[]⟩ [(x,u)]) ∧
    ∀base:A6,(K w.params).In base->base.Ns mainGlobals mg->uP l.prog w (K w.params) mg base (CX w) k fa fd [x] (sp w))(C:∀(w:A4) (H:Hp) (a:A1) (c:O Int),c.length<=n->CI H->rJ (K w.params) H a (c.map V.int)->sp w [.ref a] H (λv _=>v=.bl true) λ_ _ _=>False)(t:∀(w:A4) (H:Hp) (s:A2) (e:A0) (s':A2),CX w [] H s (λ_ _ _=>False) e s'->False)(Q:∀(w:A4) (h:A6) (mg p:AJ->Option A0) (D:ExcName->Option A0) (X:AZ),(K w.params).In h->Top q X D mg p h->∃j,C9 (K w.params) h j):
  PySem.W.WalkO q loose XP YP l.row.toRowW d [] (λf vs=>PySem.call f vs):=by
 refine Att.J8 hn a5 λw b0 y mg p fa o pm cd b4 a vs c G Y ho hd b5 I M a3 m A=>?_;have i:=P w _ Y;obtain⟨fd,N,J⟩:=F w mg fa _ i G.T.g I;obtain⟨j,tl⟩:=Q w _ _ _ _ _ i G.T;exact V4 i G.T.g G.T.b G.T.builtins G.T.nolimit G.T.bmain A M a3 (Zs m z) E J N (λH B L=>C w H a c m B L) (λH e s'=>t w H y e s') tl
theorem V5{l:PySem.W.OpenLaw}{k:Nat}{q:A3}{loose:AZ}{d:DefRec}{K:Params->Au}{CX:Vl}{sp:Au->Sp}(g:l.most=Z n)(j:n<=AA)(A:d.params.defaults=[])(t:jN k callerA)(y:∀(w:A4) (h:A6),YP w h->(K w.params).In h)(F:∀(w:A4) (mg:AJ->Y A0) (fa:A1) (h:A6),(K w.params).In h->h.Ns mainGlobals mg->mg d.name=Z (.ref fa) →
   ∃fd:FuncData,(∀(s:A2) (u:A0),BindsTo s fd ⟨[u],[]⟩ [(x,u)]) ∧
    ∀base:A6,(K w.params).In base->base.Ns mainGlobals mg->uP l.prog w (K w.params) mg base CX k fa fd [x] (sp (K w.params)))(i:∀(K:Au) (H:Hp) (a:A1) (b:O Int),b.length<=n->CI H->rJ K H a (b.map V.int)->sp K [.ref a] H (λv _=>v=.bl true) λ_ _ _=>False)(z:∀(H:Hp) (s:A2) (e:A0) (s':A2),CX [] H s (λ_ _ _=>False) e s'->False)(B:∀(w:A4) (h:A6) (mg c:AJ->Y A0) (o:ExcName->Y A0) (C:AZ),(K w.params).In h->Top q C o mg c h->∃p,C9 (K w.params) h p):
  PySem.W.WalkO q loose XP YP l.row.toRowW d [] (λf vs=>PySem.call f vs):=
 ZQ (K:=K) (CX:=λ_=>CX) (sp:=λw=>sp (K w.params)) g j A t y F (λw H a b h1 h2 m=>i (K w.params) H a b h1 h2 m) (λ_ H s e s'=>z H s e s') B
end L2
namespace L2
def p7(s:AB):Arguments:=match s with
 |.FunctionDef _ a _ _ _ _ _ _ _ _=>a
 |_=>{ posonlyargs:=[],args:=[],vararg:=U,kwonlyargs:=[],kw_defaults:=[],kwarg:=U,defaults:=[] }
def gJ(s:AB):O AB:=match s with
 |.FunctionDef _ _ b _ _ _ _ _ _ _=>b
 |_=>[]
def aO(s:AB):Scope:=match s with
 |.FunctionDef _ _ _ _ _ _ a _ _ _=>a
 |_=>{ kind:=.function,names:=[],isGenerator:=false,isCoroutine:=false }
abbrev JT:Vl:=λ_ _ _ _ _ _=>False
abbrev E0:XK:=λ_ _ _=>False
theorem LL{X:Cx}:C8 JT X E0:=λ_ _ _ _ _ _ _ h=>h.elim
structure Y9 (K:Au) (x qual:Str) (st:Stmt) (f:Addr) (fd:FuncData):Prop where
 ex:∃(oc:Value) (od:Option Addr) (kV doc pm:Value) (an:Option Addr) (cdv ct:Value) (osl:Array (Option Value)),
  fd=fnOf x qual (p7 st) (gJ st) (aO st) .none kV doc pm an cdv ct/\K.lookup f=some ⟨oc,od,.func fd,osl⟩/\codeIn K cdv qual=true
 kp:keepIn K (.ref f)=true
theorem Y9.ok{f:A1}{k:Nat}{sp:Sp}(F:Y9 K x qual st f fd)(S:bF N ps (aO st))(len:∀vs H Q E,sp vs H Q E->vs.length=ps.length)(c:∀(a:A0) (A:A5) (outer:O Env) (s:A2) (H:Hp) (vs:O V) (Q:VK) (E:XK),jN k (A.deeper (AK qual (aO st) s.heap.objs.size f a))->sp vs H Q E →
   ∃t,Ad (Ah JT P w K mg base N qual (aO st) f a A outer s H E).Zk (gJ st) t/\t { nx:=λ_ H'=>Q .non H',rt:=Q } (start N vs) H):uP P w K mg base JT (k+1) f fd ps sp:=by
 obtain⟨i,l,kV,j,pm,m,a,ct,osl,rfl,e,g⟩:=F.ex;refine ah e g S len λA outer s H vs Q E d b=>?_;obtain⟨t,h,q⟩:=c a A outer s H vs Q E d b;exact⟨t,h.Zk,q⟩
theorem Y9.binds{f:A1}(F:Y9 K x qual st f fd)(h:∀(kV b pm:A0) (c:Y A1) (a ct:A0) (us:O A0),us.length=ps.length->bindArgs (fnOf x qual (p7 st) (gJ st) (aO st) .none kV b pm c a ct) ⟨us,[]⟩=pure (ps.zip us)):BQ K fd ps []:=by
 obtain⟨d,e,kV,b,pm,c,a,ct,osl,rfl,g,i⟩:=F.ex;exact .all (h kV b pm c a ct)
theorem V6{f:A1}{e:A0}{g d:Y A1}{kV b pm a ct:A0}(l:K.lookup f=Z ⟨e,g,.func (fnOf x qual (p7 st) (gJ st) (aO st) .none kV b pm d a ct),osl⟩)(c:codeIn K a qual=true)(k:keepIn K (.ref f)=true):Y9 K x qual st f (fnOf x qual (p7 st) (gJ st) (aO st) .none kV b pm d a ct):=⟨⟨e,g,kV,b,pm,d,a,ct,osl,rfl,l,c⟩,k⟩
section
variable{X:Cx}
theorem pv(i:Nat)(b:X.N[i]?=Z x:=by rfl)(c:Q0 X.env.scope x:=by first|exact JE rfl|exact QQ (JE S)|exact QQ (QQ S))(a:be x:=by decide)(d:(x==("__classdict__":AJ))=false:=by decide):PE X (.Name x pos) (uO i):=fV b c a d
end
def AV(H H':Hp):Prop:=∀b o,H b=Z o->H' b=Z o
theorem AV.refl(H:Hp):AV H H:=λ_ _ h=>h
theorem AV.trans{H H1 H2:Hp}(a:AV H H1)(b:AV H1 H2):AV H H2:=λc o h=>b c o (a c o h)
theorem AV.free{H H':Hp}(e:AV H H')(h:H' l=Option.none):H l=Option.none:=by
 cases q:H l with
 |none=>rfl
 |some o=>
  rw[e l o q]at h;cases h
theorem AV.seq{H H':Hp}{xs:O V}(e:AV H H')(h:rJ K H a xs):rJ K H' a xs:=by
 rcases h with (h|⟨o,h⟩)|h
 ·exact .inl (.inl (e _ _ h))
 ·exact .inl (.inr ⟨o,e _ _ h⟩)
 ·exact .inr h
end L2
variable{H:L2.Hp}{X:L2.Cx}{σ:L2.St}{v:L2.V}{ta te:L2.TE}{J:L2.It}{vs:O L2.V}{sp:L2.Sp}{ks:O (L2.AY×L2.V)}{H0 Hs Hb:L2.Hp}{cY:O (O L2.AY)}
namespace P1
open L2
inductive Dt where
 |non|bl (b:Bool)|int (i:Int)|str (x:Str)|tup (xs:List Dt)|lst (xs:List Dt)|emp
inductive Bx where
 |z (d:Dt)|l (ds:List Dt)|o (ds:List Dt)|n (AO:List (AY×Dt))|m (AO:List (AY×Dt)) (w:Option Addr)
abbrev Ev:=O (Y Bx)
def EK(K:Au)(H:Hp)(a:A1)(xs:O V):Prop:=
 (∃o,H a=Z (.gF o (.lst xs))) ∨
  ∃(o:AE) (AQ:Array A0) (n:Nat),K.lookup a=Z o/\o.cls=.type "list" ∧ o.dict=U/\o.data=.seq AQ n/\AQ.size<=AA/\AX xs AQ.toList
theorem EK.sq{xs:O V}(h:EK K H a xs):rJ K H a xs:=by
 rcases h with h|h
 ·exact .inl (.inr h)
 ·exact .inr h
mutual
def AW(K:Au)(H:Hp):Dt->V->Prop
 |.non,v=>v=.non
 |.bl b,v=>v=.bl b
 |.int i,v=>v=.int i
 |.str x,v=>v=.str x/\x.length<=AA
 |.tup ds,v=>∃a vs,v=.ref a/\wj K H a vs/\aG K H ds vs
 |.lst ds,v=>∃a vs,v=.ref a/\EK K H a vs/\aG K H ds vs
 |.emp,v=>∃a o,v=.ref a/\H a=Z (.gF o (.dK []))
def aG(K:Au)(H:Hp):O Dt->O V->Prop
 |[],vs=>vs=[]
 |d::ds,vs=>∃v r,vs=v::r/\AW K H d v/\aG K H ds r
end
structure Kp (H H':Hp):Prop where
 t:∀a xs,H a=some (.tup xs)->H' a=some (.tup xs)
 f:∀a o u,H a=some (.gF o u)->H' a=some (.gF o u)
theorem Kp.of{H':Hp}(s:AV H H'):Kp H H':=⟨λa _ h=>s a _ h,λa _ _ h=>s a _ h⟩
theorem Kp.sqT{H':Hp}{xs:O V}(k:Kp H H')(h:wj K H a xs):wj K H' a xs:=by
 rcases h with (h|⟨o,h⟩)|h
 ·exact .inl (.inl (k.t _ _ h))
 ·exact .inl (.inr ⟨o,k.f _ _ _ h⟩)
 ·exact .inr h
theorem Kp.fzL{H':Hp}{xs:O V}(k:Kp H H')(h:EK K H a xs):EK K H' a xs:=by
 rcases h with⟨o,h⟩|h
 ·exact .inl ⟨o,k.f _ _ _ h⟩
 ·exact .inr h
theorem Kp.lst{xs:O V}{o:HO}(h:H a=Z (.lst xs)):Kp H (B4 H a o):=by
 refine⟨λb ys e=>?_,λb c u e=>?_⟩
 ·rw[aD (iZ e h (by intro z;cases z))];exact e
 ·rw[aD (iZ e h (by intro z;cases z))];exact e
theorem Kp.dk{xs:O (AY×V)}{o:HO}(h:H a=Z (.dK xs)):Kp H (B4 H a o):=by
 refine⟨λb ys e=>?_,λb c u e=>?_⟩
 ·rw[aD (iZ e h (by intro z;cases z))];exact e
 ·rw[aD (iZ e h (by intro z;cases z))];exact e
mutual
theorem AW.kp{K:Au}{H H':Hp}(k:Kp H H'):∀{d:Dt} {v:V},AW K H d v->AW K H' d v
 |.non,_,h=>by simpa only[AW]using h
 |.bl _,_,h=>by simpa only[AW]using h
 |.int _,_,h=>by simpa only[AW]using h
 |.str _,_,h=>by simpa only[AW]using h
 |.tup ds,_,h=>by
  simp only[AW]at h ⊢;obtain⟨a,vs,e,q,r⟩:=h;exact⟨a,vs,e,k.sqT q,aG.kp k r⟩
 |.lst ds,_,h=>by
  simp only[AW]at h ⊢;obtain⟨a,vs,e,q,r⟩:=h;exact⟨a,vs,e,k.fzL q,aG.kp k r⟩
 |.emp,_,h=>by
  simp only[AW]at h ⊢;obtain⟨a,o,e,q⟩:=h;exact⟨a,o,e,k.f _ _ _ q⟩
theorem aG.kp{K:Au}{H H':Hp}(k:Kp H H'):∀{ds:O Dt} {vs:O V},aG K H ds vs->aG K H' ds vs
 |[],_,h=>by simpa only[aG]using h
 |d::ds,_,h=>by
  simp only[aG]at h ⊢;obtain⟨v,r,e,q,t⟩:=h;exact⟨v,r,e,AW.kp k q,aG.kp k t⟩
end
theorem aG.length{K:Au}{H:Hp}:∀{ds:O Dt} {vs:O V},aG K H ds vs->vs.length=ds.length
 |[],_,h=>by simp only[aG]at h;subst h;rfl
 |d::ds,_,h=>by
  simp only[aG]at h;obtain⟨v,r,rfl,_,t⟩:=h;simp[aG.length t]
theorem aG.nil:aG K H [] []:=by simp only[aG]
theorem aG.cons{K:Au}{H:Hp}{d:Dt}{v:V}{ds:O Dt}{vs:O V}(h:AW K H d v)(t:aG K H ds vs):aG K H (d::ds) (v::vs):=by
 simp only[aG];exact⟨v,vs,rfl,h,t⟩
theorem aG.append{K:Au}{H:Hp}:∀{ds es:O Dt} {vs us:O V},aG K H ds vs->aG K H es us->aG K H (ds++es) (vs++us)
 |[],_,_,_,h,t=>by simp only[aG]at h;subst h;exact t
 |d::ds,_,_,_,h,t=>by
  simp only[aG]at h;obtain⟨v,r,rfl,q,h⟩:=h;exact aG.cons q (aG.append h t)
theorem aG.drop{K:Au}{H:Hp}:∀(n:Nat) {ds:O Dt} {vs:O V},aG K H ds vs->aG K H (ds.drop n) (vs.drop n)
 |0,_,_,h=>h
 |n+1,[],_,h=>by simp only[aG]at h;subst h;exact aG.nil
 |n+1,d::ds,_,h=>by
  simp only[aG]at h;obtain⟨v,r,rfl,q,h⟩:=h;exact aG.drop n h
theorem aG.take{K:Au}{H:Hp}:∀(n:Nat) {ds:O Dt} {vs:O V},aG K H ds vs->aG K H (ds.take n) (vs.take n)
 |0,_,_,_=>aG.nil
 |n+1,[],_,h=>by simp only[aG]at h;subst h;exact aG.nil
 |n+1,d::ds,_,h=>by
  simp only[aG]at h;obtain⟨v,r,rfl,q,h⟩:=h;exact aG.cons q (aG.take n h)
theorem aG.get{K:Au}{H:Hp}:∀{ds:O Dt} {vs:O V} {i:Nat} {d:Dt},aG K H ds vs->ds[i]?=Z d->∃v,vs[i]?=Z v/\AW K H d v
 |[],_,_,_,_,e=>by simp at e
 |d::ds,_,0,_,h,e=>by
  simp only[aG]at h;obtain⟨v,r,rfl,q,h⟩:=h;simp at e;subst e;exact⟨v,rfl,q⟩
 |d::ds,_,i+1,_,h,e=>by
  simp only[aG]at h;obtain⟨v,r,rfl,q,h⟩:=h;obtain⟨u,e1,e2⟩:=aG.get h (i:=i) (by simpa using e);exact⟨u,by simpa using e1,e2⟩
def D2:AY->Prop
 |.inl _=>True
 |.inr x=>x.length<=AA
def eF(K:Au)(H:Hp)(AO:O (AY×Dt))(ks:O (AY×V)):Prop:=ks.map (·.1)=AO.map (·.1)/\aG K H (AO.map (·.2)) (ks.map (·.2))/\∀p∈AO,D2 p.1
theorem eF.kp{K:Au}{H H':Hp}{AO:O (AY×Dt)}{ks:O (AY×V)}(h:eF K H AO ks)(k:Kp H H'):eF K H' AO ks:=⟨h.1,h.2.1.kp k,h.2.2⟩
def aW(K:Au)(H:Hp):Bx->V->Prop
 |.z d,v=>AW K H d v
 |.l ds,v=>∃a vs,v=.ref a/\Rd H a (.lst vs)/\aG K H ds vs
 |.o ds,v=>∃a vs,v=.ref a/\H a=Z (.lst vs)/\aG K H ds vs
 |.n AO,v=>∃a ks,v=.ref a/\Rd H a (.dK ks)/\eF K H AO ks
 |.m AO w,v=>∃a ks,v=.ref a/\H a=Z (.dK ks)/\eF K H AO ks/\∀b,w=Z b->b=a
theorem aW.same{H':Hp}(s:AV H H'){b:Bx}(h:aW K H b v):aW K H' b v:=by
 cases b with
 |z d=>exact AW.kp (.of s) h
 |l ds=>
  obtain⟨a,vs,e,q,r⟩:=h;refine⟨a,vs,e,?_,r.kp (.of s)⟩;rcases q with q|⟨o,q⟩
  ·exact .inl (s _ _ q)
  ·exact .inr ⟨o,s _ _ q⟩
 |o ds=>
  obtain⟨a,vs,e,q,r⟩:=h;exact⟨a,vs,e,s _ _ q,r.kp (.of s)⟩
 |n AO=>
  obtain⟨a,vs,e,q,r⟩:=h;refine⟨a,vs,e,?_,r.kp (.of s)⟩;rcases q with q|⟨o,q⟩
  ·exact .inl (s _ _ q)
  ·exact .inr ⟨o,s _ _ q⟩
 |m AO _=>
  obtain⟨a,vs,e,q,r⟩:=h;exact⟨a,vs,e,s _ _ q,r.1.kp (.of s),r.2⟩
def nD:Bx->Y (O Dt)
 |.z (.lst ds)=>Z ds
 |.l ds=>Z ds
 |.o ds=>Z ds
 |_=>U
theorem aW.DW{b:Bx}{ds:O Dt}(h:aW K H b v)(e:nD b=Z ds):∃a vs,v=.ref a/\rJ K H a vs/\aG K H ds vs:=by
 cases b with
 |z d=>
  cases d<;>first|(cases e;done)|skip;cases e;simp only[aW,AW]at h;obtain⟨a,vs,e,q,r⟩:=h;exact⟨a,vs,e,q.sq,r⟩
 |l c=>
  cases e;obtain⟨a,vs,e,q,r⟩:=h;exact⟨a,vs,e,.inl q,r⟩
 |o c=>
  cases e;obtain⟨a,vs,e,q,r⟩:=h;exact⟨a,vs,e,.inl (.inl q),r⟩
 |n _=>cases e
 |m _ _=>cases e
abbrev pq(K:Au)(H:Hp):O Bx->O V->Prop:=AI (aW K H)
def Nw(H:Hp):Bx->V->Prop
 |.o _,v=>∀a,v=.ref a->H a=U
 |.m _ _,v=>∀a,v=.ref a->H a=U
 |_,_=>True
theorem Nw.old{H1:Hp}(s:AV H H1){b:Bx}(h:Nw H1 b v):Nw H b v:=by
 cases b with
 |o ds=>exact λa e=>s.free (h a e)
 |m ds _=>exact λa e=>s.free (h a e)
 |_=>trivial
def loose:Bx->Bool
 |.z _=>false
 |_=>true
def pA:Bx->Bool
 |.o _=>true
 |.m _ _=>true
 |_=>false
structure aX (K:Au) (H0 H:Hp) (σ:L2.St) (ρ:Ev):Prop where
 len:σ.length=ρ.length
 val:∀(i:Nat) b,ρ[i]?=some (some b)->∃v,σ[i]?=some (some v)/\aW K H b v
 own:∀(i j:Nat) c a b,ρ[i]?=some (some c)->pA c=true->σ[i]?=some (some (.ref a))->ρ[j]?=some (some b)->loose b=true->σ[j]?=some (some (.ref a))->i=j
 base:AV H0 H
 new:∀(i:Nat) c a,ρ[i]?=some (some c)->pA c=true->σ[i]?=some (some (.ref a))->H0 a=none
theorem aX.grow{H':Hp}{ρ:Ev}(r:aX K H0 H σ ρ)(s:AV H H'):aX K H0 H' σ ρ:=
 ⟨r.len,λi b e=>let ⟨v,e1,h⟩:=r.val i b e;⟨v,e1,h.same s⟩,r.own,r.base.trans s,r.new⟩
def tF(K:Au)(f:Ev->Y Bx):TE:=λσ H Q=>∃H0 ρ b,aX K H0 H σ ρ/\f ρ=Z b/\∀v H',AV H H'->Nw H b v->aW K H' b v->Q v H'
def MQ(K:Au)(f:Ev->Y (O Bx)):TA:=λσ H Q=>∃H0 ρ bs,aX K H0 H σ ρ/\f ρ=Z bs/\∀vs H',AV H H'->pq K H' bs vs->Q vs H'
def Ri(K:Au)(f:Ev->Y Bool):TT:=λσ H Q=>∃H0 ρ b,aX K H0 H σ ρ/\f ρ=Z b/\∀H',AV H H'->Q b H'
def PV(X:Cx)(e:Expr)(f:Ev->Y Bx):Prop:=PE X e (tF X.K f)
structure QV (X:Cx) (e:Expr) (f:Ev->Option Bx):Prop where
 run:PV X e f
def FG(X:Cx)(es:O Expr)(f:Ev->Y (O Bx)):Prop:=PA X es (MQ X.K f)
structure V7 (X:Cx) (es:List Expr) (f:Ev->Option (List Bx)):Prop where
 run:FG X es f
def PB(X:Cx)(e:Expr)(f:Ev->Y Bool):Prop:=PT X e (Ri X.K f)
structure QB (X:Cx) (e:Expr) (f:Ev->Option Bool):Prop where
 run:PB X e f
theorem DX{t t':TE}(h:PE X e t)(m:∀ σ H Q,t' σ H Q->t σ H Q):PE X e t':=λAN s σ H Q I q=>h AN s σ H Q I (m σ H Q q)
theorem ME{e:O Expr}{t t':TA}(h:PA X e t)(m:∀ σ H Q,t' σ H Q->t σ H Q):PA X e t':=λpos AN s σ H Q I q=>h pos AN s σ H Q I (m σ H Q q)
theorem HI{t t':TT}(h:PT X e t)(m:∀ σ H Q,t' σ H Q->t σ H Q):PT X e t':=λAN s σ H Q I q=>h AN s σ H Q I (m σ H Q q)
theorem IF{t t':TT}(h:PW X e t)(m:∀ σ H Q,t' σ H Q->t σ H Q):PW X e t':=λwh AN s σ H Q I q=>h wh AN s σ H Q I (m σ H Q q)
theorem Rj{e:AB}{t t':TS}(h:PS X e t)(m:∀D σ H,t' D σ H->t D σ H):PS X e t':=λAN s σ H D I q=>h AN s σ H D I (m D σ H q)
theorem ZR{e:O AB}{t t':TS}(h:Ad X e t)(m:∀D σ H,t' D σ H->t D σ H):Ad X e t':=λAN s σ H D I q=>h AN s σ H D I (m D σ H q)
def rF(K:Au)(g:Bx->Bx->Y Bx):R2:=λx y H Q=>∃a b c,aW K H a x/\aW K H b y/\g a b=Z c/\∀w H',AV H H'->Nw H c w->aW K H' c w->Q w H'
def ID(K:Au)(g:Bx->Y Bx):V->Hp->VK->Prop:=λx H Q=>∃a c,aW K H a x/\g a=Z c/\∀w H',AV H H'->Nw H c w->aW K H' c w->Q w H'
def MO(K:Au)(g:O Bx->Y Bx):O V->Hp->VK->Prop:=λxs H Q=>∃bs c,pq K H bs xs/\g bs=Z c/\∀w H',AV H H'->Nw H c w->aW K H' c w->Q w H'
abbrev FW(X:Cx)(f:A0->A0->Sem A0)(g:Bx->Bx->Y Bx):Prop:=vX X f (rF X.K g)
abbrev LP(X:Cx)(f:A0->Sem A0)(g:Bx->Y Bx):Prop:=D6 X f (ID X.K g)
abbrev mF(X:Cx)(f:A0)(g:O Bx->Y Bx):Prop:=eY X f (MO X.K g)
theorem vX.imp{f:A0->A0->Sem A0}{r a:R2}(h:vX X f r)(m:∀x y H Q,a x y H Q->r x y H Q):vX X f a:=λAN s σ H x y v u Q I b c q=>h AN s σ H x y v u Q I b c (m x y H Q q)
theorem D6.imp{f:A0->Sem A0}{r a:V->Hp->VK->Prop}(h:D6 X f r)(m:∀x H Q,a x H Q->r x H Q):D6 X f a:=λAN s σ H x v Q I b q=>h AN s σ H x v Q I b (m x H Q q)
theorem eY.imp{f:A0}{r a:O V->Hp->VK->Prop}(h:eY X f r)(m:∀x H Q,a x H Q->r x H Q):eY X f a:=λAN s σ H xs us Q I b q=>h AN s σ H xs us Q I b (m xs H Q q)
def b2(g:Bx->Bx->Y Bx)(fa fb:Ev->Y Bx):Ev->Y Bx:=λρ=>(fa ρ).bind λx=>(fb ρ).bind λy=>g x y
def b1(g:Bx->Y Bx)(fa:Ev->Y Bx):Ev->Y Bx:=λρ=>(fa ρ).bind g
def cI(g:O Bx->Y Bx)(fs:Ev->Y (O Bx)):Ev->Y Bx:=λρ=>(fs ρ).bind g
theorem AT{o:Y α}{f:α->Y β}{b:β}(h:o.bind f=Z b):∃a,o=Z a/\f a=Z b:=by
 cases o with
 |none=>cases h
 |some a=>exact⟨a,rfl,h⟩
theorem V8{g:Bx->Bx->Y Bx}{fa fb:Ev->Y Bx}(σ:L2.St)(H:Hp)(Q:VK)(h:tF K (b2 g fa fb) σ H Q):D7 (rF K g) (tF K fa) (tF K fb) σ H Q:=by
 obtain⟨H0,ρ,c,E,e,q⟩:=h;obtain⟨a,ea,e⟩:=AT e;obtain⟨b,eb,e⟩:=AT e;refine⟨H0,ρ,a,E,ea,λv H1 d s l=>⟨H0,ρ,b,E.grow d,eb,λu H2 f p n=>?_⟩⟩;exact⟨a,b,c,l.same f,n,e,λw m i o j=>q w m ((d.trans f).trans i) (o.old (d.trans f)) j⟩
theorem Si{g:Bx->Y Bx}{fa:Ev->Y Bx}(σ:L2.St)(H:Hp)(Q:VK)(h:tF K (b1 g fa) σ H Q):MR (ID K g) (tF K fa) σ H Q:=by
 obtain⟨H0,ρ,c,E,e,q⟩:=h;obtain⟨a,ea,e⟩:=AT e;exact⟨H0,ρ,a,E,ea,λv H1 b m i=>⟨a,c,i,e,λw j d l f=>q w j (b.trans d) (l.old b) f⟩⟩
theorem D8{g:O Bx->Y Bx}{fs:Ev->Y (O Bx)}(σ:L2.St)(H:Hp)(Q:VK)(h:tF K (cI g fs) σ H Q):Hk (MO K g) (MQ K fs) σ H Q:=by
 obtain⟨H0,ρ,c,E,e,q⟩:=h;obtain⟨a,ea,e⟩:=AT e;exact⟨H0,ρ,a,E,ea,λv H1 b i=>⟨a,c,i,e,λw j d l f=>q w j (b.trans d) (l.old b) f⟩⟩
section
variable{a b:Expr}{fa fb fc f:Ev->Y Bx}{fs:Ev->Y (O Bx)}
theorem aY{op:Operator}{g:Bx->Bx->Y Bx}(e:FW X (binaryOp op) g)(c:QV X a fa)(d:QV X b fb):QV X (.BinOp a op b pos) (b2 g fa fb):=⟨have c:=c.run;have d:=d.run;DX (IT e c d) V8⟩
theorem RO{op:UnaryOp}{g:Bx->Y Bx}(c:LP X (unaryOp op) g)(b:QV X a fa):QV X (.UnaryOp op a pos) (b1 g fa):=⟨have b:=b.run;DX (UM c b) Si⟩
theorem HW{g:Bx->Bx->Y Bx}(e:FW X (AG op) g)(c:QV X a fa)(d:QV X b fb)(f:behindInMarks op b=false):QV X (.Compare a [op] [b] pos) (b2 g fa fb):=⟨have c:=c.run;have d:=d.run;DX (Zq e c d f) V8⟩
def V9:Bx->Y Bool
 |.z (.bl b)=>Z b
 |_=>U
theorem Wa{b:Bx}{k:Bool}(h:aW K H b v)(e:V9 b=Z k):v=.bl k:=by
 cases b with
 |z d=>
  cases d<;>first|(cases e;done)|skip;cases e;simpa only[aW,AW]using h
 |_=>cases e
theorem OM(σ:L2.St)(H:Hp)(Q:Bool->Hp->Prop)(h:Ri K (λρ=>(f ρ).bind V9) σ H Q):tF K f σ H (λx H'=>∃k,x=.bl k/\Q k H'):=by
 obtain⟨H0,ρ,k,E,e,q⟩:=h;obtain⟨b,eb,e⟩:=AT e;exact⟨H0,ρ,b,E,eb,λv H1 a d c=>⟨k,Wa c e,q H1 a⟩⟩
theorem bG{g:Bx->Bx->Y Bx}(e:FW X (AG op) g)(c:QV X a fa)(d:QV X b fb)(f:behindInMarks op b=false):QB X (.Compare a [op] [b] pos) (λρ=>(b2 g fa fb ρ).bind V9):=⟨have c:=c.run;have d:=d.run;HI (Zr e c d f) λσ H Q h=>V8 σ H _ (OM σ H Q h)⟩
def xW(ρ:Ev)(i:Nat):Y Bx:=match ρ[i]? with
 |some (Z (.o ds))=>Z (.l ds)
 |some (Z (.m AO _))=>Z (.n AO)
 |some (Z b)=>Z b
 |_=>U
theorem J9{ρ:Ev}{b:Bx}(E:aX K H0 H σ ρ)(e:xW ρ i=Z b):∃v,σ[i]?=Z (Z v)/\aW K H b v:=by
 unfold xW at e;split at e
 ·rename_i ds h;cases e;obtain⟨v,e1,a,vs,e2,q,r⟩:=E.val i _ h;exact⟨v,e1,a,vs,e2,.inl q,r⟩
 ·rename_i ds h;cases e;obtain⟨v,e1,a,vs,e2,q,r⟩:=E.val i _ h;exact⟨v,e1,a,vs,e2,.inl q,r.1⟩
 ·rename_i c h;cases e;exact E.val i _ h
 ·cases e
theorem wD{ρ:Ev}{b:Bx}(e:xW ρ i=Z b):pA b=false:=by
 unfold xW at e;split at e
 ·cases e;rfl
 ·cases e;rfl
 ·rename_i c h1 h2 a;cases e;cases b with
  |o ds=>exact absurd S (h1 ds)
  |m ds _=>exact absurd S (h2 ds _)
  |_=>rfl
 ·cases e
theorem aj(i:Nat)(c:X.N[i]?=Z x:=by rfl)(d:Q0 X.env.scope x:=by first|exact JE rfl|exact QQ (JE S)|exact QQ (QQ S))(a:be x:=by decide)(f:(x==("__classdict__":AJ))=false:=by decide):QV X (.Name x pos) (λρ=>xW ρ i):=⟨DX (fV c d a f) λσ H Q h=>by
 obtain⟨H0,ρ,b,E,e,q⟩:=h;obtain⟨v,e1,r⟩:=J9 E e;refine⟨v,e1,q v H (AV.refl H) ?_ r⟩;cases b with
 |o ds=>have:=wD e;cases this
 |m ds _=>have:=wD e;cases this
 |_=>trivial⟩
def cB(d:Dt):Ev->Y Bx:=λ_=>Z (.z d)
theorem ZS{d:Dt}(h:PE X e (tC v))(r:∀H,AW X.K H d v):PV X e (cB d):=DX h λσ H Q q=>by
 obtain⟨H0,ρ,b,E,e,q⟩:=q;cases e;exact q v H (AV.refl H) trivial (r H)
theorem aH{i j}:QV X (.Constant (.int i) j pos) (cB (.int i)):=⟨ZS ac λH=>by simp only[AW]⟩
theorem FZ{i j}:QV X (.Constant (.bool i) j pos) (cB (.bl i)):=⟨ZS WH λH=>by simp only[AW]⟩
theorem Om{j}:QV X (.Constant .none j pos) (cB .non):=⟨ZS Mo λH=>by simp only[AW]⟩
theorem Wb{j}(hx:x.length<=AA:=by decide):PV X (.Constant (.str x) j pos) (cB (.str x)):=ZS To λH=>by unfold AW;exact⟨rfl,hx⟩
def Wc:Bx->Y Bool
 |.z .non=>Z false
 |.z (.bl b)=>Z b
 |.z (.int i)=>Z (i != 0)
 |.z (.str x)=>Z ((x.length:Int) != 0)
 |.z (.tup ds)=>Z (!ds.isEmpty)
 |.z (.lst ds)=>Z (!ds.isEmpty)
 |.l ds=>Z (!ds.isEmpty)
 |.o ds=>Z (!ds.isEmpty)
 |.z .emp=>U
 |.n _=>U
 |.m _ _=>U
theorem aG.isEmpty{ds:O Dt}(h:aG K H ds vs):(!ds.isEmpty)=!vs.isEmpty:=by
 have:=h.length;cases ds<;>cases vs<;>simp_all
theorem ZV{b:Bx}{k:Bool}(r:aW K H b v)(e:Wc b=Z k):HE K v H k:=by
 cases b with
 |z d=>
  cases d with
  |non=>cases e;simp only[aW,AW]at r;subst r;rfl
  |bl b=>cases e;simp only[aW,AW]at r;subst r;rfl
  |int b=>cases e;simp only[aW,AW]at r;subst r;rfl
  |str x=>cases e;simp only[aW,AW]at r;obtain⟨rfl,h⟩:=r;exact⟨h,rfl⟩
  |tup ds=>
   cases e;simp only[aW,AW]at r;obtain⟨a,vs,rfl,q,r⟩:=r;exact .inr (.inl ⟨vs,q,r.isEmpty⟩)
  |lst ds=>
   cases e;obtain⟨a,vs,rfl,q,r⟩:=r.DW rfl;exact .inl ⟨vs,q,r.isEmpty⟩
  |emp=>cases e
 |l ds=>
  cases e;obtain⟨a,vs,rfl,q,r⟩:=r.DW rfl;exact .inl ⟨vs,q,r.isEmpty⟩
 |o ds=>
  cases e;obtain⟨a,vs,rfl,q,r⟩:=r.DW rfl;exact .inl ⟨vs,q,r.isEmpty⟩
 |n _=>cases e
 |m _ _=>cases e
theorem vC(h:QV X e f)(he:∀a,isTrue e X.env a=(do let v <-a;standAt e.pos;holding [v] (truthy v)):=by intro _;rfl):QB X e (λρ=>(f ρ).bind Wc):=⟨have h:=h.run;HI (VB h he) λσ H Q q=>by
 obtain⟨H0,ρ,k,E,e,q⟩:=q;obtain⟨b,eb,e⟩:=AT e;exact⟨H0,ρ,b,E,eb,λv H1 c g d=>⟨k,ZV d e,q H1 c⟩⟩⟩
def DY(p q:Ev->Y Bool):Ev->Y Bool:=λρ=>(p ρ).bind λc=>if c=true then q ρ else Z false
def TY(p q:Ev->Y Bool):Ev->Y Bool:=λρ=>(p ρ).bind λc=>if c=true then Z true else q ρ
def Ka(p:Ev->Y Bool):Ev->Y Bool:=λρ=>(p ρ).bind λc=>Z (!c)
def ND(X:Cx)(e:Expr)(f:Ev->Y Bool):Prop:=PW X e (Ri X.K f)
structure ED (X:Cx) (e:Expr) (f:Ev->Option Bool):Prop where
 run:ND X e f
variable{p q:Ev->Y Bool}{AS:O Expr}
theorem Kc(b:QB X a p):ED X (.BoolOp .And [a] pos) p:=⟨have b:=b.run;Zj b⟩
theorem p8(b:QB X a p):ED X (.BoolOp .Or [a] pos) p:=⟨have b:=b.run;TZ b⟩
theorem ZW(σ:L2.St)(H:Hp)(Q:Bool->Hp->Prop)(h:Ri K (DY p q) σ H Q):LB (Ri K p) (Ri K q) σ H Q:=by
 obtain⟨H0,ρ,k,E,e,w⟩:=h;obtain⟨c,d,e⟩:=AT e;refine⟨H0,ρ,c,E,d,λH1 a=>?_⟩;cases c with
 |true=>rw[zl rfl]at e ⊢;exact⟨H0,ρ,k,E.grow a,e,λH2 b=>w H2 (a.trans b)⟩
 |false=>rw[zD Zl]at e ⊢;cases e;exact w H1 a
theorem RI(σ:L2.St)(H:Hp)(Q:Bool->Hp->Prop)(h:Ri K (TY p q) σ H Q):LF (Ri K p) (Ri K q) σ H Q:=by
 obtain⟨H0,ρ,k,E,e,w⟩:=h;obtain⟨c,d,e⟩:=AT e;refine⟨H0,ρ,c,E,d,λH1 a=>?_⟩;cases c with
 |true=>rw[zl rfl]at e ⊢;cases e;exact w H1 a
 |false=>rw[zD Zl]at e ⊢;exact⟨H0,ρ,k,E.grow a,e,λH2 b=>w H2 (a.trans b)⟩
theorem uq(c:QB X a p)(d:ED X (.BoolOp .And (b::AS) pos) q):ED X (.BoolOp .And (a::b::AS) pos) (DY p q):=⟨have c:=c.run;have d:=d.run;IF (XX c d) ZW⟩
theorem qb(c:QB X a p)(d:ED X (.BoolOp .Or (b::AS) pos) q):ED X (.BoolOp .Or (a::b::AS) pos) (TY p q):=⟨have c:=c.run;have d:=d.run;IF (SA c d) RI⟩
theorem HX(h:ED X e p):QB X e p:=⟨have h:=h.run;h.pt⟩
theorem Ak(b:QB X a p):QB X (.UnaryOp .Not a pos) (Ka p):=⟨have b:=b.run;HI (ON b) λσ H Q h=>by
 obtain⟨H0,ρ,k,E,e,w⟩:=h;obtain⟨c,f,e⟩:=AT e;cases e;exact⟨H0,ρ,c,E,f,λH1 d=>w H1 d⟩⟩
def EW(p:Ev->Y Bool)(fa fb:Ev->Y Bx):Ev->Y Bx:=λρ=>(p ρ).bind λc=>if c=true then fa ρ else fb ρ
theorem Wf(j:QB X c p)(f:QV X a fa)(l:QV X b fb):QV X (.IfExp c a b pos) (EW p fa fb):=⟨have j:=j.run;have f:=f.run;have l:=l.run;DX (Vt j f l) λσ H Q h=>by
 obtain⟨H0,ρ,k,E,e,w⟩:=h;obtain⟨c,n,e⟩:=AT e;refine⟨H0,ρ,c,E,n,λH1 d=>?_⟩;cases c with
 |true=>rw[zl rfl]at e ⊢;exact⟨H0,ρ,k,E.grow d,e,λv H2 i g m=>w v H2 (d.trans i) (g.old d) m⟩
 |false=>rw[zD Zl]at e ⊢;exact⟨H0,ρ,k,E.grow d,e,λv H2 i g m=>w v H2 (d.trans i) (g.old d) m⟩⟩
theorem Rk:FG X [] (λ_=>Z []):=ME jc λσ H Q h=>by
 obtain⟨H0,ρ,bs,E,e,q⟩:=h;cases e;exact q [] H (AV.refl H) .nil
def au(f:Ev->Y Bx)(fs:Ev->Y (O Bx)):Ev->Y (O Bx):=λρ=>(f ρ).bind λb=>(fs ρ).bind λbs=>Z (b::bs)
theorem Kd(h1:PV X e f)(h2:FG X es fs)(hs:A9 (e::es) X.env=(false,eval e X.env)::A9 es X.env:=by rfl):FG X (e::es) (au f fs):=ME (dR h1 h2 hs) λσ H Q h=>by
 obtain⟨H0,ρ,bs,E,e,q⟩:=h;obtain⟨b,eb,e⟩:=AT e;obtain⟨i,j,e⟩:=AT e;cases e;refine⟨H0,ρ,b,E,eb,λv H1 a l d=>⟨H0,ρ,i,E.grow a,j,λvs H2 c g=>?_⟩⟩;exact q (v::vs) H2 (a.trans c) (.cons (d.same c) g)
def Ea:Bx->Y Bx
 |.z d=>Z (.z d)
 |.o ds=>Z (.z (.lst ds))
 |.l _=>U
 |.n _=>U
 |.m _ _=>U
theorem qd{a:A1}(I:L2.AU X AN σ H s)(h:H a=Z (.lst vs)):∃o,L2.AU X AN σ (B4 H a (.gF o (.lst vs))) s:=by
 obtain⟨z,AQ,n,r,e⟩:=I.hok a _ h;refine⟨{ cls:=.type "list",data:=.seq AQ.toArray n },⟨I.ok,I.os,I.bare,⟨I.base.keep,I.base.slot,λb d q1 q2 q3=>?_,I.base.there,λb xs q=>?_,λb d u q=>?_,λb ps q=>?_⟩,I.loc,I.cell,?_,λx c q=>?_,λp hp=>?_,?_,I.len⟩⟩
 ·have:=I.base.free b d q1 q2 q3;rw[aD (bK h this).symm];exact this
 ·have:=I.base.tups b xs q;rw[aD (iZ this h (by intro z;cases z))];exact this
 ·have:=I.base.rP b d u q;rw[aD (iZ this h (by intro z;cases z))];exact this
 ·obtain⟨m,this⟩:=I.base.wg b ps q;rw[aD (iZ this h (by intro z;cases z))];exact⟨m,this⟩
 ·rw[aD (bK h I.free).symm];exact I.free
 ·rw[aD (bK h (I.mC x c q)).symm];exact I.mC x c q
 ·obtain⟨q1,q2,q3⟩:=I.pin p hp;refine⟨q1,?_,q3⟩;rw[aD (bK h q2).symm];exact q2
 ·intro b u q;by_cases f:b=a
  ·subst f;rw[aJ]at q;cases q;exact⟨e,z,AQ,n,r,e⟩
  ·rw[aD f]at q;refine(I.hok b u q).stay (λc v _ w=>w) (λc w=>?_) (λc xs w=>?_) λc o' g w=>?_
   ·rw[aD (iZ w h (by intro z;cases z))];exact w
   ·rw[aD (iZ w h (by intro z;cases z))];exact w
   ·rw[aD (iZ w h (by intro z;cases z))];exact w
theorem kW(h:QV X e f):QV X e (b1 Ea f):=⟨by
 have h:=h.run;intro AN s σ H Q I q;obtain⟨H0,ρ,b,E,e,q⟩:=q;obtain⟨x,ex,e⟩:=AT e;cases x with
 |z d=>
  cases e;exact h AN s σ H Q I ⟨H0,ρ,_,E,ex,λv H' s' i g=>q v H' s' trivial g⟩
 |l ds=>cases e
 |n ds=>cases e
 |m ds _=>cases e
 |o ds=>
  cases e;refine fX (h AN s σ H (λv H'=>AV H H'/\Nw H (.o ds) v/\aW X.K H' (.o ds) v) I ⟨H0,ρ,_,E,ex,λv H' s' i g=>⟨s',i,g⟩⟩) λu D B=>?_;obtain⟨v,H1,A,C,s',i,g⟩:=B;obtain⟨a,vs,rfl,j,w⟩:=g;obtain⟨o,y⟩:=qd A j;refine⟨.ref a,_,y,C,q _ _ (λc t p=>?_) trivial ?_⟩
  ·rw[aD (bK p (i a S))];exact s' c t p
  ·simp only[aW,AW];exact⟨a,vs,rfl,.inl ⟨o,aJ⟩,w.kp (.lst j)⟩⟩
def HY:O Bx->Y (O Dt)
 |[]=>Z []
 |.z d::r=>(HY r).bind λds=>Z (d::ds)
 |_=>U
theorem Al{K:Au}{H:Hp}:∀{bs:O Bx} {vs:O V} {ds:O Dt},pq K H bs vs->HY bs=Z ds->aG K H ds vs
 |_,_,_,.nil,e=>by cases e;exact aG.nil
 |b::bs,_,_,.cons h t,e=>by
  cases b with
  |z d=>
   simp only[HY]at e;obtain⟨a,e1,e2⟩:=AT e;cases e2;exact aG.cons h (Al t e1)
  |_=>cases e
theorem Am:∀{bs:O Bx} {ds:O Dt},HY bs=Z ds->ds.length=bs.length
 |[],_,e=>by cases e;rfl
 |.z d::r,_,e=>by
  simp only[HY]at e;obtain⟨a,e1,e2⟩:=AT e;cases e2;simp[Am e1]
 |.l _::_,_,e=>by cases e
 |.o _::_,_,e=>by cases e
 |.n _::_,_,e=>by cases e
 |.m _ _::_,_,e=>by cases e
def Ao(bs:O Bx):Y Bx:=if bs.length<=1000 then(HY bs).bind λds=>Z (.z (.tup ds))else U
def pC(bs:O Bx):Y Bx:=if bs.length<=1000 then(HY bs).bind λds=>Z (.o ds)else U
theorem bw{p:A1}{o:HO}(h:H p=U):AV H (B4 H p o):=λb u e=>by rw[aD (bK e h)];exact e
theorem K'(h:n<=1000):n<=AA:=Zs h ()
theorem xX{x1}(h:V7 X es fs):QV X (.Tuple es x1 pos) (cI Ao fs):=⟨have h:=h.run;DX (Wp h) λσ H Q q=>by
 obtain⟨H0,ρ,c,E,e,q⟩:=q;obtain⟨bs,g,e⟩:=AT e;refine⟨H0,ρ,bs,E,g,λvs H1 b f=>?_⟩;unfold Ao at e;split at e
 ·rename_i d;obtain⟨ds,e1,e⟩:=AT e;cases e;have a:=Al f e1;refine⟨K' (by rw[a.length,Am e1];exact d),λp hp=>q _ _ (b.trans (bw hp)) trivial ?_⟩;simp only[aW,AW];exact⟨p,vs,rfl,.inl (.inl aJ),a.kp (.of (bw hp))⟩
 ·cases e⟩
theorem iG(h:V7 X es fs):QV X (.List es pos) (cI pC fs):=⟨have h:=h.run;DX (Od h) λσ H Q q=>by
 obtain⟨H0,ρ,c,E,e,q⟩:=q;obtain⟨bs,i,e⟩:=AT e;refine⟨H0,ρ,bs,E,i,λvs H1 b g=>?_⟩;unfold pC at e;split at e
 ·rename_i f;obtain⟨ds,e1,e⟩:=AT e;cases e;have d:=Al g e1;refine⟨K' (by rw[d.length,Am e1];exact f),λp hp=>q _ _ (b.trans (bw hp)) (λa ea=>by cases ea;exact b.free hp) ?_⟩;exact⟨p,vs,rfl,aJ,d.kp (.of (bw hp))⟩
 ·cases e⟩
theorem aR{id:String}{g:O Bx->Y Bx}{p:Pos}(d:mF X (.builtin id) g)(j:Gl X x)(f:X.mg x=U)(b:AH x=Z (.builtin id))(a:V7 X (e::es) fs)(c:x ≠ "__name__":=by decide)(h:be x:=by decide)(he:A9 (e::es) X.env=(false,eval e X.env)::A9 es X.env:=by rfl)(i:(AD pos (A9 es X.env)).any (·.1)=false:=by rfl):QV X (.Call (.Name x p) (e::es) [] pos) (cI g fs):=⟨have a:=a.run;DX (wz d j f b a c h he i) D8⟩
theorem fM{T:String}{g:O Bx->Y Bx}{p:Pos}(d:mF X (.type T) g)(j:Gl X x)(f:X.mg x=U)(b:AH x=Z (.type T))(a:V7 X (e::es) fs)(c:x ≠ "__name__":=by decide)(h:be x:=by decide)(he:A9 (e::es) X.env=(false,eval e X.env)::A9 es X.env:=by rfl)(i:(AD pos (A9 es X.env)).any (·.1)=false:=by rfl):QV X (.Call (.Name x p) (e::es) [] pos) (cI g fs):=⟨have a:=a.run;DX (FN d j f b a c h he i) D8⟩
end
inductive An where
 |nx (ρ:Ev)|rt (b:Bx)|bk (ρ:Ev)|ct (ρ:Ev)
def Oo(K:Au)(H0:Hp)(D:BU):An->Prop
 |.nx ρ=>∀ σ H,aX K H0 H σ ρ->D.nx σ H
 |.rt b=>∀v H,AV H0 H->Nw H0 b v->aW K H b v->D.rt v H
 |.bk ρ=>∀ σ H,aX K H0 H σ ρ->D.bk σ H
 |.ct ρ=>∀ σ H,aX K H0 H σ ρ->D.ct σ H
def tG(K:Au)(g:Ev->Y An):TS:=λD σ H=>∃H0 ρ r,aX K H0 H σ ρ/\g ρ=Z r/\Oo K H0 D r
def GI(X:Cx)(st:AB)(g:Ev->Y An):Prop:=PS X st (tG X.K g)
structure NQ (X:Cx) (st:Stmt) (g:Ev->Option An):Prop where
 run:GI X st g
def Q9(X:Cx)(st:O AB)(g:Ev->Y An):Prop:=Ad X st (tG X.K g)
structure NT (X:Cx) (st:List Stmt) (g:Ev->Option An):Prop where
 run:Q9 X st g
def aF(g1 g2:Ev->Y An):Ev->Y An:=λρ=>(g1 ρ).bind λr=>match r with
 |.nx a=>g2 a
 |r=>Z r
section
variable{a b:Expr}{fa fb fc f:Ev->Y Bx}{fs:Ev->Y (O Bx)}{AS:O AB}{g g1 g2:Ev->Y An}
theorem aP  :NT X [] (λρ=>Z (.nx ρ)):=⟨ZR nM λD σ H h=>by
 obtain⟨H0,ρ,r,E,e,q⟩:=h;cases e;exact q σ H E⟩
theorem aB(h1:NQ X st g1)(h2:NT X AS g2):NT X (st::AS) (aF g1 g2):=⟨have h1:=h1.run;have h2:=h2.run;ZR (eX h1 h2) λD σ H h=>by
 obtain⟨H0,ρ,r,E,e,q⟩:=h;obtain⟨c,e1,e⟩:=AT e;refine⟨H0,ρ,c,E,e1,?_⟩;cases c with
 |nx a=>exact λσ' H' d=>⟨H0,a,r,d,e,q⟩
 |rt b=>cases e;exact q
 |bk a=>cases e;exact q
 |ct a=>cases e;exact q⟩
def Wg:Bx->Y An
 |.l _=>U
 |.n _=>U
 |b=>Z (.rt b)
theorem dD(h:QV X e f):NQ X (.Return (Z e) pos) (λρ=>(f ρ).bind Wg):=⟨have h:=h.run;Rj (N6 h) λD σ H h=>by
 obtain⟨H0,ρ,r,E,e,q⟩:=h;obtain⟨b,eb,e⟩:=AT e;refine⟨H0,ρ,b,E,eb,λv H1 a g c=>?_⟩;cases b with
 |l ds=>cases e
 |z d=>cases e;exact q v H1 (E.base.trans a) trivial c
 |o ds=>cases e;exact q v H1 (E.base.trans a) (g.old E.base) c
 |n ds=>cases e
 |m ds _=>cases e;exact q v H1 (E.base.trans a) (g.old E.base) c⟩
def zm(i:Nat)(ρ:Ev):Y An:=match ρ[i]? with
 |some (Z b)=>Wg b
 |_=>U
theorem wF(i:Nat){p:Pos}(g:X.N[i]?=Z x:=by rfl)(j:Q0 X.env.scope x:=by first|exact JE rfl|exact QQ (JE S)|exact QQ (QQ S))(s:be x:=by decide)(t:(x==("__classdict__":AJ))=false:=by decide):NQ X (.Return (Z (.Name x p)) pos) (zm i):=⟨Rj (N6 (fV g j s t)) λD σ H h=>by
 obtain⟨H0,ρ,r,E,e,q⟩:=h;unfold zm at e;split at e
 ·rename_i b f;obtain⟨v,e1,c⟩:=E.val i b f;refine⟨v,e1,?_⟩;cases b with
  |l ds=>cases e
  |z d=>cases e;exact q v H E.base trivial c
  |o ds=>cases e;exact q v H E.base (λa ea=>E.new i _ a f S (by rw[e1,ea])) c
  |n ds=>cases e
  |m ds _=>cases e;exact q v H E.base (λa ea=>E.new i _ a f S (by rw[e1,ea])) c
 ·cases e⟩
def Aq(p:Ev->Y Bool)(g1 g2:Ev->Y An):Ev->Y An:=λρ=>(p ρ).bind λk=>if k=true then g1 ρ else g2 ρ
theorem jP{p:Ev->Y Bool}{u v:O AB}(b:QB X c p)(a:NT X u g1)(d:NT X v g2):NQ X (.If c u v pos) (Aq p g1 g2):=⟨have b:=b.run;have a:=a.run;have d:=d.run;Rj (Q8 b a d) λD σ H h=>by
 obtain⟨H0,ρ,r,E,e,q⟩:=h;obtain⟨k,ek,e⟩:=AT e;refine⟨H0,ρ,k,E,ek,λH1 f=>?_⟩;cases k with
 |true=>rw[zl rfl]at e ⊢;exact⟨H0,ρ,r,E.grow f,e,q⟩
 |false=>rw[zD Zl]at e ⊢;exact⟨H0,ρ,r,E.grow f,e,q⟩⟩
theorem B5{l:O α}{x y:α}(h:(l.set i x)[j]?=Z y):(j=i/\y=x/\i<l.length)\/(j≠i/\l[j]?=Z y):=by
 rw[KO]at h;by_cases e:i=j
 ·subst e;rw[zl rfl]at h;split at h
  ·cases h;exact .inl ⟨rfl,rfl,by assumption⟩
  ·cases h
 ·rw[zD e]at h;exact .inr ⟨λz=>e z.symm,h⟩
theorem xY{l:O α}(x:α)(h:i<l.length):(l.set i x)[i]?=Z x:=by
 rw[KO,zl rfl,zl h]
theorem pF{l:O α}(x:α)(h:j≠i):(l.set i x)[j]?=l[j]?:=by
 rw[KO,zD (KI h)]
theorem aX.set{H1:Hp}{ρ:Ev}{b:Bx}(E:aX K H0 H σ ρ)(s:AV H H1)(r:aW K H1 b v)(u:pA b=true\/loose b=false)(n:Nw H b v):aX K H0 H1 (σ.set i (Z v)) (ρ.set i (Z b)):=by
 have C:=E.grow s;have apart:∀(j:Nat) (g:Bx) (a:A1),ρ[j]?=Z (Z g)->loose g=true->σ[j]?=Z (Z (.ref a))->H a≠U:=λj g a e1 e2 e3 z=>by
  obtain⟨G,h,x⟩:=E.val j g e1;rw[e3]at h;cases h;cases g with
  |z d=>cases e2
  |l ds=>
   obtain⟨A,vs,f,q,_⟩:=x;cases f;rcases q with q|⟨o,q⟩<;>(rw[z]at q;cases q)
  |o ds=>
   obtain⟨A,vs,f,q,_⟩:=x;cases f;rw[z]at q;cases q
  |n ds=>
   obtain⟨A,vs,f,q,_⟩:=x;cases f;rcases q with q|⟨o,q⟩<;>(rw[z]at q;cases q)
  |m ds _=>
   obtain⟨A,vs,f,q,_⟩:=x;cases f;rw[z]at q;cases q
 have B:pA b=true->∀a,v=.ref a->H a=U:=λD=>by
  cases b with
  |o ds=>exact n
  |m ds _=>exact n
  |_=>cases D
 refine⟨by rw[qv,qv];exact E.len,λj g e=>?_,λj k c a g e1 p e2 e3 h f=>?_,C.base,λj c a e1 p e2=>?_⟩
 ·rcases B5 e with⟨rfl,e',hi⟩|⟨w,e'⟩
  ·cases e';exact⟨v,xY _ (by rw[E.len];exact hi),r⟩
  ·rw[pF _ w];exact C.val j g e'
 ·rcases B5 e1 with⟨rfl,e',hi⟩|⟨w,e'⟩
  ·cases e';rw[xY _ (by rw[E.len];exact hi)]at e2;cases e2;rcases B5 e3 with⟨rfl,t,_⟩|⟨y,t⟩
   ·rfl
   ·rw[pF _ y]at f;exact absurd (B p a S) (apart k g a t h f)
  ·rw[pF _ w]at e2;rcases B5 e3 with⟨rfl,t,hi⟩|⟨y,t⟩
   ·cases t;rw[xY _ (by rw[E.len];exact hi)]at f;cases f;have F:loose c=true:=by cases c<;>first|rfl|cases p
    rcases u with u|u
    ·exact absurd (B u a S) (apart j _ a e' F e2)
    ·rw[u]at h;cases h
   ·rw[pF _ y]at f;exact E.own j k c a g e' p e2 t h f
 ·rcases B5 e1 with⟨rfl,e',hi⟩|⟨w,e'⟩
  ·cases e';rw[xY _ (by rw[E.len];exact hi)]at e2;cases e2;exact E.base.free (B p a S)
  ·rw[pF _ w]at e2;exact E.new j c a e' p e2
def Z0(ρ:Ev)(i:Nat):Bx->Y Ev
 |.l _=>U
 |.n _=>U
 |b=>Z (ρ.set i (Z b))
theorem Z1{H1:Hp}{ρ ρ':Ev}{b:Bx}(E:aX K H0 H σ ρ)(s:AV H H1)(r:aW K H1 b v)(n:Nw H b v)(e:Z0 ρ i b=Z ρ'):aX K H0 H1 (σ.set i (Z v)) ρ':=by
 cases b with
 |l ds=>cases e
 |z d=>cases e;exact E.set s r (.inr S) n
 |o d=>cases e;exact E.set s r (.inl S) n
 |n ds=>cases e
 |m d _=>cases e;exact E.set s r (.inl S) n
theorem bx(i:Nat){p:Pos}(c:X.N.Nodup)(he:QV X e f)(hi:X.N[i]?=Z x:=by rfl)(hx:D0 X.env.scope x:=by first|exact JE rfl|exact QQ S)(hs:swapsWith e (Z (.Name x p)) pos.line X.env=pure false:=by rfl)(d:X.fn x=true\/X.env.scope.names.lookup x=Z .local:=by first|exact .inl rfl|exact .inr S):NQ X (.Assign [.Name x p] e pos) (λρ=>(f ρ).bind λb=>(Z0 ρ i b).bind λρ'=>Z (.nx ρ')):=⟨have he:=he.run;Rj (Ae c hi hx he hs d) λD σ H h=>by
 obtain⟨H0,ρ,r,E,e,q⟩:=h;obtain⟨b,eb,e⟩:=AT e;obtain⟨ρ',l,e⟩:=AT e;cases e;exact⟨H0,ρ,b,E,eb,λv H1 a j g=>q _ _ (Z1 E a g j l)⟩⟩
def Lo(σ:L2.St)(ρ:Ev)(σ':L2.St)(ρ':Ev):Prop:=∀(j:Nat) b,loose b=true->ρ'[j]?=Z (Z b)->ρ[j]?=Z (Z b)/\σ'[j]?=σ[j]?
theorem Lo.refl{σ:L2.St}{ρ:Ev}:Lo σ ρ σ ρ:=λ_ _ _ e=>⟨e,rfl⟩
theorem Lo.trans{σ h d:L2.St}{ρ g f:Ev}(a:Lo σ ρ h g)(b:Lo h g d f):Lo σ ρ d f:=λj c l e=>by
 obtain⟨e1,e2⟩:=b j c l e;obtain⟨e3,i⟩:=a j c l e1;exact⟨e3,e2.trans i⟩
theorem Lo.set{ρ:Ev}(i:Nat)(v:V)(d:Dt):Lo σ ρ (σ.set i (Z v)) (ρ.set i (Z (.z d))):=λj b l e=>by
 rcases B5 e with⟨rfl,e',_⟩|⟨a,e'⟩
 ·cases e';cases l
 ·exact⟨e',pF _ a⟩
def L4(K:Au)(g:Dt->Ev->Y Ev):TG:=λv σ H Q=>∃H0 ρ d a,aX K H0 H σ ρ/\AW K H d v/\g d ρ=Z a/\∀ σ',aX K H0 H σ' a->Lo σ ρ σ' a->Q σ' H
def EQ(X:Cx)(t:Expr)(g:Dt->Ev->Y Ev):Prop:=PG X t (L4 X.K g)
structure Wh (X:Cx) (t:Expr) (g:Dt->Ev->Option Ev):Prop where
 run:EQ X t g
theorem bh(i:Nat)(a:X.N.Nodup)(hi:X.N[i]?=Z x:=by rfl)(hx:D0 X.env.scope x:=by first|exact JE rfl|exact QQ S)(f:X.fn x=true\/X.env.scope.names.lookup x=Z .local:=by first|exact .inl rfl|exact .inr S):Wh X (.Name x pos) (λd ρ=>Z (ρ.set i (Z (.z d)))):=⟨λAN s σ H v u Q I r h=>by
 obtain⟨H0,ρ,d,g,E,c,e,q⟩:=h;cases e;exact um a hi hx f AN s σ H v u Q I r (q _ (E.set (b:=.z d) (AV.refl H) c (.inr S) trivial) (Lo.set i v d))⟩
theorem bn(i:Nat)(a:X.N.Nodup:=by show List.Nodup (_++_);decide +kernel)(hi:X.N[i]?=Z x:=by rfl)(hx:D0 X.env.scope x:=by first|exact JE rfl|exact QQ S)(f:X.fn x=true\/X.env.scope.names.lookup x=Z .local:=by first|exact .inl rfl|exact .inr S):Wh X (.Name x pos) (λd ρ=>Z (ρ.set i (Z (.z d)))):=bh i a hi hx f
def Me(K:Au)(g:O Dt->Ev->Y Ev):DC:=λvs σ H Q=>∃H0 ρ ds a,aX K H0 H σ ρ/\aG K H ds vs/\g ds ρ=Z a/\∀ σ',aX K H0 H σ' a->Lo σ ρ σ' a->Q σ' H
def PH(X:Cx)(t:O Expr)(g:O Dt->Ev->Y Ev):Prop:=L2.Q9 X t (Me X.K g)
structure Z2 (X:Cx) (t:List Expr) (g:List Dt->Ev->Option Ev):Prop where
 run:PH X t g
def Rm:O Dt->Ev->Y Ev
 |[],ρ=>Z ρ
 |_,_=>U
def mG(g:Dt->Ev->Y Ev)(gs:O Dt->Ev->Y Ev):O Dt->Ev->Y Ev
 |d::ds,ρ=>(g d ρ).bind (gs ds)
 |_,_=>U
theorem Ia  :Z2 X [] Rm:=⟨λAN s σ H vs us Q I r h=>by
 obtain⟨H0,ρ,ds,b,E,a,e,q⟩:=h;cases ds with
 |nil=>cases e;unfold aG at a;exact Zm AN s σ H vs us Q I r ⟨a,q _ E Lo.refl⟩
 |cons d ds=>cases e⟩
theorem jd{t:Expr}{ts:O Expr}{gt:Dt->Ev->Y Ev}{gs:O Dt->Ev->Y Ev}(h1:Wh X t gt)(h2:Z2 X ts gs)(hs:(assignEach (t::ts) X.env).map (·.2)=assign t X.env::(assignEach ts X.env).map (·.2):=by rfl):Z2 X (t::ts) (mG gt gs):=⟨have h1:=h1.run;have h2:=h2.run;λAN s σ H vs us Q I r h=>by
 obtain⟨H0,ρ,ds,j,E,a,e,q⟩:=h;cases ds with
 |nil=>cases e
 |cons d ds=>
  unfold aG at a;obtain⟨v,m,rfl,i,o⟩:=a;simp only[mG]at e;obtain⟨b,e1,e⟩:=AT e;exact Vv h1 h2 hs AN s σ H _ us Q I r ⟨v,m,rfl,H0,ρ,d,b,E,i,e1,λp n g=>⟨H0,b,ds,j,n,o,e,λf c l=>q f c (g.trans l)⟩⟩⟩
def Ke(n:Nat)(gs:O Dt->Ev->Y Ev):Dt->Ev->Y Ev
 |.tup ds,ρ=>if ds.length=n then gs ds ρ else U
 |_,_=>U
theorem Oq{ts:O Expr}{k:Nat}{gs:O Dt->Ev->Y Ev}(j:X.calm=true)(h:Z2 X ts gs)(i:(assignEach ts X.env).length=n:=by rfl)(g:(assignEach ts X.env).findIdx? (·.1)=U:=by rfl):Wh X (.Tuple ts k pos) (Ke n gs):=⟨have h:=h.run;λAN s σ H v u Q I r m=>by
 obtain⟨H0,ρ,d,l,E,c,e,q⟩:=m;cases d with
 |tup ds=>
  simp only[Ke]at e;split at e
  ·rename_i f;unfold AW at c;obtain⟨a,vs,rfl,o,b⟩:=c;exact PD j h i g AN s σ H _ u Q I r ⟨a,vs,rfl,o,by rw[b.length];exact f,H0,ρ,ds,l,E,b,e,q⟩
  ·cases e
 |_=>cases e⟩
theorem Wi{gt:Dt->Ev->Y Ev}(he:QV X e f)(a:Wh X tg gt)(hs:swapsWithSole [tg] e pos.line X.env=pure false:=by rfl)(j:swappedStores [tg] e X.env=pure U:=by rfl)(h1:(assignEach [tg] X.env).map (·.2)=[assign tg X.env]:=by rfl):NQ X (.Assign [tg] e pos) (λρ=>(f ρ).bind λb=>match b with|.z d=>(gt d ρ).bind λρ'=>Z (.nx ρ')|_=>U):=⟨have he:=he.run;have a:=a.run;Rj (VO he a hs j h1) λD σ H h=>by
 obtain⟨H0,ρ,r,E,e,q⟩:=h;obtain⟨b,eb,e⟩:=AT e;refine⟨H0,ρ,b,E,eb,λv H1 c m i=>?_⟩;cases b with
 |z d=>
  obtain⟨ρ',l,e⟩:=AT e;cases e;exact⟨H0,ρ,d,ρ',E.grow c,i,l,λσ' g _=>q _ _ g⟩
 |_=>cases e⟩
def Wj(ρ:Ev)(i:Nat):Bx->Y An
 |.z d=>match ρ[i]? with
  |some (Z (.o ds))=>if ds.length<AA then Z (.nx (ρ.set i (Z (.o (ds++[d])))))else U
  |_=>U
 |_=>U
theorem aX.adn{ρ:Ev}{c0 c1:Bx}{a:A1}{u:HO}(E:aX K H0 H σ ρ)(h:ρ[i]?=Z (Z c0))(t:pA c0=true)(hs:σ[i]?=Z (Z (.ref a)))(k:Kp H (B4 H a u))(r:aW K (B4 H a u) c1 (.ref a)):
  aX K H0 (B4 H a u) σ (ρ.set i (Z c1)):=by
 have hi:i<ρ.length:=(ba.mp h).1;have L:H0 a=U:=E.new i c0 a h t hs;have lo:∀c,pA c=true->loose c=true:=λc G=>by cases c<;>first|rfl|cases G
 refine⟨by rw[qv];exact E.len,λj x e=>?_,λj F c f x e1 y e2 e3 N M=>?_,λc o e=>?_,λj c f e1 y e2=>?_⟩
 ·rcases B5 e with⟨rfl,e',_⟩|⟨C,e'⟩
  ·cases e';exact⟨_,hs,r⟩
  ·obtain⟨v,e1,w⟩:=E.val j x e';refine⟨v,e1,?_⟩;have A:∀f,v=.ref f->loose x=true->f≠a:=λf ev J z=>by
    subst z;exact C (E.own i j c0 _ _ h t hs e' J (by rw[e1,ev])).symm
   cases x with
   |z d=>exact AW.kp k w
   |l B=>
    obtain⟨f,s,rfl,q,p⟩:=w;refine⟨f,s,rfl,?_,p.kp k⟩;have g:=A f S rfl;rcases q with q|⟨o,q⟩
    ·exact .inl (by rw[aD g];exact q)
    ·exact .inr ⟨o,by rw[aD g];exact q⟩
   |o B=>
    obtain⟨f,s,rfl,q,p⟩:=w;have g:=A f S rfl;exact⟨f,s,rfl,by rw[aD g];exact q,p.kp k⟩
   |n B=>
    obtain⟨f,s,rfl,q,p⟩:=w;refine⟨f,s,rfl,?_,p.kp k⟩;have g:=A f S rfl;rcases q with q|⟨o,q⟩
    ·exact .inl (by rw[aD g];exact q)
    ·exact .inr ⟨o,by rw[aD g];exact q⟩
   |m B=>
    obtain⟨f,s,rfl,q,p⟩:=w;have g:=A f S rfl;exact⟨f,s,rfl,by rw[aD g];exact q,p.1.kp k,p.2⟩
 ·have D:∀(m:Nat) (b:Bx),(ρ.set i (Z c1))[m]?=Z (Z b)->loose b=true->∃b0,ρ[m]?=Z (Z b0)/\loose b0=true/\(pA b=true->pA b0=true):=λm b e l=>by
   rcases B5 e with⟨rfl,e',_⟩|⟨C,e'⟩
   ·exact⟨_,h,lo _ t,λ_=>t⟩
   ·exact⟨b,e',l,λz=>z⟩
  obtain⟨b0,q1,q2,q3⟩:=D j _ e1 (lo _ y);obtain⟨b1,I,P,_⟩:=D F _ e3 N;exact E.own j F b0 f b1 q1 (q3 y) e2 I P M
 ·rw[aD (bK e L)];exact E.base c o e
 ·rcases B5 e1 with⟨rfl,e',_⟩|⟨C,e'⟩
  ·exact E.new _ c0 f h t e2
  ·exact E.new j c f e' y e2
theorem aX.Tw{ρ:Ev}{ds es:O Dt}{a:A1}{us:O V}(E:aX K H0 H σ ρ)(h:ρ[i]?=Z (Z (.o ds)))(hs:σ[i]?=Z (Z (.ref a)))(b:H a=Z (.lst vs))(r:aG K H es us):
  aX K H0 (B4 H a (.lst us)) σ (ρ.set i (Z (.o es))):=E.adn h S hs (.lst b) ⟨a,us,rfl,aJ,r.kp (.lst b)⟩
theorem Ar(i:Nat){p:Pos}(he:QV X e f)(n:X.N[i]?=Z x:=by rfl)(s:Q0 X.env.scope x:=by first|exact JE rfl|exact QQ (JE S)|exact QQ (QQ S))(C:be x:=by decide)(F:(x==("__classdict__":AJ))=false:=by decide)(j:A9 [e] X.env=[(false,eval e X.env)]:=by rfl)(y:attributeBase (.Name x p) "append" X.env (eval (.Name x p) X.env)=eval (.Name x p) X.env:=by rfl)(o:((AD cpos (A9 [e] X.env)).all (λx=>!x.1)&&(backToKw cpos (keywordEach [] X.env)).all (λx=>x.1.isSome)&&decide ([e].length+([]:O AC).length+(if([]:O AC).isEmpty then 0 else 1)<30))=true:=by rfl)(A:(apos.endLine==cpos.line)=true:=by rfl)(hs:swapsWith (.Call (.Attribute (.Name x p) "append" apos) [e] [] cpos) U pos.line X.env=pure false:=by rfl):NQ X (.Expr (.Call (.Attribute (.Name x p) "append" apos) [e] [] cpos) pos) (λρ=>(f ρ).bind (Wj ρ i)):=⟨have he:=he.run;Rj (pZ (yK Jn Kk Kj lY (fV (i:=i) n s C F) (dR he jc (by rw[j]<;>rfl)) y o A (by rw[j]<;>rfl) S) hs) λD σ H h=>by
  obtain⟨H0,ρ,r,E,e,q⟩:=h;obtain⟨b,eb,e⟩:=AT e;cases b with
  |z d=>
   simp only[Wj]at e;split at e
   ·rename_i ds m;split at e
    ·rename_i t;cases e;obtain⟨v,e1,a,vs,rfl,g,l⟩:=E.val i _ m;refine⟨_,e1,.inl ⟨rfl,vs,.inl (.inl g)⟩,H0,ρ,_,E,eb,λu H1 c G w=>?_⟩;have B:=E.grow c;refine⟨a,vs,u,rfl,rfl,c _ _ g,by rw[l.length];exact t,q _ _ ?_⟩;exact B.Tw m e1 (c _ _ g) ((l.kp (.of c)).append (aG.cons w aG.nil))
    ·cases e
   ·cases e
  |_=>cases e⟩
end
def FX(x:AJ):It:=⟨λi _=>i<x.cps.size,λi H v H'=>H'=H/\∃c,x.cps[i]?=Z c/\v=.str ⟨#[c]⟩,λi _=>x.cps.size<=i⟩
def Se(h:A6)(it:A1)(x:AJ)(i:Nat):Prop:=∃t,h.IsStrIter it "str_ascii_iterator" x t i\/h.IsStrIter it "str_iterator" x t i
theorem Kf(it:A1)(x:AJ):C5 P w K tg (FX x) [it] it (λi h=>Se h it x i) where
 mem:=by simp
 obj:=λi h st b a=>by
  have e:b=it:=by simpa using a
  subst e;obtain⟨t,⟨o,e,c,d⟩|⟨o,e,c,d⟩⟩:=st
  ·exact⟨o,e,λv z=>by rw[d]at z;cases z⟩
  ·exact⟨o,e,λv z=>by rw[d]at z;cases z⟩
 keep:=λi h h' st k=>by
  obtain⟨t,⟨o,e,c⟩|⟨o,e,c⟩⟩:=st
  ·exact⟨t,.inl ⟨o,k it (by simp) o e,c⟩⟩
  ·exact⟨t,.inr ⟨o,k it (by simp) o e,c⟩⟩
 item:=by
  intro X m y p n i AN s σ H E I j st A;subst m y p;obtain⟨f0,f1,f2,f3,f,g⟩:=j it (by simp);have hi:i<x.cps.size:=A;have hx:x.cps[i]?=Z x.cps[i]:=by simp[hi]
  obtain⟨t,st|st⟩:=st
  ·refine wpAny_pyNext_ascii_item st hx λh' l q=>?_;have u:L2.AU X AN σ H { s with heap:=h',toks:=s.toks+1 }:=I.turned (λb o a e=>(q.2 b a).trans e) f0 f1 f3 f g;obtain⟨o,e,c,d⟩:=id l;exact⟨_,rfl,Ft (s:={ s with heap:=h',toks:=s.toks+1 }) e c d () ⟨.str ⟨#[x.cps[i]]⟩,H,u,⟨_,rfl⟩,⟨rfl,_,hx,rfl⟩,⟨t,.inl l⟩,λb a=>(j b a).1⟩⟩
  ·refine wpAny_pyNext_wide_item st hx λh' l q=>?_;have u:L2.AU X AN σ H { s with heap:=h',toks:=s.toks+1 }:=I.turned (λb o a e=>(q.2 b a).trans e) f0 f1 f3 f g;obtain⟨o,e,c,d⟩:=id l;exact⟨_,rfl,Ft (s:={ s with heap:=h',toks:=s.toks+1 }) e c d () ⟨.str ⟨#[x.cps[i]]⟩,H,u,⟨_,rfl⟩,⟨rfl,_,hx,rfl⟩,⟨t,.inr l⟩,λb a=>(j b a).1⟩⟩
 done:=by
  intro X m y p n i AN s σ H E I j st A;subst m y p;obtain⟨f0,f1,f2,f3,f,g⟩:=j it (by simp);have hx:x.cps[i]?=U:=by have:x.cps.size<=i:=A;simp[this]
  obtain⟨t,st|st⟩:=st
  ·exact wpAny_pyNext_ascii_end (I.ok.hd n) st hx λh' eb=>⟨rfl,I.turned (t':=s.toks) (λb o a e=>eb b o a e) f0 f1 f3 f g⟩
  ·exact wpAny_pyNext_wide_end (I.ok.hd n) st hx λh' eb=>⟨rfl,I.turned (t':=s.toks) (λb o a e=>eb b o a e) f0 f1 f3 f g⟩
 self:=λ_ _ _ _ _ st h=>by
  obtain⟨t,st|st⟩:=st
  ·exact wpAny_pyIter_striter_ascii st h
  ·exact wpAny_pyIter_striter_wide st h
def RH(K:Au)(tl:TE):TI:=λσ H R=>tl σ H λx H1=>(∃a,x=.ref a/\(∃xs,rJ K H1 a xs)/\R (EX K a) H1)\/(∃a,x=.ref a/\(∃xs,wj K H1 a xs)/\R (Ff K a) H1)\/∃y,x=.str y/\R (FX y) H1
theorem Ot{l:Expr}{tl:TE}(i:PE X l tl):PI X tg l (RH X.K tl):=by
 intro AN s σ H R I h;refine fX (i AN s σ H _ I h) λv s1 ⟨x,H1,I1,r1,q1⟩=>?_;have c:∀(o:AE) (b:A1),b∈[s1.heap.objs.size]->mD X AN H1 b:=λo b j=>by
  have e:b=s1.heap.objs.size:=by simpa using j
  subst e;exact I1.N7 (zk _) (I1.hok.fresh (zk _))
 rcases q1 with⟨a,e,⟨xs,d⟩,q⟩|⟨a,e,⟨xs,d⟩,q⟩|⟨y,e,q⟩
 ·subst e;cases r1;obtain⟨AQ,m,p,g⟩:=I1.list d;refine y7 p.isList ?_;exact⟨s1.heap.objs.size,[s1.heap.objs.size],_,_,H1,rfl,I1.kept (t':=s1.toks) λb o e=>zh _ e,Fv a _,⟨_,zt _ rfl,rfl,rfl⟩,c default,q⟩
 ·subst e;cases r1;obtain⟨AQ,m,p,g⟩:=I1.tuple d;refine wpAny_pyIter_tuple (show s1.heap.IsTuple a AQ.toArray from p) ?_;exact⟨s1.heap.objs.size,[s1.heap.objs.size],_,_,H1,rfl,I1.kept (t':=s1.toks) λb o e=>zh _ e,N8 a _,⟨_,zt _ rfl,rfl,rfl⟩,c default,q⟩
 ·subst e;obtain⟨t,rfl⟩:=r1;cases f:y.cps.all (· < 128)with
  |true=>
   refine wpAny_pyIter_ascii f ?_;exact⟨s1.heap.objs.size,[s1.heap.objs.size],_,_,H1,rfl,I1.kept (t':=s1.toks) λb o e=>zh _ e,Kf _ y,⟨t,.inl ⟨_,zt _ rfl,rfl,rfl⟩⟩,c default,q⟩
  |false=>
   refine wpAny_pyIter_wide f ?_;exact⟨s1.heap.objs.size,[s1.heap.objs.size],_,_,H1,rfl,I1.kept (t':=s1.toks) λb o e=>zh _ e,Kf _ y,⟨t,.inr ⟨_,zt _ rfl,rfl,rfl⟩⟩,c default,q⟩
def B0(K:Au)(J:It)(ds:O Dt)(Hs:Hp):Prop:=∀(i:Nat) (H:Hp),AV Hs H →
 (∀d,ds[i]?=Z d->J.go i H/\∀x H',J.yld i H x H'->AV H H'/\AW K H' d x)/\(ds.length<=i->J.stop i H)
theorem B0.of{ds:O Dt}(h:∀(i:Nat) (H:Hp),AV Hs H →
  (∀d,ds[i]?=Z d->J.go i H/\∀x H',J.yld i H x H'->H'=H/\AW K H d x)/\(ds.length<=i->J.stop i H)):B0 K J ds Hs:=λi H s=>
 ⟨λd e=>⟨((h i H s).1 d e).1,λx H' y=>by
  obtain⟨rfl,r⟩:=((h i H s).1 d e).2 x H' y;exact⟨AV.refl _,r⟩⟩,(h i H s).2⟩
def C0(x:AJ):O Dt:=x.cps.toList.map λc=>.str ⟨#[c]⟩
theorem B0.list{ds:O Dt}(h:rJ K Hs a vs)(r:aG K Hs ds vs):B0 K (EX K a) ds Hs:=.of λi H s=>by
 have h':=s.seq h;have b:=r.kp (.of s);refine⟨λd e=>?_,λe=>⟨vs,h',by rw[r.length];exact e⟩⟩;obtain⟨v,ev,c⟩:=b.get e;refine⟨⟨vs,v,h',ev⟩,λx H' y=>?_⟩;obtain⟨y1,y2⟩:=y;have:=y2 vs h';rw[ev]at this;cases this;exact⟨y1,c⟩
theorem B0.tup{ds:O Dt}(h:wj K Hs a vs)(r:aG K Hs ds vs):B0 K (Ff K a) ds Hs:=.of λi H s=>by
 have h':=(Kp.of s).sqT h;have b:=r.kp (.of s);refine⟨λd e=>?_,λe=>⟨vs,h',by rw[r.length];exact e⟩⟩;obtain⟨v,ev,c⟩:=b.get e;refine⟨⟨vs,v,h',ev⟩,λx H' y=>?_⟩;obtain⟨y1,y2⟩:=y;have:=y2 vs h';rw[ev]at this;cases this;exact⟨y1,c⟩
theorem B0.str(x:AJ):B0 K (FX x) (C0 x) Hs:=.of λi H s=>by
 refine⟨λd e=>?_,λe=>?_⟩
 ·unfold C0 at e;rw[zS]at e;cases h:x.cps.toList[i]? with
  |none=>rw[h]at e;cases e
  |some c=>
   rw[h]at e;cases e;have b:x.cps[i]?=Z c:=by simpa using h
   have hi:i<x.cps.size:=by
    have:=(ba.mp h).1;simpa using this
   refine⟨hi,λv H' y=>?_⟩;obtain⟨y1,c',a,rfl⟩:=y;rw[b]at a;cases a;refine⟨y1,?_⟩;unfold AW;exact⟨rfl,by show(1:Nat)<=AA;decide⟩
 ·have:(C0 x).length=x.cps.size:=by simp[C0]
  show x.cps.size<=i;omega
def Ib(lo:Int)(n:Nat):O Dt:=(bq n).map λk=>.int (lo+(k:Nat))
theorem B0.rng(lo:Int)(n:Nat):B0 K (FC lo n) (Ib lo n) Hs:=.of λi H s=>by
 refine⟨λd e=>?_,λe=>?_⟩
 ·unfold Ib at e;rw[zS]at e;by_cases hi:i<n
  ·rw[yn hi]at e;cases e;refine⟨hi,λv H' y=>?_⟩;obtain⟨y1,y2⟩:=y;refine⟨y1,?_⟩;unfold AW;exact y2
  ·rw[qi (by simp;omega)]at e;cases e
 ·have:(Ib lo n).length=n:=by simp[Ib]
  show n<=i;omega
def iF(K:Au)(f:Ev->Y (O Dt)):TI:=λσ H R=>∃H0 ρ ds,aX K H0 H σ ρ/\f ρ=Z ds/\∀J H',AV H H' →
 (∀Hs,AV Hs H'->(∀a,H a=U->Hs a=H' a)->(∀a o u,H' a=Z (.gF o u)->Hs a=H' a)->(∀a vs,H' a=Z (.tup vs)->Hs a=H' a)->B0 K J ds Hs)->R J H'
def LX(X:Cx)(tg iter:Expr)(f:Ev->Y (O Dt)):Prop:=PI X tg iter (iF X.K f)
structure Do (X:Cx) (tg iter:Expr) (f:Ev->Option (List Dt)):Prop where
 run:LX X tg iter f
def Wm:Bx->Y (O Dt)
 |.z (.lst ds)=>Z ds
 |.z (.tup ds)=>Z ds
 |.z (.str x)=>Z (C0 x)
 |.o ds=>Z ds
 |_=>U
section
variable{f:Ev->Y Bx}{fs:Ev->Y (O Bx)}
mutual
theorem AW.part{K:Au}{H Hs:Hp}(b:∀a o u,H a=Z (.gF o u)->Hs a=H a)(c:∀a vs,H a=Z (.tup vs)->Hs a=H a):∀{d:Dt} {v:V},AW K H d v->AW K Hs d v
 |.non,_,h=>by simpa only[AW]using h
 |.bl _,_,h=>by simpa only[AW]using h
 |.int _,_,h=>by simpa only[AW]using h
 |.str _,_,h=>by simpa only[AW]using h
 |.tup ds,_,h=>by
  simp only[AW]at h ⊢;obtain⟨a,vs,e,q,r⟩:=h;refine⟨a,vs,e,?_,aG.part b c r⟩;rcases q with (q|⟨o,q⟩)|q
  ·exact .inl (.inl ((c _ _ q).trans q))
  ·exact .inl (.inr ⟨o,(b _ _ _ q).trans q⟩)
  ·exact .inr q
 |.lst ds,_,h=>by
  simp only[AW]at h ⊢;obtain⟨a,vs,e,q,r⟩:=h;refine⟨a,vs,e,?_,aG.part b c r⟩;rcases q with⟨o,q⟩|q
  ·exact .inl ⟨o,(b _ _ _ q).trans q⟩
  ·exact .inr q
 |.emp,_,h=>by
  simp only[AW]at h ⊢;obtain⟨a,o,e,q⟩:=h;exact⟨a,o,e,(b _ _ _ q).trans q⟩
theorem aG.part{K:Au}{H Hs:Hp}(c:∀a o u,H a=Z (.gF o u)->Hs a=H a)(b:∀a vs,H a=Z (.tup vs)->Hs a=H a):∀{ds:O Dt} {vs:O V},aG K H ds vs->aG K Hs ds vs
 |[],_,h=>by simpa only[aG]using h
 |d::ds,_,h=>by
  simp only[aG]at h ⊢;obtain⟨v,r,e,q,t⟩:=h;exact⟨v,r,e,AW.part c b q,aG.part c b t⟩
end
theorem nO(h:QV X e f):Do X tg e (λρ=>(f ρ).bind Wm):=⟨have h:=h.run;λAN s σ H R I q=>by
 refine Ot h AN s σ H R I ?_;obtain⟨H0,ρ,ds,E,e,q⟩:=q;obtain⟨b,eb,e⟩:=AT e;refine⟨H0,ρ,b,E,eb,λv H1 u y i=>?_⟩;cases b with
 |z d=>
  cases d with
  |tup t=>
   cases e;simp only[aW,AW]at i;obtain⟨a,vs,rfl,c,p⟩:=i;refine .inr (.inl ⟨a,rfl,⟨vs,c⟩,q _ _ u λHs hs w g j=>.tup ?_ (p.part g j)⟩);rcases c with (c|⟨o,c⟩)|c
   ·exact .inl (.inl ((j _ _ c).trans c))
   ·exact .inl (.inr ⟨o,(g _ _ _ c).trans c⟩)
   ·exact .inr c
  |lst t=>
   cases e;simp only[aW,AW]at i;obtain⟨a,vs,rfl,c,p⟩:=i;refine .inl ⟨a,rfl,⟨vs,c.sq⟩,q _ _ u λHs hs w g j=>.list ?_ (p.part g j)⟩;rcases c with⟨o,c⟩|c
   ·exact .inl (.inr ⟨o,(g _ _ _ c).trans c⟩)
   ·exact .inr c
  |str x=>
   cases e;simp only[aW,AW]at i;obtain⟨rfl,_⟩:=i;exact .inr (.inr ⟨x,rfl,q _ _ u λHs hs w g j=>.str x⟩)
  |_=>cases e
 |l t=>cases e
 |n t=>cases e
 |m t=>cases e
 |o t=>
  cases e;obtain⟨a,vs,rfl,c,p⟩:=i;refine .inl ⟨a,rfl,⟨vs,.inl (.inl c)⟩,q _ _ u λHs hs w g j=>.list (.inl (.inl ((w a (y a S)).trans c))) (p.part g j)⟩⟩
def GS:O Bx->Y (O Dt)
 |[.z (.int j)]=>if -(2 ^ 62)<=j/\j<2 ^ 62 then Z (Ib 0 j.toNat)else U
 |_=>U
theorem pG{p:Pos}(g:Gl X "range")(f:X.mg "range"=U)(a:V7 X [e] fs)(hs:A9 [e] X.env=[(false,eval e X.env)]:=by rfl):Do X tg (.Call (.Name "range" p) [e] [] pos) (λρ=>(fs ρ).bind GS):=⟨have a:=a.run;λAN s σ H R I q=>by
 refine Tn g f a hs AN s σ H R I ?_;obtain⟨H0,ρ,ds,E,e,q⟩:=q;obtain⟨bs,eb,e⟩:=AT e;refine⟨H0,ρ,bs,E,eb,λvs H1 c d=>?_⟩;unfold GS at e;split at e
 ·rename_i j;split at e
  ·rename_i b;cases e;cases d with
   |cons p t=>
    cases t;simp only[aW,AW]at p;subst p;exact⟨j,rfl,b.1,b.2,q _ _ c λHs _ _ _ _=>.rng 0 _⟩
  ·cases e
 ·cases e⟩
def oK(gt:Dt->Ev->Y Ev)(gb:Ev->Y An):O Dt->Ev->Y An
 |[],ρ=>Z (.nx ρ)
 |d::ds,ρ=>(gt d ρ).bind λc=>(gb c).bind λr=>match r with
  |.nx a=>oK gt gb ds a
  |.ct a=>oK gt gb ds a
  |.bk a=>Z (.nx a)
  |.rt b=>Z (.rt b)
noncomputable def cQ(H:Hp)(σ:L2.St)(ρ:Ev):Hp:=λa=>@ite _ (∃(i:Nat) (c:Bx),ρ[i]?=Z (Z c)/\pA c=true/\σ[i]?=Z (Z (.ref a))) (Classical.propDecidable _) U (H a)
theorem kZ{ρ:Ev}:AV (cQ H σ ρ) H:=λa o e=>by
 unfold cQ at e;split at e
 ·cases e
 ·exact e
theorem aX.rebase{ρ:Ev}(E:aX K Hs H σ ρ)(s:AV H0 Hs):aX K H0 H σ ρ:=⟨E.len,E.val,E.own,s.trans E.base,λi c a e1 b e2=>s.free (E.new i c a e1 b e2)⟩
theorem aX.sans{ρ:Ev}(E:aX K H0 H σ ρ):aX K (cQ H σ ρ) H σ ρ:=⟨E.len,E.val,E.own,kZ,λi c a e1 b e2=>by
 unfold cQ;rw[zl ⟨i,c,e1,b,e2⟩]⟩
theorem aX.sub{ρ:Ev}(E:aX K H0 H σ ρ):AV H0 (cQ H σ ρ):=λa o e=>by
 unfold cQ;split
 ·rename_i h;obtain⟨i,c,e1,b,e2⟩:=h;rw[E.new i c a e1 b e2]at e;cases e
 ·exact E.base a o e
theorem dU{ρ:Ev}(E:aX K H0 H σ ρ)(h:∀vs,H a≠Z (.lst vs))(h2:∀vs,H a≠Z (.dK vs)):cQ H σ ρ a=H a:=by
 unfold cQ;split
 ·rename_i g;obtain⟨i,c,e1,e,e2⟩:=g;obtain⟨v,e3,d⟩:=E.val i _ e1;rw[e2]at e3;cases e3;cases c with
  |o ds=>obtain⟨f,vs,b,q,_⟩:=d;cases b;exact absurd q (h vs)
  |m ds _=>obtain⟨f,vs,b,q,_⟩:=d;cases b;exact absurd q (h2 vs)
  |_=>cases e
 ·rfl
theorem Oo.rebase{K:Au}{H0 Hs:Hp}{D:BU}{r:An}(s:AV H0 Hs)(h:Oo K H0 D r):Oo K Hs D r:=by
 cases r with
 |nx ρ=>exact λσ H E=>h σ H (E.rebase s)
 |bk ρ=>exact λσ H E=>h σ H (E.rebase s)
 |ct ρ=>exact λσ H E=>h σ H (E.rebase s)
 |rt b=>exact λv H s' n r=>h v H (s.trans s') (n.old s) r
theorem pH{gt:Dt->Ev->Option Ev}{gb:Ev->Option An}{ds:O Dt}{H1:Hp}{ρ:Ev}{D:BU}{r:An}(t:aX X.K H0 H1 σ ρ)(Y:B0 X.K J ds (cQ H1 σ ρ))(e:oK gt gb ds ρ=Z r)(q:Oo X.K H0 D r):
  ∃W:Nat->Nat->L2.St->Hp->Prop,(∃m,W 0 m σ H1)/\∀i m σ H,W i m σ H →
   (J.stop i H/\D.nx σ H)\/(J.go i H/\∃N:L2.St->Hp->Prop,(∀ σ' H',N σ' H'->∃p,p<m/\W (i+1) p σ' H')/\∀x H',J.yld i H x H'->L4 X.K gt x σ H' λc H2=>tG X.K gb { D with nx:=N,ct:=N,bk:=D.nx } c H2):=by
 have l:=t.sans;have q2:=q.rebase t.sub;generalize cQ H1 σ ρ=Hs at Y l q2;refine⟨λi m σ' H'=>m=ds.length-i/\i<=ds.length/\∃d,aX X.K Hs H' σ' d/\oK gt gb (ds.drop i) d=Z r,⟨ds.length,by simp,qh _,ρ,l,by simpa using e⟩,?_⟩;rintro i m σ' H' ⟨rfl,B,d,g,e'⟩;obtain⟨y1,y2⟩:=Y i H' g.base;by_cases f:i<ds.length
 ·right;have A:ds[i]?=Z ds[i]:=by simp[f]
  obtain⟨go,w⟩:=y1 _ A;rw[y3 f]at e';simp only[oK]at e';obtain⟨o,e1,e'⟩:=AT e';obtain⟨s,e2,e'⟩:=AT e';refine⟨go,λc H2=>∃a,aX X.K Hs H2 c a/\oK gt gb (ds.drop (i+1)) a=Z r,λc H2 ⟨a,j,e3⟩=>⟨ds.length-(i+1),by omega,rfl,f,a,j,e3⟩,λx H2 z=>?_⟩;obtain⟨v,y⟩:=w x H2 z;refine⟨Hs,d,ds[i],o,g.grow v,y,e1,λC j _=>⟨Hs,o,s,j,e2,?_⟩⟩;cases s with
  |nx a=>exact λc u h=>⟨a,h,e'⟩
  |ct a=>exact λc u h=>⟨a,h,e'⟩
  |bk a=>cases e';exact q2
  |rt b=>cases e';exact q2
 ·left;have n:ds.length<=i:=by omega
  refine⟨y2 n,?_⟩;rw[cK n]at e';cases e';exact q2 σ' H' g
theorem qe{fi:Ev->Y (O Dt)}{gt:Dt->Ev->Y Ev}{gb:Ev->Y An}(hp:PassesOwn (bi X) X.A X.env X.xe)(B:X.calm=true)(hi:Do X tg iter fi)(g:Wh X tg gt)(d:NT X body gb)(hs:∀x,foldedSetIterable iter X.env x=pure x:=by intro _;rfl):NQ X (.For tg iter body [] pos) (λρ=>(fi ρ).bind λds=>oK gt gb ds ρ):=⟨have hi:=hi.run;have g:=g.run;have d:=d.run;Rj (Hw hp B hi g d hs) λD σ H h=>by
 obtain⟨H0,ρ,r,E,e,q⟩:=h;obtain⟨ds,C,e⟩:=AT e;refine⟨H0,ρ,ds,E,C,λJ H1 n y=>?_⟩;have f:=E.grow n;refine pH f ?_ e q;refine y _ kZ (λa b=>?_) (λa o u b=>dU f (λvs z=>by rw[b]at z;cases z) (λvs z=>by rw[b]at z;cases z)) λa vs b=>dU f (λvs z=>by rw[b]at z;cases z) (λvs z=>by rw[b]at z;cases z);unfold cQ;split
 ·rename_i t;obtain⟨i,c,e1,p,e2⟩:=t;obtain⟨v,e3,l⟩:=E.val i _ e1;rw[e2]at e3;cases e3;cases c with
  |o ds=>obtain⟨s,vs,j,q,_⟩:=l;cases j;rw[b]at q;cases q
  |m ds _=>obtain⟨s,vs,j,q,_⟩:=l;cases j;rw[b]at q;cases q
  |_=>cases p
 ·rfl⟩
theorem aX.lend{ρ:Ev}{ds:O Dt}(E:aX K H0 H σ ρ)(h:ρ[i]?=Z (Z (.o ds))):aX K H0 H σ (ρ.set i (Z (.l ds))):=by
 have g:∀(j:Nat) (b:Bx),(ρ.set i (Z (.l ds)))[j]?=Z (Z b)->(j=i/\b=.l ds)\/(j≠i/\ρ[j]?=Z (Z b)):=λj b e=>by
  rcases B5 e with⟨rfl,e',_⟩|⟨f,e'⟩
  ·cases e';exact .inl ⟨rfl,rfl⟩
  ·exact .inr ⟨f,e'⟩
 refine⟨by rw[qv];exact E.len,λj b e=>?_,λj k c a b e1 d e2 e3 p m=>?_,E.base,λj c a e1 d e2=>?_⟩
 ·rcases g j b e with⟨rfl,rfl⟩|⟨f,e'⟩
  ·obtain⟨v,e1,a,vs,e2,q,r⟩:=E.val _ _ h;exact⟨v,e1,a,vs,e2,.inl q,r⟩
  ·exact E.val j b e'
 ·rcases g j _ e1 with⟨rfl,z⟩|⟨f,e'⟩
  ·subst z;cases d
  ·rcases g k _ e3 with⟨rfl,z⟩|⟨s,n⟩
   ·exact E.own j _ c a _ e' d e2 h S m
   ·exact E.own j k c a b e' d e2 n p m
 ·rcases g j _ e1 with⟨rfl,z⟩|⟨f,e'⟩
  ·subst z;cases d
  ·exact E.new j c a e' d e2
def rK(i:Nat)(gt:Dt->Ev->Y Ev)(gb:Ev->Y An)(ρ:Ev):Y An:=match ρ[i]? with
 |some (Z (.o ds))=>oK gt gb ds (ρ.set i (Z (.l ds)))
 |some (Z (.l ds))=>oK gt gb ds ρ
 |some (Z b)=>(Wm b).bind λds=>oK gt gb ds ρ
 |_=>U
theorem Wn{ρ:Ev}{ds:O Dt}(E:aX X.K H0 H σ ρ)(h:ρ[i]?=Z (Z (.l ds))):∃a vs,σ[i]?=Z (Z (.ref a))/\rJ X.K H a vs/\B0 X.K (EX X.K a) ds (cQ H σ ρ):=by
 obtain⟨v,e1,a,vs,rfl,q,r⟩:=E.val i _ h;have hk:cQ H σ ρ a=H a:=by
  unfold cQ;split
  ·rename_i f;obtain⟨j,c,e2,e,e3⟩:=f;have:=E.own j i c a _ e2 e e3 h S e1;subst this;rw[h]at e2;cases e2;cases e
  ·rfl
 refine⟨a,vs,e1,.inl q,.list (.inl ?_) (r.part (λb o u d=>dU E (λvs z=>by rw[d]at z;cases z) (λvs z=>by rw[d]at z;cases z)) λb g d=>dU E (λvs z=>by rw[d]at z;cases z) (λvs z=>by rw[d]at z;cases z))⟩;rcases q with q|⟨o,q⟩
 ·exact .inl (hk.trans q)
 ·exact .inr ⟨o,hk.trans q⟩
theorem Ie(i:Nat){p:Pos}{gt:Dt->Ev->Option Ev}{gb:Ev->Option An}(hp:PassesOwn (bi X) X.A X.env X.xe)(K:X.calm=true)(C:Wh X tg gt)(f:NT X body gb)(P:X.N[i]?=Z x:=by rfl)(M:Q0 X.env.scope x:=by first|exact JE rfl|exact QQ (JE S)|exact QQ (QQ S))(Q:be x:=by decide)(W:(x==("__classdict__":AJ))=false:=by decide)(hs:∀y,foldedSetIterable (.Name x p) X.env y=pure y:=by intro _;rfl):NQ X (.For tg (.Name x p) body [] pos) (rK i gt gb):=⟨have C:=C.run;have f:=f.run;Rj (Hw hp K (Ot (fV (i:=i) P M Q W)) C f hs) λD σ H h=>by
 obtain⟨H0,ρ,r,E,e,q⟩:=h;unfold rK at e;split at e
 ·rename_i ds s;have I:=E.lend s;have hi:i<ρ.length:=(ba.mp s).1;obtain⟨a,vs,e1,sq,Y⟩:=Wn I (xY _ hi);exact⟨_,e1,.inl ⟨a,rfl,⟨vs,sq⟩,pH I Y e q⟩⟩
 ·rename_i ds s;obtain⟨a,vs,e1,sq,Y⟩:=Wn E s;exact⟨_,e1,.inl ⟨a,rfl,⟨vs,sq⟩,pH E Y e q⟩⟩
 ·rename_i b L n2 s;obtain⟨ds,g,e⟩:=AT e;obtain⟨v,e1,j⟩:=E.val i _ s;have B:∀b o u,H b=Z (.gF o u)->cQ H σ ρ b=H b:=λb o u f=>dU E (λvs z=>by rw[f]at z;cases z) (λvs z=>by rw[f]at z;cases z);have F:∀b J,H b=Z (.tup J)->cQ H σ ρ b=H b:=λb J f=>dU E (λvs z=>by rw[f]at z;cases z) (λvs z=>by rw[f]at z;cases z);cases b with
  |z d=>
   cases d with
   |tup t=>
    cases g;simp only[aW,AW]at j;obtain⟨a,vs,rfl,c,G⟩:=j;refine⟨_,e1,.inr (.inl ⟨a,rfl,⟨vs,c⟩,pH E (.tup ?_ (G.part B F)) e q⟩)⟩;rcases c with (c|⟨o,c⟩)|c
    ·exact .inl (.inl ((F _ _ c).trans c))
    ·exact .inl (.inr ⟨o,(B _ _ _ c).trans c⟩)
    ·exact .inr c
   |lst t=>
    cases g;simp only[aW,AW]at j;obtain⟨a,vs,rfl,c,G⟩:=j;refine⟨_,e1,.inl ⟨a,rfl,⟨vs,c.sq⟩,pH E (.list ?_ (G.part B F)) e q⟩⟩;rcases c with⟨o,c⟩|c
    ·exact .inl (.inr ⟨o,(B _ _ _ c).trans c⟩)
    ·exact .inr c
   |str x=>
    cases g;simp only[aW,AW]at j;obtain⟨rfl,_⟩:=j;exact⟨_,e1,.inr (.inr ⟨x,rfl,pH E (.str x) e q⟩)⟩
   |_=>cases g
  |l t=>cases g
  |o t=>exact absurd S (L t)
  |n t=>cases g
  |m t=>cases g
 ·cases e⟩
end
def C7(a:O (AJ×A1)):O (AJ×A1)->Prop
 |[]=>True
 |(n,c)::r=>a.lookup n=Z c/\C7 a r
theorem C7.get{a:O (AJ×A1)}:∀{cl:O (AJ×A1)},C7 a cl->∀{x:AJ} {c:A1},cl.lookup x=Z c->a.lookup x=Z c
 |[],_,_,_,e=>by cases e
 |(n,d)::r,h,x,c,e=>by
  rw[ej]at e;by_cases hx:x==n
  ·simp only[hx]at e;cases e;have:x=n:=by simpa using hx
   rw[this];exact h.1
  ·have hx:(x==n)=false:=by simpa using hx
   simp only[hx]at e;exact C7.get h.2 e
structure LV (X:Cx) (scope:Scope) (cl:List (Str×Addr)) (x:Str) (i:Nat):Prop where
 n:X.N[i]?=some x
 k:X.env.kindOf x=some .cell\/X.env.kindOf x=some .free
 k':(relabel scope X.env).names.lookup x=some .cell\/(relabel scope X.env).names.lookup x=some .free
 c:∃c,cl.lookup x=some c
def Eb(X:Cx)(scope:Scope)(cl:O (AJ×A1)):AZ->O Nat->Prop
 |[],[]=>True
 |x::xs,i::is=>LV X scope cl x i/\Eb X scope cl xs is
 |_,_=>False
theorem Eb.get{X:Cx}{scope:Scope}{cl:O (AJ×A1)}:∀{xs:AZ} {is:O Nat},Eb X scope cl xs is->xs.length=is.length/\∀(j:Nat) (x:AJ),xs[j]?=Z x->∃i,is[j]?=Z i/\LV X scope cl x i
 |[],[],_=>⟨rfl,λj x e=>by simp at e⟩
 |x::xs,i::is,h=>by
  obtain⟨h1,h2⟩:=h;obtain⟨l,g⟩:=Eb.get h2;refine⟨by simp[l],λj y e=>?_⟩;cases j with
  |zero=>simp at e;subst e;exact⟨i,rfl,h1⟩
  |succ j=>obtain⟨k,e1,e2⟩:=g j y (by simpa using e);exact⟨k,by simpa using e1,e2⟩
 |[],_::_,h=>h.elim
 |_::_,[],h=>h.elim
def GT(a:O (AJ×NameKind))(x:AJ):Bool:=match a.lookup x with
 |some .cell=>true
 |_=>false
def uT(X:Cx)(a:AZ)(scope:Scope)(cl:O (AJ×A1))(C:A1)(s₀:A2)(H₀:Hp)(fp:O A1):Cx:=
 { X with N:=a,s₀:=s₀,H₀:=H₀,env:=compEnvC scope (cellsFrom (C+1) scope.names cl) C X.env,outer:=X.stack,ex:=fp,fn:=GT scope.names,pn:=[],xe:=λ_ _=>False }
structure GL (h:Heap) (cs:List (Str×Addr)):Prop where
 inj:∀x y c,cs.lookup x=some c->cs.lookup y=some c->x=y
 cell:∀x c,cs.lookup x=some c->∃v,h.IsCell c v
theorem iT{n:AJ}{a:α}{l:O (AJ×α)}(h:x≠n):((n,a)::l).lookup x=l.lookup x:=by
 rw[ej,beq_eq_false_iff_ne.mpr h]
theorem Wo:∀(i:O (AJ×NameKind)) (h:A6) (d:O (AJ×A1)),GL h d->GL (pushCells h i) (cellsFrom h.objs.size i d)
 |[],_,_,x=>x
 |(n,k)::r,h,d,x=>by
  unfold pushCells cellsFrom;split
  ·have g:∀y c,d.lookup y=Z c->c≠h.objs.size:=λy c e=>let ⟨_,q⟩:=x.cell y c e;z5 q.lt;have:=Wo r (h.push { cls:=.type "cell",data:=.cell U }) ((n,h.objs.size)::d) ⟨λy z c e1 e2=>?_,λy c e=>?_⟩
   ·rwa [qr]at this
   ·by_cases a:y=n<;>by_cases f:z=n
    ·rw[a,f]
    ·subst a;rw[kP]at e1;rw[iT f]at e2;cases e1;exact absurd S (g _ _ e2)
    ·subst f;rw[kP]at e2;rw[iT a]at e1;cases e2;exact absurd S (g _ _ e1)
    ·rw[iT a]at e1;rw[iT f]at e2;exact x.inj y z c e1 e2
   ·by_cases a:y=n
    ·subst a;rw[kP]at e;cases e;exact⟨U,_,zt _ rfl,rfl⟩
    ·rw[iT a]at e;obtain⟨v,q⟩:=x.cell y c e;exact⟨v,q.keeps λb o e=>zh _ e⟩
  ·exact Wo r h d x
theorem ur:∀(b:O (AJ×NameKind)) (n:Nat) (a:O (AJ×A1)) (x:AJ) (c:A1),(cellsFrom n b a).lookup x=Z c->a.lookup x=Z c\/n<=c
 |[],_,_,_,_,e=>.inl e
 |(m,k)::r,n,a,x,c,e=>by
  unfold cellsFrom at e;split at e
  ·rcases ur r _ _ x c e with h|h
   ·by_cases hx:x=m
    ·subst hx;rw[kP]at h;cases h;exact .inr (zk _)
    ·rw[iT hx]at h;exact .inl h
   ·exact .inr ()
  ·exact ur r _ _ x c e
theorem Ig:∀(c:O (AJ×NameKind)) (n:Nat) (a:O (AJ×A1)) (x:AJ),(x,NameKind.cell)∉c->(cellsFrom n c a).lookup x=a.lookup x
 |[],_,_,_,_=>rfl
 |(m,k)::r,n,a,x,h=>by
  unfold cellsFrom;have b:(x,NameKind.cell)∉r:=λz=>h (zg _ z);split
  ·rename_i hk;rw[Ig r _ _ x b,iT λz=>h (by rw[z,<-beq_iff_eq.mp hk];exact ze ..)]
  ·exact Ig r _ _ x b
theorem Ou:∀(b:O (AJ×NameKind)) (n:Nat) (a:O (AJ×A1)) (x:AJ),((x,NameKind.cell)∈b\/∃c,a.lookup x=Z c)->∃c,(cellsFrom n b a).lookup x=Z c
 |[],_,_,_,h=>h.elim (λz=>by simp at z) λz=>z
 |(m,k)::r,n,a,x,h=>by
  unfold cellsFrom;split
  ·refine Ou r _ _ x ?_;by_cases hx:x=m
   ·exact .inr ⟨n,by rw[hx,kP]⟩
   ·rw[iT hx];exact h.imp_left λz=>(List.mem_cons.mp z).elim (λz=>absurd (congrArg Prod.fst z) hx) λz=>z
  ·rename_i hk;exact Ou r _ _ x (h.imp_left λz=>(List.mem_cons.mp z).elim (λz=>by cases z;exact absurd S hk) λz=>z)
theorem Ga{g:A1}{Q:Env->A2->Prop}(h:Q (newEnv scope s.heap.objs.size g (cellsFrom (s.heap.objs.size+1) scope.names cl) qual U .none (Z env) builtinsNs) { s with heap:=pushCells (s.heap.push { cls:=.type "dict",data:=.dict #[] }) scope.names }):
  A7 M A (newFunctionEnv scope g cl [] qual U .none (Z env)) Q E s:=by
 simp only[newFunctionEnv,dz,QY];refine zb (wpAny_alloc ?_);refine zb (wpAny_layCells _ (λname a b=>by cases a==NameKind.cell<;>simp) _ _ _ _ ?_);rw[show({ s with heap:=s.heap.push { cls:=.type "dict",data:=.dict #[] } }:A2).heap.objs.size=s.heap.objs.size+1 from qr ..];rw[List.forIn_nil];exact zb (zd (zd h))
structure oM (X:Cx) (scope:Scope) (cl:List (Str×Addr)) (xs:AZ) (is:List Nat):Prop where
 clos:closureFor scope X.env=pure cl
 kind:scope.kind=.function
 cell:∀y∈scope.names,y.2=.cell->cl.lookup y.1=none
 names:∀y∈scope.names,y.2=.local->scope.names.lookup y.1=some .local
 sub:C7 X.env.cells cl
 has:∀x,((relabel scope X.env).names.lookup x=some .cell\/(relabel scope X.env).names.lookup x=some .free)->(x,NameKind.cell)∈scope.names\/∃c,cl.lookup x=some c
 cap:Eb X scope cl xs is
def uQ(is:O Nat)(σ:L2.St):L2.St:=is.map λi=>(σ[i]?).bind λv=>v
def gW(is:O Nat)(ρ:Ev):Ev:=is.map λi=>xW ρ i
def Za(n m:Nat)(g:Dt->Ev->Y Ev):Prop:=∀d ρ a,g d ρ=Z a->a.length=ρ.length/\∀j,j<n\/m<=j->a[j]?=ρ[j]?
theorem dJ{m:Nat}(h:n<=i:=by decide)(h':i<m:=by decide):Za n m (λd ρ=>Z (ρ.set i (Z (.z d)))):=λd ρ a e=>by
 cases e;exact⟨by rw[qv],λj b=>pF _ ()⟩
def xZ(gt:Dt->Ev->Y Ev)(p:Ev->Y Bool)(fs:Ev->Y (O Dt))(ρ:Ev):O Dt->Y (O Dt)
 |[]=>Z []
 |d::ds=>(gt d ρ).bind λa=>(p a).bind λk=>if k=true then(fs a).bind λys=>(xZ gt p fs ρ ds).bind λzs=>Z (ys++zs)else xZ gt p fs ρ ds
def HR:Bx->Y (O Dt)
 |.z y=>Z [y]
 |_=>U
def yL(gt:Dt->Ev->Y Ev)(p:Ev->Y Bool)(fe:Ev->Y Bx)(ρ:Ev):O Dt->Y (O Dt):=xZ gt p (λρ=>(fe ρ).bind HR) ρ
theorem yd{b:Bx}{ys:O Dt}(h:HR b=Z ys):∃y,b=.z y/\ys=[y]:=by
 cases b<;>cases h;exact⟨_,rfl,rfl⟩
theorem uw{gt:Dt->Ev->Y Ev}{p:Ev->Y Bool}{fe:Ev->Y Bx}{ρ:Ev}:∀{ds out:O Dt},yL gt p fe ρ ds=Z out->out.length<=ds.length
 |[],_,e=>by cases e;exact zk _
 |d::ds,out,e=>by
  simp only[yL,xZ]at e;obtain⟨f,_,e⟩:=AT e;obtain⟨k,_,e⟩:=AT e;cases k with
  |false=>
   rw[zD Zl]at e;exact Zs (uw (gt:=gt) (p:=p) (fe:=fe) e) (by simp)
  |true=>
   rw[zl rfl]at e;obtain⟨ys,a,e⟩:=AT e;obtain⟨zs,c,e⟩:=AT e;obtain⟨b,_,a⟩:=AT a;obtain⟨y,_,rfl⟩:=yd a;cases e;simpa using uw (gt:=gt) (p:=p) (fe:=fe) c
def C3(X:Cx)(ifs:O Expr)(p:Ev->Y Bool):Prop:=(ifs=[]/\p=λ_=>Z true)\/∃c,ifs=[c]/\PB X c p
structure vD (X:Cx) (ifs:List Expr) (p:Ev->Option Bool):Prop where
 run:C3 X ifs p
section
variable{gt:Dt->Ev->Y Ev}{p:Ev->Y Bool}{fe:Ev->Y Bx}{fi:Ev->Y (O Dt)}
theorem Kg{p:Hp}{d:A2}(a:L2.AU X AN σ p d)(O:oM X scope cl xs is)(t:∀b∈fp,mD X AN p b)(B:∀b∈fp,b<d.heap.objs.size):
  L2.AU (uT X (xs++ts) scope cl d.heap.objs.size d p fp) [] (uQ is σ++ay ts.length U) p { d with heap:=pushCells (d.heap.push { cls:=.type "dict",data:=.dict #[] }) scope.names }:=by
 obtain⟨L,E⟩:=O.cap.get;have g:=O.sub;have P:(d.heap.push { cls:=.type "dict",data:=.dict #[] }).objs.size=d.heap.objs.size+1:=qr ..;have hk:∀b o,d.heap.get? b=Z o->(pushCells (d.heap.push { cls:=.type "dict",data:=.dict #[] }) scope.names).get? b=Z o:=λb o e=>pushCells_keeps _ _ b o (zh _ e);have C:GL (pushCells (d.heap.push { cls:=.type "dict",data:=.dict #[] }) scope.names) (cellsFrom (d.heap.objs.size+1) scope.names cl):=by
  rw[<-P];refine Wo _ _ _ ⟨λx y c e1 e2=>a.ok.inj x y c (g.get e1) (g.get e2),λx c e=>?_⟩;obtain⟨v,q⟩:=a.cell x c (g.get e);exact⟨v,q.keeps λb o e=>zh _ e⟩
 have A:∀x c,(cellsFrom (d.heap.objs.size+1) scope.names cl).lookup x=Z c->X.env.cells.lookup x=Z c\/d.heap.objs.size<c:=λx c e=>(ur _ _ _ x c e).imp_left g.get;refine⟨⟨a.ok.mod,O.kind,a.ok.glob,a.ok.blt,zk _,C.inj,λx hx=>Ou _ _ _ x (O.has x hx),λx c hx e=>?_,a.ok.hd,a.ok.frames,.inl rfl,λb f=>⟨z5 (B b f),λx c e=>?_⟩,a.bs,Zs a.ok.bsz a.sz,λb o e f=>?_,λb f W=>?_,a.stack,a.Q5,a.ok.tabs.go a.base.wg⟩,
  rfl,a.bare,Un.kept hk,⟨_,(Heap.Ns.new d.heap (.type "dict")).keeps (pushCells_keeps _ _),λj x v e1 e2 _=>?_⟩,C.cell,a.hok.fresh (zk _),λx c e=>(A x c e).elim (a.mC x c) λh=>a.hok.fresh (Q2 h),λq M=>absurd (show q∈([]:List (A1×AE)) from M) (by simp),a.hok.kept hk,?_⟩
 ·refine(ur _ _ _ x c e).elim (λh=>?_) λh=>Q2 h;have hx:(x,NameKind.cell)∈scope.names:=by
   have hx:GT scope.names x=true:=hx;unfold GT at hx;split at hx
   ·rename_i q;exact mem_of_lookup q
   ·cases hx
  rw[O.cell _ hx rfl]at h;cases h
 ·rcases A x c e with h|h
  ·exact(t b f).2.2.2.2.1 x c h
  ·exact k9 (yo (B b f) h)
 ·obtain⟨_,_,_,z,_⟩:=t b f;rcases z with z|z
  ·exact a.ok.Vs b o e z
  ·exact absurd (ZN (zI e) (Zs a.ok.bsz z)) (jb _)
 ·obtain⟨_,G,H,_⟩:=t b f;rcases List.mem_cons.mp (a.Ab b W)with z|z
  ·exact G z
  ·exact H z
 ·have D:j<is.length:=by
   by_cases D:j<is.length
   ·exact D
   ·rw[ZY (by simp[uQ];omega)]at e2;rw[QR]at e2;split at e2<;>cases e2
  have J:xs[j]?=Z x:=by
   have e1:(xs++ts)[j]?=Z x:=e1;rw[ZI ()]at e1;exact e1
  obtain⟨i,K,m⟩:=E j x J;have e3:σ[i]?=Z (Z v):=by
   rw[ZI (by simp[uQ];omega)]at e2;unfold uQ at e2;rw[zS,K]at e2;cases q:σ[i]? with
   |none=>rw[eK,q]at e2;cases e2
   |some o=>
    rw[eK,q]at e2;have:o=Z v:=by simpa using e2
    rw[this]
  have F:Q0 X.env.scope x:=by
   rcases m.k with k|k
   ·exact .inr (.inl k)
   ·exact .inr (.inr k)
  obtain⟨m',a3,N⟩:=a.loc;obtain⟨u,r,l⟩:=N i x v m.n e3 F;refine⟨u,r,?_⟩;rcases l with⟨k,_⟩|⟨k,c,Q,ic⟩
  ·rcases m.k with w|w<;>(rw[k]at w;cases w)
  ·obtain⟨c',s⟩:=m.c;have:=g.get s;rw[Q]at this;cases this;refine .inr ⟨m.k',c,(Ig _ _ _ x λz=>by rw[O.cell _ z rfl]at s;cases s).trans s,?_⟩;obtain⟨o,I,hd⟩:=ic;exact⟨o,hk c o I,hd⟩
 ·show(uQ is σ++ay ts.length U).length=(xs++ts).length;simp[uQ,L]
theorem aX.caps{ρ:Ev}(E:aX K H0 H σ ρ)(is:O Nat)(n:Nat):aX K H H (uQ is σ++ay n U) (gW is ρ++ay n U):=by
 have f:∀(j:Nat) c,(gW is ρ++ay n U)[j]?=Z (Z c)->pA c=false:=λj c e=>by
  by_cases g:j<is.length
  ·rw[ZI (by simp[gW];omega)]at e;unfold gW at e;rw[zS]at e;cases q:is[j]? with
   |none=>rw[q]at e;cases e
   |some i=>
    rw[q]at e;have:xW ρ i=Z c:=by simpa using e
    exact wD this
  ·rw[ZY (by simp[gW];omega),QR]at e;split at e<;>cases e
 refine⟨by simp[uQ,gW],λj b e=>?_,λj k c a b e d=>absurd d (by rw[f j c e];exact Zl),AV.refl H,λj c a e d=>absurd d (by rw[f j c e];exact Zl)⟩;by_cases g:j<is.length
 ·rw[ZI (by simp[gW];omega)]at e;rw[ZI (by simp[uQ];omega)];unfold gW at e;unfold uQ;rw[zS]at e ⊢;cases q:is[j]? with
  |none=>rw[q]at e;cases e
  |some i=>
   rw[q]at e;have:xW ρ i=Z b:=by simpa using e
   obtain⟨v,e1,r⟩:=J9 E this;exact⟨v,by simp[e1],r⟩
 ·rw[ZY (by simp[gW];omega),QR]at e;split at e<;>cases e
theorem aX.forget{ρ ρ':Ev}(E:aX K H0 H σ ρ')(l:ρ'.length=ρ.length)(h:∀(j:Nat) b,ρ[j]?=Z (Z b)->ρ'[j]?=Z (Z b)):aX K H0 H σ ρ:=
 ⟨E.len.trans l,λj b e=>E.val j b (h j b e),λi j c a b e1 d e2 e3 f g=>E.own i j c a b (h _ _ e1) d e2 (h _ _ e3) f g,E.base,λi c a e1 d e2=>E.new i c a (h _ _ e1) d e2⟩
structure Z4 (Hb:Hp) (σ:L2.St) (ρ:Ev) (n:Nat):Prop where
 own:∀(j:Nat) c,ρ[j]?=some (some c)->pA c=false
 lt:∀(j:Nat) b,ρ[j]?=some (some b)->j<n
 old:∀(j:Nat) c a,ρ[j]?=some (some c)->loose c=true->σ[j]?=some (some (.ref a))->Hb a≠none
def Fx(σ σ':L2.St)(ρ:Ev):Prop:=∀(j:Nat) c,loose c=true->ρ[j]?=Z (Z c)->σ'[j]?=σ[j]?
theorem Z4.fx{σ':L2.St}{ρ:Ev}(P:Z4 Hb σ ρ n)(f:Fx σ σ' ρ):Z4 Hb σ' ρ n:=⟨P.own,P.lt,λj c a e b ea=>P.old j c a e b (by rw[<-f j c b e];exact ea)⟩
theorem CO{ρ:Ev}(E:aX K H0 H σ ρ)(j:Nat)(c:Bx)(a:A1)(e:ρ[j]?=Z (Z c))(h:loose c=true)(ea:σ[j]?=Z (Z (.ref a))):H a≠U:=λz=>by
 obtain⟨v,e1,b⟩:=E.val j _ e;rw[ea]at e1;cases e1;cases c with
 |z d=>cases h
 |l g=>
  obtain⟨f,vs,e2,q,_⟩:=b;cases e2;rcases q with q|⟨o,q⟩<;>(rw[z]at q;cases q)
 |n g=>
  obtain⟨f,vs,e2,q,_⟩:=b;cases e2;rcases q with q|⟨o,q⟩<;>(rw[z]at q;cases q)
 |o g=>
  obtain⟨f,vs,e2,q,_⟩:=b;cases e2;rw[z]at q;cases q
 |m g _=>
  obtain⟨f,vs,e2,q,_⟩:=b;cases e2;rw[z]at q;cases q
theorem aX.grown{ρ:Ev}{o:HO}(E:aX K Hb H σ ρ)(P:Z4 Hb σ ρ n)(i:Hb D=U)(kp:Kp H (B4 H D o)):aX K Hb (B4 H D o) σ ρ:=by
 refine⟨E.len,λj b e=>?_,λj k c a b e h=>absurd h (by rw[P.own j c e];exact Zl),λc o e=>?_,λj c a e h=>absurd h (by rw[P.own j c e];exact Zl)⟩
 ·obtain⟨v,ev,s⟩:=E.val j b e;refine⟨v,ev,?_⟩;cases b with
  |z d=>exact AW.kp kp s
  |o p=>have:=P.own j _ e;cases this
  |m p _=>have:=P.own j _ e;cases this
  |n p=>
   obtain⟨a,vs,rfl,q,g⟩:=s;refine⟨a,vs,rfl,?_,g.kp kp⟩;have f:a≠D:=λz=>P.old j _ _ e S ev (by rw[z];exact i);exact q.imp (λq=>by rw[aD f];exact q) λ⟨o,q⟩=>⟨o,by rw[aD f];exact q⟩
  |l p=>
   obtain⟨a,vs,rfl,q,g⟩:=s;refine⟨a,vs,rfl,?_,g.kp kp⟩;have f:a≠D:=λz=>P.old j _ _ e S ev (by rw[z];exact i);exact q.imp (λq=>by rw[aD f];exact q) λ⟨o,q⟩=>⟨o,by rw[aD f];exact q⟩
 ·rw[aD (bK e i)];exact E.base c o e
def Ov(X:Cx)(el:A1->Env->Sem Unit)(fs:Ev->Y (O Dt))(Ac:A1->Hp->O Dt->HO->Prop)(N n:Nat):Prop:=∀(AN:O (A1×AE)) (s:A2) (σ:L2.St) (H Hb:Hp) (ρ:Ev) (D:A1) (o:HO) (a ys:O Dt),L2.AU X AN σ H s->aX X.K Hb H σ ρ->Z4 Hb σ ρ n->Hb D=U->fs ρ=Z ys->H D=Z o->Ac D H a o->a.length+ys.length<=N →
 A7 (bi X) X.A (el D X.env) (λ_ s'=>∃ σ' H' o',L2.AU X AN σ' H' s'/\aX X.K Hb H' σ' ρ/\Fx σ σ' ρ/\H' D=Z o'/\Ac D H' (a++ys) o') X.xe s
theorem Wq{fs:Ev->Y (O Dt)}{Ac:A1->Hp->O Dt->HO->Prop}{N:Nat}(h:∀(AN:O (A1×AE)) (s:A2) (σ:L2.St) (H Hb:Hp) (ρ:Ev) (D:A1) (o:HO) (b ys:O Dt),L2.AU X AN σ H s->aX X.K Hb H σ ρ->fs ρ=Z ys->H D=Z o->Ac D H b o->b.length+ys.length<=N →
  A7 (bi X) X.A (el D X.env) (λ_ s'=>∃a o',L2.AU X AN σ (B4 a D o') s'/\AV H a/\Kp a (B4 a D o')/\Ac D (B4 a D o') (b++ys) o') X.xe s):Ov X el fs Ac N n:=λAN s σ H Hb ρ D o b ys I E P c e1 e2 a1 l=>by
 refine Z3 (h AN s σ H Hb ρ D o b ys I E e1 e2 a1 l) (λ_ s' ⟨a,o',I',s9,kp,a'⟩=>?_) λ_ _ z=>z;exact⟨σ,_,o',I',(E.grow s9).grown P c kp,λ_ _ _ _=>S,aJ,a'⟩
structure Ro (B:Around->Bool->Prop) (P:Program) (w:World) (K:Au) (tg:Expr) (J:It) (fp:List Addr) (it:Addr) (tn:Nat->Heap->Prop):Prop where
 obj:∀i h,tn i h->∀b∈fp,∃o,h.get? b=some o/\∀v,o.data≠.cell v
 keep:∀i h h',tn i h->(∀b∈fp,∀o,h.get? b=some o->h'.get? b=some o)->tn i h'
 item:∀(X:Cx),X.prog=P->X.w=w->X.K=K->B X.A X.calm->∀(i:Nat) (AN:List (Addr×Obj)) (s:Shared) (σ:L2.St) (H:Hp) (E:B7),L2.AU X AN σ H s->(∀b∈fp,mD X AN H b)->tn i s.heap->J.go i H →
  wpAny (model P w) X.A (pyNext (.ref it)) (λr s1=>∃u,r=some u ∧
   wpAny (model P w) X.A (letOwnedTupleGo tg (.ref it) u) (λ_ s2=>∃x H',L2.AU X AN σ H' s2/\At x u/\J.yld i H x H'/\tn (i+1) s2.heap/\∀b∈fp,H' b=none) E s1) E s
 done:∀(X:Cx),X.prog=P->X.w=w->X.K=K->B X.A X.calm->∀(i:Nat) (AN:List (Addr×Obj)) (s:Shared) (σ:L2.St) (H:Hp) (E:B7),L2.AU X AN σ H s->(∀b∈fp,mD X AN H b)->tn i s.heap->J.stop i H →
  wpAny (model P w) X.A (pyNext (.ref it)) (λr s1=>r=none/\L2.AU X AN σ H s1) E s
 self:∀(A:Around) (i:Nat) (s:Shared) (Q:B7) (E:B7),tn i s.heap->Q (.ref it) s->wpAny (model P w) A (pyIter (.ref it)) Q E s
abbrev Av:A5->Bool->Prop:=λ_ c=>c=true
theorem Gb(T:C5 P w K tg J fp it tn):Ro Av P w K tg J fp it tn:=⟨T.obj,T.keep,T.item,T.done,T.self⟩
theorem Gd{d:Nat}{d2:Pos}{Ac:A1->Hp->O Dt->HO->Prop}{fs:Ev->Option (O Dt)}{N m:Nat}{ds o0 out:O Dt}{o:HO}{ρ:Ev}{R:Result->A2->Prop}(c3:B X.A X.calm)(hx:X.xe=λ_ _=>False)(Ge:EQ X tgt gt)(f0:C3 X ifs p)(e6:Ov X el fs Ac N m)(d4:Za n m gt)(e7:n<=m)(I:L2.AU X AN σ H s)(E:aX X.K Hb H σ ρ)(P:Z4 Hb σ ρ n)(hD:Hb D=U)(d6:H D=Z o)(hA:Ac D H o0 o)(T:Ro B X.prog X.w X.K tgt J fp it tn)(st:tn 0 s.heap)(hf:∀b∈fp,mD X AN H b)(Y:B0 X.K J ds Hb)(e2:xZ gt p fs ρ ds=Z out)(hN:o0.length+out.length<=N)(b8:∀{D:A1} {H H':Hp} {y:O Dt} {o:HO},Kp H H'->Ac D H y o->Ac D H' y o)(d1:∀(it:A0) (D:A1) (env:Env),compTurn comp d it (.ref D) env=(standAt d2 >>= λ_=>pyNext it >>= λr=>match r with
   |none=>pure (.done .next)
   |some v=>letOwnedTupleGo tgt it v >>= λ_=>assign tgt env v >>= λ_=>(forIn ifs true λc r=>if r=true then isTrue c env (eval c env) >>= λok=>pure (ForInStep.yield ok)else pure (ForInStep.yield r)) >>= λok=>if ok=true then el D env >>= λ_=>again (.compLoop comp d it (.ref D) env)else again (.compLoop comp d it (.ref D) env)))(d3:∀{it b9:A0} {env:Env} {Q:Fin->A2->Prop} {E:B7} {s:A2},A7 (bi X) X.A ((compTurn comp d it b9 env).onRaise (λx=>noteFrame x env >>= λ_=>theTreesLotGoes x)) Q E s->A7 (bi X) (X.A.under (.compLoop comp d it b9 env)) ((bi X).den (.compLoop comp d it b9 env)) Q E s)(hR:∀s' σ' H' o',L2.AU X AN σ' H' s'->aX X.K Hb H' σ' ρ->Fx σ σ' ρ->H' D=Z o'->Ac D H' (o0++out) o'->R (.ok .next) s'):
  AF (bi X) X.A (.compLoop comp d (.ref it) (.ref D) X.env) R s:=by
 have Wr:∀{H':Hp},(∀b∈fp,H' b=U)->∀b∈fp,mD X AN H' b:=λ{H'} hn b q=>⟨hn b q,(hf b q).2⟩;refine codeAny_loop S (λk s'=>∃(i:Nat) (σ':L2.St) (H':Hp) (y o2:O Dt) (o:HO),k=ds.length-i/\i<=ds.length/\L2.AU X AN σ' H' s'/\tn i s'.heap/\(∀b∈fp,H' b=U)/\aX X.K Hb H' σ' ρ/\Fx σ σ' ρ/\H' D=Z o/\Ac D H' y o/\xZ gt p fs ρ (ds.drop i)=Z o2/\y++o2=o0++out) ?_ ds.length
  ⟨0,σ,H,o0,out,o,by simp,qh _,I,st,λb q=>(hf b q).1,E,λ_ _ _ _=>S,d6,hA,by simpa using e2,rfl⟩
 rintro k s4 ⟨i,b0,H4,y,o2,o,rfl,hi,I4,c6,c4,E4,F4,a3,r4,g,W⟩;have P4:=P.fx F4;refine d3 (wpAny_noted ?_);rw[d1];obtain⟨y1,y2⟩:=Y i H4 E4.base;by_cases b6:i<ds.length
 ·have hd:ds[i]?=Z ds[i]:=by simp[b6]
  obtain⟨go,yl⟩:=y1 _ hd;rw[y3 b6]at g;simp only[xZ]at g;obtain⟨t,e1,g⟩:=AT g;obtain⟨k,ek,g⟩:=AT g;obtain⟨e0,b7⟩:=d4 _ _ _ e1;have c5:∀{b4:L2.St} {H5:Hp},aX X.K Hb H5 b4 t->aX X.K Hb H5 b4 ρ:=λE5=>E5.forget e0 λj b e=>by rw[b7 j (.inl (P.lt j b e))];exact e
  refine zb (kK (zb ?_));refine fX (T.item X S S S c3 i AN s4 b0 H4 _ I4 (Wr c4) c6 go) λr s5 ⟨u,hr,h5⟩=>?_;subst hr;refine zb (fX h5 λ_ s6 ⟨x,H6,I6,r6,y6,Z5,fr6⟩=>?_);obtain⟨sm,rx⟩:=yl x H6 y6;have E4:=E4.grow sm;have a3:=sm _ _ a3;have r4:=b8 (.of sm) r4;have f3:=I6.pinned (Wr fr6) (T.obj _ _ Z5);have ha:=Ge _ s6 b0 H6 x u (λσ' H'=>H'=H6/\aX X.K Hb H6 σ' t/\Lo b0 ρ σ' t) f3 r6 ⟨Hb,ρ,ds[i],t,E4,rx,e1,λσ' E' L'=>⟨rfl,E',L'⟩⟩;rw[hx]at ha;refine zb (Z3 ha (λ_ s7 h7=>?_) λ_ _ z=>z.elim);obtain⟨F,H7,I7,rfl,E7,L7⟩:=h7;have P7:Z4 Hb F t m:=by
   refine⟨λj c e=>?_,λj c e=>?_,λj c a e C ea=>?_⟩
   ·cases c with
    |o ds=>exact P.own j _ (L7 j _ S e).1
    |m ds _=>exact P.own j _ (L7 j _ S e).1
    |_=>rfl
   ·refine Nat.lt_of_not_le λh=>?_;rw[b7 j (.inr h)]at e;exact absurd (ZN (P.lt j c e) e7) (fA.mpr h)
   ·obtain⟨e',ee⟩:=L7 j c C e;exact P4.old j c a e' C (by rw[<-ee];exact ea)
  have c8:∀{b4:L2.St},Fx F b4 t->Fx σ b4 ρ:=λf j c C e=>by
   have e':t[j]?=Z (Z c):=by rw[b7 j (.inl (P.lt j c e))];exact e
   exact(f j c C e').trans ((L7 j c C e').2.trans (F4 j c C e))
  have ht:A7 (bi X) X.A (forIn ifs true λc r=>if r=true then do let ok <-isTrue c X.env (eval c X.env);pure (ForInStep.yield ok)else pure (ForInStep.yield r))
    (λok G=>ok=k/\∃l,L2.AU X (AN++rR fp s6.heap) F l G/\AV H7 l) (notedBy (bi X) X.A X.env λe s'=>R (.error e) s') s7:=by
   rcases f0 with⟨rfl,rfl⟩|⟨c,rfl,hc⟩
   ·cases ek;exact wpAny_tests_nil ⟨rfl,H7,I7,AV.refl H7⟩
   ·refine wpAny_tests_one ?_;have:=hc _ s7 F H7 (λb l=>b=k/\AV H7 l) I7 ⟨Hb,t,k,E7,ek,λl G=>⟨rfl,G⟩⟩;rw[hx]at this;exact Z3 this (λb G ⟨l,I8,eb,s8'⟩=>⟨eb,l,I8,s8'⟩) λ_ _ z=>z.elim
  refine zb (Z3 ht (λok G h8=>?_) λ_ _ z=>z);obtain⟨rfl,l,I8,M⟩:=h8;have Aw:∀{b5:L2.St} {L:Hp} {s9:A2},L2.AU X (AN++rR fp s6.heap) b5 L s9->L2.AU X AN b5 L s9/\tn (i+1) s9.heap/\∀b∈fp,L b=U:=λ{b5 L s9} I9=>by
   refine⟨I9.oZ,T.keep _ _ _ Z5 λb q o e=>(I9.pin (b,o) (ZA _ (ZA _ (ju q e)))).1,λb q=>?_⟩;obtain⟨o,e,d⟩:=T.obj _ _ Z5 b q;exact(I9.pin (b,o) (ZA _ (ZA _ (ju q e)))).2.1
  cases ok with
  |false=>
   rw[zD Zl]at g;obtain⟨I9,f1,d5⟩:=Aw I8;exact zd ⟨rfl,ds.length-(i+1),by omega,i+1,F,l,y,o2,o,rfl,b6,I9,f1,d5,c5 (E7.grow M),c8 (λ_ _ _ _=>S),M _ _ a3,b8 (.of M) r4,g,W⟩
  |true=>
   rw[zl rfl]at g;obtain⟨ys,eb,g⟩:=AT g;obtain⟨zs,e5,g⟩:=AT g;cases g;have C:=congrArg dr W;simp only[zC]at C;have he:=e6 _ G F l Hb t D o y ys I8 (E7.grow M) P7 hD eb (M _ _ a3) (b8 (.of M) r4) ();rw[hx]at he;refine zb (Z3 he (λ_ f4 e8=>?_) λ_ _ z=>z.elim);obtain⟨b5,L,o',Z6,E9,F9,f2,a5⟩:=e8;obtain⟨e3,e9,d0⟩:=Aw Z6;exact zd ⟨rfl,ds.length-(i+1),by omega,i+1,b5,L,y++ys,zs,o',rfl,b6,e3,e9,d0,c5 E9,c8 F9,f2,a5,e5,by rw[ZO];exact W⟩
 ·have c9:ds.length<=i:=by omega
  rw[cK c9]at g;cases g;refine zb (kK (zb ?_));refine fX (T.done X S S S c3 i AN s4 b0 H4 _ I4 (Wr c4) c6 (y2 c9)) λr s5 ⟨hr,I5⟩=>?_;subst hr;rw[QE]at W;exact zd (hR s5 b0 H4 o I5 E4 F4 a3 (by rw[<-W];exact r4))
theorem T3{R:Result->A2->Prop}{d:Nat}{g:Expr}{it a:A0}(j:(clausesOf e)[d]?=Z ⟨g,iter,ifs,0⟩)(i:∀{Q:Fin->A2->Prop} {E:B7},A7 (A8 prog w) A ((compStart e d it a env).onRaise (λx=>do noteFrame x env;standAt theWindowsPlace)) Q E s->A7 (A8 prog w) (A.under (.compStart e d it a env)) ((A8 prog w).den (.compStart e d it a env)) Q E s)(c:Code.quiet (.compLoop e d it a env)=true:=by rfl)(f:AF (A8 prog w) A (.compLoop e d it a env) R s)(h:A7 (A8 prog w) A (pyIter it) (λb s'=>AF (A8 prog w) A (.compLoop e d b a env) R s') (notedBy (A8 prog w) A env λx s'=>R (.error x) s') s):
  AF (A8 prog w) A (.compStart e d it a env) R s:=by
 refine codeAny_of_tree (i ?_);refine wpAny_notedAt ?_;unfold compStart;rw[j];show A7 _ _ (ask >>= _) _ _ s;refine zb (KU (wpAny_ite ?_));split
 ·exact zd (And.intro c f)
 ·refine zb (kg ?_);show A7 _ _ (standAt iter.pos >>= _) _ _ s;exact zb (kK (zb (Z3 h (λb s' h'=>zd (And.intro c h')) λ_ _ x=>x)))
def pI(H:Hp)(D:A1):Hp:=λb=>if b=D then U else H b
theorem je{b:A1}(h:b≠D):pI H D b=H b:=zD h
theorem qg:AV (pI H D) H:=λb o e=>by
 by_cases h:b=D
 ·rw[pI,zl h]at e;cases e
 ·rw[je h]at e;exact e
theorem aX.onto{b:Hp}{ρ:Ev}(E:aX K Hb H σ ρ)(P:∀(j:Nat) c,ρ[j]?=Z (Z c)->pA c=false)(s:AV b H):aX K b H σ ρ:=
 ⟨E.len,E.val,E.own,s,λj c a e d=>absurd d (by rw[P j c e];exact Zl)⟩
def EN(fi:Ev->Y (O Dt))(gt:Dt->Ev->Y Ev)(p:Ev->Y Bool)(fs:Ev->Y (O Dt)):Ev->Y (O Dt):=λρ=>(fi ρ).bind λds=>xZ gt p fs ρ ds
theorem Ws{d:Nat}{Ac:A1->Hp->O Dt->HO->Prop}{fs:Ev->Option (O Dt)}{N m:Nat}(b5:X.calm=true)(hx:X.xe=λ_ _=>False)(hi:LX X tgt iter fi)(Ge:EQ X tgt gt)(a5:C3 X ifs p)(b0:Ov X el fs Ac N m)(a3:Za n m gt)(b9:n<=m)(F:∀{D:A1} {H H':Hp} {g:O Dt} {o:HO},Kp H H'->Ac D H g o->Ac D H' g o)(W:∀{D:A1} {H:Hp} {g:O Dt} {o:HO},Ac D H g o->(∀L u,o≠.gF L u)/\∀vs,o≠.tup vs)(hs:∀x,foldedSetIterable iter X.env x=pure x)(b4:∀(it:A0) (D:A1) (env:Env),compTurn comp d it (.ref D) env=(standAt iter.pos >>= λ_=>pyNext it >>= λr=>match r with
   |none=>pure (.done .next)
   |some v=>letOwnedTupleGo tgt it v >>= λ_=>assign tgt env v >>= λ_=>(forIn ifs true λc r=>if r=true then isTrue c env (eval c env) >>= λok=>pure (ForInStep.yield ok)else pure (ForInStep.yield r)) >>= λok=>if ok=true then el D env >>= λ_=>again (.compLoop comp d it (.ref D) env)else again (.compLoop comp d it (.ref D) env)))(c4:∀{it f:A0} {env:Env} {R:Result->A2->Prop} {s:A2},AF (bi X) X.A (.compLoop comp d it f env) R s->A7 (bi X) X.A (pyIter it) (λb8 s'=>AF (bi X) X.A (.compLoop comp d b8 f env) R s') (notedBy (bi X) X.A env λx s'=>R (.error x) s') s->AF (bi X) X.A (.compStart comp d it f env) R s)(b6:∀{it f:A0} {env:Env} {Q:Fin->A2->Prop} {E:B7} {s:A2},A7 (bi X) X.A ((compTurn comp d it f env).onRaise (λx=>noteFrame x env >>= λ_=>theTreesLotGoes x)) Q E s->A7 (bi X) (X.A.under (.compLoop comp d it f env)) ((bi X).den (.compLoop comp d it f env)) Q E s):
  Ov X (λD env=>do let x <-eval iter env;standAt iter.pos;let x <-foldedSetIterable iter env x;let _ <-runOwn (.compStart comp d (<-holding [x] (pyIter x)) (.ref D) env) env) (EN fi gt p fs) Ac N n:=by
 intro AN s σ H Hb ρ D o g ys I E P hD e M l t;obtain⟨ds,ed,e⟩:=AT e;refine zb (Z3 (hi AN s σ H (λJ H'=>AV H H'/\∀Hs,AV Hs H'->(∀a,H a=U->Hs a=H' a)->(∀a o u,H' a=Z (.gF o u)->Hs a=H' a)->(∀a vs,H' a=Z (.tup vs)->Hs a=H' a)->B0 X.K J ds Hs) I ⟨Hb,ρ,ds,E,ed,λJ H' s' y=>⟨s',y⟩⟩) (λv s1 h1=>?_) λ_ _ z=>z);refine zb (kK (zb (wpAny_of_eq (hs v) (zb (qB (Z3 h1 (λc5 s2 h2=>?_) λ_ _ z=>z))))));obtain⟨it,fp,tn,J,H2,rfl,I2,T,st,hf,i,Y⟩:=h2;have q:=i _ _ M;have c3:=F (.of i) l;have Yb:B0 X.K J ds (pI H2 D):=Y _ qg (λa b=>je λz=>by rw[z,M]at b;cases b) (λa L u b=>je λz=>by rw[z,q]at b;cases b;exact(W l).1 _ _ S) λa vs b=>je λz=>by rw[z,q]at b;cases b;exact(W l).2 _ rfl
 have C:AV Hb (pI H2 D):=λa u ea=>by rw[je (bK ea hD)];exact i _ _ (E.base _ _ ea)
 have E2:aX X.K (pI H2 D) H2 σ ρ:=(E.grow i).onto P.own qg;have P2:Z4 (pI H2 D) σ ρ n:=⟨P.own,P.lt,λj c a ec t ea z=>P.old j c a ec t ea (C.free z)⟩;have lp:∀{R:Result->A2->Prop},(∀s' σ' H' o',L2.AU X AN σ' H' s'->aX X.K (pI H2 D) H' σ' ρ->Fx σ σ' ρ->H' D=Z o'->Ac D H' (g++ys) o'->R (.ok .next) s')->AF (bi X) X.A (.compStart comp d (.ref it) (.ref D) X.env) R s2:=λhR=>
  have h:=Gd (B:=Av) b5 hx Ge a5 b0 a3 b9 I2 E2 P2 (zl S) q c3 (Gb T) st hf Yb e t F b4 b6 hR
  c4 h (T.self _ 0 _ _ _ st h)
 exact zb (wpAny_runOwn (lp λs' σ' H' o' I' G F' b7 a'=>zd ⟨σ',H',o',I',G.onto P.own (C.trans G.base),F',b7,a'⟩))
theorem yg{mk:Sem A0}{o0:AE}{O0:HO}{Ac:A1->Hp->List Dt->HO->Prop}{fs:Ev->Option (List Dt)}{N m:Nat}{H2:Hp}{a:A2}{ds out:List Dt}{ρ:Ev}(O:oM X scope cl xs is)(b8:B X.A X.calm)(Ge:∀C t n fp,EQ (uT X (xs++ts) scope cl C t n fp) tgt gt)(b5:∀C t n fp,C3 (uT X (xs++ts) scope cl C t n fp) ifs p)(d6:∀C t n fp,Ov (uT X (xs++ts) scope cl C t n fp) el fs Ac N m)(b4:Za is.length m gt)(c5:is.length<=m)(I2:L2.AU X AN σ H2 a)(Ec:aX X.K H2 H2 (uQ is σ++ay ts.length U) (gW is ρ++ay ts.length U))(T:Ro B X.prog X.w X.K tgt J fp it tn)(st:tn 0 a.heap)(L:∀b∈fp,mD X AN H2 b)(Y:B0 X.K J ds H2)(d4:xZ gt p fs (gW is ρ++ay ts.length U) ds=Z out)(d3:out.length<=N)(c4:∀(D C:A1) (s':A2) (H':Hp) (o:HO),H2 D=U->L2.AU X AN σ H' s'->mD X AN H' C->(∃m,s'.heap.Ns C m)->AV H2 H'->H' D=Z o->Ac D H' out o->RR (.ref D) C (.ok .next) s')(c6:∀{Q:B7},Q (.ref a.heap.objs.size) { a with heap:=a.heap.push o0 }->A7 (bi X) X.A mk Q E a)(d2:∀H,eV X.prog X.w H (a.heap.push o0) a.heap.objs.size O0)(d5:∀H,Ac a.heap.objs.size H [] O0)(d0:∀{D:A1} {H H':Hp} {o1:List Dt} {o:HO},Kp H H'->Ac D H o1 o->Ac D H' o1 o)(b7:∀(it:A0) (D:A1) (env:Env),compTurn comp 0 it (.ref D) env=(standAt iter.pos >>= λ_=>pyNext it >>= λr=>match r with
   |none=>pure (.done .next)
   |some v=>letOwnedTupleGo tgt it v >>= λ_=>assign tgt env v >>= λ_=>(forIn ifs true λc r=>if r=true then isTrue c env (eval c env) >>= λok=>pure (ForInStep.yield ok)else pure (ForInStep.yield r)) >>= λok=>if ok=true then el D env >>= λ_=>again (.compLoop comp 0 it (.ref D) env)else again (.compLoop comp 0 it (.ref D) env)))(e1:∀{it f:A0} {env:Env} {R:Result->A2->Prop} {s:A2},AF (bi X) X.A (.compLoop comp 0 it f env) R s->A7 (bi X) X.A (pyIter it) (λc3 s'=>AF (bi X) X.A (.compLoop comp 0 c3 f env) R s') (notedBy (bi X) X.A env λx s'=>R (.error x) s') s->AF (bi X) X.A (.compStart comp 0 it f env) R s)(b9:∀{it f:A0} {env:Env} {Q:Fin->A2->Prop} {E:B7} {s:A2},A7 (bi X) X.A ((compTurn comp 0 it f env).onRaise (λx=>noteFrame x env >>= λ_=>theTreesLotGoes x)) Q E s->A7 (bi X) (X.A.under (.compLoop comp 0 it f env)) ((bi X).den (.compLoop comp 0 it f env)) Q E s):
  A7 (bi X) X.A mk (λf c8=>A7 (bi X) X.A (newFunctionEnv scope X.env.globals cl [] X.env.qual U .none (Z X.env)) (λa3 e0=>
   AF (bi X) X.A (.compStart comp 0 (.ref it) f { a3 with scope:=relabel scope X.env }) (RR f a3.locals) e0) E c8) E a:=by
 refine c6 (Ga ?_);have G:H2 a.heap.objs.size=U:=I2.hok.fresh (zk _);have u:L2.AU X AN σ (B4 H2 a.heap.objs.size O0) { a with heap:=a.heap.push o0 }:=
  I2.laid (t':=a.toks) (λb o e=>zh _ e) (zk _) (d2 _)
 have W:∀b∈fp,b<a.heap.objs.size:=λb d=>let ⟨o,e,_⟩:=T.obj 0 _ st b d;zI e;have I:∀b∈fp,mD X AN (B4 H2 a.heap.objs.size O0) b:=λb d=>⟨by rw[aD (z5 (W b d))];exact(L b d).1,(L b d).2⟩;have b0:tn 0 (a.heap.push o0):=T.keep 0 _ _ st λb d o e=>zh _ e;have y:∀b∈fp,b<(a.heap.push o0).objs.size:=λb d=>by rw[qr];exact Qr (W b d)
 generalize b6:({ a with heap:=a.heap.push o0 }:A2)=s3 at *
 have c9:s3.heap=a.heap.push o0:=by rw[<-b6]
 rw[<-c9]at b0 y;have IC:=Kg (ts:=ts) u O I y;have M:tn 0 (pushCells (s3.heap.push { cls:=.type "dict",data:=.dict #[] }) scope.names):=T.keep 0 _ _ b0 λb d o e=>pushCells_keeps _ _ b o (zh _ e);have Wr:∀b∈fp,mD (uT X (xs++ts) scope cl s3.heap.objs.size s3 (B4 H2 a.heap.objs.size O0) fp) [] (B4 H2 a.heap.objs.size O0) b:=λb d=>by
  obtain⟨f0,f1,f2,f3,F,f5⟩:=I b d;refine⟨f0,z5 (y b d),λz=>?_,.inl d,λx c e z=>?_,λq hq=>absurd (show q∈([]:List (A1×AE)) from hq) (by simp)⟩
  ·rcases List.mem_cons.mp (u.Ab b z)with q|q
   ·exact f1 q
   ·exact f2 q
  ·rcases ur _ _ _ x c e with h|h
   ·exact F x c (O.sub.get h) z
   ·rw[z]at h;exact absurd (ZN (y b d) (eg h)) (jb _)
 have P0:Z4 H2 (uQ is σ++ay ts.length U) (gW is ρ++ay ts.length U) is.length:=by
  have g:∀(j:Nat) c,(gW is ρ++ay ts.length U)[j]?=Z (Z c)->j<is.length/\pA c=false:=λj c e=>by
   by_cases hj:j<is.length
   ·refine⟨hj,?_⟩;rw[ZI (by simp[gW];omega)]at e;unfold gW at e;rw[zS]at e;cases q:is[j]? with
    |none=>rw[q]at e;cases e
    |some i=>rw[q]at e;exact wD (by simpa using e)
   ·rw[ZY (by simp[gW];omega),QR]at e;split at e<;>cases e
  exact⟨λj c e=>(g j c e).2,λj c e=>(g j c e).1,CO Ec⟩
 have h:=Gd (B:=B) (X:=uT X (xs++ts) scope cl s3.heap.objs.size s3 (B4 H2 a.heap.objs.size O0) fp) (R:=RR (.ref a.heap.objs.size) s3.heap.objs.size) (o0:=[]) b8 S (Ge _ _ _ _) (b5 _ _ _ _) (d6 _ _ _ _) b4 c5 IC (Ec.grow (bw G)) P0 G aJ (d5 _) T M Wr Y d4 (by simpa using d3) d0 b7 b9 λs5 e2 P o5 l E5 _ d1 a5=>by
  have IB:L2.AU X AN σ P s5:=u.call' (ch:=fp) l.os l.base l.hok l.bare λb d=>by
   obtain⟨f0,f1,f2,f3,F,f5⟩:=I b d;exact⟨f3,f1,F,f5⟩
  obtain⟨m,hn,_⟩:=l.loc;exact c4 _ _ s5 P o5 G IB (u.N7 (zk _) l.free) ⟨m,hn⟩ E5.base d1 a5
 exact e1 h (T.self _ 0 _ _ _ M h)
def Vm(K:Au)(_:A1)(H:Hp)(a:O Dt)(o:HO):Prop:=∃us,o=.lst us/\aG K H a us
theorem Vm.kp{K:Au}{D:A1}{H H':Hp}{a:O Dt}{o:HO}(k:Kp H H'):Vm K D H a o->Vm K D H' a o:=λ⟨us,e,r⟩=>⟨us,e,r.kp k⟩
def Wu(fe:Ev->Y Bx):Ev->Y (O Dt):=λρ=>(fe ρ).bind HR
theorem Rp(h:PV X elt fe):Ov X (λD env=>do let _ <-call (.builtin "list.append") [.ref D,<-eval elt env]) (Wu fe) (Vm X.K) 100000 n:=by
 refine Wq λAN s σ H Hb ρ D o o1 ys I En g hD ⟨us,e,r4⟩ hl=>?_;subst e;obtain⟨b,eb,g⟩:=AT g;obtain⟨y,rfl,rfl⟩:=yd g;refine zb (Z3 (h AN s σ H (λv a=>AV H a/\AW X.K a y v) I ⟨Hb,ρ,_,En,eb,λv a d _ i=>⟨d,i⟩⟩) (λv d q=>?_) λ_ _ z=>z);obtain⟨c,a,m,t,f,i⟩:=q;have j:=f _ _ hD;refine zb (Z3 ((lY (X:=X)) _ d σ a (.ref D) [c] (.ref D) [v] (λw l=>l=B4 a D (.lst (us++[c]))) m S (.cons t .nil) ⟨_,us,c,rfl,rfl,j,by rw[r4.length];have x:(100000:Nat)<AA:=();simp at hl;omega,rfl⟩) (λw A p=>?_) λ_ _ z=>z);obtain⟨B,l,u,_,rfl⟩:=p;have kp:Kp a (B4 a D (.lst (us++[c]))):=.lst j;exact zd ⟨a,_,u,f,kp,us++[c],rfl,((r4.kp (.of f)).append (aG.cons i aG.nil)).kp kp⟩
theorem Ax{H2:Hp}{l:A2}{ds out:List Dt}{ρ:Ev}(O:oM X scope cl xs is)(L:B X.A X.calm)(M:∀C j i fp,EQ (uT X (xs++ts) scope cl C j i fp) tgt gt)(v:∀C j i fp,C3 (uT X (xs++ts) scope cl C j i fp) ifs p)(y:∀C j i fp,PV (uT X (xs++ts) scope cl C j i fp) elt fe)(t:Za is.length (is.length+ts.length) gt)(F:L2.AU X AN σ H2 l)(H:aX X.K H2 H2 (uQ is σ++ay ts.length U) (gW is ρ++ay ts.length U))(T:Ro B X.prog X.w X.K tgt J fp it tn)(st:tn 0 l.heap)(x:∀b∈fp,mD X AN H2 b)(Y:B0 X.K J ds H2)(u:ds.length<=100000)(n:yL gt p fe (gW is ρ++ay ts.length U) ds=Z out)(z:∀(D C:A1) (s':A2) (H':Hp) (us:List V),H2 D=U->L2.AU X AN σ H' s'->mD X AN H' C->(∃m,s'.heap.Ns C m)->AV H2 H'->H' D=Z (.lst us)->aG X.K H' out us->RR (.ref D) C (.ok .next) s'):
  A7 (bi X) X.A (newList []) (λq I=>A7 (bi X) X.A (newFunctionEnv scope X.env.globals cl [] X.env.qual U .none (Z X.env)) (λs G=>
   AF (bi X) X.A (.compStart (.ListComp elt [⟨tgt,iter,ifs,0⟩] scope pos) 0 (.ref it) q { s with scope:=relabel scope X.env }) (RR q s.locals) G) E I) E l:=
 yg (B:=B) (Ac:=Vm X.K) (O0:=.lst []) (N:=100000) O L M v (λC j i fp=>Rp (y C j i fp)) t (Nat.le_add_right ..) F H T st x Y n (Zs (uw n) u) (λD C s' H' o a b c d e f g=>by obtain⟨us,rfl,r⟩:=g;exact z D C s' H' us a b c d e f r)
  qV (λ_=>⟨qh _,[],0,.nil,zt _ rfl⟩) (λ_=>⟨[],rfl,aG.nil⟩) Vm.kp (λ_ _ _=>S) codeAny_compStart_list λh=>h
end
def iC(K:Au)(f:Ev->Y (O Dt)):TI:=λσ H R=>∃H0 ρ ds,aX K H0 H σ ρ/\f ρ=Z ds/\∀J H',AV H H'->B0 K J ds H'->R J H'
def Y'(X:Cx)(tg iter:Expr)(f:Ev->Y (O Dt)):Prop:=PI X tg iter (iC X.K f)
structure EF (X:Cx) (tg iter:Expr) (f:Ev->Option (List Dt)):Prop where
 run:Y' X tg iter f
def Z7:Bx->Y (O Dt)
 |.z (.lst ds)=>Z ds
 |.z (.tup ds)=>Z ds
 |.z (.str x)=>Z (C0 x)
 |.o ds=>Z ds
 |.l ds=>Z ds
 |_=>U
section
variable{f:Ev->Y Bx}{fs:Ev->Y (O Bx)}{gt:Dt->Ev->Y Ev}{p:Ev->Y Bool}{fe:Ev->Y Bx}{fi:Ev->Y (O Dt)}
theorem Wv(h:Do X tgt iter fi):EF X tgt iter fi:=⟨have h:=h.run;λAN s σ H R I q=>by
 obtain⟨H0,ρ,ds,E,e,q⟩:=q;exact h AN s σ H R I ⟨H0,ρ,ds,E,e,λJ H' s' y=>q J H' s' (y H' (AV.refl H') (λ_ _=>S) (λ_ _ _ _=>S) λ_ _ _=>S)⟩⟩
theorem gK(h:QV X e f):EF X tgt e (λρ=>(f ρ).bind Z7):=⟨have h:=h.run;λAN s σ H R I q=>by
 refine Ot h AN s σ H R I ?_;obtain⟨H0,ρ,ds,E,e,q⟩:=q;obtain⟨b,eb,e⟩:=AT e;refine⟨H0,ρ,b,E,eb,λv H1 j t i=>?_⟩;cases b with
 |z d=>
  cases d with
  |tup p=>
   cases e;simp only[aW,AW]at i;obtain⟨a,vs,rfl,c,g⟩:=i;exact .inr (.inl ⟨a,rfl,⟨vs,c⟩,q _ _ j (.tup c g)⟩)
  |lst p=>
   cases e;obtain⟨a,vs,rfl,c,g⟩:=i.DW rfl;exact .inl ⟨a,rfl,⟨vs,c⟩,q _ _ j (.list c g)⟩
  |str x=>
   cases e;simp only[aW,AW]at i;obtain⟨rfl,_⟩:=i;exact .inr (.inr ⟨x,rfl,q _ _ j (.str x)⟩)
  |_=>cases e
 |l p=>
  cases e;obtain⟨a,vs,rfl,c,g⟩:=i.DW rfl;exact .inl ⟨a,rfl,⟨vs,c⟩,q _ _ j (.list c g)⟩
 |o p=>
  cases e;obtain⟨a,vs,rfl,c,g⟩:=i.DW rfl;exact .inl ⟨a,rfl,⟨vs,c⟩,q _ _ j (.list c g)⟩
 |n _=>cases e
 |m _ _=>cases e⟩
def eZ(fi:Ev->Y (O Dt))(gt:Dt->Ev->Y Ev)(p:Ev->Y Bool)(fe:Ev->Y Bx)(is:O Nat)(n:Nat):Ev->Y Bx:=λρ=>(fi ρ).bind λds=>
 if ds.length<=100000 then(yL gt p fe (gW is ρ++ay n U) ds).bind λout=>Z (.o out)else U
theorem iB(ts:AZ)(O:oM X scope cl xs is)(t:X.calm=true)(hi:EF X tgt iter fi)(i:∀C d c fp,Wh (uT X (xs++ts) scope cl C d c fp) tgt gt)(f:∀C d c fp,vD (uT X (xs++ts) scope cl C d c fp) ifs p)(j:∀C d c fp,QV (uT X (xs++ts) scope cl C d c fp) elt fe)(l:Za is.length (is.length+ts.length) gt)(hs:∀x,foldedSetIterable iter X.env x=pure x:=by intro _;rfl):QV X (.ListComp elt [⟨tgt,iter,ifs,0⟩] scope pos) (eZ fi gt p fe is ts.length):=⟨have hi:=hi.run;have i:=λC d c fp=>(i C d c fp).run;have f:=λC d c fp=>(f C d c fp).run;have j:=λC d c fp=>(j C d c fp).run;λAN s σ H Q I h=>by
 obtain⟨H0,ρ,b,E,e,q⟩:=h;obtain⟨ds,F,e⟩:=AT e;split at e
 ·rename_i W;obtain⟨out,eo,e⟩:=AT e;cases e;rw[eval_ListComp];refine kl (use:=U) S hs O.clos O.kind O.names ?_;refine fX (hi AN s σ H (λJ H'=>AV H H'/\B0 X.K J ds H') I ⟨H0,ρ,ds,E,F,λJ H' s' y=>⟨s',y⟩⟩) λv s1 h1=>fX h1 λa3 s2 h2=>?_;obtain⟨it,fp,tn,J,H2,rfl,I2,T,st,n,g,Y⟩:=h2;refine Ax (B:=Av) (RR:=λM C=>compPost (bi X) X.A X.xe U (EP X AN σ Q) M C) (ts:=ts) (xs:=xs) O t i f j l I2 ((E.grow g).caps is ts.length) (Gb T) st n Y W eo ?_;intro D C s' H' us L N u ⟨m,hn⟩ s2' hD' r';refine⟨m,hn,λh' z=>⟨.ref D,H',?_,rfl,q _ _ (g.trans s2') (λa ea=>by cases ea;exact g.free L) ⟨D,us,rfl,hD',r'⟩⟩⟩;obtain⟨f0,f1,f2,f3,G,f5⟩:=u;exact N.turned (t':=s'.toks) (λb o P e=>(z.2 b P).trans e) f0 f1 f3 G f5
 ·cases e⟩
def lend:Bx->Bx
 |.o ds=>.l ds
 |.m ds _=>.n ds
 |b=>b
def av:Bx->Bool
 |.o _=>true
 |.m _ _=>true
 |_=>false
def DV(K:Au)(n:Nat)(F:O Bx->Y Bx):Sp:=λvs H Q _=>vs.length=n/\∃bs r,pq K H bs vs/\bs.all (λb=>!av b)=true/\F bs=Z r/\∀v H',AV H H'->Nw H r v->aW K H' r v->Q v H'
def dM(n:Nat)(g:Ev->Y An):O Bx->Y Bx:=λbs=>(g (bs.map Z++ay (n-bs.length) U)).bind λr=>match r with
 |.rt b=>Z b
 |.nx _=>Z (.z .non)
 |_=>U
theorem aX.start{K:Au}{H:Hp}{N:AZ}{bs:O Bx}{vs:O V}(r:pq K H bs vs)(h:bs.all (λb=>!av b)=true):aX K H H (L2.start N vs) (bs.map Z++ay (N.length-bs.length) U):=by
 have l:bs.length=vs.length:=Paired.length r;have get:∀(i:Nat) b,(bs.map Z++ay (N.length-bs.length) U)[i]?=Z (Z b)->bs[i]?=Z b:=λi b e=>by
  by_cases hi:i<bs.length
  ·rw[ZI (by simpa using hi),zS]at e;cases q:bs[i]? with
   |none=>rw[q]at e;cases e
   |some n=>rw[q]at e;simpa using e
  ·rw[ZY (by simp;omega),QR]at e;split at e<;>cases e
 have f:∀(i:Nat) c,(bs.map Z++ay (N.length-bs.length) U)[i]?=Z (Z c)->pA c=true->False:=λi c e d=>by
  have:=List.all_eq_true.mp h _ (ZE (get i _ e));cases c with
  |o ds=>cases this
  |m ds _=>cases this
  |_=>cases d
 refine⟨?_,λi b e=>?_,λi j c a b e d=>(f i c e d).elim,AV.refl H,λi c a e d=>(f i c e d).elim⟩
 ·unfold L2.start;simp[l]
 ·have e':=get i b e;have hi:i<bs.length:=(ba.mp e').1;have:∀{bs:O Bx} {vs:O V} {i:Nat} {b:Bx},AI (aW K H) bs vs->bs[i]?=Z b->∃v,vs[i]?=Z v/\aW K H b v:=by
   intro bs vs i b r
   induction r generalizing i with
   |nil=>intro e;simp at e
   |cons p t g=>
    intro e;cases i with
    |zero=>simp at e;subst e;exact⟨_,rfl,p⟩
    |succ i=>obtain⟨v,e1,e2⟩:=g (i:=i) (by simpa using e);exact⟨v,by simpa using e1,e2⟩
  obtain⟨v,e1,e2⟩:=this r e';refine⟨v,?_,e2⟩;unfold L2.start;rw[ZI (by simp;omega),zS,e1];rfl
end
theorem Na{f:A1}{k:Nat}{g:Ev->Y An}(F:Y9 K x qual st f fd)(S:bF N ps (aO st))(j:∀(a:A0) (A:A5) (outer:O Env) (s:A2) (H:Hp) (E:XK),jN k (A.deeper (AK qual (aO st) s.heap.objs.size f a))->Q9 (Ah JT P w K mg base N qual (aO st) f a A outer s H E).Zk (gJ st) g):
  uP P w K mg base JT (k+1) f fd ps (DV K ps.length (dM N.length g)):=by
 refine F.ok S (λvs H Q E h=>h.1) λa A outer s H vs Q E l h=>?_;obtain⟨o,bs,r,n,i,e,q⟩:=h;refine⟨_,j a A outer s H E l,?_⟩;obtain⟨c,er,e⟩:=AT e;refine⟨H,_,c,aX.start n i,er,?_⟩;cases c with
 |rt b=>cases e;exact λv H' s' m c=>q v H' s' m c
 |nx ρ=>cases e;exact λσ H' d=>q _ H' d.base trivial (by unfold aW AW;rfl)
 |bk ρ=>cases e
 |ct ρ=>cases e
section
variable{k:Nat}{f:A1}{F:O Bx->Y Bx}{p:Pos}{fs:Ev->Y (O Bx)}
theorem Kh{K:Au}{H:Hp}:∀{bs:O Bx} {vs:O V},pq K H bs vs->pq K H (bs.map lend) vs
 |_,_,.nil=>.nil
 |b::bs,_,.cons h t=>by
  refine .cons ?_ (Kh t);cases b with
  |z d=>exact h
  |l ds=>exact h
  |o ds=>obtain⟨a,vs,e,q,r⟩:=h;exact⟨a,vs,e,.inl q,r⟩
  |n ds=>exact h
  |m ds _=>obtain⟨a,vs,e,q,r⟩:=h;exact⟨a,vs,e,.inl q,r.1⟩
theorem Rq:∀bs:O Bx,(bs.map lend).all (λb=>!av b)=true
 |[]=>rfl
 |b::bs=>by
  rw[zo,kL,Rq bs];cases b<;>rfl
def cP(n:Nat)(F:O Bx->Y Bx)(fs:Ev->Y (O Bx)):Ev->Y Bx:=λρ=>(fs ρ).bind λbs=>if bs.length=n then F (bs.map lend)else U
theorem Z8(G:uP X.prog X.w X.K X.mg X.base JT k f fd ps (DV X.K n F))(o:jN k X.A)(u:Gl X x)(l:X.mg x=Z (.ref f))(hk:keepIn X.K (.ref f)=true)(j:BQ X.K fd ps [])(a:V7 X (e::es) fs)(m:be x:=by decide)(he:A9 (e::es) X.env=(false,eval e X.env)::A9 es X.env:=by rfl)(s:(AD pos (A9 es X.env)).any (·.1)=false:=by rfl):QV X (.Call (.Name x p) (e::es) [] pos) (cP n F fs):=⟨have a:=a.run;DX (Ra G o u l hk j .nil (LL) a m he s) λσ H Q h=>by
 obtain⟨H0,ρ,r,E,e,q⟩:=h;obtain⟨bs,eb,e⟩:=AT e;refine⟨H0,ρ,bs,E,eb,λvs H1 b c=>?_⟩;split at e
 ·rename_i i;rw[QE];exact⟨by rw[<-Paired.length c];exact i,_,r,Kh c,Rq bs,e,λv H2 g d t=>q v H2 (b.trans g) (d.old b) t⟩
 ·cases e⟩
end
end P1
variable{b:P1.Bx}{d:P1.Dt}{q:P1.Ev->Y Bool}{F:O P1.Bx->Y P1.Bx}{G:A1->O (L2.AY×P1.Dt)->O P1.Bx->Y (O (L2.AY×P1.Dt))}{f:P1.Ev->Y P1.Bx}{g:P1.Ev->Y P1.An}{p:P1.Ev->Y Bool}{AO:O (L2.AY×P1.Dt)}{ds:O P1.Dt}{fa:P1.Ev->Y P1.Bx}{ρ:P1.Ev}{fb fc:P1.Ev->Y P1.Bx}{g1 g2:P1.Ev->Y P1.An}{gs:O (Int×A1×O P1.Dt)}{gt:P1.Dt->P1.Ev->Y P1.Ev}{gb:P1.Ev->Y P1.An}{fi:P1.Ev->Y (O P1.Dt)}{fe:P1.Ev->Y P1.Bx}{Ac:A1->L2.Hp->O P1.Dt->L2.HO->Prop}{fk fo fv:P1.Ev->Y P1.Bx}{fr:P1.Ev->Y (O (AJ×P1.Dt))}{f1:P1.Ev->Y P1.Bx}{b0:P1.Bx}{gx:P1.Ev->Y P1.Dt}{tab:O (AJ×(O P1.Bx->Y P1.Bx))}{kf:O P1.Dt->Y (O (O L2.AY))}{bZ b_1 uR:P1.Bx}
namespace P1
open L2 SeqAt
open AutoSeq1 (wpAny_loadPart')
def Ed(h:A6)(a:A1):Prop:=∃o ep,h.get? a=Z o/\o.ExactDict/\o.data=.dict #[] ep
section
variable{b:A1}
theorem wG{AO:O (AY×V)}{vs:O (AY×A0)}(q:AO=[])(r:KV AO vs)(d:h.DictOf (bV P w) a vs):Ed h a:=by
 subst q;cases r;obtain⟨o,es,ep,h1,h2,c,_,b,_⟩:=d;have:es=#[]:=by
  have:=b.length;apply K2;simpa using this
 subst this;exact⟨o,ep,h1,h2,c⟩
theorem Ed.dict(P:A3)(w:A4)(x:Ed h a):h.DictOf (strKind P w) a []:=by
 obtain⟨o,ep,h1,h2,c⟩:=x;exact⟨o,#[],ep,h1,h2,c,λe b=>by simp at b,.nil,JP⟩
theorem MI(d:(a==sysModules)=false)(f:(b==sysModules)=false)(c:Ed s.heap a)(g:Ed s.heap b)(e:A.units<cLine):RcAt A s (.ref a) (.ref b) true:=λprog w E Q h=>
 PySem.W.keq_eq (knd:=strKind prog w) d f (c.dict prog w) (g.dict prog w) e (λ_=>.nil) h
theorem OR(d:(a==sysModules)=false)(f:(b==sysModules)=false)(c:Ed s.heap a)(g:Ed s.heap b)(e:A.units<cLine):RcNeAt A s (.ref a) (.ref b) false:=λprog w E Q h=>
 PySem.W.keq_ne (r:=true) (knd:=strKind prog w) d f (c.dict prog w) (g.dict prog w) e (λ_=>.nil) h
theorem Kl(o:AE)(b:AJ)(u:Tok):Meets (Builtin.«dict.__eq__» ⟨[.ref a,.str b u],[]⟩) (λ_ R s=>(s.heap.get? a=Z o/\o.cls=.type "dict")/\R (.ok (.ret .notImplemented)) s):=
 .of_wp λprog w A R s h=>by
  have c:s.TypeIs (.ref a) "dict":=⟨o,h.1.1,h.1.2⟩;show A7 _ _ (Builtin.Dict.dictSlotArgs "__eq__" ⟨[.ref a,.str b u],[]⟩ >>= _) _ _ s;refine zb ?_;unfold Builtin.Dict.dictSlotArgs;refine zb (wpAny_notOrdered_dict c ?_);show A7 _ _ (pure (Value.ref a,Value.str b u)) _ _ s;refine zd ?_;refine zb (jS (T :="str") (typeIs_str s b u) PySem.F.sub_str_dict ?_);simp only[dq,QY];refine zb (kg ?_);exact zd ⟨_,rfl,h.2⟩
theorem Km(b:AJ)(u:Tok)(es:Array DictEntry)(ep:Nat)(e:Y A1)(sl:Array (Y A0)):Meets (Builtin.«str.__eq__» ⟨[.str b u,.ref a],[]⟩) (λ_ R s=>s.heap.get? a=Z { cls:=.type "dict",dict:=e,data:=.dict es ep,slots:=sl }/\R (.ok (.ret .notImplemented)) s):=
 .of_wp λprog w A R s h=>by obtain⟨hp,g,d,tk,os⟩:=s;obtain⟨c,h⟩:=h;wp_walk using wpAny_loadPart' c,yz c;exact⟨_,rfl,h⟩
theorem Gf(x:AJ)(t:Tok)(d:Ed s.heap a)(i:A.units<cLine):RcAt A s (.str x t) (.ref a) false:=λprog w E Q h=>by
 obtain⟨⟨cls,g,j,sl⟩,ep,c,⟨e,l,hs⟩,f⟩:=d;simp only at e f;subst e f;exact rc_eq_decline_or (k:=false) (typeIs_str s x t) ⟨_,c,rfl⟩ () PySem.F.sub_dict_str PySem.F.slot_str_eq PySem.F.slot_dict_eq_refl
  (λ_ b=>call_meets PySem.F.slot_str_eq (typeIs_str s x t) PySem.F.entry_str_eq (PySem.F.args_str_eq_2 _ _) (Km x t #[] ep g sl) ⟨c,b⟩)
  (λ_ b=>call_meets PySem.F.slot_dict_eq_refl ⟨_,c,rfl⟩ PySem.F.entry_dict_eq (PySem.F.args_dict_eq_2 _ _) (Kl _ x t) ⟨⟨c,rfl⟩,b⟩)
  (λ_ b=>wpAny_of_eq (rfl:isSame (.str x t) (.ref a)=pure false) b) (.inr i) h
theorem Ko(o:AE)(b:AJ)(u:Tok):Meets (Builtin.«dict.__ne__» ⟨[.ref a,.str b u],[]⟩) (λ_ R s=>(s.heap.get? a=Z o/\o.cls=.type "dict")/\R (.ok (.ret .notImplemented)) s):=
 .of_wp λprog w A R s h=>by
  have c:s.TypeIs (.ref a) "dict":=⟨o,h.1.1,h.1.2⟩;show A7 _ _ (Builtin.Dict.dictSlotArgs "__ne__" ⟨[.ref a,.str b u],[]⟩ >>= _) _ _ s;refine zb ?_;unfold Builtin.Dict.dictSlotArgs;refine zb (wpAny_notOrdered_dict c ?_);show A7 _ _ (pure (Value.ref a,Value.str b u)) _ _ s;refine zd ?_;refine zb (jS (T :="str") (typeIs_str s b u) PySem.F.sub_str_dict ?_);simp only[dq,QY];refine zb (kg ?_);exact zd ⟨_,rfl,h.2⟩
theorem Kq(b:AJ)(u:Tok)(es:Array DictEntry)(ep:Nat)(e:Y A1)(sl:Array (Y A0)):Meets (Builtin.«str.__ne__» ⟨[.str b u,.ref a],[]⟩) (λ_ R s=>s.heap.get? a=Z { cls:=.type "dict",dict:=e,data:=.dict es ep,slots:=sl }/\R (.ok (.ret .notImplemented)) s):=
 .of_wp λprog w A R s h=>by obtain⟨hp,g,d,tk,os⟩:=s;obtain⟨c,h⟩:=h;wp_walk using wpAny_loadPart' c,yz c;exact⟨_,rfl,h⟩
theorem T4(x:AJ)(t:Tok)(d:Ed s.heap a)(i:A.units<cLine):RcNeAt A s (.str x t) (.ref a) true:=λprog w E Q h=>by
 obtain⟨⟨cls,g,j,sl⟩,ep,c,⟨e,l,hs⟩,f⟩:=d;simp only at e f;subst e f;exact rc_ne_decline_or (k:=false) (typeIs_str s x t) ⟨_,c,rfl⟩ () PySem.F.sub_dict_str PySem.F.slot_str_ne PySem.F.slot_dict_ne_refl
  (λ_ b=>call_meets PySem.F.slot_str_ne (typeIs_str s x t) PySem.F.entry_str_ne (PySem.F.args_str_ne_2 _ _) (Kq x t #[] ep g sl) ⟨c,b⟩)
  (λ_ b=>call_meets PySem.F.slot_dict_ne_refl ⟨_,c,rfl⟩ PySem.F.entry_dict_ne (PySem.F.args_dict_ne_2 _ _) (Ko _ x t) ⟨⟨c,rfl⟩,b⟩)
  (λ_ b=>wpAny_of_eq (rfl:isSame (.str x t) (.ref a)=pure false) b) (.inr i) h
theorem T5(x:AJ)(t:Tok)(d:Ed s.heap a)(c:A.units<cLine):EqAt A s (.str x t) (.ref a) false:=λprog w E Q h=>by
 unfold eqBool;refine qB ?_;refine wpAny_ite_split (λb=>absurd (eq_of_beq b) nofun) (λ_=>?_);exact zb (Gf x t d c prog w E _ (kU h))
end
mutual
def wH:Dt->Nat
 |.tup xs=>wI xs+1
 |.lst xs=>wI xs+1
 |_=>1
def wI:O Dt->Nat
 |[]=>0
 |d::ds=>max (wH d) (wI ds)
end
mutual
def zp:Dt->Dt->Y Bool
 |.non,.non=>Z true
 |.non,.bl _=>Z false|.non,.int _=>Z false|.non,.str _=>Z false|.non,.tup _=>Z false|.non,.lst _=>Z false
 |.bl a,.bl b=>Z (a==b)
 |.bl a,.int b=>Z ((if a then 1 else 0)==b)
 |.bl _,.non=>Z false|.bl _,.str _=>Z false|.bl _,.tup _=>Z false|.bl _,.lst _=>Z false
 |.int a,.int b=>Z (a==b)
 |.int a,.bl b=>Z (a==(if b then 1 else 0))
 |.int _,.non=>Z false|.int _,.str _=>Z false|.int _,.tup _=>Z false|.int _,.lst _=>Z false
 |.str a,.str b=>Z (a==b)
 |.str _,.non=>Z false|.str _,.bl _=>Z false|.str _,.int _=>Z false|.str _,.tup _=>Z false|.str _,.lst _=>Z false|.str _,.emp=>Z false
 |.tup xs,.tup ys=>jw xs ys
 |.tup _,.non=>Z false|.tup _,.bl _=>Z false|.tup _,.int _=>Z false|.tup _,.str _=>Z false|.tup _,.lst _=>Z false
 |.lst xs,.lst ys=>jw xs ys
 |.emp,.emp=>Z true
 |.lst _,.non=>Z false|.lst _,.bl _=>Z false|.lst _,.int _=>Z false|.lst _,.str _=>Z false|.lst _,.tup _=>Z false
 |_,_=>U
def jw:O Dt->O Dt->Y Bool
 |[],[]=>Z true
 |[],_::_=>Z false
 |_::_,[]=>Z false
 |x::xs,y::ys=>match zp x y with
  |some b=>match jw xs ys with
   |some c=>Z (b&&c)
   |none=>U
  |none=>U
end
mutual
theorem Kr:∀{d:Dt} {k:Bool},zp d d=Z k->k=true
 |.non,_,e=>by cases e;rfl
 |.bl b,_,e=>by cases e;simp
 |.int b,_,e=>by cases e;simp
 |.str b,_,e=>by cases e;simp
 |.tup xs,_,e=>yh (ds:=xs) e
 |.lst xs,_,e=>yh (ds:=xs) e
 |.emp,_,e=>by cases e;rfl
theorem yh:∀{ds:O Dt} {k:Bool},jw ds ds=Z k->k=true
 |[],_,e=>by simp only[jw]at e;cases e;rfl
 |d::ds,_,e=>by
  simp only[jw]at e;cases h:zp d d with
  |none=>rw[h]at e;cases e
  |some b=>
   rw[h]at e;simp only at e;cases h2:jw ds ds with
   |none=>rw[h2]at e;cases e
   |some c=>
    rw[h2]at e;cases e;rw[Kr h,yh h2];rfl
end
theorem zN(xs ys:O Dt):zp (.tup xs) (.tup ys)=jw xs ys:=rfl
theorem su:∀{xs ys:O Dt} {k:Bool},jw xs ys=Z k->∃e:Nat->Bool,(∀(j:Nat) x y,xs[j]?=Z x->ys[j]?=Z y->zp x y=Z (e j))/\k=((bq (min xs.length ys.length)).all e&&xs.length==ys.length)
 |[],[],k,h=>by simp only[jw]at h;cases h;exact⟨λ_=>true,λj x y e=>by simp at e,by simp⟩
 |[],y::ys,k,h=>by simp only[jw]at h;cases h;exact⟨λ_=>true,λj x y e=>by simp at e,by simp⟩
 |x::xs,[],k,h=>by simp only[jw]at h;cases h;exact⟨λ_=>true,λj x y _ e=>by simp at e,by simp⟩
 |x::xs,y::ys,k,h=>by
  simp only[jw]at h;cases h1:zp x y with
  |none=>rw[h1]at h;cases h
  |some b=>
   rw[h1]at h;simp only at h;cases h2:jw xs ys with
   |none=>rw[h2]at h;cases h
   |some c=>
    rw[h2]at h;cases h;obtain⟨e,g,d⟩:=su h2;refine⟨λj=>match j with|0=>b|j+1=>e j,λj u v a ev=>?_,?_⟩
    ·cases j with
     |zero=>simp at a ev;subst a ev;exact h1
     |succ j=>exact g j u v (by simpa using a) (by simpa using ev)
    ·have:min (x::xs).length (y::ys).length=min xs.length ys.length+1:=by simp only[Zp];omega
     rw[this,List.range_succ_eq_map,kL,fT,d];have f:((x::xs).length==(y::ys).length)=(xs.length==ys.length):=by
      rw[yi];simp
     rw[f,Bool.and_assoc];rfl
theorem sy:∀{ds:O Dt} {j:Nat} {d:Dt},ds[j]?=Z d->wH d<=wI ds
 |[],_,_,e=>by simp at e
 |d::ds,0,_,e=>by simp at e;subst e;simp only[wI];exact Nat.le_max_left _ _
 |d::ds,j+1,_,e=>by
  simp only[wI];exact Zs (sy (ds:=ds) (j:=j) (by simpa using e)) (Nat.le_max_right _ _)
theorem zO(I:L2.AU X AN σ H s)(h:wj X.K H a vs):∃b,s.heap.get? a=Z b/\b.cls=.type "tuple":=by
 obtain⟨AQ,_,⟨b,e,c,_⟩,_⟩:=I.tuple h;exact⟨b,e,c⟩
theorem zP(I:L2.AU X AN σ H s)(h:rJ X.K H a vs):∃b,s.heap.get? a=Z b/\b.cls=.type "list":=by
 obtain⟨AQ,_,⟨b,n,e,c,_⟩,_⟩:=I.list h;exact⟨b,e,c⟩
theorem ux(I:L2.AU X AN σ H s)(h:H a=Z (.gF o (.dK []))):∃b,s.heap.get? a=Z b/\b.cls=.type "dict":=by
 obtain⟨e,_,_,vs,_,b,es,ep,e2,ex,_⟩:=I.hok a _ h;exact⟨b,e2,ex.1⟩
theorem yj{n m:String}(h:∃b,s.heap.get? a=Z b/\b.cls=.type n)(q:∃b,s.heap.get? a=Z b/\b.cls=.type m)(d:n≠m):False:=by
 obtain⟨o,e,c⟩:=h;obtain⟨o',e',c'⟩:=q;rw[e]at e';cases e';rw[c]at c';exact d (by injection c')
mutual
theorem AW.inj(I:L2.AU X AN σ H s):∀{d e:Dt} {v:V},AW X.K H d v->AW X.K H e v->d=e
 |.non,e,v,h,q=>by
  simp only[AW]at h;subst h;cases e<;>simp only[AW]at q<;>first|rfl|(cases q;done)|(obtain⟨a,b,z,_⟩:=q;cases z;done)|(obtain⟨z,_⟩:=q;cases z;done)
 |.bl _,e,v,h,q=>by
  simp only[AW]at h;subst h;cases e<;>simp only[AW]at q<;>first|(cases q;rfl)|(cases q;done)|(obtain⟨a,b,z,_⟩:=q;cases z;done)|(obtain⟨z,_⟩:=q;cases z;done)
 |.int _,e,v,h,q=>by
  simp only[AW]at h;subst h;cases e<;>simp only[AW]at q<;>first|(cases q;rfl)|(cases q;done)|(obtain⟨a,b,z,_⟩:=q;cases z;done)|(obtain⟨z,_⟩:=q;cases z;done)
 |.str x,e,v,h,q=>by
  simp only[AW]at h;have g:v=.str x:=h.1;subst g;cases e with
  |str y=>
   simp only[AW]at q;have z:V.str x=V.str y:=q.1;injection z with z;rw[z]
  |tup es=>simp only[AW]at q;obtain⟨a,b,z,_⟩:=q;cases z
  |lst es=>simp only[AW]at q;obtain⟨a,b,z,_⟩:=q;cases z
  |emp=>simp only[AW]at q;obtain⟨a,b,z,_⟩:=q;cases z
  |_=>simp only[AW]at q;cases q
 |.tup ds,e,v,h,q=>by
  simp only[AW]at h;obtain⟨a,vs,rfl,sq,r⟩:=h;cases e with
  |tup es=>
   simp only[AW]at q;obtain⟨b,us,z,c,f⟩:=q;cases z;have:=I.Fq sq c;subst this;rw[aG.inj I r f]
  |lst es=>
   simp only[AW]at q;obtain⟨b,us,z,c,f⟩:=q;cases z;exact(yj (zO I sq) (zP I c.sq) ()).elim
  |emp=>
   simp only[AW]at q;obtain⟨b,o,z,c⟩:=q;cases z;exact(yj (zO I sq) (ux I c) ()).elim
  |str x=>simp only[AW]at q;have z:=q.1;cases z
  |_=>simp only[AW]at q;cases q
 |.lst ds,e,v,h,q=>by
  simp only[AW]at h;obtain⟨a,vs,rfl,sq,r⟩:=h;cases e with
  |lst es=>
   simp only[AW]at q;obtain⟨b,us,z,c,f⟩:=q;cases z;have:=I.J2 sq.sq c.sq;subst this;rw[aG.inj I r f]
  |tup es=>
   simp only[AW]at q;obtain⟨b,us,z,c,f⟩:=q;cases z;exact(yj (zP I sq.sq) (zO I c) ()).elim
  |emp=>
   simp only[AW]at q;obtain⟨b,o,z,c⟩:=q;cases z;exact(yj (zP I sq.sq) (ux I c) ()).elim
  |str x=>simp only[AW]at q;have z:=q.1;cases z
  |_=>simp only[AW]at q;cases q
 |.emp,e,v,h,q=>by
  simp only[AW]at h;obtain⟨a,o,rfl,sq⟩:=h;cases e with
  |emp=>rfl
  |tup es=>
   simp only[AW]at q;obtain⟨b,us,z,c,f⟩:=q;cases z;exact(yj (ux I sq) (zO I c) ()).elim
  |lst es=>
   simp only[AW]at q;obtain⟨b,us,z,c,f⟩:=q;cases z;exact(yj (ux I sq) (zP I c.sq) ()).elim
  |str x=>simp only[AW]at q;have z:=q.1;cases z
  |_=>simp only[AW]at q;cases q
theorem aG.inj(I:L2.AU X AN σ H s):∀{ds es:O Dt} {vs:O V},aG X.K H ds vs->aG X.K H es vs->ds=es
 |[],es,vs,h,q=>by
  simp only[aG]at h;subst h;cases es with
  |nil=>rfl
  |cons e es=>simp only[aG]at q;obtain⟨_,_,z,_⟩:=q;cases z
 |d::ds,es,vs,h,q=>by
  simp only[aG]at h;obtain⟨v,r,rfl,h1,h2⟩:=h;cases es with
  |nil=>simp only[aG]at q;cases q
  |cons e es=>
   simp only[aG]at q;obtain⟨b,a,z,q1,q2⟩:=q;cases z;rw[AW.inj I h1 q1,aG.inj I h2 q2]
end
theorem MG(I:L2.AU X AN σ H s):∀(n:Nat) {A:A5} {d e:Dt} {x y:V} {u v:A0} {k:Bool},min (wH d) (wH e)<=n->A.units+n<cLine->AW X.K H d x->AW X.K H e y->At x u->At y v->zp d e=Z k->EqAt A s u v k:=by
 intro n
 induction n with
 |zero=>
  intro A d e x y u v k P;have h1:1<=wH d:=by cases d<;>simp only[wH]<;>omega
  have h2:1<=wH e:=by cases e<;>simp only[wH]<;>omega
  omega
 |succ n ih=>
  intro A d e x y u v k P hA m c w g ek;have h:A.units<cLine:=by omega
  by_cases G:u=v/\∃a,u=.ref a
  ·obtain⟨rfl,a,rfl⟩:=G;have hx:x=.ref a:=by have:=w.abs;simpa[GH]using this.symm
   have hy:y=.ref a:=by have:=g.abs;simpa[GH]using this.symm
   subst hx hy;have:=AW.inj I m c;subst this;rw[Kr ek];exact EqAt.same _
  ·have items:∀{ds es:O Dt} {vs us:O V} {AQ l:O A0} {f:Nat->Bool},min (wI ds) (wI es)<=n->aG X.K H ds vs->aG X.K H es us->AX vs AQ->AX us l->(∀(j:Nat) x y,ds[j]?=Z x->es[j]?=Z y->zp x y=Z (f j)) →
     ∀j (h1:j<AQ.toArray.size) (h2:j<l.toArray.size),EqAt A.in1 s AQ.toArray[j] l.toArray[j] (f j):=by
    intro ds es vs us AQ l f hm W r2 w1 w2 D j h1 h2;have l1:=w1.length;have l2:=w2.length;have l3:=W.length;have l4:=r2.length;have j1:j<AQ.length:=by simpa using h1
    have j2:j<l.length:=by simpa using h2
    have Q:ds[j]?=Z ds[j]:=by simp
    have d2:es[j]?=Z es[j]:=by simp
    obtain⟨a,ea,C⟩:=W.get Q;obtain⟨b,eb,B⟩:=r2.get d2;obtain⟨p,ep,rp⟩:=w1.get ea;obtain⟨q,eq,rq⟩:=w2.get eb;have e1:AQ.toArray[j]=p:=by simpa[j1]using ep
    have e2:l.toArray[j]=q:=by simpa[j2]using eq
    rw[e1,e2];have m1:=sy Q;have m2:=sy d2;exact ih () (by rw[units_in1];omega) C B rp rq (D j _ _ Q d2)
   cases d with
   |non=>
    cases m;cases w;cases e with
    |non=>cases c;cases g;cases ek;exact EqAt.same _
    |bl b=>cases c;cases g;cases ek;exact EqAt.none_bool b
    |int b=>cases c;obtain⟨t,rfl⟩:=g;cases ek;exact EqAt.none_int b t
    |str b=>obtain⟨rfl,_⟩:=c;obtain⟨t,rfl⟩:=g;cases ek;exact EqAt.none_str b t
    |tup es=>obtain⟨b,us,rfl,sq,_⟩:=c;cases g;cases ek;obtain⟨_,_,p,_⟩:=I.tuple sq;exact EqAt.none_tuple p h
    |lst es=>obtain⟨b,us,rfl,sq,_⟩:=c;cases g;cases ek;obtain⟨_,_,p,_⟩:=I.list sq.sq;exact EqAt.none_list p.isList h
    |emp=>cases ek
   |bl a=>
    cases m;cases w;cases e with
    |non=>cases c;cases g;cases ek;exact EqAt.bool_none a
    |bl b=>cases c;cases g;cases ek;exact EqAt.bool_bool a b
    |int b=>cases c;obtain⟨t,rfl⟩:=g;cases ek;exact EqAt.bool_int a b t
    |str b=>obtain⟨rfl,_⟩:=c;obtain⟨t,rfl⟩:=g;cases ek;exact EqAt.bool_str a b t
    |tup es=>obtain⟨b,us,rfl,sq,_⟩:=c;cases g;cases ek;obtain⟨_,_,p,_⟩:=I.tuple sq;exact EqAt.bool_tuple a p h
    |lst es=>obtain⟨b,us,rfl,sq,_⟩:=c;cases g;cases ek;obtain⟨_,_,p,_⟩:=I.list sq.sq;exact EqAt.bool_list a p.isList h
    |emp=>cases ek
   |int a=>
    cases m;obtain⟨i,rfl⟩:=w;cases e with
    |non=>cases c;cases g;cases ek;exact EqAt.int_none a i
    |bl b=>cases c;cases g;cases ek;exact EqAt.int_bool a i b
    |int b=>cases c;obtain⟨t,rfl⟩:=g;cases ek;exact EqAt.int_int a i b t
    |str b=>obtain⟨rfl,_⟩:=c;obtain⟨t,rfl⟩:=g;cases ek;exact EqAt.int_str a i b t
    |tup es=>obtain⟨b,us,rfl,sq,_⟩:=c;cases g;cases ek;obtain⟨_,_,p,_⟩:=I.tuple sq;exact EqAt.int_tuple a i p h
    |lst es=>obtain⟨b,us,rfl,sq,_⟩:=c;cases g;cases ek;obtain⟨_,_,p,_⟩:=I.list sq.sq;exact EqAt.int_list a i p.isList h
    |emp=>cases ek
   |str a=>
    obtain⟨rfl,_⟩:=m;obtain⟨i,rfl⟩:=w;cases e with
    |non=>cases c;cases g;cases ek;exact EqAt.str_none a i
    |bl b=>cases c;cases g;cases ek;exact EqAt.str_bool a i b
    |int b=>cases c;obtain⟨t,rfl⟩:=g;cases ek;exact EqAt.str_int a i b t
    |str b=>obtain⟨rfl,_⟩:=c;obtain⟨t,rfl⟩:=g;cases ek;exact EqAt.str_str a i b t
    |tup es=>obtain⟨b,us,rfl,sq,_⟩:=c;cases g;cases ek;obtain⟨_,_,p,_⟩:=I.tuple sq;exact EqAt.str_tuple a i p h
    |lst es=>obtain⟨b,us,rfl,sq,_⟩:=c;cases g;cases ek;obtain⟨_,_,p,_⟩:=I.list sq.sq;exact EqAt.str_list a i p.isList h
    |emp=>
     simp only[AW]at c;obtain⟨p,o,rfl,e⟩:=c;cases g;cases ek;obtain⟨_,_,vs,r,q⟩:=rZ I.hok (.inr ⟨o,e⟩);exact T5 a i (wG S r q) h
   |tup ds=>
    obtain⟨a,vs,rfl,N,C⟩:=m;cases w;obtain⟨AQ,E,p,_⟩:=I.tuple N;cases e with
    |non=>cases c;cases g;cases ek;exact EqAt.tuple_none p h
    |bl b=>cases c;cases g;cases ek;exact EqAt.tuple_bool b p h
    |int b=>cases c;obtain⟨t,rfl⟩:=g;cases ek;exact EqAt.tuple_int b t p h
    |str b=>obtain⟨rfl,_⟩:=c;obtain⟨t,rfl⟩:=g;cases ek;exact EqAt.tuple_str b t p h
    |lst es=>obtain⟨b,us,rfl,sq,_⟩:=c;cases g;cases ek;obtain⟨_,_,p2,_⟩:=I.list sq.sq;exact EqAt.tuple_list p p2.isList h
    |tup es=>
     obtain⟨b,us,rfl,M,B⟩:=c;cases g;obtain⟨l,F,p2,_⟩:=I.tuple M;change jw _ _=Z _ at ek;obtain⟨f,D,rfl⟩:=su ek;have L:a≠b:=λz=>G ⟨by rw[z],a,rfl⟩;have z:=EqAt.of_refs L (RcAt.tuples (A:=A) (e:=f) p p2 h (items (by simp only[wH]at P;omega) C B E F D));have q1:AQ.toArray.size=ds.length:=by rw[zw,<-E.length,C.length]
     have q2:l.toArray.size=es.length:=by rw[zw,<-F.length,B.length]
     rw[q1,q2]at z;exact z
    |emp=>cases ek
   |lst ds=>
    obtain⟨a,vs,rfl,N,C⟩:=m;cases w;obtain⟨AQ,E,p,_⟩:=I.list N.sq;cases e with
    |non=>cases c;cases g;cases ek;exact EqAt.list_none p.isList h
    |bl b=>cases c;cases g;cases ek;exact EqAt.list_bool b p.isList h
    |int b=>cases c;obtain⟨t,rfl⟩:=g;cases ek;exact EqAt.list_int b t p.isList h
    |str b=>obtain⟨rfl,_⟩:=c;obtain⟨t,rfl⟩:=g;cases ek;exact EqAt.list_str b t p.isList h
    |tup es=>obtain⟨b,us,rfl,sq,_⟩:=c;cases g;cases ek;obtain⟨_,_,p2,_⟩:=I.tuple sq;exact EqAt.list_tuple p.isList p2 h
    |lst es=>
     obtain⟨b,us,rfl,M,B⟩:=c;cases g;obtain⟨l,F,p2,_⟩:=I.list M.sq;change jw _ _=Z _ at ek;obtain⟨f,D,rfl⟩:=su ek;have L:a≠b:=λz=>G ⟨by rw[z],a,rfl⟩;have q1:AQ.toArray.size=ds.length:=by rw[zw,<-E.length,C.length]
     have q2:l.toArray.size=es.length:=by rw[zw,<-F.length,B.length]
     by_cases a3:AQ.toArray.size=l.toArray.size
     ·have z:=EqAt.of_refs L (RcAt.lists (A:=A) (e:=f) p.isList p2.isList a3 h (items (by simp only[wH]at P;omega) C B E F D));have J:ds.length=es.length:=by omega
      rw[q1]at z;rw[J,ez,beq_self_eq_true,ya,<-J];exact z
     ·have J:(ds.length==es.length)=false:=by rw[beq_eq_false_iff_ne];omega
      rw[J,yA];exact EqAt.of_refs L (RcAt.lists_lengths p.isList p2.isList (by simpa using a3) h)
    |emp=>cases ek
   |emp=>
    cases e<;>first|(cases ek;done)|skip;simp only[AW]at m c;obtain⟨a,o,rfl,e1⟩:=m;obtain⟨b,o',rfl,e2⟩:=c;cases w;cases g;cases ek;obtain⟨_,m1,vs,r,q⟩:=rZ I.hok (.inr ⟨o,e1⟩);obtain⟨_,m2,a5,r',q'⟩:=rZ I.hok (.inr ⟨o',e2⟩);exact EqAt.of_refs (λz=>G ⟨by rw[z],a,rfl⟩) (MI m1 m2 (wG S r q) (wG S r' q') h)
theorem Ku(I:L2.AU X AN σ H s){es:O Dt}{us:O V}{c:O A0}{f:Nat->Bool}(F:min (wI ds) (wI es)<=n)(B:A.units+n+1<cLine)(e:aG X.K H ds vs)(h:aG X.K H es us)(i:AX vs AQ)(g:AX us c)(m:∀(j:Nat) x y,ds[j]?=Z x->es[j]?=Z y->zp x y=Z (f j)):∀j (h1:j<AQ.toArray.size) (h2:j<c.toArray.size),EqAt A.in1 s AQ.toArray[j] c.toArray[j] (f j):=by
 intro j h1 h2;have D:=i.length;have E:=g.length;have C:=e.length;have J:=h.length;have u:j<AQ.length:=by simpa using h1
 have l:j<c.length:=by simpa using h2
 have d:ds[j]?=Z (ds[j]'()):=by simp
 have d2:es[j]?=Z (es[j]'()):=by simp
 obtain⟨a,ea,z⟩:=e.get d;obtain⟨b,eb,o⟩:=h.get d2;obtain⟨p,ep,w⟩:=i.get ea;obtain⟨q,t,v⟩:=g.get eb;have e1:AQ.toArray[j]=p:=by simpa[u]using ep
 have e2:c.toArray[j]=q:=by simpa[l]using t
 rw[e1,e2];have G:=sy d;have m2:=sy d2;exact MG I n () (by rw[units_in1];omega) z o w v (m j _ _ d d2)
def oN(K:Au)(H:Hp):Dt->V->Prop
 |.lst ds,v=>∃a vs,v=.ref a/\rJ K H a vs/\aG K H ds vs
 |d,v=>AW K H d v
def mH:Bx->Bool
 |.n _=>true
 |.m _ _=>true
 |_=>false
def toD:Bx->Dt
 |.z d=>d
 |.l ds=>.lst ds
 |.o ds=>.lst ds
 |.n _=>.non
 |.m _ _=>.non
theorem aW.toD(h:aW K H b v)(a:mH b=false):oN K H (toD b) v:=by
 cases b with
 |z d=>
  cases d with
  |lst ds=>exact h.DW rfl
  |_=>exact h
 |l ds=>exact h.DW rfl
 |o ds=>exact h.DW rfl
 |n _=>cases a
 |m _ _=>cases a
theorem Rr(I:L2.AU X AN σ H s){e:Dt}{x y:V}{v:A0}{k:Bool}(M:min (wH d) (wH e)<=100)(hA:X.A.units+100<cLine)(z:oN X.K H d x)(h:oN X.K H e y)(B:At x u)(i:At y v)(ek:zp d e=Z k):RcAt X.A s u v k/\RcNeAt X.A s u v (!k):=by
 have g:X.A.units<cLine:=by omega
 cases d with
 |non=>
  cases z;cases B;cases e with
  |non=>
   cases h;cases i;cases ek;exact⟨.none_none,.none_none⟩
  |bl c=>
   cases h;cases i;cases ek;exact⟨.none_bool c,.none_bool c⟩
  |int c=>
   cases h;obtain⟨t2,rfl⟩:=i;cases ek;exact⟨.none_int c t2,.none_int c t2⟩
  |str c=>
   obtain⟨rfl,_⟩:=h;obtain⟨t2,rfl⟩:=i;cases ek;exact⟨.none_str c t2,.none_str c t2⟩
  |tup c=>
   obtain⟨a2,w,rfl,j,m⟩:=h;cases i;obtain⟨t,l,p2,_⟩:=I.tuple j;cases ek;exact⟨.none_tuple p2 g,.none_tuple p2 g⟩
  |lst c=>
   obtain⟨a2,w,rfl,j,m⟩:=h;cases i;obtain⟨t,l,p2,_⟩:=I.list j;cases ek;exact⟨.none_list p2.isList g,.none_list p2.isList g⟩
  |emp=>cases ek
 |bl x1=>
  cases z;cases B;cases e with
  |non=>
   cases h;cases i;cases ek;exact⟨.bool_none x1,.bool_none x1⟩
  |bl c=>
   cases h;cases i;cases ek;exact⟨.bool_bool x1 c,.bool_bool x1 c⟩
  |int c=>
   cases h;obtain⟨t2,rfl⟩:=i;cases ek;exact⟨.bool_int x1 c t2,.bool_int x1 c t2⟩
  |str c=>
   obtain⟨rfl,_⟩:=h;obtain⟨t2,rfl⟩:=i;cases ek;exact⟨.bool_str x1 c t2,.bool_str x1 c t2⟩
  |tup c=>
   obtain⟨a2,w,rfl,j,m⟩:=h;cases i;obtain⟨t,l,p2,_⟩:=I.tuple j;cases ek;exact⟨.bool_tuple x1 p2 g,.bool_tuple x1 p2 g⟩
  |lst c=>
   obtain⟨a2,w,rfl,j,m⟩:=h;cases i;obtain⟨t,l,p2,_⟩:=I.list j;cases ek;exact⟨.bool_list x1 p2.isList g,.bool_list x1 p2.isList g⟩
  |emp=>cases ek
 |int x1=>
  cases z;obtain⟨t1,rfl⟩:=B;cases e with
  |non=>
   cases h;cases i;cases ek;exact⟨.int_none x1 t1,.int_none x1 t1⟩
  |bl c=>
   cases h;cases i;cases ek;exact⟨.int_bool x1 t1 c,.int_bool x1 t1 c⟩
  |int c=>
   cases h;obtain⟨t2,rfl⟩:=i;cases ek;exact⟨.int_int x1 t1 c t2,.int_int x1 t1 c t2⟩
  |str c=>
   obtain⟨rfl,_⟩:=h;obtain⟨t2,rfl⟩:=i;cases ek;exact⟨.int_str x1 t1 c t2,.int_str x1 t1 c t2⟩
  |tup c=>
   obtain⟨a2,w,rfl,j,m⟩:=h;cases i;obtain⟨t,l,p2,_⟩:=I.tuple j;cases ek;exact⟨.int_tuple x1 t1 p2 g,.int_tuple x1 t1 p2 g⟩
  |lst c=>
   obtain⟨a2,w,rfl,j,m⟩:=h;cases i;obtain⟨t,l,p2,_⟩:=I.list j;cases ek;exact⟨.int_list x1 t1 p2.isList g,.int_list x1 t1 p2.isList g⟩
  |emp=>cases ek
 |str x1=>
  obtain⟨rfl,_⟩:=z;obtain⟨t1,rfl⟩:=B;cases e with
  |non=>
   cases h;cases i;cases ek;exact⟨.str_none x1 t1,.str_none x1 t1⟩
  |bl c=>
   cases h;cases i;cases ek;exact⟨.str_bool x1 t1 c,.str_bool x1 t1 c⟩
  |int c=>
   cases h;obtain⟨t2,rfl⟩:=i;cases ek;exact⟨.str_int x1 t1 c t2,.str_int x1 t1 c t2⟩
  |str c=>
   obtain⟨rfl,_⟩:=h;obtain⟨t2,rfl⟩:=i;cases ek;exact⟨.str_str x1 t1 c t2,.str_str x1 t1 c t2⟩
  |tup c=>
   obtain⟨a2,w,rfl,j,m⟩:=h;cases i;obtain⟨t,l,p2,_⟩:=I.tuple j;cases ek;exact⟨.str_tuple x1 t1 p2 g,.str_tuple x1 t1 p2 g⟩
  |lst c=>
   obtain⟨a2,w,rfl,j,m⟩:=h;cases i;obtain⟨t,l,p2,_⟩:=I.list j;cases ek;exact⟨.str_list x1 t1 p2.isList g,.str_list x1 t1 p2.isList g⟩
  |emp=>
   simp only[oN,AW]at h;obtain⟨p,o,rfl,e⟩:=h;cases i;cases ek;obtain⟨_,_,vs,r,q⟩:=rZ I.hok (.inr ⟨o,e⟩);exact⟨Gf x1 t1 (wG S r q) g,T4 x1 t1 (wG S r q) g⟩
 |tup x1=>
  obtain⟨a1,W,rfl,L,C⟩:=z;cases B;obtain⟨G,D,p1,_⟩:=I.tuple L;cases e with
  |non=>
   cases h;cases i;cases ek;exact⟨.tuple_none p1 g,.tuple_none p1 g⟩
  |bl c=>
   cases h;cases i;cases ek;exact⟨.tuple_bool c p1 g,.tuple_bool c p1 g⟩
  |int c=>
   cases h;obtain⟨t2,rfl⟩:=i;cases ek;exact⟨.tuple_int c t2 p1 g,.tuple_int c t2 p1 g⟩
  |str c=>
   obtain⟨rfl,_⟩:=h;obtain⟨t2,rfl⟩:=i;cases ek;exact⟨.tuple_str c t2 p1 g,.tuple_str c t2 p1 g⟩
  |tup c=>
   obtain⟨a2,w,rfl,j,m⟩:=h;cases i;obtain⟨t,l,p2,_⟩:=I.tuple j;change jw _ _=Z _ at ek;obtain⟨f,J,rfl⟩:=su ek;have q1:G.toArray.size=x1.length:=by rw[zw,<-D.length,C.length]
   have q2:t.toArray.size=c.length:=by rw[zw,<-l.length,m.length]
   have it:=Ku I (n:=99) (A:=X.A) (by simp only[wH]at M;omega) () C m D l J;rw[<-q1,<-q2];exact⟨.tuples p1 p2 g it,.tuples p1 p2 g it⟩
  |lst c=>
   obtain⟨a2,w,rfl,j,m⟩:=h;cases i;obtain⟨t,l,p2,_⟩:=I.list j;cases ek;exact⟨.tuple_list p1 p2.isList g,.tuple_list p1 p2.isList g⟩
  |emp=>cases ek
 |lst x1=>
  obtain⟨a1,W,rfl,L,C⟩:=z;cases B;obtain⟨G,D,p1,_⟩:=I.list L;cases e with
  |non=>
   cases h;cases i;cases ek;exact⟨.list_none p1.isList g,.list_none p1.isList g⟩
  |bl c=>
   cases h;cases i;cases ek;exact⟨.list_bool c p1.isList g,.list_bool c p1.isList g⟩
  |int c=>
   cases h;obtain⟨t2,rfl⟩:=i;cases ek;exact⟨.list_int c t2 p1.isList g,.list_int c t2 p1.isList g⟩
  |str c=>
   obtain⟨rfl,_⟩:=h;obtain⟨t2,rfl⟩:=i;cases ek;exact⟨.list_str c t2 p1.isList g,.list_str c t2 p1.isList g⟩
  |tup c=>
   obtain⟨a2,w,rfl,j,m⟩:=h;cases i;obtain⟨t,l,p2,_⟩:=I.tuple j;cases ek;exact⟨.list_tuple p1.isList p2 g,.list_tuple p1.isList p2 g⟩
  |lst c=>
   obtain⟨a2,w,rfl,j,m⟩:=h;cases i;obtain⟨t,l,p2,_⟩:=I.list j;change jw _ _=Z _ at ek;obtain⟨f,J,rfl⟩:=su ek;have q1:G.toArray.size=x1.length:=by rw[zw,<-D.length,C.length]
   have q2:t.toArray.size=c.length:=by rw[zw,<-l.length,m.length]
   have it:=Ku I (n:=99) (A:=X.A) (by simp only[wH]at M;omega) () C m D l J;by_cases F:G.toArray.size=t.toArray.size
   ·have E:x1.length=c.length:=by omega
    rw[E,ez,beq_self_eq_true,ya,<-E,<-q1];exact⟨.lists p1.isList p2.isList F g it,.lists p1.isList p2.isList F g it⟩
   ·have E:(x1.length==c.length)=false:=by rw[beq_eq_false_iff_ne];omega
    rw[E,yA];exact⟨.lists_lengths p1.isList p2.isList (by simpa using F) g,.lists_lengths p1.isList p2.isList (by simpa using F) g⟩
  |emp=>cases ek
 |emp=>
  cases e<;>first|(cases ek;done)|skip;simp only[oN,AW]at z h;obtain⟨a,o,rfl,e1⟩:=z;obtain⟨b,o',rfl,e2⟩:=h;cases B;cases i;cases ek;obtain⟨_,Q,vs,r,q⟩:=rZ I.hok (.inr ⟨o,e1⟩);obtain⟨_,m2,a3,N,P⟩:=rZ I.hok (.inr ⟨o',e2⟩);exact⟨MI Q m2 (wG S r q) (wG S N P) g,OR Q m2 (wG S r q) (wG S N P) g⟩
def Bi(a b:Bx):Y Bx:=if mH a=true\/mH b=true then U else if min (wH (toD a)) (wH (toD b))<=100 then(zp (toD a) (toD b)).bind λk=>Z (.z (.bl k))else U
def Kv(a b:Bx):Y Bx:=if mH a=true\/mH b=true then U else if min (wH (toD a)) (wH (toD b))<=100 then(zp (toD a) (toD b)).bind λk=>Z (.z (.bl (!k)))else U
theorem of_eq(l:X.A.units+100<cLine):FW X (AG .Eq) Bi:=by
 intro AN s σ H x y v u Q I n i h;obtain⟨a,b,c,g,o,e,q⟩:=h;unfold Bi at e;split at e
 ·cases e
 rename_i d;have f:mH a=false:=by cases h:mH a with|false=>rfl|true=>exact absurd (.inl h) d
 have j:mH b=false:=by cases h:mH b with|false=>rfl|true=>exact absurd (.inr h) d
 split at e
 ·rename_i m;obtain⟨k,ek,e⟩:=AT e;cases e;exact(Rr I m l (g.toD f) (o.toD j) n i ek).1 X.prog X.w X.xe _ ⟨.bl k,H,I,rfl,q _ H (AV.refl H) trivial (by unfold aW AW;rfl)⟩
 ·cases e
theorem sI(l:X.A.units+100<cLine):FW X (AG .NotEq) Kv:=by
 intro AN s σ H x y v u Q I n i h;obtain⟨a,b,c,g,o,e,q⟩:=h;unfold Kv at e;split at e
 ·cases e
 rename_i d;have f:mH a=false:=by cases h:mH a with|false=>rfl|true=>exact absurd (.inl h) d
 have j:mH b=false:=by cases h:mH b with|false=>rfl|true=>exact absurd (.inr h) d
 split at e
 ·rename_i m;obtain⟨k,ek,e⟩:=AT e;cases e;exact(Rr I m l (g.toD f) (o.toD j) n i ek).2 X.prog X.w X.xe _ ⟨.bl (!k),H,I,rfl,q _ H (AV.refl H) trivial (by unfold aW AW;rfl)⟩
 ·cases e
theorem zu{i:Int}:aW K H (.z (.int i)) (.int i):=by unfold aW AW;rfl
theorem Kw{b:Bool}:aW K H (.z (.bl b)) (.bl b):=by unfold aW AW;rfl
theorem F3(h:x.length<=AA):aW K H (.z (.str x)) (.str x):=by unfold aW AW;exact⟨rfl,h⟩
theorem Ii{i:Int}(h:aW K H (.z (.int i)) v):v=.int i:=by simpa only[aW,AW]using h
theorem T6(h:aW K H (.z (.str x)) v):v=.str x/\x.length<=AA:=by simpa only[aW,AW]using h
theorem F1(h:aW K H (.z (.tup ds)) v):∃a vs,v=.ref a/\wj K H a vs/\aG K H ds vs:=by simpa only[aW,AW]using h
def i2(g:Int->Int->Y Dt):Bx->Bx->Y Bx
 |.z (.int i),.z (.int j)=>(g i j).bind λd=>Z (.z d)
 |_,_=>U
theorem Gg{f:A0->A0->Sem A0}{r:R2}{g:Int->Int->Y Dt}(l:vX X f r)(h:∀i j d H Q,g i j=Z d->(∀v,AW X.K H d v->Q v H)->r (.int i) (.int j) H Q):FW X f (i2 g):=vX.imp l λx y H Q q=>by
 obtain⟨a,b,c,m,p,e,q⟩:=q;unfold i2 at e;split at e
 ·rename_i i j;obtain⟨d,o,e⟩:=AT e;cases e;rw[Ii m,Ii p];exact h i j d H Q o λv n=>q v H (AV.refl H) trivial n
 ·cases e
theorem F0{i:Int}:AW K H (.int i) (.int i):=by unfold AW;rfl
theorem FS{b:Bool}:AW K H (.bl b) (.bl b):=by unfold AW;rfl
abbrev EB:=i2 λi j=>Z (.int (i-j))
abbrev FD:=i2 λi j=>Z (.bl (decide (j<i)))
abbrev GW:=i2 λi j=>Z (.bl (decide (j<=i)))
abbrev nP:=i2 λi j=>if 0<j/\j<1073741824 then Z (.int (i / j))else U
abbrev iW:=i2 λi j=>if 0<j then Z (.int (i%j))else U
abbrev Fh:=i2 λi j=>if 0<=j/\j<=1000/\i.natAbs<2 ^ 64 then Z (.int (i ^ j.toNat))else U
theorem P9:FW X (binaryOp .Sub) EB:=Gg Tu λi j d H Q e q=>by cases e;exact⟨i,j,rfl,rfl,q _ F0⟩
theorem Lc:FW X (AG .Gt) FD:=Gg OB λi j d H Q e q=>by cases e;exact⟨i,j,rfl,rfl,q _ FS⟩
theorem Mb:FW X (AG .GtE) GW:=Gg Sa λi j d H Q e q=>by cases e;exact⟨i,j,rfl,rfl,q _ FS⟩
theorem jf:FW X (binaryOp .FloorDiv) nP:=Gg Zo λi j d H Q e q=>by
 split at e
 ·rename_i h;cases e;exact⟨i,j,rfl,rfl,h,q _ F0⟩
 ·cases e
theorem cT:FW X (binaryOp .Mod) iW:=Gg RU λi j d H Q e q=>by
 split at e
 ·rename_i h;cases e;exact⟨i,j,rfl,rfl,h,q _ F0⟩
 ·cases e
theorem Pl:FW X (binaryOp .Pow) Fh:=Gg NN λi j d H Q e q=>by
 split at e
 ·rename_i h;cases e;exact⟨i,j,rfl,rfl,⟨h.1,by omega,h.2.2⟩,q _ F0⟩
 ·cases e
def Ww:Bx->Y Bx
 |.z (.int i)=>Z (.z (.int (-i)))
 |_=>U
theorem WU:LP X (unaryOp .USub) Ww:=D6.imp RC λx H Q q=>by
 obtain⟨a,c,b,e,q⟩:=q;unfold Ww at e;split at e
 ·rename_i i;cases e;exact⟨i,Ii b,q _ H (AV.refl H) trivial zu⟩
 ·cases e
def OD:Nat:=1000000
theorem NL:OD<=AA:=by decide
theorem Sm{b:A1}{us:O V}{Q:VK}(I:L2.AU X AN σ H s)(t:rJ X.K H l vs)(u:rJ X.K H b us)(m:vs.length+us.length<=AA)(q:∀p,H p=U->Q (.ref p) (B4 H p (.lst (vs++us)))):
  A7 (bi X) X.A (binaryOp .Add (.ref l) (.ref b)) (EP X AN σ Q) X.xe s:=by
 obtain⟨AQ,f,⟨⟨cls,z,D,sl⟩,j,e1,c1,h,d⟩,z1⟩:=I.list t;obtain⟨a,g,⟨⟨cls2,C,y,i⟩,n,e2,c2,d2,c⟩,z2⟩:=I.list u;simp only at c1 h d c2 d2 c;subst c1 h d c2 d2 c;have v:=f.length;have x:=g.length;have e:AQ.toArray++a.toArray=(AQ++a).toArray:=by simp
 refine concat_meets ⟨_,e1,rfl⟩ ⟨_,e2,rfl⟩ noFill_list_add seq_list_add PySem.F.slot_list_add PySem.F.entry_list_add (PySem.F.args_list_add_2 _ _) (list_addW l b AQ.toArray a.toArray j n U U sl i (by rw[zw,zw];omega)) ⟨e1,e2,?_⟩;rw[e];exact⟨.ref s.heap.objs.size,_,I.laid (t':=s.toks) (o:=.lst (vs++us)) (λb B q=>zh _ q) (zk _) ⟨by rw[zC];exact m,_,0,f.append g,zt _ rfl⟩,rfl,q _ (I.hok.fresh (zk _))⟩
theorem SV{b:A1}{us:O V}{Q:VK}(I:L2.AU X AN σ H s)(e:wj X.K H l vs)(f:wj X.K H b us)(h:vs.length+us.length<=AA)(q0:vs=[]->Q (.ref b) H)(q1:us=[]->Q (.ref l) H)(q2:∀p,H p=U->Q (.ref p) (B4 H p (.tup (vs++us)))):
  A7 (bi X) X.A (binaryOp .Add (.ref l) (.ref b)) (EP X AN σ Q) X.xe s:=by
 by_cases a:vs=[]
 ·obtain⟨AQ,n,⟨⟨cls,g,t,sl⟩,e1,c1,q,d⟩,z1⟩:=I.tuple e;obtain⟨m,v,⟨⟨cls2,j,u,o⟩,e2,c2,i,c⟩,z2⟩:=I.tuple f;simp only at c1 d c2 c;subst c1 d c2 c;have:AQ=[]:=n.zK.mpr a;exact concat_meets ⟨_,e1,rfl⟩ ⟨_,e2,rfl⟩ noFill_tuple_add seq_tuple_add PySem.F.slot_tuple_add YV (YE _ _)
   (tuple_addW0 l b AQ.toArray m.toArray q i g j sl o (by simp[this])) ⟨e1,e2,⟨.ref b,H,I,rfl,q0 a⟩⟩
 ·exact Zz AN s σ H (.ref l) (.ref b) (.ref l) (.ref b) Q I S S ⟨l,b,vs,us,rfl,rfl,e,f,a,h,q1,λ_=>q2⟩
def fG:Bx->Bx->Y Bx
 |.z (.int i),.z (.int j)=>Z (.z (.int (i+j)))
 |.z (.str i),.z (.str j)=>if i.length+j.length<=OD then Z (.z (.str (i++j)))else U
 |.z (.tup xs),.z (.tup ys)=>if xs.length+ys.length<=OD then Z (.z (.tup (xs++ys)))else U
 |a,b=>(nD a).bind λxs=>(nD b).bind λys=>if xs.length+ys.length<=OD then Z (.o (xs++ys))else U
theorem Cf(i j:AJ):(i++j).length=i.length+j.length:=by
 show(i.cps++j.cps).size=_;rw[k6];rfl
theorem cU:FW X (binaryOp .Add) fG:=by
 intro AN s σ H x y v u Q I o n h;obtain⟨a,b,c,g,w,e,q⟩:=h;have B:=NL;unfold fG at e;split at e
 ·rename_i i j;cases e;exact O3 AN s σ H x y v u Q I o n ⟨i,j,Ii g,Ii w,q _ H (AV.refl H) trivial zu⟩
 ·rename_i i j;split at e
  ·rename_i A;cases e;exact Oc AN s σ H x y v u Q I o n ⟨i,j,(T6 g).1,(T6 w).1,by omega,q _ H (AV.refl H) trivial (F3 (by rw[Cf];omega))⟩
  ·cases e
 ·rename_i xs ys;split at e
  ·rename_i A;cases e;obtain⟨l,vs,rfl,sl,d⟩:=F1 g;obtain⟨m,us,rfl,t,f⟩:=F1 w;cases o;cases n;have h1:=d.length;have h2:=f.length;refine SV I sl t () (λz=>q _ H (AV.refl H) trivial ?_) (λz=>q _ H (AV.refl H) trivial ?_) λp hp=>q _ _ (bw hp) trivial ?_
   ·unfold aW AW;refine⟨m,us,rfl,t,?_⟩;have:xs=[]:=by subst z;exact df (by simpa using h1.symm)
    rw[this,eP];exact f
   ·unfold aW AW;refine⟨l,vs,rfl,sl,?_⟩;have:ys=[]:=by subst z;exact df (by simpa using h2.symm)
    rw[this,QE];exact d
   ·unfold aW AW;exact⟨p,_,rfl,.inl (.inl aJ),(d.append f).kp (.of (bw hp))⟩
  ·cases e
 ·obtain⟨xs,ea,e⟩:=AT e;obtain⟨ys,eb,e⟩:=AT e;split at e
  ·rename_i A;cases e;obtain⟨l,vs,rfl,sl,d⟩:=g.DW ea;obtain⟨m,us,rfl,t,f⟩:=w.DW eb;cases o;cases n;have h1:=d.length;have h2:=f.length;refine Sm I sl t () λp hp=>q _ _ (bw hp) (λa ea=>by cases ea;exact hp) ⟨p,_,rfl,aJ,(d.append f).kp (.of (bw hp))⟩
  ·cases e
def sJ:Bx->Bx->Y Bx
 |.z (.int i),.z (.int j)=>if(-(2 ^ 64)<i/\i<2 ^ 64)\/(-(2 ^ 64)<j/\j<2 ^ 64)then Z (.z (.int (i*j)))else U
 |.z (.str x),.z (.int n)=>if n<=1000 ∧ -1000<=n/\x.length<=1000 then Z (.z (.str (Txt.mul x n)))else U
 |_,_=>U
theorem uU(x:Array Nat):∀(n:Nat) (a:Array Nat),((ay n x).foldl (·++·) a).size=a.size+n*x.size
 |0,a=>by simp
 |n+1,a=>by
  rw[fN,Qb,uU x n,k6,gc];omega
theorem Ij(x:AJ)(n:Int):(Txt.mul x n).length<=n.toNat*x.length+x.length:=by
 unfold Txt.mul;split
 ·exact qh _
 ·split
  ·exact Nat.le_add_left _ _
  ·show((ay n.toNat x.cps).foldl (·++·) #[]).size<=_;rw[uU];show(#[]:Array Nat).size+n.toNat*x.cps.size<=n.toNat*x.cps.size+x.cps.size;simp
theorem mJ:FW X (binaryOp .Mult) sJ:=by
 intro AN s σ H x y v u Q I m l h;obtain⟨a,b,c,g,o,e,q⟩:=h;unfold sJ at e;split at e
 ·rename_i i j;split at e
  ·rename_i d;cases e;exact Uf AN s σ H x y v u Q I m l ⟨i,j,Ii g,Ii o,d,q _ H (AV.refl H) trivial zu⟩
  ·cases e
 ·rename_i f n;split at e
  ·rename_i d;cases e;obtain⟨rfl,hx⟩:=T6 g;have p:=Ii o;subst p;obtain⟨t,rfl⟩:=m;obtain⟨w,rfl⟩:=l;have hs:AA=16777216:=sizeLine_eq;have A:n.toNat*f.length<=1000*1000:=Nat.mul_le_mul () d.2.2;refine SB.mul ⟨?_,λh1 h2=>?_,λh1 h2=>?_⟩ λw k=>⟨.str _,H,I.tok _,⟨_,rfl⟩,q _ H (AV.refl H) trivial (F3 (Zs (Ij f n) ()))⟩
   ·have e1:decide (n < -(2 ^ 63:Int))=false:=ZZ ();have e2:decide (n>=2 ^ 63)=false:=ZZ ();rw[e1,e2];rfl
   ·have z:0<n:=by omega
    have:(1000:Int)<=(2 ^ 63-1) / n:=(Int.le_ediv_iff_mul_le z).mpr ();omega
   ·show decide (f.length*n.toNat>AA)=false;rw[gd];exact ZZ ()
  ·cases e
 ·cases e
def Iq(i j:AJ):Bool:=!(Builtin.Str.occurrences j i 0 j.length 1).isEmpty
def wJ:Dt->Bool
 |.non=>true
 |.bl _=>true
 |.int _=>true
 |.str _=>true
 |_=>false
def CF(x:Dt)(ys:O Dt):Y Bool:=if wJ x=true/\ys.all wJ=true then Z (ys.any λy=>match zp y x with|some true=>true|_=>false)else U
def oO:Bx->Y (O Dt)
 |.z (.lst ds)=>Z ds
 |.z (.tup ds)=>Z ds
 |.l ds=>Z ds
 |.o ds=>Z ds
 |_=>U
def EE:Bx->Bx->Y Bool
 |.z (.str i),.z (.str j)=>Z (Iq i j)
 |.z d,b=>(oO b).bind λys=>CF d ys
 |_,_=>U
def Cs(a b:Bx):Y Bx:=(EE a b).bind λk=>Z (.z (.bl k))
def Wy(a b:Bx):Y Bx:=(EE a b).bind λk=>Z (.z (.bl (!k)))
theorem Kz(r:AW K H d v)(f:wJ d=true):q9 v=true:=by
 cases d<;>first|(cases f;done)|skip
 all_goals simp only[AW]at r
 ·subst r;rfl
 ·subst r;rfl
 ·subst r;rfl
 ·obtain⟨rfl,_⟩:=r;rfl
theorem Gh{K:Au}{H:Hp}:∀{ds:O Dt} {vs:O V},aG K H ds vs->ds.all wJ=true->vs.all q9=true
 |[],_,h,_=>by simp only[aG]at h;subst h;rfl
 |d::ds,_,h,f=>by
  simp only[aG]at h;obtain⟨v,r,rfl,h1,h2⟩:=h;rw[kL,qo]at f;rw[kL,Kz h1 f.1,Gh h2 f.2];rfl
theorem Ik(b:Bool):(match Z b with|some true=>true|_=>false)=b:=by cases b<;>rfl
theorem T2{e:Dt}{x y:V}(a:AW K H d x)(b:AW K H e y)(fd:wJ d=true)(fe:wJ e=true):ZG x y=(match zp d e with|some true=>true|_=>false):=by
 cases d<;>first|(cases fd;done)|skip
 all_goals (cases e<;>first|(cases fe;done)|skip)
 all_goals simp only[AW]at a b
 all_goals first
  |(subst a;subst b;exact(Ik _).symm)
  |(obtain⟨rfl,_⟩:=a;subst b;exact(Ik _).symm)
  |(subst a;obtain⟨rfl,_⟩:=b;exact(Ik _).symm)
  |(obtain⟨rfl,_⟩:=a;obtain⟨rfl,_⟩:=b;exact(Ik _).symm)
theorem Rt{K:Au}{H:Hp}{d:Dt}{x:V}(a:AW K H d x)(fd:wJ d=true):∀{ds:O Dt} {vs:O V},aG K H ds vs->ds.all wJ=true->F6 x vs=ds.any λy=>match zp y d with|some true=>true|_=>false
 |[],_,h,_=>by simp only[aG]at h;subst h;rfl
 |e::ds,_,h,f=>by
  simp only[aG]at h;obtain⟨v,r,rfl,h1,h2⟩:=h;rw[kL,qo]at f;have:=Rt a fd h2 f.2;unfold F6 at this ⊢;rw[ki,ki,T2 h1 a f.1 fd,this]
theorem sO(h:aW K H b v)(e:oO b=Z ds):∃a vs,v=.ref a/\(rJ K H a vs\/wj K H a vs)/\aG K H ds vs:=by
 cases b with
 |z d=>
  cases d<;>first|(cases e;done)|skip
  ·cases e;obtain⟨a,vs,e,q,r⟩:=F1 h;exact⟨a,vs,e,.inr q,r⟩
  ·cases e;obtain⟨a,vs,e,q,r⟩:=h.DW rfl;exact⟨a,vs,e,.inl q,r⟩
 |l c=>
  cases e;obtain⟨a,vs,e,q,r⟩:=h.DW rfl;exact⟨a,vs,e,.inl q,r⟩
 |o c=>
  cases e;obtain⟨a,vs,e,q,r⟩:=h.DW rfl;exact⟨a,vs,e,.inl q,r⟩
 |n _=>cases e
 |m _ _=>cases e
theorem Gi{a:Bx}{x y:V}{k:Bool}(g:aW X.K H a x)(l:aW X.K H b y)(e:EE a b=Z k):
  (∃i j,x=.str i/\y=.str j/\k=Iq i j)\/(∃p xs,y=.ref p/\(rJ X.K H p xs\/wj X.K H p xs)/\q9 x=true/\xs.all q9=true/\k=F6 x xs):=by
 unfold EE at e;split at e
 ·rename_i i j;cases e;exact .inl ⟨i,j,(T6 g).1,(T6 l).1,rfl⟩
 ·rename_i d _;obtain⟨ys,m,e⟩:=AT e;unfold CF at e;split at e
  ·rename_i c;cases e;obtain⟨p,vs,rfl,sq,f⟩:=sO l m;have h:AW X.K H d x:=g;exact .inr ⟨p,vs,rfl,sq,Kz h c.1,Gh f c.2,(Rt h c.1 f c.2).symm⟩
  ·cases e
 ·cases e
theorem Ru:FW X (AG .In) Cs:=by
 intro AN s σ H x y v u Q I d f h;obtain⟨a,b,c,g,l,e,q⟩:=h;obtain⟨k,ek,e⟩:=AT e;cases e;rcases Gi g l ek with⟨i,j,rfl,rfl,rfl⟩|⟨p,xs,rfl,sq,f1,f2,rfl⟩
 ·exact Tq AN s σ H _ _ v u Q I d f ⟨i,j,rfl,rfl,q _ H (AV.refl H) trivial Kw⟩
 ·exact Tv AN s σ H _ _ v u Q I d f ⟨p,xs,rfl,sq,f1,f2,q _ H (AV.refl H) trivial Kw⟩
theorem KC:FW X (AG .NotIn) Wy:=by
 intro AN s σ H x y v u Q I d f h;obtain⟨a,b,c,g,l,e,q⟩:=h;obtain⟨k,ek,e⟩:=AT e;cases e;rcases Gi g l ek with⟨i,j,rfl,rfl,rfl⟩|⟨p,xs,rfl,sq,f1,f2,rfl⟩
 ·exact HD AN s σ H _ _ v u Q I d f ⟨i,j,rfl,rfl,q _ H (AV.refl H) trivial Kw⟩
 ·exact HB AN s σ H _ _ v u Q I d f ⟨p,xs,rfl,sq,f1,f2,q _ H (AV.refl H) trivial Kw⟩
def OJ:Bx->Bool
 |.z .non=>true
 |_=>false
theorem T7(h:aW K H b v):decide (v=.non)=OJ b:=by
 cases b with
 |z d=>
  cases d<;>simp only[aW,AW]at h
  ·subst h;rfl
  ·subst h;rfl
  ·subst h;rfl
  ·obtain⟨rfl,_⟩:=h;rfl
  ·obtain⟨_,_,rfl,_⟩:=h;rfl
  ·obtain⟨_,_,rfl,_⟩:=h;rfl
  ·obtain⟨_,_,rfl,_⟩:=h;rfl
 |l ds=>obtain⟨_,_,rfl,_⟩:=h;rfl
 |o ds=>obtain⟨_,_,rfl,_⟩:=h;rfl
 |n ds=>obtain⟨_,_,rfl,_⟩:=h;rfl
 |m ds _=>obtain⟨_,_,rfl,_⟩:=h;rfl
def EV(a:Bx):Bx->Y Bx
 |.z .non=>Z (.z (.bl (OJ a)))
 |_=>U
theorem EL:FW X (AG .Is) EV:=vX.imp VV λx y H Q q=>by
 obtain⟨a,b,c,f,d,e,q⟩:=q;unfold EV at e;split at e
 ·cases e;simp only[aW,AW]at d;exact⟨d,by rw[T7 f];exact q _ H (AV.refl H) trivial Kw⟩
 ·cases e
def uz:Bx->Bx->Y Bx
 |.z (.str x),.z (.int i)=>(Aj x.cps.toList i).bind λc=>Z (.z (.str ⟨#[c]⟩))
 |b,.z (.int i)=>(oO b).bind λds=>(Aj ds i).bind λd=>Z (.z d)
 |_,_=>U
theorem SY{i:Int}(r:aG K H ds vs)(e:Aj ds i=Z d):∃v,Aj vs i=Z v/\AW K H d v:=by
 unfold Aj at e ⊢;rw[r.length];obtain⟨j,a,e⟩:=AT e;rw[a];exact r.get e
theorem f9{a b:Expr}(j:QV X a fa)(m:QV X b fb)(hs:Rh b:=by intro _ _;with_unfolding_all rfl):QV X (.Subscript a b pos) (b2 uz fa fb):=⟨have j:=j.run;have m:=m.run;DX (VJ UZ j m hs) λσ H Q h=>by
 obtain⟨H0,ρ,c,E,e,q⟩:=h;obtain⟨a,ea,e⟩:=AT e;obtain⟨b,eb,e⟩:=AT e;refine⟨H0,ρ,a,E,ea,λv H1 f D z=>⟨H0,ρ,b,E.grow f,eb,λu H2 g C s=>?_⟩⟩;have l:=z.same g;unfold uz at e;split at e
 ·rename_i x i;obtain⟨c',t,e⟩:=AT e;cases e;exact .inr (.inr ⟨_,_,c',(T6 l).1,Ii s,(T6 l).2,t,q _ _ (f.trans g) trivial (F3 (by show(1:Nat)<=AA;decide))⟩)
 ·obtain⟨ds,B,e⟩:=AT e;obtain⟨d,A,e⟩:=AT e;cases e;obtain⟨p,vs,rfl,sq,y⟩:=sO l B;obtain⟨w,o,n⟩:=SY y A;have hi:=Ii s;rcases sq with sq|sq
  ·exact .inl ⟨p,vs,_,w,rfl,hi,sq,o,q _ _ (f.trans g) trivial n⟩
  ·exact .inr (.inl ⟨p,vs,_,w,rfl,hi,sq,o,q _ _ (f.trans g) trivial n⟩)
 ·cases e⟩
theorem PP:AH "int"=Z (.type "int"):=by decide +kernel
theorem jQ:AH "tuple"=Z (.type "tuple"):=by decide +kernel
theorem Il:AH "list"=Z (.type "list"):=by decide +kernel
theorem uV:AH "isinstance"=Z (.builtin "isinstance"):=by decide +kernel
theorem eG:AH "len"=Z (.builtin "len"):=by decide +kernel
theorem X0:AH "abs"=Z (.builtin "abs"):=by decide +kernel
theorem Wz:AH "any"=Z (.builtin "any"):=by decide +kernel
theorem WD:AH "min"=Z (.builtin "min"):=by decide +kernel
theorem WK:AH "max"=Z (.builtin "max"):=by decide +kernel
theorem dO:AH "sorted"=Z (.builtin "sorted"):=by decide +kernel
def jg:Dt->Bool
 |.tup _=>true
 |_=>false
theorem T8(I:L2.AU X AN σ H s){x:V}{v:A0}{Q:VK}(f:oN X.K H d x)(g:At x v)(q:Q (.bl (jg d)) H):A7 (bi X) X.A (call (.builtin "isinstance") [v,.type "tuple"]) (EP X AN σ Q) X.xe s:=by
 cases d with
 |non=>simp only[oN,AW]at f;subst f;cases g;exact IsiPair.NoneType_tuple ⟨.bl _,H,I.tok _,rfl,q⟩
 |bl b=>simp only[oN,AW]at f;subst f;cases g;exact IsiPair.bool_tuple ⟨.bl _,H,I.tok _,rfl,q⟩
 |int b=>simp only[oN,AW]at f;subst f;obtain⟨t,rfl⟩:=g;exact IsiPair.int_tuple ⟨.bl _,H,I.tok _,rfl,q⟩
 |str b=>simp only[oN,AW]at f;obtain⟨rfl,_⟩:=f;obtain⟨t,rfl⟩:=g;exact IsiPair.str_tuple ⟨.bl _,H,I.tok _,rfl,q⟩
 |tup ds=>simp only[oN,AW]at f;obtain⟨a,vs,rfl,sq,_⟩:=f;cases g;obtain⟨_,_,p,_⟩:=I.tuple sq;exact IsiPair.isTuple_tuple p (λ_ _ e=>e) ⟨.bl _,H,I,rfl,q⟩
 |lst ds=>simp only[oN]at f;obtain⟨a,vs,rfl,sq,_⟩:=f;cases g;obtain⟨_,_,p,_⟩:=I.list sq;exact IsiPair.isList_tuple p.isList (λ_ _ e=>e) ⟨.bl _,H,I.tok _,rfl,q⟩
 |emp=>simp only[oN,AW]at f;obtain⟨a,o,rfl,sq⟩:=f;cases g;obtain⟨h,e,c⟩:=ux I sq;exact IsiPair.dict_tuple e c ⟨.bl _,H,I.tok _,rfl,q⟩
theorem Im{p:Pos}(he:QV X e f)(w:Gl X "isinstance")(n:X.mg "isinstance"=U)(m:Gl X "tuple")(t:X.mg "tuple"=U)(hs:A9 [e,.Name "tuple" p2] X.env=[(false,eval e X.env),(false,eval (.Name "tuple" p2) X.env)]:=by rfl):QV X (.Call (.Name "isinstance" p) [e,.Name "tuple" p2] [] pos) (b1 (λb=>if mH b=true then U else Z (.z (.bl (jg (toD b))))) f):=⟨by
 have he:=he.run;have l:eY X (.builtin "isinstance") (λxs H Q=>∃b x,xs=[x,.ty "tuple"]/\aW X.K H b x/\mH b=false/\Q (.bl (jg (toD b))) H):=by
  intro AN s σ H xs us Q I r h;obtain⟨b,x,rfl,y,j,q⟩:=h;obtain⟨u,B,rfl,a,o⟩:=D5 r;cases o;exact T8 I (y.toD j) a q
 have g:PA X [e,.Name "tuple" p2] (o7 (tF X.K f) (o7 (tC (.ty "tuple")) Ag)):=dR he (dR (Q6 m t (v:=.ty "tuple") (u:=.type "tuple") jQ S) jc) (by rw[hs]<;>rfl);refine DX (wz l w n uV g () () (by rw[hs]<;>rfl) S) λσ H Q h=>?_;obtain⟨H0,ρ,c,E,e,q⟩:=h;obtain⟨b,eb,e⟩:=AT e;split at e
 ·cases e
 rename_i i;cases e;exact⟨H0,ρ,b,E,eb,λv H1 d A a=>⟨b,v,rfl,a,by simpa using i,q _ _ d trivial Kw⟩⟩⟩
def BN:Dt->Bool
 |.lst _=>true
 |_=>false
theorem WL(I:L2.AU X AN σ H s){x:V}{v:A0}{Q:VK}(f:oN X.K H d x)(g:At x v)(q:Q (.bl (BN d)) H):A7 (bi X) X.A (call (.builtin "isinstance") [v,.type "list"]) (EP X AN σ Q) X.xe s:=by
 cases d with
 |non=>simp only[oN,AW]at f;subst f;cases g;exact IsiPair.NoneType_list ⟨.bl _,H,I.tok _,rfl,q⟩
 |bl b=>simp only[oN,AW]at f;subst f;cases g;exact IsiPair.bool_list ⟨.bl _,H,I.tok _,rfl,q⟩
 |int b=>simp only[oN,AW]at f;subst f;obtain⟨t,rfl⟩:=g;exact IsiPair.int_list ⟨.bl _,H,I.tok _,rfl,q⟩
 |str b=>simp only[oN,AW]at f;obtain⟨rfl,_⟩:=f;obtain⟨t,rfl⟩:=g;exact IsiPair.str_list ⟨.bl _,H,I.tok _,rfl,q⟩
 |tup ds=>simp only[oN,AW]at f;obtain⟨a,vs,rfl,sq,_⟩:=f;cases g;obtain⟨_,_,p,_⟩:=I.tuple sq;exact IsiPair.isTuple_list p (λ_ _ e=>e) ⟨.bl _,H,I.tok _,rfl,q⟩
 |lst ds=>simp only[oN]at f;obtain⟨a,vs,rfl,sq,_⟩:=f;cases g;obtain⟨_,_,p,_⟩:=I.list sq;exact IsiPair.isList_list p.isList (λ_ _ e=>e) ⟨.bl _,H,I,rfl,q⟩
 |emp=>simp only[oN,AW]at f;obtain⟨a,o,rfl,sq⟩:=f;cases g;obtain⟨h,e,c⟩:=ux I sq;exact IsiPair.dict_list e c ⟨.bl _,H,I.tok _,rfl,q⟩
theorem KD{p:Pos}(he:QV X e f)(w:Gl X "isinstance")(n:X.mg "isinstance"=U)(m:Gl X "list")(t:X.mg "list"=U)(hs:A9 [e,.Name "list" p2] X.env=[(false,eval e X.env),(false,eval (.Name "list" p2) X.env)]:=by rfl):QV X (.Call (.Name "isinstance" p) [e,.Name "list" p2] [] pos) (b1 (λb=>if mH b=true then U else Z (.z (.bl (BN (toD b))))) f):=⟨by
 have he:=he.run;have l:eY X (.builtin "isinstance") (λxs H Q=>∃b x,xs=[x,.ty "list"]/\aW X.K H b x/\mH b=false/\Q (.bl (BN (toD b))) H):=by
  intro AN s σ H xs us Q I r h;obtain⟨b,x,rfl,y,j,q⟩:=h;obtain⟨u,B,rfl,a,o⟩:=D5 r;cases o;exact WL I (y.toD j) a q
 have g:PA X [e,.Name "list" p2] (o7 (tF X.K f) (o7 (tC (.ty "list")) Ag)):=dR he (dR (Q6 m t (v:=.ty "list") (u:=.type "list") Il S) jc) (by rw[hs]<;>rfl);refine DX (wz l w n uV g () () (by rw[hs]<;>rfl) S) λσ H Q h=>?_;obtain⟨H0,ρ,c,E,e,q⟩:=h;obtain⟨b,eb,e⟩:=AT e;split at e
 ·cases e
 rename_i i;cases e;exact⟨H0,ρ,b,E,eb,λv H1 d A a=>⟨b,v,rfl,a,by simpa using i,q _ _ d trivial Kw⟩⟩⟩
def Sb(K:Au)(f:Ev->Y (Y Int)):TO:=λσ H Q=>∃H0 ρ o,aX K H0 H σ ρ/\f ρ=Z o/\∀H',AV H H'->Q o H'
def S'(X:Cx)(e:Y Expr)(f:Ev->Y (Y Int)):Prop:=PO X e (Sb X.K f)
structure FL (X:Cx) (e:Option Expr) (f:Ev->Option (Option Int)):Prop where
 run:S' X e f
theorem ML{e:Y Expr}{t t':TO}(h:PO X e t)(m:∀ σ H Q,t' σ H Q->t σ H Q):PO X e t':=λAN s σ H Q I q=>h AN s σ H Q I (m σ H Q q)
def sS:Ev->Y (Y Int):=λ_=>Z U
theorem pJ  :FL X U sS:=⟨ML Zx λσ H Q h=>by
 obtain⟨H0,ρ,o,E,e,q⟩:=h;cases e;exact q H (AV.refl H)⟩
def GG:Bx->Y (Y Int)
 |.z (.int i)=>Z (Z i)
 |_=>U
def wK(f:Ev->Y Bx):Ev->Y (Y Int):=λρ=>(f ρ).bind GG
theorem pK(h:QV X e f):FL X (Z e) (wK f):=⟨have h:=h.run;ML (Zy h) λσ H Q q=>by
 obtain⟨H0,ρ,o,E,e,q⟩:=q;obtain⟨b,eb,e⟩:=AT e;refine⟨H0,ρ,b,E,eb,λv H1 a d c=>?_⟩;unfold GG at e;split at e
 ·rename_i i;cases e;exact⟨i,Ii c,q H1 a⟩
 ·cases e⟩
def C1(xs:O Dt)(lo hi:Y Int):O Dt:=(xs.drop (HT.fZ xs.length 0 lo)).take (HT.fZ xs.length xs.length hi-HT.fZ xs.length 0 lo)
theorem KH(r:aG K H ds vs)(lo hi:Y Int):aG K H (C1 ds lo hi) (J5 vs lo hi):=by
 unfold C1 J5;rw[r.length];exact(r.drop _).take _
theorem WM(ds:O Dt)(h1:HT.fZ ds.length 0 lo=0)(h2:HT.fZ ds.length ds.length hi=ds.length):C1 ds lo hi=ds:=by
 unfold C1;rw[h1,h2];simp
theorem wL{t sl:A1}{b c:A0}{Q:B7}(a:IsTup s.heap t items)(hs:s.heap.IsSliceOf sl b c .none)(pl:IsPart b lo)(e:IsPart c hi)(h1:HT.fZ items.size 0 lo=0)(h2:HT.fZ items.size items.size hi=items.size)(h:Q (.ref t) s):A7 (A8 prog w) A (getItem (.ref t) (.ref sl)) Q E s:=by
 obtain⟨os,d,i,j⟩:=id hs;have f:s.TypeIs (.ref sl) "slice":=⟨os,d,i⟩;unfold getItem
 try with_reducible refine qB ?_
 first|refine zb (zd ?_)|skip
 refine zb (wpAny_sequenceKey a.typeIs () ?_);refine zb (YU (name:=Str.ofString "__getitem__") a.typeIs PyProof.Rows.slot_tuple_getitem
  (Q3 PyProof.Rows.slot_tuple_getitem a.typeIs entry_tuple_getitem ?_ (args_tuple_getitem _ _)))
 show A7 _ _ (Builtin.Tuple.tupleItemsOf (.ref t) >>= _) _ _ s;refine zb (tupleItemsOf_ a ?_);refine zb (Q1 f ?_);rw[zl ()];refine zb (HT.o8 hs pl e ?_);have g:(((HT.fZ items.size 0 lo:Nat):Int)==0&&(1:Int)==1&&(HT.fZ items.size items.size hi-HT.fZ items.size 0 lo)==items.size)=true:=by
  rw[h1,h2];simp
 show A7 _ _ (if(((HT.fZ items.size 0 lo:Nat):Int)==0&&(1:Int)==1&&(HT.fZ items.size items.size hi-HT.fZ items.size 0 lo)==items.size)=true then _ else _) _ _ s;rw[zl g]
 first
  |refine zb (zb (Q1 a.typeIs (zd ?_)))
  |refine zb (Q1 a.typeIs (zb (zd ?_)))
  |refine zb (Q1 a.typeIs ?_)
 rw[zl ()]
 first
  |exact zb (kg (zd ⟨_,rfl,zd h⟩))
  |exact zb (kg (zb (zd (zd ⟨_,rfl,zd h⟩))))
def DM(b:Bx)(lo hi:Y Int):Y Bx:=match b with
 |.z (.str x)=>Z (.z (.str (Txt.slice x lo hi)))
 |.z (.tup ds)=>Z (.z (.tup (C1 ds lo hi)))
 |b=>(nD b).bind λds=>Z (.o (C1 ds lo hi))
def MV(K:Au):V->Y Int->Y Int->Hp->VK->Prop:=λx lo hi H Q=>∃b c,aW K H b x/\DM b lo hi=Z c/\∀w H',AV H H'->Nw H c w->aW K H' c w->Q w H'
theorem S4:FM X (MV X.K):=by
 intro AN s σ H x v B J lo hi sl Q I w hs pl g h;obtain⟨b,c,z,e,q⟩:=h;unfold DM at e;split at e
 ·rename_i y;cases e;obtain⟨rfl,d⟩:=T6 z;obtain⟨t,rfl⟩:=w;refine⟨"str", _,F.slot_str_getitem.lookup,typeIs_str _ _ _,?_⟩;obtain⟨o,e1,e2,e3⟩:=hs;have n:∀D k,EP X AN σ Q (.str (Txt.slice y lo hi) D) { s with toks:=k }:=λD k=>⟨.str _,H,I.tok _,⟨_,rfl⟩,q _ H (AV.refl H) trivial (F3 (Zs (Txt.slice_le y _ _) d))⟩;cases pl with
  |none=>
   cases g with
   |none=>exact KA (l:=U) (u:=U) (st:=U) ⟨o,e1,e2,e3⟩ S (post_val_or_str ⟨Zs (Txt.slice_le y _ _) d,n⟩)
   |int j A=>exact KA (l:=U) (u:=Z (j,A)) (st:=U) ⟨o,e1,e2,e3⟩ S (post_val_or_str ⟨Zs (Txt.slice_le y _ _) d,n⟩)
  |int i E=>
   cases g with
   |none=>exact KA (l:=Z (i,E)) (u:=U) (st:=U) ⟨o,e1,e2,e3⟩ S (post_val_or_str ⟨Zs (Txt.slice_le y _ _) d,n⟩)
   |int j A=>exact KA (l:=Z (i,E)) (u:=Z (j,A)) (st:=U) ⟨o,e1,e2,e3⟩ S (post_val_or_str ⟨Zs (Txt.slice_le y _ _) d,n⟩)
 ·rename_i ds;cases e;obtain⟨a,vs,rfl,sq,f⟩:=F1 z;by_cases m:HT.fZ vs.length 0 lo=0/\HT.fZ vs.length vs.length hi=vs.length
  ·cases w;obtain⟨AQ,r,G,M⟩:=I.tuple sq;have C:AQ.toArray.size=vs.length:=by rw[zw];exact r.length.symm
   refine⟨"tuple", _,PyProof.Rows.slot_tuple_getitem.lookup,G.typeIs,wL G hs pl g (by rw[C];exact m.1) (by rw[C];exact m.2) ⟨.ref a,H,I,rfl,q _ H (AV.refl H) trivial ?_⟩⟩;rw[WM ds (by rw[<-f.length];exact m.1) (by rw[<-f.length];exact m.2)];exact z
  ·refine XZ AN s σ H _ v B J lo hi sl Q I w hs pl g ⟨a,vs,rfl,sq,m,λp hp=>q _ _ (bw hp) trivial ?_⟩;unfold aW AW;exact⟨p,_,rfl,.inl (.inl aJ),(KH f lo hi).kp (.of (bw hp))⟩
 ·obtain⟨ds,L,e⟩:=AT e;cases e;obtain⟨a,vs,rfl,sq,f⟩:=z.DW L;exact ZF AN s σ H _ v B J lo hi sl Q I w hs pl g ⟨a,vs,rfl,sq,λp hp=>q _ _ (bw hp) (λa ea=>by cases ea;exact hp) ⟨p,_,rfl,aJ,(KH f lo hi).kp (.of (bw hp))⟩⟩
def O1(f:Ev->Y Bx)(fl fh:Ev->Y (Y Int)):Ev->Y Bx:=λρ=>(f ρ).bind λb=>(fl ρ).bind λlo=>(fh ρ).bind λhi=>DM b lo hi
theorem Gj{lo hi:Y Expr}{fl fh:Ev->Y (Y Int)}(he:QV X e f)(d:FL X lo fl)(i:FL X hi fh):QV X (.Subscript e (.Slice lo hi U p2) pos) (O1 f fl fh):=⟨have he:=he.run;have d:=d.run;have i:=i.run;DX (VH S4 he d i) λσ H Q h=>by
 obtain⟨H0,ρ,c,E,e,q⟩:=h;obtain⟨b,eb,e⟩:=AT e;obtain⟨lo,el,e⟩:=AT e;obtain⟨hi,t,e⟩:=AT e;refine⟨H0,ρ,b,E,eb,λv H1 a x p=>⟨H0,ρ,lo,E.grow a,el,λH2 g=>⟨H0,ρ,hi,E.grow (a.trans g),t,λu j=>?_⟩⟩⟩;have l:=(a.trans g).trans j;exact⟨b,c,(p.same g).same j,e,λw s o n m=>q w s (l.trans o) (n.old l) m⟩⟩
def gY:O Bx->Y Bx
 |[.z (.str x)]=>Z (.z (.int x.length))
 |[b]=>(oO b).bind λds=>Z (.z (.int ds.length))
 |_=>U
theorem BH(r:pq K H [b] vs):∃v,vs=[v]/\aW K H b v:=by
 cases r with
 |cons p t=>cases t;exact⟨_,rfl,p⟩
theorem EO{c:Bx}(r:pq K H [b,c] vs):∃v u,vs=[v,u]/\aW K H b v/\aW K H c u:=by
 cases r with
 |cons p t=>
  cases t with
  |cons p' a=>cases a;exact⟨_,_,rfl,p,p'⟩
theorem eU:mF X (.builtin "len") gY:=eY.imp (HF.or HJ) λxs H Q q=>by
 obtain⟨bs,c,b,e,q⟩:=q;unfold gY at e;split at e
 ·rename_i x;cases e;obtain⟨v,rfl,a⟩:=BH b;obtain⟨rfl,hx⟩:=T6 a;exact .inr ⟨x,rfl,hx,q _ H (AV.refl H) trivial zu⟩
 ·obtain⟨ds,f,e⟩:=AT e;cases e;obtain⟨v,rfl,a⟩:=BH b;obtain⟨p,vs,rfl,sq,d⟩:=sO a f;exact .inl ⟨p,vs,rfl,sq,by rw[d.length];exact q _ H (AV.refl H) trivial zu⟩
 ·cases e
def WQ:O Bx->Y Bx
 |[.z (.int i)]=>Z (.z (.int (if i<0 then -i else i)))
 |_=>U
theorem Pm:mF X (.builtin "abs") WQ:=eY.imp VD λxs H Q q=>by
 obtain⟨bs,c,b,e,q⟩:=q;unfold WQ at e;split at e
 ·rename_i i;cases e;obtain⟨v,rfl,a⟩:=BH b;have:=Ii a;subst this;exact⟨i,rfl,q _ H (AV.refl H) trivial zu⟩
 ·cases e
def WR:O Bx->Y Bx
 |[.z (.int i)]=>Z (.z (.int i))
 |[.z (.bl k)]=>Z (.z (.int (if k then 1 else 0)))
 |_=>U
theorem Ta:mF X (.type "int") WR:=eY.imp Tr λxs H Q q=>by
 obtain⟨bs,c,b,e,q⟩:=q;unfold WR at e;split at e
 ·rename_i i;cases e;obtain⟨v,rfl,a⟩:=BH b;have:=Ii a;subst this;exact .inl ⟨i,rfl,q _ H (AV.refl H) trivial zu⟩
 ·rename_i k;cases e;obtain⟨v,rfl,a⟩:=BH b;simp only[aW,AW]at a;subst a;exact .inr ⟨k,rfl,q _ H (AV.refl H) trivial zu⟩
 ·cases e
def KJ:O Bx->Y Bx
 |[b]=>(oO b).bind λds=>Z (.o ds)
 |_=>U
theorem TB:mF X (.type "list") KJ:=eY.imp HN λxs H Q q=>by
 obtain⟨bs,c,h,e,q⟩:=q;unfold KJ at e;split at e
 ·obtain⟨ds,g,e⟩:=AT e;cases e;obtain⟨v,rfl,f⟩:=BH h;obtain⟨p,vs,rfl,sq,d⟩:=sO f g;exact⟨p,vs,rfl,sq,λl b=>q _ _ (bw b) (λa ea=>by cases ea;exact b) ⟨l,vs,rfl,aJ,d.kp (.of (bw b))⟩⟩
 ·cases e
def mK:O Bx->Y Bx
 |[b]=>(oO b).bind λds=>Z (.z (.tup ds))
 |_=>U
theorem mL:mF X (.type "tuple") mK:=eY.imp DR λxs H Q q=>by
 obtain⟨bs,c,g,e,q⟩:=q;unfold mK at e;split at e
 ·obtain⟨ds,f,e⟩:=AT e;cases e;obtain⟨v,rfl,d⟩:=BH g;obtain⟨p,vs,rfl,sq,a⟩:=sO d f;refine⟨p,vs,rfl,?_⟩;rcases sq with sq|sq
  ·refine .inl ⟨sq,λl b=>q _ _ (bw b) trivial ?_⟩;unfold aW AW;exact⟨l,vs,rfl,.inl (.inl aJ),a.kp (.of (bw b))⟩
  ·refine .inr ⟨sq,q _ H (AV.refl H) trivial ?_⟩;unfold aW AW;exact⟨p,vs,rfl,sq,a⟩
 ·cases e
def Gk:O Dt->Y (O Bool)
 |[]=>Z []
 |.bl b::ds=>(Gk ds).bind λbs=>Z (b::bs)
 |_=>U
theorem Az{K:Au}{H:Hp}:∀{ds:O Dt} {bs:O Bool} {vs:O V} {us:O A0},Gk ds=Z bs->aG K H ds vs->AX vs us->us=bs.map Value.bool
 |[],_,_,_,e,r,w=>by
  cases e;simp only[aG]at r;subst r;cases w;rfl
 |d::ds,_,_,_,e,r,w=>by
  simp only[aG]at r;obtain⟨v,a,rfl,h1,h2⟩:=r;cases d<;>first|(cases e;done)|skip;simp only[Gk]at e;obtain⟨bs,e1,e⟩:=AT e;cases e;simp only[AW]at h1;subst h1;cases w with
  |cons p t=>
   cases p;rw[Az e1 h2 t];rfl
theorem CD(bs:O Bool):((bq bs.length).any λi=>bs.getD i false)=bs.any id:=by
 rw[yi,Q4,Q4];constructor
 ·rintro⟨i,hi,h⟩;have hi:i<bs.length:=by simpa using hi
  exact⟨bs[i],ku hi,by simpa[List.getD,hi]using h⟩
 ·rintro⟨b,a,h⟩;obtain⟨i,hi,rfl⟩:=List.mem_iff_getElem.mp a;exact⟨i,by simpa using hi,by simpa[List.getD,hi]using h⟩
def CC:O Bx->Y Bx
 |[b]=>(nD b).bind λds=>(Gk ds).bind λbs=>Z (.z (.bl (bs.any id)))
 |_=>U
theorem KN(bs:O Bool):TruthOf prog w A (λi v=>(bs.map Value.bool).toArray[i]?=Z v) λi=>bs.getD i false:=λi v s Q E h q=>by
 have h':(bs.map Value.bool)[i]?=Z v:=by simpa using h
 rw[zS]at h';cases e:bs[i]? with
 |none=>rw[e]at h';cases h'
 |some b=>
  rw[e]at h';cases h';have:bs.getD i false=b:=by simp[List.getD,e]
  have a:Q b s:=by rw[<-this];exact q
  exact kU a
theorem WT(t:X.calm=true):mF X (.builtin "any") CC:=by
 intro AN s σ H xs us Q I r h;obtain⟨bs,c,C,e,q⟩:=h;unfold CC at e;split at e
 ·obtain⟨ds,B,e⟩:=AT e;obtain⟨ks,ek,e⟩:=AT e;cases e;obtain⟨v,rfl,y⟩:=BH C;obtain⟨a,vs,rfl,sq,l⟩:=y.DW B;obtain⟨u,rfl,g⟩:=BB r;cases g;obtain⟨AQ,w,pl,D⟩:=I.list sq;have d:=Az ek l w;have f:a<s.heap.objs.size:=by obtain⟨o,n,e,_⟩:=pl;exact zI e
  refine call_any_walk (y7 pl.isList ?_);refine⟨s.heap.objs.size,_,_,_,_,_,λi=>ks.getD i false,rfl,Walks.list (by show X.A.handled=U;exact I.ok.hd t) s.heap.objs.size a (z5 f) AQ.toArray,⟨⟨_,zt _ rfl,rfl,rfl⟩,pl.isList.push _⟩,?_,λh' tk k=>?_⟩
  ·rw[d];exact KN ks
  ·have p:AQ.toArray.size=ks.length:=by rw[d];simp
   rw[p,CD];have z:L2.AU X AN σ H { s with heap:=s.heap.push { cls:=.type "list_iterator",data:=.fields #[.ref a,.int 0 0] } }:=I.kept (t':=s.toks) λb o e=>zh _ e;refine⟨.bl _,H,?_,rfl,q _ H (AV.refl H) trivial Kw⟩;obtain⟨f0,f1,f2,f3,j,m⟩:=I.N7 (b:=s.heap.objs.size) (H':=H) (zk _) (I.hok.fresh (zk _));exact z.turned (it:=s.heap.objs.size) (λb o x e=>k b o (by simpa using x) e) f0 f1 f3 j m
 ·cases e
end P1
namespace P1
open L2
def gv(i:Nat):Ev->Y Bx:=λρ=>xW ρ i
def pN(g:Bx->Bx->Y Bx)(fa fb:Ev->Y Bx):Ev->Y Bool:=λρ=>(b2 g fa fb ρ).bind V9
def tV(f:Ev->Y Bx):Ev->Y Bool:=λρ=>(f ρ).bind Wc
def aK:Ev->Y (O Bx):=λ_=>Z []
def Gm(p:Dt->Bool)(f:Ev->Y Bx):Ev->Y Bx:=b1 (λb=>if mH b=true then U else Z (.z (.bl (p (toD b))))) f
def gj:Ev->Y An:=λρ=>Z (.nx ρ)
def jR(f:Ev->Y Bx):Ev->Y An:=λρ=>(f ρ).bind Wg
def B1(i:Nat)(f:Ev->Y Bx):Ev->Y An:=λρ=>(f ρ).bind λb=>(Z0 ρ i b).bind λa=>Z (.nx a)
def FA(gt:Dt->Ev->Y Ev)(f:Ev->Y Bx):Ev->Y An:=λρ=>(f ρ).bind λb=>match b with|.z d=>(gt d ρ).bind λa=>Z (.nx a)|_=>U
def Io(i:Nat)(f:Ev->Y Bx):Ev->Y An:=λρ=>(f ρ).bind (Wj ρ i)
def qj(fi:Ev->Y (O Dt))(gt:Dt->Ev->Y Ev)(gb:Ev->Y An):Ev->Y An:=λρ=>(fi ρ).bind λds=>oK gt gb ds ρ
def Rv(f:Ev->Y Bx):Ev->Y (O Dt):=λρ=>(f ρ).bind Wm
def JV(f:Ev->Y Bx):Ev->Y (O Dt):=λρ=>(f ρ).bind Z7
def T9(fs:Ev->Y (O Bx)):Ev->Y (O Dt):=λρ=>(fs ρ).bind GS
def pY(i:Nat):Dt->Ev->Y Ev:=λd ρ=>Z (ρ.set i (Z (.z d)))
def sU:Ev->Y Bool:=λ_=>Z true
theorem dF:vD X [] sU:=⟨.inl ⟨rfl,rfl⟩⟩
theorem iH(h:QB X c p):vD X [c] p:=⟨have h:=h.run;.inr ⟨c,rfl,h⟩⟩
theorem NY:Eb X scope cl [] []:=trivial
theorem WP(n:X.N[i]?=Z x)(k:X.env.kindOf x=Z .cell\/X.env.kindOf x=Z .free)(a:(relabel scope X.env).names.lookup x=Z .cell\/(relabel scope X.env).names.lookup x=Z .free)(c:∃c,cl.lookup x=Z c)(r:Eb X scope cl xs is):Eb X scope cl (x::xs) (i::is):=⟨⟨n,k,a,c⟩,r⟩
theorem mem_of_lookup{a:O (AJ×NameKind)}{x:AJ}{k:NameKind}:a.lookup x=Z k->(x,k)∈a:=km
theorem Nl(clos:closureFor scope X.env=pure cl)(kind:scope.kind=.function)(cell:scope.names.all (λy=>decide (y.2≠.cell)||(cl.lookup y.1).isNone)=true)(names:scope.names.all (λy=>decide (y.2=.local->scope.names.lookup y.1=Z .local))=true)(sub:C7 X.env.cells cl)(has:(relabel scope X.env).names.all (λy=>!(y.2==.cell||y.2==.free)||(cl.lookup y.1).isSome||scope.names.contains (y.1,.cell))=true)(cap:Eb X scope cl xs is):oM X scope cl xs is where
 clos:=clos
 kind:=kind
 cell:=λy a b=>by
  have:=List.all_eq_true.mp cell y a;simp only[b,ne_eq,not_true_eq_false,k8,dE,Option.isNone_iff_eq_none]at this;exact this
 names:=λy a=>qa (List.all_eq_true.mp names y a)
 sub:=sub
 has:=λx hx=>by
  have h:∃k,(relabel scope X.env).names.lookup x=Z k/\(k==NameKind.cell||k==NameKind.free)=true:=by
   rcases hx with hx|hx
   ·exact⟨_,hx,rfl⟩
   ·exact⟨_,hx,rfl⟩
  obtain⟨k,e,hk⟩:=h;have:=List.all_eq_true.mp has _ (mem_of_lookup e);simp only[hk,kM,dE,eQ]at this;rcases this with h|h
  ·exact .inr (cz.mp h)
  ·exact .inl (fq.mp h)
 cap:=cap
theorem Rw{k:Nat}(r:jN k A):A.units+100<cLine:=by have:=r.un;omega
theorem W1(h:∀b:O Int,b.length<=63->F [.z (.lst (b.map .int))]=Z (.z (.bl true)))(j:∀b:O Int,b.length<=63->F [.l (b.map .int)]=Z (.z (.bl true)))(K:Au)(H:Hp)(a:A1)(b:O Int)(f:b.length<=63)(_:CI H)(d:rJ K H a (b.map V.int)):
  DV K 1 F [.ref a] H (λv _=>v=.bl true) λ_ _ _=>False:=by
 have e:∀c:O Int,aG K H (c.map Dt.int) (c.map V.int):=λc=>by
  induction c with
  |nil=>exact aG.nil
  |cons m c i=>exact aG.cons (by unfold AW;rfl) i
 have g:∀v (H':Hp),AV H H'->Nw H (.z (.bl true)) v->aW K H' (.z (.bl true)) v->v=.bl true:=λv H' _ _ r=>by simpa only[aW,AW]using r
 rcases d with d|d
 ·exact⟨rfl,[.l (b.map .int)],_,.cons ⟨a,_,rfl,d,e b⟩ .nil,rfl,j b f,g⟩
 ·refine⟨rfl,[.z (.lst (b.map .int))],_,.cons ?_ .nil,rfl,h b f,g⟩;unfold aW AW;exact⟨a,_,rfl,.inr d,e b⟩
theorem WV{f:A1}{k m:Nat}(F:Y9 K x qual st f fd)(S:bF N ps (aO st))(b:N.length=n)(c:ps.length=m)(d:∀(a:A0) (A:A5) (outer:O Env) (s:A2) (H:Hp) (E:XK),jN k (A.deeper (AK qual (aO st) s.heap.objs.size f a))->Q9 (Ah JT P w K mg base N qual (aO st) f a A outer s H E).Zk (gJ st) g):
  uP P w K mg base JT (k+1) f fd ps (DV K m (dM n g)):=by
 subst b c;exact Na F S d
section
variable{st:Expr}{fs:Ev->Y Bx}
theorem Ip{α β:Type}{f:α->Y β}{g:α->β}:∀l:O α,(∀a∈l,f a=Z (g a))->l.filterMap f=l.map g
 |[],_=>rfl
 |a::l,h=>by
  rw[Ki,h a (ze ..),zo,Ip l λb c=>h b (zg _ c)]
theorem aG.rev{K:Au}{H:Hp}:∀{ds:O Dt} {vs:O V},aG K H ds vs->aG K H ds.reverse vs.reverse
 |[],_,h=>by simp only[aG]at h;subst h;exact aG.nil
 |d::ds,_,h=>by
  simp only[aG]at h;obtain⟨v,r,rfl,b,a⟩:=h;rw[KM,KM];exact aG.append (aG.rev a) (aG.cons b aG.nil)
end
def DT:Bx->Bx->Y Bx
 |.z (.int i),.z (.int j)=>Z (.z (.bl (decide (i<j))))
 |.z (.str x),.z (.str y)=>Z (.z (.bl (decide (x.cps.toList<y.cps.toList))))
 |_,_=>U
theorem O2:FW X (AG .Lt) DT:=by
 intro AN s σ H x y v u Q I g f h;obtain⟨a,b,c,d,l,e,q⟩:=h;unfold DT at e;split at e
 ·rename_i i j;cases e;exact TR AN s σ H x y v u Q I g f ⟨i,j,Ii d,Ii l,q _ H (AV.refl H) trivial (by unfold aW;exact FS)⟩
 ·rename_i i j;cases e;obtain⟨rfl,_⟩:=T6 d;obtain⟨rfl,_⟩:=T6 l;obtain⟨t,rfl⟩:=g;obtain⟨m,rfl⟩:=f;exact PySem.P.lt_str ⟨.bl _,H,I,rfl,q _ H (AV.refl H) trivial (by unfold aW;exact FS)⟩
 ·cases e
def nQ:O Dt->Y AZ
 |[]=>Z []
 |.str x::r=>(nQ r).bind λys=>Z (x::ys)
 |_=>U
theorem jx{K:Au}{H:Hp}:∀{ds:O Dt} {vs:O V} {ys:AZ},aG K H ds vs->nQ ds=Z ys->vs=ys.map V.str/\∀y∈ys,y.length<=AA
 |[],_,_,h,e=>by cases e;simp only[aG]at h;subst h;exact⟨rfl,λy a=>by cases a⟩
 |.str x::ds,_,_,h,e=>by
  simp only[nQ]at e;obtain⟨ys,e1,e2⟩:=AT e;cases e2;simp only[aG]at h;obtain⟨v,r,rfl,c,b⟩:=h;obtain⟨rfl,hx⟩:v=.str x/\x.length<=AA:=by simpa only[AW]using c
  obtain⟨rfl,h2⟩:=jx b e1;refine⟨rfl,λy a=>?_⟩;rcases List.mem_cons.mp a with rfl|a
  ·exact hx
  ·exact h2 y a
 |.non::_,_,_,_,e=>by cases e
 |.bl _::_,_,_,_,e=>by cases e
 |.int _::_,_,_,_,e=>by cases e
 |.tup _::_,_,_,_,e=>by cases e
 |.lst _::_,_,_,_,e=>by cases e
 |.emp::_,_,_,_,e=>by cases e
theorem jT{K:Au}{H:Hp}:∀{ys:AZ},(∀y∈ys,y.length<=AA)->aG K H (ys.map Dt.str) (ys.map V.str)
 |[],_=>aG.nil
 |y::ys,h=>aG.cons (by unfold AW;exact⟨rfl,h y (ze ..)⟩) (jT λz a=>h z (zg _ a))
theorem jy:∀{ys:AZ} {AQ:O A0},AX (ys.map V.str) AQ->StrsAre AQ ys
 |[],_,h=>by cases h;exact .nil
 |y::ys,_,h=>by
  cases h with
  |cons r t=>
   obtain⟨tk,rfl⟩:=r;exact .cons y tk (jy t)
theorem pP:∀{AQ:O A0} {ys:AZ},StrsAre AQ ys->AX (ys.map V.str) AQ
 |_,_,.nil=>.nil
 |_,_,.cons y t h=>.cons ⟨t,rfl⟩ (pP h)
theorem Ir:eY X (.builtin "sorted") (λxs H Q=>∃p ys,xs=[.ref p]/\rJ X.K H p (ys.map V.str)/\ys.length<64/\∀l zs,H l=U->zs.Perm ys->sortedS zs=true->Q (.ref l) (B4 H l (.lst (zs.map V.str)))):=by
 intro AN s σ H xs us Q I r h;obtain⟨p,ys,rfl,i,m,q⟩:=h;obtain⟨u,rfl,g⟩:=BB r;cases g;obtain⟨AQ,d,pl,c⟩:=I.list i;have f:=d.length;rw[zi]at f c;refine sorted_strs pl.isList (jy d) () λout zs hs hp j=>?_;obtain⟨n,en⟩:=sortedAll_at s.heap AQ out;refine⟨.ref (s.heap.objs.size+1),_,I.laid (t':=s.toks) (a:=s.heap.objs.size+1) (o:=.lst (zs.map V.str)) (λb o e=>sortedAll_old e) (Kx _) ?_,rfl,q _ zs (I.hok.fresh (Kx _)) hp j⟩;refine⟨by rw[zi,hp.length_eq];exact c,out.toList,n,pP hs,?_⟩;rw[en]
def Rx(a b:AJ):Prop:=ltCps b.cps.toList a.cps.toList=false
theorem wM:∀(p:AJ) (l:AZ),risingS p l=true->(p::l).Pairwise Rx
 |p,[],_=>by simp
 |p,x::r,h=>by
  have h':(!ltCps x.cps.toList p.cps.toList&&risingS x r)=true:=h;rw[qo]at h';have c:=wM x r h'.2;have hx:Rx p x:=by simpa[Rx]using h'.1
  refine cf.mpr ⟨λy b=>?_,c⟩;rcases List.mem_cons.mp b with rfl|b
  ·exact hx
  ·have a:Rx x y:=JU c b;unfold Rx at hx a ⊢;rw[ltCps_eq]at hx a ⊢;simp only[kz]at hx a ⊢;exact List.le_trans (α:=Nat) hx a
theorem Iu{l:AZ}(h:sortedS l=true):l.Pairwise Rx:=by
 cases l with
 |nil=>exact .nil
 |cons p l=>exact wM p l h
theorem WW{a b:AJ}(h:Rx a b)(h':Rx b a):a=b:=by
 unfold Rx at h h';rw[ltCps_eq]at h h';simp only[kz]at h h';have:=gL (as:=a.cps.toList) (bs:=b.cps.toList) h h';cases a;cases b;simp only[Str.mk.injEq];exact gQ.mp this
theorem wN:∀{l c:AZ},l.Perm c->l.Pairwise Rx->c.Pairwise Rx->l=c
 |[],c,h,_,_=>by rw[List.nil_perm.mp h]
 |a::l,[],h,_,_=>by cases List.perm_nil.mp h
 |a::l,b::c,h,p,p'=>by
  have e:a=b:=by
   have d:a∈b::c:=h.mem_iff.mp (ze ..);have f:b∈a::l:=h.mem_iff.mpr (ze ..);rcases List.mem_cons.mp d with h1|h1
   ·exact h1
   ·rcases List.mem_cons.mp f with h2|h2
    ·exact h2.symm
    ·exact WW (JU p h2) (JU p' h1)
  subst e;rw[wN ((List.perm_cons a).mp h) (cf.mp p).2 (cf.mp p').2]
def Ua(a b:AJ):Bool:=!ltCps b.cps.toList a.cps.toList
def aU(ys:AZ):AZ:=ys.mergeSort Ua
theorem bf(ys:AZ):(aU ys).Perm ys:=dg ys Ua
theorem gk(ys:AZ):(aU ys).Pairwise Rx:=by
 have h:=YY (le:=Ua) (λa b c h1 h2=>by
  unfold Ua at *
  rw[ltCps_eq]at *
  simp only[ke,kz]at *
  exact List.le_trans (α:=Nat) h1 h2) (λa b=>by
  unfold Ua;rw[ltCps_eq,ltCps_eq];simp only[eQ,ke,kz];exact List.le_total a.cps.toList b.cps.toList) ys
 exact h.imp λ{a b} hh=>by simpa[Ua,Rx]using hh
theorem Ba{zs:AZ}(hp:zs.Perm ys)(hs:sortedS zs=true):zs=aU ys:=wN (hp.trans (bf ys).symm) (Iu hs) (gk ys)
def uW:O Bx->Y Bx
 |[b]=>(nD b).bind λds=>(nQ ds).bind λys=>if ys.length<64 then Z (.o ((aU ys).map Dt.str))else U
 |_=>U
theorem lZ:mF X (.builtin "sorted") uW:=eY.imp Ir λxs H Q q=>by
 obtain⟨bs,c,o,e,q⟩:=q;unfold uW at e;split at e
 ·rename_i b;obtain⟨ds,n,e⟩:=AT e;obtain⟨ys,j,e⟩:=AT e;split at e
  ·rename_i m;cases e;obtain⟨v,rfl,i⟩:=BH o;obtain⟨p,vs,rfl,sq,g⟩:=i.DW n;obtain⟨rfl,f⟩:=jx g j;refine⟨p,ys,rfl,sq,m,λl zs d hp hs=>?_⟩;rw[Ba hp hs];refine q _ _ (bw d) (λa ea=>by cases ea;exact d) ⟨l,_,rfl,aJ,jT λy h=>f y ((bf ys).mem_iff.mp h)⟩
  ·cases e
 ·cases e
def KQ(x:AJ)(b:Bx):Y Bx:=(nD b).bind λds=>(nQ ds).bind λys=>if(ys.map (·.length)).sum+ys.length*x.length<=100000 then Z (.z (.str (Txt.join x ys)))else U
theorem XO:MA X "str.join" (λx xs H Q=>∃y p ys,x=.str y/\xs=[.ref p]/\rJ X.K H p (ys.map V.str)/\(ys.map (·.length)).sum+ys.length*y.length<=100000/\Q (.str (Txt.join y ys)) H):=by
 intro AN s σ H x xs v us Q I d b h;obtain⟨y,p,ys,rfl,rfl,sq,g,q⟩:=h;obtain⟨t,rfl⟩:=d;obtain⟨u,rfl,a⟩:=BB b;cases a;obtain⟨AQ,c,pl,e⟩:=I.list sq;exact join_list pl.isList (jy c) () λf k=>⟨.str _,H,I.tok _,⟨_,rfl⟩,q⟩
theorem P3{p1:Pos}(h:QV X e f)(hx:x.length<=AA:=by decide)(o:attributeBase (.Constant (.str x) j p1) "join" X.env (eval (.Constant (.str x) j p1) X.env)=eval (.Constant (.str x) j p1) X.env:=by rfl)(d:((AD cpos (A9 [e] X.env)).all (λx=>!x.1)&&(backToKw cpos (keywordEach [] X.env)).all (λx=>x.1.isSome)&&decide ([e].length+([]:O AC).length+(if([]:O AC).isEmpty then 0 else 1)<30))=true:=by rfl)(t:(apos.endLine==cpos.line)=true:=by rfl)(hs:A9 [e] X.env=(false,eval e X.env)::A9 [] X.env:=by rfl):QV X (.Call (.Attribute (.Constant (.str x) j p1) "join" apos) [e] [] cpos) (b1 (KQ x) f):=⟨have h:=h.run;DX (yK (T :="str") F.plainAttrs_str F.slot_str_join F.type_str_join XO (Wb (hx:=hx)) (Kd h Rk hs) o d t hs S) λσ H Q q=>by
  obtain⟨H0,ρ,c,E,e,q⟩:=q;obtain⟨a,ea,e⟩:=AT e;refine⟨H0,ρ,_,E,rfl,λv H1 b B l=>?_⟩;obtain⟨rfl,A⟩:v=.str x/\x.length<=AA:=by simpa only[aW,AW]using l
  refine⟨rfl,H0,ρ,[a],E.grow b,by simp only[au,ea,eA],λvs H2 i y=>?_⟩;obtain⟨w,rfl,n⟩:=BH y;unfold KQ at e;obtain⟨ds,u,e⟩:=AT e;obtain⟨ys,s,e⟩:=AT e;split at e
  ·rename_i m;cases e;obtain⟨p,C,rfl,sq,g⟩:=n.DW u;obtain⟨rfl,z⟩:=jx g s;refine⟨x,p,ys,rfl,rfl,sq,m,q _ _ (b.trans i) trivial ?_⟩;unfold aW AW;exact⟨rfl,joinOk_length (joinOk_of ())⟩
  ·cases e⟩
def Ub:O Bx->Y Bx
 |[.z (.int a),.z (.int b)]=>Z (.z (.int (if b>a then b else a)))
 |_=>U
def WX:O Bx->Y Bx
 |[.z (.int a),.z (.int b)]=>Z (.z (.int (if b<a then b else a)))
 |_=>U
theorem WY{a:Bx}(h:pq K H [a,b] vs):∃v w,vs=[v,w]/\aW K H a v/\aW K H b w:=by
 cases h with
 |cons p t=>
  cases t with
  |cons p' c=>cases c;exact⟨_,_,rfl,p,p'⟩
theorem W0(j:X.calm=true):mF X (.builtin "max") Ub:=by
 intro AN s σ H xs us Q I r h;obtain⟨bs,c,o,e,q⟩:=h;unfold Ub at e;split at e
 ·rename_i a b;cases e;obtain⟨v,w,rfl,i,n⟩:=WY o;have g:=Ii i;have l:=Ii n;subst g l;obtain⟨u,x,rfl,f,m⟩:=AX.two r;obtain⟨t,rfl⟩:=f;obtain⟨p,rfl⟩:=m;refine max_two_ints (I.ok.hd j) λh' tk kp=>?_;by_cases d:b>a
  ·rw[zl d]at q ⊢;exact⟨.int b,H,I.kept kp,⟨_,rfl⟩,q _ H (AV.refl H) trivial zu⟩
  ·rw[zD d]at q ⊢;exact⟨.int a,H,I.kept kp,⟨_,rfl⟩,q _ H (AV.refl H) trivial zu⟩
 ·cases e
theorem TM(j:X.calm=true):mF X (.builtin "min") WX:=by
 intro AN s σ H xs us Q I r h;obtain⟨bs,c,o,e,q⟩:=h;unfold WX at e;split at e
 ·rename_i a b;cases e;obtain⟨v,w,rfl,i,n⟩:=WY o;have g:=Ii i;have l:=Ii n;subst g l;obtain⟨u,x,rfl,f,m⟩:=AX.two r;obtain⟨t,rfl⟩:=f;obtain⟨p,rfl⟩:=m;refine min_two_ints (I.ok.hd j) λh' tk kp=>?_;by_cases d:b<a
  ·rw[zl d]at q ⊢;exact⟨.int b,H,I.kept kp,⟨_,rfl⟩,q _ H (AV.refl H) trivial zu⟩
  ·rw[zD d]at q ⊢;exact⟨.int a,H,I.kept kp,⟨_,rfl⟩,q _ H (AV.refl H) trivial zu⟩
 ·cases e
def Bb(AO:O (AY×Dt))(x:AY):Y Dt:=(AO.find? λa=>decide (a.1=x)).map (·.2)
def Iv(AO:O (AY×Dt))(x:AY)(d:Dt):O (AY×Dt):=
 if(AO.any λa=>decide (a.1=x))=true then AO.map (λa=>if a.1=x then(a.1,d)else a)else AO++[(x,d)]
theorem eF.nil:eF K H [] []:=⟨rfl,aG.nil,λp hp=>by cases hp⟩
theorem eF.inv{p:AY×Dt}(h:eF K H (p::AO) ks):∃v r,ks=(p.1,v)::r/\AW K H p.2 v/\D2 p.1/\eF K H AO r:=by
 obtain⟨h1,h2,a⟩:=h;cases ks with
 |nil=>simp at h1
 |cons q r=>
  simp only[zo,Kn]at h1;obtain⟨e,h1⟩:=h1;simp only[zo,aG]at h2;obtain⟨v,d,e2,c,b⟩:=h2;simp only[Kn]at e2;obtain⟨rfl,rfl⟩:=e2;exact⟨q.2,r,by rw[<-e],c,a p (ze ..),h1,b,λx hx=>a x (zg _ hx)⟩
theorem eF.cons{p:AY×Dt}{AO:O (AY×Dt)}{v:V}{r:O (AY×V)}(a:AW K H p.2 v)(hp:D2 p.1)(h:eF K H AO r):eF K H (p::AO) ((p.1,v)::r):=
 ⟨by simp[h.1],aG.cons a h.2.1,λx hx=>by
  rcases List.mem_cons.mp hx with rfl|hx
  ·exact hp
  ·exact h.2.2 x hx⟩
theorem eF.append{AO:O (AY×Dt)}{ks:O (AY×V)}{x:AY}{d:Dt}{v:V}(h:eF K H AO ks)(a:AW K H d v)(hx:D2 x):eF K H (AO++[(x,d)]) (ks++[(x,v)]):=
 ⟨by simp[h.1],by rw[ZH,ZH];exact aG.append h.2.1 (aG.cons a aG.nil),λp hp=>by
  rcases List.mem_append.mp hp with hp|hp
  ·exact h.2.2 p hp
  ·cases az.mp hp;exact hx⟩
theorem eF.len(h:eF K H AO ks):ks.length=AO.length:=by
 have:=congrArg dr h.1;simpa using this
theorem eF.look:∀{AO:O (AY×Dt)} {ks:O (AY×V)} {x:AY} {d:Dt},eF K H AO ks->Bb AO x=Z d->∃v,o9 ks x=Z v/\AW K H d v
 |[],_,_,_,_,e=>by cases e
 |p::AO,_,x,d,h,e=>by
  obtain⟨v,r,rfl,b,c,a⟩:=h.inv;unfold Bb at e;by_cases hp:p.1=x
  ·rw[List.find?_cons_of_pos (by simpa using hp)]at e;cases e;exact⟨v,rW (by rw[hp]),b⟩
  ·rw[List.find?_cons_of_neg (by simpa using hp)]at e;obtain⟨w,e1,e2⟩:=eF.look a e;exact⟨w,(rY (by simpa using hp)).trans e1,e2⟩
theorem eF.any:∀{AO:O (AY×Dt)} {ks:O (AY×V)} {x:AY},eF K H AO ks->(ks.any λa=>decide (a.1=x))=AO.any λa=>decide (a.1=x)
 |[],ks,_,h=>by
  have:=h.len;cases ks with
  |nil=>rfl
  |cons _ _=>simp at this
 |p::AO,_,x,h=>by
  obtain⟨v,r,rfl,d,c,b⟩:=h.inv;rw[ki,ki,eF.any b]
theorem eF.W2:∀{AO:O (AY×Dt)} {ks:O (AY×V)} {x:AY} {d:Dt} {v:V},eF K H AO ks->AW K H d v->eF K H (AO.map λa=>if a.1=x then(a.1,d)else a) (ks.map λa=>if a.1=x then(a.1,v)else a)
 |[],ks,_,_,_,h,_=>by
  have:=h.len;cases ks with
  |nil=>exact eF.nil
  |cons _ _=>simp at this
 |p::AO,_,x,d,v,h,hd=>by
  obtain⟨w,r,rfl,e,c,f⟩:=h.inv;rw[zo,zo];have b:=eF.W2 (x:=x) f hd;by_cases hp:p.1=x
  ·rw[zl hp,zl (by simp[hp])];exact eF.cons (p:=(p.1,d)) hd c b
  ·rw[zD hp,zD (by simpa using hp)];exact eF.cons e c b
theorem eF.put{x:AY}(h:eF K H AO ks)(a:AW K H d v)(hx:D2 x):eF K H (Iv AO x d) (B9 ks x v):=by
 unfold Iv B9;rw[h.any];split
 ·exact h.W2 a
 ·exact h.append a hx
section
variable{ek o:Expr}{pos':Pos}
theorem OH  :QV X (.Dict [] [] pos) (λ_=>Z (.m [] U)):=⟨DX V3 λσ H Q h=>by
 obtain⟨H0,ρ,b,E,e,q⟩:=h;cases e;intro p hp;exact q _ _ (bw hp) (λa ea=>by cases ea;exact hp) ⟨p,[],rfl,aJ,eF.nil,λb h=>by cases h⟩⟩
def Ch:Bx->Y AY
 |.z (.str x)=>Z (.inr x)
 |.z (.int i)=>Z (.inl i)
 |_=>U
theorem Ry{k:AY}(e:Ch b=Z k)(r:aW K H b v):v=kV k/\D2 k:=by
 unfold Ch at e;split at e
 ·cases e;simp only[aW,AW]at r;exact r
 ·cases e;simp only[aW,AW]at r;exact⟨r,trivial⟩
 ·cases e
def nR:Bx->Bx->Y Bx
 |.n AO,b=>(Ch b).bind λk=>(Bb AO k).bind λd=>Z (.z d)
 |_,_=>U
theorem O4{a c:Bx}(h:nR a b=Z c):∃AO k d,a=.n AO/\Ch b=Z k/\Bb AO k=Z d/\c=.z d:=by
 unfold nR at h;split at h
 ·obtain⟨k,ek,h⟩:=AT h;obtain⟨d,e,h⟩:=AT h;cases h;exact⟨_,k,d,rfl,ek,e,rfl⟩
 ·cases h
theorem qm(B:X.A.units+100<cLine)(f:QV X o fo)(hk:QV X ek fk)(hs:HA ek:=by intro _ _;rfl):QV X (.Subscript o ek pos) (b2 nR fo fk):=⟨have f:=f.run;have hk:=hk.run;DX (ZM () f hk hs) λσ H Q h=>by
 obtain⟨H0,ρ,c,E,e,q⟩:=h;obtain⟨a,ea,e⟩:=AT e;obtain⟨b,eb,e⟩:=AT e;refine⟨H0,ρ,a,E,ea,λv H1 g C m=>⟨H0,ρ,b,E.grow g,eb,λw H2 i z y=>?_⟩⟩;obtain⟨AO,x,d,rfl,j,u,rfl⟩:=O4 e;obtain⟨p,ks,rfl,s,l⟩:=m.same i;obtain⟨n,ev,t⟩:=l.look u;obtain⟨rfl,_⟩:=Ry j y;exact⟨p,n,rfl,.inl ⟨ks,x,s,rfl,ev.symm⟩,q _ _ (g.trans i) trivial t⟩⟩
def KR(ρ:Ev)(i:Nat):Bx->Bx->Y An
 |.z d,b=>(Ch b).bind λx=>match ρ[i]? with
  |some (Z (.m AO w))=>if AO.length<1000 then Z (.nx (ρ.set i (Z (.m (Iv AO x d) w))))else U
  |_=>U
 |_,_=>U
def W3(i:Nat)(f fk:Ev->Y Bx):Ev->Y An:=λρ=>(f ρ).bind λb=>(fk ρ).bind λk=>KR ρ i b k
theorem O5{k:Bx}{r:An}(h:KR ρ i b k=Z r):∃d y AO w,b=.z d/\Ch k=Z y/\ρ[i]?=Z (Z (.m AO w))/\AO.length<1000/\r=.nx (ρ.set i (Z (.m (Iv AO y d) w))):=by
 unfold KR at h;split at h
 ·obtain⟨y,c,h⟩:=AT h;split at h
  ·rename_i a;split at h
   ·rename_i e;cases h;exact⟨_,y,_,_,rfl,c,a,e,rfl⟩
   ·cases h
  ·cases h
 ·cases h
theorem VZ(i:Nat){p:Pos}(W:X.A.units+100<cLine)(he:QV X e f)(hk:QV X ek fk)(I:X.N[i]?=Z x:=by rfl)(s:Q0 X.env.scope x:=by first|exact JE rfl|exact QQ (JE S)|exact QQ (QQ S))(J:be x:=by decide)(K:(x==("__classdict__":AJ))=false:=by decide)(hs:swapsWith e (Z (.Subscript (.Name x p) ek pos')) pos.line X.env=pure false:=by rfl):NQ X (.Assign [.Subscript (.Name x p) ek pos'] e pos) (λρ=>(f ρ).bind λb=>(fk ρ).bind λk=>KR ρ i b k):=⟨have he:=he.run;have hk:=hk.run;Rj (ZP () (fV (i:=i) I s J K) hk he hs) λD σ H h=>by
  obtain⟨H0,ρ,r,E,e,q⟩:=h;obtain⟨b,eb,e⟩:=AT e;obtain⟨k,ek,e⟩:=AT e;refine⟨H0,ρ,b,E,eb,λv H1 n M C=>?_⟩;obtain⟨d,y,AO,Q,rfl,L,m,B,rfl⟩:=O5 e;have g:=E.grow n;obtain⟨w,e1,a,ks,rfl,z,l,F⟩:=g.val i _ m;refine⟨_,e1,H0,ρ,_,g,ek,λu H2 c P G=>?_⟩;obtain⟨rfl,o⟩:=Ry L G;have t:=g.grow c;have j:=c _ _ z;have kp:Kp H2 (B4 H2 a (.dK (B9 ks y v))):=.dk j;refine⟨a,_,rfl,V2.k (k:=y) j (by rw[l.len];exact yo B ()),q _ _ ?_⟩;exact t.adn m S e1 kp ⟨a,_,rfl,aJ,((l.kp (.of c)).put (x:=y) (aW.same c C) o).kp kp,F⟩⟩
end
section
variable{a b:Expr}{fs:Ev->Y (O Bx)}
theorem kh{j}(hx:x.length<=AA:=by decide):QV X (.Constant (.str x) j pos) (cB (.str x)):=⟨P1.Wb (hx:=hx)⟩
end
section
variable{a b:Expr}{fs:Ev->Y (O Bx)}
variable{AS:O Expr}
theorem ao(h1:QV X e f)(h2:V7 X es fs)(hs:A9 (e::es) X.env=(false,eval e X.env)::A9 es X.env:=by rfl):V7 X (e::es) (au f fs):=⟨P1.Kd (h1:=h1.run) (h2:=h2.run) (hs:=hs)⟩
theorem aC  :V7 X [] (λ_=>Z []):=⟨P1.Rk ⟩
end
theorem V'{f:A1}{k m:Nat}(F:Y9 K x qual st f fd)(S:bF N ps (aO st))(b:N.length=n)(c:ps.length=m)(e:∀(a:A0) (A:A5) (outer:O Env) (s:A2) (H:Hp) (E:XK),jN k (A.deeper (AK qual (aO st) s.heap.objs.size f a))->NT (Ah JT P w K mg base N qual (aO st) f a A outer s H E).Zk (gJ st) g):
  uP P w K mg base JT (k+1) f fd ps (DV K m (dM n g)):=WV F S b c λa A outer s H E d=>(e a A outer s H E d).run
theorem yM:∀(vs:O A0) (ys:AZ),vs.length=ys.length->(∀(j:Nat) v,vs[j]?=Z v->∃y t,ys[j]?=Z y/\v=.str y t)->StrsAre vs ys
 |[],[],_,_=>.nil
 |v::vs,y::ys,hl,h=>by
  obtain⟨b,t,e,rfl⟩:=h 0 v rfl;cases e;exact .cons y t (yM vs ys (by simpa using hl) λj v a=>h (j+1) v (by simpa using a))
theorem O6{AO:O (AY×A0)}(hk:AO.map (·.1)=ys.map Sum.inr){b:Array A0}(h:ItemsOf (λi v=>∃k x,AO[i]?=Z (k,x)/\(bV prog w).is k v=true) b AO.length):StrsAre b.toList ys:=by
 have d:AO.length=ys.length:=by have:=congrArg dr hk;simpa using this
 refine yM _ _ (by rw[qc,h.1,d]) λj v c=>?_;obtain⟨k,x,e,hi⟩:=h.2 j v (by simpa using c);have e1:(AO.map (·.1))[j]?=Z k:=by rw[zS,e];rfl
 rw[hk,zS]at e1;cases a:ys[j]? with
 |none=>rw[a]at e1;cases e1
 |some y=>
  rw[a]at e1;cases e1;have f:iY (Sum.inr y) v=true:=hi;rcases bA f with⟨i,t,e2,e3⟩|⟨z,t,e2,e3⟩
  ·cases e2
  ·cases e2;exact⟨_,t,rfl,e3⟩
def Uc:O (AY×Dt)->Y AZ
 |[]=>Z []
 |(.inr x,_)::r=>(Uc r).bind λys=>Z (x::ys)
 |(.inl _,_)::_=>U
theorem uD:∀{AO:O (AY×Dt)} {ys:AZ},Uc AO=Z ys->AO.map (·.1)=ys.map Sum.inr
 |[],_,e=>by cases e;rfl
 |(.inr x,_)::r,_,e=>by
  obtain⟨ys,e1,e⟩:=AT e;cases e;rw[zo,zo,uD e1]
 |(.inl _,_)::_,_,e=>by cases e
theorem aT(e:Uc AO=Z ys)(h:∀p∈AO,D2 p.1)(y:AJ)(a:y∈ys):y.length<=AA:=by
 have:(Sum.inr y:AY)∈AO.map (·.1):=by rw[uD e];exact ax.mpr ⟨y,a,rfl⟩
 obtain⟨p,hp,ep⟩:=ax.mp this;have:=h p hp;rw[ep]at this;exact this
theorem Rz:∀{ks:O (AY×V)} {vs:O (AY×A0)},KV ks vs->vs.map (·.1)=ks.map (·.1)
 |_,_,.nil=>rfl
 |_,_,.cons h t=>by rw[zo,zo,Rz t,h.1]
theorem aX.agf(E:aX K H0 H σ ρ)(i:Nat):aX K H0 H σ (ρ.set i U):=by
 have d:∀(j:Nat) (b:Bx),(ρ.set i U)[j]?=Z (Z b)->ρ[j]?=Z (Z b):=λj b e=>by
  rw[KO]at e;split at e
  ·split at e<;>cases e
  ·exact e
 refine⟨by rw[qv];exact E.len,λj b e=>E.val j b (d j b e),λj k c a b e1 f e2 e3 h g=>E.own j k c a b (d _ _ e1) f e2 (d _ _ e3) h g,E.base,λj c a e1 f e2=>E.new j c a (d _ _ e1) f e2⟩
def kill(is:O Nat)(ρ:Ev):Ev:=is.foldl (λρ i=>ρ.set i U) ρ
theorem aX.kill{K:Au}{H0 H:Hp}{σ:L2.St}:∀(is:O Nat) {ρ:Ev},aX K H0 H σ ρ->aX K H0 H σ (P1.kill is ρ)
 |[],_,E=>E
 |i::is,_,E=>aX.kill is (E.agf i)
def dN(is:O Nat):Ev->Y An:=λρ=>Z (.nx (kill is ρ))
theorem W4{c:O AB}(is:O Nat)(h:Q9 X c g):Q9 X c (aF g (dN is)):=ZR h λD σ H q=>by
 obtain⟨H0,ρ,r,E,e,q⟩:=q;obtain⟨a,e1,e⟩:=AT e;refine⟨H0,ρ,a,E,e1,?_⟩;cases a with
 |nx f=>cases e;exact λσ' H' d=>q σ' H' (d.kill is)
 |rt b=>cases e;exact q
 |bk b=>cases e;exact q
 |ct b=>cases e;exact q
theorem bB{a:O AB}(is:O Nat)(h:NT X a g):NT X a (aF g (dN is)):=⟨W4 is h.run⟩
end P1
namespace S1
section
variable(rk:A0->Nat)
def at_(xs:Array Keyed)(i:Nat):Nat:=match xs[i]? with
 |some p=>rk p.1
 |none=>0
def Up(xs:Array Keyed)(k:Nat):Prop:=∀i j,i<=j->j<k->at_ rk xs i<=at_ rk xs j
def CA(xs:Array Keyed)(k:Nat):Prop:=∀i j,i<=j->j<k->at_ rk xs j<=at_ rk xs i
structure Bs (kd:SortKind) (b:Array Keyed) (st:SortSt):Prop where
 pm:(arrOf st).Perm b
 kd:kindOf st=kd
 fl:failedOf st=none
 pd:pendingOf st=#[]
variable{rk}{b:Array Keyed}
theorem Bs.sz{st:SortSt}(h:Bs kd b st):(AM st).size=b.size:=h.pm.size_eq
theorem Bs.arr{st:SortSt}{xs:Array Keyed}(h:Bs kd b st)(hp:xs.Perm (AM st)):Bs kd b (PyProof.Rows.setArr st xs):=⟨hp.trans h.pm,h.kd,h.fl,h.pd⟩
theorem sV{xs ys:Array Keyed}(h:xs[i]?=ys[j]?):at_ rk xs i=at_ rk ys j:=by unfold at_;rw[h]
theorem W5{xs:Array Keyed}{p d:Nat}(hs:p<xs.size)(a:d<=p)(k:Nat):at_ rk (bubble xs p d) k=if k=p-d then at_ rk xs p else if p-d<k/\k<=p then at_ rk xs (k-1)else at_ rk xs k:=by
 have e:=getElem?_bubble hs d a k;by_cases q:k=p-d
 ·simp only[zl q]at e ⊢;exact sV e
 ·simp only[zD q]at e ⊢;by_cases q2:p-d<k/\k<=p
  ·simp only[zl q2]at e ⊢;exact sV e
  ·simp only[zD q2]at e ⊢;exact sV e
theorem O7{xs:Array Keyed}(a:j<=xs.size)(k:Nat):at_ rk (mirror xs i j ((j-i) / 2)) k=if i<=k/\k<j then at_ rk xs (i+j-1-k)else at_ rk xs k:=by
 have e:=getElem?_mirror_all (i:=i) a k;by_cases q:i<=k/\k<j
 ·simp only[zl q]at e ⊢;exact sV e
 ·simp only[zD q]at e ⊢;exact sV e
theorem wO{xs:Array Keyed}(a:j<=xs.size)(he:∀k,i<=k->k<j->at_ rk xs k=at_ rk xs (j-1))(k:Nat):at_ rk (mirror xs i j ((j-i) / 2)) k=at_ rk xs k:=by
 rw[O7 a];by_cases q:i<=k/\k<j
 ·rw[zl q,he (i+j-1-k) () (),he k q.1 q.2]
 ·rw[zD q]
end
section
variable{b:Array Keyed}
def Ud(prog:A3)(w:A4)(A:A5)(s:A2)(kd:SortKind)(rk:A0->Nat)(b:Array Keyed):Prop:=
 ∀(E:B7) (p q:Keyed) (Q:Bool->A2->Prop),p∈b.toList->q∈b.toList->Q (decide (rk p.1<rk q.1)) s->A7 (A8 prog w) A (keyLt' kd p.1 q.1) Q E s
theorem KY{st:SortSt}{Q:Y Bool->SortSt->Prop}(c:Ud prog w A s kd rk b)(B:Bs kd b st)(hi:i<b.size)(e:j<b.size)(h:Q (Z (decide (at_ rk (AM st) i<at_ rk (AM st) j))) st):wpS (A8 prog w) A E s (ltAt' i j) Q st:=by
 have get:∀k,k<b.size->∃p,(AM st)[k]?=Z p/\p∈b.toList:=λk hk=>by
  have a:k<(AM st).size:=by rw[B.sz];exact hk
  exact⟨(AM st)[k],getElem?_pos _ k a,(cq.mp B.pm).mem_iff.mp (by simp)⟩
 obtain⟨p,e1,d⟩:=get i hi;obtain⟨q,e2,m2⟩:=get j e;have h:Q (Z (decide (rk p.1<rk q.1))) st:=by unfold at_ at h;rw[e1,e2]at h;exact h
 rw[ltAt'_eq];refine AL (wpS_get ?_);show wpS _ _ _ _ (elem' (AM st) i >>= λx=>elem' (AM st) j >>= λy=>lt' x y) Q st;rw[elem'_eq,elem'_eq,e1,e2];refine AL (wpS_pure ?_);refine AL (wpS_pure ?_);rw[lt'_eq];refine AL (wpS_get ?_);rw[B.kd];exact AL (wpS_lift (wpAny_attempt (c _ p q _ d m2 ⟨rfl,wpS_pure h⟩)))
theorem Ic{st:SortSt}{a:Nat}{Q:AscSt->SortSt->Prop}(g:Ud prog w A s kd rk b)(v:n<=b.size)(p:1<=a)(l:a<=n)(B:Bs kd b st)(hs:Up rk (AM st) a)(h:∀m,a<=m->m<=n->Up rk (AM st) m->(m=n\/at_ rk (AM st) m<at_ rk (AM st) (m-1))->Q (U,m) st):wpS (A8 prog w) A E s (ascLoop a n) Q st:=by
 unfold ascLoop;refine wpS_forRange (I:=λx c t=>t=st/\c=(U,x)/\Up rk (AM st) x) ?_ ?_ ⟨rfl,rfl,hs⟩
 ·rintro x c t o u ⟨rfl,rfl,d⟩;refine AL (KY g B () () ?_);by_cases q:at_ rk (AM t) x<at_ rk (AM t) (x-1)
  ·simp only[q,Kt,QY];exact wpS_pure (h x o () d (.inr q))
  ·simp only[q,k8,zv,qf];refine wpS_pure ⟨rfl,rfl,λi j f y=>?_⟩;by_cases hx:j<x
   ·exact d i j f hx
   ·have e:j=x:=by omega
    subst e;by_cases hi:i=j
    ·rw[hi];exact zk _
    ·have:=d i (j-1) () ();omega
 ·rintro c t ⟨rfl,rfl,d⟩;rw[show max a n=n by omega]at d ⊢;exact h n l (zk _) d (.inl S)
theorem KZ{st:SortSt}{m:Nat}{Q:Y Nat->SortSt->Prop}(e:Ud prog w A s kd rk b)(d:n<=b.size)(h1:1<=m)(g:m<=n)(B:Bs kd b st)(hs:CA rk (AM st) m)(h:∀k t,Bs kd b t->1<=k->k<=n->Up rk (AM t) k->Q (Z k) t):wpS (A8 prog w) A E s (tail3 m n) Q st:=by
 unfold tail3;have a:m<=(AM st).size:=by rw[B.sz];omega
 refine AL (wpS_reverse ?_);have c:Bs kd b (PyProof.Rows.setArr st (mirror (AM st) 0 m ((m-0) / 2))):=B.arr (mirror_perm _ _ _ _);refine AL (Ic e d h1 g c (λi j o p=>?_) λk q f l _=>wpS_pure (h k _ c () f l));show at_ rk (mirror (AM st) 0 m ((m-0) / 2)) i<=at_ rk (mirror (AM st) 0 m ((m-0) / 2)) j;rw[O7 a,O7 a,zl ⟨by omega,by omega⟩,zl ⟨by omega,by omega⟩];exact hs _ _ () ()
theorem Pp{st:SortSt}{m:Nat}{Q:DescSt->SortSt->Prop}(g:Ud prog w A s kd rk b)(F:n<=b.size)(h1:1<=m)(u:m<=n)(B:Bs kd b st)(hs:CA rk (AM st) m)(h:∀k e t,Bs kd b t->m<=k->k<=n->CA rk (AM t) k->e+1<=k->(∀i,k-(e+1)<=i->i<k->at_ rk (AM t) i=at_ rk (AM t) (k-1))->Q (U,k,e) t):wpS (A8 prog w) A E s (descLoop m n) Q st:=by
 unfold descLoop;refine wpS_forRange (I:=λx c t=>∃e,c=(U,x,e)/\Bs kd b t/\CA rk (AM t) x/\e+1<=x/\∀i,x-(e+1)<=i->i<x->at_ rk (AM t) i=at_ rk (AM t) (x-1)) ?_ ?_ ⟨0,rfl,B,hs,by omega,λi q1 q2=>by rw[show i=m-1 by omega]⟩
 ·rintro x c t y C ⟨e,rfl,a,dn,f,d⟩;have o:x<=(AM t).size:=by rw[a.sz];omega
  have grow:∀xs:Array Keyed,(∀k,at_ rk xs k=at_ rk (AM t) k)->at_ rk (AM t) x<=at_ rk (AM t) (x-1)->CA rk xs (x+1):=λxs hk D i j p G=>by
   rw[hk,hk];by_cases hx:j<x
   ·exact dn i j p hx
   ·have v:j=x:=by omega
    subst v;by_cases hi:i=j
    ·rw[hi];exact zk _
    ·have:=dn i (j-1) () ();omega
  dsimp only;refine AL (KY g a () () ?_);by_cases q:at_ rk (AM t) x<at_ rk (AM t) (x-1)
  ·simp only[q,Kt,QY];by_cases l:e>0
   ·rw[zl l];exact AL (wpS_reverse (wpS_pure ⟨0,rfl,a.arr (mirror_perm _ _ _ _),grow _ (wO o d) (),by omega,λi q1 q2=>by rw[show i=x by omega];rfl⟩))
   ·rw[zD l];exact wpS_pure ⟨0,rfl,a,grow _ (λ_=>S) (),by omega,λi q1 q2=>by rw[show i=x by omega];rfl⟩
  ·simp only[q,k8,zv,qf];refine AL (KY g a () () ?_);by_cases q2:at_ rk (AM t) (x-1)<at_ rk (AM t) x
   ·simp only[q2,Kt,QY];exact wpS_pure (h x e t a y () dn f d)
   ·simp only[q2,k8,zv,qf];refine wpS_pure ⟨e+1,rfl,a,grow _ (λ_=>S) (),by omega,λi q3 z=>?_⟩;rw[show x+1-1=x by omega];by_cases hi:i=x
    ·rw[hi]
    ·rw[d i () ()];omega
 ·rintro c t ⟨e,rfl,a,dn,f,d⟩;rw[show max m n=n by omega]at dn f d ⊢;exact h n e t a u (zk _) dn f d
theorem LN{st:SortSt}{m:Nat}{Q:Y Nat->SortSt->Prop}(c:Ud prog w A s kd rk b)(a:n<=b.size)(u:m+1<=n)(B:Bs kd b st)(hs:CA rk (AM st) (m+1))(h:∀k t,Bs kd b t->1<=k->k<=n->Up rk (AM t) k->Q (Z k) t):wpS (A8 prog w) A E s (descPart m n) Q st:=by
 unfold descPart;refine AL (wpS_lift (kg ⟨rfl,?_⟩));refine AL (Pp c a () u B hs λk e t d x l dn v g=>?_);have f:k<=(AM t).size:=by rw[d.sz];omega
 by_cases o:e>0
 ·simp only[zl o];refine AL (wpS_reverse (KZ c a () l (d.arr (mirror_perm _ _ _ _)) (λi j p q=>?_) h));show at_ rk (mirror (AM t) _ _ _) j<=at_ rk (mirror (AM t) _ _ _) i;rw[wO f g,wO f g];exact dn i j p q
 ·simp only[zD o];exact KZ c a () l d dn h
theorem UC{st:SortSt}{Q:Y Nat->SortSt->Prop}(a:Ud prog w A s kd rk b)(d:n<=b.size)(h1:1<=n)(B:Bs kd b st)(h:∀k t,Bs kd b t->1<=k->k<=n->Up rk (AM t) k->Q (Z k) t):wpS (A8 prog w) A E s (countRun' 0 n) Q st:=by
 rw[countRun0_eq];refine AL (Ic a d (zk 1) h1 B (λi j g l=>by rw[show i=j by omega];exact zk _) λm o m2 c or=>?_);by_cases e:m=n
 ·simp only[zl (show(m==n)=true by simpa using e)];exact wpS_pure (h m st B o m2 c)
 ·simp only[zD (show ¬ (m==n)=true by simpa using e)];have lt:=or.resolve_left e;have f:m<=(AM st).size:=by rw[B.sz];omega
  by_cases g1:m>1
  ·rw[zl g1];refine AL (KY a B () () ?_);by_cases q:at_ rk (AM st) 0<at_ rk (AM st) (m-1)
   ·simp only[q,Kt,QY];exact wpS_pure (h m st B o m2 c)
   ·simp only[q,k8,zv,qf];have all:∀k,0<=k->k<m->at_ rk (AM st) k=at_ rk (AM st) (m-1):=λk _ hk=>by
     have a1:=c 0 k () hk;have a2:=c k (m-1) () ();omega
    refine AL (wpS_reverse (LN a d () (B.arr (mirror_perm _ _ _ _)) (λi j g l=>?_) h));show at_ rk (mirror (AM st) _ _ _) j<=at_ rk (mirror (AM st) _ _ _) i;rw[wO f all,wO f all];by_cases p:j<m
    ·rw[all i () (),all j () p];exact zk _
    ·have u:j=m:=by omega
     subst u;by_cases hi:i=j
     ·rw[hi];exact zk _
     ·rw[all i () ()];omega
  ·rw[zD g1];have e1:m=1:=by omega
   subst e1;refine LN a d () B (λi j g l=>?_) h;by_cases hi:i=j
   ·rw[hi];exact zk _
   ·rw[show i=0 by omega,show j=1 by omega];exact Q2 lt
theorem Fm{st:SortSt}{g:Nat}{Q:Bool->SortSt->Prop}(F:Ud prog w A s kd rk b)(G:n<=b.size)(H:g<=n)(B:Bs kd b st)(hs:Up rk (AM st) g)(h:∀t,Bs kd b t->Up rk (AM t) n->Q true t):wpS (A8 prog w) A E s (binarySort' 0 n g) Q st:=by
 rw[binarySort'_eq];simp only[KL];refine AL (wpS_mono (wpS_forRange (I:=λk c t=>c=(U,bv)/\Bs kd b t/\Up rk (AM t) (min k n)) (Q:=λc t=>c=(U,bv)/\Bs kd b t/\Up rk (AM t) n) ?_ ?_ ?_) ?_)
 ·rintro k c t K J ⟨rfl,f,d⟩;rw[show min k n=k by omega]at d;have hk:k<b.size:=by omega
  refine AL (wpS_mono (wpS_forRange (I:=λx c a=>a=t/\∃l r,c=(U,l,r)/\l<=r/\r<=k/\r-l<=k-x/\(∀i,i<l->at_ rk (AM t) i<=at_ rk (AM t) k)/\(∀i,r<=i->i<k->at_ rk (AM t) k<at_ rk (AM t) i))
   (Q:=λc a=>a=t/\∃l r,c=(U,l,r)/\l<=k/\(∀i,i<l->at_ rk (AM t) i<=at_ rk (AM t) k)/\(∀i,l<=i->i<k->at_ rk (AM t) k<at_ rk (AM t) i)) ?_ ?_ ?_) ?_)
  ·rintro x c a _ hx ⟨rfl,l,r,rfl,v,m,C,lo,hi⟩;dsimp only;by_cases p:l>=r
   ·rw[zl p];have e:l=r:=by omega
    subst e;exact wpS_pure ⟨rfl,l,l,rfl,m,lo,hi⟩
   ·rw[zD p];refine AL (KY F f hk () ?_);by_cases q:at_ rk (AM a) k<at_ rk (AM a) ((l+r) / 2)
    ·simp only[q,Kt,QY];refine wpS_pure ⟨rfl,l,(l+r) / 2,rfl,by omega,by omega,by omega,lo,λi q1 q2=>?_⟩;have:=d ((l+r) / 2) i q1 q2;omega
    ·simp only[q,k8,zv,qf];refine wpS_pure ⟨rfl,(l+r) / 2+1,r,rfl,by omega,by omega,by omega,λi q1=>?_,hi⟩;have:=d i ((l+r) / 2) () ();omega
  ·rintro c a ⟨rfl,l,r,rfl,v,m,C,lo,hi⟩;have e:l=r:=by omega
   subst e;exact⟨rfl,l,l,rfl,m,lo,hi⟩
  ·exact⟨rfl,0,k,rfl,by omega,by omega,by omega,λi hi=>by omega,λi q1 q2=>by omega⟩
  ·rintro c a ⟨rfl,l,r,rfl,L,lo,hi⟩;show wpS _ _ _ _ (moveDown' k l >>= λ_=>pure (ForInStep.yield (U,bv))) _ _;rw[moveDown'_eq];refine AL (wpS_modify (wpS_pure ⟨rfl,f.arr (bubble_perm _ _ _),?_⟩));rw[show min (k+1) n=k+1 by omega];have o:k<(AM a).size:=by rw[f.sz];exact hk
   intro i j u D;show at_ rk (bubble (AM a) k (k-l)) i<=at_ rk (bubble (AM a) k (k-l)) j;rw[W5 o (),W5 o (),show k-(k-l)=l by omega]
   repeat' split
   all_goals first
    |(exfalso;omega)
    |exact zk _
    |exact lo _ ()
    |exact Q2 (hi _ () ())
    |exact d _ _ () ()
 ·rintro c t ⟨y,f,d⟩;refine⟨y,f,?_⟩;rwa [show min (max (max g 1) n) n=n by omega]at d
 ·refine⟨rfl,B,λi j u D=>?_⟩;by_cases z:g=0
  ·rw[show i=j by omega];exact zk _
  ·exact hs i j u ()
 ·rintro c t ⟨rfl,f,d⟩;exact wpS_pure (h t f d)
def Dn(kd:SortKind)(rk:A0->Nat)(b:Array Keyed)(st:SortSt):Prop:=(AM st).Perm b/\failedOf st=U/\pendingOf st=#[(0,b.size,0)]/\Up rk (AM st) b.size
theorem Bs.dn{st:SortSt}(B:Bs kd b st)(a:Up rk (AM st) b.size):Dn kd rk b (setPending st ((pendingOf st).push (0,b.size,0))):=⟨B.pm,B.fl,(by show(pendingOf st).push _=_;rw[B.pd];rfl),a⟩
theorem GV{st:SortSt}{Q:Unit->SortSt->Prop}(i:Ud prog w A s kd rk b)(B:Bs kd b st)(h2:2<=b.size)(v:b.size<64)
  (h:∀t,(AM t).Perm b->failedOf t=U->Up rk (AM t) b.size->Q bv t):wpS (A8 prog w) A E s sortRuns' Q st:=by
 rw[sortRuns'_eq];refine AL (wpS_get ?_);have n:minRun' b.size b.size 0=b.size:=by
  obtain⟨f,l⟩:∃f,b.size=f+1:=⟨b.size-1,by omega⟩;have q:minRun' (f+1) b.size 0=b.size:=(minRun'_succ f b.size 0).trans (zl v);rwa [<-l]at q
 simp only[B.sz,n];have j:∀{t:SortSt},Bs kd b t->(pendingOf t).back?=U:=λB=>by rw[B.pd];rfl
 refine AL (wpS_mono (wpS_forRange (I:=λx c t=>(x=0/\c=(U,0)/\Bs kd b t)\/(1<=x/\c=(U,b.size)/\Dn kd rk b t)) (Q:=λc t=>c=(U,b.size)/\Dn kd rk b t) ?_ ?_ (.inl ⟨rfl,rfl,B⟩)) ?_)
 ·rintro x c t _ hx (⟨rfl,rfl,p⟩|⟨z,rfl,D⟩)
  ·dsimp only;rw[zD ()];simp only[Nat.sub_zero,ez,KL];refine AL (UC i (zk _) () p λm t2 a C m2 d=>?_);dsimp only;by_cases lt:m<b.size
   ·rw[zl lt];refine AL (wpS_lift (kg ⟨rfl,AL (Fm i (zk _) m2 a d λtq g y=>?_)⟩));simp only[kM,zv,qf];refine AL (wpS_get ?_);rw[j g];exact AL (wpS_modify (wpS_pure (.inr ⟨by omega,rfl,g.dn y⟩)))
   ·rw[zD lt];have e:m=b.size:=by omega
    subst e;refine AL (wpS_get ?_);rw[j a];exact AL (wpS_modify (wpS_pure (.inr ⟨by omega,rfl,a.dn d⟩)))
  ·dsimp only;rw[zl (zk _)];exact wpS_pure ⟨rfl,D⟩
 ·rintro c t (⟨hx,_,_⟩|⟨_,o,D⟩)
  ·omega
  ·exact⟨o,D⟩
 ·rintro c t ⟨rfl,D⟩;dsimp only;refine AL (wpS_mono (wpS_forRange (I:=λ_ c u=>u=t/\c=(U,bv)) (Q:=λc u=>u=t/\c=(U,bv)) ?_ (λ_ _ q=>q) ⟨rfl,rfl⟩) ?_)
  ·rintro x c u _ _ ⟨rfl,rfl⟩;refine AL (wpS_get ?_);rw[zl (by rw[D.2.2.1];exact zk 1)];exact wpS_pure ⟨rfl,rfl⟩
  ·rintro c u ⟨rfl,rfl⟩;exact wpS_pure (h _ D.1 D.2.1 D.2.2.2)
def Rn(prog:A3)(w:A4)(A:A5)(kd:SortKind)(rk:A0->Nat)(b:Array Keyed):Prop:=∀(E:B7) (s:A2) (st:SortSt) (Q:Unit->SortSt->Prop),Ud prog w A s kd rk b->Bs kd b st->2<=b.size →
 (∀t,(AM t).Perm b->failedOf t=U->Up rk (AM t) b.size->Q bv t)->wpS (A8 prog w) A E s sortRuns' Q st
theorem Ps(h:b.size<64):Rn prog w A kd rk b:=λ_ _ _ _ a B h2 q=>GV a B h2 h q
def FB(a:A1)(s s':A2):Prop:=∀c o,c≠a->s.heap.get? c=Z o->s'.heap.get? c=Z o
theorem X2{vs:O A0}{P:Fin->A2->Prop}(b:s.heap.get? a=Z (seqObj "list" vs.toArray n))(p:2<=vs.length->∀s',FB a s s'->∀Q:SortKind->A2->Prop,Q kd s'->A7 (A8 prog w) A (keyKind' vs.toArray) Q E s')(x:∀s',FB a s s'->Ud prog w A s' kd rk (pairsOf vs))(v:vs.length<=AA)(y:Rn prog w A kd rk (pairsOf vs))(h:∀st:SortSt,(AM st).Perm (pairsOf vs)->Up rk (AM st) (pairsOf vs).size->P (.done (.ret .none)) { s with heap:=sortedHeap s.heap a vs ((AM st).map (·.2)) }):
  A7 (A8 prog w) A (Builtin.«list.sort» ⟨[.ref a],[]⟩) P E s:=by
 rw[list_sort_plain];have l:=zI b;refine zb (listItems_at b S (zb (listUpdate_at b S ?_)));obtain⟨e1,g1⟩:∃e1,(s.heap.update a (Obj.mapSeq λ_=>#[])).get? a=Z (seqObj "list" #[] e1):=⟨_,get?_update_seq b λ_=>#[]⟩;refine zb (seqEpoch_at g1 S (zb (wpAny_newTuple (zb (YA (qB ?_))))));have z1:(s.heap.update a (Obj.mapSeq λ_=>#[])).objs.size=s.heap.objs.size:=gS ..;have keep:∀c,c<s.heap.objs.size->(((s.heap.update a (Obj.mapSeq λ_=>#[])).push (seqObj "tuple" vs.toArray 0)).push (seqObj "list" #[] 0)).get? c=(s.heap.update a (Obj.mapSeq λ_=>#[])).get? c:=λc d=>by
  rw[gp _ _ _ (by rw[size_push',z1];exact z5 (Qr d)),gp _ _ _ (by rw[z1];exact z5 d)]
 have f:=(keep a l).trans g1;have old:FB a s { s with heap:=((s.heap.update a (Obj.mapSeq λ_=>#[])).push (seqObj "tuple" vs.toArray 0)).push (seqObj "list" #[] 0) }:=λc o d e=>by
  show(((s.heap.update a (Obj.mapSeq λ_=>#[])).push (seqObj "tuple" vs.toArray 0)).push (seqObj "list" #[] 0)).get? c=Z o;rw[keep c (zI e),JJ _ _ _ _ d];exact e
 show A7 _ _ _ _ _ { s with heap:=((s.heap.update a (Obj.mapSeq λ_=>#[])).push (seqObj "tuple" vs.toArray 0)).push (seqObj "list" #[] 0) };have B:vs.toArray.size=vs.length:=by simp
 have g:∀st:SortSt,(AM st).Perm (pairsOf vs)->((AM st).map (·.2)).size<=AA+1:=λst hp=>by
  have q:((AM st).map (·.2)).size=vs.length:=(Array.size_map ..).trans (hp.size_eq.trans (pairsOf_size _));rw[q];exact gu v
 by_cases h2:vs.toArray.size<2
 ·simp only[zl h2];refine zb (zd ?_);rw[StateT.run_pure];refine zb (zd (zb (seqEpoch_at f S (zb (listUpdate_at f S ?_ (hsz2:=g (SortSt.mk' general' (pairsOf vs) #[] 7 U) (Array.Perm.refl _)))))));simp only[bne_self_eq_false,zv,qf];refine zd (h (SortSt.mk' general' (pairsOf vs) #[] 7 U) (Array.Perm.refl _) λi j C u=>?_);rw[pairsOf_size]at u;rw[show i=j by omega];exact zk _
 ·simp only[zD h2];refine zb (p () _ old _ ?_);refine zb (Z3 (y _ _ (SortSt.mk' kd (pairsOf vs) #[] 7 U) (λ_ t=>(AM t).Perm (pairsOf vs)/\failedOf t=U/\Up rk (AM t) (pairsOf vs).size) (x _ old) ⟨Array.Perm.refl _,rfl,rfl,rfl⟩ (by rw[pairsOf_size];omega) λt q1 q2 q3=>⟨q1,q2,q3⟩) ?_ λ_ _ q=>q);rintro⟨⟨⟩,t⟩ s' ⟨rfl,hp,m,z⟩;dsimp only;refine zb (seqEpoch_at f S (zb (listUpdate_at f S ?_ (hsz2:=g t hp))));rw[m];simp only[bne_self_eq_false,zv,qf];exact zd (h t hp z)
theorem O8{x:A0}{vs:O A0}{Q:B7}(t:∀(b:B7) (Q':O A0->A2->Prop),(∀h' tk,s.heap.objs.size<=h'.objs.size->(∀c o,s.heap.get? c=Z o->h'.get? c=Z o)->Q' vs { s with heap:=h',toks:=tk })->A7 (A8 prog w) A.in1 (collect x) Q' b s)
  (g:2<=vs.length->∀(b:B7) (a:A5) (s':A2),(∀c o,s.heap.get? c=Z o->s'.heap.get? c=Z o)->∀Q:SortKind->A2->Prop,Q kd s'->A7 (A8 prog w) a (keyKind' vs.toArray) Q b s') (j:∀(a:A5) (s':A2),(∀c o,s.heap.get? c=Z o->s'.heap.get? c=Z o)->Ud prog w a s' kd rk (pairsOf vs)) (p:vs.length<=AA) (i:∀a:A5,Rn prog w a kd rk (pairsOf vs))
  (h:∀(l:A1) (h':A6) (tk n:Nat) (st:SortSt),(AM st).Perm (pairsOf vs)->Up rk (AM st) (pairsOf vs).size->s.heap.objs.size<=l->(∀c o,s.heap.get? c=Z o->h'.get? c=Z o)->h'.get? l=Z (seqObj "list" ((AM st).map (·.2)) n)->Q (.ref l) { s with heap:=h',toks:=tk }):
  A7 (A8 prog w) A (call (.builtin "sorted") [x]) Q E s:=by
 refine y4 kind_sorted plain_sorted entry_sorted (args_sorted1 _) ?_;unfold Builtin.«sorted»;refine zb (m:=checkCount "sorted" 1 1 _) (zd (zb (t _ _ λh1 tk u ext=>zb (YA ?_))));have d:(h1.push (seqObj "list" vs.toArray 0)).get? h1.objs.size=Z (seqObj "list" vs.toArray 0):=zt _ rfl;have old:∀s':A2,FB h1.objs.size { s with heap:=h1.push (seqObj "list" vs.toArray 0),toks:=tk } s'->∀c o,s.heap.get? c=Z o->s'.heap.get? c=Z o:=λs' q c o e=>
  q c o (z5 (zI (ext c o e))) (zh _ (ext c o e))
 refine zb (qB (Q3 slot_list_sort ⟨_,d,rfl⟩ entry_list_sort (X2 d (λq s' o=>g q _ _ s' (old s' o)) (λs' o=>j _ s' (old s' o)) p (i _) λst q1 q2=>⟨_,rfl,zd ⟨_,rfl,?_⟩⟩) (args_list_sort _)));obtain⟨n,en⟩:=sortedHeap_at (out:=(AM st).map (·.2)) d;refine h h1.objs.size _ tk n st q1 q2 u (λc o e=>?_) en;have f:=zI (ext c o e);rw[sortedHeap_old (z5 f) (by rw[qr];exact Qr f)];exact zh _ (ext c o e)
theorem Ue{x:A0}{vs:O A0}{Q:B7}(g:∀(a:B7) (Q':O A0->A2->Prop),(∀h' tk,s.heap.objs.size<=h'.objs.size->(∀c o,s.heap.get? c=Z o->h'.get? c=Z o)->Q' vs { s with heap:=h',toks:=tk })->A7 (A8 prog w) A.in1 (collect x) Q' a s)
  (e:2<=vs.length->∀(a:B7) (b:A5) (s':A2),(∀c o,s.heap.get? c=Z o->s'.heap.get? c=Z o)->∀Q:SortKind->A2->Prop,Q kd s'->A7 (A8 prog w) b (keyKind' vs.toArray) Q a s') (f:∀(b:A5) (s':A2),(∀c o,s.heap.get? c=Z o->s'.heap.get? c=Z o)->Ud prog w b s' kd rk (pairsOf vs)) (d:vs.length<64)
  (h:∀(l:A1) (h':A6) (tk n:Nat) (st:SortSt),(AM st).Perm (pairsOf vs)->Up rk (AM st) (pairsOf vs).size->s.heap.objs.size<=l->(∀c o,s.heap.get? c=Z o->h'.get? c=Z o)->h'.get? l=Z (seqObj "list" ((AM st).map (·.2)) n)->Q (.ref l) { s with heap:=h',toks:=tk }):
  A7 (A8 prog w) A (call (.builtin "sorted") [x]) Q E s:=
 O8 g e f (Zs (Q2 d) (by rw[sizeLine_eq];omega)) (λ_=>Ps (by rw[pairsOf_size];exact d)) h
end
end S1
namespace S1
open L2
theorem Ug(fb:Bool)(x y:A0):keyLt' (tuples' fb) x y=(do
  let xs <-Builtin.List.listItems x
  let ys <-Builtin.List.listItems y
  for ((p,q),i) in (xs.toList.zip ys.toList).zipIdx do
   if !(<-eqBool p q)then return <-oneLt' (fb&&i==0) p q
  return decide (xs.size<ys.size)):=rfl
def Uh:AY->AY->Bool
 |.inl a,.inl b=>decide (a<b)
 |.inr x,.inr y=>decide (x.cps.toList<y.cps.toList)
 |.inl _,.inr _=>true
 |.inr _,.inl _=>false
def RB:AY->AY->Bool
 |.inl _,.inl _=>true
 |.inr _,.inr _=>true
 |_,_=>false
def mO:O AY->O AY->Bool
 |[],[]=>false
 |[],_::_=>true
 |_::_,[]=>false
 |x::xs,y::ys=>if x=y then mO xs ys else Uh x y
def D1:O AY->O AY->Prop
 |x::xs,y::ys=>RB x y=true/\D1 xs ys
 |_,_=>True
theorem DI{x y:AY}{p q:A0}{Q:Bool->A2->Prop}(hp:iY x p=true)(c:iY y q=true)(h:Q (decide (x=y)) s):A7 (A8 prog w) A (eqBool p q) Q E s:=
 (bV prog w).eqBool (a:=x) (b:=y) hp c h
theorem Mc{fb:Bool}{x y:AY}{p q:A0}{Q:Bool->A2->Prop}(hs:RB x y=true)(hp:iY x p=true)(a:iY y q=true)(h:Q (Uh x y) s):A7 (A8 prog w) A (oneLt' fb p q) Q E s:=by
 rcases bA hp with⟨i,t,rfl,rfl⟩|⟨z,t,rfl,rfl⟩
 ·rcases bA a with⟨j,u,rfl,rfl⟩|⟨z,u,rfl,rfl⟩
  ·cases fb with
   |true=>exact oneLt_int h
   |false=>
    rw[oneLt'_eq];simp only[zv,qf];refine zb (show A7 _ _ (AG .Lt (.int i t) (.int j u)) _ _ _ from lt_int ?_);exact kU h
  ·cases hs
 ·rcases bA a with⟨j,u,rfl,rfl⟩|⟨b,u,rfl,rfl⟩
  ·cases hs
  ·cases fb with
   |true=>exact oneLt_str h
   |false=>
    rw[oneLt'_eq];simp only[zv,qf];refine zb (show A7 _ _ (AG .Lt (.str z t) (.str b u)) _ _ _ from PySem.P.lt_str ?_);exact kU h
def Ks(ks:O AY)(AQ:O A0):Prop:=AI (λk v=>iY k v=true) ks AQ
def DA:O AY->O AY->Y Bool
 |x::xs,y::ys=>if x=y then DA xs ys else Z (Uh x y)
 |_,_=>U
theorem W6:∀ks a:O AY,mO ks a=match DA ks a with|some r=>r|none=>decide (ks.length<a.length)
 |[],[]=>rfl
 |[],_::_=>by simp[mO,DA]
 |_::_,[]=>rfl
 |x::xs,y::ys=>by
  simp only[mO,DA];by_cases e:x=y
  ·rw[zl e,zl e,W6 xs ys];simp only[Zp,Nat.add_lt_add_iff_right]
  ·rw[zD e,zD e]
def turn(fb:Bool):(A0×A0)×Nat->Y Bool×Unit->Sem (ForInStep (Y Bool×Unit)):=λx _=>match x with
 |((p,q),i)=>do
  let e <-eqBool p q
  if(!e)=true then do
    let r <-oneLt' (fb&&i==0) p q
    pure (ForInStep.done (Z r,bv))
   else pure (ForInStep.yield (U,bv))
theorem Fs(fb:Bool):∀(ks b:O AY) (AQ a:O A0) (i:Nat) (R:Y Bool×Unit->A2->Prop),Ks ks AQ->Ks b a->D1 ks b->R (DA ks b,bv) s->A7 (A8 prog w) A (forIn ((AQ.zip a).zipIdx i) ((U,bv):Y Bool×Unit) (turn fb)) R E s:=by
 intro ks
 induction ks with
 |nil=>intro b AQ a i R h _ _ h1;cases h;exact zd h1
 |cons x xs d=>
  intro b AQ a i R h h' hs h1;cases h with
  |@cons _ p _ AQ hp hk=>
   cases h' with
   |nil=>exact zd h1
   |@cons y q ys a c f=>
    rw[yT,List.zipIdx_cons,List.forIn_cons];refine zb ?_;show A7 _ _ (eqBool p q >>= _) _ _ _;refine zb (DI hp c ?_);by_cases e:x=y
    ·simp only[e,Kt,kM,zv,qf];refine zd (d ys AQ a (i+1) R hk f hs.2 ?_);simp only[DA,zl e]at h1;exact h1
    ·simp only[e,k8,dq,QY];refine zb (Mc hs.1 hp c (zd (zd ?_)));simp only[DA,zD e]at h1;exact h1
theorem Po{fb:Bool}{c:A1}{i g:AE}{d:O A0}{m:Nat}{ks b:O AY}{Q:Bool->A2->Prop}(l:s.heap.get? a=Z i)(j:i.data=.seq AQ.toArray n)(t:s.heap.get? c=Z g)(p:g.data=.seq d.toArray m)(hk:Ks ks AQ)(f:Ks b d)(hs:D1 ks b)(h:Q (mO ks b) s):A7 (A8 prog w) A (keyLt' (tuples' fb) (.ref a) (.ref c)) Q E s:=by
 rw[Ug];refine zb (listItems_at l j (zb (listItems_at t p ?_)));have o:AQ.length=ks.length:=(Paired.length hk).symm;have q:d.length=b.length:=(Paired.length f).symm;refine zb (Fs fb ks b AQ d 0 _ hk f hs ?_);rw[W6]at h;cases e:DA ks b with
 |some r=>rw[e]at h;exact zd h
 |none=>
  rw[e]at h;refine zd ?_;simpa[o,q]using h
theorem XA(x:AY):Uh x x=false:=by
 cases x with
 |inl a=>simp[Uh]
 |inr a=>simp[Uh]
theorem Ui{x y z:AY}(h:Uh x y=true)(h':Uh y z=true):Uh x z=true:=by
 cases x<;>cases y<;>cases z<;>simp only[Uh,QO,zv,reduceCtorEq]at h h' ⊢
 ·omega
 ·exact List.lt_trans h h'
theorem WZ{x y:AY}(h:Uh x y=false)(h':Uh y x=false):x=y:=by
 cases x<;>cases y<;>simp only[Uh,kz,Bool.true_eq_false,reduceCtorEq]at h h'
 ·congr 1;omega
 ·rename_i a b;have:=gL (as:=a.cps.toList) (bs:=b.cps.toList) h' h;cases a;cases b;simp only at this;rw[gQ.mp this]
theorem Bc:∀xs:O AY,mO xs xs=false
 |[]=>rfl
 |x::xs=>by simp only[mO,QY];exact Bc xs
theorem mQ:∀{xs ys zs:O AY},mO xs ys=true->mO ys zs=true->mO xs zs=true
 |[],[],_,h,_=>by cases h
 |[],_::_,[],_,h'=>by cases h'
 |[],_::_,_::_,_,_=>rfl
 |_::_,[],_,h,_=>by cases h
 |_::_,_::_,[],_,h'=>by cases h'
 |x::xs,y::ys,z::zs,h,h'=>by
  simp only[mO]at h h' ⊢;by_cases e1:x=y
  ·subst e1;rw[zl rfl]at h;by_cases e2:x=z
   ·subst e2;rw[zl rfl]at h' ⊢;exact mQ h h'
   ·rw[zD e2]at h' ⊢;exact h'
  ·rw[zD e1]at h;by_cases e2:y=z
   ·subst e2;rw[zD e1];exact h
   ·rw[zD e2]at h';have:=Ui h h';rw[zD (λe=>by subst e;rw[XA]at this;cases this)];exact this
theorem wQ:∀{xs ys:O AY},mO xs ys=false->mO ys xs=false->xs=ys
 |[],[],_,_=>rfl
 |[],_::_,h,_=>by cases h
 |_::_,[],_,h'=>by cases h'
 |x::xs,y::ys,h,h'=>by
  simp only[mO]at h h';by_cases e:x=y
  ·subst e;rw[zl rfl]at h h';rw[wQ h h']
  ·rw[zD e]at h;rw[zD (KI e)]at h';exact absurd (WZ h h') e
def vG(xs ys:O AY):Bool:=!mO ys xs
theorem Bd(a b c:O AY)(h:vG a b=true)(h':vG b c=true):vG a c=true:=by
 unfold vG at *
 simp only[ke]at *
 cases f:mO c a with
 |false=>rfl
 |true=>
  cases d:mO a b with
  |true=>rw[mQ f d]at h';cases h'
  |false=>
   have e:=wQ d h;subst e;rw[f]at h';cases h'
theorem Bf(a b:O AY):(vG a b||vG b a)=true:=by
 unfold vG;cases h:mO b a with
 |false=>rfl
 |true=>
  cases h':mO a b with
  |false=>rfl
  |true=>have:=mQ h h';rw[Bc]at this;cases this
theorem Gn{a b:O AY}(h:vG a b=true)(h':vG b a=true):a=b:=by
 unfold vG at *
 simp only[ke]at *
 exact wQ h' h
theorem sW{α:Type}{le:α->α->Prop}(d:∀a b,le a b->le b a->a=b):∀{l c:O α},l.Perm c->l.Pairwise le->c.Pairwise le->l=c
 |[],c,h,_,_=>by rw[List.nil_perm.mp h]
 |a::l,[],h,_,_=>by cases List.perm_nil.mp h
 |a::l,b::c,h,p,p'=>by
  have e:a=b:=by
   have f:a∈b::c:=h.mem_iff.mp (ze ..);have g:b∈a::l:=h.mem_iff.mpr (ze ..);rcases List.mem_cons.mp f with h1|h1
   ·exact h1
   ·rcases List.mem_cons.mp g with h2|h2
    ·exact h2.symm
    ·exact d a b (JU p h2) (JU p' h1)
  subst e;rw[sW d ((List.perm_cons a).mp h) (cf.mp p).2 (cf.mp p').2]
def vH(cY:O (O AY)):O (O AY):=cY.mergeSort vG
theorem yN(cY:O (O AY)):(vH cY).Perm cY:=dg ..
theorem K1(cY:O (O AY)):(vH cY).Pairwise (λa b=>vG a b=true):=YY Bd Bf cY
theorem Gs{out:O (O AY)}(hp:out.Perm cY)(hs:out.Pairwise (λa b=>vG a b=true)):out=vH cY:=sW (λ_ _=>Gn) (hp.trans (yN cY).symm) hs (K1 cY)
def Cb(cY:O (O AY))(k:O AY):Nat:=cY.countP λu=>mO u k
theorem Gu{α:Type}{p q:α->Bool}:∀{l:O α},(∀x∈l,p x=true->q x=true)->(∃x∈l,p x=false/\q x=true)->l.countP p<l.countP q
 |[],_,⟨x,hx,_⟩=>by cases hx
 |a::l,h,⟨x,hx,h1,h2⟩=>by
  have le:l.countP p<=l.countP q:=fw λy b=>h y (zg _ b);rw[gT,gT];rcases List.mem_cons.mp hx with rfl|hx
  ·rw[h1,h2];simp;omega
  ·have:=Gu (λy b=>h y (zg _ b)) ⟨x,hx,h1,h2⟩;have c:=h a (ze ..);cases hp:p a with
   |true=>rw[c hp];simp;omega
   |false=>simp;omega
theorem RD{a b:O AY}(e:a∈cY):decide (Cb cY a<Cb cY b)=mO a b:=by
 cases h:mO a b with
 |true=>
  refine qA (Gu (λu _ c=>mQ c h) ⟨a,e,Bc a,h⟩)
 |false=>
  refine ZZ (fA.mpr (fw λu _ c=>?_));cases d:mO b a with
  |true=>exact mQ c d
  |false=>rw[wQ h d];exact c
def nF(h:A6)(ks:O AY)(v:A0):Prop:=∃(a:A1) (o:AE) (AQ:O A0) (n:Nat),v=.ref a/\h.get? a=Z o/\o.cls=.type "tuple" ∧ o.data=.seq AQ.toArray n/\Ks ks AQ
theorem nF.keep{h':A6}{ks:O AY}{v:A0}(q:nF h ks v)(k:∀c o,h.get? c=Z o->h'.get? c=Z o):nF h' ks v:=by
 obtain⟨a,o,AQ,n,e,g,c,d,p⟩:=q;exact⟨a,o,AQ,n,e,k _ _ g,c,d,p⟩
theorem Sc{k l:AY}{v:A0}(h:iY k v=true)(h':iY l v=true):k=l:=by
 rcases bA h with⟨i,t,rfl,rfl⟩|⟨x,t,rfl,rfl⟩
 ·rcases bA h' with⟨j,u,rfl,e⟩|⟨y,u,rfl,e⟩
  ·cases e;rfl
  ·cases e
 ·rcases bA h' with⟨j,u,rfl,e⟩|⟨y,u,rfl,e⟩
  ·cases e
  ·cases e;rfl
theorem Ks.inj:∀{ks a:O AY} {AQ:O A0},Ks ks AQ->Ks a AQ->ks=a
 |_,_,[],h,h'=>by cases h;cases h';rfl
 |_,_,v::AQ,h,h'=>by
  cases h with
  |cons p t=>cases h' with
   |cons p' t'=>rw[Sc p p',Ks.inj t t']
theorem nF.inj{h:A6}{ks f:O AY}{v:A0}(q:nF h ks v)(l:nF h f v):ks=f:=by
 obtain⟨a,o,AQ,n,rfl,g,c,d,p⟩:=q;obtain⟨m,o',j,s,e,b,c',i,p'⟩:=l;cases e;rw[g]at b;cases b;rw[d]at i;injection i with e1 e2;have e3:AQ=j:=by simpa using congrArg fR e1
 subst e3;exact p.inj p'
theorem RG{f:α->Sem β}:∀(xs:O α) (ys:O β) (Q:O β->A2->Prop),AI (λx y=>∀(b:B7) (Q':β->A2->Prop),Q' y s->A7 (A8 prog w) A (f x) Q' b s) xs ys->Q ys s->A7 (A8 prog w) A (xs.mapM f) Q E s:=by
 intro xs
 induction xs with
 |nil=>intro ys Q p h;cases p;rw[List.mapM_nil];exact zd h
 |cons x xs a=>
  intro ys Q p q;cases p with
  |cons h t=>
   rw[List.mapM_cons];exact zb (h _ _ (zb (a _ _ t (zd q))))
theorem W7(v:A0):firstOfTuple' v=(do
  if(<-typeOf v) != .type "tuple" then return U
  return (<-Builtin.List.listItems v)[0]?):=rfl
theorem Uj{k:AY}{ks:O AY}{v:A0}(q:nF s.heap (k::ks) v):∃u,iY k u=true/\∀(b:B7) (Q':Y A0->A2->Prop),Q' (Z u) s->A7 (A8 prog w) A (firstOfTuple' v) Q' b s:=by
 obtain⟨a,o,AQ,n,rfl,g,c,d,p⟩:=q;cases p with
 |@cons _ u _ AQ hp t=>
  refine⟨u,hp,λb Q' h=>?_⟩;rw[W7];refine zb (Q1 (T :="tuple") ⟨o,g,c⟩ ?_);rw[zD ()];exact zb (listItems_at g d (zd h))
theorem W8{k:AY}(h:iY k u=true)(a:B7)(Q':B7)(q:Q' (.type (if k.isLeft then "int" else "str")) s):A7 (A8 prog w) A (typeOf u) Q' a s:=by
 rcases bA h with⟨i,t,rfl,rfl⟩|⟨x,t,rfl,rfl⟩
 ·exact Q1 (typeIs_int s i t) q
 ·exact Q1 (typeIs_str s x t) q
theorem Uk{vs:O A0}{Q:SortKind->A2->Prop}(g:AI (nF s.heap) cY vs)(f:∀k∈cY,k≠[])(p:∀k∈cY,∀l∈cY,D1 k l)(h2:1<=vs.length)(h:Q (tuples' true) s):A7 (A8 prog w) A (keyKind' vs.toArray) Q E s:=by
 have step:∀(cY:O (O AY)) (vs:O A0),AI (nF s.heap) cY vs->(∀k∈cY,k≠[])->∃us:O A0,AI (λv u=>∀(b:B7) (Q':Y A0->A2->Prop),Q' (Z u) s->A7 (A8 prog w) A (firstOfTuple' v) Q' b s) vs us/\AI (λ(k:O AY) u=>∃x r,k=x::r/\iY x u=true) cY us:=by
  intro cY vs g
  induction g with
  |nil=>intro _;exact⟨[],.nil,.nil⟩
  |@cons k v cY vs q t c=>
   intro f;obtain⟨us,p1,p2⟩:=c λk hk=>f k (zg _ hk);cases k with
   |nil=>exact absurd S (f _ (ze ..))
   |cons x r=>
    obtain⟨u,e,y⟩:=Uj (prog:=prog) (w:=w) (A:=A) q;exact⟨u::us,.cons y p1,.cons ⟨x,r,rfl,e⟩ p2⟩
 obtain⟨us,p1,p2⟩:=step cY vs g f;have B:us.length=vs.length:=(Paired.length p1).symm;have o:∀{l:O A0} {j:O A0},AI (λv u=>∀(b:B7) (Q':Y A0->A2->Prop),Q' (Z u) s->A7 (A8 prog w) A (firstOfTuple' v) Q' b s) l j->AI (λv u=>∀(b:B7) (Q':Y A0->A2->Prop),Q' u s->A7 (A8 prog w) A (firstOfTuple' v) Q' b s) l (j.map Z):=λh=>by
  induction h with
  |nil=>exact .nil
  |cons q t c=>exact .cons q c
 rw[keyKind'_eq,gz,map_eq_pure_bind];refine zb (zb (RG vs (us.map Z) _ (o p1) (zd ?_)));have C:(us.map Z).toArray.all (·.isSome)=true:=by simp
 rw[zl C];refine zb (kg ?_);have m:(us.map Z).toArray.filterMap id=us.toArray:=by simp
 rw[m,oneTypeOnly'_eq,gz,map_eq_pure_bind];have ty:∀(cY:O (O AY)) (us:O A0),AI (λ(k:O AY) u=>∃x r,k=x::r/\iY x u=true) cY us->∃ts:O A0,AI (λu t=>∀(b:B7) (Q':B7),Q' t s->A7 (A8 prog w) A (typeOf u) Q' b s) us ts/\AI (λ(k:O AY) t=>∃x r,k=x::r/\t=.type (if x.isLeft then "int" else "str")) cY ts:=by
  intro cY us hp
  induction hp with
  |nil=>exact⟨[],.nil,.nil⟩
  |@cons k u cY us q t c=>
   obtain⟨ts,q1,q2⟩:=c;obtain⟨x,r,rfl,hx⟩:=q;exact⟨_::ts,.cons (λb Q' h=>W8 hx b Q' h) q1,.cons ⟨x,r,rfl,rfl⟩ q2⟩
 obtain⟨ts,q1,q2⟩:=ty cY us p2;refine zb (zb (zb (RG us ts _ q1 (zd ?_))));have lt:ts.length=vs.length:=by rw[<-Paired.length q1,B]
 cases q2 with
 |nil=>simp at lt;omega
 |@cons G F H i D n=>
  obtain⟨a,r,rfl,rfl⟩:=D;have same:∀t∈i,t=Value.type (if a.isLeft then "int" else "str"):=by
   have z:∀(cY:O (O AY)) (ts:O A0),AI (λ(k:O AY) t=>∃x r,k=x::r/\t=Value.type (if x.isLeft then "int" else "str")) cY ts->(∀k∈cY,D1 (a::r) k)->∀t∈ts,t=Value.type (if a.isLeft then "int" else "str"):=by
    intro cY ts hp
    induction hp with
    |nil=>intro _ t d;cases d
    |@cons k t cY ts q _ c=>
     intro hs u e;rcases List.mem_cons.mp e with rfl|e
     ·obtain⟨x,I,rfl,rfl⟩:=q;have:=(hs _ (ze ..)).1;cases a<;>cases x<;>first|rfl|cases this
     ·exact c (λk hk=>hs k (zg _ hk)) u e
   exact z _ _ n λk hk=>p _ (ze ..) k (zg _ hk)
  have e0:(Value.type (if a.isLeft then "int" else "str")::i).toArray[0]?=Z (Value.type (if a.isLeft then "int" else "str")):=by simp
  have e1:((Value.type (if a.isLeft then "int" else "str")::i).toArray.all λx=>x==Value.type (if a.isLeft then "int" else "str"))=true:=by
   simp only[List.all_toArray,ja];intro t d;rcases List.mem_cons.mp d with rfl|d
   ·simp
   ·rw[same t d];simp
  rw[e0];simp only[e1,QY];refine zd (zd ?_);have e2:((Z (Value.type (if a.isLeft then "int" else "str"))).any λx=>x !=Value.type "tuple")=true:=by
   cases a with
   |inl _=>exact(by decide:((Z (Value.type "int")).any λx=>x !=Value.type "tuple")=true)
   |inr _=>exact(by decide:((Z (Value.type "str")).any λx=>x !=Value.type "tuple")=true)
  rw[e2];exact h
def BO(cY:O (O AY))(vs:O A0)(v:A0):O AY:=match (vs.zip cY).find? (λp=>p.1==v)with
 |some p=>p.2
 |none=>[]
theorem mj{h:A6}:∀{cY:O (O AY)} {vs:O A0},AI (nF h) cY vs->∀v∈vs,BO cY vs v∈cY/\nF h (BO cY vs v) v
 |_,_,.nil,v,hv=>by cases hv
 |k::cY,u::vs,.cons q t,v,hv=>by
  unfold BO;rw[yT,kF];by_cases e:u=v
  ·subst e;simp only[beq_self_eq_true];exact⟨ze ..,q⟩
  ·have e':(u==v)=false:=by simpa using e
   simp only[e'];have b:v∈vs:=by
    rcases List.mem_cons.mp hv with h|h
    ·exact absurd h.symm e
    ·exact h
   have a:=mj t v b;exact⟨zg _ a.1,a.2⟩
theorem yO{h:A6}:∀{cY:O (O AY)} {vs:O A0},AI (nF h) cY vs->∀(K:A0->O AY),(∀v∈vs,nF h (K v) v)->vs.map K=cY
 |_,_,.nil,_,_=>rfl
 |k::cY,v::vs,.cons q t,K,hK=>by
  rw[zo,(hK v (ze ..)).inj q,yO t K λu a=>hK u (zg _ a)]
theorem Bg{h:A6}:∀{vs:O A0} {K:A0->O AY},(∀v∈vs,nF h (K v) v)->AI (nF h) (vs.map K) vs
 |[],_,_=>.nil
 |v::vs,K,hK=>.cons (hK v (ze ..)) (Bg λu a=>hK u (zg _ a))
theorem W9{vs:O A0}(b:AI (nF s.heap) cY vs)(j:∀k∈cY,∀l∈cY,D1 k l):Ud prog w A s (tuples' true) (λv=>Cb cY (BO cY vs v)) (pairsOf vs):=by
 intro E p q Q hp f h;rw[pairsOf_toList]at hp f;obtain⟨i,t1⟩:=mj b p.1 (mem_zip_self hp).2;obtain⟨m2,t2⟩:=mj b q.1 (mem_zip_self f).2;rw[RD i]at h;have m:=j _ i _ m2;obtain⟨a,o,AQ,n,e,g,c,d,k⟩:=t1;obtain⟨z,o',y,B,e',t,c',x,u⟩:=t2;rw[e,e'];exact Po g d t x k u m h
theorem Xa{vs:O A0}(a:AI (nF h) cY vs){xs:Array Keyed}(hp:xs.Perm (pairsOf vs))(n:Up (λv=>Cb cY (BO cY vs v)) xs (pairsOf vs).size):AI (nF h) (vH cY) (xs.map (·.2)).toList:=by
 have c:xs.toList.Perm (vs.zip vs):=by rw[<-pairsOf_toList];exact cq.mp hp
 have d:∀p∈xs.toList,p.1=p.2/\p.1∈vs:=λp q=>mem_zip_self (c.mem_iff.mp q);have e:(xs.map (·.2)).toList=xs.toList.map (·.1):=by
  rw[gX];exact qq λp q=>(d p q).1.symm
 have pv:(xs.toList.map (·.1)).Perm vs:=by
  have:=c.map Prod.fst;rwa [List.map_fst_zip (zk _)]at this
 have l:vH cY=(xs.toList.map (·.1)).map (BO cY vs):=by
  refine(Gs ?_ ?_).symm
  ·have:=pv.map (BO cY vs);rwa [yO a _ λv q=>(mj a v q).2]at this
  ·rw[List.pairwise_iff_getElem];intro i j hi g f;have m:i<xs.size:=by simpa using hi
   have b:j<xs.size:=by simpa using g
   have u:=n i j (Q2 f) (by rw[<-hp.size_eq];exact b);unfold at_ at u;rw[getElem?_pos xs i m,getElem?_pos xs j b]at u;have m2:=(mj a xs[j].1 (d xs[j] (by simp)).2).1;simp only[List.getElem_map,Array.getElem_toList];unfold vG;rw[<-RD m2,ZZ (fA.mpr u)];rfl
 rw[l,e];refine Bg λv q=>(mj a v ?_).2;exact pv.mem_iff.mp q
end S1
namespace P1
open L2 S1
theorem Bh{T:String}{vs:O A0}{Q:O A0->A2->Prop}(a:s.heap.get? l=Z o)(d:o.cls=.type T)(f:T ="list" ∨ T ="tuple")(g:o.data=.seq vs.toArray n)(i:vs.length<=AA)(h:∀h' tk,s.heap.objs.size<=h'.objs.size->(∀c o,s.heap.get? c=Z o->h'.get? c=Z o)->Q vs { s with heap:=h',toks:=tk }):A7 (A8 prog w) A (collect (.ref l)) Q E s:=by
 unfold collect;refine zb (wpAny_runValue (JY entry_proto_collect' ?_));show A7 _ _ (newList [] >>= λq=>again (.builtin "list.__iadd__" ⟨[q,.ref l],[]⟩)) _ _ s;refine zb (YA (zd ⟨Code.quiet_builtin _ (by decide +kernel),JY entry_list_iadd' ?_⟩));show A7 _ _ (Builtin.List.listExtendWith (.ref s.heap.objs.size) (.ref l) (.ref s.heap.objs.size)) _ _ _;unfold Builtin.List.listExtendWith;have g1:(s.heap.push (seqObj "list" #[] 0)).get? l=Z o:=zh _ a;refine zb (Q1 (T:=T) ⟨o,g1,d⟩ ?_);have b:(Value.type T==Value.type "list" || Value.type T==Value.type "tuple")=true:=by rcases f with rfl|rfl<;>decide
 rw[zl (by rw[Bool.or_assoc,b];simp)];refine zb (listItems_at g1 g (zb (listItems_at (xs:=#[]) (n:=0) (zt _ S) S ?_)));rw[zD (by simp)];have g2:(s.heap.push (seqObj "list" #[] 0)).get? s.heap.objs.size=Z (seqObj "list" #[] 0):=zt _ rfl;refine zb (listUpdate_at (xs:=#[]) (n:=0) g2 S (zd ?_) (qh _) (by show(#[]++vs.toArray).size<=AA+1;simp only[k6,zw,ye];omega));show A7 (A8 prog w) A (load s.heap.objs.size >>= _) Q E _;refine zb (yz (get?_update_seq g2 _) ?_);show A7 _ _ (pure ((#[]:Array A0)++vs.toArray).toList) Q E _;rw[show((#[]:Array A0)++vs.toArray).toList=vs by simp];refine zd (h _ s.toks ?_ λc j e=>?_)
 ·rw[gS,size_push'];exact Kx _
 ·rw[JJ _ _ _ _ (z5 (zI e))];exact zh _ e
def FI:Dt->Y AY
 |.int i=>Z (.inl i)
 |.str x=>Z (.inr x)
 |_=>U
def yP:O Dt->Y (O AY)
 |[]=>Z []
 |d::ds=>(FI d).bind λk=>(yP ds).bind λks=>Z (k::ks)
def Bj:Dt->Y (O AY)
 |.tup ds=>yP ds
 |_=>U
def sX:O Dt->Y (O (O AY))
 |[]=>Z []
 |d::ds=>(Bj d).bind λk=>(sX ds).bind λks=>Z (k::ks)
def dK:AY->Dt
 |.inl i=>.int i
 |.inr x=>.str x
def By(ks:O AY):Dt:=.tup (ks.map dK)
theorem UT{k:AY}(h:FI d=Z k):d=dK k:=by
 cases d<;>cases h<;>rfl
theorem K3:∀{ds:O Dt} {ks:O AY},yP ds=Z ks->ds=ks.map dK
 |[],_,h=>by cases h;rfl
 |d::ds,_,h=>by
  obtain⟨k,e1,h⟩:=AT h;obtain⟨ks,e2,h⟩:=AT h;cases h;rw[zo,UT e1,K3 e2]
theorem Xb{ks:O AY}(h:Bj d=Z ks):d=By ks:=by
 cases d with
 |tup ds=>exact congrArg Dt.tup (K3 h)
 |_=>cases h
theorem Gv:∀{ds:O Dt} {cY:O (O AY)},sX ds=Z cY->ds=cY.map By
 |[],_,h=>by cases h;rfl
 |d::ds,_,h=>by
  obtain⟨k,e1,h⟩:=AT h;obtain⟨ks,e2,h⟩:=AT h;cases h;rw[zo,Xb e1,Gv e2]
theorem OE{k:AY}(h:AW K H (dK k) v):v=kV k:=by
 cases k with
 |inl i=>exact(show v=.int i by simpa only[dK,AW]using h)
 |inr x=>exact(show v=.str x/\x.length<=AA by simpa only[dK,AW]using h).1
theorem Gw{K:Au}{H:Hp}:∀{ks:O AY} {vs:O V},aG K H (ks.map dK) vs->vs=ks.map kV
 |[],_,h=>by simp only[kA,aG]at h;exact h
 |k::ks,_,h=>by
  simp only[zo,aG]at h;obtain⟨v,r,rfl,h1,h2⟩:=h;rw[OE h1,Gw h2,zo]
theorem WB(X:Cx){ks:O AY}:∀{us:O A0},AX (ks.map kV) us->Ks ks us:=by
 induction ks with
 |nil=>intro us h;cases h;exact .nil
 |cons k ks a=>
  intro us h;cases h with
  |cons r t=>exact .cons (FQ (P:=X.prog) (w:=X.w) r) (a t)
theorem Iw{AN:O (A1×AE)}{σ:L2.St}{H:Hp}{s:A2}(I:AU X AN σ H s):∀{cY:O (O AY)} {vs:O V} {AQ:O A0},aG X.K H (cY.map By) vs->AX vs AQ->AI (nF s.heap) cY AQ
 |[],_,_,h,r=>by
  simp only[kA,aG]at h;subst h;cases r;exact .nil
 |k::cY,_,_,h,r=>by
  simp only[zo,aG]at h;obtain⟨v,vs,rfl,h1,h2⟩:=h;cases r with
  |cons f i=>
   refine .cons ?_ (Iw I h2 i);simp only[By,AW]at h1;obtain⟨a,j,rfl,sq,e⟩:=h1;obtain⟨AQ,b,⟨o,g,c,n,d⟩,_⟩:=I.tuple sq;cases f;rw[Gw e]at b;exact⟨a,o,AQ,n,rfl,g,c,d,WB X b⟩
theorem Gx{AN:O (A1×AE)}{σ:L2.St}{H:Hp}{s:A2}(I:AU X AN σ H s){cY:O (O AY)}{vs:O V}{AQ:O A0}(h:aG X.K H (cY.map By) vs)(r:AX vs AQ):∀{c:O (O AY)} {out:O A0},AI (nF s.heap) c out->(∀u∈out,u∈AQ)->∃zs,AX zs out/\aG X.K H (c.map By) zs
 |_,_,.nil,_=>⟨[],.nil,aG.nil⟩
 |l::c,u::out,.cons q t,hm=>by
  obtain⟨zs,z1,z2⟩:=Gx I h r t λx hx=>hm x (zg _ hx);have i:∀(cY:O (O AY)) (vs:O V) (AQ:O A0),aG X.K H (cY.map By) vs->AX vs AQ->u∈AQ->∃v,At v u/\AW X.K H (By l) v:=by
   intro cY
   induction cY with
   |nil=>
    intro vs AQ h r a;simp only[kA,aG]at h;subst h;cases r;cases a
   |cons k cY d=>
    intro vs AQ h r a;simp only[zo,aG]at h;obtain⟨v,vs,rfl,h1,h2⟩:=h;cases r with
    |@cons _ j _ _ b g=>
     rcases List.mem_cons.mp a with rfl|a
     ·have e:k=l:=by
       have:=Iw I (cY:=[k]) (vs:=[v]) (AQ:=[u]) (by simp only[zo,kA];exact aG.cons h1 aG.nil) (.cons b .nil);cases this with
       |cons f _=>exact f.inj q
      subst e;exact⟨v,b,h1⟩
     ·exact d vs _ h2 g a
  obtain⟨v,b,h1⟩:=i cY vs AQ h r (hm u (ze ..));exact⟨v::zs,.cons b z1,by rw[zo];exact aG.cons h1 z2⟩
def Ef(k l:O AY):Bool:=((k.zip l).all λp=>RB p.1 p.2)
theorem O9:∀{k l:O AY},Ef k l=true->D1 k l
 |[],_,_=>by simp[D1]
 |_::_,[],_=>by simp[D1]
 |x::k,y::l,h=>by
  unfold Ef at h;rw[yT,kL,qo]at h;exact⟨h.1,O9 h.2⟩
def FF(cY:O (O AY)):Bool:=decide (cY.length<64)&&(cY.all (λk=>!k.isEmpty)&&cY.all λk=>cY.all λl=>Ef k l)
def sY:O Bx->Y Bx
 |[b]=>(oO b).bind λds=>(sX ds).bind λcY=>if FF cY=true then Z (.o ((vH cY).map By))else U
 |_=>U
theorem uE(h:aW K H b v)(e:oO b=Z ds):∃a vs,v=.ref a/\(rJ K H a vs\/wj K H a vs)/\aG K H ds vs:=by
 cases b with
 |z d=>
  cases d<;>first|(cases e;done)|skip
  ·cases e;simp only[aW,AW]at h;obtain⟨a,vs,e,q,r⟩:=h;exact⟨a,vs,e,.inr q,r⟩
  ·cases e;simp only[aW,AW]at h;obtain⟨a,vs,e,q,r⟩:=h;exact⟨a,vs,e,.inl q.sq,r⟩
 |l c=>cases e;obtain⟨a,vs,e,q,r⟩:=h;exact⟨a,vs,e,.inl (.inl q),r⟩
 |o c=>cases e;obtain⟨a,vs,e,q,r⟩:=h;exact⟨a,vs,e,.inl (.inl (.inl q)),r⟩
 |n _=>cases e
 |m _ _=>cases e
theorem wR:mF X (.builtin "sorted") sY:=by
 intro AN s σ H xs us Q I J h;obtain⟨bs,c,E,e,q⟩:=h;unfold sY at e;split at e
 ·rename_i b;obtain⟨ds,K,e⟩:=AT e;obtain⟨cY,ek,e⟩:=AT e;split at e
  ·rename_i hs;cases e;simp only[FF,qo,QO,ja,ke]at hs;obtain⟨W,a3,y⟩:=hs;obtain⟨v,rfl,M⟩:=BH E;obtain⟨p,vs,rfl,sq,w⟩:=uE M K;obtain⟨u,rfl,B⟩:=BB J;cases B;have N:=Gv ek;subst N;have C:∃(AQ:O A0) (o:AE) (T:String) (n:Nat),AX vs AQ/\s.heap.get? p=Z o/\o.cls=.type T/\(T ="list" ∨ T ="tuple")/\o.data=.seq AQ.toArray n/\vs.length<=AA:=by
    rcases sq with sq|sq
    ·obtain⟨AQ,f,pl,j⟩:=I.list sq;obtain⟨o,g,c,n,d⟩:=pl.isList;exact⟨AQ,o,_,n,f,g,c,.inl rfl,d,j⟩
    ·obtain⟨AQ,f,⟨o,g,c,n,d⟩,j⟩:=I.tuple sq;exact⟨AQ,o,_,n,f,g,c,.inr rfl,d,j⟩
   obtain⟨AQ,o,T,n,f,g,D,hT,hd,j⟩:=C;have b0:AQ.length=cY.length:=by rw[<-f.length,w.length,zi]
   have tv:=Iw I w f;refine Ue (kd:=tuples' true) (rk:=λv=>Cb cY (BO cY AQ v)) (vs:=AQ) (λL Q' t=>Bh g D hT hd (by rw[<-f.length];exact j) t)
    (λh2 L F s' k Q' t=>Uk (Paired.imp' (λ_ _ z=>nF.keep z k) tv) (λk hk=>by have:=a3 k hk;cases k with|nil=>cases this|cons _ _=>exact List.cons_ne_nil _ _) (λk hk l i=>O9 (y k hk l i)) () t)
    (λF s' k=>W9 (Paired.imp' (λ_ _ z=>nF.keep z k) tv) λk hk l i=>O9 (y k hk l i)) () λl h' tk m st hp up i ext hL=>?_
   have out:=Xa tv hp up;have mem:∀u∈((AM st).map (·.2)).toList,u∈AQ:=λu A=>by
    rw[gX]at A;obtain⟨pr,a5,rfl⟩:=ax.mp A;have G:pr∈AQ.zip AQ:=by rw[<-pairsOf_toList];exact(cq.mp hp).mem_iff.mp a5
    have:=mem_zip_self G;rw[<-this.1];exact this.2
   obtain⟨zs,z1,z2⟩:=Gx I w f out mem;have P:zs.length=cY.length:=by rw[z2.length,zi,(yN cY).length_eq]
   have x:H l=U:=I.hok.fresh i;refine⟨.ref l,_,I.laid (t':=tk) (a:=l) (o:=.lst zs) ext i ⟨by rw[P];exact Q2 (ZN W ()),_,m,z1,?_⟩,rfl,q _ _ (bw x) (λa ea=>by cases ea;exact x) ⟨l,zs,rfl,aJ,z2.kp (.of (bw x))⟩⟩;rw[hL]
  ·cases e
 ·cases e
end P1
namespace S6
def K4(xs:Array Nat):Prop:=∀i j,i<j->j<xs.size->xs.getD i 0<xs.getD j 0
theorem Co{xs:Array Nat}{k a b:Nat}(h:k<xs.size):xs.getD k a=xs.getD k b:=by simp[Array.getD,h]
theorem Bk(xs:Array Nat)(j:Nat)(a:K4 xs):∀(fuel lo hi:Nat),lo<=hi->hi<=xs.size->hi-lo<=fuel->(∀k,k<lo->xs.getD k 0<j)->(∀k,hi<=k->k<xs.size->j<=xs.getD k 0) →
  bu.go xs j fuel lo hi<=xs.size/\(∀k,k<bu.go xs j fuel lo hi->xs.getD k 0<j)/\∀k,bu.go xs j fuel lo hi<=k->k<xs.size->j<=xs.getD k 0
 |0,lo,hi,h1,h2,h3,h4,h5=>by
  have e:lo=hi:=by omega
  subst e;unfold bu.go;exact⟨h2,h4,h5⟩
 |fuel+1,lo,hi,h1,h2,h3,h4,h5=>by
  unfold bu.go;by_cases d:lo<hi
  ·rw[zl d];dsimp only;have c:(lo+hi) / 2<xs.size:=by omega
   rw[Co (b:=0) c];by_cases q:xs.getD ((lo+hi) / 2) 0<j
   ·rw[zl q];refine Bk xs j a fuel _ hi () h2 () (λk hk=>?_) h5;by_cases e:k=(lo+hi) / 2
    ·rw[e];exact q
    ·exact yo (a k _ () c) q
   ·rw[zD q];refine Bk xs j a fuel lo _ () () () h4 λk hk hs=>?_;by_cases e:k=(lo+hi) / 2
    ·rw[e];omega
    ·have:=a _ k (by omega:(lo+hi) / 2<k) hs;omega
  ·rw[zD d];have e:lo=hi:=by omega
   subst e;exact⟨h2,h4,h5⟩
theorem CS{xs:Array Nat}(a:K4 xs)(j:Nat):bu xs j<=xs.size/\(∀k,k<bu xs j->xs.getD k 0<j)/\∀k,bu xs j<=k->k<xs.size->j<=xs.getD k 0:=
 Bk xs j a xs.size 0 xs.size (qh _) (zk _) () (λk h=>absurd h (dc _)) λk h h'=>absurd h' ()
theorem Ul{b:Source}{Q:Nat->A2->Prop}(a:n≠0)(h:∀i d,i<n->Q i { s with drawn:=d }):A7 M A (choose b n) Q E s:=
 λe p c=>⟨a,h _ _ (dd _ (Nat.pos_of_ne_zero a))⟩
theorem zQ{α:Type}:∀{xs:O α} {i:Nat} (hi:i<xs.length),(xs[i]::xs.eraseIdx i).Perm xs
 |x::xs,0,_=>kq _
 |x::xs,i+1,h=>by
  rw[KG,List.getElem_cons_succ];exact(List.Perm.swap _ _ _).trans ((zQ (xs:=xs) (i:=i) (by simpa using h)).cons x)
theorem RJ:∀(n:Nat) (xs:O α) (s:A2) (Q:O α->A2->Prop),xs.length=n->(∀ys d,ys.Perm xs->Q ys { s with drawn:=d })->A7 M A (drawOrder n xs) Q E s:=by
 intro n
 induction n with
 |zero=>
  intro xs s Q a h;cases xs with
  |nil=>
   unfold drawOrder;exact zd (h [] s.drawn (kq _))
  |cons x xs=>simp at a
 |succ n b=>
  intro xs s Q a h;cases xs with
  |nil=>simp at a
  |cons x xs=>
   unfold drawOrder;refine zb (Ul (by simp) λi d hi=>?_);have e:(x::xs)[i]?=Z (x::xs)[i]:=by simp[hi]
   rw[e];dsimp only;refine zb (b ((x::xs).eraseIdx i) _ _ (by rw[yb,zl hi];simp at a ⊢;omega) λys c hp=>zd ?_);exact h _ c ((List.Perm.cons _ hp).trans (zQ hi))
theorem RK{α:Type}(next:Nat->Nat):∀(n k:Nat) (xs:O α) (out:Array α),xs.length=n->(pickOrder.go next n k xs out).toList.Perm (out.toList++xs)
 |0,k,[],out,_=>by unfold pickOrder.go;simp
 |n+1,k,x::xs,out,hl=>by
  unfold pickOrder.go;have hi:next k%(x::xs).length<(x::xs).length:=dd _ (by simp);have e:(x::xs)[next k%(x::xs).length]?=Z (x::xs)[next k%(x::xs).length]:=by rw[zr hi]
  rw[e];dsimp only;refine(RK next n (k+1) _ _ (by rw[yb,zl hi];simp at hl ⊢;omega)).trans ?_;rw[gA,ZO];exact(kq _).append (zQ hi)
theorem Gy(next:Nat->Nat)(xs:Array α):(pickOrder next xs).toList.Perm xs.toList:=by
 have:=RK next xs.size 0 xs.toList #[] (by simp);simpa[pickOrder]using this
structure Wk (w:World) (h:Heap) (a:Addr) (es:Array (Int×Value)) (ep:Nat) (t:SetTable):Prop where
 at_:∃o,h.get? a=some o/\o.cls=.type "set" ∧ o.data=.set es ep t
 fit:t.fits es.size=true
 led:w.params.followText "set-order"=false->t.led=true
 non:(1<es.size->t.plain=false)\/K4 t.place
theorem Wk.keep{h':A6}{es:Array (Int×A0)}(x:Wk w h a es ep t)(k:∀o,h.get? a=Z o->h'.get? a=Z o):Wk w h' a es ep t:=
 ⟨let ⟨o,e,r⟩:=x.at_;⟨o,k o e,r⟩,x.fit,x.led,x.non⟩
def It(h:A6)(it a:A1)(first:A0)(i n ep:Nat):Prop:=∃o,h.get? it=Z o/\o.cls=.type "set_iterator" ∧ o.data=.fields #[first,.int (i:Int) 0,.ref a,.int (n:Int) 0,.int (ep:Int) 0]
theorem It.keep{h':A6}{f:A0}(x:It h it a f i n ep)(k:∀o,h.get? it=Z o->h'.get? it=Z o):It h' it a f i n ep:=
 let ⟨o,e,r⟩:=x;⟨o,k o e,r⟩
theorem It.ty{f:A0}(x:It s.heap it a f i n ep):s.TypeIs (.ref it) "set_iterator":=let ⟨o,e,c,_⟩:=x;⟨o,e,c⟩
theorem gM:Slot "set_iterator" "__next__" "set_iterator.__next__":=
 .of (owner :="set_iterator") (n :="__next__") (by rw[typeLookup_type,builtinLookup_eq_fast];kernel_rfl) (by decide +kernel) (by decide +kernel) (by decide +kernel)
  (by first|exact .inl (by decide +kernel)|exact .inr (by decide +kernel)) (by rw[isSubtype_type];kernel_rfl)
theorem wU:Slot "set_iterator" "__iter__" "set_iterator.__iter__":=
 .of (owner :="set_iterator") (n :="__iter__") (by rw[typeLookup_type,builtinLookup_eq_fast];kernel_rfl) (by decide +kernel) (by decide +kernel) (by decide +kernel)
  (by first|exact .inl (by decide +kernel)|exact .inr (by decide +kernel)) (by rw[isSubtype_type];kernel_rfl)
theorem Eh:entryFor table "set_iterator.__next__"=Z Builtin.«set_iterator.__next__»:=entryFor_of_tree (by kernel_rfl)
theorem zx:entryFor table "set.__iter__"=Z Builtin.«frozenset.__iter__»:=entryFor_alias (id' :="frozenset.__iter__") (by kernel_rfl) S (by decide +kernel) (by kernel_rfl)
theorem Ei:entryFor table "set_iterator.__iter__"=Z Builtin.«dict_keyiterator.__iter__»:=entryFor_alias (id' :="dict_keyiterator.__iter__") (by kernel_rfl) S (by decide +kernel) (by kernel_rfl)
theorem Xc:Manifest.owners.lookup (String.ofList "rotareti_tes".toList.reverse)=Z Manifest.sig_set_iterator:=by kernel_rfl
theorem Iz(a:A0):argsOk "set_iterator.__next__" ⟨[a],[]⟩:=by
 unfold argsOk;rw[signature?_of (id :="set_iterator.__next__") (n :="__txen__".toList) (o :="rotareti_tes".toList) (by kernel_rfl) Xc];kernel_rfl
theorem IK(a:A0):argsOk "set_iterator.__iter__" ⟨[a],[]⟩:=by
 unfold argsOk;rw[signature?_of (id :="set_iterator.__iter__") (n :="__reti__".toList) (o :="rotareti_tes".toList) (by kernel_rfl) Xc];kernel_rfl
section
variable{es:Array (Int×A0)}
theorem zR{first:A0}{Q:Y A0->A2->Prop}(d:It s.heap it a first i es.size ep)(g:Wk w s.heap a es ep t)
  (h:A7 (A8 prog w) A.in1 (if let .int slot _:=first then(do
    match <-setNext a slot.toNat (i:Int).toNat (ep:Int).toNat with
    |some (x,next)=>
     setField (.ref it) 0 (rawInt next)
     setField (.ref it) 1 (rawInt ((i:Int)+1))
     ret x
    |none=>setField (.ref it) 2 .none;raiseNew (<-newExc (.type "StopIteration") []))
   else(do
    let Z places <-seqItems? first|unsupported "internal:set_iterator"
    match places[(i:Int).toNat]? with
    |some (.int place _)=>
     let x <-setNextDrawn a place.toNat (ep:Int).toNat
     setField (.ref it) 1 (rawInt ((i:Int)+1))
     ret x
    |some _=>unsupported "internal:set_iterator"
    |none=>setField (.ref it) 0 (rawInt 0);setField (.ref it) 2 .none;raiseNew (<-newExc (.type "StopIteration") []))) (λf s'=>∃v,f=.done (.ret v)/\Q (Z v) s') (λe s'=>s'.TypeIs e "StopIteration" ∧ Q U s') s):A7 (A8 prog w) A (pyNext (.ref it)) Q E s:=by
 obtain⟨o,j,u,p⟩:=id d;obtain⟨y,m,q,n⟩:=g.at_;unfold pyNext;refine zb (wpAny_attempt (YU (name:=Str.ofString "__next__") d.ty gM (Q3 gM d.ty Eh ?_ (Iz _))));unfold Builtin.«set_iterator.__next__»;refine zb (zd ?_);refine zb (wpAny_fieldsOf j p ?_);show A7 _ _ (setEntries a >>= _) _ _ s;refine zb (wpAny_setEntries_of m n g.fit ?_);rw[zD (by simp)];refine Z3 h (λf s' c=>?_) λe s' c=>?_
 ·obtain⟨v,rfl,l⟩:=c;exact⟨v,rfl,zd l⟩
 ·refine zb (jS (T :="StopIteration") (b:=true) c.1 isSubtype_stop ?_);exact zd c.2
theorem RM{hp:A6}{Q:Y A0->A2->Prop}(c:A.handled=U)(h:∀h',(∀b o,hp.get? b=Z o->h'.get? b=Z o)->Q U { s with heap:=h' }):
  A7 (A8 prog w) A.in1 (do raiseNew (<-newExc (.type "StopIteration") [])) (λ(d:Fin) s'=>∃v,d=.done (.ret v)/\Q (Z v) s') (λe s'=>s'.TypeIs e "StopIteration" ∧ Q U s') { s with heap:=hp }:=by
 refine zb ?_;simp only[newExc,newTuple];refine zb (qV ?_ (by size_fits));refine zb (m:=firstArgMember _ _) (wpAny_of_eq (a:=Value.none) (by first|rfl|(simp only[firstArgMember];rfl)) ?_);refine qV ?_ (by size_fits);simp only[raiseNew];refine zb (wpAny_handled ?_);rw[show A.in1.handled=U from c];refine zb (zd (wpAny_throw ⟨⟨_,zt _ rfl,rfl⟩,?_⟩));exact h _ λb o e=>zh _ (zh _ e)
theorem It.put{f:A0}(c:It h it a f i n ep)(x:A0):It (h.update it (Obj.mapFields (·.setIfInBounds 0 x))) it a x i n ep:=by
 obtain⟨o,d,e,b⟩:=c;exact⟨_,kQ _ d (Obj.isFreed_of_fields (yB b _)),(Obj.cls_mapFields ..).trans e,by rw[yB b];simp⟩
theorem It.step{f:A0}(c:It h it a f i n ep):It (h.update it (Obj.mapFields (·.setIfInBounds 1 (rawInt ((i:Int)+1))))) it a f (i+1) n ep:=by
 obtain⟨o,d,e,b⟩:=c;exact⟨_,kQ _ d (Obj.isFreed_of_fields (yB b _)),(Obj.cls_mapFields ..).trans e,by rw[yB b];simp[rawInt]⟩
theorem It.field{f:A0}{k:Nat}{x:A0}(b:It s.heap it a f i n ep)(hk:k<5)(h:Q bv { s with heap:=s.heap.update it (Obj.mapFields (·.setIfInBounds k x)) }):A7 (A8 prog w) A (setField (.ref it) k x) Q E s:=by
 obtain⟨o,c,e,d⟩:=b;exact wpAny_setField c d (by simpa using hk) h
theorem pQ{f:AE->AE}{b:A1}(a:b≠it)(e:h.get? b=Z o):(h.update it f).get? b=Z o:=by rw[JJ _ _ _ _ a];exact e
theorem Xd{slot next:Nat}{x:A0}{Q:Y A0->A2->Prop}(c:It s.heap it a (.int (slot:Int) 0) i es.size ep)(j:Wk w s.heap a es ep t)
  (l:∀{g:A5} {f:B7} {Q':Y (A0×Nat)->A2->Prop},Q' (Z (x,next)) s->A7 (A8 prog w) g (setNext a slot i ep) Q' f s)
  (h:∀h',It h' it a (.int (next:Int) 0) (i+1) es.size ep->(∀b o,b≠it->s.heap.get? b=Z o->h'.get? b=Z o)->Q (Z x) { s with heap:=h' }):A7 (A8 prog w) A (pyNext (.ref it)) Q E s:=by
 refine zR c j ?_;show A7 _ _ (setNext a slot i ep >>= _) _ _ s;refine zb (l ?_);refine zb (c.field () ?_);refine zb ((c.put _).field (s:={ s with heap:=_ }) () ?_);exact zd ⟨x,rfl,h _ ((c.put _).step) λb o d e=>pQ d (pQ d e)⟩
theorem Bl{slot:Nat}{Q:Y A0->A2->Prop}(g:A.handled=U)(c:It s.heap it a (.int (slot:Int) 0) i es.size ep)(l:Wk w s.heap a es ep t)
  (m:∀{f:A5} {d:B7} {Q':Y (A0×Nat)->A2->Prop},Q' U s->A7 (A8 prog w) f (setNext a slot i ep) Q' d s)
  (h:∀h',(∀b o,b≠it->s.heap.get? b=Z o->h'.get? b=Z o)->Q U { s with heap:=h' }):A7 (A8 prog w) A (pyNext (.ref it)) Q E s:=by
 refine zR c l ?_;show A7 _ _ (setNext a slot i ep >>= _) _ _ s;refine zb (m ?_);refine zb (c.field () (RM g λh' k=>h h' λb o j e=>k b o (pQ j e)))
theorem aa{tp:A1}{g:AE}{c:Nat}{x:Int×A0}{Q:Y A0->A2->Prop}(d:It s.heap it a (.ref tp) i es.size ep)(f:Wk w s.heap a es ep t)(l:s.heap.get? tp=Z g)(v:g.data=.seq (pl.map λ(k:Nat)=>rawInt (k:Int)).toArray c)(p:pl[i]?=Z j)(hx:es[j]?=Z x)(h:∀h',It h' it a (.ref tp) (i+1) es.size ep->(∀b o,b≠it->s.heap.get? b=Z o->h'.get? b=Z o)->Q (Z x.2) { s with heap:=h' }):A7 (A8 prog w) A (pyNext (.ref it)) Q E s:=by
 refine zR d f ?_;show A7 _ _ (seqItems? (.ref tp) >>= _) _ _ s;refine zb (m:=seqItems? (.ref tp)) ?_;unfold seqItems?;refine zb (yz l ?_);rw[v];refine zd ?_;dsimp only;rw[Ya,show((pl.map λ(k:Nat)=>rawInt (k:Int)).toArray)[i]?=Z (rawInt (j:Int)) by simp[p]];show A7 _ _ (setNextDrawn a j ep >>= _) _ _ s;obtain⟨z,u,y,q⟩:=f.at_;refine zb (m:=setNextDrawn a j ep) ?_;unfold setNextDrawn;refine zb (qk u q f.fit ?_);dsimp only;rw[zD (by simp),hx];refine zd ?_;refine zb (d.field () ?_);exact zd ⟨x.2,rfl,h _ d.step λb o n e=>pQ n e⟩
theorem K5{tp:A1}{f:AE}{c:Nat}{Q:Y A0->A2->Prop}(j:A.handled=U)(d:It s.heap it a (.ref tp) i es.size ep)(p:Wk w s.heap a es ep t)(l:s.heap.get? tp=Z f)(q:f.data=.seq (pl.map λ(k:Nat)=>rawInt (k:Int)).toArray c)(n:pl[i]?=U)(h:∀h',(∀b o,b≠it->s.heap.get? b=Z o->h'.get? b=Z o)->Q U { s with heap:=h' }):A7 (A8 prog w) A (pyNext (.ref it)) Q E s:=by
 refine zR d p ?_;show A7 _ _ (seqItems? (.ref tp) >>= _) _ _ s;refine zb (m:=seqItems? (.ref tp)) ?_;unfold seqItems?;refine zb (yz l ?_);rw[q];refine zd ?_;dsimp only;rw[Ya,show((pl.map λ(k:Nat)=>rawInt (k:Int)).toArray)[i]?=U by simpa using n];refine zb (d.field () ?_);refine zb ((d.put _).field (s:={ s with heap:=_ }) () (RM j λh' k=>h h' λb o g e=>k b o (pQ g (pQ g e))))
theorem jz{Q:Bool->A2->Prop}(h:Q (w.params.followText "set-order") s):A7 (A8 prog w) A setsByText Q E s:=by
 unfold setsByText;exact zb (KU (zd h))
theorem IV{f:A0}{Q:B7}(b:It s.heap it a f i n ep)(h:Q (.ref it) s):A7 (A8 prog w) A (pyIter (.ref it)) Q E s:=by
 refine wpAny_pyIter_slot b.ty wU (Q3 wU b.ty Ei ?_ (IK _));show A7 _ _ (ret (.ref it)) _ _ s;exact zd ⟨_,rfl,"set_iterator", _,b.ty,gM.lookup,h⟩
def IW(w:A4)(a:A1)(ep:Nat)(es:Array (Int×A0)):O A0:=(pickOrder (w.params.setOrder a ep) es).toList.map (·.2)
theorem yq:(IW w a ep es).Perm (es.toList.map (·.2)):=(Gy _ _).map _
theorem Gz{slot:Nat}{Q:Y (A0×Nat)->A2->Prop}(c:w.params.followText "set-order"=true)(b:Wk w s.heap a es ep t)(h:Q (((IW w a ep es)[i]?).map λv=>(v,slot)) s):A7 (A8 prog w) A (setNext a slot i ep) Q E s:=by
 obtain⟨j,f,g,d⟩:=b.at_;unfold setNext;refine zb (qk f d b.fit (zb (jz ?_)));rw[c];simp only[↓reduceIte,bne_self_eq_false,zv];refine zb (m:=setWalk a) ?_;unfold setWalk;refine zb (qk f d b.fit (zb (jz ?_)));rw[c];simp only[↓reduceIte];refine zb (KU (zd (zd ?_)));have e:(pickOrder (w.params.setOrder a ep) es)[i]?.map (λe=>(e.2,slot))=((IW w a ep es)[i]?).map λv=>(v,slot):=by
  unfold IW;rw[zS,hG,kR];rfl
 rw[<-e]at h;exact h
theorem Pa(m:A.handled=U)(j:w.params.followText "set-order"=true)(n:a≠it)(c:es.size<=AA):Walks prog w A it [it,a] [it] es.size (λi v=>(IW w a ep es)[i]?=Z v) (λi h=>It h it a (.int 0 0) i es.size ep/\Wk w h a es ep t) where
 sub:=λb d=>by simp at d;simp[d]
 frame:=λ_ _ _ st hk=>⟨st.1.keep λo e=>hk it (by simp) o e,st.2.keep λo e=>hk a (by simp) o e⟩
 item:=λi s Q E hi st f=>by
  have l:(IW w a ep es).length=es.size:=by rw[yq.length_eq];simp
  obtain⟨v,g⟩:∃v,(IW w a ep es)[i]?=Z v:=⟨(IW w a ep es)[i]'(),by rw[zr]⟩;refine Xd (slot:=0) (next:=0) (x:=v) st.1 st.2 (λ{A' E' Q'} hq=>Gz j st.2 (by rw[g];exact hq)) λh' p k=>?_;exact f v h' s.toks g ⟨p,st.2.keep λo e=>k a o n e⟩ λb o d e=>k b o (λx=>d (by simp[x])) e
 done:=λs Q E st f=>by
  have l:(IW w a ep es).length=es.size:=by rw[yq.length_eq];simp
  refine Bl (slot:=0) m st.1 st.2 (λ{A' E' Q'} hq=>Gz j st.2 (by rw[qi ()];exact hq)) λh' k=>?_;exact f h' s.toks λb o d e=>k b o (λx=>d (by simp[x])) e
 self:=λ_ _ _ _ st f=>IV st.1 f
def Um(pl:O Nat)(es:Array (Int×A0)):O A0:=pl.filterMap λj=>es[j]?.map (·.2)
theorem Uo(h:pl.Perm (bq es.size)):(Um pl es).Perm (es.toList.map (·.2)):=by
 refine(h.filterMap _).trans ?_;rw[show(bq es.size).filterMap (λj=>es[j]?.map (·.2))=((bq es.size).filterMap λj=>es[j]?).map (·.2) by rw[List.map_filterMap],filterMap_getElem?_range]
theorem K6:∀{pl:O Nat},(∀j∈pl,j<es.size)->∀(i:Nat) (j:Nat),pl[i]?=Z j->(Um pl es)[i]?=es[j]?.map (·.2)
 |[],_,_,_,h=>by simp at h
 |k::pl,hb,i,j,h=>by
  have hk:=hb k (ze ..);have e:Um (k::pl) es=es[k].2::Um pl es:=by simp[Um,hk]
  rw[e];cases i with
  |zero=>cases(show k=j by simpa using h);simp[hk]
  |succ i=>rw[JA];exact K6 (λj a=>hb j (zg _ a)) i j (by simpa using h)
theorem Pb{tp:A1}(p:A.handled=U)(q:a≠it)(n:tp≠it)(hp:pl.Perm (bq es.size)):Walks prog w A it [it,a,tp] [it] es.size (λi v=>(Um pl es)[i]?=Z v)
  (λi h=>It h it a (.ref tp) i es.size ep/\Wk w h a es ep t/\∃d c,h.get? tp=Z d/\d.data=.seq (pl.map λ(k:Nat)=>rawInt (k:Int)).toArray c) where
 sub:=λb f=>by simp at f;simp[f]
 frame:=λ_ _ _ st hk=>⟨st.1.keep λo e=>hk it (by simp) o e,st.2.1.keep λo e=>hk a (by simp) o e,let ⟨d,c,e,r⟩:=st.2.2;⟨d,c,hk tp (by simp) d e,r⟩⟩
 item:=λi s Q E hi st g=>by
  obtain⟨d,c,e1,e2⟩:=st.2.2;have m:pl.length=es.size:=by rw[hp.length_eq];simp
  have f:∀j∈pl,j<es.size:=λj l=>bz.mp (hp.mem_iff.mp l);have l:pl[i]?=Z (pl[i]'()):=by rw[zr]
  have hx:es[pl[i]'()]?=Z (es[pl[i]'()]'(f _ (ku _))):=by rw[QI]
  refine aa st.1 st.2.1 e1 e2 l hx λh' u k=>?_;exact g _ h' s.toks (by rw[K6 f i _ l,hx];rfl) ⟨u,st.2.1.keep λo e=>k a o q e,d,c,k tp d n e1,e2⟩ λb o f e=>k b o (λx=>f (by simp[x])) e
 done:=λs Q E st g=>by
  obtain⟨d,c,e1,e2⟩:=st.2.2;have m:pl.length=es.size:=by rw[hp.length_eq];simp
  refine K5 p st.1 st.2.1 e1 e2 (by rw[qi ()]) λh' k=>?_;exact g h' s.toks λb o f e=>k b o (λx=>f (by simp[x])) e
 self:=λ_ _ _ _ st g=>IV st.1 g
def rz(t:SetTable)(i:Nat):Nat:=if i=0 then 0 else t.place.getD (i-1) 0+1
theorem Uq{P:Y (A0×Nat)->Prop}{r:Y (A0×Nat)}(hp:t.place.size=es.size)(a:K4 t.place)(hi:i<=es.size)
  (f:r=match es[bu t.place (rz t i)]?,t.place[bu t.place (rz t i)]? with
   |some (_,x),Z j=>Z (x,j+1)
   |_,_=>U) (h:P (((es.toList.map (·.2))[i]?).map λv=>(v,rz t (i+1)))):P r:=by
 subst f;have e:bu t.place (rz t i)=i:=by
  obtain⟨b1,b2,b3⟩:=CS a (rz t i);generalize bu t.place (rz t i)=b at *
  unfold rz at b2 b3;by_cases d:i=0
  ·subst d;rcases dA b with q|q
   ·exact q
   ·exact absurd (b2 0 q) (dc _)
  ·rw[zD d]at b2 b3;rcases Nat.lt_trichotomy b i with q|q|q
   ·have:=b3 (i-1) () ();omega
   ·exact q
   ·have:=b2 i q;have:=a (i-1) i () ();omega
 rw[e];have e2:rz t (i+1)=t.place.getD i 0+1:=by unfold rz;rw[zD (Nat.succ_ne_zero i)];rfl
 rw[e2]at h;by_cases q:i<es.size
 ·have c:i<t.place.size:=by omega
  rw[QI q,QI c];have e3:t.place.getD i 0=t.place[i]:=by simp[Array.getD,c]
  rw[e3,zS,kR,QI q]at h;exact h
 ·rw[KP ()];rw[zS,kR,KP ()]at h;exact h
theorem Bm{Q:Y (A0×Nat)->A2->Prop}(d:w.params.followText "set-order"=false)(c:Wk w s.heap a es ep t)(m:(!t.plain&&decide (es.size>1))=false)(j:K4 t.place)(hi:i<=es.size)(h:Q (((es.toList.map (·.2))[i]?).map λv=>(v,rz t (i+1))) s):A7 (A8 prog w) A (setNext a (rz t i) i ep) Q E s:=by
 obtain⟨o,f,n,l⟩:=c.at_;have hp:t.place.size=es.size:=by
  have:=c.fit;simp only[cc,qo,beq_iff_eq]at this;exact this.1
 unfold setNext;refine zb (qk f l c.fit (zb (jz ?_)));rw[d];simp only[zv,↓reduceIte];split
 ·rename_i b;have b:(!t.plain&&decide (es.size>1))=true:=b;rw[m]at b;cases b
 ·have g:A7 (A8 prog w) A (if(!t.led&&!es.isEmpty)=true then unsupported "set:maker-not-led" else pure PUnit.unit) (λ_ s'=>s'=s) E s:=by
   rw[c.led d];exact zd rfl
  refine zb (Z3 g (λ_ s' e=>?_) λ_ _ x=>x);subst e;refine zd ?_;exact Uq (P:=λr=>Q r s') hp j hi S h
theorem K7(m:A.handled=U)(g:w.params.followText "set-order"=false)(l:(!t.plain&&decide (es.size>1))=false)(j:K4 t.place)(n:a≠it):Walks prog w A it [it,a] [it] es.size (λi v=>(es.toList.map (·.2))[i]?=Z v) (λi h=>It h it a (.int (rz t i:Nat) 0) i es.size ep/\Wk w h a es ep t) where
 sub:=λb c=>by simp at c;simp[c]
 frame:=λ_ _ _ st hk=>⟨st.1.keep λo e=>hk it (by simp) o e,st.2.keep λo e=>hk a (by simp) o e⟩
 item:=λi s Q E hi st d=>by
  obtain⟨v,f⟩:∃v,(es.toList.map (·.2))[i]?=Z v:=⟨(es.toList.map (·.2))[i]'(by simpa using hi),by rw[zr]⟩;refine Xd (x:=v) st.1 st.2 (λ{A' E' Q'} hq=>Bm g st.2 l j (Q2 hi) (by rw[f];exact hq)) λh' p k=>?_;exact d v h' s.toks f ⟨p,st.2.keep λo e=>k a o n e⟩ λb o c e=>k b o (λx=>c (by simp[x])) e
 done:=λs Q E st d=>by
  refine Bl m st.1 st.2 (λ{A' E' Q'} hq=>Bm g st.2 l j (zk _) (by rw[qi (by simp)];exact hq)) λh' k=>?_;exact d h' s.toks λb o c e=>k b o (λx=>c (by simp[x])) e
 self:=λ_ _ _ _ st d=>IV st.1 d
theorem Xe(f:Wk w s.heap a es ep t)(I:es.size<=AA){Q:B7}
  (h:∀(it:A1) (h':A6) (d:Drawn) (fp:O A1) (St:Nat->A6->Prop) (L:O A0),L.Perm (es.toList.map (·.2))->(∀y:A5,y.handled=U->Walks prog w y it fp [it] es.size (λi v=>L[i]?=Z v) St)->St 0 h'->s.heap.objs.size<=it->it<h'.objs.size →
   (∀b∈fp,b=a\/s.heap.objs.size<=b)->(∀b∈fp,b<h'.objs.size)->(∀b o,s.heap.get? b=Z o->h'.get? b=Z o)->Q (.ref it) { s with heap:=h',drawn:=d }):A7 (A8 prog w) A (pyIter (.ref a)) Q E s:=by
 obtain⟨W,g,M,u⟩:=id f.at_;have K:s.TypeIs (.ref a) "set":=⟨W,g,M⟩;have n:a<s.heap.objs.size:=zI g;refine wpAny_pyIter_slot K F.slot_set_iter (Q3 F.slot_set_iter K zx ?_ (F.args_set_iter_1 _));show A7 _ _ (Builtin.Frozenset.sizeOf a >>= _) _ _ s;refine zb (m:=Builtin.Frozenset.sizeOf a) (zb (wpAny_setEntries_of g u f.fit (zd ?_)));have C:A7 (A8 prog w) A.in1 (setDrawn a) (λb s'=>s'=s/\b=(!(w.params.followText "set-order")&&(!t.plain&&decide (es.size>1)))) E s:=by
  unfold setDrawn;exact zb (qk g u f.fit (zb (jz (zd ⟨rfl,rfl⟩))))
 refine zb (Z3 C (λb s' e=>?_) λ_ _ x=>x);obtain⟨rfl,rfl⟩:=e;dsimp only;by_cases l:w.params.followText "set-order"=true
 ·rw[l];simp only[kM,ft,zv,qf];refine zb (zd ?_);refine zb (m:=setEpoch a) (k5 g u f.fit ?_);refine zb (qV (zd ⟨_,rfl,"set_iterator", _,⟨_,zt _ rfl,rfl⟩,gM.lookup,?_⟩));have:=h s'.heap.objs.size (s'.heap.push { cls:=.type "set_iterator",data:=.fields #[.int 0 0,.int 0 0,.ref a,.int es.size 0,.int ep 0] }) s'.drawn [s'.heap.objs.size,a] _ _ yq (λy B=>Pa B l (t:=t) (ep:=ep) (z5 n) I)
   ⟨⟨_,zt _ rfl,rfl,rfl⟩,f.keep λo e=>zh _ e⟩ (zk _) (by rw[qr];exact qS _) (λb c=>by simp at c;rcases c with rfl|rfl;exact .inr (zk _);exact .inl S)
   (λb c=>by simp at c;rw[qr];rcases c with rfl|rfl;exact qS _;exact Qr n) λb o e=>zh _ e
  exact this
 ·have l:w.params.followText "set-order"=false:=by simpa using l
  rw[l];simp only[dq,fE];cases C:(!t.plain&&decide (es.size>1))with
  |false=>
   have P:K4 t.place:=by
    rcases f.non with q|q
    ·have hs:es.size<=1:=by
      rcases Nat.lt_or_ge 1 es.size with z|z
      ·rw[q z]at C;simp at C;omega
      ·exact z
     have hp:t.place.size=es.size:=by
      have:=f.fit;simp only[cc,qo,beq_iff_eq]at this;exact this.1
     intro i j h1 h2;omega
    ·exact q
   rw[zD ()];refine zb (zd ?_);refine zb (m:=setEpoch a) (k5 g u f.fit ?_);refine zb (qV (zd ⟨_,rfl,"set_iterator", _,⟨_,zt _ rfl,rfl⟩,gM.lookup,?_⟩));have:=h s'.heap.objs.size (s'.heap.push { cls:=.type "set_iterator",data:=.fields #[.int 0 0,.int 0 0,.ref a,.int es.size 0,.int ep 0] }) s'.drawn [s'.heap.objs.size,a] _ _ (kq _) (λy B=>K7 B l C P (t:=t) (ep:=ep) (z5 n))
    ⟨⟨_,zt _ rfl,rfl,rfl⟩,f.keep λo e=>zh _ e⟩ (zk _) (by rw[qr];exact qS _) (λb c=>by simp at c;rcases c with rfl|rfl;exact .inr (zk _);exact .inl S)
    (λb c=>by simp at c;rw[qr];rcases c with rfl|rfl;exact qS _;exact Qr n) λb o e=>zh _ e
   exact this
  |true=>
   rw[zl rfl];refine zb (RJ _ _ _ _ (by simp) λpl d hp=>?_);refine zb (wpAny_newTuple ?_ (by rw[zi,hp.length_eq,y8];exact I));refine zb (m:=setEpoch a) (k5 (zh _ g) u f.fit ?_);refine zb (qV (zd ⟨_,rfl,"set_iterator", _,⟨_,zt _ rfl,rfl⟩,gM.lookup,?_⟩));generalize D:s'.heap.push { cls:=.type "tuple",data:=.seq (pl.map λ(k:Nat)=>rawInt (k:Int)).toArray }=G;have p:G.objs.size=s'.heap.objs.size+1:=by rw[<-D,qr]
   have N:G.get? s'.heap.objs.size=Z { cls:=.type "tuple",data:=.seq (pl.map λ(k:Nat)=>rawInt (k:Int)).toArray }:=by rw[<-D];exact zt _ rfl
   have J:∀b o,s'.heap.get? b=Z o->G.get? b=Z o:=λb o e=>by rw[<-D];exact zh _ e
   have H:a<G.objs.size:=by rw[p];exact Qr n
   have:=h G.objs.size (G.push { cls:=.type "set_iterator",data:=.fields #[.ref s'.heap.objs.size,.int 0 0,.ref a,.int es.size 0,.int ep 0] }) d [G.objs.size,a,s'.heap.objs.size] _ _ (Uo hp) (λy B=>Pb B (t:=t) (ep:=ep) (tp:=s'.heap.objs.size) (z5 H) (by rw[p];exact z5 (qS _)) hp)
    ⟨⟨_,zt _ rfl,rfl,rfl⟩,f.keep λo e=>zh _ (J _ _ e),_,0,zh _ N,rfl⟩ (by rw[p];exact Kx _) (by rw[qr];exact qS _)
    (λb c=>by simp at c;rcases c with rfl|rfl|rfl;exact .inr (by rw[p];exact Kx _);exact .inl rfl;exact .inr (zk _))
    (λb c=>by
     simp at c;rw[qr];rcases c with rfl|rfl|rfl
     ·exact qS _
     ·exact Qr H
     ·exact Qr (by rw[p];exact qS _)) λb o e=>zh _ (J _ _ e)
   exact this
end
end S6
namespace S6
open P1
section
variable{es:Array (Int×A0)}
theorem Ur{b:O A0}{a:Array A0}(f:b.length=n)(h:ItemsOf (λi v=>b[i]?=Z v) a n):a.toList=b:=by
 apply y9;intro j;by_cases d:j<n
 ·have c:j<a.size:=by rw[h.1];exact d
  have e:a.toList[j]?=Z a[j]:=by simp[c]
  rw[e,h.2 j a[j] (by simp[c])]
 ·rw[qi (by rw[qc,h.1];omega),qi ()]
theorem K8{Q:O A0->A2->Prop}(I:A.handled=none)(J:Wk w s.heap a es ep t)(z:es.size<=AA)
  (M:∀g h' d tk,g.Perm (es.toList.map (·.2))->s.heap.objs.size<=h'.objs.size->(∀b o,s.heap.get? b=Z o->h'.get? b=Z o)->Q g { s with heap:=h',drawn:=d,toks:=tk }):
  A7 (A8 prog w) A (collect (.ref a)) Q E s:=by
 obtain⟨u,i,j,b6⟩:=id J.at_;have hT:s.TypeIs (.ref a) "set":=⟨u,i,j⟩;have y:a<s.heap.objs.size:=zI i;unfold collect;refine zb (wpAny_runValue (JY F.entry_proto_collect ?_));rw[Around.under_plainId F.plain_proto_collect _];show A7 _ A.in1 (newList [] >>= λq=>again (.builtin "list.__iadd__" ⟨[q,.ref a],[]⟩)) _ _ s;refine zb (qV (zd ⟨plainId_quiet F.plain_list_iadd _,JY F.entry_list_iadd ?_⟩));rw[Around.under_plainId F.plain_list_iadd _];show A7 _ A.in1 (Builtin.List.listExtendWith (.ref s.heap.objs.size) (.ref a) (.ref s.heap.objs.size)) _ _ _;unfold Builtin.List.listExtendWith;generalize v:(s.heap.push { cls:=.type "list",data:=.seq ([]:O A0).toArray })=H;have h:∀b o,s.heap.get? b=Z o->H.get? b=Z o:=λb o e=>by rw[<-v];exact zh _ e
 have L:H.objs.size=s.heap.objs.size+1:=by rw[<-v,qr]
 have gH:H.get? s.heap.objs.size=Z (seqObj "list" #[] 0):=by rw[<-v];exact zt _ rfl
 have b4:Wk w H a es ep t:=J.keep λo e=>h a o e;refine zb (Q1 (T :="set") ⟨u,h _ _ i,j⟩ ?_);have h1:Builtin.List.listSameRef (.ref s.heap.objs.size) (.ref a)=false:=by simp[Builtin.List.listSameRef];exact k9 y
 simp only[h1,show(Value.type "set"==Value.type "list")=false by decide,show(Value.type "set"==Value.type "tuple")=false by decide,dC,zv,qf];refine zb (Xe (s:={ s with heap:=H }) b4 z λit G d fp St g hp W X b5 b8 a5 b7 l=>?_);refine zb (qB ?_);unfold Builtin.List.listLengthHint;have n:Shared.TypeIs { s with heap:=G,drawn:=d } (.ref a) "set":=⟨u,l _ _ (h _ _ i),j⟩;refine zb (wpAny_specialOf (T :="set") n F.slot_set_len.lookup ?_)
 wp_delta
 refine zb (jS (T :="set") (b:=true) n (by rw[isSubtype_type];kernel_rfl) ?_);show A7 _ A.in1 (typeOf (Value.ref a) >>= _) _ _ _;refine zb (Q1 (T :="set") n (zd ?_));rw[zl ()];show A7 _ A.in1 (Builtin.List.listTouch (Value.ref s.heap.objs.size) >>= λ_=>again (Code.builtin "list.extend.loop" ⟨[Value.ref s.heap.objs.size,Value.ref it,Value.ref s.heap.objs.size],[]⟩)) _ _ _;have m:G.get? s.heap.objs.size=Z (seqObj "list" #[] 0):=l _ _ gH;unfold Builtin.List.listTouch;refine zb (zb (listUpdate_at m S (listUpdate_at (get?_update_seq m _) S ?_ (by show _<=_;decide) (by show _<=_;decide)) (by show _<=_;decide) (by show _<=_;decide)));have K:s.heap.objs.size∉fp:=λc=>by
  rcases a5 _ c with e|e
  ·exact k9 y e
  ·have e:H.objs.size<=s.heap.objs.size:=e;rw[L]at e;exact absurd e (Nat.not_succ_le_self _)
 have D:=get?_update_seq (get?_update_seq m (λx=>x.push Value.none)) (λx=>x.pop);generalize hU:(G.update s.heap.objs.size (Obj.mapSeq λx=>x.push Value.none)).update s.heap.objs.size (Obj.mapSeq λx=>x.pop)=U at D;have keep:∀b,b≠s.heap.objs.size->U.get? b=G.get? b:=λb f=>by rw[<-hU,JJ _ _ _ _ f,JJ _ _ _ _ f]
 have N:St 0 U:=(W A I).frame 0 G U X λb f o e=>by rw[keep b λx=>K (x▸f)];exact e
 show A7 _ A.in1 (again _) _ _ { s with heap:=U,drawn:=d };have P:g.length=es.size:=by rw[hp.length_eq];simp
 refine zd ⟨plainId_quiet F.plain_extend_loop _,codeAny_extend_loopS (W A.in1 I).toS z s.heap.objs.size K _ es.size 0 { s with heap:=U,drawn:=d } #[] _ S (qh _) N D (ItemsOf.nil _) λs' b0 c' p C a3=>?_⟩;show A7 _ A (load s.heap.objs.size >>= _) _ _ s';refine zb (yz C (zd ?_));show Q b0.toList s';rw[Ur P a3];have B:=M g s'.heap s'.drawn s'.toks hp (Q2 (zI C)) λb ob e=>by
  have f:=zI e;refine p.heap b ob (λc=>?_) ((keep b (z5 f)).trans (l _ _ (h _ _ e)));simp only[js,kr,or_false]at c;rcases c with c|c
  ·exact z5 f c
  ·have:H.objs.size<=it:=b5;rw[L,<-c]at this;exact absurd f (fA.mpr (eg this))
 have e1:s'.gens=s.gens:=p.gens;have e2:s'.os=s.os:=p.os;rw[<-e1,<-e2]at B;exact B
end
theorem wV{α:Type}[DecidableEq α]:∀{xs ys:O α},xs.Nodup->ys.Nodup->(∀z,z∈xs↔z∈ys)->xs.Perm ys
 |[],ys,_,_,h=>by
  have:ys=[]:=ck.mpr λz a=>by simpa using(h z).mpr a
  subst this;exact .refl _
 |x::xs,ys,hx,hy,h=>by
  have c:x∈ys:=(h x).mp (ze ..);have b:=bc.mp hx;refine((wV b.2 (hy.erase x) λz=>?_).cons x).trans (List.perm_cons_erase c).symm;rw[hy.mem_erase_iff];constructor
  ·intro a;exact⟨λe=>b.1 (e▸a),(h z).mp (zg _ a)⟩
  ·intro⟨hn,a⟩;rcases List.mem_cons.mp ((h z).mpr a)with e|e
   ·exact absurd e hn
   ·exact e
theorem jU{R:α->β->Prop}:∀{l a:O β},a.Perm l->∀{ys:O α},AI R ys l->∃b,b.Perm ys/\AI R b a:=by
 intro l a hp
 replace hp:=hp.symm
 induction hp with
 |nil=>intro ys h;exact⟨ys,.refl _,h⟩
 |cons x _ c=>intro ys h;cases h with|cons r t=>obtain⟨zs,z1,z2⟩:=c t;exact⟨_::zs,z1.cons _,.cons r z2⟩
 |swap x y l=>intro ys h;cases h with|cons r t=>cases t with|cons g e=>exact⟨_,List.Perm.swap _ _ _,.cons g (.cons r e)⟩
 |trans _ _ i d=>intro ys h;obtain⟨zs,z1,z2⟩:=i h;obtain⟨us,f,j⟩:=d z2;exact⟨us,f.trans z1,j⟩
theorem Pg{R:α->β->Prop}{xs:O α}{us:O β}{ys:O α}{vs:O β}(h:AI R xs us)(k:AI R ys vs):AI R (xs++ys) (us++vs):=by
 induction h with
 |nil=>exact k
 |cons r _ a=>exact .cons r a
theorem a9(t:SetTable)(es:Array (Int×A0))(h:Int)(x:A0):(layNew t es h x).2.1.led=t.led:=by
 unfold layNew;split
 ·dsimp only[SetTable.put,SetTable.orStandIn];generalize cc _ _=b;cases b<;>rfl
 ·rfl
theorem Us(t:SetTable)(es:Array (Int×A0))(n:Nat):(relayAll t es n).2.1.led=t.led/\(t.plain=false->(relayAll t es n).2.1.plain=false):=by
 unfold relayAll;split
 ·rename_i a f e;have d:a.led=t.led/\a.plain=t.plain:=by
   unfold SetTable.relaid dP at e;cases c:br (bN n-1) (es.map (·.1))with
   |none=>rw[c]at e;cases e
   |some g=>rw[c]at e;cases e;exact⟨rfl,rfl⟩
  dsimp only;generalize (coversAll f es.size&&_)=b;cases b
  ·exact⟨rfl,λ_=>S⟩
  ·exact⟨d.1,λhp=>d.2.trans hp⟩
 ·exact⟨rfl,λ_=>S⟩
def Bo(prog:A3)(w:A4)(y:AJ)(e:Int×A0):Prop:=∃tk,e=((strKind prog w).hash y,.str y tk)
structure Ut (prog:Program) (w:World) (ys:AZ) (es:Array (Int×Value)) (t:SetTable):Prop where
 rel:Paired (Bo prog w) ys es.toList
 nd:ys.Nodup
 fit:t.fits es.size=true
 led:w.params.followText "set-order"=false->t.led=true
 non:0<es.size->t.plain=false
def Tx(prog:A3)(w:A4)(h:A6)(a:A1)(ys:AZ):Prop:=∃o es ep t,h.get? a=Z o/\o.ExactSet/\o.data=.set es ep t/\Ut prog w ys es t
theorem Tx.keep{h':A6}(x:Tx prog w h a ys)(k:∀o,h.get? a=Z o->h'.get? a=Z o):Tx prog w h' a ys:=
 let ⟨o,es,ep,t,e,r⟩:=x;⟨o,es,ep,t,k o e,r⟩
theorem Ut.elems{es:Array (Int×A0)}(x:Ut prog w ys es t):ElemsOf (strKind prog w) es.toList:=by
 have:∀{ys:AZ} {l:O (Int×A0)},AI (Bo prog w) ys l->ElemsOf (strKind prog w) l:=by
  intro ys l h
  induction h with
  |nil=>intro e a;cases a
  |cons r _ b=>
   intro e a;rcases List.mem_cons.mp a with rfl|a
   ·obtain⟨tk,rfl⟩:=r;exact⟨⟨_,strKind_is _ _ _ _,rfl⟩,rfl⟩
   ·exact b e a
 exact this x.rel
theorem Ut.size{es:Array (Int×A0)}(x:Ut prog w ys es t):es.size=ys.length:=by rw[x.rel.length];simp
theorem Ja{z:AJ}{e:Int×A0}(h:Bo prog w y e):(strKind prog w).is z e.2=true↔z=y:=by
 obtain⟨tk,rfl⟩:=h;constructor
 ·intro q;exact(strKind prog w).inj _ _ _ q (strKind_is _ _ _ _)
 ·rintro rfl;exact strKind_is _ _ _ _
theorem wW{y:AJ}:∀{ys:AZ} {l:O (Int×A0)},AI (Bo prog w) ys l->((l.findIdx? λe=>(strKind prog w).is y e.2)=U↔y∉ys)
 |_,_,.nil=>by simp
 |z::ys,e::l,.cons r t=>by
  rw[List.findIdx?_cons];by_cases q:(strKind prog w).is y e.2=true
  ·rw[zl q,(Ja r).mp q];simp
  ·rw[zD q];have:y≠z:=λe'=>q ((Ja r).mpr e');rw[Option.map_eq_none_iff,wW t];simp[this]
theorem Xf{tk:Nat}{Q:Bool->A2->Prop}(hS:Tx prog w s.heap a ys)(b4:ys.length+1<scanBound)(h:∀b h' K,Heap.SameBut a s.heap h'->Tx prog w h' a K->(∀z,z∈K↔z∈ys\/z=y)->K.length<=ys.length+1->Q b { s with heap:=h' }):A7 (A8 prog w) A (setAddHashed a (.str y tk) ((strKind prog w).hash y)) Q E s:=by
 obtain⟨o,es,ep,t,n,b0,F,x⟩:=id hS;have c3:=x.size;have c6:es.size+1<scanBound:=by rw[c3];exact b4
 have N:=x.elems;have b9:=strKind_is prog w y tk;unfold setAddHashed setAddHashedIn;refine qB (zb (qk n F x.fit ?_));dsimp only;rw[byScan_of (knd:=strKind prog w) (x:=.str y tk) S () N];simp only[↓reduceIte];unfold setAddByScan;refine zb (zb (kg (zb (wpAny_setScan_of b9 n F x.fit N ?_))));cases J:es.toList.findIdx? (λe=>(strKind prog w).is y e.2)with
 |some j=>
  dsimp only;have f:y∈ys:=by
   by_cases q:y∈ys
   ·exact q
   ·rw[(wW x.rel).mpr q]at J;cases J
  refine zd (zd (h _ s.heap ys (Yf a s.heap) hS (λz=>⟨.inl,λq=>q.elim id λe=>e▸f⟩) (Kx _)))
 |none=>
  dsimp only;have f:y∉ys:=(wW x.rel).mp J;have gw:∀(b:Bool) {P:A2} {Q':Unit->A2->Prop},Q' bv P->A7 (A8 prog w) A (match b with|true=>rule "set.scan.the-table-gave-way" | false=>pure bv) Q' E P:=
   λb _ _ hq=>by cases b;exact zd hq;exact kg hq
  have i:=layNew_perm t es ((strKind prog w).hash y) (.str y tk);have D:=layNew_fits t es ((strKind prog w).hash y) (.str y tk);have C:=a9 t es ((strKind prog w).hash y) (.str y tk);generalize layNew t es ((strKind prog w).hash y) (.str y tk)=L at i D C ⊢;obtain⟨c,t1,c4,c5⟩:=L;dsimp only at i D C ⊢;rw[gA]at i;refine zb (gw _ ?_);have b6:AI (Bo prog w) (ys++[y]) (es.toList++[((strKind prog w).hash y,.str y tk)]):=Pg x.rel (.cons ⟨tk,rfl⟩ .nil);obtain⟨l,p1,r1⟩:=jU i b6;have W:l.Nodup:=p1.nodup_iff.mpr (List.nodup_append.mpr ⟨x.nd,by simp,λu hu v hv=>by simp at hv;subst hv;exact λe=>f (e▸hu)⟩);have m1:∀z,z∈l↔z∈ys\/z=y:=λz=>by rw[p1.mem_iff];simp
  have X:l.length=ys.length+1:=by rw[p1.length_eq];simp
  have z1:c.size=es.size+1:=by rw[<-qc,i.length_eq];simp
  have a3:∀t2:SetTable,t2.fits c.size=true->t2.led=t1.led->t2.plain=false->A7 (A8 prog w) A (do
    storeSet a c t2
    if(!c4&&t2.tooFull)=true then do
      (match (relayAll t2 c (bX c.size)).2.2 with|true=>rule "set.scan.the-table-gave-way" | false=>pure bv)
      storeSet a (relayAll t2 c (bX c.size)).1 (relayAll t2 c (bX c.size)).2.1
      pure (Z true)
     else pure (Z true)) (λr s'=>∃b,r=Z b/\Q b s') E s:=by
   intro t2 f2 l2 p2;have up:∀(hp:A6) (p:AE) (e1 e2:Array (Int×A0)) (H:Nat) (M d:SetTable),hp.get? a=Z p->p.data=.set e1 H M->(hp.update a (Obj.putSet e2 d)).get? a=Z { p with data:=.set e2 (H+1) d }:=λhp p e1 e2 H M d g q=>by
    have:=kQ (Obj.putSet e2 d) g (by rw[putSet_of e2 d q];rfl);rw[putSet_of e2 d q]at this;exact this
   have g1:=up s.heap o es c ep t t2 n F;refine zb (kX n F ?_ (fits_of_scanBound ()));split
   ·have hp:=relayAll_perm t2 c (bX c.size);have G:=relayAll_fits t2 c (bX c.size);have B:=Us t2 c (bX c.size);generalize relayAll t2 c (bX c.size)=Rl at hp G B ⊢;obtain⟨a5,t3,c8⟩:=Rl;dsimp only at hp G B ⊢;obtain⟨b7,I,r2⟩:=jU hp r1;refine zb (gw _ ?_);refine zb (kX g1 S ?_ (fits_of_scanBound (by rw[<-qc,hp.length_eq,qc];omega)));have g2:=up _ _ c a5 _ t2 t3 g1 rfl;exact zd ⟨true,rfl,h _ _ b7 ((JO ..).trans (JO ..)) ⟨_,a5,_,t3,g2,b0,rfl,r2,I.nodup_iff.mpr W,G,λq=>(B.1.trans l2).trans (C.trans (x.led q)),λ_=>B.2 p2⟩ (λz=>by rw[I.mem_iff];exact m1 z) (by rw[I.length_eq];exact ew X)⟩
   ·exact zd ⟨true,rfl,h _ _ l (JO ..) ⟨_,c,_,t2,g1,b0,rfl,r1,W,f2,λq=>l2.trans (C.trans (x.led q)),λ_=>p2⟩ m1 (ew X)⟩
  have b5:∀{m:Sem (Y Bool)},A7 (A8 prog w) A m (λr s'=>∃b,r=Z b/\Q b s') E s->A7 (A8 prog w) A m (λr s'=>A7 (A8 prog w) A (match r with|some b8=>pure b8|none=>setAddHashedIn a (.str y tk) ((strKind prog w).hash y) 99999) Q E s') E s:=λf=>Z3 f (λr s' q=>by obtain⟨b,rfl,q⟩:=q;exact zd q) λ_ _ q=>q;refine b5 ?_;split
  ·refine zb ?_;rw[hashByValue_scannable 8 (x:=.str y tk) rfl];refine zd ?_;exact a3 { t1 with plain:=false } (SetTable.fits_plain_off D) S rfl
  ·rename_i hp;refine zb (zd ?_);simp only[↓reduceIte];exact a3 t1 D S (by simpa using hp)
def BE(w:A4):AE:={ cls:=.type "set",dict:=U,data:=.set #[] 0 (.fresh 0 0 (!w.params.followText "set-order")) }
structure DL (prog:Program) (w:World) (S:Addr) (wr:List Addr) {κ:Type} (C:Heap->List κ->Prop) (P:Nat->Value->Prop) (val:Nat->κ) (n:Nat):Prop where
 keep:∀h h' ys,C h ys->(∀b o,b∉wr->h.get? b=some o->h'.get? b=some o)->C h' ys
 add:∀(A:Around) (E:B7) (s:Shared) (i:Nat) (v:Value) (ys:List κ) (Q:Bool->Shared->Prop),A.units<cLine->i<n->P i v->C s.heap ys->ys.length<=i →
  (∀b h' tk ys',Heap.SameBut S s.heap h'->C h' ys'->(∀z,z∈ys'↔z∈ys\/z=val i)->ys'.length<=i+1->s.toks<=tk->Q b { s with heap:=h',toks:=tk })->wpAny (model prog w) A (setAdd S v) Q E s
section
variable{R:Result->A2->Prop}{I:A1}{wr:O A1}{P:Nat->A0->Prop}{St:Nat->A2->Prop}{C:A6->O κ->Prop}{val:Nat->κ}
theorem Xg(W:WalksS prog w A.in1 I fp wr (λa b=>b=a) n P St)(S:A1)(M:S∉fp)(ad:DL prog w S wr C P val n)(L:A.units+1<cLine):
  ∀(k i:Nat) (s:A2) (ys:O κ),n-i=k->i<=n->St i s->C s.heap ys->(∀z,z∈ys↔∃j,j<i/\z=val j)->ys.length<=i →
   (∀s' d,Moved (S::wr) (λa b=>b=a) s s'->C s'.heap d->(∀z,z∈d↔∃j,j<n/\z=val j)->R (.ok (.ret .none)) s') →
   AF (A8 prog w) A (.builtin "set.update.loop" ⟨[.ref S,.ref I],[]⟩) R s:=by
 have sub:∀b,b∈wr->b∈S::wr:=λb q=>zg _ q;intro k
 induction k with
 |zero=>
  intro i s ys hk hi st g h u m;have:i=n:=by omega
  subst this;refine JY F.entry_set_update_loop ?_;rw[Around.under_plainId Y1 _];show A7 _ A.in1 (pyNext (.ref I) >>= _) _ _ s;refine zb (W.done s _ _ st λs' c=>?_);show A7 _ A.in1 (ret Value.none) _ _ s';exact zd (m s' ys (c.mono sub) (ad.keep _ _ _ g c.heap) h)
 |succ k H=>
  intro i s ys hk hi st g h u m;have f:i<n:=by omega
  refine JY F.entry_set_update_loop ?_;rw[Around.under_plainId Y1 _];show A7 _ A.in1 (pyNext (.ref I) >>= _) _ _ s;refine zb (W.item i s _ _ f st λv s' J y c=>?_);show A7 _ A.in1 (holding [v] (setAdd S v) >>= _) _ _ s';refine zb (qB (ad.add _ _ s' i v ys _ L f J (ad.keep _ _ _ g c.heap) u λb h' tk d t K D Q p=>?_));refine zd ⟨plainId_quiet Y1 _,H (i+1) _ d () f (W.frame _ s' _ _ y p λb l o e=>?_) K (λz=>?_) Q λN B G E x=>?_⟩
  ·rw[t.2 b λq=>M (q▸l)];exact e
  ·rw[D z,h z];constructor
   ·rintro(⟨j,X,e⟩|e)
    ·exact⟨j,by omega,e⟩
    ·exact⟨i,by omega,e⟩
   ·rintro⟨j,X,e⟩;by_cases q:j=i
    ·exact .inr (q▸e)
    ·exact .inl ⟨j,by omega,e⟩
  ·refine m N B (Moved.trans W.gtrans ((c.mono sub).then_heap p λb o l e=>?_) G) E x;rw[t.2 b λq=>l (by rw[q];exact ze)];exact e
end
theorem Ph(x:A0){Q₁:B7}(h:Q₁ (.ref s.heap.objs.size) { s with heap:=s.heap.push (BE w) }):
  AF (A8 prog w) A (.call (.builtin "set.__new__") ⟨[.type "set",x],[]⟩) (wants Q₁ E) s:=by
 refine codeAny_of_tree ?_;show A7 _ A.in1 (do checkBuiltinCall "set.__new__" ⟨[.type "set",x],[]⟩;again (.builtin "set.__new__" ⟨[.type "set",x],[]⟩)) _ _ s;refine zb (wpAny_of_eq (F.newCall_set_1 x) (zd ⟨plainId_quiet F.plain_set_new _,JY F.entry_set_new ?_⟩));rw[Around.under_plainId F.plain_set_new _];unfold Builtin.«set.__new__» Builtin.Frozenset.newClass;have a:=sub_set_self;obtain⟨hp,g,d,tk,os⟩:=s;dsimp only
 wp_walk
 refine KU (zd ?_);dsimp only;simp only[newObj];refine zb (wpAny_alloc (zd ?_));exact zd h
theorem Bn:isSubtype (.type "tuple") (.type "set")=pure false:=by rw[isSubtype_type];kernel_rfl
theorem BG:isSubtype (.type "tuple") (.type "frozenset")=pure false:=by rw[isSubtype_type];kernel_rfl
theorem Xh(hU:A.units+60<cLine){T:String}{C:A6->O κ->Prop}{P:Nat->A0->Prop}{val:Nat->κ}{Q:B7}(hh:A.handled=U)(L:s.heap.get? l=Z o)(b5:o.cls=.type T)(D:T ="list" ∨ T ="tuple")(b9:∀(d:A5) (E':B7) (Q':B7) (f:A6),d.handled=U->(∀b a,s.heap.get? b=Z a->f.get? b=Z a) →
   (∀(h':A6) (St:Nat->A6->Prop),(∀d,d.handled=U->Walks prog w d f.objs.size [f.objs.size,l] [f.objs.size] n P St)->St 0 h'->(∀b a,f.get? b=Z a->h'.get? b=Z a)->Q' (.ref f.objs.size) { s with heap:=h' })->A7 (A8 prog w) d (pyIter (.ref l)) Q' E' { s with heap:=f })(ad:DL prog w s.heap.objs.size [s.heap.objs.size+1] C P val n)(a5:∀h',h'.get? s.heap.objs.size=Z (BE w)->(∀b a,s.heap.get? b=Z a->h'.get? b=Z a)->C h' [])(h:∀(h':A6) (tk:Nat) (ys:O κ),C h' ys->(∀z,z∈ys↔∃j,j<n/\z=val j)->(∀b a,s.heap.get? b=Z a->h'.get? b=Z a)->Q (.ref s.heap.objs.size) { s with heap:=h',toks:=tk }):
  A7 (A8 prog w) A (call (.type "set") [.ref l]) Q E s:=by
 obtain⟨c,tl,d0⟩:=F.called_set.mro;have d2:=F.called_set.made;have c8:=F.called_set.sub;have a3:l<s.heap.objs.size:=zI L;refine wpAny_call (codeAny_of_tree ?_);show A7 _ _ (callAny (.type "set") _) _ _ _;refine zd ⟨Code.quiet_builtin _ (by decide +kernel),JY F.entry_type_call ?_⟩;rw[Around.under_plain (weight_type_call_type "set" [.ref l] []) rfl];have h1:=F.called_set.notType;have h2:=F.called_set.canCreate;have c6:=F.typeCall_set_1 (.ref l)
 repeat (any_goals (first|assumption|wp_step))
 refine codeAny_mono (Ph (.ref l) (E:=E) (Q₁:=λM J=>M=.ref s.heap.objs.size/\J={ s with heap:=s.heap.push (BE w) }) ⟨rfl,rfl⟩) λr J t=>?_;cases r with
 |error e=>exact t
 |ok fl=>
  cases fl with
  |ret M=>
   obtain⟨rfl,rfl⟩:=t;generalize I:s.heap.push (BE w)=H;have X:H.objs.size=s.heap.objs.size+1:=by rw[<-I,qr]
   have v:H.get? s.heap.objs.size=Z (BE w):=by rw[<-I];exact zt _ rfl
   have i:∀b a,s.heap.get? b=Z a->H.get? b=Z a:=λb a e=>by rw[<-I];exact zh _ e
   have b8:Shared.TypeIs { s with heap:=H } (.ref s.heap.objs.size) "set":=⟨_,v,rfl⟩;have c9:=F.called_set.init.lookup;have c4:=F.called_set.init.bind (.ref s.heap.objs.size)
   repeat (any_goals (first|assumption|wp_step))
   refine codeAny_mono (codeAny_call_builtin (R:=wants (λr g=>r=.none/\∃h' tk ys,g={ s with heap:=h',toks:=tk }/\C h' ys/\(∀z,z∈ys↔∃j,j<n/\z=val j)/\(∀b a,s.heap.get? b=Z a->h'.get? b=Z a)) E) F.called_set.init.plain F.entry_set_init (check_set_init_1 b8 ?_)) λb6 g x=>?_
   ·have y:Shared.TypeIs { s with heap:=H } (.ref l) T:=⟨o,i _ _ L,b5⟩;have i1:isSubtype (.type T) (.type "set")=pure false:=by rcases D with rfl|rfl;exact F.sub_list_set;exact Bn
    have i2:isSubtype (.type T) (.type "frozenset")=pure false:=by rcases D with rfl|rfl;exact F.sub_list_frozenset;exact BG
    have i3:(Value.type T==Value.type "dict")=false:=by rcases D with rfl|rfl<;>decide
    show A7 _ _ (Builtin.«set.__init__» ⟨[.ref s.heap.objs.size,.ref l],[]⟩) _ _ _;have N:∀d:A5,d.handled=U->d.units+4<cLine->A7 (A8 prog w) d (Builtin.Frozenset.updateFrom "set.__init__" s.heap.objs.size (.ref l)) (λ_ g=>∃h' tk ys,g={ s with heap:=h',toks:=tk }/\C h' ys/\(∀z,z∈ys↔∃j,j<n/\z=val j)/\(∀b a,s.heap.get? b=Z a->h'.get? b=Z a)) E { s with heap:=H }:=by
     intro d K d1;unfold Builtin.Frozenset.updateFrom Builtin.Frozenset.isAnySet;refine zb (zb (jS y i1 ?_));refine jS y i2 ?_;simp only[zv,qf];refine zb (Q1 y ?_);simp only[i3,zv,qf];refine zb (b9 d _ _ H K i λG St W b0 p=>?_);rw[X]at W;rw[X];have b7:s.heap.objs.size∉[s.heap.objs.size+1,l]:=λq=>by
      simp only[js,kr,or_false]at q;rcases q with q|q
      ·exact z5 (qS _) q
      ·exact k9 a3 q
     refine zb (wpAny_runValue (Xg (W d.in1 K).toS s.heap.objs.size b7 ad () (n-0) 0 _ [] S (qh _) b0 (a5 G (p _ _ v) λb a e=>p _ _ (i _ _ e)) (λz=>⟨λq=>(by cases q),λ⟨j,q,_⟩=>absurd q (dc _)⟩) (zk _) λs' ys m c1 c2=>?_));refine zd ⟨s'.heap,s'.toks,ys,?_,c1,c2,λb a e=>?_⟩
     ·have e1:s'.gens=s.gens:=m.gens;have e2:s'.os=s.os:=m.os;have e3:s'.drawn=s.drawn:=m.drawn;rw[<-e1,<-e2,<-e3]
     ·have B:=zI e;refine m.heap b a (λq=>?_) (p _ _ (i _ _ e));simp only[js,kr,or_false]at q;rcases q with q|q
      ·exact z5 B q
      ·exact z5 (Qr B) q
    have B:(BE w).data=.set #[] 0 (.fresh 0 0 (!w.params.followText "set-order")):=rfl;unfold Builtin.«set.__init__» noKeywords;generalize c5:Builtin.Frozenset.updateFrom=UF at N ⊢;unfold BE at v
    wp_walk
    refine Z3 (N _ (by simp[hh]) (by simp;omega)) (λu g q=>?_) λ_ _ q=>q;obtain⟨h',tk,ys,rfl,q⟩:=q;show A7 _ _ (ret Value.none) _ _ _;exact zd ⟨rfl,h',tk,ys,rfl,q⟩
   ·cases b6 with
    |error e=>exact x
    |ok b4=>
     cases b4 with
     |ret r=>
      obtain⟨rfl,h',tk,ys,rfl,c1,c2,c3⟩:=x
      repeat (any_goals (first|assumption|wp_step))
      exact h _ _ _ c1 c2 c3
     |_=>exact False.elim x
  |_=>exact False.elim t
end S6
namespace S6
open PySem
structure Tb (t:SetTable):Prop where
 mask:t.mask=7\/t.mask=31\/t.mask=127
 dum:t.dummies=#[]
 rise:K4 t.place
 bd:∀j:Nat,j∈t.place->j<=t.mask
 full:t.place.size<=t.mask
def K9(mask:Nat)(p:SetTable.Probe):SetTable.Probe:=
 if p.more>0 then { p with j:=p.j+1,more:=p.more-1 }else
 { p with j:=(bP mask p.i p.perturb).1,more:=bp mask (bP mask p.i p.perturb).1-(bP mask p.i p.perturb).1,i:=(bP mask p.i p.perturb).1,perturb:=(bP mask p.i p.perturb).2 }
def DB(mask i perturb:Nat):SetTable.Probe:={ j:=i,more:=bp mask i-i,i,perturb,dummy:=U }
def DK(mask:Nat)(h:Int):Nat->SetTable.Probe
 |0=>DB mask (bg h%(mask+1)) (bg h)
 |n+1=>K9 mask (DK mask h n)
theorem Xi:∀(xs ys:O Nat),xs.Nodup->(∀x,x∈xs->x∈ys)->xs.length<=ys.length
 |[],_,_,_=>qh _
 |x::xs,ys,hn,hs=>by
  have b:=bc.mp hn;have c:=hs x (ze ..);have:=Xi xs (ys.erase x) b.2 λz a=>(de (λe:z=x=>b.1 (by rw[<-e];exact a))).mpr (hs z (zg _ a));have:=YI c;have:0<ys.length:=cN c;simp only[Zp];omega
def nx(M i:Nat):Nat:=(i*5+1)%M
def GC(M:Nat):Nat->Nat->Nat
 |0,i=>i
 |k+1,i=>GC M k (nx M i)
theorem zT(M:Nat):∀(a b i:Nat),GC M (a+b) i=GC M b (GC M a i)
 |0,b,i=>by rw[KL];rfl
 |a+1,b,i=>by rw[Nat.succ_add];exact zT M a b _
theorem Mk:(∀r,r<8->∃k,k<8/\GC 8 k 0=r)/\GC 8 8 0=0:=by decide +kernel
theorem Pw:(∀r,r<32->∃k,k<32/\GC 32 k 0=r)/\GC 32 32 0=0:=by decide +kernel
theorem NB:(∀r,r<16->∃k,k<16/\GC 16 k 0=r)/\GC 16 16 0=0:=by decide +kernel
theorem XY:(∀r,r<64->∃k,k<64/\GC 64 k 0=r)/\GC 64 64 0=0:=by decide +kernel
theorem WJ{M:Nat}(h:(∀r,r<M->∃k,k<M/\GC M k 0=r)/\GC M M 0=0){r:Nat}(hi:i<M)(c:r<M):∃k,k<M/\GC M k i=r:=by
 obtain⟨a,d,rfl⟩:=h.1 i hi;obtain⟨b,e,rfl⟩:=h.1 r c;by_cases q:a<=b
 ·exact⟨b-a,by omega,by rw[<-zT,show a+(b-a)=b by omega]⟩
 ·exact⟨M-a+b,by omega,by rw[<-zT,show a+(M-a+b)=M+b by omega,zT,h.2]⟩
def lp(mask:Nat)(h:Int):Nat->Nat×Nat
 |0=>(bg h%(mask+1),bg h)
 |l+1=>bP mask (lp mask h l).1 (lp mask h l).2
theorem Jb(mask i:Nat):i<=bp mask i/\bp mask i<=i+9:=by unfold bp;split<;>omega
theorem Xj(h:i<=mask):bp mask i<=mask:=by unfold bp;split<;>omega
theorem wX{mask:Nat}{h:Int}{s i p:Nat}(e:DK mask h s=DB mask i p):∀k,k<=bp mask i-i->DK mask h (s+k)={ DB mask i p with j:=i+k,more:=bp mask i-i-k }
 |0,_=>by rw[Nat.add_zero,e];rfl
 |k+1,hk=>by
  have a:=wX e k ();show K9 mask (DK mask h (s+k))=_;rw[a];unfold K9;rw[zl (by dsimp only;omega)];rfl
theorem Xk{h:Int}{s p:Nat}(e:DK mask h s=DB mask i p):DK mask h (s+(bp mask i-i)+1)=DB mask (bP mask i p).1 (bP mask i p).2:=by
 show K9 mask (DK mask h (s+(bp mask i-i)))=_;rw[wX e _ (zk _)];unfold K9;rw[zD (by dsimp only;omega)];rfl
theorem XB(mask:Nat)(h:Int):∀l,(lp mask h l).1<mask+1
 |0=>dd _ (eC _)
 |l+1=>dd _ (eC _)
theorem La(mask:Nat)(h:Int):∀l,(lp mask h l).2*32 ^ l<=bg h
 |0=>by simp[lp]
 |l+1=>by
  have a:=La mask h l;show(lp mask h l).2 / 32*32 ^ (l+1)<=_;have h1:(lp mask h l).2 / 32*32<=(lp mask h l).2:=Nat.div_mul_le_self _ _;have h2:=Nat.mul_le_mul_right (32 ^ l) h1;rw[Nat.pow_succ,gd (32 ^ l) 32,<-Nat.mul_assoc];exact Zs h2 a
theorem N1(h:Int):bg h<18446744073709551616:=by
 unfold bg;have h1:h%18446744073709551616<18446744073709551616:=yY _ ();have h2:0<=h%18446744073709551616:=yf _ ();show(h%18446744073709551616).toNat<_;omega
theorem RN(mask:Nat)(h:Int):∀k,(lp mask h (12+k)).2<32
 |0=>by
  have h1:=La mask h 12;have h2:=N1 h;rw[show(32:Nat) ^ 12=1152921504606846976 from rfl]at h1;show(lp mask h 12).2<32;omega
 |k+1=>by
  have:=RN mask h k;show(lp mask h (12+k)).2 / 32<32;omega
theorem aE(mask:Nat)(h:Int):∀k,(lp mask h (12+k)).1=GC (mask+1) k (lp mask h 12).1:=by
 have step:∀k,(lp mask h (12+k+1)).1=nx (mask+1) (lp mask h (12+k)).1:=λk=>by
  have:=RN mask h k;show((lp mask h (12+k)).1*5+1+(lp mask h (12+k)).2 / 32)%(mask+1)=_;rw[show(lp mask h (12+k)).2 / 32=0 by omega];rfl
 have b:∀k i,GC (mask+1) k (nx (mask+1) i)=nx (mask+1) (GC (mask+1) k i):=λk=>by
  induction k with
  |zero=>intro i;rfl
  |succ k a=>intro i;exact a _
 intro k
 induction k with
 |zero=>rfl
 |succ k a=>
  rw[show 12+(k+1)=12+k+1 by omega,step,a];exact(b k _).symm
def Zc(mask:Nat):Prop:=∀(h:Int) (r:Nat),r<mask+1->∃l,l<mask+13/\(lp mask h l).1=r
theorem Jc(c:(∀r,r<mask+1->∃k,k<mask+1/\GC (mask+1) k 0=r)/\GC (mask+1) (mask+1) 0=0):Zc mask:=λh r a=>by
 obtain⟨k,hk,e⟩:=WJ c (XB mask h 12) a;exact⟨12+k,by omega,by rw[aE,e]⟩
theorem gD(xs:Array α)(k:Nat)(a:α):xs.getD k a=xs[k]?.getD a:=by
 by_cases h:k<xs.size
 ·rw[QI h];simp[Array.getD,h]
 ·rw[KP ()];simp[Array.getD,h]
structure Tok (t:SetTable) (es:Array (Int×Value)):Prop extends Tb t where
 size:t.place.size=es.size
 reach:∀(i j:Nat) e,t.place[i]?=some j->es[i]?=some e->∃n,n<10*bS t.mask/\(DK t.mask e.1 n).j=j/\∀m,m<n->(DK t.mask e.1 m).j∈t.place
theorem Xl(xs:Array α)(p:Nat)(x:α):(cE xs p x).toList=xs.toList.take p++x::xs.toList.drop p:=by
 unfold cE;simp[Array.toList_extract,cS]
theorem Xm(xs:Array α)(p:Nat)(x:α):(cE xs p x).size=xs.size+1:=by
 rw[<-qc,Xl,zC,Zp,KW,eu,qc];omega
theorem Xn{mask:Nat}(h:Int):∀n,(DK mask h n).j+(DK mask h n).more<=mask
 |0=>by
  have h1:bg h%(mask+1)<mask+1:=dd _ (eC _);have:=Xj (mask:=mask) (i:=bg h%(mask+1)) ();have:=Jb mask (bg h%(mask+1));show bg h%(mask+1)+(bp mask (bg h%(mask+1))-bg h%(mask+1))<=mask;omega
 |n+1=>by
  have b:=Xn (mask:=mask) h n;show(K9 mask (DK mask h n)).j+(K9 mask (DK mask h n)).more<=mask;unfold K9;split
  ·dsimp only;omega
  ·dsimp only;generalize a:(bP mask (DK mask h n).i (DK mask h n).perturb).1=i;have h1:i<mask+1:=by rw[<-a];exact dd _ (eC _)
   have:=Xj (mask:=mask) (i:=i) ();have:=Jb mask i;omega
theorem OL(h:Int)(n:Nat):(DK mask h n).j<=mask:=by have:=Xn (mask:=mask) h n;omega
def Pj(owner:Array (Y Nat))(j:Nat):Prop:=(owner.getD j (Z 0)).isNone=false
theorem GD{mask:Nat}{h:Int}{owner:Array (Y Nat)}:∀(fuel l s j:Nat),DK mask h s=DB mask (lp mask h l).1 (lp mask h l).2->s<=10*l->(∀m,m<s->Pj owner (DK mask h m).j) →
  br.free mask owner fuel (lp mask h l).1 (lp mask h l).2=Z j->∃n,n<10*(l+fuel)/\(DK mask h n).j=j/\(owner.getD j (Z 0)).isNone=true/\∀m,m<n->Pj owner (DK mask h m).j
 |0,l,s,j,_,_,_,e=>by unfold br.free at e;cases e
 |fuel+1,l,s,j,hs,hl,ho,e=>by
  have i:=Jb mask (lp mask h l).1;unfold br.free at e;cases c:(bq (bp mask (lp mask h l).1+1-(lp mask h l).1)).find? λk=>(owner.getD ((lp mask h l).1+k) (Z 0)).isNone with
  |some k=>
   rw[c]at e;cases e;obtain⟨h1,h2,d⟩:=List.find?_range_eq_some.mp c;rw[bz]at h2;refine⟨s+k,by omega,?_,h1,λm g=>?_⟩
   ·rw[wX hs k ()]
   ·by_cases q:m<s
    ·exact ho m q
    ·have f:=d (m-s) ();rw[show m=s+(m-s) by omega,wX hs (m-s) ()];simpa[Pj]using f
  |none=>
   rw[c]at e;have d:=eH.mp c;obtain⟨n,a,b⟩:=GD fuel (l+1) _ j (Xk hs) () (λm g=>by
    by_cases q:m<s
    ·exact ho m q
    ·have f:=d (m-s) ();rw[show m=s+(m-s) by omega,wX hs (m-s) ()];simpa[Pj]using f) e
   exact⟨n,by omega,b⟩
theorem GF{mask:Nat}{h:Int}{owner:Array (Y Nat)}:∀(fuel l:Nat),br.free mask owner fuel (lp mask h l).1 (lp mask h l).2=U->∀a,l<=a->a<l+fuel->Pj owner (lp mask h a).1
 |0,l,_,a,h1,h2=>by omega
 |fuel+1,l,e,a,h1,h2=>by
  have f:=Jb mask (lp mask h l).1;unfold br.free at e;cases b:(bq (bp mask (lp mask h l).1+1-(lp mask h l).1)).find? λk=>(owner.getD ((lp mask h l).1+k) (Z 0)).isNone with
  |some k=>rw[b]at e;cases e
  |none=>
   rw[b]at e;have c:=eH.mp b;by_cases q:a=l
   ·subst q;have d:=c 0 ();simpa[Pj]using d
   ·exact GF fuel (l+1) e a () ()
structure Ow (mask:Nat) (hs:List Int) (owner:Array (Option Nat)):Prop where
 size:owner.size=mask+1
 lt:∀(j idx:Nat),owner[j]?=some (some idx)->idx<hs.length
 all:∀(idx:Nat) h,hs[idx]?=some h->∃j,owner[j]?=some (some idx)/\∃n,n<10*bS mask/\(DK mask h n).j=j/\∀m,m<n->Pj owner (DK mask h m).j
 inj:∀(j j' idx:Nat),owner[j]?=some (some idx)->owner[j']?=some (some idx)->j=j'
theorem XE(o:Ow mask hs owner)(c:j<=mask):Pj owner j↔∃b,owner[j]?=Z (Z b):=by
 unfold Pj;have a:j<owner.size:=by rw[o.size];omega
 rw[gD,QI a];cases owner[j]with
 |none=>simp
 |some i=>simp
theorem Uv{f:Nat->Nat}:∀{xs:O Nat},xs.Nodup->(∀x∈xs,∀y∈xs,f x=f y->x=y)->(xs.map f).Nodup:=λ{xs} hn hi=>
 cm.mpr (YN (λa c b e=>b (hi _ a _ c e)) hn)
theorem MW(o:Ow mask hs owner)(g:hs.length<=mask):∃r,r<mask+1/\¬ Pj owner r:=by
 by_cases q:∃r,r<mask+1/\¬ Pj owner r
 ·exact q
 ·exfalso;have all:∀r,r<mask+1->∃d,owner[r]?=Z (Z d):=λr a=>by
   by_cases c:Pj owner r
   ·exact(XE o ()).mp c
   ·exact absurd ⟨r,a,c⟩ q
  have f:∀r,r<mask+1->owner[r]?=Z (Z ((owner[r]?.getD U).getD 0)):=λr a=>by
   obtain⟨d,e⟩:=all r a;rw[e];rfl
  have:=Xi ((bq (mask+1)).map λr=>(owner[r]?.getD U).getD 0) (bq hs.length) (Uv eJ λx hx y b e=>by
   rw[bz]at hx b;have e1:=f x hx;have e2:=f y b;rw[e]at e1;exact o.inj x y _ e1 e2) λx hx=>by
    obtain⟨r,a,rfl⟩:=ax.mp hx;rw[bz]at a;exact bz.mpr (o.lt r _ (f r a))
  rw[zi,y8,y8]at this;omega
theorem S3(f:Zc mask)(o:Ow mask hs owner)(t:hs.length<=mask)(h:Int):
  ∃j,br.free mask owner (bS mask) (bg h%(mask+1)) (bg h)=Z j/\Ow mask (hs++[h]) (owner.setIfInBounds j (Z hs.length)):=by
 obtain⟨r,x,u⟩:=MW o t;cases i:br.free mask owner (bS mask) (bg h%(mask+1)) (bg h)with
 |none=>
  obtain⟨l,A,e⟩:=f h r x;have:=GF (h:=h) (owner:=owner) (bS mask) 0 i l (qh _) (by unfold bS;omega);rw[e]at this;exact absurd this u
 |some j=>
  obtain⟨n,h1,h2,p,y⟩:=GD (h:=h) (owner:=owner) (bS mask) 0 0 j S (zk _) (λm f=>absurd f (dc _)) i;rw[KL]at h1;have B:j<=mask:=by rw[<-h2];exact OL h n
  have v:j<owner.size:=by rw[o.size];omega
  have get:∀k:Nat,(owner.setIfInBounds j (Z hs.length))[k]?=if k=j then Z (Z hs.length)else owner[k]?:=λk=>by
   rw[Array.getElem?_setIfInBounds];by_cases q:k=j
   ·rw[zl q,zl q.symm,zl v]
   ·rw[zD q,zD (λe=>q e.symm)]
  have old:∀k d:Nat,owner[k]?=Z (Z d)->k≠j:=λk d e q=>by
   subst q;rw[gD,e]at p;cases p
  have s:∀k,Pj owner k->Pj (owner.setIfInBounds j (Z hs.length)) k:=λk q=>by
   unfold Pj at q ⊢;rw[gD]at q ⊢;rw[get];by_cases e:k=j
   ·rw[zl e];rfl
   ·rw[zD e];exact q
  refine⟨j,rfl,⟨by rw[Array.size_setIfInBounds];exact o.size,λk d e=>?_,λd g e=>?_,λa b d e1 e2=>?_⟩⟩
  ·rw[get]at e;rw[zC];by_cases q:k=j
   ·rw[zl q]at e;cases e;simp
   ·rw[zD q]at e;have:=o.lt k d e;simp;omega
  ·by_cases q:d<hs.length
   ·rw[ZI q]at e;obtain⟨k,e1,z,a,b,c⟩:=o.all d g e;exact⟨k,by rw[get,zD (old k d e1)];exact e1,z,a,b,λm f=>s _ (c m f)⟩
   ·rw[ZY ()]at e;have:d-hs.length=0:=by
     by_cases w:d-hs.length=0
     ·exact w
     ·rw[qi (by simp;omega)]at e;cases e
    rw[this]at e;cases e;have:d=hs.length:=by omega
    subst this;exact⟨j,by rw[get,zl rfl],n,h1,h2,λm f=>s _ (y m f)⟩
  ·rw[get]at e1 e2;by_cases q1:a=j
   ·by_cases q2:b=j
    ·rw[q1,q2]
    ·rw[zl q1]at e1;rw[zD q2]at e2;cases e1;have:=o.lt b _ e2;omega
   ·by_cases q2:b=j
    ·rw[zD q1]at e1;rw[zl q2]at e2;cases e2;have:=o.lt a _ e1;omega
    ·rw[zD q1]at e1;rw[zD q2]at e2;exact o.inj a b d e1 e2
theorem NF(mask:Nat):Ow mask [] (hF (mask+1) U):=by
 have no:∀(j a:Nat),(hF (mask+1) (U:Y Nat))[j]?≠Z (Z a):=λj a e=>by
  rw[Array.getElem?_replicate]at e;split at e<;>cases e
 exact⟨Array.size_replicate,λj a e=>absurd e (no j a),λa h e=>by simp at e,λj b a e=>absurd e (no j a)⟩
theorem aI(i:Zc mask)(hs:O Int)(a:hs.length<=mask):∃owner,br mask hs.toArray=Z owner/\Ow mask hs owner:=by
 have l:∀(ys xs:O Int) (owner:Array (Y Nat)),Ow mask xs owner->xs.length+ys.length<=mask->∃c,ys.foldl (λ(g:Y (Array (Y Nat)×Nat)) h=>do
   let (owner,k) <-g
   let j <-br.free mask owner (bS mask) (bg h%(mask+1)) (bg h)
   pure (owner.setIfInBounds j (Z k),k+1)) (Z (owner,xs.length))=Z (c,xs.length+ys.length)/\Ow mask (xs++ys) c:=by
  intro ys
  induction ys with
  |nil=>intro xs owner o _;exact⟨owner,rfl,by rw[QE];exact o⟩
  |cons y ys f=>
   intro xs owner o a;rw[Zp]at a;obtain⟨j,e,o'⟩:=S3 i o () y;obtain⟨b,e2,d⟩:=f (xs++[y]) _ o' (by simp;omega);refine⟨b,?_,by rw[ZO]at d;exact d⟩;rw[Qb];simp only[Option.bind_eq_bind,eA,e,pure];rw[show(xs++[y]).length=xs.length+1 by simp]at e2;rw[Zp,show xs.length+(ys.length+1)=xs.length+1+ys.length by omega];exact e2
 obtain⟨b,e,o⟩:=l hs [] _ (NF mask) (by simpa using a);refine⟨b,?_,by simpa using o⟩;unfold br;rw[List.foldl_toArray];exact congrArg (Option.map (·.1)) e
theorem Ip{α β:Type}{f:α->Y β}{g:α->β}:∀{xs:O α},(∀x∈xs,f x=Z (g x))->xs.filterMap f=xs.map g
 |[],_=>rfl
 |x::xs,h=>by
  rw[Ki,h x (ze ..),zo,Ip λy a=>h y (zg _ a)]
end S6
namespace S6
open P1 L2
abbrev MZ(prog:A3)(w:A4)(ks:O AY):Int:=tupleKeyHash (bV prog w) ks
def TE(prog:A3)(w:A4)(h:A6)(z:O AY×A1)(e:Int×A0):Prop:=e=(MZ prog w z.1,.ref z.2)/\IsTupleKey (bV prog w) h z.1 z.2
theorem least(p:Nat->Prop):∀(k n:Nat),p (n+k)->∃d,d<=k/\p (n+d)/\∀m,n<=m->m<n+d->¬ p m
 |0,n,h=>⟨0,zk _,h,λm h1 h2=>absurd h2 ()⟩
 |k+1,n,h=>by
  by_cases q:p n
  ·exact⟨0,qh _,q,λm h1 h2=>absurd h2 ()⟩
  ·obtain⟨d,h1,h2,c⟩:=least p k (n+1) (by rw[show n+1+k=n+(k+1) by omega];exact h);refine⟨d+1,by omega,by rw[show n+(d+1)=n+1+d by omega];exact h2,λm a b=>?_⟩;by_cases e:m=n
   ·rw[e];exact q
   ·exact c m () ()
end S6
namespace S1
open L2
end S1
namespace S6
end S6
namespace S1
def B1:Nat->StateT SortSt Sem Unit:=sortPriv% PySem.Builtin.setMinGallop
section
variable{b:Array Keyed}
end
section
variable(le:Keyed->Keyed->Prop)
variable{le}{out xs ys:O Keyed}
end
section
variable{b:Array Keyed}
abbrev Le(rk:A0->Nat):Keyed->Keyed->Prop:=λp q=>rk p.1<=rk q.1
section
variable{x y:Array Keyed}
abbrev OA:=Y (Array Keyed)×Array Keyed×Nat×Nat×Nat×Nat×Nat
section
variable{P:ForInStep OA->SortSt->Prop}
end
abbrev brk(o:Y α)(f:α->StateT SortSt Sem β)(g:Unit->StateT SortSt Sem β):StateT SortSt Sem β:=Break.runK.match_1 (motive:=λ_=>StateT SortSt Sem β) o f g
section
variable{a b c:Type}
end
end
end
section
variable{b:Array Keyed}
variable{x y:Array Keyed}
abbrev UP:=Y (Array Keyed)×Nat×Nat×Array Keyed×Nat×Nat×Nat
section
variable{P:ForInStep UP->SortSt->Prop}
end
end
section
variable{b:Array Keyed}
end
section
variable(rk:A0->Nat)(lo:Nat)
abbrev al(xs:Array Keyed)(i:Nat):Nat:=at_ rk xs (lo+i)
def I0(xs:Array Keyed)(k:Nat):Prop:=∀i j,i<=j->j<k->al rk lo xs j<=al rk lo xs i
end
section
variable{b:Array Keyed}{lo:Nat}{u:SortSt}
theorem grow{xs ys:Array Keyed}{x:Nat}(dn:I0 rk lo xs x)(hk:∀k,al rk lo ys k=al rk lo xs k)(c:1<=x->al rk lo xs x<=al rk lo xs (x-1)):I0 rk lo ys (x+1):=λi j b d=>by
 rw[hk,hk];by_cases hx:j<x
 ·exact dn i j b hx
 ·have a:j=x:=by omega
  subst a;by_cases hi:i=j
  ·rw[hi];exact zk _
  ·have:=dn i (j-1) () ();have:=c ();omega
end
section
variable(rk:A0->Nat)
def Ds:Nat->O (O Keyed)->O (Nat×Nat×Nat)->Prop
 |_,[],[]=>True
 |lo,g::gs,(a,n,_)::ps=>a=lo/\n=g.length/\g≠[]/\g.Pairwise (Le rk)/\Ds (lo+g.length) gs ps
 |_,_,_=>False
variable{rk}
end
section
variable{b:Array Keyed}
structure St (rk:Value->Nat) (kd:SortKind) (b:Array Keyed) (R:List Keyed) (gs:List (List Keyed)) (t:SortSt):Prop where
 kd:kindOf t=kd
 fl:failedOf t=none
 pm:(arrOf t).Perm b
 ar:(arrOf t).toList=gs.flatten++R
 ds:Ds rk 0 gs (pendingOf t).toList
end
end S1
namespace S6
open PySem
theorem RQ{finger moves:Nat}{led plain:Bool}{es:Array (Int×A0)}(w:Zc mask)(C:es.size<=mask):
  ∃t' s,dP mask finger moves (led:=led) (plain:=plain) (es.map (·.1))=Z (t',s)/\(s.filterMap (es[·]?)).toList.Perm es.toList/\t'.place.size=es.size/\t'.dummies=#[]/\t'.mask=mask/\t'.led=led/\t'.plain=plain:=by
 have hs:(es.toList.map (·.1)).length=es.size:=by simp
 obtain⟨c,e,o⟩:=aI w (es.toList.map (·.1)) ();have ea:es.map (·.1)=(es.toList.map (·.1)).toArray:=by
  apply Array.ext';simp
 let L:O (Nat×Nat):=(bq (mask+1)).filterMap λj=>(c.getD j U).map λk=>(j,k)
 have f:∀j k,(j,k)∈L↔c[j]?=Z (Z k):=λj k=>by
  show(j,k)∈List.filterMap _ _↔_;rw[dv];constructor
  ·rintro⟨a,d,q⟩;rw[gD]at q;cases h1:c[a]? with
   |none=>rw[h1]at q;cases q
   |some x=>
    rw[h1]at q;cases x with
    |none=>cases q
    |some y=>cases q;exact h1
  ·intro q;refine⟨j,bz.mpr ?_,?_⟩
   ·by_cases h:j<c.size
    ·rw[<-o.size];exact h
    ·rw[KP ()]at q;cases q
   ·rw[gD,q];rfl
 have t:L.Pairwise λa b=>a.1<b.1:=by
  refine List.pairwise_filterMap.mpr (List.pairwise_lt_range.imp λ{a b} hab x hx y hy=>?_);cases h1:c.getD a U with
  |none=>rw[h1]at hx;cases hx
  |some u=>
   cases h2:c.getD b U with
   |none=>rw[h2]at hy;cases hy
   |some v=>rw[h1]at hx;rw[h2]at hy;cases hx;cases hy;exact hab
 have A:(L.map (·.2)).Nodup:=by
  refine cm.mpr (YN (λ{a b} d hb hab e=>?_) t);have h1:=(f a.1 a.2).mp d;have h2:=(f b.1 b.2).mp hb;rw[e]at h1;have:=o.inj _ _ _ h1 h2;omega
 have l:(L.map (·.2)).Perm (bq es.size):=wV A eJ λz=>by
  rw[ax,bz];constructor
  ·rintro⟨a,d,rfl⟩;have:=o.lt _ _ ((f a.1 a.2).mp d);omega
  ·intro B;obtain⟨j,h1,_⟩:=o.all z ((es.toList.map (·.1))[z]'()) (zr ());exact⟨(j,z),(f j z).mpr h1,rfl⟩
 let g:Nat->Int×A0:=λk=>es.getD k (0,.none)
 have n:∀k,k<es.size->es[k]?=Z (g k):=λk hk=>by
  show _=Z (es.getD k _);rw[gD,QI hk];rfl
 have m:(L.map (·.2)).filterMap (λk=>es[k]?)=(L.map (·.2)).map g:=Ip λk hk=>n k (bz.mp (l.mem_iff.mp hk));have eL:((L.map (·.2)).toArray.filterMap (λk=>es[k]?)).toList=L.map λp=>g p.2:=by
  rw[fm,m,ZT];rfl
 refine⟨{ mask:=mask,place:=(L.map (·.1)).toArray,dummies:=#[],finger:=finger,led:=led,moves:=moves,plain:=plain },(L.map (·.2)).toArray,?_,?_,?_,rfl,rfl,rfl,rfl⟩
 ·unfold dP;rw[ea,e];rfl
 ·rw[fm,m];refine(l.map g).trans ?_;have:(bq es.size).map g=es.toList:=by
   apply y9;intro i;rw[zS];by_cases h:i<es.size
   ·rw[yn h,kR,n i h];rfl
   ·rw[qi (by simp;omega),qi (by simp;omega)];rfl
  rw[this]
 ·have:=l.length_eq;rw[zi,y8]at this;simpa using this
end S6
namespace P1
open L2 S6
def pR:AZ->AZ
 |[]=>[]
 |y::ys=>if y∈ys then pR ys else y::pR ys
theorem sZ:∀{ys:AZ} {z:AJ},z∈pR ys↔z∈ys
 |[],z=>by simp[pR]
 |y::ys,z=>by
  unfold pR;split
  ·rename_i h;rw[sZ,js];exact⟨.inr,λq=>q.elim (λe=>e▸h) id⟩
  ·rw[js,sZ,js]
theorem zU:∀(ys:AZ),(pR ys).Nodup
 |[]=>by simp[pR]
 |y::ys=>by
  unfold pR;split
  ·exact zU ys
  ·rename_i h;exact bc.mpr ⟨λq=>h (sZ.mp q),zU ys⟩
theorem yQ:∀{vs:O A0} {ys:AZ},StrsAre vs ys->∀(i:Nat) (v:A0),vs[i]?=Z v->∃y t,ys[i]?=Z y/\v=.str y t
 |_,_,.nil,i,v,h=>by simp at h
 |_,_,.cons y t r,0,v,h=>by simp at h;exact⟨y,t,rfl,h.symm⟩
 |_,_,.cons y t r,i+1,v,h=>by
  obtain⟨z,t',e,a⟩:=yQ r i v (by simpa using h);exact⟨z,t',by simpa using e,a⟩
theorem yR{prog:A3}{w:A4}:∀{ys:AZ} {l:O (Int×A0)},AI (Bo prog w) ys l->StrsAre (l.map (·.2)) ys
 |_,_,.nil=>.nil
 |_,_,.cons r t=>by obtain⟨tk,rfl⟩:=r;exact .cons _ _ (yR t)
theorem Jd:∀{l c:O A0},c.Perm l->∀{ys:AZ},StrsAre l ys->∃d,d.Perm ys/\StrsAre c d:=by
 intro l c hp
 replace hp:=hp.symm
 induction hp with
 |nil=>intro ys h;exact⟨ys,.refl _,h⟩
 |cons x _ e=>intro ys h;cases h with|cons y k t=>obtain⟨zs,z1,z2⟩:=e t;exact⟨y::zs,z1.cons _,.cons y k z2⟩
 |swap x y l=>intro ys h;cases h with|cons a k t=>cases t with|cons b m g=>exact⟨_,List.Perm.swap _ _ _,.cons b m (.cons a k g)⟩
 |trans _ _ j f=>intro ys h;obtain⟨zs,z1,z2⟩:=j h;obtain⟨us,i,n⟩:=f z2;exact⟨us,i.trans z1,n⟩
section
def Ct(X:Cx)(a:A1)(zs:AZ):HO:=.ext λh=>Tx X.prog X.w h a zs
def TW(X:Cx):O V->Hp->VK->Prop:=λxs H Q=>∃v b ds ys,xs=[v]/\aW X.K H b v/\oO b=Z ds/\nQ ds=Z ys/\ys.length<4000/\∀a zs H',AV H H'->H' a=Z (Ct X a zs)->(∀z,z∈zs↔z∈ys)->zs.Nodup->Q (.ref a) H'
theorem Lb{S:A1}(hs:StrsAre AQ ys)(x:ys.length<4000):DL X.prog X.w S [S+1] (λh zs=>Tx X.prog X.w h S zs) (λi v=>AQ.toArray[i]?=Z v) (λi=>ys.getD i "") AQ.length where
 keep:=λh h' zs t k=>t.keep λo e=>k S o (by simp only[js,kr,or_false];exact z5 (qS _)) e
 add:=λA E s i v zs Q _ hi c j u h=>by
  obtain⟨y,t,a,rfl⟩:=yQ hs i v (by simpa using c);have z:i<ys.length:=by
   rcases Nat.lt_or_ge i ys.length with q|q
   ·exact q
   ·rw[qi q]at a;cases a
  have d:ys.getD i ""=y:=by simp[List.getD,a]
  unfold setAdd;refine qB (zb ((strKind X.prog X.w).pyHash (strKind_is X.prog X.w y t) ?_));have g:scanBound=4096:=rfl;refine Xf (s:={ s with toks:=s.toks+1 }) j (by rw[g];omega) λb h' n p f m l=>?_;exact h b h' _ n p f (by rw[d];exact m) () (Kx _)
theorem a7(hc:X.calm=true)(hu:X.A.units+100<cLine):eY X (.type "set") (TW X):=by
 intro AN s σ H xs us Q I r h;obtain⟨v,b,ds,ys,rfl,rb,ed,ey,N,q⟩:=h;obtain⟨u,rfl,ru⟩:=BB r;obtain⟨p,vs,rfl,sq,rs⟩:=uE rb ed;obtain⟨rfl,hy⟩:=jx rs ey;cases ru;have W:=I.ok.hd hc;have L:∀(h':A6) (tk:Nat) (zs:AZ) (AQ:O A0),StrsAre AQ ys->AQ.length=ys.length->Tx X.prog X.w h' s.heap.objs.size zs->(∀z,z∈zs↔∃j,j<AQ.length/\z=ys.getD j "")->(∀b E,s.heap.get? b=Z E->h'.get? b=Z E)->EP X AN σ Q (.ref s.heap.objs.size) { s with heap:=h',toks:=tk }:=by
  intro h' tk zs AQ _ m tx B k;have a3:=I.hok.fresh (zk s.heap.objs.size);refine⟨.ref s.heap.objs.size,_,I.laid (t':=tk) (a:=s.heap.objs.size) (o:=Ct X s.heap.objs.size zs) k (zk _) ?_,rfl,q _ zs _ (bw a3) aJ (λz=>?_) ?_⟩
  ·obtain⟨o,es,ep,t,M,_⟩:=id tx;exact⟨tx,⟨o,M⟩,λh1 h2 t1 k1=>Tx.keep t1 k1⟩
  ·rw[B z];constructor
   ·rintro⟨j,D,rfl⟩;rw[m]at D;simp[List.getD,D]
   ·intro F;obtain⟨j,D,e⟩:=JI F;exact⟨j,by rw[m];exact D,by simp[List.getD,D,e]⟩
  ·obtain⟨o,es,ep,t,M,_,_,x⟩:=tx;exact x.nd
 rcases sq with sq|sq
 ·obtain⟨AQ,C,pl,F⟩:=I.list sq;have hs:=jy C;have m:AQ.length=ys.length:=by rw[<-C.length,zi]
  obtain⟨o,g,c,n,d⟩:=pl.isList;refine Xh () (T :="list") W g c (.inl S) (P:=λi v=>AQ.toArray[i]?=Z v) (n:=AQ.length) (λG E' Q' l y f J=>?_) (Lb hs N) (λh' e k=>?_) λh' tk zs tx B k=>L h' tk zs AQ hs m tx B k
  ·refine y7 (items:=AQ.toArray) ⟨o,f _ _ g,c,n,d⟩ ?_;have K:p≠l.objs.size:=z5 (zI (f _ _ g));refine J _ (λi h=>h.IsListIter l.objs.size p i/\h.IsList p AQ.toArray) (λG y=>by have:=Walks.list (prog:=X.prog) (w:=X.w) y l.objs.size p K AQ.toArray;rw[zw]at this;exact this) ⟨⟨_,zt _ rfl,rfl,rfl⟩,⟨o,zh _ (f _ _ g),c,n,d⟩⟩ λb E e=>zh _ e
  ·exact⟨_,#[],0,_,e,⟨rfl,rfl,rfl⟩,rfl,.nil,JP,rfl,λq=>by simp[ca,q],λq=>absurd q (jb _)⟩
 ·obtain⟨AQ,C,pl,F⟩:=I.tuple sq;have hs:=jy C;have m:AQ.length=ys.length:=by rw[<-C.length,zi]
  obtain⟨o,g,c,n,d⟩:=id pl;refine Xh () (T :="tuple") W g c (.inr S) (P:=λi v=>AQ.toArray[i]?=Z v) (n:=AQ.length) (λG E' Q' l y f J=>?_) (Lb hs N) (λh' e k=>?_) λh' tk zs tx B k=>L h' tk zs AQ hs m tx B k
  ·refine wpAny_pyIter_tuple (items:=AQ.toArray) ⟨o,f _ _ g,c,n,d⟩ ?_;have K:p≠l.objs.size:=z5 (zI (f _ _ g));refine J _ (λi h=>h.IsTupleIter l.objs.size p i/\h.IsTuple p AQ.toArray) (λG y=>by have:=Walks.tuple (prog:=X.prog) (w:=X.w) y l.objs.size p K AQ.toArray;rw[zw]at this;exact this) ⟨⟨_,zt _ rfl,rfl,rfl⟩,⟨o,zh _ (f _ _ g),c,n,d⟩⟩ λb E e=>zh _ e
  ·exact⟨_,#[],0,_,e,⟨rfl,rfl,rfl⟩,rfl,.nil,JP,rfl,λq=>by simp[ca,q],λq=>absurd q (jb _)⟩
theorem Pk(I:AU X AN σ H s){zs:AZ}(h:H a=Z (Ct X a zs)):Tx X.prog X.w s.heap a zs:=(I.hok _ _ h).1
theorem GJ{d:Drawn}(I:AU X AN σ H s):AU X AN σ H { s with drawn:=d }:=⟨I.ok,I.os,I.bare,I.base,I.loc,I.cell,I.free,I.mC,I.pin,I.hok,I.len⟩
def PY(X:Cx):O V->Hp->VK->Prop:=λxs H Q=>∃a zs,xs=[.ref a]/\H a=Z (Ct X a zs)/\zs.length<64/\(∀z∈zs,z.length<=AA)/\∀l H',AV H H'->H l=U->H' l=Z (.lst ((aU zs).map V.str))->Q (.ref l) H'
theorem Z'(z:X.calm=true):eY X (.builtin "sorted") (PY X):=by
 intro AN s σ H xs us Q I r h;obtain⟨a,zs,rfl,G,a3,hy,q⟩:=h;obtain⟨u,rfl,v⟩:=BB r;cases v;obtain⟨o,es,ep,t,C,N,M,x⟩:=Pk I G;have B:=x.size;have A:Wk X.w s.heap a es ep t:=⟨⟨o,C,N.1,M⟩,x.fit,x.led,.inl λq=>x.non ()⟩;refine y4 kind_sorted plain_sorted entry_sorted (args_sorted1 _) ?_;unfold Builtin.«sorted»;refine zb (m:=checkCount "sorted" 1 1 _) (zd (zb (K8 (by exact I.ok.hd z) A (by rw[B,sizeLine_eq];omega) λc h1 d tk hp p ext=>?_)));obtain⟨ys,D,i⟩:=Jd hp (yR x.rel);have J:c.length<64:=by rw[hp.length_eq];simp;omega
 refine zb (YA ?_);have g:(h1.push (seqObj "list" c.toArray 0)).get? h1.objs.size=Z (seqObj "list" c.toArray 0):=zt _ rfl;refine zb (qB (Q3 slot_list_sort ⟨_,g,rfl⟩ entry_list_sort (list_sort_treeK strKind_oneLt g i.keysOf (λP W AS e=>keyKind_strs (by rw[<-e];exact i)) J λf a1 a2=>⟨_,rfl,zd ⟨_,rfl,?_⟩⟩) (args_list_sort _)));obtain⟨us,y,F,K⟩:=sorted_out_str i a1 a2;obtain⟨n,en⟩:=sortedHeap_at (out:=(AM f).map (·.2)) g;have E:=Ba (F.trans D) K;subst E;have j:=I.hok.fresh (a:=h1.objs.size) p;have L:=GJ (d:=d) (I.laid (t':=tk) (a:=h1.objs.size) (o:=.lst ((aU zs).map V.str)) (h':=sortedHeap (h1.push (seqObj "list" c.toArray 0)) h1.objs.size c ((AM f).map (·.2))) (λb o e=>by
  have e1:=ext b o e;have l:=zI e1;rw[sortedHeap_old (z5 l) (by rw[qr];exact Qr l)];exact zh _ e1) p ⟨by rw[zi,(bf _).length_eq,sizeLine_eq];omega,((AM f).map (·.2)).toList,n,pP y,by rw[en]⟩)
 exact⟨.ref h1.objs.size,_,L,rfl,q _ _ (bw j) j aJ⟩
def tS(X:Cx)(f:Ev->Y AZ):TE:=λσ H Q=>∃H0 ρ ys,aX X.K H0 H σ ρ/\f ρ=Z ys/\ys.length<4000/\∀a zs H',AV H H'->H' a=Z (Ct X a zs)->(∀z,z∈zs↔z∈ys)->zs.Nodup->(∀z∈zs,z.length<=AA)->Q (.ref a) H'
def G0(X:Cx)(e:Expr)(f:Ev->Y AZ):Prop:=PE X e (tS X f)
def Xp(b:Bx):Y AZ:=(oO b).bind nQ
variable{fs:Ev->Y AZ}{p:Pos}
theorem NC(u:X.calm=true)(x:X.A.units+100<cLine)(y:Gl X "set")(w:X.mg "set"=U)(l:PV X e f)(he:A9 (e::[]) X.env=(false,eval e X.env)::A9 [] X.env:=by rfl):G0 X (.Call (.Name "set" p) [e] [] pos) (λρ=>(f ρ).bind Xp):=by
 refine DX (FN (T :="set") (a7 u x) y w S (dR l jc he) (he:=he)) λσ H Q h=>?_;obtain⟨H0,ρ,ys,E,c,s,q⟩:=h;obtain⟨b,eb,c⟩:=AT c;obtain⟨ds,i,g⟩:=AT c;refine⟨H0,ρ,b,E,eb,λv H1 j B d=>⟨v,b,ds,ys,rfl,d,i,g,s,λa zs H2 t e2 m nd=>?_⟩⟩;refine q a zs H2 (j.trans t) e2 m nd λz n=>?_;obtain⟨p',vs,rfl,sq,o⟩:=uE d i;exact(jx o g).2 z ((m z).mp n)
theorem Pc(n:X.calm=true)(u:Gl X "sorted")(s:X.mg "sorted"=U)(g:G0 X e fs)(he:A9 (e::[]) X.env=(false,eval e X.env)::A9 [] X.env:=by rfl):PV X (.Call (.Name "sorted" p) [e] [] pos) (λρ=>(fs ρ).bind λys=>if ys.length<4000/\(pR ys).length<64 then Z (.o ((aU (pR ys)).map Dt.str))else U):=by
 refine DX (wz (id :="sorted") (Z' n) u s S (dR g jc he) (he:=he)) λσ H Q h=>?_;obtain⟨H0,ρ,b,E,c,q⟩:=h;obtain⟨ys,t,c⟩:=AT c;split at c
 ·rename_i v;cases c;refine⟨H0,ρ,ys,E,t,by omega,λa zs H1 d e1 m nd f=>⟨a,zs,rfl,e1,?_,f,λl H2 j i e2=>?_⟩⟩
  ·have:=(wV nd (zU ys) λz=>by rw[m z,sZ]).length_eq;omega
  ·have pm:=wV nd (zU ys) λz=>by rw[m z,sZ]
   have es:aU zs=aU (pR ys):=wN ((bf zs).trans (pm.trans (bf _).symm)) (gk zs) (gk _);rw[es]at e2;exact q _ H2 (d.trans j) (λa ea=>by cases ea;exact d.free i) ⟨l,_,rfl,e2,jT λy h=>f y (pm.mem_iff.mpr ((bf _).mem_iff.mp h))⟩
 ·cases c
end
theorem Uw{Q:B7}(h:Q (.ref s.heap.objs.size) { s with heap:=s.heap.push (BE w) }):A7 (A8 prog w) A (newSet (.type "set")) Q E s:=by
 unfold newSet;refine zb (jz ?_);simp only[newObj];exact zb (wpAny_alloc (zd h))
theorem Ld:∀{ds:O Dt} {ys:AZ},nQ ds=Z ys->ds=ys.map Dt.str
 |[],_,e=>by cases e;rfl
 |.str x::ds,_,e=>by
  simp only[nQ]at e;obtain⟨ys,e1,e2⟩:=AT e;cases e2;rw[zo,<-Ld e1]
 |.non::_,_,e=>by cases e
 |.bl _::_,_,e=>by cases e
 |.int _::_,_,e=>by cases e
 |.tup _::_,_,e=>by cases e
 |.lst _::_,_,e=>by cases e
 |.emp::_,_,e=>by cases e
section
structure EJ (X:Cx) (e:Expr) (f:Ev->Option AZ):Prop where
 run:G0 X e f
def Xq(f:Ev->Y Bx):Ev->Y AZ:=λρ=>(f ρ).bind Xp
def RT(fs:Ev->Y AZ):Ev->Y Bx:=λρ=>(fs ρ).bind λys=>if ys.length<4000/\(pR ys).length<64 then Z (.o ((aU (pR ys)).map Dt.str))else U
variable{fs:Ev->Y AZ}{p':Pos}
theorem RV(b:X.calm=true)(c:X.A.units+100<cLine)(g:Gl X "set")(d:X.mg "set"=U)(a:QV X e f)(he:A9 (e::[]) X.env=(false,eval e X.env)::A9 [] X.env:=by rfl):EJ X (.Call (.Name "set" p') [e] [] pos) (Xq f):=⟨NC b c g d a.run he⟩
theorem Th(b:X.calm=true)(d:Gl X "sorted")(c:X.mg "sorted"=U)(a:EJ X e fs)(he:A9 (e::[]) X.env=(false,eval e X.env)::A9 [] X.env:=by rfl):QV X (.Call (.Name "sorted" p') [e] [] pos) (RT fs):=⟨Pc b d c a.run he⟩
end
end P1
namespace P1
open L2 S1 S6
section
variable [DecidableEq α]
end
section
def F5(ks:O AY):Bool:=ks.any λk=>k.isRight
variable{fs:Ev->Y (O (O AY))}{p:Pos}
end
end P1
namespace P1
open L2
def Bp:Bx->Bx->Y Bx
 |.z (.str k),.z d=>Z (.z (.tup [.str k,d]))
 |_,_=>U
theorem Pn{a:Bx}{y:Dt}(h:Bp a b=Z (.z y)):∃k d,a=.z (.str k)/\b=.z d/\y=.tup [.str k,d]:=by
 unfold Bp at h;split at h
 ·cases h;exact⟨_,_,rfl,rfl,rfl⟩
 ·cases h
def Fn(AO:O (AY×Dt)):Dt->O (AY×Dt)
 |.tup [.str k,d]=>Iv AO (.inr k) d
 |_=>AO
def dictOf(out:O Dt):O (AY×Dt):=out.foldl Fn []
theorem Lf(out:O Dt)(k:AJ)(d:Dt):dictOf (out++[.tup [.str k,d]])=Iv (dictOf out) (.inr k) d:=by
 unfold dictOf;rw[gE];rfl
theorem Ux{AO:O (AY×V)}{k:AY}{r:A0}(I:L2.AU X AN σ H s)(e:H a=Z (.dK AO))(l:AO.length<AA)(i:At (kV k) u)(m:At v r)(h:∀s',L2.AU X AN σ (B4 H a (.dK (B9 AO k v))) s'->Q bv s'):
  A7 (bi X) A (dictSet a u r) Q E s:=by
 obtain⟨z,n,vs,b,d⟩:=V0 I.hok e;have f:vs.length<=AA:=by rw[<-b.length];exact z
 have g:(B9 AO k v).length<=AA:=by have:=jO AO k v;omega
 refine wpAny_dictSet_pairs (hsz:=f) (FQ i) d λh' c hs=>h _ ?_;have j:∃q,h'.get? a=Z q:=let ⟨q,_,_,hq,_⟩:=c;⟨q,hq⟩;exact zM I (by rw[e];exact True.intro) hs j (Ol g n (b.put k m) c)
section
variable{kx vx:Expr}
def EG(K:Au)(_:A1)(H:Hp)(a:O Dt)(o:HO):Prop:=∃us,o=.dK us/\eF K H (dictOf a) us/\us.length<=a.length
theorem EG.kp{K:Au}{D:A1}{H H':Hp}{a:O Dt}{o:HO}(k:Kp H H'):EG K D H a o->EG K D H' a o:=λ⟨us,e,r,z⟩=>⟨us,e,r.kp k,z⟩
theorem UH(hk:PV X kx fk)(t:PV X vx fv):Ov X (λD env=>do let g <-eval kx env;let vv <-holding [g] (eval vx env);standAt { kx.pos with endLine:=vx.pos.endLine,endCol:=vx.pos.endCol };holding [g,vv] (dictSet D g vv)) (Wu (b2 Bp fk fv)) (EG X.K) 999 n:=by
 refine Wq λAN s σ H H0 ρ D o o1 ys I En eb hD ⟨us,e,r4,hl⟩ hi=>?_;subst e;obtain⟨b,e0,e1⟩:=AT eb;obtain⟨y,rfl,rfl⟩:=yd e1;obtain⟨bk,q,eb⟩:=AT e0;obtain⟨P,w,eb⟩:=AT eb;obtain⟨c,E,rfl,rfl,rfl⟩:=Pn eb;refine zb (Z3 (hk AN s σ H (λv a=>AV H a/\aW X.K a (.z (.str c)) v) I ⟨H0,ρ,_,En,q,λv a f _ d=>⟨f,d⟩⟩) (λg J j=>?_) λ_ _ z=>z);obtain⟨A,l,C,rk,m,G⟩:=j;refine zb (qB (Z3 (t AN J σ l (λv a=>AV l a/\AW X.K a E v) C ⟨H0,ρ,_,En.grow m,w,λv a f _ d=>⟨f,d⟩⟩) (λv f j=>?_) λ_ _ z=>z));obtain⟨h,a,u,M,N,d⟩:=j;have i:=m.trans N;have p:a D=Z (.dK us):=i _ _ hD;obtain⟨rfl,B⟩:A=.str c/\c.length<=AA:=by simpa only[aW,AW]using G
 have kp:Kp a (B4 a D (.dK (B9 us (Sum.inr c) h))):=.dk p;refine zb (kK (qB ?_));simp only[JS]at hi;refine Ux u p (by have:(1000:Nat)<AA:=();omega) (k:=Sum.inr c) rk M λQ F=>?_;have L:=((r4.kp (.of i)).put (x:=Sum.inr c) d B).kp kp;exact⟨a,_,F,i,kp,B9 us (Sum.inr c) h,rfl,by rw[Lf];exact L,by have:=jO us (Sum.inr c) h;simp;omega⟩
def RW(fi:Ev->Y (O Dt))(gt:Dt->Ev->Y Ev)(p:Ev->Y Bool)(fk fv:Ev->Y Bx)(is:O Nat)(n:Nat):Ev->Y Bx:=λρ=>(fi ρ).bind λds=>
 if ds.length<1000 then(yL gt p (b2 Bp fk fv) (gW is ρ++ay n U) ds).bind λout=>Z (.m (dictOf out) U)else U
theorem Xr(hu:X.A.units+100<cLine)(ts:AZ)(O:oM X scope cl xs is)(u:X.calm=true)(hi:EF X tgt iter fi)
  (Ge:∀C d c fp,Wh (uT X (xs++ts) scope cl C d c fp) tgt gt) (n:∀C d c fp,vD (uT X (xs++ts) scope cl C d c fp) ifs p) (W:∀C d c fp,QV (uT X (xs++ts) scope cl C d c fp) kx fk) (b4:∀C d c fp,QV (uT X (xs++ts) scope cl C d c fp) vx fv) (l:Za is.length (is.length+ts.length) gt)
  (hs:∀x,foldedSetIterable iter X.env x=pure x:=by intro _;rfl):QV X (.DictComp kx vx [⟨tgt,iter,ifs,0⟩] scope pos) (RW fi gt p fk fv is ts.length):=⟨λAN s σ H Q I h=>by
 obtain⟨H0,ρ,b,E,e,q⟩:=h;obtain⟨ds,P,e⟩:=AT e;split at e
 ·rename_i b0;obtain⟨out,j,e⟩:=AT e;cases e;rw[arm_eval_DictComp];refine kl (use:=U) S hs O.clos O.kind O.names ?_;refine fX (hi.run AN s σ H (λJ H'=>AV H H'/\B0 X.K J ds H') I ⟨H0,ρ,ds,E,P,λJ H' s' y=>⟨s',y⟩⟩) λv s1 h1=>fX h1 λb5 G h2=>?_;obtain⟨it,fp,tn,J,H2,rfl,i,T,st,t,g,Y⟩:=h2;refine yg (B:=Av) (Ac:=EG X.K) (O0:=.dK []) (N:=999) (RR:=λa5 C=>compPost (bi X) X.A X.xe U (EP X AN σ Q) a5 C) (ts:=ts) (xs:=xs) O u (λC d c fp=>(Ge C d c fp).run) (λC d c fp=>(n C d c fp).run) (λC d c fp=>UH (W C d c fp).run (b4 C d c fp).run) l (Nat.le_add_right ..) i ((E.grow g).caps is ts.length) (Gb T) st t Y j (Zs (uw j) (Nat.le_of_lt_succ b0)) ?_
   qV (λ_=>J7 G.heap i.big) (λ_=>⟨[],rfl,eF.nil,zk _⟩) EG.kp (λ_ _ _=>S) codeAny_compStart_dict λh=>h
  rintro D C s' H' o hD I' L ⟨m,hn⟩ a3 F ⟨us,rfl,z,_⟩;refine⟨m,hn,λh' M=>⟨.ref D,H',?_,rfl,q (.ref D) H' (g.trans a3) (λa ea=>by cases ea;exact g.free hD) ⟨D,us,rfl,F,z,λb f=>by cases f⟩⟩⟩;obtain⟨f0,f1,f2,f3,f4,f5⟩:=L;exact I'.turned (t':=s'.toks) (λb o f e=>(M.2 b f).trans e) f0 f1 f3 f4 f5
 ·cases e⟩
end
theorem Bq(j:∀f u,X.H₀ a≠Z (.gF f u))(I:L2.AU X AN σ H s)(e:H a=Z (.gF o (.dK ks))):L2.AU X AN σ (B4 H a (.dK ks)) s:=by
 have g:∀{b:A1} {u:HO},H b=Z u->u≠.gF o (.dK ks)->b≠a:=λq n z=>by subst z;rw[e]at q;cases q;exact n rfl
 have h:∀{b:A1},H b=U->b≠a:=λq z=>by subst z;rw[e]at q;cases q
 refine⟨I.ok,I.os,I.bare,⟨I.base.keep,I.base.slot,λb f q n hx=>?_,I.base.there,λb xs q=>?_,λb f u q=>?_,λb ps q=>?_⟩,I.loc,I.cell,?_,λx c q=>?_,λp hp=>?_,λb f q=>?_,I.len⟩
 ·have:=I.base.free b f q n hx;rw[aD (h this)];exact this
 ·have:=I.base.tups b xs q;rw[aD (g this λz=>by cases z)];exact this
 ·have:=I.base.rP b f u q;rw[aD (λz=>by subst z;exact j _ _ q)];exact this
 ·obtain⟨m,this⟩:=I.base.wg b ps q;exact⟨m,by rw[aD (g this λz=>by cases z)];exact this⟩
 ·have:=I.free;rw[aD (h this)];exact this
 ·have:=I.mC x c q;rw[aD (h this)];exact this
 ·obtain⟨p1,p2,p3⟩:=I.pin p hp;exact⟨p1,by rw[aD (h p2)];exact p2,p3⟩
 ·have st:∀{c:A1} {w:HO},eV X.prog X.w H s.heap c w->eV X.prog X.w (B4 H a (.dK ks)) s.heap c w:=λx=>
   x.stay (λ_ _ _ r=>r) (λd r=>by rw[aD (g r λz=>by cases z)];exact r) (λd xs r=>by rw[aD (g r λz=>by cases z)];exact r) λd o' l r=>by rw[aD (g r λz=>by cases z)];exact r
  by_cases i:b=a
  ·subst i;rw[aJ]at q;cases q;exact st (I.hok _ _ e).2
  ·rw[aD i]at q;exact st (I.hok _ _ q)
theorem UA(I:L2.AU X AN σ H s)(e:H a=Z (.dK ks))(b:s.heap.get? a=Z o):L2.AU X AN σ (B4 H a (.gF o (.dK ks))) s:=by
 have:=I.write (t':=s.toks) (h':=s.heap) (x:=a) (e:=a) (o:=.gF o (.dK ks)) (by rw[e];exact True.intro) (.inl S) (λ_ _ _ z=>z) ⟨o,b⟩ ⟨b,(I.hok _ _ e).stay (λ_ _ _ r=>r) (λd r=>by rw[aD (iZ r e (by intro z;cases z))];exact r) (λd xs r=>by rw[aD (iZ r e (by intro z;cases z))];exact r) λd o' c r=>by rw[aD (iZ r e (by intro z;cases z))];exact r⟩;exact this
theorem PM(I:L2.AU X AN σ H s)(e:H a=Z (.dK ks)):∀b u,X.H₀ a≠Z (.gF b u):=λb u q=>by
 have:=I.base.rP a b u q;rw[e]at this;cases this
mutual
theorem AW.Bq{K:Au}(e:H a=Z (.gF o (.dK ks)))(hk:ks≠[]):∀{d:Dt} {v:V},AW K H d v->AW K (B4 H a (.dK ks)) d v
 |.non,_,h=>by simpa only[AW]using h
 |.bl _,_,h=>by simpa only[AW]using h
 |.int _,_,h=>by simpa only[AW]using h
 |.str _,_,h=>by simpa only[AW]using h
 |.tup ds,_,h=>by
  simp only[AW]at h ⊢;obtain⟨b,vs,e1,q,r⟩:=h;refine⟨b,vs,e1,?_,aG.Bq e hk r⟩;rcases q with (q|⟨c,q⟩)|q
  ·exact .inl (.inl (by rw[aD (λz=>by subst z;rw[e]at q;cases q)];exact q))
  ·exact .inl (.inr ⟨c,by rw[aD (λz=>by subst z;rw[e]at q;cases q)];exact q⟩)
  ·exact .inr q
 |.lst ds,_,h=>by
  simp only[AW]at h ⊢;obtain⟨b,vs,e1,q,r⟩:=h;refine⟨b,vs,e1,?_,aG.Bq e hk r⟩;rcases q with⟨c,q⟩|q
  ·exact .inl ⟨c,by rw[aD (λz=>by subst z;rw[e]at q;cases q)];exact q⟩
  ·exact .inr q
 |.emp,_,h=>by
  simp only[AW]at h ⊢;obtain⟨b,c,e1,q⟩:=h;exact⟨b,c,e1,by rw[aD (λz=>by subst z;rw[e]at q;cases q;exact hk S)];exact q⟩
theorem aG.Bq{K:Au}(e:H a=Z (.gF o (.dK ks)))(hk:ks≠[]):∀{ds:O Dt} {vs:O V},aG K H ds vs->aG K (B4 H a (.dK ks)) ds vs
 |[],_,h=>by simpa only[aG]using h
 |d::ds,_,h=>by
  simp only[aG]at h ⊢;obtain⟨v,r,e1,q,t⟩:=h;exact⟨v,r,e1,AW.Bq e hk q,aG.Bq e hk t⟩
end
def IZ(a:A1)(o:AE)(ks:O (AY×V)):It:=
 ⟨λi H=>H a=Z (.gF o (.dK ks))/\i<ks.length,λi H x H'=>H'=H/\(ks.map λk=>kV k.1)[i]?=Z x,λi H=>H a=Z (.gF o (.dK ks))/\ks.length<=i⟩
theorem RX(x:eV P w H h a (.gF o (.dK ks))){es:Array DictEntry}(b:o.data=.dict es ep):∃vs,KV ks vs/\h.DictAt (bV P w) a vs ep:=by
 obtain⟨e,_,_,vs,f,g,i,j,e2,c,d,r⟩:=x;rw[e]at e2;cases e2;rw[b]at d;cases d;exact⟨vs,f,o,es,e,c,b,r⟩
theorem Xu:∀{ks:O (AY×V)} {vs:O (AY×A0)},KV ks vs->∀{i:Nat} {p},ks[i]?=Z p->∃x,vs[i]?=Z (p.1,x)
 |_,_,.nil,i,p,q=>by simp at q
 |_,_,.cons h _,0,p,q=>by simp at q;subst q;exact⟨_,by rw[List.getElem?_cons_zero,h.1]⟩
 |_,_,.cons _ t,i+1,p,q=>by
  rw[JA]at q;obtain⟨x,hx⟩:=Xu t q;exact⟨x,by rw[JA];exact hx⟩
theorem GK(it:A1){es:Array DictEntry}(L:o.data=.dict es ep)(a3:a≠it):C5 P w K tg (IZ a o ks) [it] it (λi h=>h.IsKeyIter it a i ks.length ep) where
 mem:=by simp
 obj:=λi h st b g=>by
  have e:b=it:=by simpa using g
  subst e;obtain⟨f,e,c,d⟩:=st;exact⟨f,e,λv z=>by rw[d]at z;cases z⟩
 keep:=λi h h' st k=>st.at λf e=>k it (by simp) f e
 item:=by
  intro X B D u G i AN s σ H E I l st q;subst B D u;obtain⟨y,hi⟩:=q;obtain⟨vs,n,A⟩:=RX (I.hok _ _ y) L;have m:ks.length=vs.length:=n.length;obtain⟨x,hx⟩:=Xu n (show ks[i]?=Z ks[i] by simp[hi]);obtain⟨f0,f1,f2,f3,C,F⟩:=l it (by simp);rw[m]at st;refine wpAny_pyNext_dict_item st A hx λJ h' W p M=>?_;rw[<-m]at p;have N:L2.AU X AN σ H { s with heap:=h' }:=I.turned (t':=s.toks) (λb f g e=>(M.2 b g).trans e) f0 f1 f3 C F;obtain⟨f,e,c,d⟩:=id p;refine⟨J,rfl,Ft (s:={ s with heap:=h' }) e c d () ⟨kV (ks[i]).1,H,N,?_,⟨rfl,by rw[zS,zr hi];rfl⟩,p,λb g=>(l b g).1⟩⟩;have Q:iY (ks[i]).1 J=true:=W;rcases bA Q with⟨j,t,e2,e3⟩|⟨z,t,e2,e3⟩
  ·rw[e2,e3];exact⟨t,rfl⟩
  ·rw[e2,e3];exact⟨t,rfl⟩
 done:=by
  intro X B D u G i AN s σ H E I l st q;subst B D u;obtain⟨y,hi⟩:=q;obtain⟨vs,n,A⟩:=RX (I.hok _ _ y) L;have m:ks.length=vs.length:=n.length;obtain⟨f0,f1,f2,f3,C,F⟩:=l it (by simp);rw[m]at st;exact wpAny_pyNext_dict_end (I.ok.hd G) st A (qi ()) λh' eb=>⟨rfl,I.turned (t':=s.toks) (λb f g e=>eb b f g e) f0 f1 f3 C F⟩
 self:=λ_ _ _ _ _ st h=>wpAny_pyIter_keyiter st h
def Pq:AY->Dt
 |.inl i=>.int i
 |.inr x=>.str x
theorem Xv{k:AY}(h:D2 k):AW K H (Pq k) (kV k):=by
 cases k with
 |inl i=>unfold Pq AW;rfl
 |inr x=>unfold Pq AW;exact⟨rfl,h⟩
def CM:Bx->Y (O Dt)
 |.n AO=>Z (AO.map λp=>Pq p.1)
 |_=>U
theorem Uy(h:CM b=Z ds):∃AO,b=.n AO/\ds=AO.map λp=>Pq p.1:=by
 unfold CM at h;split at h
 ·cases h;exact⟨_,rfl,rfl⟩
 ·cases h
theorem yS(c:Hs a=Z (.gF o (.dK ks)))(b:eF K Hs AO ks):B0 K (IZ a o ks) (AO.map λp=>Pq p.1) Hs:=.of λi H s=>by
 have f:=b.len;refine⟨λd e=>?_,λe=>⟨s _ _ c,by rw[zi]at e;omega⟩⟩;rw[zS]at e;cases hp:AO[i]? with
 |none=>rw[hp]at e;cases e
 |some p=>
  rw[hp]at e;cases e;have hi:i<AO.length:=(ba.mp hp).1;refine⟨⟨s _ _ c,by omega⟩,λx H' y=>?_⟩;obtain⟨y1,y2⟩:=y;refine⟨y1,?_⟩;have h1:(ks.map (·.1))[i]?=Z p.1:=by rw[b.1,zS,hp];rfl
  rw[zS]at h1 y2;cases hk:ks[i]? with
  |none=>rw[hk]at h1;cases h1
  |some q=>
   rw[hk]at h1 y2;cases y2;have:q.1=p.1:=by simpa using h1
   show AW K H (Pq p.1) (kV q.1);rw[this];exact Xv (b.2.2 p (ZE hp))
theorem Pr{H1:Hp}(e:H1 a=Z (.dK ks))(E:aX K H1 H1 (uQ is σ++ay n U) (gW is ρ++ay n U)):aX K (B4 H1 a (.gF o (.dK ks))) (B4 H1 a (.gF o (.dK ks))) (uQ is σ++ay n U) (gW is ρ++ay n U):=by
 have kp:Kp H1 (B4 H1 a (.gF o (.dK ks))):=.dk e;have g:∀(j:Nat) c,(gW is ρ++ay n U)[j]?=Z (Z c)->pA c=false:=λj c e=>by
  by_cases s:j<is.length
  ·rw[ZI (by simp[gW];omega)]at e;unfold gW at e;rw[zS]at e;cases q:is[j]? with
   |none=>rw[q]at e;cases e
   |some i=>
    rw[q]at e;have:xW ρ i=Z c:=by simpa using e
    exact wD this
  ·rw[ZY (by simp[gW];omega),QR]at e;split at e<;>cases e
 refine⟨E.len,λj b eb=>?_,λj k c a b e h=>absurd h (by rw[g j c e];exact Zl),AV.refl _,λj c a e h=>absurd h (by rw[g j c e];exact Zl)⟩;obtain⟨v,ev,r⟩:=E.val j b eb;refine⟨v,ev,?_⟩;cases b with
 |z d=>exact AW.kp kp r
 |o ds=>have:=g j _ eb;cases this
 |m ds _=>have:=g j _ eb;cases this
 |l ds=>
  obtain⟨b,vs,e1,q,r⟩:=r;refine⟨b,vs,e1,?_,r.kp kp⟩;rcases q with q|⟨f,q⟩
  ·exact .inl (by rw[aD (iZ q e (by intro z;cases z))];exact q)
  ·exact .inr ⟨f,by rw[aD (iZ q e (by intro z;cases z))];exact q⟩
 |n ds=>
  obtain⟨b,vs,e1,q,r⟩:=r;refine⟨b,vs,e1,?_,r.kp kp⟩;by_cases p:b=a
  ·subst p;rcases q with q|⟨f,q⟩
   ·rw[e]at q;cases q;exact .inr ⟨o,aJ⟩
   ·rw[e]at q;cases q
  ·rcases q with q|⟨f,q⟩
   ·exact .inl (by rw[aD p];exact q)
   ·exact .inr ⟨f,by rw[aD p];exact q⟩
section
variable{fd:Ev->Y Bx}
def yU(fd:Ev->Y Bx):Ev->Y (O Dt):=λρ=>(fd ρ).bind CM
theorem Uz(ρ:Ev):yL gt p fe ρ []=Z []:=rfl
theorem Br(ts:AZ)(O:oM X scope cl xs is)(b7:X.calm=true)(hi:QV X iter fd)
  (Ge:∀C f d fp,Wh (uT X (xs++ts) scope cl C f d fp) tgt gt) (b5:∀C f d fp,vD (uT X (xs++ts) scope cl C f d fp) ifs p) (c4:∀C f d fp,QV (uT X (xs++ts) scope cl C f d fp) elt fe) (b4:Za is.length (is.length+ts.length) gt)
  (hs:∀x,foldedSetIterable iter X.env x=pure x:=by intro _;rfl):QV X (.ListComp elt [⟨tgt,iter,ifs,0⟩] scope pos) (eZ (yU fd) gt p fe is ts.length):=⟨λAN s σ H Q I h=>by
 obtain⟨H0,ρ,b,E,e,q⟩:=h;obtain⟨ds,L,e⟩:=AT e;split at e
 ·rename_i c3;obtain⟨out,y,e⟩:=AT e;cases e;obtain⟨bd,c6,L⟩:=AT L;obtain⟨AO,rfl,rfl⟩:=Uy L;rw[eval_ListComp];refine kl (use:=U) S hs O.clos O.kind O.names ?_;refine fX (hi.run AN s σ H (λv H1=>AV H H1/\aW X.K H1 (.n AO) v) I ⟨H0,ρ,_,E,c6,λv H1 c _ W=>⟨c,W⟩⟩) λv c ⟨v',H1,I1,rv,s01,W⟩=>?_;obtain⟨a,ks,rfl,g,F⟩:=W;cases rv;obtain⟨_,c8,vs,kv,t,es,ep,N⟩:=rZ I1.hok g;have a5:=N.1;have b9:=N.2.2.1;refine wpAny_pyIter_dict c8 (⟨t,es,N⟩:c.heap.DictAt (bV X.prog X.w) a vs ep) ?_;have b0:a<c.heap.objs.size:=zI a5;have hl:ks.length=vs.length:=kv.length;have b6:∀{H':Hp},L2.AU X AN σ H' c->∀b∈[c.heap.objs.size],mD X AN H' b:=λj b i=>by
   have e:b=c.heap.objs.size:=by simpa using i
   subst e;exact j.N7 (zk _) (j.hok.fresh (zk _))
  have b8:Heap.IsKeyIter (c.heap.push { cls:=.type "dict_keyiterator",data:=.fields #[.ref a,.int 0 0,.int vs.length 0,.int ep 0] }) c.heap.objs.size a 0 ks.length ep:=⟨_,zt _ rfl,rfl,by rw[hl];rfl⟩;rcases g with g|⟨o',g⟩
  ·
   have I2:=UA I1 g a5;have I3:L2.AU X AN σ (B4 H1 a (.gF t (.dK ks))) { c with heap:=c.heap.push { cls:=.type "dict_keyiterator",data:=.fields #[.ref a,.int 0 0,.int vs.length 0,.int ep 0] } }:=I2.kept (t':=c.toks) λb o e=>zh _ e;have d0:eF X.K (B4 H1 a (.gF t (.dK ks))) AO ks:=F.kp (.dk g);refine Ax (B:=Av) (RR:=λP C=>compPost (bi X) X.A X.xe U (EP X AN σ Q) P C) (ts:=ts) (xs:=xs) O b7 (λC f d fp=>(Ge C f d fp).run) (λC f d fp=>(b5 C f d fp).run) (λC f d fp=>(c4 C f d fp).run) b4 I3 (Pr g ((E.grow s01).caps is ts.length)) (Gb (GK c.heap.objs.size b9 (z5 b0))) b8 (b6 I2) (yS aJ d0) c3 y ?_;intro D C s' H' us l j G ⟨m,hn⟩ s2' hD' r';have a3:H' a=Z (.gF t (.dK ks)):=s2' _ _ aJ;have c5:D≠a:=λz=>by subst z;rw[aJ]at l;cases l
   have c9:H1 D=U:=by rw[aD c5]at l;exact l
   have sm:AV H1 (B4 H' a (.dK ks)):=λb u e=>by
    by_cases i:b=a
    ·subst i;rw[g]at e;cases e;exact aJ
    ·rw[aD i];exact s2' b u (by rw[aD i];exact e)
   have rr:aG X.K (B4 H' a (.dK ks)) out us:=by
    by_cases hk:ks=[]
    ·have:AO=[]:=by have:=F.len;rw[hk]at this;exact bj.mp (by simpa using this.symm)
     subst this;simp only[kA]at y;rw[Uz]at y;cases y;simpa only[aG]using r'
    ·exact aG.Bq a3 hk r'
   refine⟨m,hn,λh' J=>⟨.ref D,B4 H' a (.dK ks),?_,rfl,q _ _ (s01.trans sm) (λa ea=>by cases ea;exact s01.free c9) ⟨D,us,rfl,by rw[aD c5];exact hD',rr⟩⟩⟩;obtain⟨f0,f1,f2,f3,M,f5⟩:=G;have d1:C≠a:=λz=>by subst z;rw[a3]at f0;cases f0
   exact(Bq (PM I1 g) j a3).turned (t':=s'.toks) (λb o i e=>(J.2 b i).trans e) (by rw[aD d1];exact f0) f1 f3 M f5
  ·have d2:o'=t:=by
    have:=(I1.hok _ _ g).1;rw[a5]at this;cases this;rfl
   subst d2;have I3:L2.AU X AN σ H1 { c with heap:=c.heap.push { cls:=.type "dict_keyiterator",data:=.fields #[.ref a,.int 0 0,.int vs.length 0,.int ep 0] } }:=I1.kept (t':=c.toks) λb o e=>zh _ e;refine Ax (B:=Av) (RR:=λP C=>compPost (bi X) X.A X.xe U (EP X AN σ Q) P C) (ts:=ts) (xs:=xs) O b7 (λC f d fp=>(Ge C f d fp).run) (λC f d fp=>(b5 C f d fp).run) (λC f d fp=>(c4 C f d fp).run) b4 I3 ((E.grow s01).caps is ts.length) (Gb (GK c.heap.objs.size b9 (z5 b0))) b8 (b6 I1) (yS g F) c3 y ?_;intro D C s' H' us l j G ⟨m,hn⟩ s2' hD' r';refine⟨m,hn,λh' J=>⟨.ref D,H',?_,rfl,q _ _ (s01.trans s2') (λa ea=>by cases ea;exact s01.free l) ⟨D,us,rfl,hD',r'⟩⟩⟩;obtain⟨f0,f1,f2,f3,M,f5⟩:=G;exact j.turned (t':=s'.toks) (λb o i e=>(J.2 b i).trans e) f0 f1 f3 M f5
 ·cases e⟩
end
theorem Lg{R:Result->A2->Prop}{d:A1}{AO:O (AY×A0)}(N:A.handled=none)(hd:(d==sysModules)=false)(g:s.heap.DictAt (bV prog w) d AO ep)(W:AO.length<=AA)(S:A1)(p:d≠S)(l:A0)(q:Nat)(y:s.heap.get? S=Z { cls:=.type "list",data:=.seq #[] q })(P:∀h' tk j c',(∀b o,b≠S->s.heap.get? b=Z o->h'.get? b=Z o)->h'.get? S=Z { cls:=.type "list",dict:=none,data:=.seq j c',slots:=#[] } →
   ItemsOf (λi v=>∃k x,AO[i]?=Z (k,x)/\(bV prog w).is k v=true) j AO.length->R (.ok (.ret l)) { s with heap:=h',toks:=tk }):
  A7 (A8 prog w) A.in1 (Builtin.List.listExtendWith (.ref S) (.ref d) l)
   (λC s'=>match C with|.done f=>R (.ok f) s'|.again c'=>c'.quiet=true/\AF (A8 prog w) A c' R s') (λe s'=>R (.error e) s') s:=by
 have B:d<s.heap.objs.size:=by obtain⟨o,_,H,_⟩:=g;exact zI H
 have M:S<s.heap.objs.size:=zI y;unfold Builtin.List.listExtendWith;refine zb (Q1 (T :="dict") g.dictOf.typeIs ?_);have h1:Builtin.List.listSameRef (.ref S) (.ref d)=false:=by simp[Builtin.List.listSameRef];exact λe=>p e.symm
 simp only[h1,show(Value.type "dict"==Value.type "list")=false by decide,show(Value.type "dict"==Value.type "tuple")=false by decide,dC,zv,qf];refine zb (wpAny_pyIter_dict hd g ?_);refine zb (qB ?_);have a:=g.at' (h':=s.heap.push { cls:=.type "dict_keyiterator",data:=.fields #[.ref d,.int 0 0,.int AO.length 0,.int ep 0] }) λo e=>zh _ e;unfold Builtin.List.listLengthHint;refine zb (wpAny_specialOf (T :="dict") a.dictOf.typeIs F.slot_dict_len.lookup ?_)
 wp_delta
 refine zb (jS (T :="dict") (b:=true) a.dictOf.typeIs (by rw[isSubtype_type];kernel_rfl) ?_);show A7 _ A.in1 (typeOf (Value.ref d) >>= _) _ _ _;refine zb (Q1 (T :="dict") a.dictOf.typeIs (zd ?_));rw[zl ()];show A7 _ A.in1 (Builtin.List.listTouch (Value.ref S) >>= λ_=>again (Code.builtin "list.extend.loop" ⟨[Value.ref S,Value.ref s.heap.objs.size,l],[]⟩)) _ _ _;generalize n:s.heap.push { cls:=.type "dict_keyiterator",data:=.fields #[.ref d,.int 0 0,.int AO.length 0,.int ep 0] }=G at a ⊢;have m:G.get? S=Z { cls:=.type "list",data:=.seq #[] q }:=by
  rw[<-n];exact zh _ y
 have D:G.get? s.heap.objs.size=Z { cls:=.type "dict_keyiterator",data:=.fields #[.ref d,.int 0 0,.int AO.length 0,.int ep 0] }:=by
  rw[<-n];exact zt _ rfl
 unfold Builtin.List.listTouch;refine zb (zb (listUpdate_at m rfl (listUpdate_at (get?_update_seq m _) rfl ?_ (by show _<=_;decide) (by show _<=_;decide)) (by show _<=_;decide) (by show _<=_;decide)));have t:s.heap.objs.size≠S:=k9 M;have u:=get?_update_seq (get?_update_seq m (λx=>x.push Value.none)) (λx=>x.pop);generalize L:(G.update S (Obj.mapSeq λx=>x.push Value.none)).update S (Obj.mapSeq λx=>x.pop)=U at u;have keep:∀b,b≠S->U.get? b=G.get? b:=λb c=>by rw[<-L,JJ _ _ _ _ c,JJ _ _ _ _ c]
 have I:U.IsKeyIter s.heap.objs.size d 0 AO.length ep/\U.DictAt (bV prog w) d AO ep:=⟨⟨_,(keep _ t).trans D,rfl,rfl⟩,a.at' λo e=>(keep d p).trans e⟩;show A7 _ A.in1 (again _) _ _ { s with heap:=U };have Q:S∉[s.heap.objs.size,d]:=λh=>by
  simp only[js,kr,or_false]at h;rcases h with h|h
  ·exact t h.symm
  ·exact p h.symm
 refine zd ⟨plainId_quiet F.plain_extend_loop _,codeAny_extend_loopS (Walks.dictKeys (A:=A.in1) N s.heap.objs.size d (z5 B) AO ep).toS W S Q _ AO.length 0 { s with heap:=U } #[] _ rfl (qh _) I u (ItemsOf.nil _) λs' j c' z E J=>?_⟩;rw[Moved.eq_with z];refine P s'.heap s'.toks j c' (λb K c e=>?_) E J;have X:=zI e;refine z.heap b K (λh=>?_) ((keep b c).trans ?_)
 ·simp only[js,kr,or_false]at h;rcases h with h|h
  ·exact c h
  ·exact z5 X h
 ·rw[<-n];exact zh _ e
theorem Bt{Q:B7}{d:A1}{AO:O (AY×A0)}(y:A.handled=U)(D:(d==sysModules)=false)(j:s.heap.DictAt (bV prog w) d AO ep)(C:AO.length<=AA)(n:∀h' tk c c',(∀b o,s.heap.get? b=Z o->h'.get? b=Z o) →
   h'.get? s.heap.objs.size=Z { cls:=.type "list",dict:=U,data:=.seq c c',slots:=#[] }->ItemsOf (λi v=>∃k x,AO[i]?=Z (k,x)/\(bV prog w).is k v=true) c AO.length->Q (.ref s.heap.objs.size) { s with heap:=h',toks:=tk }):
  A7 (A8 prog w) A (call (.type "list") [.ref d]) Q E s:=by
 have f:d<s.heap.objs.size:=by obtain⟨o,_,q,_⟩:=j;exact zI q
 refine callType_codes (Q₁:=λh g=>h=.ref s.heap.objs.size/\g={ s with heap:=s.heap.push { cls:=.type "list",data:=.seq #[] } }) F.called_list (F.typeCall_list_1 _) F.entry_list_init
  (code_list_new _ ⟨rfl,rfl⟩) λh g B=>?_
 obtain⟨rfl,rfl⟩:=B;have a:(s.heap.push { cls:=.type "list",data:=.seq #[] }).get? s.heap.objs.size=Z { cls:=.type "list",data:=.seq #[] }:=zt _ rfl;have l:=j.at' (h':=s.heap.push { cls:=.type "list",data:=.seq #[] }) λo e=>zh _ e;refine⟨⟨_,a,rfl⟩,F.args_list_init_2 _ _,?_⟩;generalize G:s.heap.push { cls:=.type "list",data:=.seq #[] }=H at a l ⊢;show A7 _ _ (do let old <-Builtin.List.listItems (.ref s.heap.objs.size);Builtin.List.listUpdate (.ref s.heap.objs.size) (λ_=>#[]);letGo old.toList.reverse;Builtin.List.listExtendWith (.ref s.heap.objs.size) (.ref d) .none) _ _ { s with heap:=H };refine zb ?_;unfold Builtin.List.listItems;refine zb (wpAny_seqItems a S (zd ?_));show A7 _ _ (updateSeq s.heap.objs.size (λ_=>#[]) >>= λ_=>letGo (#[]:Array A0).toList.reverse >>= λ_=>Builtin.List.listExtendWith (.ref s.heap.objs.size) (.ref d) .none) _ _ _;refine zb (wpAny_updateSeq a S ?_);have t:=kQ (Obj.mapSeq (λ_=>(#[]:Array A0))) a rfl;have m:∀b o,b≠s.heap.objs.size->H.get? b=Z o->(H.update s.heap.objs.size (Obj.mapSeq (λ_=>(#[]:Array A0)))).get? b=Z o:=
  λb o z e=>(eW _ _ (KI z)).trans e
 refine zb (wpAny_letGo ?_);refine Lg (A:=A.in1) y D (l.at' λo e=>m d o (z5 f) e) C s.heap.objs.size (z5 f) .none _ t λh' tk c c' hk p u=>?_;exact⟨rfl,n h' tk c c' (λb o e=>hk b o (z5 (zI e)) (m b o (z5 (zI e)) (by rw[<-G];exact zh _ e))) p u⟩
theorem VE{P:Nat->A0->Prop}(val:Nat->AJ)(a:∀i v,P i v->∃t,v=.str (val i) t):CmpOf prog w A .Lt P (λi j=>decide ((val i).cps.toList<(val j).cps.toList)):=λi j b c s Q E hi d h=>by
 obtain⟨t,rfl⟩:=a i b hi;obtain⟨u,rfl⟩:=a j c d;exact richCompare_gives (op:=.Lt) (typeIs_str s _ t) (typeIs_str s _ u) F.slot_str_lt F.entry_str_lt (F.args_str_lt_2 _ _) (gives_str_lt _ _ t u) (λx=>nomatch x) h
def two(a b:AJ)(i:Nat):AJ:=if i=0 then a else b
theorem Nd{a b:AJ}{t u:Tok}(i:Nat)(v:A0)(h:(#[Value.str a t,Value.str b u])[i]?=Z v):∃t',v=.str (two a b i) t':=by
 match i,h with
 |0,h=>cases h;exact⟨t,rfl⟩
 |1,h=>cases h;exact⟨u,rfl⟩
 |_+2,h=>simp at h
theorem Xw{a b:AJ}{t u:Tok}{Q:B7}{bt:Nat->Nat->Bool}(y:A.handled=U)(d:CmpOf prog w A.in1 op (λi v=>(#[Value.str a t,Value.str b u])[i]?=Z v) bt)(h:∀h' tk,(∀c o,s.heap.get? c=Z o->h'.get? c=Z o)->Q (if bt 1 0=true then .str b u else .str a t) { s with heap:=h',toks:=tk }):
  A7 (A8 prog w) A.in1 (pyIter (.ref s.heap.objs.size)) (λit g=>∃I fp wr n P St bt,it=.ref I/\Walks prog w A.in1 I fp wr n P St/\St 0 g.heap/\(∀b∈fp,b<g.heap.objs.size)/\0<n/\CmpOf prog w A.in1 op P bt ∧
   ∀v h' tk,P (argBest bt (n-1)) v->(∀b o,b∉wr->g.heap.get? b=Z o->h'.get? b=Z o)->Q v { g with heap:=h',toks:=tk }) E
   { s with heap:=s.heap.push { cls:=.type "tuple",data:=.seq #[.str a t,.str b u] } }:=by
 have p:(s.heap.push { cls:=.type "tuple",data:=.seq #[.str a t,.str b u] }).IsTuple s.heap.objs.size #[.str a t,.str b u]:=⟨_,zt _ rfl,rfl,0,rfl⟩;refine wpAny_pyIter_tuple p ?_;have j:(s.heap.push { cls:=.type "tuple",data:=.seq #[.str a t,.str b u] }).objs.size=s.heap.objs.size+1:=qr ..;refine⟨_,[_,s.heap.objs.size],[_],_,_,_,bt,rfl,Walks.tuple (A:=A.in1) y _ s.heap.objs.size (by rw[j];exact z5 (qS _)) #[.str a t,.str b u],
  ⟨⟨_,zt _ rfl,rfl,rfl⟩,p.push _⟩,λc d=>?_,by simp,d,λv h' tk q hk=>?_⟩
 ·show c<((s.heap.push _).push _).objs.size;rw[qr,j];rcases List.mem_cons.mp d with rfl|d
  ·rw[j];exact qS _
  ·rcases List.mem_cons.mp d with rfl|d
   ·exact Qr (qS _)
   ·cases d
 ·have hold:∀c o,s.heap.get? c=Z o->h'.get? c=Z o:=λc o e=>by
   refine hk c o (λl=>?_) (zh _ (zh _ e));rcases List.mem_cons.mp l with e1|l
   ·have:=zI e;rw[e1,j]at this;exact jb _ (Nat.lt_of_succ_lt this)
   ·cases l
  have:=h h' tk hold;have x:v=if bt 1 0=true then Value.str b u else Value.str a t:=by
   have f:(#[Value.str a t,Value.str b u])[argBest bt 1]?=Z v:=q;unfold argBest argBest at f;by_cases m:bt 1 0=true
   ·rw[zl m]at f ⊢;exact(by simpa using f.symm)
   ·rw[zD m]at f ⊢;exact(by simpa using f.symm)
  rw[x];exact this
def Bu:O Bx->Y Bx
 |[.z (.str a),.z (.str b)]=>Z (.z (.str (if ad6 b a=true then b else a)))
 |_=>U
where ad6 (x y:AJ):Bool:=decide (x.cps.toList<y.cps.toList)
theorem a0(j:X.calm=true):mF X (.builtin "min") Bu:=by
 intro AN s σ H xs us Q I r h;obtain⟨bs,c,m,e,q⟩:=h;unfold Bu at e;split at e
 ·rename_i a b;cases e;obtain⟨v,w,rfl,d,g⟩:=WY m;obtain⟨rfl,h1⟩:=T6 d;obtain⟨rfl,h2⟩:=T6 g;obtain⟨u,o,rfl,i,l⟩:=AX.two r;obtain⟨t,rfl⟩:=i;obtain⟨n,rfl⟩:=l;refine call_min_two (Xw (I.ok.hd j) (VE (two a b) Nd) λh' tk kp=>?_);show EP X AN σ Q (if Bu.ad6 b a=true then _ else _) _;by_cases f:Bu.ad6 b a=true
  ·rw[zl f]at q ⊢;exact⟨.str b,H,I.kept kp,⟨_,rfl⟩,q _ H (AV.refl H) trivial g⟩
  ·rw[zD f]at q ⊢;exact⟨.str a,H,I.kept kp,⟨_,rfl⟩,q _ H (AV.refl H) trivial d⟩
 ·cases e
def Bv:O Bx->Y Bx
 |[.n AO]=>(Uc AO).bind λys=>Z (.o (ys.map Dt.str))
 |_=>U
theorem Xx(w:X.calm=true):mF X (.type "list") Bv:=by
 intro AN s σ H xs us Q I r h;obtain⟨bs,c,B,e,q⟩:=h;unfold Bv at e;split at e
 ·rename_i AO;obtain⟨ys,d,e⟩:=AT e;cases e;have p:AO.length=ys.length:=by have:=congrArg dr (uD d);simpa using this
  obtain⟨v,rfl,x⟩:=BH B;obtain⟨a,ks,rfl,z,b⟩:=x;obtain⟨u,rfl,i⟩:=BB r;cases i;obtain⟨j,t,vs,g,o,es,ep,m⟩:=rZ I.hok z;have hk:vs.map (·.1)=ys.map Sum.inr:=by rw[Rz g,b.1];exact uD d
  have C:ks.length=vs.length:=g.length;refine Bt (I.ok.hd w) t ⟨o,es,m⟩ () λh' tk n c' ext en A=>?_;have z1:=O6 hk A;have l:∀y∈ys,y.length<=AA:=aT d b.2.2;have f:=I.hok.fresh (zk s.heap.objs.size);refine⟨.ref s.heap.objs.size,_,I.laid (t':=tk) (a:=s.heap.objs.size) (o:=.lst (ys.map V.str)) ext (zk _) ?_,rfl,q _ _ (bw f) (λa ea=>by cases ea;exact f) ⟨_,_,rfl,aJ,jT l⟩⟩;refine⟨by rw[zi,<-p,<-b.len];exact j,n.toList,c',pP z1,?_⟩;rw[en]
 ·cases e
def CB(H:Hp)(a:A1):Hp:=λb=>if b=a then U else H b
theorem RZ{b:A1}(h:b≠a):CB H a b=H b:=zD h
theorem R0:CB H a a=U:=zl rfl
def DF:Bx->Bool
 |.z _=>true
 |_=>false
def FR(K:Au)(n:Nat)(G:A1->O (AY×Dt)->O Bx->Y (O (AY×Dt))):Sp:=λvs H Q _=>vs.length=n+1/\∃a ks AO AS bs c,vs=.ref a::AS/\H a=Z (.dK ks)/\eF K H AO ks/\pq K H bs AS/\bs.all DF=true/\G a AO bs=Z c/\∀H' b,AV (CB H a) H'->H' a=Z (.dK b)->eF K H' c b->Q .non H'
def Lh(n:Nat)(g:Ev->Y An):A1->O (AY×Dt)->O Bx->Y (O (AY×Dt)):=λa AO bs=>(g ((Bx.m AO (Z a)::bs).map Z++ay (n-(bs.length+1)) U)).bind λr=>match r with
 |.nx ρ=>match ρ[0]? with
  |some (Z (Bx.m kvs' (Z b)))=>if b=a then Z kvs' else U
  |_=>U
 |_=>U
theorem Pu{c:O (AY×Dt)}{bs:O Bx}(h:Lh n g a AO bs=Z c):∃ ρ,g ((Bx.m AO (Z a)::bs).map Z++ay (n-(bs.length+1)) U)=Z (.nx ρ)/\ρ[0]?=Z (Z (.m c (Z a))):=by
 obtain⟨r,er,h⟩:=AT h;cases r with
 |nx ρ=>
  dsimp only at h;split at h
  ·rename_i k b e;split at h
   ·rename_i d;cases h;subst d;exact⟨ρ,er,e⟩
   ·cases h
  ·cases h
 |rt _=>cases h
 |bk _=>cases h
 |ct _=>cases h
theorem Px{R:α->β->Prop}:∀{xs:O α} {ys:O β},AI R xs ys->∀{i:Nat} {x:α},xs[i]?=Z x->∃y,ys[i]?=Z y/\R x y:=by
 intro xs ys h
 induction h with
 |nil=>intro i x q;simp at q
 |cons r _ a=>
  intro i x q;cases i with
  |zero=>simp at q;subst q;exact⟨_,rfl,r⟩
  |succ i=>
   rw[JA]at q;obtain⟨y,y1,y2⟩:=a q;exact⟨y,by rw[JA];exact y1,y2⟩
theorem aX.startM{bs:O Bx}{AS:O V}(n:H a=Z (.dK ks))(t:eF K H AO ks)(r:pq K H bs AS)(p:bs.all DF=true):aX K (CB H a) H (L2.start N (.ref a::AS)) ((Bx.m AO (Z a)::bs).map Z++ay (N.length-(bs.length+1)) U):=by
 have u:bs.length=AS.length:=Paired.length r;have y:pq K H (.m AO (Z a)::bs) (.ref a::AS):=.cons ⟨a,ks,rfl,n,t,λb h=>by cases h;rfl⟩ r;have get:∀(i:Nat) b,((Bx.m AO (Z a)::bs).map Z++ay (N.length-(bs.length+1)) U)[i]?=Z (Z b)->(Bx.m AO (Z a)::bs)[i]?=Z b:=λi b e=>by
  by_cases hi:i<(Bx.m AO (Z a)::bs).length
  ·rw[ZI (by simpa using hi),zS]at e;cases q:(Bx.m AO (Z a)::bs)[i]? with
   |none=>rw[q]at e;cases e
   |some z=>rw[q]at e;simpa using e
  ·rw[ZY (by simp at hi ⊢;omega),QR]at e;split at e<;>cases e
 have s:∀(i:Nat) b,((Bx.m AO (Z a)::bs).map Z++ay (N.length-(bs.length+1)) U)[i]?=Z (Z b)->i≠0->loose b=false:=λi b e hi=>by
  have e2:=get i b e;cases i with
  |zero=>exact absurd S hi
  |succ j=>
   rw[JA]at e2;have:=List.all_eq_true.mp p b (ZE e2);cases b<;>first|rfl|cases this
 have l:∀c,pA c=true->loose c=true:=λc d=>by cases c<;>first|rfl|cases d
 have zero:∀(i:Nat) c,((Bx.m AO (Z a)::bs).map Z++ay (N.length-(bs.length+1)) U)[i]?=Z (Z c)->loose c=true->i=0:=λi c e d=>by
  by_cases hi:i=0
  ·exact hi
  ·rw[s i c e hi]at d;cases d
 have st:∀i v,(Value.ref a=Value.ref a)->(V.ref a::AS)[i]?=Z v->(L2.start N (.ref a::AS))[i]?=Z (Z v):=λi v _ e=>by
  have hi:i<(V.ref a::AS).length:=(ba.mp e).1;unfold L2.start;rw[ZI (by simpa using hi),zS,e];rfl
 refine⟨by unfold L2.start;simp[u],λi b e=>?_,λi j c x b e1 g _ e3 f _=>?_,λb o e=>?_,λi c x e g e2=>?_⟩
 ·obtain⟨v,e1,w⟩:=Px y (get i b e);exact⟨v,st i v S e1,w⟩
 ·rw[zero i c e1 (l c g),zero j b e3 f]
 ·by_cases f:b=a
  ·subst f;rw[R0]at e;cases e
  ·rw[RZ f]at e;exact e
 ·have hi:=zero i c e (l c g);subst hi;rw[st 0 (.ref a) S rfl]at e2;cases e2;exact R0
theorem Pi{f:A1}{k m:Nat}(F:Y9 K x qual st f fd)(S:bF N ps (aO st))(o:N.length=n)(p:ps.length=m+1)(B:∀(c:A0) (A:A5) (outer:O Env) (s:A2) (H:Hp) (E:XK),jN k (A.deeper (AK qual (aO st) s.heap.objs.size f c))->NT (Ah JT P w K mg base N qual (aO st) f c A outer s H E).Zk (gJ st) g):
  uP P w K mg base JT (k+1) f fd ps (FR K m (Lh n g)):=by
 subst o;refine F.ok S (λvs H Q E h=>by rw[p];exact h.1) λc A outer s H vs Q E z h=>?_;obtain⟨I,a,ks,AO,AS,bs,G,rfl,i,l,D,j,e,q⟩:=h;refine⟨_,(B c A outer s H E z).run,?_⟩;obtain⟨ρ,er,e0⟩:=Pu e;refine⟨CB H a,_,_,aX.startM i l D j,er,?_⟩;intro σ' H' d;obtain⟨v,ev,b,y,rfl,t,u,C⟩:=d.val 0 _ e0;have:=C a rfl;subst this;exact q H' y d.base t u
open Classical in
noncomputable def Bw(i n:Nat)(G:A1->O (AY×Dt)->O Bx->Y (O (AY×Dt)))(fs:Ev->Y (O Bx)):Ev->Y An:=λρ=>match ρ[i]? with
 |some (Z (.m AO w))=>(fs ρ).bind λbs=>if h:bs.length=n/\bs.all DF=true/\∃b,∀a,G a AO bs=Z b then Z (.nx (ρ.set i (Z (.m (Classical.choose h.2.2) w))))else U
 |_=>U
theorem Py{fs:Ev->Y (O Bx)}{r:An}(h:Bw i n G fs ρ=Z r):∃AO w bs c,ρ[i]?=Z (Z (.m AO w))/\fs ρ=Z bs/\bs.length=n/\bs.all DF=true/\(∀a,G a AO bs=Z c)/\r=.nx (ρ.set i (Z (.m c w))):=by
 unfold Bw at h;split at h
 ·rename_i AO w e;obtain⟨bs,eb,h⟩:=AT h;split at h
  ·rename_i b;cases h;exact⟨AO,w,bs,_,e,eb,b.1,b.2.1,Classical.choose_spec b.2.2,rfl⟩
  ·cases h
 ·cases h
theorem Xy{fs:Ev->Y (O Bx)}{b:O (AY×Dt)}{w:Y A1}{bs:O Bx}(e:ρ[i]?=Z (Z (.m AO w)))(eb:fs ρ=Z bs)(h:bs.length=n)(g:bs.all DF=true)(c:∀a,G a AO bs=Z b):Bw i n G fs ρ=Z (.nx (ρ.set i (Z (.m b w)))):=by
 unfold Bw;rw[e];simp only[eb,aiB];have d:bs.length=n/\bs.all DF=true/\∃b,∀a,G a AO bs=Z b:=⟨h,g,b,c⟩;rw[dif_pos d];have:=Classical.choose_spec d.2.2 0;rw[c 0]at this;injection this with this;rw[<-this]
where aiB {α β:Type} (a:α) (f:α->Y β):(Z a).bind f=f a:=rfl
theorem aX.agt{H':Hp}{B:O (AY×Dt)}{w:Y A1}{F:O (AY×V)}(E:aX K H0 H σ ρ)(h:ρ[i]?=Z (Z (.m AO w)))(hs:σ[i]?=Z (Z (.ref a)))(J:H a=Z (.dK ks))(L:AV (CB H a) H')(W:H' a=Z (.dK F))(M:eF K H' B F)(X:∀b,w=Z b->b=a):
  aX K H0 H' σ (ρ.set i (Z (.m B w))):=by
 have hi:i<ρ.length:=(ba.mp h).1;have Q:H0 a=U:=E.new i _ a h S hs;have g:∀b u,b≠a->H b=Z u->H' b=Z u:=λb u G e=>L b u (by rw[RZ G];exact e);have kp:Kp H H':=⟨λb xs e=>g b _ (iZ e J (by intro z;cases z)) e,λb ob u e=>g b _ (iZ e J (by intro z;cases z)) e⟩;refine⟨by rw[qv];exact E.len,λj y e=>?_,λj N c f y e1 C e2 e3 e4 e5=>?_,λc o e=>?_,λj c f e1 C e2=>?_⟩
 ·rcases B5 e with⟨rfl,e',_⟩|⟨G,e'⟩
  ·cases e';exact⟨_,hs,a,F,rfl,W,M,X⟩
  ·obtain⟨v,e1,t⟩:=E.val j y e';refine⟨v,e1,?_⟩;have A:∀f,v=.ref f->loose y=true->f≠a:=λf ev P z=>by
    subst z;exact G (E.own i j _ _ _ h S hs e' P (by rw[e1,ev])).symm
   cases y with
   |z d=>exact AW.kp kp t
   |l D=>
    obtain⟨f,p,rfl,q,s⟩:=t;have x:=A f S rfl;exact⟨f,p,rfl,q.imp (g _ _ x) λ⟨o,q⟩=>⟨o,g _ _ x q⟩,s.kp kp⟩
   |o D=>
    obtain⟨f,p,rfl,q,s⟩:=t;exact⟨f,p,rfl,g _ _ (A f S S) q,s.kp kp⟩
   |n D=>
    obtain⟨f,p,rfl,q,s⟩:=t;have x:=A f S rfl;exact⟨f,p,rfl,q.imp (g _ _ x) λ⟨o,q⟩=>⟨o,g _ _ x q⟩,s.kp kp⟩
   |m D _=>
    obtain⟨f,p,rfl,q,s,tt⟩:=t;exact⟨f,p,rfl,g _ _ (A f S S) q,s.kp kp,tt⟩
 ·have I:∀{j:Nat} {c:Bx},(ρ.set i (Z (.m B w)))[j]?=Z (Z c)->∃c',ρ[j]?=Z (Z c')/\(pA c=true->pA c'=true)/\(loose c=true->loose c'=true):=λ{j c} e=>by
   rcases B5 e with⟨rfl,e',_⟩|⟨_,e'⟩
   ·exact⟨_,h,λ_=>S,λ_=>S⟩
   ·exact⟨c,e',id,id⟩
  obtain⟨c',p1,p2,_⟩:=I e1;obtain⟨b2,q1,_,q3⟩:=I e3;exact E.own j N c' f b2 p1 (p2 C) e2 q1 (q3 e4) e5
 ·have e2:=E.base c o e;exact g c o (λz=>by subst z;rw[Q]at e;cases e) e2
 ·rcases B5 e1 with⟨rfl,e',_⟩|⟨_,e'⟩
  ·exact E.new _ _ f h S e2
  ·exact E.new j c f e' C e2
section
variable{fs:Ev->Y (O Bx)}{p px spos:Pos}{k:Nat}{f:A1}
theorem T1(i:Nat)(F:uP X.prog X.w X.K X.mg X.base JT k f fd ps (FR X.K n G))(B:jN k X.A)(l:Gl X x)(z:X.mg x=Z (.ref f))(hk:keepIn X.K (.ref f)=true)(M:BQ X.K fd ps [])
  (I:V7 X es fs) (hN:X.N[i]?=Z y:=by rfl) (o:Q0 X.env.scope y:=by first|exact JE rfl|exact QQ (JE S)|exact QQ (QQ S)) (hd:be y:=by decide)
  (a5:(y==("__classdict__":AJ))=false:=by decide) (Q:be x:=by decide) (he:A9 (.Name y px::es) X.env=(false,eval (.Name y px) X.env)::A9 es X.env:=by rfl) (a3:(AD pos (A9 es X.env)).any (·.1)=false:=by rfl) (hs:swapsWith (.Call (.Name x p) (.Name y px::es) [] pos) U spos.line X.env=pure false:=by rfl):
  NQ X (.Expr (.Call (.Name x p) (.Name y px::es) [] pos) spos) (Bw i n G fs):=⟨Rj (pZ (Ra F B l z hk M .nil LL (dR (fV (i:=i) hN o hd a5) I.run he) Q he a3) hs) λD σ H h=>by
 obtain⟨H0,ρ,r,E,e,q⟩:=h;obtain⟨AO,w,bs,t,c,eb,L,m,J,rfl⟩:=Py e;obtain⟨v,e1,a,ks,rfl,u,s,W⟩:=E.val i _ c;refine⟨_,e1,H0,ρ,bs,E,eb,λvs H1 b g=>?_⟩;have d:=b _ _ u;refine⟨by simp only[QE,Zp];rw[<-Paired.length g,L],a,ks,AO,vs,bs,t,by simp,d,s.kp (.of b),g,m,J a,λH' b0 j C P=>?_⟩;exact q σ H' ((E.grow b).agt c e1 d j C P W)⟩
end
def D3:Y Bool->Bool
 |some true=>true
 |_=>false
def UG(x:Dt)(ys:O Dt):Y Bool:=if(ys.all λy=>(zp y x).isSome&&decide (min (wH y) (wH x)<=60))=true then Z (ys.any λy=>D3 (zp y x))else U
def DZ(a b:Bx):Y Bx:=match a with
 |.z d=>(oO b).bind λys=>(UG d ys).bind λk=>Z (.z (.bl k))
 |_=>U
def Xz(a b:Bx):Y Bx:=match a with
 |.z d=>(oO b).bind λys=>(UG d ys).bind λk=>Z (.z (.bl (!k)))
 |_=>U
theorem Je(I:L2.AU X AN σ H s)(G:X.A.units+100<cLine){x:V}(B:AW X.K H d x)(w:At x u){ys:O Dt}(m:aG X.K H ys vs)(n:AX vs AQ){k:Bool}(hk:UG d ys=Z k):
  ∃e:A0->Bool,(∀y,y∈AQ->SeqAt.EqAt X.A.in1 s y u (e y))/\AQ.any e=k:=by
 unfold UG at hk;split at hk
 ·rename_i t;injection hk with hk;rw[ja]at t;have at_:∀(i:Nat) y,AQ[i]?=Z y->∃c,ys[i]?=Z c/\SeqAt.EqAt X.A.in1 s y u (D3 (zp c d)):=λi y j=>by
   have C:=n.length;have z:=m.length;have hi:i<AQ.length:=(ba.mp j).1;have a:i<ys.length:=by omega
   obtain⟨v,ev,D⟩:=m.get (show ys[i]?=Z ys[i] by simp[a]);obtain⟨J,o,F⟩:=n.get ev;rw[j]at o;cases o;refine⟨ys[i],by simp[a],?_⟩;have f:=t ys[i] (ku a);rw[qo]at f;obtain⟨b,p⟩:=cz.mp f.1;have:=MG I 60 (A:=X.A.in1) (qa f.2) (by rw[units_in1];omega) D B F w p;rw[p];cases b<;>exact this
  classical
  refine⟨λy=>decide (∃(i:Nat) (c:Dt),AQ[i]?=Z y/\ys[i]?=Z c/\D3 (zp c d)=true),λy j=>?_,?_⟩
  ·dsimp only;by_cases q:∃(i:Nat) (c:Dt),AQ[i]?=Z y/\ys[i]?=Z c/\D3 (zp c d)=true
   ·rw[qA q];obtain⟨i,c,h1,h2,g⟩:=q;obtain⟨c',e1,e2⟩:=at_ i y h1;rw[h2]at e1;cases e1;rw[g]at e2;exact e2
   ·rw[ZZ q];obtain⟨i,hi,l⟩:=JI j;have h1:AQ[i]?=Z y:=by rw[zr hi,l]
    obtain⟨c,e1,e2⟩:=at_ i y h1;have:D3 (zp c d)=false:=by
     cases E:D3 (zp c d)with
     |false=>rfl
     |true=>exact absurd ⟨i,c,h1,e1,E⟩ q
    rw[this]at e2;exact e2
  ·rw[<-hk,yi,Q4,Q4];constructor
   ·rintro⟨y,j,h⟩;obtain⟨i,c,h1,h2,g⟩:=qa h;exact⟨c,ZE h2,g⟩
   ·rintro⟨c,f,g⟩;obtain⟨i,hi,l⟩:=JI f;have C:=n.length;have z:=m.length;have a:i<AQ.length:=by omega
    exact⟨AQ[i],ku a,qA ⟨i,c,by simp[a],by rw[zr hi,l],g⟩⟩
 ·cases hk
theorem Pz(m:X.A.units+100<cLine):FW X (AG .In) DZ:=by
 intro AN s σ H x y v u Q I n t h;obtain⟨a,b,c,l,B,e,q⟩:=h;unfold DZ at e;split at e
 ·rename_i d;obtain⟨ys,z,e⟩:=AT e;obtain⟨k,ek,e⟩:=AT e;cases e;obtain⟨p,vs,rfl,sq,j⟩:=uE B z;cases t;rcases sq with sq|sq
  ·obtain⟨AQ,g,pl,o⟩:=I.list sq;obtain⟨f,f1,f2⟩:=Je I m l n j g ek;refine SeqAt.in_listAt f pl.isList (λw i=>f1 w (by simpa using i)) ⟨.bl k,H,I,by rw[show AQ.toArray.any f=AQ.any f by simp,f2];rfl,q _ H (AV.refl H) trivial (by simp only[aW,AW])⟩
  ·obtain⟨AQ,g,pl,o⟩:=I.tuple sq;obtain⟨f,f1,f2⟩:=Je I m l n j g ek;refine SeqAt.in_tupleAt f pl (λw i=>f1 w (by simpa using i)) ⟨.bl k,H,I,by rw[show AQ.toArray.any f=AQ.any f by simp,f2];rfl,q _ H (AV.refl H) trivial (by simp only[aW,AW])⟩
 ·cases e
theorem Os(m:X.A.units+100<cLine):FW X (AG .NotIn) Xz:=by
 intro AN s σ H x y v u Q I n t h;obtain⟨a,b,c,l,B,e,q⟩:=h;unfold Xz at e;split at e
 ·rename_i d;obtain⟨ys,z,e⟩:=AT e;obtain⟨k,ek,e⟩:=AT e;cases e;obtain⟨p,vs,rfl,sq,j⟩:=uE B z;cases t;rcases sq with sq|sq
  ·obtain⟨AQ,g,pl,o⟩:=I.list sq;obtain⟨f,f1,f2⟩:=Je I m l n j g ek;refine SeqAt.notIn_listAt f pl.isList (λw i=>f1 w (by simpa using i)) ⟨.bl (!k),H,I,by rw[show AQ.toArray.any f=AQ.any f by simp,f2];rfl,q _ H (AV.refl H) trivial (by simp only[aW,AW])⟩
  ·obtain⟨AQ,g,pl,o⟩:=I.tuple sq;obtain⟨f,f1,f2⟩:=Je I m l n j g ek;refine SeqAt.notIn_tupleAt f pl (λw i=>f1 w (by simpa using i)) ⟨.bl (!k),H,I,by rw[show AQ.toArray.any f=AQ.any f by simp,f2];rfl,q _ H (AV.refl H) trivial (by simp only[aW,AW])⟩
 ·cases e
section
variable{st:O AB}
def FY(i:Nat)(ρ:Ev):Y Ev:=match ρ[i]? with
 |some (Z (.o ds))=>Z (ρ.set i (Z (.z (.lst ds))))
 |_=>U
def EA(i:Nat)(g:Ev->Y An):Ev->Y An:=λρ=>(FY i ρ).bind g
theorem N2(h:Q9 X st g):Q9 X st (EA i g):=by
 intro AN s σ H D I q;obtain⟨H0,ρ,r,E,e,f⟩:=q;obtain⟨m,e1,e2⟩:=AT e;unfold FY at e1;split at e1
 ·rename_i ds c;cases e1;obtain⟨v,d,a,vs,rfl,b,j⟩:=E.val i _ c;obtain⟨o,l⟩:=qd I b;have kp:Kp H (B4 H a (.gF o (.lst vs))):=.lst b;refine h AN s σ _ D l ⟨H0,_,r,E.adn c S d kp ?_,e2,f⟩;simp only[aW,AW];exact⟨a,vs,rfl,.inl ⟨o,aJ⟩,j.kp kp⟩
 ·cases e1
theorem PK(h:NT X st g):NT X st (EA i g):=⟨N2 h.run⟩
end
open AutoSeq1 (wpAny_loadPart')
open SeqAt
section
variable{o:Expr}{fx:Ev->Y Bx}
end
section
variable{t:Ev->Y Bool}
def Vn(t:Ev->Y Bool)(g:Ev->Y An):Nat->Ev->Y An
 |0,_=>U
 |n+1,ρ=>(t ρ).bind λb=>if b=true then(g ρ).bind λr=>match r with
  |.nx ρ'=>Vn t g n ρ'
  |.ct ρ'=>Vn t g n ρ'
  |.bk ρ'=>Z (.nx ρ')
  |.rt b=>Z (.rt b)
  else Z (.nx ρ)
theorem XC(n:Nat)(hp:PassesOwn (bi X) X.A X.env X.xe)(l:PB X c t)(o:Q9 X body g):GI X (.While c body [] pos) (Vn t g n):=
 Rj (Vw hp l o) λD σ H q=>by
  obtain⟨H0,ρ,r,E,e,f⟩:=q;refine⟨λm σ H=>∃H0 ρ r,aX X.K H0 H σ ρ/\Vn t g m ρ=Z r/\Oo X.K H0 D r,⟨n,H0,ρ,r,E,e,f⟩,?_⟩;rintro m σ H ⟨H0,ρ,r,E,e,f⟩;cases m with
  |zero=>cases e
  |succ m=>
   obtain⟨b,eb,e⟩:=AT e;refine⟨H0,ρ,b,E,eb,λH1 h=>?_⟩;cases b with
   |false=>
    rw[zD ()]at e ⊢;cases e;exact f σ H1 (E.grow h)
   |true=>
    rw[zl rfl]at e ⊢;obtain⟨j,er,e⟩:=AT e;refine⟨λσ' H'=>∃i,i<m+1/\∃H0 ρ r,aX X.K H0 H' σ' ρ/\Vn t g i ρ=Z r/\Oo X.K H0 D r,λσ' H' z=>z,H0,ρ,j,E.grow h,er,?_⟩;cases j with
    |nx d=>exact λσ' H' a=>⟨m,qS m,H0,d,r,a,e,f⟩
    |ct d=>exact λσ' H' a=>⟨m,qS m,H0,d,r,a,e,f⟩
    |bk d=>cases e;exact λσ' H' a=>f σ' H' a
    |rt b=>cases e;exact f
theorem XD(n:Nat)(hp:PassesOwn (bi X) X.A X.env X.xe)(a:QB X c t)(b:NT X body g):NQ X (.While c body [] pos) (Vn t g n):=⟨XC n hp a.run b.run⟩
end
section
variable{h':A6}
end
section
variable{p:Pos}{fs:Ev->Y (O Bx)}
end
def GP:O Dt->Y BC
 |[]=>Z []
 |.int k::r=>(GP r).bind λks=>Z (k::ks)
 |_=>U
def FK(ρ:Ev)(i:Nat):Bx->Y An
 |.o zs=>match ρ[i]? with
  |some (Z (.o ds))=>if ds.length+zs.length<=AA then Z (.nx (ρ.set i (Z (.o (ds++zs)))))else U
  |_=>U
 |_=>U
def UJ(i:Nat)(f:Ev->Y Bx):Ev->Y An:=λρ=>(f ρ).bind (FK ρ i)
theorem UD(i:Nat){p:Pos}(he:PV X e f)(C:X.N[i]?=Z x:=by rfl)(s:Q0 X.env.scope x:=by first|exact JE rfl|exact QQ (JE S)|exact QQ (QQ S))(G:be x:=by decide)(I:(x==("__classdict__":AJ))=false:=by decide)(g:A9 [e] X.env=[(false,eval e X.env)]:=by rfl)(n:attributeBase (.Name x p) "extend" X.env (eval (.Name x p) X.env)=eval (.Name x p) X.env:=by rfl)(t:((AD cpos (A9 [e] X.env)).all (λx=>!x.1)&&(backToKw cpos (keywordEach [] X.env)).all (λx=>x.1.isSome)
   && decide ([e].length+([]:O AC).length+(if([]:O AC).isEmpty then 0 else 1)<30))=true:=by rfl)(A:(apos.endLine==cpos.line)=true:=by rfl)(hs:swapsWith (.Call (.Attribute (.Name x p) "extend" apos) [e] [] cpos) U pos.line X.env=pure false:=by rfl):
  GI X (.Expr (.Call (.Attribute (.Name x p) "extend" apos) [e] [] cpos) pos) (UJ i f):=
 Rj (pZ (yK Jn PySem.F.slot_list_extend PySem.F.type_list_extend Tz (fV (i:=i) C s G I) (dR he jc (by rw[g]<;>rfl)) n t A (by rw[g]<;>rfl) S) hs) λD σ H h=>by
  obtain⟨H0,ρ,r,E,e,q⟩:=h;obtain⟨b,eb,e⟩:=AT e;cases b with
  |o zs=>
   simp only[FK]at e;split at e
   ·rename_i ds l;split at e
    ·rename_i w;cases e;obtain⟨v,e1,a,vs,rfl,d,m⟩:=E.val i _ l;refine⟨_,e1,.inl ⟨rfl,vs,.inl (.inl d)⟩,H0,ρ,_,E,eb,λu H1 c K y=>?_⟩;have B:=E.grow c;obtain⟨b,J,rfl,z,j⟩:=y;refine⟨a,b,vs,J,rfl,rfl,c _ _ d,z,by rw[m.length,j.length];exact w,q _ _ ?_⟩;exact B.Tw l e1 (c _ _ d) ((m.kp (.of c)).append j)
    ·cases e
   ·cases e
  |_=>cases e
theorem XF(i:Nat){p:Pos}(he:QV X e f)(a:X.N[i]?=Z x:=by rfl)(c:Q0 X.env.scope x:=by first|exact JE rfl|exact QQ (JE S)|exact QQ (QQ S))(j:be x:=by decide)(l:(x==("__classdict__":AJ))=false:=by decide)(d:A9 [e] X.env=[(false,eval e X.env)]:=by rfl)(g:attributeBase (.Name x p) "extend" X.env (eval (.Name x p) X.env)=eval (.Name x p) X.env:=by rfl)(b:((AD cpos (A9 [e] X.env)).all (λx=>!x.1)&&(backToKw cpos (keywordEach [] X.env)).all (λx=>x.1.isSome)
   && decide ([e].length+([]:O AC).length+(if([]:O AC).isEmpty then 0 else 1)<30))=true:=by rfl)(h:(apos.endLine==cpos.line)=true:=by rfl)(hs:swapsWith (.Call (.Attribute (.Name x p) "extend" apos) [e] [] cpos) U pos.line X.env=pure false:=by rfl):
  NQ X (.Expr (.Call (.Attribute (.Name x p) "extend" apos) [e] [] cpos) pos) (UJ i f):=⟨UD i he.run a c j l d g b h hs⟩
section
variable{ek ev:Expr}
def HZ:Ev->Y An:=λ_=>U
theorem T0:NQ X st HZ:=⟨λD AN s σ H I q=>by
 obtain⟨H0,ρ,r,E,e,q⟩:=q;cases e⟩
def R3(f:Ev->Y Bx):Ev->Y An:=λρ=>(f ρ).bind λ_=>Z (.nx ρ)
theorem UN(he:QV X e f)(hs:swapsWith e U pos.line X.env=pure false:=by rfl):NQ X (.Expr e pos) (R3 f):=⟨Rj (pZ he.run hs) λD σ H h=>by
 obtain⟨H0,ρ,r,E,e,q⟩:=h;obtain⟨b,eb,e⟩:=AT e;cases e;exact⟨H0,ρ,b,E,eb,λv H1 a c d=>q _ _ (E.grow a)⟩⟩
end
section
variable{st:Expr}{fs:Ev->Y Bx}
def UL(a b:Bx):Y Bx:=(nD a).bind λds=>match b with
 |.z (.int i)=>if i = -1 then Z (.o ds.reverse)else U
 |_=>U
theorem UW{a c:Bx}(h:UL a b=Z c):∃ds,nD a=Z ds/\b=.z (.int (-1))/\c=.o ds.reverse:=by
 unfold UL at h;obtain⟨ds,d,h'⟩:=AT h;clear h;split at h'
 ·split at h'
  ·rename_i hi;subst hi;injection h' with h';exact⟨ds,d,rfl,h'.symm⟩
  ·cases h'
 ·cases h'
theorem No(he:QV X e f)(G:QV X st fs)(L:∀v i:A0,subscripted (.Slice U U (Z st) p2) false v i=operate [v,i] (getItem v i):=by intro _ _;with_unfolding_all rfl):QV X (.Subscript e (.Slice U U (Z st) p2) pos) (b2 UL f fs):=by
 refine⟨?_⟩;intro AN s σ H Q I h;obtain⟨H0,ρ,c,E,g,q⟩:=h;obtain⟨a,ea,g⟩:=AT g;obtain⟨b,eb,g⟩:=AT g;refine Subscript_ (fX (he.run AN s σ H (λx H1=>AV H H1/\aW X.K H1 a x) I ⟨H0,ρ,a,E,ea,λv H1 j N m=>⟨j,m⟩⟩) λv j ⟨x,H1,I1,m,sm1,BH⟩=>?_);refine wpAny_Slice ?_;rw[evalPart_none];refine zd ?_;refine zd ?_;rw[evalPart_some];refine fX (G.run AN j σ H1 (λy H2=>AV H1 H2/\aW X.K H2 b y) I1 ⟨H0,ρ,b,E.grow sm1,eb,λv H2 d M n=>⟨d,n⟩⟩) λvk d ⟨y,H2,I2,n,sm2,EO⟩=>?_;obtain⟨ds,J,rfl,rfl⟩:=UW g;have C:y=.int (-1):=by simpa only[aW,AW]using EO
 subst C;obtain⟨tk,rfl⟩:=n;obtain⟨p,vs,rfl,sq,F⟩:=(BH.same sm2).DW J;cases m;have t:L2.AU X AN σ H2 { d with heap:=d.heap.push { cls:=.type "slice",data:=.fields #[.none,.none,.int (-1) tk] } }:=I2.kept (t':=d.toks) λb D q=>zh _ q;obtain⟨AQ,r,B,u⟩:=t.list sq;show A7 (bi X) X.A (subscriptTail e (.Slice U U (Z st) p2) (.ref p) (.ref d.heap.objs.size)) (EP X AN σ Q) X.xe { d with heap:=d.heap.push { cls:=.type "slice",data:=.fields #[.none,.none,.int (-1) tk] } };refine tail_any (ops:=[.ref p,.ref d.heap.objs.size]) B.isList.typeIs list_getitem_lookup (wpAny_getItem_list_slice B.isList (Heap.IsSliceOf.new ..) .none .none (.int _ _) () ?_ (by rw[zw,<-r.length];exact u)) (L _ _);rw[PySem.W.krv_pick];have l:=t.hok.fresh (zk _);refine⟨.ref _,_,t.laid (t':=d.toks) (o:=.lst vs.reverse) (λb D q=>zh _ q) (zk _) ?_,rfl,q _ _ ((sm1.trans sm2).trans (bw l)) (λa z=>by cases z;exact(sm1.trans sm2).free l) ?_⟩
 ·exact⟨by rw[ym];exact u,AQ.reverse,0,r.reverse,zt _ rfl⟩
 ·exact⟨_,_,rfl,aJ,(aG.rev F).kp (.of (bw l))⟩
end
theorem ad{a b:Nat}(h:a≠b):@Ne A1 a b:=h
section
variable{K:Type} [DecidableEq K] {knd:KeyKind prog w K}
end
section
variable{ea eb:Expr}{p1 pos1 pos2:Pos}
end
theorem qp(xs:AZ)(is:O Nat)(a:closureFor scope X.env=pure cl:=by with_unfolding_all rfl)(c:scope.kind=.function:=by rfl)(b:scope.names.all (λy=>decide (y.2≠.cell)||(cl.lookup y.1).isNone)=true:=by rfl)(e:scope.names.all (λy=>decide (y.2=.local->scope.names.lookup y.1=Z .local))=true:=by decide +kernel)(sub:C7 X.env.cells cl:=by repeat (first|exact trivial|refine⟨rfl,?_⟩))(has:(relabel scope X.env).names.all (λy=>!(y.2==.cell||y.2==.free)||(cl.lookup y.1).isSome||scope.names.contains (y.1,.cell))=true:=by rfl)(d:Eb X scope cl xs is:=by repeat (first|exact NY|refine WP S (by first|exact .inl rfl|exact .inr S) (by first|exact .inl rfl|exact .inr S) ⟨_,rfl⟩ ?_)):oM X scope cl xs is:=Nl a c b e sub has d
theorem nG{a:Scope}(h1:a.kind=.function:=by rfl)(h2:a.isCoroutine=false:=by rfl)(d:a.isGenerator=false:=by rfl)(f:N.Nodup:=by decide +kernel)(b:N.take ps.length=ps:=by rfl)(c:∀x∈ps,a.names.lookup x=Z .local\/a.names.lookup x=Z .cell:=by decide +kernel)(e:∀y∈a.names,y.2≠.free:=by decide +kernel):bF N ps a:=⟨h1,h2,d,f,b,c,e⟩
instance:Inhabited Dt:=⟨.non⟩
theorem Ap(a:α)(f:α->Y β):(Z a).bind f=f a:=(eA a f).trans (Eq.refl _)
def hold:Y Prop->Prop
 |none=>True
 |some p=>p
def aV:Y Prop->Y Prop->Y Prop
 |none,q=>q
 |some p,U=>Z p
 |some p,Z q=>Z (p/\q)
def yr(c:Prop):Y Prop->Y Prop
 |none=>U
 |some p=>Z (c->p)
theorem aq{p q:Y Prop}(h:hold (aV p q)):hold p/\hold q:=by
 cases p with
 |none=>exact⟨trivial,h⟩
 |some p=>cases q with
  |none=>exact⟨h,trivial⟩
  |some q=>exact h
theorem gZ{c:Prop}{p:Y Prop}(h:hold (yr c p))(a:c):hold p:=by
 cases p with
 |none=>trivial
 |some p=>exact h a
structure R {α β:Type} (f:Ev->Option β) (ρ:Ev) (c:α->β) where
 v:α
 D:Option Prop
 ok:hold D->f ρ=some (c v)
abbrev zE(e:α->Dt):α->Bx:=λa=>.z (e a)
abbrev oE(e:α->Dt):O α->Bx:=λxs=>.o (xs.map e)
abbrev lE(e:α->Dt):O α->Bx:=λxs=>.l (xs.map e)
abbrev tE:Bool->Bool:=λb=>b
abbrev iE(e:α->Dt):O α->O Dt:=λxs=>xs.map e
abbrev eI:Int->Dt:=Dt.int
abbrev eB:Bool->Dt:=Dt.bl
abbrev eS:AJ->Dt:=Dt.str
abbrev eD:Dt->Dt:=λd=>d
abbrev eN:Unit->Dt:=λ_=>.non
abbrev eL(e:α->Dt):O α->Dt:=λxs=>.lst (xs.map e)
abbrev eT(e:α->Dt):O α->Dt:=λxs=>.tup (xs.map e)
abbrev eO(e:α->Dt):Y α->Dt:=λo=>match o with|none=>.non|some a=>e a
abbrev HH(a:α->Dt):α->Dt:=λx=>.tup [a x]
abbrev Zd(a:α->Dt)(b:β->Dt):α×β->Dt:=λx=>.tup [a x.1,b x.2]
abbrev DE(a:α->Dt)(b:β->Dt)(c:γ->Dt):α×β×γ->Dt:=λx=>.tup [a x.1,b x.2.1,c x.2.2]
abbrev FE(a:α->Dt)(b:β->Dt)(c:γ->Dt)(d:δ->Dt):α×β×γ×δ->Dt:=λx=>.tup [a x.1,b x.2.1,c x.2.2.1,d x.2.2.2]
structure RL {α:Type} (f:Ev->Option Bx) (ρ:Ev) (e:α->Dt) where
 v:List α
 D:Option Prop
 b:Bx
 lk:nD b=some (v.map e)
 ok:hold D->f ρ=some b
section
variable{fs:Ev->Y (O Bx)}{e:α->Dt}{e':β->Dt}
def fJ(a:R f ρ (oE e)):RL f ρ e:=⟨a.v,a.D,_,rfl,a.ok⟩
def jV(a:R f ρ (lE e)):RL f ρ e:=⟨a.v,a.D,_,rfl,a.ok⟩
def mR(a:R f ρ (zE (eL e))):RL f ρ e:=⟨a.v,a.D,_,rfl,a.ok⟩
def Lp(b:Bx)(ds:O Dt):Prop:=b=.z (.lst ds)\/b=.l ds
theorem Lp.DW(h:Lp b ds):nD b=Z ds:=by rcases h with rfl|rfl<;>rfl
theorem Lp.get{b:Bx}{ds:O Dt}{i:Nat}(h:Lp b ds)(hi:ρ[i]?=Z (Z b)):xW ρ i=Z b:=by
 rcases h with rfl|rfl<;>(unfold xW;rw[hi])
theorem gn(h:nD b=Z ds):Lp (P1.lend b) ds:=by
 cases b with
 |z d=>cases d<;>cases h;exact .inl rfl
 |l d=>cases h;exact .inr rfl
 |o d=>cases h;exact .inr rfl
 |n d=>cases h
 |m d _=>cases h
def aA(i:Nat)(c:α->Bx)(a:α)(h:xW ρ i=Z (c a)):R (gv i) ρ c:=⟨a,U,λ_=>h⟩
def bQ(i:Nat)(e:α->Dt)(a:O α)(h:Lp b (a.map e))(hi:ρ[i]?=Z (Z b)):RL (gv i) ρ e:=⟨a,U,b,h.DW,λ_=>h.get hi⟩
def yV(d:Dt)(e:α->Dt)(a:α)(h:d=e a):R (cB d) ρ (zE e):=⟨a,U,λ_=>by rw[h];rfl⟩
def Jf(a:R f ρ (zE e)):R f ρ (zE (eO e)):=⟨Z a.v,a.D,a.ok⟩
def XW:R (cB .non) ρ (zE (eO e)):=⟨U,U,λ_=>S⟩
def WC[Inhabited α](a:R f ρ (zE (eO e))):R f ρ (zE e):=⟨a.v.getD default,aV a.D (Z (a.v.isSome=true)),λh=>by
 obtain⟨h1,h2⟩:=aq h;rw[a.ok h1];have h2:a.v.isSome=true:=h2;cases b:a.v with
 |none=>rw[b]at h2;cases h2
 |some x=>rfl⟩
def XH(a:R f ρ (oE e)):R (b1 Ea f) ρ (zE (eL e)):=⟨a.v,a.D,λh=>by simp only[b1,a.ok h,Ap,Ea]⟩
def tu(a:R f ρ (zE e)):R (b1 Ea f) ρ (zE e):=⟨a.v,a.D,λh=>by simp only[b1,a.ok h,Ap,Ea]⟩
def kY(a:R fa ρ (zE eI))(b:R fb ρ (zE eI)):R (b2 fG fa fb) ρ (zE eI):=⟨a.v+b.v,aV a.D b.D,λh=>by
 obtain⟨h1,h2⟩:=aq h;simp only[b2,a.ok h1,b.ok h2,Ap,fG]⟩
def N0(a:R fa ρ (zE eI))(b:R fb ρ (zE eI)):R (b2 EB fa fb) ρ (zE eI):=⟨a.v-b.v,aV a.D b.D,λh=>by
 obtain⟨h1,h2⟩:=aq h;simp only[b2,a.ok h1,b.ok h2,Ap,i2]⟩
def FO(a b:Int):Prop:=(-18446744073709551616<a/\a<18446744073709551616)\/(-18446744073709551616<b/\b<18446744073709551616)
def IX(a:R fa ρ (zE eI))(b:R fb ρ (zE eI)):R (b2 sJ fa fb) ρ (zE eI):=⟨a.v*b.v,aV (aV a.D b.D) (Z (FO a.v b.v)),λh=>by
 obtain⟨h,c⟩:=aq h;obtain⟨h1,h2⟩:=aq h;simp only[b2,a.ok h1,b.ok h2,Ap];exact zl c⟩
def BJ(n:Int)(a : -18446744073709551616<n/\n<18446744073709551616)(b:R fb ρ (zE eI)):R (b2 sJ (cB (.int n)) fb) ρ (zE eI):=⟨n*b.v,b.D,λh=>by
 simp only[b2,b.ok h,Ap,cB];exact zl (.inl a)⟩
def R4(a:R fa ρ (zE eI))(n:Int)(b : -18446744073709551616<n/\n<18446744073709551616):R (b2 sJ fa (cB (.int n))) ρ (zE eI):=⟨a.v*n,a.D,λh=>by
 simp only[b2,a.ok h,Ap,cB];exact zl (.inr b)⟩
def XJ(a:R fa ρ (zE eI))(b:R fb ρ (zE eI)):R (b2 nP fa fb) ρ (zE eI):=⟨a.v / b.v,aV (aV a.D b.D) (Z (0<b.v/\b.v<1073741824)),λh=>by
 obtain⟨h,c⟩:=aq h;obtain⟨h1,h2⟩:=aq h;have c:0<b.v/\b.v<1073741824:=c;simp only[b2,a.ok h1,b.ok h2,Ap,i2,zl c]⟩
def lg(a:R fa ρ (zE eI))(n:Int)(b:0<n/\n<1073741824):R (b2 nP fa (cB (.int n))) ρ (zE eI):=⟨a.v / n,a.D,λh=>by
 simp only[b2,a.ok h,Ap,i2,cB,zl b]⟩
def GQ(a:R fa ρ (zE eI))(b:R fb ρ (zE eI)):R (b2 iW fa fb) ρ (zE eI):=⟨a.v%b.v,aV (aV a.D b.D) (Z (0<b.v)),λh=>by
 obtain⟨h,c⟩:=aq h;obtain⟨h1,h2⟩:=aq h;have c:0<b.v:=c;simp only[b2,a.ok h1,b.ok h2,Ap,i2,zl c]⟩
def fu(a:R fa ρ (zE eI))(n:Int)(b:0<n):R (b2 iW fa (cB (.int n))) ρ (zE eI):=⟨a.v%n,a.D,λh=>by
 simp only[b2,a.ok h,Ap,i2,cB,zl b]⟩
def TK(a b:Int)(n:Nat)(h:0<=b/\b<=1000/\a.natAbs<18446744073709551616)(c:b.toNat=n):R (b2 Fh (cB (.int a)) (cB (.int b))) ρ (zE eI):=⟨a ^ n,U,λ_=>by
 simp only[b2,Ap,cB];show((if 0<=b/\b<=1000/\a.natAbs<2 ^ 64 then Z (Dt.int (a ^ b.toNat))else U).bind λd=>Z (Bx.z d))=_;rw[zl h,c];rfl⟩
def L6(a:R fa ρ (zE eI))(b:R fb ρ (zE eI)):R (b2 FD fa fb) ρ (zE eB):=⟨decide (b.v<a.v),aV a.D b.D,λh=>by
 obtain⟨h1,h2⟩:=aq h;simp only[b2,a.ok h1,b.ok h2,Ap,i2]⟩
def Fc(a:R fa ρ (zE eI))(b:R fb ρ (zE eI)):R (b2 GW fa fb) ρ (zE eB):=⟨decide (b.v<=a.v),aV a.D b.D,λh=>by
 obtain⟨h1,h2⟩:=aq h;simp only[b2,a.ok h1,b.ok h2,Ap,i2]⟩
def XM(a:R fa ρ (zE eI))(b:R fb ρ (zE eI)):R (b2 DT fa fb) ρ (zE eB):=⟨decide (a.v<b.v),aV a.D b.D,λh=>by
 obtain⟨h1,h2⟩:=aq h;simp only[b2,a.ok h1,b.ok h2,Ap,DT]⟩
def F7(x y:AJ):Bool:=decide (x.cps.toList<y.cps.toList)
end
class B6 {α:Type} [DecidableEq α] (e:α->Dt) (n:outParam Nat):Prop where
 eq:∀a b,zp (e a) (e b)=some (decide (a=b))
 dp:∀a,wH (e a)<=n
class CH {α:Type} (e:α->Dt):Prop where
 l:∀a,zp .non (e a)=some false
 r:∀a,zp (e a) .non=some false
instance:B6 eI 1:=⟨λa b=>rfl,λa=>by simp[wH]⟩
instance:B6 eB 1:=⟨λa b=>rfl,λa=>by simp[wH]⟩
instance:B6 eS 1:=⟨λa b=>rfl,λa=>by simp[wH]⟩
instance:CH eI:=⟨λa=>rfl,λa=>rfl⟩
instance:CH eB:=⟨λa=>rfl,λa=>rfl⟩
instance:CH eS:=⟨λa=>rfl,λa=>rfl⟩
section
variable [DecidableEq α] [DecidableEq β] [DecidableEq γ] [DecidableEq δ] {e:α->Dt}{e':β->Dt}{e'':γ->Dt}{e3:δ->Dt}{m k l:Nat}
theorem BK[B6 e n]:∀xs ys:O α,jw (xs.map e) (ys.map e)=Z (decide (xs=ys))
 |[],[]=>by simp[jw]
 |[],y::ys=>by simp[jw]
 |x::xs,[]=>by simp[jw]
 |x::xs,y::ys=>by
  simp only[zo,jw,B6.eq,BK xs ys];congr 1;by_cases h:x=y<;>by_cases h':xs=ys<;>simp[h,h']
theorem BL[B6 e n]:∀xs:O α,wI (xs.map e)<=n
 |[]=>by simp[wI]
 |x::xs=>by
  have:=B6.dp (e:=e) x;have:=BL xs;simp only[zo,wI];omega
instance [B6 e n]:B6 (eL e) (n+1):=⟨λa b=>BK a b,λa=>by simp only[wH];have:=BL (e:=e) a;omega⟩
instance [B6 e n]:B6 (eT e) (n+1):=⟨λa b=>BK a b,λa=>by simp only[wH];have:=BL (e:=e) a;omega⟩
instance:CH (eL e):=⟨λa=>rfl,λa=>rfl⟩
instance:CH (eT e):=⟨λa=>rfl,λa=>rfl⟩
instance:CH (HH e):=⟨λa=>rfl,λa=>rfl⟩
instance:CH (Zd e e'):=⟨λa=>rfl,λa=>rfl⟩
instance:CH (DE e e' e''):=⟨λa=>rfl,λa=>rfl⟩
instance:CH (FE e e' e'' e3):=⟨λa=>rfl,λa=>rfl⟩
instance [B6 e n]:B6 (HH e) (n+1):=⟨λa b=>by
 simp only[zN,jw,B6.eq,ya],λa=>by
 have:=B6.dp (e:=e) a;simp only[wH,wI];omega⟩
theorem EH{a b:Nat}(h:a<=n)(h':b<=m):max a b<=max n m:=Nat.max_le.mpr ⟨Zs h (Nat.le_max_left ..),Zs h' (Nat.le_max_right ..)⟩
theorem HU{a:Nat}(h:a<=n):max a 0<=n:=Nat.max_le.mpr ⟨h,qh _⟩
instance [B6 e n] [B6 e' m]:B6 (Zd e e') (max n m+1):=⟨λa b=>by
 obtain⟨a,a'⟩:=a;obtain⟨b,b'⟩:=b;simp only[zN,jw,B6.eq,Prod.mk.injEq,eR,ya],λa=>YO (EH (B6.dp (e:=e) a.1) (HU (B6.dp (e:=e') a.2)))⟩
instance [B6 e n] [B6 e' m] [B6 e'' k]:B6 (DE e e' e'') (max n (max m k)+1):=⟨λa b=>by
 obtain⟨a,a',a2⟩:=a;obtain⟨b,b',b2⟩:=b;simp only[zN,jw,B6.eq,Prod.mk.injEq,eR,ya],λa=>YO (EH (B6.dp (e:=e) a.1) (EH (B6.dp (e:=e') a.2.1) (HU (B6.dp (e:=e'') a.2.2))))⟩
instance [B6 e n] [B6 e' m] [B6 e'' k] [B6 e3 l]:B6 (FE e e' e'' e3) (max n (max m (max k l))+1):=⟨λa b=>by
 obtain⟨a,a',a2,a3⟩:=a;obtain⟨b,b',b2,b3⟩:=b;simp only[zN,jw,B6.eq,Prod.mk.injEq,eR,ya],λa=>YO (EH (B6.dp (e:=e) a.1) (EH (B6.dp (e:=e') a.2.1) (EH (B6.dp (e:=e'') a.2.2.1) (HU (B6.dp (e:=e3) a.2.2.2)))))⟩
instance [B6 e n] [CH e]:B6 (eO e) (n+1):=⟨λa b=>by
 cases a with
 |none=>cases b with
  |none=>exact rfl
  |some b=>exact(CH.l (e:=e) b).trans (by simp)
 |some a=>cases b with
  |none=>exact(CH.r (e:=e) a).trans (by simp)
  |some b=>exact(B6.eq (e:=e) a b).trans (by simp),λa=>by
 cases a with
 |none=>show wH .non<=n+1;simp[wH]
 |some a=>exact gu (B6.dp (e:=e) a)⟩
end
section
variable{fs:Ev->Y (O Bx)}{e:α->Dt}{e':β->Dt}
def BM[DecidableEq α][B6 e n](c:n<=100)(a:R fa ρ (zE e))(b:R fb ρ (zE e)):R (b2 Bi fa fb) ρ (zE eB):=⟨decide (a.v=b.v),aV a.D b.D,λh=>by
 obtain⟨h1,h2⟩:=aq h;have:=B6.dp (e:=e) a.v;simp only[b2,a.ok h1,b.ok h2,Ap,Bi,mH,toD,zv,or_self,qf,B6.eq];rw[zl ()]⟩
def Li[DecidableEq α][B6 e n](c:n<=100)(a:R fa ρ (zE e))(b:R fb ρ (zE e)):R (b2 Kv fa fb) ρ (zE eB):=⟨!decide (a.v=b.v),aV a.D b.D,λh=>by
 obtain⟨h1,h2⟩:=aq h;have:=B6.dp (e:=e) a.v;simp only[b2,a.ok h1,b.ok h2,Ap,Kv,mH,toD,zv,or_self,qf,B6.eq];rw[zl ()]⟩
theorem lq(h:nD b=Z ds):toD b=.lst ds/\mH b=false:=by
 cases b with
 |z d=>cases d<;>cases h;exact⟨rfl,rfl⟩
 |l d=>cases h;exact⟨rfl,rfl⟩
 |o d=>cases h;exact⟨rfl,rfl⟩
 |n d=>cases h
 |m d _=>cases h
def SD[DecidableEq α][B6 e n](c:n+1<=100)(a:RL fa ρ e)(b:RL fb ρ e):R (b2 Bi fa fb) ρ (zE eB):=⟨decide (a.v=b.v),aV a.D b.D,λh=>by
 obtain⟨h1,h2⟩:=aq h;have:=B6.dp (e:=eL e) a.v;simp only[b2,a.ok h1,b.ok h2,Ap,Bi,(lq a.lk).1,(lq a.lk).2,(lq b.lk).1,(lq b.lk).2,zv,or_self,qf];have e1:=B6.eq (e:=eL e) a.v b.v;rw[zl (Zs (Nat.min_le_left _ _) (Zs (B6.dp (e:=eL e) a.v) c)),e1,Ap]⟩
def XQ[DecidableEq α][B6 e n](c:n+1<=100)(a:RL fa ρ e)(b:RL fb ρ e):R (b2 Kv fa fb) ρ (zE eB):=⟨!decide (a.v=b.v),aV a.D b.D,λh=>by
 obtain⟨h1,h2⟩:=aq h;simp only[b2,a.ok h1,b.ok h2,Ap,Kv,(lq a.lk).1,(lq a.lk).2,(lq b.lk).1,(lq b.lk).2,zv,or_self,qf];have e1:=B6.eq (e:=eL e) a.v b.v;rw[zl (Zs (Nat.min_le_left _ _) (Zs (B6.dp (e:=eL e) a.v) c)),e1,Ap]⟩
def UR(a:R fa ρ (zE (eO e)))(b:∀x,OJ (.z (e x))=false):R (b2 EV fa (cB .non)) ρ (zE eB):=⟨a.v.isNone,a.D,λh=>by
 simp only[b2,a.ok h,Ap,cB,EV];cases c:a.v with
 |none=>rfl
 |some x=>simp only[Option.isNone_some,b]⟩
def U0(a:R fa ρ (zE eB)):R (tV fa) ρ tE:=⟨a.v,a.D,λh=>by simp only[tV,a.ok h,Ap,Wc]⟩
def My(a:RL fa ρ e):R (tV fa) ρ tE:=⟨!a.v.isEmpty,a.D,λh=>by
 have:Wc a.b=Z (!(a.v.map e).isEmpty):=by
  have:=a.lk;generalize a.v.map e=ds at this
  revert this
  generalize a.b=b;intro this;cases b with
  |z d=>cases d<;>cases this;rfl
  |l d=>cases this;rfl
  |o d=>cases this;rfl
  |n d=>cases this
  |m d _=>cases this
 simp only[tV,a.ok h,Ap,this,List.isEmpty_map]⟩
def cG{g:Bx->Bx->Y Bx}(a:R (b2 g fa fb) ρ (zE eB)):R (pN g fa fb) ρ tE:=⟨a.v,a.D,λh=>by simp only[pN,a.ok h,Ap,V9]⟩
def GR(a:R p ρ tE)(b:R q ρ tE):R (DY p q) ρ tE:=⟨a.v&&b.v,aV a.D (yr (a.v=true) b.D),λh=>by
 obtain⟨h1,h2⟩:=aq h;simp only[DY,a.ok h1,Ap];cases c:a.v with
 |true=>simp only[QY,fE];exact b.ok (gZ h2 c)
 |false=>simp only[zv,qf,ft]⟩
def Jg(a:R p ρ tE)(b:R q ρ tE):R (TY p q) ρ tE:=⟨a.v||b.v,aV a.D (yr (a.v=false) b.D),λh=>by
 obtain⟨h1,h2⟩:=aq h;simp only[TY,a.ok h1,Ap];cases c:a.v with
 |true=>simp only[QY,Bool.true_or]
 |false=>simp only[zv,qf,dE];exact b.ok (gZ h2 c)⟩
def Lj(a:R p ρ tE):R (Ka p) ρ tE:=⟨!a.v,a.D,λh=>by simp only[Ka,a.ok h,Ap]⟩
def LW{c:α->Bx}(t:R p ρ tE)(a:R fa ρ c)(b:R fb ρ c):R (EW p fa fb) ρ c:=⟨if t.v=true then a.v else b.v,aV t.D (aV (yr (t.v=true) a.D) (yr (t.v=false) b.D)),λh=>by
 obtain⟨h1,h2⟩:=aq h;obtain⟨h2,e⟩:=aq h2;simp only[EW,t.ok h1,Ap];cases d:t.v with
 |true=>simp only[QY];exact a.ok (gZ h2 d)
 |false=>simp only[zv,qf];exact b.ok (gZ e d)⟩
end
section
variable{ε:Type}{fd:Ev->Y Bx}{fs:Ev->Y (O Bx)}{e:α->Dt}{e':β->Dt}{e'':γ->Dt}{e3:δ->Dt}
def XR(e:α->Dt):R (cI Ao aK) ρ (zE (eT e)):=⟨[],U,λ_=>S⟩
def T'(a:R fa ρ (zE e)):R (cI Ao (au fa aK)) ρ (zE (HH e)):=⟨a.v,a.D,λh=>by
 simp only[cI,au,aK,a.ok h,Ap];rfl⟩
def PL(a:R fa ρ (zE e))(b:R fb ρ (zE e'))(c:R fc ρ (zE e'')):R (cI Ao (au fa (au fb (au fc aK)))) ρ (zE (DE e e' e'')):=⟨(a.v,b.v,c.v),aV a.D (aV b.D c.D),λh=>by
 obtain⟨h1,h⟩:=aq h;obtain⟨h2,d⟩:=aq h;simp only[cI,au,aK,a.ok h1,b.ok h2,c.ok d,Ap];rfl⟩
def iI(e:α->Dt):R aK ρ (λxs:O α=>xs.map (zE e)):=⟨[],U,λ_=>S⟩
def jE(a:R fa ρ (zE e))(t:R fs ρ (λxs:O α=>xs.map (zE e))):R (au fa fs) ρ (λxs:O α=>xs.map (zE e)):=⟨a.v::t.v,aV a.D t.D,λh=>by
 obtain⟨h1,h2⟩:=aq h;simp only[au,a.ok h1,t.ok h2,Ap,zo]⟩
theorem Ln:∀xs:O α,HY (xs.map (zE e))=Z (xs.map e)
 |[]=>rfl
 |x::xs=>by simp only[zo,HY,Ln xs,Ap]
def mU(t:R fs ρ (λxs:O α=>xs.map (zE e)))(a:t.v.length<=1000):R (cI pC fs) ρ (oE e):=⟨t.v,t.D,λh=>by
 simp only[cI,t.ok h,Ap,pC,zi,zl a,Ln]⟩
def at'[Inhabited α](xs:O α)(i:Int):α:=(Aj xs i).getD default
def In(n:Nat)(i:Int):Prop:=-(n:Int)<=i/\i<n
theorem Jh{xs:O α}{i:Int}(h:In xs.length i):∃x,Aj xs i=Z x:=by
 obtain⟨h1,h2⟩:=h;unfold Aj DD;by_cases a:0<=i
 ·rw[zl a,zl h2];exact⟨xs[i.toNat]'(),zr ()⟩
 ·rw[zD a,zl h1];exact⟨xs[(i+xs.length).toNat]'(),zr ()⟩
theorem SH{xs:O α}{i:Int}{x:α}(h:Aj xs i=Z x):Aj (xs.map e) i=Z (e x):=by
 unfold Aj at h ⊢;rw[zi];obtain⟨j,a,h⟩:=AT h;rw[a,Ap,zS,h];rfl
theorem XS[Inhabited α]{xs:O α}{i:Int}(h:In xs.length i):Aj (xs.map e) i=Z (e (at' xs i)):=by
 obtain⟨x,hx⟩:=Jh h;rw[SH hx];unfold at';rw[hx];rfl
theorem Md{i:Int}(h:nD b=Z ds):uz b (.z (.int i))=(Aj ds i).bind λd=>Z (.z d):=by
 cases b with
 |z d=>cases d<;>cases h;rfl
 |l d=>cases h;rfl
 |o d=>cases h;rfl
 |n d=>cases h
 |m d _=>cases h
def wY[Inhabited α](a:RL fa ρ e)(b:R fb ρ (zE eI)):R (b2 uz fa fb) ρ (zE e):=⟨at' a.v b.v,aV (aV a.D b.D) (Z (In a.v.length b.v)),λh=>by
 obtain⟨h,c⟩:=aq h;obtain⟨h1,h2⟩:=aq h;simp only[b2,a.ok h1,b.ok h2,Ap,Md a.lk,XS (show In a.v.length b.v from c)]⟩
def R5[Inhabited α](a:R fa ρ (zE (eT e)))(b:R fb ρ (zE eI)):R (b2 uz fa fb) ρ (zE e):=⟨at' a.v b.v,aV (aV a.D b.D) (Z (In a.v.length b.v)),λh=>by
 obtain⟨h,c⟩:=aq h;obtain⟨h1,h2⟩:=aq h;simp only[b2,a.ok h1,b.ok h2,Ap,uz,oO,XS (show In a.v.length b.v from c)]⟩
def ch(x:AJ)(i:Int):AJ:=⟨#[(Aj x.cps.toList i).getD 0]⟩
def R6(a:R fa ρ (zE eS))(b:R fb ρ (zE eI)):R (b2 uz fa fb) ρ (zE eS):=⟨ch a.v b.v,aV (aV a.D b.D) (Z (In a.v.length b.v)),λh=>by
 obtain⟨h,c⟩:=aq h;obtain⟨h1,h2⟩:=aq h;obtain⟨x,hx⟩:=Jh (xs:=a.v.cps.toList) (i:=b.v) (show In a.v.length b.v from c);simp only[b2,a.ok h1,b.ok h2,Ap,uz,hx,ch,Option.getD_some]⟩
def Pv(a:R fa ρ (zE e))(g:α->β)(e':β->Dt)(i:Int)(h:∀x,uz (.z (e x)) (.z (.int i))=Z (.z (e' (g x)))):R (b2 uz fa (cB (.int i))) ρ (zE e'):=⟨g a.v,a.D,λb=>by
 simp only[b2,a.ok b,Ap,cB,h]⟩
def CU(xs:O α)(lo hi:Y Int):O α:=(xs.drop (HT.fZ xs.length 0 lo)).take (HT.fZ xs.length xs.length hi-HT.fZ xs.length 0 lo)
theorem R7(xs:O α)(lo hi:Y Int):C1 (xs.map e) lo hi=(CU xs lo hi).map e:=by
 unfold C1 CU;rw[zi,List.map_take,List.map_drop]
abbrev pE:Y Int->Y Int:=λo=>o
def X3:R sS ρ pE:=⟨U,U,λ_=>S⟩
def X4(a:R fa ρ (zE eI)):R (wK fa) ρ pE:=⟨Z a.v,a.D,λh=>by simp only[wK,a.ok h,Ap,GG]⟩
variable{fl fh:Ev->Y (Y Int)}
theorem NV(h:nD b=Z ds):DM b lo hi=Z (.o (C1 ds lo hi)):=by
 cases b with
 |z d=>cases d<;>cases h;rfl
 |l d=>cases h;rfl
 |o d=>cases h;rfl
 |n d=>cases h
 |m d _=>cases h
def IP(a:RL fa ρ e)(l:R fl ρ pE)(u:R fh ρ pE):R (O1 fa fl fh) ρ (oE e):=⟨CU a.v l.v u.v,aV a.D (aV l.D u.D),λh=>by
 obtain⟨h1,h⟩:=aq h;obtain⟨h2,b⟩:=aq h;simp only[O1,a.ok h1,l.ok h2,u.ok b,Ap,NV a.lk,R7]⟩
def UV(a:R fa ρ (zE (eT e)))(l:R fl ρ pE)(u:R fh ρ pE):R (O1 fa fl fh) ρ (zE (eT e)):=⟨CU a.v l.v u.v,aV a.D (aV l.D u.D),λh=>by
 obtain⟨h1,h⟩:=aq h;obtain⟨h2,b⟩:=aq h;simp only[O1,a.ok h1,l.ok h2,u.ok b,Ap,DM,R7]⟩
def IE(a:R fa ρ (zE eS))(l:R fl ρ pE)(u:R fh ρ pE):R (O1 fa fl fh) ρ (zE eS):=⟨Txt.slice a.v l.v u.v,aV a.D (aV l.D u.D),λh=>by
 obtain⟨h1,h⟩:=aq h;obtain⟨h2,b⟩:=aq h;simp only[O1,a.ok h1,l.ok h2,u.ok b,Ap,DM]⟩
def zV(n:Nat):Prop:=n<=1000000
def X5(a:R fa ρ (zE eS))(b:R fb ρ (zE eS)):R (b2 fG fa fb) ρ (zE eS):=⟨a.v++b.v,aV (aV a.D b.D) (Z (zV (a.v.length+b.v.length))),λh=>by
 obtain⟨h,c⟩:=aq h;obtain⟨h1,h2⟩:=aq h;simp only[b2,a.ok h1,b.ok h2,Ap,fG,zl (show a.v.length+b.v.length<=OD from c)]⟩
def X6(a:R fa ρ (zE (eT e)))(b:R fb ρ (zE (eT e))):R (b2 fG fa fb) ρ (zE (eT e)):=⟨a.v++b.v,aV (aV a.D b.D) (Z (zV (a.v.length+b.v.length))),λh=>by
 obtain⟨h,c⟩:=aq h;obtain⟨h1,h2⟩:=aq h;simp only[b2,a.ok h1,b.ok h2,Ap,fG,zi,zl (show a.v.length+b.v.length<=OD from c),zE,eT,ZH]⟩
theorem X7{e:Bx}{f:O Dt}(h:nD b=Z ds)(h':nD e=Z f)(c:ds.length+f.length<=OD):fG b e=Z (.o (ds++f)):=by
 cases b with
 |z d=>
  cases d<;>cases h;cases e with
  |z a=>cases a<;>cases h';exact zl c
  |l a=>cases h';exact zl c
  |o a=>cases h';exact zl c
  |n a=>cases h'
  |m a=>cases h'
 |l d=>
  cases h;cases e with
  |z a=>cases a<;>cases h';exact zl c
  |l a=>cases h';exact zl c
  |o a=>cases h';exact zl c
  |n a=>cases h'
  |m a=>cases h'
 |o d=>
  cases h;cases e with
  |z a=>cases a<;>cases h';exact zl c
  |l a=>cases h';exact zl c
  |o a=>cases h';exact zl c
  |n a=>cases h'
  |m a=>cases h'
 |n d=>cases h
 |m d _=>cases h
def BP(a:RL fa ρ e)(b:RL fb ρ e):R (b2 fG fa fb) ρ (oE e):=⟨a.v++b.v,aV (aV a.D b.D) (Z (zV (a.v.length+b.v.length))),λh=>by
 obtain⟨h,c⟩:=aq h;obtain⟨h1,h2⟩:=aq h;simp only[b2,a.ok h1,b.ok h2,Ap];rw[X7 a.lk b.lk (by rw[zi,zi];exact c)];simp only[oE,ZH]⟩
def X8(a:R fa ρ (zE eS))(b:R fb ρ (zE eI)):R (b2 sJ fa fb) ρ (zE eS):=⟨Txt.mul a.v b.v,aV (aV a.D b.D) (Z (b.v<=1000 ∧ -1000<=b.v/\a.v.length<=1000)),λh=>by
 obtain⟨h,c⟩:=aq h;obtain⟨h1,h2⟩:=aq h;simp only[b2,a.ok h1,b.ok h2,Ap];exact zl c⟩
theorem Yc(h:nD b=Z ds):gY [b]=Z (.z (.int ds.length)):=by
 cases b with
 |z d=>cases d<;>cases h;rfl
 |l d=>cases h;rfl
 |o d=>cases h;rfl
 |n d=>cases h
 |m d _=>cases h
theorem Yd(h:nD b=Z ds):oO b=Z ds:=by
 cases b with
 |z d=>cases d<;>cases h;rfl
 |l d=>cases h;rfl
 |o d=>cases h;rfl
 |n d=>cases h
 |m d _=>cases h
def B8(a:RL fa ρ e):R (cI gY (au fa aK)) ρ (zE eI):=⟨(a.v.length:Int),a.D,λh=>by
 simp only[cI,au,aK,a.ok h,Ap,Yc a.lk,zi]⟩
def Ye(a:R fa ρ (zE (eT e))):R (cI gY (au fa aK)) ρ (zE eI):=⟨(a.v.length:Int),a.D,λh=>by
 simp only[cI,au,aK,a.ok h,Ap,gY,oO,zi]⟩
def PU(a:R fa ρ (zE eS)):R (cI gY (au fa aK)) ρ (zE eI):=⟨(a.v.length:Int),a.D,λh=>by
 simp only[cI,au,aK,a.ok h,Ap,gY]⟩
def qt(a:RL fa ρ e):R (cI mK (au fa aK)) ρ (zE (eT e)):=⟨a.v,a.D,λh=>by
 simp only[cI,au,aK,a.ok h,Ap,mK,Yd a.lk]⟩
def VI(a:R fa ρ (zE (eT e))):R (cI KJ (au fa aK)) ρ (oE e):=⟨a.v,a.D,λh=>by
 simp only[cI,au,aK,a.ok h,Ap,KJ,oO]⟩
def VM(a:R fa ρ (zE eI)):R (cI WQ (au fa aK)) ρ (zE eI):=⟨if a.v<0 then -a.v else a.v,a.D,λh=>by
 simp only[cI,au,aK,a.ok h,Ap,WQ]⟩
def RS(a:R fa ρ (zE eB)):R (cI WR (au fa aK)) ρ (zE eI):=⟨if a.v=true then 1 else 0,a.D,λh=>by
 simp only[cI,au,aK,a.ok h,Ap,WR]⟩
theorem GX:∀l:O Bool,Gk (l.map eB)=Z l
 |[]=>rfl
 |a::l=>by simp only[zo,Gk,GX l,Ap]
def Lu(a:RL fa ρ eB):R (cI CC (au fa aK)) ρ (zE eB):=⟨a.v.any id,a.D,λh=>by
 simp only[cI,au,aK,a.ok h,Ap,CC,a.lk,GX]⟩
def IS(a:R fa ρ (zE eI))(b:R fb ρ (zE eI)):R (cI Ub (au fa (au fb aK))) ρ (zE eI):=⟨if b.v>a.v then b.v else a.v,aV a.D b.D,λh=>by
 obtain⟨h1,h2⟩:=aq h;simp only[cI,au,aK,a.ok h1,b.ok h2,Ap,Ub]⟩
def R1(a:R fa ρ (zE eI))(b:R fb ρ (zE eI)):R (cI WX (au fa (au fb aK))) ρ (zE eI):=⟨if b.v<a.v then b.v else a.v,aV a.D b.D,λh=>by
 obtain⟨h1,h2⟩:=aq h;simp only[cI,au,aK,a.ok h1,b.ok h2,Ap,WX]⟩
def US(P:Dt->Bool)(a:R fa ρ (zE e)):R (Gm P fa) ρ (zE eB):=⟨P (e a.v),a.D,λh=>by
 simp only[Gm,b1,a.ok h,Ap,mH,toD,zv,qf]⟩
def RY(P:Dt->Bool)(a:RL fa ρ e)(k:Bool)(hk:∀ds,P (.lst ds)=k):R (Gm P fa) ρ (zE eB):=⟨k,a.D,λh=>by
 simp only[Gm,b1,a.ok h,Ap,lq a.lk,zv,qf,hk]⟩
theorem BA:∀l:AZ,nQ (l.map eS)=Z l
 |[]=>rfl
 |a::l=>by simp only[zo,nQ,BA l,Ap]
def Xt(s:AJ)(a:RL fa ρ eS):R (b1 (KQ s) fa) ρ (zE eS):=⟨Txt.join s a.v,aV a.D (Z ((a.v.map (·.length)).sum+a.v.length*s.length<=100000)),λh=>by
 obtain⟨h,b⟩:=aq h;simp only[b1,a.ok h,Ap,KQ,a.lk,BA];exact zl b⟩
def uF(a:RL fa ρ eS):R (cI uW (au fa aK)) ρ (oE eS):=⟨aU a.v,aV a.D (Z (a.v.length<64)),λh=>by
 obtain⟨h,b⟩:=aq h;simp only[cI,au,aK,a.ok h,Ap,uW,a.lk,BA];exact zl b⟩
def OK(a:R fa ρ (zE e))(g:α->β)(e':β->Dt)(lo hi:Y Int)(c:fl ρ=Z lo)(b:fh ρ=Z hi)(h:∀x,DM (.z (e x)) lo hi=Z (.z (e' (g x)))):R (O1 fa fl fh) ρ (zE e'):=⟨g a.v,a.D,λd=>by
 simp only[O1,a.ok d,c,b,Ap,h]⟩
class C2 {α:Type} (e:α->Dt):Prop where
 f:∀a,wJ (e a)=true
instance:C2 eI:=⟨λ_=>rfl⟩
instance:C2 eB:=⟨λ_=>rfl⟩
instance:C2 eS:=⟨λ_=>rfl⟩
theorem BR[DecidableEq α][B6 e n][C2 e](x:α)(ys:O α):CF (e x) (ys.map e)=Z (decide (x∈ys)):=by
 unfold CF;rw[zl ⟨C2.f x,by rw[fT];exact List.all_eq_true.mpr λy _=>C2.f y⟩,yv];congr 1;rw[yi,Q4,decide_eq_true_iff];constructor
 ·rintro⟨y,a,h⟩;simp only[Function.comp,B6.eq]at h;by_cases e1:y=x
  ·rw[<-e1];exact a
  ·simp only[e1,k8]at h;cases h
 ·intro h;exact⟨x,h,by simp only[Function.comp,B6.eq,Kt]⟩
theorem R8(h:nD b=Z ds):EE (.z d) b=CF d ds:=by
 cases b with
 |z a=>cases a<;>cases h;cases d<;>rfl
 |l a=>cases h;cases d<;>rfl
 |o a=>cases h;cases d<;>rfl
 |n a=>cases h
 |m a=>cases h
theorem OG:EE (.z d) (.z (.tup ds))=CF d ds:=by cases d<;>rfl
def LS[DecidableEq α][B6 e n][C2 e](a:R fa ρ (zE e))(b:RL fb ρ e):R (b2 Cs fa fb) ρ (zE eB):=⟨decide (a.v∈b.v),aV a.D b.D,λh=>by
 obtain⟨h1,h2⟩:=aq h;simp only[b2,a.ok h1,b.ok h2,Ap,Cs,R8 b.lk,BR]⟩
def LA[DecidableEq α][B6 e n][C2 e](a:R fa ρ (zE e))(b:RL fb ρ e):R (b2 Wy fa fb) ρ (zE eB):=⟨!decide (a.v∈b.v),aV a.D b.D,λh=>by
 obtain⟨h1,h2⟩:=aq h;simp only[b2,a.ok h1,b.ok h2,Ap,Wy,R8 b.lk,BR]⟩
def LH[DecidableEq α][B6 e n][C2 e](a:R fa ρ (zE e))(b:R fb ρ (zE (eT e))):R (b2 Cs fa fb) ρ (zE eB):=⟨decide (a.v∈b.v),aV a.D b.D,λh=>by
 obtain⟨h1,h2⟩:=aq h;simp only[b2,a.ok h1,b.ok h2,Ap,Cs,OG,BR]⟩
end
structure AR {γ:Type} (cA:γ->List Bx->Prop) (fs:Ev->Option (List Bx)) (ρ:Ev) where
 v:γ
 D:Option Prop
 bs:List Bx
 h:cA v bs
 ok:hold D->fs ρ=some bs
section
variable{ε σ:Type}{fd:Ev->Y Bx}{fs:Ev->Y (O Bx)}{e:α->Dt}{e':β->Dt}{e'':γ->Dt}{e3:δ->Dt}
def aN:Unit->O Bx->Prop:=λ_ bs=>bs=[]
def aZ(e:α->Dt)(t:γ->O Bx->Prop):α×γ->O Bx->Prop:=λx bs=>∃r,bs=.z (e x.1)::r/\t x.2 r
def aL(e:α->Dt)(t:γ->O Bx->Prop):O α×γ->O Bx->Prop:=λx bs=>∃b r,bs=b::r/\nD b=Z (x.1.map e)/\t x.2 r
def bR:AR aN aK ρ:=⟨bv,U,[],rfl,λ_=>S⟩
def jW{t:γ->O Bx->Prop}(a:R fa ρ (zE e))(r:AR t fs ρ):AR (aZ e t) (au fa fs) ρ:=⟨(a.v,r.v),aV a.D r.D,_,⟨_,rfl,r.h⟩,λh=>by
 obtain⟨h1,h2⟩:=aq h;simp only[au,a.ok h1,r.ok h2,Ap]⟩
def fW{t:γ->O Bx->Prop}(a:RL fa ρ e)(r:AR t fs ρ):AR (aL e t) (au fa fs) ρ:=⟨(a.v,r.v),aV a.D r.D,_,⟨_,_,rfl,a.lk,r.h⟩,λh=>by
 obtain⟨h1,h2⟩:=aq h;simp only[au,a.ok h1,r.ok h2,Ap]⟩
def As{d:γ->O Bx->Prop}{c:α->Bx}{T:γ->α}{b:γ->Y Prop}(S:∀v bs,d v bs->bs.length=n/\(hold (b v)->F (bs.map lend)=Z (c (T v))))(a:AR d fs ρ):R (cP n F fs) ρ c:=⟨T a.v,aV a.D (b a.v),λh=>by
 obtain⟨h1,h2⟩:=aq h;obtain⟨e,f⟩:=S a.v a.bs a.h;simp only[cP,a.ok h1,Ap,zl e,f h2]⟩
theorem TC{bs:O Bx}{c:α->Bx}(x:R g (bs.map Z++ay (n-bs.length) U) (λr=>An.rt (c r)))(h:hold x.D):dM n g bs=Z (c x.v):=by
 unfold dM;rw[x.ok h];rfl
def Yg(xs:O α)(P:α->Y Prop):Y Prop:=Z (∀x∈xs,hold (P x))
theorem BW{fs:Ev->Y (O Dt)}{c:Ev}{g:α->O Dt}{π:α->Bool}:∀xs:O α,(∀x∈xs,∃a,gt (e x) c=Z a/\p a=Z (π x)/\(π x=true->fs a=Z (g x)))->xZ gt p fs c (xs.map e)=Z ((xs.filter π).flatMap g)
 |[],_=>rfl
 |x::xs,h=>by
  obtain⟨a,h1,h2,f⟩:=h x (ze ..);have b:=BW (g:=g) (π:=π) xs λy d=>h y (zg _ d);cases hp:π x with
  |true=>simp only[zo,xZ,h1,Ap,h2,hp,QY,f hp,b,K0,j0]
  |false=>simp only[zo,xZ,h1,Ap,h2,hp,b,K0,zv,qf]
theorem Lq{g:α->β}:∀xs:O α,xs.flatMap (λx=>[e' (g x)])=(xs.map g).map e'
 |[]=>rfl
 |x::xs=>by rw[j0,Lq xs];rfl
theorem BX{b:Ev}{g:α->β}{π:α->Bool}(xs:O α)(h:∀x∈xs,∃a,gt (e x) b=Z a/\p a=Z (π x)/\(π x=true->fe a=Z (.z (e' (g x))))):yL gt p fe b (xs.map e)=Z (((xs.filter π).map g).map e'):=by
 rw[<-Lq];exact BW xs λx hx=>let ⟨a,h1,h2,h3⟩:=h x hx;⟨a,h1,h2,λhp=>by rw[h3 hp];rfl⟩
theorem Be{b:Ev}{g:α->β}(xs:O α)(h:∀x∈xs,∃a,gt (e x) b=Z a/\fe a=Z (.z (e' (g x)))):yL gt sU fe b (xs.map e)=Z ((xs.map g).map e'):=
 (BX (π:=λ_=>true) xs λx hx=>let ⟨a,h1,h2⟩:=h x hx;⟨a,h1,rfl,λ_=>h2⟩).trans (by rw[cw.mpr λ_ _=>S])
def BZ(it:R fi ρ (iE e))(c:α->Ev)(d:∀x,gt (e x) (gW is ρ++ay n U)=Z (c x))(b:∀x,R fe (c x) (zE e')):R (eZ fi gt sU fe is n) ρ (oE e'):=⟨it.v.map λx=>(b x).v,aV (aV it.D (Z (it.v.length<=100000))) (Yg it.v λx=>(b x).D),λh=>by
 obtain⟨h,a⟩:=aq h;obtain⟨h1,h2⟩:=aq h;have a:∀x∈it.v,hold (b x).D:=a;simp only[eZ,it.ok h1,Ap,zi,zl (show it.v.length<=100000 from h2),Be it.v λx hx=>⟨c x,d x,(b x).ok (a x hx)⟩]⟩
def zW(it:R fi ρ (iE e))(a:α->Ev)(d:∀x,gt (e x) (gW is ρ++ay n U)=Z (a x))(b:∀x,R fe (a x) (zE e'))(c:∀x,(b x).D=U):R (eZ fi gt sU fe is n) ρ (oE e'):=⟨it.v.map λx=>(b x).v,aV it.D (Z (it.v.length<=100000)),λh=>by
 obtain⟨h1,h2⟩:=aq h;simp only[eZ,it.ok h1,Ap,zi,zl (show it.v.length<=100000 from h2),Be it.v λx hx=>⟨a x,d x,(b x).ok (by rw[c x];trivial)⟩]⟩
def zX(it:R fi ρ (iE e))(a:α->Ev)(f:∀x,gt (e x) (gW is ρ++ay n U)=Z (a x))(t:∀x,R p (a x) tE)(b:∀x,R fe (a x) (zE e')):R (eZ fi gt p fe is n) ρ (oE e'):=⟨(it.v.filter λx=>(t x).v).map λx=>(b x).v,aV (aV it.D (Z (it.v.length<=100000))) (Yg it.v λx=>aV (t x).D (yr ((t x).v=true) (b x).D)),λh=>by
 obtain⟨h,c⟩:=aq h;obtain⟨h1,h2⟩:=aq h;have c:∀x∈it.v,hold (aV (t x).D (yr ((t x).v=true) (b x).D)):=c;simp only[eZ,it.ok h1,Ap,zi,zl (show it.v.length<=100000 from h2),BX it.v λx hx=>⟨a x,f x,(t x).ok (aq (c x hx)).1,λd=>(b x).ok (gZ (aq (c x hx)).2 d)⟩]⟩
def Ca(it:R fi ρ (iE e))(a:α->Ev)(f:∀x,gt (e x) (gW is ρ++ay n U)=Z (a x))(t:∀x,R p (a x) tE)(b:∀x,R fe (a x) (zE e'))(d:∀x,(t x).D=U)(c:∀x,(b x).D=U):R (eZ fi gt p fe is n) ρ (oE e'):=⟨(it.v.filter λx=>(t x).v).map λx=>(b x).v,aV it.D (Z (it.v.length<=100000)),λh=>by
 obtain⟨h1,h2⟩:=aq h;simp only[eZ,it.ok h1,Ap,zi,zl (show it.v.length<=100000 from h2),BX it.v λx hx=>⟨a x,f x,(t x).ok (by rw[d x];trivial),λ_=>(b x).ok (by rw[c x];trivial)⟩]⟩
def zy(a:RL fa ρ e):R (JV fa) ρ (iE e):=⟨a.v,a.D,λh=>by
 have:Z7 a.b=Z (a.v.map e):=by
  have:=a.lk
  revert this
  generalize a.b=b;generalize a.v.map e=ds;intro this;cases b with
  |z d=>cases d<;>cases this;rfl
  |l d=>cases this;rfl
  |o d=>cases this;rfl
  |n d=>cases this
  |m d _=>cases this
 simp only[JV,a.ok h,Ap,this]⟩
def L5(a:R fa ρ (zE (eT e))):R (JV fa) ρ (iE e):=⟨a.v,a.D,λh=>by simp only[JV,a.ok h,Ap,Z7]⟩
def U3(a:R fa ρ (oE e)):R (Rv fa) ρ (iE e):=⟨a.v,a.D,λh=>by simp only[Rv,a.ok h,Ap,Wm]⟩
def IH(a:R fa ρ (zE (eT e))):R (Rv fa) ρ (iE e):=⟨a.v,a.D,λh=>by simp only[Rv,a.ok h,Ap,Wm]⟩
def rng(i:Int)(n:Nat):O Int:=(bq n).map λk:Nat=>i+(k:Int)
theorem R9(i:Int)(n:Nat):Ib i n=(rng i n).map eI:=by
 unfold Ib rng;rw[ZT];rfl
def Rg(j:Int):Prop:=-4611686018427387904<=j/\j<4611686018427387904
def Lr(a:R fa ρ (zE eI)):R (T9 (au fa aK)) ρ (iE eI):=⟨rng 0 a.v.toNat,aV a.D (Z (Rg a.v)),λh=>by
 obtain⟨h,b⟩:=aq h;simp only[T9,au,aK,a.ok h,Ap];show(if -(2 ^ 62)<=a.v/\a.v<2 ^ 62 then Z (Ib 0 a.v.toNat)else U)=_;exact(zl b).trans (by rw[R9])⟩
def SI(n:Int)(m:Nat)(b:n.toNat=m)(a:Rg n):R (T9 (au (cB (.int n)) aK)) ρ (iE eI):=⟨rng 0 m,U,λ_=>by
 simp only[T9,au,aK,Ap,cB];show(if -(2 ^ 62)<=n/\n<2 ^ 62 then Z (Ib 0 n.toNat)else U)=_;exact(zl a).trans (by rw[R9,b])⟩
end
section
variable{ε σ τ:Type}{fd:Ev->Y Bx}{fs:Ev->Y (O Bx)}{e:α->Dt}{e':β->Dt}{k:Ev->Y An}{cO:γ->An}
theorem gU{ρ':Ev}(h:g1 ρ=Z (.nx ρ')):aF g1 k ρ=k ρ':=by
 unfold aF;rw[h];rfl
def bD(x:R (aF g (aF g1 k)) ρ cO):R (aF (aF g g1) k) ρ cO:=⟨x.v,x.D,λh=>by
 rw[<-x.ok h];unfold aF;cases g ρ with
 |none=>rfl
 |some o=>cases o<;>rfl⟩
def cF(x:R k ρ cO):R (aF gj k) ρ cO:=⟨x.v,x.D,λh=>x.ok h⟩
def bJ(x:γ)(h:cO x=.nx (kill is ρ)):R (dN is) ρ cO:=⟨x,U,λ_=>by rw[h];rfl⟩
def gq{c:α->Bx}(inj:α->γ)(a:R f ρ c)(h:∀x,cO (inj x)=.rt (c x))(d:∀x,Wg (c x)=Z (.rt (c x))):R (aF (jR f) k) ρ cO:=⟨inj a.v,a.D,λb=>by
 have:jR f ρ=Z (.rt (c a.v)):=by unfold jR;rw[a.ok b,Ap,d]
 unfold aF;rw[this,h];rfl⟩
def Cd{c:α->Bx}(i:Nat)(inj:α->γ)(a:α)(hi:ρ[i]?=Z (Z (c a)))(h:∀x,cO (inj x)=.rt (c x))(b:∀x,Wg (c x)=Z (.rt (c x))):R (aF (zm i) k) ρ cO:=⟨inj a,U,λd=>by
 have:zm i ρ=Z (.rt (c a)):=by unfold zm;rw[hi];exact b a
 unfold aF;rw[this,h];rfl⟩
def bW{c:α->Bx}(i:Nat)(a:R f ρ c)(d:∀x,Z0 ρ i (c x)=Z (ρ.set i (Z (c x))))(K:∀x,R k (ρ.set i (Z (c x))) cO):R (aF (B1 i f) k) ρ cO:=⟨(K a.v).v,aV a.D (K a.v).D,λb=>by
 obtain⟨h1,h2⟩:=aq b;rw[gU (ρ':=ρ.set i (Z (c a.v))) (by unfold B1;rw[a.ok h1,Ap,d,Ap])];exact(K a.v).ok h2⟩
def M3(a:R f ρ (zE e))(b:α->Ev)(d:∀x,gt (e x) ρ=Z (b x))(K:∀x,R k (b x) cO):R (aF (FA gt f) k) ρ cO:=⟨(K a.v).v,aV a.D (K a.v).D,λc=>by
 obtain⟨h1,h2⟩:=aq c;rw[gU (ρ':=b a.v) (by unfold FA;rw[a.ok h1,Ap];simp only[d,Ap])];exact(K a.v).ok h2⟩
def Sd(i:Nat)(xs:O α)(hi:ρ[i]?=Z (Z (.o (xs.map e))))(a:R f ρ (zE e))(K:∀ys:O α,R k (ρ.set i (Z (.o (ys.map e)))) cO):R (aF (Io i f) k) ρ cO:=⟨(K (xs++[a.v])).v,aV (aV a.D (Z (zV xs.length))) (K (xs++[a.v])).D,λb=>by
 obtain⟨h1,c⟩:=aq b;obtain⟨h1,h2⟩:=aq h1;have h2:xs.length<=1000000:=h2;rw[gU (ρ':=ρ.set i (Z (.o ((xs++[a.v]).map e)))) (by
  unfold Io;rw[a.ok h1,Ap];simp only[Wj,hi,zi,ZH,zo,kA];rw[zl (kC h2 ())])]
 exact(K _).ok c⟩
def tB(t:R p ρ tE)(a:R (aF g1 k) ρ cO)(b:R (aF g2 k) ρ cO):R (aF (Aq p g1 g2) k) ρ cO:=⟨if t.v=true then a.v else b.v,aV t.D (aV (yr (t.v=true) a.D) (yr (t.v=false) b.D)),λf=>by
 obtain⟨h1,h2⟩:=aq f;obtain⟨h2,e⟩:=aq h2;have e1:∀c,t.v=c->aF (Aq p g1 g2) k ρ=aF (if c=true then g1 else g2) k ρ:=λc g=>by
  unfold aF Aq;rw[t.ok h1,Ap,g];cases c<;>rfl
 cases d:t.v with
 |true=>rw[e1 true d];simp only[QY];exact a.ok (gZ h2 d)
 |false=>rw[e1 false d];simp only[zv,qf];exact b.ok (gZ e d)⟩
def GZ(E:σ->Ev)(t:R p ρ tE)(a:R g1 ρ (λs=>An.nx (E s)))(b:R g2 ρ (λs=>An.nx (E s)))(K:∀s,R k (E s) cO):R (aF (Aq p g1 g2) k) ρ cO:=⟨(K (if t.v=true then a.v else b.v)).v,aV (aV t.D (aV (yr (t.v=true) a.D) (yr (t.v=false) b.D))) (K (if t.v=true then a.v else b.v)).D,λd=>by
 obtain⟨h,e⟩:=aq d;obtain⟨h1,h2⟩:=aq h;obtain⟨h2,f⟩:=aq h2;rw[gU (ρ':=E (if t.v=true then a.v else b.v)) (by
  unfold Aq;rw[t.ok h1,Ap];cases c:t.v with
  |true=>simp only[QY];exact a.ok (gZ h2 c)
  |false=>simp only[zv,qf];exact b.ok (gZ f c))]
 exact(K _).ok e⟩
def jX(step:σ->α->σ)(P:σ->α->Y Prop):O α->σ->Prop
 |[],_=>True
 |x::xs,s=>hold (P s x)/\jX step P xs (step s x)
theorem wZ{gb:Ev->Y An}(E:σ->Ev)(a:σ->α->Ev)(b:∀s x,gt (e x) (E s)=Z (a s x))(body:∀s x,R gb (a s x) (λs=>An.nx (E s))):∀(xs:O α) (s:σ),jX (λs x=>(body s x).v) (λs x=>(body s x).D) xs s->oK gt gb (xs.map e) (E s)=Z (.nx (E (xs.foldl (λs x=>(body s x).v) s)))
 |[],s,_=>rfl
 |x::xs,s,h=>by
  simp only[zo,oK,b,Ap,(body s x).ok h.1,Qb];exact wZ E a b body xs _ h.2
def Ce(E:σ->Ev)(a:σ)(c:ρ=E a)(it:R fi ρ (iE e))(b:σ->α->Ev)(g:∀s x,gt (e x) (E s)=Z (b s x))(body:∀s x,R gb (b s x) (λs=>An.nx (E s)))(K:∀s,R k (E s) cO):R (aF (qj fi gt gb) k) ρ cO:=⟨(K (it.v.foldl (λs x=>(body s x).v) a)).v,aV (aV it.D (Z (jX (λs x=>(body s x).v) (λs x=>(body s x).D) it.v a))) (K (it.v.foldl (λs x=>(body s x).v) a)).D,λd=>by
 obtain⟨h,f⟩:=aq d;obtain⟨h1,h2⟩:=aq h;rw[gU (ρ':=E (it.v.foldl (λs x=>(body s x).v) a)) (by
  unfold qj;rw[it.ok h1,Ap];subst c;exact wZ E b g body it.v a h2)]
 exact(K _).ok f⟩
def Sl(E:σ->Ev)(a:σ)(f:ρ=E a)(it:R fi ρ (iE e))(b:σ->α->Ev)(i:∀s x,gt (e x) (E s)=Z (b s x))(body:∀s x,R gb (b s x) (λs=>An.nx (E s)))(d:∀s x,(body s x).D=U)(K:∀s,R k (E s) cO):R (aF (qj fi gt gb) k) ρ cO:=⟨(K (it.v.foldl (λs x=>(body s x).v) a)).v,aV it.D (K (it.v.foldl (λs x=>(body s x).v) a)).D,λg=>by
 obtain⟨h1,h⟩:=aq g;have h2:∀(xs:O α) (s:σ),jX (λs x=>(body s x).v) (λs x=>(body s x).D) xs s:=λxs=>by
  induction xs with
  |nil=>intro s;trivial
  |cons x xs c=>intro s;exact⟨by show hold (body s x).D;rw[d s x];trivial,c _⟩
 rw[gU (ρ':=E (it.v.foldl (λs x=>(body s x).v) a)) (by
  unfold qj;rw[it.ok h1,Ap];subst f;exact wZ E b i body it.v a (h2 _ _))]
 exact(K _).ok h⟩
inductive j9 (σ τ:Type) where
 |nx (s:σ)|rt (r:τ)|bk (s:σ)|ct (s:σ)
def cC(E:σ->Ev)(c:τ->Bx):j9 σ τ->An
 |.nx s=>.nx (E s)
 |.rt r=>.rt (c r)
 |.bk s=>.bk (E s)
 |.ct s=>.ct (E s)
def jr(step:σ->α->j9 σ τ):O α->σ->j9 σ τ
 |[],s=>.nx s
 |x::xs,s=>match step s x with
  |.nx s'=>jr step xs s'
  |.ct s'=>jr step xs s'
  |.bk s'=>.nx s'
  |.rt r=>.rt r
def nT(step:σ->α->j9 σ τ)(P:σ->α->Y Prop):O α->σ->Prop
 |[],_=>True
 |x::xs,s=>hold (P s x)/\match step s x with
  |.nx s'=>nT step P xs s'
  |.ct s'=>nT step P xs s'
  |.bk _=>True
  |.rt _=>True
theorem zY{c:τ->Bx}(E:σ->Ev)(a:σ->α->Ev)(b:∀s x,gt (e x) (E s)=Z (a s x))(body:∀s x,R gb (a s x) (cC E c)):∀(xs:O α) (s:σ),nT (λs x=>(body s x).v) (λs x=>(body s x).D) xs s->oK gt gb (xs.map e) (E s)=Z (cC E c (jr (λs x=>(body s x).v) xs s))
 |[],s,_=>rfl
 |x::xs,s,h=>by
  obtain⟨h1,h2⟩:=h;dsimp only at h2;simp only[zo,oK,b,Ap,(body s x).ok h1,jr]
  revert h2
  cases(body s x).v with
  |nx s'=>intro h2;exact zY E a b body xs s' h2
  |ct s'=>intro h2;exact zY E a b body xs s' h2
  |bk s'=>intro _;rfl
  |rt r=>intro _;rfl
theorem w6(step:σ->α->j9 σ τ):∀(xs:O α) (s:σ),(∃s',jr step xs s=.nx s')\/∃r,jr step xs s=.rt r
 |[],s=>.inl ⟨s,rfl⟩
 |x::xs,s=>by
  unfold jr;cases step s x with
  |nx s'=>exact w6 step xs s'
  |ct s'=>exact w6 step xs s'
  |bk s'=>exact .inl ⟨s',rfl⟩
  |rt r=>exact .inr ⟨r,rfl⟩
def BI(r:j9 σ τ)(inj:τ->γ)(K:σ->γ):γ:=match r with
 |.rt r=>inj r
 |.nx s=>K s
 |.bk s=>K s
 |.ct s=>K s
def xq(r:j9 σ τ)(K:σ->Prop):Prop:=match r with
 |.rt _=>True
 |.nx s=>K s
 |.bk s=>K s
 |.ct s=>K s
def Ji(r:j9 σ τ)(K:σ->Y Prop):Y Prop:=Z (xq r λs=>hold (K s))
def Mn{c:τ->Bx}(E:σ->Ev)(a:σ)(g:ρ=E a)(it:R fi ρ (iE e))(b:σ->α->Ev)(j:∀s x,gt (e x) (E s)=Z (b s x))(body:∀s x,R gb (b s x) (cC E c))(inj:τ->γ)(f:∀r,cO (inj r)=.rt (c r))(K:∀s,R k (E s) cO):R (aF (qj fi gt gb) k) ρ cO:=⟨BI (jr (λs x=>(body s x).v) it.v a) inj λs=>(K s).v,aV (aV it.D (Z (nT (λs x=>(body s x).v) (λs x=>(body s x).D) it.v a))) (Ji (jr (λs x=>(body s x).v) it.v a) λs=>(K s).D),λi=>by
 obtain⟨h,d⟩:=aq i;obtain⟨h1,h2⟩:=aq h;have e1:qj fi gt gb ρ=Z (cC E c (jr (λs x=>(body s x).v) it.v a)):=by
  unfold qj;rw[it.ok h1,Ap];subst g;exact zY E b j body it.v a h2
 rcases w6 (λs x=>(body s x).v) it.v a with⟨s',es⟩|⟨r,es⟩
 ·rw[es]at e1 d ⊢;rw[gU e1];exact(K s').ok d
 ·rw[es]at e1 ⊢;show aF (qj fi gt gb) k ρ=Z (cO (inj r));unfold aF;rw[e1,f];rfl⟩
theorem ZB(h:ρ[i]?=Z (Z (.l ds))):rK i gt gb ρ=oK gt gb ds ρ:=by unfold rK;rw[h]
theorem OU(h:ρ[i]?=Z (Z (.z (.tup ds)))):rK i gt gb ρ=oK gt gb ds ρ:=by unfold rK;rw[h];rfl
theorem NG(h:ρ[i]?=Z (Z (.z (.lst ds)))):rK i gt gb ρ=oK gt gb ds ρ:=by unfold rK;rw[h];rfl
theorem Yh(hp:Lp b ds)(h:ρ[i]?=Z (Z b)):rK i gt gb ρ=oK gt gb ds ρ:=by
 rcases hp with rfl|rfl
 ·exact NG h
 ·exact ZB h
def TH(i:Nat){ρ':Ev}(xs:O α)(c:rK i gt gb ρ=oK gt gb (xs.map e) ρ')(E:σ->Ev)(a:σ)(d:ρ'=E a)(b:σ->α->Ev)(h:∀s x,gt (e x) (E s)=Z (b s x))(body:∀s x,R gb (b s x) (λs=>An.nx (E s)))(K:∀s,R k (E s) cO):R (aF (rK i gt gb) k) ρ cO:=⟨(K (xs.foldl (λs x=>(body s x).v) a)).v,aV (Z (jX (λs x=>(body s x).v) (λs x=>(body s x).D) xs a)) (K (xs.foldl (λs x=>(body s x).v) a)).D,λf=>by
 obtain⟨h2,g⟩:=aq f;rw[gU (ρ':=E (xs.foldl (λs x=>(body s x).v) a)) (by
  rw[c,d];exact wZ E b h body xs a h2)]
 exact(K _).ok g⟩
def Sg{c:τ->Bx}(i:Nat){ρ':Ev}(xs:O α)(f:rK i gt gb ρ=oK gt gb (xs.map e) ρ')(E:σ->Ev)(a:σ)(h:ρ'=E a)(b:σ->α->Ev)(l:∀s x,gt (e x) (E s)=Z (b s x))(body:∀s x,R gb (b s x) (cC E c))(inj:τ->γ)(g:∀r,cO (inj r)=.rt (c r))(K:∀s,R k (E s) cO):R (aF (rK i gt gb) k) ρ cO:=⟨BI (jr (λs x=>(body s x).v) xs a) inj λs=>(K s).v,aV (Z (nT (λs x=>(body s x).v) (λs x=>(body s x).D) xs a)) (Ji (jr (λs x=>(body s x).v) xs a) λs=>(K s).D),λj=>by
 obtain⟨h2,d⟩:=aq j;have e1:rK i gt gb ρ=Z (cC E c (jr (λs x=>(body s x).v) xs a)):=by
  rw[f,h];exact zY E b l body xs a h2
 rcases w6 (λs x=>(body s x).v) xs a with⟨s',es⟩|⟨r,es⟩
 ·rw[es]at e1 d ⊢;rw[gU e1];exact(K s').ok d
 ·rw[es]at e1 ⊢;show aF (rK i gt gb) k ρ=Z (cO (inj r));unfold aF;rw[e1,g];rfl⟩
class Ky {κ:Type} (c:κ->AY):Prop where
 inj:∀a b,c a=c b->a=b
abbrev kS:AJ->AY:=Sum.inr
abbrev kI:Int->AY:=Sum.inl
instance:Ky kS:=⟨λ_ _ h=>by cases h;rfl⟩
instance:Ky kI:=⟨λ_ _ h=>by cases h;rfl⟩
abbrev mE(e:α->Dt):O (AJ×α)->Bx:=λm=>.m (m.map λq=>(kS q.1,e q.2)) U
abbrev nE(e:α->Dt):O (AJ×α)->Bx:=λm=>.n (m.map λq=>(kS q.1,e q.2))
section
variable [DecidableEq κ] {c:κ->AY}
def look[Inhabited α](m:O (κ×α))(x:κ):α:=((m.find? λq=>decide (q.1=x)).map (·.2)).getD default
def has(m:O (κ×α))(x:κ):Bool:=m.any λq=>decide (q.1=x)
def put(m:O (κ×α))(x:κ)(a:α):O (κ×α):=if has m x=true then m.map (λq=>if q.1=x then(q.1,a)else q)else m++[(x,a)]
theorem IU[Ky c](a b:κ):decide (c a=c b)=decide (a=b):=by
 by_cases h:a=b
 ·rw[h];simp
 ·rw[ZZ h,ZZ λz=>h (Ky.inj (c:=c) _ _ z)]
theorem Yi[Ky c](m:O (κ×α))(x:κ):Bb (m.map λq=>(c q.1,e q.2)) (c x)=((m.find? λq=>decide (q.1=x)).map (·.2)).map e:=by
 unfold Bb;rw[List.find?_map];simp only[hG,Function.comp_def,IU]
theorem Ls[Ky c][Inhabited α]{m:O (κ×α)}{x:κ}(h:has m x=true):Bb (m.map λq=>(c q.1,e q.2)) (c x)=Z (e (look m x)):=by
 rw[Yi];unfold look;unfold has at h;rw[Q4]at h;obtain⟨q,a,hx⟩:=h;cases b:m.find? λq=>decide (q.1=x)with
 |none=>exact absurd hx (by simpa using cD.mp b q a)
 |some q=>rfl
theorem Sh[Ky c](m:O (κ×α))(x:κ)(a:α):Iv (m.map λq=>(c q.1,e q.2)) (c x) (e a)=(put m x a).map λq=>(c q.1,e q.2):=by
 unfold Iv put has;rw[yv];simp only[Function.comp_def,IU];by_cases h:(m.any λq=>decide (q.1=x))=true
 ·rw[zl h,zl h];rw[ZT,ZT];refine qq λq _=>?_;simp only[Function.comp];by_cases b:q.1=x
  ·simp[b]
  ·have h':¬ c q.1=c x:=λz=>b (Ky.inj (c:=c) _ _ z);simp[b,h']
 ·rw[zD h,zD h];simp
end
theorem Lw:∀m:O (AJ×α),Uc (m.map λq=>(kS q.1,e q.2))=Z (m.map (·.1))
 |[]=>rfl
 |q::m=>by rw[zo,Uc,Lw m,Ap];rfl
def yt[Inhabited α](a:R fa ρ (nE e))(b:R fb ρ (zE eS)):R (b2 nR fa fb) ρ (zE e):=⟨look a.v b.v,aV (aV a.D b.D) (Z (has a.v b.v=true)),λh=>by
 obtain⟨h,d⟩:=aq h;obtain⟨h1,h2⟩:=aq h;simp only[b2,a.ok h1,b.ok h2,Ap,nR,Ch,Ls (c:=kS) (show has a.v b.v=true from d)]⟩
end
section
variable{fs:Ev->Y AZ}{e:α->Dt}
abbrev sE:AZ->AZ:=λys=>ys
theorem zZ(h:nD b=Z ds):oO b=Z ds:=by
 cases b with
 |z d=>cases d<;>first|exact h|(cases h;done)
 |l _=>exact h
 |o _=>exact h
 |n _=>cases h
 |m _ _=>cases h
def L0(a:RL fa ρ eS):R (Xq fa) ρ sE:=⟨a.v,a.D,λh=>by
 simp only[Xq,a.ok h,Ap,Xp,zZ a.lk,BA]⟩
def RA(a:R fs ρ sE):R (RT fs) ρ (oE eS):=⟨aU (pR a.v),aV a.D (Z (a.v.length<4000/\(pR a.v).length<64)),λh=>by
 obtain⟨h,b⟩:=aq h;simp only[RT,a.ok h,Ap];exact zl b⟩
theorem IA(n:Nat):∃m,m=n:=⟨n,rfl⟩
noncomputable def kN(n:Nat):Nat:=Classical.choose (IA n)
theorem LY(n:Nat):kN n=n:=Classical.choose_spec (IA n)
noncomputable def UU(n:Int)(m:Nat)(b:n.toNat=m)(a:Rg n):R (T9 (au (cB (.int n)) aK)) ρ (iE eI):=⟨rng 0 (kN m),U,λh=>by rw[LY];exact(SI n m b a).ok h⟩
end
end P1
namespace P1
open L2 S1 S6
class nU {α:Type} (e:α->Dt) where
 k:α->AY
 ok:∀a,FI (e a)=some (k a)
 inj:∀a b,k a=k b->a=b
 same:∀a b,RB (k a) (k b)=true
instance:nU eI:=⟨λi=>.inl i,λ_=>rfl,λa b h=>by cases h;rfl,λ_ _=>rfl⟩
instance:nU eS:=⟨λi=>.inr i,λ_=>rfl,λa b h=>by cases h;rfl,λ_ _=>rfl⟩
class Lx {α:Type} (e:α->Dt) where
 k:α->List AY
 ok:∀a,Bj (e a)=some (k a)
 inj:∀a b,k a=k b->a=b
 shp:∀a b,Ef (k a) (k b)=true
 ne:∀a,(k a).isEmpty=false
class Fk {α:Type} (e:α->Dt) [Lx e]:Prop where
 tx:∀a,F5 (Lx.k e a)=true
section
variable{e:α->Dt}{e':β->Dt}{e'':γ->Dt}{e3:δ->Dt}
instance [nU e] [nU e']:Lx (Zd e e'):=⟨λq=>[nU.k e q.1,nU.k e' q.2],λq=>by simp only[Bj,yP,nU.ok,Ap],λa b h=>by
 simp only[Kn,and_true]at h;exact di (nU.inj _ _ h.1) (nU.inj _ _ h.2),λa b=>by simp[Ef,nU.same],λ_=>rfl⟩
instance [nU e] [nU e'] [nU e'']:Lx (DE e e' e''):=⟨λq=>[nU.k e q.1,nU.k e' q.2.1,nU.k e'' q.2.2],λq=>by simp only[Bj,yP,nU.ok,Ap],λa b h=>by
 simp only[Kn,and_true]at h;exact di (nU.inj _ _ h.1) (di (nU.inj _ _ h.2.1) (nU.inj _ _ h.2.2)),λa b=>by simp[Ef,nU.same],λ_=>rfl⟩
instance [nU e] [nU e'] [nU e''] [nU e3]:Lx (FE e e' e'' e3):=⟨λq=>[nU.k e q.1,nU.k e' q.2.1,nU.k e'' q.2.2.1,nU.k e3 q.2.2.2],λq=>by simp only[Bj,yP,nU.ok,Ap],λa b h=>by
 simp only[Kn,and_true]at h;exact di (nU.inj _ _ h.1) (di (nU.inj _ _ h.2.1) (di (nU.inj _ _ h.2.2.1) (nU.inj _ _ h.2.2.2))),λa b=>by simp[Ef,nU.same],λ_=>rfl⟩
instance [nU e]:Fk (Zd e eS):=⟨λa=>by simp[Lx.k,F5,nU.k]⟩
instance [nU e] [nU e']:Fk (DE e eS e'):=⟨λa=>by simp[Lx.k,F5,nU.k]⟩
instance [nU e] [nU e'] [nU e'']:Fk (FE e eS e' e''):=⟨λa=>by simp[Lx.k,F5,nU.k]⟩
variable{fs:Ev->Y (O (O AY))}
theorem Cg[Lx e]:∀xs:O α,sX (xs.map e)=Z (xs.map (Lx.k e))
 |[]=>rfl
 |x::xs=>by simp only[zo,sX,Lx.ok,Ap,Cg xs]
end
end P1
namespace P1
open L2
section
variable{fd:Ev->Y Bx}{fs:Ev->Y (O Bx)}{e:α->Dt}{e':β->Dt}{k:Ev->Y An}{cO:γ->An}
abbrev mW(w:Y A1)(e:α->Dt):O (AJ×α)->Bx:=λm=>.m (m.map λq=>(kS q.1,e q.2)) w
def aM(e:α->Dt)(t:γ->O Bx->Prop):O (AJ×α)×γ->O Bx->Prop:=λx bs=>∃b r,bs=b::r/\(b=nE e x.1\/b=mE e x.1)/\t x.2 r
def IL{t:γ->O Bx->Prop}(a:R fa ρ (nE e))(r:AR t fs ρ):AR (aM e t) (au fa fs) ρ:=⟨(a.v,r.v),aV a.D r.D,_,⟨_,_,rfl,.inl rfl,r.h⟩,λh=>by
 obtain⟨h1,h2⟩:=aq h;simp only[au,a.ok h1,r.ok h2,Ap]⟩
def NO(w:Y A1)(i:Nat)(m:O (AJ×α))(hi:ρ[i]?=Z (Z (mW w e m)))(a:R fa ρ (zE e))(b:R fb ρ (zE eS))(K:∀c:O (AJ×α),R k (ρ.set i (Z (mW w e c))) cO):R (aF (W3 i fa fb) k) ρ cO:=⟨(K (put m b.v a.v)).v,aV (aV (aV a.D b.D) (Z (m.length<1000))) (K (put m b.v a.v)).D,λg=>by
 obtain⟨h,d⟩:=aq g;obtain⟨h,f⟩:=aq h;obtain⟨h1,h2⟩:=aq h;rw[gU (ρ':=ρ.set i (Z (mW w e (put m b.v a.v)))) (by
  unfold W3;rw[a.ok h1,Ap,b.ok h2,Ap];simp only[KR,Ch,Ap,hi,mW,zi,zl (show m.length<1000 from f),Sh])]
 exact(K _).ok d⟩
def ET(a:O (AJ×β)):O (AJ×β):=a.foldl (λm q=>put m q.1 q.2) []
theorem PX(a:O (AJ×β)):dictOf (a.map (Zd eS e'))=(ET a).map λq=>(kS q.1,e' q.2):=by
 unfold dictOf ET;have:∀(a:O (AJ×β)) (m:O (AJ×β)),(a.map (Zd eS e')).foldl Fn (m.map λq=>(kS q.1,e' q.2))=(a.foldl (λm q=>put m q.1 q.2) m).map λq=>(kS q.1,e' q.2):=by
  intro a
  induction a with
  |nil=>intro m;rfl
  |cons q a b=>
   intro m;rw[zo,Qb,Qb];show(a.map (Zd eS e')).foldl Fn (Iv (m.map λq=>(kS q.1,e' q.2)) (kS q.1) (e' q.2))=_;rw[Sh (c:=kS)];exact b _
 exact this a []
def VT(a:R fk ρ (zE eS))(b:R fv ρ (zE e)):R (b2 Bp fk fv) ρ (zE (Zd eS e)):=⟨(a.v,b.v),aV a.D b.D,λh=>by
 obtain⟨h1,h2⟩:=aq h;simp only[b2,a.ok h1,b.ok h2,Ap,Bp]⟩
def ai(i:R fi ρ (iE e))(a:R (eZ fi gt p (b2 Bp fk fv) is n) ρ (oE (Zd eS e'))):R (RW fi gt p fk fv is n) ρ (mE e'):=⟨ET a.v,aV (aV i.D (Z (i.v.length<1000))) a.D,λh=>by
 obtain⟨h,c⟩:=aq h;obtain⟨h1,h2⟩:=aq h;have h2:i.v.length<1000:=h2;have b:=a.ok c;unfold eZ at b;unfold RW;rw[i.ok h1,Ap]at b ⊢;rw[zl (by rw[zi];omega)]at b;rw[zl (by rw[zi];exact h2)];obtain⟨out,d,b⟩:=AT b;rw[d,Ap];injection b with b;injection b with b;rw[b,PX]⟩
def LZ(a:R fd ρ (nE e)):R (yU fd) ρ (iE eS):=⟨a.v.map (·.1),a.D,λh=>by
 simp only[yU,a.ok h,Ap,CM,ZT];rfl⟩
def NW(a:R fa ρ (nE e)):R (cI Bv (au fa aK)) ρ (oE eS):=⟨a.v.map (·.1),a.D,λh=>by
 simp only[cI,au,aK,a.ok h,Ap,Bv,Lw]⟩
def N9(a:R fa ρ (zE eS))(b:R fb ρ (zE eS)):R (cI Bu (au fa (au fb aK))) ρ (zE eS):=⟨if F7 b.v a.v=true then b.v else a.v,aV a.D b.D,λh=>by
 obtain⟨h1,h2⟩:=aq h;simp only[cI,au,aK,a.ok h1,b.ok h2,Ap,Bu];rfl⟩
theorem On{bs:O Bx}{m:O (AJ×α)}{c:O (AJ×α)->Ev}(x:R g ((mW (Z a) e m::bs).map Z++ay (n-(bs.length+1)) U) (λb=>An.nx (c b)))(h:hold x.D)(d:∀b,(c b)[0]?=Z (Z (mW (Z a) e b))):Lh n g a (m.map λq=>(kS q.1,e q.2)) bs=Z (x.v.map λq=>(kS q.1,e q.2)):=by
 unfold Lh;rw[x.ok h,Ap];simp only[d,QY]
def W'{b:γ->O Bx->Prop}{cO:δ->An}{T:O (AJ×α)->γ->O (AJ×α)}{c:O (AJ×α)->γ->Y Prop}(w:Y A1)(i:Nat)(m:O (AJ×α))(hi:ρ[i]?=Z (Z (mW w e m)))(S:∀m v bs,b v bs->bs.length=n/\bs.all DF=true/\(hold (c m v)->∀a,G a (m.map λq=>(kS q.1,e q.2)) bs=Z ((T m v).map λq=>(kS q.1,e q.2))))(a:AR b fs ρ)(K:∀j:O (AJ×α),R k (ρ.set i (Z (mW w e j))) cO):R (aF (Bw i n G fs) k) ρ cO:=⟨(K (T m a.v)).v,aV (aV a.D (c m a.v)) (K (T m a.v)).D,λl=>by
 obtain⟨h,o⟩:=aq l;obtain⟨h1,h2⟩:=aq h;obtain⟨d,g,f⟩:=S m a.v a.bs a.h;rw[gU (Xy hi (a.ok h1) d g (f h2))];exact(K _).ok o⟩
end
section
variable{e:α->Dt}
def jh[DecidableEq α](x:α)(ys:O α):Bool:=decide (x∈ys)
theorem Ci[DecidableEq α]{x:α}{ys:O α}:jh x ys=true↔x∈ys:=by unfold jh;rw[QO]
theorem Ly[DecidableEq α][B6 e n](b:n<=60)(x:α)(ys:O α):UG (e x) (ys.map e)=Z (decide (x∈ys)):=by
 unfold UG;rw[zl]
 ·congr 1;rw[yv,yi,Q4,QO];constructor
  ·rintro⟨y,a,h⟩;simp only[Function.comp,B6.eq]at h;by_cases q:y=x
   ·exact q▸a
   ·simp[q,D3]at h
  ·intro h;exact⟨x,h,by simp[Function.comp,B6.eq,D3]⟩
 ·rw[fT,ja];intro y _;have:=B6.dp (e:=e) y;simp only[Function.comp,B6.eq,dz,fE,QO];omega
def Yj[DecidableEq α][B6 e n](c:n<=60)(a:R fa ρ (zE e))(b:RL fb ρ e):R (b2 DZ fa fb) ρ (zE eB):=⟨jh a.v b.v,aV a.D b.D,λh=>by
 obtain⟨h1,h2⟩:=aq h;simp only[b2,a.ok h1,b.ok h2,Ap,DZ,zZ b.lk,Ly c,jh]⟩
def U'[DecidableEq α][B6 e n](c:n<=60)(a:R fa ρ (zE e))(b:RL fb ρ e):R (b2 Xz fa fb) ρ (zE eB):=⟨!jh a.v b.v,aV a.D b.D,λh=>by
 obtain⟨h1,h2⟩:=aq h;simp only[b2,a.ok h1,b.ok h2,Ap,Xz,zZ b.lk,Ly c,jh]⟩
end
end P1
namespace P1
open L2 S1 S6
def kT(xs:AZ):O AY:=xs.map Sum.inr
theorem NH{a b:AZ}(h:kT a=kT b):a=b:=by
 unfold kT at h
 induction a generalizing b with
 |nil=>cases b with|nil=>rfl|cons _ _=>simp at h
 |cons x a c=>cases b with
  |nil=>simp at h
  |cons y b=>
   simp only[zo,Kn]at h;rw[Sum.inr.inj h.1,c h.2]
theorem Lz:∀(xs:AZ),yP (xs.map eS)=Z (kT xs)
 |[]=>rfl
 |x::xs=>by simp only[zo,yP,FI,Ap,Lz xs];rfl
theorem G5:∀(a:O AZ),sX (a.map (eT eS))=Z (a.map kT)
 |[]=>rfl
 |x::a=>by simp only[zo,sX,Bj,eT,Lz,Ap,G5 a]
def Qa(a b:AZ):Bool:=vG (kT a) (kT b)
def bH(a:O AZ):O AZ:=a.mergeSort Qa
theorem dW(xs:O AZ):(bH xs).Perm xs:=dg ..
theorem jY(xs:O AZ):(bH xs).Pairwise (λa b=>Qa a b=true):=YY (le:=Qa) (λa b c=>Bd (kT a) (kT b) (kT c)) (λa b=>Bf (kT a) (kT b)) xs
theorem U4{a b:AZ}(h:Qa a b=true)(h':Qa b a=true):a=b:=NH (Gn h h')
theorem G7{xs out:O AZ}(hp:out.Perm xs)(hs:out.Pairwise (λa b=>Qa a b=true)):out=bH xs:=sW (λ_ _=>U4) (hp.trans (dW xs).symm) hs (jY xs)
theorem Qc(xs:O AZ):vH (xs.map kT)=(bH xs).map kT:=(Gs ((dW xs).map _) (cm.mpr (jY xs))).symm
theorem XG(xs:O AZ):(xs.map kT).map By=xs.map (eT eS):=by
 rw[ZT];refine qq λa _=>?_;show Dt.tup ((kT a).map dK)=Dt.tup (a.map eS);unfold kT;rw[ZT];rfl
theorem Su(a b:AZ):Ef (kT a) (kT b)=true:=by
 unfold Ef kT;rw[ja];rintro⟨x,y⟩ h;obtain⟨h1,h2⟩:=da h;obtain⟨p,_,rfl⟩:=ax.mp h1;obtain⟨q,_,rfl⟩:=ax.mp h2;rfl
theorem a4(xs:O AZ)(h:xs.length<64)(d:∀x∈xs,x.isEmpty=false):FF (xs.map kT)=true:=by
 simp only[FF,qo,QO,ja,ke,zi,ax,forall_exists_index,and_imp,forall_apply_eq_imp_iff₂];refine⟨h,λa c=>?_,λa _ b _=>Su a b⟩;have:=d a c;cases a with
 |nil=>cases this
 |cons _ _=>rfl
def z6(a:RL fa ρ (eT eS)):R (cI sY (au fa aK)) ρ (oE (eT eS)):=⟨bH a.v,aV a.D (Z (a.v.length<64/\∀x∈a.v,x.isEmpty=false)),λh=>by
 obtain⟨h,b⟩:=aq h;obtain⟨b,c⟩:a.v.length<64/\∀x∈a.v,x.isEmpty=false:=b;simp only[cI,au,aK,a.ok h,Ap,sY,zZ a.lk,G5,a4 a.v b c,QY,Qc,XG]⟩
section
variable{e:α->Dt}
theorem map_some(e:α->Dt)(xs:O α):(xs.map Z).map (eO e)=xs.map e:=by rw[ZT];rfl
end
end P1
namespace P1
open L2
section
variable{k:Ev->Y An}{cO:α->An}
def GA(i:Nat)(E:Ev)(a:FY i ρ=Z E)(K:R k E cO):R (EA i k) ρ cO:=⟨K.v,K.D,λh=>by
 unfold EA;rw[a];exact K.ok h⟩
end
section
variable{e:α->Dt}
end
section
variable{σ τ:Type}{k:Ev->Y An}{cO:γ->An}
def Qd(a:σ->Bool)(step:σ->j9 σ τ):Nat->σ->j9 σ τ
 |0,s=>.nx s
 |n+1,s=>if a s=true then(match step s with
  |.nx s'=>Qd a step n s'
  |.ct s'=>Qd a step n s'
  |.bk s'=>.nx s'
  |.rt r=>.rt r)else .nx s
def DH(a:σ->Bool)(b:σ->Y Prop)(step:σ->j9 σ τ)(P:σ->Y Prop):Nat->σ->Prop
 |0,_=>False
 |n+1,s=>hold (b s)/\(a s=true->hold (P s)/\match step s with
  |.nx s'=>DH a b step P n s'
  |.ct s'=>DH a b step P n s'
  |.bk _=>True
  |.rt _=>True)
theorem Jj(a:σ->Bool)(step:σ->j9 σ τ):∀(n:Nat) (s:σ),(∃s',Qd a step n s=.nx s')\/∃r,Qd a step n s=.rt r
 |0,s=>.inl ⟨s,rfl⟩
 |n+1,s=>by
  unfold Qd;split
  ·cases step s with
   |nx s'=>exact Jj a step n s'
   |ct s'=>exact Jj a step n s'
   |bk s'=>exact .inl ⟨s',rfl⟩
   |rt r=>exact .inr ⟨r,rfl⟩
  ·exact .inl ⟨s,rfl⟩
theorem Qe{c:τ->Bx}(E:σ->Ev)(a:∀s,R p (E s) tE)(body:∀s,R gb (E s) (cC E c)):∀(n:Nat) (s:σ),DH (λs=>(a s).v) (λs=>(a s).D) (λs=>(body s).v) (λs=>(body s).D) n s->Vn p gb n (E s)=Z (cC E c (Qd (λs=>(a s).v) (λs=>(body s).v) n s))
 |0,s,h=>absurd h id
 |n+1,s,h=>by
  obtain⟨h1,h2⟩:=h;have e:p (E s)=Z (a s).v:=(a s).ok h1;unfold Vn Qd;rw[e,Ap];cases f:(a s).v with
  |false=>rfl
  |true=>
   obtain⟨g,b⟩:=h2 f;rw[zl rfl,zl rfl,(body s).ok g,Ap];cases d:(body s).v with
   |nx s'=>dsimp only at b;rw[d]at b;exact Qe E a body n s' b
   |ct s'=>dsimp only at b;rw[d]at b;exact Qe E a body n s' b
   |bk s'=>rfl
   |rt r=>rfl
def NX{c:τ->Bx}(n:Nat)(E:σ->Ev)(b:σ)(f:ρ=E b)(a:∀s,R p (E s) tE)(body:∀s,R gb (E s) (cC E c))(inj:τ->γ)(e:∀r,cO (inj r)=.rt (c r))(K:∀s,R k (E s) cO):R (aF (Vn p gb n) k) ρ cO:=
 ⟨BI (Qd (λs=>(a s).v) (λs=>(body s).v) n b) inj λs=>(K s).v,aV (Z (DH (λs=>(a s).v) (λs=>(a s).D) (λs=>(body s).v) (λs=>(body s).D) n b)) (Ji (Qd (λs=>(a s).v) (λs=>(body s).v) n b) λs=>(K s).D),λg=>by
 obtain⟨h2,d⟩:=aq g;have e1:Vn p gb n ρ=Z (cC E c (Qd (λs=>(a s).v) (λs=>(body s).v) n b)):=by
  subst f;exact Qe E a body n b h2
 rcases Jj (λs=>(a s).v) (λs=>(body s).v) n b with⟨s',es⟩|⟨r,es⟩
 ·rw[es]at e1 d ⊢;rw[gU e1];exact(K s').ok d
 ·rw[es]at e1 ⊢;show aF (Vn p gb n) k ρ=Z (cO (inj r));unfold aF;rw[e1,e];rfl⟩
end
section
variable{e:α->Dt}
end
section
variable{σ τ:Type}
theorem Sq{step:σ->α->σ}{P:σ->α->Y Prop}(I:Nat->σ->Prop):∀(xs:O α) (m:Nat) (a:σ),I m a->(∀k x s,xs[k]?=Z x->I (m+k) s->hold (P s x)/\I (m+k+1) (step s x))->jX step P xs a/\I (m+xs.length) (xs.foldl step a)
 |[],m,a,h0,_=>⟨trivial,h0⟩
 |x::xs,m,a,h0,hs=>by
  obtain⟨h1,h2⟩:=hs 0 x a S h0;have:=Sq I xs (m+1) (step a x) h2 λk y s e h=>by
   have:=hs (k+1) y s (by simpa using e) (by rw[show m+(k+1)=m+1+k by omega];exact h);rw[show m+(k+1)+1=m+1+k+1 by omega]at this;exact this
  refine⟨⟨h1,this.1⟩,?_⟩;rw[Zp,show m+(xs.length+1)=m+1+xs.length by omega];exact this.2
theorem SC{i:Int}{k:Nat}{x:Int}(h:(rng i n)[k]?=Z x):x=i+k/\k<n:=by
 unfold rng at h;rw[zS]at h;cases hk:(bq n)[k]? with
 |none=>rw[hk]at h;cases h
 |some j=>
  rw[hk]at h;have a:k<n:=by simpa using(ba.mp hk).1
  have:j=k:=by
   rw[yn a]at hk;cases hk;rfl
  subst this;cases h;exact⟨rfl,a⟩
theorem nW(i:Int)(n:Nat):(rng i n).length=n:=by unfold rng;simp
theorem LC{step:σ->Int->σ}{P:σ->Int->Y Prop}(I:Nat->σ->Prop)(n:Nat)(a:σ)(b:I 0 a)(hs:∀(k:Nat) s,k<n->I k s->hold (P s k)/\I (k+1) (step s k)):jX step P (rng 0 n) a/\I n ((rng 0 n).foldl step a):=by
 have:=Sq (P:=P) I (rng 0 n) 0 a b λk x s e h=>by
  obtain⟨rfl,hk⟩:=SC e;rw[KL]at h ⊢;rw[gf];exact hs k s hk h
 rw[nW,KL]at this;exact this
theorem LK{step:Unit->α->j9 Unit Bool}{P:Unit->α->Y Prop}:∀xs:O α,(∀x∈xs,hold (P bv x)/\(step bv x=.nx bv\/step bv x=.ct bv))->jr step xs bv=.nx bv/\nT step P xs bv
 |[],_=>⟨rfl,trivial⟩
 |x::xs,h=>by
  obtain⟨h1,h2⟩:=h x (ze ..);have a:=LK (P:=P) xs λy b=>h y (zg _ b);rcases h2 with h2|h2
  ·exact⟨by unfold jr;rw[h2];exact a.1,h1,by rw[h2];exact a.2⟩
  ·exact⟨by unfold jr;rw[h2];exact a.1,h1,by rw[h2];exact a.2⟩
theorem P6[Inhabited α]{xs:O α}{i:Int}(h:In xs.length i):at' xs i∈xs:=by
 obtain⟨x,hx⟩:=Jh h;unfold at';rw[hx];unfold Aj at hx;obtain⟨j,_,hx⟩:=AT hx;exact ZE hx
theorem Qf[Inhabited α]{xs:O α}{k:Nat}{x:α}(h:xs[k]?=Z x):at' xs (k:Int)=x:=by
 have a:k<xs.length:=(ba.mp h).1;unfold at' Aj DD;rw[zl (),zl (),Ap,Ya,h];rfl
theorem OV[Inhabited α](xs:O α)(k:Nat)(h:k<xs.length):at' xs (k:Int)=xs[k]:=Qf (zr h)
theorem BF{i:Int}(a:0<=i)(h1:i<n):In n i:=⟨by omega,h1⟩
theorem Jk{k:Nat}(h:k<n):In n (k:Int):=⟨by omega,by omega⟩
theorem Qg{x m:Int}(a:0<m)(h:m<=n):In n (x%m):=BF (yf _ ()) (Int.lt_of_lt_of_le (yY _ a) h)
theorem xu(x:Int){m:Int}(a:0<m):0<=x%m/\x%m<m:=⟨yf _ (),yY _ a⟩
theorem LQ{j:Int}(a:0<=j)(h1:j<=1000000):Rg j:=⟨by omega,by omega⟩
theorem MB{a b:Int}(c:0<=a)(h1:a<18446744073709551616):FO a b:=.inl ⟨by omega,h1⟩
theorem Yk{xs:O α}{k:Nat}(h:k<=xs.length):CU xs (Z (k:Int)) U=xs.drop k:=by
 unfold CU;rw[HT.Zv,HT.VF,Nat.min_eq_left h,cS (by simp)]
theorem tD(x y:AJ):(x++y).length=x.length+y.length:=by
 show(x.cps++y.cps).size=_;rw[k6];rfl
theorem Cj(x:AJ)(i:Int):(ch x i).length=1:=rfl
theorem slice_le(x:AJ)(l u:Y Int):(Txt.slice x l u).length<=x.length:=PyProof.Txt.length_slice_le x l u
end
section
variable [Inhabited α] {e:α->Dt}{k:Ev->Y An}{cO:γ->An}
end
theorem G8:∀xs:O Int,GP (xs.map eI)=Z xs
 |[]=>rfl
 |x::xs=>by simp only[zo,eI,GP,G8 xs,Ap]
section
variable{e:α->Dt}{k:Ev->Y An}{cO:γ->An}
def LJ(i:Nat)(xs:O α)(hi:ρ[i]?=Z (Z (.o (xs.map e))))(a:R f ρ (oE e))(K:∀ys:O α,R k (ρ.set i (Z (.o (ys.map e)))) cO):R (aF (UJ i f) k) ρ cO:=⟨(K (xs++a.v)).v,aV (aV a.D (Z (zV (xs.length+a.v.length)))) (K (xs++a.v)).D,λb=>by
 obtain⟨h1,c⟩:=aq b;obtain⟨h1,h2⟩:=aq h1;have h2:xs.length+a.v.length<=1000000:=h2;rw[gU (ρ':=ρ.set i (Z (.o ((xs++a.v).map e)))) (by
  unfold UJ;rw[a.ok h1,Ap];show FK ρ i (.o (a.v.map e))=_;simp only[FK,hi,zi,ZH];rw[zl (Zs h2 ())])]
 exact(K _).ok c⟩
end
section
variable{e:α->Dt}{k:Ev->Y An}{cO:γ->An}
def OQ[Inhabited γ]:R (aF HZ k) ρ cO:=⟨default,Z False,λh=>absurd h id⟩
def aS{c:α->Bx}(a:R f ρ c)(K:R k ρ cO):R (aF (R3 f) k) ρ cO:=⟨K.v,aV a.D K.D,λb=>by
 obtain⟨h1,h2⟩:=aq b;rw[gU (ρ':=ρ) (by unfold R3;rw[a.ok h1,Ap])];exact K.ok h2⟩
theorem N3{bs:O Bx}{a:γ->Ev}(x:R g (bs.map Z++ay (n-bs.length) U) (λr=>An.nx (a r)))(h:hold x.D):dM n g bs=Z (.z .non):=by
 unfold dM;rw[x.ok h];rfl
end
section
variable{e:α->Dt}
def OF(a:RL fa ρ e):R (b2 UL fa (b1 Ww (cB (.int 1)))) ρ (oE e):=⟨a.v.reverse,a.D,λh=>by
 simp only[b2,b1,a.ok h,Ap,cB,Ww,UL,a.lk,QY,oE,List.map_reverse]⟩
def NJ(a:R fa ρ (zE e))(n:Nat)(h:∀x,∃ds,e x=.tup ds/\ds.length=n):R (cI gY (au fa aK)) ρ (zE eI):=⟨(n:Int),a.D,λb=>by
 obtain⟨ds,e1,e2⟩:=h a.v;simp only[cI,au,aK,a.ok b,Ap,zE,e1,gY,oO,e2]⟩
end
section
variable{e:α->Dt}{e':β->Dt}
def VY{e3:γ->Dt}(a:R fa ρ (zE e))(b:R fb ρ (zE e'))(g:α->β->γ)(h:∀x y,fG (.z (e x)) (.z (e' y))=Z (.z (e3 (g x y)))):R (b2 fG fa fb) ρ (zE e3):=⟨g a.v b.v,aV a.D b.D,λc=>by
 obtain⟨h1,h2⟩:=aq c;simp only[b2,a.ok h1,b.ok h2,Ap,zE,h]⟩
end
def RP(f:Ev->Y β)(ρ:Ev)(c:α->β)(v:α)(D:Y Prop):Prop:=hold D->f ρ=Z (c v)
theorem R.tp{f:Ev->Y β}{c:α->β}{b:α}{a:Y Prop}(x:R f ρ c)(e:x.v=b:=by kernel_rfl)(d:x.D=a:=by kernel_rfl):RP f ρ c b a:=λh=>by
 subst e d;exact x.ok h
def RP.r{f:Ev->Y β}{c:α->β}{v:α}{D:Y Prop}(h:RP f ρ c v D):R f ρ c:=⟨v,D,h⟩
theorem Hc{p:O α->Prop}(h:∀a,p [a]):∀us:O α,us.length=1->p us
 |[a],_=>h a
theorem Gc{p:O α->Prop}(h:∀a b,p [a,b]):∀us:O α,us.length=2->p us
 |[a,b],_=>h a b
theorem P'{p:O α->Prop}(h:∀a b c,p [a,b,c]):∀us:O α,us.length=3->p us
 |[a,b,c],_=>h a b c
theorem Tk{p:O α->Prop}(h:∀a b c d,p [a,b,c,d]):∀us:O α,us.length=4->p us
 |[a,b,c,d],_=>h a b c d
theorem VA{p:O α->Prop}(h:∀a b c d e,p [a,b,c,d,e]):∀us:O α,us.length=5->p us
 |[a,b,c,d,e],_=>h a b c d e
end P1
namespace P1
open L2 S1
theorem Qh{T:String}{vs:O A0}{Q:B7}(g:s.heap.get? l=Z o)(j:o.cls=.type T)(q:T ="list" ∨ T ="tuple")(t:o.data=.seq vs.toArray n)(c:StrsAre vs ys)(f:vs.length<64)(h:∀(l:A1) (h':A6) (tk:Nat) (out:Array A0) (zs:AZ) (n:Nat),s.heap.objs.size<=l->(∀b o,s.heap.get? b=Z o->h'.get? b=Z o)->h'.get? l=Z (seqObj "list" out n)->StrsAre out.toList zs->zs.Perm ys->sortedS zs=true->Q (.ref l) { s with heap:=h',toks:=tk }):
  A7 (A8 prog w) A (call (.builtin "sorted") [.ref l]) Q E s:=by
 refine y4 kind_sorted plain_sorted entry_sorted (args_sorted1 _) ?_;unfold Builtin.«sorted»;refine zb (m:=checkCount "sorted" 1 1 _) (zd (zb (Bh g j q t (Zs (Q2 f) ()) λh1 tk p ext=>?_)));refine zb (YA ?_);have a:(h1.push (seqObj "list" vs.toArray 0)).get? h1.objs.size=Z (seqObj "list" vs.toArray 0):=zt _ rfl;refine zb (qB (Q3 slot_list_sort ⟨_,a,rfl⟩ entry_list_sort (list_sort_treeK strKind_oneLt a c.keysOf (λu v AS e=>keyKind_strs (by rw[<-e];exact c)) f λi a1 a2=>⟨_,rfl,zd ⟨_,rfl,?_⟩⟩) (args_list_sort _)));obtain⟨zs,z1,z2,z3⟩:=sorted_out_str c a1 a2;obtain⟨n,en⟩:=sortedHeap_at (out:=(AM i).map (·.2)) a;exact h h1.objs.size _ tk _ zs n p (λb o e=>by
  have e1:=ext b o e;have d:=zI e1;rw[sortedHeap_old (z5 d) (by rw[qr];exact Qr d)];exact zh _ e1) en z1 z2 z3
def yu:O Bx->Y Bx
 |[b]=>(oO b).bind λds=>(nQ ds).bind λys=>if ys.length<64 then Z (.o ((aU ys).map Dt.str))else U
 |_=>U
theorem LR:mF X (.builtin "sorted") yu:=by
 intro AN s σ H xs us Q I B h;obtain⟨bs,c,z,e,q⟩:=h;unfold yu at e;split at e
 ·rename_i b;obtain⟨ds,D,e⟩:=AT e;obtain⟨ys,C,e⟩:=AT e;split at e
  ·rename_i J;cases e;obtain⟨v,rfl,G⟩:=BH z;obtain⟨p,vs,rfl,sq,L⟩:=uE G D;obtain⟨u,rfl,m⟩:=BB B;cases m;obtain⟨rfl,E⟩:=jx L C;have w:∃(AQ:O A0) (o:AE) (T:String) (n:Nat),AX (ys.map V.str) AQ/\s.heap.get? p=Z o/\o.cls=.type T/\(T ="list" ∨ T ="tuple")/\o.data=.seq AQ.toArray n:=by
    rcases sq with sq|sq
    ·obtain⟨AQ,f,pl,A⟩:=I.list sq;obtain⟨o,g,c,n,d⟩:=pl.isList;exact⟨AQ,o,_,n,f,g,c,.inl rfl,d⟩
    ·obtain⟨AQ,f,⟨o,g,c,n,d⟩,A⟩:=I.tuple sq;exact⟨AQ,o,_,n,f,g,c,.inr rfl,d⟩
   obtain⟨AQ,o,T,n,f,g,x,K,M⟩:=w;have F:=f.length;rw[zi]at F;refine Qh g x K M (jy f) () λl h' tk out zs n i ext en z1 z2 z3=>?_;have t:=Ba z2 z3;subst t;have j:=I.hok.fresh i;refine⟨.ref l,_,I.laid (t':=tk) (a:=l) (o:=.lst ((aU ys).map V.str)) ext i ?_,rfl,q _ _ (bw j) (λa ea=>by cases ea;exact j) ⟨l,_,rfl,aJ,jT λy h=>E y ((bf ys).mem_iff.mp h)⟩⟩;refine⟨by rw[zi,(bf _).length_eq];exact Zs (Q2 J) (),out.toList,n,pP z1,?_⟩;rw[en]
  ·cases e
 ·cases e
def Ma(a:R fa ρ (zE (eT eS))):R (cI yu (au fa aK)) ρ (oE eS):=⟨aU a.v,aV a.D (Z (a.v.length<64)),λh=>by
 obtain⟨h,b⟩:=aq h;simp only[cI,au,aK,a.ok h,Ap,yu,oO,eT,BA];exact zl b⟩
end P1
namespace P1
open L2
section
variable{fs:Ev->Y (O Bx)}
end
section
variable{AS:O AB}
end
section
variable{ks:O V}
theorem LI(j:∀f u,X.H₀ a≠Z (.gF f u))(I:L2.AU X AN σ H s)(e:H a=Z (.gF o (.lst ks))):L2.AU X AN σ (B4 H a (.lst ks)) s:=by
 have g:∀{b:A1} {u:HO},H b=Z u->u≠.gF o (.lst ks)->b≠a:=λq n z=>by subst z;rw[e]at q;cases q;exact n rfl
 have h:∀{b:A1},H b=U->b≠a:=λq z=>by subst z;rw[e]at q;cases q
 refine⟨I.ok,I.os,I.bare,⟨I.base.keep,I.base.slot,λb f q n hx=>?_,I.base.there,λb xs q=>?_,λb f u q=>?_,λb ps q=>?_⟩,I.loc,I.cell,?_,λx c q=>?_,λp hp=>?_,λb f q=>?_,I.len⟩
 ·have:=I.base.free b f q n hx;rw[aD (h this)];exact this
 ·have:=I.base.tups b xs q;rw[aD (g this λz=>by cases z)];exact this
 ·have:=I.base.rP b f u q;rw[aD (λz=>by subst z;exact j _ _ q)];exact this
 ·obtain⟨m,this⟩:=I.base.wg b ps q;exact⟨m,by rw[aD (g this λz=>by cases z)];exact this⟩
 ·have:=I.free;rw[aD (h this)];exact this
 ·have:=I.mC x c q;rw[aD (h this)];exact this
 ·obtain⟨p1,p2,p3⟩:=I.pin p hp;exact⟨p1,by rw[aD (h p2)];exact p2,p3⟩
 ·have st:∀{c:A1} {w:HO},eV X.prog X.w H s.heap c w->eV X.prog X.w (B4 H a (.lst ks)) s.heap c w:=λx=>
   x.stay (λ_ _ _ r=>r) (λd r=>by rw[aD (g r λz=>by cases z)];exact r) (λd xs r=>by rw[aD (g r λz=>by cases z)];exact r) λd o' l r=>by rw[aD (g r λz=>by cases z)];exact r
  by_cases i:b=a
  ·subst i;rw[aJ]at q;cases q;exact st (I.hok _ _ e).2
  ·rw[aD i]at q;exact st (I.hok _ _ q)
end
section
variable{M0 M1 M2 er:Expr}{f0 f2:Ev->Y Bx}{d0 d2:Dt}{z0 z1 z2 z3:Pos}
end
theorem aX.sl(E:aX K H0 H σ ρ)(h:∀c,ρ[i]?≠Z (Z c))(v:Y V):aX K H0 H (σ.set i v) ρ:=by
 have d:∀{j:Nat} {c:Bx},ρ[j]?=Z (Z c)->(σ.set i v)[j]?=σ[j]?:=λe=>k7 (λz=>h _ (z▸e));exact⟨by rw[qv];exact E.len,λj b e=>by rw[d e];exact E.val j b e,λj k c a b e1 e2 e3 f l g=>E.own j k c a b e1 e2 (by rw[<-d e1];exact e3) f l (by rw[<-d f];exact g),E.base,λj c a e1 e2 e3=>E.new j c a e1 e2 (by rw[<-d e1];exact e3)⟩
section
variable{st:O AB}{fr:Ev->Y Bx}{i':Nat}{W:O Nat}{z:Pos}
end
section
variable{a b c:Ev->Y An}{k:Nat}
end
end P1
namespace P1
open L2 S6
section
variable{kx vx t1 i1 t2 i2:Expr}{f1 f2:O Expr}{g1 g2:Dt->Ev->Y Ev}{p1 p2:Ev->Y Bool}{fi1 fi2:Ev->Y (O Dt)}{fs:Ev->Y (O Dt)}{N m:Nat}
def cls2(fi:Ev->Y (O Dt))(gt:Dt->Ev->Y Ev)(p:Ev->Y Bool)(fs:Ev->Y (O Dt))(is:O Nat)(n:Nat):Ev->Y (O Dt):=λρ=>(fi ρ).bind λds=>xZ gt p fs (gW is ρ++ay n U) ds
def Jl(fi:Ev->Y (O Dt))(gt:Dt->Ev->Y Ev)(p:Ev->Y Bool)(fs:Ev->Y (O Dt))(is:O Nat)(n:Nat):Ev->Y Bx:=λρ=>(cls2 fi gt p fs is n ρ).bind λout=>if out.length<=100000 then Z (.o out)else U
structure II (X:Cx) (ts:AZ) (m:Nat) (scope:Scope) (cl:List (Str×Addr)) (xs:AZ) (is:List Nat) (t1 i1:Expr) (f1:List Expr) (t2 i2:Expr) (f2:List Expr) (fi1 fi2:Ev->Option (List Dt)) (g1 g2:Dt->Ev->Option Ev) (p1 p2:Ev->Option Bool):Prop where
 ok:oM X scope cl xs is
 calm:X.calm=true
 it1:EF X t1 i1 fi1
 tg1:∀C s₀ H₀ fp,Wh (uT X (xs++ts) scope cl C s₀ H₀ fp) t1 g1
 c1:∀C s₀ H₀ fp,vD (uT X (xs++ts) scope cl C s₀ H₀ fp) f1 p1
 k1:Za is.length m g1
 it2:∀C s₀ H₀ fp,Do (uT X (xs++ts) scope cl C s₀ H₀ fp) t2 i2 fi2
 tg2:∀C s₀ H₀ fp,Wh (uT X (xs++ts) scope cl C s₀ H₀ fp) t2 g2
 c2:∀C s₀ H₀ fp,vD (uT X (xs++ts) scope cl C s₀ H₀ fp) f2 p2
 k2:Za m (is.length+ts.length) g2
 hm:is.length<=m:=by decide
 hm2:m<=is.length+ts.length:=by decide
 hs:∀x,foldedSetIterable i1 X.env x=pure x:=by intro _;rfl
 hs2:∀C x,foldedSetIterable i2 (compEnvC scope (cellsFrom (C+1) scope.names cl) C X.env) x=pure x:=by intro _ _;rfl
theorem Vm.no{b:O Dt}{o:HO}:Vm K D H b o->(∀a u,o≠.gF a u)/\∀vs,o≠.tup vs:=λ⟨_,e,_⟩=>by subst e;exact⟨λ_ _ z=>(by cases z),λ_ z=>(by cases z)⟩
theorem Yl(ts:AZ)(W:II X ts m scope cl xs is t1 i1 f1 t2 i2 f2 fi1 fi2 g1 g2 p1 p2)(he:∀C f c fp,QV (uT X (xs++ts) scope cl C f c fp) elt fe):
  QV X (.ListComp elt [⟨t1,i1,f1,0⟩,⟨t2,i2,f2,0⟩] scope pos) (Jl fi1 g1 p1 (EN fi2 g2 p2 (Wu fe)) is ts.length):=⟨λAN s σ H Q I h=>by
 obtain⟨H0,ρ,b,E,e,q⟩:=h;obtain⟨out,i,e⟩:=AT e;obtain⟨ds,t,i⟩:=AT i;split at e
 ·rename_i P;cases e;rw[eval_ListComp];refine kl (use:=U) S W.hs W.ok.clos W.ok.kind W.ok.names ?_;refine fX (W.it1.run AN s σ H (λJ H'=>AV H H'/\B0 X.K J ds H') I ⟨H0,ρ,ds,E,t,λJ H' s' y=>⟨s',y⟩⟩) λv s1 h1=>fX h1 λa3 s2 h2=>?_;obtain⟨it,fp,tn,J,H2,rfl,I2,T,st,j,g,Y⟩:=h2;refine yg (B:=Av) (Ac:=Vm X.K) (O0:=.lst []) (N:=100000) (RR:=λF C=>compPost (bi X) X.A X.xe U (EP X AN σ Q) F C) (ts:=ts) (xs:=xs) W.ok W.calm (λC f c fp=>(W.tg1 C f c fp).run) (λC f c fp=>(W.c1 C f c fp).run)
   (λC f c fp=>Ws (X:=uT X (xs++ts) scope cl C f c fp) (comp:=.ListComp elt [⟨t1,i1,f1,0⟩,⟨t2,i2,f2,0⟩] scope pos) (d:=1) W.calm S (W.it2 C f c fp).run (W.tg2 C f c fp).run (W.c2 C f c fp).run (Rp (he C f c fp).run) W.k2 W.hm2 Vm.kp Vm.no (W.hs2 C) (λ_ _ _=>S) (T3 S λh=>h) λh=>h)
   W.k1 W.hm I2 ((E.grow g).caps is ts.length) (Gb T) st j Y i P ?_
   qV (λ_=>⟨qh _,[],0,.nil,zt _ rfl⟩) (λ_=>⟨[],rfl,aG.nil⟩) Vm.kp (λ_ _ _=>by simp only[bind_assoc,pure_bind];rfl) codeAny_compStart_list λh=>h
  rintro D C s' H' o z G n ⟨m,hn⟩ u l ⟨us,rfl,L⟩;refine⟨m,hn,λh' p=>⟨.ref D,H',?_,rfl,q _ _ (g.trans u) (λa ea=>by cases ea;exact g.free z) ⟨D,us,rfl,l,L⟩⟩⟩;obtain⟨f0,f1,f2,f3,x,f5⟩:=n;exact G.turned (t':=s'.toks) (λb o M e=>(p.2 b M).trans e) f0 f1 f3 x f5
 ·cases e⟩
end
end P1
namespace P1
open L2
section
variable{e:α->Dt}{e':β->Dt}{fs:Ev->Y (O Dt)}
theorem Mf{g:α->O β}:∀xs:O α,(xs.flatMap g).map e'=xs.flatMap λx=>(g x).map e'
 |[]=>rfl
 |x::xs=>by rw[j0,ZH,Mf xs];rfl
def WF(it:R fi ρ (iE e))(a:α->Ev)(c:∀x,gt (e x) (gW is ρ++ay n U)=Z (a x))(b:∀x,R fs (a x) (iE e')):R (cls2 fi gt sU fs is n) ρ (iE e'):=⟨it.v.flatMap λx=>(b x).v,aV it.D (Yg it.v λx=>(b x).D),λh=>by
 obtain⟨h1,h2⟩:=aq h;have h2:∀x∈it.v,hold (b x).D:=h2;simp only[cls2,it.ok h1,Ap];rw[BW (π:=λ_=>true) (g:=λx=>(b x).v.map e') it.v λx hx=>⟨a x,c x,rfl,λ_=>(b x).ok (h2 x hx)⟩,cw.mpr λ_ _=>S];rw[iE,Mf]⟩
def X'(it:R fi ρ (iE e))(a:α->Ev)(c:∀x,gt (e x) ρ=Z (a x))(b:∀x,R fe (a x) (zE e')):R (EN fi gt sU (Wu fe)) ρ (iE e'):=⟨it.v.map λx=>(b x).v,aV it.D (Yg it.v λx=>(b x).D),λh=>by
 obtain⟨h1,h2⟩:=aq h;have h2:∀x∈it.v,hold (b x).D:=h2;simp only[EN,it.ok h1,Ap];exact Be it.v λx hx=>⟨a x,c x,(b x).ok (h2 x hx)⟩⟩
def U1(a:R (cls2 fi gt p fs is n) ρ (iE e)):R (Jl fi gt p fs is n) ρ (oE e):=⟨a.v,aV a.D (Z (a.v.length<=100000)),λh=>by
 obtain⟨h1,h2⟩:=aq h;simp only[Jl,a.ok h1,Ap,zi,zl (show a.v.length<=100000 from h2)]⟩
end
def LO:V->O V->Hp->VK->Prop:=λx vs H Q=>∃l ks k v,x=.ref l/\vs=[kV k,v]/\H l=Z (.dK ks)/\ks.length<AA/\(∀w,o9 ks k=Z w->Q w H)/\(o9 ks k=U->Q v (B4 H l (.dK (B9 ks k v))))
theorem OS:FU X "dict.setdefault" LO:=by
 intro AN s σ H x vs v us Q I t D h;obtain⟨l,ks,k,y,rfl,rfl,n,E,q1,q2⟩:=h;cases t;obtain⟨m,g,rfl,rk,j⟩:=D.two;obtain⟨z,o,vs,c,f⟩:=V0 I.hok n;have p:vs.length<=AA:=by rw[<-c.length];exact z
 refine Q3 PySem.F.slot_dict_setdefault f.typeIs PySem.F.entry_dict_setdefault ?_ (PySem.F.args_dict_setdefault_3 _ _ _);unfold Builtin.«dict.setdefault»;refine zb ?_;unfold Builtin.Dict.keyAndDefault;refine zb (wpAny_notOrdered_dict f.typeIs ?_);show A7 _ _ (pure (l,m,Z g)) _ _ s;refine zd ?_;show A7 _ _ (if(l==sysModules)=true then _ else(dictSetDefault l m g >>= _)) _ _ s;rw[zD (by rw[o];exact Zl)];refine zb (kt_dictSetDefault_pairs (hsz:=p) (FQ rk) f (λw B=>?_) λC h' i hs=>?_)
 ·have a:=c.val k;rw[B]at a;cases b:o9 ks k with
  |none=>rw[b]at a;exact a.elim
  |some d=>
   rw[b]at a;exact zd ⟨w,rfl,d,H,I.kept (t':=s.toks+1) λ_ _ e=>e,a,q1 d b⟩
 ·have b:o9 ks k=U:=by
   have a:=c.val k;rw[C]at a;cases b:o9 ks k with
   |none=>rfl
   |some d=>rw[b]at a;exact a.elim
  have u:(B9 ks k y).length<=AA:=by have:=jO ks k y;omega
  have A:∃q,h'.get? l=Z q:=let ⟨q,_,_,hq,_⟩:=i;⟨q,hq⟩;exact zd ⟨g,rfl,y,_,zM (t':=s.toks+1) I (by rw[n];exact True.intro) hs A (Ol u o (c.put k j) i),j,q2 b⟩
def hx(h:A6)(a:A1):HO:=.ext λh'=>h'.get? a=h.get? a
def LD(o:Y HO):Prop:=(∃xs,o=Z (.lst xs))\/∃ks,o=Z (.dK ks)
def Db(as:O A1)(σ:L2.St)(ρ:Ev):Prop:=∀(j:Nat) c a,ρ[j]?=Z (Z c)->loose c=true->σ[j]?=Z (Z (.ref a))->a∉as
section
variable{H2:Hp}{as:O A1}
theorem aX.move{p H':Hp}(E:aX K Hb H σ ρ)(S:Db as σ ρ)(kp:Kp H H')(i:∀b,b∉as->H' b=H b)(u:AV p H')(t:∀(j:Nat) c a,ρ[j]?=Z (Z c)->pA c=true->σ[j]?=Z (Z (.ref a))->p a=U):aX K p H' σ ρ:=by
 refine⟨E.len,λj b e=>?_,E.own,u,t⟩;obtain⟨v,ev,h⟩:=E.val j b e;refine⟨v,ev,?_⟩;cases b with
 |z d=>exact AW.kp kp h
 |l s=>
  obtain⟨a,vs,rfl,q,f⟩:=h;have g:=i a (S j _ a e rfl ev);exact⟨a,vs,rfl,q.imp (λq=>g.trans q) λ⟨o,q⟩=>⟨o,g.trans q⟩,f.kp kp⟩
 |o s=>
  obtain⟨a,vs,rfl,q,f⟩:=h;exact⟨a,vs,rfl,(i a (S j _ a e rfl ev)).trans q,f.kp kp⟩
 |n s=>
  obtain⟨a,vs,rfl,q,f⟩:=h;have g:=i a (S j _ a e rfl ev);exact⟨a,vs,rfl,q.imp (λq=>g.trans q) λ⟨o,q⟩=>⟨o,g.trans q⟩,f.kp kp⟩
 |m s _=>
  obtain⟨a,vs,rfl,q,f⟩:=h;exact⟨a,vs,rfl,(i a (S j _ a e rfl ev)).trans q,f.1.kp kp,f.2⟩
end
theorem tH:∀{as:O A1} {H:Hp},L2.AU X AN σ H s->(∀a∈as,∃vs,H a=Z (.lst vs))->as.Nodup->∃H',L2.AU X AN σ H' s/\Kp H H'/\(∀b,b∉as->H' b=H b)/\∀a∈as,∃o vs,H a=Z (.lst vs)/\H' a=Z (.gF o (.lst vs))
 |[],H,I,_,_=>⟨H,I,⟨λ_ _ e=>e,λ_ _ _ e=>e⟩,λ_ _=>S,λ_ h=>by cases h⟩
 |a::as,H,I,h,nd=>by
  obtain⟨g,nd⟩:=bc.mp nd;obtain⟨vs,d⟩:=h a (ze ..);obtain⟨o,p⟩:=qd I d;have m:Kp H (B4 H a (.gF o (.lst vs))):=.lst d;obtain⟨H',n,l,h1,h2⟩:=tH (as:=as) p (λb c=>by
   obtain⟨i,e⟩:=h b (zg _ c);exact⟨i,by rw[aD (show b≠a from λz=>g (by rw[<-z];exact c))];exact e⟩) nd
  refine⟨H',n,⟨λb xs e=>l.t _ _ (m.t _ _ e),λb j u e=>l.f _ _ _ (m.f _ _ _ e)⟩,λb c=>?_,λb c=>?_⟩
  ·rw[h1 b λz=>c (zg _ z),aD (show b≠a from λz=>c (by rw[z];exact ze ..))]
  ·rcases List.mem_cons.mp c with rfl|c
   ·exact⟨o,vs,d,by rw[h1 _ g];exact aJ⟩
   ·obtain⟨j,i,e1,e2⟩:=h2 b c;rw[aD (show b≠a from λz=>g (by rw[<-z];exact c))]at e1;exact⟨j,i,e1,e2⟩
def SG(P:L2.St->Hp->Prop):L2.St->Hp->Prop:=λσ H=>∃as:O A1,as.Nodup/\(∀a∈as,∃vs,H a=Z (.lst vs))/\∀H',Kp H H'->(∀b,b∉as->H' b=H b)->(∀a∈as,∃o vs,H a=Z (.lst vs)/\H' a=Z (.gF o (.lst vs)))->P σ H'
theorem Rs{t:TS}(h:PS X st t):PS X st (λD σ H=>t { D with nx:=SG D.nx } σ H):=λAN s σ H D I q=>by
 refine fX (h AN s σ H _ I q) λf c q=>?_;cases f with
 |next=>
  obtain⟨σ',H',a,as,nd,k,q⟩:=q;obtain⟨H2,b,kp,h1,h2⟩:=tH a k nd;exact⟨σ',H2,b,q H2 kp h1 h2⟩
 |ret v=>exact q
 |brk=>exact q
 |cont=>exact q
def tK(m:O (Int×O α))(k:Int)(d:α):O (Int×O α):=if(m.any λq=>decide (q.1=k))=true then m.map λq=>if q.1=k then(q.1,q.2++[d])else q else m++[(k,[d])]
def Jm(k j:Nat)(f1:Ev->Y Bx)(p:Ev->Y Bool)(f2 fv:Ev->Y Bx)(ρ:Ev):O Dt->O (Int×O Dt)->Y (O (Int×O Dt))
 |[],m=>Z m
 |d::ds,m=>(f1 (ρ.set k (Z (.z d)))).bind λb1=>match b1 with
  |.z a=>(p ((ρ.set k (Z (.z d))).set j (Z (.z a)))).bind λt=>(if t=true then f2 ((ρ.set k (Z (.z d))).set j (Z (.z a)))else Z (.z a)).bind λb2=>match b2 with
   |.z (.int y)=>(fv (((ρ.set k (Z (.z d))).set j (Z (.z a))).set j (Z (.z (.int y))))).bind λv=>match v with
    |.z x=>if m.length<1000/\(∀q∈m,q.2.length<1000)then Jm k j f1 p f2 fv ρ ds (tK m y x)else U
    |_=>U
   |_=>U
  |_=>U
def Ck(i j k:Nat)(fi:Ev->Y (O Dt))(f1:Ev->Y Bx)(p:Ev->Y Bool)(f2 fv:Ev->Y Bx):Ev->Y An:=λρ=>match ρ[i]? with
 |some (Z (.m [] U))=>if j<ρ.length then(fi (((ρ.set i U).set j U).set k U)).bind λds=>(Jm k j f1 p f2 fv (((ρ.set i U).set j U).set k U) ds []).bind λm=>
  Z (.nx ((((ρ.set i U).set j U).set k U).set i (Z (.m (m.map λq=>(Sum.inl q.1,Dt.lst q.2)) U))))else U
 |_=>U
structure Gp (K:Au) (H:Hp) (D:Addr) (gs:List (Int×Addr×List Dt)):Prop where
 d:H D=some (.dK (gs.map λg=>(Sum.inl g.1,V.ref g.2.1)))
 l:∀g∈gs,∃vs,H g.2.1=some (.lst vs)/\aG K H g.2.2 vs
 k:(gs.map (·.1)).Nodup
 a:(gs.map (·.2.1)).Nodup
def Cm(D:A1)(gs:O (Int×A1×O Dt)):O A1:=D::gs.map (·.2.1)
def G9(gs:O (Int×A1×O Dt)):O (Int×O Dt):=gs.map λg=>(g.1,g.2.2)
theorem Gp.ld(G:Gp K H D gs):∀a∈Cm D gs,LD (H a):=λa b=>by
 rcases List.mem_cons.mp b with rfl|b
 ·exact .inr ⟨_,G.d⟩
 ·obtain⟨g,c,rfl⟩:=ax.mp b;obtain⟨vs,e,_⟩:=G.l g c;exact .inl ⟨vs,e⟩
theorem Gp.kept{H':Hp}(G:Gp K H D gs)(h:∀a∈Cm D gs,H' a=H a)(r:∀ds vs,aG K H ds vs->aG K H' ds vs):Gp K H' D gs:=
 ⟨(h D (ze ..)).trans G.d,λg b=>let ⟨vs,e,q⟩:=G.l g b;⟨vs,(h _ (zg _ (ax.mpr ⟨g,b,rfl⟩))).trans e,r _ _ q⟩,G.k,G.a⟩
theorem Gp.same{H':Hp}(G:Gp K H D gs)(s:AV H H'):Gp K H' D gs:=
 ⟨s _ _ G.d,λg b=>let ⟨vs,e,q⟩:=G.l g b;⟨vs,s _ _ e,q.kp (.of s)⟩,G.k,G.a⟩
theorem Gp.val{k:Int}:∀{w:V},o9 (gs.map λg=>((Sum.inl g.1:AY),V.ref g.2.1)) (Sum.inl k)=Z w->∃g∈gs,g.1=k/\w=.ref g.2.1:=by
 induction gs with
 |nil=>intro w e;cases e
 |cons g gs a=>
  intro w e;rw[zo]at e;by_cases hk:g.1=k
  ·rw[rW (by rw[hk])]at e;cases e;exact⟨g,ze ..,hk,rfl⟩
  ·rw[rY (by simpa using hk)]at e;obtain⟨c,h1,h2,b⟩:=a e;exact⟨c,zg _ h1,h2,b⟩
theorem NE{k:Int}:((G9 gs).any λq=>decide (q.1=k))=(o9 (gs.map λg=>((Sum.inl g.1:AY),V.ref g.2.1)) (Sum.inl k)).isSome:=by
 rw[<-wC,G9,yv,yv];congr 1;funext g;simp
section
variable{k:Int}{x:Dt}{u:V}
theorem xG{α β:Type}{f:α->β}:∀{xs:O α},(xs.map f).Nodup->∀{a b:α},a∈xs->b∈xs->f a=f b->a=b
 |y::ys,h,a,b,ha,hb,e=>by
  obtain⟨h1,h2⟩:=bc.mp (show(f y::ys.map f).Nodup from h);rcases List.mem_cons.mp ha with q|q<;>rcases List.mem_cons.mp hb with t|t
  ·rw[q,t]
  ·exact absurd (ax.mpr ⟨b,t,by rw[<-e,q]⟩) h1
  ·exact absurd (ax.mpr ⟨a,q,by rw[e,t]⟩) h1
  ·exact xG h2 q t e
def rA(gs:O (Int×A1×O Dt))(k:Int)(x:Dt):O (Int×A1×O Dt):=gs.map λg=>if g.1=k then(g.1,g.2.1,g.2.2++[x])else g
theorem Gp.app(G:Gp K H D gs){g:Int×A1×O Dt}(h:g∈gs)(hk:g.1=k)(i:H g.2.1=Z (.lst vs))(r:aG K H g.2.2 vs)(m:AW K H x u):
  Gp K (B4 H g.2.1 (.lst (vs++[u]))) D (rA gs k x)/\Cm D (rA gs k x)=Cm D gs/\G9 (rA gs k x)=tK (G9 gs) k x:=by
 have kp:Kp H (B4 H g.2.1 (.lst (vs++[u]))):=.lst i;have e1:(rA gs k x).map (·.1)=gs.map (·.1):=by unfold rA;rw[ZT];exact qq λg _=>by simp only[Function.comp];split<;>rfl
 have e2:(rA gs k x).map (·.2.1)=gs.map (·.2.1):=by unfold rA;rw[ZT];exact qq λg _=>by simp only[Function.comp];split<;>rfl
 have e3:((rA gs k x).map λg=>((Sum.inl g.1:AY),V.ref g.2.1))=gs.map λg=>(Sum.inl g.1,V.ref g.2.1):=by unfold rA;rw[ZT];exact qq λg _=>by simp only[Function.comp];split<;>rfl
 refine⟨⟨?_,λs o=>?_,by rw[e1];exact G.k,by rw[e2];exact G.a⟩,by unfold Cm;rw[e2],?_⟩
 ·rw[e3,aD (iZ G.d i (by intro z;cases z))];exact G.d
 ·obtain⟨c,e,rfl⟩:=ax.mp o;by_cases b:c.1=k
  ·have:c=g:=xG G.k e h (by rw[b,hk]);subst this;rw[zl b];exact⟨_,aJ,(r.append (aG.cons m aG.nil)).kp kp⟩
  ·rw[zD b];obtain⟨p,n,j⟩:=G.l c e;refine⟨p,?_,j.kp kp⟩;rw[aD λz=>b (by rw[xG (f:=λg:Int×A1×O Dt=>g.2.1) G.a e h z];exact hk)];exact n
 ·unfold tK;have:((G9 gs).any λq=>decide (q.1=k))=true:=List.any_eq_true.mpr ⟨(g.1,g.2.2),ax.mpr ⟨g,h,rfl⟩,by simpa using hk⟩;rw[zl this];unfold G9 rA;rw[ZT,ZT];exact qq λg _=>by simp only[Function.comp];split<;>rfl
theorem Gp.new(G:Gp K H D gs)(o:o9 (gs.map λg=>((Sum.inl g.1:AY),V.ref g.2.1)) (Sum.inl k)=U)(n:H l=Z (.lst []))(j:l∉Cm D gs):
  Gp K (B4 H D (.dK (B9 (gs.map λg=>(Sum.inl g.1,V.ref g.2.1)) (Sum.inl k) (.ref l)))) D (gs++[(k,l,[])]):=by
 have kp:Kp H (B4 H D (.dK (B9 (gs.map λg=>(Sum.inl g.1,V.ref g.2.1)) (Sum.inl k) (.ref l)))):=.dk G.d;have i:((gs.map λg=>((Sum.inl g.1:AY),V.ref g.2.1)).any λq=>decide (q.1=Sum.inl k))=false:=by rw[wC,o];rfl
 have m:l≠D:=λz=>j (by rw[z];exact ze ..);have p:k∉gs.map (·.1):=λz=>by
  obtain⟨g,c,e⟩:=ax.mp z;have:=gG.mp i _ (ax.mpr ⟨g,c,rfl⟩);simp only[QO]at this;exact this (by rw[e])
 refine⟨?_,λg c=>?_,?_,?_⟩
 ·rw[aJ,B9,zD (by rw[i];exact Zl),ZH];rfl
 ·rcases List.mem_append.mp c with c|c
  ·obtain⟨vs,e,r⟩:=G.l g c;exact⟨vs,by rw[aD λz=>by rw[z,G.d]at e;cases e];exact e,r.kp kp⟩
  ·cases az.mp c;exact⟨[],by rw[aD m];exact n,aG.nil⟩
 ·rw[ZH,QP];exact⟨G.k,by simp,λa f b h=>by cases az.mp h;exact λz=>p (by rw[z]at f;exact f)⟩
 ·rw[ZH,QP];exact⟨G.a,by simp,λa f b h=>by cases az.mp h;exact λz=>j (zg _ (by rw[z]at f;exact f))⟩
theorem Ym(b:o9 (gs.map λg=>((Sum.inl g.1:AY),V.ref g.2.1)) (Sum.inl k)=U):tK (G9 gs) k x=G9 (rA (gs++[(k,l,[])]) k x):=by
 have a:((G9 gs).any λq=>decide (q.1=k))=false:=by rw[NE,b];rfl
 unfold tK;rw[zD (by rw[a];exact Zl)];unfold G9 rA;rw[ZH,ZH];congr 1
 ·rw[ZT];refine qq λg c=>?_;have:=gG.mp a (g.1,g.2.2) (ax.mpr ⟨g,c,rfl⟩);simp only[QO]at this;simp only[Function.comp,zD this]
 ·simp
end
section
variable{e1 ev:Expr}{f2:Ev->Y Bx}{w:AJ}{pw py py2 py3 px p1 p3 p4 pl a1 a2 c1 c2:Pos}
def Yn(X:Cx)(i j:Nat)(fv:Ev->Y Bx):TE:=Da X.K "list" zL (Da X.K "dict" LO (uO i) (o7 (uO j) (o7 (GE Ag) Ag))) (o7 (tF X.K fv) Ag)
theorem WN{y:Hp}{f:L2.St}{m:Ev}{k:Int}{Q:L2.St->Hp->Prop}(F:aX X.K Hs y f m)(hj:m[j]?=Z (Z (.z (.int k))))(hi:f[i]?=Z (Z (.ref D)))(ev:fv m=Z (.z d))(G:Gp X.K y D gs)(C:∀a∈Cm D gs,Hs a=U)(S:Db (Cm D gs) f m)(hl:gs.length<1000)(b5:∀g∈gs,g.2.2.length<1000)(q:∀H' E,aX X.K Hs H' f m->Gp X.K H' D E->(∀a∈Cm D E,Hs a=U)->Db (Cm D E) f m->G9 E=tK (G9 gs) k d->Q f H'):Yn X i j fv f y (λ_ H'=>Q f H'):=by
 obtain⟨vk,b6,rk⟩:=F.val j _ hj;have rk:vk=.int k:=by simpa only[aW,AW]using rk
 subst rk;have sz:(1000:Nat)<AA:=by decide
 refine⟨_,hi,.inr (.inr (.inl ⟨rfl,.inl ⟨_,G.d⟩⟩)),_,b6,qh _,λl H=>?_⟩;have sl:AV y (B4 y l (.lst [])):=bw H;have x:=G.same sl;have p:=F.grow sl;refine⟨D,_,Sum.inl k,.ref l,rfl,rfl,x.d,by rw[zi];omega,λw hw=>?_,λhn=>?_⟩
 ·obtain⟨g,s,hk,rfl⟩:=Gp.val hw;obtain⟨vs,W,P⟩:=x.l g s;refine⟨.inl ⟨rfl,vs,.inl (.inl W)⟩,Hs,m,_,p,ev,λu I e n7 M=>?_⟩;have J:=x.same e;have n:=e _ _ W;have L:AW X.K I d u:=M;obtain⟨N,v,eM⟩:=J.app s hk n (P.kp (.of e)) L;refine⟨_,vs,u,rfl,rfl,n,by rw[P.length];have:=b5 g s;omega,q _ _ ?_ N (by rw[v];exact C) (by rw[v];exact S) eM⟩;have t:g.2.1∈Cm D gs:=zg _ (ax.mpr ⟨g,s,rfl⟩);exact(p.grow e).move (as:=[g.2.1]) (λj c a e1 e2 e3 z=>S j c a e1 e2 e3 (by rw[az.mp z];exact t)) (.lst n) (λb A=>aD λz=>A (by rw[z];simp)) (λb o eb=>by
   rw[aD λz=>by rw[z,C _ t]at eb;cases eb];exact(p.grow e).base b o eb) p.new
 ·have b0:l∉Cm D gs:=λz=>by
   have:=G.ld l z;rcases this with⟨_,q⟩|⟨_,q⟩<;>(rw[H]at q;cases q)
  have J:=x.new hn aJ b0;have B:=p.move (as:=[D]) (λj c a e1 e2 e3 z=>S j c a e1 e2 e3 (by rw[az.mp z];exact ze ..)) (.dk x.d) (λb A=>aD (o:=.dK (B9 (gs.map λg=>(Sum.inl g.1,V.ref g.2.1)) (Sum.inl k) (.ref l))) λz=>A (by rw[z];simp)) (λb o eb=>by
   rw[aD λz=>by rw[z,C _ (ze ..)]at eb;cases eb];exact p.base b o eb) p.new
  have a5:l≠D:=λz=>b0 (by rw[z];exact ze ..);refine⟨.inl ⟨rfl,[],.inl (.inl (by rw[aD a5];exact aJ))⟩,Hs,m,_,B,ev,λu I e n7 M=>?_⟩;have N:=J.same e;have L:AW X.K I d u:=M;have s:(k,l,([]:O Dt))∈gs++[(k,l,[])]:=ZA _ (az.mpr rfl);have n:I l=Z (.lst []):=e _ _ (by rw[aD a5];exact aJ);obtain⟨G4,v,eM⟩:=N.app s rfl n aG.nil L;have b4:Hs l=U:=F.base.free H;have Yo:∀(j:Nat) c a,m[j]?=Z (Z c)->loose c=true->f[j]?=Z (Z (.ref a))->a≠l:=λj c a e1 e2 e3 z=>CO F j c a e1 e2 e3 (by rw[z];exact H);have a3:∀{a:A1},a∈Cm D (gs++[(k,l,[])])->a∈Cm D gs\/a=l:=λ{a} h=>by
   unfold Cm at h ⊢;rw[ZH]at h;rcases List.mem_cons.mp h with z|z
   ·exact .inl (by rw[z];exact ze ..)
   ·rcases List.mem_append.mp z with z|z
    ·exact .inl (zg _ z)
    ·exact .inr (by simpa using z)
  refine⟨l,[],u,rfl,rfl,n,ZN (Nat.zero_lt_succ _) (Q2 sz),q _ _ ?_ G4 (by rw[v];exact λa t=>(a3 t).elim (C a) λz=>by rw[z];exact b4) (by rw[v];exact λj c a e1 e2 e3 t=>(a3 t).elim (S j c a e1 e2 e3) (Yo j c a e1 e2 e3)) (Ym (l:=l) hn).symm⟩;exact(B.grow e).move (as:=[l]) (λj c a e1 e2 e3 z=>Yo j c a e1 e2 e3 (az.mp z)) (.lst n) (λb A=>aD λz=>A (by rw[z];simp)) (λb o eb=>by
   rw[aD λz=>by rw[z,b4]at eb;cases eb];exact(B.grow e).base b o eb) B.new
theorem Jo{q:Nat}(h:(ρ.set i U)[q]?=Z (Z b)):q≠i/\ρ[q]?=Z (Z b):=by
 rcases B5 h with⟨_,z,_⟩|⟨h1,h2⟩
 ·cases z
 ·exact⟨h1,h2⟩
theorem Yp(i j k:Nat)(hp:PassesOwn (bi X) X.A X.env X.xe)(hc:X.calm=true)(hN:X.N.Nodup)(hi:Do X (.Name w pw) iter fi)(h1:QV X e1 f1)(e9:QB X c p)(h2:QV X e2 f2)(hv:QV X ev fv)
  (d6:i≠j:=by decide) (d2:i≠k:=by decide) (h7:j≠k:=by decide) (xi:X.N[i]?=Z x:=by rfl) (xj:X.N[j]?=Z y:=by rfl) (xk:X.N[k]?=Z w:=by rfl)
  (vi:Q0 X.env.scope x:=by first|exact JE rfl|exact QQ (JE rfl)|exact QQ (QQ rfl)) (vj:Q0 X.env.scope y:=by first|exact JE rfl|exact QQ (JE rfl)|exact QQ (QQ rfl))
  (lj:D0 X.env.scope y:=by first|exact JE rfl|exact QQ rfl) (lk:D0 X.env.scope w:=by first|exact JE rfl|exact QQ rfl)
  (fj:X.fn y=true\/X.env.scope.names.lookup y=Z .local:=by first|exact .inl rfl|exact .inr rfl) (fk:X.fn w=true\/X.env.scope.names.lookup w=Z .local:=by first|exact .inl rfl|exact .inr rfl)
  (dx:be x:=by decide) (cx:(x==("__classdict__":AJ))=false:=by decide) (dy:be y:=by decide) (cy:(y==("__classdict__":AJ))=false:=by decide)
  (hs:∀z,foldedSetIterable iter X.env z=pure z:=by intro _;rfl) (s1:swapsWith e1 (Z (.Name y py)) p1.line X.env=pure false:=by rfl) (s2:swapsWith e2 (Z (.Name y py2)) p2.line X.env=pure false:=by rfl)
  (c9:A9 [.Name y py3,.List [] pl] X.env=[(false,eval (.Name y py3) X.env),(false,eval (.List [] pl) X.env)]:=by rfl) (c6:A9 [ev] X.env=[(false,eval ev X.env)]:=by rfl)
  (f0:attributeBase (.Name x px) "setdefault" X.env (eval (.Name x px) X.env)=eval (.Name x px) X.env:=by rfl)
  (f7:attributeBase (.Call (.Attribute (.Name x px) "setdefault" a1) [.Name y py3,.List [] pl] [] c1) "append" X.env (eval (.Call (.Attribute (.Name x px) "setdefault" a1) [.Name y py3,.List [] pl] [] c1) X.env)=eval (.Call (.Attribute (.Name x px) "setdefault" a1) [.Name y py3,.List [] pl] [] c1) X.env:=by rfl)
  (h0:((AD c1 (A9 [.Name y py3,.List [] pl] X.env)).all (λx=>!x.1)&&(backToKw c1 (keywordEach [] X.env)).all (λx=>x.1.isSome)&&decide ([Expr.Name y py3,.List [] pl].length+([]:O AC).length+(if([]:O AC).isEmpty then 0 else 1)<30))=true:=by rfl)
  (f8:((AD c2 (A9 [ev] X.env)).all (λx=>!x.1)&&(backToKw c2 (keywordEach [] X.env)).all (λx=>x.1.isSome)&&decide ([ev].length+([]:O AC).length+(if([]:O AC).isEmpty then 0 else 1)<30))=true:=by rfl)
  (f5:(a1.endLine==c1.line)=true:=by rfl) (f3:(a2.endLine==c2.line)=true:=by rfl)
  (s4:swapsWith (.Call (.Attribute (.Call (.Attribute (.Name x px) "setdefault" a1) [.Name y py3,.List [] pl] [] c1) "append" a2) [ev] [] c2) U p4.line X.env=pure false:=by rfl):
  NQ X (.For (.Name w pw) iter [.Assign [.Name y py] e1 p1,.If c [.Assign [.Name y py2] e2 p2] [] p3,.Expr (.Call (.Attribute (.Call (.Attribute (.Name x px) "setdefault" a1) [.Name y py3,.List [] pl] [] c1) "append" a2) [ev] [] c2) p4] [] pos) (Ck i j k fi f1 p f2 fv):=by
 have e8:PE X (.Call (.Attribute (.Call (.Attribute (.Name x px) "setdefault" a1) [.Name y py3,.List [] pl] [] c1) "append" a2) [ev] [] c2) (Yn X i j fv):=
  yK Jn Kk Kj lY
   (yK PySem.F.plainAttrs_dict PySem.F.slot_dict_setdefault PySem.F.type_dict_setdefault OS (fV (i:=i) xi vi dx cx) (dR (fV (i:=j) xj vj dy cy) (dR (Od jc) jc rfl) (by rw[c9]<;>rfl)) f0 h0 f5 (by rw[c9]<;>rfl) rfl)
   (dR hv.run jc (by rw[c6]<;>rfl)) f7 f8 f3 (by rw[c6]<;>rfl) rfl
 refine⟨Rj (Rs (Hw hp hc hi.run (L2.um hN xk lk fk) (eX (Ae (pos:=p1) (pos':=py) hN xj lj h1.run s1 fj) (eX (Q8 (pos:=p3) e9.run (Q7 (Ae (pos:=p2) (pos':=py2) hN xj lj h2.run s2 fj)) nM) (Q7 (pZ e8 s4)))) hs)) λDe σ H h=>?_⟩;obtain⟨H0,ρ,r,E,e,q⟩:=h;unfold Ck at e;split at e
 ·rename_i W;split at e;rotate_left
  ·cases e
  rename_i h3;obtain⟨ds,ed,e⟩:=AT e;obtain⟨m,em,e⟩:=AT e;cases e;obtain⟨v,P,D,ks,rfl,hD,rm,_⟩:=E.val i _ W;have e7:ks=[]:=bj.mp (by rw[rm.len];rfl);subst e7;have h5:i<ρ.length:=(ba.mp W).1;have fr:∀(q:Nat) b,(((ρ.set i U).set j U).set k U)[q]?=Z (Z b)->q≠i/\q≠j/\q≠k/\ρ[q]?=Z (Z b):=λq b e=>by
   obtain⟨f,e⟩:=Jo e;obtain⟨B,e⟩:=Jo e;obtain⟨n3,e⟩:=Jo e;exact⟨n3,B,f,e⟩
  have g7:(((ρ.set i U).set j U).set k U).length=ρ.length:=by simp
  generalize ((ρ.set i U).set j U).set k U=ρ0 at *
  have E0:aX X.K H0 H σ ρ0:=E.forget g7.symm λq b e=>(fr q b e).2.2.2;refine⟨H0,ρ0,ds,E0,ed,λJ H1 e4 y=>?_⟩;have E1:=E0.grow e4;have b6:=e4 _ _ hD;have c4:∀(q:Nat) c a,ρ0[q]?=Z (Z c)->loose c=true->σ[q]?=Z (Z (.ref a))->a≠D:=λq c a e1 e2 e3 z=>by
   subst z;obtain⟨f,_,_,e⟩:=fr q c e1;exact f (E.own i q _ a c W rfl P e e2 e3).symm
  have Y:B0 X.K J ds (pI (cQ H1 σ ρ0) D):=by
   refine y _ (qg.trans kZ) (λa C=>?_) (λa o u C=>?_) λa vs C=>?_
   ·rw[je λz=>by rw[z,hD]at C;cases C];unfold cQ;rw[zD];rintro⟨q,c,e1,ec,e2⟩;obtain⟨v,e3,rc⟩:=E0.val q _ e1;exact CO E0 q c a e1 (by cases c<;>first|rfl|cases ec) e2 C
   ·rw[je λz=>by rw[z,b6]at C;cases C];exact dU E1 (λvs z=>by rw[C]at z;cases z) λvs z=>by rw[C]at z;cases z
   ·rw[je λz=>by rw[z,b6]at C;cases C];exact dU E1 (λvs z=>by rw[C]at z;cases z) λvs z=>by rw[C]at z;cases z
  have sub:AV H0 (pI (cQ H1 σ ρ0) D):=λb o eb=>by
   rw[je λz=>by rw[z,E.new i _ D W rfl P]at eb;cases eb];exact E1.sub b o eb
  have ES:aX X.K (pI (cQ H1 σ ρ0) D) H1 σ ρ0:=by
   have:=E1.sans;exact⟨this.len,this.val,this.own,qg.trans kZ,λq c a e1 ec e2=>by
    unfold pI;split
    ·rfl
    ·exact this.new q c a e1 ec e2⟩
  generalize d0:pI (cQ H1 σ ρ0) D=Hs at Y sub ES;have g0:Hs D=U:=by rw[<-d0];exact zl rfl
  clear d0;refine⟨λn m' σ' H'=>m'=ds.length-n/\n<=ds.length/\(∀q,q≠j->q≠k->σ'[q]?=σ[q]?)/\∃gs,aX X.K Hs H' σ' ρ0/\Gp X.K H' D gs/\(∀a∈Cm D gs,Hs a=U)/\Db (Cm D gs) σ ρ0/\Jm k j f1 p f2 fv ρ0 (ds.drop n) (G9 gs)=Z m,⟨ds.length,by simp,qh _,λ_ _ _=>rfl,[],ES,⟨b6,λg L=>(by cases L),JP,JP⟩,λa C=>by rw[az.mp C];exact g0,λq c a e1 e2 e3 z=>c4 q c a e1 e2 e3 (az.mp z),em⟩,?_⟩;rintro n m' σ' H' ⟨rfl,hn,b7,gs,E',G,d5,S,s⟩;obtain⟨y1,y2⟩:=Y n H' E'.base;by_cases b8:n<ds.length
  ·right;have hd:ds[n]?=Z ds[n]:=by simp[b8]
   obtain⟨go,yl⟩:=y1 _ hd;rw[y3 b8]at s;simp only[Jm]at s;obtain⟨b1,e6,s⟩:=AT s;refine⟨go,λc5 H2=>(∀q,q≠j->q≠k->c5[q]?=σ[q]?)/\∃gs,aX X.K Hs H2 c5 ρ0/\Gp X.K H2 D gs/\(∀a∈Cm D gs,Hs a=U)/\Db (Cm D gs) σ ρ0/\Jm k j f1 p f2 fv ρ0 (ds.drop (n+1)) (G9 gs)=Z m,λc5 H2 ⟨z1,z2⟩=>⟨ds.length-(n+1),by omega,rfl,b8,z1,z2⟩,λxv H2 yy=>?_⟩;obtain⟨d4,rx⟩:=yl xv H2 yy;have Ek:aX X.K Hs H2 (σ'.set k (Z xv)) (ρ0.set k (Z (.z ds[n]))):=(E'.grow d4).set (b:=.z ds[n]) (AV.refl H2) rx (.inr rfl) trivial;cases b1 with
   |z d1=>
    obtain⟨t,et,s⟩:=AT s;obtain⟨b2,b5,s⟩:=AT s;refine⟨Hs,_,_,Ek,e6,λv1 H3 s3 n3 r3=>?_⟩;have E3:aX X.K Hs H3 ((σ'.set k (Z xv)).set j (Z v1)) ((ρ0.set k (Z (.z ds[n]))).set j (Z (.z d1))):=Ek.set (b:=.z d1) s3 r3 (.inr rfl) trivial;have G3:=(G.same d4).same s3;split at s
    ·rename_i yk;obtain⟨v,f4,s⟩:=AT s;split at s
     ·rename_i xd;split at s
      ·rename_i d3;have c8:∀I H5,aX X.K Hs H5 I (((ρ0.set k (Z (.z ds[n]))).set j (Z (.z d1))).set j (Z (.z (.int yk))))->AV H3 H5->(∀q,q≠j->q≠k->I[q]?=σ'[q]?)->Yn X i j fv I H5 (λ_ H'=>(∀q,q≠j->q≠k->I[q]?=σ[q]?)/\∃gs,aX X.K Hs H' I ρ0/\Gp X.K H' D gs/\(∀a∈Cm D gs,Hs a=U)/\Db (Cm D gs) σ ρ0/\Jm k j f1 p f2 fv ρ0 (ds.drop (n+1)) (G9 gs)=Z m):=λI H5 E5 s5 a5=>by
        have ag:∀q,q≠j->q≠k->I[q]?=σ[q]?:=λq f B=>(a5 q f B).trans (b7 q f B);have up:∀(q:Nat) b,ρ0[q]?=Z (Z b)->(((ρ0.set k (Z (.z ds[n]))).set j (Z (.z d1))).set j (Z (.z (.int yk))))[q]?=Z (Z b):=λq b e=>by
         obtain⟨_,f,B,_⟩:=fr q b e;rw[pF _ f,pF _ f,pF _ B];exact e
        have dn:∀(q:Nat) b,loose b=true->(((ρ0.set k (Z (.z ds[n]))).set j (Z (.z d1))).set j (Z (.z (.int yk))))[q]?=Z (Z b)->ρ0[q]?=Z (Z b):=λq b hl e=>by
         rcases B5 e with⟨_,z,_⟩|⟨_,e⟩
         ·cases z;cases hl
         ·rcases B5 e with⟨_,z,_⟩|⟨_,e⟩
          ·cases z;cases hl
          ·rcases B5 e with⟨_,z,_⟩|⟨_,e⟩
           ·cases z;cases hl
           ·exact e
        refine WN (Q:=λI H'=>(∀q,q≠j->q≠k->I[q]?=σ[q]?)/\∃gs,aX X.K Hs H' I ρ0/\Gp X.K H' D gs/\(∀a∈Cm D gs,Hs a=U)/\Db (Cm D gs) σ ρ0/\Jm k j f1 p f2 fv ρ0 (ds.drop (n+1)) (G9 gs)=Z m) E5 (xY _ (by simp;omega)) ((ag i d6 d2).trans P) f4 (G3.same s5) d5 (λq c a e1 e2 e3=>?_) (by have:=d3.1;simpa[G9]using this) (λg L=>d3.2 _ (ax.mpr ⟨g,L,rfl⟩)) λH6 M E6 G6 h6 S6 eM=>⟨ag,M,E6.forget (by simp) up,G6,h6,λq c a e1 e2 e3=>?_,by rw[eM];exact s⟩
        ·have e0:=dn q c e2 e1;obtain⟨_,f,B,_⟩:=fr q c e0;exact S q c a e0 e2 (by rw[<-ag q f B];exact e3)
        ·obtain⟨_,f,B,_⟩:=fr q c e1;exact S6 q c a (up q c e1) e2 (by rw[ag q f B];exact e3)
       have a3:∀q,q≠j->q≠k->((σ'.set k (Z xv)).set j (Z v1))[q]?=σ'[q]?:=λq f B=>by rw[pF _ f,pF _ B]
       refine⟨Hs,_,t,E3,et,λH4 b0=>?_⟩;cases t with
       |true=>
        rw[zl rfl]at b5 ⊢;refine⟨Hs,_,_,E3.grow b0,b5,λv2 H5 s5 n5 r5=>?_⟩;exact c8 _ _ ((E3.grow b0).set (b:=.z (.int yk)) s5 r5 (.inr rfl) trivial) (b0.trans s5) λq f B=>by rw[pF _ f];exact a3 q f B
       |false=>
        rw[zD Zl]at b5 ⊢;cases b5;exact c8 _ _ (by rw[List.set_set];exact E3.grow b0) b0 a3
      ·cases s
     ·cases s
    ·cases s
   |l _=>cases s
   |o _=>cases s
   |n _=>cases s
   |m _ _=>cases s
  ·left;have e5:ds.length<=n:=by omega
   rw[cK e5]at s;cases s;refine⟨y2 e5,gs.map (·.2.1),G.a,λa C=>?_,λH2 kp o1 o2=>?_⟩
   ·obtain⟨g,L,rfl⟩:=ax.mp C;obtain⟨vs,e,_⟩:=G.l g L;exact⟨vs,e⟩
   ·have b9:∀(q:Nat) c,ρ0[q]?=Z (Z c)->σ'[q]?=σ[q]?:=λq c e=>let ⟨_,f,B,_⟩:=fr q c e;b7 q f B;have g9:D∉gs.map (·.2.1):=λz=>by
     obtain⟨g,L,e⟩:=ax.mp z;obtain⟨vs,e2,_⟩:=G.l g L;rw[e,G.d]at e2;cases e2
    have E2:aX X.K H0 H2 σ' ρ0:=E'.move (as:=gs.map (·.2.1)) (λq c a e1 e2 e3 z=>S q c a e1 e2 (by rw[<-b9 q c e1];exact e3) (zg _ z)) kp o1 (λb o eb=>by
     have c3:=sub b o eb;rw[o1 b λz=>by rw[d5 b (zg _ z)]at c3;cases c3];exact E'.base b o c3) λq c a e1 ec e2=>sub.free (E'.new q c a e1 ec e2)
    have b4:σ'[i]?=Z (Z (.ref D)):=(b7 i d6 d2).trans P;have rD:aW X.K H2 (.m ((G9 gs).map λq=>(Sum.inl q.1,Dt.lst q.2)) U) (.ref D):=by
     refine⟨D,_,rfl,(o1 D g9).trans G.d,⟨?_,?_,?_⟩,λb h=>by cases h⟩
     ·unfold G9;rw[ZT,ZT,ZT];rfl
     ·have:∀M:O (Int×A1×O Dt),(∀g∈M,g∈gs)->aG X.K H2 (((G9 M).map λq=>((Sum.inl q.1:AY),Dt.lst q.2)).map (·.2)) ((M.map λg=>((Sum.inl g.1:AY),V.ref g.2.1)).map (·.2)):=by
       intro M
       induction M with
       |nil=>intro _;exact aG.nil
       |cons g M ih=>
        intro h;refine aG.cons ?_ (ih λg L=>h g (zg _ L));obtain⟨vs,e1,r1⟩:=G.l g (h g (ze ..));obtain⟨o,h4,e2,e3⟩:=o2 g.2.1 (ax.mpr ⟨g,h g (ze ..),rfl⟩);rw[e1]at e2;cases e2;simp only[AW];exact⟨g.2.1,vs,rfl,.inl ⟨o,e3⟩,r1.kp kp⟩
      exact this gs λ_ h=>h
     ·intro pr f6;obtain⟨g,_,rfl⟩:=ax.mp f6;trivial
    refine q σ' H2 ⟨by rw[qv];exact E2.len,λq b e=>?_,λq1 q2 c a b g1 g2 g3 g4 g5 g6=>?_,E2.base,λq c a g1 g2 g3=>?_⟩
    ·rcases B5 e with⟨rfl,z,_⟩|⟨f,e⟩
     ·cases z;exact⟨_,b4,rD⟩
     ·exact E2.val q b e
    ·rcases B5 g1 with⟨rfl,z,_⟩|⟨f,k1⟩
     ·cases z;rw[b4]at g3;cases g3;rcases B5 g4 with⟨rfl,_,_⟩|⟨B,k4⟩
      ·rfl
      ·exact absurd rfl (c4 q2 b _ k4 g5 (by rw[<-b9 q2 b k4];exact g6))
     ·rcases B5 g4 with⟨rfl,z,_⟩|⟨B,k4⟩
      ·cases z;rw[b4]at g6;cases g6;exact absurd rfl (c4 q1 c _ k1 (by cases c<;>first|rfl|cases g2) (by rw[<-b9 q1 c k1];exact g3))
      ·exact E2.own q1 q2 c a b k1 g2 g3 k4 g5 g6
    ·rcases B5 g1 with⟨rfl,z,_⟩|⟨f,g1⟩
     ·rw[b4]at g3;cases g3;exact E.new _ _ _ W rfl P
     ·exact E2.new q c a g1 g2 g3
 ·cases e
end
end P1
namespace P1
open L2 S6
section
variable{kx vx t1 i1 t2 i2:Expr}{f1 f2:O Expr}{g1 g2:Dt->Ev->Y Ev}{p1 p2:Ev->Y Bool}{fi1 fi2:Ev->Y (O Dt)}{m:Nat}
end
end P1
namespace P1
open L2
section
variable{e:α->Dt}{e0:β->Dt}{fd f2:Ev->Y Bx}{kk:Ev->Y An}{cO:γ->An}
abbrev mI(e:α->Dt):O (Int×α)->Bx:=λm=>.m (m.map λq=>(kI q.1,e q.2)) U
abbrev nI(e:α->Dt):O (Int×α)->Bx:=λm=>.n (m.map λq=>(kI q.1,e q.2))
def OI(e:α->Dt):R (λ_=>Z (.m [] U)) ρ (mI e):=⟨[],U,λ_=>S⟩
def Pe[Inhabited α](a:R fa ρ (nI e))(b:R fb ρ (zE eI)):R (b2 nR fa fb) ρ (zE e):=⟨look a.v b.v,aV (aV a.D b.D) (Z (has a.v b.v=true)),λh=>by
 obtain⟨h,d⟩:=aq h;obtain⟨h1,h2⟩:=aq h;simp only[b2,a.ok h1,b.ok h2,Ap,nR,Ch,Ls (c:=kI) (show has a.v b.v=true from d)]⟩
def SK(a:R fd ρ (nI e)):R (yU fd) ρ (iE eI):=⟨a.v.map (·.1),a.D,λh=>by
 simp only[yU,a.ok h,Ap,CM,ZT];rfl⟩
def Mg(k:β->Int)(v:β->α)(xs:O β):O (Int×O α):=xs.foldl (λm x=>tK m (k x) (v x)) []
theorem Yq(m:O (Int×O α))(k:Int)(x:α):tK (m.map λq=>(q.1,q.2.map e)) k (e x)=(tK m k x).map λq=>(q.1,q.2.map e):=by
 unfold tK;rw[yv];simp only[Function.comp_def];by_cases h:(m.any λq=>decide (q.1=k))=true
 ·rw[zl h,zl h,ZT,ZT];refine qq λq _=>?_;simp only[Function.comp];split<;>simp
 ·rw[zD h,zD h];simp
theorem Yr(m:O (Int×O α))(k:Int)(x:α)(n:Nat)(h:m.length<=n/\∀q∈m,q.2.length<=n):(tK m k x).length<=n+1/\∀q∈tK m k x,q.2.length<=n+1:=by
 unfold tK;split
 ·refine⟨by rw[zi];omega,λq a=>?_⟩;obtain⟨b,h',rfl⟩:=ax.mp a;have:=h.2 b h';split
  ·simp;omega
  ·omega
 ·refine⟨by simp;omega,λq a=>?_⟩;rcases List.mem_append.mp a with a|a
  ·have:=h.2 q a;omega
  ·cases az.mp a;simp
theorem Ys{k j:Nat}{K:β->Int}{V:β->α}:∀(xs:O β) (m:O (Int×O α)) (n:Nat),(∀x∈xs,∃y1 t,f1 (ρ.set k (Z (.z (e0 x))))=Z (.z (.int y1))/\p ((ρ.set k (Z (.z (e0 x)))).set j (Z (.z (.int y1))))=Z t/\(if t=true then f2 ((ρ.set k (Z (.z (e0 x)))).set j (Z (.z (.int y1))))else Z (.z (.int y1)))=Z (.z (.int (K x)))/\fv (((ρ.set k (Z (.z (e0 x)))).set j (Z (.z (.int y1)))).set j (Z (.z (.int (K x)))))=Z (.z (e (V x)))) →
  (m.length<=n/\∀q∈m,q.2.length<=n)->n+xs.length<1000->Jm k j f1 p f2 fv ρ (xs.map e0) (m.map λq=>(q.1,q.2.map e))=Z ((xs.foldl (λm x=>tK m (K x) (V x)) m).map λq=>(q.1,q.2.map e))
 |[],m,n,_,_,_=>rfl
 |x::xs,m,n,h,hm,hl=>by
  obtain⟨y1,t,h1,h2,b,f⟩:=h x (ze ..);rw[zo,Qb];simp only[Jm,h1,Ap,h2,b,f];simp only[Zp]at hl;rw[zl ⟨by rw[zi];have:=hm.1;omega,λq d=>by
   obtain⟨c,h',rfl⟩:=ax.mp d;have:=hm.2 c h';simp only[zi];omega⟩,Yq]
  exact Ys xs _ (n+1) (λy a=>h y (zg _ a)) (Yr m _ _ n hm) ()
def WA(i j k:Nat)(g:O (Int×O α))(hi:ρ[i]?=Z (Z (mI (eL e) g)))(t:j<ρ.length){ρ0:Ev}(w:((ρ.set i U).set j U).set k U=ρ0)(it:R fi ρ0 (iE e0))(a:∀x,R f1 (ρ0.set k (Z (.z (e0 x)))) (zE eI))(c:∀x (y:Int),R p ((ρ0.set k (Z (.z (e0 x)))).set j (Z (.z (.int y)))) tE)(b:∀x (y:Int),R f2 ((ρ0.set k (Z (.z (e0 x)))).set j (Z (.z (.int y)))) (zE eI))
  (v:∀x (y1 y:Int),R fv (((ρ0.set k (Z (.z (e0 x)))).set j (Z (.z (.int y1)))).set j (Z (.z (.int y)))) (zE e)) (K:∀m:O (Int×O α),R kk (ρ0.set i (Z (mI (eL e) m))) cO):R (aF (Ck i j k fi f1 p f2 fv) kk) ρ cO:=
 let d:=λx=>if(c x (a x).v).v=true then(b x (a x).v).v else(a x).v
 ⟨(K (Mg d (λx=>(v x (a x).v (d x)).v) it.v)).v,aV (aV (aV (aV (Z (g=[])) it.D) (Z (it.v.length<1000))) (Yg it.v λx=>aV (a x).D (aV (c x (a x).v).D (aV (yr ((c x (a x).v).v=true) (b x (a x).v).D) (v x (a x).v (d x)).D)))) (K (Mg d (λx=>(v x (a x).v (d x)).v) it.v)).D,λB=>by
 obtain⟨h,C⟩:=aq B;obtain⟨h,o⟩:=aq h;obtain⟨h',h2⟩:=aq h;obtain⟨n,h1⟩:=aq h';have n:g=[]:=n;rw[n]at hi;have h2:it.v.length<1000:=h2;have o:∀x∈it.v,hold (aV (a x).D (aV (c x (a x).v).D (aV (yr ((c x (a x).v).v=true) (b x (a x).v).D) (v x (a x).v (d x)).D))):=o;rw[gU (ρ':=ρ0.set i (Z (mI (eL e) (Mg d (λx=>(v x (a x).v (d x)).v) it.v)))) (by
  unfold Ck;rw[show ρ[i]?=Z (Z (Bx.m [] U)) from hi];simp only[zl t,w,it.ok h1,Ap];have:=Ys (ρ:=ρ0) (k:=k) (j:=j) (f1:=f1) (p:=p) (f2:=f2) (fv:=fv) (e:=e) (e0:=e0) (K:=d) (V:=λx=>(v x (a x).v (d x)).v) it.v [] 0 (λx hx=>by
   obtain⟨A,d2⟩:=aq (o x hx);obtain⟨d2,l⟩:=aq d2;obtain⟨l,s⟩:=aq l;refine⟨(a x).v,(c x (a x).v).v,(a x).ok A,(c x (a x).v).ok d2,?_,(v x (a x).v (d x)).ok s⟩;by_cases f:(c x (a x).v).v=true
   ·rw[zl f,(b x (a x).v).ok (gZ l f)];simp only[d,zl f]
   ·rw[zD f];simp only[d,zD f]) ⟨zk _,λq u=>by cases u⟩ (by simpa using h2)
  rw[kA]at this;rw[show(iE e0) it.v=it.v.map e0 from rfl,this,Ap];congr 5;rw[ZT];rfl)]
 exact(K _).ok C⟩
end
section
variable{e:α->Dt}{fs:Ev->Y (O Dt)}
end
section
variable{a:Expr}
end
theorem cW{bs:O Bx}{c:α->Bx}{v:α}{D:Y Prop}(x:RP g (bs.map Z++ay (n-bs.length) U) (λr=>An.rt (c r)) v D)(h:hold D):dM n g bs=Z (c v):=TC x.r h
section
variable{e:α->Dt}
end
open PySem.Builtin PySem.Builtin.Str
section
variable{o:Expr}{fx:Ev->Y Bx}
end
section
variable{g:Ev->Y AJ}
end
section
variable{e1 e3:Expr}{gr:Ev->Y An}{fx:Ev->Y Dt}{tR tQ:TS}{xr xj y1 y2:AJ}{AS no:O AB}{kk:Nat}{p0 p00 p01 p02 q1 q2 pt pj pa px pb pif pf2 px3 a1 c1 pe1 pr a2 pj2 c2 pe2:Pos}
end
section
variable{e:α->Dt}{ea:β->Dt}{eb:δ->Dt}{kk:Ev->Y An}{cO:γ->An}
end
end P1
namespace P1
open L2 S1
section
variable{k:Nat}{f:A1}{p:Pos}
end
end P1
namespace P1
open L2 S1 S6
theorem He{p:O α->Prop}(h:p []):∀us:O α,us.length=0->p us
 |[],_=>h
section
variable{e:α->Dt}{g:Ev->Y Bx}{c:α->Bx}
end
def BD(i:Int):R (cB (.int i)) ρ (zE eI):=yV (.int i) eI i rfl
def Vo(s:AJ):R (cB (.str s)) ρ (zE eS):=yV (.str s) eS s rfl
abbrev Nn(K:Au)(n:AJ)(f:A1):Prop:=PySem.W.nsIn K mainGlobals n=Z (Z (.ref f))
abbrev Lk(K:Au)(f:A1)(n:AJ)(st:AB)(a:A0)(c:Y A1)(sl:Array (Y A0))(kV d pm:A0)(e:Y A1)(b ct:A0):Prop:=K.lookup f=Z ⟨a,c,.func (fnOf n n (p7 st) (gJ st) (aO st) .none kV d pm e b ct),sl⟩
end P1
namespace P1
open L2
section
variable{e:α->Dt}
end
section
variable{Ex:B7}{outer:O Env}{L e T:A1}{C fl:A0}{dx:Y A1}
end
section
variable{H':Hp}{h':A6}{ch:O A1}
end
section
variable{g:Array GenState}{d:Drawn}{t:Nat}{fI e:A1}{AS:O A0}{B:String}
end
section
variable{g:Array GenState}{d:Drawn}{t:Nat}{e:A1}
end
section
variable{g:Array GenState}{d:Drawn}{t:Nat}{e dx:A1}{v:A0}{vs:Array A0}{sl:Array (Y A0)}{m:AJ->Y A0}
end
section
variable{o value:Expr}{tv:TE}{f:AJ}{pos' p:Pos}{B:String}{t:TA}
end
section
variable{f:AJ}{p:Pos}{B:String}
end
section
variable{E:XK}
end
section
variable{Cn f:A1}{iv iy k:Nat}{n cn:AJ}{np hp p py pa:Pos}{b0:AB}{suite:O AB}{ts:A1->TS}{tf:TE}{t:TA}
end
section
variable{d:A1}{fs:O (AJ×V)}{f:AJ}{o:Expr}
end
section
variable{f:AJ}{E:XK}{gy:Ev->Y Dt}{p:Pos}{AS a b:O AB}{B:String}{pc:Ev->Y Bool}
end
section
variable{k:Nat}{f h:A1}{fs:Ev->Y (O Bx)}{p q:Pos}
end
end P1
namespace P1
open L2 S6
section
variable{se:Expr}{fS:Ev->Y AZ}{fx:Ev->Y Dt}{no AS:O AB}{tR tQ:TS}{p0 p02 px pb pif pk:Pos}{f:AJ}{E:XK}
end
end P1
namespace P1
open L2
section
variable{e1 e3:Expr}{gr:Ev->Y An}{xr xj y1 y2:AJ}{AS no:O AB}{kk:Nat}{p0 p00 p01 p02 q1 q2 pt pj pa px pb pif pf2 px3 a1 c1 pe1 pr a2 pj2 c2 pe2:Pos}{fx:Ev->Y Dt}{f:AJ}{E:XK}
end
section
variable{Cn f:A1}{iv k:Nat}{n cn:AJ}{np hp p pa:Pos}{b0:AB}{suite:O AB}{ts:A1->TS}{tf:TE}{t:TA}
end
section
variable{fx:Ev->Y Bx}
end
section
variable{xs:Array A0}
end
theorem uo:∀{AQ:O A0} {a:O Int},IntsAre AQ a->AX (a.map V.int) AQ
 |_,_,.nil=>.nil
 |_,_,.cons y t h=>.cons ⟨t,rfl⟩ (uo h)
section
variable{e:α->Dt}
end
section
variable{e:α->Dt}{ea:β->Dt}{eb:δ->Dt}{fx:Ev->Y Dt}
end
section
variable{e:α->Dt}{g:Ev->Y β}{c:γ->β}
end
section
variable{E:XK}
end
section
variable{f:AJ}{E:XK}{fs:Ev->Y (O Bx)}{gy:Ev->Y Dt}{p p1 epos:Pos}{AS:O AB}
end
section
variable{o:Expr}
def Yt:Dt->Bool
 |.non=>true
 |.tup _=>true
 |_=>false
def Lm:Dt->Bool
 |.non=>true
 |_=>false
end
section
variable{o l:Expr}{fs:Ev->Y (O Bx)}{z:AJ}
end
instance {σ τ:Type} [Inhabited σ]:Inhabited (j9 σ τ):=⟨.nx default⟩
section
variable{e:α->Dt}
theorem Yu(a:∀x,∃ds,e x=.tup ds)(ys:O (Y α)):(ys.map (eO e)).all Yt=true/\(Lm ∘ eO e)=Option.isNone:=by
 refine⟨?_,?_⟩
 ·rw[ja];intro d b;obtain⟨o,_,rfl⟩:=ax.mp b;cases o with
  |none=>rfl
  |some x=>obtain⟨ds,q⟩:=a x;show Yt (e x)=true;rw[q];rfl
 ·funext o;cases o with
  |none=>rfl
  |some x=>obtain⟨ds,q⟩:=a x;show Lm (e x)=false;rw[q];rfl
end
section
variable{o:Expr}{fx fy:Ev->Y Bx}
end
section
variable{f:AJ}{E:XK}{gy:Ev->Y Dt}{sts AS:O AB}{p0 p00 p01 p02:Pos}
end
structure DQ (K:Au) (mg:Str->Option Value) (x:Str) (st:Stmt) (ps:AZ) where
 f:Addr
 fd:FuncData
 F:Y9 K x x st f fd
 b:BQ K fd ps []
 m:mg x=some (.ref f)
 k:keepIn K (.ref f)=true
def nH{f:A1}{m b:Y A1}{sl:Array (Y A0)}{g kV n pm d ct:A0}(X:K.In h)(G:h.Ns mainGlobals mg)(a:Nn K x f)(l:Lk K f x st g m sl kV n pm b d ct)(c:codeIn K d x=true)(k:keepIn K (.ref f)=true)(i:∀(kV j pm:A0) (b:Y A1) (e ct:A0) (us:O A0),us.length=ps.length->bindArgs (fnOf x x (p7 st) (gJ st) (aO st) .none kV j pm b e ct) ⟨us,[]⟩=pure (ps.zip us):=by intro _ _ _ _ _ _;first|exact P1.Hc λ_=>S|exact P1.Gc λ_ _=>S|exact P1.P' λ_ _ _=>S|exact P1.Tk λ_ _ _ _=>S|exact P1.VA λ_ _ _ _ _=>S|exact P1.He S):DQ K mg x st ps:=
 ⟨f,_,V6 l c k,(V6 l c k).binds i,PySem.W.mg_of X G a,k⟩
abbrev Ok(P:A3)(w:A4)(base:A6)(d:DQ K mg x st ps)(k n:Nat)(F:O Bx->Y Bx):Prop:=uP P w K mg base JT k d.f d.fd ps (DV K n F)
theorem Ej{k m:Nat}(d:DQ K mg x st ps)(S:bF N ps (aO st))(h:∀(a:A0) (A:A5) (outer:O Env) (s:A2) (H:Hp) (E:XK),jN k (A.deeper (AK x (aO st) s.heap.objs.size d.f a))->(A.deeper (AK x (aO st) s.heap.objs.size d.f a)).units+100<cLine->N.Nodup->NT (Ah JT P w K mg base N x (aO st) d.f a A outer s H E).Zk (gJ st) g)(c:N.length=n:=by rfl)(e:ps.length=m:=by rfl):Ok P w base d (k+1) m (dM n g):=V' d.F S c e λa A outer s H E b=>h a A outer s H E b (Rw b) S.nd
section
variable{k m:Nat}{fs:Ev->Y (O Bx)}{p:Pos}
theorem cZ(d:DQ X.K X.mg x st ps)(G:Ok X.prog X.w X.base d k n F)(f:jN m X.A)(a:V7 X (e::es) fs)(i:Gl X x:=by rfl)(c:k<=m:=by decide)(g:be x:=by decide)(he:A9 (e::es) X.env=(false,eval e X.env)::A9 es X.env:=by rfl)(h:(AD pos (A9 es X.env)).any (·.1)=false:=by rfl):QV X (.Call (.Name x p) (e::es) [] pos) (cP n F fs):=
 Z8 G (f.mono c) i d.m d.k d.b a g he h
end
theorem EM{l:PySem.W.OpenLaw}{q:A3}{loose:AZ}{d:DefRec}{K:Params->Au}{T:Au->(AJ->Y A0)->Type}{k:Nat}{F_law:O Bx->Y Bx}(c:∀{K mg},T K mg->DQ K mg "law" st [x])(hk:jN k callerA)(M:d.name ="law")(G:∀(w:A4) (mg:AJ->Y A0) (base:A6) (t:T (K w.params) mg),Ok l.prog w base (c t) k 1 F_law)(L:l.most=Z 63)(P:d.params.defaults=[])(h1:∀b:O Int,b.length<=63->F_law [.z (.lst (b.map .int))]=Z (.z (.bl true)))(h2:∀b:O Int,b.length<=63->F_law [.l (b.map .int)]=Z (.z (.bl true)))(B:∀(kV j pm:A0) (i:Y A1) (g ct u:A0),bindArgs (fnOf "law" "law" (p7 st) (gJ st) (aO st) .none kV j pm i g ct) ⟨[u],[]⟩=pure [(x,u)])(D:∀(w:A4) (h:A6),YP w h->(K w.params).In h)(E:∀(w:A4) (h:A6) (mg J:AJ->Y A0) (v:ExcName->Y A0) (I:AZ),(K w.params).In h->Top q I v mg J h->∃C,L2.C9 (K w.params) h C)(F:∀(w:A4) (mg:AJ->Y A0) (h:A6),(K w.params).In h->h.Ns mainGlobals mg->T (K w.params) mg):
  PySem.W.WalkO q loose XP YP l.row.toRowW d [] (λf vs=>PySem.call f vs):=
 L2.V5 (n:=63) (k:=k) (x:=x) (CX:=JT) (sp:=λK=>DV K 1 F_law) L () P hk D (λw mg fa h X N e=>by
  have t:=F w mg h X N;have p:=(c t).m;rw[M,p]at e;cases e;refine⟨(c t).fd,λs u=>?_,λbase _ _=>G w mg base t⟩;obtain⟨oc,Q,kV,j,pm,i,g,ct,osl,e,lk,a3⟩:=(c t).F.ex;rw[e];exact .of_eq (B kV j pm i g ct u)) (λK H a b A o y=>W1 h1 h2 K H a b A o y) (λ_ _ _ _ z=>z) E
section
variable{k:Nat}{f:A1}{sp:A1->O V->Hp->VK->Prop}{p:Pos}{t:TA}
end
section
variable{p0 p1:Pos}{e:A1}{a:Expr}{ta:TA}
end
section
variable{f:AJ}{E:XK}{fs:Ev->Y (O Bx)}{p:Pos}
end
section
variable{g:Array GenState}{d:Drawn}{t:Nat}{AS:O A0}{B:String}
end
section
variable{E:XK}{p:Pos}{B:String}{k:Nat}{t:TA}
end
section
variable{p kp cp:Pos}{fs:Ev->Y (O Bx)}{j:Int}{kk:Nat}
end
section
variable{e:α->Dt}
end
section
variable{g:Ev->Y AJ}
variable{e:α->Dt}
end
section
variable{e:α->Dt}{σ' τ:Type}
def qE(e:α->Dt):Y (O α)->Bx
 |none=>.z .non
 |some l=>.o (l.map e)
def XU(e:α->Dt):Y (O α)->Bx
 |none=>.z .non
 |some l=>.l (l.map e)
class HG (c:Option (List α)->Bx) (e:outParam (α->Dt)):Prop where
 d:∀v,toD (c v)=eO (eL e) v/\mH (c v)=false
instance:HG (qE e) e:=⟨λv=>by cases v<;>exact⟨rfl,rfl⟩⟩
instance:HG (XU e) e:=⟨λv=>by cases v<;>exact⟨rfl,rfl⟩⟩
instance:HG (zE (eO (eL e))) e:=⟨λv=>⟨rfl,rfl⟩⟩
end
section
variable{p:Pos}{fs:Ev->Y (O Bx)}
end
section
variable{e:α->Dt}
end
section
variable{e:α->Dt}
end
section
variable{AS:O AB}{ga:Ev->Y An}
end
section
variable{k:Nat}{f:A1}{Fa Fb:O Bx->Y Bx}{p spos:Pos}{fs:Ev->Y (O Bx)}
end
section
variable{e:α->Dt}
end
end P1
namespace P1
open L2 S1 S6
section
variable{e:α->Dt}
end
end P1
namespace P1
open L2
section
variable{e:α->Dt}
end
section
variable{R:Result->A2->Prop}{I:A1}{wr:O A1}{P:Nat->A0->Prop}{St:Nat->A6->Prop}
end
section
variable{e:α->Dt}
end
def Z5{α:Type}:O α->O α
 |[]=>[]
 |x::xs=>x::Z5 (xs.drop 5)
termination_by l=>l.length
decreasing_by simp;omega
section
variable{st:Expr}{fs:Ev->Y Bx}
end
section
variable{e:α->Dt}
end
section
variable{AS:O AB}{W:O Nat}
end
section
variable{e:α->Dt}
end
section
variable{st:O AB}{fr:Ev->Y Bx}{W:O Nat}{z:Pos}{Φ:Hp->Hp->L2.St->Ev->Prop}
end
section
variable{AS:O AB}
end
end P1
namespace P1
open L2 S6
section
variable{p p' pos':Pos}
end
end P1
namespace P1
open L2 S1
section
variable{T:O AY->A0->Prop}(inj:∀ k l v,T k v->T l v->k=l)
include inj
end
end P1
namespace P1
open L2 S1 S6
section
variable{e:α->Dt}{e':β->Dt}
end
end P1
namespace P1
open L2
section
variable{q:AJ}{body:Expr}{f c':A1}{pm:A0}
end
end P1
namespace P1
open PySem PySem.Spec PySem.Calls PyProof.Rows L2 S1
def Oy:{ f:String->Builtin // f "min"=Builtin.«min»/\f "max"=Builtin.«max» }:=by
 refine⟨?f,?a,?b⟩
 case a=>delta Builtin.«min»;rfl
 case b=>delta Builtin.«max»;rfl
def SU:{ f:String->CmpOp->Builtin // f "min" .Lt=Builtin.«min.loop»/\f "max" .Gt=Builtin.«max.loop» }:=by
 refine⟨?f,?a,?b⟩
 case a=>delta Builtin.«min.loop»;rfl
 case b=>delta Builtin.«max.loop»;rfl
structure MM (nm lp:String) (op:CmpOp):Prop where
 hk:builtinKind nm=none
 hp:plainId nm=true
 he:entryFor table nm=some (Oy.1 nm)
 pl:plainId lp=true
 le:entryFor table lp=some (SU.1 nm op)
 hn:(toString nm++toString ".loop":String)=lp
 a1:∀a,argsOk nm ⟨[a],[]⟩
 a2:∀a b,argsOk nm ⟨[a,b],[]⟩
 ak:∀a v,argsOk nm ⟨[a],[(Str.ofString "key",v)]⟩
section
variable{nm lp:String}(hM:MM nm lp op){R:Result->A2->Prop}
include hM in
end
section
variable{nm lp:String}(hM:MM nm lp op){R:Result->A2->Prop}{I:A1}{wr:O A1}{P:Nat->A0->Prop}{St:Nat->A6->Prop}
include hM in
include hM in
end
end P1
namespace P1
open L2 S1
section
variable{body:Expr}{aiN p kpos:Pos}{c P:A1}{q:AJ}{bt:Dt->Dt->Bool}{okk:Dt->Bool}
end
end P1
namespace P1
open L2
section
variable{o:Expr}
end
end P1
namespace P1
open L2 S1
end P1
namespace P1
open L2 S1 S6
section
variable{e:α->Dt}{e':β->Dt}
def hk(q:AJ×β):O AY:=[.inr q.1]
end
end P1
namespace P1
open L2
section
variable [Inhabited α] {e:α->Dt}{k:Ev->Y An}{cO:γ->An}
end
section
variable{k:Nat}{f:A1}{p:Pos}{fs:Ev->Y (O Bx)}
end
end P1
namespace P1
open PySem PySem.Spec PySem.Calls PyProof.Rows L2
section
variable{D:O (AJ×A1)}{k:AJ}{tk:Tok}
end
section
variable{D:O (AJ×A1)}{dn:AJ}{ek:Expr}{p0 p1 p3 q0 q1 q2 q3:Pos}{AS:O AB}{fh:Ev->Y Bx}
end
end P1
namespace P1
open L2
section
variable{e:α->Dt}{c:β->Bx}{fh:Ev->Y Bx}{k:Ev->Y An}{cO:γ->An}{tt:O (AJ×(O α->β)×(O α->Y Prop))}
end
end P1
namespace P1
open PySem PySem.Spec PySem.Calls PyProof.Rows L2 S1
end P1
namespace P1
open L2
section
variable{K:Type} [DecidableEq K] {knd:KeyKind prog w K}
end
end P1
namespace L2
end L2
namespace P1
open L2
section
variable{a b:Expr}{fs:Ev->Y (O Bx)}
end
end P1
namespace P1
open L2 S1 S6
section
variable{e:α->Dt}{e':β->Dt}{e3:γ->Dt}{k:Ev->Y An}{cO:δ->An}
end
end P1
namespace P1
open L2
section
variable{o f k v:Expr}{ff:Ev->Y Bx}{keys:O (Y Expr)}{values:O Expr}
end
section
variable{e:α->Dt}
end
end P1
namespace P1
open L2 S1
section
variable{kS:A1}{vs:O A0}{keys:Array A0}{e e1:Nat}{P:PySem.Fin->A2->Prop}
end
end P1
namespace P1
open L2 S6
section
variable{t1 i1 tY i2 tZ i3:Expr}{f1 f2 f3:O Expr}{g1 g2 g3:Dt->Ev->Y Ev}{p1 p2 p3:Ev->Y Bool}{fi1 fi2 fi3:Ev->Y (O Dt)}{m m2:Nat}
section
variable{e:α->Dt}{e':β->Dt}{fs:Ev->Y (O Dt)}
end
end
end P1
namespace P1
open L2 S1
def MC(ks:O Dt):Y (O (O AY)):=(sX ks).bind λcY=>if(cY.all (λk=>!k.isEmpty)&&cY.all λk=>cY.all λl=>Ef k l)=true then Z cY else U
def FH:O Dt->Y (O (O AY))
 |[]=>Z []
 |.str x::ds=>(FH ds).bind λr=>Z ([.inr x]::r)
 |_=>U
section
variable{k:Nat}{f:A1}
end
section
variable{p kp kpos:Pos}{k:Nat}{f:A1}
end
section
variable{body:Expr}{aiN p kpos:Pos}{c P:A1}{q:AJ}
end
end P1
namespace P1
open L2
section
variable{K:Type} [DecidableEq K] {knd:KeyKind prog w K}
end
end P1
namespace P1
open L2 S1 S6
section
variable{e:α->Dt}{e':β->Dt}
class Fu {β:Type} (e':β->Dt) (kf:outParam (List Dt->Option (List (List AY)))) where
 kk:β->List AY
 ok:∀xs:List β,kf (xs.map e')=some (xs.map kk)
 inj:∀a b,kk a=kk b->a=b
instance [Lx e']:Fu e' MC:=⟨Lx.k e',λxs=>by
 unfold MC;rw[Cg,Ap,zl];simp only[qo,ja,ke,ax,forall_exists_index,and_imp,forall_apply_eq_imp_iff₂];exact⟨λa _=>Lx.ne a,λa _ b _=>Lx.shp a b⟩,Lx.inj⟩
theorem Ss:∀xs:AZ,FH (xs.map eS)=Z (xs.map λx=>[.inr x])
 |[]=>rfl
 |x::xs=>by
  rw[zo,eS,FH,Ss xs,Ap];rfl
instance:Fu eS FH:=⟨λx=>[.inr x],Ss,λa b h=>by cases h;rfl⟩
section
variable [Fu e' kf] {κ:α->β}
structure SR (fe:Ev->Option Bx) (ρ:Ev) (e:α->Dt) where
 v:List α
 D:Option Prop
 ok:hold D->∃b,fe ρ=some b/\oO b=some (v.map e)
end
end
section
variable{e:α->Dt}{e':β->Dt}{fs:Ev->Y (O Dt)}
end
section
variable{e:α->Dt}
end
end P1
namespace L2
end L2
namespace P1
open L2
section
variable{e1:Expr}{fs:Ev->Y (O Bx)}
variable{e:α->Dt}{k:Ev->Y An}{cO:γ->An}
end
section
variable{en:α->Dt}{k:Ev->Y An}{cO:γ->An}
end
section
variable{a b:Expr}
variable{e1:α->Dt}{e2:β->Dt}{k:Ev->Y An}{cO:γ->An}
end
end P1
namespace P1
open PySem PySem.Spec PySem.Calls PyProof.Rows L2 S1
end P1
namespace P1
open PySem PySem.Spec PySem.Calls PyProof.Rows L2
section
variable{o:Expr}{to:TE}
variable{p:Pos}
end
end P1
namespace P1
open L2 S1 S6
section
variable{e:α->Dt}
end
end P1
namespace P1
open L2 S6
theorem El:entryFor table "set.__xor__"=Z Builtin.«frozenset.__xor__»:=entryFor_alias (id' :="frozenset.__xor__") (by kernel_rfl) S (by decide +kernel) (by kernel_rfl)
theorem Ts:∀n,n<31->5<=n->bN ((0+n)*2)=if n<8 then 16 else if n<16 then 32 else 64:=by decide +kernel
theorem Jp{hp:A6}{c:AE}{e1 e2:Array (Int×A0)}{d:Nat}{e b:SetTable}(g:hp.get? a=Z c)(q:c.data=.set e1 d e):(hp.update a (Obj.putSet e2 b)).get? a=Z { c with data:=.set e2 (d+1) b }:=by
 have:=kQ (Obj.putSet e2 b) g (by rw[putSet_of e2 b q];rfl);rw[putSet_of e2 b q]at this;exact this
theorem Yv(e:h.get? a=Z (BE w)):Tx prog w h a []:=
 ⟨_,#[],0,_,e,⟨rfl,rfl,rfl⟩,rfl,.nil,JP,rfl,λq=>by simp[ca,q],λq=>absurd q (jb _)⟩
section
variable{b:A1}
structure Mt (w:World) (n:Nat) (t:SetTable):Prop where
 pl:t.place=#[]
 du:t.dummies=#[]
 led:w.params.followText "set-order"=false->t.led=true
 rch:Zc t.mask
 le:n<=t.mask
theorem P8:Zc 7:=Jc Mk
theorem Y2:Zc 15:=Jc NB
theorem PF:Zc 31:=Jc Pw
theorem Tl:Zc 63:=Jc XY
def L3(es:Array (Int×A0))(laid:Y (SetTable×Array Nat)):Sem (Array (Int×A0)×SetTable):=do
 let Z (t,order):=laid|unsupported "internal:set-table-without-room"
 let a:=order.filterMap (es[·]?)
 if a.size !=es.size then unsupported "internal:set-table-lost-an-element"
 pure (a,t)
def pU(D:A1)(a:Array (Int×A0))(to:SetTable)(M:Sem Unit):Sem Unit:=
 setState D >>= λx=>match x.2.2.road to with
 |.slotForSlot=>storeSet D a { to with finger:=x.2.2.finger,led:=x.2.2.led&&to.led,moves:=x.2.2.moves,plain:=x.2.2.plain&&to.plain }
 |.clean=>L3 a (dP x.2.2.mask x.2.2.finger x.2.2.moves (led:=x.2.2.led&&to.led) (plain:=x.2.2.plain&&to.plain) (a.map (·.1))) >>= λy=>storeSet D y.1 y.2
 |.oneByOne=>M
theorem Qi{k:Nat}{t1 to:SetTable}{e:AE}{a:Array (Int×A0)}{M:Sem Unit}(b:s.heap.get? D=Z e)(c:e.data=.set #[] k t1)(hx:e.ExactSet)(m:Mt w a.size t1)(x:Ut prog w ys a to)(hs:a.size<100)(u:0<a.size)(h:∀h' d,Heap.SameBut D s.heap h'->Tx prog w h' D d->(∀z,z∈d↔z∈ys)->Q bv { s with heap:=h' }):A7 (A8 prog w) A (pU D a to M) Q E s:=by
 unfold pU;have o:t1.fits (#[]:Array (Int×A0)).size=true:=by simp[cc,dQ,m.pl,m.du]
 refine zb (qk b c o ?_);dsimp only;have hp:=x.non u;have g:t1.fill=0:=by simp[dQ,m.pl,m.du]
 have led:w.params.followText "set-order"=false->(t1.led&&to.led)=true:=λq=>by rw[m.led q,x.led q];rfl
 by_cases j:(t1.mask==to.mask&&to.dummies.isEmpty)=true
 ·have f:t1.road to=.slotForSlot:=by unfold hH;rw[g];simp only[bne_self_eq_false,zv,qf,j,QY]
  rw[f];dsimp only;refine kX b c ?_ (fits_of_scanBound (by have:scanBound=4096:=rfl;omega));exact h _ ys (JO ..) ⟨_,a,_,_,Jp b c,hx,rfl,x.rel,x.nd,x.fit,led,λ_=>by show(t1.plain&&to.plain)=false;rw[hp,yA]⟩ λz=>Iff.rfl
 ·have f:t1.road to=.clean:=by unfold hH;rw[g];simp only[bne_self_eq_false,zv,qf,j]
  rw[f];dsimp only;obtain⟨y,v,e3,pr,n,l,mk,ld,t⟩:=RQ (mask:=t1.mask) (finger:=t1.finger) (moves:=t1.moves) (led:=t1.led&&to.led) (plain:=t1.plain&&to.plain) (es:=a) m.rch m.le;rw[e3];unfold L3;have sz:(v.filterMap (λi=>a[i]?)).size=a.size:=by rw[<-qc,pr.length_eq,qc]
  refine zb ?_;dsimp only;rw[zD (by rw[sz];simp)];refine zd ?_;dsimp only;refine kX b c ?_ (fits_of_scanBound (by rw[sz];have:scanBound=4096:=rfl;omega));obtain⟨d,p',p⟩:=jU pr x.rel;refine h _ d (JO ..) ⟨_,_,_,_,Jp b c,hx,rfl,p,p'.nodup_iff.mpr x.nd,?_,λq=>by rw[ld];exact led q,λ_=>by rw[t,hp,yA]⟩ λz=>p'.mem_iff;have:=m.le;simp[cc,dQ,n,l,mk,sz,this]
theorem U5{I:Sem Unit}(c:s.heap.get? D=Z (BE w))(G:Tx prog w s.heap b ys)(K:(D==b)=false)(P:ys.length<=30)(h:∀h' l,Heap.SameBut D s.heap h'->Tx prog w h' D l->(∀z,z∈l↔z∈ys)->Q bv { s with heap:=h' }):A7 (A8 prog w) A (setMerge D b I) Q E s:=by
 obtain⟨o,a,ep,to,B,a3,L,x⟩:=id G;have W:=x.size;unfold setMerge;rw[zD (by rw[K];simp)];refine zb (qk B L x.fit ?_);dsimp only;by_cases e:a.isEmpty=true
 ·rw[zl e];have e0:ys=[]:=by
   have:a.size=0:=by simpa using e
   exact bj.mp ()
  exact zd (h s.heap [] (Yf ..) (Yv c) λz=>by rw[e0])
 ·rw[zD e];have J:0<a.size:=by
   rcases dA a.size with q|q
   ·exact absurd (by simpa using q) e
   ·exact q
  have p:(ca 0 0 (!w.params.followText "set-order")).fits (#[]:Array (Int×A0)).size=true:=rfl;refine zb ?_;unfold setRoomFor;refine zb (qk c S p ?_);dsimp only;have F:(ca 0 0 (!w.params.followText "set-order")).roomFor a.size=if(0+a.size)*5>=7*3 then Z ((0+a.size)*2)else U:=rfl;have n:∀{M:Sem Unit} {s':A2} {k:Nat} {t1:SetTable},s'.heap.get? D=Z { BE w with data:=.set #[] k t1 }->Mt w a.size t1->Heap.SameBut D s.heap s'.heap->s'={ s with heap:=s'.heap }->A7 (A8 prog w) A (pU D a to M) Q E s':=λ{M s' k t1} g m sb es'=>by
   refine Qi g S ⟨rfl,rfl,rfl⟩ m x () J λh' l C j u=>?_;rw[es'];exact h h' l (sb.trans C) j u
  rw[F];by_cases t:(0+a.size)*5>=7*3
  ·rw[zl t];dsimp only;unfold setRelay;refine zb (qk c S p ?_);dsimp only;have N:=Ts a.size () ();have d:Zc (bN ((0+a.size)*2)-1)/\a.size<=bN ((0+a.size)*2)-1/\¬ bN ((0+a.size)*2)>AA:=by
    rw[N];split
    ·exact⟨Y2,by omega,by decide⟩
    ·split
     ·exact⟨PF,by omega,by decide⟩
     ·exact⟨Tl,by omega,by decide⟩
   rw[zD d.2.2];obtain⟨j,f,e3,pr,y,v,mk,ld,X⟩:=RQ (mask:=bN ((0+a.size)*2)-1) (finger:=0) (moves:=(ca 0 0 (!w.params.followText "set-order")).movedTo (bN ((0+a.size)*2)-1)) (led:=!w.params.followText "set-order") (plain:=true) (es:=#[]) d.1 (qh _);have H:(ca 0 0 (!w.params.followText "set-order")).relaid ((#[]:Array (Int×A0)).map (·.1)) ((0+a.size)*2)=Z (j,f):=e3;rw[H];have sz:(f.filterMap (λi=>(#[]:Array (Int×A0))[i]?))=#[]:=by
    apply K2;rw[<-qc,pr.length_eq];rfl
   refine zb ?_;show A7 _ _ (if((f.filterMap (λi=>(#[]:Array (Int×A0))[i]?)).size !=(#[]:Array (Int×A0)).size)=true then _ else pure (f.filterMap (λi=>(#[]:Array (Int×A0))[i]?),j)) _ _ _;rw[sz,zD (by simp)];refine zd ?_;dsimp only;refine kX c S ?_ (qh _);show A7 _ _ (pU D a to _) _ _ _;refine n (s':={ s with heap:=_ }) (Jp c S) ⟨?_,v,λq=>by rw[ld,q];rfl,by rw[mk];exact d.1,by rw[mk];exact d.2.1⟩ (JO ..) rfl;exact K2 y
  ·rw[zD t];dsimp only;refine zd ?_;show A7 _ _ (pU D a to _) _ _ _;exact(n c ⟨rfl,rfl,λq=>by show(!_)=true;rw[q];rfl,P8,by show _<=7;omega⟩ (Yf ..) S)
end
theorem Mh(xs:Array α)(p:Nat):(cb xs p).toList=xs.toList.eraseIdx p:=by
 unfold cb;rw[List.eraseIdx_eq_take_drop_succ];simp;exact cS (by simp)
theorem Mi{xs:Array α}{p:Nat}(h:p<xs.size):(cb xs p).size=xs.size-1:=by
 rw[<-qc,Mh,yb,zl (by simpa using h),qc]
theorem Cp{α β:Type}{R:α->β->Prop}:∀{xs:O α} {us:O β} (n:Nat),AI R xs us->AI R (xs.eraseIdx n) (us.eraseIdx n)
 |_,_,n,.nil=>by simpa using .nil
 |_,_,0,.cons _ t=>t
 |_,_,n+1,.cons r t=>.cons r (Cp n t)
theorem U6(h:t.fits n=true)(a:j<n):(t.drop j).fits (n-1)=true/\(t.drop j).led=t.led/\(t.drop j).plain=t.plain:=by
 have h1:t.place.size=n:=by simp[cc]at h;exact h.1
 have h2:t.place.size+t.dummies.size<=t.mask:=by simp[cc,dQ]at h;exact qa h.2
 have hp:t.place[j]?=Z t.place[j]:=QI ();unfold SetTable.drop;rw[hp];refine⟨?_,rfl,rfl⟩;have e1:(cb t.place j).size=t.place.size-1:=Mi ();show((cb t.place j).size==n-1&&decide ((cb t.place j).size+(cE t.dummies (bu t.dummies t.place[j]) t.place[j]).size<=t.mask))=true;rw[Xm,qo];exact⟨by rw[beq_iff_eq];omega,qA ()⟩
section
variable{b:A1}{zs:AZ}
theorem U7{tk:Nat}{Q:Bool->A2->Prop}(G:Tx prog w s.heap D zs)(v:y∈zs)(H:zs.length<1000)(h:∀h' d,Heap.SameBut D s.heap h'->Tx prog w h' D d->(∀z,z∈d↔z∈zs/\z≠y)->d.length<1000->Q true { s with heap:=h' }):A7 (A8 prog w) A (setDiscardHashed D (.str y tk) ((strKind prog w).hash y)) Q E s:=by
 obtain⟨o,es,ep,t,a,F,b,x⟩:=id G;have I:=x.size;have i:=x.elems;have C:=strKind_is prog w y tk;unfold setDiscardHashed setFind setFindIn;refine zb (zb (qk a b x.fit ?_));dsimp only;rw[byScan_of (knd:=strKind prog w) (x:=.str y tk) S (by have:scanBound=4096:=rfl;omega) i];simp only[↓reduceIte];refine zb (kg (zb (wpAny_setScan_of C a b x.fit i ?_)));cases n:es.toList.findIdx? (λe=>(strKind prog w).is y e.2)with
 |none=>exact absurd v ((wW x.rel).mp n)
 |some j=>
  dsimp only;obtain⟨m,hp,_⟩:=List.findIdx?_eq_some_iff_getElem.mp n;have g:j<es.size:=by simpa using m
  have p:j<zs.length:=by omega
  have B:zs[j]=y:=by
   have:∀{zs:AZ} {l:O (Int×A0)} (j:Nat) (h1:j<l.length) (h2:j<zs.length),AI (Bo prog w) zs l->(strKind prog w).is y l[j].2=true->zs[j]=y:=by
    intro zs l j h1 h2 hp
    induction hp generalizing j with
    |nil=>cases h1
    |cons r _ u=>
     cases j with
     |zero=>exact λq=>((Ja r).mp q).symm
     |succ j=>exact u j (by simpa using h1) (by simpa using h2)
   exact this j m p x.rel hp
  refine zd ?_;dsimp only;rw[KL];refine zb (qk a b x.fit ?_);dsimp only;have f:=Mi (xs:=es) g;obtain⟨f1,f2,f3⟩:=U6 x.fit g;refine zb (kX a b ?_ (fits_of_scanBound (by rw[f];have:scanBound=4096:=rfl;omega)));refine zb (wpAny_point (zd ?_));have c:=zQ (xs:=zs) p;rw[B]at c;have nd:=(c.nodup_iff).mpr x.nd;rw[bc]at nd;refine h _ (zs.eraseIdx j) (JO ..) ⟨_,_,_,_,Jp a b,F,rfl,by rw[Mh];exact Cp j x.rel,nd.2,by rw[f];exact f1,λq=>f2.trans (x.led q),λ_=>f3.trans (x.non ())⟩ (λz=>?_) (by rw[yb];split<;>omega);rw[<-c.mem_iff,js];constructor
  ·exact λq=>⟨.inr q,λe=>nd.1 (e▸q)⟩
  ·exact λq=>q.1.elim (λe=>absurd e q.2) id
theorem Qj{Q:Bool->A2->Prop}(l:Tx prog w s.heap b ys)(i:Tx prog w s.heap D zs)(h:Q true s):A7 (A8 prog w) A (setsQuiet [b,D]) Q E s:=by
 unfold setsQuiet;refine zb ?_;refine wpAny_forIn_list _ (λAS r s'=>r.1=U/\s'=s/\∀c∈AS,∃us,Tx prog w s.heap c us) _ (λc AS r s' a=>?_) (λr s' a=>?_) _ _ ⟨rfl,rfl,λc d=>?_⟩
 ·obtain⟨h1,rfl,h2⟩:=a;obtain⟨us,o,es,ep,t,g,p,n,x⟩:=h2 c (ze ..);unfold setEntries;refine zb (zb (qk g n x.fit (zd ?_)));dsimp only;refine zb ?_;rw[<-gg];refine wpAny_forIn_list _ (λAS r f=>r.1=U/\f=s'/\∃us,AI (Bo prog w) us AS) _ (λe AS r f a=>?_) (λr f a=>?_) _ _ ⟨rfl,rfl,us,x.rel⟩
  ·obtain⟨i1,rfl,us,i2⟩:=a;cases i2 with
   |cons q t=>
    obtain⟨tk,rfl⟩:=q;exact zd ⟨rfl,rfl,_,t⟩
  ·obtain⟨i1,rfl,_⟩:=a;obtain⟨j,m⟩:=r;cases i1;exact zd ⟨rfl,rfl,λc d=>h2 c (zg _ d)⟩
 ·obtain⟨h1,rfl,_⟩:=a;obtain⟨j,m⟩:=r;cases h1;exact zd h
 ·rcases List.mem_cons.mp d with rfl|d
  ·exact⟨_,l⟩
  ·rw[az.mp d];exact⟨_,i⟩
theorem U8{f:Y A1}(B:f=Z D){Q:Array (Int×A0)->A2->Prop}(v:Tx prog w s.heap b ys)(n:Tx prog w s.heap D zs)(F:∀z,z∈zs↔z∈ys)
  (h:∀(l:Array (Int×A0)) a d,AI (Bo prog w) a l.toList->a.Perm ys->Q l { s with drawn:=d }):A7 (A8 prog w) A (setWalkUnseen b [D] f) Q E s:=by
 subst B;obtain⟨o,es,ep,t,m,X,y,x⟩:=id v;have N:=x.size;have C:A7 (A8 prog w) A (setWalk b) Q E s:=by
  unfold setWalk;refine zb (qk m y x.fit ?_);dsimp only;refine zb (jz ?_);cases g:w.params.followText "set-order" with
  |true=>
   simp only[QY];refine zb (KU (zd ?_));obtain⟨a,p,r⟩:=jU (Gy (w.params.setOrder b ep) es) x.rel;exact h _ a s.drawn r p
  |false=>
   simp only[zv,qf];by_cases j:(!t.plain&&decide (es.size>1))=true
   ·refine Eq.mpr (congrArg (λc=>A7 (A8 prog w) A c Q E s) (zl j)) ?_;refine zb (RJ es.size es.toList s _ (by simp) λl d p=>zd ?_);obtain⟨a,p',r⟩:=jU p x.rel;exact h _ a d (by simpa using r) p'
   ·refine Eq.mpr (congrArg (λc=>A7 (A8 prog w) A c Q E s) (zD j)) ?_;refine zb ?_;have K:(!t.led&&decide (es.size>1))=false:=by rw[x.led g];rfl
    refine Eq.mpr (congrArg (λc=>A7 (A8 prog w) A c (λ_ s'=>A7 (A8 prog w) A (pure es) Q E s') E s) (zD (by rw[K];exact Zl))) ?_;exact zd (zd (h es ys s.drawn x.rel (.refl _)))
 unfold setWalkUnseen;refine zb (qk m y x.fit ?_);dsimp only;refine zb (jz ?_);split
 ·exact C
 ·rename_i i;refine zb (Qj v n ?_);simp only[kM,zv,qf];refine zb (kg ?_);obtain⟨P,u,L,t2,H,M,G,e⟩:=id n;refine zb (qk H G e.fit ?_);dsimp only;have h1:1<es.size:=by
   by_cases q:es.size<=1
   ·simp[q]at i
   ·omega
  have I:w.params.followText "set-order"=false:=by
   cases g:w.params.followText "set-order" with
   |true=>simp[g]at i
   |false=>rfl
  have h2:0<u.size:=by
   rcases dA u.size with q|q
   ·have:zs=[]:=bj.mp (by rw[<-e.size];exact q);have:ys=[]:=ck.mpr λz J=>by
     have:=(F z).mpr J;subst zs;cases this
    have W:ys.length=0:=by rw[this];rfl
    omega
   ·exact q
  rw[zD (by rw[x.led I,e.non h2];simp)];exact zd (h es ys s.drawn x.rel (.refl _))
end
section
variable{b:A1}{zs:AZ}
theorem uG(x:Tx prog w h a ys):∃o,h.get? a=Z o/\o.cls=.type "set":=let ⟨o,_,_,_,e,c,_⟩:=x;⟨o,e,c.1⟩
theorem z7{Q:Bool->A2->Prop}(x:Tx prog w s.heap a ys)(h:Q true s):A7 (A8 prog w) A (Builtin.Frozenset.isAnySet (.ref a)) Q E s:=by
 unfold Builtin.Frozenset.isAnySet;exact zb (jS (T :="set") (b:=true) (uG x) (by rw[isSubtype_type];kernel_rfl) (zd h))
theorem Yw{Q:B7}(x:Tx prog w s.heap a ys)(h:Q (.type "set") s):A7 (A8 prog w) A (Builtin.Frozenset.baseOf a) Q E s:=by
 unfold Builtin.Frozenset.baseOf;exact zb (jS (T :="set") (b:=true) (uG x) (by rw[isSubtype_type];kernel_rfl) (zd h))
theorem Yx{id:String}{es:Array (Int×A0)}(C:s.heap.get? a=Z o)(L:o.data=.set es ep t)(u:t.fits es.size=true)(p:D≠a)(l:O (Int×A0))(J:AI (Bo prog w) ys l)(nd:ys.Nodup)(I:Tx prog w s.heap D zs)(i:∀z,z∈zs↔z∈ys)(K:zs.length<1000)(h:∀h',Heap.SameBut D s.heap h'->Tx prog w h' D []->Q bv { s with heap:=h' }):
  A7 (A8 prog w) A (forIn l PUnit.unit λx _=>do
   holding [x.2] (do if !(<-setDiscardHashed D x.2 x.1)then let _ <-setAddHashed D x.2 x.1)
   Builtin.Frozenset.unchanged id a ep
   pure (ForInStep.yield PUnit.unit)) Q E s:=by
 refine wpAny_forIn_list _ (λAS _ s'=>∃c b,AI (Bo prog w) c AS/\c.Nodup/\Tx prog w s'.heap D b/\(∀z,z∈b↔z∈c)/\b.length<1000/\Heap.SameBut D s.heap s'.heap/\s'={ s with heap:=s'.heap }) _ (λx AS r s' g=>?_) (λr s' g=>?_) _ _ ⟨ys,zs,J,nd,I,i,K,Yf ..,rfl⟩
 ·obtain⟨c,b,i1,i2,i3,f,n,d,j⟩:=g;cases i1 with
  |@cons y _ H _ q t=>
   obtain⟨tk,rfl⟩:=q;refine zb (qB (zb (U7 i3 ((f y).mpr (ze ..)) n λh' B m tx v F=>?_)));simp only[kM,zv,qf];refine zd ?_;refine zb ?_;unfold Builtin.Frozenset.unchanged;refine zb (k5 (o:=o) (by show h'.get? a=_;rw[m.2 a (KI p),d.2 a (KI p)];exact C) L u ?_);simp only[bne_self_eq_false,zv,qf];refine zd (zd ⟨H,B,t,(bc.mp i2).2,tx,λz=>?_,F,d.trans m,by rw[j]⟩);rw[v z,f z,js];have G:=(bc.mp i2).1;exact⟨λq=>q.1.elim (λe=>absurd e q.2) λq=>q,λq=>⟨.inr q,λe=>G (e▸q)⟩⟩
 ·obtain⟨c,b,i1,i2,i3,f,n,d,j⟩:=g;cases i1;have e0:b=[]:=ck.mpr λz i=>by have:=(f z).mp i;cases this
  subst e0;rw[j];exact h _ d i3
theorem Yy{Q:B7}(f:Tx prog w s.heap a xs)(i:Tx prog w s.heap b ys)(C:∀z,z∈xs↔z∈ys)(M:ys.length<=30)(b5:xs.length<=30)
  (h:∀h' d,(∀c o,s.heap.get? c=Z o->h'.get? c=Z o)->Tx prog w h' s.heap.objs.size []->Q (.ref s.heap.objs.size) { s with heap:=h',drawn:=d }):A7 (A8 prog w) A (binaryOp .BitXor (.ref a) (.ref b)) Q E s:=by
 refine wpAny_binaryOp_same (T :="set") (uG f) (uG i) F.fills_set_xor F.slot_set_xor ?_;refine Q3 F.slot_set_xor (uG f) El ?_ (F.args_set_xor_2 _ _);show A7 _ _ (Builtin.Frozenset.slot1 "__xor__" _ >>= _) _ _ _;refine zb (zd ?_);dsimp only;simp only[zv,qf];refine zb (zb (z7 f ?_));simp only[toBool,cond_true];refine z7 i ?_;simp only[kM,zv,qf];refine zb (m:=Builtin.Frozenset.addrOf (.ref a)) (zd ?_);refine zb ?_;have j:a<s.heap.objs.size:=by obtain⟨o,_,_,_,e,_⟩:=f;exact zI e
 have P:b<s.heap.objs.size:=by obtain⟨o,_,_,_,e,_⟩:=i;exact zI e
 show A7 _ _ (Builtin.Frozenset.baseOf a >>= _) _ _ _;refine zb (Yw f ?_);show A7 _ _ (Builtin.Frozenset.newFrom _ _ _ >>= _) _ _ _;refine zb ?_;unfold Builtin.Frozenset.newFrom;refine zb (Uw ?_);generalize D:s.heap.push (BE w)=H1;have gD:H1.get? s.heap.objs.size=Z (BE w):=by rw[<-D];exact zt _ rfl
 have t:∀c o,s.heap.get? c=Z o->H1.get? c=Z o:=λc o e=>by rw[<-D];exact zh _ e
 have W:=f.keep (h':=H1) (t a);have q:=i.keep (h':=H1) (t b);refine zb (m:=Builtin.Frozenset.addrOf _) (zd ?_);refine zb (qB ?_);unfold Builtin.Frozenset.updateFrom;refine zb (z7 (s:={ s with heap:=H1 }) q ?_);simp only[QY];refine zb (m:=Builtin.Frozenset.addrOf (.ref b)) (zd ?_);unfold Builtin.Frozenset.merge;obtain⟨ob,eb,b4,tb,I,a3,K,v⟩:=id q;refine zb (k5 (s:={ s with heap:=H1 }) I K v.fit ?_);refine U5 (s:={ s with heap:=H1 }) gD q (by simp;exact k9 P) M λH2 zs x tx p=>?_;refine zd ?_;refine zb (m:=Builtin.Frozenset.addrOf _) (zd ?_);refine zb (qB ?_);unfold Builtin.Frozenset.symmetricDifferenceUpdate;have X:(Value.ref a==Value.ref s.heap.objs.size)=false:=by
  have:a≠s.heap.objs.size:=z5 j;simp[this]
 rw[zD (by rw[X];exact Zl)];have g:Tx prog w H2 a xs:=W.keep λo e=>(x.2 a (z5 j)).trans e;refine zb (Q1 (T :="set") (uG (h:=H2) g) ?_);rw[zD ()];refine zb (z7 (s:={ s with heap:=H2 }) g ?_);simp only[QY];refine zb (zd ?_);refine zb (m:=Builtin.Frozenset.addrOf (.ref a)) (zd ?_);obtain⟨oa,ea,b0,ta,B,a5,y,n⟩:=id g;refine zb (k5 (s:={ s with heap:=H2 }) B y n.fit ?_);refine qB ?_;refine zb (U8 (s:={ s with heap:=H2 }) S g tx (λz=>?_) λl b6 d L pl=>?_)
 ·rw[p z,C z]
 rw[<-gg];refine zb (Yx (s:={ s with heap:=H2,drawn:=d }) (zs:=zs) B y n.fit (k9 j) l.toList L (pl.nodup_iff.mpr n.nd) tx (λz=>by rw[p z,pl.mem_iff,C z]) ?_ λG H N=>?_)
 ·obtain⟨_,_,_,_,_,_,_,J⟩:=id tx;rw[(wV J.nd v.nd p).length_eq];omega
 refine zd (zd (zd ⟨_,rfl,(by intro z;cases z),h G d (λc o e=>?_) N⟩));have u:c≠s.heap.objs.size:=z5 (zI e);rw[H.2 c u,x.2 c u];exact t c o e
end
section
def TU(X:Cx):R2:=λx y H Q=>∃a b zs us,x=.ref a/\y=.ref b/\H a=Z (Ct X a zs)/\H b=Z (Ct X b us)/\(∀z,z∈zs↔z∈us)/\us.length<=30/\zs.length<=30/\∀D H',AV H H'->H' D=Z (Ct X D [])->Q (.ref D) H'
theorem NM:vX X (binaryOp .BitXor) (TU X):=by
 intro AN s σ H x y v u Q I l i h;obtain⟨a,b,zs,us,rfl,rfl,c,j,m,f,g,q⟩:=h;cases l;cases i;refine Yy (Pk I c) (Pk I j) m f g λh' d k tx=>?_;have p:=I.hok.fresh (zk s.heap.objs.size);obtain⟨o,es,ep,t,e,_⟩:=id tx;refine⟨.ref s.heap.objs.size,_,GJ (I.laid (t':=s.toks) (a:=s.heap.objs.size) (o:=Ct X s.heap.objs.size []) k (zk _) ⟨tx,⟨o,e⟩,λh1 h2 t1 n=>Tx.keep t1 n⟩),rfl,q _ _ (bw p) aJ⟩
theorem Yz{α:Type}[DecidableEq α]:∀{xs ys:O α},xs.Nodup->(∀z,z∈xs->z∈ys)->xs.length<=ys.length
 |[],_,_,_=>qh _
 |x::xs,ys,hn,hs=>by
  obtain⟨h1,h2⟩:=bc.mp hn;have hx:=hs x (ze ..);have:=Yz (ys:=ys.erase x) h2 λz a=>(de (λe:z=x=>h1 (by rw[<-e];exact a))).mpr (hs z (zg _ a));rw[YI hx]at this;have:=cN hx;rw[Zp];omega
def Cq(xs ys:AZ):Bool:=xs.all (λx=>decide (x∈ys))&&ys.all (λy=>decide (y∈xs))&&decide (xs.length<=30)&&decide (ys.length<=30)
theorem U9(h:Cq xs ys=true):(∀z,z∈xs↔z∈ys)/\xs.length<=30/\ys.length<=30:=by
 simp only[Cq,qo,ja,QO]at h;exact⟨λz=>⟨h.1.1.1 z,h.1.1.2 z⟩,h.1.2,h.2⟩
def HQ(f1 f2:Ev->Y AZ):Ev->Y AZ:=λρ=>(f1 ρ).bind λxs=>(f2 ρ).bind λys=>if Cq xs ys=true then Z []else U
variable{e1:Expr}{f1 f2:Ev->Y AZ}
theorem MX(h1:EJ X e1 f1)(h2:EJ X e2 f2):EJ X (.BinOp e1 .BitXor e2 pos) (HQ f1 f2):=⟨DX (IT NM h1.run h2.run) λσ H Q h=>by
 obtain⟨H0,ρ,ys,E,c,w,q⟩:=h;obtain⟨xs,ex,c⟩:=AT c;obtain⟨zs,l,c⟩:=AT c;split at c
 ·rename_i p;cases c;obtain⟨m,B,x⟩:=U9 p;refine⟨H0,ρ,xs,E,ex,by omega,λa us H1 e ea g n A=>⟨H0,ρ,zs,E.grow e,l,by omega,λb j H2 f eb i s y=>?_⟩⟩;have v:us.length<=xs.length:=Yz n λz d=>(g z).mp d;have u:j.length<=zs.length:=Yz s λz d=>(i z).mp d;exact⟨a,b,us,j,rfl,rfl,f _ _ ea,eb,λz=>by rw[g z,i z];exact m z,by omega,by omega,λD o t eD=>q D [] o ((e.trans f).trans t) eD (λz=>Iff.rfl) JP λz d=>by cases d⟩
 ·cases c⟩
end
section
variable{f1 f2:Ev->Y AZ}
def M'(a:R f1 ρ sE)(b:R f2 ρ sE):R (HQ f1 f2) ρ sE:=⟨[],aV a.D (aV b.D (Z (Cq a.v b.v=true))),λh=>by
 obtain⟨h1,h⟩:=aq h;obtain⟨h2,c⟩:=aq h;show(f1 ρ).bind _=_;rw[a.ok h1];show(f2 ρ).bind _=_;rw[b.ok h2];exact zl c⟩
end
end P1
namespace P1
open L2
section
variable{e:α->Dt}
def Sn{k:Ev->Y An}{cO:γ->An}(i:Nat)(l:O α)(hi:ρ[i]?=Z (Z (oE e l)))(K:∀ds:O Dt,R k (ρ.set i (Z (oE eD ds))) cO):R (aF (Io i (cB .non)) k) ρ cO:=⟨(K (l.map e++[.non])).v,aV (Z (zV l.length)) (K (l.map e++[.non])).D,λa=>by
 obtain⟨h1,b⟩:=aq a;have h2:l.length<=1000000:=h1;have hi:ρ[i]?=Z (Z (.o (l.map e))):=hi;rw[gU (ρ':=ρ.set i (Z (oE eD (l.map e++[.non])))) (by
  have:oE eD (l.map e++[.non])=.o (l.map e++[.non]):=by show Bx.o _=_;simp only[eD,kB]
  rw[this];unfold Io;simp only[cB,Ap,Wj,hi,zi];rw[zl (kC h2 ())])]
 exact(K _).ok b⟩
end
def YB(X:Cx)(ifs:O Expr)(tc:TT):Prop:=(ifs=[]/\tc=λ_ H Q=>Q true H)\/∃c,ifs=[c]/\PT X c tc
theorem Qk{d:Nat}{b9:Pos}{R:Result->A2->Prop}{g:TG}{tc:TT}(n:Nat)(W V:Nat->L2.St->Hp->Prop)(a3:X.calm=true)(hx:X.xe=λ_ _=>False)(Ge:PG X tgt g)(b6:YB X ifs tc)(b7:∀i AN s σ H,i<n->L2.AU X AN σ H s->V i σ H->A7 (bi X) X.A (el D X.env) (λ_ s'=>∃ σ' H',L2.AU X AN σ' H' s'/\W (i+1) σ' H') X.xe s)(I:L2.AU X AN σ H s)(w0:W 0 σ H)(T:C5 X.prog X.w X.K tgt J fp it tn)(st:tn 0 s.heap)(hf:∀b∈fp,mD X AN H b)(c8:∀i σ H,i<n->W i σ H->J.go i H/\∀x H1,J.yld i H x H1->g x σ H1 λN H2=>tc N H2 λb H3=>if b=true then V i N H3 else W (i+1) N H3)(d0:∀ σ H,W n σ H->J.stop n H)(b8:∀(it:A0) (D:A1) (env:Env),compTurn comp d it (.ref D) env=(standAt b9 >>= λ_=>pyNext it >>= λr=>match r with
   |none=>pure (.done .next)
   |some v=>letOwnedTupleGo tgt it v >>= λ_=>assign tgt env v >>= λ_=>(forIn ifs true λc r=>if r=true then isTrue c env (eval c env) >>= λok=>pure (ForInStep.yield ok)else pure (ForInStep.yield r)) >>= λok=>if ok=true then el D env >>= λ_=>again (.compLoop comp d it (.ref D) env)else again (.compLoop comp d it (.ref D) env)))(c3:∀{it M:A0} {env:Env} {Q:Fin->A2->Prop} {E:B7} {s:A2},A7 (bi X) X.A ((compTurn comp d it M env).onRaise (λx=>noteFrame x env >>= λ_=>theTreesLotGoes x)) Q E s->A7 (bi X) (X.A.under (.compLoop comp d it M env)) ((bi X).den (.compLoop comp d it M env)) Q E s)(hR:∀s' σ' H',L2.AU X AN σ' H' s'->W n σ' H'->R (.ok .next) s'):
  AF (bi X) X.A (.compLoop comp d (.ref it) (.ref D) X.env) R s:=by
 have L:∀{H':Hp},(∀b∈fp,H' b=U)->∀b∈fp,mD X AN H' b:=λ{H'} hn b a=>⟨hn b a,(hf b a).2⟩;refine codeAny_loop S (λk s'=>∃(i:Nat) (σ':L2.St) (H':Hp),k=n-i/\i<=n/\L2.AU X AN σ' H' s'/\tn i s'.heap/\(∀b∈fp,H' b=U)/\W i σ' H') ?_ n
  ⟨0,σ,H,by simp,qh _,I,st,λb a=>(hf b a).1,w0⟩
 rintro k s4 ⟨i,q,C,rfl,hi,I4,b0,a5,G⟩;refine c3 (wpAny_noted ?_);rw[b8];by_cases t:i<n
 ·obtain⟨go,yl⟩:=c8 i q C t G;refine zb (kK (zb ?_));refine fX (T.item X S S S a3 i AN s4 q C _ I4 (L a5) b0 go) λr s5 ⟨u,hr,h5⟩=>?_;subst hr;refine zb (fX h5 λ_ s6 ⟨x,H6,I6,r6,y6,Z5,fr6⟩=>?_);have d2:=I6.pinned (L fr6) (T.obj _ _ Z5);have ha:=Ge _ s6 q H6 x u _ d2 r6 (yl x H6 y6);rw[hx]at ha;refine zb (Z3 ha (λ_ s7 h7=>?_) λ_ _ z=>z.elim);obtain⟨h,H7,P,q7⟩:=h7;have ht:A7 (bi X) X.A (forIn ifs true λc r=>if r=true then do let ok <-isTrue c X.env (eval c X.env);pure (ForInStep.yield ok)else pure (ForInStep.yield r))
    (λok y=>∃f,L2.AU X (AN++rR fp s6.heap) h f y/\if ok=true then V i h f else W (i+1) h f) (notedBy (bi X) X.A X.env λe s'=>R (.error e) s') s7:=by
   rcases b6 with⟨rfl,rfl⟩|⟨c,rfl,hc⟩
   ·exact wpAny_tests_nil ⟨H7,P,q7⟩
   ·refine wpAny_tests_one ?_;have:=hc _ s7 h H7 _ P q7;rw[hx]at this;exact Z3 this (λb y ⟨f,F,l⟩=>⟨f,F,l⟩) λ_ _ z=>z.elim
  refine zb (Z3 ht (λok y h8=>?_) λ_ _ z=>z);obtain⟨f,F,l⟩:=h8;have Aw:∀{p:L2.St} {j:Hp} {B:A2},L2.AU X (AN++rR fp s6.heap) p j B->L2.AU X AN p j B/\tn (i+1) B.heap/\∀b∈fp,j b=U:=λ{p j B} m=>by
   refine⟨m.oZ,T.keep _ _ _ Z5 λb a o e=>(m.pin (b,o) (ZA _ (ZA _ (ju a e)))).1,λb a=>?_⟩;obtain⟨o,e,d⟩:=T.obj _ _ Z5 b a;exact(m.pin (b,o) (ZA _ (ZA _ (ju a e)))).2.1
  cases ok with
  |false=>
   rw[zD Zl]at l;obtain⟨m,c6,c4⟩:=Aw F;exact zd ⟨rfl,n-(i+1),by omega,i+1,h,f,rfl,t,m,c6,c4,l⟩
  |true=>
   rw[zl rfl]at l;have he:=b7 i _ y h f t F l;rw[hx]at he;refine zb (Z3 he (λ_ d3 c9=>?_) λ_ _ z=>z.elim);obtain⟨p,j,Z6,c5⟩:=c9;obtain⟨b4,d1,b5⟩:=Aw Z6;exact zd ⟨rfl,n-(i+1),by omega,i+1,p,j,rfl,t,b4,d1,b5,c5⟩
 ·have:i=n:=by omega
  subst this;refine zb (kK (zb ?_));refine fX (T.done X S S S a3 i AN s4 q C _ I4 (L a5) b0 (d0 _ _ G)) λr s5 ⟨hr,I5⟩=>?_;subst hr;exact zd (hR s5 q C I5 G)
def Ix(te:TE)(D:A1)(W:L2.St->Hp->Prop):L2.St->Hp->Prop:=λσ H=>te σ H λv a=>∃us,a D=Z (.lst us)/\us.length<AA/\W σ (B4 a D (.lst (us++[v])))
def Cr(d:Nat)(is:O Nat)(i:Nat)(e:TI)(g:TG)(tc:TT)(te:TE):TS:=λDn σ H=>e σ H λJ H2=>∃(n:Nat) (W:A1->Nat->L2.St->Hp->Prop),
 (∀D,H2 D=U->W D 0 (uQ is σ++ay d U) (B4 H2 D (.lst []))) ∧
 (∀D i σ H,H2 D=U->i<n->W D i σ H->J.go i H/\∀x H1,J.yld i H x H1->g x σ H1 λa H2=>tc a H2 λb c=>if b=true then Ix te D (W D (i+1)) a c else W D (i+1) a c) ∧
 (∀D σ H,W D n σ H->J.stop n H) ∧
 ∀D σ' H',H2 D=U->W D n σ' H'->Dn.nx (σ.set i (Z (.ref D))) H'
theorem Mj(i:Nat){py spos:Pos}{wi:TI}{g:TG}{tc:TT}(ts:AZ)(O:oM X scope cl xs is)(c3:X.calm=true)(hN:X.N.Nodup)(hi:PI X tgt iter wi)(Ge:∀C t l fp,PG (uT X (xs++ts) scope cl C t l fp) tgt g)(b7:∀C t l fp,YB (uT X (xs++ts) scope cl C t l fp) ifs tc)(d3:∀C t l fp,PE (uT X (xs++ts) scope cl C t l fp) elt te)(c9:swapsWith (.ListComp elt [⟨tgt,iter,ifs,0⟩] scope pos) (Z (.Name y py)) spos.line X.env=pure true:=by with_unfolding_all rfl)(hy:X.N[i]?=Z y:=by rfl)(hx:D0 X.env.scope y:=by first|exact JE rfl|exact QQ S)(hf:X.fn y=true\/X.env.scope.names.lookup y=Z .local:=by first|exact .inl rfl|exact .inr S)(hs:∀x,foldedSetIterable iter X.env x=pure x:=by intro _;rfl):PS X (.Assign [.Name y py] (.ListComp elt [⟨tgt,iter,ifs,0⟩] scope pos) spos) (Cr ts.length is i wi g tc te):=λAN s σ H Dn I h=>by
 rw[exec_Assign_Name_used _ _ _ _ c9];refine zb (kK (zb ?_));show A7 _ X.A (do let _ <-comprehension (.ListComp elt [⟨tgt,iter,ifs,0⟩] scope pos) scope X.env _ (newList []) false (eval iter X.env) (Z (assign (.Name y py) X.env))) _ _ s;refine zb (Z3 (kl (use:=Z (assign (.Name y py) X.env)) (Q:=λ_ s'=>SP X AN Dn .next s') S hs O.clos O.kind O.names ?_) (λ_ s' P=>zd (zd P)) λ_ _ e=>e);refine fX (hi AN s σ H _ I h) λv s1 h1=>fX h1 λe0 a h2=>?_;obtain⟨it,fp,tn,J,H2,rfl,I2,T,st,b4,n,W,w0,ws,we,wd⟩:=h2;refine qV (Ga ?_);have M:H2 a.heap.objs.size=U:=I2.hok.fresh (zk _);have F:L2.AU X AN σ (B4 H2 a.heap.objs.size (.lst [])) { a with heap:=a.heap.push (seqObj "list" #[] 0) }:=
  I2.laid (t':=a.toks) (λb o e=>zh _ e) (zk _) ⟨qh _,[],0,.nil,zt _ rfl⟩
 have Wt:∀b∈fp,b<a.heap.objs.size:=λb f=>let ⟨o,e,_⟩:=T.obj 0 _ st b f;zI e;have a5:∀b∈fp,mD X AN (B4 H2 a.heap.objs.size (.lst [])) b:=λb f=>⟨by rw[aD (z5 (Wt b f))];exact(b4 b f).1,(b4 b f).2⟩;have b6:tn 0 (a.heap.push (seqObj "list" #[] 0)):=T.keep 0 _ _ st λb f o e=>zh _ e;have E:∀b∈fp,b<(a.heap.push (seqObj "list" #[] 0)).objs.size:=λb f=>by rw[qr];exact Qr (Wt b f)
 have c6:=w0 _ M;generalize b9:({ a with heap:=a.heap.push (seqObj "list" #[] 0) }:A2)=s3 at *
 have c8:s3.heap=a.heap.push (seqObj "list" #[] 0):=by rw[<-b9]
 rw[<-c8]at b6 E;have IC:=Kg (ts:=ts) F O a5 E;have b0:tn 0 (pushCells (s3.heap.push { cls:=.type "dict",data:=.dict #[] }) scope.names):=T.keep 0 _ _ b6 λb f o e=>pushCells_keeps _ _ b o (zh _ e);have Wr:∀b∈fp,mD (uT X (xs++ts) scope cl s3.heap.objs.size s3 (B4 H2 a.heap.objs.size (.lst [])) fp) [] (B4 H2 a.heap.objs.size (.lst [])) b:=λb f=>by
  obtain⟨f0,f1,f2,f3,u,G⟩:=a5 b f;refine⟨f0,z5 (E b f),λz=>?_,.inl f,λx c e z=>?_,λq P=>absurd (show q∈([]:List (A1×AE)) from P) (by simp)⟩
  ·rcases List.mem_cons.mp (F.Ab b z)with q|q
   ·exact f1 q
   ·exact f2 q
  ·rcases ur _ _ _ x c e with h|h
   ·exact u x c (O.sub.get h) z
   ·rw[z]at h;exact absurd (ZN (E b f) (eg h)) (jb _)
 have lp:=Qk (X:=uT X (xs++ts) scope cl s3.heap.objs.size s3 (B4 H2 a.heap.objs.size (.lst [])) fp) (D:=a.heap.objs.size) (R:=compPost (bi X) X.A X.xe (Z (assign (.Name y py) X.env)) (λ_ s'=>SP X AN Dn .next s') (.ref a.heap.objs.size) s3.heap.objs.size) (comp:=.ListComp elt [⟨tgt,iter,ifs,0⟩] scope pos) (d:=0)
  n (W a.heap.objs.size) (λi=>Ix te a.heap.objs.size (W a.heap.objs.size (i+1))) c3 S (Ge _ _ _ _) (b7 _ _ _ _) (el:=λD env=>do let _ <-call (.builtin "list.append") [.ref D,<-eval elt env]) (λi AN s σ H _ I v=>by
   refine zb (Z3 (d3 _ _ _ _ AN s σ H _ I v) (λv s9 h9=>?_) λ_ _ z=>z);obtain⟨x,H9,I9,rx,us,e9,l9,w9⟩:=h9;refine zb (Z3 ((lY (X:=uT X (xs++ts) scope cl s3.heap.objs.size s3 (B4 H2 a.heap.objs.size (.lst [])) fp)) _ s9 σ H9 (.ref a.heap.objs.size) [x] (.ref a.heap.objs.size) [v] (λ_ a3=>W a.heap.objs.size (i+1) σ a3) I9 S (.cons rx .nil) ⟨_,us,x,rfl,rfl,e9,l9,w9⟩) (λw d6 c5=>?_) λ_ _ z=>z);obtain⟨_,a3,Z6,_,c4⟩:=c5;exact zd ⟨σ,a3,Z6,c4⟩) IC c6 T b0 Wr (ws _ · · · M) (we _) (λ_ _ _=>S) (λh=>h) λK d5 B j w5=>?_
 ·exact codeAny_compStart_list lp (T.self _ 0 _ _ _ b0 lp)
 ·have I':L2.AU X AN σ B K:=F.call' (ch:=fp) j.os j.base j.hok j.bare λb f=>by
   obtain⟨f0,f1,f2,f3,u,G⟩:=a5 b f;exact⟨f3,f1,u,G⟩
  obtain⟨m,hn,_⟩:=j.loc;have fC:=F.N7 (zk _) j.free;show A7 _ X.A (assign (.Name y py) X.env (.ref a.heap.objs.size)) _ _ K;obtain⟨f0,f1,f2,f3,u,G⟩:=fC;obtain⟨p,d1,ep,d0,b5,d2⟩:=id hn;have d4:L2.AU X (AN++[(s3.heap.objs.size,p)]) σ B K:=I'.Hu λpp hp=>by
   rcases List.mem_append.mp hp with z|z
   ·exact I'.pin pp (ZA _ z)
   ·have:pp=(s3.heap.objs.size,p):=by simpa using z
    subst this;exact⟨d0,f0,f1,f2,λv z=>by rw[b5]at z;cases z⟩
  refine fX (L2.um hN hy hx hf (AN++[(s3.heap.objs.size,p)]) K σ B (.ref a.heap.objs.size) (.ref a.heap.objs.size) (λσ' L=>σ'=σ.set i (Z (.ref a.heap.objs.size))/\L=B) d4 S ⟨rfl,rfl⟩) λ_ s'' ⟨σ',L,J',e1,e2⟩=>?_;subst e1 e2;have b8:=(J'.pin (s3.heap.objs.size,p) (by simp)).1;refine⟨m,⟨p,d1,ep,b8,b5,d2⟩,λh' sb=>?_⟩;exact⟨σ.set i (Z (.ref a.heap.objs.size)),L,J'.oZ.turned (t':=s''.toks) (λb o f e=>(sb.2 b f).trans e) f0 f1 f3 u G,wd _ _ _ M w5⟩
def Mv(X:Cx)(Q:Hp->Prop)(H:Hp):Prop:=∀(AN:O (A1×AE)) (σ:L2.St) (s:A2),L2.AU X AN σ H s->∃H',L2.AU X AN σ H' s/\Q H'
section
variable{Q Q':Hp->Prop}{ks:O V}
theorem Mv.Bq(e:H a=Z (.gF o (.lst ks)))(c:∀b u,X.H₀ a≠Z (.gF b u))(h:Q (B4 H a (.lst ks))):Mv X Q H:=λp σ s I=>⟨_,LI c I e,h⟩
theorem Mv.gF(e:H a=Z (.lst ks))(h:∀o,Q (B4 H a (.gF o (.lst ks)))):Mv X Q H:=λp σ s I=>let ⟨o,I'⟩:=qd I e;⟨_,I',h o⟩
def D4(X:Cx)(te:TE):TE:=λσ H Q=>te σ H λv H1=>Mv X (λH2=>Q v H2) H1
theorem Ml(h:PE X e te):PE X e (D4 X te):=λAN s σ H Q I q=>fX (h AN s σ H _ I q) λu s1 ⟨v,H1,I1,rv,m⟩=>let ⟨H2,I2,q⟩:=m _ _ _ I1;⟨v,H2,I2,rv,q⟩
theorem YC{st:O AB}{t:TS}(h:Ad X st t):Ad X st (λD σ H=>Mv X (t D σ) H):=λAN s σ H D I m=>let ⟨H1,I1,q⟩:=m _ _ _ I;h AN s σ H1 D I1 q
def X9(X:Cx)(t:TS):TS:=λD σ H=>t { D with nx:=λσ H=>Mv X (D.nx σ) H } σ H
theorem SW{st:O AB}{t:TS}(h:Ad X st t):Ad X st (X9 X t):=λAN s σ H D I q=>fX (h AN s σ H _ I q) λf c z=>by
 cases f with
 |next=>
  obtain⟨σ',H',a,m⟩:=z;obtain⟨H2,b,q⟩:=m _ _ _ a;exact⟨σ',H2,b,q⟩
 |_=>exact z
end
abbrev Vp(x:AZ):Dt:=.lst (x.map .str)
def DU(fz:Bool)(H:Hp)(p:A1)(x:AZ):Prop:=match fz with
 |true=>∃o,H p=Z (.gF o (.lst (x.map .str)))
 |false=>H p=Z (.lst (x.map .str))
theorem DU.mono{fz:Bool}{H':Hp}{p:A1}{x:AZ}(h:DU fz H p x)(s:∀u,H p=Z u->H' p=Z u):DU fz H' p x:=by
 cases fz with
 |true=>obtain⟨o,e⟩:=h;exact⟨o,s _ e⟩
 |false=>exact s _ h
structure nJ (X:Cx) (H0 Hb:Hp) (ρ:Ev) (fz:Bool) (L:List AZ) (a:Addr) (ps:List Addr) (σ:L2.St) (H:Hp):Prop where
 env:aX X.K H0 Hb σ ρ
 sub:AV Hb H
 at2:σ[2]?=some (some (.ref a))
 out:H a=some (.lst (ps.map .ref))
 na:Hb a=none
 nd:ps.Nodup
 len:L.length=ps.length
 inn:∀(k:Nat) x p,L[k]?=some x->ps[k]?=some p->Hb p=none/\DU fz H p x
 sz:∀x∈L,∀y∈x,y.length<=sizeLine
 hx:∀b ob u,X.H₀ b=some (.gF ob u)->Hb b≠none
section
variable{H':Hp}{fz:Bool}{ps:O A1}
theorem nJ.get(h:nJ X H0 Hb ρ fz L a ps σ H){p:A1}(hp:p∈ps):∃(k:Nat) (x:AZ),L[k]?=Z x/\ps[k]?=Z p:=by
 obtain⟨k,hk,e⟩:=JI hp;exact⟨k,L[k]'(by rw[h.len];exact hk),zr _,by rw[<-e];exact zr hk⟩
theorem nJ.Sv(h:nJ X H0 Hb ρ fz L a ps σ H):a∉ps:=λm=>by
 obtain⟨k,x,ex,ep⟩:=h.get m;have hi:=(h.inn k x a ex ep).2;cases fz with
 |true=>
  obtain⟨o,e⟩:=hi;rw[h.out]at e;cases e
 |false=>
  have e:H a=Z (.lst (x.map .str)):=hi;rw[h.out]at e;have e:ps.map V.ref=x.map V.str:=by injection e with e;injection e
  cases ps with
  |nil=>cases m
  |cons p r=>
   cases x with
   |nil=>cases e
   |cons y z=>cases e
theorem nJ.grow(h:nJ X H0 Hb ρ fz L a ps σ H)(s:AV H H'):nJ X H0 Hb ρ fz L a ps σ H':=
 ⟨h.env,h.sub.trans s,h.at2,s _ _ h.out,h.na,h.nd,h.len,λk x p e1 e2=>⟨(h.inn k x p e1 e2).1,(h.inn k x p e1 e2).2.mono λu e=>s _ _ e⟩,h.sz,h.hx⟩
theorem Sw{K:Au}:∀{L:O AZ} {ps:O A1},L.length=ps.length->(∀(k:Nat) x p,L[k]?=Z x->ps[k]?=Z p->DU true H p x)->(∀x∈L,∀y∈x,y.length<=AA)->aG K H (L.map Vp) (ps.map .ref)
 |[],[],_,_,_=>aG.nil
 |x::L,p::ps,hl,h,z=>by
  obtain⟨o,e⟩:=h 0 x p S rfl;refine aG.cons ?_ (Sw (by simpa using hl) (λk x p e1 e2=>h (k+1) x p e1 e2) λx hx=>z x (zg _ hx));show AW K H (.lst _) _;rw[AW];exact⟨p,_,rfl,.inl ⟨o,e⟩,jT (z x ze)⟩
 |[],_::_,hl,_,_=>by cases hl
 |_::_,[],hl,_,_=>by cases hl
theorem C4{l:O (Y α)}{v:Y α}(h:l[i]?=Z v):l.set i v=l:=by
 apply y9;intro j;rw[KO];split
 ·rename_i e;subst e;rw[zl (ba.mp h).1,h]
 ·rfl
theorem nJ.YD(h:nJ X H0 Hb ρ true L a ps σ H):aX X.K H0 H σ (ρ.set 2 (Z (.o (L.map Vp)))):=by
 have:=h.env.set (i:=2) (b:=.o (L.map Vp)) (v:=.ref a) h.sub ⟨a,_,rfl,h.out,Sw h.len (λk x p e1 e2=>(h.inn k x p e1 e2).2) h.sz⟩ (.inl S) λb e=>by cases e;exact h.na
 rwa [C4 h.at2]at this
theorem nJ.ix(h:nJ X H0 Hb ρ true L a ps σ H){k:Nat}(hk:k<L.length):∃x p,L[k]?=Z x/\ps[k]?=Z p/\Hb p=U/\(∃o,H p=Z (.gF o (.lst (x.map .str))))/\(∀c u,X.H₀ p≠Z (.gF c u))/\(∀y∈x,y.length<=AA)/\p≠a:=by
 have b:k<ps.length:=by rw[<-h.len];exact hk
 have e1:L[k]?=Z L[k]:=zr hk;have e2:ps[k]?=Z ps[k]:=zr b;obtain⟨n,o⟩:=h.inn k _ _ e1 e2;exact⟨_,_,e1,e2,n,o,λc u z=>h.hx _ _ _ z n,h.sz _ (ku hk),λz=>h.Sv (z▸ku b)⟩
theorem nJ.put(h:nJ X H0 Hb ρ true L a ps σ H){k:Nat}{x x':AZ}{p:A1}(hk:L[k]?=Z x)(hp:ps[k]?=Z p)(c:∀b u,b≠p->H b=Z u->H' b=Z u)(e:H' p=Z (.gF o (.lst (x'.map .str))))(z:∀y∈x',y.length<=AA):nJ X H0 Hb ρ true (L.set k x') a ps σ H':=by
 have f:=(h.inn k x p hk hp).1;have l:p∈ps:=ZE hp;refine⟨h.env,λb u eb=>c b u (λq=>by rw[q,f]at eb;cases eb) (h.sub b u eb),h.at2,c _ _ (λq=>h.Sv (q▸l)) h.out,h.na,h.nd,by rw[qv];exact h.len,λg y q e1 e2=>?_,λy j=>?_,h.hx⟩
 ·by_cases d:g=k
  ·subst d;rw[QN (ba.mp hk).1]at e1;cases e1;rw[hp]at e2;cases e2;exact⟨f,o,e⟩
  ·rw[k7 (KI d)]at e1;obtain⟨n,w⟩:=h.inn g y q e1 e2;exact⟨n,w.mono λu=>c _ u λi=>d ((List.getElem?_inj (ba.mp e2).1 h.nd).mp (by rw[e2,hp,i]))⟩
 ·rcases eh j with q|q
  ·exact h.sz y q
  ·rw[q];exact z
theorem nJ.more(h:nJ X H0 Hb ρ true L a ps σ H){x:AZ}{p:A1}(g:H p=U)(f:∀b u,b≠p->b≠a->H b=Z u->H' b=Z u)(e:H' p=Z (.gF o (.lst (x.map .str))))(ea:H' a=Z (.lst (ps.map .ref++[.ref p])))(z:∀y∈x,y.length<=AA):nJ X H0 Hb ρ true (L++[x]) a (ps++[p]) σ H':=by
 have d:Hb p=U:=h.sub.free g;have np:p∉ps:=λm=>by
  obtain⟨k,y,e1,e2⟩:=h.get m;obtain⟨o,w⟩:=(h.inn k y p e1 e2).2;rw[g]at w;cases w
 refine⟨h.env,λb u eb=>f b u (λq=>by rw[q,d]at eb;cases eb) (λq=>by rw[q,h.na]at eb;cases eb) (h.sub b u eb),h.at2,by rw[ZH];exact ea,h.na,List.nodup_append.mpr ⟨h.nd,KB ..,λb d c j q=>np (by have:=az.mp j;rw[this]at q;exact q▸d)⟩,by simp[h.len],λk y q e1 e2=>?_,λy i=>?_,h.hx⟩
 ·by_cases hk:k<L.length
  ·rw[ZI hk]at e1;rw[ZI (by rw[<-h.len];exact hk)]at e2;obtain⟨n,w⟩:=h.inn k y q e1 e2;exact⟨n,w.mono λu=>f _ u (λz=>np (z▸ZE e2)) λz=>h.Sv (z▸ZE e2)⟩
  ·rw[ZY (YR hk)]at e1;rw[ZY (by rw[<-h.len];exact YR hk),<-h.len]at e2;have:k-L.length=0:=by
    have:=(ba.mp e1).1;simpa using this
   rw[this]at e1 e2;cases e1;cases e2;exact⟨d,o,e⟩
 ·rcases List.mem_append.mp i with q|q
  ·exact h.sz y q
  ·rw[az.mp q];exact z
theorem nJ.sl(h:nJ X H0 Hb ρ fz L a ps σ H)(b:j≠2)(v:Y V){ρ':Ev}(e:aX X.K H0 Hb (σ.set j v) ρ'):nJ X H0 Hb ρ' fz L a ps (σ.set j v) H:=⟨e,h.sub,by rw[k7 b];exact h.at2,h.out,h.na,h.nd,h.len,h.inn,h.sz,h.hx⟩
theorem Hf{AN:O (A1×AE)}{s:A2}:∀{as:O A1} {H:Hp},L2.AU X AN σ H s->(∀a∈as,(∃o vs,H a=Z (.gF o (.lst vs)))/\∀j u,X.H₀ a≠Z (.gF j u))->as.Nodup->∃H',L2.AU X AN σ H' s/\(∀b,b∉as->H' b=H b)/\∀a∈as,∀o vs,H a=Z (.gF o (.lst vs))->H' a=Z (.lst vs)
 |[],H,I,_,_=>⟨H,I,λ_ _=>S,λ_ h=>by cases h⟩
 |a::as,H,I,h,nd=>by
  obtain⟨f,nd⟩:=bc.mp nd;obtain⟨⟨o,vs,e⟩,c⟩:=h a ze;have d:∀b∈as,b≠a:=λb c z=>f (z▸c);obtain⟨H',i,g,l⟩:=Hf (as:=as) (LI c I e) (λb c=>by rw[aD (d b c)];exact h b (zg _ c)) nd;refine⟨H',i,λb c=>?_,λb c o' m e'=>?_⟩
  ·rw[g b λz=>c (zg _ z),aD λz=>c (by rw[z];exact ze)]
  ·rcases List.mem_cons.mp c with q|q
   ·subst q;rw[e]at e';cases e';rw[g _ f,aJ]
   ·exact l b q o' m (by rw[aD (d b q)];exact e')
theorem nJ.other(h:nJ X H0 Hb ρ fz L a ps σ H){g:Bool}(c:∀b,b∉ps->H' b=H b)(hi:∀p∈ps,∀x,DU fz H p x->DU g H' p x):nJ X H0 Hb ρ g L a ps σ H':=
 ⟨h.env,λb u e=>by
  rw[c b λm=>by
   obtain⟨k,x,e1,e2⟩:=h.get m;rw[(h.inn k x b e1 e2).1]at e;cases e]
  exact h.sub b u e,h.at2,by rw[c a h.Sv];exact h.out,h.na,h.nd,h.len,λk x p e1 e2=>⟨(h.inn k x p e1 e2).1,hi p (ZE e2) x (h.inn k x p e1 e2).2⟩,h.sz,h.hx⟩
theorem nJ.aci{Q:Hp->Prop}(h:nJ X H0 Hb ρ true L a ps σ H)(q:∀H',nJ X H0 Hb ρ false L a ps σ H'->Q H'):Mv X Q H:=λAN σ' s I=>by
 obtain⟨H',c,d,b⟩:=Hf (as:=ps) I (λp m=>by
  obtain⟨k,x,e1,e2⟩:=h.get m;obtain⟨n,o,e⟩:=h.inn k x p e1 e2;exact⟨⟨o,_,e⟩,λf u z=>h.hx _ _ _ z n⟩) h.nd
 exact⟨H',c,q H' (h.other d λp m x ⟨o,e⟩=>b p m o _ e)⟩
theorem nJ.rP{Q:Hp->Prop}(h:nJ X H0 Hb ρ false L a ps σ H)(q:∀H',nJ X H0 Hb ρ true L a ps σ H'->Q H'):Mv X Q H:=λAN σ' s I=>by
 obtain⟨H',c,_,d,b⟩:=tH (as:=ps) I (λp m=>by
  obtain⟨k,x,e1,e2⟩:=h.get m;exact⟨_,(h.inn k x p e1 e2).2⟩) h.nd
 exact⟨H',c,q H' (h.other d λp m x e=>by
  obtain⟨o,vs,e1,e2⟩:=b p m;have e:H p=Z (.lst (x.map .str)):=e;rw[e]at e1;cases e1;exact⟨o,e2⟩)⟩
end
def kj(x:Int)(n:Nat):Nat:=(x%(n:Int)).toNat
theorem qu{x:Int}(h:0<n):kj x n<n:=by
 have h1:=yf x (show(n:Int)≠0 by omega);have h2:=yY x (show(0:Int)<n by omega);unfold kj;omega
theorem Ql{x:Int}(h:0<n):x%(n:Int)=(kj x n:Int):=by
 have h1:=yf x (show(n:Int)≠0 by omega);unfold kj;omega
def pW(x:AZ):Bool:=!decide (x=[])
def Jq(L:O AZ)(k m:Nat):O AZ:=(L.set k ((L.getD k []).eraseIdx m)).filter pW
def BS(L:O AZ)(x:Int)(nm:AJ):O AZ:=if(decide (x / 256%2=0)||decide (L=[]))=true then L++[[nm]]else L.set (kj (x / 512) L.length) (L.getD (kj (x / 512) L.length) []++[nm])
def Cu(L:O AZ)(x:Int):AZ:=L.getD (kj x L.length) []
def F8(L:O AZ)(x:Int):AJ:=(Cu L x).getD (kj (x / 16) (Cu L x).length) ""
def jZ(L:O AZ)(x:Int):O AZ:=if L=[]then L else BS (Jq L (kj x L.length) (kj (x / 16) (Cu L x).length)) x (F8 L x)
structure GN (L:List AZ):Prop where
 ne:∀x∈L,x≠[]
 lt:L.flatten.length<64
theorem tL:∀{L:O AZ},(∀x∈L,x≠[])->L.length<=L.flatten.length
 |[],_=>zk _
 |x::L,h=>by
  have:=tL λy a=>h y (zg _ a);have hx:0<x.length:=bo.mpr (h x ze);rw[zz,zC,Zp];omega
theorem Cv{x:AZ}(h:x∈L):x.length<=L.flatten.length:=by
 induction L with
 |nil=>cases h
 |cons y L a=>
  rw[zz,zC];rcases List.mem_cons.mp h with q|q
  ·rw[q];omega
  ·have:=a q;omega
theorem Cw:∀{L:O AZ} {k:Nat} {x y:AZ},L[k]?=Z x->(L.set k y).flatten.length+x.length=L.flatten.length+y.length
 |[],_,_,_,h=>by simp at h
 |z::L,0,x,y,h=>by
  cases h;rw[gh,zz,zz,zC,zC];omega
 |z::L,k+1,x,y,h=>by
  have:=Cw (L:=L) (k:=k) (y:=y) (by simpa using h);rw[gi,zz,zz,zC,zC];omega
theorem xH:∀(L:O AZ),(L.filter pW).flatten=L.flatten
 |[]=>rfl
 |x::L=>by
  by_cases h:x=[]
  ·subst h;rw[KF (),xH L];rfl
  ·rw[List.filter_cons_of_pos (by simp[pW,h]),zz,zz,xH L]
theorem getD_some{l:O α}{k:Nat}{x d:α}(h:l[k]?=Z x):l.getD k d=x:=by rw[dS,h];rfl
theorem Sx{k m:Nat}{x:AZ}(hk:L[k]?=Z x)(b:m<x.length):(∀y∈Jq L k m,y≠[])/\(Jq L k m).flatten.length+1=L.flatten.length:=by
 refine⟨λy a=>?_,?_⟩
 ·have:=(bb.mp a).2;simpa[pW]using this
 ·unfold Jq;rw[xH,getD_some hk];have:=Cw (y:=x.eraseIdx m) hk;rw[List.length_eraseIdx_of_lt b]at this;omega
theorem RE{x:Int}{nm:AJ}(h:∀y∈L,y≠[]):(∀y∈BS L x nm,y≠[])/\(BS L x nm).flatten.length=L.flatten.length+1:=by
 unfold BS;split
 ·refine⟨λy a=>?_,by simp⟩;rcases List.mem_append.mp a with q|q
  ·exact h y q
  ·rw[az.mp q];simp
 ·rename_i q;have b:L≠[]:=λz=>q (by simp[z]);have hk:kj (x / 512) L.length<L.length:=qu (bo.mpr b);have e:L[kj (x / 512) L.length]?=Z L[kj (x / 512) L.length]:=zr hk;refine⟨λy a=>?_,?_⟩
  ·rcases eh a with z|z
   ·exact h y z
   ·rw[z];simp
  ·have:=Cw (y:=L.getD (kj (x / 512) L.length) []++[nm]) e;rw[getD_some e]at this ⊢;simp only[zC,JS]at this;omega
theorem Cy{x:Int}(a:L≠[]):L[kj x L.length]?=Z (Cu L x):=by
 have hk:=qu (x:=x) (bo.mpr a);have e:L[kj x L.length]?=Z L[kj x L.length]:=zr hk;rw[e];unfold Cu;rw[getD_some e]
theorem GN.step(g:GN L)(x:Int):GN (jZ L x)/\(jZ L x).flatten.length=L.flatten.length:=by
 unfold jZ;split
 ·exact⟨g,rfl⟩
 ·rename_i a;have e:=Cy (x:=x) a;have hp:Cu L x≠[]:=g.ne _ (ZE e);obtain⟨a1,a2⟩:=Sx e (qu (x:=x / 16) (bo.mpr hp));obtain⟨b1,b2⟩:=RE (x:=x) (nm:=F8 L x) a1;have:=g.lt;exact⟨⟨b1,by omega⟩,by omega⟩
def LM:Ev->Y Bool:=pN Kv (gv 2) (cI pC aK)
def Go:Ev->Y Bx:=b2 iW (gv 3) (cI gY (au (gv 2) aK))
def HL:Ev->Y Bx:=b2 iW (b2 nP (gv 3) (cB (.int 16))) (cI gY (au (gv 4) aK))
def Hm:Ev->Y Bool:=pN Kv (gv 0) (cI pC aK)
def GY:Ev->Y Bool:=TY (pN Bi (b2 iW (b2 nP (gv 3) (cB (.int 256))) (cB (.int 2))) (cB (.int 0))) (pN Bi (gv 2) (cI pC aK))
def Lv:Ev->Y Bx:=b2 iW (b2 nP (gv 3) (cB (.int 512))) (cI gY (au (gv 2) aK))
section
variable{b1:Bx}{x:Int}{u v:Y Bx}
theorem WS:LM [Z b0,Z b1,Z (.o (L.map Vp)),u,U,v]=Z (!decide (L=[])):=
 (cG (XQ () (jV (aA 2 (lE (eL eS)) L S)) (fJ (mU (iI (eL eS)) (ZU S))))).ok trivial
theorem Jr(h:0<n):(0:Int)<(n:Int):=by omega
theorem NR(h:0<L.length):Go [Z b0,Z b1,Z (.o (L.map Vp)),Z (.z (.int x)),U,v]=Z (.z (.int (kj x L.length:Nat))):=by
 rw[<-Ql h];exact(GQ (aA 3 (zE eI) x S) (B8 (jV (aA 2 (lE (eL eS)) L S)))).ok (Jr h)
theorem WG{p:AZ}(h:0<p.length):HL [Z b0,Z b1,U,Z (.z (.int x)),Z (.z (Vp p)),v]=Z (.z (.int (kj (x / 16) p.length:Nat))):=by
 rw[<-Ql h];exact(GQ (lg (aA 3 (zE eI) x S) 16 ()) (B8 (mR (aA 4 (zE (eL eS)) p S)))).ok (Jr h)
theorem NA{p:AZ}:Hm [Z (.z (Vp p))]=Z (pW p):=
 (cG (XQ () (mR (aA 0 (zE (eL eS)) p S)) (fJ (mU (iI eS) (ZU S))))).ok trivial
theorem UI:GY [Z b0,Z b1,Z (.o (L.map Vp)),Z (.z (.int x)),U,v]=Z (decide (x / 256%2=0)||decide (L=[])):=
 (Jg (cG (BM () (fu (lg (aA 3 (zE eI) x S) 256 ()) 2 ()) (BD 0))) (cG (SD () (jV (aA 2 (lE (eL eS)) L S)) (fJ (mU (iI (eL eS)) (ZU S)))))).ok trivial
theorem XN(h:0<L.length):Lv [Z b0,Z b1,Z (.o (L.map Vp)),Z (.z (.int x)),U,v]=Z (.z (.int (kj (x / 512) L.length:Nat))):=by
 rw[<-Ql h];exact(GQ (lg (aA 3 (zE eI) x S) 512 ()) (B8 (jV (aA 2 (lE (eL eS)) L S)))).ok (Jr h)
end
abbrev JW(b0 b1:Bx)(x v:Y Bx):Ev:=[Z b0,Z b1,U,x,U,v]
section
variable{b1:Bx}{x:Int}{v:Y Bx}{ps:O A1}{D:BU}
theorem YF{u:Y Bx}(a:j=2\/j=4):∀c,(JW b0 b1 u v)[j]?≠Z (Z c):=λc e=>by
 rcases a with rfl|rfl<;>cases e
theorem Hg{α β:Type}(f:α->β):∀(l:O α) (k:Nat),(l.map f).eraseIdx k=(l.eraseIdx k).map f
 |[],_=>rfl
 |_::_,0=>rfl
 |x::l,k+1=>by rw[zo,KG,KG,zo,Hg f l k]
theorem TD(h:nJ X H0 Hb (JW b0 b1 (Z (.z (.int x))) v) true L a ps σ H)(e:L≠[])(q:∀H' p,ps[kj x L.length]?=Z p->nJ X H0 Hb (JW b0 b1 (Z (.z (.int x))) v) true L a ps (σ.set 4 (Z (.ref p))) H'->D.nx (σ.set 4 (Z (.ref p))) H'):
  Tj (D7 (VL X.K) (uO 2) (tF X.K Go)) (oY 4) D σ H:=by
 have b:=bo.mpr e;refine⟨.ref a,h.at2,H0,_,_,h.YD,NR b,λw H2 c g f=>?_⟩;have h2:=h.grow c;obtain⟨y,p,e1,e2,_⟩:=h2.ix (qu (x:=x) b);have d:w=.int (kj x L.length:Nat):=by simpa only[aW,AW]using f
 refine⟨a,_,_,.ref p,rfl,d,.inl (.inl h2.out),Rf (by rw[zS,e2];rfl),q H2 p e2 (h2.sl () _ (h2.env.sl (YF (.inr S)) _))⟩
theorem MY{y:AZ}{p:A1}{k:Nat}(h:nJ X H0 Hb (JW b0 b1 (Z (.z (.int x))) v) true L a ps σ H)(hk:L[k]?=Z y)(hp:ps[k]?=Z p)(s:σ[4]?=Z (Z (.ref p)))(A:y≠[])(f:y.length<64)
  (q:∀H',nJ X H0 Hb (JW b0 b1 (Z (.z (.int x))) (Z (.z (.str (y.getD (kj (x / 16) y.length) ""))))) true (L.set k (y.eraseIdx (kj (x / 16) y.length))) a ps (σ.set 5 (Z (.str (y.getD (kj (x / 16) y.length) "")))) H'->D.nx (σ.set 5 (Z (.str (y.getD (kj (x / 16) y.length) "")))) H'):
  Tj (D4 X (Da X.K "list" Oi (uO 4) (o7 (D4 X (tF X.K HL)) Ag))) (oY 5) D σ H:=by
 have g:=bo.mpr A;have m:=qu (x:=x / 16) g;obtain⟨B,o,c⟩:=h.inn k y p hk hp;have t:=h.env.set (i:=4) (b:=.z (Vp y)) (v:=.ref p) h.sub (by simp only[aW];rw[AW];exact⟨p,_,rfl,.inl ⟨o,c⟩,jT (h.sz y (ZE hk))⟩) (.inr S) trivial;rw[C4 s]at t;refine⟨.ref p,s,.inl ⟨rfl,_,.inl (.inr ⟨o,c⟩)⟩,H0,_,_,t,WG g,λw H2 j F E=>?_⟩;have C:w=.int (kj (x / 16) y.length:Nat):=by simpa only[aW,AW]using E
 refine Mv.Bq (j _ _ c) (λG u z=>h.hx _ _ _ z B) ?_;have l:y[kj (x / 16) y.length]?=Z (y.getD (kj (x / 16) y.length) ""):=by rw[zr m,dS,zr m];rfl
 have hs:(y.getD (kj (x / 16) y.length) "").length<=AA:=h.sz y (ZE hk) _ (ZE l);refine⟨p,_,_,kj (x / 16) y.length,.str (y.getD (kj (x / 16) y.length) ""),rfl,by rw[C],aJ,by omega,by omega,?_,by rw[zS,l];rfl,?_⟩
 ·rw[zi];exact PySem.StrLaws.seqIndex_nonneg () ()
 refine Mv.gF aJ λo'=>q _ ?_;have n:=h.put (o:=o') (x':=y.eraseIdx (kj (x / 16) y.length)) (H':=B4 (B4 (B4 H2 p (.lst (y.map V.str))) p (.lst ((y.map V.str).eraseIdx (kj (x / 16) y.length)))) p (.gF o' (.lst ((y.map V.str).eraseIdx (kj (x / 16) y.length))))) hk hp (λb u d e=>by
  rw[aD d,aD d,aD d];exact j _ _ e) (by rw[aJ,Hg]) λz f=>h.sz y (ZE hk) z (List.mem_of_mem_eraseIdx f)
 refine n.sl () _ ?_;have:=n.env.set (i:=5) (b:=.z (.str (y.getD (kj (x / 16) y.length) ""))) (v:=.str (y.getD (kj (x / 16) y.length) "")) (AV.refl Hb) (by simp only[aW];rw[AW];exact⟨rfl,hs⟩) (.inr S) trivial;exact this
theorem af(h:nJ X H0 Hb (JW b0 b1 (Z (.z (.int x))) v) true L a ps σ H)(hz:L.length<64)
  (q:∀d a5 H',nJ X H0 Hb (JW b0 b1 (Z (.z (.int x))) v) true (L.filter pW) d a5 (σ.set 2 (Z (.ref d))) H'->D.nx (σ.set 2 (Z (.ref d))) H'):
  Cr 1 [] 2 (Vx X.K (uO 2)) (oY 0) (Ri X.K Hm) (uO 0) D σ H:=by
 let fp:Nat->O (AZ×A1):=λj=>((L.zip ps).take j).filter λc=>pW c.1
 have lz:(L.zip ps).length=ps.length:=by rw[List.length_zip,h.len,ez]
 refine⟨.ref a,h.at2,a,rfl,⟨_,.inl (.inl h.out)⟩,ps.length,λd j σ' H'=>σ'.length=1/\AV H H'/\H' d=Z (.lst ((fp j).map λc=>.ref c.2)),λd g=>⟨rfl,bw g,aJ⟩,λd j σ' H' g hj ⟨l1,sm,eD⟩=>?_,λd σ' H' ⟨_,sm,_⟩=>⟨_,.inl (.inl (sm _ _ h.out)),by rw[zi];exact zk _⟩,λd σ' H' g ⟨_,sm,eD⟩=>?_⟩
 ·have M:j<L.length:=by rw[h.len];exact hj
  have ep:ps[j]?=Z ps[j]:=zr hj;have eL:L[j]?=Z L[j]:=zr M;have J:=sm _ _ h.out;refine⟨⟨_,.ref ps[j],.inl (.inl J),by rw[zS,ep];rfl⟩,λw H1 B=>?_⟩;obtain⟨rfl,m⟩:=B;have m:=m _ (.inl (.inl J));rw[zS,ep]at m;cases m;obtain⟨nb,o,t⟩:=h.inn j _ _ eL ep;have Q:=sm _ _ t;have E1:aX X.K H1 H1 (σ'.set 0 (Z (.ref ps[j]))) [Z (.z (Vp L[j]))]:=by
   refine⟨by rw[qv,l1];rfl,λi b e=>?_,λi j c a b e f=>?_,AV.refl _,λi c a e f=>?_⟩
   ·cases i with
    |zero=>
     cases e;refine⟨.ref ps[j],QN (),?_⟩;simp only[aW];rw[AW];exact⟨_,_,rfl,.inl ⟨o,Q⟩,jT (h.sz _ (ku M))⟩
    |succ i=>cases e
   ·cases i with
    |zero=>cases e;cases f
    |succ i=>cases e
   ·cases i with
    |zero=>cases e;cases f
    |succ i=>cases e
  have F:(L.zip ps).take (j+1)=(L.zip ps).take j++[(L[j],ps[j])]:=by
   rw[cX (),hB]
  refine⟨H1,_,pW L[j],E1,NA,λH3 s=>?_⟩;cases G:pW L[j]with
  |true=>
   rw[zl rfl];refine⟨.ref ps[j],QN (),_,s _ _ eD,?_,?_⟩
   ·have:(fp j).length<=(L.zip ps).length:=Zs (jI _ _) (by rw[KW];exact Nat.min_le_right _ _);rw[zi];have big:64<AA:=by decide
    have:=h.len;exact kC () big
   ·refine⟨by rw[qv,l1],λb u e=>?_,?_⟩
    ·rw[aD (bK e g)];exact s _ _ (sm _ _ e)
    ·rw[aJ];show _=Z (HO.lst ((((L.zip ps).take (j+1)).filter λc=>pW c.1).map λc=>V.ref c.2));rw[F,gm,ZH];have:[(L[j],ps[j])].filter (λc=>pW c.1)=[(L[j],ps[j])]:=by simp[G]
     rw[this];rfl
  |false=>
   rw[zD Zl];refine⟨by rw[qv,l1],sm.trans s,?_⟩;rw[s _ _ eD];show _=Z (HO.lst ((((L.zip ps).take (j+1)).filter λc=>pW c.1).map λc=>V.ref c.2));rw[F,gm];have:[(L[j],ps[j])].filter (λc=>pW c.1)=[]:=by simp[G]
   rw[this,QE]
 ·have e1:∀(L:O AZ) (ps:O A1),L.length=ps.length->((L.zip ps).filter λc=>pW c.1).map (·.1)=L.filter pW:=λL=>by
   induction L with
   |nil=>intro ps _;rfl
   |cons y L ih=>
    intro ps E;cases ps with
    |nil=>cases E
    |cons p ps=>
     rw[yT,K0,K0];have:=ih ps (by simpa using E);split
     ·rw[zo,this]
     ·exact this
  have b5:fp ps.length=(L.zip ps).filter λc=>pW c.1:=by
   show((L.zip ps).take ps.length).filter _=_;rw[<-lz,hC]
  rw[b5]at eD;have b6:σ.length=6:=h.env.len;have a3:(((L.zip ps).filter λc=>pW c.1).map (·.2)).Sublist ps:=by
   have:=(ko (l:=L.zip ps) (p:=λc=>pW c.1)).map (·.2);rwa [List.map_snd_zip (by rw[h.len];exact zk _)]at this
  refine q d (((L.zip ps).filter λc=>pW c.1).map (·.2)) H' ⟨h.env.sl (YF (.inl S)) _,h.sub.trans sm,QN (),by rw[ZT];exact eD,h.sub.free g,h.nd.sublist a3,by rw[<-e1 L ps h.len,zi,zi],λk y p I A=>?_,λy B=>h.sz y (bb.mp B).1,h.hx⟩;rw[<-e1 L ps h.len,zS]at I;rw[zS]at A;obtain⟨c,f,P⟩:=fg.mp I;rw[f]at A;cases A;subst P;have N:=(bb.mp (ZE f)).1;obtain⟨i,hi,C⟩:=JI N;rw[hB]at C;have W:i<L.length:=by rw[h.len];omega
  have b4:i<ps.length:=by omega
  obtain⟨n,o,t⟩:=h.inn i _ _ (zr W) (zr b4);rw[<-C];exact⟨n,o,sm _ _ t⟩
end
section
variable{b1:Bx}{x:Int}{u v:Y Bx}{ps:O A1}{D:BU}
abbrev EU(X:Cx):TE:=D4 X (Da X.K "list" zL (uO 2) (o7 (GE (o7 (uO 5) Ag)) Ag))
abbrev LG(X:Cx):TE:=D4 X (Da X.K "list" zL (D4 X (D7 (VL X.K) (uO 2) (tF X.K Lv))) (o7 (uO 5) Ag))
theorem O'{nm:AJ}(h:nJ X H0 Hb (JW b0 b1 (Z (.z (.int x))) (Z (.z (.str nm)))) true L a ps σ H)(f:L.length<64)(i:∀y∈L,y.length<64)
  (q:∀A H',nJ X H0 Hb (JW b0 b1 (Z (.z (.int x))) (Z (.z (.str nm)))) true (BS L x nm) a A σ H'->D.nx σ H'):
  LU (Ri X.K GY) (HK (J3 (EU X)) Vu) (HK (J3 (LG X)) Vu) D σ H:=by
 obtain⟨w,j,n⟩:=h.env.val 5 _ rfl;obtain⟨rfl,hs⟩:w=.str nm/\nm.length<=AA:=by simpa only[aW,AW]using n
 have big:64<AA:=by decide
 refine⟨H0,_,_,h.YD,UI,λH2 u=>?_⟩;have h2:=h.grow u;by_cases c:(decide (x / 256%2=0)||decide (L=[]))=true
 ·have ep:BS L x nm=L++[[nm]]:=by unfold BS;rw[zl c]
  rw[ep]at q;dsimp only;rw[zl c];refine⟨.ref a,h2.at2,.inl ⟨rfl,_,.inl (.inl h2.out)⟩,.str nm,j,(show 1<=AA by decide),λp hp=>?_⟩;have np:a≠p:=λz=>by rw[<-z,h2.out]at hp;cases hp
  have ea:(B4 H2 p (.lst [V.str nm])) a=Z (.lst (ps.map .ref)):=by rw[aD np];exact h2.out
  refine⟨a,ps.map .ref,.ref p,rfl,rfl,ea,by rw[zi,<-h2.len];exact yo f big,?_⟩;refine Mv.gF (a:=p) (ks:=[V.str nm]) (by rw[aD (KI np),aJ]) λo=>q (ps++[p]) _ ?_;refine h2.more (o:=o) (x:=[nm]) hp (λb z d s e=>by rw[aD d,aD s,aD d];exact e) aJ (by rw[aD np,aJ]) λy i=>?_;rw[az.mp i];exact hs
 ·have ep:BS L x nm=L.set (kj (x / 512) L.length) (L.getD (kj (x / 512) L.length) []++[nm]):=by unfold BS;rw[zD c]
  rw[ep]at q;dsimp only;rw[zD c];have G:L≠[]:=λz=>c (by simp[z]);have l:=bo.mpr G;refine⟨.ref a,h2.at2,H0,_,_,h2.YD,XN l,λw J F N B=>?_⟩;have g:=h2.grow F;have E:w=.int (kj (x / 512) L.length:Nat):=by simpa only[aW,AW]using B
  obtain⟨y,p,e1,e2,M,⟨o,t⟩,C,v,I⟩:=g.ix (qu (x:=x / 512) l);refine⟨a,_,_,.ref p,rfl,E,.inl (.inl g.out),Rf (by rw[zS,e2];rfl),?_⟩;refine Mv.Bq t C ⟨.inl ⟨rfl,_,.inl (.inl aJ)⟩,.str nm,j,p,_,.str nm,rfl,rfl,aJ,?_,?_⟩
  ·rw[zi];exact yo (i y (ZE e1)) big
  refine Mv.gF aJ λo'=>q ps _ ?_;rw[getD_some e1];refine g.put (o:=o') e1 e2 (λb z d e=>by rw[aD d,aD d,aD d];exact e) (by rw[aJ,ZH];rfl) λz f=>?_;rcases List.mem_append.mp f with m|m
  ·exact v z m
  ·rw[az.mp m];exact hs
def Qm(X:Cx):TS:=λD σ H=>∃H0 Hb b0 b1 x L a ps v,nJ X H0 Hb (JW b0 b1 (Z (.z (.int x))) v) false L a ps σ H/\GN L/\∀ σ' H' b c d,nJ X H0 Hb (JW b0 b1 (Z (.z (.int x))) d) false (jZ L x) b c σ' H'->D.nx σ' H'
theorem Va{c1 j:Expr}{o n m e1 e2:AB}{q1 I:Pos}(s:PT X c1 (Ri X.K LM))(h2:PS X o (Tj (D7 (VL X.K) (uO 2) (tF X.K Go)) (oY 4)))(d:PS X n (Tj (D4 X (Da X.K "list" Oi (uO 4) (o7 (D4 X (tF X.K HL)) Ag))) (oY 5)))
  (f:PS X m (Cr 1 [] 2 (Vx X.K (uO 2)) (oY 0) (Ri X.K Hm) (uO 0))) (u:PT X j (Ri X.K GY)) (F:PS X e1 (J3 (EU X))) (J:PS X e2 (J3 (LG X))):Ad X [.If c1 [o,n,m,.If j [e1] [e2] I] [] q1] (Qm X):=by
 refine ZR (SW (YC (eX (Q8 s (eX h2 (eX d (eX f (eX (Q8 u (eX F nM) (eX J nM)) nM)))) nM) nM))) λD σ H h=>?_;obtain⟨H0,Hb,b0,b1,x,L,a,ps,v,h,g,q⟩:=h;refine h.rP λH1 h1=>?_;refine⟨H0,_,_,h1.YD,WS,λH2 w=>?_⟩;have h2:=h1.grow w;by_cases b:L=[]
 ·have e:jZ L x=L:=by unfold jZ;rw[zl b]
  rw[e]at q;dsimp only;rw[zD (by simp[b])];exact h2.aci λH' h'=>q σ H' a ps v h'
 dsimp only;rw[zl (by simp[b])];refine TD h2 b λM p ep d=>?_;have c:=Cy (x:=x) b;have hp:=g.ne _ (ZE c);have B:∀y∈L,y.length<64:=λy i=>kC (Cv i) g.lt;have f:(σ.set 4 (Z (V.ref p)))[4]?=Z (Z (.ref p)):=QN (by have:=d.env.len;rw[qv]at this;rw[this];exact(show 4<6 by decide));refine MY d c ep f hp (B _ (ZE c)) λH4 A=>?_;obtain⟨t,W⟩:=Sx c (qu (x:=x / 16) (bo.mpr hp));have ep:Jq L (kj x L.length) (kj (x / 16) (Cu L x).length)=(L.set (kj x L.length) ((Cu L x).eraseIdx (kj (x / 16) (Cu L x).length))).filter pW:=by unfold Jq;rw[getD_some c]
 have N:=tL g.ne;have:=g.lt;refine af A (by rw[qv];omega) λG a3 P l=>?_;rw[<-ep]at l;have Q:=tL t;refine O' l () (λy i=>by have:=Cv i;omega) λC H6 E=>?_;refine E.aci λH' h'=>q _ H' G C (Z (.z (.str (F8 L x)))) ?_;have e:jZ L x=BS (Jq L (kj x L.length) (kj (x / 16) (Cu L x).length)) x (F8 L x):=by unfold jZ;rw[zD b]
 rw[e];exact h'
end
def Mp:O Dt->Y (O AZ)
 |[]=>Z []
 |.tup ds::r=>(nQ ds).bind λx=>(Mp r).bind λy=>Z (x::y)
 |_=>U
theorem Hh:∀L:O AZ,Mp (L.map (eT eS))=Z L
 |[]=>rfl
 |x::L=>by
  show(nQ (x.map eS)).bind (λz=>(Mp (L.map (eT eS))).bind λy=>Z (z::y))=_;rw[BA,Hh L];rfl
theorem Mq:∀{ds:O Dt} {L:O AZ},Mp ds=Z L->ds=L.map (eT eS)
 |[],L,h=>by cases h;rfl
 |d::r,L,h=>by
  cases d with
  |tup ds=>
   obtain⟨x,e1,h⟩:=AT h;obtain⟨y,e2,h⟩:=AT h;cases h;rw[Ld e1,Mq e2];rfl
  |_=>cases h
theorem Mr:∀{ds:O Dt} {L:O Int},GP ds=Z L->ds=L.map eI
 |[],L,h=>by cases h;rfl
 |d::r,L,h=>by
  cases d with
  |int i=>
   obtain⟨y,e2,h⟩:=AT (show(GP r).bind (λy=>Z (i::y))=Z L from h);cases h;rw[Mr e2];rfl
  |_=>cases h
def YG:Bx->Y (O Dt)
 |.z (.lst ds)=>Z ds
 |.l ds=>Z ds
 |_=>U
theorem Sy(h:YG b=Z ds):Lp b ds:=by
 unfold YG at h;split at h
 ·cases h;exact .inl rfl
 ·cases h;exact .inr rfl
 ·cases h
theorem SJ(h:Lp b ds):YG b=Z ds:=by rcases h with rfl|rfl<;>rfl
def vI(xs:O Int):O Int:=CU xs U (Z (1+at' xs 7%4))
def DO(one:O AZ)(xs:O Int):Prop:=(∀x∈one,x≠[])/\one.flatten.length<64/\In xs.length 7
instance (one:List AZ) (xs:List Int):Decidable (DO one xs):=by unfold DO In;infer_instance
def Hi(one:O AZ)(xs:O Int):O AZ:=bH (((vI xs).foldl jZ one).map aU)
def gN:Ev->Y An
 |[Z b0,Z b1,U,U,U,U]=>(YG b0).bind λd0=>(Mp d0).bind λone=>(YG b1).bind λa=>(GP a).bind λxs=>if DO one xs then Z (.rt (.o ((Hi one xs).map (eT eS))))else U
 |_=>U
def GU:Ev->Y Bx:=cI KJ (au (gv 0) aK)
def HV:Ev->Y Bx:=O1 (gv 1) sS (wK (b2 fG (cB (.int 1)) (b2 iW (b2 uz (gv 1) (cB (.int 7))) (cB (.int 4)))))
def L9:Ev->Y Bx:=cI sY (au (eZ (JV (gv 2)) (pY 0) sU (cI mK (au (cI uW (au (gv 0) aK)) aK)) [] 1) aK)
theorem OZ{x:AZ}:GU [Z (.z (eT eS x))]=Z (.o (x.map eS)):=(VI (aA 0 (zE (eT eS)) x S)).ok trivial
theorem P5{b1:Bx}{a u b v:Y Bx}{xs:O Int}(h:Lp b1 (xs.map eI))(hi:In xs.length 7):Rv HV [Z b0,Z b1,a,u,b,v]=Z ((vI xs).map eI):=
 (U3 (IP (bQ 1 eI xs h S) X3 (X4 (kY (BD 1) (fu (wY (bQ 1 eI xs h S) (BD 7)) 4 ()))))).ok hi
theorem Mm{b1:Bx}{u v:Y Bx}(h:GN L):L9 [Z b0,Z b1,Z (.o (L.map Vp)),u,U,v]=Z (.o ((bH (L.map aU)).map (eT eS))):=by
 have l:=tL h.ne;have:=h.lt;have d:∀y∈L,y.length<64:=λy a=>kC (Cv a) h.lt;refine(z6 (fJ (BZ (zy (jV (aA 2 (lE (eL eS)) L S))) _ (λ_=>S) (λe:AZ=>(qt (fJ (uF (mR (aA 0 (zE (eL eS)) e S))))))))).ok ?_;refine⟨⟨show L.length<=100000 by omega,d⟩,?_,?_⟩
 ·show(L.map aU).length<64;rw[zi];omega
 ·intro y a;obtain⟨z,b,rfl⟩:=ax.mp a;have:(aU z).length=z.length:=(bf z).length_eq;have c:z≠[]:=h.ne z b;show(aU z).isEmpty=false;cases q:aU z with
  |nil=>
   rw[q]at this;exact absurd (bj.mp this.symm) c
  |cons _ _=>rfl
section
variable{b1:Bx}{one:O AZ}{xs:O Int}{u v:Y Bx}{ps:O A1}{D:BU}
theorem ap{w:V}(g:σ.length=1)(r:AW K H d w):aX K H H (σ.set 0 (Z w)) [Z (.z d)]:=by
 refine⟨by rw[qv,g];rfl,λi b e=>?_,λi j c a b e f=>?_,AV.refl _,λi c a e f=>?_⟩
 ·cases i with
  |zero=>cases e;exact⟨w,QN (),r⟩
  |succ i=>cases e
 ·cases i with
  |zero=>cases e;cases f
  |succ i=>cases e
 ·cases i with
  |zero=>cases e;cases f
  |succ i=>cases e
theorem VX(E:aX X.K H0 H σ (JW b0 b1 U U))(hx:∀b I u,X.H₀ b=Z (.gF I u)->H b≠U)(h0:Lp b0 (one.map (eT eS)))(hz:one.length<64)
  (q:∀a ps H',nJ X H0 H (JW b0 b1 U U) false one a ps (σ.set 2 (Z (.ref a))) H'->D.nx (σ.set 2 (Z (.ref a))) H'):
  Cr 1 [] 2 (iC X.K (JV (gv 0))) (oY 0) (λ_ H Q=>Q true H) (tF X.K GU) D σ H:=by
 have big:64<AA:=by decide
 refine⟨H0,_,_,E,(zy (bQ 0 (eT eS) one h0 S)).ok trivial,λJ H2 h Y=>⟨one.length,λa j σ' H'=>σ'.length=1/\∃ps:O A1,ps.length=j/\ps.Nodup/\AV H2 H'/\H' a=Z (.lst (ps.map .ref))/\∀(k:Nat) x p,one[k]?=Z x->ps[k]?=Z p->H2 p=U/\H' p=Z (.lst (x.map .str))/\∀y∈x,y.length<=AA,
  λa g=>⟨rfl,[],rfl,.nil,bw g,aJ,λk x p _ e=>by simp at e⟩,λa j σ' H' g hj ⟨l1,ps,lp,nd,sm,eD,inn⟩=>?_,λa σ' H' ⟨_,ps,_,_,sm,_⟩=>(Y _ H' sm).2 (by show(one.map (eT eS)).length<=_;rw[zi];exact zk _),λa σ' H' g ⟨_,ps,lp,nd,sm,eD,inn⟩=>?_⟩⟩
 ·have e1:(one.map (eT eS))[j]?=Z (eT eS one[j]):=by rw[zS,zr hj];rfl
  obtain⟨go,s⟩:=(Y j H' sm).1 _ e1;refine⟨go,λw H1 C=>?_⟩;obtain⟨d,B⟩:=s w H1 C;unfold oY;dsimp only;rw[zl rfl];refine⟨H1,_,_,ap l1 B,OZ,λv H4 i G F=>?_⟩;obtain⟨p,vs,rfl,ep,W⟩:=F;obtain⟨rfl,L⟩:=jx W (BA one[j]);have np:=G p rfl;have P:=i _ _ (d _ _ eD);have o:p≠a:=λz=>by rw[z,d _ _ eD]at np;cases np
  have A:p∉ps:=λm=>by
   obtain⟨k,hk,ek⟩:=JI m;have:=(inn k one[k] p (zr ()) (by rw[<-ek];exact zr hk)).2.1;rw[d _ _ this]at np;cases np
  refine⟨_,P,by rw[zi,lp];omega,by rw[qv,l1],ps++[p],by simp[lp],List.nodup_append.mpr ⟨nd,KB ..,λb N c n z=>A (by rw[az.mp n]at z;exact z▸N)⟩,λb w e=>?_,by rw[aJ,ZH];rfl,λk y r l f=>?_⟩
  ·rw[aD (bK e g)];exact i _ _ (d _ _ (sm _ _ e))
  ·by_cases hk:k<ps.length
   ·rw[ZI hk]at f;obtain⟨i1,i2,i3⟩:=inn k y r l f;have M:r≠a:=λz=>by
     rw[z,eD]at i2;have e:ps.map V.ref=y.map V.str:=by injection i2 with e;injection e
     cases ps with
     |nil=>simp at hk
     |cons p' t=>
      cases y with
      |nil=>cases e
      |cons _ _=>cases e
    exact⟨i1,by rw[aD M];exact i _ _ (d _ _ i2),i3⟩
   ·rw[ZY (YR hk)]at f;have:k-ps.length=0:=by
     have:=(ba.mp f).1;simpa using this
    rw[this]at f;cases f;have ek:k=j:=by omega
    subst ek;rw[zr hj]at l;cases l;exact⟨sm.free (d.free np),by rw[aD o];exact ep,L⟩
 ·have a3:σ.length=6:=E.len;refine q a ps H' ⟨E.sl (YF (.inl S)) _,h.trans sm,QN (),eD,h.free g,nd,lp.symm,λk x p e1 e2=>⟨h.free (inn k x p e1 e2).1,(inn k x p e1 e2).2.1⟩,λx hx=>?_,hx⟩;obtain⟨k,hk,ek⟩:=JI hx;exact(inn k x ps[k] (by rw[<-ek];exact zr hk) (zr ())).2.2
theorem GN.fold:∀(zs:O Int) {L:O AZ},GN L->GN (zs.foldl jZ L)
 |[],_,g=>g
 |z::zs,_,g=>GN.fold zs (g.step z).1
theorem Y3(h:nJ X H0 Hb (JW b0 b1 U U) false one a ps σ H)(g:GN one)(h1:Lp b1 (xs.map eI))(hi:In xs.length 7)
  (q:∀Hs f d u v σ' H',nJ X H0 Hs (JW b0 b1 u v) false ((vI xs).foldl jZ one) f d σ' H'->D.nx σ' H'):HP (iF X.K (Rv HV)) (oY 3) (Qm X) D σ H:=by
 refine⟨H0,_,_,h.env.grow h.sub,P5 h1 hi,λJ H1 j y=>?_⟩;have t:=h.grow j
 let Hs:Hp:=λb=>if b=a\/b∈ps then U else H1 b
 have hs:∀b,b≠a->b∉ps->Hs b=H1 b:=λb n m=>zD λz=>z.elim n m;have kn:∀b,b∈ps->∃w,H b=Z (.lst w):=λb m=>by
  obtain⟨k,x,e1,e2⟩:=h.get m;exact⟨_,(h.inn k x b e1 e2).2⟩
 have F:AV Hs H1:=λb w e=>by
  by_cases c:b=a\/b∈ps
  ·rw[show Hs b=U from zl c]at e;cases e
  ·rw[<-show Hs b=H1 b from zD c];exact e
 have Y:=y Hs F (λb B=>hs b (λz=>by rw[z,h.out]at B;cases B) λm=>by obtain⟨w,e⟩:=kn b m;rw[B]at e;cases e)
  (λb o w e=>hs b (λz=>by rw[z,j _ _ h.out]at e;cases e) λm=>by obtain⟨A,e'⟩:=kn b m;rw[j _ _ e']at e;cases e)
  (λb vs e=>hs b (λz=>by rw[z,j _ _ h.out]at e;cases e) λm=>by obtain⟨A,e'⟩:=kn b m;rw[j _ _ e']at e;cases e)
 have C:AV Hb Hs:=λb w e=>by
  rw[hs b (λz=>by rw[z,h.na]at e;cases e) λm=>by
   obtain⟨k,x,e1,e2⟩:=h.get m;rw[(h.inn k x b e1 e2).1]at e;cases e]
  exact t.sub _ _ e
 have hN:nJ X H0 Hs (JW b0 b1 U U) false one a ps σ H1:=⟨h.env.grow C,F,h.at2,t.out,zl (.inl S),h.nd,h.len,λk x p e1 e2=>⟨zl (.inr (ZE e2)),(t.inn k x p e1 e2).2⟩,h.sz,λb P w e z=>by
  cases c:Hb b with
  |none=>exact h.hx b P w e c
  |some A=>rw[C b A c]at z;cases z⟩
 generalize a5:vI xs=zs at Y q;refine⟨λi m σ' H'=>∃f d u v,nJ X H0 Hs (JW b0 b1 u v) false ((zs.take i).foldl jZ one) f d σ' H'/\m=zs.length-i/\i<=zs.length,⟨zs.length,a,ps,U,U,by simpa using hN,by simp,qh _⟩,λi m σ' H' ⟨f,d,u,v,n,em,hi'⟩=>?_⟩;obtain⟨y1,y2⟩:=Y i H' n.sub;by_cases s:i<zs.length
 ·right;obtain⟨go,L⟩:=y1 (.int zs[i]) (by rw[zS,zr s];rfl);refine⟨go,λE H2=>∃f d v,nJ X H0 Hs (JW b0 b1 (Z (.z (.int zs[i]))) v) false ((zs.take (i+1)).foldl jZ one) f d E H2,λE H2 ⟨a2,p2,v2,l⟩=>⟨zs.length-(i+1),by omega,a2,p2,_,v2,l,rfl,s⟩,λw H2 N=>?_⟩;obtain⟨I,G⟩:=L w H2 N;have W:w=.int zs[i]:=by simpa only[AW]using G
  subst W;have l:=n.grow I;have e3:=l.env.set (i:=3) (b:=.z (.int zs[i])) (v:=.int zs[i]) (AV.refl Hs) (by simp only[aW,AW]) (.inr S) trivial;refine⟨H0,Hs,b0,b1,zs[i],_,f,d,v,l.sl () _ e3,GN.fold _ g,λb4 H3 Q p3 v3 M=>⟨Q,p3,v3,?_⟩⟩;rw[cX s,gE];exact M
 ·left;have:i=zs.length:=by omega
  subst this;rw[hC]at n;exact⟨y2 (by show(zs.map eI).length<=_;rw[zi];exact zk _),q Hs f d u v σ' H' n⟩
theorem TN{d c SR:AB}{B:O AB}(i:PS X d (Cr 1 [] 2 (iC X.K (JV (gv 0))) (oY 0) (λ_ H Q=>Q true H) (tF X.K GU)))(x:∀{t:TS},Ad X B t->PS X c (HP (iF X.K (Rv HV)) (oY 3) t))(p:Ad X B (Qm X))(m:PS X SR (IM (tF X.K L9))):NT X [d,c,SR] gN:=⟨by
 intro AN s σ H D I q;obtain⟨H0,ρ,r,E,e,fo⟩:=q;unfold gN at e;split at e
 ·rename_i b0 b1;obtain⟨d0,p0,e⟩:=AT e;obtain⟨one,l,e⟩:=AT e;obtain⟨W,p1,e⟩:=AT e;obtain⟨xs,t1,e⟩:=AT e;split at e
  ·rename_i ok;cases e;have n:=Mq l;have j:=Mr t1;subst n j;have g:GN one:=⟨ok.1,ok.2.1⟩;have M:=tL g.ne;have G:=g.lt;refine(eX i (eX (x p) (YC (eX m nM)))) AN s σ H D I ?_;refine VX E (λb y w z f=>by rw[I.base.rP b y w z]at f;cases f) (Sy p0) () λN ps H1 h1=>?_;refine Y3 h1 g (Sy p1) ok.2.2 λHs P L u v σ' H2 h2=>?_;refine h2.rP λJ a=>?_;have h:=a.env.base.trans a.sub;exact⟨H0,_,_,a.YD,Mm (GN.fold _ g),λw F o C A=>fo w F (h.trans o) (C.old h) A⟩
  ·cases e
 ·cases e⟩
end
theorem Re{one:O AZ}{xs:O Int}{b1:Bx}(a:Lp b0 (one.map (eT eS)))(h1:Lp b1 (xs.map eI)):RP gN [Z b0,Z b1,U,U,U,U] (λr=>An.rt ((oE (eT eS)) r)) (Hi one xs) (Z (DO one xs)):=R.tp (⟨Hi one xs,Z (DO one xs),λh=>by
 have h:DO one xs:=h;unfold gN;simp only[SJ a,SJ h1,Ap,Hh,G8];rw[zl h]⟩)
theorem z8{i:Int}(h:i∈rng 0 n):∃k:Nat,k<n/\i=(k:Int):=by
 unfold rng at h;obtain⟨k,hk,rfl⟩:=ax.mp h;exact⟨k,bz.mp hk,by omega⟩
end P1
namespace P1
open L2 S1 S6
theorem qw{α:Type}[DecidableEq α]:∀{xs ys:O α},xs.Nodup->(∀x∈xs,x∈ys)->xs.length<=ys.length
 |[],_,_,_=>qh _
 |x::xs,ys,nd,h=>by
  obtain⟨h1,h2⟩:=bc.mp nd;have hx:=h x (ze ..);have:=qw (ys:=ys.erase x) h2 λy a=>(de λe=>h1 (by rw[<-e];exact a)).mpr (h y (zg _ a));rw[YI hx]at this;have:=cN hx;simp only[Zp];omega
theorem vJ[DecidableEq α]{xs ys:O α}(h1:xs.Nodup)(h2:ys.Nodup)(h:∀x,x∈xs↔x∈ys):xs.Perm ys:=by
 rw[List.perm_iff_count];intro a;by_cases b:a∈xs
 ·rw[h1.count,h2.count,zl b,zl ((h a).mp b)]
 ·rw[h1.count,h2.count,zD b,zD λz=>b ((h a).mpr z)]
structure Wd (U:AZ) (w:List AZ):Prop where
 ne:∀s∈w,s≠[]
 so:∀s∈w,s.Pairwise Rx
 nd:w.flatten.Nodup
 sub:∀x∈w.flatten,x∈U
 st:w.Pairwise (λa b=>Qa a b=true)
def same(w:O AZ)(x y:AJ):Prop:=∃s∈w,x∈s/\y∈s
theorem Js{α:Type}:∀{w:O (O α)},w.flatten.Nodup->∀{s t:O α} {x:α},s∈w->t∈w->x∈s->x∈t->s=t
 |a::w,h,s,t,x,hs,ht,xs,xt=>by
  rw[zz,QP]at h;rcases List.mem_cons.mp hs with e1|e1<;>rcases List.mem_cons.mp ht with e2|e2
  ·rw[e1,e2]
  ·exact absurd S (h.2.2 x (by rw[<-e1];exact xs) x (bE.mpr ⟨t,e2,xt⟩))
  ·exact absurd S (h.2.2 x (by rw[<-e2];exact xt) x (bE.mpr ⟨s,e1,xs⟩))
  ·exact Js h.2.1 e1 e2 xs xt
theorem Cz{α:Type}:∀{w:O (O α)},w.flatten.Nodup->∀{s:O α},s∈w->s.Nodup
 |a::w,h,s,hs=>by
  rw[zz,QP]at h;rcases List.mem_cons.mp hs with e|e
  ·rw[e];exact h.1
  ·exact Cz h.2.1 e
theorem Ms{α:Type}:∀{w:O (O α)},w.flatten.Nodup->(∀s∈w,s≠[])->w.Nodup
 |[],_,_=>JP
 |a::w,h,hn=>by
  have h':=h;rw[zz,QP]at h;refine bc.mpr ⟨λz=>?_,Ms h.2.1 λs hs=>hn s (zg _ hs)⟩;obtain⟨x,hx⟩:=List.exists_mem_of_ne_nil a (hn a (ze ..));exact absurd S (h.2.2 x hx x (bE.mpr ⟨a,z,hx⟩))
structure Dx (m:List (Int×List α)) (xs:List α):Prop where
 k:(m.map (·.1)).Nodup
 ne:∀q∈m,q.2≠[]
 p:(m.map (·.2)).flatten.Perm xs
theorem Dx.put{m:O (Int×O α)}{xs:O α}(h:Dx m xs)(k:Int)(x:α):Dx (tK m k x) (xs++[x]):=by
 unfold tK;split
 ·rename_i hk;obtain⟨q0,c,e⟩:=List.any_eq_true.mp hk;have e:q0.1=k:=qa e;obtain⟨d,AS,rfl⟩:=dB c;have g:=h.k;rw[ZH,zo,QP]at g;have i:∀l:O (Int×O α),k∉l.map (·.1)->l.map (λq=>if q.1=k then(q.1,q.2++[x])else q)=l:=λl n=>by
   conv=>rhs;rw[<-dt l]
   exact qq λq c=>by rw[zD λz=>n (ax.mpr ⟨q,c,z⟩)];rfl
  have f1:=i d λz=>g.2.2 _ z _ (ze ..) e.symm;have f2:=i AS λz=>(bc.mp g.2.1).1 (by rw[e];exact z);have f3:(d++q0::AS).map (λq=>if q.1=k then(q.1,q.2++[x])else q)=d++(q0.1,q0.2++[x])::AS:=by rw[ZH,zo,f1,f2,zl e]
  rw[f3];refine⟨by have:=h.k;simpa using this,λq c=>?_,?_⟩
  ·rcases List.mem_append.mp c with c|c
   ·exact h.ne q (QU _ c)
   ·rcases List.mem_cons.mp c with z|c
    ·rw[z];simp
    ·exact h.ne q (ZA _ (zg _ c))
  ·refine List.Perm.trans ?_ (h.p.append_right [x]);simp only[ZH,zo,Kb,zz,ZO];refine List.Perm.append_left _ (List.Perm.append_left _ ?_);exact KS
 ·rename_i hk;refine⟨?_,λq c=>?_,?_⟩
  ·rw[ZH,QP];refine⟨h.k,by simp,λa j b f=>?_⟩;have f:b=k:=by simpa using f
   subst f;intro z;subst z;obtain⟨q,c,e⟩:=ax.mp j;exact hk (List.any_eq_true.mpr ⟨q,c,qA e⟩)
  ·rcases List.mem_append.mp c with c|c
   ·exact h.ne q c
   ·cases az.mp c;simp
  ·rw[ZH,Kb];simpa using h.p.append_right [x]
theorem UY(k:β->Int)(v:β->α)(xs:O β):Dx (Mg k v xs) (xs.map v):=by
 unfold Mg;have:∀(ys:O β) (m:O (Int×O α)) (zs:O α),Dx m zs->Dx (ys.foldl (λm x=>tK m (k x) (v x)) m) (zs++ys.map v):=by
  intro ys
  induction ys with
  |nil=>intro m zs h;simpa using h
  |cons y ys a=>
   intro m zs h;have:=a _ _ (h.put (k y) (v y));simpa[ZO]using this
 simpa using this xs [] [] ⟨JP,λ_ h=>(by cases h),.nil⟩
theorem CG[Inhabited α]{m:O (Int×α)}(nd:(m.map (·.1)).Nodup){q:Int×α}(h:q∈m):look m q.1=q.2:=by
 unfold look;cases a:m.find? λp=>decide (p.1=q.1)with
 |none=>exact absurd (cD.mp a q h) (by simp)
 |some p=>
  have h1:=ei a;have h2:p.1=q.1:=by simpa using List.find?_some a
  have:p=q:=xG (f:=λp:Int×α=>p.1) nd h1 h h2;rw[this];rfl
theorem vK:∀{m:O AZ},(m.map aU).flatten.Perm m.flatten
 |[]=>.nil
 |s::m=>by rw[zo,zz,zz];exact(bf s).append vK
theorem uH{w a:O AZ}(h:w.Perm a):w.flatten.Perm a.flatten:=by
 induction h with
 |nil=>exact .nil
 |cons x _ b=>rw[zz,zz];exact b.append_left x
 |swap x y l=>
  simp only[zz,<-ZO];exact List.perm_append_comm.append_right _
 |trans _ _ h1 h2=>exact h1.trans h2
theorem N4{m:O (Int×AZ)}{U:AZ}(h:Dx m xs)(nd:xs.Nodup)(d:∀x∈xs,x∈U):Wd U (bH ((m.map (·.1)).map λk:Int=>aU (look m k)))/\(bH ((m.map (·.1)).map λk:Int=>aU (look m k))).flatten.Perm xs:=by
 have e:((m.map (·.1)).map λk:Int=>aU (look m k))=(m.map (·.2)).map aU:=by
  rw[ZT,ZT];exact qq λq a=>by simp only[Function.comp,CG h.k a]
 rw[e];have pm:=dW ((m.map (·.2)).map aU);have b:(bH ((m.map (·.2)).map aU)).flatten.Perm xs:=(uH pm).trans (vK.trans h.p);have mem:∀s∈bH ((m.map (·.2)).map aU),∃q∈m,s=aU q.2:=λs hs=>by
  obtain⟨t,c,rfl⟩:=ax.mp (pm.mem_iff.mp hs);obtain⟨q,a,rfl⟩:=ax.mp c;exact⟨q,a,rfl⟩
 refine⟨⟨λs hs z=>?_,λs hs=>?_,b.nodup_iff.mpr nd,λx hx=>d x (b.mem_iff.mp hx),jY _⟩,b⟩
 ·obtain⟨q,a,rfl⟩:=mem s hs;exact h.ne q a (by have:=(bf q.2).length_eq;rw[z]at this;exact bj.mp this.symm)
 ·obtain⟨q,a,rfl⟩:=mem s hs;exact gk _
end P1
section
set_option maxHeartbeats 1000000
namespace P1
open L2
open PySem.Builtin PySem.Builtin.Str
abbrev cs(s:AJ):O Nat:=s.cps.toList
end P1
end
section
set_option maxHeartbeats 1000000
namespace P1
open L2 S1 S6
section
variable [Inhabited α]
end
section
variable{e:α->Dt} [Lx e]
end
end P1
end
namespace P1
open L2
open PySem.Builtin PySem.Builtin.Str
end P1
section
set_option maxHeartbeats 1000000
namespace P1
open L2
open PySem.Builtin PySem.Builtin.Str
end P1
end
section
set_option synthInstance.maxSize 100000
namespace G46
open L2 P1
noncomputable section
abbrev aw:=O P1.Dt
abbrev c7:Type:=AJ×AZ×AZ
abbrev fY:c7->Dt:=DE eS (eT eS) (eT eS)
abbrev Sk:Type:=AZ×AZ
abbrev PQ:Sk->Dt:=Zd (eT eS) (eT eS)
abbrev Em:Type:=AJ×(O AZ)×(O AZ)
abbrev FV:Em->Dt:=DE eS (eT (eT eS)) (eT (eT eS))
abbrev IG:Type:=AZ×(O AZ)×(O AZ)
abbrev IN:IG->Dt:=DE (eL eS) (eL (eT eS)) (eL (eT eS))
def top(i:Nat):AB:=PySem.Challenge.pw_onefolk_k46_least_steps.main.body.getD i (.Pass ⟨0,0,0,0⟩)
abbrev CJ:AB:=top 19
abbrev uX:AB:=top 20
abbrev yW:AB:=top 21
abbrev uY:AB:=top 22
abbrev CK:AB:=top 24
abbrev Hj:AB:=top 23
abbrev CN:AB:=top 9
abbrev j4:AB:=top 12
abbrev xJ:AB:=top 4
abbrev xK:AB:=top 5
abbrev uZ:AB:=top 7
abbrev xM:AB:=top 6
abbrev CP:AB:=top 14
abbrev CQ:AB:=top 13
abbrev yX:AB:=top 11
abbrev CT:AB:=top 17
abbrev CV:AB:=top 16
abbrev rB:AB:=top 15
abbrev xO:AB:=top 25
abbrev xP:AB:=top 26
abbrev yZ:AB:=top 27
abbrev s_law:AB:=top 28
def fuel:Nat:=4
def u0:Ev->Y An:=(aF (aF (B1 2 (b2 iW (b2 fG (b2 sJ (gv 2) (cB (.int 69621))) (gv 3)) (cB (.int 2147483647)))) gj) (dN [3]))
def qz:Ev->Y An:=(aF (Aq (pN DT (gv 1) (cI gY (au (gv 0) aK))) (aF (jR (b2 uz (gv 0) (gv 1))) gj) gj) (aF (B1 2 (b2 iW (b2 sJ (cB (.int 48271)) (b2 fG (b2 fG (b2 sJ (gv 1) (gv 1)) (b2 sJ (cB (.int 7)) (gv 1))) (cB (.int 11)))) (cB (.int 2147483647)))) (aF (qj (Rv (O1 (gv 0) sS (wK (cB (.int 3))))) (pY 3) u0) (aF (jR (gv 2)) gj))))
def jA:O Bx->Y Bx:=dM 4 qz
def jB:Ev->Y An:=(aF (aF (B1 3 (b2 iW (b2 fG (b2 fG (b2 sJ (gv 3) (b2 fG (b2 iW (gv 3) (cB (.int 65521))) (cB (.int 40487)))) (b2 sJ (cB (.int 7)) (gv 5))) (cB (.int 5))) (cB (.int 1999999973)))) (aF (Io 2 (b2 uz (cI pC (au (gv 3) (au (b2 iW (gv 4) (cB (.int 1000000))) aK))) (cI WR (au (b2 FD (gv 4) (cB (.int 0))) aK)))) (aF (B1 4 (b2 nP (gv 4) (cB (.int 1000000)))) gj))) (dN [5]))
def jF:Ev->Y An:=(aF (B1 2 (cI pC aK)) (aF (B1 3 (b2 iW (b2 sJ (b2 fG (b2 iW (gv 0) (cB (.int 1999999973))) (cB (.int 31))) (cB (.int 765432101))) (cB (.int 1999999973)))) (aF (B1 4 (cB (.int 0))) (aF (Aq (TY (pN DT (gv 0) (cB (.int 0))) (pN GW (gv 0) (b2 Fh (cB (.int 10)) (cB (.int 18))))) (aF (aF (B1 4 (cI WQ (au (gv 0) aK))) gj) (dN [])) (aF gj (dN []))) (aF (qj (T9 (au (gv 1) aK)) (pY 5) jB) (aF (zm 2) gj))))))
def fP:O Bx->Y Bx:=dM 6 jF
def mV:Ev->Y An:=(aF (aF (B1 7 (b2 uz (gv 2) (b2 iW (b2 fG (gv 6) (b2 uz (gv 0) (cB (.int 2)))) (cB (.int 15))))) (aF (B1 8 (b2 fG (b2 fG (O1 (gv 3) sS (wK (gv 4))) (gv 7)) (O1 (gv 3) (wK (gv 4)) sS))) (aF (Aq (pN Bi (b2 iW (b2 uz (gv 0) (cB (.int 3))) (cB (.int 3))) (cB (.int 1))) (aF (aF (B1 8 (b2 sJ (b2 uz (gv 2) (b2 nP (gv 6) (cB (.int 8)))) (b2 fG (cB (.int 1)) (b2 iW (gv 6) (cB (.int 8)))))) gj) (dN [])) (aF gj (dN []))) (aF (Io 5 (gv 8)) gj)))) (dN [6,7,8]))
def nY:Ev->Y An:=(aF (B1 2 (cB (.str "abcdefghijklmnopqrstuvwxyz"))) (aF (B1 3 (b1 (KQ "") (eZ (T9 (au (b2 iW (b2 uz (gv 0) (cB (.int 0))) (cB (.int 6))) aK)) (pY 2) sU (b2 uz (gv 0) (b2 iW (b2 nP (b2 uz (gv 1) (gv 2)) (cB (.int 40))) (cB (.int 26)))) [2,0] 1))) (aF (B1 4 (b2 iW (b2 uz (gv 0) (cB (.int 1))) (b2 fG (cI gY (au (gv 3) aK)) (cB (.int 1))))) (aF (B1 5 (cI pC aK)) (aF (qj (T9 (au (gv 1) aK)) (pY 6) mV) (aF (zm 5) gj))))))
def nZ:O Bx->Y Bx:=dM 9 nY
def jG:Ev->Y An:=(aF (B1 2 (λ_=>Z (.m [] U))) (aF (Ck 2 4 3 (T9 (au (cI gY (au (gv 0) aK)) aK)) (b2 iW (b2 nP (b2 uz (gv 1) (b2 iW (gv 3) (cI gY (au (gv 1) aK)))) (b2 fG (cB (.int 1)) (b2 nP (gv 3) (cI gY (au (gv 1) aK))))) (cI Ub (au (cB (.int 1)) (au (cI gY (au (gv 0) aK)) aK)))) (pN FD (b2 iW (b2 uz (gv 1) (cB (.int 0))) (cB (.int 3))) (cB (.int 0))) (b2 iW (gv 4) (cB (.int 3))) (b2 uz (gv 0) (gv 3))) (aF (jR (cI sY (au (eZ (yU (gv 2)) (pY 1) sU (cI mK (au (cI uW (au (b2 nR (gv 0) (gv 1)) aK)) aK)) [2] 1) aK))) gj)))
def g8:O Bx->Y Bx:=dM 5 jG
def qC:Ev->Y An:=gN
def qD:O Bx->Y Bx:=dM 6 qC
def uI:Ev->Y An:=(aF (B1 2 (cP 2 fP (au (b1 Ea (cP 2 jA (au (gv 0) (au (gv 1) aK)))) (au (cB (.int 12)) aK)))) (aF (B1 3 (b2 iW (b2 uz (gv 2) (cB (.int 6))) (cB (.int 11)))) (aF (B1 4 (cI uW (au (cP 2 nZ (au (gv 2) (au (gv 3) aK))) aK))) (aF (Aq (pN Bi (b2 iW (b2 nP (b2 uz (gv 2) (cB (.int 6))) (cB (.int 11))) (cB (.int 16))) (cB (.int 7))) (aF (aF (B1 4 (cI uW (au (eZ (T9 (au (cB (.int 16)) aK)) (pY 0) sU (b2 sJ (b2 uz (cB (.str "ab")) (b2 nP (gv 0) (cB (.int 8)))) (b2 fG (cB (.int 1)) (b2 iW (gv 0) (cB (.int 8))))) [] 1) aK))) gj) (dN [])) (aF gj (dN []))) (aF (B1 5 (cP 2 fP (au (b1 Ea (cP 2 jA (au (gv 0) (au (b1 Ea (b2 fG (gv 1) (cB (.int 1)))) aK)))) (au (cB (.int 16)) aK)))) (aF (B1 6 (cP 2 fP (au (b1 Ea (cP 2 jA (au (gv 0) (au (b1 Ea (b2 fG (gv 1) (cB (.int 2)))) aK)))) (au (cB (.int 16)) aK)))) (aF (B1 7 (cP 2 g8 (au (gv 4) (au (gv 5) aK)))) (aF (B1 8 (cP 2 g8 (au (gv 4) (au (gv 6) aK)))) (aF (Aq (pN Bi (b2 iW (b2 uz (gv 2) (cB (.int 7))) (cB (.int 3))) (cB (.int 1))) (aF (aF (B1 8 (cP 2 qD (au (gv 7) (au (gv 6) aK)))) gj) (dN [])) (aF gj (dN []))) (EA 4 (EA 7 (EA 8 (aF (jR (cI Ao (au (gv 4) (au (gv 7) (au (gv 8) aK))))) gj)))))))))))))
def uJ:O Bx->Y Bx:=dM 9 uI
def qF:Ev->Y An:=(aF (jR (cI uW (au (Jl (JV (gv 0)) (pY 0) sU (EN (Rv (gv 0)) (pY 1) sU (Wu (gv 1))) [] 2) aK))) gj)
def iJ:O Bx->Y Bx:=dM 1 qF
def dX:Ev->Y An:=(aF (aF (B1 2 (RT (HQ (Xq (cP 1 iJ (au (gv 0) aK))) (Xq (cP 1 iJ (au (gv 1) aK)))))) (aF (Aq (tV (gv 2)) (aF HZ gj) gj) gj)) (dN [2]))
def dY:O Bx->Y Bx:=dM 3 dX
def lu:Ev->Y An:=(aF (jR (RW (JV (gv 0)) (pY 0) sU (gv 0) (gv 0) [] 1)) gj)
def lA:O Bx->Y Bx:=dM 1 lu
def rC:Ev->Y An:=(aF (aF (Aq (TY (pN Bi (b2 nR (gv 0) (gv 4)) (gv 1)) (pN Bi (b2 nR (gv 0) (gv 4)) (gv 2))) (aF (aF (W3 0 (gv 3) (gv 4)) gj) (dN [])) (aF gj (dN []))) gj) (dN [4]))
def lB:Ev->Y An:=(aF (aF (B1 3 (cI Bu (au (gv 1) (au (gv 2) aK)))) (aF (qj (Rv (cI Bv (au (gv 0) aK))) (pY 4) rC) gj)) (dN [3,4]))
def ji:A1->O (AY×Dt)->O Bx->Y (O (AY×Dt)):=Lh 5 lB
def jH:Ev->Y An:=(aF (jR (cI mK (au (eZ (yU (gv 0)) (pY 2) (pN Bi (b2 nR (gv 1) (gv 2)) (gv 0)) (gv 2) [1,0] 1) aK))) gj)
def jJ:O Bx->Y Bx:=dM 2 jH
def lC:Ev->Y An:=(aF (jR (eZ (yU (gv 0)) (pY 1) (pN Bi (b2 nR (gv 0) (gv 1)) (gv 1)) (b1 Ea (cP 2 jJ (au (gv 0) (au (gv 1) aK)))) [0] 1)) gj)
def lF:O Bx->Y Bx:=dM 1 lC
def qG:Ev->Y An:=(aF (Aq (pN Bi (gv 0) (cB (.int 1))) (aF (jR (EW (pN Bi (gv 1) (cB (.int 1))) (cB (.str "kept")) (cB (.str "split")))) gj) gj) (aF (jR (EW (pN Bi (gv 1) (cB (.int 1))) (cB (.str "joined")) (cB (.str "mixed")))) gj))
def qH:O Bx->Y Bx:=dM 2 qG
def qI:Ev->Y An:=(aF (B1 3 (cI mK (au (eZ (JV (gv 0)) (pY 1) (pN Cs (b2 uz (gv 1) (cB (.int 0))) (gv 0)) (gv 1) [2] 1) aK))) (aF (B1 4 (cI mK (au (eZ (JV (gv 1)) (pY 1) (pN Cs (b2 uz (gv 1) (cB (.int 0))) (gv 0)) (gv 1) [2] 1) aK))) (aF (jR (cI Ao (au (b1 Ea (cP 2 qH (au (b1 Ea (cI gY (au (gv 3) aK))) (au (b1 Ea (cI gY (au (gv 4) aK))) aK)))) (au (gv 3) (au (gv 4) aK))))) gj)))
def qJ:O Bx->Y Bx:=dM 5 qI
def tM:Ev->Y An:=(aF (aF (Bw 2 2 ji (au (b2 nR (gv 2) (b2 uz (gv 3) (cB (.int 0)))) (au (b2 nR (gv 2) (gv 4)) aK))) gj) (dN [4]))
def tO:Ev->Y An:=(aF (aF (rK 3 (pY 4) tM) gj) (dN [3,4]))
def n6:Ev->Y An:=(aF (R3 (cP 2 dY (au (gv 0) (au (gv 1) aK)))) (aF (B1 2 (cP 1 lA (au (b1 Ea (cP 1 iJ (au (gv 0) aK))) aK))) (aF (qj (Rv (b2 fG (gv 0) (gv 1))) (pY 3) tO) (aF (jR (eZ (JV (cP 1 lF (au (gv 2) aK))) (pY 2) sU (b1 Ea (cP 3 qJ (au (gv 0) (au (gv 1) (au (gv 2) aK))))) [0,1] 1)) gj))))
def n8:O Bx->Y Bx:=dM 5 n6
def qK:Ev->Y An:=(aF (jR (cI mK (au (cI yu (au (b2 fG (gv 0) (gv 1)) aK)) aK))) gj)
def qL:O Bx->Y Bx:=dM 2 qK
def u5:Ev->Y An:=(aF (aF (Io 1 (cI Ao (au (cB (.str "join")) (au (gv 2) (au (gv 3) aK))))) (aF (B1 2 (cP 2 qL (au (gv 2) (au (gv 3) aK)))) gj)) (dN [3]))
def qM:Ev->Y An:=(aF (B1 1 (cI pC aK)) (aF (B1 2 (b2 uz (gv 0) (cB (.int 0)))) (aF (qj (Rv (O1 (gv 0) (wK (cB (.int 1))) sS)) (pY 3) u5) (aF (zm 1) gj))))
def mX:O Bx->Y Bx:=dM 4 qM
def mY:Ev->Y An:=(aF (aF (UJ 2 (cP 1 mX (au (gv 4) aK))) (aF (UJ 2 (eZ (JV (b2 UL (cP 1 mX (au (gv 5) aK)) (b1 Ww (cB (.int 1))))) (pY 0) sU (b1 Ea (b2 fG (cI Ao (au (cB (.str "split")) aK)) (O1 (gv 0) (wK (cB (.int 1))) sS))) [] 1)) gj)) (dN [3,4,5]))
def iD:Ev->Y An:=(aF (B1 2 (cI pC aK)) (aF (qj (Rv (cP 2 n8 (au (gv 0) (au (gv 1) aK)))) (Ke 3 (mG (pY 3) (mG (pY 4) (mG (pY 5) Rm)))) mY) (aF (zm 2) gj)))
def cJ:O Bx->Y Bx:=dM 6 iD
def rE:Ev->Y An:=(aF (aF (Aq (tV (cI CC (au (eZ (JV (gv 7)) (pY 1) sU (b2 Cs (gv 1) (gv 0)) [5] 1) aK))) (aF (aF (B1 5 (b2 fG (gv 5) (eZ (JV (gv 7)) (pY 1) (pN Wy (gv 1) (gv 0)) (gv 1) [5] 1))) gj) (dN [])) (aF gj (dN []))) gj) (dN [7]))
def rG:Ev->Y An:=(aF (aF (B1 6 (cI gY (au (gv 5) aK))) (aF (qj (Rv (b2 fG (gv 1) (gv 2))) (pY 7) rE) gj)) (dN [7]))
def rH:Ev->Y An:=(aF (aF (Aq (Ka (tV (cI CC (au (eZ (JV (gv 3)) (pY 1) sU (b2 Cs (gv 0) (gv 1)) [4] 1) aK)))) (aF (B1 5 (cI pC (au (gv 4) aK))) (aF (B1 6 (cB (.int 0))) (aF (Vn (pN DT (gv 6) (cI gY (au (gv 5) aK))) rG 70) (aF (Io 3 (b1 Ea (cI uW (au (gv 5) aK)))) gj)))) gj) gj) (dN [4,5,6,7]))
def lG:Ev->Y An:=(aF (B1 3 (cI pC aK)) (aF (rK 0 (pY 4) rH) (aF (zm 3) gj)))
def lH:O Bx->Y Bx:=dM 8 lG
def lJ:Ev->Y An:=(aF (FA (Ke 3 (mG (pY 2) (mG (pY 3) (mG (pY 4) Rm)))) (gv 1)) (aF (B1 5 (cI mK (au (cI yu (au (b2 fG (gv 3) (gv 4)) aK)) aK))) (aF (Aq (DY (pN Bi (gv 2) (cB (.str "join"))) (DY (pN Kv (gv 3) (gv 4)) (DY (pN DZ (gv 3) (gv 0)) (pN DZ (gv 4) (gv 0))))) (aF (jR (b1 Ea (cI sY (au (b2 fG (eZ (JV (gv 0)) (pY 2) (pN Xz (gv 2) (cI pC (au (gv 0) (au (gv 1) aK)))) (gv 2) [3,4] 1) (cI pC (au (gv 5) aK))) aK)))) gj) gj) (aF (Aq (DY (pN Bi (gv 2) (cB (.str "split"))) (DY (pN DZ (gv 5) (gv 0)) (DY (pN Kv (gv 3) (cI Ao aK)) (pN Kv (gv 4) (cI Ao aK))))) (aF (jR (b1 Ea (cI sY (au (b2 fG (eZ (JV (gv 0)) (pY 1) (pN Kv (gv 1) (gv 0)) (gv 1) [5] 1) (cI pC (au (gv 3) (au (gv 4) aK)))) aK)))) gj) gj) (aF (jR (cB .non)) gj)))))
def lK:O Bx->Y Bx:=dM 6 lJ
def tU:Ev->Y An:=(aF (aF (Aq (TY (Ka (tV (Gm jg (gv 4)))) (TY (pN Kv (cI gY (au (gv 4) aK)) (cB (.int 3))) (pN Wy (b2 uz (gv 4) (cB (.int 0))) (cI pC (au (cB (.str "join")) (au (cB (.str "split")) aK)))))) (aF (jR (cB (.bl false))) gj) gj) (aF (B1 3 (cP 2 lK (au (gv 3) (au (gv 4) aK)))) (aF (Aq (pN EV (gv 3) (cB .non)) (aF (jR (cB (.bl false))) gj) gj) gj))) (dN [4]))
def oh:Ev->Y An:=(aF (B1 3 (gv 0)) (aF (rK 2 (pY 4) tU) (aF (jR (b2 Bi (gv 3) (gv 1))) gj)))
def j5:O Bx->Y Bx:=dM 5 oh
def Mu:Ev->Y An:=(aF (aF (FA (Ke 3 (mG (pY 2) (mG (pY 3) (mG (pY 4) Rm)))) (cP 2 uJ (au (gv 0) (au (b2 sJ (cB (.int 3)) (gv 1)) aK)))) (aF (B1 5 (cP 2 cJ (au (gv 3) (au (gv 4) aK)))) (aF (B1 6 (b2 EB (b2 fG (cI gY (au (gv 3) aK)) (cI gY (au (gv 4) aK))) (b2 sJ (cB (.int 2)) (cI gY (au (cP 3 lH (au (gv 2) (au (gv 3) (au (gv 4) aK)))) aK))))) (aF (Aq (TY (Ka (tV (Gm BN (gv 5)))) (TY (pN Kv (cI gY (au (gv 5) aK)) (gv 6)) (Ka (tV (cP 3 j5 (au (gv 3) (au (gv 4) (au (gv 5) aK)))))))) (aF (jR (cB (.bl false))) gj) gj) (aF (Io 5 (cB .non)) (aF (Aq (TY (pN Kv (cI gY (au (cP 2 cJ (au (gv 3) (au (gv 4) aK))) aK)) (gv 6)) (pN Kv (cP 2 cJ (au (gv 3) (au (gv 3) aK))) (cI pC aK))) (aF (jR (cB (.bl false))) gj) gj) (aF (Aq (TY (Ka (tV (cP 3 j5 (au (gv 4) (au (gv 3) (au (b1 Ea (cP 2 cJ (au (gv 4) (au (gv 3) aK)))) aK)))))) (pN Kv (cI gY (au (cP 2 cJ (au (gv 4) (au (gv 3) aK))) aK)) (gv 6))) (aF (jR (cB (.bl false))) gj) gj) gj))))))) (dN [1,2,3,4,5,6]))
def SM:Ev->Y An:=(aF (qj (T9 (au (cI Ub (au (cB (.int 1)) (au (cI WX (au (b2 nP (cI gY (au (gv 0) aK)) (cB (.int 3))) (au (cB (.int 3)) aK))) aK))) aK)) (pY 1) Mu) (aF (jR (cB (.bl true))) gj))
def F_law:O Bx->Y Bx:=dM 7 SM
end
end G46
end
section
set_option synthInstance.maxSize 100000
namespace G46
open L2 P1
set_option genInjectivity false
set_option genSizeOf false
structure T (K:Au) (mg:Str->Option Value) where
 jC:DQ K mg "_law_cell" CJ ["_law_script","_law_k"]
 fQ:DQ K mg "_law_numbers" uX ["_law_cell_here","_law_many"]
 ou:DQ K mg "_law_names" yW ["_law_xs","_law_many"]
 ig:DQ K mg "_law_joining" uY ["_law_names_here","_law_xs"]
 qN:DQ K mg "_law_near" CK ["_law_one","_law_xs"]
 uK:DQ K mg "_law_two" Hj ["_law_script","_law_at"]
 iK:DQ K mg "names_in" CN ["sets"]
 dZ:DQ K mg "refuse_other_names" j4 ["one","other"]
 lM:DQ K mg "lone_heads" xJ ["names"]
 d7:DQ K mg "join_heads" xK ["heads","one","other"]
 jK:DQ K mg "names_under" uZ ["heads","head"]
 lN:DQ K mg "sets_under" xM ["heads"]
 qO:DQ K mg "word_for" CP ["ones","others"]
 qP:DQ K mg "group_of" CQ ["one","other","names"]
 oF:DQ K mg "groups_of" yX ["one","other"]
 qQ:DQ K mg "together" CT ["one","other"]
 mZ:DQ K mg "joins_of" CV ["sets"]
 cL:DQ K mg "steps_between" rB ["one","other"]
 lO:DQ K mg "_law_groups" xO ["_law_names_here","_law_one","_law_other"]
 lQ:DQ K mg "_law_behind" xP ["_law_joining_here","_law_step"]
 j6:DQ K mg "_law_leads" yZ ["_law_one","_law_other","_law_steps"]
 x_law:DQ K mg "law" s_law ["_law_script"]
 ahd:mg "abs"=none
 acj:mg "any"=none
 ahe:mg "int"=none
 xQ:mg "isinstance"=none
 iu:mg "len"=none
 Qn:mg "list"=none
 acn:mg "max"=none
 aco:mg "min"=none
 uL:mg "range"=none
 acp:mg "set"=none
 fB:mg "sorted"=none
 oG:mg "tuple"=none
section
variable(t:T K mg)
theorem Mw:bF ["_law_script","_law_k","_law_state","_law_cell_here"] ["_law_script","_law_k"] (aO CJ):=nG
theorem Mx:Ok P w base t.jC 1 2 jA:=Ej (g:=qz) t.jC Mw λ_ _ _ _ _ _ a b nd=>(aB (jP (bG O2 (aj 1) (aR eU S t.iu eG (ao (aj 0) aC)) (bU _)) (aB (dD (f9 (aj 0) (aj 1))) aP) aP) (aB (bx 2 nd (aY cT (aY mJ aH (aY cU (aY cU (aY mJ (aj 1) (aj 1)) (aY mJ aH (aj 1))) aH)) aH)) (aB (qe PassesOwn.never S (nO (Gj (aj 0) pJ (pK aH))) (bh 3 nd) (bB [3] (aB (bx 2 nd (aY cT (aY cU (aY mJ (aj 2) aH) (aj 3)) aH)) aP))) (aB (dD (aj 2)) aP))))
theorem CW:bF ["_law_cell_here","_law_many","_law_found","_law_state","_law_digits","_law_k"] ["_law_cell_here","_law_many"] (aO uX):=nG
theorem CZ:Ok P w base t.fQ 1 2 fP:=Ej (g:=jF) t.fQ CW λ_ _ _ _ _ _ a b nd=>(aB (bx 2 nd (iG aC)) (aB (bx 3 nd (aY cT (aY mJ (aY cU (aY cT (aj 0) aH) aH) aH) aH)) (aB (bx 4 nd aH) (aB (jP (HX (qb (bG O2 (aj 0) aH (bU _)) (p8 (bG Mb (aj 0) (aY Pl aH aH) (bU _))))) (bB [] (aB (bx 4 nd (aR Pm S t.ahd X0 (ao (aj 0) aC))) aP)) (bB [] aP)) (aB (qe PassesOwn.never S (pG S t.uL (ao (aj 1) aC)) (bh 5 nd) (bB [5] (aB (bx 3 nd (aY cT (aY cU (aY cU (aY mJ (aj 3) (aY cU (aY cT (aj 3) aH) aH)) (aY mJ aH (aj 5))) aH) aH)) (aB (Ar 2 (f9 (iG (ao (aj 3) (ao (aY cT (aj 4) aH) aC))) (fM Ta S t.ahe PP (ao (HW Lc (aj 4) aH (bU _)) aC)))) (aB (bx 4 nd (aY jf (aj 4) aH)) aP))))) (aB (wF 2) aP))))))
theorem Jt:bF ["_law_xs","_law_many","_law_letters","_law_stem","_law_at","_law_found","_law_k","_law_mark","_law_name"] ["_law_xs","_law_many"] (aO yW):=nG
theorem Ju:Ok P w base t.ou 1 2 nZ:=Ej (g:=nY) t.ou Jt λ_ _ _ _ _ _ b a nd=>(aB (bx 2 nd kh) (aB (bx 3 nd (P3 (iB ["_law_k"] (qp ["_law_letters","_law_xs"] [2,0]) S (Wv (pG S t.uL (ao (aY cT (f9 (aj 0) aH) aH) aC))) (λ_ _ _ _=>(bn 2)) (λ_ _ _ _=>dF) (λ_ _ _ _=>(f9 (aj 0) (aY cT (aY jf (f9 (aj 1) (aj 2)) aH) aH))) (dJ)))) (aB (bx 4 nd (aY cT (f9 (aj 0) aH) (aY cU (aR eU S t.iu eG (ao (aj 3) aC)) aH))) (aB (bx 5 nd (iG aC)) (aB (qe PassesOwn.never S (pG S t.uL (ao (aj 1) aC)) (bh 6 nd) (bB [6,7,8] (aB (bx 7 nd (f9 (aj 2) (aY cT (aY cU (aj 6) (f9 (aj 0) aH)) aH))) (aB (bx 8 nd (aY cU (aY cU (Gj (aj 3) pJ (pK (aj 4))) (aj 7)) (Gj (aj 3) (pK (aj 4)) pJ))) (aB (jP (bG (of_eq a) (aY cT (f9 (aj 0) aH) aH) aH (bU _)) (bB [] (aB (bx 8 nd (aY mJ (f9 (aj 2) (aY jf (aj 6) aH)) (aY cU aH (aY cT (aj 6) aH)))) aP)) (bB [] aP)) (aB (Ar 5 (aj 8)) aP)))))) (aB (wF 5) aP))))))
theorem Dc:bF ["_law_names_here","_law_xs","_law_found","_law_k","_law_spot"] ["_law_names_here","_law_xs"] (aO uY):=nG
theorem Dd:Ok P w base t.ig 1 2 g8:=Ej (g:=jG) t.ig Dc λ_ _ _ _ _ _ b a nd=>(aB (bx 2 nd OH) (aB (Yp 2 4 3 PassesOwn.never S nd (pG S t.uL (ao (aR eU S t.iu eG (ao (aj 0) aC)) aC)) (aY cT (aY jf (f9 (aj 1) (aY cT (aj 3) (aR eU S t.iu eG (ao (aj 1) aC)))) (aY cU aH (aY jf (aj 3) (aR eU S t.iu eG (ao (aj 1) aC))))) (aR (W0 S) S t.acn WK (ao aH (ao (aR eU S t.iu eG (ao (aj 0) aC)) aC)))) (bG Lc (aY cT (f9 (aj 1) aH) aH) aH (bU _)) (aY cT (aj 4) aH) (f9 (aj 0) (aj 3))) (aB (dD (aR wR S t.fB dO (ao (Br ["_law_spot"] (qp ["_law_found"] [2]) S (aj 2) (λ_ _ _ _=>(bn 1)) (λ_ _ _ _=>dF) (λ_ _ _ _=>(fM mL S t.oG jQ (ao (aR lZ S t.fB dO (ao (qm a (aj 0) (aj 1)) aC)) aC))) (dJ)) aC))) aP)))
theorem Mz:bF ["_law_one","_law_xs","_law_found","_law_x","_law_part","_law_name"] ["_law_one","_law_xs"] (aO CK):=nG
theorem MF:Ok P w base t.qN 1 2 qD:=Ej (g:=qC) t.qN Mz λ_ _ _ _ _ _ b a nd=>TN (Mj 2 ["_law_part"] (qp [] []) S nd (EF.run (gK (aj 0))) (λ_ _ _ _=>(um (by show List.Nodup (_++_);decide +kernel) S (.inl S))) (λ_ _ _ _=>.inl ⟨rfl,rfl⟩) (λ_ _ _ _=>QV.run (fM TB S t.Qn Il (ao (aj 0) aC)))) (λh=>Hw PassesOwn.never S (Do.run (nO (Gj (aj 1) pJ (pK (aY cU aH (aY cT (f9 (aj 1) aH) aH)))))) (um nd S (.inl S)) h) (Va (QB.run (bG (sI a) (aj 2) (iG aC) (bU _))) (Ae nd S (.inl S) (VJ Hy (fV (i:=2) S (.inl S)) (QV.run (aY cT (aj 3) (aR eU S t.iu eG (ao (aj 2) aC)))) (by intro _ _;with_unfolding_all rfl))) (Ae nd S (.inl S) (Ml (yK Jn PySem.F.slot_list_pop PySem.F.type_list_pop VR (fV (i:=4) S (.inl S)) (dR (Ml (QV.run (aY cT (aY jf (aj 3) aH) (aR eU S t.iu eG (ao (aj 4) aC))))) jc S)))) (Mj 2 ["_law_some"] (qp [] []) S nd (Zn (fV (i:=2) S (.inl S))) (λ_ _ _ _=>(um (by show List.Nodup (_++_);decide +kernel) S (.inl S))) (λ_ _ _ _=>.inr ⟨_,rfl,(QB.run (bG (sI a) (aj 0) (iG aC) (bU _)))⟩) (λ_ _ _ _=>(fV (i:=0) S (.inl S)))) (QB.run (HX (qb (bG (of_eq a) (aY cT (aY jf (aj 3) aH) aH) aH (bU _)) (p8 (bG (of_eq a) (aj 2) (iG aC) (bU _)))))) (pZ (Ml (yK Jn Kk Kj lY (fV (i:=2) S (.inl S)) (dR (Od (dR (fV (i:=5) S (.inl S)) jc S)) jc S)))) (pZ (Ml (yK Jn Kk Kj lY (Ml (VJ Hy (fV (i:=2) S (.inl S)) (QV.run (aY cT (aY jf (aj 3) aH) (aR eU S t.iu eG (ao (aj 2) aC)))) (by intro _ _;with_unfolding_all rfl))) (dR (fV (i:=5) S (.inl S)) jc S))))) (N6 (QV.run (aR wR S t.fB dO (ao (iB ["_law_part"] (qp [] []) S (gK (aj 2)) (λ_ _ _ _=>(bn 0)) (λ_ _ _ _=>dF) (λ_ _ _ _=>(fM mL S t.oG jQ (ao (aR lZ S t.fB dO (ao (aj 0) aC)) aC))) (dJ)) aC))))
theorem Qo:bF ["_law_script","_law_at","_law_xs","_law_many","_law_names_here","_law_ys","_law_zs","_law_one","_law_other"] ["_law_script","_law_at"] (aO Hj):=nG
theorem Qp(c:Ok P w base t.jC 1 2 jA)(d:Ok P w base t.ig 1 2 g8)(f:Ok P w base t.ou 1 2 nZ)(h:Ok P w base t.qN 1 2 qD)(b:Ok P w base t.fQ 1 2 fP):Ok P w base t.uK 2 2 uJ:=Ej (g:=uI) t.uK Qo λ_ _ _ _ _ _ a e nd=>(aB (bx 2 nd (cZ t.fQ b a (ao (kW (cZ t.jC c a (ao (aj 0) (ao (aj 1) aC)))) (ao aH aC)))) (aB (bx 3 nd (aY cT (f9 (aj 2) aH) aH)) (aB (bx 4 nd (aR lZ S t.fB dO (ao (cZ t.ou f a (ao (aj 2) (ao (aj 3) aC))) aC))) (aB (jP (bG (of_eq e) (aY cT (aY jf (f9 (aj 2) aH) aH) aH) aH (bU _)) (bB [] (aB (bx 4 nd (aR lZ S t.fB dO (ao (iB ["_law_k"] (qp [] []) S (Wv (pG S t.uL (ao aH aC))) (λ_ _ _ _=>(bn 0)) (λ_ _ _ _=>dF) (λ_ _ _ _=>(aY mJ (f9 kh (aY jf (aj 0) aH)) (aY cU aH (aY cT (aj 0) aH)))) (dJ)) aC))) aP)) (bB [] aP)) (aB (bx 5 nd (cZ t.fQ b a (ao (kW (cZ t.jC c a (ao (aj 0) (ao (kW (aY cU (aj 1) aH)) aC)))) (ao aH aC)))) (aB (bx 6 nd (cZ t.fQ b a (ao (kW (cZ t.jC c a (ao (aj 0) (ao (kW (aY cU (aj 1) aH)) aC)))) (ao aH aC)))) (aB (bx 7 nd (cZ t.ig d a (ao (aj 4) (ao (aj 5) aC)))) (aB (bx 8 nd (cZ t.ig d a (ao (aj 4) (ao (aj 6) aC)))) (aB (jP (bG (of_eq e) (aY cT (f9 (aj 2) aH) aH) aH (bU _)) (bB [] (aB (bx 8 nd (cZ t.qN h a (ao (aj 7) (ao (aj 6) aC)))) aP)) (bB [] aP)) (PK (i:=4) (PK (i:=7) (PK (i:=8) (aB (dD (xX (ao (aj 4) (ao (aj 7) (ao (aj 8) aC))))) aP)))))))))))))
theorem MJ:bF ["sets"] ["sets"] (aO CN):=nG
theorem MK:Ok P w base t.iK 1 1 iJ:=Ej (g:=qF) t.iK MJ λ_ _ _ _ _ _ a b nd=>(aB (dD (aR lZ S t.fB dO (ao (Yl ["own","name"] (II.mk (m:=1) (qp [] []) S (gK (aj 0)) (λ_ _ _ _=>(bn 0)) (λ_ _ _ _=>dF) (dJ) (λ_ _ _ _=>(nO (aj 0))) (λ_ _ _ _=>(bn 1)) (λ_ _ _ _=>dF) (dJ)) (λ_ _ _ _=>(aj 1))) aC))) aP)
theorem rM:bF ["one","other","alone"] ["one","other"] (aO j4):=nG
theorem rN(c:Ok P w base t.iK 1 1 iJ):Ok P w base t.dZ 2 2 dY:=Ej (g:=dX) t.dZ rM λ_ _ _ _ _ _ a b nd=>(bB [2] (aB (bx 2 nd (Th S S t.fB (MX (RV S b S t.acp (cZ t.iK c a (ao (aj 0) aC))) (RV S b S t.acp (cZ t.iK c a (ao (aj 1) aC)))))) (aB (jP (vC (aj 2)) (aB T0 aP) aP) aP)))
theorem Eo:bF ["names"] ["names"] (aO xJ):=nG
theorem Ep:Ok P w base t.lM 1 1 lA:=Ej (g:=lu) t.lM Eo λ_ _ _ _ _ _ b a nd=>(aB (dD (Xr a ["name"] (qp [] []) S (gK (aj 0)) (λ_ _ _ _=>(bn 0)) (λ_ _ _ _=>dF) (λ_ _ _ _=>(aj 0)) (λ_ _ _ _=>(aj 0)) (dJ))) aP)
theorem u6:bF ["heads","one","other","head","name"] ["heads","one","other"] (aO xK):=nG
theorem Er:uP P w K mg base JT 1 t.d7.f t.d7.fd ["heads","one","other"] (FR K 2 ji):=by
 unfold ji;refine Pi (k:=0) (g:=lB) t.d7.F u6 S S λc A outer s H E b=>?_;have a:=Rw b;have nd:=u6.nd;exact(bB [3,4] (aB (bx 3 nd (aR (a0 S) S t.aco WD (ao (aj 1) (ao (aj 2) aC)))) (aB (qe PassesOwn.never S (nO (fM (Xx S) S t.Qn Il (ao (aj 0) aC))) (bh 4 nd) (bB [4] (aB (jP (HX (qb (bG (of_eq a) (qm a (aj 0) (aj 4)) (aj 1) (bU _)) (p8 (bG (of_eq a) (qm a (aj 0) (aj 4)) (aj 2) (bU _))))) (bB [] (aB (VZ 0 a (aj 3) (aj 4)) aP)) (bB [] aP)) aP))) aP)))
theorem Dg:bF ["heads","head"] ["heads","head"] (aO uZ):=nG
theorem Dh:Ok P w base t.jK 1 2 jJ:=Ej (g:=jH) t.jK Dg λ_ _ _ _ _ _ b a nd=>(aB (dD (fM mL S t.oG jQ (ao (Br ["name"] (qp ["head","heads"] [1,0]) S (aj 0) (λ_ _ _ _=>(bn 2)) (λ_ _ _ _=>(iH (bG (of_eq a) (qm a (aj 1) (aj 2)) (aj 0) (bU _)))) (λ_ _ _ _=>(aj 2)) (dJ)) aC))) aP)
theorem Es:bF ["heads"] ["heads"] (aO xM):=nG
theorem Et(c:Ok P w base t.jK 1 2 jJ):Ok P w base t.lN 2 1 lF:=Ej (g:=lC) t.lN Es λ_ _ _ _ _ _ b a nd=>(aB (dD (Br ["name"] (qp ["heads"] [0]) S (aj 0) (λ_ _ _ _=>(bn 1)) (λ_ _ _ _=>(iH (bG (of_eq a) (qm a (aj 0) (aj 1)) (aj 1) (bU _)))) (λ_ _ _ _=>(kW (cZ t.jK c b (ao (aj 0) (ao (aj 1) aC))))) (dJ))) aP)
theorem MN:bF ["ones","others"] ["ones","others"] (aO CP):=nG
theorem MP:Ok P w base t.qO 1 2 qH:=Ej (g:=qG) t.qO MN λ_ _ _ _ _ _ b a nd=>(aB (jP (bG (of_eq a) (aj 0) aH (bU _)) (aB (dD (Wf (bG (of_eq a) (aj 1) aH (bU _)) kh kh)) aP) aP) (aB (dD (Wf (bG (of_eq a) (aj 1) aH (bU _)) kh kh)) aP))
theorem M4:bF ["one","other","names","ones","others"] ["one","other","names"] (aO CQ):=nG
theorem M5(b:Ok P w base t.qO 1 2 qH):Ok P w base t.qP 2 3 qJ:=Ej (g:=qI) t.qP M4 λ_ _ _ _ _ _ a c nd=>(aB (bx 3 nd (fM mL S t.oG jQ (ao (iB ["own"] (qp ["names"] [2]) S (gK (aj 0)) (λ_ _ _ _=>(bn 1)) (λ_ _ _ _=>(iH (bG Ru (f9 (aj 1) aH) (aj 0) (by with_unfolding_all rfl)))) (λ_ _ _ _=>(aj 1)) (dJ)) aC))) (aB (bx 4 nd (fM mL S t.oG jQ (ao (iB ["own"] (qp ["names"] [2]) S (gK (aj 1)) (λ_ _ _ _=>(bn 1)) (λ_ _ _ _=>(iH (bG Ru (f9 (aj 1) aH) (aj 0) (by with_unfolding_all rfl)))) (λ_ _ _ _=>(aj 1)) (dJ)) aC))) (aB (dD (xX (ao (kW (cZ t.qO b a (ao (kW (aR eU S t.iu eG (ao (aj 3) aC))) (ao (kW (aR eU S t.iu eG (ao (aj 4) aC))) aC)))) (ao (aj 3) (ao (aj 4) aC))))) aP)))
theorem Jv:bF ["one","other","heads","own","name"] ["one","other"] (aO yX):=nG
theorem Jw(e:Ok P w base t.qP 2 3 qJ)(j:uP P w K mg base JT 1 t.d7.f t.d7.fd ["heads","one","other"] (FR K 2 ji))(l:Ok P w base t.lM 1 1 lA)(i:Ok P w base t.iK 1 1 iJ)(h:Ok P w base t.dZ 2 2 dY)(d:Ok P w base t.lN 2 1 lF):Ok P w base t.oF 3 2 n8:=Ej (g:=n6) t.oF Jv λ_ _ _ _ _ _ a c nd=>(aB (UN (cZ t.dZ h a (ao (aj 0) (ao (aj 1) aC)))) (aB (bx 2 nd (cZ t.lM l a (ao (kW (cZ t.iK i a (ao (aj 0) aC))) aC))) (aB (qe PassesOwn.never S (nO (aY cU (aj 0) (aj 1))) (bh 3 nd) (bB [3,4] (aB (Ie 3 PassesOwn.never S (bh 4 nd) (bB [4] (aB (T1 2 j (a.mono ()) S t.d7.m t.d7.k t.d7.b (ao (qm c (aj 2) (f9 (aj 3) aH)) (ao (qm c (aj 2) (aj 4)) aC))) aP))) aP))) (aB (dD (iB ["names"] (qp ["one","other"] [0,1]) S (gK (cZ t.lN d a (ao (aj 2) aC))) (λ_ _ _ _=>(bn 2)) (λ_ _ _ _=>dF) (λ_ _ _ _=>(kW (cZ t.qP e a (ao (aj 0) (ao (aj 1) (ao (aj 2) aC)))))) (dJ))) aP))))
theorem M6:bF ["one","other"] ["one","other"] (aO CT):=nG
theorem M7:Ok P w base t.qQ 1 2 qL:=Ej (g:=qK) t.qQ M6 λ_ _ _ _ _ _ a b nd=>(aB (dD (fM mL S t.oG jQ (ao (aR LR S t.fB dO (ao (aY cU (aj 0) (aj 1)) aC)) aC))) aP)
theorem M8:bF ["sets","steps","whole","own"] ["sets"] (aO CV):=nG
theorem M9(b:Ok P w base t.qQ 1 2 qL):Ok P w base t.mZ 2 1 mX:=Ej (g:=qM) t.mZ M8 λ_ _ _ _ _ _ a c nd=>(aB (bx 1 nd (iG aC)) (aB (bx 2 nd (f9 (aj 0) aH)) (aB (qe PassesOwn.never S (nO (Gj (aj 0) (pK aH) pJ)) (bh 3 nd) (bB [3] (aB (Ar 1 (xX (ao kh (ao (aj 2) (ao (aj 3) aC))))) (aB (bx 2 nd (cZ t.qQ b a (ao (aj 2) (ao (aj 3) aC)))) aP)))) (aB (wF 1) aP))))
theorem yx:bF ["one","other","steps","word","ones","others"] ["one","other"] (aO rB):=nG
theorem yC(c:Ok P w base t.oF 3 2 n8)(b:Ok P w base t.mZ 2 1 mX):Ok P w base t.cL 4 2 cJ:=Ej (g:=iD) t.cL yx λ_ _ _ _ _ _ a d nd=>(aB (bx 2 nd (iG aC)) (aB (qe PassesOwn.never S (nO (cZ t.oF c a (ao (aj 0) (ao (aj 1) aC)))) (Oq S (jd (bh 3 nd) (jd (bh 4 nd) (jd (bh 5 nd) Ia)))) (bB [3,4,5] (aB (XF 2 (cZ t.mZ b a (ao (aj 4) aC))) (aB (XF 2 (iB ["step"] (qp [] []) S (gK (No (cZ t.mZ b a (ao (aj 5) aC)) (RO WU aH))) (λ_ _ _ _=>(bn 0)) (λ_ _ _ _=>dF) (λ_ _ _ _=>(kW (aY cU (xX (ao kh aC)) (Gj (aj 0) (pK aH) pJ)))) (dJ))) aP)))) (aB (wF 2) aP)))
theorem Eu:bF ["_law_names_here","_law_one","_law_other","_law_found","_law_name","_law_group","_law_size","_law_part"] ["_law_names_here","_law_one","_law_other"] (aO xO):=nG
theorem Ew:Ok P w base t.lO 1 3 lH:=Ej (g:=lG) t.lO Eu λ_ _ _ _ _ _ a b nd=>(aB (bx 3 nd (iG aC)) (aB (Ie 0 PassesOwn.never S (bh 4 nd) (bB [4,5,6,7] (aB (jP (Ak (vC (aR (WT S) S t.acj Wz (ao (iB ["_law_group"] (qp ["_law_name"] [4]) S (gK (aj 3)) (λ_ _ _ _=>(bn 1)) (λ_ _ _ _=>dF) (λ_ _ _ _=>(HW Ru (aj 0) (aj 1) (by with_unfolding_all rfl))) (dJ)) aC)))) (aB (bx 5 nd (iG (ao (aj 4) aC))) (aB (bx 6 nd aH) (aB (XD 70 PassesOwn.never (bG O2 (aj 6) (aR eU S t.iu eG (ao (aj 5) aC)) (bU _)) (bB [7] (aB (bx 6 nd (aR eU S t.iu eG (ao (aj 5) aC))) (aB (qe PassesOwn.never S (nO (aY cU (aj 1) (aj 2))) (bh 7 nd) (bB [7] (aB (jP (vC (aR (WT S) S t.acj Wz (ao (iB ["_law_some"] (qp ["_law_group"] [5]) S (gK (aj 7)) (λ_ _ _ _=>(bn 1)) (λ_ _ _ _=>dF) (λ_ _ _ _=>(HW Ru (aj 1) (aj 0) (by with_unfolding_all rfl))) (dJ)) aC))) (bB [] (aB (bx 5 nd (aY cU (aj 5) (iB ["_law_some"] (qp ["_law_group"] [5]) S (gK (aj 7)) (λ_ _ _ _=>(bn 1)) (λ_ _ _ _=>(iH (bG KC (aj 1) (aj 0) (by with_unfolding_all rfl)))) (λ_ _ _ _=>(aj 1)) (dJ)))) aP)) (bB [] aP)) aP))) aP)))) (aB (Ar 3 (kW (aR lZ S t.fB dO (ao (aj 5) aC)))) aP)))) aP) aP))) (aB (wF 3) aP)))
theorem Ey:bF ["_law_joining_here","_law_step","_law_word","_law_one","_law_other","_law_both"] ["_law_joining_here","_law_step"] (aO xP):=nG
theorem Ez:Ok P w base t.lQ 1 2 lK:=Ej (g:=lJ) t.lQ Ey λ_ _ _ _ _ _ b a nd=>(aB (Wi (aj 1) (Oq S (jd (bh 2 nd) (jd (bh 3 nd) (jd (bh 4 nd) Ia))))) (aB (bx 5 nd (fM mL S t.oG jQ (ao (aR LR S t.fB dO (ao (aY cU (aj 3) (aj 4)) aC)) aC))) (aB (jP (HX (uq (bG (of_eq a) (aj 2) kh (bU _)) (uq (bG (sI a) (aj 3) (aj 4) (bU _)) (uq (bG (Pz a) (aj 3) (aj 0) (by with_unfolding_all rfl)) (Kc (bG (Pz a) (aj 4) (aj 0) (by with_unfolding_all rfl))))))) (aB (dD (kW (aR wR S t.fB dO (ao (aY cU (iB ["_law_part"] (qp ["_law_one","_law_other"] [3,4]) S (gK (aj 0)) (λ_ _ _ _=>(bn 2)) (λ_ _ _ _=>(iH (bG (Os a) (aj 2) (iG (ao (aj 0) (ao (aj 1) aC))) (by with_unfolding_all rfl)))) (λ_ _ _ _=>(aj 2)) (dJ)) (iG (ao (aj 5) aC))) aC)))) aP) aP) (aB (jP (HX (uq (bG (of_eq a) (aj 2) kh (bU _)) (uq (bG (Pz a) (aj 5) (aj 0) (by with_unfolding_all rfl)) (uq (bG (sI a) (aj 3) (xX aC) (bU _)) (Kc (bG (sI a) (aj 4) (xX aC) (bU _))))))) (aB (dD (kW (aR wR S t.fB dO (ao (aY cU (iB ["_law_part"] (qp ["_law_both"] [5]) S (gK (aj 0)) (λ_ _ _ _=>(bn 1)) (λ_ _ _ _=>(iH (bG (sI a) (aj 1) (aj 0) (bU _)))) (λ_ _ _ _=>(aj 1)) (dJ)) (iG (ao (aj 3) (ao (aj 4) aC)))) aC)))) aP) aP) (aB (dD Om) aP)))))
theorem Jx:bF ["_law_one","_law_other","_law_steps","_law_here","_law_step"] ["_law_one","_law_other","_law_steps"] (aO yZ):=nG
theorem Jy(b:Ok P w base t.lQ 1 2 lK):Ok P w base t.j6 2 3 j5:=Ej (g:=oh) t.j6 Jx λ_ _ _ _ _ _ c a nd=>(aB (bx 3 nd (aj 0)) (aB (Ie 2 PassesOwn.never S (bh 4 nd) (bB [4] (aB (jP (HX (qb (Ak (vC (Im (aj 4) S t.xQ S t.oG))) (qb (bG (sI a) (aR eU S t.iu eG (ao (aj 4) aC)) aH (bU _)) (p8 (bG KC (f9 (aj 4) aH) (iG (ao kh (ao kh aC))) (by with_unfolding_all rfl)))))) (aB (dD FZ) aP) aP) (aB (bx 3 nd (cZ t.lQ b c (ao (aj 3) (ao (aj 4) aC)))) (aB (jP (bG EL (aj 3) Om (bU _)) (aB (dD FZ) aP) aP) aP))))) (aB (dD (HW (of_eq a) (aj 3) (aj 1) (bU _))) aP)))
theorem VQ:bF ["_law_script","_law_k","_law_names_here","_law_one","_law_other","_law_steps","_law_many"] ["_law_script"] (aO s_law):=nG
theorem Pd(e:Ok P w base t.lO 1 3 lH)(d:Ok P w base t.j6 2 3 j5)(f:Ok P w base t.uK 2 2 uJ)(b:Ok P w base t.cL 4 2 cJ):Ok P w base t.x_law 5 1 F_law:=Ej (g:=SM) t.x_law VQ λ_ _ _ _ _ _ a c nd=>(aB (qe PassesOwn.never S (pG S t.uL (ao (aR (W0 S) S t.acn WK (ao aH (ao (aR (TM S) S t.aco WD (ao (aY jf (aR eU S t.iu eG (ao (aj 0) aC)) aH) (ao aH aC))) aC))) aC)) (bh 1 nd) (bB [1,2,3,4,5,6] (aB (Wi (cZ t.uK f a (ao (aj 0) (ao (aY mJ aH (aj 1)) aC))) (Oq S (jd (bh 2 nd) (jd (bh 3 nd) (jd (bh 4 nd) Ia))))) (aB (bx 5 nd (cZ t.cL b a (ao (aj 3) (ao (aj 4) aC)))) (aB (bx 6 nd (aY P9 (aY cU (aR eU S t.iu eG (ao (aj 3) aC)) (aR eU S t.iu eG (ao (aj 4) aC))) (aY mJ aH (aR eU S t.iu eG (ao (cZ t.lO e a (ao (aj 2) (ao (aj 3) (ao (aj 4) aC)))) aC))))) (aB (jP (HX (qb (Ak (vC (KD (aj 5) S t.xQ S t.Qn))) (qb (bG (sI c) (aR eU S t.iu eG (ao (aj 5) aC)) (aj 6) (bU _)) (p8 (Ak (vC (cZ t.j6 d a (ao (aj 3) (ao (aj 4) (ao (aj 5) aC)))))))))) (aB (dD FZ) aP) aP) (aB (Ar 5 Om) (aB (jP (HX (qb (bG (sI c) (aR eU S t.iu eG (ao (cZ t.cL b a (ao (aj 3) (ao (aj 4) aC))) aC)) (aj 6) (bU _)) (p8 (bG (sI c) (cZ t.cL b a (ao (aj 3) (ao (aj 3) aC))) (iG aC) (bU _))))) (aB (dD FZ) aP) aP) (aB (jP (HX (qb (Ak (vC (cZ t.j6 d a (ao (aj 4) (ao (aj 3) (ao (kW (cZ t.cL b a (ao (aj 4) (ao (aj 3) aC)))) aC)))))) (p8 (bG (sI c) (aR eU S t.iu eG (ao (cZ t.cL b a (ao (aj 4) (ao (aj 3) aC))) aC)) (aj 6) (bU _))))) (aB (dD FZ) aP) aP) aP))))))))) (aB (dD FZ) aP))
theorem DJ:Ok P w base t.x_law 5 1 F_law:=by
 have i:=Mx (P:=P) (w:=w) (base:=base) t;have d:=CZ (P:=P) (w:=w) (base:=base) t;have p:=Ju (P:=P) (w:=w) (base:=base) t;have j:=Dd (P:=P) (w:=w) (base:=base) t;have u:=MF (P:=P) (w:=w) (base:=base) t;have v:=Qp (P:=P) (w:=w) (base:=base) t i j p u d;have a:=MK (P:=P) (w:=w) (base:=base) t;have n:=rN (P:=P) (w:=w) (base:=base) t a;have o:=Ep (P:=P) (w:=w) (base:=base) t;have s:=Er (P:=P) (w:=w) (base:=base) t;have b:=Dh (P:=P) (w:=w) (base:=base) t;have l:=Et (P:=P) (w:=w) (base:=base) t b;have f:=MP (P:=P) (w:=w) (base:=base) t;have e:=M5 (P:=P) (w:=w) (base:=base) t f;have c:=Jw (P:=P) (w:=w) (base:=base) t e s o a n l;have q:=M7 (P:=P) (w:=w) (base:=base) t;have z:=M9 (P:=P) (w:=w) (base:=base) t q;have y:=yC (P:=P) (w:=w) (base:=base) t c z;have m:=Ew (P:=P) (w:=w) (base:=base) t;have x:=Ez (P:=P) (w:=w) (base:=base) t;have g:=Jy (P:=P) (w:=w) (base:=base) t x;have h:=Pd (P:=P) (w:=w) (base:=base) t m g v y;exact h
end
end G46
end
section
set_option synthInstance.maxSize 100000
namespace G46
open L2 P1
noncomputable section
def u9(a:Int)(b:Int):Int:=(let a:=(((a*69621)+b)%2147483647);a)
theorem EY(d:BC)(e:Lp bZ (d.map eI))(c:Int)(a:Int)(b:Int):RP u0 [Z bZ,Z (zE eI c),Z (zE eI a),Z (zE eI b)] (λs=>An.nx ((λa:Int=>[Z bZ,Z (zE eI c),Z (zE eI a),U]) s)) (u9  a b) (U):=R.tp (bD (bW 2 (fu (kY (R4 (aA 2 (zE eI) a S) 69621 ()) (aA 3 (zE eI) b S)) 2147483647 ()) (λ_=>S) λa=>(cF (bJ a S))))
def bL(c:BC)(b:Int):Int:=(if(decide (b<(c.length:Int)))=true then(at' c b)else(let a:=((48271*(((b*b)+(7*b))+11))%2147483647);(let a:Int:=((CU c U (Z 3)).foldl (λ(a:Int) (d:Int)=>(u9  a d)) a);a)))
def iQ(b:BC)(a:Int):Prop:=(((decide (a<(b.length:Int)))=true->In b.length a)/\((decide (a<(b.length:Int)))=false->FO a a))
theorem Qq(c:BC)(d:Lp bZ (c.map eI))(a:Int):RP qz [Z bZ,Z (zE eI a),U,U] (λr=>An.rt (zE eI r)) (bL c a) (Z (iQ c a)):=R.tp (tB (cG (XM (aA 1 (zE eI) a S) (B8 (bQ 0 eI c d S)))) (bD (gq (λr=>r) (wY (bQ 0 eI c d S) (aA 1 (zE eI) a S)) (λ_=>S) λ_=>S)) (cF (bW 2 (fu (BJ 48271 () (kY (kY (IX (aA 1 (zE eI) a S) (aA 1 (zE eI) a S)) (BJ 7 () (aA 1 (zE eI) a S))) (BD 11))) 2147483647 ()) (λ_=>S) λb=>(Sl (λb:Int=>[Z bZ,Z (zE eI a),Z (zE eI b),U]) b S (U3 (IP (bQ 0 eI c d S) X3 (X4 (BD 3)))) _ (λ_ _=>S) (λ(b:Int) (e:Int)=>(EY c d a b e).r) (λ_ _=>S) λb=>(gq (λr=>r) (aA 2 (zE eI) b S) (λ_=>S) λ_=>S)))))
theorem vP:∀v bs,(aL eI (aZ eI aN)) v bs->bs.length=2/\(hold (Z (iQ v.1 v.2.1))->jA (bs.map lend)=Z ((zE eI) (bL v.1 v.2.1))):=by
 rintro⟨b,a,_⟩ _ ⟨bZ,_,rfl,c,⟨_,rfl,rfl⟩⟩;exact⟨rfl,λh=>cW (g:=qz) (n:=4) (bs:=[lend bZ,.z (eI a)]) (Qq b (gn c) a) h⟩
def bT(a:Int×BC×Int)(e:Int):Int×BC×Int:=(let b:=((((a.1*((a.1%65521)+40487))+(7*e))+5)%1999999973);(let c:=a.2.1++[(at' [b,(a.2.2%1000000)] (if(decide ((0:Int)<a.2.2))=true then(1:Int)else 0))];(let d:=(a.2.2 / (1000000:Int));(b,c,d))))
def gO(a:Int×BC×Int)(c:Int):Prop:=(FO a.1 ((a.1%65521)+40487)/\(let b:=((((a.1*((a.1%65521)+40487))+(7*c))+5)%1999999973);(In [b,(a.2.2%1000000)].length (if(decide ((0:Int)<a.2.2))=true then(1:Int)else 0)/\zV a.2.1.length)))
theorem yE(e:Int)(d:Int)(a:Int×BC×Int)(b:Int):RP jB [Z (zE eI e),Z (zE eI d),Z ((oE eI) a.2.1),Z ((zE eI) a.1),Z ((zE eI) a.2.2),Z (zE eI b)] (λs=>An.nx ((λa:Int×BC×Int=>[Z (zE eI e),Z (zE eI d),Z ((oE eI) a.2.1),Z ((zE eI) a.1),Z ((zE eI) a.2.2),U]) s)) (bT  a b) (Z (gO  a b)):=R.tp (bD (bW 3 (fu (kY (kY (IX (aA 3 (zE eI) a.1 S) (kY (fu (aA 3 (zE eI) a.1 S) 65521 ()) (BD 40487))) (BJ 7 () (aA 5 (zE eI) b S))) (BD 5)) 1999999973 ()) (λ_=>S) λc=>(bD (Sd 2 a.2.1 S (wY (fJ (mU (jE (aA 3 (zE eI) c S) (jE (fu (aA 4 (zE eI) a.2.2 S) 1000000 ()) (iI eI))) (ZU S))) (RS (L6 (aA 4 (zE eI) a.2.2 S) (BD 0)))) λf=>(bD (bW 4 (lg (aA 4 (zE eI) a.2.2 S) 1000000 ()) (λ_=>S) λg=>(cF (bJ (c,f,g) S))))))))
def gP(g:Int)(c:Int)(d:BC)(b:Int)(e:Int):BC:=(let a:Int×BC×Int:=((rng 0 c.toNat).foldl (λ(a:Int×BC×Int) (f:Int)=>(bT  a f)) (b,d,e));a.2.1)
def jD(g:Int)(c:Int)(e:BC)(d:Int)(f:Int):Prop:=(Rg c/\jX (λ(a:Int×BC×Int) (b:Int)=>(bT  a b)) (λ(a:Int×BC×Int) (b:Int)=>Z (gO  a b)) (rng 0 c.toNat) (d,e,f))
def yF:Ev->Y An:=(aF (qj (T9 (au (gv 1) aK)) (pY 5) jB) (aF (zm 2) gj))
theorem yG(c:Int)(b:Int)(e:BC)(d:Int)(f:Int):RP yF [Z (zE eI c),Z (zE eI b),Z (oE eI e),Z (zE eI d),Z (zE eI f),U] (λr=>An.rt (oE eI r)) (gP c b e d f) (Z (jD c b e d f)):=R.tp (Ce (λa:Int×BC×Int=>[Z (zE eI c),Z (zE eI b),Z ((oE eI) a.2.1),Z ((zE eI) a.1),Z ((zE eI) a.2.2),U]) (d,e,f) S (Lr (aA 1 (zE eI) b S)) _ (λ_ _=>S) (λ(a:Int×BC×Int) (g:Int)=>(yE c b a g).r) λa=>(Cd 2 (λr=>r) a.2.1 S (λ_=>S) λ_=>S))
def bI(a:Int)(d:Int):BC:=(let e:=([]:O Int);(let c:=((((a%1999999973)+31)*765432101)%1999999973);(let b:=(0:Int);(let b:Int:=(if((decide (a<0))||(decide (((10:Int) ^ 18)<=a)))=true then(let b:=(if a<0 then -a else a);b)else b);(gP a d e c b)))))
def fU(a:Int)(d:Int):Prop:=(let e:=([]:O Int);(let c:=((((a%1999999973)+31)*765432101)%1999999973);(let b:=(0:Int);(let b:Int:=(if((decide (a<0))||(decide (((10:Int) ^ 18)<=a)))=true then(let b:=(if a<0 then -a else a);b)else b);(jD a d e c b)))))
theorem Fe(a:Int)(c:Int):RP jF [Z (zE eI a),Z (zE eI c),U,U,U,U] (λr=>An.rt (oE eI r)) (bI a c) (Z (fU a c)):=R.tp (bW 2 (mU (iI eI) (ZU S)) (λ_=>S) λe=>(bW 3 (fu (R4 (kY (fu (aA 0 (zE eI) a S) 1999999973 ()) (BD 31)) 765432101 ()) 1999999973 ()) (λ_=>S) λd=>(bW 4 (BD 0) (λ_=>S) λb=>(GZ (λb:Int=>[Z (zE eI a),Z (zE eI c),Z (oE eI e),Z (zE eI d),Z (zE eI b),U]) (Jg (cG (XM (aA 0 (zE eI) a S) (BD 0))) (cG (Fc (aA 0 (zE eI) a S) (TK 10 18 18 () S)))) (bD (bW 4 (VM (aA 0 (zE eI) a S)) (λ_=>S) λb=>(cF (bJ b S)))) (cF (bJ b S)) λb=>(yG a c e d b).r))))
theorem oU:∀v bs,(aZ eI (aZ eI aN)) v bs->bs.length=2/\(hold (Z (fU v.1 v.2.1))->fP (bs.map lend)=Z ((oE eI) (bI v.1 v.2.1))):=by
 rintro⟨a,b,_⟩ _ ⟨_,rfl,⟨_,rfl,rfl⟩⟩;exact⟨rfl,λh=>cW (g:=jF) (n:=6) (bs:=[.z (eI a),.z (eI b)]) (Fe a b) h⟩
def dG(g:BC)(f:AJ)(e:AJ)(d:Int)(b:AZ)(c:Int):AZ:=(let h:=(ch f ((c+(at' g 2))%15));(let a:=(((Txt.slice e U (Z d))++h)++(Txt.slice e (Z d) U));(let a:AJ:=(if(decide (((at' g 3)%3)=1))=true then(let a:=(Txt.mul (ch f (c / (8:Int))) (1+(c%8)));a)else a);(let b:=b++[a];b))))
def jj(b:BC)(e:AJ)(d:AJ)(c:Int)(h:AZ)(a:Int):Prop:=((In b.length 2/\In e.length ((a+(at' b 2))%15))/\(let g:=(ch e ((a+(at' b 2))%15));((zV ((Txt.slice d U (Z c)).length+g.length)/\zV (((Txt.slice d U (Z c))++g).length+(Txt.slice d (Z c) U).length))/\(let f:=(((Txt.slice d U (Z c))++g)++(Txt.slice d (Z c) U));((In b.length 3/\((decide (((at' b 3)%3)=1))=true->(In e.length (a / (8:Int))/\((1+(a%8))<=1000 ∧ -1000<=(1+(a%8))/\(ch e (a / (8:Int))).length<=1000))))/\(let f:AJ:=(if(decide (((at' b 3)%3)=1))=true then(let f:=(Txt.mul (ch e (a / (8:Int))) (1+(a%8)));f)else f);zV h.length))))))
theorem Di(g:BC)(i:Lp bZ (g.map eI))(h:Int)(e:AJ)(d:AJ)(b:Int)(a:AZ)(f:Int):RP mV [Z bZ,Z (zE eI h),Z (zE eS e),Z (zE eS d),Z (zE eI b),Z (oE eS a),Z (zE eI f),U,U] (λs=>An.nx ((λa:AZ=>[Z bZ,Z (zE eI h),Z (zE eS e),Z (zE eS d),Z (zE eI b),Z (oE eS a),U,U,U]) s)) (dG g e d b a f) (Z (jj g e d b a f)):=R.tp (bD (bW 7 (R6 (aA 2 (zE eS) e S) (fu (kY (aA 6 (zE eI) f S) (wY (bQ 0 eI g i S) (BD 2))) 15 ())) (λ_=>S) λj=>(bD (bW 8 (X5 (X5 (IE (aA 3 (zE eS) d S) X3 (X4 (aA 4 (zE eI) b S))) (aA 7 (zE eS) j S)) (IE (aA 3 (zE eS) d S) (X4 (aA 4 (zE eI) b S)) X3)) (λ_=>S) λc=>(bD (GZ (λc:AJ=>[Z bZ,Z (zE eI h),Z (zE eS e),Z (zE eS d),Z (zE eI b),Z (oE eS a),Z (zE eI f),Z (zE eS j),Z (zE eS c)]) (cG (BM () (fu (wY (bQ 0 eI g i S) (BD 3)) 3 ()) (BD 1))) (bD (bW 8 (X8 (R6 (aA 2 (zE eS) e S) (lg (aA 6 (zE eI) f S) 8 ())) (kY (BD 1) (fu (aA 6 (zE eI) f S) 8 ()))) (λ_=>S) λc=>(cF (bJ c S)))) (cF (bJ c S)) λc=>(bD (Sd 5 a S (aA 8 (zE eS) c S) λa=>(cF (bJ a S))))))))))
def jk(c:BC)(e:Int)(f:AJ)(b:AJ):AZ:=(let d:=((at' c 1)%((b.length:Int)+1));(let a:=([]:AZ);(let a:AZ:=((rng 0 e.toNat).foldl (λ(a:AZ) (g:Int)=>(dG c f b d a g)) a);a)))
def m7(c:BC)(f:Int)(g:AJ)(b:AJ):Prop:=((In c.length 1/\0<((b.length:Int)+1))/\(let e:=((at' c 1)%((b.length:Int)+1));(let a:=([]:AZ);(Rg f/\jX (λ(a:AZ) (d:Int)=>(dG c g b e a d)) (λ(a:AZ) (d:Int)=>Z (jj c g b e a d)) (rng 0 f.toNat) a))))
def Dj:Ev->Y An:=(aF (B1 4 (b2 iW (b2 uz (gv 0) (cB (.int 1))) (b2 fG (cI gY (au (gv 3) aK)) (cB (.int 1))))) (aF (B1 5 (cI pC aK)) (aF (qj (T9 (au (gv 1) aK)) (pY 6) mV) (aF (zm 5) gj))))
theorem Dk(e:BC)(g:Lp bZ (e.map eI))(b:Int)(d:AJ)(c:AJ):RP Dj [Z bZ,Z (zE eI b),Z (zE eS d),Z (zE eS c),U,U,U,U,U] (λr=>An.rt (oE eS r)) (jk e b d c) (Z (m7 e b d c)):=R.tp (bW 4 (GQ (wY (bQ 0 eI e g S) (BD 1)) (kY (PU (aA 3 (zE eS) c S)) (BD 1))) (λ_=>S) λf=>(bW 5 (mU (iI eS) (ZU S)) (λ_=>S) λa=>(Ce (λa:AZ=>[Z bZ,Z (zE eI b),Z (zE eS d),Z (zE eS c),Z (zE eI f),Z (oE eS a),U,U,U]) a S (Lr (aA 1 (zE eI) b S)) _ (λ_ _=>S) (λ(a:AZ) (h:Int)=>(Di e g b d c f a h).r) λa=>(Cd 5 (λr=>r) a S (λ_=>S) λ_=>S))))
def dw(a:BC)(c:Int):AZ:=(let b:=("abcdefghijklmnopqrstuvwxyz":AJ);(let d:=(Txt.join "" ((rng 0 ((at' a 0)%6).toNat).map λe:Int=>(ch b (((at' a e) / (40:Int))%26))));(jk a c b d)))
def oJ(a:BC)(d:Int):Prop:=(let c:=("abcdefghijklmnopqrstuvwxyz":AJ);(((((In a.length 0/\Rg ((at' a 0)%6))/\(rng 0 ((at' a 0)%6).toNat).length<=100000)/\(∀b∈(rng 0 ((at' a 0)%6).toNat),(In a.length b/\In c.length (((at' a b) / (40:Int))%26))))/\(((rng 0 ((at' a 0)%6).toNat).map λb:Int=>(ch c (((at' a b) / (40:Int))%26))).map (·.length)).sum+((rng 0 ((at' a 0)%6).toNat).map λb:Int=>(ch c (((at' a b) / (40:Int))%26))).length*("":AJ).length<=100000)/\(let e:=(Txt.join "" ((rng 0 ((at' a 0)%6).toNat).map λb:Int=>(ch c (((at' a b) / (40:Int))%26))));(m7 a d c e))))
theorem Nb(a:BC)(c:Lp bZ (a.map eI))(b:Int):RP nY [Z bZ,Z (zE eI b),U,U,U,U,U,U,U] (λr=>An.rt (oE eS r)) (dw a b) (Z (oJ a b)):=R.tp (bW 2 (Vo "abcdefghijklmnopqrstuvwxyz") (λ_=>S) λd=>(bW 3 (Xt "" (fJ (BZ (Lr (fu (wY (bQ 0 eI a c S) (BD 0)) 6 ())) _ (λ_=>S) (λf:Int=>(R6 (aA 0 (zE eS) d S) (fu (lg (wY (bQ 1 eI a c (congrArg Z (c.get S))) (aA 2 (zE eI) f S)) 40 ()) 26 ())))))) (λ_=>S) λe=>(Dk a c b d e).r))
theorem Nf:∀v bs,(aL eI (aZ eI aN)) v bs->bs.length=2/\(hold (Z (oJ v.1 v.2.1))->nZ (bs.map lend)=Z ((oE eS) (dw v.1 v.2.1))):=by
 rintro⟨b,a,_⟩ _ ⟨bZ,_,rfl,c,⟨_,rfl,rfl⟩⟩;exact⟨rfl,λh=>cW (g:=nY) (n:=9) (bs:=[lend bZ,.z (eI a)]) (Nb b (gn c) a) h⟩
def bC(b:AZ)(a:BC):(O AZ):=(let d:=([]:(O (Int×AZ)));(let d:=(Mg (λc:Int=>(let y1:=(((at' a (c%(a.length:Int))) / (1+(c / (a.length:Int))))%(if(b.length:Int)>1 then(b.length:Int)else 1));if(decide ((0:Int)<((at' a 0)%3)))=true then(y1%3)else y1)) (λc:Int=>(let y1:=(((at' a (c%(a.length:Int))) / (1+(c / (a.length:Int))))%(if(b.length:Int)>1 then(b.length:Int)else 1));let y2:=(if(decide ((0:Int)<((at' a 0)%3)))=true then(y1%3)else y1);(at' b c))) (rng 0 (b.length:Int).toNat));(bH ((d.map (·.1)).map λe:Int=>(aU (look d e))))))
def cR(b:AZ)(a:BC):Prop:=(let d:=([]:(O (Int×AZ)));((((d=[]/\Rg (b.length:Int))/\(rng 0 (b.length:Int).toNat).length<1000)/\(∀c∈(rng 0 (b.length:Int).toNat),(((((0<(a.length:Int)/\In a.length (c%(a.length:Int)))/\(0<(a.length:Int)/\(a.length:Int)<1073741824))/\(0<(1+(c / (a.length:Int)))/\(1+(c / (a.length:Int)))<1073741824))/\0<(if(b.length:Int)>1 then(b.length:Int)else 1))/\((let y1:=(((at' a (c%(a.length:Int))) / (1+(c / (a.length:Int))))%(if(b.length:Int)>1 then(b.length:Int)else 1));In a.length 0)/\(let y1:=(((at' a (c%(a.length:Int))) / (1+(c / (a.length:Int))))%(if(b.length:Int)>1 then(b.length:Int)else 1));let y2:=(if(decide ((0:Int)<((at' a 0)%3)))=true then(y1%3)else y1);In b.length c)))))/\(let d:=(Mg (λc:Int=>(let y1:=(((at' a (c%(a.length:Int))) / (1+(c / (a.length:Int))))%(if(b.length:Int)>1 then(b.length:Int)else 1));if(decide ((0:Int)<((at' a 0)%3)))=true then(y1%3)else y1)) (λc:Int=>(let y1:=(((at' a (c%(a.length:Int))) / (1+(c / (a.length:Int))))%(if(b.length:Int)>1 then(b.length:Int)else 1));let y2:=(if(decide ((0:Int)<((at' a 0)%3)))=true then(y1%3)else y1);(at' b c))) (rng 0 (b.length:Int).toNat));(((d.map (·.1)).length<=100000/\(∀e∈(d.map (·.1)),(has d e=true/\(look d e).length<64)))/\(((d.map (·.1)).map λe:Int=>(aU (look d e))).length<64/\∀x∈((d.map (·.1)).map λe:Int=>(aU (look d e))),x.isEmpty=false)))))
theorem Fg(c:AZ)(f:Lp bZ (c.map eS))(a:BC)(e:Lp b_1 (a.map eI)):RP jG [Z bZ,Z b_1,U,U,U] (λr=>An.rt ((oE (eT eS)) r)) (bC c a) (Z (cR c a)):=R.tp (bW 2 (OI (eL eS)) (λ_=>S) λd=>(WA 2 4 3 d S (ZU S) (ρ0:=[Z bZ,Z b_1,U,U,U]) S (Lr (B8 (bQ 0 eS c f S))) (λb:Int=>(GQ (XJ (wY (bQ 1 eI a e S) (GQ (aA 3 (zE eI) b S) (B8 (bQ 1 eI a e S)))) (kY (BD 1) (XJ (aA 3 (zE eI) b S) (B8 (bQ 1 eI a e S))))) (IS (BD 1) (B8 (bQ 0 eS c f S))))) (λ(b:Int) y1=>(cG (L6 (fu (wY (bQ 1 eI a e S) (BD 0)) 3 ()) (BD 0)))) (λ(b:Int) y1=>(fu (aA 4 (zE eI) y1 S) 3 ())) (λ(b:Int) y1 y2=>(wY (bQ 0 eS c f S) (aA 3 (zE eI) b S))) λd=>(gq (λr=>r) (z6 (fJ (BZ (SK (aA 2 (nI (eL eS)) d S)) _ (λ_=>S) (λg:Int=>(qt (fJ (uF (mR (Pe (aA 0 (nI (eL eS)) d S) (aA 1 (zE eI) g S)))))))))) (λ_=>S) λ_=>S)))
theorem vA:∀v bs,(aL eS (aL eI aN)) v bs->bs.length=2/\(hold (Z (cR v.1 v.2.1))->g8 (bs.map lend)=Z ((oE (eT eS)) (bC v.1 v.2.1))):=by
 rintro⟨b,a,_⟩ _ ⟨bZ,_,rfl,c,⟨b_1,_,rfl,d,rfl⟩⟩;exact⟨rfl,λh=>cW (g:=jG) (n:=5) (bs:=[lend bZ,lend b_1]) (Fg b (gn c) a (gn d)) h⟩
def m9(a:O AZ)(b:BC):(O AZ):=Hi a b
def ni(a:O AZ)(b:BC):Prop:=DO a b
theorem Qs(a:O AZ)(c:Lp bZ (a.map (eT eS)))(b:BC)(d:Lp b_1 (b.map eI)):RP qC [Z bZ,Z b_1,U,U,U,U] (λr=>An.rt ((oE (eT eS)) r)) (m9 a b) (Z (ni a b)):=Re c d
theorem Qt:∀v bs,(aL (eT eS) (aL eI aN)) v bs->bs.length=2/\(hold (Z (ni v.1 v.2.1))->qD (bs.map lend)=Z ((oE (eT eS)) (m9 v.1 v.2.1))):=by
 rintro⟨a,b,_⟩ _ ⟨bZ,_,rfl,c,⟨b_1,_,rfl,d,rfl⟩⟩;exact⟨rfl,λh=>cW (g:=qC) (n:=6) (bs:=[lend bZ,lend b_1]) (Qs a (gn c) b (gn d)) h⟩
def mq(e:BC)(d:Int):IG:=(let c:=(bI (bL e d) 12);(let i:=((at' c 6)%11);(let a:=(aU (dw c i));(let a:AZ:=(if(decide ((((at' c 6) / (11:Int))%16)=7))=true then(let a:=(aU ((rng 0 (kN 16)).map λh:Int=>(Txt.mul (ch ("ab":AJ) (h / (8:Int))) (1+(h%8)))));a)else a);(let j:=(bI (bL e (d+1)) 16);(let f:=(bI (bL e (d+2)) 16);(let g:=(bC a j);(let b:=(bC a f);(let b:(O AZ):=(if(decide (((at' c 7)%3)=1))=true then(let b:=(m9 g f);b)else b);(a,g,b))))))))))
def pX(d:BC)(c:Int):Prop:=(((iQ d c)/\(fU (bL d c) 12))/\(let a:=(bI (bL d c) 12);(In a.length 6/\(let g:=((at' a 6)%11);(((oJ a g)/\(dw a g).length<64)/\(let e:=(aU (dw a g));((In a.length 6/\((decide ((((at' a 6) / (11:Int))%16)=7))=true->(((rng 0 (kN 16)).length<=100000/\(∀b∈(rng 0 (kN 16)),(In ("ab":AJ).length (b / (8:Int))/\((1+(b%8))<=1000 ∧ -1000<=(1+(b%8))/\(ch ("ab":AJ) (b / (8:Int))).length<=1000))))/\((rng 0 (kN 16)).map λb:Int=>(Txt.mul (ch ("ab":AJ) (b / (8:Int))) (1+(b%8)))).length<64)))/\(let e:AZ:=(if(decide ((((at' a 6) / (11:Int))%16)=7))=true then(let e:=(aU ((rng 0 (kN 16)).map λb:Int=>(Txt.mul (ch ("ab":AJ) (b / (8:Int))) (1+(b%8)))));e)else e);(((iQ d (c+1))/\(fU (bL d (c+1)) 16))/\(let h:=(bI (bL d (c+1)) 16);(((iQ d (c+2))/\(fU (bL d (c+2)) 16))/\(let f:=(bI (bL d (c+2)) 16);((cR e h)/\(let i:=(bC e h);((cR e f)/\(let j:=(bC e f);(In a.length 7/\((decide (((at' a 7)%3)=1))=true->(ni i f)))))))))))))))))))
theorem Vb(h:BC)(j:Lp bZ (h.map eI))(b:Int):RP uI [Z bZ,Z (zE eI b),U,U,U,U,U,U,U] (λr=>An.rt (zE IN r)) (mq h b) (Z (pX h b)):=R.tp (bW 2 (As oU (jW (tu (As vP (fW (bQ 0 eI h j S) (jW (aA 1 (zE eI) b S) bR)))) (jW (BD 12) bR))) (λ_=>S) λd=>(bW 3 (fu (wY (jV (aA 2 (lE eI) d S)) (BD 6)) 11 ()) (λ_=>S) λf=>(bW 4 (uF (fJ (As Nf (fW (jV (aA 2 (lE eI) d S)) (jW (aA 3 (zE eI) f S) bR))))) (λ_=>S) λa=>(GZ (λa:AZ=>[Z bZ,Z (zE eI b),Z (oE eI d),Z (zE eI f),Z (oE eS a),U,U,U,U]) (cG (BM () (fu (lg (wY (jV (aA 2 (lE eI) d S)) (BD 6)) 11 ()) 16 ()) (BD 7))) (bD (bW 4 (uF (fJ (BZ (UU 16 16 S (by unfold Rg;decide)) _ (λ_=>S) (λl:Int=>(X8 (R6 (Vo "ab") (lg (aA 0 (zE eI) l S) 8 ())) (kY (BD 1) (fu (aA 0 (zE eI) l S) 8 ()))))))) (λ_=>S) λa=>(cF (bJ a S)))) (cF (bJ a S)) λa=>(bW 5 (As oU (jW (tu (As vP (fW (bQ 0 eI h j S) (jW (tu (kY (aA 1 (zE eI) b S) (BD 1))) bR)))) (jW (BD 16) bR))) (λ_=>S) λi=>(bW 6 (As oU (jW (tu (As vP (fW (bQ 0 eI h j S) (jW (tu (kY (aA 1 (zE eI) b S) (BD 2))) bR)))) (jW (BD 16) bR))) (λ_=>S) λe=>(bW 7 (As vA (fW (jV (aA 4 (lE eS) a S)) (fW (jV (aA 5 (lE eI) i S)) bR))) (λ_=>S) λg=>(bW 8 (As vA (fW (jV (aA 4 (lE eS) a S)) (fW (jV (aA 6 (lE eI) e S)) bR))) (λ_=>S) λc=>(GZ (λc:(O AZ)=>[Z bZ,Z (zE eI b),Z (oE eI d),Z (zE eI f),Z (oE eS a),Z (oE eI i),Z (oE eI e),Z ((oE (eT eS)) g),Z ((oE (eT eS)) c)]) (cG (BM () (fu (wY (jV (aA 2 (lE eI) d S)) (BD 7)) 3 ()) (BD 1))) (bD (bW 8 (As Qt (fW (jV (aA 7 (lE (eT eS)) g S)) (fW (jV (aA 6 (lE eI) e S)) bR))) (λ_=>S) λc=>(cF (bJ c S)))) (cF (bJ c S)) λc=>(GA 4 [Z bZ,Z (zE eI b),Z (oE eI d),Z (zE eI f),Z ((zE (eL eS)) a),Z (oE eI i),Z (oE eI e),Z ((oE (eT eS)) g),Z ((oE (eT eS)) c)] S (GA 7 [Z bZ,Z (zE eI b),Z (oE eI d),Z (zE eI f),Z ((zE (eL eS)) a),Z (oE eI i),Z (oE eI e),Z ((zE (eL (eT eS))) g),Z ((oE (eT eS)) c)] S (GA 8 [Z bZ,Z (zE eI b),Z (oE eI d),Z (zE eI f),Z ((zE (eL eS)) a),Z (oE eI i),Z (oE eI e),Z ((zE (eL (eT eS))) g),Z ((zE (eL (eT eS))) c)] S (gq (λr=>r) (PL (aA 4 (zE (eL eS)) a S) (aA 7 (zE (eL (eT eS))) g S) (aA 8 (zE (eL (eT eS))) c S)) (λ_=>S) λ_=>S)))))))))))))
theorem Vc:∀v bs,(aL eI (aZ eI aN)) v bs->bs.length=2/\(hold (Z (pX v.1 v.2.1))->uJ (bs.map lend)=Z ((zE IN) (mq v.1 v.2.1))):=by
 rintro⟨b,a,_⟩ _ ⟨bZ,_,rfl,c,⟨_,rfl,rfl⟩⟩;exact⟨rfl,λh=>cW (g:=uI) (n:=9) (bs:=[lend bZ,.z (eI a)]) (Vb b (gn c) a) h⟩
def fH(a:O AZ):AZ:=(aU (a.flatMap λvs:AZ=>(vs.map λb:AJ=>b)))
def iR(b:O AZ):Prop:=(((∀vs∈b,(∀a∈vs,True))/\(b.flatMap λvs:AZ=>(vs.map λa:AJ=>a)).length<=100000)/\(b.flatMap λvs:AZ=>(vs.map λa:AJ=>a)).length<64)
theorem Qu(a:O AZ)(c:Lp bZ (a.map (eT eS))):RP qF [Z bZ] (λr=>An.rt (oE eS r)) (fH a) (Z (iR a)):=R.tp (gq (λr=>r) (uF (fJ (U1 (WF (zy (bQ 0 (eT eS) a c S)) _ (λ_=>S) (λvs:AZ=>(X' (IH (aA 0 (zE (eT eS)) vs S)) _ (λ_=>S) (λb:AJ=>(aA 1 (zE eS) b S)))))))) (λ_=>S) λ_=>S)
theorem vQ:∀v bs,(aL (eT eS) aN) v bs->bs.length=1/\(hold (Z (iR v.1))->iJ (bs.map lend)=Z ((oE eS) (fH v.1))):=by
 rintro⟨a,_⟩ _ ⟨bZ,_,rfl,b,rfl⟩;exact⟨rfl,λh=>cW (g:=qF) (n:=1) (bs:=[lend bZ]) (Qu a (gn b)) h⟩
def j7(c:O AZ)(b:O AZ):Unit:=(let a:=(aU (pR ([]:AZ)));(if(!a.isEmpty)=true then default else bv))
def d8(b:O AZ)(a:O AZ):Prop:=((((iR b)/\((iR a)/\Cq (fH b) (fH a)=true))/\(([]:AZ).length<4000/\(pR ([]:AZ)).length<64))/\(let c:=(aU (pR ([]:AZ)));((!c.isEmpty)=true->False)))
theorem uc(a:O AZ)(d:Lp bZ (a.map (eT eS)))(b:O AZ)(c:Lp b_1 (b.map (eT eS))):RP dX [Z bZ,Z b_1,U] (λ_:Unit=>An.nx [Z bZ,Z b_1,U]) (j7 a b) (Z (d8 a b)):=R.tp (bD (bW 2 (RA (M' (L0 (fJ (As vQ (fW (bQ 0 (eT eS) a d S) bR)))) (L0 (fJ (As vQ (fW (bQ 1 (eT eS) b c S) bR)))))) (λ_=>S) λe=>(bD (tB (My (jV (aA 2 (lE eS) e S))) (bD OQ) (cF (cF (bJ bv S)))))))
theorem ud:∀v bs,(aL (eT eS) (aL (eT eS) aN)) v bs->bs.length=2/\(hold (Z (d8 v.1 v.2.1))->dY (bs.map lend)=Z ((zE eN) (j7 v.1 v.2.1))):=by
 rintro⟨b,a,_⟩ _ ⟨bZ,_,rfl,c,⟨b_1,_,rfl,d,rfl⟩⟩;exact⟨rfl,λh=>N3 (g:=dX) (n:=3) (bs:=[lend bZ,lend b_1]) (uc b (gn c) a (gn d)).r h⟩
def dh(b:AZ):(O (AJ×AJ)):=(ET (b.map λa:AJ=>(a,a)))
def lR(a:AZ):Prop:=(a.length<1000/\a.length<=100000)
theorem Jz(a:AZ)(c:Lp bZ (a.map eS)):RP lu [Z bZ] (λr=>An.rt (mE eS r)) (dh a) (Z (lR a)):=R.tp (gq (λr=>r) (ai (zy (bQ 0 eS a c S)) (zW (zy (bQ 0 eS a c S)) _ (λ_=>S) (λb:AJ=>(VT (aA 0 (zE eS) b S) (aA 0 (zE eS) b S))) λ_=>S)) (λ_=>S) λ_=>S)
theorem JB:∀v bs,(aL eS aN) v bs->bs.length=1/\(hold (Z (lR v.1))->lA (bs.map lend)=Z ((mE eS) (dh v.1))):=by
 rintro⟨a,_⟩ _ ⟨bZ,_,rfl,b,rfl⟩;exact⟨rfl,λh=>cW (g:=lu) (n:=1) (bs:=[lend bZ]) (Jz a (gn b)) h⟩
def cM(c:AJ)(e:AJ)(d:AJ)(a:(O (AJ×AJ)))(b:AJ):(O (AJ×AJ)):=(let a:(O (AJ×AJ)):=(if((decide ((look a b)=c))||(decide ((look a b)=e)))=true then(let a:=put a b d;a)else a);a)
def kE(c:AJ)(d:AJ)(e:AJ)(a:(O (AJ×AJ)))(b:AJ):Prop:=((has a b=true/\((decide ((look a b)=c))=false->has a b=true))/\(((decide ((look a b)=c))||(decide ((look a b)=d)))=true->a.length<1000))
theorem zA(c:AJ)(e:AJ)(d:AJ)(a:(O (AJ×AJ)))(b:AJ):RP rC [Z ((mW (Z a_) eS) a),Z (zE eS c),Z (zE eS e),Z (zE eS d),Z (zE eS b)] (λs=>An.nx ((λa:(O (AJ×AJ))=>[Z ((mW (Z a_) eS) a),Z (zE eS c),Z (zE eS e),Z (zE eS d),U]) s)) (cM c e d a b) (Z (kE c e d a b)):=R.tp (bD (GZ (λa:(O (AJ×AJ))=>[Z ((mW (Z a_) eS) a),Z (zE eS c),Z (zE eS e),Z (zE eS d),Z (zE eS b)]) (Jg (cG (BM () (yt (aA 0 (nE eS) a S) (aA 4 (zE eS) b S)) (aA 1 (zE eS) c S))) (cG (BM () (yt (aA 0 (nE eS) a S) (aA 4 (zE eS) b S)) (aA 2 (zE eS) e S)))) (bD (NO (Z a_) 0 a S (aA 3 (zE eS) d S) (aA 4 (zE eS) b S) λa=>(cF (bJ a S)))) (cF (bJ a S)) λa=>(cF (bJ a S))))
def lU(a:(O (AJ×AJ)))(b:AJ)(c:AJ):(O (AJ×AJ)):=(let d:=(if F7 c b=true then c else b);(let a:(O (AJ×AJ)):=((a.map (·.1)).foldl (λ(a:(O (AJ×AJ))) (e:AJ)=>(cM b c d a e)) a);a))
def lV(a:(O (AJ×AJ)))(b:AJ)(c:AJ):Prop:=(let e:=(if F7 c b=true then c else b);jX (λ(a:(O (AJ×AJ))) (d:AJ)=>(cM b c e a d)) (λ(a:(O (AJ×AJ))) (d:AJ)=>Z (kE b c e a d)) (a.map (·.1)) a)
def qZ(a:(O (AJ×AJ)))(b:AJ)(c:AJ):R lB [Z ((mW (Z a_) eS) a),Z (zE eS b),Z (zE eS c),U,U] (λe=>An.nx [Z ((mW (Z a_) eS) e),Z (zE eS b),Z (zE eS c),U,U]):=(bD (bW 3 (N9 (aA 1 (zE eS) b S) (aA 2 (zE eS) c S)) (λ_=>S) λd=>(bD (Ce (λa:(O (AJ×AJ))=>[Z ((mW (Z a_) eS) a),Z (zE eS b),Z (zE eS c),Z (zE eS d),U]) a S (U3 (NW (aA 0 (nE eS) a S))) _ (λ_ _=>S) (λ(a:(O (AJ×AJ))) (f:AJ)=>(zA b c d a f).r) λa=>(cF (bJ a S))))))
theorem Fi(c:(O (AJ×AJ)))(b:AJ)(a:AJ):(qZ (a_:=a_) c b a).v=lU c b a:=by kernel_rfl
theorem Fj(c:(O (AJ×AJ)))(b:AJ)(a:AJ):(qZ (a_:=a_) c b a).D=Z (lV c b a):=by kernel_rfl
theorem JC:∀(b:(O (AJ×AJ))) v bs,(aZ eS (aZ eS aN)) v bs->bs.length=2/\bs.all DF=true/\(hold (Z (lV b v.1 v.2.1))->∀a,ji a (b.map λq=>(kS q.1,eS q.2)) bs=Z ((lU b v.1 v.2.1).map λq=>(kS q.1,eS q.2))):=by
 rintro b ⟨d,c,_⟩ _ ⟨_,rfl,⟨_,rfl,rfl⟩⟩;exact⟨rfl,rfl,λh a=>(On (g:=lB) (n:=5) (bs:=[.z (eS d),.z (eS c)]) (qZ (a_:=a) b d c) ((congrArg hold (Fj (a_:=a) b d c)).mpr h) (λ_=>S)).trans (congrArg (λr:(O (AJ×AJ))=>Z (r.map λq=>(kS q.1,eS q.2))) (Fi (a_:=a) b d c))⟩
def jM(b:(O (AJ×AJ)))(c:AJ):AZ:=(((b.map (·.1)).filter λa:AJ=>(decide ((look b a)=c))).map λa:AJ=>a)
def oV(a:(O (AJ×AJ)))(c:AJ):Prop:=((a.map (·.1)).length<=100000/\(∀b∈(a.map (·.1)),has a b=true))
theorem Fl(a:(O (AJ×AJ)))(b:AJ):RP jH [Z (nE eS a),Z (zE eS b)] (λr=>An.rt ((zE (eT eS)) r)) (jM a b) (Z (oV a b)):=R.tp (gq (λr=>r) (qt (fJ (zX (LZ (aA 0 (nE eS) a S)) _ (λ_=>S) (λc:AJ=>(cG (BM () (yt (aA 1 (nE eS) a S) (aA 2 (zE eS) c S)) (aA 0 (zE eS) b S)))) (λc:AJ=>(aA 2 (zE eS) c S))))) (λ_=>S) λ_=>S)
theorem Fo:∀v bs,(aM eS (aZ eS aN)) v bs->bs.length=2/\(hold (Z (oV v.1 v.2.1))->jJ (bs.map lend)=Z ((zE (eT eS)) (jM v.1 v.2.1))):=by
 rintro⟨a,b,_⟩ _ ⟨_,_,rfl,(rfl|rfl),⟨_,rfl,rfl⟩⟩
 all_goals exact⟨rfl,λh=>cW (g:=jH) (n:=2) (bs:=[nE eS a,.z (eS b)]) (Fl a b) h⟩
def dj(b:(O (AJ×AJ))):(O AZ):=(((b.map (·.1)).filter λa:AJ=>(decide ((look b a)=a))).map λa:AJ=>(jM b a))
def lW(a:(O (AJ×AJ))):Prop:=((a.map (·.1)).length<=100000/\(∀b∈(a.map (·.1)),(has a b=true/\((decide ((look a b)=b))=true->(oV a b)))))
theorem JD(a:(O (AJ×AJ))):RP lC [Z (nE eS a)] (λr=>An.rt ((oE (eT eS)) r)) (dj a) (Z (lW a)):=R.tp (gq (λr=>r) (zX (LZ (aA 0 (nE eS) a S)) _ (λ_=>S) (λb:AJ=>(cG (BM () (yt (aA 0 (nE eS) a S) (aA 1 (zE eS) b S)) (aA 1 (zE eS) b S)))) (λb:AJ=>(tu (As Fo (IL (aA 0 (nE eS) a S) (jW (aA 1 (zE eS) b S) bR)))))) (λ_=>S) λ_=>S)
theorem JF:∀v bs,(aM eS aN) v bs->bs.length=1/\(hold (Z (lW v.1))->lF (bs.map lend)=Z ((oE (eT eS)) (dj v.1))):=by
 rintro⟨a,_⟩ _ ⟨_,_,rfl,(rfl|rfl),rfl⟩
 all_goals exact⟨rfl,λh=>cW (g:=lC) (n:=1) (bs:=[nE eS a]) (JD a) h⟩
def gB(vx:Int)(a:Int):AJ:=(if(decide (vx=1))=true then(if(decide (a=1))=true then("kept":AJ)else("split":AJ))else(if(decide (a=1))=true then("joined":AJ)else("mixed":AJ)))
theorem Qv(vx:Int)(a:Int):RP qG [Z (zE eI vx),Z (zE eI a)] (λr=>An.rt (zE eS r)) (gB vx a) U:=R.tp (tB (cG (BM () (aA 0 (zE eI) vx S) (BD 1))) (bD (gq (λr=>r) (LW (cG (BM () (aA 1 (zE eI) a S) (BD 1))) (Vo "kept") (Vo "split")) (λ_=>S) λ_=>S)) (cF (gq (λr=>r) (LW (cG (BM () (aA 1 (zE eI) a S) (BD 1))) (Vo "joined") (Vo "mixed")) (λ_=>S) λ_=>S)))
theorem Qw:∀v bs,(aZ eI (aZ eI aN)) v bs->bs.length=2/\(hold (U)->qH (bs.map lend)=Z ((zE eS) (gB v.1 v.2.1))):=by
 rintro⟨vx,a,_⟩ _ ⟨_,rfl,⟨_,rfl,rfl⟩⟩;exact⟨rfl,λh=>cW (g:=qG) (n:=2) (bs:=[.z (eI vx),.z (eI a)]) (Qv vx a) h⟩
def nj(d:O AZ)(c:O AZ)(a:AZ):Em:=(let vx:=((d.filter λvs:AZ=>(decide ((at' vs 0)∈a))).map λvs:AZ=>vs);(let b:=((c.filter λvs:AZ=>(decide ((at' vs 0)∈a))).map λvs:AZ=>vs);((gB (vx.length:Int) (b.length:Int)),vx,b)))
def vR(a:O AZ)(b:O AZ)(c:AZ):Prop:=((a.length<=100000/\(∀vs∈a,In vs.length 0))/\(let vx:=((a.filter λvs:AZ=>(decide ((at' vs 0)∈c))).map λvs:AZ=>vs);(b.length<=100000/\(∀vs∈b,In vs.length 0))))
theorem Qx(b:O AZ)(f:Lp bZ (b.map (eT eS)))(c:O AZ)(e:Lp b_1 (c.map (eT eS)))(a:AZ):RP qI [Z bZ,Z b_1,Z ((zE (eT eS)) a),U,U] (λr=>An.rt (zE FV r)) (nj b c a) (Z (vR b c a)):=R.tp (bW 3 (qt (fJ (zX (zy (bQ 0 (eT eS) b f S)) _ (λ_=>S) (λvs:AZ=>(cG (LH (R5 (aA 1 (zE (eT eS)) vs S) (BD 0)) (aA 0 (zE (eT eS)) a S)))) (λvs:AZ=>(aA 1 (zE (eT eS)) vs S))))) (λ_=>S) λvx=>(bW 4 (qt (fJ (zX (zy (bQ 1 (eT eS) c e S)) _ (λ_=>S) (λvs:AZ=>(cG (LH (R5 (aA 1 (zE (eT eS)) vs S) (BD 0)) (aA 0 (zE (eT eS)) a S)))) (λvs:AZ=>(aA 1 (zE (eT eS)) vs S))))) (λ_=>S) λd=>(gq (λr=>r) (PL (tu (As Qw (jW (tu (Ye (aA 3 (zE (eT (eT eS))) vx S))) (jW (tu (Ye (aA 4 (zE (eT (eT eS))) d S))) bR)))) (aA 3 (zE (eT (eT eS))) vx S) (aA 4 (zE (eT (eT eS))) d S)) (λ_=>S) λ_=>S)))
theorem Qy:∀v bs,(aL (eT eS) (aL (eT eS) (aZ (eT eS) aN))) v bs->bs.length=3/\(hold (Z (vR v.1 v.2.1 v.2.2.1))->qJ (bs.map lend)=Z ((zE FV) (nj v.1 v.2.1 v.2.2.1))):=by
 rintro⟨b,e,a,_⟩ _ ⟨bZ,_,rfl,d,⟨b_1,_,rfl,c,⟨_,rfl,rfl⟩⟩⟩;exact⟨rfl,λh=>cW (g:=qI) (n:=5) (bs:=[lend bZ,lend b_1,.z (eT eS a)]) (Qx b (gn d) e (gn c) a) h⟩
def dH(vs:AZ)(a:(O (AJ×AJ)))(b:AJ):(O (AJ×AJ)):=(let a:=(lU a (look a (at' vs 0)) (look a b));a)
def nq(vs:AZ)(a:(O (AJ×AJ)))(b:AJ):Prop:=(((In vs.length 0/\has a (at' vs 0)=true)/\has a b=true)/\(lV a (look a (at' vs 0)) (look a b)))
theorem Dl(c:O AZ)(f:Lp bZ (c.map (eT eS)))(d:O AZ)(e:Lp b_1 (d.map (eT eS)))(vs:AZ)(a:(O (AJ×AJ)))(b:AJ):RP tM [Z bZ,Z b_1,Z (mE eS a),Z ((zE (eT eS)) vs),Z (zE eS b)] (λs=>An.nx ((λa:(O (AJ×AJ))=>[Z bZ,Z b_1,Z (mE eS a),Z ((zE (eT eS)) vs),U]) s)) (dH vs a b) (Z (nq vs a b)):=R.tp (bD (W' U 2 a S JC (jW (yt (aA 2 (nE eS) a S) (R5 (aA 3 (zE (eT eS)) vs S) (BD 0))) (jW (yt (aA 2 (nE eS) a S) (aA 4 (zE eS) b S)) bR)) λa=>(cF (bJ a S))))
def bY(a:(O (AJ×AJ)))(vs:AZ):(O (AJ×AJ)):=(let a:(O (AJ×AJ)):=(vs.foldl (λ(a:(O (AJ×AJ))) (b:AJ)=>(dH vs a b)) a);a)
def jl(a:(O (AJ×AJ)))(vs:AZ):Prop:=jX (λ(a:(O (AJ×AJ))) (b:AJ)=>(dH vs a b)) (λ(a:(O (AJ×AJ))) (b:AJ)=>Z (nq vs a b)) vs a
theorem Dm(b:O AZ)(f:Lp bZ (b.map (eT eS)))(c:O AZ)(d:Lp b_1 (c.map (eT eS)))(a:(O (AJ×AJ)))(vs:AZ):RP tO [Z bZ,Z b_1,Z (mE eS a),Z ((zE (eT eS)) vs),U] (λs=>An.nx ((λa:(O (AJ×AJ))=>[Z bZ,Z b_1,Z (mE eS a),U,U]) s)) (bY  a vs) (Z (jl  a vs)):=R.tp (bD (TH 3 vs (OU S) (λa:(O (AJ×AJ))=>[Z bZ,Z b_1,Z (mE eS a),Z ((zE (eT eS)) vs),U]) a S _ (λ_ _=>S) (λ(a:(O (AJ×AJ))) (e:AJ)=>(Dl b f c d vs a e).r) λa=>(cF (bJ a S))))
def iU(b:O AZ)(c:O AZ):(O Em):=(let a:=(dh (fH b));(let a:(O (AJ×AJ)):=((b++c).foldl (λ(a:(O (AJ×AJ))) (vs:AZ)=>(bY  a vs)) a);((dj a).map λd:AZ=>(nj b c d))))
def j8(b:O AZ)(c:O AZ):Prop:=((d8 b c)/\(((iR b)/\(lR (fH b)))/\(let a:=(dh (fH b));((zV (b.length+c.length)/\jX (λ(a:(O (AJ×AJ))) (vs:AZ)=>(bY  a vs)) (λ(a:(O (AJ×AJ))) (vs:AZ)=>Z (jl  a vs)) (b++c) a)/\(let a:(O (AJ×AJ)):=((b++c).foldl (λ(a:(O (AJ×AJ))) (vs:AZ)=>(bY  a vs)) a);(((lW a)/\(dj a).length<=100000)/\(∀d∈(dj a),(vR b c d))))))))
theorem Ng(a:O AZ)(d:Lp bZ (a.map (eT eS)))(c:O AZ)(e:Lp b_1 (c.map (eT eS))):RP n6 [Z bZ,Z b_1,U,U,U] (λr=>An.rt (oE FV r)) (iU a c) (Z (j8 a c)):=R.tp (aS (As ud (fW (bQ 0 (eT eS) a d S) (fW (bQ 1 (eT eS) c e S) bR))) (bW 2 (As JB (fW (mR (XH (As vQ (fW (bQ 0 (eT eS) a d S) bR)))) bR)) (λ_=>S) λb=>(Ce (λb:(O (AJ×AJ))=>[Z bZ,Z b_1,Z (mE eS b),U,U]) b S (U3 (BP (bQ 0 (eT eS) a d S) (bQ 1 (eT eS) c e S))) _ (λ_ _=>S) (λ(b:(O (AJ×AJ))) (vs:AZ)=>(Dm a d c e b vs).r) λb=>(gq (λr=>r) (BZ (zy (fJ (As JF (IL (aA 2 (nE eS) b S) bR)))) _ (λ_=>S) (λf:AZ=>(tu (As Qy (fW (bQ 0 (eT eS) a d (congrArg Z (d.get S))) (fW (bQ 1 (eT eS) c e (congrArg Z (e.get S))) (jW (aA 2 (zE (eT eS)) f S) bR))))))) (λ_=>S) λ_=>S))))
theorem Nh:∀v bs,(aL (eT eS) (aL (eT eS) aN)) v bs->bs.length=2/\(hold (Z (j8 v.1 v.2.1))->n8 (bs.map lend)=Z ((oE FV) (iU v.1 v.2.1))):=by
 rintro⟨b,a,_⟩ _ ⟨bZ,_,rfl,c,⟨b_1,_,rfl,d,rfl⟩⟩;exact⟨rfl,λh=>cW (g:=n6) (n:=5) (bs:=[lend bZ,lend b_1]) (Ng b (gn c) a (gn d)) h⟩
def vU(b:AZ)(a:AZ):AZ:=(aU (b++a))
def vV(b:AZ)(a:AZ):Prop:=(zV (b.length+a.length)/\(b++a).length<64)
theorem Qz(b:AZ)(a:AZ):RP qK [Z ((zE (eT eS)) b),Z ((zE (eT eS)) a)] (λr=>An.rt ((zE (eT eS)) r)) (vU b a) (Z (vV b a)):=R.tp (gq (λr=>r) (qt (fJ (Ma (X6 (aA 0 (zE (eT eS)) b S) (aA 1 (zE (eT eS)) a S))))) (λ_=>S) λ_=>S)
theorem QC:∀v bs,(aZ (eT eS) (aZ (eT eS) aN)) v bs->bs.length=2/\(hold (Z (vV v.1 v.2.1))->qL (bs.map lend)=Z ((zE (eT eS)) (vU v.1 v.2.1))):=by
 rintro⟨b,a,_⟩ _ ⟨_,rfl,⟨_,rfl,rfl⟩⟩;exact⟨rfl,λh=>cW (g:=qK) (n:=2) (bs:=[.z (eT eS b),.z (eT eS a)]) (Qz b a) h⟩
def iz(a:(O c7)×AZ)(vs:AZ):(O c7)×AZ:=(let c:=a.1++[(("join":AJ),a.2,vs)];(let b:=(vU a.2 vs);(c,b)))
def oW(a:(O c7)×AZ)(vs:AZ):Prop:=(zV a.1.length/\(let b:=a.1++[(("join":AJ),a.2,vs)];(vV a.2 vs)))
theorem Fp(b:O AZ)(a:(O c7)×AZ)(vs:AZ):RP u5 [Z ((zE (eT (eT eS))) b),Z ((oE fY) a.1),Z ((zE (eT eS)) a.2),Z ((zE (eT eS)) vs)] (λs=>An.nx ((λa:(O c7)×AZ=>[Z ((zE (eT (eT eS))) b),Z ((oE fY) a.1),Z ((zE (eT eS)) a.2),U]) s)) (iz  a vs) (Z (oW  a vs)):=R.tp (bD (Sd 1 a.1 S (PL (Vo "join") (aA 2 (zE (eT eS)) a.2 S) (aA 3 (zE (eT eS)) vs S)) λd=>(bD (bW 2 (As QC (jW (aA 2 (zE (eT eS)) a.2 S) (jW (aA 3 (zE (eT eS)) vs S) bR))) (λ_=>S) λc=>(cF (bJ (d,c) S))))))
def cH(b:O AZ):(O c7):=(let d:=([]:O c7);(let c:=(at' b 0);(let a:(O c7)×AZ:=((CU b (Z 1) U).foldl (λ(a:(O c7)×AZ) (vs:AZ)=>(iz  a vs)) (d,c));a.1)))
def gC(b:O AZ):Prop:=(let d:=([]:O c7);(In b.length 0/\(let c:=(at' b 0);jX (λ(a:(O c7)×AZ) (vs:AZ)=>(iz  a vs)) (λ(a:(O c7)×AZ) (vs:AZ)=>Z (oW  a vs)) (CU b (Z 1) U) (d,c))))
theorem QD(a:O AZ):RP qM [Z ((zE (eT (eT eS))) a),U,U,U] (λr=>An.rt (oE fY r)) (cH a) (Z (gC a)):=R.tp (bW 1 (mU (iI fY) (ZU S)) (λ_=>S) λd=>(bW 2 (R5 (aA 0 (zE (eT (eT eS))) a S) (BD 0)) (λ_=>S) λc=>(Ce (λb:(O c7)×AZ=>[Z ((zE (eT (eT eS))) a),Z ((oE fY) b.1),Z ((zE (eT eS)) b.2),U]) (d,c) S (IH (UV (aA 0 (zE (eT (eT eS))) a S) (X4 (BD 1)) X3)) _ (λ_ _=>S) (λ(b:(O c7)×AZ) (vs:AZ)=>(Fp a b vs).r) λb=>(Cd 1 (λr=>r) b.1 S (λ_=>S) λ_=>S))))
theorem Dp:∀v bs,(aZ (eT (eT eS)) aN) v bs->bs.length=1/\(hold (Z (gC v.1))->mX (bs.map lend)=Z ((oE fY) (cH v.1))):=by
 rintro⟨a,_⟩ _ ⟨_,rfl,rfl⟩;exact⟨rfl,λh=>cW (g:=qM) (n:=4) (bs:=[.z ((eT (eT eS)) a)]) (QD a) h⟩
def cu(a:O c7)(q1:Em):(O c7):=(let a:=a++(cH q1.2.1);(let a:=a++((cH q1.2.2).reverse.map λb:c7=>(("split":AJ),(b.2.1,b.2.2).1,(b.2.1,b.2.2).2));a))
def dI(a:O c7)(q1:Em):Prop:=(((gC q1.2.1)/\zV (a.length+(cH q1.2.1).length))/\(let a:=a++(cH q1.2.1);(((gC q1.2.2)/\(cH q1.2.2).reverse.length<=100000)/\zV (a.length+((cH q1.2.2).reverse.map λb:c7=>(("split":AJ),(b.2.1,b.2.2).1,(b.2.1,b.2.2).2)).length))))
theorem vW(b:O AZ)(f:Lp bZ (b.map (eT eS)))(d:O AZ)(e:Lp b_1 (d.map (eT eS)))(a:O c7)(q1:Em):RP mY [Z bZ,Z b_1,Z (oE fY a),Z ((zE eS) q1.1),Z ((zE (eT (eT eS))) q1.2.1),Z ((zE (eT (eT eS))) q1.2.2)] (λs=>An.nx ((λa:(O c7)=>[Z bZ,Z b_1,Z (oE fY a),U,U,U]) s)) (cu  a q1) (Z (dI  a q1)):=R.tp (bD (LJ 2 a S (As Dp (jW (aA 4 (zE (eT (eT eS))) q1.2.1 S) bR)) λa=>(bD (LJ 2 a S (zW (zy (fJ (OF (fJ (As Dp (jW (aA 5 (zE (eT (eT eS))) q1.2.2 S) bR)))))) _ (λ_=>S) (λc:c7=>(tu (VY (e3:=fY) (T' (Vo "split")) (OK (aA 0 (zE fY) c S) (λq=>(q.2.1,q.2.2)) PQ (Z 1) U S S λ_=>S) (λx y=>(x,y.1,y.2)) λ_ _=>S))) λ_=>S) λa=>(cF (bJ a S))))))
def aQ(c:O AZ)(b:O AZ):(O c7):=(let a:=([]:O c7);(let a:(O c7):=((iU c b).foldl (λ(a:O c7) (q1:Em)=>(cu  a q1)) a);a))
def cg(c:O AZ)(b:O AZ):Prop:=(let a:=([]:O c7);((j8 c b)/\jX (λ(a:O c7) (q1:Em)=>(cu  a q1)) (λ(a:O c7) (q1:Em)=>Z (dI  a q1)) (iU c b) a))
theorem zB(b:O AZ)(e:Lp bZ (b.map (eT eS)))(c:O AZ)(d:Lp b_1 (c.map (eT eS))):RP iD [Z bZ,Z b_1,U,U,U,U] (λr=>An.rt (oE fY r)) (aQ b c) (Z (cg b c)):=R.tp (bW 2 (mU (iI fY) (ZU S)) (λ_=>S) λa=>(Ce (λa:(O c7)=>[Z bZ,Z b_1,Z (oE fY a),U,U,U]) a S (U3 (As Nh (fW (bQ 0 (eT eS) b e S) (fW (bQ 1 (eT eS) c d S) bR)))) _ (λ_ _=>S) (λ(a:O c7) (q1:Em)=>(vW b e c d a q1).r) λa=>(Cd 2 (λr=>r) a S (λ_=>S) λ_=>S)))
theorem fK:∀v bs,(aL (eT eS) (aL (eT eS) aN)) v bs->bs.length=2/\(hold (Z (cg v.1 v.2.1))->cJ (bs.map lend)=Z ((oE fY) (aQ v.1 v.2.1))):=by
 rintro⟨b,a,_⟩ _ ⟨bZ,_,rfl,c,⟨b_1,_,rfl,d,rfl⟩⟩;exact⟨rfl,λh=>cW (g:=iD) (n:=6) (bs:=[lend bZ,lend b_1]) (zB b (gn c) a (gn d)) h⟩
def bM(a:AZ)(c:AZ):AZ:=(let a:AZ:=(if((c.map λb:AJ=>(decide (b∈a))).any id)=true then(let a:=(a++((c.filter λb:AJ=>(!decide (b∈a))).map λb:AJ=>b));a)else a);a)
def fL(c:AZ)(b:AZ):Prop:=(b.length<=100000/\(((b.map λa:AJ=>(decide (a∈c))).any id)=true->(b.length<=100000/\zV (c.length+((b.filter λa:AJ=>(!decide (a∈c))).map λa:AJ=>a).length))))
theorem zF(i:AZ)(l:Lp bZ (i.map eS))(h:O AZ)(j:Lp b_1 (h.map (eT eS)))(g:O AZ)(m:Lp uR (g.map (eT eS)))(f:O AZ)(d:AJ)(e:Int)(a:AZ)(b:AZ):RP rE [Z bZ,Z b_1,Z uR,Z ((oE (eL eS)) f),Z (zE eS d),Z (oE eS a),Z (zE eI e),Z ((zE (eT eS)) b)] (λs=>An.nx ((λa:AZ=>[Z bZ,Z b_1,Z uR,Z ((oE (eL eS)) f),Z (zE eS d),Z (oE eS a),Z (zE eI e),U]) s)) (bM  a b) (Z (fL  a b)):=R.tp (bD (GZ (λa:AZ=>[Z bZ,Z b_1,Z uR,Z ((oE (eL eS)) f),Z (zE eS d),Z (oE eS a),Z (zE eI e),Z ((zE (eT eS)) b)]) (U0 (Lu (fJ (zW (L5 (aA 7 (zE (eT eS)) b S)) _ (λ_=>S) (λc:AJ=>(LS (aA 1 (zE eS) c S) (jV (aA 0 (lE eS) a S)))) λ_=>S)))) (bD (bW 5 (BP (jV (aA 5 (lE eS) a S)) (fJ (Ca (L5 (aA 7 (zE (eT eS)) b S)) _ (λ_=>S) (λc:AJ=>(cG (LA (aA 1 (zE eS) c S) (jV (aA 0 (lE eS) a S))))) (λc:AJ=>(aA 1 (zE eS) c S)) (λ_=>S) λ_=>S))) (λ_=>S) λa=>(cF (bJ a S)))) (cF (bJ a S)) λa=>(cF (bJ a S))))
def cj(e:O AZ)(c:O AZ)(b:Int×AZ):j9 (Int×AZ) (O AZ):=(let d:=(b.2.length:Int);(let a:AZ:=((e++c).foldl (λ(a:AZ) (f:AZ)=>(bM  a f)) b.2);(j9.nx (d,a))))
def kJ(e:O AZ)(d:O AZ)(c:Int×AZ):Prop:=(let f:=(c.2.length:Int);(zV (e.length+d.length)/\jX (λ(a:AZ) (b:AZ)=>(bM  a b)) (λ(a:AZ) (b:AZ)=>Z (fL  a b)) (e++d) c.2))
theorem zG(i:AZ)(m:Lp bZ (i.map eS))(c:O AZ)(h:Lp b_1 (c.map (eT eS)))(b:O AZ)(j:Lp uR (b.map (eT eS)))(f:O AZ)(e:AJ)(a:Int×AZ):RP rG [Z bZ,Z b_1,Z uR,Z ((oE (eL eS)) f),Z (zE eS e),Z ((oE eS) a.2),Z ((zE eI) a.1),U] (cC (λa:Int×AZ=>[Z bZ,Z b_1,Z uR,Z ((oE (eL eS)) f),Z (zE eS e),Z ((oE eS) a.2),Z ((zE eI) a.1),U]) (oE (eL eS))) (cj c b a ) (Z (kJ c b a )):=R.tp (bD (bW 6 (B8 (jV (aA 5 (lE eS) a.2 S))) (λ_=>S) λg=>(bD (Ce (λd:AZ=>[Z bZ,Z b_1,Z uR,Z ((oE (eL eS)) f),Z (zE eS e),Z (oE eS d),Z (zE eI g),U]) a.2 S (U3 (BP (bQ 1 (eT eS) c h S) (bQ 2 (eT eS) b j S))) _ (λ_ _=>S) (λ(d:AZ) (l:AZ)=>(zF i m c h b j f e g d l).r) λd=>(cF (bJ (.nx (g,d)) S))))))
def bO(g:O AZ)(e:O AZ)(b:O AZ)(d:AJ):j9 ((O AZ)) (O AZ):=(if(!((b.map λc:AZ=>(decide (d∈c))).any id))=true then(let c:=[d];(let f:=(0:Int);(BI (Qd (λa:Int×AZ=>(decide (a.1<(a.2.length:Int)))) (λa:Int×AZ=>((cj g e a):j9 (Int×AZ) (O AZ))) 70 (f,c)) (λr=>j9.rt r) λa:Int×AZ=>(let b:=b++[(aU a.2)];(j9.nx b)))))else(j9.nx b))
def kO(d:O AZ)(c:O AZ)(e:O AZ)(f:AJ):Prop:=(e.length<=100000/\((!((e.map λb:AZ=>(decide (f∈b))).any id))=true->(let b:=[f];(let g:=(0:Int);(DH (λa:Int×AZ=>(decide (a.1<(a.2.length:Int)))) (λa:Int×AZ=>U) (λa:Int×AZ=>((cj d c a):j9 (Int×AZ) (O AZ))) (λa:Int×AZ=>Z (kJ d c a)) 70 (g,b)/\(xq (Qd (λa:Int×AZ=>(decide (a.1<(a.2.length:Int)))) (λa:Int×AZ=>((cj d c a):j9 (Int×AZ) (O AZ))) 70 (g,b)) λa:Int×AZ=>(a.2.length<64/\zV e.length)))))))
theorem zH(g:AZ)(j:Lp bZ (g.map eS))(e:O AZ)(i:Lp b_1 (e.map (eT eS)))(d:O AZ)(l:Lp uR (d.map (eT eS)))(a:O AZ)(c:AJ):RP rH [Z bZ,Z b_1,Z uR,Z ((oE (eL eS)) a),Z (zE eS c),U,U,U] (cC (λa:(O AZ)=>[Z bZ,Z b_1,Z uR,Z ((oE (eL eS)) a),U,U,U,U]) (oE (eL eS))) (bO e d a c) (Z (kO e d a c)):=R.tp (bD (tB (Lj (U0 (Lu (fJ (zW (zy (jV (aA 3 (lE (eL eS)) a S))) _ (λ_=>S) (λf:AZ=>(LS (aA 0 (zE eS) c S) (mR (aA 1 (zE (eL eS)) f S)))) λ_=>S))))) (bD (bW 5 (mU (jE (aA 4 (zE eS) c S) (iI eS)) (ZU S)) (λ_=>S) λf=>(bD (bW 6 (BD 0) (λ_=>S) λh=>(bD (NX 70 (λb:Int×AZ=>[Z bZ,Z b_1,Z uR,Z ((oE (eL eS)) a),Z (zE eS c),Z ((oE eS) b.2),Z ((zE eI) b.1),U]) (h,f) S (λb:Int×AZ=>(cG (XM (aA 6 (zE eI) b.1 S) (B8 (jV (aA 5 (lE eS) b.2 S)))))) (λb:Int×AZ=>((zG g j e i d l a c b).r:R _ _ (cC (λb:Int×AZ=>[Z bZ,Z b_1,Z uR,Z ((oE (eL eS)) a),Z (zE eS c),Z ((oE eS) b.2),Z ((zE eI) b.1),U]) (oE (eL eS))))) .rt (λ_=>S) λb=>(bD (Sd 3 a S (XH (uF (jV (aA 5 (lE eS) b.2 S)))) λa=>(cF (cF (bJ (.nx a) S))))))))))) (cF (cF (bJ (.nx a) S)))))
def d9(e:AZ)(d:O AZ)(b:O AZ):(O AZ):=(let a:=([]:O AZ);(BI (jr (λ(a:O AZ) (c:AJ)=>((bO d b a c):j9 ((O AZ)) (O AZ))) e a) (λr=>r) λa:(O AZ)=>a))
def jo(e:AZ)(d:O AZ)(c:O AZ):Prop:=(let a:=([]:O AZ);(nT (λ(a:O AZ) (b:AJ)=>((bO d c a b):j9 ((O AZ)) (O AZ))) (λ(a:O AZ) (b:AJ)=>Z (kO d c a b)) e a/\(xq (jr (λ(a:O AZ) (b:AJ)=>((bO d c a b):j9 ((O AZ)) (O AZ))) e a) λa:(O AZ)=>True)))
theorem JG(b:AZ)(e:Lp bZ (b.map eS))(d:O AZ)(g:Lp b_1 (d.map (eT eS)))(c:O AZ)(h:Lp uR (c.map (eT eS))):RP lG [Z bZ,Z b_1,Z uR,U,U,U,U,U] (λr=>An.rt ((oE (eL eS)) r)) (d9 b d c) (Z (jo b d c)):=R.tp (bW 3 (mU (iI (eL eS)) (ZU S)) (λ_=>S) λa=>(Sg 0 b (Yh e S) (λa:(O AZ)=>[Z bZ,Z b_1,Z uR,Z ((oE (eL eS)) a),U,U,U,U]) a S _ (λ_ _=>S) (λ(a:O AZ) (f:AJ)=>((zH b e d g c h a f).r:R _ _ (cC (λa:(O AZ)=>[Z bZ,Z b_1,Z uR,Z ((oE (eL eS)) a),U,U,U,U]) (oE (eL eS))))) (λr=>r) (λ_=>S) λa=>(Cd 3 (λr=>r) a S (λ_=>S) λ_=>S)))
theorem JH:∀v bs,(aL eS (aL (eT eS) (aL (eT eS) aN))) v bs->bs.length=3/\(hold (Z (jo v.1 v.2.1 v.2.2.1))->lH (bs.map lend)=Z ((oE (eL eS)) (d9 v.1 v.2.1 v.2.2.1))):=by
 rintro⟨e,b,a,_⟩ _ ⟨bZ,_,rfl,d,⟨b_1,_,rfl,c,⟨uR,_,rfl,f,rfl⟩⟩⟩;exact⟨rfl,λh=>cW (g:=lG) (n:=8) (bs:=[lend bZ,lend b_1,lend uR]) (JG e (gn d) b (gn c) a (gn f)) h⟩
def eE(b:O AZ)(d:c7):(Y (O AZ)):=(let q1:=d;(let c:=(aU (q1.2.1++q1.2.2));(if((decide (q1.1=("join":AJ)))&&((!decide (q1.2.1=q1.2.2))&&((jh q1.2.1 b)&&(jh q1.2.2 b))))=true then(Z (bH (((b.filter λa:AZ=>(!jh a [q1.2.1,q1.2.2])).map λa:AZ=>a)++[c])))else(if((decide (q1.1=("split":AJ)))&&((jh c b)&&((!decide (q1.2.1=([]:AZ)))&&(!decide (q1.2.2=([]:AZ))))))=true then(Z (bH (((b.filter λa:AZ=>(!decide (a=c))).map λa:AZ=>a)++[q1.2.1,q1.2.2])))else U))))
def jq(b:O AZ)(d:c7):Prop:=(let q1:=d;((zV (q1.2.1.length+q1.2.2.length)/\(q1.2.1++q1.2.2).length<64)/\(let c:=(aU (q1.2.1++q1.2.2));((((decide (q1.1=("join":AJ)))&&((!decide (q1.2.1=q1.2.2))&&((jh q1.2.1 b)&&(jh q1.2.2 b))))=true->((b.length<=100000/\zV (((b.filter λa:AZ=>(!jh a [q1.2.1,q1.2.2])).map λa:AZ=>a).length+[c].length))/\((((b.filter λa:AZ=>(!jh a [q1.2.1,q1.2.2])).map λa:AZ=>a)++[c]).length<64/\∀x∈(((b.filter λa:AZ=>(!jh a [q1.2.1,q1.2.2])).map λa:AZ=>a)++[c]),x.isEmpty=false)))/\(((decide (q1.1=("join":AJ)))&&((!decide (q1.2.1=q1.2.2))&&((jh q1.2.1 b)&&(jh q1.2.2 b))))=false->(((decide (q1.1=("split":AJ)))&&((jh c b)&&((!decide (q1.2.1=([]:AZ)))&&(!decide (q1.2.2=([]:AZ))))))=true->((b.length<=100000/\zV (((b.filter λa:AZ=>(!decide (a=c))).map λa:AZ=>a).length+[q1.2.1,q1.2.2].length))/\((((b.filter λa:AZ=>(!decide (a=c))).map λa:AZ=>a)++[q1.2.1,q1.2.2]).length<64/\∀x∈(((b.filter λa:AZ=>(!decide (a=c))).map λa:AZ=>a)++[q1.2.1,q1.2.2]),x.isEmpty=false))))))))
theorem JK(a:O AZ)(c:Lp bZ (a.map (eT eS)))(d:c7):RP lJ [Z bZ,Z (zE fY d),U,U,U,U] (λr=>An.rt ((zE (eO (eL (eT eS)))) r)) (eE a d) (Z (jq a d)):=R.tp (M3 (aA 1 (zE fY) d S) _ (λ_=>S) λq1=>(bW 5 (qt (fJ (Ma (X6 (aA 3 (zE (eT eS)) q1.2.1 S) (aA 4 (zE (eT eS)) q1.2.2 S))))) (λ_=>S) λe=>(tB (GR (cG (BM () (aA 2 (zE eS) q1.1 S) (Vo "join"))) (GR (cG (Li () (aA 3 (zE (eT eS)) q1.2.1 S) (aA 4 (zE (eT eS)) q1.2.2 S))) (GR (cG (Yj () (aA 3 (zE (eT eS)) q1.2.1 S) (bQ 0 (eT eS) a c S))) (cG (Yj () (aA 4 (zE (eT eS)) q1.2.2 S) (bQ 0 (eT eS) a c S)))))) (bD (gq (λr=>r) (Jf (XH (z6 (fJ (BP (fJ (Ca (zy (bQ 0 (eT eS) a c S)) _ (λ_=>S) (λb:AZ=>(cG (U' () (aA 2 (zE (eT eS)) b S) (fJ (mU (jE (aA 0 (zE (eT eS)) q1.2.1 S) (jE (aA 1 (zE (eT eS)) q1.2.2 S) (iI (eT eS)))) (ZU S)))))) (λb:AZ=>(aA 2 (zE (eT eS)) b S)) (λ_=>S) λ_=>S)) (fJ (mU (jE (aA 5 (zE (eT eS)) e S) (iI (eT eS))) (ZU S)))))))) (λ_=>S) λ_=>S)) (cF (tB (GR (cG (BM () (aA 2 (zE eS) q1.1 S) (Vo "split"))) (GR (cG (Yj () (aA 5 (zE (eT eS)) e S) (bQ 0 (eT eS) a c S))) (GR (cG (Li () (aA 3 (zE (eT eS)) q1.2.1 S) (XR eS))) (cG (Li () (aA 4 (zE (eT eS)) q1.2.2 S) (XR eS)))))) (bD (gq (λr=>r) (Jf (XH (z6 (fJ (BP (fJ (Ca (zy (bQ 0 (eT eS) a c S)) _ (λ_=>S) (λb:AZ=>(cG (Li () (aA 1 (zE (eT eS)) b S) (aA 0 (zE (eT eS)) e S)))) (λb:AZ=>(aA 1 (zE (eT eS)) b S)) (λ_=>S) λ_=>S)) (fJ (mU (jE (aA 3 (zE (eT eS)) q1.2.1 S) (jE (aA 4 (zE (eT eS)) q1.2.2 S) (iI (eT eS)))) (ZU S)))))))) (λ_=>S) λ_=>S)) (cF (gq (λr=>r) XW (λ_=>S) λ_=>S)))))))
theorem JL:∀v bs,(aL (eT eS) (aZ fY aN)) v bs->bs.length=2/\(hold (Z (jq v.1 v.2.1))->lK (bs.map lend)=Z ((zE (eO (eL (eT eS)))) (eE v.1 v.2.1))):=by
 rintro⟨b,a,_⟩ _ ⟨bZ,_,rfl,c,⟨_,rfl,rfl⟩⟩;exact⟨rfl,λh=>cW (g:=lJ) (n:=6) (bs:=[lend bZ,.z (fY a)]) (JK b (gn c) a) h⟩
def cV(a:(Y (O AZ)))(b:c7):j9 ((Y (O AZ))) Bool:=(if((!(jg (fY b)))||((!decide ((3:Int)=3))||(!decide (b.1∈[("join":AJ),("split":AJ)]))))=true then(j9.rt false)else(let a:=(eE (a.getD default) b);(if a.isNone=true then(j9.rt false)else(j9.nx a))))
def nu(b:(Y (O AZ)))(a:c7):Prop:=(((!(jg (fY a)))||((!decide ((3:Int)=3))||(!decide (a.1∈[("join":AJ),("split":AJ)]))))=false->(b.isSome=true/\(jq (b.getD default) a)))
theorem Dq(d:O AZ)(c:O AZ)(e:O c7)(f:Lp uR (e.map fY))(a:(Y (O AZ)))(b:c7):RP tU [Z ((zE (eL (eT eS))) d),Z ((zE (eL (eT eS))) c),Z uR,Z ((zE (eO (eL (eT eS)))) a),Z (zE fY b)] (cC (λa:(Y (O AZ))=>[Z ((zE (eL (eT eS))) d),Z ((zE (eL (eT eS))) c),Z uR,Z ((zE (eO (eL (eT eS)))) a),U]) (zE eB)) (cV  a b) (Z (nu  a b)):=R.tp (bD (tB (Jg (Lj (U0 (US jg (aA 4 (zE fY) b S)))) (Jg (cG (Li () (NJ (aA 4 (zE fY) b S) 3 λ_=>⟨_,rfl,rfl⟩) (BD 3))) (cG (LA (Pv (aA 4 (zE fY) b S) (λq=>q.1) eS 0 λ_=>S) (fJ (mU (jE (Vo "join") (jE (Vo "split") (iI eS))) (ZU S))))))) (bD (gq .rt (yV (.bl false) eB false S) (λ_=>S) λ_=>S)) (cF (bD (bW 3 (As JL (fW (mR (WC (aA 3 (zE (eO (eL (eT eS)))) a S))) (jW (aA 4 (zE fY) b S) bR))) (λ_=>S) λa=>(bD (tB (cG (UR (aA 3 (zE (eO (eL (eT eS)))) a S) λ_=>S)) (bD (gq .rt (yV (.bl false) eB false S) (λ_=>S) λ_=>S)) (cF (cF (bJ (.nx a) S))))))))))
def fD(d:O AZ)(b:O AZ)(e:O c7):Bool:=(let a:=(Z d);(BI (jr (λ(a:(Y (O AZ))) (c:c7)=>((cV  a c):j9 ((Y (O AZ))) Bool)) e a) (λr=>r) λa:(Y (O AZ))=>(decide (a=(Z b)))))
def iV(d:O AZ)(e:O AZ)(c:O c7):Prop:=(let a:=(Z d);(nT (λ(a:(Y (O AZ))) (b:c7)=>((cV  a b):j9 ((Y (O AZ))) Bool)) (λ(a:(Y (O AZ))) (b:c7)=>Z (nu  a b)) c a/\(xq (jr (λ(a:(Y (O AZ))) (b:c7)=>((cV  a b):j9 ((Y (O AZ))) Bool)) c a) λa:(Y (O AZ))=>True)))
theorem Nj(c:O AZ)(b:O AZ)(d:O c7)(e:Lp uR (d.map fY)):RP oh [Z ((zE (eL (eT eS))) c),Z ((zE (eL (eT eS))) b),Z uR,U,U] (λr=>An.rt (zE eB r)) (fD c b d) (Z (iV c b d)):=R.tp (bW 3 (Jf (aA 0 (zE (eL (eT eS))) c S)) (λ_=>S) λa=>(Sg 2 d (Yh e S) (λa:(Y (O AZ))=>[Z ((zE (eL (eT eS))) c),Z ((zE (eL (eT eS))) b),Z uR,Z ((zE (eO (eL (eT eS)))) a),U]) a S _ (λ_ _=>S) (λ(a:(Y (O AZ))) (f:c7)=>((Dq c b d e a f).r:R _ _ (cC (λa:(Y (O AZ))=>[Z ((zE (eL (eT eS))) c),Z ((zE (eL (eT eS))) b),Z uR,Z ((zE (eO (eL (eT eS)))) a),U]) (zE eB)))) (λr=>r) (λ_=>S) λa=>(gq (λr=>r) (BM () (aA 3 (zE (eO (eL (eT eS)))) a S) (Jf (aA 1 (zE (eL (eT eS))) b S))) (λ_=>S) λ_=>S)))
theorem za:∀v bs,(aZ (eL (eT eS)) (aZ (eL (eT eS)) (aL fY aN))) v bs->bs.length=3/\(hold (Z (iV v.1 v.2.1 v.2.2.1))->j5 (bs.map lend)=Z ((zE eB) (fD v.1 v.2.1 v.2.2.1))):=by
 rintro⟨a,b,c,_⟩ _ ⟨_,rfl,⟨_,rfl,⟨uR,_,rfl,d,rfl⟩⟩⟩;exact⟨rfl,λh=>cW (g:=oh) (n:=5) (bs:=[.z ((eL (eT eS)) a),.z ((eL (eT eS)) b),lend uR]) (Nj a b c (gn d)) h⟩
def nA(c:BC)(e:Unit)(d:Int):j9 (Unit) Bool:=(let q2:=(mq c (3*d));(let a:=(aQ q2.2.1 q2.2.2);(let b:=(((q2.2.1.length:Int)+(q2.2.2.length:Int))-(2*((d9 q2.1 q2.2.1 q2.2.2).length:Int)));(if((!true)||((!decide ((a.length:Int)=b))||(!(fD q2.2.1 q2.2.2 a))))=true then(j9.rt false)else(let a:=(a.map fY++[Dt.non]);(if((!decide (((aQ q2.2.1 q2.2.2).length:Int)=b))||(!decide ((aQ q2.2.1 q2.2.1)=([]:O c7))))=true then(j9.rt false)else(if((!(fD q2.2.2 q2.2.1 (aQ q2.2.2 q2.2.1)))||(!decide (((aQ q2.2.2 q2.2.1).length:Int)=b)))=true then(j9.rt false)else(j9.nx bv))))))))
def uf(c:BC)(e:Unit)(d:Int):Prop:=((pX c (3*d))/\(let q2:=(mq c (3*d));((cg q2.2.1 q2.2.2)/\(let a:=(aQ q2.2.1 q2.2.2);((jo q2.1 q2.2.1 q2.2.2)/\(let b:=(((q2.2.1.length:Int)+(q2.2.2.length:Int))-(2*((d9 q2.1 q2.2.1 q2.2.2).length:Int)));(((!true)=false->((!decide ((a.length:Int)=b))=false->(iV q2.2.1 q2.2.2 a)))/\(((!true)||((!decide ((a.length:Int)=b))||(!(fD q2.2.1 q2.2.2 a))))=false->(zV a.length/\(let a:=(a.map fY++[Dt.non]);(((cg q2.2.1 q2.2.2)/\((!decide (((aQ q2.2.1 q2.2.2).length:Int)=b))=false->(cg q2.2.1 q2.2.1)))/\(((!decide (((aQ q2.2.1 q2.2.2).length:Int)=b))||(!decide ((aQ q2.2.1 q2.2.1)=([]:O c7))))=false->(((cg q2.2.2 q2.2.1)/\(iV q2.2.2 q2.2.1 (aQ q2.2.2 q2.2.1)))/\((!(fD q2.2.2 q2.2.1 (aQ q2.2.2 q2.2.1)))=false->(cg q2.2.2 q2.2.1)))))))))))))))
theorem YH(b:BC)(f:Lp bZ (b.map eI))(d:Unit)(c:Int):RP Mu [Z bZ,Z (zE eI c),U,U,U,U,U] (cC (λd:Unit=>[Z bZ,U,U,U,U,U,U]) (zE eB)) (nA b d c) (Z (uf b d c)):=R.tp (bD (M3 (As Vc (fW (bQ 0 eI b f S) (jW (BJ 3 () (aA 1 (zE eI) c S)) bR))) _ (λ_=>S) λq2=>(bD (bW 5 (As fK (fW (mR (aA 3 (zE (eL (eT eS))) q2.2.1 S)) (fW (mR (aA 4 (zE (eL (eT eS))) q2.2.2 S)) bR))) (λ_=>S) λa=>(bD (bW 6 (N0 (kY (B8 (mR (aA 3 (zE (eL (eT eS))) q2.2.1 S))) (B8 (mR (aA 4 (zE (eL (eT eS))) q2.2.2 S)))) (BJ 2 () (B8 (fJ (As JH (fW (mR (aA 2 (zE (eL eS)) q2.1 S)) (fW (mR (aA 3 (zE (eL (eT eS))) q2.2.1 S)) (fW (mR (aA 4 (zE (eL (eT eS))) q2.2.2 S)) bR)))))))) (λ_=>S) λe=>(bD (tB (Jg (Lj (U0 (RY BN (jV (aA 5 (lE fY) a S)) true λ_=>S))) (Jg (cG (Li () (B8 (jV (aA 5 (lE fY) a S))) (aA 6 (zE eI) e S))) (Lj (U0 (As za (jW (aA 3 (zE (eL (eT eS))) q2.2.1 S) (jW (aA 4 (zE (eL (eT eS))) q2.2.2 S) (fW (jV (aA 5 (lE fY) a S)) bR)))))))) (bD (gq .rt (yV (.bl false) eB false S) (λ_=>S) λ_=>S)) (cF (bD (Sn 5 a S λa=>(bD (tB (Jg (cG (Li () (B8 (fJ (As fK (fW (mR (aA 3 (zE (eL (eT eS))) q2.2.1 S)) (fW (mR (aA 4 (zE (eL (eT eS))) q2.2.2 S)) bR))))) (aA 6 (zE eI) e S))) (cG (XQ () (fJ (As fK (fW (mR (aA 3 (zE (eL (eT eS))) q2.2.1 S)) (fW (mR (aA 3 (zE (eL (eT eS))) q2.2.1 S)) bR)))) (fJ (mU (iI fY) (ZU S)))))) (bD (gq .rt (yV (.bl false) eB false S) (λ_=>S) λ_=>S)) (cF (bD (tB (Jg (Lj (U0 (As za (jW (aA 4 (zE (eL (eT eS))) q2.2.2 S) (jW (aA 3 (zE (eL (eT eS))) q2.2.1 S) (fW (mR (XH (As fK (fW (mR (aA 4 (zE (eL (eT eS))) q2.2.2 S)) (fW (mR (aA 3 (zE (eL (eT eS))) q2.2.1 S)) bR))))) bR)))))) (cG (Li () (B8 (fJ (As fK (fW (mR (aA 4 (zE (eL (eT eS))) q2.2.2 S)) (fW (mR (aA 3 (zE (eL (eT eS))) q2.2.1 S)) bR))))) (aA 6 (zE eI) e S)))) (bD (gq .rt (yV (.bl false) eB false S) (λ_=>S) λ_=>S)) (cF (cF (bJ (.nx bv) S)))))))))))))))))))
def Nk(a:BC):Bool:=(BI (jr (λ(b:Unit) (c:Int)=>((nA a b c):j9 (Unit) Bool)) (rng 0 (if(if(3:Int)<((a.length:Int) / (3:Int))then(3:Int)else((a.length:Int) / (3:Int)))>1 then(if(3:Int)<((a.length:Int) / (3:Int))then(3:Int)else((a.length:Int) / (3:Int)))else 1).toNat) bv) (λr=>r) λb:Unit=>true)
def Nm(a:BC):Prop:=((Rg (if(if(3:Int)<((a.length:Int) / (3:Int))then(3:Int)else((a.length:Int) / (3:Int)))>1 then(if(3:Int)<((a.length:Int) / (3:Int))then(3:Int)else((a.length:Int) / (3:Int)))else 1)/\nT (λ(b:Unit) (c:Int)=>((nA a b c):j9 (Unit) Bool)) (λ(b:Unit) (c:Int)=>Z (uf a b c)) (rng 0 (if(if(3:Int)<((a.length:Int) / (3:Int))then(3:Int)else((a.length:Int) / (3:Int)))>1 then(if(3:Int)<((a.length:Int) / (3:Int))then(3:Int)else((a.length:Int) / (3:Int)))else 1).toNat) bv)/\(xq (jr (λ(b:Unit) (c:Int)=>((nA a b c):j9 (Unit) Bool)) (rng 0 (if(if(3:Int)<((a.length:Int) / (3:Int))then(3:Int)else((a.length:Int) / (3:Int)))>1 then(if(3:Int)<((a.length:Int) / (3:Int))then(3:Int)else((a.length:Int) / (3:Int)))else 1).toNat) bv) λb:Unit=>True))
theorem am(a:BC)(c:Lp bZ (a.map eI)):RP SM [Z bZ,U,U,U,U,U,U] (λr=>An.rt (zE eB r)) (Nk a) (Z (Nm a)):=R.tp (Mn (λb:Unit=>[Z bZ,U,U,U,U,U,U]) bv S (Lr (IS (BD 1) (R1 (lg (B8 (bQ 0 eI a c S)) 3 ()) (BD 3)))) _ (λ_ _=>S) (λ(b:Unit) (d:Int)=>((YH a c b d).r:R _ _ (cC (λb:Unit=>[Z bZ,U,U,U,U,U,U]) (zE eB)))) (λr=>r) (λ_=>S) λb=>(gq (λr=>r) (yV (.bl true) eB true S) (λ_=>S) λ_=>S))
theorem IR:∀v bs,(aL eI aN) v bs->bs.length=1/\(hold (Z (Nm v.1))->F_law (bs.map lend)=Z ((zE eB) (Nk v.1))):=by
 rintro⟨a,_⟩ _ ⟨bZ,_,rfl,b,rfl⟩;exact⟨rfl,λh=>cW (g:=SM) (n:=7) (bs:=[lend bZ]) (am a (gn b)) h⟩
theorem MS(h:∀a:O Int,a.length<=63->Nm a/\Nk a=true):(∀a:O Int,a.length<=63->F_law [.z (.lst (a.map .int))]=Z (.z (.bl true)))/\∀a:O Int,a.length<=63->F_law [.l (a.map .int)]=Z (.z (.bl true)):=
 ⟨λa b=>((IR (a,bv) [.z (.lst (a.map .int))] ⟨_,_,rfl,rfl,rfl⟩).2 (h a b).1).trans (by rw[(h a b).2]),λa b=>((IR (a,bv) [.l (a.map .int)] ⟨_,_,rfl,rfl,rfl⟩).2 (h a b).1).trans (by rw[(h a b).2])⟩
end
end G46
end
section
set_option synthInstance.maxSize 100000
namespace G46
open L2 P1
theorem QG(b:O Int)(k:Int)(a:0<=k)(h1:k<=1000):iQ b k:=by
 unfold iQ;exact⟨λh=>BF a (by simpa using h),λ_=>MB a ()⟩
theorem YJ(k:Nat)(s:Int×O Int×Int)(hk:k<1000)(h:(0<=s.1/\s.1<1999999973)/\s.2.1.length=k/\(∀x∈s.2.1,0<=x)/\0<=s.2.2):gO s k/\(0<=(bT s k).1/\(bT s k).1<1999999973)/\(bT s k).2.1.length=k+1/\(∀x∈(bT s k).2.1,0<=x)/\0<=(bT s k).2.2:=by
 obtain⟨h1,h2,c,b⟩:=h;have a:In 2 (if(decide ((0:Int)<s.2.2))=true then(1:Int)else 0):=by split<;>exact BF () ()
 refine⟨⟨MB h1.1 (),a,?_⟩,xu _ (),?_,?_,Int.ediv_nonneg b ()⟩
 ·show s.2.1.length<=1000000;omega
 ·show(s.2.1++[_]).length=k+1;rw[zC,h2];rfl
 ·intro x hx;rcases List.mem_append.mp hx with hx|hx
  ·exact c x hx
  ·cases az.mp hx;have:=P6 (xs:=[((((s.1*((s.1%65521)+40487))+(7*k))+5)%1999999973),(s.2.2%1000000)]) a;simp only[js,kr,or_false]at this;rcases this with e|e<;>rw[e]
   ·exact(xu _ ()).1
   ·exact(xu _ ()).1
theorem QH(c m:Int)(b:0<=m)(h1:m<=1000):fU c m/\(bI c m).length=m.toNat/\∀x∈bI c m,0<=x:=by
 have d:∀st a:Int,(0<=st/\st<1999999973)->0<=a->jD c m [] st a/\(gP c m [] st a).length=m.toNat/\∀x∈gP c m [] st a,0<=x:=λst a hs e=>by
  have:=LC (P:=λs k=>Z (gO s k)) (λk s=>(0<=s.1/\s.1<1999999973)/\s.2.1.length=k/\(∀x∈s.2.1,0<=x)/\0<=s.2.2) (step:=λs k=>bT s k) m.toNat (st,[],a) ⟨hs,rfl,λx h=>(by cases h),e⟩ λk s hk h=>YJ k s () h;exact⟨⟨LQ b (),this.1⟩,this.2.2.1,this.2.2.2.1⟩
 refine d _ _ (xu _ ()) ?_;dsimp only;split<;>(try split)<;>omega
theorem uM{m:O (AJ×α)}:has m x=true↔x∈m.map (·.1):=by
 unfold has;rw[Q4,ax];constructor
 ·rintro⟨q,a,h⟩;exact⟨q,a,qa h⟩
 ·rintro⟨q,a,h⟩;exact⟨q,a,qA h⟩
theorem Np[Inhabited α]{a AS:O (AJ×α)}{n:AJ}{h:α}(c:n∉a.map (·.1)):look (a++(n,h)::AS) n=h:=by
 unfold look;have:a.find? (λq=>decide (q.1=n))=U:=cD.mpr λq b e=>c (ax.mpr ⟨q,b,qa e⟩);rw[List.find?_append,this];simp
theorem MU{a AS:O (AJ×α)}{n:AJ}{h v:α}(d:n∉a.map (·.1))(f:n∉AS.map (·.1)):put (a++(n,h)::AS) n v=a++(n,v)::AS:=by
 unfold put;rw[zl (uM.mpr (by simp))];have b:∀l:O (AJ×α),n∉l.map (·.1)->l.map (λq=>if q.1=n then(q.1,v)else q)=l:=λl c=>by
  conv=>rhs;rw[<-dt l]
  refine qq λq g=>?_;rw[zD λe=>c (ax.mpr ⟨q,g,e⟩)];rfl
 rw[ZH,zo,b a d,b AS f];simp
theorem Vd[Inhabited α]{m:O (AJ×α)}(h:x∈m.map (·.1)):(x,look m x)∈m:=by
 unfold look;cases a:m.find? λq=>decide (q.1=x)with
 |none=>
  obtain⟨q,b,rfl⟩:=ax.mp h;have:=cD.mp a q b;simp at this
 |some q=>
  have h1:=ei a;have h2:q.1=x:=by simpa using List.find?_some a
  show(x,q.2)∈m;rw[<-h2];exact h1
theorem JM[Inhabited α]{m:O (AJ×α)}(nd:(m.map (·.1)).Nodup){q:AJ×α}(h:q∈m):look m q.1=q.2:=by
 obtain⟨a,AS,rfl⟩:=dB h;have:q.1∉a.map (·.1):=λe=>by
  rw[ZH,zo,QP]at nd;exact nd.2.2 _ e _ (ze ..) rfl
 exact Np this
def mn(one other:AJ):AJ:=if F7 other one=true then other else one
def jn(one other h:AJ):AJ:=if h=one\/h=other then mn one other else h
theorem Nq(a b:AJ):mn a b=a\/mn a b=b:=by unfold mn;split;exact .inr rfl;exact .inl rfl
def jm(m:O (AJ×AJ))(one other:AJ):O (AJ×AJ):=m.map λq=>(q.1,jn one other q.2)
theorem SN(m:O (AJ×AJ))(one other:AJ):(jm m one other).map (·.1)=m.map (·.1):=by unfold jm;rw[ZT];rfl
theorem S2{one other:AJ}(nd:(m.map (·.1)).Nodup)(h:x∈m.map (·.1)):look (jm m one other) x=jn one other (look m x):=by
 have h1:=Vd h;have:(x,jn one other (look m x))∈jm m one other:=ax.mpr ⟨_,h1,rfl⟩;exact JM (by rw[SN];exact nd) this
theorem Bz(one other:AJ):∀(b a:O (AJ×AJ)),((a++b).map (·.1)).Nodup->(a++b).length<1000 →
  jX (λ(c:(O (AJ×AJ))) (name:AJ)=>(cM one other (mn one other) c name)) (λ(c:(O (AJ×AJ))) (name:AJ)=>Z (kE one other (mn one other) c name)) (b.map (·.1)) (a++b) ∧
  (b.map (·.1)).foldl (λ(c:(O (AJ×AJ))) (name:AJ)=>(cM one other (mn one other) c name)) (a++b)=a++jm b one other
 |[],a,_,_=>⟨trivial,rfl⟩
 |(n,h)::AS,a,nd,hl=>by
  have f:n∉a.map (·.1):=λe=>by
   rw[ZH,zo,QP]at nd;exact nd.2.2 _ e _ (ze ..) rfl
  have i:n∉AS.map (·.1):=by
   rw[ZH,zo,QP,bc]at nd;exact nd.2.1.1
  have g:has (a++(n,h)::AS) n=true:=uM.mpr (by simp);have e:cM one other (mn one other) (a++(n,h)::AS) n=a++(n,jn one other h)::AS:=by
   unfold cM;dsimp only;rw[Np f];unfold jn;by_cases q:h=one\/h=other
   ·rw[zl q,zl (by simpa using q),MU f i]
   ·rw[zD q,zD (by simpa using q)]
  have d:=Bz one other AS (a++[(n,jn one other h)]) (by simpa using nd) (by simpa using hl);rw[ZO]at d;refine⟨⟨⟨⟨g,λ_=>g⟩,λ_=>hl⟩,?_⟩,?_⟩
  ·show jX _ _ _ (cM one other (mn one other) (a++(n,h)::AS) n);rw[e];exact d.1
  ·rw[zo,Qb,e];rw[show a++(n,jn one other h)::AS=a++([(n,jn one other h)]++AS) by simp,d.2];unfold jm;simp
theorem Pt(one other:AJ)(nd:(m.map (·.1)).Nodup)(a:m.length<1000):lV m one other/\lU m one other=jm m one other:=Bz one other m [] nd a
theorem SQ:∀(a m:O (AJ×AJ)),((m++a).map (·.1)).Nodup->a.foldl (λm q=>put m q.1 q.2) m=m++a
 |[],m,_=>by simp
 |q::a,m,nd=>by
  rw[Qb];have:put m q.1 q.2=m++[q]:=by
   unfold put;rw[zD];intro e;have e:=uM.mp e;rw[ZH,zo,QP]at nd;exact nd.2.2 _ e _ (ze ..) rfl
  rw[this,SQ a (m++[q]) (by simpa using nd)];simp
theorem SX(n_:AZ)(nd:n_.Nodup)(a:n_.length<1000):lR n_/\dh n_=n_.map λn=>(n,n):=by
 refine⟨⟨a,by omega⟩,?_⟩;unfold dh ET;rw[SQ _ [] (by rw[eP,ZT];show(n_.map id).Nodup;rw[dt];exact nd)];rfl
structure Hd (n_:AZ) (m:List (Str×Str)):Prop where
 keys:m.map (·.1)=n_
 nd:n_.Nodup
 len:n_.length<1000
 mem:∀x∈n_,look m x∈n_
 idem:∀x∈n_,look m (look m x)=look m x
theorem Hd.kn(h:Hd n_ m):(m.map (·.1)).Nodup:=by rw[h.keys];exact h.nd
theorem Hd.ml(h:Hd n_ m):m.length<1000:=by rw[<-zi (f:=(·.1)),h.keys];exact h.len
theorem Hd.has(h:Hd n_ m)(hx:x∈n_):has m x=true:=uM.mpr (by rw[h.keys];exact hx)
theorem Hd.lone(nd:n_.Nodup)(b:n_.length<1000):Hd n_ (n_.map λn=>(n,n)):=by
 have k:(n_.map λn=>(n,n)).map (·.1)=n_:=by rw[ZT];show n_.map id=n_;rw[dt]
 have a:∀x∈n_,look (n_.map λn=>(n,n)) x=x:=λx hx=>JM (q:=(x,x)) (by rw[k];exact nd) (ax.mpr ⟨x,hx,rfl⟩);exact⟨k,nd,b,λx hx=>by rw[a x hx];exact hx,λx hx=>by rw[a x hx,a x hx]⟩
theorem Hl(nd:n_.Nodup)(hx:x∈n_):look (n_.map λn=>(n,n)) x=x:=
 JM (q:=(x,x)) (by rw[ZT];show(n_.map id).Nodup;rw[dt];exact nd) (ax.mpr ⟨x,hx,rfl⟩)
theorem Hd.xR(h:Hd n_ m){one other:AJ}(hx:x∈n_):look (jm m one other) x=jn one other (look m x):=S2 h.kn (by rw[h.keys];exact hx)
theorem Hd.join(h:Hd n_ m){a b:AJ}(c:a∈n_)(d:b∈n_):Hd n_ (jm m (look m a) (look m b)):=by
 have g:=h.mem a c;have m2:=h.mem b d;refine⟨(SN _ _ _).trans h.keys,h.nd,h.len,λx hx=>?_,λx hx=>?_⟩
 ·rw[h.xR hx];unfold jn;split
  ·rcases Nq (look m a) (look m b)with e|e<;>rw[e]<;>assumption
  ·exact h.mem x hx
 ·have f:jn (look m a) (look m b) (look m x)∈n_:=by
   unfold jn;split
   ·rcases Nq (look m a) (look m b)with e|e<;>rw[e]<;>assumption
   ·exact h.mem x hx
  rw[h.xR hx,h.xR f];unfold jn;by_cases q:look m x=look m a\/look m x=look m b
  ·rw[zl q];rcases Nq (look m a) (look m b)with e|e
   ·rw[e,h.idem a c,zl (.inl S)]
   ·rw[e,h.idem b d,zl (.inr S)]
  ·rw[zD q,h.idem x hx,zD q]
def nC(n_:AZ)(m:O (AJ×AJ)):AZ:=n_.filter λx=>decide (look m x=x)
theorem Of(h:Hd n_ m):lW m/\(dj m).length=(nC n_ m).length:=by
 have b:=h.len;refine⟨⟨by rw[h.keys];omega,λx hx=>⟨uM.mpr hx,λ_=>⟨by rw[h.keys];omega,λy a=>uM.mpr a⟩⟩⟩,?_⟩;unfold dj nC;rw[zi,h.keys]
structure HC (N:AZ) (C:List AZ) (m:List (Str×Str)):Prop where
 hd:Hd N m
 one:∀c∈C,∀x∈c,∀y∈c,look m x=look m y
 least:∀P:Str->Prop,(∀c∈C,∀x∈c,∀y∈c,P x->P y)->∀x∈N,∀y∈N,look m x=look m y->P x->P y
theorem HC.mem{C b:O AZ}(h:HC N C m)(e:∀c,c∈b↔c∈C):HC N b m:=
 ⟨h.hd,λc a=>h.one c ((e c).mp a),λP d=>h.least P λc a=>d c ((e c).mpr a)⟩
structure Cc (N:AZ) (C:List AZ):Prop where
 ne:∀c∈C,c≠[]
 sub:∀c∈C,∀x∈c,x∈N
def E8(N:AZ)(C:O AZ)(m:O (AJ×AJ)):Prop:=∀P:AJ->Prop,(∀c∈C,∀x∈c,∀y∈c,P x->P y)->∀x∈N,∀y∈N,look m x=look m y->P x->P y
section
variable{C:O AZ}
theorem E8.join(h:Hd N m)(l:E8 N C m){c:AZ}{a b:AJ}(o:c∈C)(j:a∈c)(p:b∈c)(aN:a∈N)(n:b∈N):E8 N C (jm m (look m a) (look m b)):=by
 intro P i x hx y g e px;rw[h.xR hx,h.xR g]at e;have l:=l P i;have t:P a->P b:=i c o a j b p;have s:P b->P a:=i c o b p a j;unfold jn at e;by_cases f:look m x=look m a\/look m x=look m b
 ·by_cases d:look m y=look m a\/look m y=look m b
  ·have pa:P a:=by
    rcases f with q|q
    ·exact l x hx a aN q px
    ·exact s (l x hx b n q px)
   rcases d with q|q
   ·exact l a aN y g q.symm pa
   ·exact l b n y g q.symm (t pa)
  ·rw[zl f,zD d]at e;rcases Nq (look m a) (look m b)with z|z
   ·exact absurd (.inl (e.symm.trans z)) d
   ·exact absurd (.inr (e.symm.trans z)) d
 ·by_cases d:look m y=look m a\/look m y=look m b
  ·rw[zD f,zl d]at e;rcases Nq (look m a) (look m b)with z|z
   ·exact absurd (.inl (e.trans z)) f
   ·exact absurd (.inr (e.trans z)) f
  ·rw[zD f,zD d]at e;exact l x hx y g e px
theorem NU(a b:AJ):jn a b a=jn a b b:=by unfold jn;rw[zl (.inl S),zl (.inr S)]
theorem DB{r:AZ}:at' (x::r) (0:Int)=x:=Qf (k:=0) rfl
theorem EI{c:AZ}(h:c≠[]):In c.length 0/\at' c 0∈c:=by
 cases c with
 |nil=>exact absurd S h
 |cons x r=>exact⟨⟨by omega,by simp⟩,by rw[DB];exact ze⟩
theorem S5(K:Cc N C){c:AZ}(f:c∈C):∀(ts:AZ) (m:O (AJ×AJ)),(∀t∈ts,t∈c)->Hd N m->E8 N C m →
  jX (λ(i:O (AJ×AJ)) (g:AJ)=>dH c i g) (λ(i:O (AJ×AJ)) (g:AJ)=>Z (nq c i g)) ts m/\∃a,ts.foldl (λ(i:O (AJ×AJ)) (g:AJ)=>dH c i g) m=a/\Hd N a/\E8 N C a/\(∀x∈N,∀y∈N,look m x=look m y->look a x=look a y)/\∀t∈ts,look a t=look a (at' c 0)
 |[],m,_,h,l=>⟨trivial,m,rfl,h,l,λ_ _ _ _ e=>e,λ_ h=>by cases h⟩
 |t::ts,m,hts,h,l=>by
  obtain⟨w,c0⟩:=EI (K.ne c f);have tc:=hts t ze;have j:=K.sub c f t tc;have b:=K.sub c f _ c0;obtain⟨d,e⟩:=Pt (m:=m) (look m (at' c 0)) (look m t) h.kn h.ml;have es:dH c m t=jm m (look m (at' c 0)) (look m t):=e;obtain⟨d2,a,e2,h2,p,o,z⟩:=S5 K f ts (jm m (look m (at' c 0)) (look m t)) (λt s=>hts t (zg _ s)) (h.join b j) (l.join h f c0 tc b j);refine⟨⟨⟨⟨⟨w,h.has b⟩,h.has j⟩,d⟩,by show jX _ _ ts (dH c m t);rw[es];exact d2⟩,a,by rw[Qb,es];exact e2,h2,p,λx hx y n e=>o x hx y n (by rw[h.xR hx,h.xR n,e]),λu v=>?_⟩;rcases List.mem_cons.mp v with q|q
  ·rw[q];exact o t j _ b (by rw[h.xR j,h.xR b];exact(NU _ _).symm)
  ·exact z u q
theorem C6(K:Cc N C):∀(cs:O AZ) (m:O (AJ×AJ)),(∀c∈cs,c∈C)->Hd N m->E8 N C m →
  jX (λ(d:O (AJ×AJ)) (vs:AZ)=>bY d vs) (λ(d:O (AJ×AJ)) (vs:AZ)=>Z (jl d vs)) cs m/\∃a,cs.foldl (λ(d:O (AJ×AJ)) (vs:AZ)=>bY d vs) m=a/\Hd N a/\E8 N C a/\(∀x∈N,∀y∈N,look m x=look m y->look a x=look a y)/\∀c∈cs,∀t∈c,look a t=look a (at' c 0)
 |[],m,_,h,l=>⟨trivial,m,rfl,h,l,λ_ _ _ _ e=>e,λ_ h=>by cases h⟩
 |c::cs,m,hcs,h,l=>by
  have b:=hcs c ze;obtain⟨v,j,e1,h1,p,n,u⟩:=S5 K b c m (λ_ h=>h) h l;obtain⟨d2,a,e2,h2,s,i,w⟩:=C6 K cs j (λc b=>hcs c (zg _ b)) h1 p;have es:bY m c=j:=e1;refine⟨⟨v,by show jX _ _ cs (bY m c);rw[es];exact d2⟩,a,by rw[Qb,es];exact e2,h2,s,λx hx y g e=>i x hx y g (n x hx y g e),λc' o t f=>?_⟩;rcases List.mem_cons.mp o with q|q
  ·subst q;exact i t (K.sub _ b t f) _ (K.sub _ b _ (EI (K.ne _ b)).2) (u t f)
  ·exact w c' q t f
theorem Ve(K:Cc N C)(nd:N.Nodup)(f:N.length<1000):jX (λ(a:O (AJ×AJ)) (vs:AZ)=>bY a vs) (λ(a:O (AJ×AJ)) (vs:AZ)=>Z (jl a vs)) C (dh N)/\HC N C (C.foldl (λ(a:O (AJ×AJ)) (vs:AZ)=>bY a vs) (dh N)):=by
 rw[(SX N nd f).2];obtain⟨d,i,e,h,l,_,r⟩:=C6 K C _ (λ_ h=>h) (Hd.lone nd f) λP _ x hx y b e px=>by
  rw[Hl nd hx,Hl nd b]at e;rw[<-e];exact px
 rw[e];exact⟨d,h,λc g x hx y b=>(r c g x hx).trans (r c g y b).symm,l⟩
end
def jt(m:O (AJ×AJ))(A:O AZ)(v:AJ):O AZ:=A.filter λc=>decide (look m (at' c 0)=v)
theorem YK{V:AZ}(g:V.Nodup){A:O AZ}(f:A.Nodup)(h:∀c∈A,look m (at' c 0)∈V):(V.flatMap (jt m A)).Perm A:=by
 rw[hE];refine vJ (List.pairwise_flatten.mpr ⟨λs hs=>?_,cm.mpr (List.Pairwise.imp (λ{a b} hne=>?_) g)⟩) f λc=>?_
 ·obtain⟨v,_,rfl⟩:=ax.mp hs;exact f.sublist ko
 ·intro x h1 y h2 e;subst e;exact hne ((qa (bb.mp h1).2).symm.trans (qa (bb.mp h2).2))
 ·rw[bE];constructor
  ·rintro⟨s,hs,d⟩;obtain⟨v,_,rfl⟩:=ax.mp hs;exact(bb.mp d).1
  ·intro d;exact⟨_,ax.mpr ⟨_,h c d,rfl⟩,bb.mpr ⟨d,qA rfl⟩⟩
theorem gR(h:n<=100000):zV n:=Zs h ()
section
variable{A B:O AZ}{d:AJ}
structure Gq (N:AZ) (m:List (Str×Str)) (d:Str) (g:AZ):Prop where
 dm:d∈g
 nd:g.Nodup
 in_:∀y∈g,y∈N/\look m y=look m d
def HM(C:O AZ)(g:AZ):Prop:=∀c∈C,(∃x∈c,x∈g)->∀y∈c,y∈g
theorem Gq.len{g:AZ}(q:Gq N m d g):g.length<=N.length:=qw q.nd λx hx=>(q.in_ x hx).1
theorem YL{c g:AZ}:((c.map λa:AJ=>(decide (a∈g))).any id)=true↔∃x∈c,x∈g:=by
 rw[Q4];constructor
 ·rintro⟨b,d,e⟩;obtain⟨x,hx,rfl⟩:=ax.mp d;exact⟨x,hx,qa e⟩
 ·rintro⟨x,hx,f⟩;exact⟨_,ax.mpr ⟨x,hx,rfl⟩,qA f⟩
theorem Gq.b3(h:HC N (A++B) m)(K:Cc N (A++B))(kn:∀c∈A++B,c.Nodup)(s:N.length<60){g c:AZ}(q:Gq N m d g)(f:c∈A++B):
  fL g c/\Gq N m d (bM g c)/\g.length<=(bM g c).length/\((bM g c).length=g.length->bM g c=g/\((∃x∈c,x∈g)->∀y∈c,y∈g)):=by
 have cl:=qw (kn c f) (K.sub c f);have t:=q.len;have fl:(c.filter λj:AJ=>(!decide (j∈g))).length<=c.length:=jI ..;unfold fL bM;dsimp only;rw[kB];refine⟨⟨by omega,λ_=>⟨by omega,gR ()⟩⟩,?_⟩;split
 ·rename_i e;obtain⟨x,hx,o⟩:=YL.mp e;refine⟨⟨QU _ q.dm,List.nodup_append.mpr ⟨q.nd,(kn c f).sublist ko,λa n b p z=>?_⟩,λy i=>?_⟩,by rw[zC];omega,λe=>?_⟩
  ·have:=(bb.mp p).2;rw[<-z]at this;simp[n]at this
  ·rcases List.mem_append.mp i with z|z
   ·exact q.in_ y z
   ·have l:=(bb.mp z).1;exact⟨K.sub c f y l,(h.one c f y l x hx).trans (q.in_ x o).2⟩
  ·rw[zC]at e;have e0:c.filter (λj:AJ=>(!decide (j∈g)))=[]:=bj.mp ();refine⟨by rw[e0,QE],λ_ y i=>?_⟩;have:=List.filter_eq_nil_iff.mp e0 y i;simpa using this
 ·rename_i e;exact⟨q,zk _,λ_=>⟨rfl,λz=>absurd (YL.mpr z) e⟩⟩
theorem Gq.pass(h:HC N (A++B) m)(K:Cc N (A++B))(kn:∀c∈A++B,c.Nodup)(f:N.length<60):∀(cs:O AZ) {g:AZ},(∀c∈cs,c∈A++B)->Gq N m d g →
  jX (λ(a:AZ) (b:AZ)=>bM a b) (λ(a:AZ) (b:AZ)=>Z (fL a b)) cs g/\∃g',cs.foldl (λ(a:AZ) (b:AZ)=>bM a b) g=g'/\Gq N m d g'/\g.length<=g'.length/\(g'.length=g.length->g'=g/\HM cs g)
 |[],g,_,q=>⟨trivial,g,rfl,q,zk _,λ_=>⟨rfl,λ_ h=>by cases h⟩⟩
 |c::cs,g,hcs,q=>by
  obtain⟨s,q1,j,e1⟩:=q.b3 h K kn f (hcs c ze);obtain⟨d2,g',e2,q2,n,o⟩:=Gq.pass h K kn f cs (λc p=>hcs c (zg _ p)) q1;refine⟨⟨s,d2⟩,g',by rw[Qb];exact e2,q2,Zs j n,λe=>?_⟩;obtain⟨z1,z2⟩:=e1 ();obtain⟨z3,i⟩:=o ();rw[z1]at z3 i;refine⟨z3,λc' l=>?_⟩;rcases List.mem_cons.mp l with w|w
  ·rw[w];exact z2
  ·exact i c' w
abbrev NS:=Int×AZ
abbrev S7:NS->Bool:=λa:Int×AZ=>(decide (a.1<(a.2.length:Int)))
theorem Gq.wh(h:HC N (A++B) m)(K:Cc N (A++B))(kn:∀c∈A++B,c.Nodup)(i:N.length<60)(l:A.length+B.length<=1000):∀(n k:Nat) (g:AZ),Gq N m d g->k<=g.length->(k=g.length->HM (A++B) g)->N.length+2<=n+k →
  DH S7 (λa:Int×AZ=>U) (λa:Int×AZ=>((cj A B a):j9 (Int×AZ) (O AZ))) (λa:Int×AZ=>Z (kJ A B a)) n ((k:Int),g)/\∃f g',Qd S7 (λa:Int×AZ=>((cj A B a):j9 (Int×AZ) (O AZ))) n ((k:Int),g)=.nx (f,g')/\Gq N m d g'/\HM (A++B) g'
 |0,k,g,q,hk,_,hn=>by have:=q.len;omega
 |n+1,k,g,q,hk,hs,hn=>by
  unfold DH Qd;by_cases c:k<g.length
  ·have b:S7 ((k:Int),g)=true:=qA (by show(k:Int)<(g.length:Int);omega);obtain⟨p,g',e1,q1,j,a⟩:=Gq.pass h K kn i (A++B) (λ_ h=>h) q;have es:(cj A B ((k:Int),g):j9 (Int×AZ) (O AZ))=.nx ((g.length:Int),g'):=by
    unfold cj;dsimp only;rw[e1]
   obtain⟨d2,f,o,e2,r⟩:=Gq.wh h K kn i l n g.length g' q1 j (λe=>by obtain⟨z1,z2⟩:=a e.symm;rw[z1];exact z2) ();rw[zl b,es];exact⟨⟨trivial,λ_=>⟨⟨gR (),p⟩,d2⟩⟩,f,o,e2,r⟩
  ·have b:¬ S7 ((k:Int),g)=true:=λz=>c (by have:(k:Int)<(g.length:Int):=qa z;omega);rw[zD b];exact⟨⟨trivial,λz=>absurd z b⟩,_,_,rfl,q,hs ()⟩
structure Fd (N:AZ) (m:List (Str×Str)) (found:List AZ) (R:AZ):Prop where
 nd:R.Nodup
 len:found.length=R.length
 sub:∀v∈R,v∈nC N m
 mem:∀y∈N,(∃g∈found,y∈g)↔look m y∈R
theorem Nr(h:Hd N m)(hx:x∈N):look m x∈nC N m:=bb.mpr ⟨h.mem x hx,qA (h.idem x hx)⟩
theorem Fd.all(h:HC N (A++B) m)(K:Cc N (A++B))(kn:∀c∈A++B,c.Nodup)(H:N.length<60)(E:A.length+B.length<=1000):∀(xs:AZ) (i:O AZ) (R:AZ),(∀x∈xs,x∈N)->Fd N m i R →
  nT (λ(t:O AZ) (p:AJ)=>((bO A B t p):j9 ((O AZ)) (O AZ))) (λ(t:O AZ) (p:AJ)=>Z (kO A B t p)) xs i/\∃n o,jr (λ(t:O AZ) (p:AJ)=>((bO A B t p):j9 ((O AZ)) (O AZ))) xs i=.nx n/\Fd N m n o/\∀v,v∈o↔v∈R\/∃x∈xs,look m x=v
 |[],i,R,_,F=>⟨trivial,i,R,rfl,F,λv=>⟨.inl,λz=>z.elim id λ⟨_,h,_⟩=>by cases h⟩⟩
 |x::xs,i,R,hx,F=>by
  have u:=hx x ze;have M:=λy f=>hx y (zg _ f);have fl:i.length<=N.length:=by rw[F.len];exact qw F.nd λv D=>(bb.mp (F.sub v D)).1
  have ea:((i.map λj:AZ=>(decide (x∈j))).any id)=true↔look m x∈R:=by
   rw[<-F.mem x u,Q4];constructor
   ·rintro⟨b,q,e⟩;obtain⟨g,C,rfl⟩:=ax.mp q;exact⟨g,C,qa e⟩
   ·rintro⟨g,C,e⟩;exact⟨_,ax.mpr ⟨g,C,rfl⟩,qA e⟩
  unfold nT jr;by_cases c:look m x∈R
  ·have c1:¬ (!((i.map λj:AZ=>(decide (x∈j))).any id))=true:=by rw[ea.mpr c];decide
   have es:(bO A B i x:j9 ((O AZ)) (O AZ))=.nx i:=by
    unfold bO;rw[zD c1]
   obtain⟨d2,n,o,e2,L,J⟩:=Fd.all h K kn H E xs i R M F;rw[es];refine⟨⟨⟨by omega,λz=>absurd z c1⟩,d2⟩,n,o,e2,L,λv=>?_⟩;rw[J v];constructor
   ·rintro(z|⟨y,f,e⟩)
    ·exact .inl z
    ·exact .inr ⟨y,zg _ f,e⟩
   ·rintro(z|⟨y,f,e⟩)
    ·exact .inl z
    ·rcases List.mem_cons.mp f with w|w
     ·subst w;subst e;exact .inl c
     ·exact .inr ⟨y,w,e⟩
  ·have c1:(!((i.map λj:AZ=>(decide (x∈j))).any id))=true:=by
    cases e:(i.map λj:AZ=>(decide (x∈j))).any id with
    |true=>exact absurd (ea.mp e) c
    |false=>rfl
   obtain⟨X,W,g,e1,q1,l⟩:=Gq.wh (d:=x) h K kn H E 70 0 [x] ⟨az.mpr rfl,KB ..,λy f=>by rw[az.mp f];exact⟨u,rfl⟩⟩ (qh _) (λe=>by simp at e) ();have e1:Qd (λl:Int×AZ=>(decide (l.1<(l.2.length:Int)))) (λl:Int×AZ=>((cj A B l):j9 (Int×AZ) (O AZ))) 70 ((0:Int),[x])=.nx (W,g):=e1;have es:(bO A B i x:j9 ((O AZ)) (O AZ))=.nx (i++[aU g]):=by
    unfold bO;rw[zl c1];dsimp only;rw[e1];rfl
   have P:∀y∈N,y∈g↔look m y=look m x:=λy f=>⟨λz=>(q1.in_ y z).2,λe=>h.least (λz=>z∈g) (λc Q a G b q pa=>l c Q ⟨a,G,pa⟩ b q) x u y f e.symm q1.dm⟩;have gl:=q1.len;obtain⟨d2,n,o,e2,L,J⟩:=Fd.all h K kn H E xs (i++[aU g]) (R++[look m x]) M ⟨List.nodup_append.mpr ⟨F.nd,KB ..,λa G b q z=>c (by rw[az.mp q]at z;exact z▸G)⟩,by simp[F.len],λv D=>by
    rcases List.mem_append.mp D with z|z
    ·exact F.sub v z
    ·rw[az.mp z];exact Nr h.hd u,λy f=>by
    constructor
    ·rintro⟨w,I,s⟩;rcases List.mem_append.mp I with z|z
     ·exact QU _ ((F.mem y f).mp ⟨w,z,s⟩)
     ·rw[az.mp z]at s;rw[(P y f).mp ((bf g).mem_iff.mp s)];exact ZA _ (az.mpr S)
    ·intro z;rcases List.mem_append.mp z with z|z
     ·obtain⟨w,I,s⟩:=(F.mem y f).mpr z;exact⟨w,QU _ I,s⟩
     ·exact⟨aU g,ZA _ (az.mpr S),(bf g).mem_iff.mpr ((P y f).mpr (az.mp z))⟩⟩
   rw[es];refine⟨⟨⟨by omega,λ_=>⟨X,?_⟩⟩,d2⟩,n,o,e2,L,λv=>?_⟩
   ·rw[e1];exact⟨by show g.length<64;omega,gR ()⟩
   ·rw[J v];constructor
    ·rintro(z|⟨y,f,e⟩)
     ·rcases List.mem_append.mp z with z|z
      ·exact .inl z
      ·exact .inr ⟨x,ze,(az.mp z).symm⟩
     ·exact .inr ⟨y,zg _ f,e⟩
    ·rintro(z|⟨y,f,e⟩)
     ·exact .inl (QU _ z)
     ·rcases List.mem_cons.mp f with w|w
      ·subst w;exact .inl (ZA _ (az.mpr e.symm))
      ·exact .inr ⟨y,w,e⟩
theorem vB(h:HC N (A++B) m)(K:Cc N (A++B))(kn:∀c∈A++B,c.Nodup)(b:N.length<60)(f:A.length+B.length<=1000):jo N A B/\(d9 N A B).length=(nC N m).length:=by
 obtain⟨g,d,R,e,F,r⟩:=Fd.all h K kn b f N [] [] (λ_ h=>h) ⟨.nil,rfl,λ_ h=>(by cases h),λy _=>⟨λ⟨_,h,_⟩=>(by cases h),λh=>(by cases h)⟩⟩;unfold jo d9;dsimp only;rw[e];refine⟨⟨g,trivial⟩,?_⟩;show d.length=_;rw[F.len];refine(vJ F.nd (h.hd.nd.sublist ko) λv=>?_).length_eq;refine⟨F.sub v,λa=>(r v).mpr (.inr ⟨v,(bb.mp a).1,qa (bb.mp a).2⟩)⟩
end
theorem uN{a b:O AZ}(h:a.Perm b):bH a=bH b:=G7 ((dW a).trans h) (jY a)
theorem xT{a b:AZ}(h:a.Perm b):aU a=aU b:=wN ((bf a).trans (h.trans (bf b).symm)) (gk a) (gk b)
structure SL (L:List AZ):Prop where
 nd:L.flatten.Nodup
 ne:∀x∈L,x≠[]
 ln:L.flatten.length<60
theorem SL.perm{a:O AZ}(h:SL L)(p:L.Perm a):SL a:=⟨(uH p).nodup_iff.mp h.nd,λx hx=>h.ne x (p.mem_iff.mpr hx),by rw[<-(uH p).length_eq];exact h.ln⟩
theorem SL.of{a:O AZ}(h:SL L)(p:L.flatten.Perm a.flatten)(n:∀x∈a,x≠[]):SL a:=⟨p.nodup_iff.mp h.nd,n,by rw[<-p.length_eq];exact h.ln⟩
theorem YM:∀{L:O AZ},(∀x∈L,x≠[])->L.length<=L.flatten.length
 |[],_=>zk _
 |x::L,h=>by
  have:=YM λy a=>h y (zg _ a);have hx:0<x.length:=bo.mpr (h x ze);rw[zz,zC,Zp];omega
theorem SL.ll(h:SL L):L.length<60:=kC (YM h.ne) h.ln
theorem SL.apart{x:AZ}(h:SL (x::L)):∀y∈L,y≠x:=λy b e=>by
 have a:=h.nd;rw[zz]at a;have hx:=h.ne x ze;obtain⟨z,r,rfl⟩:=dV hx;exact(List.nodup_append.mp a).2.2 z ze z (bE.mpr ⟨y,b,e▸ze⟩) rfl
theorem SL.tl{x:AZ}(h:SL (x::L)):SL L:=⟨(List.nodup_append.mp (zz▸h.nd)).2.1,λy a=>h.ne y (zg _ a),by have:=h.ln;rw[zz,zC]at this;omega⟩
abbrev zJ:=AJ×AZ×AZ
def ug(a:Y (O AZ))(b:zJ):j9 (Y (O AZ)) Bool:=cV a b
def lD(a:Y (O AZ))(b:zJ):Y Prop:=Z (nu a b)
def zc(a:O zJ)(J b:O AZ):Prop:=nT ug lD a (Z J)/\jr ug a (Z J)=.nx (Z b)
theorem zc.nil(J:O AZ):zc [] J J:=⟨trivial,rfl⟩
theorem zc.cons{s:zJ}{b:O zJ}{J c a:O AZ}(d:hold (lD (Z J) s))(e:ug (Z J) s=.nx (Z c))(h:zc b c a):zc (s::b) J a:=by
 unfold zc nT jr;rw[e];exact⟨⟨d,h.1⟩,h.2⟩
theorem zc.app:∀{g c:O zJ} {J f b:O AZ},zc g J f->zc c f b->zc (g++c) J b
 |[],c,J,f,b,h1,h2=>by
  have:J=f:=by
   have:=h1.2;injection this with e;injection e
  rw[this];exact h2
 |s::g,c,J,f,b,h1,h2=>by
  obtain⟨d,e⟩:=h1;unfold nT at d;unfold jr at e;have h:∀K,ug (Z J) s=.nx (Z K)->zc (s::g++c) J b:=λK a=>by
   rw[a]at d e;exact zc.cons d.1 a (zc.app ⟨d.2,e⟩ h2)
  have hs:(∃K,ug (Z J) s=.nx (Z K))\/ug (Z J) s=.rt false:=by
   unfold ug cV;split
   ·exact .inr rfl
   ·dsimp only;split
    ·exact .inr rfl
    ·rename_i z;cases q:eE ((Z J).getD default) s with
     |none=>rw[q]at z;exact absurd S z
     |some K=>exact .inl ⟨K,rfl⟩
  rcases hs with⟨K,a⟩|a
  ·exact h K a
  ·rw[a]at e;cases e
theorem Nt{J:O AZ}{s:zJ}{K:O AZ}(a:s.1 ="join" ∨ s.1 ="split")(e:eE J s=Z K):ug (Z J) s=.nx (Z K):=by
 unfold ug cV;have c:¬ ((!(jg (fY s)))||((!decide ((3:Int)=3))||(!decide (s.1∈[("join":AJ),("split":AJ)]))))=true:=by
  have t:jg (fY s)=true:=rfl;have m:s.1∈[("join":AJ),("split":AJ)]:=by rcases a with h|h<;>rw[h]<;>simp
  rw[t,qA m];decide
 rw[zD c];dsimp only;rw[show eE ((Z J).getD default) s=Z K from e];rfl
theorem YQ{x:AZ}(h:∀y∈L,y≠x):(x::L).filter (λb:AZ=>(!decide (b=x)))=L:=by
 rw[KF (by simp)];exact cw.mpr λy a=>by simp[h y a]
theorem YS{x y:AZ}(hx:∀z∈L,z≠x)(b:∀z∈L,z≠y):(x::y::L).filter (λc:AZ=>(!jh c [x,y]))=L:=by
 rw[KF (by simp[jh]),KF (by simp[jh])];exact cw.mpr λz a=>by simp[jh,hx z a,b z a]
theorem Dr{x:AZ}(h:x≠[]):x.isEmpty=false:=by cases x with|nil=>exact absurd S h|cons _ _=>rfl
theorem S8{x:AZ}(h:x≠[]):aU x≠[]:=λe=>h (by have:=(bf x).length_eq;rw[e]at this;exact bj.mp this.symm)
theorem SL.mrg{x y:AZ}(h:SL (x::y::L)):SL (aU (x++y)::L):=h.of (by
 rw[zz,zz,zz,<-ZO];exact(bf _).symm.append_right _) λz a=>by
 rcases List.mem_cons.mp a with q|q
 ·rw[q];exact S8 λe=>h.ne x ze (List.append_eq_nil_iff.mp e).1
 ·exact h.ne z (zg _ (zg _ q))
theorem SL.two{x y:AZ}(h:SL (x::y::L)):(x++y).length<60:=by
 have:=h.ln;rw[zz,zz]at this;simp only[zC]at this ⊢;omega
theorem CL{x y:AZ}(h:SL (x::y::L)):hold (lD (Z (bH (x::y::L))) (("join":AJ),x,y))/\ug (Z (bH (x::y::L))) (("join":AJ),x,y)=.nx (Z (bH (aU (x++y)::L))):=by
 have i:x≠y:=λe=>h.apart y ze e.symm;have f:=λz a=>h.apart z (zg _ a);have j:=h.tl.apart;have pm:=dW (x::y::L);have c:((decide (("join":AJ)=("join":AJ)))&&((!decide (x=y))&&((jh x (bH (x::y::L)))&&(jh y (bH (x::y::L))))))=true:=by
  rw[qA rfl,ZZ i,Ci.mpr (pm.mem_iff.mpr ze),Ci.mpr (pm.mem_iff.mpr (zg _ ze))];rfl
 have b:((bH (x::y::L)).filter λd:AZ=>(!jh d [x,y])).Perm L:=by
  have:=pm.filter λd:AZ=>(!jh d [x,y]);rwa [YS f j]at this
 have g:=h.two;have ll:=h.ll;have lp:=pm.length_eq;have l:=b.length_eq;simp only[Zp]at ll lp;refine⟨λ_=>⟨rfl,?_⟩,Nt (.inl S) ?_⟩
 ·unfold jq;dsimp only[Option.getD];simp only[kB];refine⟨⟨gR (by rw[zC]at g;omega),by omega⟩,λ_=>⟨⟨by omega,gR (by rw[JS];omega)⟩,by rw[zC,JS];omega,λz a=>?_⟩,λz=>absurd (c.symm.trans z) ()⟩;rcases List.mem_append.mp a with q|q
  ·exact Dr (h.ne z (zg _ (zg _ (b.mem_iff.mp q))))
  ·rw[az.mp q];exact Dr (h.mrg.ne _ ze)
 ·unfold eE;dsimp only;rw[zl c,kB];exact congrArg Z (uN ((b.append_right _).trans (y0 _ _)))
theorem Vf{x y:AZ}(h:SL (x::y::L)):hold (lD (Z (bH (aU (x++y)::L))) (("split":AJ),x,y))/\ug (Z (bH (aU (x++y)::L))) (("split":AJ),x,y)=.nx (Z (bH (x::y::L))):=by
 have g:=h.mrg;have e:=g.apart;have hx:=h.ne x ze;have c:=h.ne y (zg _ ze);have pm:=dW (aU (x++y)::L);have c1:¬ ((decide (("split":AJ)=("join":AJ)))&&((!decide (x=y))&&((jh x (bH (aU (x++y)::L)))&&(jh y (bH (aU (x++y)::L))))))=true:=by
  rw[ZZ (by decide:¬ ("split":AJ)=("join":AJ))];exact Zl
 have c2:((decide (("split":AJ)=("split":AJ)))&&((jh (aU (x++y)) (bH (aU (x++y)::L)))&&((!decide (x=([]:AZ)))&&(!decide (y=([]:AZ))))))=true:=by
  rw[qA rfl,Ci.mpr (pm.mem_iff.mpr ze),ZZ hx,ZZ c];rfl
 have a:((bH (aU (x++y)::L)).filter λb:AZ=>(!decide (b=aU (x++y)))).Perm L:=by
  have:=pm.filter λb:AZ=>(!decide (b=aU (x++y)));rwa [YQ e]at this
 have f:=h.two;have ll:=h.ll;have lp:=pm.length_eq;have i:=a.length_eq;simp only[Zp]at ll lp;refine⟨λ_=>⟨rfl,?_⟩,Nt (.inr S) ?_⟩
 ·unfold jq;dsimp only[Option.getD];simp only[kB];refine⟨⟨gR (by rw[zC]at f;omega),by omega⟩,λz=>absurd z c1,λ_ _=>⟨⟨by omega,gR (by simp only[Zp,ye];omega)⟩,by simp only[zC,Zp,ye];omega,λz d=>?_⟩⟩;rcases List.mem_append.mp d with q|q
  ·exact Dr (h.ne z (zg _ (zg _ (a.mem_iff.mp q))))
  ·rcases List.mem_cons.mp q with w|w
   ·rw[w];exact Dr hx
   ·rw[az.mp w];exact Dr c
 ·unfold eE;dsimp only;rw[zD c1,zl c2,kB];exact congrArg Z (uN ((a.append_right _).trans KS))
def Vg:AZ->O AZ->O zJ
 |_,[]=>[]
 |w,o::r=>(("join":AJ),w,o)::Vg (aU (w++o)) r
def whl:AZ->O AZ->AZ
 |w,[]=>w
 |w,o::r=>whl (aU (w++o)) r
def D9(b:O zJ):O zJ:=b.reverse.map λa:zJ=>(("split":AJ),(a.2.1,a.2.2).1,(a.2.1,a.2.2).2)
theorem xU:∀(r:O AZ) (w:AZ),(Vg w r).length=r.length
 |[],_=>rfl
 |o::r,w=>by rw[Vg,Zp,xU r,Zp]
theorem QJ:∀(r:O AZ) {w:AZ},aU w=w->whl w r=aU (w++r.flatten)
 |[],w,h=>by rw[whl,List.flatten_nil,QE,h]
 |o::r,w,h=>by
  rw[whl,QJ r (xT (bf _)),zz,<-ZO];exact xT ((bf _).append_right _)
theorem Du:∀(r:O AZ) (w:AZ) (R:O AZ),SL (w::(r++R))->zc (Vg w r) (bH (w::(r++R))) (bH (whl w r::R))
 |[],w,R,h=>zc.nil _
 |o::r,w,R,h=>by
  obtain⟨d,e⟩:=CL h;exact zc.cons d e (Du r _ R h.mrg)
theorem YT(s:zJ)(a:O zJ):D9 (s::a)=D9 a++[(("split":AJ),s.2.1,s.2.2)]:=by
 unfold D9;rw[KM,ZH];rfl
theorem zf:∀(r:O AZ) (w:AZ) (R:O AZ),SL (w::(r++R))->zc (D9 (Vg w r)) (bH (whl w r::R)) (bH (w::(r++R)))
 |[],w,R,h=>zc.nil _
 |o::r,w,R,h=>by
  obtain⟨d,e⟩:=Vf h;rw[Vg,YT];exact(zf r _ R h.mrg).app (zc.cons d e (zc.nil _))
theorem QK{o p:AZ}{r q R:O AZ}(a:aU o=o)(hp:aU p=p)(h1:SL (o::(r++R)))(h2:SL (p::(q++R)))(e:(o::r).flatten.Perm (p::q).flatten):zc (Vg o r++D9 (Vg p q)) (bH (o::(r++R))) (bH (p::(q++R))):=by
 refine(Du r o R h1).app ?_;have:whl o r=whl p q:=by rw[QJ r a,QJ q hp];exact xT e
 rw[this];exact zf q p R h2
theorem yH{p:AZ->Bool}:∀L:O AZ,(L.filter p).flatten.Sublist L.flatten
 |[]=>List.Sublist.refl _
 |x::L=>by
  rw[K0,zz];split
  ·rw[zz];exact(yH L).append_left x
  ·exact(yH L).trans (List.sublist_append_right ..)
structure PN (N:AZ):Prop where
 nd:N.Nodup
 ln:N.length<=30
 so:aU N=N
structure PJ (N:AZ) (A:List AZ):Prop where
 W:Wd N A
 pm:A.flatten.Perm N
section
variable{A B:O AZ}
theorem PJ.sl(n:PN N)(a:PJ N A):SL A:=⟨a.W.nd,a.W.ne,by rw[a.pm.length_eq];have:=n.ln;omega⟩
theorem PJ.nd(a:PJ N A):A.Nodup:=Ms a.W.nd a.W.ne
theorem PJ.so(a:PJ N A){c:AZ}(h:c∈A):aU c=c:=wN (bf c) (gk c) (a.W.so c h)
theorem PJ.tt(a:PJ N A):bH A=A:=(G7 (kq A) a.W.st).symm
theorem PJ.in_(a:PJ N A){c:AZ}(h:c∈A)(hx:x∈c):x∈N:=a.pm.mem_iff.mp (bE.mpr ⟨c,h,hx⟩)
theorem PJ.c0(a:PJ N A){c:AZ}(h:c∈A):at' c 0∈c/\at' c 0∈N:=⟨(EI (a.W.ne c h)).2,a.in_ h (EI (a.W.ne c h)).2⟩
theorem PJ.cls(a:PJ N A)(b:PJ N B):Cc N (A++B):=⟨λc d=>(List.mem_append.mp d).elim (a.W.ne c) (b.W.ne c),λc d x hx=>(List.mem_append.mp d).elim (λh=>a.in_ h hx) λh=>b.in_ h hx⟩
theorem PJ.kn(a:PJ N A)(b:PJ N B):∀c∈A++B,c.Nodup:=λc d=>(List.mem_append.mp d).elim (Cz a.W.nd) (Cz b.W.nd)
theorem uh(n:PN N)(a:PJ N A):iR A/\fH A=N:=by
 have e:(A.flatMap λvs:AZ=>(vs.map λb:AJ=>b))=A.flatten:=by
  rw[hE];simp only[kB]
 unfold iR fH;rw[e,a.pm.length_eq];have:=n.ln;exact⟨⟨⟨λ_ _ _ _=>trivial,by omega⟩,by omega⟩,(xT a.pm).trans n.so⟩
theorem Vh(n:PN N)(a:PJ N A)(b:PJ N B):d8 A B:=by
 obtain⟨c,e1⟩:=uh n a;obtain⟨d2,e2⟩:=uh n b;have s:Cq N N=true:=by
  unfold Cq;simp only[qo,ja,QO];exact⟨⟨⟨λ_ h=>h,λ_ h=>h⟩,n.ln⟩,n.ln⟩
 have z0:aU (pR ([]:AZ))=[]:=bj.mp (bf (pR ([]:AZ))).length_eq;refine⟨⟨⟨c,d2,by rw[e1,e2];exact s⟩,by decide,by decide⟩,λz=>?_⟩;rw[z0]at z;cases z
theorem PC(h:Hd N m):dj m=(nC N m).map λz=>N.filter λy=>decide (look m y=z):=by
 unfold dj nC;rw[h.keys];refine qq λz _=>?_;unfold jM;rw[h.keys];exact kB _
theorem MH(a:PJ N A)(v:AJ):((A.filter λvs:AZ=>(decide ((at' vs 0)∈N.filter λy=>decide (look m y=v)))).map λvs:AZ=>vs)=jt m A v:=by
 rw[kB];refine List.filter_congr λc b=>?_;refine decide_eq_decide.mpr ?_;rw[bb,QO];exact⟨λh=>h.2,λh=>⟨(a.c0 b).2,h⟩⟩
theorem Vi(n:PN N)(a:PJ N A)(b:PJ N B):j8 A B/\∃m,HC N (A++B) m/\iU A B=(nC N m).map λv=>(gB ((jt m A v).length:Int) ((jt m B v).length:Int),jt m A v,jt m B v):=by
 have g:=n.ln;obtain⟨f,e1⟩:=uh n a;obtain⟨d2,d⟩:=Ve (a.cls b) n.nd ();have j:=(a.sl n).ll;have h:=(b.sl n).ll;unfold j8 iU;dsimp only;rw[e1];generalize (A++B).foldl _ (dh N)=m at d ⊢;obtain⟨e,i⟩:=Of d.hd;have fl:(nC N m).length<=N.length:=jI ..;refine⟨⟨Vh n a b,⟨f,(SX N n.nd ()).1⟩,⟨gR (),d2⟩,⟨e,by omega⟩,λS _=>⟨⟨by omega,λc d=>(EI (a.W.ne c d)).1⟩,by omega,λc d=>(EI (b.W.ne c d)).1⟩⟩,m,d,?_⟩;rw[PC d.hd,ZT];refine qq λv _=>?_;show nj A B (N.filter λy=>decide (look m y=v))=_;unfold nj;dsimp only;rw[MH a,MH b]
theorem JN(h:HC N (A++B) m)(a:PJ N A){v:AJ}:y∈(jt m A v).flatten↔y∈N/\look m y=v:=by
 rw[bE];constructor
 ·rintro⟨c,b,d⟩;obtain⟨h1,h2⟩:=bb.mp b;exact⟨a.in_ h1 d,(h.one c (QU _ h1) y d _ (a.c0 h1).1).trans (qa h2)⟩
 ·rintro⟨d,e⟩;obtain⟨c,b,f⟩:=bE.mp (a.pm.mem_iff.mpr d);exact⟨c,bb.mpr ⟨b,qA ((h.one c (QU _ b) _ (a.c0 b).1 y f).trans e)⟩,f⟩
theorem Nu(h:HC N (A++B) m)(a:PJ N A){v:AJ}(d:v∈nC N m):∃o r,jt m A v=o::r:=by
 obtain⟨h1,h2⟩:=bb.mp d;obtain⟨c,b,_⟩:=bE.mp ((JN h a).mpr ⟨h1,qa h2⟩);exact dV (List.ne_nil_of_mem b)
theorem YW(h:HC N (A++B) m)(a:PJ N A)(b:PJ N B)(v:AJ):(jt m A v).flatten.Perm (jt m B v).flatten:=by
 have d:HC N (B++A) m:=h.mem λc=>by rw[jv,jv,or_comm]
 exact vJ (a.W.nd.sublist (yH _)) (b.W.nd.sublist (yH _)) λy=>(JN h a).trans (JN d b).symm
theorem Dv:∀(r:O AZ) (w:AZ) (a:O zJ),(w::r).flatten.length<60->a.length+r.length<=1000 →
  jX (λ(b:(O zJ)×AZ) (vs:AZ)=>(iz b vs)) (λ(b:(O zJ)×AZ) (vs:AZ)=>Z (oW b vs)) r (a,w)/\(r.foldl (λ(b:(O zJ)×AZ) (vs:AZ)=>(iz b vs)) (a,w)).1=a++Vg w r
 |[],w,a,_,_=>⟨trivial,(QE _).symm⟩
 |o::r,w,a,h,k=>by
  rw[Zp]at k;have c:(w++o).length<60:=by
   rw[zz,zz]at h;simp only[zC]at h ⊢;omega
  have hp:((aU (w++o))::r).flatten.length<60:=by
   rw[zz,zz]at h;rw[zz];simp only[zC]at h ⊢;rw[(bf _).length_eq,zC];omega
  obtain⟨d,e⟩:=Dv r (aU (w++o)) (a++[(("join":AJ),w,o)]) hp (by rw[zC,JS];omega);refine⟨⟨⟨gR (by show a.length<=_;omega),gR (by show w.length+o.length<=_;rw[zC]at c;omega),by show(w++o).length<64;omega⟩,d⟩,?_⟩;rw[Qb];refine Eq.trans e ?_;rw[Vg,ZO];rfl
theorem a8(a:α)(r:O α):CU (a::r) (Z 1) U=r:=by
 rw[show(1:Int)=((1:Nat):Int) from rfl,Yk (by simp)];rfl
theorem Nv{o:AZ}{r:O AZ}(h:(o::r).flatten.length<60)(k:r.length<=60):gC (o::r)/\cH (o::r)=Vg o r:=by
 obtain⟨d,e⟩:=Dv r o [] h (by simp;omega);unfold gC cH;dsimp only;have z:at' (o::r) (0:Int)=o:=Qf (k:=0) rfl;rw[a8,z];exact⟨⟨⟨by simp only[Zp];omega,by simp only[Zp];omega⟩,d⟩,e⟩
def QL(m:O (AJ×AJ))(A B:O AZ)(v:AJ):O zJ:=cH (jt m A v)++D9 (cH (jt m B v))
theorem So(a:O zJ):(D9 a).length=a.length:=by unfold D9;rw[zi,ym]
structure Gr (m:List (Str×Str)) (A B:List AZ) (v:Str):Prop where
 ex:∃o r p q,jt m A v=o::r/\jt m B v=p::q/\gC (o::r)/\gC (p::q)/\cH (o::r)=Vg o r/\cH (p::q)=Vg p q/\r.length<60/\q.length<60
theorem S9(n:PN N)(h:HC N (A++B) m)(a:PJ N A)(b:PJ N B){v:AJ}(d:v∈nC N m):Gr m A B v:=by
 have e:HC N (B++A) m:=h.mem λc=>by rw[jv,jv,or_comm]
 obtain⟨o,r,e1⟩:=Nu h a d;obtain⟨p,q,e2⟩:=Nu e b d;have j:=(a.sl n).ln;have g:=(b.sl n).ln;have l:=(a.sl n).ll;have i:=(b.sl n).ll;have f1:(o::r).flatten.length<=A.flatten.length:=by rw[<-e1];exact(yH _).length_le
 have f2:(p::q).flatten.length<=B.flatten.length:=by rw[<-e2];exact(yH _).length_le
 have g1:(o::r).length<=A.length:=by rw[<-e1];exact jI ..
 have g2:(p::q).length<=B.length:=by rw[<-e2];exact jI ..
 rw[Zp]at g1 g2;obtain⟨f,t1⟩:=Nv (o:=o) (r:=r) () ();obtain⟨d2,t2⟩:=Nv (o:=p) (r:=q) () ();exact⟨o,r,p,q,e1,e2,f,d2,t1,t2,by omega,by omega⟩
theorem Tc{v:AJ}(g:Gr m A B v):(QL m A B v).length+2=(jt m A v).length+(jt m B v).length:=by
 obtain⟨o,r,p,q,e1,e2,b,d2,t1,t2,c,a⟩:=g.ex;unfold QL;rw[e1,e2,t1,t2,zC,So,xU,xU];simp only[Zp];omega
theorem Nx{f g1 g2:AJ->Nat}:∀(V:AZ),(∀v∈V,f v+2=g1 v+g2 v)->(V.map f).sum+2*V.length=(V.map g1).sum+(V.map g2).sum
 |[],_=>rfl
 |v::V,h=>by
  have:=Nx V λw a=>h w (zg _ a);have:=h v ze;simp only[zo,fF,Zp];omega
theorem Dw:∀(V:AZ) (a:O zJ),(∀v∈V,Gr m A B v)->a.length+120*V.length<=10000 →
  jX (λ(b:O zJ) (q1:AJ×(O AZ)×(O AZ))=>(cu b q1)) (λ(b:O zJ) (q1:AJ×(O AZ)×(O AZ))=>Z (dI b q1)) (V.map λv=>(gB ((jt m A v).length:Int) ((jt m B v).length:Int),jt m A v,jt m B v)) a/\(V.map λv=>(gB ((jt m A v).length:Int) ((jt m B v).length:Int),jt m A v,jt m B v)).foldl (λ(b:O zJ) (q1:AJ×(O AZ)×(O AZ))=>(cu b q1)) a=a++V.flatMap (QL m A B)
 |[],a,_,_=>⟨trivial,(QE _).symm⟩
 |v::V,a,h,k=>by
  have g:=h v ze;obtain⟨o,r,p,q,e1,e2,f,d2,t1,t2,s,l⟩:=g.ex;rw[Zp]at k;have es:cu a (gB ((jt m A v).length:Int) ((jt m B v).length:Int),jt m A v,jt m B v)=a++QL m A B v:=by
   unfold QL;rw[<-ZO];rfl
  have n:(QL m A B v).length<=120:=by
   have:=Tc g;rw[e1,e2]at this;simp only[Zp]at this;omega
  obtain⟨d,e⟩:=Dw V (a++QL m A B v) (λw c=>h w (zg _ c)) (by rw[zC];omega);rw[zo,Qb,es];refine⟨⟨?_,by show jX _ _ _ (cu a (gB ((jt m A v).length:Int) ((jt m B v).length:Int),jt m A v,jt m B v));rw[es];exact d⟩,by rw[e,j0,ZO]⟩;show dI a (_,jt m A v,jt m B v);unfold dI;dsimp only;rw[e1,e2,t1,t2];have j:=xU r o;have i:=xU q p;refine⟨⟨f,gR ()⟩,⟨d2,by rw[ym];omega⟩,gR ?_⟩;rw[zC,zi,ym];omega
theorem Dy(n:PN N)(a:PJ N A)(b:PJ N B):cg A B/\∃m,HC N (A++B) m/\aQ A B=(nC N m).flatMap (QL m A B):=by
 obtain⟨d,m,h,e⟩:=Vi n a b;have fl:(nC N m).length<=N.length:=jI ..;have f:=n.ln;obtain⟨d2,e2⟩:=Dw (m:=m) (A:=A) (B:=B) (nC N m) [] (λv c=>S9 n h a b c) (by rw[ye];omega);unfold cg aQ;dsimp only;rw[e];exact⟨⟨d,d2⟩,m,h,e2⟩
theorem Nc(h:Hd N m):(nC N m).Nodup:=h.nd.sublist ko
theorem z9(h:HC N (A++B) m)(a:PJ N A):((nC N m).flatMap (jt m A)).Perm A:=YK (Nc h.hd) a.nd λc b=>Nr h.hd (a.c0 b).2
theorem Ho(n:PN N)(h:HC N (A++B) m)(a:PJ N A)(b:PJ N B):((nC N m).flatMap (QL m A B)).length+2*(nC N m).length=A.length+B.length:=by
 have e:HC N (B++A) m:=h.mem λc=>by rw[jv,jv,or_comm]
 have k:=Nx (f:=λv=>(QL m A B v).length) (g1:=λv=>(jt m A v).length) (g2:=λv=>(jt m B v).length) (nC N m) λv d=>Tc (S9 n h a b d);have p1:=(z9 h a).length_eq;have p2:=(z9 e b).length_eq;rw[List.length_flatMap]at p1 p2 ⊢;omega
theorem Td(n:PN N)(h:HC N (A++B) m)(a:PJ N A)(b:PJ N B):∀(V:AZ) (R:O AZ),(∀v∈V,v∈nC N m)->SL (V.flatMap (jt m A)++R)->zc (V.flatMap (QL m A B)) (bH (V.flatMap (jt m A)++R)) (bH (V.flatMap (jt m B)++R))
 |[],R,_,_=>zc.nil _
 |v::V,R,hV,s=>by
  have e:=hV v ze;obtain⟨o,r,p,q,e1,e2,l,d2,t1,t2,t,j⟩:=(S9 n h a b e).ex;have fl:=YW h a b v;rw[j0,j0,j0];rw[j0,ZO]at s;have c:SL (jt m B v++(V.flatMap (jt m A)++R)):=s.of (by
   simp only[Kb];exact fl.append_right _) λx hx=>by
   rcases List.mem_append.mp hx with z|z
   ·exact b.W.ne x (bb.mp z).1
   ·exact s.ne x (ZA _ z)
  have i:o∈A:=(bb.mp (show o∈jt m A v by rw[e1];exact ze)).1;have g:p∈B:=(bb.mp (show p∈jt m B v by rw[e2];exact ze)).1;have p1:(jt m B v++(V.flatMap (jt m A)++R)).Perm (V.flatMap (jt m A)++(jt m B v++R)):=by
   rw[<-ZO,<-ZO];exact List.perm_append_comm.append_right _
  have p2:(V.flatMap (jt m B)++(jt m B v++R)).Perm (jt m B v++V.flatMap (jt m B)++R):=by
   rw[<-ZO];exact List.perm_append_comm.append_right _
  have d:=Td n h a b V (jt m B v++R) (λw f=>hV w (zg _ f)) (c.perm p1);rw[uN p2,<-uN p1]at d;refine zc.app ?_ d;rw[ZO];unfold QL;rw[e1]at s fl;rw[e2]at c fl;rw[e1,e2,t1,t2];exact QK (a.so i) (b.so g) s c fl
theorem Ny(n:PN N)(h:HC N (A++B) m)(a:PJ N A)(b:PJ N B):zc ((nC N m).flatMap (QL m A B)) A B:=by
 have e:HC N (B++A) m:=h.mem λc=>by rw[jv,jv,or_comm]
 have pa:=z9 h a;have pb:=z9 e b;have:=Td n h a b (nC N m) [] (λ_ d=>d) (by rw[QE];exact(a.sl n).perm pa.symm);rw[QE,QE,uN pa,uN pb,a.tt,b.tt]at this;exact this
theorem Vj(n:PN N)(h:HC N (A++A) m)(a:PJ N A):(nC N m).flatMap (QL m A A)=[]:=by
 refine List.flatMap_eq_nil_iff.mpr λv g=>?_;obtain⟨o,r,p,q,e1,e2,t,d2,t1,t2,u,s⟩:=(S9 n h a a g).ex;have:r=[]:=by
  cases r with
  |nil=>rfl
  |cons o' l=>
   have b:=bb.mp (show o∈jt m A v by rw[e1];exact ze);have m2:=bb.mp (show o'∈jt m A v by rw[e1];exact zg _ ze);have c1:=a.c0 b.1;have c2:=a.c0 m2.1;have e:look m (at' o 0)=look m (at' o' 0):=(qa b.2).trans (qa m2.2).symm;have i:at' o' (0:Int)∈o:=h.least (λz=>z∈o) (λc d x hx y f px=>by
    have d:c∈A:=(List.mem_append.mp d).elim id id;rw[Js a.W.nd b.1 d px hx];exact f) _ c1.2 _ c2.2 e c1.1
   have j:=Js a.W.nd b.1 m2.1 i c2.1;have nd:=a.nd.sublist (ko (p:=λc=>decide (look m (at' c 0)=v)));have nd:(jt m A v).Nodup:=nd;rw[e1,j]at nd;exact absurd ze (bc.mp nd).1
 subst this;unfold QL;rw[e1,t1];rfl
end
theorem BY{α:Type}(c:Array α):∀(n:Nat) (a:Array α),((ay n c).foldl (·++·) a).size=a.size+n*c.size
 |0,a=>by simp
 |n+1,a=>by
  rw[fN,Qb,BY c n,k6,gc];omega
theorem Ij(x:AJ)(k:Int):(Txt.mul x k).length<=x.length*k.toNat:=by
 unfold Txt.mul;split
 ·exact qh _
 split
 ·rename_i a h;simp only[eQ,beq_iff_eq]at h;rcases h with h|h
  ·subst h;simp
  ·rw[h];simp
 ·show(Array.size _)<=_;rw[BY];have:x.cps.size=x.length:=rfl;rw[this,gd];simp
def LT:AJ:=("abcdefghijklmnopqrstuvwxyz":AJ)
theorem QM:LT.length=26:=by decide +kernel
theorem QS(h:n<=1000):zV n:=Zs h ()
theorem QT(xs:O Int)(i:6<=xs.length)(b:AJ)(hs:b.length<=5)(at_:Int)(k:Nat)(a:AZ)(hk:k<200)(h:a.length=k/\∀n∈a,n.length<=12):jj xs LT b at_ a k/\(dG xs LT b at_ a k).length=k+1/\∀n∈dG xs LT b at_ a k,n.length<=12:=by
 have g:=Zs (slice_le b U (Z at_)) hs;have j:=Zs (slice_le b (Z at_) U) hs;have c1:=Cj LT ((↑k+at' xs 2)%15);have l:=xu (k:Int) (m:=8) ();have e:(0:Int)<=(k:Int) / 8/\(k:Int) / 8<26:=by omega
 refine⟨⟨⟨BF () (),Qg () (by rw[QM];decide)⟩,⟨QS (),QS (by rw[tD];omega)⟩,⟨BF () (),λ_=>⟨BF e.1 (by rw[QM];exact e.2),by omega,by omega,by rw[Cj];decide⟩⟩,QS ()⟩,?_⟩;have d:∀n:AJ,n.length<=12->(a++[n]).length=k+1/\∀m∈a++[n],m.length<=12:=λn f=>⟨by simp[h.1],λm c=>by
  rcases List.mem_append.mp c with c|c
  ·exact h.2 m c
  ·cases az.mp c;exact f⟩
 unfold dG;dsimp only;split
 ·exact d _ (by have:=Ij (ch LT ((k:Int) / 8)) (1+(k:Int)%8);rw[Cj]at this;exact Zs this ())
 ·exact d _ (by rw[tD,tD,c1];omega)
theorem U2(xs:AZ)(n:Nat)(h:∀x∈xs,x.length<=n):(Txt.join "" xs).length<=xs.length*n:=by
 have h1:=StrLaws.join_length_le ("":AJ) xs;rw[<-StrLaws.glued_eq_join]at h1;have h2:(xs.map (·.length)).sum<=xs.length*n:=by
  clear h1
  induction xs with
  |nil=>simp
  |cons a l b=>
   have:=b λx hx=>h x (zg _ hx);have:=h a (ze ..);simp only[zo,fF,Zp,gc];omega
 have c:("":AJ).length=0:=rfl;rw[c,Nat.mul_zero]at h1;exact Zs h1 ()
theorem UO(xs:AZ)(h:∀x∈xs,x.length=1):(xs.map (·.length)).sum=xs.length:=by
 induction xs with
 |nil=>rfl
 |cons a l b=>
  have:=b λx hx=>h x (zg _ hx);have:=h a (ze ..);simp only[zo,fF,Zp];omega
theorem YX(xs:O Int)(d:6<=xs.length)(a:Int)(i:0<=a)(h1:a<=200):oJ xs a/\(dw xs a).length=a.toNat/\∀n∈dw xs a,n.length<=12:=by
 have e:=xu (at' xs 0) (m:=6) ();have st:∀b:AJ,b.length<=5->m7 xs a LT b/\(jk xs a LT b).length=a.toNat/\∀n∈jk xs a LT b,n.length<=12:=λb hs=>by
  have:=LC (P:=λf k=>Z (jj xs LT b (at' xs 1%((b.length:Int)+1)) f k)) (step:=λf k=>dG xs LT b (at' xs 1%((b.length:Int)+1)) f k) (λk s=>s.length=k/\∀n∈s,n.length<=12) a.toNat [] ⟨rfl,λn h=>(by cases h)⟩ λk s hk h=>QT xs d b hs _ k s () h;exact⟨⟨⟨BF () (),by omega⟩,LQ i (),this.1⟩,this.2⟩
 have c1:∀x∈((rng 0 (at' xs 0%6).toNat).map λc:Int=>ch LT (at' xs c / 40%26)),x.length=1:=λx hx=>by
  obtain⟨k,_,rfl⟩:=ax.mp hx;exact Cj _ _
 have:=st (Txt.join "" ((rng 0 (at' xs 0%6).toNat).map λc:Int=>ch LT (at' xs c / 40%26))) (by
  have:=U2 _ 1 λx hx=>ew (c1 x hx);rw[zi,nW]at this;omega)
 refine⟨⟨⟨⟨⟨⟨BF () (),LQ e.1 ()⟩,by rw[nW];omega⟩,λk hk=>?_⟩,?_⟩,this.1⟩,this.2⟩
 ·obtain⟨j,l,rfl⟩:=z8 hk;exact⟨BF () (),Qg () (by rw[show("abcdefghijklmnopqrstuvwxyz":AJ)=LT from rfl,QM];decide)⟩
 ·rw[show("abcdefghijklmnopqrstuvwxyz":AJ)=LT from rfl,UO _ c1,zi,nW];have g:("":AJ).length=0:=rfl;rw[g];omega
def EZ(xs:O Int)(a:AJ)(at_:Int)(k:Int):AJ:=if(decide (((at' xs 3)%3)=1))=true then(Txt.mul (ch LT (k / (8:Int))) (1+(k%8)))else(((Txt.slice a U (Z at_))++(ch LT ((k+(at' xs 2))%15)))++(Txt.slice a (Z at_) U))
theorem Dz{α β:Type}(g:β->α):∀(l:O β) (f:O α),l.foldl (λf k=>f++[g k]) f=f++l.map g
 |[],f=>by simp
 |k::l,f=>by rw[Qb,Dz g l];simp
theorem YZ(xs:O Int)(a:Int):∃b at_,dw xs a=(rng 0 a.toNat).map (EZ xs b at_):=by
 refine⟨_,_,(Dz (EZ xs _ _) _ []).trans (eP _)⟩
theorem QW{a b m c:AJ}(h:(a++m)++b=(a++c)++b):m=c:=by
 have h:=congrArg (λs:AJ=>s.cps.toList) h;have h:((a.cps++m.cps)++b.cps).toList=((a.cps++c.cps)++b.cps).toList:=h;simp only[Array.toList_append]at h;have:=List.append_cancel_left (List.append_cancel_right h);cases m;cases c;congr 1;exact Array.ext' this
theorem a6:∀i:Fin 30,∀j:Fin 30,Txt.mul (ch LT ((i.val:Int) / 8)) (1+(i.val:Int)%8)=Txt.mul (ch LT ((j.val:Int) / 8)) (1+(j.val:Int)%8)->i=j:=by decide +kernel
theorem OT:∀i:Fin 15,∀j:Fin 15,ch LT (i.val:Int)=ch LT (j.val:Int)->i=j:=by decide +kernel
theorem Sf{x y:Int}(hx:0<=x/\x<15)(a:0<=y/\y<15)(h:ch LT x=ch LT y):x=y:=by
 have:=OT ⟨x.toNat,by omega⟩ ⟨y.toNat,by omega⟩ (by
  show ch LT ((x.toNat:Nat):Int)=ch LT ((y.toNat:Nat):Int);rw[fO hx.1,fO a.1];exact h)
 have:=congrArg Fin.val this;have:x.toNat=y.toNat:=this;omega
theorem Wl{xs:O Int}{a:AJ}{at_:Int}(hi:i<15)(b:j<15)(h:EZ xs a at_ i=EZ xs a at_ j):i=j:=by
 unfold EZ at h;by_cases e:(decide (((at' xs 3)%3)=1))=true
 ·rw[zl e,zl e]at h;exact congrArg Fin.val (a6 ⟨i,by omega⟩ ⟨j,by omega⟩ h)
 ·rw[zD e,zD e]at h;have:=Sf (xu _ ()) (xu _ ()) (QW h);omega
theorem Yu{g:Int->AJ}(h:∀i j:Nat,i<n->j<n->g i=g j->i=j):((rng 0 n).map g).Nodup:=by
 unfold rng;rw[ZT];unfold List.Nodup;rw[cm];refine YN ?_ (eJ (n:=n));intro a b c f d e;refine d (h a b (bz.mp c) (bz.mp f) ?_);have e:g (0+(a:Int))=g (0+(b:Int)):=e;rwa [gf,gf]at e
theorem Y0(xs:O Int)(a:Int)(h:a<=15):(dw xs a).Nodup:=by
 obtain⟨c,at_,e⟩:=YZ xs a;rw[e];exact Yu λi j hi b=>Wl () ()
theorem ahk(p:α->Bool)(l:O α):(l.filter p).length<=l.length:=jI p l
theorem UQ[Inhabited α](xs:O α):(rng 0 (xs.length:Int).toNat).map (λk:Int=>at' xs k)=xs:=by
 refine y9 λk=>?_;rw[zS];by_cases h:k<xs.length
 ·have h1:(rng 0 (xs.length:Int).toNat)[k]?=Z (k:Int):=by
   unfold rng;rw[zS,yn ()];simp
  rw[h1,eK,OV xs k h,zr h]
 ·rw[qi (by rw[nW];omega),qi ()];rfl
theorem QX(n_:AZ)(xs:O Int)(nd:n_.Nodup)(j:n_.length<60)(l:0<xs.length)(h1:xs.length<=1000):cR n_ xs/\Wd n_ (bC n_ xs)/\(bC n_ xs).flatten.Perm n_:=by
 have hx:(0:Int)<(xs.length:Int):=by omega
 have pos:(0:Int)<(if(n_.length:Int)>1 then(n_.length:Int)else 1):=by split<;>omega
 unfold bC cR;dsimp only;have G:=UY (λb:Int=>if(decide ((0:Int)<((at' xs 0)%3)))=true then((((at' xs (b%(xs.length:Int))) / (1+(b / (xs.length:Int))))%(if(n_.length:Int)>1 then(n_.length:Int)else 1))%3)else(((at' xs (b%(xs.length:Int))) / (1+(b / (xs.length:Int))))%(if(n_.length:Int)>1 then(n_.length:Int)else 1))) (λb:Int=>at' n_ b) (rng 0 (n_.length:Int).toNat);rw[UQ]at G;generalize Mg _ _ _=m at G;have W:=N4 G nd λx h=>h;have ahk:∀(w:O AZ),(∀s∈w,s≠[])->w.length<=w.flatten.length:=λw=>by
  induction w with
  |nil=>intro _;exact qh _
  |cons s w c=>
   intro h;have:=c λs hs=>h s (zg _ hs);have:=bo.mpr (h s (ze ..));rw[zz,zC,Zp];omega
 have ml:m.length<=n_.length:=by
  have:=ahk (m.map (·.2)) λs hs=>by obtain⟨q,a,rfl⟩:=ax.mp hs;exact G.ne q a
  rw[zi,G.p.length_eq]at this;exact this
 have g:∀q∈m,q.2.length<=n_.length:=λq a=>by
  rw[<-G.p.length_eq];obtain⟨i,AS,e⟩:=dB (ax.mpr ⟨q,a,rfl⟩:q.2∈m.map (·.2));rw[e,Kb,zz];simp only[zC];omega
 refine⟨⟨⟨⟨⟨rfl,LQ () ()⟩,by rw[nW];omega⟩,λv f=>?_⟩,⟨by rw[zi];omega,λk hk=>?_⟩,by rw[zi,zi];omega,λs hs=>?_⟩,W.1,W.2⟩
 ·obtain⟨k,hk,rfl⟩:=z8 f;have d0:(0:Int)<=(k:Int) / (xs.length:Int):=Int.ediv_nonneg () ();have n:(k:Int) / (xs.length:Int)<=k:=Int.ediv_le_self _ ();exact⟨⟨⟨⟨⟨hx,Qg hx ()⟩,hx,by omega⟩,by omega,by omega⟩,pos⟩,BF () hx,Jk ()⟩
 ·obtain⟨q,a,rfl⟩:=ax.mp hk;refine⟨List.any_eq_true.mpr ⟨q,a,by simp⟩,?_⟩;rw[CG G.k a];have:=g q a;omega
 ·obtain⟨k,hk,rfl⟩:=ax.mp hs;obtain⟨q,a,rfl⟩:=ax.mp hk;rw[CG G.k a];have:=G.ne q a;have hp:=(bf q.2).length_eq;cases d:aU q.2 with
  |nil=>rw[d]at hp;exact absurd (bj.mp hp.symm) this
  |cons _ _=>rfl
theorem yI:∀{L:O AZ} {k:Nat} {x y:AZ},L[k]?=Z x->((L.set k y).flatten++x).Perm (L.flatten++y)
 |[],_,_,_,h=>by simp at h
 |z::L,0,x,y,h=>by
  cases h;rw[gh,zz,zz];refine(KS).trans ?_;rw[ZO];exact List.Perm.append_left z KS
 |z::L,k+1,x,y,h=>by
  rw[gi,zz,zz,ZO,ZO];exact(yI (L:=L) (k:=k) (by simpa using h)).append_left z
theorem DG:∀(l:AZ) (k:Nat) (h:k<l.length),(l[k]::l.eraseIdx k).Perm l
 |x::l,0,_=>kq _
 |x::l,k+1,h=>by
  rw[KG];exact(List.Perm.swap x _ _).trans ((DG l k (by simpa using h)).cons x)
theorem Y4{k:Nat}{x:AZ}(hk:L[k]?=Z x)(a:j<x.length):(x.getD j ""::(Jq L k j).flatten).Perm L.flatten:=by
 unfold Jq;rw[xH,getD_some hk,getD_some (zr a)];have p:=yI (y:=x.eraseIdx j) hk;have q:(x[j]::x.eraseIdx j).Perm x:=DG x j a;have:((x[j]::(L.set k (x.eraseIdx j)).flatten)++x.eraseIdx j).Perm (L.flatten++x.eraseIdx j):=by
  refine List.Perm.trans ?_ p;rw[List.cons_append];exact List.perm_middle.symm.trans (q.append_left _)
 exact(ef _).mp this
theorem Y5{x:Int}{nm:AJ}:(BS L x nm).flatten.Perm (nm::L.flatten):=by
 unfold BS;split
 ·rw[Kb];exact y0 nm L.flatten
 ·rename_i q;have a:L≠[]:=λz=>q (by simp[z]);have hk:kj (x / 512) L.length<L.length:=qu (bo.mpr a);have e:L[kj (x / 512) L.length]?=Z L[kj (x / 512) L.length]:=zr hk;rw[getD_some e];have p:=yI (y:=L[kj (x / 512) L.length]++[nm]) e;refine(ef L[kj (x / 512) L.length]).mp (p.trans ?_);rw[<-ZO];exact(y0 nm _)
theorem Vk(g:GN L)(x:Int):(jZ L x).flatten.Perm L.flatten:=by
 unfold jZ;split
 ·exact kq _
 ·rename_i a;have e:=Cy (x:=x) a;have hp:Cu L x≠[]:=g.ne _ (ZE e);exact Y5.trans (Y4 e (qu (bo.mpr hp)))
theorem Hq:∀(zs:O Int) {L:O AZ},GN L->(zs.foldl jZ L).flatten.Perm L.flatten
 |[],_,_=>kq _
 |z::zs,_,g=>(Hq zs (g.step z).1).trans (Vk g z)
theorem We{A:O AZ}(n:PN N)(a:PJ N A){xs:O Int}(hx:7<xs.length):ni A xs/\PJ N (m9 A xs):=by
 have e:=a.pm.length_eq;have d:=n.ln;have g:GN A:=⟨a.W.ne,by omega⟩;have p:=Hq (vI xs) g;have g2:=GN.fold (vI xs) g;refine⟨⟨a.W.ne,by omega,Jk (k:=7) hx⟩,?_⟩;show PJ N (Hi A xs);unfold Hi;generalize (vI xs).foldl jZ A=L at p g2;have b:(bH (L.map aU)).flatten.Perm N:=(uH (dW _)).trans (vK.trans (p.trans a.pm));refine⟨⟨λs hs=>?_,λs hs=>?_,b.nodup_iff.mpr n.nd,λx hx=>b.mem_iff.mp hx,jY _⟩,b⟩
 ·obtain⟨z,c,rfl⟩:=ax.mp ((dW _).mem_iff.mp hs);exact S8 (g2.ne z c)
 ·obtain⟨z,c,rfl⟩:=ax.mp ((dW _).mem_iff.mp hs);exact gk z
theorem JQ{X:AZ}(nd:X.Nodup)(a:X.length<=30):PN (aU X):=⟨(bf X).nodup_iff.mpr nd,by rw[(bf X).length_eq];exact a,xT (bf X)⟩
theorem Nz(n:PN N){xs:O Int}(h:xs.length=16):cR N xs/\PJ N (bC N xs):=by
 have a:=n.ln;obtain⟨d,W,p⟩:=QX N xs n.nd () () ();exact⟨d,W,p⟩
def DS:AZ:=(rng 0 16).map λa:Int=>(Txt.mul (ch ("ab":AJ) (a / (8:Int))) (1+(a%8)))
theorem Y6:DS.Nodup:=by unfold DS;decide +kernel
theorem JR:DS.length=16:=by unfold DS;rw[zi,nW]
theorem UX(b:O Int)(a:Int)(H:0<=a)(h1:a<=100):pX b a/\∃N A B,mq b a=(N,A,B)/\PN N/\PJ N A/\PJ N B:=by
 obtain⟨o,j,_⟩:=QH (bL b a) 12 () ();obtain⟨d2,f,_⟩:=QH (bL b (a+1)) 16 () ();obtain⟨i,e,_⟩:=QH (bL b (a+2)) 16 () ();have c1:=QG b a H ();have c2:=QG b (a+1) () ();have s:=QG b (a+2) () ();unfold pX mq;dsimp only;rw[LY];generalize bI (bL b a) 12=xs at o j;generalize bI (bL b (a+1)) 16=ys at d2 f;generalize bI (bL b (a+2)) 16=zs at i e;have j:xs.length=12:=j;have f:ys.length=16:=f;have e:zs.length=16:=e;obtain⟨q,F⟩:=xu (at' xs 6) (m:=11) ();generalize at' xs 6%11=many at q F;obtain⟨u,D,_⟩:=YX xs () many q ();have G:=Y0 xs many ();have p0:PN (aU (dw xs many)):=JQ G (by rw[D];omega);have y:(rng 0 16).length<=100000/\∀g∈(rng 0 16),(In ("ab":AJ).length (g / (8:Int))/\((1+(g%8))<=1000 ∧ -1000<=(1+(g%8))/\(ch ("ab":AJ) (g / (8:Int))).length<=1000)):=by
  refine⟨by rw[nW];decide,λv C=>?_⟩;obtain⟨k,hk,rfl⟩:=z8 C;have:("ab":AJ).length=2:=by decide
  rw[this,Cj];exact⟨BF () (),by omega,by omega,by decide⟩
 have t:∀N,PN N->((cR N ys)/\((cR N zs)/\(In xs.length 7/\((decide (((at' xs 7)%3)=1))=true->(ni (bC N ys) zs)))))/\PJ N (bC N ys)/\PJ N (if(decide (((at' xs 7)%3)=1))=true then m9 (bC N ys) zs else bC N zs):=λN n=>by
  obtain⟨e1,w⟩:=Nz n f;obtain⟨e2,x⟩:=Nz n e;obtain⟨e3,E⟩:=We n w (xs:=zs) ();refine⟨⟨e1,e2,Jk (k:=7) (),λ_=>e3⟩,w,?_⟩;split
  ·exact E
  ·exact x
 have d:In xs.length 6:=Jk (k:=6) ();by_cases c:(decide ((((at' xs 6) / (11:Int))%16)=7))=true
 ·rw[zl c];obtain⟨p,l,h⟩:=t (aU DS) (JQ Y6 (by rw[JR];decide));exact⟨⟨⟨c1,o⟩,d,⟨u,by omega⟩,⟨d,λ_=>⟨y,by show DS.length<64;rw[JR];decide⟩⟩,⟨c2,d2⟩,⟨s,i⟩,p⟩,aU DS,_,_,rfl,JQ Y6 (by rw[JR];decide),l,h⟩
 ·rw[zD c];obtain⟨p,l,h⟩:=t _ p0;exact⟨⟨⟨c1,o⟩,d,⟨u,by omega⟩,⟨d,λz=>absurd z c⟩,⟨c2,d2⟩,⟨s,i⟩,p⟩,_,_,_,rfl,p0,l,h⟩
theorem NK{A B:O AZ}{a:O zJ}(h:zc a A B):iV A B a/\fD A B a=true:=by
 obtain⟨d,e⟩:=h;unfold iV fD;dsimp only;have e:jr (λ(c:(Y (O AZ))) (b:zJ)=>((cV c b):j9 ((Y (O AZ))) Bool)) a (Z A)=.nx (Z B):=e;rw[e];exact⟨⟨d,trivial⟩,qA rfl⟩
theorem OW(d:O Int)(k:Nat)(hk:k<3):uf d bv (k:Int)/\nA d bv (k:Int)=.nx bv:=by
 obtain⟨d0,N,A,B,e0,n,a,b⟩:=UX d (3*(k:Int)) () ();obtain⟨g,m,h,e1⟩:=Dy n a b;obtain⟨d2,m2,h2,e2⟩:=Dy n b a;obtain⟨l,v,o,e3⟩:=Dy n a a;have p:HC N (A++B) m2:=h2.mem λc=>by rw[jv,jv,or_comm]
 have u:=(a.sl n).ll;have t:=(b.sl n).ll;have s:=n.ln;obtain⟨g1,g2⟩:=vB h (a.cls b) (a.kn b) () ();obtain⟨_,g3⟩:=vB p (a.cls b) (a.kn b) () ();have c1:=Ho n h a b;have c2:=Ho n h2 b a;rw[<-e1]at c1;rw[<-e2]at c2;have q:aQ A A=[]:=e3.trans (Vj n o a);obtain⟨e,f⟩:=NK (Ny n h a b);obtain⟨i,j⟩:=NK (Ny n h2 b a);rw[<-e1]at e f;rw[<-e2]at i j;have q1:((aQ A B).length:Int)=((A.length:Int)+(B.length:Int))-(2*((d9 N A B).length:Int)):=by omega
 have q2:((aQ B A).length:Int)=((A.length:Int)+(B.length:Int))-(2*((d9 N A B).length:Int)):=by omega
 have sl:(aQ A B).length<=200:=by omega
 unfold uf nA;dsimp only;rw[e0];dsimp only;rw[f,j,q,<-q1,q2,<-q1];simp only[Kt,kM,Bool.or_self,zv,qf,dC];refine⟨⟨d0,g,g1,λ_ _=>e,λ_=>⟨gR (),⟨g,λ_=>l⟩,λ_=>⟨⟨d2,i⟩,λ_=>d2⟩⟩⟩,trivial⟩
theorem Y7(a:O Int)(_:a.length<=63):Nm a/\Nk a=true:=by
 unfold Nm Nk;generalize f:(if(if(3:Int)<((a.length:Int) / (3:Int))then(3:Int)else((a.length:Int) / (3:Int)))>1 then(if(3:Int)<((a.length:Int) / (3:Int))then(3:Int)else((a.length:Int) / (3:Int)))else 1)=j;have e:0<=j/\j<=3:=by
  rw[<-f];split<;>split<;>omega
 have F:=LK (step:=λ(b:Unit) (c:Int)=>((nA a b c):j9 (Unit) Bool)) (P:=λ(b:Unit) (c:Int)=>Z (uf a b c)) (rng 0 j.toNat) λz d=>by
  obtain⟨k,hk,rfl⟩:=z8 d;have:=OW a k ();exact⟨this.1,.inl this.2⟩
 rw[F.1];exact⟨⟨⟨LQ e.1 (),F.2⟩,trivial⟩,rfl⟩
theorem H1:∀a:O Int,a.length<=63->F_law [.z (.lst (a.map .int))]=Z (.z (.bl true)):=(MS Y7).1
theorem H2:∀a:O Int,a.length<=63->F_law [.l (a.map .int)]=Z (.z (.bl true)):=(MS Y7).2
end G46
end
open PySem PySem.W PyProof.Rows
namespace PySem.W.Fast
def tw5046940045377126160:=0
def tw5238973451931558327:=0
def tw13842903212265090690:=0
def tw1265495684719810386:=0
def tw15211593099666422538:=0
def tw8713828196898667700:=0
def tw756203246330790023:=0
def tw15995715514590159714:=0
def tw10386178620258917867:=0
def tw4653570292188103688:=0
def tw16700289023174912165:=0
def tw18296957707394988993:=0
def tw16487622406018499145:=0
def tw4522353932704462839:=0
def tw12240341689689543827:=0
def tw15055895828723263299:=0
def tw10576343086054283721:=0
def tw1900201258521232724:=0
def tw8264937498255106210:=0
def tw14071170191395349276:=0
def tw13472413362726515447:=0
def tw11933062022758724971:=0
def tw8525052389324155308:=0
def tw6778892571129865655:=0
def tw17480013452006159894:=0
def tw11209583728100218422:=0
def tw15433415137459900112:=0
def tw6092415120453071266:=0
def tw17131094108027341695:=0
def tw16996668599539957090:=0
def tw17056029848937685562:=0
def tw18238099283876880733:=0
def tw17468754549467500927:=0
def tw18295696016997960094:=0
def tw17442987569337571221:=0
def tw17995242597378955459:=0
def tw10747987355036901424:=0
def tw16560855465774839124:=0
def tw2228768693850940322:=0
def tw12775376335199115388:=0
def tw9447697727656326698:=0
def tw18032141901130707876:=0
def tw18121529213604934757:=0
def tw17657223406248677437:=0
def tw14964686059750592100:=0
def tw9712164534976978319:=0
def tw3369053950519910451:=0
def tw1367305800756692552:=0
def tw645865660803364292:=0
def tw18116950471714372061:=0
def tw9979330551242998306:=0
def tw7678568957090346221:=0
def tw16650466978529557085:=0
def tw5172952173243121182:=0
def tw3541814587369475123:=0
def tw15683815384399588788:=0
def tw14931192217184118384:=0
def tw5700316227256958348:=0
def tw1883326833015529438:=0
def tw8951944143393081439:=0
def tw4457834885348330679:=0
def tw4692540195287280108:=0
def tw15331864380171430386:=0
def tw17411078529776772152:=0
def tw7428443446956212053:=0
def tw7457772068582837954:=0
def tw6021370490319699303:=0
def tw8111520855033830557:=0
def tw10921750442625112750:=0
def tw14976913922812189346:=0
def tw5479986242866694416:=0
def tw16650833471092034269:=0
def tw8324933659729659572:=0
def tw2120819800265413481:=0
def tw4647200045937146500:=0
def tw5919746213972559684:=0
def tw8710767564007020705:=0
def tw1370664957498130129:=0
def tw5034894434820467713:=0
def tw15825691598124956160:=0
def tw10939946488658386759:=0
def tw491374490595764905:=0
def tw1743217406250530243:=0
def tw1137970731146180681:=0
def tw11551950698103341567:=0
def tw17445716803103094034:=0
def tw726826866999285097:=0
def tw3820420494447917835:=0
def tw8056837077462586517:=0
def tw13117322684432307175:=0
def tw14130055768152409924:=0
def tw17728809608273232409:=0
def tw12913238710244868153:=0
def tw7917376087855916691:=0
def tw3680565943233005319:=0
def tw8290788062408566553:=0
def tw16079537324750896730:=0
def tw11211262302409595204:=0
def tw13742813216150796302:=0
def tw14644973127002489052:=0
def tw16062861899639419191:=0
def tw13208587064163223785:=0
def tw13624201958250702723:=0
def tw9856625231172744512:=0
def tw15195677472426710804:=0
def tw7678448686231175940:=0
def tw2265386039764923948:=0
def tw14348000096206481984:=0
def tw12064390972955257961:=0
def tw10409949520145155521:=0
def tw700626826221910369:=0
def tw11484062720859884497:=0
def tw9850942142567223258:=0
def tw3404948243845268873:=0
def tw9322468830550924448:=0
def tw12363096575244603616:=0
def tw17146335777529799656:=0
def tw8024444978929223520:=0
def tw4572536206239168905:=0
def tw7659901181077956009:=0
def tw2046838462378460753:=0
def tw13514006566340541443:=0
def tw18235457357943384097:=0
def tw12070075184573793748:=0
def tw14141312778499761762:=0
def tw116054185776760324:=0
def tw11148321574638120888:=0
def tw3407344035333519464:=0
def tw3677649089804057748:=0
def tw3643897920768723237:=0
def tw12501661071480317406:=0
def tw11465735564694522931:=0
def tw4694339372287279101:=0
def tw11980402334968928893:=0
def tw2995304135025357144:=0
def tw3660024244111601134:=0
def tw11875194738620072274:=0
def tw5528884239366748558:=0
def tw11628487862176042645:=0
def tw9136032269867637305:=0
def tw11915305053545336856:=0
def tw7602525761938083135:=0
def tw1804878125494670642:=0
def tw11577831989884286371:=0
def tw13604234802593811514:=0
def tw5701990026912495004:=0
def tw2577389137755120021:=0
def tw5387353254710909454:=0
def tw13134987450155931310:=0
def tw14099913418117304468:=0
def tw12963357197131856882:=0
def tw2178445609600586862:=0
def tw18365233356739908472:=0
def tw1060557528063006307:=0
def tw9428619302544804801:=0
def tw14288812813605435728:=0
def tw14853283888440586276:=0
def tw6783457017847372631:=0
def tw3525291769002644204:=0
end PySem.W.Fast
set_option maxRecDepth 100000 in
set_option maxHeartbeats 0 in
theorem PySem.Challenge.cw_onefolk_k46_least_steps_holds : PySem.Challenge.rw_onefolk_k46_least_steps.Holds := by
 w_on;refine PySem.W.holds_law (by decide +kernel) λsaid=>?_
 k_head;(case hw=>w_witness2)
 k_fill
 refine P1.EM (l:=PySem.Challenge.rw_onefolk_k46_least_steps) (T:=G46.T) (k:=5) (x := "_law_script") (st:=G46.s_law) (F_law:=G46.F_law) (λt=>t.x_law) ⟨rfl,by decide,by decide⟩ rfl (λw mg base t=>G46.DJ t) rfl rfl G46.H1 G46.H2 (λ_ _ _ _ _ _ _=>rfl) (λw h Y=>PySem.W.kIn_of Y) (λw h _ _ _ _ _ _=>⟨[],L2.C9.free (by kernel_rfl)⟩) ?F
 case F=>
  intro w mg h KX G
  refine' ⟨P1.nH KX G _ _ _ _,P1.nH KX G _ _ _ _,P1.nH KX G _ _ _ _,P1.nH KX G _ _ _ _,P1.nH KX G _ _ _ _,P1.nH KX G _ _ _ _,P1.nH KX G _ _ _ _,P1.nH KX G _ _ _ _,P1.nH KX G _ _ _ _,P1.nH KX G _ _ _ _,P1.nH KX G _ _ _ _,P1.nH KX G _ _ _ _,P1.nH KX G _ _ _ _,P1.nH KX G _ _ _ _,P1.nH KX G _ _ _ _,P1.nH KX G _ _ _ _,P1.nH KX G _ _ _ _,P1.nH KX G _ _ _ _,P1.nH KX G _ _ _ _,P1.nH KX G _ _ _ _,P1.nH KX G _ _ _ _,P1.nH KX G _ _ _ _,QA KX G _,QA KX G _,QA KX G _,QA KX G _,QA KX G _,QA KX G _,QA KX G _,QA KX G _,QA KX G _,QA KX G _,QA KX G _,QA KX G _⟩
  all_goals try (show _=_;k_is)
  all_goals try kernel_rfl
