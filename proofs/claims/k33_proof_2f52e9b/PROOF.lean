import PyProof.Rows.All
import Wide.All
import OpenK.AllK
import Wide.FinOn
import PyProof.EqAt
import PyProof.EqKinds
import PyProof.TupleCall
import PyProof.StrLoop
import PyProof.StrWalks
import PyProof.CompFree
import PyProof.NeKinds
import PyProof.Rows.RuleN_isinstance
import PyProof.ConsumeWalk
import PyProof.IsiPairs
import PyProof.IsiSeqPairs
import PyProof.IsiHeapPairs
import PyProof.IsiNone
import PyProof.PureStr
import PyProof.StrCalls
import PyProof.Rows.SortStr
import PyProof.Rows.StrJoin2
import PyProof.CallStr
import PyProof.WalkInts
import PyProof.Rows.StrDigits
import PyProof.DictWalks
import PyProof.DictTruth
import PyProof.CollectWalk
import PyProof.WalkLemmas
import PyProof.Rows.SortShellK
import PyProof.Rows.SortWalk
import PyProof.SetKind
import PyProof.FactsAll.set
import PyProof.Rows.SetFrom
import PyProof.TupleKey
import PyProof.IsRules
import PyProof.WalksMore
import PyProof.SetRoads
import PyProof.DictCompW
import PyProof.ListRange
import PyProof.FString5
import PyProof.MeetsSeq2
import PyProof.FactsAll.tuple_0
import PyProof.FactsAll.tuple_2
import PyProof.FactsAll.tuple_3
import PyProof.EnumFor
import PyProof.EnumMake
import PyProof.EnumStmt
import PyProof.Rows.EnumRows
import PyProof.SumWalk
import PyProof.Rows.SeqCalls
import KE.KRevSl
import PyProof.ZipIter
import PyProof.TupleIter
import PyProof.AttrMiss
import KE.KDictOf
import KE.KDictLaws
import PyProof.TupleOfStr
import PyProof.StrCalls2
import PyProof.Rows.StrNews2
import PyProof.Rows.StrItems
import PyProof.Rows.StrSplitAre
import PyProof.Rows.StrGen4
import PyProof.Rows.RegStrFacts
import PyProof.Rows.FStr
import PyProof.SetNew
import PyProof.Rows.SetObj
import PyProof.Seq
import PyProof.Rows.SortShell
import PyProof.FactsAll.list_3
import KE.KIntText
import PyProof.StrCalls6
import PyProof.FitsReplace
import PyProof.ToksMono
import PyProof.FactsAll.str_4
import PyProof.StrBlock
import PyProof.RangeIter
import PyProof.CodeObj
import PyProof.Rows.CallKwBuiltin
import PyProof.ListMulRoad
import PyProof.StrLawsTight
import PyProof.Rows.StrPartPair
import PyProof.Rows.CatFin
import PyProof.Rows.StrClose
import PyProof.Rows.StrNext
import PyProof.Rows.StrBetween
import Lean
import PySem.Challenge.RW_onefolk_k33_whole_best_and_bars
open Option renaming some->Z,none->U
abbrev O:=List
abbrev Y:=Option
theorem S{α:Sort u}{a:α}:a=a:=rfl
open PySem renaming Value->A0,Addr->A1,Shared->A2,Program->A3,World->A4,Around->A5,Heap->A6,wpAny->A7,model->A8,starEach->A9,sizeLine->AA,Stmt->AB,Keyword->AC,backTo->AD,Obj->AE,codeAny->AF,compareOp->AG,bootBuiltins->AH,Paired->AI,Str->AJ
open PyProof.Rows renaming envOfC->AK,wpS_bind->AL,arrOf->AM
open PySem.W (instObj methodObj keepIn cellsFrom_some fnOf codeIn nsIn mg_of)
set_option maxRecDepth 100000
set_option maxHeartbeats 4000000
set_option linter.all false
set_option Elab.async false
open PySem PySem.Spec PyProof.Rows
variable{w:A4}{i:Nat}{t:SetTable}{x:AJ}{a:A1}{prog:A3}{us:O A0}{u:A0}{κ:Type}{h:A6}{items:Array A0}{P:A3}{α β:Type}{e:Expr}{n:Nat}{mg:AJ->Y A0}{base:A6}{l:A1}{env:Env}{m:O (AJ×AJ)}{AN:O (A1×AE)}{s:A2}{it:A1}{j:Nat}{M:Model}{A:A5}{Q:Y A0->A2->Prop}{hi:Y Int}{D:A1}{es:O Expr}{pos:Pos}{c:Expr}{y:AJ}{hs:O Int}{tg:Expr}{body:O AB}{fp:O A1}{tn:Nat->A6->Prop}{iter:Expr}{lo:Y Int}{pl:O Nat}{C:A1}{op:CmpOp}{AQ:O A0}{name:AJ}{tpos:Pos}{fd:FuncData}{apos:Pos}{qual:AJ}{scope:Scope}{osl:Array (Y A0)}{p2 cpos:Pos}{XP:(AJ->Y A0)->A6->Prop}{YP:A4->A6->Prop}{cl:O (AJ×A1)}{is:O Nat}{ifs:O Expr}{elt tgt:Expr}{el:A1->Env->Sem Unit}{RR:A0->A1->Result->A2->Prop}{ep mask:Nat}{owner:Array (Y Nat)}{elts:O Expr}{x1:Nat}{γ δ:Type}{os:OsState}{bmB:O A0}{newId initId:String}{a_:A1}
abbrev AZ:=O PySem.Str
abbrev B7:=PySem.Value->PySem.Shared->Prop
abbrev B1:=PySem.W.Frag
abbrev B6:=O Int
abbrev zd:=@wpAny_bind
abbrev ze:=@Heap.get?_push_of_some
abbrev zg:=@wpAny_pure
abbrev zh:=@List.mem_cons_self
abbrev zi:=@List.mem_cons_of_mem
abbrev zk:=@List.length_map
abbrev zl:=@List.map_cons
abbrev zo:=@Nat.le_refl
abbrev zr:=@if_pos
abbrev zt:=@Bool.false_eq_true
abbrev zv:=@Heap.get?_push_size
abbrev zw:=@Heap.lt_size
abbrev zC:=@decide_eq_true_eq
abbrev zD:=@if_neg
abbrev zI:=@List.size_toArray
abbrev zS:=@List.length_append
abbrev z4:=@Nat.ne_of_lt
abbrev z5:=@List.mem_append_left
abbrev Zl:=@List.getElem?_eq_getElem
abbrev Zp:=@decide_eq_false
abbrev Zs:=@decide_eq_true
abbrev ZA:=@List.mem_append_right
abbrev ZE:=@List.getElem?_map
abbrev ZH:=@Bool.false_ne_true
abbrev ZI:=@Nat.le_of_ble_eq_true
abbrev ZN:=@Bool.and_eq_true
abbrev ZO:=@Nat.le_trans
abbrev ZT:=@List.map_append
abbrev ZU:=@List.getElem?_append_left
abbrev ZY:=@Nat.lt_of_lt_of_le
abbrev ZZ:=@List.length_cons
abbrev Z3:=@if_false
abbrev qa:=@List.getElem?_cons_succ
abbrev qc:=@Nat.lt_succ_self
abbrev qf:=@Array.getElem?_eq_getElem
abbrev qh:=@List.map_map
abbrev qi:=@wpAny_newObj_type
abbrev qk:=@of_decide_eq_true
abbrev qo:=@List.append_assoc
abbrev qq:=@List.getElem?_eq_none
abbrev qr:=@List.append_nil
abbrev qv:=@Heap.size_push
abbrev qA:=@Array.length_toList
abbrev qB:=@List.all_eq_true
abbrev qS:=@List.getElem?_append_right
abbrev qV:=@if_true
abbrev Qb:=@Array.getElem?_toList
abbrev Qr:=@List.map_congr_left
abbrev QA:=@wpAny_mono
abbrev QE:=@Nat.lt_succ_of_lt
abbrev QI:=@PySem.W.mg_none_of
abbrev QN:=@List.foldl_cons
abbrev QO:=@List.mem_of_getElem?
abbrev QP:=@Or.inr
abbrev QQ:=@Bool.eq_iff_iff
abbrev QR:=@wpAny_holding
abbrev QU:=@Nat.zero_le
abbrev QY:=@List.getElem_of_mem
abbrev Q1:=@List.length_filter_le
abbrev Q2:=@List.getElem?_replicate
abbrev Q3:=@wpAny_typeOf
abbrev Q4:=@wpAny_setState_of
abbrev ja:=@List.filter_congr
abbrev js:=@Bool.not_eq_true'
abbrev jv:=@List.mem_cons
abbrev jI:=@List.map_id'
abbrev jS:=@decide_eq_false_iff_not
abbrev j0:=@List.sum_cons
abbrev Jn:=@List.nodup_nil
abbrev JA:=@Option.some.inj
abbrev JE:=@Or.inl
abbrev JI:=@List.not_mem_nil
abbrev JJ:=@Nat.le_of_lt
abbrev JO:=@List.map_nil
abbrev JP:=@wpAny_comprehension_free
abbrev JS:=@List.Pairwise.imp_of_mem
abbrev JU:=@Nat.le_succ
abbrev JY:=@List.pairwise_map
abbrev ka:=@List.nodup_append
abbrev kb:=@List.flatten_cons
abbrev kc:=@List.flatMap_cons
abbrev kf:=@Heap.get?_update_ne
abbrev kg:=@Nat.lt_irrefl
abbrev ki:=@List.length_take
abbrev km:=@List.length_drop
abbrev ko:=@List.any_eq_true
abbrev kq:=@List.rel_of_pairwise_cons
abbrev ku:=@codeAny_builtin
abbrev ky:=@List.cons.injEq
abbrev kz:=@wpAny_truthy_bool
abbrev kA:=@List.length_range
abbrev kB:=@List.any_cons
abbrev kC:=@PySem.mem_of_lookup
abbrev kD:=@List.getElem?_range
abbrev kF:=@wpAny_isInstance
abbrev kK:=@wpAny_call_entry
abbrev kL:=@wpAny_passesOwn
abbrev kM:=@Nat.not_lt_zero
abbrev kN:=@List.mem_filter
abbrev kP:=@List.length_set
abbrev kQ:=@List.find?_cons
abbrev kR:=@List.all_cons
abbrev kU:=@Bool.not_true
abbrev kX:=@List.lookup_cons_self
abbrev k5:=@List.reverse_cons
abbrev k6:=@Bool.not_false
abbrev k7:=@List.mem_erase_of_ne
abbrev k8:=@decide_false
abbrev Kb:=@Nat.ne_of_gt
abbrev Ki:=@List.replicate_succ
abbrev Kj:=@List.filterMap_cons
abbrev Kk:=@wpAny_standAt
abbrev Kn:=@List.nil_append
abbrev Kt:=@Bool.or_eq_true
abbrev Kx:=@wpAny_rule
abbrev KA:=@Nat.lt_of_le_of_lt
abbrev KB:=@Int.le_refl
abbrev KF:=@wpAny_getItem_str_slice
abbrev KG:=@List.pairwise_mergeSort
abbrev KI:=@List.filter_cons_of_pos
abbrev KL:=@List.filter_cons_of_neg
abbrev KM:=@Ne.symm
abbrev KO:=@List.mem_map
abbrev KP:=@Bool.false_and
abbrev KS:=@Int.toNat_natCast
abbrev KU:=@Array.size_append
abbrev KW:=@List.length_pos_of_mem
abbrev K0:=@Array.getElem?_eq_none
abbrev K2:=@List.getElem?_zipWith
abbrev ya:=@Heap.get?_update_self
abbrev yb:=@Bool.and_true
abbrev ye:=@decide_true
abbrev yf:=@List.perm_cons_erase
abbrev yi:=@List.mem_of_mem_drop
abbrev yk:=@List.filter_map
abbrev ym:=@List.mergeSort_perm
abbrev yn:=@Int.toNat_of_nonneg
abbrev yo:=@Nat.zero_add
abbrev yv:=@wpAny_load
abbrev yz:=@List.mem_range
abbrev yA:=@Bool.and_false
abbrev yB:=@Option.isSome_some
abbrev yT:=@Obj.data_mapFields
abbrev yY:=@Nat.lt_trichotomy
abbrev y7:=@List.getElem?_set
abbrev y8:=@Bool.true_and
abbrev y9:=@PySem.F.args_tuple_add_2
abbrev Ya:=@wpAny_askSetting
abbrev Yf:=@List.nodup_range
abbrev YA:=@wpAny_callSpecial?_slot
abbrev YE:=@PySem.F.entry_tuple_add
abbrev YI:=@F.plain_set_update_loop
variable{K:B1}{N:AZ}{E:B7}{ts ps n_:AZ}
namespace L2
abbrev AY:=Sum Int AJ
def nq:AY->A0->Bool
 |.inl k,v=>Value.isInt k v
 |.inr x,v=>Value.isStrOf x v
def RS(w:A4):AY->Int
 |.inl k=>hashInt k
 |.inr x=>hashStr w x
theorem bY:∀{k:AY} {v:A0},nq k v=true->(∃i t,k=Sum.inl i/\v=Value.int i t)\/(∃x t,k=Sum.inr x/\v=Value.str x t)
 |.inl i,v,h=>by
  obtain⟨t,e⟩:=Value.isInt_shape (k:=i) (v:=v) h;exact .inl ⟨i,t,rfl,e⟩
 |.inr x,v,h=>by
  obtain⟨t,e⟩:=Value.isStrOf_shape (x:=x) (v:=v) h;exact .inr ⟨x,t,rfl,e⟩
theorem Zm(i:Int)(t:Tok):nq (.inl i) (.int i t)=true:=by simp[nq,Value.isInt]
theorem Zn(x:AJ)(t:Tok):nq (.inr x) (.str x t)=true:=by simp[nq,Value.isStrOf]
theorem ib(a b:Int):decide ((Sum.inl a:AY)=Sum.inl b)=(a==b):=by
 by_cases e:a=b
 ·subst e;simp
 ·have h:¬ (Sum.inl a:AY)=Sum.inl b:=λq=>e (Sum.inl.inj q);rw[Zp h];exact(beq_eq_false_iff_ne.mpr e).symm
theorem RU(a b:AJ):decide ((Sum.inr a:AY)=Sum.inr b)=decide (a=b):=by
 by_cases e:a=b
 ·subst e;simp
 ·have h:¬ (Sum.inr a:AY)=Sum.inr b:=λq=>e (Sum.inr.inj q);rw[Zp h,Zp e]
theorem Sz(a:Int)(b:AJ):decide ((Sum.inl a:AY)=Sum.inr b)=false:=Zp (λq=>nomatch q)
theorem UK(a:AJ)(b:Int):decide ((Sum.inr a:AY)=Sum.inl b)=false:=Zp (λq=>nomatch q)
def bD(prog:A3)(w:A4):PySem.KeyKind prog w AY where
 is:=nq
 hash:=RS w
 inj:=λv a b f hb=>by
  rcases bY f with⟨i,t,rfl,rfl⟩|⟨x,t,rfl,rfl⟩
  ·rcases bY hb with⟨j,u,rfl,e⟩|⟨y,u,rfl,e⟩
   ·injection e with e1 _;rw[e1]
   ·exact nomatch e
  ·rcases bY hb with⟨j,u,rfl,e⟩|⟨y,u,rfl,e⟩
   ·exact nomatch e
   ·injection e with e1 _;rw[e1]
 byValue:=λk v h=>by
  rcases bY h with⟨i,t,rfl,rfl⟩|⟨x,t,rfl,rfl⟩<;>rfl
 pyHash:=λc h=>by
  rcases bY c with⟨i,t,rfl,rfl⟩|⟨x,t,rfl,rfl⟩
  ·exact wpAny_pyHash_int h
  ·exact wpAny_pyHash_str h
 eqBool:=λd c h=>by
  rcases bY d with⟨i,t,rfl,rfl⟩|⟨x,t,rfl,rfl⟩
  ·rcases bY c with⟨j,u,rfl,rfl⟩|⟨y,u,rfl,rfl⟩
   ·rw[ib]at h;exact wpAny_eqBool_int h
   ·rw[Sz]at h;exact SeqAt.EqAt.int_str i t y u _ _ _ _ h
  ·rcases bY c with⟨j,u,rfl,rfl⟩|⟨y,u,rfl,rfl⟩
   ·rw[UK]at h;exact SeqAt.EqAt.str_int x t j u _ _ _ _ h
   ·rw[RU]at h;exact wpAny_eqBool_str h
 «strs»:=λk x t v h=>by
  rcases bY h with⟨i,u,rfl,e⟩|⟨y,u,rfl,e⟩
  ·exact nomatch e
  ·injection e with e1 _;subst e1;cases v<;>rfl
theorem RV(prog:A3)(w:A4)(i:Int)(t:Tok):(bD prog w).is (.inl i) (.int i t)=true:=Zm i t
theorem RW(prog:A3)(w:A4)(x:AJ)(t:Tok):(bD prog w).is (.inr x) (.str x t)=true:=Zn x t
end L2
namespace L2
inductive V where
 |non|bl (b:Bool)|int (i:Int)|str (x:Str)|byt (b:Array UInt8)|flt (b:UInt64)|ref (a:Addr)|ty (n:String)
 deriving DecidableEq
def Au:V->A0->Prop
 |.non,u=>u=Value.none
 |.bl b,u=>u=Value.bool b
 |.int i,u=>∃t,u=Value.int i t
 |.str x,u=>∃t,u=Value.str x t
 |.byt b,u=>∃t,u=Value.bytes b t
 |.flt b,u=>∃t,u=Value.float b t
 |.ref a,u=>u=Value.ref a
 |.ty n,u=>u=Value.type n
abbrev AX:O V->O A0->Prop:=AI Au
theorem AX.length{xs:O V}{us:O A0}(r:AX xs us):xs.length=us.length:=Paired.length r
theorem AX.get:∀{xs:O V} {us:O A0} {i:Nat} {x:V},AX xs us->xs[i]?=Z x->∃u,us[i]?=Z u/\Au x u
 |_,_,_,_,.nil,e=>by simp at e
 |_,_,0,_,.cons r _,e=>by simp at e;subst e;exact⟨_,rfl,r⟩
 |_,_,i+1,x,.cons _ t,e=>by
  obtain⟨u,h1,h2⟩:=AX.get (i:=i) (x:=x) t (by simpa using e);exact⟨u,by simpa using h1,h2⟩
theorem AX.set{x:V}{u:A0}(r:Au x u):∀{xs:O V} {us:O A0} (i:Nat),AX xs us->AX (xs.set i x) (us.set i u)
 |_,_,_,.nil=>.nil
 |_,_,0,.cons _ t=>.cons r t
 |_,_,i+1,.cons q t=>.cons q (AX.set r i t)
theorem AX.append:∀{xs ys:O V} {us a:O A0},AX xs us->AX ys a->AX (xs++ys) (us++a)
 |_,_,_,_,.nil,s=>s
 |_,_,_,_,.cons r t,s=>.cons r (AX.append t s)
theorem AX.take:∀{xs:O V} {us:O A0} (n:Nat),AX xs us->AX (xs.take n) (us.take n)
 |_,_,0,_=>.nil
 |_,_,_+1,.nil=>.nil
 |_,_,n+1,.cons r t=>.cons r (AX.take n t)
theorem AX.drop:∀{xs:O V} {us:O A0} (n:Nat),AX xs us->AX (xs.drop n) (us.drop n)
 |_,_,0,r=>r
 |_,_,_+1,.nil=>.nil
 |_,_,n+1,.cons _ t=>AX.drop n t
def Ik:Y V->Y A0->Prop
 |some v,Z u=>Au v u
 |none,U=>True
 |_,_=>False
def KV:O (κ×V)->O (κ×A0)->Prop:=AI λ(p:κ×V) (q:κ×A0)=>p.1=q.1/\Au p.2 q.2
def kV:AY->V
 |.inl i=>.int i
 |.inr x=>.str x
inductive HO where
 |lst (xs:List V)
 |tup (xs:List V)
 |dK (AO:List (AY×V))|dT (AO:List (List AY×V))
 |set (S:Int->Bool) (n:Nat)
 |ins (C dx:Addr) (fs:List (Str×V))
 |own (x:Addr)
 |xd (fs:List (Str×V))
 |met (f x:Addr)
 |rng (lo hi:Int)
 |ux (o:Obj) (u:HO)
 |tbl (ps:Array Value)
 |ext (φ:Heap->Prop)
abbrev Hp:=A1->Y HO
def B4(H:Hp)(a:A1)(o:HO):Hp:=λb=>if b=a then Z o else H b
theorem bK{H:Hp}{o:HO}:B4 H a o a=Z o:=by unfold B4;rw[zr rfl]
theorem aU{H:Hp}{b:A1}{o:HO}(h:b≠a):B4 H a o b=H b:=by unfold B4;rw[zD h]
def wZ(h:A6)(a:A1)(items:Array A0):Prop:=∃o,h.get? a=Z o/\o.cls=.type "tuple" ∧ (∃n,o.data=.seq items n)/\o.dict=U
theorem wZ.weak(x:wZ h a items):IsTup h a items:=let ⟨o,e,c,d,_⟩:=x;⟨o,e,c,d⟩
theorem wZ.new(h:A6)(items:Array A0):wZ (h.push { cls:=.type "tuple",data:=.seq items }) h.objs.size items:=⟨_,zv _ rfl,rfl,⟨_,rfl⟩,rfl⟩
theorem qM{H:Hp}{b:A1}{o u:HO}(h:H a=Z o)(h':H b=Z u)(d:o≠u):a≠b:=by
 intro e;subst e;rw[h]at h';exact d (JA h')
theorem dU{H:Hp}{b:A1}{o:HO}(h:H a=Z o)(h':H b=U):a≠b:=by
 intro e;subst e;rw[h]at h';cases h'
section
variable(P:A3)(w:A4)
def iZ(H:Hp)(h:A6)(a:A1):HO->Prop
 |.lst xs=>xs.length<=AA/\∃(AQ:O A0) (n:Nat),AX xs AQ/\h.get? a=Z { cls:=.type "list",data:=.seq AQ.toArray n }
 |.tup xs=>xs.length<=AA/\∃AQ:O A0,AX xs AQ/\wZ h a AQ.toArray
 |.dK AO=>AO.length<=AA/\(a==sysModules)=false/\∃vs,KV AO vs/\h.DictOf (bD P w) a vs
 |.dT AO=>AO.length<=AA/\(a==sysModules)=false/\∃xs:O (O AY×A1×A0),
   AI (λ(p:O AY×V) (q:O AY×A1×A0)=>p.1=q.1/\H q.2.1=Z (.tup (p.1.map kV))/\Au p.2 q.2.2) AO xs ∧
   ∃o es ep,h.get? a=Z o/\o.ExactDict/\o.data=.dict es ep/\es.toList=xs.map (entryOfKey (tupleKind (bD P w)))/\(xs.map (·.1)).Nodup
 |.set S n=>h.SetOf (intKind P w) a S n
 |.ins C dx fs=>H dx=Z (.own a)/\fs.length<=1000/\dx≠a/\h.get? a=Z (instObj C dx) ∧
   ∃mA,h.Ns1 dx mA/\(∀f,Ik (fs.lookup f) (mA f))/\PySem.Within mA (fs.map (·.1))
 |.own _=>∃o,h.get? a=Z o
 |.xd fs=>∃mA,h.Ns1 a mA/\∀f,Ik (fs.lookup f) (mA f)
 |.rng lo hi=>∃t u v,h.get? a=Z { cls:=.type "range",data:=.fields #[.int lo t,.int hi u,.int 1 v] }
 |.ux o u=>h.get? a=Z o/\iZ H h a u
 |.tbl ps=>h.get? a=Z { cls:=.none,data:=.fields ps }
 |.met f x=>h.get? a=Z (methodObj (.ref f) (.ref x))
 |.ext b=>b h/\(∃o,h.get? a=Z o)/\∀h1 h2:A6,b h1->(∀o,h1.get? a=Z o->h2.get? a=Z o)->b h2
def Az(H:Hp)(h:A6):Prop:=∀a o,H a=Z o->iZ P w H h a o
end
section
variable{H H':Hp}{h':A6}{o:HO}
theorem iZ.lt(x:iZ P w H h a o):a<h.objs.size:=by
 cases o with
 |lst xs=>obtain⟨_,_,_,_,e⟩:=x;exact zw e
 |tup xs=>obtain⟨_,_,_,p⟩:=x;exact p.weak.lt
 |dK AO=>obtain⟨_,_,_,_,o,_,_,e,_⟩:=x;exact zw e
 |dT AO=>obtain⟨_,_,_,_,o,_,_,e,_⟩:=x;exact zw e
 |set S n=>obtain⟨o,_,_,_,e,_⟩:=x;exact zw e
 |ins C dx fs=>obtain⟨_,_,_,e,_⟩:=x;exact zw e
 |own y=>obtain⟨_,e⟩:=x;exact zw e
 |xd fs=>obtain⟨_,⟨_,_,_,e,_⟩,_⟩:=x;exact zw e
 |rng lo hi=>obtain⟨_,_,_,e⟩:=x;exact zw e
 |ux b u=>obtain⟨e,_⟩:=x;exact zw e
 |tbl ps=>exact zw (show h.get? a=Z _ from x)
 |met f y=>exact zw (show h.get? a=Z _ from x)
 |ext c=>obtain⟨_,⟨_,e⟩,_⟩:=x;exact zw e
theorem Paired.adP{α β:Type}{F G:α->β->Prop}:∀{d:O α} {c:O β},AI F d c->(∀a b,F a b->G a b)->AI G d c
 |_,_,.nil,_=>.nil
 |_,_,.cons r t,f=>.cons (f _ _ r) (Paired.adP t f)
theorem Paired.imp'{F G:α->β->Prop}(f:∀a b,F a b->G a b){d:O α}{c:O β}(r:AI F d c):AI G d c:=Paired.adP r f
theorem iZ.stay(x:iZ P w H h a o)(k:∀b u,(b=a\/H b=Z (.own a))->h.get? b=Z u->h'.get? b=Z u)
  (m:∀b,H b=Z (.own a)->H' b=Z (.own a)) (l:∀b xs,H b=Z (.tup xs)->H' b=Z (.tup xs)):iZ P w H' h' a o:=by
 induction o with
 |lst xs=>obtain⟨z,AQ,n,r,e⟩:=x;exact⟨z,AQ,n,r,k _ _ (.inl rfl) e⟩
 |tup xs=>obtain⟨z,AQ,r,g,e,c⟩:=x;exact⟨z,AQ,r,g,k _ _ (.inl rfl) e,c⟩
 |dK AO=>obtain⟨z,y,vs,r,g,es,ep,e,c⟩:=x;exact⟨z,y,vs,r,g,es,ep,k _ _ (.inl rfl) e,c⟩
 |dT AO=>
  obtain⟨z,y,xs,r,g,es,ep,e,c⟩:=x;exact⟨z,y,xs,Paired.adP r λp q z=>⟨z.1,l _ _ z.2.1,z.2.2⟩,g,es,ep,k _ _ (.inl rfl) e,c⟩
 |set S n=>obtain⟨g,es,ep,t,e,c⟩:=x;exact⟨g,es,ep,t,k _ _ (.inl rfl) e,c⟩
 |ins C dx fs=>
  obtain⟨d,z,s,e,mA,⟨i,es,ep,e2,c⟩,r⟩:=x;exact⟨m _ d,z,s,k _ _ (.inl rfl) e,mA,⟨i,es,ep,k _ _ (.inr d) e2,c⟩,r⟩
 |own y=>obtain⟨g,e⟩:=x;exact⟨g,k _ _ (.inl rfl) e⟩
 |xd fs=>obtain⟨mA,⟨i,es,ep,e,c⟩,r⟩:=x;exact⟨mA,⟨i,es,ep,k _ _ (.inl rfl) e,c⟩,r⟩
 |rng lo hi=>obtain⟨t,u,v,e⟩:=x;exact⟨t,u,v,k _ _ (.inl rfl) e⟩
 |ux g u j=>obtain⟨e,q⟩:=x;exact⟨k _ _ (.inl rfl) e,j q⟩
 |tbl ps=>
  have e:h.get? a=Z { cls:=.none,data:=.fields ps }:=x;show h'.get? a=Z { cls:=.none,data:=.fields ps };exact k a _ (.inl rfl) e
 |met f y=>
  have e:h.get? a=Z (methodObj (.ref f) (.ref y)):=x;show h'.get? a=Z (methodObj (.ref f) (.ref y));exact k a _ (.inl rfl) e
 |ext A=>obtain⟨p,⟨o,e⟩,st⟩:=x;exact⟨st _ _ p λo q=>k _ _ (.inl rfl) q,⟨o,k _ _ (.inl rfl) e⟩,st⟩
theorem Az.lt(x:Az P w H h)(e:H a=Z o):a<h.objs.size:=(x a o e).lt
theorem Az.fresh(x:Az P w H h)(e:h.objs.size<=a):H a=U:=by
 cases q:H a with
 |none=>rfl
 |some u=>exact absurd (ZY (x.lt q) e) (kg _)
theorem Az.kept(x:Az P w H h)(k:∀b u,h.get? b=Z u->h'.get? b=Z u):Az P w H h':=λa o e=>
 (x a o e).stay (λb u _ q=>k b u q) (λ_ q=>q) λ_ _ q=>q
theorem Az.laid(x:Az P w H h)(k:∀b u,h.get? b=Z u->h'.get? b=Z u)(hp:h.objs.size<=a)(new:iZ P w (B4 H a o) h' a o):Az P w (B4 H a o) h':=λb u e=>by
 have d:=x.fresh hp;by_cases hb:b=a
 ·subst hb;rw[bK]at e;cases e;exact new
 ·rw[aU hb]at e;exact(x b u e).stay (λc v _ q=>k c v q) (λc q=>by rw[aU (dU q d)];exact q) λc xs q=>by rw[aU (dU q d)];exact q
end
def Rd(H:Hp)(a:A1)(u:HO):Prop:=H a=Z u\/∃o,H a=Z (.ux o u)
theorem Rd.ok{H:Hp}{u:HO}(r:Rd H a u)(x:Az P w H h):iZ P w H h a u:=by
 rcases r with r|⟨o,r⟩
 ·exact x a u r
 ·obtain⟨_,q⟩:=x a _ r;exact q
def F3:Y HO->Prop
 |some (.lst _)=>True
 |some (.dK _)=>True
 |some (.dT _)=>True
 |some (.set _ _)=>True
 |some (.ins _ _ _)=>True
 |some (.ext _)=>True
 |_=>False
section
variable{H:Hp}{h':A6}{x e:A1}{o':HO}
theorem Az.write(ok:Az P w H h)(a:F3 (H x))(he:e=x\/H e=Z (.own x))(k:∀b u,b≠e->h.get? b=Z u->h'.get? b=Z u)(m:∃u,h'.get? e=Z u)
  (new:iZ P w (B4 H x o') h' x o'):Az P w (B4 H x o') h':=λb u q=>by
 have g:∀c y,H c=Z (.own y)->c≠x:=λc y r z=>by subst z;rw[r]at a;exact a
 have j:∀c xs,H c=Z (.tup xs)->c≠x:=λc xs r z=>by subst z;rw[r]at a;exact a
 by_cases hb:b=x
 ·subst hb;rw[bK]at q;cases q;exact new
 ·rw[aU hb]at q;by_cases d:b=e
  ·have i:H b=Z (.own x):=by
    rcases he with z|z
    ·exact absurd (d.trans z) hb
    ·rw[d];exact z
   rw[q]at i;cases i;obtain⟨v,l⟩:=m;exact⟨v,by rw[d];exact l⟩
  ·refine(ok b u q).stay (λc v f r=>k c v ?_ r) (λc r=>by rw[aU (g c b r)];exact r) λc xs r=>by rw[aU (j c xs r)];exact r
   rcases f with rfl|f
   ·exact d
   ·rintro rfl;rcases he with z|z
    ·exact g c b f z
    ·rw[f]at z;cases z;exact hb rfl
end
structure Un (fs ex:List Addr) (H H':Hp) (h h':Heap):Prop where
 keep:∀b o,h.get? b=some o->H b=none->b∉fs->b∉ex->h'.get? b=some o
 slot:∀b o,h.get? b=some o->H b=none->b∈fs->b∉ex->∃sl,h'.get? b=some { o with slots:=sl }
 free:∀b o,h.get? b=some o->H b=none->b∉ex->H' b=none
 there:∀b o,h.get? b=some o->b∉ex->∃o',h'.get? b=some o'
 tups:∀b xs,H b=some (.tup xs)->H' b=some (.tup xs)
 Gx:∀b o u,H b=some (.ux o u)->H' b=some (.ux o u)
 Le:∀b ps,H b=some (.tbl ps)->∃more,H' b=some (.tbl (ps++more))
section
variable{fs fs' ex ex':O A1}{H H1 H2:Hp}{h1 h2 h':A6}{x e:A1}{o:HO}
theorem Un.any(u:Un fs ex H H1 h h1){b:A1}{a:AE}(q:h.get? b=Z a)(n:H b=U)(hx:b∉ex):∃sl,h1.get? b=Z { a with slots:=sl }:=by
 by_cases hb:b∈fs
 ·exact u.slot b a q n hb hx
 ·exact⟨a.slots,u.keep b a q n hb hx⟩
theorem Un.kept(k:∀b u,h.get? b=Z u->h'.get? b=Z u):Un fs ex H H h h':=
 ⟨λb a q _ _ _=>k b a q,λb a q _ _ _=>⟨a.slots,k b a q⟩,λ_ _ _ n _=>n,λb a q _=>⟨a,k b a q⟩,λ_ _ q=>q,λ_ _ _ q=>q,λ_ ps q=>⟨#[],by rw[q];simp⟩⟩
theorem Un.refl:Un fs ex H H h h:=Un.kept λ_ _ q=>q
theorem Un.laid(k:∀b u,h.get? b=Z u->h'.get? b=Z u)(hp:h.objs.size<=a)(c:H a=U):Un fs ex H (B4 H a o) h h' where
 keep:=λb u q _ _ _=>k b u q
 slot:=λb u q _ _ _=>⟨u.slots,k b u q⟩
 free:=λb u q n _=>by rw[aU (z4 (ZY (zw q) hp))];exact n
 there:=λb u q _=>⟨u,k b u q⟩
 tups:=λb xs q=>by rw[aU (dU q c)];exact q
 Gx:=λb u xs q=>by rw[aU (dU q c)];exact q
 Le:=λb ps q=>⟨#[],by rw[aU (dU q c),q];simp⟩
theorem Un.write(a:F3 (H x))(he:e=x\/H e=Z (.own x))(k:∀b u,b≠e->h.get? b=Z u->h'.get? b=Z u)(f:∃u,h'.get? e=Z u):Un fs ex H (B4 H x o) h h':=by
 have hx:∀b,H b=U->b≠x:=λb n z=>by subst z;rw[n]at a;exact a
 have hb:∀b,H b=U->b≠e:=λb n z=>by
  subst z;rcases he with r|r
  ·exact hx b n r
  ·rw[n]at r;cases r
 have c:∀b u,H b=Z u->¬ F3 (Z u)->b≠x:=λb u q nm z=>by subst z;rw[q]at a;exact nm a
 refine⟨λb u q n _ _=>k b u (hb b n) q,λb u q n _ _=>⟨u.slots,k b u (hb b n) q⟩,λb u q n _=>by rw[aU (hx b n)];exact n,λb u q _=>?_,
  λb xs q=>by rw[aU (c b _ q λz=>z)];exact q,λb u xs q=>by rw[aU (c b _ q λz=>z)];exact q,λb ps q=>⟨#[],by rw[aU (c b _ q λz=>z),q];simp⟩⟩
 by_cases d:b=e
 ·subst d;exact f
 ·exact⟨u,k b u d q⟩
end
def G1(h:A6)(H:Hp):O A1:=(List.range h.objs.size).filter λa=>(H a).isSome
def Pj(h:A6)(H:Hp):A6:=PySem.W.hideAll h (G1 h H)
theorem Zo(h:A6)(H:Hp):(Pj h H).objs.size=h.objs.size:=PySem.W.hideAll_size _ _
theorem UY{H:Hp}{b:A1}{o:AE}(e:h.get? b=Z o)(n:H b=U):(Pj h H).get? b=Z o:=
 PySem.W.hideAll_get _ e λa=>by
  have q:(H b).isSome=true:=(List.mem_filter.mp a).2;rw[n]at q;simp at q
theorem d4{H:Hp}{b:A1}{o:AE}(e:(Pj h H).get? b=Z o):h.get? b=Z o/\H b=U:=by
 have e':h.get? b=Z o:=PySem.W.of_hideAll (G1 h H) e;refine⟨e',?_⟩;cases q:H b with
 |none=>rfl
 |some x=>
  have a:b∈G1 h H:=List.mem_filter.mpr ⟨List.mem_range.mpr (zw e'),by simp[q]⟩;have z:(Pj h H).get? b=U:=PySem.W.hideAll_none (G1 h H) a;rw[z]at e;cases e
def mi(g h:A6)(L:A1):O (A1×AE):=(List.range h.objs.size).filterMap λa=>if a=L\/(g.get? a).isSome=true then U else(h.get? a).map λo=>(a,o)
def AS(g h:A6)(L d:A1):O (A1×AE):=(mi g h L).filter λp=>decide (p.1≠d)
end L2
namespace L2
structure Mod (K:B1) (mg:Str->Option Value) (base:Heap):Prop where
 kin:K.In base
 glob:base.Ns mainGlobals mg
 blt:∃mb,base.Ns builtinsNs mb/\∀x:Str,x ≠ "__name__" → mb x=bootBuiltins x
 nolimit:base.NoLimit
structure Cx where
 prog:Program
 w:World
 K:B1
 mg:Str->Option Value
 base:Heap
 A:Around
 N:AZ
 s₀:Shared
 H₀:Hp
 env:Env
 outer:List Env
 stack:List Env
 ex:List Addr
 fn:Str->Bool
 calm:Bool
 pn:List (Addr×Obj)
 xe:B7
def Cb(l:O Env):O A1:=l.filterMap (·.frame)
abbrev Cx.fs(X:Cx):O A1:=Cb X.outer
def Xx(sc:Scope)(x:AJ):Prop:=sc.names.lookup x=Z .local\/sc.names.lookup x=Z .cell\/sc.names.lookup x=Z .free
def Cs(sc:Scope)(x:AJ):Prop:=sc.names.lookup x=Z .local\/sc.names.lookup x=Z .cell
def K'(env:Env)(h:A6)(m:AJ->Y A0)(x:AJ)(u:A0):Prop:=
 (env.kindOf x=Z .local/\m x=Z u)\/((env.kindOf x=Z .cell\/env.kindOf x=Z .free)/\∃c,env.cells.lookup x=Z c/\h.IsCell c (Z u))
structure Cx.Ok (X:Cx):Prop where
 mod:Mod X.K X.mg X.base
 kind:X.env.scope.kind=.function
 glob:X.env.globals=mainGlobals
 blt:X.env.builtins=builtinsNs
 above:X.s₀.heap.objs.size<=X.env.locals
 inj:∀x y c,X.env.cells.lookup x=some c->X.env.cells.lookup y=some c->x=y
 has:∀x,(X.env.kindOf x=some .cell\/X.env.kindOf x=some .free)->∃c,X.env.cells.lookup x=some c
 cab:∀x c,X.fn x=true->X.env.cells.lookup x=some c->X.s₀.heap.objs.size<=c
 hd:X.calm=true->X.A.handled=none
 frames:X.A.frames=some X.stack
 stk:X.stack=X.outer\/(X.stack=X.env::X.outer/\X.env.frame=some X.env.locals)
 exf:∀b∈X.ex,b≠X.env.locals/\∀x c,X.env.cells.lookup x=some c->c≠b
 bs:∀b o,X.base.get? b=some o->X.s₀.heap.get? b=some o/\X.H₀ b=none
 bsz:X.base.objs.size<=X.s₀.heap.objs.size
 aaT:∀b o,X.base.get? b=some o->b∉X.ex
 adS:∀b∈X.ex,b∉X.fs
 Il:X.s₀.heap.FunFrames X.base X.outer
 frf:∀b∈X.fs,X.H₀ b=none
structure AU (X:Cx) (AN:List (Addr×Obj)) (σ:List (Option V)) (H:Hp) (s:Shared):Prop where
 ok:X.Ok
 os:s.os=X.s₀.os
 bare:AllBare s.gens
 base:Un X.fs X.ex X.H₀ H X.s₀.heap s.heap
 loc:∃m,s.heap.Ns X.env.locals m/\∀(i:Nat) (x:Str) (v:V),X.N[i]?=some x->σ[i]?=some (some v)->Xx X.env.scope x->∃u,Au v u/\K' X.env s.heap m x u
 cell:∀x c,X.env.cells.lookup x=some c->∃v,s.heap.IsCell c v
 free:H X.env.locals=none
 tB:∀x c,X.env.cells.lookup x=some c->H c=none
 pin:∀p∈X.pn++AN,s.heap.get? p.1=some p.2/\H p.1=none/\p.1≠X.env.locals/\p.1∉X.fs/\∀v,p.2.data≠.cell v
 hok:Az X.prog X.w H s.heap
 len:σ.length=X.N.length
section
variable{X:Cx}{σ:O (Y V)}{H H':Hp}{h':A6}
theorem Cx.Ok.alF(ok:X.Ok){b:A1}{o:AE}(e:X.base.get? b=Z o):b∉X.fs:=λhb=>by
 have:=(ok.Il.mem hb).1;rw[e]at this;cases this
theorem AU.bs(I:AU X AN σ H s):∀b o,X.base.get? b=Z o->s.heap.get? b=Z o/\H b=U:=λb o e=>
 ⟨I.base.keep b o (I.ok.bs b o e).1 (I.ok.bs b o e).2 (I.ok.alF e) (I.ok.aaT b o e),I.base.free b o (I.ok.bs b o e).1 (I.ok.bs b o e).2 (I.ok.aaT b o e)⟩
theorem AU.bk(I:AU X AN σ H s):∀b o,X.base.get? b=Z o->s.heap.get? b=Z o:=λb o e=>(I.bs b o e).1
theorem AU.mod(I:AU X AN σ H s):Mod X.K X.mg X.base:=I.ok.mod
theorem AU.kIn(I:AU X AN σ H s):X.K.In s.heap:=I.ok.mod.kin.keeps I.bk
theorem AU.lt(I:AU X AN σ H s):X.env.locals<s.heap.objs.size:=let ⟨_,hn,_⟩:=I.loc;hn.lt
theorem AU.sz(I:AU X AN σ H s):X.s₀.heap.objs.size<=s.heap.objs.size:=ZO I.ok.above (JJ I.lt)
theorem AU.alG(I:AU X AN σ H s)(h:s.heap.objs.size<=a):a∉X.fs:=λhb=>by
 obtain⟨_,o,b,_⟩:=I.ok.Il.mem hb;exact absurd (ZY (zw b) (ZO I.sz h)) (kg _)
theorem AU.cne(I:AU X AN σ H s):∀x c,X.env.cells.lookup x=Z c->c≠X.env.locals:=λx c e z=>by
 obtain⟨v,o,a,hd⟩:=I.cell x c e;obtain⟨m,⟨o',es,ep,d,b,_⟩,_⟩:=I.loc;rw[z,d]at a;cases a;rw[b]at hd;cases hd
theorem AU.Il(I:AU X AN σ H s):s.heap.FunFrames X.base X.outer:=by
 have all:∀(l:O Env),(∀b∈Cb l,b∈X.fs)->X.s₀.heap.FunFrames X.base l->s.heap.FunFrames X.base l:=by
  intro l
  induction l with
  |nil=>intro _ _;trivial
  |cons env r h=>
   intro hs f;obtain⟨g,⟨L,o,a,d,i,hd⟩,j⟩:=f;have c:L∈X.fs:=hs L (by unfold Cb;rw[Kj,a];exact zh);obtain⟨sl,e⟩:=I.base.slot L o i (I.ok.frf L c) c λz=>I.ok.adS L z c;exact⟨g,⟨L,_,a,d,e,hd⟩,h (λb hb=>hs b (by unfold Cb;rw[Kj,a];exact zi _ hb)) j⟩
 exact all X.outer (λ_ hb=>hb) I.ok.Il
theorem AU.stack(I:AU X AN σ H s):s.heap.FunFrames X.base X.stack:=by
 rcases I.ok.stk with e|⟨e,a⟩
 ·rw[e];exact I.Il
 ·rw[e];obtain⟨m,b,_⟩:=I.loc;refine .cons (by rw[I.ok.kind];decide) a b ?_ I.Il;exact Heap.get?_none_of_le (ZO I.ok.bsz I.ok.above)
theorem AU.Pk(I:AU X AN σ H s):∀b∈Cb X.stack,b∈X.env.locals::X.fs:=λb hb=>by
 rcases I.ok.stk with e|⟨e,a⟩
 ·rw[e]at hb;exact zi _ hb
 ·rw[e]at hb;unfold Cb at hb;rw[Kj,a]at hb;exact hb
theorem AU.Xy(I:AU X AN σ H s):∀b∈Cb X.stack,H b=U:=λb hb=>by
 rcases List.mem_cons.mp (I.Pk b hb)with e|hb
 ·rw[e];exact I.free
 ·obtain⟨_,o,a,_⟩:=I.ok.Il.mem hb;exact I.base.free b o a (I.ok.frf b hb) λz=>I.ok.adS b z hb
theorem AU.step{g':Array GenState}{t':Nat}{d':Drawn}{ch:O A1}(I:AU X AN σ H s)
  (f:∀b∈ch,(b∈X.ex\/X.s₀.heap.objs.size<=b)/\b≠X.env.locals/\(∀x c,X.env.cells.lookup x=Z c->c≠b)/\∀p∈X.pn++AN,p.1≠b)
  (keep:∀b o,b≠X.env.locals->b∉X.fs->b∉ch->s.heap.get? b=Z o->H b=U->h'.get? b=Z o)
  (slot:∀b o,b≠X.env.locals->b∈X.fs->b∉ch->s.heap.get? b=Z o->H b=U->∃sl,h'.get? b=Z { o with slots:=sl }) (free:∀b o,b∉ch->s.heap.get? b=Z o->H b=U->H' b=U)
  (Q:∀b o,b∉ch->s.heap.get? b=Z o->∃o',h'.get? b=Z o')
  (E:∀b xs,H b=Z (.tup xs)->H' b=Z (.tup xs)) (K:∀b o u,H b=Z (.ux o u)->H' b=Z (.ux o u)) (J:∀b ps,H b=Z (.tbl ps)->∃more,H' b=Z (.tbl (ps++more)))
  (G:∀m,s.heap.Ns X.env.locals m->h'.Ns X.env.locals m) (P:Az X.prog X.w H' h') (L:AllBare g'):
  AU X AN σ H' { s with heap:=h',gens:=g',drawn:=d',toks:=t' }:=by
 have y:∀b o,X.s₀.heap.get? b=Z o->b≠X.env.locals:=λb o e=>z4 (ZY (zw e) I.ok.above);have h:∀b o,X.s₀.heap.get? b=Z o->b∉X.ex->b∉ch:=λb o e hx hb=>by
  rcases(f b hb).1 with z|z
  ·exact hx z
  ·exact absurd (ZY (zw e) z) (kg _)
 have B:∀x c,X.env.cells.lookup x=Z c->∀v,s.heap.IsCell c v->h'.IsCell c v:=λx c e v ⟨o,a,hd⟩=>by
  have g:c∉ch:=λz=>(f c z).2.2.1 x c e rfl;by_cases j:c∈X.fs
  ·obtain⟨sl,q⟩:=slot c o (I.cne x c e) j g a (I.tB x c e);exact⟨_,q,hd⟩
  ·exact⟨o,keep c o (I.cne x c e) j g a (I.tB x c e),hd⟩
 refine⟨I.ok,I.os,L,⟨λb o e n hb hx=>?_,λb o e n hb hx=>?_,λb o e n hx=>?_,λb o e hx=>?_,λb xs e=>E b xs (I.base.tups b xs e),λb o xs e=>K b o xs (I.base.Gx b o xs e),λb ps e=>?_⟩,?_,λx c e=>?_,?_,λx c e=>?_,λp hp=>?_,P,I.len⟩
 ·exact keep b o (y b o e) hb (h b o e hx) (I.base.keep b o e n hb hx) (I.base.free b o e n hx)
 ·obtain⟨sl,e1⟩:=I.base.slot b o e n hb hx;obtain⟨F,e2⟩:=slot b _ (y b o e) hb (h b o e hx) e1 (I.base.free b o e n hx);exact⟨F,e2⟩
 ·obtain⟨o',e1⟩:=I.base.there b o e hx;exact free b o' (h b o e hx) e1 (I.base.free b o e n hx)
 ·obtain⟨o',e1⟩:=I.base.there b o e hx;exact Q b o' (h b o e hx) e1
 ·obtain⟨C,e1⟩:=I.base.Le b ps e;obtain⟨M,e2⟩:=J b _ e1;exact⟨C++M,by rw[e2,Array.append_assoc]⟩
 ·obtain⟨m,D,N⟩:=I.loc;refine⟨m,G m D,λi x v e1 e2 e3=>?_⟩;obtain⟨u,r,l⟩:=N i x v e1 e2 e3;refine⟨u,r,?_⟩;rcases l with l|⟨k,c,e,z⟩
  ·exact .inl l
  ·exact .inr ⟨k,c,e,B x c e _ z⟩
 ·obtain⟨v,z⟩:=I.cell x c e;exact⟨v,B x c e v z⟩
 ·obtain⟨m,⟨o,_,_,a,_⟩,_⟩:=I.loc;exact free _ o (λz=>(f _ z).2.1 S) a I.free
 ·obtain⟨v,o,a,hd⟩:=I.cell x c e;exact free c o (λz=>(f c z).2.2.1 x c e S) a (I.tB x c e)
 ·obtain⟨e,n,t,A,d⟩:=I.pin p hp;have g:p.1∉ch:=λz=>(f p.1 z).2.2.2 p hp rfl;exact⟨keep p.1 p.2 t A g e n,free p.1 p.2 g e n,t,A,d⟩
theorem AU.un{t':Nat}(I:AU X AN σ H s)(u:Un X.fs [] H H' s.heap h')(d:Az X.prog X.w H' h'):AU X AN σ H' { s with heap:=h',toks:=t' }:=by
 obtain⟨m,⟨o,es,ep,c,r⟩,_⟩:=id I.loc;obtain⟨sl,h⟩:=u.any c I.free (by simp);exact I.step (g':=s.gens) (d':=s.drawn) (ch:=[]) (λ_ z=>nomatch z) (λb o _ hb _ e n=>u.keep b o e n hb (by simp)) (λb o _ hb _ e n=>u.slot b o e n hb (by simp)) (λb o _ e n=>u.free b o e n (by simp)) (λb o _ e=>u.there b o e (by simp)) u.tups u.Gx u.Le (λl g=>by
  obtain⟨o',f,j,a,i⟩:=g;rw[c]at a;cases a;exact⟨_,f,j,h,i⟩) d I.bare
theorem AU.call{g':Array GenState}{t':Nat}{d':Drawn}{ch:O A1}(I:AU X AN σ H s)(u:Un (Cb X.stack) ch H H' s.heap h')(j:Az X.prog X.w H' h')(i:AllBare g')
  (h:∀b∈ch,(b∈X.ex\/X.s₀.heap.objs.size<=b)/\b≠X.env.locals/\(∀x c,X.env.cells.lookup x=Z c->c≠b)/\∀p∈X.pn++AN,p.1≠b):
  AU X AN σ H' { s with heap:=h',gens:=g',drawn:=d',toks:=t' }:=by
 obtain⟨m,⟨o,es,ep,g,r⟩,_⟩:=id I.loc;obtain⟨sl,d⟩:=u.any g I.free λz=>(h _ z).2.1 rfl;exact I.step (ch:=ch) h (λb o d hb a e n=>u.keep b o e n (λz=>(List.mem_cons.mp (I.Pk b z)).elim d hb) a) (λb o _ _ a e n=>u.any e n a) (λb o a e n=>u.free b o e n a) (λb o a e=>u.there b o e a) u.tups u.Gx u.Le (λy q=>by
  obtain⟨o',l,v,f,t⟩:=q;rw[g]at f;cases f;exact⟨_,l,v,d,t⟩) j i
theorem AU.turned{t':Nat}(I:AU X AN σ H s)(k:∀b o,b≠it->s.heap.get? b=Z o->h'.get? b=Z o)(h:H it=U)(f:it≠X.env.locals)(h1:it∈X.ex\/X.s₀.heap.objs.size<=it)(h2:∀x c,X.env.cells.lookup x=Z c->c≠it)(g:∀p∈X.pn++AN,p.1≠it):AU X AN σ H { s with heap:=h',toks:=t' }:=by
 have d:∀b u,H b=Z u->b≠it:=λb u e z=>by rw[z,h]at e;cases e
 refine I.step (g':=s.gens) (d':=s.drawn) (ch:=[it]) (λb hb=>?_) (λb o _ _ a e _=>k b o (λz=>a (by simp[z])) e) (λb o _ _ a e _=>⟨o.slots,k b o (λz=>a (by simp[z])) e⟩) (λ_ _ _ _ n=>n)
  (λb o a e=>⟨o,k b o (λz=>a (by simp[z])) e⟩) (λ_ _ e=>e) (λ_ _ _ e=>e) (λb ps e=>⟨#[],by rw[e];simp⟩) (λm i=>?_) (λb u e=>?_) I.bare
 ·have e:b=it:=by simpa using hb
  subst e;exact⟨h1,f,h2,g⟩
 ·obtain⟨o,es,ep,j,r⟩:=i;exact⟨o,es,ep,k _ o (KM f) j,r⟩
 ·refine(I.hok b u e).stay (λc v a q=>k c v ?_ q) (λ_ q=>q) λ_ _ q=>q;rcases a with z|z
  ·rw[z];exact d b u e
  ·exact d c _ z
theorem AU.tok(I:AU X AN σ H s)(t:Nat):AU X AN σ H { s with toks:=t }:=I.un (h':=s.heap) (t':=t) Un.refl I.hok
theorem AU.kept{t':Nat}(I:AU X AN σ H s)(k:∀b u,s.heap.get? b=Z u->h'.get? b=Z u):AU X AN σ H { s with heap:=h',toks:=t' }:=I.un (Un.kept k) (I.hok.kept k)
theorem AU.laid{a:A1}{o:HO}{t':Nat}(I:AU X AN σ H s)(k:∀b u,s.heap.get? b=Z u->h'.get? b=Z u)(hp:s.heap.objs.size<=a)(new:iZ X.prog X.w (B4 H a o) h' a o):
  AU X AN σ (B4 H a o) { s with heap:=h',toks:=t' }:=I.un (Un.laid k hp (I.hok.fresh hp)) (I.hok.laid k hp new)
theorem AU.write{x e:A1}{o:HO}{t':Nat}(I:AU X AN σ H s)(c:F3 (H x))(he:e=x\/H e=Z (.own x))(k:∀b u,b≠e->s.heap.get? b=Z u->h'.get? b=Z u)(a:∃u,h'.get? e=Z u)
  (new:iZ X.prog X.w (B4 H x o) h' x o):AU X AN σ (B4 H x o) { s with heap:=h',toks:=t' }:=I.un (Un.write c he k a) (I.hok.write c he k a new)
theorem AU.Pn{a:O (A1×AE)}(I:AU X AN σ H s)(h:∀p∈a,s.heap.get? p.1=Z p.2/\H p.1=U/\p.1≠X.env.locals/\p.1∉X.fs/\∀v,p.2.data≠.cell v):AU X a σ H s:=
 ⟨I.ok,I.os,I.bare,I.base,I.loc,I.cell,I.free,I.tB,λp hp=>(List.mem_append.mp hp).elim (λz=>I.pin p (z5 _ z)) (h p),I.hok,I.len⟩
theorem RX(c:N.Nodup)(a:N[i]?=Z x)(b:N[j]?=Z x):i=j:=by
 obtain⟨h1,e1⟩:=List.getElem?_eq_some_iff.mp a;obtain⟨h2,e2⟩:=List.getElem?_eq_some_iff.mp b;exact(List.getElem_inj c).mp (e1.trans e2.symm)
theorem Zq{v:V}{Q:Unit->A2->Prop}(I:AU X AN σ H s)(hN:X.N.Nodup)(hi:X.N[i]?=Z x)(hx:Cs X.env.scope x)(r:Au v u)(h:∀s',AU X AN (σ.set i (Z v)) H s'->(∃a,Heap.SameBut a s.heap s'.heap/\(a=X.env.locals\/X.env.cells.lookup x=Z a))->Q () s')(hf:X.fn x=true\/X.env.scope.names.lookup x=Z .local:=by first|exact .inl rfl|exact .inr rfl|assumption):A7 M A (storeName X.env x u) Q E s:=by
 obtain⟨m,D,hl⟩:=id I.loc;have a5:(X.env.scope.kind==.class||(X.env.scope.kind==.module&&X.env.locals !=X.env.globals))=false:=by rw[I.ok.kind];rfl
 have W:i<σ.length:=by rw[I.len];exact(List.getElem?_eq_some_iff.mp hi).1
 have cne:=I.cne;have a3:∀{a:A1} {h':A6},(∃o,s.heap.get? a=Z o/\H a=U)->Heap.SameBut a s.heap h'->Az X.prog X.w H h':=λ{a h'} ha hs b ob e=>by
  obtain⟨_,_,a1⟩:=ha;refine(I.hok b ob e).stay (λc t f q=>(hs.2 c ?_).trans q) (λ_ q=>q) λ_ _ q=>q;rintro rfl;rcases f with rfl|f
  ·rw[a1]at e;cases e
  ·rw[a1]at f;cases f
 rcases hx with g|g
 ·refine wpAny_storeName_local g D (λh' a8 hs=>?_) a5;obtain⟨oL,_,_,b3,_⟩:=id D;refine h _ ⟨I.ok,I.os,I.bare,⟨λb o e n hb hx=>?_,λb o e n hb hx=>?_,I.base.free,λb o e hx=>?_,I.base.tups,I.base.Gx,I.base.Le⟩,⟨_,a8,λj y K e1 e2 e3=>?_⟩,λy c e=>?_,I.free,I.tB,λp hp=>?_,a3 ⟨oL,b3,I.free⟩ hs,by simpa using I.len⟩ ⟨_,hs,.inl rfl⟩
  ·exact(hs.2 b (z4 (ZY (zw e) I.ok.above))).trans (I.base.keep b o e n hb hx)
  ·obtain⟨sl,e1⟩:=I.base.slot b o e n hb hx;exact⟨sl,(hs.2 b (z4 (ZY (zw e) I.ok.above))).trans e1⟩
  ·obtain⟨o',e1⟩:=I.base.there b o e hx;exact⟨o',(hs.2 b (z4 (ZY (zw e) I.ok.above))).trans e1⟩
  ·by_cases l:j=i
   ·subst l;rw[hi]at e1;cases e1;rw[List.getElem?_set_self W]at e2;cases e2;exact⟨u,r,.inl ⟨g,by simp⟩⟩
   ·rw[List.getElem?_set_ne (KM l)]at e2;obtain⟨F,G,q⟩:=hl j y K e1 e2 e3;refine⟨F,G,?_⟩;rcases q with⟨k,e⟩|⟨k,c,e,z⟩
    ·refine .inl ⟨k,?_⟩;have:y≠x:=λe=>l (RX hN e1 (e▸hi));simp[this,e]
    ·exact .inr ⟨k,c,e,z.sameBut hs (cne y c e)⟩
  ·obtain⟨t,z⟩:=I.cell y c e;exact⟨t,z.sameBut hs (cne y c e)⟩
  ·obtain⟨e,n,B,L,d⟩:=I.pin p hp;exact⟨(hs.2 p.1 B).trans e,n,B,L,d⟩
 ·have J:X.fn x=true:=by
   rcases hf with z|z
   ·exact z
   ·rw[z]at g;cases g
  obtain⟨c,f⟩:=I.ok.has x (.inl g);obtain⟨t,z⟩:=I.cell x c f;refine wpAny_storeName_cell I.ok.kind g f z (λh' a2 hs=>?_);obtain⟨P,a0,b0⟩:=id z;refine h { s with heap:=h' } ⟨I.ok,I.os,I.bare,⟨λb o e n hb hx=>?_,λb o e n hb hx=>?_,I.base.free,λb o e hx=>?_,I.base.tups,I.base.Gx,I.base.Le⟩,⟨m,D.sameBut hs (KM (cne x c f)),λj y K e1 e2 e3=>?_⟩,λy C e=>?_,I.free,I.tB,λp hp=>?_,a3 ⟨P,a0,I.tB x c f⟩ hs,by simpa using I.len⟩ ⟨c,hs,.inr f⟩
  ·exact(hs.2 b (z4 (ZY (zw e) (I.ok.cab x c J f)))).trans (I.base.keep b o e n hb hx)
  ·obtain⟨sl,e1⟩:=I.base.slot b o e n hb hx;exact⟨sl,(hs.2 b (z4 (ZY (zw e) (I.ok.cab x c J f)))).trans e1⟩
  ·obtain⟨o',e1⟩:=I.base.there b o e hx;exact⟨o',(hs.2 b (z4 (ZY (zw e) (I.ok.cab x c J f)))).trans e1⟩
  ·by_cases l:j=i
   ·subst l;rw[hi]at e1;cases e1;rw[List.getElem?_set_self W]at e2;cases e2;exact⟨u,r,.inr ⟨.inl g,c,f,a2⟩⟩
   ·rw[List.getElem?_set_ne (KM l)]at e2;obtain⟨F,G,q⟩:=hl j y K e1 e2 e3;refine⟨F,G,?_⟩;rcases q with q|⟨k,C,e,z'⟩
    ·exact .inl q
    ·refine .inr ⟨k,C,e,z'.sameBut hs ?_⟩;rintro rfl;exact l (RX hN e1 (I.ok.inj _ _ _ e f▸hi))
  ·by_cases a4:C=c
   ·subst a4;exact⟨_,a2⟩
   ·obtain⟨w2,z2⟩:=I.cell y C e;exact⟨w2,z2.sameBut hs a4⟩
  ·obtain⟨e,n,B,L,d⟩:=I.pin p hp;refine⟨(hs.2 p.1 ?_).trans e,n,B,L,d⟩;intro q;rw[q,a0]at e;have q':P=p.2:=JA e;exact d t (by rw[<-q'];exact b0)
theorem Bc{v:V}{Q:Unit->A2->Prop}(I:AU X AN σ H s)(b:X.N.Nodup)(hi:X.N[i]?=Z x)(hx:Cs X.env.scope x)(r:Au v u)(h:∀s',AU X AN (σ.set i (Z v)) H s'->Q () s')(c:X.fn x=true\/X.env.scope.names.lookup x=Z .local:=by first|exact .inl rfl|exact .inr rfl|assumption):A7 M A (storeName X.env x u) Q E s:=
 Zq I b hi hx r (λs' a _=>h s' a) c
theorem AU.call'{s':A2}{ch:O A1}(I:AU X AN σ H s)(f:s'.os=s.os)(u:Un (Cb X.stack) ch H H' s.heap s'.heap)(a:Az X.prog X.w H' s'.heap)(d:AllBare s'.gens)
  (g:∀b∈ch,(b∈X.ex\/X.s₀.heap.objs.size<=b)/\b≠X.env.locals/\(∀x c,X.env.cells.lookup x=Z c->c≠b)/\∀p∈X.pn++AN,p.1≠b):AU X AN σ H' s':=by
 obtain⟨h',g',d',t',o'⟩:=s';have e:o'=s.os:=f;subst e;exact I.call (g':=g') (t':=t') (d':=d') u a d g
end
abbrev XK:=A0->Y A1->Hp->Prop
abbrev St:=O (Y V)
abbrev VK:=V->Hp->Prop
abbrev TE:=St->Hp->VK->Prop
abbrev TT:=St->Hp->(Bool->Hp->Prop)->Prop
abbrev TA:=St->Hp->(O V->Hp->Prop)->Prop
structure C4 where
 nx:St->Hp->Prop
 rt:VK
 bk:St->Hp->Prop:=λ_ _=>False
 ct:St->Hp->Prop:=λ_ _=>False
abbrev TS:=C4->St->Hp->Prop
def EP(X:Cx)(AN:O (A1×AE))(σ:St)(Q:VK)(u:A0)(s':A2):Prop:=∃v H',AU X AN σ H' s'/\Au v u/\Q v H'
def TP(X:Cx)(AN:O (A1×AE))(σ:St)(Q:Bool->Hp->Prop)(b:Bool)(s':A2):Prop:=∃H',AU X AN σ H' s'/\Q b H'
def AP(X:Cx)(AN:O (A1×AE))(σ:St)(Q:O V->Hp->Prop)(us:O A0)(s':A2):Prop:=∃vs H',AU X AN σ H' s'/\AX vs us/\Q vs H'
def SP(X:Cx)(AN:O (A1×AE))(D:C4)(f:Flow)(s':A2):Prop:=
 match f with
 |.next=>∃ σ' H',AU X AN σ' H' s'/\D.nx σ' H'
 |.brk=>∃ σ' H',AU X AN σ' H' s'/\D.bk σ' H'
 |.cont=>∃ σ' H',AU X AN σ' H' s'/\D.ct σ' H'
 |.ret u=>∃v σ' H',AU X AN σ' H' s'/\Au v u/\D.rt v H'
def PE(X:Cx)(e:Expr)(t:TE):Prop:=
 ∀(AN:O (A1×AE)) (s:A2) (σ:St) (H:Hp) (Q:VK),AU X AN σ H s->t σ H Q->A7 (A8 X.prog X.w) X.A (eval e X.env) (EP X AN σ Q) X.xe s
def PT(X:Cx)(e:Expr)(t:TT):Prop:=
 ∀(AN:O (A1×AE)) (s:A2) (σ:St) (H:Hp) (Q:Bool->Hp->Prop),AU X AN σ H s->t σ H Q->A7 (A8 X.prog X.w) X.A (isTrue e X.env (eval e X.env)) (TP X AN σ Q) X.xe s
def PW(X:Cx)(e:Expr)(t:TT):Prop:=
 ∀(a:Sem A0) (AN:O (A1×AE)) (s:A2) (σ:St) (H:Hp) (Q:Bool->Hp->Prop),AU X AN σ H s->t σ H Q->A7 (A8 X.prog X.w) X.A (isTrue e X.env a) (TP X AN σ Q) X.xe s
theorem PW.pt{X:Cx}{t:TT}(h:PW X e t):PT X e t:=h _
def PA(X:Cx)(es:O Expr)(t:TA):Prop:=
 ∀(pos:Pos) (AN:O (A1×AE)) (s:A2) (σ:St) (H:Hp) (Q:O V->Hp->Prop),AU X AN σ H s->t σ H Q->A7 (A8 X.prog X.w) X.A (spliced (AD pos (A9 es X.env))) (AP X AN σ Q) X.xe s
def PS(X:Cx)(st:AB)(t:TS):Prop:=
 ∀(AN:O (A1×AE)) (s:A2) (σ:St) (H:Hp) (D:C4),AU X AN σ H s->t D σ H->A7 (A8 X.prog X.w) X.A (exec st X.env) (SP X AN D) X.xe s
def Vp(X:Cx)(st:O AB)(t:TS):Prop:=
 ∀(AN:O (A1×AE)) (s:A2) (σ:St) (H:Hp) (D:C4),AU X AN σ H s->t D σ H->A7 (A8 X.prog X.w) X.A (execs st X.env) (SP X AN D) X.xe s
theorem jc{t:Sem α}{Q b:α->A2->Prop}(h:A7 M A t Q E s)(c:∀a s,Q a s->b a s):A7 M A t b E s:=QA h c λ_ _ x=>x
end L2
namespace L2
section
variable{X:Cx}
def No(i:Nat):TE:=λσ H Q=>∃v,σ[i]?=Z (Z v)/\Q v H
def tC(v:V):TE:=λ_ H Q=>Q v H
theorem uy(g:X.N[i]?=Z x)(p:Xx X.env.scope x)(hd:(x==("__debug__":AJ))=false:=by decide)(j:(x==("__classdict__":AJ))=false:=by decide):PE X (.Name x pos) (No i):=by
 intro AN s σ H Q I h;obtain⟨v,e,h⟩:=h;obtain⟨m,n,o⟩:=I.loc;obtain⟨u,r,l⟩:=o i x v g e p;have b:EP X AN σ Q u s:=⟨v,H,I,r,h⟩;rcases l with⟨a,q⟩|⟨a,c,f,d⟩
 ·exact wpAny_Name (wpAny_loadName_local I.ok.kind a n q b) hd
 ·rcases a with a|a
  ·exact wpAny_Name (wpAny_loadName_cell I.ok.kind a f d b) hd
  ·exact wpAny_Name (wpAny_loadName_free I.ok.kind a f d b j) hd
theorem c4{i j pos}:PE X (.Constant (.int i) j pos) (tC (.int i)):=λ_ _ _ H _ I h=>wpAny_Constant_int ⟨.int i,H,I.tok _,⟨_,rfl⟩,h⟩
theorem X1{b j pos}:PE X (.Constant (.bool b) j pos) (tC (.bl b)):=λ_ _ _ H _ I h=>Constant_bool ⟨.bl b,H,I,rfl,h⟩
theorem UI{j pos}:PE X (.Constant .none j pos) (tC .non):=λ_ _ _ H _ I h=>Constant_none ⟨.non,H,I,rfl,h⟩
theorem na{x j pos}:PE X (.Constant (.str x) j pos) (tC (.str x)):=λ_ _ _ H _ I h=>Calls.Constant_str ⟨.str x,H,I.tok _,⟨_,rfl⟩,h⟩
def Gl(X:Cx)(x:AJ):Prop:=X.env.kindOf x=Z .globalImplicit
theorem Xz{σ:St}{H:Hp}{Q:B7}(I:AU X AN σ H s)(b:Gl X x)(a:X.mg x=Z u)(h:Q u s)(hd:(x==("__debug__":AJ))=false:=by decide):A7 (A8 X.prog X.w) X.A (eval (.Name x pos) X.env) Q E s:=
 Calls.Name_function_global I.ok.kind b (Calls.loadGlobal_global (by rw[I.ok.glob];exact I.mod.glob.keeps I.bk) a h) hd
theorem Pq{σ:St}{H:Hp}{Q:B7}(I:AU X AN σ H s)(a:Gl X x)(d:X.mg x=U)(c:AH x=Z u)(h:Q u s)(b:x ≠ "__name__":=by decide)(hd:(x==("__debug__":AJ))=false:=by decide):A7 (A8 X.prog X.w) X.A (eval (.Name x pos) X.env) Q E s:=by
 obtain⟨e,h1,h2⟩:=I.mod.blt;exact Calls.Name_function_global I.ok.kind a (Calls.loadGlobal_builtin (by rw[I.ok.glob];exact I.mod.glob.keeps I.bk) d (by rw[I.ok.blt];exact h1.keeps I.bk) ((h2 x b).trans c) h) hd
theorem nI{v:V}(b:Gl X x)(a:X.mg x=Z u)(r:Au v u)(hd:(x==("__debug__":AJ))=false:=by decide):PE X (.Name x pos) (tC v):=
 λ_ _ _ H _ I h=>Xz I b a ⟨v,H,I,r,h⟩ hd
variable{a b:Expr}{ta tb:TE}
variable{tA tB':TT}{AS:O Expr}
def MA(t u:TT):TT:=λσ H Q=>t σ H λc H1=>if c=true then u σ H1 Q else Q false H1
def LN(t u:TT):TT:=λσ H Q=>t σ H λc H1=>if c=true then Q true H1 else u σ H1 Q
def XG(t:TT):TT:=λσ H Q=>t σ H λc H1=>Q (!c) H1
theorem VA(b:PT X a tA):PW X (.BoolOp .And [a] pos) tA:=by
 intro f AN s σ H Q I h;refine isTrue_and (jc (b AN s σ H Q I h) λc d e=>?_);cases c with
 |true=>exact isTrue_and_nil e
 |false=>exact e
theorem d6(b:PT X a tA):PW X (.BoolOp .Or [a] pos) tA:=by
 intro f AN s σ H Q I h;refine isTrue_or (jc (b AN s σ H Q I h) λc d e=>?_);cases c with
 |false=>exact isTrue_or_nil e
 |true=>exact e
theorem Y2(e:PT X a tA)(hb:PW X (.BoolOp .And (b::AS) pos) tB'):PW X (.BoolOp .And (a::b::AS) pos) (MA tA tB'):=by
 intro d AN s σ H Q I h;refine isTrue_and (jc (e AN s σ H _ I h) λc s1 ⟨H1,I1,q1⟩=>?_);cases c with
 |true=>exact hb d AN s1 σ H1 Q I1 q1
 |false=>exact⟨H1,I1,q1⟩
theorem Se(e:PT X a tA)(hb:PW X (.BoolOp .Or (b::AS) pos) tB'):PW X (.BoolOp .Or (a::b::AS) pos) (LN tA tB'):=by
 intro d AN s σ H Q I h;refine isTrue_or (jc (e AN s σ H _ I h) λc s1 ⟨H1,I1,q1⟩=>?_);cases c with
 |true=>exact⟨H1,I1,q1⟩
 |false=>exact hb d AN s1 σ H1 Q I1 q1
theorem ap(b:PT X a tA):PT X (.UnaryOp .Not a pos) (XG tA):=by
 intro AN s σ H Q I h;exact isTrue_not (b AN s σ H (λc H1=>Q (!c) H1) I h)
def bj(ta tb:TE):TE:=λσ H Q=>ta σ H λx H1=>∃c,x=.bl c/\if c=true then tb σ H1 Q else Q (.bl false) H1
theorem c5{op}{t:TE}(h:PE X a t):PE X (.BoolOp op [a] pos) t:=λAN s σ H Q I b=>BoolOp_one (h AN s σ H Q I b)
theorem iN(d:PE X a ta)(hb:PE X (.BoolOp .And (b::AS) pos) tb):PE X (.BoolOp .And (a::b::AS) pos) (bj ta tb):=by
 intro AN s σ H Q I h;refine BoolOp_and (jc (d AN s σ H _ I h) λv s1 ⟨x,H1,I1,r1,q1⟩=>?_);obtain⟨c,rfl,q1⟩:=q1;cases r1;refine kz ?_;cases c with
 |true=>exact hb AN s1 σ H1 Q I1 q1
 |false=>exact⟨.bl false,H1,I1,rfl,q1⟩
def eg(t:TT)(ta tb:TE):TE:=λσ H Q=>t σ H λc H1=>if c=true then ta σ H1 Q else tb σ H1 Q
theorem jp(e:PT X c tA)(f:PE X a ta)(hb:PE X b tb):PE X (.IfExp c a b pos) (eg tA ta tb):=by
 intro AN s σ H Q I h;refine wpAny_IfExp (jc (e AN s σ H _ I h) λd s1 ⟨H1,I1,q1⟩=>?_);cases d with
 |true=>exact f AN s1 σ H1 Q I1 q1
 |false=>exact hb AN s1 σ H1 Q I1 q1
end
end L2
namespace L2
def vI(K:B1)(H:Hp)(a:A1)(xs:O V):Prop:=
 Rd H a (.lst xs) ∨
  ∃(o:AE) (AQ:Array A0) (n:Nat),K.lookup a=Z o/\o.cls=.type "list" ∧ o.dict=U/\o.data=.seq AQ n/\AQ.size<=AA/\AX xs AQ.toList
def Bd(K:B1)(H:Hp)(a:A1)(xs:O V):Prop:=
 Rd H a (.tup xs) ∨
  ∃(o:AE) (AQ:Array A0) (n:Nat),K.lookup a=Z o/\(o.cls=.type "tuple" ∧ o.dict=U)/\o.data=.seq AQ n/\AQ.size<=AA/\AX xs AQ.toList
def IP:A0->Y V
 |.none=>Z .non
 |.bool b=>Z (.bl b)
 |.int i _=>Z (.int i)
 |.str x _=>Z (.str x)
 |.bytes b _=>Z (.byt b)
 |.float b _=>Z (.flt b)
 |.ref a=>Z (.ref a)
 |.type n=>Z (.ty n)
 |_=>U
theorem Au.abs{x:V}(r:Au x u):IP u=Z x:=by
 cases x with
 |non=>cases r;rfl
 |bl _=>cases r;rfl
 |int _=>obtain⟨t,rfl⟩:=r;rfl
 |str _=>obtain⟨t,rfl⟩:=r;rfl
 |byt _=>obtain⟨t,rfl⟩:=r;rfl
 |flt _=>obtain⟨t,rfl⟩:=r;rfl
 |ref _=>cases r;rfl
 |ty _=>cases r;rfl
theorem Au.inj{x y:V}{u:A0}(r:Au x u)(q:Au y u):x=y:=JA (r.abs.symm.trans q.abs)
theorem AX.inj:∀{xs ys:O V} {us:O A0},AX xs us->AX ys us->xs=ys
 |_,_,_,.nil,.nil=>rfl
 |_,_,_,.cons r t,.cons r' t'=>by rw[r.inj r',AX.inj t t']
section
variable{X:Cx}{σ:St}{H:Hp}{xs ys:O V}
theorem AU.list(I:AU X AN σ H s)(h:vI X.K H a xs):∃AQ:O A0,AX xs AQ/\PlainL s.heap a AQ.toArray/\xs.length<=AA:=by
 rcases h with h|⟨o,AQ,n,b,c,hd,hs,d,r⟩
 ·obtain⟨z,AQ,n,r,e⟩:=h.ok I.hok;exact⟨AQ,r,⟨_,n,e,rfl,rfl,rfl⟩,z⟩
 ·refine⟨AQ.toList,r,⟨o,n,I.kIn a o b,c,hd,by simpa using hs⟩,?_⟩;have e:=r.length;simp only[qA]at e;omega
theorem AU.tuple(I:AU X AN σ H s)(h:Bd X.K H a xs):∃AQ:O A0,AX xs AQ/\IsTup s.heap a AQ.toArray/\xs.length<=AA:=by
 rcases h with h|⟨o,AQ,n,b,c,hs,d,r⟩
 ·obtain⟨z,AQ,r,p⟩:=h.ok I.hok;exact⟨AQ,r,p.weak,z⟩
 ·refine⟨AQ.toList,r,⟨o,I.kIn a o b,c.1,n,by simpa using hs⟩,?_⟩;have e:=r.length;simp only[qA]at e;omega
theorem AU.Im(I:AU X AN σ H s)(h:vI X.K H a xs)(h':vI X.K H a ys):xs=ys:=by
 obtain⟨AQ,r,⟨o,n,e,_,_,d⟩,_⟩:=I.list h;obtain⟨c,f,⟨o',i,e',_,_,b⟩,_⟩:=I.list h';rw[e]at e';cases e';rw[d]at b;injection b with g _;have:AQ=c:=by simpa using congrArg Array.toList g
 subst this;exact r.inj f
theorem AU.Nh(I:AU X AN σ H s)(h:Bd X.K H a xs)(h':Bd X.K H a ys):xs=ys:=by
 obtain⟨AQ,r,⟨o,e,_,n,d⟩,_⟩:=I.tuple h;obtain⟨c,f,⟨o',e',_,i,b⟩,_⟩:=I.tuple h';rw[e]at e';cases e';rw[d]at b;injection b with g _;have:AQ=c:=by simpa using congrArg Array.toList g
 subst this;exact r.inj f
end
abbrev Cx.wish(X:Cx)(E:B7):Cx:={ X with xe:=E }
abbrev Cx.nox(X:Cx):Cx:=X.wish λ_ _=>False
theorem Cx.Ok.wish{X:Cx}(ok:X.Ok)(E:B7):(X.wish E).Ok:=
 ⟨ok.mod,ok.kind,ok.glob,ok.blt,ok.above,ok.inj,ok.has,ok.cab,ok.hd,ok.frames,ok.stk,ok.exf,ok.bs,ok.bsz,ok.aaT,ok.adS,ok.Il,ok.frf⟩
theorem Cx.Ok.w5{X:Cx}(ok:(X.wish E).Ok):X.Ok:=
 ⟨ok.mod,ok.kind,ok.glob,ok.blt,ok.above,ok.inj,ok.has,ok.cab,ok.hd,ok.frames,ok.stk,ok.exf,ok.bs,ok.bsz,ok.aaT,ok.adS,ok.Il,ok.frf⟩
section
variable{X:Cx}{σ:St}{H:Hp}
theorem AU.wish(I:AU X AN σ H s)(E:B7):AU (X.wish E) AN σ H s:=⟨I.ok.wish E,I.os,I.bare,I.base,I.loc,I.cell,I.free,I.tB,I.pin,I.hok,I.len⟩
theorem AU.w5(I:AU (X.wish E) AN σ H s):AU X AN σ H s:=⟨I.ok.w5,I.os,I.bare,I.base,I.loc,I.cell,I.free,I.tB,I.pin,I.hok,I.len⟩
theorem SP.w5{D:C4}{f:Flow}{s':A2}(h:SP (X.wish E) AN D f s'):SP X AN D f s':=by
 cases f with
 |next=>obtain⟨σ',H',I,q⟩:=h;exact⟨σ',H',I.w5,q⟩
 |brk=>obtain⟨σ',H',I,q⟩:=h;exact⟨σ',H',I.w5,q⟩
 |cont=>obtain⟨σ',H',I,q⟩:=h;exact⟨σ',H',I.w5,q⟩
 |ret u=>obtain⟨v,σ',H',I,r,q⟩:=h;exact⟨v,σ',H',I.w5,r,q⟩
theorem Vp.nox{st:O AB}{t:TS}(h:Vp X.nox st t):Vp X st t:=λAN s σ H D I a=>
 QA (h AN s σ H D (I.wish _) a) (λ_ _ q=>q.w5) λ_ _ z=>False.elim z
end
section
variable{X:Cx}{st:AB}{AS:O AB}{t u:TS}{te:TE}
def nL:TS:=λD σ H=>D.nx σ H
def UR(t u:TS):TS:=λD σ H=>t { D with nx:=u D } σ H
theorem XC:Vp X [] nL:=λ_ _ σ H _ I h=>wpAny_execs_nil ⟨σ,H,I,h⟩
theorem Io(h1:PS X st t)(h2:Vp X AS u):Vp X (st::AS) (UR t u):=by
 intro AN s σ H D I h;refine wpAny_execs_cons (jc (h1 AN s σ H { D with nx:=u D } I h) λf b q=>?_);cases f with
 |next=>
  obtain⟨σ',H',a,q⟩:=q;exact h2 AN b σ' H' D a q
 |ret v=>exact q
 |brk=>exact q
 |cont=>exact q
theorem AU.quiet{σ:St}{H:Hp}(I:AU X AN σ H s):interactive X.env=false:=by simp[interactive,I.ok.kind]
def PR(te:TE):TS:=λD σ H=>te σ H λ_ H1=>D.nx σ H1
theorem Pr(he:PE X e te)(hs:swapsWith e U pos.line X.env=pure false:=by rfl):PS X (.Expr e pos) (PR te):=by
 intro AN s σ H D I h;exact wpAny_Expr_any (jc (he AN s σ H _ I h) λv s1 ⟨x,H1,I1,r1,q1⟩=>⟨σ,H1,I1,q1⟩) I.quiet hs
def UV(te:TE):TS:=λD σ H=>te σ H D.rt
theorem Vv(he:PE X e te):PS X (.Return (Z e) pos) (UV te):=by
 intro AN s σ H D I h;exact wpAny_Return_some (jc (he AN s σ H _ I h) λv s1 ⟨x,H1,I1,r1,q1⟩=>⟨x,σ,H1,I1,r1,q1⟩)
def WJ(c:TT)(t u:TS):TS:=λD σ H=>c σ H λb H1=>if b=true then t D σ H1 else u D σ H1
theorem ca{a b:O AB}{tc:TT}(e:PT X c tc)(f:Vp X a t)(hb:Vp X b u):PS X (.If c a b pos) (WJ tc t u):=by
 intro AN s σ H D I h;refine wpAny_If (jc (e AN s σ H _ I h) λd s1 ⟨H1,I1,q1⟩=>?_);cases d with
 |true=>exact f AN s1 σ H1 D I1 q1
 |false=>exact hb AN s1 σ H1 D I1 q1
end
abbrev TG:=V->St->Hp->(St->Hp->Prop)->Prop
abbrev EA:=O V->St->Hp->(St->Hp->Prop)->Prop
def PG(X:Cx)(a:Expr)(t:TG):Prop:=
 ∀(AN:O (A1×AE)) (s:A2) (σ:St) (H:Hp) (v:V) (u:A0) (Q:St->Hp->Prop),AU X AN σ H s->Au v u->t v σ H Q →
  A7 (A8 X.prog X.w) X.A (assign a X.env u) (λ_ s'=>∃ σ' H',AU X AN σ' H' s'/\Q σ' H') X.xe s
def Vw(X:Cx)(ts:O Expr)(t:EA):Prop:=
 ∀(AN:O (A1×AE)) (s:A2) (σ:St) (H:Hp) (vs:O V) (us:O A0) (Q:St->Hp->Prop),AU X AN σ H s->AX vs us->t vs σ H Q →
  A7 (A8 X.prog X.w) X.A (assignInOrder ((assignEach ts X.env).map (·.2)) us) (λ_ s'=>∃ σ' H',AU X AN σ' H' s'/\Q σ' H') X.xe s
section
variable{X:Cx}
def PC(i:Nat):TG:=λv σ H Q=>Q (σ.set i (Z v)) H
theorem Ho(b:X.N.Nodup)(hi:X.N[i]?=Z x)(hx:Cs X.env.scope x)(c:X.fn x=true\/X.env.scope.names.lookup x=Z .local:=by first|exact .inl rfl|exact .inr rfl|assumption):PG X (.Name x pos) (PC i):=by
 intro AN s σ H v u Q I r h;exact wpAny_assign_Name (Bc I b hi hx r (λs' a=>⟨_,H,a,h⟩) c)
def RY:EA:=λvs σ H Q=>vs=[]/\Q σ H
def SH(t:TG)(u:EA):EA:=λvs σ H Q=>∃v r,vs=v::r/\t v σ H λσ' H'=>u r σ' H' Q
theorem XD:Vw X [] RY:=by
 intro AN s σ H vs us Q I r h;obtain⟨e,h⟩:=h;subst e;cases r;exact assignInOrder_nil ⟨σ,H,I,h⟩
theorem Ip{t:TG}{u:EA}(h1:PG X e t)(h2:Vw X es u)(hs:(assignEach (e::es) X.env).map (·.2)=assign e X.env::(assignEach es X.env).map (·.2):=by rfl):Vw X (e::es) (SH t u):=by
 intro AN s σ H vs us Q I r h;obtain⟨v,a,e1,h⟩:=h;subst e1;cases r with
 |cons r rr=>
  rw[hs];refine assignInOrder_cons (jc (h1 AN s σ H _ _ _ I r h) λ_ s1 ⟨σ1,H1,I1,q1⟩=>?_);exact h2 AN s1 σ1 H1 _ _ Q I1 rr q1
def f6(K:B1)(n:Nat)(t:EA):TG:=λv σ H Q=>∃a xs,v=.ref a/\Bd K H a xs/\xs.length=n/\t xs σ H Q
theorem Lu{k:Nat}{t:EA}(m:X.calm=true)(h:Vw X es t)(f:(assignEach es X.env).length=n:=by rfl)(j:(assignEach es X.env).findIdx? (·.1)=U:=by rfl):PG X (.Tuple es k pos) (f6 X.K n t):=by
 intro AN s σ H v u Q I r c;obtain⟨a,xs,e1,p,g,c⟩:=c;subst e1;cases r;obtain⟨AQ,d,l,q⟩:=I.tuple p;refine assign_Tuple_tuple (I.ok.hd m) l (by simp[f,<-g,d.length]) j λh' hx=>?_;have i:AU X AN σ H { s with heap:=h' }:=I.kept (t':=s.toks) λb o e=>hx b o (z4 (zw e)) e;exact h AN _ σ H xs _ Q i (by simpa using d) c
def MO(te:TE)(g:TG):TS:=λD σ H=>te σ H λx H1=>g x σ H1 D.nx
theorem MR{te:TE}{g:TG}(he:PE X e te)(a:PG X tg g)(hs:swapsWithSole [tg] e pos.line X.env=pure false:=by rfl)(b:swappedStores [tg] e X.env=pure U:=by rfl)(h1:(assignEach [tg] X.env).map (·.2)=[assign tg X.env]:=by rfl):PS X (.Assign [tg] e pos) (MO te g):=by
 intro AN s σ H D I h;refine wpAny_Assign_stores (jc (he AN s σ H _ I h) λv s1 ⟨x,H1,I1,r1,q1⟩=>?_) hs b;rw[h1];exact jc (a AN s1 σ H1 x v _ I1 r1 q1) λ_ c q=>q
theorem P5{te:TE}{pos':Pos}(b:X.N.Nodup)(hi:X.N[i]?=Z x)(hx:Cs X.env.scope x)(he:PE X e te)(hs:swapsWith e (Z (.Name x pos')) pos.line X.env=pure false:=by rfl)(a:X.fn x=true\/X.env.scope.names.lookup x=Z .local:=by first|exact .inl rfl|exact .inr rfl|assumption):
  PS X (.Assign [.Name x pos'] e pos) (MO te (PC i)):=by
 intro AN s σ H D I h;refine wpAny_Assign_Name (jc (he AN s σ H _ I h) λv s1 ⟨y,H1,I1,r1,q1⟩=>?_) hs;exact Bc I1 b hi hx r1 (λd c=>⟨_,H1,c,q1⟩) a
def XV(i j:Nat)(ta:TA):TS:=λD σ H=>ta σ H λvs H1=>∃v w,vs=[v,w]/\D.nx ((σ.set i (Z v)).set j (Z w)) H1
theorem Tx{a b:Expr}{ta:TA}{px py pt:Pos}{kt k2 pt2}(u:X.calm=true)(f:X.N.Nodup)(hi:X.N[i]?=Z x)(m:X.N[j]?=Z y)(K:i≠j)(hx:X.env.scope.names.lookup x=Z .local)(g:X.env.scope.names.lookup y=Z .local)(B:PA X [a,b] ta)(t:swappedStores [.Tuple [.Name x px,.Name y py] kt pt] (.Tuple [a,b] k2 pt2) X.env=pure (Z [x,y]))(hs:swapsWithSole [.Tuple [.Name x px,.Name y py] kt pt] (.Tuple [a,b] k2 pt2) pos.line X.env=pure false:=by rfl):
  PS X (.Assign [.Tuple [.Name x px,.Name y py] kt pt] (.Tuple [a,b] k2 pt2) pos) (XV i j ta):=by
 intro AN s σ H D I h;rw[exec_Assign_arm];refine zd (Kk ?_);rw[hs];refine zd (zg ?_);rw[zD (by decide)];refine zd (Tuple_ (jc (B _ AN s σ H _ I h) λus s1 ⟨vs,H1,I1,r1,q1⟩=>?_));obtain⟨v,w,e1,q1⟩:=q1;subst e1;obtain⟨d,c,rfl,J,n⟩:∃d c,us=[d,c]/\Au v d/\Au w c:=by
  cases r1 with
  |cons p q=>
   cases q with
   |cons p' E=>
    cases E;exact⟨_,_,rfl,p,p'⟩
 refine qi ?_ (by show 2<=AA;decide);have C:AU X AN σ H1 { s1 with heap:=s1.heap.push { cls:=.type "tuple",data:=.seq [d,c].toArray } }:=I1.kept (t':=s1.toks) λb o e=>ze _ e;rw[t];refine zd (zg ?_);show A7 (A8 X.prog X.w) X.A (do rule "assign.swapped-stores"; let items <-unpackItems (.ref s1.heap.objs.size) 2 U;assignInOrder [λv=>bindName X.env y v,λv=>bindName X.env x v] items.reverse;pure Flow.next) _ _ _;refine zd (Kx (zd (unpackItems_tuple (items:=#[d,c]) (I.ok.hd u) (IsTup.new s1.heap _) λh' z=>?_)));have F:=C.kept (h':=h') (t':=s1.toks) λb o e=>z b o (z4 (zw e)) e;show A7 _ _ (assignInOrder [λv=>bindName X.env y v,λv=>bindName X.env x v] [c,d] >>= λ_=>pure Flow.next) _ _ _;refine zd (assignInOrder_cons (wpAny_bindName (Bc F f m (.inl g) n (λL G=>?_) (.inr g))));refine assignInOrder_cons (wpAny_bindName (Bc G f hi (.inl hx) J (λM l=>assignInOrder_nil (zg ?_)) (.inr hx)));rw[List.set_comm _ _ (KM K)]at l;exact⟨_,H1,l,q1⟩
def gz(c:TT)(tb:TS):TS:=λD σ H=>∃W:Nat->St->Hp->Prop,(∃m,W m σ H)/\∀m σ H,W m σ H →
 c σ H λb H1=>if b=true then ∃N:St->Hp->Prop,(∀ σ' H',N σ' H'->∃a,a<m/\W a σ' H')/\tb { D with nx:=N,ct:=N,bk:=D.nx } σ H1 else D.nx σ H1
theorem U'{tc:TT}{tb:TS}(hp:PassesOwn (A8 X.prog X.w) X.A X.env X.xe)(z:PT X c tc)(hb:Vp X body tb):PS X (.While c body [] pos) (gz tc tb):=by
 intro AN s σ H D I h;obtain⟨W,⟨q,t⟩,turn⟩:=h;refine wpAny_While (codeAny_whileLoop (λn s'=>∃ σ' H',AU X AN σ' H' s'/\W n σ' H') ?_ q ⟨σ,H,I,t⟩);rintro n u ⟨g,H1,x,y⟩;refine kL hp (jc (z AN u g H1 _ x (turn n g H1 y)) λb s2 ⟨H2,I2,q2⟩=>?_);cases b with
 |true=>
  obtain⟨N,p,q2⟩:=q2;rw[zr rfl];refine kL hp (jc (hb AN s2 g H2 _ I2 q2) λf B e=>?_);cases f with
  |next=>
   obtain⟨a,d,j,i⟩:=e;obtain⟨l,m,o⟩:=p a d i;exact⟨l,m,a,d,j,o⟩
  |cont=>
   obtain⟨a,d,j,i⟩:=e;obtain⟨l,m,o⟩:=p a d i;exact⟨l,m,a,d,j,o⟩
  |brk=>exact e
  |ret v=>exact e
 |false=>
  rw[zD ZH];exact wpAny_execs_nil ⟨g,H2,I2,q2⟩
end
structure It where
 go:Nat->Hp->Prop
 yld:Nat->Hp->V->Hp->Prop
 stop:Nat->Hp->Prop
def uz(X:Cx)(AN:O (A1×AE))(H:Hp)(b:A1):Prop:=
 H b=U/\b≠X.env.locals/\b∉X.fs/\(b∈X.ex\/X.s₀.heap.objs.size<=b)/\(∀x c,X.env.cells.lookup x=Z c->c≠b)/\∀p∈X.pn++AN,p.1≠b
theorem AU.Vx{X:Cx}{σ:St}{H H':Hp}{b:A1}(I:AU X AN σ H s)(hb:s.heap.objs.size<=b)(a:H' b=U):uz X AN H' b:=by
 refine⟨a,Kb (ZY I.lt hb),I.alG hb,.inr (ZO I.sz hb),λx c e z=>?_,λp hp z=>?_⟩
 ·obtain⟨v,q⟩:=I.cell x c e;exact absurd (ZY q.lt (by rw[z];exact hb)) (kg _)
 ·exact absurd (ZY (zw (I.pin p hp).1) (by rw[z];exact hb)) (kg _)
structure C2 (P:Program) (w:World) (K:B1) (tg:Expr) (J:It) (fp:List Addr) (it:Addr) (tn:Nat->Heap->Prop):Prop where
 mem:it∈fp
 obj:∀i h,tn i h->∀b∈fp,∃o,h.get? b=some o/\∀v,o.data≠.cell v
 keep:∀i h h',tn i h->(∀b∈fp,∀o,h.get? b=some o->h'.get? b=some o)->tn i h'
 item:∀(X:Cx),X.prog=P->X.w=w->X.K=K->X.calm=true->∀(i:Nat) (AN:List (Addr×Obj)) (s:Shared) (σ:St) (H:Hp) (E:B7),AU X AN σ H s->(∀b∈fp,uz X AN H b)->tn i s.heap->J.go i H →
  wpAny (model P w) X.A (pyNext (.ref it)) (λr s1=>∃u,r=some u ∧
   wpAny (model P w) X.A (letOwnedTupleGo tg (.ref it) u) (λ_ s2=>∃x H',AU X AN σ H' s2/\Au x u/\J.yld i H x H'/\tn (i+1) s2.heap/\∀b∈fp,H' b=none) E s1) E s
 done:∀(X:Cx),X.prog=P->X.w=w->X.K=K->X.calm=true->∀(i:Nat) (AN:List (Addr×Obj)) (s:Shared) (σ:St) (H:Hp) (E:B7),AU X AN σ H s->(∀b∈fp,uz X AN H b)->tn i s.heap->J.stop i H →
  wpAny (model P w) X.A (pyNext (.ref it)) (λr s1=>r=none/\AU X AN σ H s1) E s
 self:∀(A:Around) (i:Nat) (s:Shared) (Q:B7) (E:B7),tn i s.heap->Q (.ref it) s->wpAny (model P w) A (pyIter (.ref it)) Q E s
abbrev TI:=St->Hp->(It->Hp->Prop)->Prop
def N9(X:Cx)(AN:O (A1×AE))(σ:St)(tg:Expr)(R:It->Hp->Prop)(c:A0)(a:A2):Prop:=
 ∃(it:A1) (fp:O A1) (tn:Nat->A6->Prop) (J:It) (H':Hp),c=.ref it/\AU X AN σ H' a/\C2 X.prog X.w X.K tg J fp it tn/\tn 0 a.heap/\(∀b∈fp,uz X AN H' b)/\R J H'
def PI(X:Cx)(tg iter:Expr)(a:TI):Prop:=
 ∀(AN:O (A1×AE)) (s:A2) (σ:St) (H:Hp) (R:It->Hp->Prop),AU X AN σ H s->a σ H R →
  A7 (A8 X.prog X.w) X.A (eval iter X.env) (λv b=>A7 (A8 X.prog X.w) X.A (pyIter v) (N9 X AN σ tg R) X.xe b) X.xe s
theorem Ni{o:AE}{n:String}{vs:Array A0}{Q:Unit->A2->Prop}(b:s.heap.get? it=Z o)(c:o.cls=.type n)(hd:o.data=.fields vs)(d:["enumerate","zip","dict_itemiterator","dict_reverseitemiterator","odict_iterator","itertools.zip_longest","itertools.pairwise"].contains n=false)(a:Q () s):A7 M A (letOwnedTupleGo tg (.ref it) u) Q E s:=by
 unfold letOwnedTupleGo;cases tg<;>first
  |exact zg a
  |(cases u<;>first
    |exact zg a
    |(refine zd (yv b ?_)
      rw[c,hd];show A7 M A (if(["enumerate","zip","dict_itemiterator","dict_reverseitemiterator","odict_iterator","itertools.zip_longest","itertools.pairwise"].contains n&&vs[0]?==Z (rawInt _))=true then _ else _) Q E s;rw[zD (by intro h;rw[d,KP]at h;cases h)];exact zg a))
def HK(K:B1)(a:A1):It:=
 ⟨λi H=>∃xs x,vI K H a xs/\xs[i]?=Z x,λi H x H'=>H'=H/\∀xs,vI K H a xs->xs[i]?=Z x,λi H=>∃xs,vI K H a xs/\xs.length<=i⟩
def IR(K:B1)(a:A1):It:=
 ⟨λi H=>∃xs x,Bd K H a xs/\xs[i]?=Z x,λi H x H'=>H'=H/\∀xs,Bd K H a xs->xs[i]?=Z x,λi H=>∃xs,Bd K H a xs/\xs.length<=i⟩
def GU(lo:Int)(n:Nat):It:=⟨λi _=>i<n,λi H x H'=>H'=H/\x=.int (lo+i),λi _=>n<=i⟩
theorem Zr(a it:A1):C2 P w K tg (HK K a) [it] it (λi h=>h.IsListIter it a i) where
 mem:=by simp
 obj:=λi h st b hb=>by
  have e:b=it:=by simpa using hb
  subst e;obtain⟨o,e,c,d⟩:=st;exact⟨o,e,λv z=>by rw[d]at z;cases z⟩
 keep:=λi h h' st k=>st.at λo e=>k it (by simp) o e
 item:=by
  intro X j l n B i AN s σ H E I f st t;subst j l n;obtain⟨xs,x,g,hx⟩:=t;obtain⟨AQ,A,p,M⟩:=I.list g;obtain⟨u,G,D⟩:=A.get hx;obtain⟨f0,f1,f2,q,m,y⟩:=f it (by simp);refine wpAny_pyNext_list_item st p.isList (x:=u) (by simpa using G) λh' C J=>?_;have F:AU X AN σ H { s with heap:=h' }:=I.turned (t':=s.toks) (λb o hb e=>(J.2 b hb).trans e) f0 f1 q m y;obtain⟨o,e,c,d⟩:=id C;exact⟨u,rfl,Ni (s:={ s with heap:=h' }) e c d (by decide) ⟨x,H,F,D,⟨rfl,λys L=>by rw[I.Im L g];exact hx⟩,C,λb hb=>(f b hb).1⟩⟩
 done:=by
  intro X j l n B i AN s σ H E I f st t;subst j l n;obtain⟨xs,g,hx⟩:=t;obtain⟨AQ,A,p,M⟩:=I.list g;obtain⟨f0,f1,f2,q,m,y⟩:=f it (by simp);have N:=A.length;exact wpAny_pyNext_list_end (I.ok.hd B) st p.isList (by simp;omega) λh' eb=>⟨rfl,I.turned (t':=s.toks) (λb o hb e=>eb b o hb e) f0 f1 q m y⟩
 self:=λ_ _ _ _ _ st h=>wpAny_pyIter_listiter st h
theorem Vy(a it:A1):C2 P w K tg (IR K a) [it] it (λi h=>h.IsTupleIter it a i) where
 mem:=by simp
 obj:=λi h st b hb=>by
  have e:b=it:=by simpa using hb
  subst e;obtain⟨o,e,c,d⟩:=st;exact⟨o,e,λv z=>by rw[d]at z;cases z⟩
 keep:=λi h h' st k=>st.at λo e=>k it (by simp) o e
 item:=by
  intro X j l n B i AN s σ H E I f st t;subst j l n;obtain⟨xs,x,g,hx⟩:=t;obtain⟨AQ,A,p,M⟩:=I.tuple g;obtain⟨u,G,D⟩:=A.get hx;obtain⟨f0,f1,f2,q,m,y⟩:=f it (by simp);refine wpAny_pyNext_tuple_item st (show s.heap.IsTuple a AQ.toArray from p) (x:=u) (by simpa using G) λh' C J=>?_;have F:AU X AN σ H { s with heap:=h' }:=I.turned (t':=s.toks) (λb o hb e=>(J.2 b hb).trans e) f0 f1 q m y;obtain⟨o,e,c,d⟩:=id C;exact⟨u,rfl,Ni (s:={ s with heap:=h' }) e c d (by decide) ⟨x,H,F,D,⟨rfl,λys L=>by rw[I.Nh L g];exact hx⟩,C,λb hb=>(f b hb).1⟩⟩
 done:=by
  intro X j l n B i AN s σ H E I f st t;subst j l n;obtain⟨xs,g,hx⟩:=t;obtain⟨AQ,A,p,M⟩:=I.tuple g;obtain⟨f0,f1,f2,q,m,y⟩:=f it (by simp);have N:=A.length;exact wpAny_pyNext_tuple_end (I.ok.hd B) st (show s.heap.IsTuple a AQ.toArray from p) (by simp;omega) λh' eb=>⟨rfl,I.turned (t':=s.toks) (λb o hb e=>eb b o hb e) f0 f1 q m y⟩
 self:=λ_ _ _ _ _ st h=>wpAny_pyIter_tupleiter st h
theorem Vz(it:A1)(lo:Int)(n:Nat):C2 P w K tg (GU lo n) [it] it (λi h=>IsRangeIter h it (lo+(i:Nat)*1) ((n:Int)-(i:Nat)) 1) where
 mem:=by simp
 obj:=λi h st b hb=>by
  have e:b=it:=by simpa using hb
  subst e;exact⟨_,st,λv z=>by
   have y:Data.fields _=Data.cell v:=z;cases y⟩
 keep:=λi h h' st k=>k it (by simp) _ st
 item:=by
  intro X g j f p i AN s σ H E I a st c;subst g j f;obtain⟨f0,f1,f2,l,m,d⟩:=a it (by simp);have W:=Walks.range (prog:=X.prog) (w:=X.w) (I.ok.hd p) it lo 1 n;refine W.item i s _ _ c st λv h' tk u q kk=>?_;obtain⟨t,rfl⟩:=u;have x:AU X AN σ H { s with heap:=h',toks:=tk }:=I.turned (λb o hb e=>kk b o (by simpa using hb) e) f0 f1 l m d;refine⟨_,rfl,Ni (s:={ s with heap:=h',toks:=tk }) (n :="range_iterator") q S S (by decide) ⟨.int (lo+i),H,x,⟨t,?_⟩,⟨rfl,rfl⟩,q,λb hb=>(a b hb).1⟩⟩;rw[Int.mul_one]
 done:=by
  intro X g j f p i AN s σ H E I a st c;subst g j f;obtain⟨f0,f1,f2,l,m,d⟩:=a it (by simp);exact wpAny_pyNext_range_end (I.ok.hd p) st (by have:n<=i:=c;omega) λh' eb=>⟨rfl,I.turned (t':=s.toks) (λb o hb e=>eb b o hb e) f0 f1 l m d⟩
 self:=λ_ _ _ _ _ st h=>wpAny_pyIter_rangeiter st h
end L2
namespace L2
section
variable{X:Cx}
theorem dS{σ:St}{H:Hp}{R:It->Hp->Prop}{lo hi:Int}{t u v:Tok}{tk:Nat}(I:AU X AN σ H s)(h1 : -(2 ^ 62)<=lo)(h2:lo<2 ^ 62)(d : -(2 ^ 62)<=hi)(c:hi<2 ^ 62)(q:R (GU lo (hi-lo).toNat) H):A7 (A8 X.prog X.w) X.A (pyIter (.ref s.heap.objs.size)) (N9 X AN σ tg R) E { s with heap:=s.heap.push { cls:=.type "range",data:=.fields #[.int lo t,.int hi u,.int 1 v] },toks:=tk }:=by
 refine wpAny_pyIter_range (IsRange.new ..) (small_one h1 h2 d c) ?_;have a:AU X AN σ H { s with heap:=s.heap.push { cls:=.type "range",data:=.fields #[.int lo t,.int hi u,.int 1 v] },toks:=tk }:=I.kept λb o e=>ze _ e;refine⟨(s.heap.push { cls:=.type "range",data:=.fields #[.int lo t,.int hi u,.int 1 v] }).objs.size,[(s.heap.push { cls:=.type "range",data:=.fields #[.int lo t,.int hi u,.int 1 v] }).objs.size],_,_,H,rfl,
  a.kept (t':=tk) λb o e=>ze _ e,Vz _ lo (hi-lo).toNat,?_,λb hb=>?_,q⟩
 ·have e1:lo+((0:Nat):Int)*1=lo:=by simp
  have e2:(((hi-lo).toNat:Nat):Int)-((0:Nat):Int)=Builtin.Range.rangeSize lo hi 1:=by rw[rangeSize_one];split<;>omega
  show IsRangeIter _ _ (lo+((0:Nat):Int)*1) ((((hi-lo).toNat:Nat):Int)-((0:Nat):Int)) 1;rw[e1,e2];exact zv _ rfl
 ·have e:b=(s.heap.push { cls:=.type "range",data:=.fields #[.int lo t,.int hi u,.int 1 v] }).objs.size:=by simpa using hb
  subst e;exact a.Vx (zo _) (a.hok.fresh (zo _))
def mf(ta:TA):TI:=λσ H R=>ta σ H λvs H1=>∃j:Int,vs=[.int j] ∧ -(2 ^ 62)<=j/\j<2 ^ 62/\R (GU 0 j.toNat) H1
theorem Zt{a:Expr}{ta:TA}{p:Pos}(c:Gl X "range")(b:X.mg "range"=U)(d:PA X [a] ta)(hs:A9 [a] X.env=[(false,eval a X.env)]:=by rfl):PI X tg (.Call (.Name "range" p) [a] [] pos) (mf ta):=by
 intro AN s σ H R I h;refine Call_ (Pq I c b boot_range (PyProof.Rows.callWith_type1 (jc (d pos AN s σ H _ I h) λus s1 ⟨vs,H1,I1,r1,q1⟩=>?_) hs S));obtain⟨j,e,q1,q2,q⟩:=q1;subst e;cases r1 with
 |cons r rr=>
  cases rr;obtain⟨t,rfl⟩:=r;exact call_range_1 (dS I1 (by omega) (by omega) q1 q2 (by simpa using q))
def S2(b:TI)(g:TG)(tb:TS):TS:=λD σ H=>b σ H λJ H1=>∃W:Nat->Nat->St->Hp->Prop,(∃m,W 0 m σ H1)/\∀i m σ H,W i m σ H →
 (J.stop i H/\D.nx σ H)\/(J.go i H/\∃N:St->Hp->Prop,(∀ σ' H',N σ' H'->∃a,a<m/\W (i+1) a σ' H')/\∀x H',J.yld i H x H'->g x σ H' λc H2=>tb { D with nx:=N,ct:=N,bk:=D.nx } c H2)
def Dr(fp:O A1)(h:A6):O (A1×AE):=fp.filterMap λb=>(h.get? b).map λo=>(b,o)
theorem vJ{b:A1}{o:AE}(hb:b∈fp)(e:h.get? b=Z o):(b,o)∈Dr fp h:=List.mem_filterMap.mpr ⟨b,hb,by rw[e];rfl⟩
theorem Zu{p:A1×AE}(hp:p∈Dr fp h):p.1∈fp/\h.get? p.1=Z p.2:=by
 obtain⟨b,hb,e⟩:=List.mem_filterMap.mp hp;cases q:h.get? b with
 |none=>rw[q]at e;cases e
 |some o=>
  rw[q]at e;have e':(b,o)=p:=JA e;subst e';exact⟨hb,q⟩
theorem AU.pinned{σ:St}{H:Hp}(I:AU X AN σ H s)(c:∀b∈fp,uz X AN H b)(a:∀b∈fp,∃o,s.heap.get? b=Z o/\∀v,o.data≠.cell v):AU X (AN++Dr fp s.heap) σ H s:=
 I.Pn λp hp=>(List.mem_append.mp hp).elim (λz=>I.pin p (ZA _ z)) λz=>by
  obtain⟨hb,e⟩:=Zu z;obtain⟨f0,f1,f2,_⟩:=c p.1 hb;obtain⟨o,e',d⟩:=a p.1 hb;rw[e]at e';cases e';exact⟨e,f0,f1,f2,d⟩
theorem AU.w6{pl:O (A1×AE)}{σ:St}{H:Hp}(I:AU X (AN++pl) σ H s):AU X AN σ H s:=I.Pn λp hp=>I.pin p (ZA _ (z5 _ hp))
theorem Lc{F:TI}{g:TG}{tb:TS}(hp:PassesOwn (A8 X.prog X.w) X.A X.env X.xe)(E:X.calm=true)(hi:PI X tg iter F)(hg:PG X tg g)(hb:Vp X body tb)(hs:∀x,foldedSetIterable iter X.env x=pure x:=by intro _;rfl):PS X (.For tg iter body [] pos) (S2 F g tb):=by
 intro AN s σ H D I h;refine wpAny_For (jc (hi AN s σ H _ I h) λv s1 h1=>jc h1 λa3 s2 h2=>?_) hs;obtain⟨it,fp,tn,J,H2,e,I2,T,a2,f2,W,⟨m0,L⟩,turn⟩:=h2;subst e;have z:∀{H':Hp},(∀b∈fp,H' b=U)->∀b∈fp,uz X AN H' b:=λP b hb=>⟨P b hb,(f2 b hb).2⟩;refine codeAny_forLoop_any (λn s'=>∃i σ' H',AU X AN σ' H' s'/\tn i s'.heap/\(∀b∈fp,H' b=U)/\W i n σ' H') ?_ m0 ⟨0,σ,H2,I2,a2,λb hb=>(f2 b hb).1,L⟩;rintro n G ⟨i,p,t,K,C,B,Q⟩;rcases turn i n p t Q with⟨a1,qn⟩|⟨M,N,hN,step⟩
 ·refine kL hp (jc (T.done X S S S E i AN G p t X.xe K (z B) C a1) λr s4 ⟨hr,I4⟩=>?_);subst hr;exact wpAny_execs_nil ⟨p,t,I4,qn⟩
 ·refine kL hp (jc (T.item X S S S E i AN G p t X.xe K (z B) C M) λr s4 ⟨u,hr,h4⟩=>?_);subst hr;refine kL hp (jc h4 λ_ s5 ⟨x,H5,I5,r5,y5,st5,fr5⟩=>?_);have a0:=I5.pinned (z fr5) (T.obj _ _ st5);refine kL hp (jc (hg _ s5 p H5 x u _ a0 r5 (step x H5 y5)) λ_ s6 ⟨σ6,H6,I6,q6⟩=>?_);refine kL hp (jc (hb _ s6 σ6 H6 _ I6 q6) λf y l=>?_);have again:∀{c:St} {a:Hp},AU X (AN++Dr fp s5.heap) c a y->N c a->∃m,m<n/\∃i σ' H',AU X AN σ' H' y/\tn i y.heap/\(∀b∈fp,H' b=U)/\W i m σ' H':=λ{c a} j q=>by
   obtain⟨m',hm,w7⟩:=hN c a q;refine⟨m',hm,i+1,c,a,j.w6,T.keep _ _ _ st5 λb hb o e=>(j.pin (b,o) (ZA _ (ZA _ (vJ hb e)))).1,λb hb=>?_,w7⟩;obtain⟨o,e,d⟩:=T.obj _ _ st5 b hb;exact(j.pin (b,o) (ZA _ (ZA _ (vJ hb e)))).2.1
  cases f with
  |next=>obtain⟨c,a,j,q⟩:=l;exact again j q
  |cont=>obtain⟨c,a,j,q⟩:=l;exact again j q
  |brk=>obtain⟨c,a,j,l⟩:=l;exact⟨c,a,j.w6,l⟩
  |ret v=>obtain⟨x7,c,a,j,r7,l⟩:=l;exact⟨x7,c,a,j.w6,r7,l⟩
end
end L2
namespace L2
abbrev R2:=V->V->Hp->VK->Prop
def zK(X:Cx)(f:A0->A0->Sem A0)(r:R2):Prop:=
 ∀(AN:O (A1×AE)) (s:A2) (σ:St) (H:Hp) (x y:V) (v u:A0) (Q:VK),AU X AN σ H s->Au x v->Au y u->r x y H Q →
  A7 (A8 X.prog X.w) X.A (f v u) (EP X AN σ Q) X.xe s
def DT(X:Cx)(f:A0->Sem A0)(r:V->Hp->VK->Prop):Prop:=
 ∀(AN:O (A1×AE)) (s:A2) (σ:St) (H:Hp) (x:V) (v:A0) (Q:VK),AU X AN σ H s->Au x v->r x H Q →
  A7 (A8 X.prog X.w) X.A (f v) (EP X AN σ Q) X.xe s
def jL(X:Cx)(f:A0)(r:O V->Hp->VK->Prop):Prop:=
 ∀(AN:O (A1×AE)) (s:A2) (σ:St) (H:Hp) (xs:O V) (us:O A0) (Q:VK),AU X AN σ H s->AX xs us->r xs H Q →
  A7 (A8 X.prog X.w) X.A (call f us) (EP X AN σ Q) X.xe s
def ae(X:Cx)(r:V->Hp->(Bool->Hp->Prop)->Prop):Prop:=
 ∀(AN:O (A1×AE)) (s:A2) (σ:St) (H:Hp) (x:V) (v:A0) (Q:Bool->Hp->Prop),AU X AN σ H s->Au x v->r x H Q →
  A7 (A8 X.prog X.w) X.A (truthy v) (TP X AN σ Q) X.xe s
def Ff(r:R2)(ta tb:TE):TE:=λσ H Q=>ta σ H λx H1=>tb σ H1 λy H2=>r x y H2 Q
def PM(r:V->Hp->VK->Prop)(ta:TE):TE:=λσ H Q=>ta σ H λx H1=>r x H1 Q
def rI(C:Int->Int->Prop)(g:Int->Int->V):R2:=λx y H Q=>∃i j,x=.int i/\y=.int j/\C i j/\Q (g i j) H
def DZ(g:Int->Int->V):R2:=λx y H Q=>∃i j,x=.int i/\y=.int j/\Q (g i j) H
def rU(g:Int->V):V->Hp->VK->Prop:=λx H Q=>∃i,x=.int i/\Q (g i) H
section
variable{X:Cx}{a b:Expr}{ta tb tc:TE}
theorem HQ(i:PE X a ta)(hb:PE X b tb){σ:St}{H:Hp}{R:V->V->Hp->Prop}(I:AU X AN σ H s)(h:ta σ H λx H1=>tb σ H1 λy H2=>R x y H2){Q:B7}{f:A0->A0->Sem A0}(d:∀v u c x y H2,AU X AN σ H2 c->Au x v->Au y u->R x y H2->A7 (A8 X.prog X.w) X.A (f v u) Q X.xe c):
  A7 (A8 X.prog X.w) X.A (eval a X.env) (λv g=>A7 (A8 X.prog X.w) X.A (eval b X.env) (λu e=>A7 (A8 X.prog X.w) X.A (f v u) Q X.xe e) X.xe g) X.xe s:=by
 refine jc (i AN s σ H _ I h) λv s1 ⟨x,H1,I1,r1,q1⟩=>?_;refine jc (hb AN s1 σ H1 _ I1 q1) λu c ⟨y,H2,I2,r2,q2⟩=>?_;exact d v u c x y H2 I2 r1 r2 q2
theorem de{op:Operator}{r:R2}(g:zK X (binaryOp op) r)(f:PE X a ta)(hb:PE X b tb):PE X (.BinOp a op b pos) (Ff r ta tb):=by
 intro AN s σ H Q I h;exact wpAny_BinOp (HQ f hb I h λv u i x y H2 e d c q=>g AN i σ H2 x y v u Q e d c q)
theorem SE{op:UnaryOp}{r:V->Hp->VK->Prop}(b:DT X (unaryOp op) r)(c:PE X a ta):PE X (.UnaryOp op a pos) (PM r ta):=by
 intro AN s σ H Q I h;exact UnaryOp_ (jc (c AN s σ H _ I h) λv s1 ⟨x,H1,I1,r1,q1⟩=>b AN s1 σ H1 x v Q I1 r1 q1)
theorem Fs{f:A0->A0->Sem A0}{C:Int->Int->Prop}{g:Int->Int->Int}
  (c:∀(i j:Int) (t u:Tok) (s:A2) (Q:B7) (E:B7),C i j->Q (.int (g i j) s.toks) { s with toks:=s.toks+1 }->A7 (A8 X.prog X.w) X.A (f (.int i t) (.int j u)) Q E s):
  zK X f (rI C λi j=>.int (g i j)):=by
 intro AN s σ H x y v u Q I b a h;obtain⟨i,j,rfl,rfl,e,q⟩:=h;obtain⟨t,rfl⟩:=b;obtain⟨d,rfl⟩:=a;exact c i j t d s _ _ e ⟨.int (g i j),H,I.tok _,⟨_,rfl⟩,q⟩
theorem Mn{f:A0->A0->Sem A0}{g:Int->Int->Int}
  (b:∀(i j:Int) (t u:Tok) (s:A2) (Q:B7) (E:B7),Q (.int (g i j) s.toks) { s with toks:=s.toks+1 }->A7 (A8 X.prog X.w) X.A (f (.int i t) (.int j u)) Q E s):
  zK X f (DZ λi j=>.int (g i j)):=by
 intro AN s σ H x y v u Q I c a h;obtain⟨i,j,rfl,rfl,q⟩:=h;obtain⟨t,rfl⟩:=c;obtain⟨d,rfl⟩:=a;exact b i j t d s _ _ ⟨.int (g i j),H,I.tok _,⟨_,rfl⟩,q⟩
theorem GA{f:A0->A0->Sem A0}{g:Int->Int->Bool}
  (b:∀(i j:Int) (t u:Tok) (s:A2) (Q:B7) (E:B7),Q (.bool (g i j)) s->A7 (A8 X.prog X.w) X.A (f (.int i t) (.int j u)) Q E s):
  zK X f (DZ λi j=>.bl (g i j)):=by
 intro AN s σ H x y v u Q I d a h;obtain⟨i,j,rfl,rfl,q⟩:=h;obtain⟨t,rfl⟩:=d;obtain⟨c,rfl⟩:=a;exact b i j t c s _ _ ⟨.bl (g i j),H,I,rfl,q⟩
def WG(i j:Int):Prop:=0<j/\j<1073741824
def mP(i j:Int):Prop:=0<=j/\j<=1000000/\i.natAbs<2 ^ 64
def Ic(i j:Int):Prop:=(-(2 ^ 64)<i/\i<2 ^ 64)\/(-(2 ^ 64)<j/\j<2 ^ 64)
theorem Ic.ok{i j:Int}(h:Ic i j):IntMulOk i j:=by
 rcases h with⟨h1,h2⟩|⟨h1,h2⟩
 ·exact .of_left (intBits_le_64 h1 h2)
 ·exact .of_right (intBits_le_64 h1 h2)
theorem ah:zK X (binaryOp .Add) (DZ λi j=>.int (i+j)):=Mn λ_ _ _ _ _ _ _ q=>add_int q
theorem Pw:zK X (binaryOp .Sub) (DZ λi j=>.int (i-j)):=Mn λ_ _ _ _ _ _ _ q=>sub_int q
theorem XX:zK X (binaryOp .Mult) (rI Ic λi j=>.int (i*j)):=Fs λ_ _ _ _ _ _ _ a q=>mul_int q a.ok
theorem RO:zK X (binaryOp .FloorDiv) (rI WG λi j=>.int (i / j)):=Fs λi j _ _ _ _ _ a q=>by
 have h1:(0:Int)<j:=a.1;have h2:j<1073741824:=a.2;exact floordiv_int (by omega) (by rw[Int.fdiv_eq_ediv_of_nonneg i (by omega)];exact q) (.inl (PyProof.noPylong_small (by omega)))
theorem R1:zK X (binaryOp .Mod) (rI (λ_ j=>0<j) λi j=>.int (i%j)):=Fs λi j _ _ _ _ _ a q=>by
 have h1:(0:Int)<j:=a;exact mod_int' (by omega) (by rw[Int.fmod_eq_emod_of_nonneg i (by omega)];exact q)
theorem ij:zK X (binaryOp .Pow) (rI mP λi j=>.int (i ^ j.toNat)):=Fs λ_ _ _ _ _ _ _ a q=>pow_int_small a.1 a.2.1 a.2.2 q
theorem U1{f:A0->Sem A0}{g:Int->Int}
  (a:∀(i:Int) (t:Tok) (s:A2) (Q:B7) (E:B7),Q (.int (g i) s.toks) { s with toks:=s.toks+1 }->A7 (A8 X.prog X.w) X.A (f (.int i t)) Q E s):
  DT X f (rU λi=>.int (g i)):=by
 intro AN s σ H x v Q I b h;obtain⟨i,rfl,q⟩:=h;obtain⟨t,rfl⟩:=b;exact a i t s _ _ ⟨.int (g i),H,I.tok _,⟨_,rfl⟩,q⟩
theorem hW:DT X (unaryOp .USub) (rU λi=>.int (-i)):=U1 λ_ _ _ _ _ q=>neg_int q
theorem VB{σ:St}{H:Hp}{Q:VK}{k a:Bool}(I:AU X AN σ H s)(q:Q (.bl k) H)(e:k=a):EP X AN σ Q (.bool a) s:=by
 subst e;exact⟨.bl k,H,I,rfl,q⟩
theorem WA:zK X (AG .Lt) (DZ λi j=>.bl (decide (i<j))):=GA λ_ _ _ _ _ _ _ q=>lt_int q
theorem S3:zK X (AG .LtE) (DZ λi j=>.bl (decide (i<=j))):=GA λ_ _ _ _ _ _ _ q=>le_int q
theorem lw:zK X (AG .Gt) (DZ λi j=>.bl (decide (j<i))):=GA λ_ _ _ _ _ _ _ q=>gt_int q
theorem m4:zK X (AG .GtE) (DZ λi j=>.bl (decide (j<=i))):=GA λ_ _ _ _ _ _ _ q=>ge_int q
theorem Zv:zK X (AG .In) (λx y H Q=>∃i j,x=.str i/\y=.str j/\Q (.bl (!(Builtin.Str.occurrences j i 0 j.length 1).isEmpty)) H):=by
 intro AN s σ H x y v u Q I b a h;obtain⟨i,j,rfl,rfl,q⟩:=h;obtain⟨t,rfl⟩:=b;obtain⟨c,rfl⟩:=a;exact in_str (VB I q S)
theorem ay:zK X (AG .Is) (λx y H Q=>y=.non/\Q (.bl (decide (x=.non))) H):=by
 intro AN s σ H x y v u Q I a b h;obtain⟨rfl,q⟩:=h;cases b;refine is_none_gen (VB I q ?_);cases x<;>first
  |(cases a;rfl)
  |(obtain⟨t,rfl⟩:=a;rfl)
theorem n9:zK X (AG .IsNot) (λx y H Q=>y=.non/\Q (.bl (!decide (x=.non))) H):=by
 intro AN s σ H x y v u Q I a b h;obtain⟨rfl,q⟩:=h;cases b;refine isnot_none_gen (VB I q ?_);cases x<;>first
  |(cases a;rfl)
  |(obtain⟨t,rfl⟩:=a;rfl)
theorem bZ(b:Expr)(h:op≠.In:=by decide)(h2:op≠.NotIn:=by decide):behindInMarks op b=false:=by
 have e1:(op==CmpOp.In)=false:=by cases op<;>first|rfl|exact absurd S h
 have e2:(op==CmpOp.NotIn)=false:=by cases op<;>first|rfl|exact absurd S h2
 cases b<;>simp[behindInMarks,e1,e2]
theorem Sf{r:R2}(i:zK X (AG op) r)(g:PE X a ta)(hb:PE X b tb)(f:behindInMarks op b=false):PE X (.Compare a [op] [b] pos) (Ff r ta tb):=by
 intro AN s σ H Q I h;exact wpAny_Compare1 (HQ g hb I h λv u j x y H2 e d c q=>i AN j σ H2 x y v u Q e d c q) f
def lb(t:TE):TT:=λσ H Q=>t σ H λx H'=>∃k,x=.bl k/\Q k H'
theorem bm{r:R2}(f:zK X (AG op) r)(g:PE X a ta)(hb:PE X b tb)(d:behindInMarks op b=false):PT X (.Compare a [op] [b] pos) (lb (Ff r ta tb)):=by
 intro AN s σ H Q I h;refine wpAny_isTrue_Compare1 (jc (g AN s σ H _ I h) λv s1 ⟨x,H1,I1,r1,q1⟩=>jc (hb AN s1 σ H1 _ I1 q1) λu s2 ⟨y,H2,I2,r2,q2⟩=>
  jc (f AN s2 σ H2 x y v u _ I2 r1 r2 q2) λc s3 ⟨z,H3,I3,r3,k,e,q3⟩=>?_) d
 subst e;cases r3;exact kz ⟨H3,I3,q3⟩
def LO(r d:R2)(ta tb tc:TE):TE:=λσ H Q=>ta σ H λx H1=>tb σ H1 λy H2=>r x y H2 λz a=>∃k,z=.bl k ∧
 (if k=true then tc σ a λb c=>d y b c Q else Q (.bl false) a)
theorem gg{f:CmpOp}{r g:R2}(l:zK X (AG op) r)(j:zK X (AG f) g)(m:PE X a ta)(hb:PE X b tb)(n:PE X c tc)(i:lastMarks [op,f] [b,c]=false:=by with_unfolding_all rfl):PE X (.Compare a [op,f] [b,c] pos) (LO r g ta tb tc):=by
 intro AN s σ H Q I h;refine Compare_chain (jc (m AN s σ H _ I h) λv s1 ⟨x,H1,I1,r1,q1⟩=>chain_link (jc (hb AN s1 σ H1 _ I1 q1) λu s2 ⟨y,H2,I2,r2,q2⟩=>
  jc (l AN s2 σ H2 x y v u _ I2 r1 r2 q2) λd s3 ⟨z,H3,I3,r3,k,e,q3⟩=>?_)) i
 subst e;cases r3;refine kz ?_;cases k with
 |false=>exact ite_ff ⟨.bl false,H3,I3,rfl,q3⟩
 |true=>exact ite_tt (chain_last (jc (n AN s3 σ H3 _ I3 q3) λw' s4 ⟨z',H4,I4,r4,q4⟩=>j AN s4 σ H4 y z' u w' Q I4 r2 r4 q4))
def IX(K:B1)(x:V)(H:Hp)(k:Bool):Prop:=
 match x with
 |.non=>k=false
 |.bl b=>k=b
 |.int i=>k=(i != 0)
 |.str y=>y.length<=AA/\k=((y.length:Int) != 0)
 |.byt y=>y.size<=AA/\k=((y.size:Int) != 0)
 |.ref p=>(∃xs,vI K H p xs/\k=!xs.isEmpty)\/(∃xs,Bd K H p xs/\k=!xs.isEmpty)\/∃AO,H p=Z (.dK AO)/\k=!AO.isEmpty
 |_=>False
theorem VD{AO:O (κ×V)}{vs:O (κ×A0)}(r:KV AO vs):(!vs.isEmpty)=!AO.isEmpty:=by
 cases r<;>rfl
theorem Ir{xs:O V}(r:AX xs AQ):(!AQ.toArray.isEmpty)=!xs.isEmpty:=by
 cases r<;>simp
theorem Ds:(AA:Nat)<2 ^ 63:=by rw[sizeLine_eq];decide
theorem M':ae X (λx H Q=>∃k,IX X.K x H k/\Q k H):=by
 intro AN s σ H x v Q I a h;obtain⟨k,e,q⟩:=h;have j:=Ds;have hs:AA=16777216:=sizeLine_eq;cases x with
 |non=>
  cases a;have e':k=false:=e;subst e';exact truthy_none ⟨H,I,q⟩
 |bl b=>
  cases a;have e':k=b:=e;subst e';exact kz ⟨H,I,q⟩
 |int i=>
  obtain⟨t,rfl⟩:=a;have e':k=(i != 0):=e;subst e';exact PySem.P.truthy_int ⟨H,I,q⟩
 |str y=>
  obtain⟨t,rfl⟩:=a;obtain⟨g,e'⟩:y.length<=AA/\k=((y.length:Int) != 0):=e;subst e';exact PySem.P.truthy_str (by omega) ⟨H,I.tok _,q⟩
 |byt y=>
  obtain⟨t,rfl⟩:=a;obtain⟨g,e'⟩:y.size<=AA/\k=((y.size:Int) != 0):=e;subst e';exact PySem.W.truthy_bytes (by omega) ⟨H,I.tok _,q⟩
 |ref p=>
  cases a;have e':(∃xs,vI X.K H p xs/\k=!xs.isEmpty)\/(∃xs,Bd X.K H p xs/\k=!xs.isEmpty)\/∃AO,H p=Z (.dK AO)/\k=!AO.isEmpty:=e;rcases e' with⟨xs,hx,e'⟩|⟨xs,hx,e'⟩|⟨AO,hx,e'⟩
  ·subst e';obtain⟨AQ,r,pl,c⟩:=I.list hx;have d:=r.length;exact wpAny_truthy_list pl.isList (by simp only[zI];omega) ⟨H,I.tok _,by rw[Ir r];exact q⟩
  ·subst e';obtain⟨AQ,r,pl,c⟩:=I.tuple hx;have d:=r.length;exact truthy_tuple pl (by simp only[zI];omega) ⟨H,I.tok _,by rw[Ir r];exact q⟩
  ·subst e';obtain⟨c,f,vs,r,m⟩:AO.length<=AA/\(p==sysModules)=false/\∃vs,KV AO vs/\s.heap.DictOf (bD X.prog X.w) p vs:=I.hok p _ hx;have d:AO.length=vs.length:=Paired.length r;exact wpAny_truthy_dict f m (by omega) ⟨H,I.tok _,by rw[VD r];exact q⟩
 |_=>exact(show False from e).elim
theorem cE(c:PE X a ta)(he:∀b,isTrue a X.env b=(do let v <-b;standAt a.pos;holding [v] (truthy v))):
  PT X a (λσ H Q=>ta σ H λx H'=>∃k,IX X.K x H' k/\Q k H'):=by
 intro AN s σ H Q I h;exact isTrue_plain (jc (c AN s σ H _ I h) λv s1 ⟨x,H1,I1,r1,q1⟩=>M' AN s1 σ H1 x v Q I1 r1 q1) (he _)
theorem VF:zK X (binaryOp .Add) (λx y H Q=>∃i j,x=.str i/\y=.str j/\i.length+j.length<=AA/\Q (.str (i++j)) H):=by
 intro AN s σ H x y v u Q I b a h;obtain⟨i,j,rfl,rfl,c,q⟩:=h;obtain⟨t,rfl⟩:=b;obtain⟨d,rfl⟩:=a;exact add_str (λd tk=>⟨.str (i++j),H,I.tok _,⟨_,rfl⟩,q⟩) c
theorem BC{x:V}(r:AX [x] us):∃u,us=[u]/\Au x u:=by
 cases r with
 |cons a b=>cases b;exact⟨_,rfl,a⟩
theorem im:jL X (.builtin "abs") (λxs H Q=>∃i,xs=[.int i]/\Q (.int (if i<0 then -i else i)) H):=by
 intro AN s σ H xs us Q I r h;obtain⟨i,rfl,q⟩:=h;obtain⟨u,rfl,t,rfl⟩:=BC r;exact call_abs_int λu tk=>⟨.int (if i<0 then -i else i),H,I.tok _,⟨_,rfl⟩,q⟩
theorem Zw:jL X (.type "int") (λxs H Q=>(∃i,xs=[.int i]/\Q (.int i) H)\/∃k,xs=[.bl k]/\Q (.int (if k then 1 else 0)) H):=by
 intro AN s σ H xs us Q I r h;rcases h with⟨i,rfl,q⟩|⟨k,rfl,q⟩
 ·obtain⟨u,rfl,t,rfl⟩:=BC r;exact call_int_int ⟨.int i,H,I,⟨_,rfl⟩,q⟩
 ·obtain⟨u,rfl,a⟩:=BC r;cases a;exact call_int_bool ⟨.int (if k then 1 else 0),H,I.tok _,⟨_,rfl⟩,q⟩
end
end L2
namespace L2
structure SC (h:Heap) (x dx C:Addr) (mA:Str->Option Value):Prop where
 obj:h.get? x=some (instObj C dx)
 ns:h.Ns1 dx mA
 ne:dx≠x
section
variable{x dx f:A1}{mA:AJ->Y A0}{v:A0}
end
theorem Ik.some_of{v:V}{o:Y A0}(r:Ik (Z v) o):∃u,o=Z u/\Au v u:=by
 cases o with
 |none=>exact(show False from r).elim
 |some u=>exact⟨u,rfl,r⟩
section
variable{H H':Hp}{h':A6}{dx:A1}{fs fs':O (AJ×V)}
theorem Hq(b:Az P w H h)(e:H a=Z (.ins C dx fs)):∃mA,SC h a dx C mA/\(∀f,Ik (fs.lookup f) (mA f))/\PySem.Within mA (fs.map (·.1))/\fs.length<=1000/\H dx=Z (.own a):=by
 obtain⟨d,z,c,g,mA,n,r,q⟩:=(show iZ P w H h a (.ins C dx fs) from b a _ e);exact⟨mA,⟨g,n,c⟩,r,q,z,d⟩
end
structure Ft (K:B1) (C:Addr) (f:Str) (v:V) (u:Value):Prop where
 at_:PySem.W.findIn K (.ref C) f=some (some u)
 rel:Au v u
 get:PySem.W.specialIn K u "__get__"=some none
 cp:PySem.W.copiedNames.contains f=false
section
variable{X:Cx}{σ:St}{H:Hp}{dx:A1}{fs:O (AJ×V)}{f:AJ}{v:V}
end
section
variable{X:Cx}{o value:Expr}{f:AJ}{pos':Pos}{ta tv:TE}
end
section
variable{X:Cx}{σ:St}{H:Hp}{Q:B7}{c:A0}{b:Bool}
end
end L2
namespace L2
structure oF (k:Nat) (A:Around):Prop where
 hd:A.handled=none
 dp:A.depth+3*k+5<recursionLimit
 un:A.units+16*k+200<cLine
theorem oF.mono{k:Nat}(r:oF k A)(h:j<=k):oF j A:=⟨r.hd,by have:=r.dp;omega,by have:=r.un;omega⟩
theorem oF.deeper{k:Nat}(r:oF (k+1) A)(env:Env):oF k (A.deeper env):=
 ⟨r.hd,by have:=r.dp;show A.depth+1+3*k+5<_;omega,by have:=r.un;show A.units+3+16*k+200<_;omega⟩
theorem oF.depth{k:Nat}(r:oF k A):A.depth<recursionLimit:=by have:=r.dp;omega
def hZ:TA:=λ_ H Q=>Q [] H
def T1(ta:TE)(a:TA):TA:=λσ H Q=>ta σ H λx H1=>a σ H1 λxs H2=>Q (x::xs) H2
section
variable{X:Cx}{te:TE}{t:TA}
theorem Du:PA X [] hZ:=λ_ _ _ _ H Q I h=>Calls.spliced_nil ⟨[],H,I,.nil,h⟩
theorem tD(b:PE X e te)(a:PA X es t)(hs:A9 (e::es) X.env=(false,eval e X.env)::A9 es X.env:=by rfl):PA X (e::es) (T1 te t):=by
 intro pos AN s σ H Q I h;rw[hs];show A7 _ _ (spliced ((false,eval e X.env)::AD pos (A9 es X.env))) _ _ s;refine Calls.spliced_cons (jc (b AN s σ H _ I h) λu s1 ⟨x,H1,I1,r1,q1⟩=>?_);exact jc (a pos AN s1 σ H1 _ I1 q1) λus s2 ⟨xs,H2,I2,r2,q2⟩=>⟨x::xs,H2,I2,.cons r1 r2,q2⟩
def cb(t:TA):TE:=λσ H Q=>t σ H λxs H1=>xs.length<=AA/\∀p,H1 p=U->Q (.ref p) (B4 H1 p (.tup xs))
def WO(t:TA):TE:=λσ H Q=>t σ H λxs H1=>xs.length<=AA/\∀p,H1 p=U->Q (.ref p) (B4 H1 p (.lst xs))
theorem MS{x1}(h:PA X es t):PE X (.Tuple es x1 pos) (cb t):=by
 intro AN s σ H Q I c;refine wpAny_Tuple_spliced (jc (h pos AN s σ H _ I c) λus s1 ⟨xs,H1,I1,r,z,q⟩=>⟨by rw[<-r.length];exact z,?_⟩);have a:H1 s1.heap.objs.size=U:=I1.hok.fresh (zo _);refine⟨.ref s1.heap.objs.size,B4 H1 s1.heap.objs.size (.tup xs),I1.laid (t':=s1.toks) (λb u e=>ze _ e) (zo _) ?_,rfl,q _ a⟩;exact⟨z,us,r,⟨_,zv _ rfl,rfl,⟨_,rfl⟩,rfl⟩⟩
theorem lT(h:PA X es t):PE X (.List es pos) (WO t):=by
 intro AN s σ H Q I c;refine wpAny_List_spliced (jc (h pos AN s σ H _ I c) λus s1 ⟨xs,H1,I1,r,z,q⟩=>⟨by rw[<-r.length];exact z,?_⟩);have a:H1 s1.heap.objs.size=U:=I1.hok.fresh (zo _);refine⟨.ref s1.heap.objs.size,B4 H1 s1.heap.objs.size (.lst xs),I1.laid (t':=s1.toks) (λb u e=>ze _ e) (zo _) ?_,rfl,q _ a⟩;exact⟨z,us,0,r,zv _ rfl⟩
end
abbrev Sp:=O V->Hp->VK->XK->Prop
abbrev CM:=O Env->Hp->A2->XK->A0->A2->Prop
structure Fu (P:Program) (w:World) (K:B1) (mg:Str->Option Value) (base:Heap) (A:Around) (outer:List Env) (s:Shared) (H:Hp):Prop where
 frames:A.frames=some outer
 mod:Mod K mg base
 bs:∀b o,base.get? b=some o->s.heap.get? b=some o/\H b=none
 bsz:base.objs.size<=s.heap.objs.size
 Il:s.heap.FunFrames base outer
 frf:∀b∈Cb outer,H b=none
 hok:Az P w H s.heap
 bare:AllBare s.gens
def CE(outer:O Env)(P:A3)(w:A4)(H:Hp)(s:A2)(Q:VK)(u:A0)(s':A2):Prop:=
 ∃v H',s'.os=s.os/\AllBare s'.gens/\Un (Cb outer) [] H H' s.heap s'.heap/\Az P w H' s'.heap/\Au v u/\Q v H'
def CR(CX:CM)(outer:O Env)(P:A3)(w:A4)(H:Hp)(s:A2)(Q:VK)(E:XK)(r:Result)(s':A2):Prop:=
 match r with
 |.ok (.ret u)=>CE outer P w H s Q u s'
 |.ok _=>False
 |.error e=>CX outer H s E e s'
structure qQ (P:Program) (w:World) (K:B1) (mg:Str->Option Value) (base:Heap) (CX:CM) (k:Nat) (f:Addr) (fd:FuncData) (ps:AZ) (sp:Sp):Prop where
 len:∀vs H Q E,sp vs H Q E->vs.length=ps.length
 run:∀(A:Around) (outer:List Env) (s:Shared) (H:Hp) (args:Args) (us:List Value) (vs:List V) (Q:VK) (E:XK),oF k A->Fu P w K mg base A outer s H->BindsTo s fd args (ps.zip us)->AX vs us->sp vs H Q E →
  codeAny (model P w) A (.call (.ref f) args) (CR CX outer P w H s Q E) s
section
variable{X:Cx}{σ:St}{H:Hp}{s':A2}
theorem AU.env0(I:AU X AN σ H s):Fu X.prog X.w X.K X.mg X.base X.A X.stack s H:=
 ⟨I.ok.frames,I.ok.mod,I.bs,ZO I.ok.bsz I.sz,I.stack,I.Xy,I.hok,I.bare⟩
theorem AU.after{Q:VK}(I:AU X AN σ H s)(h:CE X.stack X.prog X.w H s Q u s'):EP X AN σ Q u s':=by
 obtain⟨v,H',os,e,un,a,r,q⟩:=h;obtain⟨c,g,d,t,f⟩:=s';obtain rfl:f=s.os:=os;exact⟨v,H',I.call (h':=c) (g':=g) (d':=d) (t':=t) (ch:=[]) un a e (λb z=>absurd z (by simp)),r,q⟩
end
def dm(sp:Sp)(dvs:O V)(E:XK)(t:TA):TE:=λσ H Q=>t σ H λvs H1=>sp (vs++dvs) H1 Q E
def BM(K:B1)(fd:FuncData)(ps:AZ)(ds:O A0):Prop:=
 ∀(s:A2) (us:O A0),K.In s.heap->(us++ds).length=ps.length->BindsTo s fd ⟨us,[]⟩ (ps.zip (us++ds))
theorem BM.all(h:∀us:O A0,us.length=ps.length->bindArgs fd ⟨us,[]⟩=pure (ps.zip us)):BM K fd ps []:=λs us _ a=>by
 rw[qr]at a ⊢;exact .of_eq (h us a)
def C6(CX:CM)(X:Cx)(E:XK):Prop:=∀(AN:O (A1×AE)) (σ:St) (H:Hp) (s:A2) (e:A0) (s':A2),AU X AN σ H s->CX X.stack H s E e s'->X.xe e s'
section
variable{X:Cx}{CX:CM}{k:Nat}{f:A1}{sp:Sp}{dvs:O V}{ds:O A0}{E:XK}{m:AJ}{p:Pos}{o:Expr}{ta:TE}{t:TA}
theorem SV{σ:St}{H:Hp}{Q:VK}{vs:O V}(F:qQ X.prog X.w X.K X.mg X.base CX k f fd ps sp)(c:oF k X.A)(hb:BM X.K fd ps ds)(hd:AX dvs ds)(hx:C6 CX X E)(I:AU X AN σ H s)(r:AX vs us)(h:sp (vs++dvs) H Q E):A7 (A8 X.prog X.w) X.A (call (.ref f) us) (EP X AN σ Q) X.xe s:=by
 have b:AX (vs++dvs) (us++ds):=r.append hd;have d:(us++ds).length=ps.length:=by rw[<-b.length];exact F.len _ _ _ _ h
 refine wpAny_call (codeAny_mono (F.run X.A X.stack s H ⟨us,[]⟩ (us++ds) (vs++dvs) Q E c I.env0 (hb s us I.kIn d) b h) λr s' a=>?_);cases r with
 |error e=>exact hx AN σ H s e s' I a
 |ok fl=>
  cases fl with
  |ret u=>exact I.after a
  |next=>exact False.elim a
  |brk=>exact False.elim a
  |cont=>exact False.elim a
theorem Pu(F:qQ X.prog X.w X.K X.mg X.base CX k f fd ps sp)(j:oF k X.A)(a:Gl X x)(d:X.mg x=Z (.ref f))(c:keepIn X.K (.ref f)=true)(hb:BM X.K fd ps ds)(hd:AX dvs ds)(hx:C6 CX X E)
  (i:PA X (e::es) t) (b:(x==("__debug__":AJ))=false:=by decide) (he:A9 (e::es) X.env=(false,eval e X.env)::A9 es X.env:=by rfl) (g:(AD pos (A9 es X.env)).any (·.1)=false:=by rfl):
  PE X (.Call (.Name x p) (e::es) [] pos) (dm sp dvs E t):=by
 intro AN s σ H Q I h;refine wpAny_Call_Name_kw (Xz I a d ?_ b);refine PySem.W.callWith_K (h₀:=X.base) I.ok.mod.kin c (jc (i pos AN s σ H _ I h) λus s1 ⟨vs,H1,I1,r,q⟩=>⟨I1.kIn,?_⟩) he g;exact SV F j hb hd hx I1 r q
end
section
variable{X:Cx}{CX:CM}{k:Nat}{f:A1}{ks:AZ}{sp:Sp}{E:XK}{m:AJ}{p kpos:Pos}{o:Expr}{kws:O AC}{te ta:TE}{t tk:TA}{nm:Y AJ}
variable{g:O A0->O A0->O A0}{gV:O V->O V->O V}
end
structure bF (N P:AZ) (sc:Scope):Prop where
 kind:sc.kind=.function
 co:sc.isCoroutine=false
 gen:sc.isGenerator=false
 nd:N.Nodup
 pre:N.take P.length=P
 par:∀x∈P,sc.names.lookup x=some .local\/sc.names.lookup x=some .cell
 ahm:∀y∈sc.names,y.2≠.free
theorem Nj{a:AJ->Y NameKind}{x:AJ}:∀{binds:O (AJ×A0)} {m:AJ->Y A0},(∀v,(x,v)∉binds)->bindL a binds m x=m x
 |[],_,_=>rfl
 |(n,v)::r,m,h=>by
  unfold bindL;rw[Nj λw b=>h w (zi _ b)];split
  ·have:x≠n:=by rintro rfl;exact h v zh
   simp[this]
  ·rfl
theorem Nk{a:AJ->Y NameKind}{x:AJ}:∀{binds:O (AJ×A0)} {m:AJ->Y A0},(∀v,(x,v)∉binds)->bindC a binds m x=m x
 |[],_,_=>rfl
 |(n,v)::r,m,h=>by
  unfold bindC;rw[Nk λw b=>h w (zi _ b)];split
  ·rfl
  ·have:x≠n:=by rintro rfl;exact h v zh
   simp[this]
theorem Np{a:AJ->Y NameKind}{x:AJ}{v:A0}:∀{P:AZ} {vs:O A0} {i:Nat} {m:AJ->Y A0},P.Nodup->P[i]?=Z x->vs[i]?=Z v->a x=Z .local →
  bindL a (P.zip vs) m x=Z v
 |[],_,_,_,_,h,_,_=>by simp at h
 |_::_,[],_,_,_,_,h,_=>by simp at h
 |p::P,w::vs,0,m,nd,h1,h2,hk=>by
  simp at h1 h2;subst h1;subst h2;show bindL a ((p,w)::P.zip vs) m p=_;unfold bindL;rw[Nj λv b=>(List.nodup_cons.mp nd).1 (List.of_mem_zip b).1,zr hk];simp
 |p::P,w::vs,i+1,m,nd,h1,h2,hk=>by
  show bindL a ((p,w)::P.zip vs) m x=_;unfold bindL;exact Np (i:=i) (List.nodup_cons.mp nd).2 (by simpa using h1) (by simpa using h2) hk
theorem Nq{a:AJ->Y NameKind}{x:AJ}{v:A0}:∀{P:AZ} {vs:O A0} {i:Nat} {m:AJ->Y A0},P.Nodup->P[i]?=Z x->vs[i]?=Z v->a x≠Z .local →
  bindC a (P.zip vs) m x=Z v
 |[],_,_,_,_,h,_,_=>by simp at h
 |_::_,[],_,_,_,_,h,_=>by simp at h
 |p::P,w::vs,0,m,nd,h1,h2,hk=>by
  simp at h1 h2;subst h1;subst h2;show bindC a ((p,w)::P.zip vs) m p=_;unfold bindC;rw[Nk λv b=>(List.nodup_cons.mp nd).1 (List.of_mem_zip b).1,zD hk];simp
 |p::P,w::vs,i+1,m,nd,h1,h2,hk=>by
  show bindC a ((p,w)::P.zip vs) m x=_;unfold bindC;exact Nq (i:=i) (List.nodup_cons.mp nd).2 (by simpa using h1) (by simpa using h2) hk
def start(N:AZ)(vs:O V):St:=vs.map Z++List.replicate (N.length-vs.length) U
def Gy(CX:CM)(P:A3)(w:A4)(K:B1)(mg:AJ->Y A0)(base:A6)(N:AZ)(qual:AJ)(scope:Scope)(f:A1)(a:A0)(A:A5)(outer:O Env)(s:A2)(H:Hp)(E:XK):Cx where
 prog:=P
 w:=w
 K:=K
 mg:=mg
 base:=base
 A:=A.deeper (AK qual scope s.heap.objs.size f a)
 N:=N
 s₀:=s
 H₀:=H
 env:=AK qual scope s.heap.objs.size f a
 outer:=outer
 stack:=AK qual scope s.heap.objs.size f a::outer
 ex:=[]
 calm:=true
 fn:=λ_=>true
 pn:=[]
 xe:=λe s'=>A7 (A8 P w) (A.deeper (AK qual scope s.heap.objs.size f a)) (leaving (AK qual scope s.heap.objs.size f a) e) (λ_ b=>CX outer H s E e b) (λe' b=>CX outer H s E e' b) s'
theorem RZ{sc:Scope}(h:sc.names.lookup x=Z .cell):∃c,(cellsFrom n sc.names []).lookup x=Z c:=by
 have q:=cellsFrom_some sc.names n [] (.inl h);exact Option.isSome_iff_exists.mp q
theorem Zx{CX:CM}{f:A1}{g:A0}{outer:O Env}{m:A2}{H:Hp}{E:XK}{vs:O V}(S:bF N ps scope)(hd:A.handled=U)(e0:Fu P w K mg base A outer s H)(F:vs.length=ps.length)(r:AX vs us)(x:InCallC s s.heap.objs.size (bindL (AK qual scope s.heap.objs.size f g).kindOf (ps.zip us) λ_=>U) (cellsFrom (s.heap.objs.size+1) scope.names []) (bindC (AK qual scope s.heap.objs.size f g).kindOf (ps.zip us) λ_=>U) m):
  AU (Gy CX P w K mg base N qual scope f g A outer s H E) [] (start N vs) H m:=by
 have G:ps.length<=N.length:=by have:=congrArg List.length S.pre;rw[ki]at this;omega
 obtain⟨h1,tk,rfl,l⟩:=x.done;have j:∀b:A1,b∉(Gy CX P w K mg base N qual scope f g A outer s H E).ex:=λb z=>absurd (show b∈([]:O A1) from z) (by simp);refine⟨⟨e0.mod,S.kind,rfl,rfl,zo _,λy z c h1 h2=>?_,λy d=>?_,λy c _ h=>?_,λ_=>hd,Around.frames_deeper e0.frames,.inr ⟨rfl,rfl⟩,λb z=>absurd z (j b),e0.bs,e0.bsz,λb _ _=>j b,λb z=>absurd z (j b),e0.Il,e0.frf⟩,
  rfl,e0.bare,Un.kept l,⟨_,x.toInCall.ns,λi y v h1 h2 D=>?_⟩,λy c h=>⟨_,x.cell y c h⟩,e0.hok.fresh (zo _),λy c h=>?_,λp hp=>absurd (show p∈([]:O (A1×AE)) from hp) (by simp),e0.hok.kept l,?_⟩
 ·exact name_of_addr x.apart (kC h1) (kC h2)
 ·have d:scope.names.lookup y=Z .cell\/scope.names.lookup y=Z .free:=d;rcases d with d|d
  ·exact RZ d
  ·exact absurd rfl (S.ahm _ (kC d))
 ·exact JJ (x.above y c (kC h))
 ·have hi:i<vs.length:=by
   unfold start at h2;by_cases hi:i<vs.length
   ·exact hi
   ·rw[qS (by simpa using hi)]at h2;rw[Q2]at h2;split at h2<;>cases h2
  have B:vs[i]?=Z v:=by
   unfold start at h2;rw[ZU (by simpa using hi),ZE]at h2;cases e:vs[i]? with
   |none=>rw[e]at h2;cases h2
   |some a=>rw[e]at h2;cases h2;rfl
  obtain⟨u,o,C⟩:=r.get B;have hp:ps[i]?=Z y:=by
   rw[<-S.pre,List.getElem?_take_of_lt (by omega)];exact h1
  have t:ps.Nodup:=by rw[<-S.pre];exact S.nd.sublist (List.take_sublist _ _)
  refine⟨u,C,?_⟩;rcases S.par y (QO hp)with k|k
  ·exact .inl ⟨k,Np t hp o k⟩
  ·obtain⟨c,e⟩:=RZ (n:=s.heap.objs.size+1) k;refine .inr ⟨.inl k,c,e,?_⟩;have q:=x.cell y c e;rw[Nq t hp o (by show scope.names.lookup y≠_;rw[k];decide)]at q;exact q
 ·exact e0.hok.fresh (JJ (x.above y c (kC h)))
 ·unfold start;show _=N.length;rw[zS,zk,List.length_replicate];omega
theorem XL{CX:CM}{k:Nat}{f:A1}{g:Arguments}{j kV z m a ct C:A0}{p X:Y A1}{sp:Sp}(D:K.lookup f=Z ⟨C,X,.func (fnOf name qual g body scope j kV z m p a ct),osl⟩)(a1:codeIn K a qual=true)(S:bF N ps scope)(len:∀vs H Q E,sp vs H Q E->vs.length=ps.length)(G:∀(A:A5) (outer:O Env) (s:A2) (H:Hp) (vs:O V) (Q:VK) (E:XK),oF k (A.deeper (AK qual scope s.heap.objs.size f a))->sp vs H Q E →
   ∃t,Vp (Gy CX P w K mg base N qual scope f a A outer s H E) body t/\t { nx:=λ_ H'=>Q .non H',rt:=Q } (start N vs) H):
  qQ P w K mg base CX (k+1) f (fnOf name qual g body scope j kV z m p a ct) ps sp:=by
 refine⟨len,λA outer s H a2 us vs Q E c e0 hb r i=>?_⟩;have hl:=len _ _ _ _ i;have l:K.In s.heap:=e0.mod.kin.keeps λb o e=>(e0.bs b o e).1;have a0:s.heap.NoLimit:=e0.mod.nolimit.keeps λb o e=>(e0.bs b o e).1;have L:∀y∈ps.zip us,scope.names.lookup y.1=Z .local\/(scope.names.lookup y.1=Z .cell/\((cellsFrom (s.heap.objs.size+1) scope.names []).lookup y.1).isSome=true):=λ⟨n,v⟩ hy=>by
  rcases S.par n (List.of_mem_zip hy).1 with q|q
  ·exact .inl q
  ·exact .inr ⟨q,cellsFrom_some _ _ _ (.inl q)⟩
 refine codeAny_call_function c.depth (l _ _ D) rfl S.co S.gen rfl (PySem.W.codeRec_of l a1) (hb _ _ _ _ ?_);refine wpAny_newFunctionEnv_cells S.kind L λenv F h x=>?_;subst F;refine⟨a0.keeps x.toInCall.keep,codeAny_func ?_⟩;obtain⟨t,ht,M⟩:=G A outer s H vs Q E (c.deeper _) i;have I:AU (Gy CX P w K mg base N qual scope f a A outer s H E) [] (start N vs) H h:=Zx S c.hd e0 hl r x;refine QA (ht [] h (start N vs) H _ I M) (λfl s' hs=>?_) λe s' hs=>hs;have B:∀{σ':St} {H':Hp} {v:V} {u:A0},AU (Gy CX P w K mg base N qual scope f a A outer s H E) [] σ' H' s'->Au v u->Q v H'->CE outer P w H s Q u s':=
  λ{σ' H' v u} J d q=>⟨v,H',J.os,J.bare,J.base,J.hok,d,q⟩
 cases fl with
 |ret u=>
  obtain⟨v,σ',H',J,d,q⟩:=hs;exact B J d q
 |next=>
  obtain⟨σ',H',J,q⟩:=hs;exact B (v:=V.non) (u:=Value.none) J rfl q
 |brk=>
  obtain⟨_,_,_,q⟩:=hs;exact False.elim q
 |cont=>
  obtain⟨_,_,_,q⟩:=hs;exact False.elim q
end L2
namespace L2
section
variable{X:Cx}{p:Pos}{t:TA}{id T:String}{r:O V->Hp->VK->Prop}
def HZ(r:O V->Hp->VK->Prop)(t:TA):TE:=λσ H Q=>t σ H λvs H1=>r vs H1 Q
theorem R0(j:jL X (.builtin id) r)(a:Gl X x)(f:X.mg x=U)(d:AH x=Z (.builtin id))(i:PA X (e::es) t)(b:x ≠ "__name__":=by decide)(c:(x==("__debug__":AJ))=false:=by decide)
  (he:A9 (e::es) X.env=(false,eval e X.env)::A9 es X.env:=by rfl) (g:(AD pos (A9 es X.env)).any (·.1)=false:=by rfl):PE X (.Call (.Name x p) (e::es) [] pos) (HZ r t):=by
 intro AN s σ H Q I h;refine wpAny_Call_Name_kw (Pq I a f d ?_ b c);exact PyProof.Rows.callWith_builtin1 (jc (i pos AN s σ H _ I h) λus s1 ⟨vs,H1,I1,r1,q1⟩=>j AN s1 σ H1 vs us Q I1 r1 q1) he g
theorem Nr(j:jL X (.type T) r)(a:Gl X x)(f:X.mg x=U)(d:AH x=Z (.type T))(i:PA X (e::es) t)(b:x ≠ "__name__":=by decide)(c:(x==("__debug__":AJ))=false:=by decide)
  (he:A9 (e::es) X.env=(false,eval e X.env)::A9 es X.env:=by rfl) (g:(AD pos (A9 es X.env)).any (·.1)=false:=by rfl):PE X (.Call (.Name x p) (e::es) [] pos) (HZ r t):=by
 intro AN s σ H Q I h;refine wpAny_Call_Name_kw (Pq I a f d ?_ b c);exact PyProof.Rows.callWith_type1 (jc (i pos AN s σ H _ I h) λus s1 ⟨vs,H1,I1,r1,q1⟩=>j AN s1 σ H1 vs us Q I1 r1 q1) he g
end
end L2
namespace HT
open PySem PyProof.Rows
section
open PySem.SeqAt
open PySem.AutoSeq1 (wpAny_loadPart')
open PySem.MeetsSeq PySem.MeetsSeq2 PySem.MeetsSeq3
end
theorem ad1{t b:A1}{vs a:O A0}{Q:B7}(q:IsTup s.heap t vs.toArray)(hb:IsTup s.heap b a.toArray)(j:vs≠[])
  (h1:a=[]->Q (.ref t) s) (h2:a≠[]->Q (.ref s.heap.objs.size) { s with heap:=s.heap.push { cls:=.type "tuple",data:=.seq (vs++a).toArray } })
  (hsz:vs.length+a.length<=AA):A7 (A8 prog w) A (binaryOp .Add (.ref t) (.ref b)) Q E s:=by
 obtain⟨⟨cls,h,data,sl⟩,f,p,n,hd⟩:=id q;obtain⟨⟨cls2,m,u,g⟩,c,l,i,o⟩:=id hb;simp only at p hd l o;subst p hd l o;have e:vs.toArray++a.toArray=(vs++a).toArray:=by simp
 by_cases d:a=[]
 ·exact concat_meets ⟨_,f,rfl⟩ ⟨_,c,rfl⟩ noFill_tuple_add seq_tuple_add PySem.F.slot_tuple_add YE (y9 _ _)
   (tuple_addW1 t b vs.toArray a.toArray n i h m sl g (by simpa using j) (by simp[d])) ⟨f,c,h1 d⟩
 ·refine concat_meets ⟨_,f,rfl⟩ ⟨_,c,rfl⟩ noFill_tuple_add seq_tuple_add PySem.F.slot_tuple_add YE (y9 _ _)
   (tuple_addW2 t b vs.toArray a.toArray n i h m sl g (by simpa using j) (by simpa using d) (by rw[zI,zI];exact hsz)) ⟨f,c,?_⟩
  rw[e];exact h2 d
def jM(n d:Nat):Y Int->Nat
 |none=>d
 |some v=>if v<0 then(v+(n:Int)).toNat else min v.toNat n
theorem R3(n d:Nat):jM n d U=d:=rfl
theorem XF(n d k:Nat):jM n d (Z (k:Int))=min k n:=by
 show(if(k:Int)<0 then((k:Int)+(n:Int)).toNat else min (k:Int).toNat n)=min k n;rw[zD (by omega),KS]
theorem S4(n d:Nat)(hd:d<=n)(o:Y Int):jM n d o<=n:=by
 cases o with
 |none=>exact hd
 |some v=>
  show(if v<0 then(v+(n:Int)).toNat else min v.toNat n)<=n;by_cases a:v<0
  ·rw[zr a];omega
  ·rw[zD a];exact Nat.min_le_right _ _
theorem XH(v:Int)(n d:Nat):(if v<0 then max (v+(n:Int)) 0 else min v (n:Int))=((jM n d (Z v):Nat):Int):=by
 show(if v<0 then max (v+(n:Int)) 0 else min v (n:Int))=(((if v<0 then(v+(n:Int)).toNat else min v.toNat n):Nat):Int);by_cases a:v<0
 ·simp only[zr a];omega
 ·simp only[zD a];omega
theorem VG(lo hi:Y Int)(n:Nat):Builtin.Slice.sliceAdjust lo hi 1 (n:Int)=(((jM n 0 lo:Nat):Int),((jM n n hi:Nat):Int)):=by
 have h1:¬ ((1:Int)<0):=by omega
 unfold Builtin.Slice.sliceAdjust;simp only[h1,Z3];refine Prod.ext ?_ ?_
 ·cases lo with
  |none=>rfl
  |some v=>exact XH v n 0
 ·cases hi with
  |none=>rfl
  |some v=>exact XH v n n
theorem VH(i j:Nat):Builtin.Slice.slicePlaces (i:Int) (j:Int) 1=j-i:=by
 unfold Builtin.Slice.slicePlaces;have h1:(1:Int)>0:=by omega
 simp only[h1,qV,Int.ediv_one];split<;>omega
theorem Iu{v:A0}{o:Y Int}{Q:Y Int->A2->Prop}(p:IsPart v o)(h:Q o s):A7 (A8 prog w) A (Builtin.Slice.slicePartIndex v) Q E s:=by
 cases p with
 |none=>exact slicePart_none h
 |int i t=>exact slicePart_int h
theorem uR{sl:A1}{a d:A0}{Q:Int×Int×Nat->A2->Prop}(hs:s.heap.IsSliceOf sl a d .none)(pl:IsPart a lo)(e:IsPart d hi)(h:Q (((jM n 0 lo:Nat):Int),1,jM n n hi-jM n 0 lo) s):A7 (A8 prog w) A (Builtin.Slice.sliceApplied (.ref sl) (pure (n:Int))) Q E s:=by
 obtain⟨os,b,f,c⟩:=id hs;unfold Builtin.Slice.sliceApplied Builtin.Slice.sliceFields;refine zd (zd (wpAny_field b c (x:=a) S (zd (wpAny_field b c (x:=d) S (zd (wpAny_field b c (x:=.none) S (zg ?_)))))));refine zd (slicePart_none ?_);show A7 _ _ (if((1:Int)==0)=true then _ else _) _ _ s;rw[zD (by decide)];refine zd (Iu pl (zd (Iu e (zd (zg ?_)))));show A7 _ _ (match Builtin.Slice.sliceAdjust lo hi 1 (n:Int)with|(lo,hi)=>pure (lo,(1:Int),Builtin.Slice.slicePlaces lo hi 1)) _ _ s;rw[VG lo hi n];show A7 _ _ (pure (((jM n 0 lo:Nat):Int),(1:Int),Builtin.Slice.slicePlaces ((jM n 0 lo:Nat):Int) ((jM n n hi:Nat):Int) 1)) _ _ s;rw[VH];exact zg h
theorem gX(xs:Array A0)(i k:Nat):((List.range k).filterMap λ(m:Nat)=>xs[((i:Int)+(m:Int)*1).toNat]?).toArray=((xs.toList.drop i).take k).toArray:=by
 have e:(λ(m:Nat)=>xs[((i:Int)+(m:Int)*1).toNat]?)=λm=>xs[i+m]?:=by
  funext m;have:((i:Int)+(m:Int)*1).toNat=i+m:=by omega
  rw[this]
 rw[e];have:=pick_run xs i k;rw[List.filterMap_map]at this;have e2:((λx=>xs[x]?) ∘ λx=>i+x)=λm=>xs[i+m]?:=rfl;rw[e2]at this;rw[this]
theorem Bf{t sl:A1}{c d:A0}{Q:B7}(b:IsTup s.heap t items)(hs:s.heap.IsSliceOf sl c d .none)(pl:IsPart c lo)(g:IsPart d hi)(l:¬ (jM items.size 0 lo=0/\jM items.size items.size hi=items.size))(h:Q (.ref s.heap.objs.size) { s with heap:=s.heap.push { cls:=.type "tuple",data:=.seq ((items.toList.drop (jM items.size 0 lo)).take (jM items.size items.size hi-jM items.size 0 lo)).toArray } })(hsz:items.size<=AA):A7 (A8 prog w) A (getItem (.ref t) (.ref sl)) Q E s:=by
 have a:sizeOk (.seq ((items.toList.drop (jM items.size 0 lo)).take (jM items.size items.size hi-jM items.size 0 lo)).toArray):=by
  show((items.toList.drop (jM items.size 0 lo)).take (jM items.size items.size hi-jM items.size 0 lo)).toArray.size<=AA;rw[zI,ki,km,qA];omega
 have n:jM items.size items.size hi<=items.size:=S4 _ _ (zo _) hi;obtain⟨os,j,i,o⟩:=id hs;have e:s.TypeIs (.ref sl) "slice":=⟨os,j,i⟩;unfold getItem
 try with_reducible refine QR ?_
 first|refine zd (zg ?_)|skip
 refine zd (wpAny_sequenceKey b.typeIs (by decide) ?_);refine zd (YA (name:=Str.ofString "__getitem__") b.typeIs PyProof.Rows.slot_tuple_getitem
  (kK PyProof.Rows.slot_tuple_getitem b.typeIs entry_tuple_getitem ?_ (args_tuple_getitem _ _)))
 show A7 _ _ (Builtin.Tuple.tupleItemsOf (.ref t) >>= _) _ _ s;refine zd (tupleItemsOf_ b ?_);refine zd (Q3 e ?_);rw[zr (by decide)];refine zd (uR hs pl g ?_);have f:¬ ((((jM items.size 0 lo:Nat):Int)==0&&(1:Int)==1&&(jM items.size items.size hi-jM items.size 0 lo)==items.size)=true):=by
  intro q;rw[ZN,ZN]at q;have q1:((jM items.size 0 lo:Nat):Int)=0:=eq_of_beq q.1.1;have q2:jM items.size items.size hi-jM items.size 0 lo=items.size:=eq_of_beq q.2;exact l ⟨by omega,by omega⟩
 show A7 _ _ (if(((jM items.size 0 lo:Nat):Int)==0&&(1:Int)==1&&(jM items.size items.size hi-jM items.size 0 lo)==items.size)=true then _ else _) _ _ s;rw[zD f,gX]
 first
  |exact zd (m:=Builtin.Tuple.tupleExact _) (qi (zg ⟨_,rfl,zg h⟩) a)
  |exact zd (m:=Builtin.Tuple.tupleExact _) (qi (zd (zg (zg ⟨_,rfl,zg h⟩))) a)
  |exact zd (zd (m:=Builtin.Tuple.tupleExact _) (qi (zg (zg ⟨_,rfl,zg h⟩)) a))
  |exact zd (zd (m:=Builtin.Tuple.tupleExact _) (qi (zg ⟨_,rfl,zg h⟩) a))
end HT
namespace L2
abbrev TO:=St->Hp->(Y Int->Hp->Prop)->Prop
def PO(X:Cx)(e:Y Expr)(t:TO):Prop:=
 ∀(AN:O (A1×AE)) (s:A2) (σ:St) (H:Hp) (Q:Y Int->Hp->Prop),AU X AN σ H s->t σ H Q →
  A7 (A8 X.prog X.w) X.A (evalPart e X.env) (λu s'=>∃o H',AU X AN σ H' s'/\IsPart u o/\Q o H') X.xe s
def VY:TO:=λ_ H Q=>Q U H
def Sn(t:TE):TO:=λσ H Q=>t σ H λx H1=>∃i,x=.int i/\Q (Z i) H1
section
variable{X:Cx}{te:TE}{lo hi:Y Expr}{tl th:TO}
theorem bS:PO X U VY:=by
 intro AN s σ H Q I h;rw[evalPart_none];exact zg ⟨U,H,I,.none,h⟩
theorem RC(h:PE X e te):PO X (Z e) (Sn te):=by
 intro AN s σ H Q I a;rw[evalPart_some];refine jc (h AN s σ H _ I a) λu s1 ⟨x,H1,I1,r1,q1⟩=>?_;obtain⟨i,rfl,q⟩:=q1;obtain⟨t,rfl⟩:=r1;exact⟨Z i,H1,I1,.int i t,q⟩
def GN(X:Cx)(r:V->Y Int->Y Int->Hp->VK->Prop):Prop:=
 ∀(AN:O (A1×AE)) (s:A2) (σ:St) (H:Hp) (x:V) (v a b:A0) (lo hi:Y Int) (sl:A1) (Q:VK),AU X AN σ H s->Au x v->s.heap.IsSliceOf sl a b .none->IsPart a lo->IsPart b hi->r x lo hi H Q →
  ∃T id,typeLookup (.type T) "__getitem__"=pure (Z (.builtin id))/\s.TypeIs v T/\A7 (A8 X.prog X.w) X.A (getItem v (.ref sl)) (EP X AN σ Q) X.xe s
def ax(r:V->Y Int->Y Int->Hp->VK->Prop)(te:TE)(tl th:TO):TE:=λσ H Q=>te σ H λx H1=>tl σ H1 λl H2=>th σ H2 λu a=>r x l u a Q
theorem SL{r:V->Y Int->Y Int->Hp->VK->Prop}(j:GN X r)(he:PE X e te)(c:PO X lo tl)(f:PO X hi th):PE X (.Subscript e (.Slice lo hi U p2) pos) (ax r te tl th):=by
 intro AN s σ H Q I h;refine Subscript_ (jc (he AN s σ H _ I h) λv s1 ⟨x,H1,I1,r1,q1⟩=>?_);refine wpAny_Slice (jc (c AN s1 σ H1 _ I1 q1) λvl s2 ⟨l,H2,I2,pl,q2⟩=>jc (f AN s2 σ H2 _ I2 q2) λvu s3 ⟨u,H3,I3,pu,q3⟩=>?_);rw[evalPart_none];refine zg ?_;have d:AU X AN σ H3 { s3 with heap:=s3.heap.push { cls:=.type "slice",data:=.fields #[vl,vu,.none] } }:=I3.kept (t':=s3.toks) λb m q=>ze _ q;obtain⟨T,id,g,i,a⟩:=j AN { s3 with heap:=s3.heap.push { cls:=.type "slice",data:=.fields #[vl,vu,.none] } } σ H3 x v vl vu l u s3.heap.objs.size Q d r1 (Heap.IsSliceOf.new ..) pl pu q3;show A7 (A8 X.prog X.w) X.A (subscriptTail e (.Slice lo hi U p2) v (.ref s3.heap.objs.size)) (EP X AN σ Q) X.xe { s3 with heap:=s3.heap.push { cls:=.type "slice",data:=.fields #[vl,vu,.none] } };exact tail_any (ops:=[.ref s3.heap.objs.size,v]) i g a (by with_unfolding_all rfl)
def R4(xs:O V)(lo hi:Y Int):O V:=(xs.drop (HT.jM xs.length 0 lo)).take (HT.jM xs.length xs.length hi-HT.jM xs.length 0 lo)
theorem Fv(xs:O V)(lo hi:Y Int):(R4 xs lo hi).length<=xs.length:=by
 unfold R4;rw[ki,km];omega
def cy(K:B1):V->Y Int->Y Int->Hp->VK->Prop:=λx lo hi H Q=>∃a xs,x=.ref a/\Bd K H a xs ∧
 ¬ (HT.jM xs.length 0 lo=0/\HT.jM xs.length xs.length hi=xs.length)/\∀p,H p=U->Q (.ref p) (B4 H p (.tup (R4 xs lo hi)))
theorem S':GN X (cy X.K):=by
 intro AN s σ H x v j m lo hi sl Q I f hs pl g h;obtain⟨a,xs,rfl,hx,i,q⟩:=h;cases f;obtain⟨AQ,r,e,d⟩:=I.tuple hx;have c:AQ.toArray.size=xs.length:=by rw[zI];exact r.length.symm
 refine⟨"tuple", _,PyProof.Rows.slot_tuple_getitem.lookup,e.typeIs,?_⟩;refine HT.Bf e hs pl g (by rw[c];exact i) ?_ (by rw[c];exact d);rw[c];refine⟨.ref s.heap.objs.size,_,I.laid (t':=s.toks) (o:=.tup (R4 xs lo hi)) (λb l q=>ze _ q) (zo _) ?_,rfl,q _ (I.hok.fresh (zo _))⟩;exact⟨ZO (Fv xs lo hi) d,_,(r.drop (HT.jM xs.length 0 lo)).take (HT.jM xs.length xs.length hi-HT.jM xs.length 0 lo),wZ.new _ _⟩
def bX(K:B1):R2:=λx y H Q=>∃a b xs ys,x=.ref a/\y=.ref b/\Bd K H a xs/\Bd K H b ys/\xs≠[]/\xs.length+ys.length<=AA ∧
 (ys=[]->Q (.ref a) H)/\(ys≠[]->∀p,H p=U->Q (.ref p) (B4 H p (.tup (xs++ys))))
theorem AX.Hr{xs:O V}(r:AX xs us):us=[]↔xs=[]:=by
 cases r with
 |nil=>simp
 |cons _ _=>simp
theorem ar:zK X (binaryOp .Add) (bX X.K):=by
 intro AN s σ H x y v u Q I g f h;obtain⟨a,b,xs,ys,rfl,rfl,i,hb,hx,e,q1,q2⟩:=h;cases g;cases f;obtain⟨AQ,d,p1,_⟩:=I.tuple i;obtain⟨j,c,p2,_⟩:=I.tuple hb;refine HT.ad1 p1 p2 (λz=>hx (d.Hr.mp z)) (λz=>⟨.ref a,H,I,rfl,q1 (c.Hr.mp z)⟩) (λz=>?_) (by rw[<-d.length,<-c.length];exact e);refine⟨.ref s.heap.objs.size,_,I.laid (t':=s.toks) (o:=.tup (xs++ys)) (λb l q=>ze _ q) (zo _) ?_,rfl,q2 (λw=>z (c.Hr.mpr w)) _ (I.hok.fresh (zo _))⟩;exact⟨by rw[zS];exact e,_,d.append c,wZ.new _ _⟩
end
end L2
namespace L2
def EU(n:Nat)(i:Int):Y Nat:=if 0<=i then(if i<n then Z i.toNat else U)else if -(n:Int)<=i then Z (i+n).toNat else U
def Lf(xs:O α)(i:Int):Y α:=(EU xs.length i).bind λj=>xs[j]?
theorem g0{i:Int}(h:EU n i=Z j):seqIndex? i n=Z j/\j<n ∧ -(n:Int)<=i/\i<n:=by
 unfold EU at h;by_cases h0:0<=i
 ·rw[zr h0]at h;by_cases h1:i<n
  ·rw[zr h1]at h;have e:i.toNat=j:=JA h;exact⟨by rw[seqIndex_of h0 h1,e],by omega,by omega,h1⟩
  ·rw[zD h1]at h;cases h
 ·rw[zD h0]at h;by_cases h1 : -(n:Int)<=i
  ·rw[zr h1]at h;have e:(i+n).toNat=j:=JA h;exact⟨by rw[seqIndex_neg (by omega) h1,e],by omega,h1,by omega⟩
  ·rw[zD h1]at h;cases h
theorem Px{xs:O α}{i:Int}{v:α}(h:Lf xs i=Z v):∃j,seqIndex? i xs.length=Z j/\xs[j]?=Z v/\j<xs.length ∧ -(xs.length:Int)<=i/\i<xs.length:=by
 unfold Lf at h;cases e:EU xs.length i with
 |none=>rw[e]at h;cases h
 |some j=>
  rw[e]at h;obtain⟨h1,h2,b,a⟩:=g0 e;exact⟨j,h1,h,h2,b,a⟩
def XM(b:Expr):Prop:=∀o i,subscripted b false o i=operate [o,i] (getItem o i)
def DA(X:Cx)(r:R2):Prop:=
 ∀(value a:Expr) (AN:O (A1×AE)) (s:A2) (σ:St) (H:Hp) (x y:V) (v u:A0) (Q:VK),AU X AN σ H s->Au x v->Au y u->r x y H Q →
  subscripted a false v u=operate [v,u] (getItem v u)->A7 (A8 X.prog X.w) X.A (subscriptTail value a v u) (EP X AN σ Q) X.xe s
def MU(X:Cx)(id:String)(r:V->O V->Hp->VK->Prop):Prop:=
 ∀(AN:O (A1×AE)) (s:A2) (σ:St) (H:Hp) (x:V) (xs:O V) (v:A0) (us:O A0) (Q:VK),AU X AN σ H s->Au x v->AX xs us->r x xs H Q →
  A7 (A8 X.prog X.w) X.A (call (.builtin id) (v::us)) (EP X AN σ Q) X.xe s
section
variable{X:Cx}{a b:Expr}{ta tb:TE}
theorem DA.or{r d:R2}(h:DA X r)(h':DA X d):DA X (λx y H Q=>r x y H Q\/d x y H Q):=by
 intro value b AN s σ H x y v u Q I c a q hs;rcases q with q|q
 ·exact h value b AN s σ H x y v u Q I c a q hs
 ·exact h' value b AN s σ H x y v u Q I c a q hs
theorem bn{r:R2}(g:DA X r)(f:PE X a ta)(hb:PE X b tb)(hs:XM b):PE X (.Subscript a b pos) (Ff r ta tb):=by
 intro AN s σ H Q I h;exact Subscript_ (HQ f hb I h λv u i x y H2 e d c q=>g a b AN i σ H2 x y v u Q e d c q (hs _ _))
def Nd(K:B1):R2:=λx y H Q=>∃p xs i v,x=.ref p/\y=.int i/\vI K H p xs/\Lf xs i=Z v/\Q v H
def MZ(K:B1):R2:=λx y H Q=>∃p xs i v,x=.ref p/\y=.int i/\Bd K H p xs/\Lf xs i=Z v/\Q v H
def OP:R2:=λx y H Q=>∃z i c,x=.str z/\y=.int i/\z.length<=AA/\Lf z.cps.toList i=Z c/\Q (.str ⟨#[c]⟩) H
theorem mh:DA X (Nd X.K):=by
 intro value C AN s σ H x y v u Q I f d h hs;obtain⟨p,xs,i,z,rfl,rfl,o,g,q⟩:=h;cases f;obtain⟨t,rfl⟩:=d;obtain⟨AQ,r,pl,D⟩:=I.list o;obtain⟨j,h1,h2,A,m,n⟩:=Px g;obtain⟨w,b,l⟩:=r.get h2;have e:=r.length;have B:=Ds;have c:EP X AN σ Q w s:=⟨z,H,I,l,q⟩;by_cases h0:0<=i
 ·have a:i.toNat=j:=by
   rw[seqIndex_of h0 n]at h1;exact JA h1
  exact item_listR pl.isList h0 (by omega) (by rw[a];simpa using b) c hs
 ·have a:(i+(AQ.toArray.size:Int)).toNat=j:=by
   rw[seqIndex_neg (by omega) m]at h1;rw[zI,<-e];exact JA h1
  exact subscriptTail_builtinR (x:=w) pl.isList.typeIs slot_list_getitem.lookup
   (wpAny_getItem_list_neg (Q:=λr s'=>r=w/\EP X AN σ Q r s') pl.isList (by omega) (by rw[zI]<;>omega) (by omega) (by rw[a];simpa using b) ⟨rfl,c⟩) hs
theorem SG:DA X (MZ X.K):=by
 intro value o AN s σ H x y v u Q I c a h hs;obtain⟨p,xs,i,z,rfl,rfl,g,e,q⟩:=h;cases c;obtain⟨t,rfl⟩:=a;obtain⟨AQ,r,pl,A⟩:=I.tuple g;obtain⟨j,h1,h2,m,B,C⟩:=Px e;obtain⟨w,d,f⟩:=r.get h2;have b:=r.length;have n:=Ds;have l:EP X AN σ Q w s:=⟨z,H,I,f,q⟩;exact subscriptTail_builtinR (x:=w) pl.typeIs slot_tuple_getitem.lookup
  (getItem_tuple (j:=j) (Q:=λr s'=>r=w/\EP X AN σ Q r s') pl (by omega) (by omega) (by rw[zI,<-b];exact h1) (by simpa using d) ⟨rfl,l⟩) hs
theorem a9:DA X OP:=by
 intro value n AN s σ H x y v u Q I d a h hs;obtain⟨z,i,c,rfl,rfl,o,e,q⟩:=h;obtain⟨t,rfl⟩:=d;obtain⟨p,rfl⟩:=a;obtain⟨j,h1,h2,l,f,g⟩:=Px e;have b:z.cps.toList.length=z.length:=by simp[Str.length]
 rw[b]at h1 f g;have m:=Ds;exact tail_any (typeIs_str s z t) slot_str_getitem.lookup (getItem_str (c:=c) (by
  have e1:decide (i < -(2 ^ 63:Int))=false:=Zp (by omega);have e2:decide (i>=2 ^ 63)=false:=Zp (by omega);rw[e1,e2,Bool.or_false]) (by rw[h1];simpa using h2) ⟨.str ⟨#[c]⟩,H,I.tok _,⟨_,rfl⟩,q⟩) hs
def i7(K:B1):R2:=λx y H Q=>Nd K x y H Q\/MZ K x y H Q\/OP x y H Q
theorem e7:DA X (i7 X.K):=mh.or (SG.or a9)
theorem AU.lst{σ:St}{H:Hp}{p:A1}{xs:O V}(I:AU X AN σ H s)(h:H p=Z (.lst xs)):
  ∃(AQ:O A0) (n:Nat),AX xs AQ/\s.heap.get? p=Z { cls:=.type "list",data:=.seq AQ.toArray n }/\xs.length<=AA:=by
 obtain⟨z,AQ,n,r,e⟩:=I.hok p _ h;exact⟨AQ,n,r,e,z⟩
theorem Py(lo hi:Y Int)(n:Nat):(sliceBounds lo hi U n).1=((HT.jM n 0 lo:Nat):Int)/\(sliceBounds lo hi U n).2.1=((HT.jM n n hi:Nat):Int)/\(sliceBounds lo hi U n).2.2=1:=by
 refine⟨?_,?_,rfl⟩
 ·cases lo with
  |none=>simp[sliceBounds,HT.jM]
  |some i=>
   simp only[sliceBounds,HT.jM,Option.getD_none,show(1:Int)>0 by decide,qV];by_cases h:i<0
   ·simp only[h,qV]<;>omega
   ·simp only[h,Z3]<;>omega
 ·cases hi with
  |none=>simp[sliceBounds,HT.jM]
  |some i=>
   simp only[sliceBounds,HT.jM,Option.getD_none,show(1:Int)>0 by decide,qV];by_cases h:i<0
   ·simp only[h,qV]<;>omega
   ·simp only[h,Z3]<;>omega
theorem Lg(AQ:O A0)(lo hi:Y Int):slicePick AQ.toArray lo hi U=((AQ.drop (HT.jM AQ.length 0 lo)).take (HT.jM AQ.length AQ.length hi-HT.jM AQ.length 0 lo)).toArray:=by
 obtain⟨h1,h2,a⟩:=Py lo hi AQ.toArray.size;unfold slicePick;rw[h1,h2,a];simp only[sliceRange_one,pick_run,zI]<;>rfl
def nN(K:B1):V->Y Int->Y Int->Hp->VK->Prop:=λx lo hi H Q=>∃a xs,x=.ref a/\vI K H a xs/\∀p,H p=U->Q (.ref p) (B4 H p (.lst (R4 xs lo hi)))
theorem bE:GN X (nN X.K):=by
 intro AN s σ H x v i l lo hi sl Q I d hs pl e h;obtain⟨a,xs,rfl,hx,q⟩:=h;cases d;obtain⟨AQ,r,c,f⟩:=I.list hx;have g:=r.length;refine⟨"list", _,slot_list_getitem.lookup,c.isList.typeIs,?_⟩;refine wpAny_getItem_list_slice c.isList hs pl e .none (by simp) ?_ (by rw[zI]<;>omega);rw[Lg,<-g];refine⟨.ref s.heap.objs.size,_,I.laid (t':=s.toks) (o:=.lst (R4 xs lo hi)) (λb j q=>ze _ q) (zo _) ?_,rfl,q _ (I.hok.fresh (zo _))⟩;exact⟨ZO (Fv xs lo hi) f,_,0,(r.drop (HT.jM xs.length 0 lo)).take (HT.jM xs.length xs.length hi-HT.jM xs.length 0 lo),zv _ rfl⟩
def wO:V->Bool
 |.non=>true
 |.bl _=>true
 |.int _=>true
 |.str _=>true
 |_=>false
def DM:V->V->Bool
 |.non,.non=>true
 |.bl a,.bl b=>a==b
 |.bl a,.int b=>(if a then 1 else 0)==b
 |.int a,.bl b=>a==(if b then 1 else 0)
 |.int a,.int b=>a==b
 |.str a,.str b=>a==b
 |_,_=>false
theorem Y3{y x:V}{v:A0}(e:Au y u)(c:Au x v)(fy:wO y=true)(fx:wO x=true):SeqAt.EqAt A s u v (DM y x):=by
 cases y with
 |non=>
  cases e;cases x with
  |non=>cases c;exact SeqAt.EqAt.same _
  |bl b=>cases c;exact SeqAt.EqAt.none_bool b
  |int b=>obtain⟨t,rfl⟩:=c;exact SeqAt.EqAt.none_int b t
  |str b=>obtain⟨t,rfl⟩:=c;exact SeqAt.EqAt.none_str b t
  |_=>exact absurd (show false=true from fx) ZH
 |bl a=>
  cases e;cases x with
  |non=>cases c;exact SeqAt.EqAt.bool_none a
  |bl b=>cases c;exact SeqAt.EqAt.bool_bool a b
  |int b=>obtain⟨t,rfl⟩:=c;exact SeqAt.EqAt.bool_int a b t
  |str b=>obtain⟨t,rfl⟩:=c;exact SeqAt.EqAt.bool_str a b t
  |_=>exact absurd (show false=true from fx) ZH
 |int a=>
  obtain⟨d,rfl⟩:=e;cases x with
  |non=>cases c;exact SeqAt.EqAt.int_none a d
  |bl b=>cases c;exact SeqAt.EqAt.int_bool a d b
  |int b=>obtain⟨t,rfl⟩:=c;exact SeqAt.EqAt.int_int a d b t
  |str b=>obtain⟨t,rfl⟩:=c;exact SeqAt.EqAt.int_str a d b t
  |_=>exact absurd (show false=true from fx) ZH
 |str a=>
  obtain⟨d,rfl⟩:=e;cases x with
  |non=>cases c;exact SeqAt.EqAt.str_none a d
  |bl b=>cases c;exact SeqAt.EqAt.str_bool a d b
  |int b=>obtain⟨t,rfl⟩:=c;exact SeqAt.EqAt.str_int a d b t
  |str b=>obtain⟨t,rfl⟩:=c;exact SeqAt.EqAt.str_str a d b t
  |_=>exact absurd (show false=true from fx) ZH
 |_=>exact absurd (show false=true from fy) ZH
def DE(x:V)(u:A0):Bool:=match u with
 |.none=>DM .non x
 |.bool b=>DM (.bl b) x
 |.int i _=>DM (.int i) x
 |.str z _=>DM (.str z) x
 |_=>false
theorem MX{x y:V}(r:Au y u)(f:wO y=true):DE x u=DM y x:=by
 cases y with
 |non=>cases r;rfl
 |bl b=>cases r;rfl
 |int i=>obtain⟨t,rfl⟩:=r;rfl
 |str z=>obtain⟨t,rfl⟩:=r;rfl
 |_=>exact absurd (show false=true from f) ZH
theorem Pz{x:V}:∀{xs:O V} {us:O A0},AX xs us->xs.all wO=true->us.any (DE x)=xs.any λy=>DM y x
 |_,_,.nil,_=>rfl
 |y::xs,u::us,.cons r t,f=>by
  rw[kR,ZN]at f;rw[kB,kB,MX r f.1,Pz t f.2]
theorem Iv{A:A5}{s:A2}{x:V}{v:A0}(b:Au x v)(fx:wO x=true):∀{xs:O V} {us:O A0},AX xs us->xs.all wO=true->∀u∈us,SeqAt.EqAt A s u v (DE x u)
 |_,_,.nil,_=>λu a=>by cases a
 |y::xs,u::us,.cons r t,f=>λc a=>by
  rw[kR,ZN]at f;rcases List.mem_cons.mp a with rfl|a
  ·rw[MX r f.1];exact Y3 r b f.1 fx
  ·exact Iv b fx t f.2 c a
def G0(x:V)(xs:O V):Bool:=xs.any λy=>DM y x
def lv(K:B1)(a:Bool):R2:=λx y H Q=>∃p xs,y=.ref p/\(vI K H p xs\/Bd K H p xs)/\wO x=true/\xs.all wO=true/\Q (.bl (if a then !G0 x xs else G0 x xs)) H
theorem Zy:zK X (AG .In) (lv X.K false):=by
 intro AN s σ H x y v u Q I c d h;obtain⟨p,xs,rfl,a,fx,fs,q⟩:=h;cases d;rcases a with a|a
 ·obtain⟨AQ,r,pl,e⟩:=I.list a;refine SeqAt.in_listAt (DE x) pl.isList (λw b=>Iv c fx r fs w (by simpa using b)) ⟨.bl _,H,I,rfl,?_⟩;rw[show AQ.toArray.any (DE x)=AQ.any (DE x) by simp,Pz r fs];exact q
 ·obtain⟨AQ,r,pl,e⟩:=I.tuple a;refine SeqAt.in_tupleAt (DE x) pl (λw b=>Iv c fx r fs w (by simpa using b)) ⟨.bl _,H,I,rfl,?_⟩;rw[show AQ.toArray.any (DE x)=AQ.any (DE x) by simp,Pz r fs];exact q
theorem PJ:jL X (.builtin "len") (λxs H Q=>∃p ys,xs=[.ref p]/\(vI X.K H p ys\/Bd X.K H p ys)/\Q (.int ys.length) H):=by
 intro AN s σ H xs us Q I r h;obtain⟨p,ys,rfl,a,q⟩:=h;obtain⟨u,rfl,d⟩:=BC r;cases d;have f:=Ds;rcases a with a|a
 ·obtain⟨AQ,b,pl,e⟩:=I.list a;have c:=b.length;exact Calls.call_len_list pl.isList (by simp only[zI]<;>omega) ⟨.int ys.length,H,I.tok _,⟨s.toks+1,by rw[zI,c]⟩,q⟩
 ·obtain⟨AQ,b,pl,e⟩:=I.tuple a;have c:=b.length;exact len_tuple pl (by simp only[zI]<;>omega) ⟨.int ys.length,H,I.tok _,⟨s.toks+1,by rw[zI,c]⟩,q⟩
theorem PK:jL X (.builtin "len") (λxs H Q=>∃z,xs=[.str z]/\z.length<=AA/\Q (.int z.length) H):=by
 intro AN s σ H xs us Q I r h;obtain⟨z,rfl,b,q⟩:=h;obtain⟨u,rfl,t,rfl⟩:=BC r;have a:=Ds;exact len_str (by omega) ⟨.int z.length,H,I.tok _,⟨_,rfl⟩,q⟩
theorem jL.or{f:A0}{r b:O V->Hp->VK->Prop}(h:jL X f r)(h':jL X f b):jL X f (λxs H Q=>r xs H Q\/b xs H Q):=by
 intro AN s σ H xs us Q I a q;rcases q with q|q
 ·exact h AN s σ H xs us Q I a q
 ·exact h' AN s σ H xs us Q I a q
theorem Lh:jL X (.type "tuple") (λxs H Q=>∃p ys,xs=[.ref p]/\((vI X.K H p ys/\∀l,H l=U->Q (.ref l) (B4 H l (.tup ys)))\/(Bd X.K H p ys/\Q (.ref p) H))):=by
 intro AN s σ H xs us Q I r h;obtain⟨p,ys,rfl,h⟩:=h;obtain⟨u,rfl,g⟩:=BC r;cases g;rcases h with⟨c,q⟩|⟨c,q⟩
 ·obtain⟨AQ,a,pl,f⟩:=I.list c;have j:=a.length;refine call_tuple_list pl.isList (λh' kp=>?_) (by simp only[zI]<;>omega);have d:AU X AN σ H { s with heap:=h' }:=I.kept (t':=s.toks) kp;have i:AU X AN σ (B4 H h'.objs.size (.tup ys)) { s with heap:=h'.push { cls:=.type "tuple",data:=.seq AQ.toArray } }:=
   d.laid (t':=s.toks) (λb o e=>ze _ e) (zo _) (show iZ X.prog X.w _ _ _ (.tup ys) from⟨f,AQ,a,wZ.new _ _⟩)
  exact⟨.ref h'.objs.size,_,i,rfl,q _ (d.hok.fresh (zo _))⟩
 ·obtain⟨AQ,a,pl,f⟩:=I.tuple c;exact call_tuple_same pl ⟨.ref p,H,I,rfl,q⟩
def PH(K:B1)(T:String)(x:V)(H:Hp):Prop:=match x with
 |.str _=>T ="str"
 |.int _=>T ="int"
 |.ref p=>(T ="list" ∧ ∃xs,vI K H p xs)\/(T ="tuple" ∧ ∃o,K.lookup p=Z o/\o.cls=.type "tuple" ∧ o.dict=U) ∨
   (T ="dict" ∧ ((∃AO,H p=Z (.dK AO))\/∃AO,H p=Z (.dT AO)))\/(T ="set" ∧ ∃S n,H p=Z (.set S n))
 |_=>False
theorem T'{σ:St}{H:Hp}{T:String}{x:V}{v:A0}(I:AU X AN σ H s)(r:Au x v)(ty:PH X.K T x H):
  s.TypeIs v T/\∀a,v=.ref a->∃d,s.heap.get? a=Z d/\d.dict=U:=by
 cases x with
 |str z=>
  obtain⟨t,rfl⟩:=r;cases(show T ="str" from ty);exact⟨typeIs_str s z t,λ_ e=>nomatch e⟩
 |int i=>
  obtain⟨t,rfl⟩:=r;cases(show T ="int" from ty);exact⟨typeIs_int s i t,λ_ e=>nomatch e⟩
 |ref p=>
  cases r;rcases ty with⟨rfl,xs,g⟩|⟨rfl,o,b,f,hd⟩|⟨rfl,b⟩|⟨rfl,S,n,b⟩
  ·obtain⟨AQ,_,pl,_⟩:=I.list g;refine⟨pl.isList.typeIs,λa e=>?_⟩;cases e;obtain⟨o,n,e,c,hd,_⟩:=pl;exact⟨o,e,hd⟩
  ·refine⟨⟨o,I.kIn p o b,f⟩,λa e=>?_⟩;cases e;exact⟨o,I.kIn _ o b,hd⟩
  ·have z:∃o,s.heap.get? p=Z o/\o.ExactDict:=by
    rcases b with⟨AO,b⟩|⟨AO,b⟩
    ·obtain⟨_,_,_,_,o,_,_,e,ex,_⟩:=I.hok p _ b;exact⟨o,e,ex⟩
    ·obtain⟨_,_,_,_,o,_,_,e,ex,_⟩:=I.hok p _ b;exact⟨o,e,ex⟩
   obtain⟨o,e,ex⟩:=z;refine⟨⟨o,e,ex.1⟩,λa e2=>?_⟩;cases e2;exact⟨o,e,ex.2.1⟩
  ·obtain⟨o,_,_,_,e,ex,_⟩:=I.hok p _ b;refine⟨⟨o,e,ex.1⟩,λa e2=>?_⟩;cases e2;exact⟨o,e,ex.2.1⟩
 |_=>exact False.elim ty
def Sl(K:B1)(T:String)(r:V->O V->Hp->VK->Prop)(to:TE)(t:TA):TE:=λσ H Q=>to σ H λx H1=>PH K T x H1/\t σ H1 λxs H2=>r x xs H2 Q
variable{o:Expr}{to:TE}{t:TA}{T id:String}{r:V->O V->Hp->VK->Prop}
theorem Hn(pa:PlainAttrs T)(slot:Slot T name id)(c:typeOf (.builtin id)=pure (.type "method_descriptor"))(f:MU X id r)(j:PE X o to)(i:PA X (e::es) t)
  (g:attributeBase o name X.env (eval o X.env)=eval o X.env:=by rfl)
  (l:((AD cpos (A9 (e::es) X.env)).all (λx=>!x.1)&&(backToKw cpos (keywordEach [] X.env)).all (λx=>x.1.isSome)
   && decide ((e::es).length+([]:O AC).length+(if([]:O AC).isEmpty then 0 else 1)<30))=true:=by rfl)
  (d:(apos.endLine==cpos.line)=true:=by rfl) (hs:A9 (e::es) X.env=(false,eval e X.env)::A9 es X.env:=by rfl) (b:(AD cpos (A9 es X.env)).any (·.1)=false:=by rfl):
  PE X (.Call (.Attribute o name apos) (e::es) [] cpos) (Sl X.K T r to t):=by
 intro AN s σ H Q I h;refine wpAny_Call_method_late g l d S (jc (j AN s σ H _ I h) λv s1 ⟨x,H1,I1,r1,ty,q1⟩=>?_);obtain⟨h1,h2⟩:=T' I1 r1 ty;refine⟨T,id,pa,slot,c,h1,h2,?_⟩;have a:=i cpos AN s1 σ H1 _ I1 q1;rw[hs]at a ⊢;refine Calls.callWith_builtin (by show(false||(AD cpos (A9 es X.env)).any (·.1))=false;rw[b]<;>rfl) (Calls.evalArgs_plain ?_);exact jc a λus s2 ⟨vs,H2,I2,r2,q2⟩=>f AN s2 σ H2 x vs v us Q I2 r1 r2 q2
end
end L2
namespace L2
def LX(X:Cx)(id:String)(r:V->O V->Hp->VK->Prop):Prop:=
 ∀(AN:O (A1×AE)) (s:A2) (σ:St) (H:Hp) (x:V) (xs:O V) (v:A0) (us:O A0) (Q:VK),AU X AN σ H s->Au x v->AX xs us->r x xs H Q →
  A7 (A8 X.prog X.w) X.A (call (.builtin id) (v::us)) (EP X AN σ Q) X.xe s
theorem AX.one:∀{x:V} {us:O A0},AX [x] us->∃u,us=[u]/\Au x u
 |_,_,.cons r .nil=>⟨_,rfl,r⟩
theorem AX.two:∀{x y:V} {us:O A0},AX [x,y] us->∃u v,us=[u,v]/\Au x u/\Au y v
 |_,_,_,.cons r (.cons q .nil)=>⟨_,_,rfl,r,q⟩
theorem AX.eraseIdx:∀{xs:O V} {us:O A0} (i:Nat),AX xs us->AX (xs.eraseIdx i) (us.eraseIdx i)
 |_,_,_,.nil=>.nil
 |_,_,0,.cons _ t=>t
 |_,_,i+1,.cons r t=>.cons r (AX.eraseIdx i t)
theorem AX.reverse{xs:O V}(h:AX xs us):AX xs.reverse us.reverse:=by
 induction h with
 |nil=>exact .nil
 |cons r t a=>rw[k5,k5];exact AX.append a (.cons r .nil)
theorem Nt{α:Type}:∀(l:O α) (i:Nat),(l.eraseIdx i).length<=l.length
 |[],_=>zo _
 |_::_,0=>JU _
 |_::r,i+1=>Nat.succ_le_succ (Nt r i)
section
variable{X:Cx}{σ:St}{H:Hp}{b:A1}{xs ys zs:O V}
theorem AU.abd{its':O A0}{f:Array A0->Array A0}{t':Nat}(I:AU X AN σ H s)(a:H l=Z (.lst xs))(e:s.heap.get? l=Z { cls:=.type "list",data:=.seq AQ.toArray n })(b:f AQ.toArray=its'.toArray)(c:AX ys its')(g:ys.length<=AA):
  AU X AN σ (B4 H l (.lst ys)) { s with heap:=s.heap.update l (Obj.mapSeq f),toks:=t' }:=by
 have q:=PySem.IsL.update e f;rw[b]at q;refine I.write (x:=l) (e:=l) (by rw[a];exact trivial) (.inl S) (λh u hb d=>(Heap.get?_update_other s.heap (Obj.mapSeq f) (KM hb)).trans d) ⟨_,q⟩ ?_;exact⟨g,its',_,c,q⟩
theorem AU.ajX(I:AU X AN σ H s)(a:H l=Z (.lst xs)):xs.length<=AA/\∃(AQ:O A0) (n:Nat),AX xs AQ/\xs.length=AQ.length/\s.heap.get? l=Z { cls:=.type "list",data:=.seq AQ.toArray n }:=by
 obtain⟨z,AQ,n,r,e⟩:=I.hok l _ a;exact⟨z,AQ,n,r,r.length,e⟩
end
section
variable{X:Cx}
def XI:V->O V->Hp->VK->Prop:=λx vs H Q=>∃l xs y,x=.ref l/\vs=[y]/\H l=Z (.lst xs)/\xs.length<AA/\Q .non (B4 H l (.lst (xs++[y])))
theorem Nu:LX X "list.append" XI:=by
 intro AN s σ H x vs v us Q I b d h;obtain⟨l,xs,y,rfl,rfl,a,g,q⟩:=h;cases b;obtain⟨u,rfl,c⟩:=d.one;obtain⟨z,AQ,n,r,f,e⟩:=I.ajX a;refine call_meets F.slot_list_append ⟨_,e,rfl⟩ F.entry_list_append (F.args_list_append_2 _ _) (PySem.list_append l AQ.toArray n u (by rw[zI];omega)) ⟨e,?_⟩;refine⟨.non,_,I.abd (its':=AQ++[u]) a e (by simp) (r.append (.cons c .nil)) ?_,rfl,q⟩;rw[zS,List.length_singleton];omega
def P':V->O V->Hp->VK->Prop:=λx vs H Q=>∃l xs i k y,x=.ref l/\vs=[.int i]/\H l=Z (.lst xs) ∧ -(2 ^ 63)<=i/\i<2 ^ 63/\seqIndex? i xs.length=Z k/\xs[k]?=Z y/\Q y (B4 H l (.lst (xs.eraseIdx k)))
theorem eK:LX X "list.pop" P':=by
 intro AN s σ H x vs v us Q I b o h;obtain⟨l,xs,i,k,y,rfl,rfl,a,h1,h2,d,f,q⟩:=h;cases b;obtain⟨u,rfl,m⟩:=o.one;obtain⟨t,rfl⟩:=m;obtain⟨z,AQ,n,r,c,e⟩:=I.ajX a;obtain⟨w,j,g⟩:=r.get f;refine call_meets F.slot_list_pop ⟨_,e,rfl⟩ F.entry_list_pop (F.args_list_pop_2 _ _)
  (MeetsSeq.list_pop_at l AQ.toArray n i t k w (fitsIndex_both h1 h2) (by rw[zI,<-c];exact d) (by rw[<-Qb];exact j) (by rw[zI];omega)) ⟨e,?_⟩
 refine⟨y,_,I.abd (its':=AQ.eraseIdx k) a e ?_ (r.eraseIdx k) ?_,g,q⟩
 ·show AQ.toArray.eraseIdxIfInBounds k=(AQ.eraseIdx k).toArray;rw[List.eraseIdxIfInBounds_toArray]
 ·have:=Nt xs k;omega
end
section
variable{X:Cx}
end
end L2
namespace L2
section
variable [DecidableEq κ]
def Dv(AO:O (κ×V))(k:κ):Y V:=(AO.find? λa=>decide (a.1=k)).map (·.2)
def BA(AO:O (κ×V))(k:κ)(v:V):O (κ×V):=
 if(AO.any λa=>decide (a.1=k))=true then AO.map (λa=>if a.1=k then(a.1,v)else a)else AO++[(k,v)]
theorem Bg{p:κ×V}{r:O (κ×V)}{k:κ}(e:p.1=k):Dv (p::r) k=Z p.2:=by simp[Dv,kQ,e]
theorem Bh{p:κ×V}{r:O (κ×V)}{k:κ}(e:¬ p.1=k):Dv (p::r) k=Dv r k:=by simp[Dv,kQ,e]
theorem R5(k:κ):∀AO:O (κ×V),(AO.any λa=>decide (a.1=k))=(Dv AO k).isSome
 |[]=>rfl
 |p::r=>by
  rw[kB];by_cases e:p.1=k
  ·simp only[Bg e,Zs e,Bool.true_or,yB]
  ·rw[Bh e,Zp e,Bool.false_or];exact R5 k r
theorem qe(AO:O (κ×V))(k:κ)(v:V):(BA AO k v).length<=AO.length+1:=by
 unfold BA;split
 ·rw[zk];omega
 ·rw[zS,ZZ,List.length_nil];omega
theorem Ik.Dw{o:Y V}{u:Y A0}(r:Ik o u):o.isSome=u.isSome:=by
 cases o with
 |none=>cases u with
  |none=>rfl
  |some _=>exact(show False from r).elim
 |some _=>cases u with
  |none=>exact(show False from r).elim
  |some _=>rfl
theorem KV.val{AO:O (κ×V)}{vs:O (κ×A0)}(r:KV AO vs)(k:κ):Ik (Dv AO k) (valueAt vs k):=by
 unfold KV at r
 induction r with
 |nil=>exact True.intro
 |@cons p q ps a h t c=>
  obtain⟨h1,h2⟩:=h;by_cases e:p.1=k
  ·have e':q.1=k:=h1.symm.trans e;have b:valueAt (q::a) k=Z q.2:=by simp[valueAt,kQ,e']
   rw[Bg e,b];exact h2
  ·have e':¬ q.1=k:=λz=>e (h1.trans z);have b:valueAt (q::a) k=valueAt a k:=by simp[valueAt,kQ,e']
   rw[Bh e,b];exact c
theorem KV.any{AO:O (κ×V)}{vs:O (κ×A0)}(r:KV AO vs)(k:κ):(AO.any λa=>decide (a.1=k))=vs.any λa=>decide (a.1=k):=by
 unfold KV at r
 induction r with
 |nil=>rfl
 |cons h t b=>rw[kB,kB,b,h.1]
theorem KV.repl{AO:O (κ×V)}{vs:O (κ×A0)}(r:KV AO vs)(k:κ){y:V}(b:Au y u):
  KV (AO.map λa=>if a.1=k then(a.1,y)else a) (vs.map λa=>if a.1=k then(a.1,u)else a):=by
 unfold KV at r ⊢
 induction r with
 |nil=>exact .nil
 |@cons p q ps d h t c=>
  rw[zl,zl];refine .cons ?_ c;obtain⟨h1,h2⟩:=h;by_cases e:p.1=k
  ·rw[zr e,zr (h1.symm.trans e)];exact⟨h1,b⟩
  ·rw[zD e,zD (λz=>e (h1.trans z))];exact⟨h1,h2⟩
theorem KV.put{AO:O (κ×V)}{vs:O (κ×A0)}(r:KV AO vs)(k:κ){y:V}(a:Au y u):KV (BA AO k y) (stored vs k u):=by
 unfold BA stored;rw[r.any k];by_cases e:(vs.any λb=>decide (b.1=k))=true
 ·rw[zr e,zr e];exact r.repl k a
 ·rw[zD e,zD e];exact Paired.snoc r ⟨rfl,a⟩
theorem KV.length{AO:O (κ×V)}{vs:O (κ×A0)}(r:KV AO vs):AO.length=vs.length:=Paired.length r
end
theorem Iw{k:AY}(r:Au (kV k) u):(bD P w).is k u=true:=by
 cases k with
 |inl i=>obtain⟨t,e⟩:=(show ∃t,u=Value.int i t from r);subst e;exact RV P w i t
 |inr x=>obtain⟨t,e⟩:=(show ∃t,u=Value.str x t from r);subst e;exact RW P w x t
theorem Nv{P:A3}{w:A4}:∀{ks:O AY} {us:O A0},AX (ks.map kV) us->ItemsAre (bD P w) ks us
 |[],_,r=>by rw[JO]at r;cases r;exact .nil
 |k::ks,_,r=>by
  rw[zl]at r;cases r with
  |cons h t=>exact .cons (Iw h) (Nv t)
abbrev KT(H:Hp):O (O AY×V)->O (O AY×A1×A0)->Prop:=AI λp q=>p.1=q.1/\H q.2.1=Z (.tup (p.1.map kV))/\Au p.2 q.2.2
theorem KT.val{H:Hp}{AO:O (O AY×V)}{xs:O (O AY×A1×A0)}(r:KT H AO xs)(k:O AY):Ik (Dv AO k) ((atKey xs k).map (·.2)):=by
 induction r with
 |nil=>exact True.intro
 |@cons p q ps a h t c=>
  obtain⟨h1,_,h2⟩:=h;by_cases e:p.1=k
  ·have e':q.1=k:=h1.symm.trans e;have b:atKey (q::a) k=Z q.2:=by simp[atKey,kQ,e']
   rw[Bg e,b];exact h2
  ·have e':¬ q.1=k:=λz=>e (h1.trans z);have b:atKey (q::a) k=atKey a k:=by simp[atKey,kQ,e']
   rw[Bh e,b];exact c
theorem KT.repl{H:Hp}{AO:O (O AY×V)}{xs:O (O AY×A1×A0)}(r:KT H AO xs)(k:O AY){y:V}(b:Au y u):
  KT H (AO.map λa=>if a.1=k then(a.1,y)else a) (xs.map (putAt k u)):=by
 induction r with
 |nil=>exact .nil
 |@cons p q ps f h t d=>
  rw[zl,zl];refine .cons ?_ d;obtain⟨h1,h2,c⟩:=h;unfold putAt;by_cases e:p.1=k
  ·rw[zr e,zr (h1.symm.trans e)];exact⟨h1,h2,b⟩
  ·rw[zD e,zD (λz=>e (h1.trans z))];exact⟨h1,h2,c⟩
theorem KT.put{H:Hp}{AO:O (O AY×V)}{xs:O (O AY×A1×A0)}(r:KT H AO xs)(k:O AY){b:A1}{y:V}(hb:H b=Z (.tup (k.map kV)))(a:Au y u):
  KT H (BA AO k y) (storedH xs k b u):=by
 have e:(AO.any λc=>decide (c.1=k))=(atKey xs k).isSome:=by
  rw[R5,(r.val k).Dw,Option.isSome_map]
 unfold BA storedH;rw[e];by_cases q:(atKey xs k).isSome=true
 ·rw[zr q,zr q];exact r.repl k a
 ·rw[zD q,zD q];exact Paired.snoc r ⟨rfl,hb,a⟩
theorem KT.keeps{H H':Hp}{AO:O (O AY×V)}{xs:O (O AY×A1×A0)}(r:KT H AO xs)(a:∀b ys,H b=Z (.tup ys)->H' b=Z (.tup ys)):KT H' AO xs:=
 Paired.adP r λ_ _ z=>⟨z.1,a _ _ z.2.1,z.2.2⟩
section
variable{H:Hp}
theorem OZ{u:HO}(ok:Az P w H h)(e:Rd H a u):iZ P w H h a u:=e.ok ok
theorem wQ{AO:O (AY×V)}(ok:Az P w H h)(e:Rd H a (.dK AO)):AO.length<=AA/\(a==sysModules)=false/\∃vs,KV AO vs/\h.DictOf (bD P w) a vs:=
 show iZ P w H h a (.dK AO) from OZ ok e
theorem IG{AO:O (AY×V)}(ok:Az P w H h)(e:H a=Z (.dK AO)):AO.length<=AA/\(a==sysModules)=false/\∃vs,KV AO vs/\h.DictOf (bD P w) a vs:=wQ ok (.inl e)
theorem PL{ks:O AY}(ok:Az P w H h)(e:H a=Z (.tup (ks.map kV))):(tupleKind (bD P w)).is h ks a:=by
 obtain⟨_,AQ,r,o,h1,h2,⟨n,b⟩,_⟩:=(show iZ P w H h a (.tup (ks.map kV)) from ok a _ e);exact⟨o,AQ.toArray,n,h1,h2,b,by simpa using Nv r⟩
theorem XQ{AO:O (O AY×V)}(ok:Az P w H h)(e:Rd H a (.dT AO)):AO.length<=AA/\(a==sysModules)=false ∧
  ∃xs,KT H AO xs/\h.DictOfH (tupleKind (bD P w)) a xs:=by
 obtain⟨z,y,xs,r,o,es,ep,h1,h2,c,f,g⟩:=(show iZ P w H h a (.dT AO) from OZ ok e);refine⟨z,y,xs,r,o,es,ep,h1,h2,c,f,λx hx=>?_,g⟩;have all:∀{l:O (O AY×V)} {m:O (O AY×A1×A0)},KT H l m->∀x∈m,(tupleKind (bD P w)).is h x.1 x.2.1:=by
  intro l m q
  induction q with
  |nil=>intro x hx;exact nomatch hx
  |@cons p q ps i b t d=>
   intro x hx;rcases List.mem_cons.mp hx with e|hx
   ·subst e;exact PL ok (by rw[<-b.1];exact b.2.1)
   ·exact d x hx
 exact all r x hx
theorem Wl{AO:O (O AY×V)}(ok:Az P w H h)(e:H a=Z (.dT AO)):AO.length<=AA/\(a==sysModules)=false ∧
  ∃xs,KT H AO xs/\h.DictOfH (tupleKind (bD P w)) a xs:=XQ ok (.inl e)
end
def FO(H:Hp)(a:A1)(y:V)(r:Y V):Prop:=
 (∃AO k,Rd H a (.dK AO)/\y=kV k/\r=Dv AO k)\/∃AO k b,Rd H a (.dT AO)/\y=.ref b/\H b=Z (.tup (k.map kV))/\r=Dv AO k
def EZ(H:Hp)(a:A1)(y v:V)(H':Hp):Prop:=
 (∃AO k,H a=Z (.dK AO)/\y=kV k/\AO.length<AA/\H'=B4 H a (.dK (BA AO k v))) ∨
 ∃AO k b,H a=Z (.dT AO)/\y=.ref b/\H b=Z (.tup (k.map kV))/\AO.length<AA/\H'=B4 H a (.dT (BA AO k v))
theorem EZ.k{H:Hp}{a:A1}{AO:O (AY×V)}{k:AY}{v:V}(e:H a=Z (.dK AO))(b:AO.length<AA):EZ H a (kV k) v (B4 H a (.dK (BA AO k v))):=.inl ⟨AO,k,e,rfl,b,rfl⟩
section
variable{X:Cx}{σ:St}{H:Hp}{y v:V}{r:A0}{o:Y V}
theorem AU.big(I:AU X AN σ H s):sysModules<s.heap.objs.size:=by
 have h:mainGlobals<s.heap.objs.size:=(I.mod.glob.keeps I.bk).lt;exact Nat.lt_trans (by decide) h
theorem Zz{Q:B7}(q:A.units+1<cLine)(I:AU X AN σ H s)(g:FO H a y (Z v))(n:Au y u)(h:∀c s',AU X AN σ H s'->Au v c->Q c s'):
  A7 (A8 X.prog X.w) A (getItem (.ref a) u) Q E s:=by
 rcases g with⟨AO,k,e,f,l⟩|⟨AO,k,b,e,f,eb,l⟩
 ·subst f;obtain⟨z,hd,vs,i,d⟩:=wQ I.hok e;obtain⟨c,m,j⟩:=Ik.some_of (v:=v) (o:=valueAt vs k) (by rw[l];exact i.val k);exact wpAny_getItem_of (Iw n) d.mapOf m (h c _ (I.tok _) j)
 ·subst f;cases(show u=Value.ref b from n);obtain⟨z,hd,xs,i,d⟩:=XQ I.hok e;obtain⟨c,m,j⟩:=Ik.some_of (v:=v) (o:=(atKey xs k).map (·.2)) (by rw[l];exact i.val k);obtain⟨p,hp,t⟩:=Option.map_eq_some_iff.mp m;refine wpAny_getItem_heap (tupleKind_room_in1 q) (PL I.hok eb) d hp ?_;rw[t];exact h c _ (I.tok _) j
theorem Z'{Q:B7}(j:A.units+1<cLine)(I:AU X AN σ H s)(g:FO H a y o)(i:Au y u)(h:∀s',AU X AN σ H s'->Q (.bool (!o.isSome)) s'):
  A7 (A8 X.prog X.w) A (AG .NotIn u (.ref a)) Q E s:=by
 rcases g with⟨AO,k,e,d,l⟩|⟨AO,k,b,e,d,eb,l⟩
 ·subst d;obtain⟨z,hd,vs,f,c⟩:=wQ I.hok e;refine wpAny_notIn_of (Iw i) hd c.mapOf ?_;rw[<-(f.val k).Dw,<-l];exact h _ (I.tok _)
 ·subst d;cases(show u=Value.ref b from i);obtain⟨z,hd,xs,f,c⟩:=XQ I.hok e;refine wpAny_notIn_heap (tupleKind_room_in1 j) (PL I.hok eb) hd c ?_;have q:=(f.val k).Dw;rw[Option.isSome_map]at q;rw[<-q,<-l];exact h _ (I.tok _)
theorem Ht{h':A6}{t':Nat}{c:HO}(I:AU X AN σ H s)(d:F3 (H a))(hs:Heap.SameBut a s.heap h')(he:∃q,h'.get? a=Z q)(new:iZ X.prog X.w (B4 H a c) h' a c):
  AU X AN σ (B4 H a c) { s with heap:=h',toks:=t' }:=
 I.write (x:=a) (e:=a) d (.inl S) (λb q hb z=>(hs.2 b hb).trans z) he new
theorem VJ{H':Hp}{h':A6}{AO:O (AY×V)}{vs:O (AY×A0)}(z:AO.length<=AA)(hd:(a==sysModules)=false)(c:KV AO vs)(b:h'.DictOf (bD P w) a vs):
  iZ P w H' h' a (.dK AO):=⟨z,hd,vs,c,b⟩
theorem ZC{H':Hp}{Q:Unit->A2->Prop}(F:A.units+1<cLine)(I:AU X AN σ H s)(g:EZ H a y v H')(t:Au y u)(B:Au v r)(h:∀s',AU X AN σ H' s'->Q () s'):
  A7 (A8 X.prog X.w) A (setItem (.ref a) u r) Q E s:=by
 rcases g with⟨AO,k,e,n,l,p⟩|⟨AO,k,b,e,n,eb,l,p⟩
 ·subst n p;obtain⟨z,hd,vs,d,m⟩:=IG I.hok e;have o:vs.length<=AA:=by rw[<-d.length];exact z
  have j:(BA AO k v).length<=AA:=by have:=qe AO k v;omega
  refine wpAny_setItem_pairs (hsz:=o) (Iw t) m λh' f hs=>h _ ?_;have D:∃q,h'.get? a=Z q:=let ⟨q,_,_,i,_⟩:=f;⟨q,i⟩;exact Ht I (by rw[e];exact True.intro) hs D (VJ j hd (d.put k B) f)
 ·subst n p;cases(show u=Value.ref b from t);obtain⟨z,hd,xs,d,m⟩:=Wl I.hok e;have o:xs.length<=AA:=by rw[<-Paired.length d];exact z
  have j:(BA AO k v).length<=AA:=by have:=qe AO k v;omega
  refine wpAny_setItem_heap (hsz:=o) (tupleKind_room_in1 F) (PL I.hok eb) m λh' f hs=>h _ ?_;obtain⟨q,es,ep,i,h2,C,G,_,J⟩:=f;refine Ht I (by rw[e];exact True.intro) hs ⟨q,i⟩ ⟨j,hd,_,(d.put k eb B).keeps λc ys x=>?_,q,es,ep,i,h2,C,G,J⟩;rw[aU (qM x e (λz=>nomatch z))];exact x
end
section
variable{X:Cx}{σ:St}{H:Hp}{AO:O (AY×V)}{k:AY}
end
def IU(i:Expr):Prop:=∀a iv,subscripted i false a iv=operate [a,iv] (getItem a iv)
theorem nk{value a:Expr}{T id:String}{Q:B7}(j:typeLookup (.type T) "__getitem__"=pure (Z (.builtin id)))(hs:IU a)(h:A7 (A8 prog w) A (eval value env) (λo g=>A7 (A8 prog w) A (eval a env) (λi b=>b.TypeIs o T/\A7 (A8 prog w) A (getItem o i) Q E b) E g) E s):
  A7 (A8 prog w) A (eval (.Subscript value a pos) env) Q E s:=by
 refine Subscript_ (QA h (λo g l=>QA l (λi b c=>?_) λ_ _ x=>x) λ_ _ x=>x);obtain⟨f,c⟩:=c;unfold subscriptTail;refine zd ?_;rw[getitemInPython_of_ne f.not_modules];refine zd (wpAny_specialOf f j ?_);have d:A7 (A8 prog w) A (subscripted a false o i) (λr e=>A7 (A8 prog w) A (letTemporaryGo value o r >>= λ_=>pure r) Q E e) E b:=by
  rw[hs o i];exact wpAny_operating (QA c (λr e m=>zd (wpAny_letTemporaryGo (zg m))) λ_ _ x=>x)
 first
  |exact zg (zd d)
  |exact zd (zg (zd d))
  |exact zd d
theorem R6{X:Cx}{σ:St}{H:Hp}{y:V}{o:Y V}(I:AU X AN σ H s)(g:FO H a y o):s.TypeIs (.ref a) "dict":=by
 rcases g with⟨AO,k,e,_,_⟩|⟨AO,k,b,e,_,_,_⟩
 ·obtain⟨_,_,vs,_,c⟩:=wQ I.hok e;exact c.typeIs
 ·obtain⟨_,_,xs,_,c⟩:=XQ I.hok e;exact c.typeIs
def YU(td ty:TE):TE:=λσ H Q=>td σ H λx H1=>ty σ H1 λy H2=>∃a v,x=.ref a/\FO H2 a y (Z v)/\Q v H2
def mT(td ty tv:TE):TS:=λD σ H=>tv σ H λv H1=>td σ H1 λx H2=>ty σ H2 λy c=>∃a b,x=.ref a/\EZ c a y v b/\D.nx σ b
section
variable{X:Cx}{o i value:Expr}{pos':Pos}{td ty tv:TE}
theorem VM(c:X.A.units+1<cLine)(e:PE X o td)(hi:PE X i ty)(hs:IU i):PE X (.Subscript o i pos) (YU td ty):=by
 intro AN s σ H Q I h;refine nk PySem.F.slot_dict_getitem.lookup hs (jc (e AN s σ H _ I h) λu s1 ⟨x,H1,I1,rx,q1⟩=>jc (hi AN s1 σ H1 _ I1 q1) λiv s2 ⟨y,H2,I2,ry,a,v,ex,g,q2⟩=>?_);subst ex;obtain rfl:u=Value.ref a:=rx;exact⟨R6 I2 g,Zz c I2 g ry λj f b d=>⟨v,H2,b,d,q2⟩⟩
theorem Po(d:X.A.units+1<cLine)(e:PE X o td)(hi:PE X i ty)(b:PE X value tv)(hs:swapsWith value (Z (.Subscript o i pos')) pos.line X.env=pure false):
  PS X (.Assign [.Subscript o i pos'] value pos) (mT td ty tv):=by
 intro AN s σ H D I h;refine wpAny_Assign_Subscript (jc (b AN s σ H _ I h) λr s1 ⟨v,H1,I1,rv,q1⟩=>jc (e AN s1 σ H1 _ I1 q1) λu s2 ⟨x,H2,I2,rx,q2⟩=>jc (hi AN s2 σ H2 _ I2 q2) λiv s3 ⟨y,H3,I3,ry,a,H4,ex,g,q3⟩=>?_) hs;subst ex;obtain rfl:u=Value.ref a:=rx;exact ZC d I3 g ry rv λf c=>⟨σ,H4,c,q3⟩
end
theorem Bj{H:Hp}(h:A6)(hb:sysModules<h.objs.size):iZ P w H (h.push { cls:=.type "dict",data:=.dict #[] }) h.objs.size (.dK []):=
 ⟨QU _,beq_eq_false_iff_ne.mpr (KM (z4 hb)),[],.nil,Heap.DictOf.new h⟩
def gS:TE:=λ_ H Q=>∀p,H p=U->Q (.ref p) (B4 H p (.dK []))
section
variable{X:Cx}
theorem YR:PE X (.Dict [] [] pos) gS:=λAN s σ H Q I h=>
 wpAny_Dict_empty ⟨.ref s.heap.objs.size,_,I.laid (a:=s.heap.objs.size) (o:=.dK []) (t':=s.toks) (λ_ _ q=>ze _ q) (zo _) (Bj s.heap I.big),rfl,h _ (I.hok.fresh (zo _))⟩
end
def VL:O (TE×TE)->St->Hp->(O (V×V)->Hp->Prop)->Prop
 |[],_,H,Q=>Q [] H
 |(tk,tv)::r,σ,H,Q=>tk σ H λx H1=>tv σ H1 λy H2=>VL r σ H2 λps a=>Q ((x,y)::ps) a
abbrev VV:O (V×V)->O (A0×A0)->Prop:=AI λp q=>Au p.1 q.1/\Au p.2 q.2
def GL(X:Cx)(pos:Pos)(c:O (Y Expr))(b:O Expr)(a:O (TE×TE)):Prop:=
 ∀(AN:O (A1×AE)) (s:A2) (σ:St) (H:Hp) (Q:O (V×V)->Hp->Prop),AU X AN σ H s->VL a σ H Q →
  A7 (A8 X.prog X.w) X.A (evalPairs (pairTrees c b X.env pos)) (λvs s'=>∃ps H',AU X AN σ H' s'/\VV ps vs/\Q ps H') X.xe s
theorem eW{X:Cx}:GL X pos [] [] []:=λAN s σ H Q I h=>pairTrees_nil_walk ⟨[],H,I,.nil,h⟩
theorem WV{X:Cx}{k v:Expr}{ks:O (Y Expr)}{vs:O Expr}{tk tv:TE}{a:O (TE×TE)}(b:PE X k tk)(c:PE X v tv)(d:GL X pos ks vs a):
  GL X pos (Z k::ks) (v::vs) ((tk,tv)::a):=λAN s σ H Q I h=>
 pairTrees_cons_walk (jc (b AN s σ H _ I h) λu s1 ⟨x,H1,I1,rx,q1⟩=>jc (c AN s1 σ H1 _ I1 q1) λw2 s2 ⟨y,H2,I2,ry,q2⟩=>
  jc (d AN s2 σ H2 _ I2 q2) λws s3 ⟨ps,H3,I3,rel,q3⟩=>⟨(x,y)::ps,H3,I3,.cons ⟨rx,ry⟩ rel,q3⟩)
def Dy(AO more:O (AY×V)):O (AY×V):=more.foldl (λb a=>BA b a.1 a.2) AO
theorem KV.merge:∀{more:O (AY×V)} {rs:O (AY×A0)} {AO:O (AY×V)} {vs:O (AY×A0)},KV more rs->KV AO vs->KV (Dy AO more) (merged vs rs):=by
 intro more rs AO vs r;unfold KV at r
 induction r generalizing AO vs with
 |nil=>intro q;exact q
 |@cons p q ps c h t a=>
  intro b;have e:KV (BA AO p.1 p.2) (stored vs q.1 q.2):=by
   have:=b.put p.1 h.2;rw[<-h.1];exact this
  exact a e
theorem zL:∀(more AO:O (AY×V)),(Dy AO more).length<=AO.length+more.length
 |[],AO=>by show AO.length<=AO.length+0;omega
 |p::r,AO=>by
  have h1:=zL r (BA AO p.1 p.2);have h2:=qe AO p.1 p.2;show(Dy (BA AO p.1 p.2) r).length<=_;rw[ZZ];omega
theorem Iz{P:A3}{w:A4}:∀{AO:O (AY×V)} {e:O (A0×A0)},VV (AO.map λd=>(kV d.1,d.2)) e->∃rs,Carries (bD P w) e rs/\KV AO rs
 |[],_,r=>by rw[JO]at r;cases r;exact⟨[],True.intro,.nil⟩
 |p::AO,_,r=>by
  rw[zl]at r;cases r with
  |@cons a b as bs h t=>
   obtain⟨rs,c,q⟩:=Iz (P:=P) (w:=w) t;obtain⟨b1,b2⟩:=b;exact⟨(p.1,b2)::rs,⟨Iw h.1,rfl,c⟩,.cons ⟨rfl,h.2⟩ q⟩
def ip(b:O (TE×TE)):TE:=λσ H Q=>∀p,H p=U->VL b σ (B4 H p (.dK [])) λps H2=>H2 p=Z (.dK [])/\∃AO:O (AY×V),ps=AO.map (λa=>(kV a.1,a.2))/\AO.length<=15/\Q (.ref p) (B4 H2 p (.dK (Dy [] AO)))
theorem fz{X:Cx}{b:O (Y Expr)}{d:O Expr}{g:O (TE×TE)}(h:GL X pos b d g)(m:b.all (·.isSome)=true)(l:b.length=d.length)(h0:b≠[])(i:b.length<=15):PE X (.Dict b d pos) (ip g):=by
 intro AN s σ H Q I q;have j:=I.hok.fresh (zo s.heap.objs.size);have t:=I.laid (a:=s.heap.objs.size) (o:=.dK []) (h':=s.heap.push { cls:=.type "dict",data:=.dict #[] }) (t':=s.toks) (λ_ _ q=>ze _ q) (zo _) (Bj s.heap I.big);refine wpAny_Dict_walk (knd:=bD X.prog X.w) m l h0 i (jc (h AN _ σ _ _ t (q _ j)) λws s2 ⟨ps,H2,I2,rel,e,AO,ep,lk,q2⟩=>?_);subst ep;obtain⟨v,c,rk⟩:=Iz (P:=X.prog) (w:=X.w) rel;obtain⟨z,hd,y,x,n⟩:=IG I2.hok e;cases x;refine⟨v,c,n,λh' f hs=>⟨.ref s.heap.objs.size,_,?_,rfl,q2⟩⟩;have u:(Dy [] AO).length<=AA:=by
  have h1:=zL AO [];rw[List.length_nil]at h1;rw[sizeLine_eq];omega
 have p:∃q,h'.get? s.heap.objs.size=Z q:=let ⟨q,_,_,hq,_⟩:=f;⟨q,hq⟩;exact Ht I2 (by rw[e];exact True.intro) hs p (VJ u hd (rk.merge .nil) f)
structure M1 (X:Cx) (o:Expr) (m:Str) (apos:Pos) (e:Expr) (cpos:Pos):Prop where
 base:attributeBase o m X.env (eval o X.env)=eval o X.env
 few:((backTo cpos (starEach [e] X.env)).all (λx=>!x.1)&&(backToKw cpos (keywordEach [] X.env)).all (λx=>x.1.isSome)
  && decide (([e]:List Expr).length+([]:List Keyword).length+(if([]:List Keyword).isEmpty then 0 else 1)<30))=true
 line:(apos.endLine==cpos.line)=true
 trees:backTo cpos (starEach [e] X.env)=[(false,eval e X.env)]
structure M2 (X:Cx) (o:Expr) (m:Str) (apos:Pos) (e f:Expr) (cpos:Pos):Prop where
 base:attributeBase o m X.env (eval o X.env)=eval o X.env
 few:((backTo cpos (starEach [e,f] X.env)).all (λx=>!x.1)&&(backToKw cpos (keywordEach [] X.env)).all (λx=>x.1.isSome)
  && decide (([e,f]:List Expr).length+([]:List Keyword).length+(if([]:List Keyword).isEmpty then 0 else 1)<30))=true
 line:(apos.endLine==cpos.line)=true
 trees:backTo cpos (starEach [e,f] X.env)=[(false,eval e X.env),(false,eval f X.env)]
section
variable{X:Cx}{σ:St}{H:Hp}{y d:V}{r:A0}{o:Y V}
end
section
variable{X:Cx}{o f:Expr}{td ty tx:TE}
end
section
variable{X:Cx}{σ:St}{H:Hp}{AO:O (AY×V)}
end
section
variable{X:Cx}{σ:St}{H:Hp}{y:V}
end
end L2
namespace Att
open PySem PySem.W PySem.Calls PyProof.Rows
theorem Gz{P:Params}:∀(c:O Int) (vs:O A0),WellAll P h vs (c.map WData.int)->IntsAre vs c:=by
 intro c
 induction c with
 |nil=>
  intro vs w;rw[JO]at w;cases w;exact .nil
 |cons n c d=>
  intro vs w;rw[zl]at w;cases w with
  |cons a b=>
   cases a;exact .cons _ _ (d _ b)
theorem ZD{l:OpenLaw}(m:l.most=Z n){P:Params}{args:O WData}{i:O A0}(f:l.row.toRowW.claim.pre args=true)(x:WellAll P h i args):
  ∃a vs b,i=[Value.ref a]/\args=[WData.list (b.map WData.int)]/\h.get? a=Z { cls:=.type "list",data:=.seq vs.toArray }/\IntsAre vs b/\b.length<=n:=by
 have s:WShape.hasAll [] args [.list .int]=true:=(pre_splitW f).1;have g:l.pre.holds [] { args:=args }=true:=(pre_splitW f).2;obtain⟨d,r,rfl,h1,h2⟩:=hasAllW_cons s;obtain rfl:=hasAllW_nil h2;obtain⟨xs,rfl,j⟩:=hasW_list h1;obtain⟨b,rfl⟩:=items_int j;have v:b.length<=n:=by
  unfold OpenLaw.pre at g;have c:(WTm.not (.lt (.lit (.int (n:Int))) (.len (.arg 0)))).holds [] { args:=[.list (b.map .int)] }=true:=by
   have c:=(holds_andW g).1;rw[m]at c;exact c
  have e:=condW_of c (w_not (w_lt w_lit (w_len_list (w_arg S))));rw[zk]at e;refine Nat.le_of_not_lt λq=>?_;have w:(n:Int)<((b.length:Nat):Int):=by omega
  first
   |(rw[Zs w]at e;exact absurd e (by decide))
   |(simp at e;omega)
 cases x with
 |cons p t=>
  cases t;cases p with
  |list u o=>exact⟨_,_,b,rfl,rfl,u,Gz b _ o,v⟩
theorem ZF(l:OpenLaw)(args:O WData):l.row.toRowW.claim.post args (.bool true) args=true:=
 postW_of (r:=l.row.toRowW) (X:=(true==true))
  (show WShape.has [] (.bool true) .bool=true by first|rfl|decide|simp[WShape.has,WShape.arms,WShape.armsAll])
  (show(WTm.eq .res (.lit (.bool true))).value [] { args:=args,res:=Z (.bool true),after:=args }=Z (.bool (true==true)) from w_eq_bool (w_res S) w_lit) rfl
theorem R7{l:OpenLaw}{q:A3}{loose:AZ}{d:DefRec}(p:l.most=Z n)(s:d.params.defaults=[])(call:∀(w:A4) (h b:A2) (mg g:AJ->Option A0) (fa:A1) (o:AE) (i c j:A0) (a:A1) (vs:O A0) (e:O Int),
   Ground q loose [] XP w h mg g b.heap->YP w b.heap →
   b.heap.get? fa=Z o->o.data=.func (docDef d.name d.params d.body d.scope i c j)->b.heap.CodeRec c d.name->mg d.name=Z (.ref fa) →
   b.heap.get? a=Z { cls:=.type "list",data:=.seq vs.toArray }->IntsAre vs e->e.length<=n->b.gens=#[] →
   AF (A8 l.prog w) callerA (.call (.ref fa) ⟨[.ref a],[]⟩) (λr s'=>r=.ok (.ret (.bool true))/\OldK b.heap s'.heap/\s'.os=b.os/\AllBare s'.gens) b):
  WalkO q loose XP YP l.row.toRowW d [] (λf vs=>PySem.call f vs):=by
 intro w h b mg g G Y fa o i c j v kV B hd D m y C K L as A J M H N;obtain rfl:v=.none:=Dflts.none m s;obtain rfl:kV=.none:=Dflts.noKw m;obtain⟨a,vs,e,rfl,rfl,I,u,F⟩:=ZD p A H;refine enter_call (codeAny_mono (call w h b mg g fa o i c j a vs e G Y B (fd_plain hd) D y I u F C) λr s' x=>?_);obtain⟨rfl,h2,z,E⟩:=x;exact⟨.inl ⟨.bool true,.bool true,[],rfl,λ_=>S,.bool true,ZF l _,λ_=>⟨List.Pairwise.nil,λ_ t=>(nomatch t)⟩⟩,h2,z,E⟩
section
variable{K:Frag}
end
end Att
namespace L2
theorem yP:∀{vs:O A0} {a:O Int},IntsAre vs a->AX (a.map V.int) vs
 |_,_,.nil=>.nil
 |_,_,.cons n t h=>.cons ⟨t,rfl⟩ (yP h)
def Cc(H:Hp):Prop:=∀b,H b=U\/∃o xs,H b=Z (.ux o (.lst xs))
theorem cr{p:AJ->Y A0}{CX:CM}{k:Nat}{fa:A1}{sp:Sp}{c:A2}{vs:O A0}{g:O Int}(A:K.In c.heap)(C:c.heap.Ns mainGlobals mg)(hb:c.heap.Ns builtinsNs p)(a3:∀x:AJ,x ≠ "__name__" → p x=AH x)(a2:c.heap.NoLimit)(hg:c.gens=#[])(i:c.heap.get? a=Z { cls:=.type "list",data:=.seq vs.toArray })(hi:IntsAre vs g)(E:g.length<=AA)(W:oF k callerA)(F:∀base:A6,K.In base->base.Ns mainGlobals mg->qQ P w K mg base CX k fa fd [x] sp)(X:∀(s:A2) (u:A0),BindsTo s fd ⟨[u],[]⟩ [(x,u)])(L:∀H:Hp,Cc H->vI K H a (g.map V.int)->sp [.ref a] H (λv _=>v=.bl true) λ_ _ _=>False)(Q:∀H e s',CX [] H c (λ_ _ _=>False) e s'->False):
  AF (A8 P w) callerA (.call (.ref fa) ⟨[.ref a],[]⟩) (λr s'=>r=.ok (.ret (.bool true))/\OldK c.heap s'.heap/\s'.os=c.os/\AllBare s'.gens) c:=by
 have J:=yP hi;have M:=hi.length;have D:∀H:Hp,Cc H->vI K H a (g.map V.int)->Az P w H c.heap->(∀b,H b≠U->b=a)->(H a≠U->K.lookup a=U) →
   AF (A8 P w) callerA (.call (.ref fa) ⟨[.ref a],[]⟩) (λr s'=>r=.ok (.ret (.bool true))/\OldK c.heap s'.heap/\s'.os=c.os/\AllBare s'.gens) c:=by
  intro H B hS G I hK;have y:∀{b:A1} {o:AE},c.heap.get? b=Z o->H b=U->(Pj c.heap H).get? b=Z o:=λe n=>UY e n;have a0:∀{b:A1} {o:AE} {es:Array DictEntry} {ep:Nat},c.heap.get? b=Z o->o.data=.dict es ep->H b=U:=λ{b o es ep} e d=>by
   cases q:H b with
   |none=>rfl
   |some u=>
    have e':b=a:=I b (by rw[q];simp);subst e';rw[i]at e;cases e;have d':Data.seq vs.toArray _=Data.dict es ep:=d;cases d'
  have j:∀{b:A1} {m:AJ->Y A0},c.heap.Ns b m->(Pj c.heap H).Ns b m:=λ{b m} ⟨o,es,ep,e,d,r⟩=>⟨o,es,ep,y e (a0 e d),d,r⟩;have t:K.In (Pj c.heap H):=λb o e=>y (A b o e) (by
   cases q:H b with
   |none=>rfl
   |some u=>
    have e':b=a:=I b (by rw[q];simp);subst e';rw[hK (by rw[q];simp)]at e;cases e)
  have hM:Mod K mg (Pj c.heap H):=⟨t,j C,⟨p,j hb,a3⟩,let ⟨mc,h1,h2⟩:=a2;⟨mc,j h1,h2⟩⟩;have e0:Fu P w K mg (Pj c.heap H) callerA [] c H:=⟨rfl,hM,λb o e=>d4 e,Nat.le_of_eq (Zo _ _),trivial,λb hb=>absurd (show b∈([]:O A1) from hb) (by simp),G,.of_eq hg⟩;refine codeAny_mono ((F _ t (j C)).run callerA [] c H ⟨[.ref a],[]⟩ [.ref a] [.ref a] _ _ W e0 (X c (.ref a)) (.cons S .nil) (L H B hS)) λr s' h=>?_;cases r with
  |error e=>exact(Q H e s' h).elim
  |ok fl=>
   cases fl with
   |next=>exact False.elim h
   |brk=>exact False.elim h
   |cont=>exact False.elim h
   |ret u=>
    obtain⟨v,H',os,a1,un,a4,N,q⟩:=h;have q':v=.bl true:=q;subst q';obtain rfl:u=Value.bool true:=N;refine⟨rfl,OldK.of_keep λb o e=>?_,os,a1⟩;cases q:H b with
    |none=>exact un.keep b o e q (by intro z;exact absurd (show b∈([]:O A1) from z) (by simp)) (by simp)
    |some u=>
     rcases B b with z|⟨ob,xs,z⟩
     ·rw[q]at z;cases z
     ·have z2:=un.Gx b ob _ z;obtain⟨e1,_⟩:=G b _ z;obtain⟨e2,_⟩:=a4 b _ z2;rw[e]at e1;cases e1;exact e2
 cases l:K.lookup a with
 |some o=>
  have e:=A a o l;rw[i]at e;cases e;refine D (λ_=>U) (λ_=>.inl S) (.inr ⟨_,vs.toArray,_,l,rfl,rfl,rfl,by rw[zI,M];exact E,by simpa using J⟩) (λb u z=>by have f:(U:Y HO)=Z u:=z;cases f) (λb z=>absurd S z) λz=>absurd S z
 |none=>
  refine D (λb=>if b=a then Z (.ux { cls:=.type "list",data:=.seq vs.toArray } (.lst (g.map V.int)))else U) (λb=>?_) (.inl (.inr ⟨{ cls:=.type "list",data:=.seq vs.toArray },zr rfl⟩)) (λb u z=>?_) (λb z=>?_) λ_=>l
  ·by_cases hb:b=a
   ·exact .inr ⟨_,_,zr hb⟩
   ·exact .inl (zD hb)
  ·by_cases hb:b=a
   ·have f:=(zr hb).symm.trans z;cases f;subst hb;exact⟨i,by rw[zk];exact E,vs,_,J,i⟩
   ·have f:=(zD hb).symm.trans z;cases f
  ·by_cases hb:b=a
   ·exact hb
   ·exact absurd (zD hb) z
end L2
namespace L2
theorem gI{l:PySem.W.OpenLaw}{k:Nat}{q:A3}{loose:AZ}{d:DefRec}{K:Params->B1}{CX:A4->CM}{sp:A4->Sp}(p:l.most=Z n)(I:n<=AA)(t:d.params.defaults=[])(C:oF k callerA)(N:∀(w:A4) (h:A6),YP w h->(K w.params).In h)(F:∀(w:A4) (mg:AJ->Option A0) (fa:A1) (h:A6),(K w.params).In h->h.Ns mainGlobals mg->mg d.name=Z (.ref fa) →
   ∃fd:FuncData,(∀(s:A2) (u:A0),BindsTo s fd ⟨[u],[]⟩ [(x,u)]) ∧
    ∀base:A6,(K w.params).In base->base.Ns mainGlobals mg->qQ l.prog w (K w.params) mg base (CX w) k fa fd [x] (sp w))(y:∀(w:A4) (H:Hp) (a:A1) (c:O Int),c.length<=n->Cc H->vI (K w.params) H a (c.map V.int)->sp w [.ref a] H (λv _=>v=.bl true) λ_ _ _=>False)(B:∀(w:A4) (H:Hp) (s:A2) (e:A0) (s':A2),CX w [] H s (λ_ _ _=>False) e s'->False):
  PySem.W.WalkO q loose XP YP l.row.toRowW d [] (λf vs=>PySem.call f vs):=by
 refine Att.R7 p t λw X A mg P fa o pm Q a1 a vs c G Y ho hd a0 D m z j L=>?_;have i:=N w _ Y;obtain⟨fd,hb,M⟩:=F w mg fa _ i G.T.g D;exact cr i G.T.g G.T.b G.T.builtins G.T.nolimit L m z (ZO j I) C M hb (λH E J=>y w H a c j E J) λH e s'=>B w H A e s'
theorem VC{l:PySem.W.OpenLaw}{k:Nat}{q:A3}{loose:AZ}{d:DefRec}{K:Params->B1}{CX:CM}{sp:B1->Sp}(j:l.most=Z n)(m:n<=AA)(c:d.params.defaults=[])(p:oF k callerA)(t:∀(w:A4) (h:A6),YP w h->(K w.params).In h)(F:∀(w:A4) (mg:AJ->Y A0) (fa:A1) (h:A6),(K w.params).In h->h.Ns mainGlobals mg->mg d.name=Z (.ref fa) →
   ∃fd:FuncData,(∀(s:A2) (u:A0),BindsTo s fd ⟨[u],[]⟩ [(x,u)]) ∧
    ∀base:A6,(K w.params).In base->base.Ns mainGlobals mg->qQ l.prog w (K w.params) mg base CX k fa fd [x] (sp (K w.params)))(g:∀(K:B1) (H:Hp) (a:A1) (b:O Int),b.length<=n->Cc H->vI K H a (b.map V.int)->sp K [.ref a] H (λv _=>v=.bl true) λ_ _ _=>False)(o:∀(H:Hp) (s:A2) (e:A0) (s':A2),CX [] H s (λ_ _ _=>False) e s'->False):
  PySem.W.WalkO q loose XP YP l.row.toRowW d [] (λf vs=>PySem.call f vs):=
 gI (K:=K) (CX:=λ_=>CX) (sp:=λw=>sp (K w.params)) j m c p t F (λw H a b h1 h2 i=>g (K w.params) H a b h1 h2 i) λ_ H s e s'=>o H s e s'
end L2
namespace L2
def vK(s:AB):Arguments:=match s with
 |.FunctionDef _ a _ _ _ _ _ _ _ _=>a
 |_=>{ posonlyargs:=[],args:=[],vararg:=U,kwonlyargs:=[],kw_defaults:=[],kwarg:=U,defaults:=[] }
def jH(s:AB):O AB:=match s with
 |.FunctionDef _ _ b _ _ _ _ _ _ _=>b
 |_=>[]
def aP(s:AB):Scope:=match s with
 |.FunctionDef _ _ _ _ _ _ sc _ _ _=>sc
 |_=>{ kind:=.function,names:=[],isGenerator:=false,isCoroutine:=false }
abbrev Dz:CM:=λ_ _ _ _ _ _=>False
abbrev E0:XK:=λ_ _ _=>False
theorem HU{X:Cx}:C6 Dz X E0:=λ_ _ _ _ _ _ _ h=>h.elim
structure CY (K:B1) (x qual:Str) (st:Stmt) (f:Addr) (fd:FuncData):Prop where
 ex:∃(oc:Value) (od:Option Addr) (kV doc pm:Value) (an:Option Addr) (cdv ct:Value) (osl:Array (Option Value)),
  fd=fnOf x qual (vK st) (jH st) (aP st) .none kV doc pm an cdv ct/\K.lookup f=some ⟨oc,od,.func fd,osl⟩/\codeIn K cdv qual=true
 kp:keepIn K (.ref f)=true
theorem CY.ok{st:AB}{f:A1}{k:Nat}{sp:Sp}(F:CY K x qual st f fd)(S:bF N ps (aP st))(len:∀vs H Q E,sp vs H Q E->vs.length=ps.length)(e:∀(a:A0) (A:A5) (outer:O Env) (s:A2) (H:Hp) (vs:O V) (Q:VK) (E:XK),oF k (A.deeper (AK qual (aP st) s.heap.objs.size f a))->sp vs H Q E →
   ∃t,Vp (Gy Dz P w K mg base N qual (aP st) f a A outer s H E).nox (jH st) t/\t { nx:=λ_ H'=>Q .non H',rt:=Q } (start N vs) H):qQ P w K mg base Dz (k+1) f fd ps sp:=by
 obtain⟨i,j,kV,m,l,n,a,ct,osl,rfl,b,d⟩:=F.ex;refine XL b d S len λA outer s H vs Q E g c=>?_;obtain⟨t,h,q⟩:=e a A outer s H vs Q E g c;exact⟨t,h.nox,q⟩
theorem CY.binds{st:AB}{f:A1}(F:CY K x qual st f fd)(h:∀(kV c b:A0) (d:Y A1) (a ct:A0) (us:O A0),us.length=ps.length->bindArgs (fnOf x qual (vK st) (jH st) (aP st) .none kV c b d a ct) ⟨us,[]⟩=pure (ps.zip us)):BM K fd ps []:=by
 obtain⟨e,j,kV,c,b,d,a,ct,osl,rfl,i,g⟩:=F.ex;exact .all (h kV c b d a ct)
theorem Of{st:AB}{f:A1}{g:A0}{h e:Y A1}{kV d b a ct:A0}(l:K.lookup f=Z ⟨g,h,.func (fnOf x qual (vK st) (jH st) (aP st) .none kV d b e a ct),osl⟩)(c:codeIn K a qual=true)(k:keepIn K (.ref f)=true):CY K x qual st f (fnOf x qual (vK st) (jH st) (aP st) .none kV d b e a ct):=⟨⟨g,h,kV,d,b,e,a,ct,osl,rfl,l,c⟩,k⟩
section
variable{X:Cx}
theorem pv(i:Nat)(a:X.N[i]?=Z x:=by rfl)(c:Xx X.env.scope x:=by first|exact JE rfl|exact QP (JE S)|exact QP (QP S))(hd:(x==("__debug__":AJ))=false:=by decide)(b:(x==("__classdict__":AJ))=false:=by decide):PE X (.Name x pos) (No i):=uy a c hd b
end
def AV(H H':Hp):Prop:=∀b o,H b=Z o->H' b=Z o
theorem AV.refl(H:Hp):AV H H:=λ_ _ h=>h
theorem AV.trans{H H1 H2:Hp}(a:AV H H1)(b:AV H1 H2):AV H H2:=λc o h=>b c o (a c o h)
theorem AV.free{H H':Hp}(e:AV H H')(h:H' l=Option.none):H l=Option.none:=by
 cases q:H l with
 |none=>rfl
 |some o=>
  rw[e l o q]at h;cases h
theorem AV.seq{H H':Hp}{xs:O V}(e:AV H H')(h:vI K H a xs):vI K H' a xs:=by
 rcases h with (h|⟨o,h⟩)|h
 ·exact .inl (.inl (e _ _ h))
 ·exact .inl (.inr ⟨o,e _ _ h⟩)
 ·exact .inr h
end L2
variable{xs:O L2.V}{H:L2.Hp}{o:L2.HO}{X:L2.Cx}{σ:L2.St}{v:L2.V}{ta te:L2.TE}{J:L2.It}{vs:O L2.V}{sp:L2.Sp}{ks:O L2.AY}{zs:O (O L2.AY×A1)}{H0 Hs:L2.Hp}{dG:O (O L2.AY)}
namespace P1
open L2
inductive Dt where
 |non|bl (b:Bool)|int (i:Int)|str (x:Str)|tup (xs:List Dt)|lst (xs:List Dt)|emp
inductive Bx where
 |z (d:Dt)|l (ds:List Dt)|o (ds:List Dt)|n (AO:List (AY×Dt))|m (AO:List (AY×Dt)) (w:Option Addr)
abbrev Ev:=O (Y Bx)
def Eg(K:B1)(H:Hp)(a:A1)(xs:O V):Prop:=
 (∃o,H a=Z (.ux o (.lst xs))) ∨
  ∃(o:AE) (AQ:Array A0) (n:Nat),K.lookup a=Z o/\o.cls=.type "list" ∧ o.dict=U/\o.data=.seq AQ n/\AQ.size<=AA/\AX xs AQ.toList
theorem Eg.sq(h:Eg K H a xs):vI K H a xs:=by
 rcases h with h|h
 ·exact .inl (.inr h)
 ·exact .inr h
mutual
def AW(K:B1)(H:Hp):Dt->V->Prop
 |.non,v=>v=.non
 |.bl b,v=>v=.bl b
 |.int i,v=>v=.int i
 |.str x,v=>v=.str x/\x.length<=AA
 |.tup ds,v=>∃a vs,v=.ref a/\Bd K H a vs/\aQ K H ds vs
 |.lst ds,v=>∃a vs,v=.ref a/\Eg K H a vs/\aQ K H ds vs
 |.emp,v=>∃a o,v=.ref a/\H a=Z (.ux o (.dK []))
def aQ(K:B1)(H:Hp):O Dt->O V->Prop
 |[],vs=>vs=[]
 |d::ds,vs=>∃v r,vs=v::r/\AW K H d v/\aQ K H ds r
end
structure Kp (H H':Hp):Prop where
 t:∀a xs,H a=some (.tup xs)->H' a=some (.tup xs)
 f:∀a o u,H a=some (.ux o u)->H' a=some (.ux o u)
theorem Kp.of{H':Hp}(s:AV H H'):Kp H H':=⟨λa _ h=>s a _ h,λa _ _ h=>s a _ h⟩
theorem Kp.sqT{H':Hp}(k:Kp H H')(h:Bd K H a xs):Bd K H' a xs:=by
 rcases h with (h|⟨o,h⟩)|h
 ·exact .inl (.inl (k.t _ _ h))
 ·exact .inl (.inr ⟨o,k.f _ _ _ h⟩)
 ·exact .inr h
theorem Kp.fzL{H':Hp}(k:Kp H H')(h:Eg K H a xs):Eg K H' a xs:=by
 rcases h with⟨o,h⟩|h
 ·exact .inl ⟨o,k.f _ _ _ h⟩
 ·exact .inr h
theorem Kp.lst(h:H a=Z (.lst xs)):Kp H (B4 H a o):=by
 refine⟨λb ys e=>?_,λb c u e=>?_⟩
 ·rw[aU (qM e h (by intro z;cases z))];exact e
 ·rw[aU (qM e h (by intro z;cases z))];exact e
theorem Kp.dk{xs:O (AY×V)}(h:H a=Z (.dK xs)):Kp H (B4 H a o):=by
 refine⟨λb ys e=>?_,λb c u e=>?_⟩
 ·rw[aU (qM e h (by intro z;cases z))];exact e
 ·rw[aU (qM e h (by intro z;cases z))];exact e
mutual
theorem AW.kp{K:B1}{H H':Hp}(k:Kp H H'):∀{d:Dt} {v:V},AW K H d v->AW K H' d v
 |.non,_,h=>by simpa only[AW]using h
 |.bl _,_,h=>by simpa only[AW]using h
 |.int _,_,h=>by simpa only[AW]using h
 |.str _,_,h=>by simpa only[AW]using h
 |.tup ds,_,h=>by
  simp only[AW]at h ⊢;obtain⟨a,vs,e,q,r⟩:=h;exact⟨a,vs,e,k.sqT q,aQ.kp k r⟩
 |.lst ds,_,h=>by
  simp only[AW]at h ⊢;obtain⟨a,vs,e,q,r⟩:=h;exact⟨a,vs,e,k.fzL q,aQ.kp k r⟩
 |.emp,_,h=>by
  simp only[AW]at h ⊢;obtain⟨a,o,e,q⟩:=h;exact⟨a,o,e,k.f _ _ _ q⟩
theorem aQ.kp{K:B1}{H H':Hp}(k:Kp H H'):∀{ds:O Dt} {vs:O V},aQ K H ds vs->aQ K H' ds vs
 |[],_,h=>by simpa only[aQ]using h
 |d::ds,_,h=>by
  simp only[aQ]at h ⊢;obtain⟨v,r,e,q,t⟩:=h;exact⟨v,r,e,AW.kp k q,aQ.kp k t⟩
end
theorem aQ.length{K:B1}{H:Hp}:∀{ds:O Dt} {vs:O V},aQ K H ds vs->vs.length=ds.length
 |[],_,h=>by simp only[aQ]at h;subst h;rfl
 |d::ds,_,h=>by
  simp only[aQ]at h;obtain⟨v,r,rfl,_,t⟩:=h;simp[aQ.length t]
theorem aQ.nil:aQ K H [] []:=by simp only[aQ]
theorem aQ.cons{K:B1}{H:Hp}{d:Dt}{v:V}{ds:O Dt}{vs:O V}(h:AW K H d v)(t:aQ K H ds vs):aQ K H (d::ds) (v::vs):=by
 simp only[aQ];exact⟨v,vs,rfl,h,t⟩
theorem aQ.append{K:B1}{H:Hp}:∀{ds es:O Dt} {vs us:O V},aQ K H ds vs->aQ K H es us->aQ K H (ds++es) (vs++us)
 |[],_,_,_,h,t=>by simp only[aQ]at h;subst h;exact t
 |d::ds,_,_,_,h,t=>by
  simp only[aQ]at h;obtain⟨v,r,rfl,q,h⟩:=h;exact aQ.cons q (aQ.append h t)
theorem aQ.drop{K:B1}{H:Hp}:∀(n:Nat) {ds:O Dt} {vs:O V},aQ K H ds vs->aQ K H (ds.drop n) (vs.drop n)
 |0,_,_,h=>h
 |n+1,[],_,h=>by simp only[aQ]at h;subst h;exact aQ.nil
 |n+1,d::ds,_,h=>by
  simp only[aQ]at h;obtain⟨v,r,rfl,q,h⟩:=h;exact aQ.drop n h
theorem aQ.take{K:B1}{H:Hp}:∀(n:Nat) {ds:O Dt} {vs:O V},aQ K H ds vs->aQ K H (ds.take n) (vs.take n)
 |0,_,_,_=>aQ.nil
 |n+1,[],_,h=>by simp only[aQ]at h;subst h;exact aQ.nil
 |n+1,d::ds,_,h=>by
  simp only[aQ]at h;obtain⟨v,r,rfl,q,h⟩:=h;exact aQ.cons q (aQ.take n h)
theorem aQ.get{K:B1}{H:Hp}:∀{ds:O Dt} {vs:O V} {i:Nat} {d:Dt},aQ K H ds vs->ds[i]?=Z d->∃v,vs[i]?=Z v/\AW K H d v
 |[],_,_,_,_,e=>by simp at e
 |d::ds,_,0,_,h,e=>by
  simp only[aQ]at h;obtain⟨v,r,rfl,q,h⟩:=h;simp at e;subst e;exact⟨v,rfl,q⟩
 |d::ds,_,i+1,_,h,e=>by
  simp only[aQ]at h;obtain⟨v,r,rfl,q,h⟩:=h;obtain⟨u,e1,e2⟩:=aQ.get h (i:=i) (by simpa using e);exact⟨u,by simpa using e1,e2⟩
def Db:AY->Prop
 |.inl _=>True
 |.inr x=>x.length<=AA
def gn(K:B1)(H:Hp)(AO:O (AY×Dt))(ks:O (AY×V)):Prop:=ks.map (·.1)=AO.map (·.1)/\aQ K H (AO.map (·.2)) (ks.map (·.2))/\∀p∈AO,Db p.1
theorem gn.kp{K:B1}{H H':Hp}{AO:O (AY×Dt)}{ks:O (AY×V)}(h:gn K H AO ks)(k:Kp H H'):gn K H' AO ks:=⟨h.1,h.2.1.kp k,h.2.2⟩
def bB(K:B1)(H:Hp):Bx->V->Prop
 |.z d,v=>AW K H d v
 |.l ds,v=>∃a vs,v=.ref a/\Rd H a (.lst vs)/\aQ K H ds vs
 |.o ds,v=>∃a vs,v=.ref a/\H a=Z (.lst vs)/\aQ K H ds vs
 |.n AO,v=>∃a ks,v=.ref a/\Rd H a (.dK ks)/\gn K H AO ks
 |.m AO w,v=>∃a ks,v=.ref a/\H a=Z (.dK ks)/\gn K H AO ks/\∀b,w=Z b->b=a
theorem bB.same{H':Hp}(s:AV H H'){b:Bx}(h:bB K H b v):bB K H' b v:=by
 cases b with
 |z d=>exact AW.kp (.of s) h
 |l ds=>
  obtain⟨a,vs,e,q,r⟩:=h;refine⟨a,vs,e,?_,r.kp (.of s)⟩;rcases q with q|⟨o,q⟩
  ·exact .inl (s _ _ q)
  ·exact .inr ⟨o,s _ _ q⟩
 |o ds=>
  obtain⟨a,vs,e,q,r⟩:=h;exact⟨a,vs,e,s _ _ q,r.kp (.of s)⟩
 |n AO=>
  obtain⟨a,vs,e,q,r⟩:=h;refine⟨a,vs,e,?_,r.kp (.of s)⟩;rcases q with q|⟨o,q⟩
  ·exact .inl (s _ _ q)
  ·exact .inr ⟨o,s _ _ q⟩
 |m AO _=>
  obtain⟨a,vs,e,q,r⟩:=h;exact⟨a,vs,e,s _ _ q,r.1.kp (.of s),r.2⟩
def sX:Bx->Y (O Dt)
 |.z (.lst ds)=>Z ds
 |.l ds=>Z ds
 |.o ds=>Z ds
 |_=>U
theorem bB.Ld{b:Bx}{ds:O Dt}(h:bB K H b v)(e:sX b=Z ds):∃a vs,v=.ref a/\vI K H a vs/\aQ K H ds vs:=by
 cases b with
 |z d=>
  cases d<;>first|(cases e;done)|skip;cases e;simp only[bB,AW]at h;obtain⟨a,vs,e,q,r⟩:=h;exact⟨a,vs,e,q.sq,r⟩
 |l c=>
  cases e;obtain⟨a,vs,e,q,r⟩:=h;exact⟨a,vs,e,.inl q,r⟩
 |o c=>
  cases e;obtain⟨a,vs,e,q,r⟩:=h;exact⟨a,vs,e,.inl (.inl q),r⟩
 |n _=>cases e
 |m _ _=>cases e
abbrev tH(K:B1)(H:Hp):O Bx->O V->Prop:=AI (bB K H)
def Nw(H:Hp):Bx->V->Prop
 |.o _,v=>∀a,v=.ref a->H a=U
 |.m _ _,v=>∀a,v=.ref a->H a=U
 |_,_=>True
theorem Nw.old{H1:Hp}(s:AV H H1){b:Bx}(h:Nw H1 b v):Nw H b v:=by
 cases b with
 |o ds=>exact λa e=>s.free (h a e)
 |m ds _=>exact λa e=>s.free (h a e)
 |_=>trivial
def loose:Bx->Bool
 |.z _=>false
 |_=>true
def uT:Bx->Bool
 |.o _=>true
 |.m _ _=>true
 |_=>false
structure bR (K:B1) (H0 H:Hp) (σ:L2.St) (ρ:Ev):Prop where
 len:σ.length=ρ.length
 val:∀(i:Nat) b,ρ[i]?=some (some b)->∃v,σ[i]?=some (some v)/\bB K H b v
 own:∀(i j:Nat) c a b,ρ[i]?=some (some c)->uT c=true->σ[i]?=some (some (.ref a))->ρ[j]?=some (some b)->loose b=true->σ[j]?=some (some (.ref a))->i=j
 base:AV H0 H
 new:∀(i:Nat) c a,ρ[i]?=some (some c)->uT c=true->σ[i]?=some (some (.ref a))->H0 a=none
theorem bR.grow{H':Hp}{ρ:Ev}(r:bR K H0 H σ ρ)(s:AV H H'):bR K H0 H' σ ρ:=
 ⟨r.len,λi b e=>let ⟨v,e1,h⟩:=r.val i b e;⟨v,e1,h.same s⟩,r.own,r.base.trans s,r.new⟩
def tF(K:B1)(f:Ev->Y Bx):TE:=λσ H Q=>∃H0 ρ b,bR K H0 H σ ρ/\f ρ=Z b/\∀v H',AV H H'->Nw H b v->bB K H' b v->Q v H'
def N4(K:B1)(f:Ev->Y (O Bx)):TA:=λσ H Q=>∃H0 ρ bs,bR K H0 H σ ρ/\f ρ=Z bs/\∀vs H',AV H H'->tH K H' bs vs->Q vs H'
def D7(K:B1)(f:Ev->Y Bool):TT:=λσ H Q=>∃H0 ρ b,bR K H0 H σ ρ/\f ρ=Z b/\∀H',AV H H'->Q b H'
def PV(X:Cx)(e:Expr)(f:Ev->Y Bx):Prop:=PE X e (tF X.K f)
structure QV (X:Cx) (e:Expr) (f:Ev->Option Bx):Prop where
 run:PV X e f
def FS(X:Cx)(es:O Expr)(f:Ev->Y (O Bx)):Prop:=PA X es (N4 X.K f)
structure XS (X:Cx) (es:List Expr) (f:Ev->Option (List Bx)):Prop where
 run:FS X es f
def PB(X:Cx)(e:Expr)(f:Ev->Y Bool):Prop:=PT X e (D7 X.K f)
structure QB (X:Cx) (e:Expr) (f:Ev->Option Bool):Prop where
 run:PB X e f
theorem Li{t t':TE}(h:PE X e t)(m:∀ σ H Q,t' σ H Q->t σ H Q):PE X e t':=λAN s σ H Q I q=>h AN s σ H Q I (m σ H Q q)
theorem Lv{e:O Expr}{t t':TA}(h:PA X e t)(m:∀ σ H Q,t' σ H Q->t σ H Q):PA X e t':=λpos AN s σ H Q I q=>h pos AN s σ H Q I (m σ H Q q)
theorem L4{t t':TT}(h:PT X e t)(m:∀ σ H Q,t' σ H Q->t σ H Q):PT X e t':=λAN s σ H Q I q=>h AN s σ H Q I (m σ H Q q)
theorem LJ{t t':TT}(h:PW X e t)(m:∀ σ H Q,t' σ H Q->t σ H Q):PW X e t':=λa AN s σ H Q I q=>h a AN s σ H Q I (m σ H Q q)
theorem VN{e:AB}{t t':TS}(h:PS X e t)(m:∀D σ H,t' D σ H->t D σ H):PS X e t':=λAN s σ H D I q=>h AN s σ H D I (m D σ H q)
theorem GO{e:O AB}{t t':TS}(h:Vp X e t)(m:∀D σ H,t' D σ H->t D σ H):Vp X e t':=λAN s σ H D I q=>h AN s σ H D I (m D σ H q)
def rF(K:B1)(g:Bx->Bx->Y Bx):R2:=λx y H Q=>∃a b c,bB K H a x/\bB K H b y/\g a b=Z c/\∀w H',AV H H'->Nw H c w->bB K H' c w->Q w H'
def ON(K:B1)(g:Bx->Y Bx):V->Hp->VK->Prop:=λx H Q=>∃a c,bB K H a x/\g a=Z c/\∀w H',AV H H'->Nw H c w->bB K H' c w->Q w H'
def NE(K:B1)(g:O Bx->Y Bx):O V->Hp->VK->Prop:=λxs H Q=>∃bs c,tH K H bs xs/\g bs=Z c/\∀w H',AV H H'->Nw H c w->bB K H' c w->Q w H'
abbrev IK(X:Cx)(f:A0->A0->Sem A0)(g:Bx->Bx->Y Bx):Prop:=zK X f (rF X.K g)
abbrev N0(X:Cx)(f:A0->Sem A0)(g:Bx->Y Bx):Prop:=DT X f (ON X.K g)
abbrev uU(X:Cx)(f:A0)(g:O Bx->Y Bx):Prop:=jL X f (NE X.K g)
theorem zK.imp{f:A0->A0->Sem A0}{r a:R2}(h:zK X f r)(m:∀x y H Q,a x y H Q->r x y H Q):zK X f a:=λAN s σ H x y v u Q I c b q=>h AN s σ H x y v u Q I c b (m x y H Q q)
theorem DT.imp{f:A0->Sem A0}{r a:V->Hp->VK->Prop}(h:DT X f r)(m:∀x H Q,a x H Q->r x H Q):DT X f a:=λAN s σ H x v Q I b q=>h AN s σ H x v Q I b (m x H Q q)
theorem jL.imp{f:A0}{r a:O V->Hp->VK->Prop}(h:jL X f r)(m:∀x H Q,a x H Q->r x H Q):jL X f a:=λAN s σ H xs us Q I b q=>h AN s σ H xs us Q I b (m xs H Q q)
def b2(g:Bx->Bx->Y Bx)(fa fb:Ev->Y Bx):Ev->Y Bx:=λρ=>(fa ρ).bind λx=>(fb ρ).bind λy=>g x y
def b1(g:Bx->Y Bx)(fa:Ev->Y Bx):Ev->Y Bx:=λρ=>(fa ρ).bind g
def cZ(g:O Bx->Y Bx)(fs:Ev->Y (O Bx)):Ev->Y Bx:=λρ=>(fs ρ).bind g
theorem AT{o:Y α}{f:α->Y β}{b:β}(h:o.bind f=Z b):∃a,o=Z a/\f a=Z b:=by
 cases o with
 |none=>cases h
 |some a=>exact⟨a,rfl,h⟩
theorem L6{g:Bx->Bx->Y Bx}{fa fb:Ev->Y Bx}(σ:L2.St)(H:Hp)(Q:VK)(h:tF K (b2 g fa fb) σ H Q):Ff (rF K g) (tF K fa) (tF K fb) σ H Q:=by
 obtain⟨H0,ρ,c,E,e,q⟩:=h;obtain⟨a,ea,e⟩:=AT e;obtain⟨b,eb,e⟩:=AT e;refine⟨H0,ρ,a,E,ea,λv H1 d p m=>⟨H0,ρ,b,E.grow d,eb,λu H2 f s l=>?_⟩⟩;exact⟨a,b,c,m.same f,l,e,λw n j i o=>q w n ((d.trans f).trans j) (i.old (d.trans f)) o⟩
theorem lx{g:Bx->Y Bx}{fa:Ev->Y Bx}(σ:L2.St)(H:Hp)(Q:VK)(h:tF K (b1 g fa) σ H Q):PM (ON K g) (tF K fa) σ H Q:=by
 obtain⟨H0,ρ,c,E,e,q⟩:=h;obtain⟨a,ea,e⟩:=AT e;exact⟨H0,ρ,a,E,ea,λv H1 b m i=>⟨a,c,i,e,λw j f d l=>q w j (b.trans f) (d.old b) l⟩⟩
theorem E8{g:O Bx->Y Bx}{fs:Ev->Y (O Bx)}(σ:L2.St)(H:Hp)(Q:VK)(h:tF K (cZ g fs) σ H Q):HZ (NE K g) (N4 K fs) σ H Q:=by
 obtain⟨H0,ρ,c,E,e,q⟩:=h;obtain⟨a,ea,e⟩:=AT e;exact⟨H0,ρ,a,E,ea,λv H1 b i=>⟨a,c,i,e,λw j f d l=>q w j (b.trans f) (d.old b) l⟩⟩
section
variable{a b:Expr}{fa fb fc f:Ev->Y Bx}{fs:Ev->Y (O Bx)}
theorem bf{op:Operator}{g:Bx->Bx->Y Bx}(d:IK X (binaryOp op) g)(c:QV X a fa)(hb:QV X b fb):QV X (.BinOp a op b pos) (b2 g fa fb):=⟨have c:=c.run;have hb:=hb.run;Li (de d c hb) L6⟩
theorem L8{op:UnaryOp}{g:Bx->Y Bx}(c:N0 X (unaryOp op) g)(b:QV X a fa):QV X (.UnaryOp op a pos) (b1 g fa):=⟨have b:=b.run;Li (SE c b) lx⟩
theorem VP{g:Bx->Bx->Y Bx}(e:IK X (AG op) g)(c:QV X a fa)(hb:QV X b fb)(d:behindInMarks op b=false):QV X (.Compare a [op] [b] pos) (b2 g fa fb):=⟨have c:=c.run;have hb:=hb.run;Li (Sf e c hb d) L6⟩
def PN:Bx->Y Bool
 |.z (.bl b)=>Z b
 |_=>U
theorem IV{b:Bx}{k:Bool}(h:bB K H b v)(e:PN b=Z k):v=.bl k:=by
 cases b with
 |z d=>
  cases d<;>first|(cases e;done)|skip;cases e;simpa only[bB,AW]using h
 |_=>cases e
theorem mS(σ:L2.St)(H:Hp)(Q:Bool->Hp->Prop)(h:D7 K (λρ=>(f ρ).bind PN) σ H Q):tF K f σ H (λx H'=>∃k,x=.bl k/\Q k H'):=by
 obtain⟨H0,ρ,k,E,e,q⟩:=h;obtain⟨b,eb,e⟩:=AT e;exact⟨H0,ρ,b,E,eb,λv H1 a d c=>⟨k,IV c e,q H1 a⟩⟩
theorem bJ{g:Bx->Bx->Y Bx}(e:IK X (AG op) g)(c:QV X a fa)(hb:QV X b fb)(d:behindInMarks op b=false):QB X (.Compare a [op] [b] pos) (λρ=>(b2 g fa fb ρ).bind PN):=⟨have c:=c.run;have hb:=hb.run;L4 (bm e c hb d) λσ H Q h=>L6 σ H _ (mS σ H Q h)⟩
def FL(g g':Bx->Bx->Y Bx)(fa fb fc:Ev->Y Bx):Ev->Y Bx:=λρ=>(fa ρ).bind λx=>(fb ρ).bind λy=>(g x y).bind λr=>(PN r).bind λk=>if k=true then(fc ρ).bind λw=>g' y w else Z (.z (.bl false))
theorem e8{g g':Bx->Bx->Y Bx}(σ:L2.St)(H:Hp)(Q:VK)(h:tF K (FL g g' fa fb fc) σ H Q):LO (rF K g) (rF K g') (tF K fa) (tF K fb) (tF K fc) σ H Q:=by
 obtain⟨H0,ρ,d,E,e,q⟩:=h;obtain⟨a,ea,e⟩:=AT e;obtain⟨b,eb,e⟩:=AT e;obtain⟨r,er,e⟩:=AT e;obtain⟨k,ek,e⟩:=AT e;refine⟨H0,ρ,a,E,ea,λv H1 i L D=>⟨H0,ρ,b,E.grow i,eb,λu H2 l F n=>?_⟩⟩;refine⟨a,b,r,D.same l,n,er,λw p m J t=>⟨k,IV t ek,?_⟩⟩;have c:=(i.trans l).trans m;cases k with
 |false=>
  rw[zD ZH]at e ⊢;cases e;exact q _ p c trivial (by simp only[bB,AW])
 |true=>
  rw[zr rfl]at e ⊢;obtain⟨j,C,e⟩:=AT e;refine⟨H0,ρ,j,E.grow c,C,λx I f G B=>?_⟩;exact⟨b,j,d,(n.same m).same f,B,e,λy s z A o=>q y s ((c.trans f).trans z) (A.old (c.trans f)) o⟩
theorem eC{d:CmpOp}{g g':Bx->Bx->Y Bx}(j:IK X (AG op) g)(i:IK X (AG d) g')(e:QV X a fa)(hb:QV X b fb)(f:QV X c fc)(h:lastMarks [op,d] [b,c]=false:=by with_unfolding_all rfl):QV X (.Compare a [op,d] [b,c] pos) (FL g g' fa fb fc):=⟨have e:=e.run;have hb:=hb.run;have f:=f.run;Li (gg j i e hb f h) e8⟩
def uV(ρ:Ev)(i:Nat):Y Bx:=match ρ[i]? with
 |some (Z (.o ds))=>Z (.l ds)
 |some (Z (.m AO _))=>Z (.n AO)
 |some (Z b)=>Z b
 |_=>U
theorem IW{ρ:Ev}{b:Bx}(E:bR K H0 H σ ρ)(e:uV ρ i=Z b):∃v,σ[i]?=Z (Z v)/\bB K H b v:=by
 unfold uV at e;split at e
 ·rename_i ds h;cases e;obtain⟨v,e1,a,vs,e2,q,r⟩:=E.val i _ h;exact⟨v,e1,a,vs,e2,.inl q,r⟩
 ·rename_i ds h;cases e;obtain⟨v,e1,a,vs,e2,q,r⟩:=E.val i _ h;exact⟨v,e1,a,vs,e2,.inl q,r.1⟩
 ·rename_i c h;cases e;exact E.val i _ h
 ·cases e
theorem Bl{ρ:Ev}{b:Bx}(e:uV ρ i=Z b):uT b=false:=by
 unfold uV at e;split at e
 ·cases e;rfl
 ·cases e;rfl
 ·rename_i c h1 h2 a;cases e;cases b with
  |o ds=>exact absurd S (h1 ds)
  |m ds _=>exact absurd S (h2 ds _)
  |_=>rfl
 ·cases e
theorem aj(i:Nat)(a:X.N[i]?=Z x:=by rfl)(d:Xx X.env.scope x:=by first|exact JE rfl|exact QP (JE S)|exact QP (QP S))(hd:(x==("__debug__":AJ))=false:=by decide)(c:(x==("__classdict__":AJ))=false:=by decide):QV X (.Name x pos) (λρ=>uV ρ i):=⟨Li (uy a d hd c) λσ H Q h=>by
 obtain⟨H0,ρ,b,E,e,q⟩:=h;obtain⟨v,e1,r⟩:=IW E e;refine⟨v,e1,q v H (AV.refl H) ?_ r⟩;cases b with
 |o ds=>have:=Bl e;cases this
 |m ds _=>have:=Bl e;cases this
 |_=>trivial⟩
def cB(d:Dt):Ev->Y Bx:=λ_=>Z (.z d)
theorem F6{d:Dt}(h:PE X e (tC v))(r:∀H,AW X.K H d v):PV X e (cB d):=Li h λσ H Q q=>by
 obtain⟨H0,ρ,b,E,e,q⟩:=q;cases e;exact q v H (AV.refl H) trivial (r H)
theorem aD{i j}:QV X (.Constant (.int i) j pos) (cB (.int i)):=⟨F6 c4 λH=>by simp only[AW]⟩
theorem Fw{i j}:QV X (.Constant (.bool i) j pos) (cB (.bl i)):=⟨F6 X1 λH=>by simp only[AW]⟩
theorem oK{j}:QV X (.Constant .none j pos) (cB .non):=⟨F6 UI λH=>by simp only[AW]⟩
theorem LY{j}(hx:x.length<=AA:=by decide):PV X (.Constant (.str x) j pos) (cB (.str x)):=F6 na λH=>by unfold AW;exact⟨rfl,hx⟩
theorem R8{i:Int}{t:Tok}(b:Gl X x)(a:X.mg x=Z (.int i t))(hd:(x==("__debug__":AJ))=false:=by decide):QV X (.Name x pos) (cB (.int i)):=⟨F6 (nI b a (v:=.int i) ⟨t,rfl⟩ hd) λH=>by simp only[AW]⟩
def VR:Bx->Y Bool
 |.z .non=>Z false
 |.z (.bl b)=>Z b
 |.z (.int i)=>Z (i != 0)
 |.z (.str x)=>Z ((x.length:Int) != 0)
 |.z (.tup ds)=>Z (!ds.isEmpty)
 |.z (.lst ds)=>Z (!ds.isEmpty)
 |.l ds=>Z (!ds.isEmpty)
 |.o ds=>Z (!ds.isEmpty)
 |.z .emp=>U
 |.n _=>U
 |.m _ _=>U
theorem aQ.isEmpty{ds:O Dt}(h:aQ K H ds vs):(!ds.isEmpty)=!vs.isEmpty:=by
 have:=h.length;cases ds<;>cases vs<;>simp_all
theorem X3{b:Bx}{k:Bool}(r:bB K H b v)(e:VR b=Z k):IX K v H k:=by
 cases b with
 |z d=>
  cases d with
  |non=>cases e;simp only[bB,AW]at r;subst r;rfl
  |bl b=>cases e;simp only[bB,AW]at r;subst r;rfl
  |int b=>cases e;simp only[bB,AW]at r;subst r;rfl
  |str x=>cases e;simp only[bB,AW]at r;obtain⟨rfl,h⟩:=r;exact⟨h,rfl⟩
  |tup ds=>
   cases e;simp only[bB,AW]at r;obtain⟨a,vs,rfl,q,r⟩:=r;exact .inr (.inl ⟨vs,q,r.isEmpty⟩)
  |lst ds=>
   cases e;obtain⟨a,vs,rfl,q,r⟩:=r.Ld rfl;exact .inl ⟨vs,q,r.isEmpty⟩
  |emp=>cases e
 |l ds=>
  cases e;obtain⟨a,vs,rfl,q,r⟩:=r.Ld rfl;exact .inl ⟨vs,q,r.isEmpty⟩
 |o ds=>
  cases e;obtain⟨a,vs,rfl,q,r⟩:=r.Ld rfl;exact .inl ⟨vs,q,r.isEmpty⟩
 |n _=>cases e
 |m _ _=>cases e
theorem Ja(h:QV X e f)(he:∀a,isTrue e X.env a=(do let v <-a;standAt e.pos;holding [v] (truthy v)):=by intro _;rfl):QB X e (λρ=>(f ρ).bind VR):=⟨have h:=h.run;L4 (cE h he) λσ H Q q=>by
 obtain⟨H0,ρ,k,E,e,q⟩:=q;obtain⟨b,eb,e⟩:=AT e;exact⟨H0,ρ,b,E,eb,λv H1 c g d=>⟨k,X3 d e,q H1 c⟩⟩⟩
def GC(p q:Ev->Y Bool):Ev->Y Bool:=λρ=>(p ρ).bind λc=>if c=true then q ρ else Z false
def D3(p q:Ev->Y Bool):Ev->Y Bool:=λρ=>(p ρ).bind λc=>if c=true then Z true else q ρ
def ZG(p:Ev->Y Bool):Ev->Y Bool:=λρ=>(p ρ).bind λc=>Z (!c)
def dC(X:Cx)(e:Expr)(f:Ev->Y Bool):Prop:=PW X e (D7 X.K f)
structure ED (X:Cx) (e:Expr) (f:Ev->Option Bool):Prop where
 run:dC X e f
variable{p q:Ev->Y Bool}{AS:O Expr}
theorem qg(b:QB X a p):ED X (.BoolOp .And [a] pos) p:=⟨have b:=b.run;VA b⟩
theorem yQ(b:QB X a p):ED X (.BoolOp .Or [a] pos) p:=⟨have b:=b.run;d6 b⟩
theorem f8(σ:L2.St)(H:Hp)(Q:Bool->Hp->Prop)(h:D7 K (GC p q) σ H Q):MA (D7 K p) (D7 K q) σ H Q:=by
 obtain⟨H0,ρ,k,E,e,w⟩:=h;obtain⟨c,b,e⟩:=AT e;refine⟨H0,ρ,c,E,b,λH1 a=>?_⟩;cases c with
 |true=>rw[zr rfl]at e ⊢;exact⟨H0,ρ,k,E.grow a,e,λH2 d=>w H2 (a.trans d)⟩
 |false=>rw[zD ZH]at e ⊢;cases e;exact w H1 a
theorem UM(σ:L2.St)(H:Hp)(Q:Bool->Hp->Prop)(h:D7 K (D3 p q) σ H Q):LN (D7 K p) (D7 K q) σ H Q:=by
 obtain⟨H0,ρ,k,E,e,w⟩:=h;obtain⟨c,b,e⟩:=AT e;refine⟨H0,ρ,c,E,b,λH1 a=>?_⟩;cases c with
 |true=>rw[zr rfl]at e ⊢;cases e;exact w H1 a
 |false=>rw[zD ZH]at e ⊢;exact⟨H0,ρ,k,E.grow a,e,λH2 d=>w H2 (a.trans d)⟩
theorem tK(c:QB X a p)(hb:ED X (.BoolOp .And (b::AS) pos) q):ED X (.BoolOp .And (a::b::AS) pos) (GC p q):=⟨have c:=c.run;have hb:=hb.run;LJ (Y2 c hb) f8⟩
theorem DG(c:QB X a p)(hb:ED X (.BoolOp .Or (b::AS) pos) q):ED X (.BoolOp .Or (a::b::AS) pos) (D3 p q):=⟨have c:=c.run;have hb:=hb.run;LJ (Se c hb) UM⟩
theorem Bm(h:ED X e p):QB X e p:=⟨have h:=h.run;h.pt⟩
theorem V0(b:QB X a p):QB X (.UnaryOp .Not a pos) (ZG p):=⟨have b:=b.run;L4 (ap b) λσ H Q h=>by
 obtain⟨H0,ρ,k,E,e,w⟩:=h;obtain⟨c,f,e⟩:=AT e;cases e;exact⟨H0,ρ,c,E,f,λH1 d=>w H1 d⟩⟩
def FF(fa fb:Ev->Y Bx):Ev->Y Bx:=λρ=>((fa ρ).bind PN).bind λc=>if c=true then fb ρ else Z (.z (.bl false))
theorem LP{op}(h:QV X a fa):QV X (.BoolOp op [a] pos) fa:=⟨have h:=h.run;c5 h⟩
theorem Op(g:QV X a fa)(hb:QV X (.BoolOp .And (b::AS) pos) fb):QV X (.BoolOp .And (a::b::AS) pos) (FF fa fb):=⟨have g:=g.run;have hb:=hb.run;Li (iN g hb) λσ H Q h=>by
 obtain⟨H0,ρ,k,E,e,w⟩:=h;obtain⟨c,f,e⟩:=AT e;obtain⟨x,ex,f⟩:=AT f;refine⟨H0,ρ,x,E,ex,λv H1 d n l=>⟨c,IV l f,?_⟩⟩;cases c with
 |true=>rw[zr rfl]at e ⊢;exact⟨H0,ρ,k,E.grow d,e,λv H2 m j i=>w v H2 (d.trans m) (j.old d) i⟩
 |false=>rw[zD ZH]at e ⊢;cases e;exact w _ H1 d trivial (by simp only[bB,AW])⟩
def HH(p:Ev->Y Bool)(fa fb:Ev->Y Bx):Ev->Y Bx:=λρ=>(p ρ).bind λc=>if c=true then fa ρ else fb ρ
theorem kw(j:QB X c p)(i:QV X a fa)(hb:QV X b fb):QV X (.IfExp c a b pos) (HH p fa fb):=⟨have j:=j.run;have i:=i.run;have hb:=hb.run;Li (jp j i hb) λσ H Q h=>by
 obtain⟨H0,ρ,k,E,e,w⟩:=h;obtain⟨c,m,e⟩:=AT e;refine⟨H0,ρ,c,E,m,λH1 d=>?_⟩;cases c with
 |true=>rw[zr rfl]at e ⊢;exact⟨H0,ρ,k,E.grow d,e,λv H2 l g f=>w v H2 (d.trans l) (g.old d) f⟩
 |false=>rw[zD ZH]at e ⊢;exact⟨H0,ρ,k,E.grow d,e,λv H2 l g f=>w v H2 (d.trans l) (g.old d) f⟩⟩
theorem X4:FS X [] (λ_=>Z []):=Lv Du λσ H Q h=>by
 obtain⟨H0,ρ,bs,E,e,q⟩:=h;cases e;exact q [] H (AV.refl H) .nil
def aq(f:Ev->Y Bx)(fs:Ev->Y (O Bx)):Ev->Y (O Bx):=λρ=>(f ρ).bind λb=>(fs ρ).bind λbs=>Z (b::bs)
theorem R9(h1:PV X e f)(h2:FS X es fs)(hs:A9 (e::es) X.env=(false,eval e X.env)::A9 es X.env:=by rfl):FS X (e::es) (aq f fs):=Lv (tD h1 h2 hs) λσ H Q h=>by
 obtain⟨H0,ρ,bs,E,e,q⟩:=h;obtain⟨b,eb,e⟩:=AT e;obtain⟨j,d,e⟩:=AT e;cases e;refine⟨H0,ρ,b,E,eb,λv H1 a l i=>⟨H0,ρ,j,E.grow a,d,λvs H2 c g=>?_⟩⟩;exact q (v::vs) H2 (a.trans c) (.cons (i.same c) g)
def Ba:Bx->Y Bx
 |.z d=>Z (.z d)
 |.o ds=>Z (.z (.lst ds))
 |.l _=>U
 |.n _=>U
 |.m _ _=>U
theorem Jb{a:A1}(I:L2.AU X AN σ H s)(h:H a=Z (.lst vs)):∃o,L2.AU X AN σ (B4 H a (.ux o (.lst vs))) s:=by
 obtain⟨z,AQ,n,r,e⟩:=I.hok a _ h;refine⟨{ cls:=.type "list",data:=.seq AQ.toArray n },⟨I.ok,I.os,I.bare,⟨I.base.keep,I.base.slot,λb d q1 q2 f=>?_,I.base.there,λb xs q=>?_,λb d u q=>?_,λb ps q=>?_⟩,I.loc,I.cell,?_,λx c q=>?_,λp hp=>?_,?_,I.len⟩⟩
 ·have:=I.base.free b d q1 q2 f;rw[aU (dU h this).symm];exact this
 ·have:=I.base.tups b xs q;rw[aU (qM this h (by intro z;cases z))];exact this
 ·have:=I.base.Gx b d u q;rw[aU (qM this h (by intro z;cases z))];exact this
 ·obtain⟨m,this⟩:=I.base.Le b ps q;rw[aU (qM this h (by intro z;cases z))];exact⟨m,this⟩
 ·rw[aU (dU h I.free).symm];exact I.free
 ·rw[aU (dU h (I.tB x c q)).symm];exact I.tB x c q
 ·obtain⟨q1,q2,f⟩:=I.pin p hp;refine⟨q1,?_,f⟩;rw[aU (dU h q2).symm];exact q2
 ·intro b u q;by_cases hb:b=a
  ·subst hb;rw[bK]at q;cases q;exact⟨e,z,AQ,n,r,e⟩
  ·rw[aU hb]at q;refine(I.hok b u q).stay (λc v _ w=>w) (λc w=>?_) λc xs w=>?_
   ·rw[aU (qM w h (by intro z;cases z))];exact w
   ·rw[aU (qM w h (by intro z;cases z))];exact w
theorem jw(h:QV X e f):QV X e (b1 Ba f):=⟨by
 have h:=h.run;intro AN s σ H Q I q;obtain⟨H0,ρ,b,E,e,q⟩:=q;obtain⟨x,ex,e⟩:=AT e;cases x with
 |z d=>
  cases e;exact h AN s σ H Q I ⟨H0,ρ,_,E,ex,λv H' s' i g=>q v H' s' trivial g⟩
 |l ds=>cases e
 |n ds=>cases e
 |m ds _=>cases e
 |o ds=>
  cases e;refine jc (h AN s σ H (λv H'=>AV H H'/\Nw H (.o ds) v/\bB X.K H' (.o ds) v) I ⟨H0,ρ,_,E,ex,λv H' s' i g=>⟨s',i,g⟩⟩) λu D C=>?_;obtain⟨v,H1,w,B,s',i,g⟩:=C;obtain⟨a,vs,rfl,j,y⟩:=g;obtain⟨o,t⟩:=Jb w j;refine⟨.ref a,_,t,B,q _ _ (λc A p=>?_) trivial ?_⟩
  ·rw[aU (dU p (i a S))];exact s' c A p
  ·simp only[bB,AW];exact⟨a,vs,rfl,.inl ⟨o,bK⟩,y.kp (.lst j)⟩⟩
def PX:O Bx->Y (O Dt)
 |[]=>Z []
 |.z d::r=>(PX r).bind λds=>Z (d::ds)
 |_=>U
theorem Jc{K:B1}{H:Hp}:∀{bs:O Bx} {vs:O V} {ds:O Dt},tH K H bs vs->PX bs=Z ds->aQ K H ds vs
 |_,_,_,.nil,e=>by cases e;exact aQ.nil
 |b::bs,_,_,.cons h t,e=>by
  cases b with
  |z d=>
   simp only[PX]at e;obtain⟨a,e1,e2⟩:=AT e;cases e2;exact aQ.cons h (Jc t e1)
  |_=>cases e
theorem Jd:∀{bs:O Bx} {ds:O Dt},PX bs=Z ds->ds.length=bs.length
 |[],_,e=>by cases e;rfl
 |.z d::r,_,e=>by
  simp only[PX]at e;obtain⟨a,e1,e2⟩:=AT e;cases e2;simp[Jd e1]
 |.l _::_,_,e=>by cases e
 |.o _::_,_,e=>by cases e
 |.n _::_,_,e=>by cases e
 |.m _ _::_,_,e=>by cases e
def jN(bs:O Bx):Y Bx:=if bs.length<=1000 then(PX bs).bind λds=>Z (.z (.tup ds))else U
def sY(bs:O Bx):Y Bx:=if bs.length<=1000 then(PX bs).bind λds=>Z (.o ds)else U
theorem cH{p:A1}(h:H p=U):AV H (B4 H p o):=λb u e=>by rw[aU (dU e h)];exact e
theorem My(h:n<=1000):n<=AA:=ZO h (by decide)
theorem gP{x1}(h:XS X es fs):QV X (.Tuple es x1 pos) (cZ jN fs):=⟨have h:=h.run;Li (MS h) λσ H Q q=>by
 obtain⟨H0,ρ,c,E,e,q⟩:=q;obtain⟨bs,b,e⟩:=AT e;refine⟨H0,ρ,bs,E,b,λvs H1 f g=>?_⟩;unfold jN at e;split at e
 ·rename_i d;obtain⟨ds,e1,e⟩:=AT e;cases e;have a:=Jc g e1;refine⟨My (by rw[a.length,Jd e1];exact d),λp hp=>q _ _ (f.trans (cH hp)) trivial ?_⟩;simp only[bB,AW];exact⟨p,vs,rfl,.inl (.inl bK),a.kp (.of (cH hp))⟩
 ·cases e⟩
theorem mJ(h:XS X es fs):QV X (.List es pos) (cZ sY fs):=⟨have h:=h.run;Li (lT h) λσ H Q q=>by
 obtain⟨H0,ρ,c,E,e,q⟩:=q;obtain⟨bs,f,e⟩:=AT e;refine⟨H0,ρ,bs,E,f,λvs H1 d i=>?_⟩;unfold sY at e;split at e
 ·rename_i g;obtain⟨ds,e1,e⟩:=AT e;cases e;have b:=Jc i e1;refine⟨My (by rw[b.length,Jd e1];exact g),λp hp=>q _ _ (d.trans (cH hp)) (λa ea=>by cases ea;exact d.free hp) ?_⟩;exact⟨p,vs,rfl,bK,b.kp (.of (cH hp))⟩
 ·cases e⟩
theorem bL{id:String}{g:O Bx->Y Bx}{p:Pos}(j:uU X (.builtin id) g)(b:Gl X x)(h:X.mg x=U)(f:AH x=Z (.builtin id))(a:XS X (e::es) fs)(c:x ≠ "__name__":=by decide)(d:(x==("__debug__":AJ))=false:=by decide)(he:A9 (e::es) X.env=(false,eval e X.env)::A9 es X.env:=by rfl)(i:(AD pos (A9 es X.env)).any (·.1)=false:=by rfl):QV X (.Call (.Name x p) (e::es) [] pos) (cZ g fs):=⟨have a:=a.run;Li (R0 j b h f a c d he i) E8⟩
theorem eY{T:String}{g:O Bx->Y Bx}{p:Pos}(j:uU X (.type T) g)(b:Gl X x)(h:X.mg x=U)(f:AH x=Z (.type T))(a:XS X (e::es) fs)(c:x ≠ "__name__":=by decide)(d:(x==("__debug__":AJ))=false:=by decide)(he:A9 (e::es) X.env=(false,eval e X.env)::A9 es X.env:=by rfl)(i:(AD pos (A9 es X.env)).any (·.1)=false:=by rfl):QV X (.Call (.Name x p) (e::es) [] pos) (cZ g fs):=⟨have a:=a.run;Li (Nr j b h f a c d he i) E8⟩
end
inductive Ap where
 |nx (ρ:Ev)|rt (b:Bx)|bk (ρ:Ev)|ct (ρ:Ev)
def V1(K:B1)(H0:Hp)(D:C4):Ap->Prop
 |.nx ρ=>∀ σ H,bR K H0 H σ ρ->D.nx σ H
 |.rt b=>∀v H,AV H0 H->Nw H0 b v->bB K H b v->D.rt v H
 |.bk ρ=>∀ σ H,bR K H0 H σ ρ->D.bk σ H
 |.ct ρ=>∀ σ H,bR K H0 H σ ρ->D.ct σ H
def tG(K:B1)(g:Ev->Y Ap):TS:=λD σ H=>∃H0 ρ r,bR K H0 H σ ρ/\g ρ=Z r/\V1 K H0 D r
def Hc(X:Cx)(st:AB)(g:Ev->Y Ap):Prop:=PS X st (tG X.K g)
structure Nx (X:Cx) (st:Stmt) (g:Ev->Option Ap):Prop where
 run:Hc X st g
def Vw(X:Cx)(st:O AB)(g:Ev->Y Ap):Prop:=Vp X st (tG X.K g)
structure Sg (X:Cx) (st:List Stmt) (g:Ev->Option Ap):Prop where
 run:Vw X st g
def aF(g1 g2:Ev->Y Ap):Ev->Y Ap:=λρ=>(g1 ρ).bind λr=>match r with
 |.nx a=>g2 a
 |r=>Z r
section
variable{a b:Expr}{fa fb fc f:Ev->Y Bx}{fs:Ev->Y (O Bx)}{st:AB}{AS:O AB}{g g1 g2:Ev->Y Ap}
theorem aK  :Sg X [] (λρ=>Z (.nx ρ)):=⟨GO XC λD σ H h=>by
 obtain⟨H0,ρ,r,E,e,q⟩:=h;cases e;exact q σ H E⟩
theorem au(h1:Nx X st g1)(h2:Sg X AS g2):Sg X (st::AS) (aF g1 g2):=⟨have h1:=h1.run;have h2:=h2.run;GO (Io h1 h2) λD σ H h=>by
 obtain⟨H0,ρ,r,E,e,q⟩:=h;obtain⟨c,e1,e⟩:=AT e;refine⟨H0,ρ,c,E,e1,?_⟩;cases c with
 |nx a=>exact λσ' H' d=>⟨H0,a,r,d,e,q⟩
 |rt b=>cases e;exact q
 |bk a=>cases e;exact q
 |ct a=>cases e;exact q⟩
def FI:Bx->Y Ap
 |.l _=>U
 |.n _=>U
 |b=>Z (.rt b)
theorem cG(h:QV X e f):Nx X (.Return (Z e) pos) (λρ=>(f ρ).bind FI):=⟨have h:=h.run;VN (Vv h) λD σ H h=>by
 obtain⟨H0,ρ,r,E,e,q⟩:=h;obtain⟨b,eb,e⟩:=AT e;refine⟨H0,ρ,b,E,eb,λv H1 a g c=>?_⟩;cases b with
 |l ds=>cases e
 |z d=>cases e;exact q v H1 (E.base.trans a) trivial c
 |o ds=>cases e;exact q v H1 (E.base.trans a) (g.old E.base) c
 |n ds=>cases e
 |m ds _=>cases e;exact q v H1 (E.base.trans a) (g.old E.base) c⟩
def zG(i:Nat)(ρ:Ev):Y Ap:=match ρ[i]? with
 |some (Z b)=>FI b
 |_=>U
theorem Hu(i:Nat){p:Pos}(f:X.N[i]?=Z x:=by rfl)(j:Xx X.env.scope x:=by first|exact JE rfl|exact QP (JE S)|exact QP (QP S))(hd:(x==("__debug__":AJ))=false:=by decide)(g:(x==("__classdict__":AJ))=false:=by decide):Nx X (.Return (Z (.Name x p)) pos) (zG i):=⟨VN (Vv (uy f j hd g)) λD σ H h=>by
 obtain⟨H0,ρ,r,E,e,q⟩:=h;unfold zG at e;split at e
 ·rename_i b hb;obtain⟨v,e1,c⟩:=E.val i b hb;refine⟨v,e1,?_⟩;cases b with
  |l ds=>cases e
  |z d=>cases e;exact q v H E.base trivial c
  |o ds=>cases e;exact q v H E.base (λa ea=>E.new i _ a hb S (by rw[e1,ea])) c
  |n ds=>cases e
  |m ds _=>cases e;exact q v H E.base (λa ea=>E.new i _ a hb S (by rw[e1,ea])) c
 ·cases e⟩
def yR(p:Ev->Y Bool)(g1 g2:Ev->Y Ap):Ev->Y Ap:=λρ=>(p ρ).bind λk=>if k=true then g1 ρ else g2 ρ
theorem iu{p:Ev->Y Bool}{u v:O AB}(a:QB X c p)(b:Sg X u g1)(hb:Sg X v g2):Nx X (.If c u v pos) (yR p g1 g2):=⟨have a:=a.run;have b:=b.run;have hb:=hb.run;VN (ca a b hb) λD σ H h=>by
 obtain⟨H0,ρ,r,E,e,q⟩:=h;obtain⟨k,ek,e⟩:=AT e;refine⟨H0,ρ,k,E,ek,λH1 d=>?_⟩;cases k with
 |true=>rw[zr rfl]at e ⊢;exact⟨H0,ρ,r,E.grow d,e,q⟩
 |false=>rw[zD ZH]at e ⊢;exact⟨H0,ρ,r,E.grow d,e,q⟩⟩
theorem B9{l:O α}{x y:α}(h:(l.set i x)[j]?=Z y):(j=i/\y=x/\i<l.length)\/(j≠i/\l[j]?=Z y):=by
 rw[y7]at h;by_cases e:i=j
 ·subst e;rw[zr rfl]at h;split at h
  ·cases h;exact .inl ⟨rfl,rfl,by assumption⟩
  ·cases h
 ·rw[zD e]at h;exact .inr ⟨λz=>e z.symm,h⟩
theorem Je{l:O α}(x:α)(h:i<l.length):(l.set i x)[i]?=Z x:=by
 rw[y7,zr rfl,zr h]
theorem Jf{l:O α}(x:α)(h:j≠i):(l.set i x)[j]?=l[j]?:=by
 rw[y7,zD (KM h)]
theorem bR.set{H1:Hp}{ρ:Ev}{b:Bx}(E:bR K H0 H σ ρ)(s:AV H H1)(r:bB K H1 b v)(u:uT b=true\/loose b=false)(n:Nw H b v):bR K H0 H1 (σ.set i (Z v)) (ρ.set i (Z b)):=by
 have D:=E.grow s;have C:∀(j:Nat) (g:Bx) (a:A1),ρ[j]?=Z (Z g)->loose g=true->σ[j]?=Z (Z (.ref a))->H a≠U:=λj g a e1 e2 e3 z=>by
  obtain⟨I,h,x⟩:=E.val j g e1;rw[e3]at h;cases h;cases g with
  |z d=>cases e2
  |l ds=>
   obtain⟨B,vs,f,q,_⟩:=x;cases f;rcases q with q|⟨o,q⟩<;>(rw[z]at q;cases q)
  |o ds=>
   obtain⟨B,vs,f,q,_⟩:=x;cases f;rw[z]at q;cases q
  |n ds=>
   obtain⟨B,vs,f,q,_⟩:=x;cases f;rcases q with q|⟨o,q⟩<;>(rw[z]at q;cases q)
  |m ds _=>
   obtain⟨B,vs,f,q,_⟩:=x;cases f;rw[z]at q;cases q
 have A:uT b=true->∀a,v=.ref a->H a=U:=λG=>by
  cases b with
  |o ds=>exact n
  |m ds _=>exact n
  |_=>cases G
 refine⟨by rw[kP,kP];exact E.len,λj g e=>?_,λj k c a g e1 p e2 e3 h f=>?_,D.base,λj c a e1 p e2=>?_⟩
 ·rcases B9 e with⟨rfl,e',hi⟩|⟨w,e'⟩
  ·cases e';exact⟨v,Je _ (by rw[E.len];exact hi),r⟩
  ·rw[Jf _ w];exact D.val j g e'
 ·rcases B9 e1 with⟨rfl,e',hi⟩|⟨w,e'⟩
  ·cases e';rw[Je _ (by rw[E.len];exact hi)]at e2;cases e2;rcases B9 e3 with⟨rfl,t,_⟩|⟨y,t⟩
   ·rfl
   ·rw[Jf _ y]at f;exact absurd (A p a S) (C k g a t h f)
  ·rw[Jf _ w]at e2;rcases B9 e3 with⟨rfl,t,hi⟩|⟨y,t⟩
   ·cases t;rw[Je _ (by rw[E.len];exact hi)]at f;cases f;have F:loose c=true:=by cases c<;>first|rfl|cases p
    rcases u with u|u
    ·exact absurd (A u a S) (C j _ a e' F e2)
    ·rw[u]at h;cases h
   ·rw[Jf _ y]at f;exact E.own j k c a g e' p e2 t h f
 ·rcases B9 e1 with⟨rfl,e',hi⟩|⟨w,e'⟩
  ·cases e';rw[Je _ (by rw[E.len];exact hi)]at e2;cases e2;exact E.base.free (A p a S)
  ·rw[Jf _ w]at e2;exact E.new j c a e' p e2
def ZJ(ρ:Ev)(i:Nat):Bx->Y Ev
 |.l _=>U
 |.n _=>U
 |b=>Z (ρ.set i (Z b))
theorem X5{H1:Hp}{ρ ρ':Ev}{b:Bx}(E:bR K H0 H σ ρ)(s:AV H H1)(r:bB K H1 b v)(n:Nw H b v)(e:ZJ ρ i b=Z ρ'):bR K H0 H1 (σ.set i (Z v)) ρ':=by
 cases b with
 |l ds=>cases e
 |z d=>cases e;exact E.set s r (.inr S) n
 |o d=>cases e;exact E.set s r (.inl S) n
 |n ds=>cases e
 |m d _=>cases e;exact E.set s r (.inl S) n
theorem bh(i:Nat){p:Pos}(a:X.N.Nodup)(he:QV X e f)(hi:X.N[i]?=Z x:=by rfl)(hx:Cs X.env.scope x:=by first|exact JE rfl|exact QP S)(hs:swapsWith e (Z (.Name x p)) pos.line X.env=pure false:=by rfl)(d:X.fn x=true\/X.env.scope.names.lookup x=Z .local:=by first|exact .inl rfl|exact .inr S):Nx X (.Assign [.Name x p] e pos) (λρ=>(f ρ).bind λb=>(ZJ ρ i b).bind λρ'=>Z (.nx ρ')):=⟨have he:=he.run;VN (P5 a hi hx he hs d) λD σ H h=>by
 obtain⟨H0,ρ,r,E,e,q⟩:=h;obtain⟨b,eb,e⟩:=AT e;obtain⟨ρ',l,e⟩:=AT e;cases e;exact⟨H0,ρ,b,E,eb,λv H1 j c g=>q _ _ (X5 E j g c l)⟩⟩
def Lo(σ:L2.St)(ρ:Ev)(σ':L2.St)(ρ':Ev):Prop:=∀(j:Nat) b,loose b=true->ρ'[j]?=Z (Z b)->ρ[j]?=Z (Z b)/\σ'[j]?=σ[j]?
theorem Lo.refl{ρ:Ev}:Lo σ ρ σ ρ:=λ_ _ _ e=>⟨e,rfl⟩
theorem Lo.trans{σ g h:L2.St}{ρ f d:Ev}(a:Lo σ ρ g f)(b:Lo g f h d):Lo σ ρ h d:=λj c l e=>by
 obtain⟨e1,e2⟩:=b j c l e;obtain⟨e3,i⟩:=a j c l e1;exact⟨e3,e2.trans i⟩
theorem Lo.set{ρ:Ev}(i:Nat)(v:V)(d:Dt):Lo σ ρ (σ.set i (Z v)) (ρ.set i (Z (.z d))):=λj b l e=>by
 rcases B9 e with⟨rfl,e',_⟩|⟨a,e'⟩
 ·cases e';cases l
 ·exact⟨e',Jf _ a⟩
def P8(K:B1)(g:Dt->Ev->Y Ev):TG:=λv σ H Q=>∃H0 ρ d a,bR K H0 H σ ρ/\AW K H d v/\g d ρ=Z a/\∀ σ',bR K H0 H σ' a->Lo σ ρ σ' a->Q σ' H
def F8(X:Cx)(t:Expr)(g:Dt->Ev->Y Ev):Prop:=PG X t (P8 X.K g)
structure CO (X:Cx) (t:Expr) (g:Dt->Ev->Option Ev):Prop where
 run:F8 X t g
theorem aH(i:Nat)(a:X.N.Nodup)(hi:X.N[i]?=Z x:=by rfl)(hx:Cs X.env.scope x:=by first|exact JE rfl|exact QP S)(c:X.fn x=true\/X.env.scope.names.lookup x=Z .local:=by first|exact .inl rfl|exact .inr S):CO X (.Name x pos) (λd ρ=>Z (ρ.set i (Z (.z d)))):=⟨λAN s σ H v u Q I r h=>by
 obtain⟨H0,ρ,d,g,E,f,e,q⟩:=h;cases e;exact Ho a hi hx c AN s σ H v u Q I r (q _ (E.set (b:=.z d) (AV.refl H) f (.inr S) trivial) (Lo.set i v d))⟩
def PZ(K:B1)(g:O Dt->Ev->Y Ev):EA:=λvs σ H Q=>∃H0 ρ ds a,bR K H0 H σ ρ/\aQ K H ds vs/\g ds ρ=Z a/\∀ σ',bR K H0 H σ' a->Lo σ ρ σ' a->Q σ' H
def UT(X:Cx)(t:O Expr)(g:O Dt->Ev->Y Ev):Prop:=L2.Vw X t (PZ X.K g)
structure GM (X:Cx) (t:List Expr) (g:List Dt->Ev->Option Ev):Prop where
 run:UT X t g
def jO:O Dt->Ev->Y Ev
 |[],ρ=>Z ρ
 |_,_=>U
def aV(g:Dt->Ev->Y Ev)(gs:O Dt->Ev->Y Ev):O Dt->Ev->Y Ev
 |d::ds,ρ=>(g d ρ).bind (gs ds)
 |_,_=>U
theorem gR  :GM X [] jO:=⟨λAN s σ H vs us Q I r h=>by
 obtain⟨H0,ρ,ds,b,E,a,e,q⟩:=h;cases ds with
 |nil=>cases e;unfold aQ at a;exact XD AN s σ H vs us Q I r ⟨a,q _ E Lo.refl⟩
 |cons d ds=>cases e⟩
theorem aR{t:Expr}{ts:O Expr}{gt:Dt->Ev->Y Ev}{gs:O Dt->Ev->Y Ev}(h1:CO X t gt)(h2:GM X ts gs)(hs:(assignEach (t::ts) X.env).map (·.2)=assign t X.env::(assignEach ts X.env).map (·.2):=by rfl):GM X (t::ts) (aV gt gs):=⟨have h1:=h1.run;have h2:=h2.run;λAN s σ H vs us Q I r h=>by
 obtain⟨H0,ρ,ds,o,E,a,e,q⟩:=h;cases ds with
 |nil=>cases e
 |cons d ds=>
  unfold aQ at a;obtain⟨v,f,rfl,i,c⟩:=a;simp only[aV]at e;obtain⟨b,e1,e⟩:=AT e;exact Ip h1 h2 hs AN s σ H _ us Q I r ⟨v,f,rfl,H0,ρ,d,b,E,i,e1,λp l n=>⟨H0,b,ds,o,l,c,e,λm j g=>q m j (n.trans g)⟩⟩⟩
def jx(n:Nat)(gs:O Dt->Ev->Y Ev):Dt->Ev->Y Ev
 |.tup ds,ρ=>if ds.length=n then gs ds ρ else U
 |_,_=>U
theorem jP{ts:O Expr}{k:Nat}{gs:O Dt->Ev->Y Ev}(l:X.calm=true)(h:GM X ts gs)(f:(assignEach ts X.env).length=n:=by rfl)(i:(assignEach ts X.env).findIdx? (·.1)=U:=by rfl):CO X (.Tuple ts k pos) (jx n gs):=⟨have h:=h.run;λAN s σ H v u Q I r j=>by
 obtain⟨H0,ρ,d,o,E,b,e,q⟩:=j;cases d with
 |tup ds=>
  simp only[jx]at e;split at e
  ·rename_i g;unfold AW at b;obtain⟨a,vs,rfl,m,c⟩:=b;exact Lu l h f i AN s σ H _ u Q I r ⟨a,vs,rfl,m,by rw[c.length];exact g,H0,ρ,ds,o,E,c,e,q⟩
  ·cases e
 |_=>cases e⟩
theorem vL{gt:Dt->Ev->Y Ev}(he:QV X e f)(a:CO X tg gt)(hs:swapsWithSole [tg] e pos.line X.env=pure false:=by rfl)(j:swappedStores [tg] e X.env=pure U:=by rfl)(h1:(assignEach [tg] X.env).map (·.2)=[assign tg X.env]:=by rfl):Nx X (.Assign [tg] e pos) (λρ=>(f ρ).bind λb=>match b with|.z d=>(gt d ρ).bind λρ'=>Z (.nx ρ')|_=>U):=⟨have he:=he.run;have a:=a.run;VN (MR he a hs j h1) λD σ H h=>by
 obtain⟨H0,ρ,r,E,e,q⟩:=h;obtain⟨b,eb,e⟩:=AT e;refine⟨H0,ρ,b,E,eb,λv H1 g m i=>?_⟩;cases b with
 |z d=>
  obtain⟨ρ',l,e⟩:=AT e;cases e;exact⟨H0,ρ,d,ρ',E.grow g,i,l,λσ' c _=>q _ _ c⟩
 |_=>cases e⟩
def HC(i j:Nat)(ρ:Ev):O Bx->Y Ap
 |[.z d,.z d']=>Z (.nx ((ρ.set i (Z (.z d))).set j (Z (.z d'))))
 |_=>U
theorem Qa(i j:Nat){px py pt:Pos}{kt k2 pt2}(u:X.calm=true)(f:X.N.Nodup)(c:XS X [a,b] fs)(hi:X.N[i]?=Z x:=by rfl)(m:X.N[j]?=Z y:=by rfl)(w:i≠j:=by decide)(hx:X.env.scope.names.lookup x=Z .local:=by rfl)(v:X.env.scope.names.lookup y=Z .local:=by rfl)(o:swappedStores [.Tuple [.Name x px,.Name y py] kt pt] (.Tuple [a,b] k2 pt2) X.env=pure (Z [x,y]):=by rfl)(hs:swapsWithSole [.Tuple [.Name x px,.Name y py] kt pt] (.Tuple [a,b] k2 pt2) pos.line X.env=pure false:=by rfl):Nx X (.Assign [.Tuple [.Name x px,.Name y py] kt pt] (.Tuple [a,b] k2 pt2) pos) (λρ=>(fs ρ).bind (HC i j ρ)):=⟨have c:=c.run;VN (Tx u f hi m w hx v c o hs) λD σ H h=>by
 obtain⟨H0,ρ,r,E,e,q⟩:=h;obtain⟨bs,eb,e⟩:=AT e;refine⟨H0,ρ,bs,E,eb,λvs H1 g l=>?_⟩;unfold HC at e;split at e
 ·rename_i d n;cases e;cases l with
  |cons p t=>
   cases t with
   |cons p' s=>
    cases s;refine⟨_,_,rfl,q _ _ ?_⟩;exact((E.grow g).set (b:=.z d) (AV.refl H1) p (.inr S) trivial).set (b:=.z n) (AV.refl H1) p' (.inr S) trivial
 ·cases e⟩
def Gc(ρ:Ev)(i:Nat):Bx->Y Ap
 |.z d=>match ρ[i]? with
  |some (Z (.o ds))=>if ds.length<AA then Z (.nx (ρ.set i (Z (.o (ds++[d])))))else U
  |_=>U
 |_=>U
theorem bR.ahA{ρ:Ev}{w c1:Bx}{a:A1}{u:HO}(E:bR K H0 H σ ρ)(h:ρ[i]?=Z (Z w))(t:uT w=true)(hs:σ[i]?=Z (Z (.ref a)))(k:Kp H (B4 H a u))(r:bB K (B4 H a u) c1 (.ref a)):
  bR K H0 (B4 H a u) σ (ρ.set i (Z c1)):=by
 have hi:i<ρ.length:=(List.getElem?_eq_some_iff.mp h).1;have hb:H0 a=U:=E.new i w a h t hs;have lo:∀c,uT c=true->loose c=true:=λc G=>by cases c<;>first|rfl|cases G
 refine⟨by rw[kP];exact E.len,λj A e=>?_,λj D c f A e1 x e2 e3 N L=>?_,λc o e=>?_,λj c f e1 x e2=>?_⟩
 ·rcases B9 e with⟨rfl,e',_⟩|⟨B,e'⟩
  ·cases e';exact⟨_,hs,r⟩
  ·obtain⟨v,e1,s⟩:=E.val j A e';refine⟨v,e1,?_⟩;have y:∀f,v=.ref f->loose A=true->f≠a:=λf ev M z=>by
    subst z;exact B (E.own i j w _ _ h t hs e' M (by rw[e1,ev])).symm
   cases A with
   |z d=>exact AW.kp k s
   |l C=>
    obtain⟨f,p,rfl,q,rr⟩:=s;refine⟨f,p,rfl,?_,rr.kp k⟩;have g:=y f S rfl;rcases q with q|⟨o,q⟩
    ·exact .inl (by rw[aU g];exact q)
    ·exact .inr ⟨o,by rw[aU g];exact q⟩
   |o C=>
    obtain⟨f,p,rfl,q,rr⟩:=s;have g:=y f S rfl;exact⟨f,p,rfl,by rw[aU g];exact q,rr.kp k⟩
   |n C=>
    obtain⟨f,p,rfl,q,rr⟩:=s;refine⟨f,p,rfl,?_,rr.kp k⟩;have g:=y f S rfl;rcases q with q|⟨o,q⟩
    ·exact .inl (by rw[aU g];exact q)
    ·exact .inr ⟨o,by rw[aU g];exact q⟩
   |m C=>
    obtain⟨f,p,rfl,q,rr⟩:=s;have g:=y f S rfl;exact⟨f,p,rfl,by rw[aU g];exact q,rr.1.kp k,rr.2⟩
 ·have back:∀(m:Nat) (b:Bx),(ρ.set i (Z c1))[m]?=Z (Z b)->loose b=true->∃b0,ρ[m]?=Z (Z b0)/\loose b0=true/\(uT b=true->uT b0=true):=λm b e l=>by
   rcases B9 e with⟨rfl,e',_⟩|⟨B,e'⟩
   ·exact⟨_,h,lo _ t,λ_=>t⟩
   ·exact⟨b,e',l,λz=>z⟩
  obtain⟨b0,q1,q2,F⟩:=back j _ e1 (lo _ x);obtain⟨b1,I,J,_⟩:=back D _ e3 N;exact E.own j D b0 f b1 q1 (F x) e2 I J L
 ·rw[aU (dU e hb)];exact E.base c o e
 ·rcases B9 e1 with⟨rfl,e',_⟩|⟨B,e'⟩
  ·exact E.new _ w f h t e2
  ·exact E.new j c f e' x e2
theorem bR.abd{ρ:Ev}{ds es:O Dt}{a:A1}{us:O V}(E:bR K H0 H σ ρ)(h:ρ[i]?=Z (Z (.o ds)))(hs:σ[i]?=Z (Z (.ref a)))(b:H a=Z (.lst vs))(r:aQ K H es us):
  bR K H0 (B4 H a (.lst us)) σ (ρ.set i (Z (.o es))):=E.ahA h S hs (.lst b) ⟨a,us,rfl,bK,r.kp (.lst b)⟩
theorem xg(i:Nat){p:Pos}(he:QV X e f)(n:X.N[i]?=Z x:=by rfl)(w:Xx X.env.scope x:=by first|exact JE rfl|exact QP (JE S)|exact QP (QP S))(hd:(x==("__debug__":AJ))=false:=by decide)(o:(x==("__classdict__":AJ))=false:=by decide)(l:A9 [e] X.env=[(false,eval e X.env)]:=by rfl)(A:attributeBase (.Name x p) "append" X.env (eval (.Name x p) X.env)=eval (.Name x p) X.env:=by rfl)(C:((AD cpos (A9 [e] X.env)).all (λx=>!x.1)&&(backToKw cpos (keywordEach [] X.env)).all (λx=>x.1.isSome)&&decide ([e].length+([]:O AC).length+(if([]:O AC).isEmpty then 0 else 1)<30))=true:=by rfl)(t:(apos.endLine==cpos.line)=true:=by rfl)(hs:swapsWith (.Call (.Attribute (.Name x p) "append" apos) [e] [] cpos) U pos.line X.env=pure false:=by rfl):Nx X (.Expr (.Call (.Attribute (.Name x p) "append" apos) [e] [] cpos) pos) (λρ=>(f ρ).bind (Gc ρ i)):=⟨have he:=he.run;VN (Pr (Hn PySem.F.plainAttrs_list PySem.F.slot_list_append PySem.F.type_list_append Nu (uy (i:=i) n w hd o) (tD he Du (by rw[l]<;>rfl)) A C t (by rw[l]<;>rfl) S) hs) λD σ H h=>by
  obtain⟨H0,ρ,r,E,e,q⟩:=h;obtain⟨b,eb,e⟩:=AT e;cases b with
  |z d=>
   simp only[Gc]at e;split at e
   ·rename_i ds j;split at e
    ·rename_i s;cases e;obtain⟨v,e1,a,vs,rfl,g,m⟩:=E.val i _ j;refine⟨_,e1,.inl ⟨rfl,vs,.inl (.inl g)⟩,H0,ρ,_,E,eb,λu H1 c G y=>?_⟩;have B:=E.grow c;refine⟨a,vs,u,rfl,rfl,c _ _ g,by rw[m.length];exact s,q _ _ ?_⟩;exact B.abd j e1 (c _ _ g) ((m.kp (.of c)).append (aQ.cons y aQ.nil))
    ·cases e
   ·cases e
  |_=>cases e⟩
end
def IA(x:AJ):It:=⟨λi _=>i<x.cps.size,λi H v H'=>H'=H/\∃c,x.cps[i]?=Z c/\v=.str ⟨#[c]⟩,λi _=>x.cps.size<=i⟩
def bq(h:A6)(it:A1)(x:AJ)(i:Nat):Prop:=∃t,h.IsStrIter it "str_ascii_iterator" x t i\/h.IsStrIter it "str_iterator" x t i
theorem Sh(it:A1)(x:AJ):C2 P w K tg (IA x) [it] it (λi h=>bq h it x i) where
 mem:=by simp
 obj:=λi h st b hb=>by
  have e:b=it:=by simpa using hb
  subst e;obtain⟨t,⟨o,e,c,d⟩|⟨o,e,c,d⟩⟩:=st
  ·exact⟨o,e,λv z=>by rw[d]at z;cases z⟩
  ·exact⟨o,e,λv z=>by rw[d]at z;cases z⟩
 keep:=λi h h' st k=>by
  obtain⟨t,⟨o,e,c⟩|⟨o,e,c⟩⟩:=st
  ·exact⟨t,.inl ⟨o,k it (by simp) o e,c⟩⟩
  ·exact⟨t,.inr ⟨o,k it (by simp) o e,c⟩⟩
 item:=by
  intro X p u n y i AN s σ H E I g st m;subst p u n;obtain⟨f0,f1,f2,j,l,a⟩:=g it (by simp);have hi:i<x.cps.size:=m;have hx:x.cps[i]?=Z x.cps[i]:=by simp[hi]
  obtain⟨t,st|st⟩:=st
  ·refine wpAny_pyNext_ascii_item st hx λh' f A=>?_;have q:L2.AU X AN σ H { s with heap:=h',toks:=s.toks+1 }:=I.turned (λb o hb e=>(A.2 b hb).trans e) f0 f1 j l a;obtain⟨o,e,c,d⟩:=id f;exact⟨_,rfl,Ni (s:={ s with heap:=h',toks:=s.toks+1 }) e c d (by decide) ⟨.str ⟨#[x.cps[i]]⟩,H,q,⟨_,rfl⟩,⟨rfl,_,hx,rfl⟩,⟨t,.inl f⟩,λb hb=>(g b hb).1⟩⟩
  ·refine wpAny_pyNext_wide_item st hx λh' f A=>?_;have q:L2.AU X AN σ H { s with heap:=h',toks:=s.toks+1 }:=I.turned (λb o hb e=>(A.2 b hb).trans e) f0 f1 j l a;obtain⟨o,e,c,d⟩:=id f;exact⟨_,rfl,Ni (s:={ s with heap:=h',toks:=s.toks+1 }) e c d (by decide) ⟨.str ⟨#[x.cps[i]]⟩,H,q,⟨_,rfl⟩,⟨rfl,_,hx,rfl⟩,⟨t,.inr f⟩,λb hb=>(g b hb).1⟩⟩
 done:=by
  intro X p u n y i AN s σ H E I g st m;subst p u n;obtain⟨f0,f1,f2,j,l,a⟩:=g it (by simp);have hx:x.cps[i]?=U:=by have:x.cps.size<=i:=m;simp[this]
  obtain⟨t,st|st⟩:=st
  ·exact wpAny_pyNext_ascii_end (I.ok.hd y) st hx λh' eb=>⟨rfl,I.turned (t':=s.toks) (λb o hb e=>eb b o hb e) f0 f1 j l a⟩
  ·exact wpAny_pyNext_wide_end (I.ok.hd y) st hx λh' eb=>⟨rfl,I.turned (t':=s.toks) (λb o hb e=>eb b o hb e) f0 f1 j l a⟩
 self:=λ_ _ _ _ _ st h=>by
  obtain⟨t,st|st⟩:=st
  ·exact wpAny_pyIter_striter_ascii st h
  ·exact wpAny_pyIter_striter_wide st h
def et(K:B1)(tl:TE):TI:=λσ H R=>tl σ H λx H1=>(∃a,x=.ref a/\(∃xs,vI K H1 a xs)/\R (HK K a) H1)\/(∃a,x=.ref a/\(∃xs,Bd K H1 a xs)/\R (IR K a) H1)\/∃y,x=.str y/\R (IA y) H1
theorem V2{l:Expr}{tl:TE}(g:PE X l tl):PI X tg l (et X.K tl):=by
 intro AN s σ H R I h;refine jc (g AN s σ H _ I h) λv s1 ⟨x,H1,I1,r1,q1⟩=>?_;have c:∀(o:AE) (b:A1),b∈[s1.heap.objs.size]->uz X AN H1 b:=λo b hb=>by
  have e:b=s1.heap.objs.size:=by simpa using hb
  subst e;exact I1.Vx (zo _) (I1.hok.fresh (zo _))
 rcases q1 with⟨a,e,⟨xs,d⟩,q⟩|⟨a,e,⟨xs,d⟩,q⟩|⟨y,e,q⟩
 ·subst e;cases r1;obtain⟨AQ,j,p,i⟩:=I1.list d;refine wpAny_pyIter_list p.isList ?_;exact⟨s1.heap.objs.size,[s1.heap.objs.size],_,_,H1,rfl,I1.kept (t':=s1.toks) λb o e=>ze _ e,Zr a _,⟨_,zv _ rfl,rfl,rfl⟩,c default,q⟩
 ·subst e;cases r1;obtain⟨AQ,j,p,i⟩:=I1.tuple d;refine wpAny_pyIter_tuple (show s1.heap.IsTuple a AQ.toArray from p) ?_;exact⟨s1.heap.objs.size,[s1.heap.objs.size],_,_,H1,rfl,I1.kept (t':=s1.toks) λb o e=>ze _ e,Vy a _,⟨_,zv _ rfl,rfl,rfl⟩,c default,q⟩
 ·subst e;obtain⟨t,rfl⟩:=r1;cases f:y.cps.all (· < 128)with
  |true=>
   refine wpAny_pyIter_ascii f ?_;exact⟨s1.heap.objs.size,[s1.heap.objs.size],_,_,H1,rfl,I1.kept (t':=s1.toks) λb o e=>ze _ e,Sh _ y,⟨t,.inl ⟨_,zv _ rfl,rfl,rfl⟩⟩,c default,q⟩
  |false=>
   refine wpAny_pyIter_wide f ?_;exact⟨s1.heap.objs.size,[s1.heap.objs.size],_,_,H1,rfl,I1.kept (t':=s1.toks) λb o e=>ze _ e,Sh _ y,⟨t,.inr ⟨_,zv _ rfl,rfl,rfl⟩⟩,c default,q⟩
def B0(K:B1)(J:It)(ds:O Dt)(Hs:Hp):Prop:=∀(i:Nat) (H:Hp),AV Hs H →
 (∀d,ds[i]?=Z d->J.go i H/\∀x H',J.yld i H x H'->AV H H'/\AW K H' d x)/\(ds.length<=i->J.stop i H)
theorem B0.of{ds:O Dt}(h:∀(i:Nat) (H:Hp),AV Hs H →
  (∀d,ds[i]?=Z d->J.go i H/\∀x H',J.yld i H x H'->H'=H/\AW K H d x)/\(ds.length<=i->J.stop i H)):B0 K J ds Hs:=λi H s=>
 ⟨λd e=>⟨((h i H s).1 d e).1,λx H' y=>by
  obtain⟨rfl,r⟩:=((h i H s).1 d e).2 x H' y;exact⟨AV.refl _,r⟩⟩,(h i H s).2⟩
def By(x:AJ):O Dt:=x.cps.toList.map λc=>.str ⟨#[c]⟩
theorem B0.list{ds:O Dt}(h:vI K Hs a vs)(r:aQ K Hs ds vs):B0 K (HK K a) ds Hs:=.of λi H s=>by
 have h':=s.seq h;have c:=r.kp (.of s);refine⟨λd e=>?_,λe=>⟨vs,h',by rw[r.length];exact e⟩⟩;obtain⟨v,ev,b⟩:=c.get e;refine⟨⟨vs,v,h',ev⟩,λx H' y=>?_⟩;obtain⟨y1,y2⟩:=y;have:=y2 vs h';rw[ev]at this;cases this;exact⟨y1,b⟩
theorem B0.tup{ds:O Dt}(h:Bd K Hs a vs)(r:aQ K Hs ds vs):B0 K (IR K a) ds Hs:=.of λi H s=>by
 have h':=(Kp.of s).sqT h;have c:=r.kp (.of s);refine⟨λd e=>?_,λe=>⟨vs,h',by rw[r.length];exact e⟩⟩;obtain⟨v,ev,b⟩:=c.get e;refine⟨⟨vs,v,h',ev⟩,λx H' y=>?_⟩;obtain⟨y1,y2⟩:=y;have:=y2 vs h';rw[ev]at this;cases this;exact⟨y1,b⟩
theorem B0.str(x:AJ):B0 K (IA x) (By x) Hs:=.of λi H s=>by
 refine⟨λd e=>?_,λe=>?_⟩
 ·unfold By at e;rw[ZE]at e;cases h:x.cps.toList[i]? with
  |none=>rw[h]at e;cases e
  |some c=>
   rw[h]at e;cases e;have b:x.cps[i]?=Z c:=by simpa using h
   have hi:i<x.cps.size:=by
    have:=(List.getElem?_eq_some_iff.mp h).1;simpa using this
   refine⟨hi,λv H' y=>?_⟩;obtain⟨y1,f,a,rfl⟩:=y;rw[b]at a;cases a;refine⟨y1,?_⟩;unfold AW;exact⟨rfl,by show(1:Nat)<=AA;decide⟩
 ·have:(By x).length=x.cps.size:=by simp[By]
  show x.cps.size<=i;omega
def Sq(lo:Int)(n:Nat):O Dt:=(List.range n).map λk=>.int (lo+(k:Nat))
theorem B0.rng(lo:Int)(n:Nat):B0 K (GU lo n) (Sq lo n) Hs:=.of λi H s=>by
 refine⟨λd e=>?_,λe=>?_⟩
 ·unfold Sq at e;rw[ZE]at e;by_cases hi:i<n
  ·rw[kD hi]at e;cases e;refine⟨hi,λv H' y=>?_⟩;obtain⟨y1,y2⟩:=y;refine⟨y1,?_⟩;unfold AW;exact y2
  ·rw[qq (by simp;omega)]at e;cases e
 ·have:(Sq lo n).length=n:=by simp[Sq]
  show n<=i;omega
def iF(K:B1)(f:Ev->Y (O Dt)):TI:=λσ H R=>∃H0 ρ ds,bR K H0 H σ ρ/\f ρ=Z ds/\∀J H',AV H H' →
 (∀Hs,AV Hs H'->(∀a,H a=U->Hs a=H' a)->(∀a o u,H' a=Z (.ux o u)->Hs a=H' a)->(∀a vs,H' a=Z (.tup vs)->Hs a=H' a)->B0 K J ds Hs)->R J H'
def On(X:Cx)(tg iter:Expr)(f:Ev->Y (O Dt)):Prop:=PI X tg iter (iF X.K f)
structure Fh (X:Cx) (tg iter:Expr) (f:Ev->Option (List Dt)):Prop where
 run:On X tg iter f
def Ee:Bx->Y (O Dt)
 |.z (.lst ds)=>Z ds
 |.z (.tup ds)=>Z ds
 |.z (.str x)=>Z (By x)
 |.o ds=>Z ds
 |_=>U
section
variable{f:Ev->Y Bx}{fs:Ev->Y (O Bx)}
mutual
theorem AW.part{K:B1}{H Hs:Hp}(b:∀a o u,H a=Z (.ux o u)->Hs a=H a)(c:∀a vs,H a=Z (.tup vs)->Hs a=H a):∀{d:Dt} {v:V},AW K H d v->AW K Hs d v
 |.non,_,h=>by simpa only[AW]using h
 |.bl _,_,h=>by simpa only[AW]using h
 |.int _,_,h=>by simpa only[AW]using h
 |.str _,_,h=>by simpa only[AW]using h
 |.tup ds,_,h=>by
  simp only[AW]at h ⊢;obtain⟨a,vs,e,q,r⟩:=h;refine⟨a,vs,e,?_,aQ.part b c r⟩;rcases q with (q|⟨o,q⟩)|q
  ·exact .inl (.inl ((c _ _ q).trans q))
  ·exact .inl (.inr ⟨o,(b _ _ _ q).trans q⟩)
  ·exact .inr q
 |.lst ds,_,h=>by
  simp only[AW]at h ⊢;obtain⟨a,vs,e,q,r⟩:=h;refine⟨a,vs,e,?_,aQ.part b c r⟩;rcases q with⟨o,q⟩|q
  ·exact .inl ⟨o,(b _ _ _ q).trans q⟩
  ·exact .inr q
 |.emp,_,h=>by
  simp only[AW]at h ⊢;obtain⟨a,o,e,q⟩:=h;exact⟨a,o,e,(b _ _ _ q).trans q⟩
theorem aQ.part{K:B1}{H Hs:Hp}(b:∀a o u,H a=Z (.ux o u)->Hs a=H a)(c:∀a vs,H a=Z (.tup vs)->Hs a=H a):∀{ds:O Dt} {vs:O V},aQ K H ds vs->aQ K Hs ds vs
 |[],_,h=>by simpa only[aQ]using h
 |d::ds,_,h=>by
  simp only[aQ]at h ⊢;obtain⟨v,r,e,q,t⟩:=h;exact⟨v,r,e,AW.part b c q,aQ.part b c t⟩
end
theorem Hv(h:QV X e f):Fh X tg e (λρ=>(f ρ).bind Ee):=⟨have h:=h.run;λAN s σ H R I q=>by
 refine V2 h AN s σ H R I ?_;obtain⟨H0,ρ,ds,E,e,q⟩:=q;obtain⟨b,eb,e⟩:=AT e;refine⟨H0,ρ,b,E,eb,λv H1 w y i=>?_⟩;cases b with
 |z d=>
  cases d with
  |tup p=>
   cases e;simp only[bB,AW]at i;obtain⟨a,vs,rfl,c,t⟩:=i;refine .inr (.inl ⟨a,rfl,⟨vs,c⟩,q _ _ w λHs hs u g j=>.tup ?_ (t.part g j)⟩);rcases c with (c|⟨o,c⟩)|c
   ·exact .inl (.inl ((j _ _ c).trans c))
   ·exact .inl (.inr ⟨o,(g _ _ _ c).trans c⟩)
   ·exact .inr c
  |lst p=>
   cases e;simp only[bB,AW]at i;obtain⟨a,vs,rfl,c,t⟩:=i;refine .inl ⟨a,rfl,⟨vs,c.sq⟩,q _ _ w λHs hs u g j=>.list ?_ (t.part g j)⟩;rcases c with⟨o,c⟩|c
   ·exact .inl (.inr ⟨o,(g _ _ _ c).trans c⟩)
   ·exact .inr c
  |str x=>
   cases e;simp only[bB,AW]at i;obtain⟨rfl,_⟩:=i;exact .inr (.inr ⟨x,rfl,q _ _ w λHs hs u g j=>.str x⟩)
  |_=>cases e
 |l p=>cases e
 |n p=>cases e
 |m p=>cases e
 |o p=>
  cases e;obtain⟨a,vs,rfl,c,t⟩:=i;refine .inl ⟨a,rfl,⟨vs,.inl (.inl c)⟩,q _ _ w λHs hs u g j=>.list (.inl (.inl ((u a (y a S)).trans c))) (t.part g j)⟩⟩
def L0:O Bx->Y (O Dt)
 |[.z (.int j)]=>if -(2 ^ 62)<=j/\j<2 ^ 62 then Z (Sq 0 j.toNat)else U
 |_=>U
theorem uW{p:Pos}(c:Gl X "range")(g:X.mg "range"=U)(a:XS X [e] fs)(hs:A9 [e] X.env=[(false,eval e X.env)]:=by rfl):Fh X tg (.Call (.Name "range" p) [e] [] pos) (λρ=>(fs ρ).bind L0):=⟨have a:=a.run;λAN s σ H R I q=>by
 refine Zt c g a hs AN s σ H R I ?_;obtain⟨H0,ρ,ds,E,e,q⟩:=q;obtain⟨bs,eb,e⟩:=AT e;refine⟨H0,ρ,bs,E,eb,λvs H1 d f=>?_⟩;unfold L0 at e;split at e
 ·rename_i j;split at e
  ·rename_i b;cases e;cases f with
   |cons p t=>
    cases t;simp only[bB,AW]at p;subst p;exact⟨j,rfl,b.1,b.2,q _ _ d λHs _ _ _ _=>.rng 0 _⟩
  ·cases e
 ·cases e⟩
def qR(gt:Dt->Ev->Y Ev)(gb:Ev->Y Ap):O Dt->Ev->Y Ap
 |[],ρ=>Z (.nx ρ)
 |d::ds,ρ=>(gt d ρ).bind λc=>(gb c).bind λr=>match r with
  |.nx a=>qR gt gb ds a
  |.ct a=>qR gt gb ds a
  |.bk a=>Z (.nx a)
  |.rt b=>Z (.rt b)
noncomputable def iw(H:Hp)(σ:L2.St)(ρ:Ev):Hp:=λa=>@ite _ (∃(i:Nat) (c:Bx),ρ[i]?=Z (Z c)/\uT c=true/\σ[i]?=Z (Z (.ref a))) (Classical.propDecidable _) U (H a)
theorem Bo{ρ:Ev}:AV (iw H σ ρ) H:=λa o e=>by
 unfold iw at e;split at e
 ·cases e
 ·exact e
theorem bR.rebase{ρ:Ev}(E:bR K Hs H σ ρ)(s:AV H0 Hs):bR K H0 H σ ρ:=⟨E.len,E.val,E.own,s.trans E.base,λi c a e1 b e2=>s.free (E.new i c a e1 b e2)⟩
theorem bR.sans{ρ:Ev}(E:bR K H0 H σ ρ):bR K (iw H σ ρ) H σ ρ:=⟨E.len,E.val,E.own,Bo,λi c a e1 b e2=>by
 unfold iw;rw[zr ⟨i,c,e1,b,e2⟩]⟩
theorem bR.sub{ρ:Ev}(E:bR K H0 H σ ρ):AV H0 (iw H σ ρ):=λa o e=>by
 unfold iw;split
 ·rename_i h;obtain⟨i,c,e1,b,e2⟩:=h;rw[E.new i c a e1 b e2]at e;cases e
 ·exact E.base a o e
theorem j4{ρ:Ev}(E:bR K H0 H σ ρ)(h:∀vs,H a≠Z (.lst vs))(h2:∀vs,H a≠Z (.dK vs)):iw H σ ρ a=H a:=by
 unfold iw;split
 ·rename_i g;obtain⟨i,c,e1,e,e2⟩:=g;obtain⟨v,e3,d⟩:=E.val i _ e1;rw[e2]at e3;cases e3;cases c with
  |o ds=>obtain⟨f,vs,b,q,_⟩:=d;cases b;exact absurd q (h vs)
  |m ds _=>obtain⟨f,vs,b,q,_⟩:=d;cases b;exact absurd q (h2 vs)
  |_=>cases e
 ·rfl
theorem V1.rebase{K:B1}{H0 Hs:Hp}{D:C4}{r:Ap}(s:AV H0 Hs)(h:V1 K H0 D r):V1 K Hs D r:=by
 cases r with
 |nx ρ=>exact λσ H E=>h σ H (E.rebase s)
 |bk ρ=>exact λσ H E=>h σ H (E.rebase s)
 |ct ρ=>exact λσ H E=>h σ H (E.rebase s)
 |rt b=>exact λv H s' n r=>h v H (s.trans s') (n.old s) r
theorem uX{gt:Dt->Ev->Option Ev}{gb:Ev->Option Ap}{ds:O Dt}{H1:Hp}{ρ:Ev}{D:C4}{r:Ap}(n:bR X.K H0 H1 σ ρ)(Y:B0 X.K J ds (iw H1 σ ρ))(e:qR gt gb ds ρ=Z r)(q:V1 X.K H0 D r):
  ∃W:Nat->Nat->L2.St->Hp->Prop,(∃m,W 0 m σ H1)/\∀i m σ H,W i m σ H →
   (J.stop i H/\D.nx σ H)\/(J.go i H/\∃N:L2.St->Hp->Prop,(∀ σ' H',N σ' H'->∃p,p<m/\W (i+1) p σ' H')/\∀x H',J.yld i H x H'->P8 X.K gt x σ H' λc H2=>tG X.K gb { D with nx:=N,ct:=N,bk:=D.nx } c H2):=by
 have s:=n.sans;have q2:=q.rebase n.sub;generalize iw H1 σ ρ=Hs at Y s q2;refine⟨λi m σ' H'=>m=ds.length-i/\i<=ds.length/\∃d,bR X.K Hs H' σ' d/\qR gt gb (ds.drop i) d=Z r,⟨ds.length,by simp,QU _,ρ,s,by simpa using e⟩,?_⟩;rintro i m σ' H' ⟨rfl,B,d,g,e'⟩;obtain⟨y1,y2⟩:=Y i H' g.base;by_cases h:i<ds.length
 ·right;have hd:ds[i]?=Z ds[i]:=by simp[h]
  obtain⟨u,z⟩:=y1 _ hd;rw[List.drop_eq_getElem_cons h]at e';simp only[qR]at e';obtain⟨l,e1,e'⟩:=AT e';obtain⟨t,e2,e'⟩:=AT e';refine⟨u,λc H2=>∃a,bR X.K Hs H2 c a/\qR gt gb (ds.drop (i+1)) a=Z r,λc H2 ⟨a,f,e3⟩=>⟨ds.length-(i+1),by omega,rfl,h,a,f,e3⟩,λx H2 v=>?_⟩;obtain⟨A,w⟩:=z x H2 v;refine⟨Hs,d,ds[i],l,g.grow A,w,e1,λC f _=>⟨Hs,l,t,f,e2,?_⟩⟩;cases t with
  |nx a=>exact λc y j=>⟨a,j,e'⟩
  |ct a=>exact λc y j=>⟨a,j,e'⟩
  |bk a=>cases e';exact q2
  |rt b=>cases e';exact q2
 ·left;have o:ds.length<=i:=by omega
  refine⟨y2 o,?_⟩;rw[List.drop_eq_nil_of_le o]at e';cases e';exact q2 σ' H' g
theorem z8{fi:Ev->Y (O Dt)}{gt:Dt->Ev->Y Ev}{gb:Ev->Y Ap}(hp:PassesOwn (A8 X.prog X.w) X.A X.env X.xe)(B:X.calm=true)(hi:Fh X tg iter fi)(d:CO X tg gt)(hb:Sg X body gb)(hs:∀x,foldedSetIterable iter X.env x=pure x:=by intro _;rfl):Nx X (.For tg iter body [] pos) (λρ=>(fi ρ).bind λds=>qR gt gb ds ρ):=⟨have hi:=hi.run;have d:=d.run;have hb:=hb.run;VN (Lc hp B hi d hb hs) λD σ H h=>by
 obtain⟨H0,ρ,r,E,e,q⟩:=h;obtain⟨ds,n,e⟩:=AT e;refine⟨H0,ρ,ds,E,n,λJ H1 l y=>?_⟩;have g:=E.grow l;refine uX g ?_ e q;refine y _ Bo (λa b=>?_) (λa o u b=>j4 g (λvs z=>by rw[b]at z;cases z) (λvs z=>by rw[b]at z;cases z)) λa vs b=>j4 g (λvs z=>by rw[b]at z;cases z) (λvs z=>by rw[b]at z;cases z);unfold iw;split
 ·rename_i t;obtain⟨i,c,e1,p,e2⟩:=t;obtain⟨v,e3,j⟩:=E.val i _ e1;rw[e2]at e3;cases e3;cases c with
  |o ds=>obtain⟨s,vs,f,q,_⟩:=j;cases f;rw[b]at q;cases q
  |m ds _=>obtain⟨s,vs,f,q,_⟩:=j;cases f;rw[b]at q;cases q
  |_=>cases p
 ·rfl⟩
theorem bR.lend{ρ:Ev}{ds:O Dt}(E:bR K H0 H σ ρ)(h:ρ[i]?=Z (Z (.o ds))):bR K H0 H σ (ρ.set i (Z (.l ds))):=by
 have back:∀(j:Nat) (b:Bx),(ρ.set i (Z (.l ds)))[j]?=Z (Z b)->(j=i/\b=.l ds)\/(j≠i/\ρ[j]?=Z (Z b)):=λj b e=>by
  rcases B9 e with⟨rfl,e',_⟩|⟨f,e'⟩
  ·cases e';exact .inl ⟨rfl,rfl⟩
  ·exact .inr ⟨f,e'⟩
 refine⟨by rw[kP];exact E.len,λj b e=>?_,λj k c a b e1 d e2 e3 m g=>?_,E.base,λj c a e1 d e2=>?_⟩
 ·rcases back j b e with⟨rfl,rfl⟩|⟨f,e'⟩
  ·obtain⟨v,e1,a,vs,e2,q,r⟩:=E.val _ _ h;exact⟨v,e1,a,vs,e2,.inl q,r⟩
  ·exact E.val j b e'
 ·rcases back j _ e1 with⟨rfl,z⟩|⟨f,e'⟩
  ·subst z;cases d
  ·rcases back k _ e3 with⟨rfl,z⟩|⟨p,n⟩
   ·exact E.own j _ c a _ e' d e2 h S g
   ·exact E.own j k c a b e' d e2 n m g
 ·rcases back j _ e1 with⟨rfl,z⟩|⟨f,e'⟩
  ·subst z;cases d
  ·exact E.new j c a e' d e2
def rO(i:Nat)(gt:Dt->Ev->Y Ev)(gb:Ev->Y Ap)(ρ:Ev):Y Ap:=match ρ[i]? with
 |some (Z (.o ds))=>qR gt gb ds (ρ.set i (Z (.l ds)))
 |some (Z (.l ds))=>qR gt gb ds ρ
 |some (Z b)=>(Ee b).bind λds=>qR gt gb ds ρ
 |_=>U
theorem NA{ρ:Ev}{ds:O Dt}(E:bR X.K H0 H σ ρ)(h:ρ[i]?=Z (Z (.l ds))):∃a vs,σ[i]?=Z (Z (.ref a))/\vI X.K H a vs/\B0 X.K (HK X.K a) ds (iw H σ ρ):=by
 obtain⟨v,e1,a,vs,rfl,q,r⟩:=E.val i _ h;have d:iw H σ ρ a=H a:=by
  unfold iw;split
  ·rename_i f;obtain⟨j,c,e2,e,e3⟩:=f;have:=E.own j i c a _ e2 e e3 h S e1;subst this;rw[h]at e2;cases e2;cases e
  ·rfl
 refine⟨a,vs,e1,.inl q,.list (.inl ?_) (r.part (λb o u hb=>j4 E (λvs z=>by rw[hb]at z;cases z) (λvs z=>by rw[hb]at z;cases z)) λb g hb=>j4 E (λvs z=>by rw[hb]at z;cases z) (λvs z=>by rw[hb]at z;cases z))⟩;rcases q with q|⟨o,q⟩
 ·exact .inl (d.trans q)
 ·exact .inr ⟨o,d.trans q⟩
theorem yS(i:Nat){p:Pos}{gt:Dt->Ev->Option Ev}{gb:Ev->Option Ap}(hp:PassesOwn (A8 X.prog X.w) X.A X.env X.xe)(M:X.calm=true)(t:CO X tg gt)(hb:Sg X body gb)(I:X.N[i]?=Z x:=by rfl)(L:Xx X.env.scope x:=by first|exact JE rfl|exact QP (JE S)|exact QP (QP S))(hd:(x==("__debug__":AJ))=false:=by decide)(J:(x==("__classdict__":AJ))=false:=by decide)(hs:∀y,foldedSetIterable (.Name x p) X.env y=pure y:=by intro _;rfl):Nx X (.For tg (.Name x p) body [] pos) (rO i gt gb):=⟨have t:=t.run;have hb:=hb.run;VN (Lc hp M (V2 (uy (i:=i) I L hd J)) t hb hs) λD σ H h=>by
 obtain⟨H0,ρ,r,E,e,q⟩:=h;unfold rO at e;split at e
 ·rename_i ds g;have G:=E.lend g;have hi:i<ρ.length:=(List.getElem?_eq_some_iff.mp g).1;obtain⟨a,vs,e1,sq,Y⟩:=NA G (Je _ hi);exact⟨_,e1,.inl ⟨a,rfl,⟨vs,sq⟩,uX G Y e q⟩⟩
 ·rename_i ds g;obtain⟨a,vs,e1,sq,Y⟩:=NA E g;exact⟨_,e1,.inl ⟨a,rfl,⟨vs,sq⟩,uX E Y e q⟩⟩
 ·rename_i b K P g;obtain⟨ds,f,e⟩:=AT e;obtain⟨v,e1,rb⟩:=E.val i _ g;have s:∀b o u,H b=Z (.ux o u)->iw H σ ρ b=H b:=λb o u hb=>j4 E (λvs z=>by rw[hb]at z;cases z) (λvs z=>by rw[hb]at z;cases z);have B:∀b F,H b=Z (.tup F)->iw H σ ρ b=H b:=λb F hb=>j4 E (λvs z=>by rw[hb]at z;cases z) (λvs z=>by rw[hb]at z;cases z);cases b with
  |z d=>
   cases d with
   |tup j=>
    cases f;simp only[bB,AW]at rb;obtain⟨a,vs,rfl,c,C⟩:=rb;refine⟨_,e1,.inr (.inl ⟨a,rfl,⟨vs,c⟩,uX E (.tup ?_ (C.part s B)) e q⟩)⟩;rcases c with (c|⟨o,c⟩)|c
    ·exact .inl (.inl ((B _ _ c).trans c))
    ·exact .inl (.inr ⟨o,(s _ _ _ c).trans c⟩)
    ·exact .inr c
   |lst j=>
    cases f;simp only[bB,AW]at rb;obtain⟨a,vs,rfl,c,C⟩:=rb;refine⟨_,e1,.inl ⟨a,rfl,⟨vs,c.sq⟩,uX E (.list ?_ (C.part s B)) e q⟩⟩;rcases c with⟨o,c⟩|c
    ·exact .inl (.inr ⟨o,(s _ _ _ c).trans c⟩)
    ·exact .inr c
   |str x=>
    cases f;simp only[bB,AW]at rb;obtain⟨rfl,_⟩:=rb;exact⟨_,e1,.inr (.inr ⟨x,rfl,uX E (.str x) e q⟩)⟩
   |_=>cases f
  |l j=>cases f
  |o j=>exact absurd S (K j)
  |n j=>cases f
  |m j=>cases f
 ·cases e⟩
end
def C8(a:O (AJ×A1)):O (AJ×A1)->Prop
 |[]=>True
 |(n,c)::r=>a.lookup n=Z c/\C8 a r
theorem C8.get{a:O (AJ×A1)}:∀{cl:O (AJ×A1)},C8 a cl->∀{x:AJ} {c:A1},cl.lookup x=Z c->a.lookup x=Z c
 |[],_,_,_,e=>by cases e
 |(n,d)::r,h,x,c,e=>by
  rw[List.lookup_cons]at e;by_cases hx:x==n
  ·simp only[hx]at e;cases e;have:x=n:=by simpa using hx
   rw[this];exact h.1
  ·have hx:(x==n)=false:=by simpa using hx
   simp only[hx]at e;exact C8.get h.2 e
structure NO (X:Cx) (scope:Scope) (cl:List (Str×Addr)) (x:Str) (i:Nat):Prop where
 n:X.N[i]?=some x
 k:X.env.kindOf x=some .cell\/X.env.kindOf x=some .free
 k':(relabel scope X.env).names.lookup x=some .cell\/(relabel scope X.env).names.lookup x=some .free
 c:∃c,cl.lookup x=some c
def Lj(X:Cx)(scope:Scope)(cl:O (AJ×A1)):AZ->O Nat->Prop
 |[],[]=>True
 |x::xs,i::is=>NO X scope cl x i/\Lj X scope cl xs is
 |_,_=>False
theorem Lj.get{X:Cx}{scope:Scope}{cl:O (AJ×A1)}:∀{xs:AZ} {is:O Nat},Lj X scope cl xs is->xs.length=is.length/\∀(j:Nat) (x:AJ),xs[j]?=Z x->∃i,is[j]?=Z i/\NO X scope cl x i
 |[],[],_=>⟨rfl,λj x e=>by simp at e⟩
 |x::xs,i::is,h=>by
  obtain⟨h1,h2⟩:=h;obtain⟨l,g⟩:=Lj.get h2;refine⟨by simp[l],λj y e=>?_⟩;cases j with
  |zero=>simp at e;subst e;exact⟨i,rfl,h1⟩
  |succ j=>obtain⟨k,e1,e2⟩:=g j y (by simpa using e);exact⟨k,by simpa using e1,e2⟩
 |[],_::_,h=>h.elim
 |_::_,[],h=>h.elim
def He(a:O (AJ×NameKind))(x:AJ):Bool:=match a.lookup x with
 |some .cell=>true
 |_=>false
def zM(X:Cx)(a:AZ)(scope:Scope)(cl:O (AJ×A1))(C:A1)(s₀:A2)(H₀:Hp)(fp:O A1):Cx:=
 { X with N:=a,s₀:=s₀,H₀:=H₀,env:=compEnvC scope (cellsFrom (C+1) scope.names cl) C X.env,outer:=X.stack,ex:=fp,fn:=He scope.names,pn:=[],xe:=λ_ _=>False }
structure Ix (h:Heap) (cs:List (Str×Addr)):Prop where
 inj:∀x y c,cs.lookup x=some c->cs.lookup y=some c->x=y
 cell:∀x c,cs.lookup x=some c->∃v,h.IsCell c v
theorem mV{n:AJ}{a:α}{l:O (AJ×α)}(h:x≠n):((n,a)::l).lookup x=l.lookup x:=by
 rw[List.lookup_cons,beq_eq_false_iff_ne.mpr h]
theorem L3:∀(g:O (AJ×NameKind)) (h:A6) (d:O (AJ×A1)),Ix h d->Ix (pushCells h g) (cellsFrom h.objs.size g d)
 |[],_,_,x=>x
 |(n,k)::r,h,d,x=>by
  unfold pushCells cellsFrom;split
  ·have i:∀y c,d.lookup y=Z c->c≠h.objs.size:=λy c e=>let ⟨_,q⟩:=x.cell y c e;z4 q.lt;have:=L3 r (h.push { cls:=.type "cell",data:=.cell U }) ((n,h.objs.size)::d) ⟨λy z c e1 e2=>?_,λy c e=>?_⟩
   ·rwa [qv]at this
   ·by_cases a:y=n<;>by_cases f:z=n
    ·rw[a,f]
    ·subst a;rw[kX]at e1;rw[mV f]at e2;cases e1;exact absurd S (i _ _ e2)
    ·subst f;rw[kX]at e2;rw[mV a]at e1;cases e2;exact absurd S (i _ _ e1)
    ·rw[mV a]at e1;rw[mV f]at e2;exact x.inj y z c e1 e2
   ·by_cases a:y=n
    ·subst a;rw[kX]at e;cases e;exact⟨U,_,zv _ rfl,rfl⟩
    ·rw[mV a]at e;obtain⟨v,q⟩:=x.cell y c e;exact⟨v,q.keeps λb o e=>ze _ e⟩
  ·exact L3 r h d x
theorem Bp:∀(b:O (AJ×NameKind)) (n:Nat) (a:O (AJ×A1)) (x:AJ) (c:A1),(cellsFrom n b a).lookup x=Z c->a.lookup x=Z c\/n<=c
 |[],_,_,_,_,e=>.inl e
 |(m,k)::r,n,a,x,c,e=>by
  unfold cellsFrom at e;split at e
  ·rcases Bp r _ _ x c e with h|h
   ·by_cases hx:x=m
    ·subst hx;rw[kX]at h;cases h;exact .inr (zo _)
    ·rw[mV hx]at h;exact .inl h
   ·exact .inr (by omega)
  ·exact Bp r _ _ x c e
theorem Qc:∀(c:O (AJ×NameKind)) (n:Nat) (a:O (AJ×A1)) (x:AJ),(x,NameKind.cell)∉c->(cellsFrom n c a).lookup x=a.lookup x
 |[],_,_,_,_=>rfl
 |(m,k)::r,n,a,x,h=>by
  unfold cellsFrom;have b:(x,NameKind.cell)∉r:=λz=>h (zi _ z);split
  ·rename_i d;rw[Qc r _ _ x b,mV λz=>h (by rw[z,<-beq_iff_eq.mp d];exact zh ..)]
  ·exact Qc r _ _ x b
theorem V3:∀(b:O (AJ×NameKind)) (n:Nat) (a:O (AJ×A1)) (x:AJ),((x,NameKind.cell)∈b\/∃c,a.lookup x=Z c)->∃c,(cellsFrom n b a).lookup x=Z c
 |[],_,_,_,h=>h.elim (λz=>by simp at z) λz=>z
 |(m,k)::r,n,a,x,h=>by
  unfold cellsFrom;split
  ·refine V3 r _ _ x ?_;by_cases hx:x=m
   ·exact .inr ⟨n,by rw[hx,kX]⟩
   ·rw[mV hx];exact h.imp_left λz=>(List.mem_cons.mp z).elim (λz=>absurd (congrArg Prod.fst z) hx) λz=>z
  ·rename_i d;exact V3 r _ _ x (h.imp_left λz=>(List.mem_cons.mp z).elim (λz=>by cases z;exact absurd S d) λz=>z)
theorem ZK{g:A1}{Q:Env->A2->Prop}(h:Q (newEnv scope s.heap.objs.size g (cellsFrom (s.heap.objs.size+1) scope.names cl) qual U .none (Z env) builtinsNs) { s with heap:=pushCells (s.heap.push { cls:=.type "dict",data:=.dict #[] }) scope.names }):
  A7 M A (newFunctionEnv scope g cl [] qual U .none (Z env)) Q E s:=by
 simp only[newFunctionEnv,yB,qV];refine zd (wpAny_alloc ?_);refine zd (wpAny_layCells _ (λname a b=>by cases a==NameKind.cell<;>simp) _ _ _ _ ?_);rw[show({ s with heap:=s.heap.push { cls:=.type "dict",data:=.dict #[] } }:A2).heap.objs.size=s.heap.objs.size+1 from qv ..];rw[List.forIn_nil];exact zd (zg (zg h))
structure uD (X:Cx) (scope:Scope) (cl:List (Str×Addr)) (xs:AZ) (is:List Nat):Prop where
 clos:closureFor scope X.env=pure cl
 kind:scope.kind=.function
 cell:∀y∈scope.names,y.2=.cell->cl.lookup y.1=none
 names:∀y∈scope.names,y.2=.local->scope.names.lookup y.1=some .local
 sub:C8 X.env.cells cl
 has:∀x,((relabel scope X.env).names.lookup x=some .cell\/(relabel scope X.env).names.lookup x=some .free)->(x,NameKind.cell)∈scope.names\/∃c,cl.lookup x=some c
 cap:Lj X scope cl xs is
def z9(is:O Nat)(σ:L2.St):L2.St:=is.map λi=>(σ[i]?).bind λv=>v
def lW(is:O Nat)(ρ:Ev):Ev:=is.map λi=>uV ρ i
def ZL(n m:Nat)(g:Dt->Ev->Y Ev):Prop:=∀d ρ a,g d ρ=Z a->a.length=ρ.length/\∀j,j<n\/m<=j->a[j]?=ρ[j]?
def GS(n m:Nat)(g:O Dt->Ev->Y Ev):Prop:=∀d ρ a,g d ρ=Z a->a.length=ρ.length/\∀j,j<n\/m<=j->a[j]?=ρ[j]?
theorem bx{m:Nat}(h:n<=i:=by decide)(h':i<m:=by decide):ZL n m (λd ρ=>Z (ρ.set i (Z (.z d)))):=λd ρ b e=>by
 cases e;exact⟨by rw[kP],λj a=>Jf _ (by omega)⟩
theorem vM{m:Nat}:GS n m jO:=λd ρ a e=>by
 cases d with
 |nil=>cases e;exact⟨rfl,λ_ _=>S⟩
 |cons=>cases e
theorem cQ{m:Nat}{g:Dt->Ev->Y Ev}{gs:O Dt->Ev->Y Ev}(h:ZL n m g)(hs:GS n m gs):GS n m (aV g gs):=λd ρ o e=>by
 cases d with
 |nil=>cases e
 |cons d ds=>
  simp only[aV]at e;obtain⟨l,e1,e⟩:=AT e;obtain⟨a,b⟩:=h _ _ _ e1;obtain⟨i,f⟩:=hs _ _ _ e;exact⟨i.trans a,λj c=>(f j c).trans (b j c)⟩
theorem Aa{m k:Nat}{gs:O Dt->Ev->Y Ev}(hs:GS n m gs):ZL n m (jx k gs):=λd ρ a e=>by
 cases d with
 |tup ds=>
  simp only[jx]at e;split at e
  ·exact hs _ _ _ e
  ·cases e
 |_=>cases e
def DK(gt:Dt->Ev->Y Ev)(p:Ev->Y Bool)(fs:Ev->Y (O Dt))(ρ:Ev):O Dt->Y (O Dt)
 |[]=>Z []
 |d::ds=>(gt d ρ).bind λa=>(p a).bind λk=>if k=true then(fs a).bind λys=>(DK gt p fs ρ ds).bind λzs=>Z (ys++zs)else DK gt p fs ρ ds
def IJ:Bx->Y (O Dt)
 |.z y=>Z [y]
 |_=>U
def Fy(gt:Dt->Ev->Y Ev)(p:Ev->Y Bool)(fe:Ev->Y Bx)(ρ:Ev):O Dt->Y (O Dt):=DK gt p (λρ=>(fe ρ).bind IJ) ρ
theorem DN{b:Bx}{ys:O Dt}(h:IJ b=Z ys):∃y,b=.z y/\ys=[y]:=by
 cases b<;>cases h;exact⟨_,rfl,rfl⟩
theorem yU{gt:Dt->Ev->Y Ev}{p:Ev->Y Bool}{fe:Ev->Y Bx}{ρ:Ev}:∀{ds out:O Dt},Fy gt p fe ρ ds=Z out->out.length<=ds.length
 |[],_,e=>by cases e;exact zo _
 |d::ds,out,e=>by
  simp only[Fy,DK]at e;obtain⟨f,_,e⟩:=AT e;obtain⟨k,_,e⟩:=AT e;cases k with
  |false=>
   rw[zD ZH]at e;exact ZO (yU (gt:=gt) (p:=p) (fe:=fe) e) (by simp)
  |true=>
   rw[zr rfl]at e;obtain⟨ys,a,e⟩:=AT e;obtain⟨zs,c,e⟩:=AT e;obtain⟨b,_,a⟩:=AT a;obtain⟨y,_,rfl⟩:=DN a;cases e;simpa using yU (gt:=gt) (p:=p) (fe:=fe) c
def C3(X:Cx)(ifs:O Expr)(p:Ev->Y Bool):Prop:=(ifs=[]/\p=λ_=>Z true)\/∃c,ifs=[c]/\PB X c p
structure xq (X:Cx) (ifs:List Expr) (p:Ev->Option Bool):Prop where
 run:C3 X ifs p
section
variable{xs:AZ}{gt:Dt->Ev->Y Ev}{p:Ev->Y Bool}{fe:Ev->Y Bx}{fi:Ev->Y (O Dt)}
theorem WP{m:Hp}{d:A2}(a:L2.AU X AN σ m d)(O:uD X scope cl xs is)(w:∀b∈fp,uz X AN m b)(B:∀b∈fp,b<d.heap.objs.size):
  L2.AU (zM X (xs++ts) scope cl d.heap.objs.size d m fp) [] (z9 is σ++List.replicate ts.length U) m { d with heap:=pushCells (d.heap.push { cls:=.type "dict",data:=.dict #[] }) scope.names }:=by
 obtain⟨W,G⟩:=O.cap.get;have f:=O.sub;have L:(d.heap.push { cls:=.type "dict",data:=.dict #[] }).objs.size=d.heap.objs.size+1:=qv ..;have s:∀b o,d.heap.get? b=Z o->(pushCells (d.heap.push { cls:=.type "dict",data:=.dict #[] }) scope.names).get? b=Z o:=λb o e=>pushCells_keeps _ _ b o (ze _ e);have D:Ix (pushCells (d.heap.push { cls:=.type "dict",data:=.dict #[] }) scope.names) (cellsFrom (d.heap.objs.size+1) scope.names cl):=by
  rw[<-L];refine L3 _ _ _ ⟨λx y c e1 e2=>a.ok.inj x y c (f.get e1) (f.get e2),λx c e=>?_⟩;obtain⟨v,q⟩:=a.cell x c (f.get e);exact⟨v,q.keeps λb o e=>ze _ e⟩
 have C:∀x c,(cellsFrom (d.heap.objs.size+1) scope.names cl).lookup x=Z c->X.env.cells.lookup x=Z c\/d.heap.objs.size<c:=λx c e=>(Bp _ _ _ x c e).imp_left f.get;refine⟨⟨a.ok.mod,O.kind,a.ok.glob,a.ok.blt,zo _,D.inj,λx hx=>V3 _ _ _ x (O.has x hx),λx c hx e=>?_,a.ok.hd,a.ok.frames,.inl rfl,λb hb=>⟨z4 (B b hb),λx c e=>?_⟩,a.bs,ZO a.ok.bsz a.sz,λb o e hb=>?_,λb hb I=>?_,a.stack,a.Xy⟩,
  rfl,a.bare,Un.kept s,⟨_,(Heap.Ns.new d.heap (.type "dict")).keeps (pushCells_keeps _ _),λj x v e1 e2 _=>?_⟩,D.cell,a.hok.fresh (zo _),λx c e=>(C x c e).elim (a.tB x c) λh=>a.hok.fresh (JJ h),λq J=>absurd (show q∈([]:List (A1×AE)) from J) (by simp),a.hok.kept s,?_⟩
 ·refine(Bp _ _ _ x c e).elim (λh=>?_) λh=>JJ h;have hx:(x,NameKind.cell)∈scope.names:=by
   have hx:He scope.names x=true:=hx;unfold He at hx;split at hx
   ·rename_i q;exact mem_of_lookup q
   ·cases hx
  rw[O.cell _ hx rfl]at h;cases h
 ·rcases C x c e with h|h
  ·exact(w b hb).2.2.2.2.1 x c h
  ·exact Kb (Nat.lt_trans (B b hb) h)
 ·obtain⟨_,_,_,z,_⟩:=w b hb;rcases z with z|z
  ·exact a.ok.aaT b o e z
  ·exact absurd (ZY (zw e) (ZO a.ok.bsz z)) (kg _)
 ·obtain⟨_,n1,E,_⟩:=w b hb;rcases List.mem_cons.mp (a.Pk b I)with z|z
  ·exact n1 z
  ·exact E z
 ·have A:j<is.length:=by
   by_cases A:j<is.length
   ·exact A
   ·rw[qS (by simp[z9];omega)]at e2;rw[Q2]at e2;split at e2<;>cases e2
  have H:xs[j]?=Z x:=by
   have e1:(xs++ts)[j]?=Z x:=e1;rw[ZU (by omega)]at e1;exact e1
  obtain⟨i,K,g⟩:=G j x H;have e3:σ[i]?=Z (Z v):=by
   rw[ZU (by simp[z9];omega)]at e2;unfold z9 at e2;rw[ZE,K]at e2;cases q:σ[i]? with
   |none=>rw[Option.map_some,q]at e2;cases e2
   |some o=>
    rw[Option.map_some,q]at e2;have:o=Z v:=by simpa using e2
    rw[this]
  have Q:Xx X.env.scope x:=by
   rcases g.k with k|k
   ·exact .inr (.inl k)
   ·exact .inr (.inr k)
  obtain⟨m',a0,N⟩:=a.loc;obtain⟨u,r,l⟩:=N i x v g.n e3 Q;refine⟨u,r,?_⟩;rcases l with⟨k,_⟩|⟨k,c,F,M⟩
  ·rcases g.k with t|t<;>(rw[k]at t;cases t)
  ·obtain⟨c',p⟩:=g.c;have:=f.get p;rw[F]at this;cases this;refine .inr ⟨g.k',c,(Qc _ _ _ x λz=>by rw[O.cell _ z rfl]at p;cases p).trans p,?_⟩;obtain⟨o,P,hd⟩:=M;exact⟨o,s c o P,hd⟩
 ·show(z9 is σ++List.replicate ts.length U).length=(xs++ts).length;simp[z9,W]
theorem bR.caps{ρ:Ev}(E:bR K H0 H σ ρ)(is:O Nat)(n:Nat):bR K H H (z9 is σ++List.replicate n U) (lW is ρ++List.replicate n U):=by
 have f:∀(j:Nat) c,(lW is ρ++List.replicate n U)[j]?=Z (Z c)->uT c=false:=λj c e=>by
  by_cases g:j<is.length
  ·rw[ZU (by simp[lW];omega)]at e;unfold lW at e;rw[ZE]at e;cases q:is[j]? with
   |none=>rw[q]at e;cases e
   |some i=>
    rw[q]at e;have:uV ρ i=Z c:=by simpa using e
    exact Bl this
  ·rw[qS (by simp[lW];omega),Q2]at e;split at e<;>cases e
 refine⟨by simp[z9,lW],λj b e=>?_,λj k c a b e d=>absurd d (by rw[f j c e];exact ZH),AV.refl H,λj c a e d=>absurd d (by rw[f j c e];exact ZH)⟩;by_cases g:j<is.length
 ·rw[ZU (by simp[lW];omega)]at e;rw[ZU (by simp[z9];omega)];unfold lW at e;unfold z9;rw[ZE]at e ⊢;cases q:is[j]? with
  |none=>rw[q]at e;cases e
  |some i=>
   rw[q]at e;have:uV ρ i=Z b:=by simpa using e
   obtain⟨v,e1,r⟩:=IW E this;exact⟨v,by simp[e1],r⟩
 ·rw[qS (by simp[lW];omega),Q2]at e;split at e<;>cases e
theorem bR.forget{ρ ρ':Ev}(E:bR K H0 H σ ρ')(l:ρ'.length=ρ.length)(h:∀(j:Nat) b,ρ[j]?=Z (Z b)->ρ'[j]?=Z (Z b)):bR K H0 H σ ρ:=
 ⟨E.len.trans l,λj b e=>E.val j b (h j b e),λi j c a b e1 d e2 e3 f g=>E.own i j c a b (h _ _ e1) d e2 (h _ _ e3) f g,E.base,λi c a e1 d e2=>E.new i c a (h _ _ e1) d e2⟩
structure DH (Hb:Hp) (σ:L2.St) (ρ:Ev) (n:Nat):Prop where
 own:∀(j:Nat) c,ρ[j]?=some (some c)->uT c=false
 lt:∀(j:Nat) b,ρ[j]?=some (some b)->j<n
 old:∀(j:Nat) c a,ρ[j]?=some (some c)->loose c=true->σ[j]?=some (some (.ref a))->Hb a≠none
def Fx(σ σ':L2.St)(ρ:Ev):Prop:=∀(j:Nat) c,loose c=true->ρ[j]?=Z (Z c)->σ'[j]?=σ[j]?
theorem DH.fx{d:Hp}{σ':L2.St}{ρ:Ev}(P:DH d σ ρ n)(f:Fx σ σ' ρ):DH d σ' ρ n:=⟨P.own,P.lt,λj c a e b ea=>P.old j c a e b (by rw[<-f j c b e];exact ea)⟩
theorem FX{ρ:Ev}(E:bR K H0 H σ ρ)(j:Nat)(c:Bx)(a:A1)(e:ρ[j]?=Z (Z c))(h:loose c=true)(ea:σ[j]?=Z (Z (.ref a))):H a≠U:=λz=>by
 obtain⟨v,e1,b⟩:=E.val j _ e;rw[ea]at e1;cases e1;cases c with
 |z d=>cases h
 |l f=>
  obtain⟨g,vs,e2,q,_⟩:=b;cases e2;rcases q with q|⟨o,q⟩<;>(rw[z]at q;cases q)
 |n f=>
  obtain⟨g,vs,e2,q,_⟩:=b;cases e2;rcases q with q|⟨o,q⟩<;>(rw[z]at q;cases q)
 |o f=>
  obtain⟨g,vs,e2,q,_⟩:=b;cases e2;rw[z]at q;cases q
 |m f _=>
  obtain⟨g,vs,e2,q,_⟩:=b;cases e2;rw[z]at q;cases q
theorem bR.grown{g:Hp}{ρ:Ev}(E:bR K g H σ ρ)(P:DH g σ ρ n)(p:g D=U)(kp:Kp H (B4 H D o)):bR K g (B4 H D o) σ ρ:=by
 refine⟨E.len,λj b e=>?_,λj k c a b e i=>absurd i (by rw[P.own j c e];exact ZH),λc o e=>?_,λj c a e i=>absurd i (by rw[P.own j c e];exact ZH)⟩
 ·obtain⟨v,ev,rb⟩:=E.val j b e;refine⟨v,ev,?_⟩;cases b with
  |z d=>exact AW.kp kp rb
  |o h=>have:=P.own j _ e;cases this
  |m h _=>have:=P.own j _ e;cases this
  |n h=>
   obtain⟨a,vs,rfl,q,rr⟩:=rb;refine⟨a,vs,rfl,?_,rr.kp kp⟩;have f:a≠D:=λz=>P.old j _ _ e S ev (by rw[z];exact p);exact q.imp (λq=>by rw[aU f];exact q) λ⟨o,q⟩=>⟨o,by rw[aU f];exact q⟩
  |l h=>
   obtain⟨a,vs,rfl,q,rr⟩:=rb;refine⟨a,vs,rfl,?_,rr.kp kp⟩;have f:a≠D:=λz=>P.old j _ _ e S ev (by rw[z];exact p);exact q.imp (λq=>by rw[aU f];exact q) λ⟨o,q⟩=>⟨o,by rw[aU f];exact q⟩
 ·rw[aU (dU e p)];exact E.base c o e
def V4(X:Cx)(el:A1->Env->Sem Unit)(fs:Ev->Y (O Dt))(Ac:A1->Hp->O Dt->HO->Prop)(N n:Nat):Prop:=∀(AN:O (A1×AE)) (s:A2) (σ:L2.St) (H a:Hp) (ρ:Ev) (D:A1) (o:HO) (o1 ys:O Dt),L2.AU X AN σ H s->bR X.K a H σ ρ->DH a σ ρ n->a D=U->fs ρ=Z ys->H D=Z o->Ac D H o1 o->o1.length+ys.length<=N →
 A7 (A8 X.prog X.w) X.A (el D X.env) (λ_ s'=>∃ σ' H' o',L2.AU X AN σ' H' s'/\bR X.K a H' σ' ρ/\Fx σ σ' ρ/\H' D=Z o'/\Ac D H' (o1++ys) o') X.xe s
theorem OK{fs:Ev->Y (O Dt)}{Ac:A1->Hp->O Dt->HO->Prop}{N:Nat}(h:∀(AN:O (A1×AE)) (s:A2) (σ:L2.St) (H b:Hp) (ρ:Ev) (D:A1) (o:HO) (o1 ys:O Dt),L2.AU X AN σ H s->bR X.K b H σ ρ->fs ρ=Z ys->H D=Z o->Ac D H o1 o->o1.length+ys.length<=N →
  A7 (A8 X.prog X.w) X.A (el D X.env) (λ_ s'=>∃a o',L2.AU X AN σ (B4 a D o') s'/\AV H a/\Kp a (B4 a D o')/\Ac D (B4 a D o') (o1++ys) o') X.xe s):V4 X el fs Ac N n:=λAN s σ H b ρ D o o1 ys I E P c e1 e2 a1 l=>by
 refine QA (h AN s σ H b ρ D o o1 ys I E e1 e2 a1 l) (λ_ s' ⟨a,o',I',s9,kp,a'⟩=>?_) λ_ _ z=>z;exact⟨σ,_,o',I',(E.grow s9).grown P c kp,λ_ _ _ _=>S,bK,a'⟩
structure X6 (B:Around->Bool->Prop) (P:Program) (w:World) (K:B1) (tg:Expr) (J:It) (fp:List Addr) (it:Addr) (tn:Nat->Heap->Prop):Prop where
 obj:∀i h,tn i h->∀b∈fp,∃o,h.get? b=some o/\∀v,o.data≠.cell v
 keep:∀i h h',tn i h->(∀b∈fp,∀o,h.get? b=some o->h'.get? b=some o)->tn i h'
 item:∀(X:Cx),X.prog=P->X.w=w->X.K=K->B X.A X.calm->∀(i:Nat) (AN:List (Addr×Obj)) (s:Shared) (σ:L2.St) (H:Hp) (E:B7),L2.AU X AN σ H s->(∀b∈fp,uz X AN H b)->tn i s.heap->J.go i H →
  wpAny (model P w) X.A (pyNext (.ref it)) (λr s1=>∃u,r=some u ∧
   wpAny (model P w) X.A (letOwnedTupleGo tg (.ref it) u) (λ_ s2=>∃x H',L2.AU X AN σ H' s2/\Au x u/\J.yld i H x H'/\tn (i+1) s2.heap/\∀b∈fp,H' b=none) E s1) E s
 done:∀(X:Cx),X.prog=P->X.w=w->X.K=K->B X.A X.calm->∀(i:Nat) (AN:List (Addr×Obj)) (s:Shared) (σ:L2.St) (H:Hp) (E:B7),L2.AU X AN σ H s->(∀b∈fp,uz X AN H b)->tn i s.heap->J.stop i H →
  wpAny (model P w) X.A (pyNext (.ref it)) (λr s1=>r=none/\L2.AU X AN σ H s1) E s
 self:∀(A:Around) (i:Nat) (s:Shared) (Q:B7) (E:B7),tn i s.heap->Q (.ref it) s->wpAny (model P w) A (pyIter (.ref it)) Q E s
abbrev Bq:A5->Bool->Prop:=λ_ c=>c=true
theorem Fz(T:C2 P w K tg J fp it tn):X6 Bq P w K tg J fp it tn:=⟨T.obj,T.keep,T.item,T.done,T.self⟩
theorem Ny{B:A5->Bool->Prop}{comp:Expr}{d:Nat}{e3:Pos}{Ac:A1->Hp->O Dt->HO->Prop}{fs:Ev->Option (O Dt)}{N m:Nat}{l:Hp}{ds o0 out:O Dt}{ρ:Ev}{R:Result->A2->Prop}(c8:B X.A X.calm)(hx:X.xe=λ_ _=>False)(Nz:F8 X tgt gt)(f5:C3 X ifs p)(f2:V4 X el fs Ac N m)(e2:ZL n m gt)(f0:n<=m)(I:L2.AU X AN σ H s)(E:bR X.K l H σ ρ)(P:DH l σ ρ n)(hD:l D=U)(f3:H D=Z o)(hA:Ac D H o0 o)(T:X6 B X.prog X.w X.K tgt J fp it tn)(st:tn 0 s.heap)(hf:∀b∈fp,uz X AN H b)(Y:B0 X.K J ds l)(d3:DK gt p fs ρ ds=Z out)(hN:o0.length+out.length<=N)(b3:∀{D:A1} {H H':Hp} {o1:O Dt} {o:HO},Kp H H'->Ac D H o1 o->Ac D H' o1 o)(g1:∀(it:A0) (D:A1) (env:Env),compTurn comp d it (.ref D) env=(standAt e3 >>= λ_=>pyNext it >>= λr=>match r with
   |none=>pure (.done .next)
   |some v=>letOwnedTupleGo tgt it v >>= λ_=>assign tgt env v >>= λ_=>(forIn ifs true λc r=>if r=true then isTrue c env (eval c env) >>= λok=>pure (ForInStep.yield ok)else pure (ForInStep.yield r)) >>= λok=>if ok=true then el D env >>= λ_=>again (.compLoop comp d it (.ref D) env)else again (.compLoop comp d it (.ref D) env)))(g3:∀{it b0:A0} {env:Env} {Q:Fin->A2->Prop} {E:B7} {s:A2},A7 (A8 X.prog X.w) X.A ((compTurn comp d it b0 env).onRaise (λx=>noteFrame x env >>= λ_=>theTreesLotGoes x)) Q E s->A7 (A8 X.prog X.w) (X.A.under (.compLoop comp d it b0 env)) ((A8 X.prog X.w).den (.compLoop comp d it b0 env)) Q E s)(hR:∀s' σ' H' o',L2.AU X AN σ' H' s'->bR X.K l H' σ' ρ->Fx σ σ' ρ->H' D=Z o'->Ac D H' (o0++out) o'->R (.ok .next) s'):
  AF (A8 X.prog X.w) X.A (.compLoop comp d (.ref it) (.ref D) X.env) R s:=by
 have a8:∀{H':Hp},(∀b∈fp,H' b=U)->∀b∈fp,uz X AN H' b:=λ{H'} hn b hb=>⟨hn b hb,(hf b hb).2⟩;refine codeAny_loop S (λk s'=>∃(i:Nat) (σ':L2.St) (H':Hp) (o1 o2:O Dt) (o:HO),k=ds.length-i/\i<=ds.length/\L2.AU X AN σ' H' s'/\tn i s'.heap/\(∀b∈fp,H' b=U)/\bR X.K l H' σ' ρ/\Fx σ σ' ρ/\H' D=Z o/\Ac D H' o1 o/\DK gt p fs ρ (ds.drop i)=Z o2/\o1++o2=o0++out) ?_ ds.length
  ⟨0,σ,H,o0,out,o,by simp,QU _,I,st,λb hb=>(hf b hb).1,E,λ_ _ _ _=>S,f3,hA,by simpa using d3,rfl⟩
 rintro k s4 ⟨i,a2,H4,o1,o2,o,rfl,hi,I4,c6,d0,W,F4,a3,r4,g,ho⟩;have P4:=P.fx F4;refine g3 (wpAny_noted ?_);rw[g1];obtain⟨y1,y2⟩:=Y i H4 W.base;by_cases a4:i<ds.length
 ·have hd:ds[i]?=Z ds[i]:=by simp[a4]
  obtain⟨go,yl⟩:=y1 _ hd;rw[List.drop_eq_getElem_cons a4]at g;simp only[DK]at g;obtain⟨t,e1,g⟩:=AT g;obtain⟨k,ek,g⟩:=AT g;obtain⟨f4,b4⟩:=e2 _ _ _ e1;have back:∀{a1:L2.St} {H5:Hp},bR X.K l H5 a1 t->bR X.K l H5 a1 ρ:=λE5=>E5.forget f4 λj b e=>by rw[b4 j (.inl (P.lt j b e))];exact e
  refine zd (Kk (zd ?_));refine jc (T.item X S S S c8 i AN s4 a2 H4 _ I4 (a8 d0) c6 go) λr s5 ⟨u,hr,h5⟩=>?_;subst hr;refine zd (jc h5 λ_ s6 ⟨x,H6,I6,r6,y6,st6,fr6⟩=>?_);obtain⟨sm,rx⟩:=yl x H6 y6;have W:=W.grow sm;have a3:=sm _ _ a3;have r4:=b3 (.of sm) r4;have h1:=I6.pinned (a8 fr6) (T.obj _ _ st6);have ha:=Nz _ s6 a2 H6 x u (λσ' H'=>H'=H6/\bR X.K l H6 σ' t/\Lo a2 ρ σ' t) h1 r6 ⟨l,ρ,ds[i],t,W,rx,e1,λσ' E' L'=>⟨rfl,E',L'⟩⟩;rw[hx]at ha;refine zd (QA ha (λ_ s7 h7=>?_) λ_ _ z=>z.elim);obtain⟨F,H7,I7,rfl,E7,L7⟩:=h7;have P7:DH l F t m:=by
   refine⟨λj c e=>?_,λj c e=>?_,λj c a e y ea=>?_⟩
   ·cases c with
    |o ds=>exact P.own j _ (L7 j _ S e).1
    |m ds _=>exact P.own j _ (L7 j _ S e).1
    |_=>rfl
   ·refine Nat.lt_of_not_le λh=>?_;rw[b4 j (.inr h)]at e;exact absurd (ZY (P.lt j c e) f0) (Nat.not_lt.mpr h)
   ·obtain⟨e',ee⟩:=L7 j c y e;exact P4.old j c a e' y (by rw[<-ee];exact ea)
  have c3:∀{a1:L2.St},Fx F a1 t->Fx σ a1 ρ:=λf j c y e=>by
   have e':t[j]?=Z (Z c):=by rw[b4 j (.inl (P.lt j c e))];exact e
   exact(f j c y e').trans ((L7 j c y e').2.trans (F4 j c y e))
  have ht:A7 (A8 X.prog X.w) X.A (forIn ifs true λc r=>if r=true then do let ok <-isTrue c X.env (eval c X.env);pure (ForInStep.yield ok)else pure (ForInStep.yield r))
    (λok G=>ok=k/\∃q,L2.AU X (AN++Dr fp s6.heap) F q G/\AV H7 q) (notedBy (A8 X.prog X.w) X.A X.env λe s'=>R (.error e) s') s7:=by
   rcases f5 with⟨rfl,rfl⟩|⟨c,rfl,hc⟩
   ·cases ek;exact wpAny_tests_nil ⟨rfl,H7,I7,AV.refl H7⟩
   ·refine wpAny_tests_one ?_;have:=hc _ s7 F H7 (λb q=>b=k/\AV H7 q) I7 ⟨l,t,k,E7,ek,λq G=>⟨rfl,G⟩⟩;rw[hx]at this;exact QA this (λb G ⟨q,I8,eb,s8'⟩=>⟨eb,q,I8,s8'⟩) λ_ _ z=>z.elim
  refine zd (QA ht (λok G h8=>?_) λ_ _ z=>z);obtain⟨rfl,q,I8,C⟩:=h8;have c0:∀{a0:L2.St} {L:Hp} {s9:A2},L2.AU X (AN++Dr fp s6.heap) a0 L s9->L2.AU X AN a0 L s9/\tn (i+1) s9.heap/\∀b∈fp,L b=U:=λ{a0 L s9} M=>by
   refine⟨M.w6,T.keep _ _ _ st6 λb hb o e=>(M.pin (b,o) (ZA _ (ZA _ (vJ hb e)))).1,λb hb=>?_⟩;obtain⟨o,e,d⟩:=T.obj _ _ st6 b hb;exact(M.pin (b,o) (ZA _ (ZA _ (vJ hb e)))).2.1
  cases ok with
  |false=>
   rw[zD ZH]at g;obtain⟨M,f1,g6⟩:=c0 I8;exact zg ⟨rfl,ds.length-(i+1),by omega,i+1,F,q,o1,o2,o,rfl,a4,M,f1,g6,back (E7.grow C),c3 (λ_ _ _ _=>S),C _ _ a3,b3 (.of C) r4,g,ho⟩
  |true=>
   rw[zr rfl]at g;obtain⟨ys,eb,g⟩:=AT g;obtain⟨zs,e5,g⟩:=AT g;cases g;have y:=congrArg List.length ho;simp only[zS]at y;have he:=f2 _ G F q l t D o o1 ys I8 (E7.grow C) P7 hD eb (C _ _ a3) (b3 (.of C) r4) (by omega);rw[hx]at he;refine zd (QA he (λ_ h3 h0=>?_) λ_ _ z=>z.elim);obtain⟨a0,L,o',d2,E9,F9,e0,a5⟩:=h0;obtain⟨g2,d1,h2⟩:=c0 d2;exact zg ⟨rfl,ds.length-(i+1),by omega,i+1,a0,L,o1++ys,zs,o',rfl,a4,g2,d1,h2,back E9,c3 F9,e0,a5,e5,by rw[qo];exact ho⟩
 ·have b9:ds.length<=i:=by omega
  rw[List.drop_eq_nil_of_le b9]at g;cases g;refine zd (Kk (zd ?_));refine jc (T.done X S S S c8 i AN s4 a2 H4 _ I4 (a8 d0) c6 (y2 b9)) λr s5 ⟨hr,I5⟩=>?_;subst hr;rw[qr]at ho;exact zg (hR s5 a2 H4 o I5 W F4 a3 (by rw[<-ho];exact r4))
theorem NK{R:Result->A2->Prop}{d:Nat}{g:Expr}{it a:A0}(f:(clausesOf e)[d]?=Z ⟨g,iter,ifs,0⟩)(hd:∀{Q:Fin->A2->Prop} {E:B7},A7 (A8 prog w) A ((compStart e d it a env).onRaise (λx=>do noteFrame x env;standAt theWindowsPlace)) Q E s->A7 (A8 prog w) (A.under (.compStart e d it a env)) ((A8 prog w).den (.compStart e d it a env)) Q E s)(b:Code.quiet (.compLoop e d it a env)=true:=by rfl)(h0:AF (A8 prog w) A (.compLoop e d it a env) R s)(h:A7 (A8 prog w) A (pyIter it) (λc s'=>AF (A8 prog w) A (.compLoop e d c a env) R s') (notedBy (A8 prog w) A env λx s'=>R (.error x) s') s):
  AF (A8 prog w) A (.compStart e d it a env) R s:=by
 refine codeAny_of_tree (hd ?_);refine wpAny_notedAt ?_;unfold compStart;rw[f];show A7 _ _ (ask >>= _) _ _ s;refine zd (Ya (wpAny_ite ?_));split
 ·exact zg (And.intro b h0)
 ·refine zd (Kx ?_);show A7 _ _ (standAt iter.pos >>= _) _ _ s;exact zd (Kk (zd (QA h (λc s' h'=>zg (And.intro b h')) λ_ _ x=>x)))
def FJ(H:Hp)(D:A1):Hp:=λb=>if b=D then U else H b
theorem xG{b:A1}(h:b≠D):FJ H D b=H b:=zD h
theorem Jg:AV (FJ H D) H:=λb o e=>by
 by_cases h:b=D
 ·rw[FJ,zr h]at e;cases e
 ·rw[xG h]at e;exact e
theorem bR.onto{f b:Hp}{ρ:Ev}(E:bR K f H σ ρ)(P:∀(j:Nat) c,ρ[j]?=Z (Z c)->uT c=false)(s:AV b H):bR K b H σ ρ:=
 ⟨E.len,E.val,E.own,s,λj c a e d=>absurd d (by rw[P j c e];exact ZH)⟩
def EH(fi:Ev->Y (O Dt))(gt:Dt->Ev->Y Ev)(p:Ev->Y Bool)(fs:Ev->Y (O Dt)):Ev->Y (O Dt):=λρ=>(fi ρ).bind λds=>DK gt p fs ρ ds
theorem Ss{comp:Expr}{d:Nat}{Ac:A1->Hp->O Dt->HO->Prop}{fs:Ev->Option (O Dt)}{N m:Nat}(b0:X.calm=true)(hx:X.xe=λ_ _=>False)(hi:On X tgt iter fi)(Nz:F8 X tgt gt)(a1:C3 X ifs p)(b3:V4 X el fs Ac N m)(a8:ZL n m gt)(b4:n<=m)(F:∀{D:A1} {H H':Hp} {o1:O Dt} {o:HO},Kp H H'->Ac D H o1 o->Ac D H' o1 o)(M:∀{D:A1} {H:Hp} {o1:O Dt} {o:HO},Ac D H o1 o->(∀L u,o≠.ux L u)/\∀vs,o≠.tup vs)(hs:∀x,foldedSetIterable iter X.env x=pure x)(a5:∀(it:A0) (D:A1) (env:Env),compTurn comp d it (.ref D) env=(standAt iter.pos >>= λ_=>pyNext it >>= λr=>match r with
   |none=>pure (.done .next)
   |some v=>letOwnedTupleGo tgt it v >>= λ_=>assign tgt env v >>= λ_=>(forIn ifs true λc r=>if r=true then isTrue c env (eval c env) >>= λok=>pure (ForInStep.yield ok)else pure (ForInStep.yield r)) >>= λok=>if ok=true then el D env >>= λ_=>again (.compLoop comp d it (.ref D) env)else again (.compLoop comp d it (.ref D) env)))(a4:∀{it f:A0} {env:Env} {R:Result->A2->Prop} {s:A2},AF (A8 X.prog X.w) X.A (.compLoop comp d it f env) R s->A7 (A8 X.prog X.w) X.A (pyIter it) (λb9 s'=>AF (A8 X.prog X.w) X.A (.compLoop comp d b9 f env) R s') (notedBy (A8 X.prog X.w) X.A env λx s'=>R (.error x) s') s->AF (A8 X.prog X.w) X.A (.compStart comp d it f env) R s)(a2:∀{it f:A0} {env:Env} {Q:Fin->A2->Prop} {E:B7} {s:A2},A7 (A8 X.prog X.w) X.A ((compTurn comp d it f env).onRaise (λx=>noteFrame x env >>= λ_=>theTreesLotGoes x)) Q E s->A7 (A8 X.prog X.w) (X.A.under (.compLoop comp d it f env)) ((A8 X.prog X.w).den (.compLoop comp d it f env)) Q E s):
  V4 X (λD env=>do let x <-eval iter env;standAt iter.pos;let x <-foldedSetIterable iter env x;let _ <-runOwn (.compStart comp d (<-holding [x] (pyIter x)) (.ref D) env) env) (EH fi gt p fs) Ac N n:=by
 intro AN s σ H t ρ D o o1 ys I E P hD e W q l;obtain⟨ds,ed,e⟩:=AT e;refine zd (QA (hi AN s σ H (λJ H'=>AV H H'/\∀Hs,AV Hs H'->(∀a,H a=U->Hs a=H' a)->(∀a o u,H' a=Z (.ux o u)->Hs a=H' a)->(∀a vs,H' a=Z (.tup vs)->Hs a=H' a)->B0 X.K J ds Hs) I ⟨t,ρ,ds,E,ed,λJ H' s' y=>⟨s',y⟩⟩) (λv s1 h1=>?_) λ_ _ z=>z);refine zd (Kk (zd (wpAny_of_eq (hs v) (zd (QR (QA h1 (λc0 s2 h2=>?_) λ_ _ z=>z))))));obtain⟨it,fp,tn,J,H2,rfl,I2,T,st,hf,g,Y⟩:=h2;have i:=g _ _ W;have a0:=F (.of g) q;have Yb:B0 X.K J ds (FJ H2 D):=Y _ Jg (λa b=>xG λz=>by rw[z,W]at b;cases b) (λa L u b=>xG λz=>by rw[z,i]at b;cases b;exact(M q).1 _ _ S) λa vs b=>xG λz=>by rw[z,i]at b;cases b;exact(M q).2 _ rfl
 have C:AV t (FJ H2 D):=λa u ea=>by rw[xG (dU ea hD)];exact g _ _ (E.base _ _ ea)
 have E2:bR X.K (FJ H2 D) H2 σ ρ:=(E.grow g).onto P.own Jg;have P2:DH (FJ H2 D) σ ρ n:=⟨P.own,P.lt,λj c a ec l ea z=>P.old j c a ec l ea (C.free z)⟩;have lp:∀{R:Result->A2->Prop},(∀s' σ' H' o',L2.AU X AN σ' H' s'->bR X.K (FJ H2 D) H' σ' ρ->Fx σ σ' ρ->H' D=Z o'->Ac D H' (o1++ys) o'->R (.ok .next) s')->AF (A8 X.prog X.w) X.A (.compStart comp d (.ref it) (.ref D) X.env) R s2:=λhR=>
  have h:=Ny (B:=Bq) b0 hx Nz a1 b3 a8 b4 I2 E2 P2 (zr S) i a0 (Fz T) st hf Yb e l F a5 a2 hR
  a4 h (T.self _ 0 _ _ _ st h)
 exact zd (wpAny_runOwn (lp λs' σ' H' o' I' G F' a3 a'=>zg ⟨σ',H',o',I',G.onto P.own (C.trans G.base),F',a3,a'⟩))
theorem yV{B:A5->Bool->Prop}{comp:Expr}{mk:Sem A0}{o0:AE}{O0:HO}{Ac:A1->Hp->List Dt->HO->Prop}{fs:Ev->Option (List Dt)}{N m:Nat}{H2:Hp}{a:A2}{ds out:List Dt}{ρ:Ev}(O:uD X scope cl xs is)(e1:B X.A X.calm)(Nz:∀C l n fp,F8 (zM X (xs++ts) scope cl C l n fp) tgt gt)(b0:∀C l n fp,C3 (zM X (xs++ts) scope cl C l n fp) ifs p)(a2:∀C l n fp,V4 (zM X (xs++ts) scope cl C l n fp) el fs Ac N m)(d2:ZL is.length m gt)(e2:is.length<=m)(I2:L2.AU X AN σ H2 a)(P:bR X.K H2 H2 (z9 is σ++List.replicate ts.length U) (lW is ρ++List.replicate ts.length U))(T:X6 B X.prog X.w X.K tgt J fp it tn)(st:tn 0 a.heap)(L:∀b∈fp,uz X AN H2 b)(Y:B0 X.K J ds H2)(b3:DK gt p fs (lW is ρ++List.replicate ts.length U) ds=Z out)(e4:out.length<=N)(a4:∀(D C:A1) (s':A2) (H':Hp) (o:HO),H2 D=U->L2.AU X AN σ H' s'->uz X AN H' C->(∃m,s'.heap.Ns C m)->AV H2 H'->H' D=Z o->Ac D H' out o->RR (.ref D) C (.ok .next) s')(e0:∀{Q:B7},Q (.ref a.heap.objs.size) { a with heap:=a.heap.push o0 }->A7 (A8 X.prog X.w) X.A mk Q E a)(d3:∀H,iZ X.prog X.w H (a.heap.push o0) a.heap.objs.size O0)(d1:∀H,Ac a.heap.objs.size H [] O0)(c6:∀{D:A1} {H H':Hp} {o1:List Dt} {o:HO},Kp H H'->Ac D H o1 o->Ac D H' o1 o)(c8:∀(it:A0) (D:A1) (env:Env),compTurn comp 0 it (.ref D) env=(standAt iter.pos >>= λ_=>pyNext it >>= λr=>match r with
   |none=>pure (.done .next)
   |some v=>letOwnedTupleGo tgt it v >>= λ_=>assign tgt env v >>= λ_=>(forIn ifs true λc r=>if r=true then isTrue c env (eval c env) >>= λok=>pure (ForInStep.yield ok)else pure (ForInStep.yield r)) >>= λok=>if ok=true then el D env >>= λ_=>again (.compLoop comp 0 it (.ref D) env)else again (.compLoop comp 0 it (.ref D) env)))(c3:∀{it d:A0} {env:Env} {R:Result->A2->Prop} {s:A2},AF (A8 X.prog X.w) X.A (.compLoop comp 0 it d env) R s->A7 (A8 X.prog X.w) X.A (pyIter it) (λe5 s'=>AF (A8 X.prog X.w) X.A (.compLoop comp 0 e5 d env) R s') (notedBy (A8 X.prog X.w) X.A env λx s'=>R (.error x) s') s->AF (A8 X.prog X.w) X.A (.compStart comp 0 it d env) R s)(c0:∀{it d:A0} {env:Env} {Q:Fin->A2->Prop} {E:B7} {s:A2},A7 (A8 X.prog X.w) X.A ((compTurn comp 0 it d env).onRaise (λx=>noteFrame x env >>= λ_=>theTreesLotGoes x)) Q E s->A7 (A8 X.prog X.w) (X.A.under (.compLoop comp 0 it d env)) ((A8 X.prog X.w).den (.compLoop comp 0 it d env)) Q E s):
  A7 (A8 X.prog X.w) X.A mk (λd a8=>A7 (A8 X.prog X.w) X.A (newFunctionEnv scope X.env.globals cl [] X.env.qual U .none (Z X.env)) (λa0 e3=>
   AF (A8 X.prog X.w) X.A (.compStart comp 0 (.ref it) d { a0 with scope:=relabel scope X.env }) (RR d a0.locals) e3) E a8) E a:=by
 refine e0 (ZK ?_);have G:H2 a.heap.objs.size=U:=I2.hok.fresh (zo _);have u:L2.AU X AN σ (B4 H2 a.heap.objs.size O0) { a with heap:=a.heap.push o0 }:=
  I2.laid (t':=a.toks) (λb o e=>ze _ e) (zo _) (d3 _)
 have a1:∀b∈fp,b<a.heap.objs.size:=λb hb=>let ⟨o,e,_⟩:=T.obj 0 _ st b hb;zw e;have F:∀b∈fp,uz X AN (B4 H2 a.heap.objs.size O0) b:=λb hb=>⟨by rw[aU (z4 (a1 b hb))];exact(L b hb).1,(L b hb).2⟩;have I:tn 0 (a.heap.push o0):=T.keep 0 _ _ st λb hb o e=>ze _ e;have t:∀b∈fp,b<(a.heap.push o0).objs.size:=λb hb=>by rw[qv];exact QE (a1 b hb)
 generalize d0:({ a with heap:=a.heap.push o0 }:A2)=s3 at *
 have b9:s3.heap=a.heap.push o0:=by rw[<-d0]
 rw[<-b9]at I t;have IC:=WP (ts:=ts) u O F t;have W:tn 0 (pushCells (s3.heap.push { cls:=.type "dict",data:=.dict #[] }) scope.names):=T.keep 0 _ _ I λb hb o e=>pushCells_keeps _ _ b o (ze _ e);have a3:∀b∈fp,uz (zM X (xs++ts) scope cl s3.heap.objs.size s3 (B4 H2 a.heap.objs.size O0) fp) [] (B4 H2 a.heap.objs.size O0) b:=λb hb=>by
  obtain⟨f0,f1,f2,f3,y,f5⟩:=F b hb;refine⟨f0,z4 (t b hb),λz=>?_,.inl hb,λx c e z=>?_,λq hq=>absurd (show q∈([]:List (A1×AE)) from hq) (by simp)⟩
  ·rcases List.mem_cons.mp (u.Pk b z)with q|q
   ·exact f1 q
   ·exact f2 q
  ·rcases Bp _ _ _ x c e with h|h
   ·exact y x c (O.sub.get h) z
   ·rw[z]at h;exact absurd (ZY (t b hb) (Nat.le_of_succ_le h)) (kg _)
 have P0:DH H2 (z9 is σ++List.replicate ts.length U) (lW is ρ++List.replicate ts.length U) is.length:=by
  have g:∀(j:Nat) c,(lW is ρ++List.replicate ts.length U)[j]?=Z (Z c)->j<is.length/\uT c=false:=λj c e=>by
   by_cases hj:j<is.length
   ·refine⟨hj,?_⟩;rw[ZU (by simp[lW];omega)]at e;unfold lW at e;rw[ZE]at e;cases q:is[j]? with
    |none=>rw[q]at e;cases e
    |some i=>rw[q]at e;exact Bl (by simpa using e)
   ·rw[qS (by simp[lW];omega),Q2]at e;split at e<;>cases e
  exact⟨λj c e=>(g j c e).2,λj c e=>(g j c e).1,FX P⟩
 have h:=Ny (B:=B) (X:=zM X (xs++ts) scope cl s3.heap.objs.size s3 (B4 H2 a.heap.objs.size O0) fp) (R:=RR (.ref a.heap.objs.size) s3.heap.objs.size) (o0:=[]) e1 S (Nz _ _ _ _) (b0 _ _ _ _) (a2 _ _ _ _) d2 e2 IC (P.grow (cH G)) P0 G bK (d1 _) T W a3 Y b3 (by simpa using e4) c6 c8 c0 λs5 g1 M o5 f E5 _ b4 a5=>by
  have IB:L2.AU X AN σ M s5:=u.call' (ch:=fp) f.os f.base f.hok f.bare λb hb=>by
   obtain⟨f0,f1,f2,f3,y,f5⟩:=F b hb;exact⟨f3,f1,y,f5⟩
  obtain⟨m,hn,_⟩:=f.loc;exact a4 _ _ s5 M o5 G IB (u.Vx (zo _) f.free) ⟨m,hn⟩ E5.base b4 a5
 exact c3 h (T.self _ 0 _ _ _ W h)
def CF(K:B1)(_:A1)(H:Hp)(o1:O Dt)(o:HO):Prop:=∃us,o=.lst us/\aQ K H o1 us
theorem CF.kp{K:B1}{D:A1}{H H':Hp}{o1:O Dt}{o:HO}(k:Kp H H'):CF K D H o1 o->CF K D H' o1 o:=λ⟨us,e,r⟩=>⟨us,e,r.kp k⟩
def V5(fe:Ev->Y Bx):Ev->Y (O Dt):=λρ=>(fe ρ).bind IJ
theorem X7(h:PV X elt fe):V4 X (λD env=>do let _ <-call (.builtin "list.append") [.ref D,<-eval elt env]) (V5 fe) (CF X.K) 100000 n:=by
 refine OK λAN s σ H Hb ρ D o o1 ys I En g hD ⟨us,e,r4⟩ hl=>?_;subst e;obtain⟨b,eb,g⟩:=AT g;obtain⟨y,rfl,rfl⟩:=DN g;refine zd (QA (h AN s σ H (λv a=>AV H a/\AW X.K a y v) I ⟨Hb,ρ,_,En,eb,λv a d _ f=>⟨d,f⟩⟩) (λv d u=>?_) λ_ _ z=>z);obtain⟨c,a,q,t,i,f⟩:=u;have j:=i _ _ hD;refine zd (QA ((Nu (X:=X)) _ d σ a (.ref D) [c] (.ref D) [v] (λw l=>l=B4 a D (.lst (us++[c]))) q S (.cons t .nil) ⟨_,us,c,rfl,rfl,j,by rw[r4.length];have h0:(100000:Nat)<AA:=(by decide);simp at hl;omega,rfl⟩) (λw x m=>?_) λ_ _ z=>z);obtain⟨A,l,p,_,rfl⟩:=m;have kp:Kp a (B4 a D (.lst (us++[c]))):=.lst j;exact zg ⟨a,_,p,i,kp,us++[c],rfl,((r4.kp (.of i)).append (aQ.cons f aQ.nil)).kp kp⟩
theorem Br{B:A5->Bool->Prop}{H2:Hp}{l:A2}{ds out:List Dt}{ρ:Ev}(O:uD X scope cl xs is)(u:B X.A X.calm)(L:∀C i j fp,F8 (zM X (xs++ts) scope cl C i j fp) tgt gt)(z:∀C i j fp,C3 (zM X (xs++ts) scope cl C i j fp) ifs p)(v:∀C i j fp,PV (zM X (xs++ts) scope cl C i j fp) elt fe)(G:ZL is.length (is.length+ts.length) gt)(y:L2.AU X AN σ H2 l)(I:bR X.K H2 H2 (z9 is σ++List.replicate ts.length U) (lW is ρ++List.replicate ts.length U))(T:X6 B X.prog X.w X.K tgt J fp it tn)(st:tn 0 l.heap)(x:∀b∈fp,uz X AN H2 b)(Y:B0 X.K J ds H2)(M:ds.length<=100000)(q:Fy gt p fe (lW is ρ++List.replicate ts.length U) ds=Z out)(F:∀(D C:A1) (s':A2) (H':Hp) (us:List V),H2 D=U->L2.AU X AN σ H' s'->uz X AN H' C->(∃m,s'.heap.Ns C m)->AV H2 H'->H' D=Z (.lst us)->aQ X.K H' out us->RR (.ref D) C (.ok .next) s'):
  A7 (A8 X.prog X.w) X.A (newList []) (λs t=>A7 (A8 X.prog X.w) X.A (newFunctionEnv scope X.env.globals cl [] X.env.qual U .none (Z X.env)) (λn H=>
   AF (A8 X.prog X.w) X.A (.compStart (.ListComp elt [⟨tgt,iter,ifs,0⟩] scope pos) 0 (.ref it) s { n with scope:=relabel scope X.env }) (RR s n.locals) H) E t) E l:=
 yV (B:=B) (Ac:=CF X.K) (O0:=.lst []) (N:=100000) O u L z (λC i j fp=>X7 (v C i j fp)) G (Nat.le_add_right ..) y I T st x Y q (ZO (yU q) M) (λD C s' H' o a b c d e f g=>by obtain⟨us,rfl,r⟩:=g;exact F D C s' H' us a b c d e f r)
  qi (λ_=>⟨QU _,[],0,.nil,zv _ rfl⟩) (λ_=>⟨[],rfl,aQ.nil⟩) CF.kp (λ_ _ _=>S) codeAny_compStart_list λh=>h
end
def iC(K:B1)(f:Ev->Y (O Dt)):TI:=λσ H R=>∃H0 ρ ds,bR K H0 H σ ρ/\f ρ=Z ds/\∀J H',AV H H'->B0 K J ds H'->R J H'
def Nc(X:Cx)(tg iter:Expr)(f:Ev->Y (O Dt)):Prop:=PI X tg iter (iC X.K f)
structure EK (X:Cx) (tg iter:Expr) (f:Ev->Option (List Dt)):Prop where
 run:Nc X tg iter f
def HI:Bx->Y (O Dt)
 |.z (.lst ds)=>Z ds
 |.z (.tup ds)=>Z ds
 |.z (.str x)=>Z (By x)
 |.o ds=>Z ds
 |.l ds=>Z ds
 |_=>U
section
variable{f:Ev->Y Bx}{fs:Ev->Y (O Bx)}{xs:AZ}{gt:Dt->Ev->Y Ev}{p:Ev->Y Bool}{fe:Ev->Y Bx}{fi:Ev->Y (O Dt)}
theorem eM(h:Fh X tgt iter fi):EK X tgt iter fi:=⟨have h:=h.run;λAN s σ H R I q=>by
 obtain⟨H0,ρ,ds,E,e,q⟩:=q;exact h AN s σ H R I ⟨H0,ρ,ds,E,e,λJ H' s' y=>q J H' s' (y H' (AV.refl H') (λ_ _=>S) (λ_ _ _ _=>S) λ_ _ _=>S)⟩⟩
theorem dX(h:QV X e f):EK X tgt e (λρ=>(f ρ).bind HI):=⟨have h:=h.run;λAN s σ H R I q=>by
 refine V2 h AN s σ H R I ?_;obtain⟨H0,ρ,ds,E,e,q⟩:=q;obtain⟨b,eb,e⟩:=AT e;refine⟨H0,ρ,b,E,eb,λv H1 j t g=>?_⟩;cases b with
 |z d=>
  cases d with
  |tup p=>
   cases e;simp only[bB,AW]at g;obtain⟨a,vs,rfl,c,i⟩:=g;exact .inr (.inl ⟨a,rfl,⟨vs,c⟩,q _ _ j (.tup c i)⟩)
  |lst p=>
   cases e;obtain⟨a,vs,rfl,c,i⟩:=g.Ld rfl;exact .inl ⟨a,rfl,⟨vs,c⟩,q _ _ j (.list c i)⟩
  |str x=>
   cases e;simp only[bB,AW]at g;obtain⟨rfl,_⟩:=g;exact .inr (.inr ⟨x,rfl,q _ _ j (.str x)⟩)
  |_=>cases e
 |l p=>
  cases e;obtain⟨a,vs,rfl,c,i⟩:=g.Ld rfl;exact .inl ⟨a,rfl,⟨vs,c⟩,q _ _ j (.list c i)⟩
 |o p=>
  cases e;obtain⟨a,vs,rfl,c,i⟩:=g.Ld rfl;exact .inl ⟨a,rfl,⟨vs,c⟩,q _ _ j (.list c i)⟩
 |n _=>cases e
 |m _ _=>cases e⟩
def dO(fi:Ev->Y (O Dt))(gt:Dt->Ev->Y Ev)(p:Ev->Y Bool)(fe:Ev->Y Bx)(is:O Nat)(n:Nat):Ev->Y Bx:=λρ=>(fi ρ).bind λds=>
 if ds.length<=100000 then(Fy gt p fe (lW is ρ++List.replicate n U) ds).bind λa=>Z (.o a)else U
theorem fQ(ts:AZ)(O:uD X scope cl xs is)(N:X.calm=true)(hi:EK X tgt iter fi)(j:∀C c d fp,CO (zM X (xs++ts) scope cl C c d fp) tgt gt)(i:∀C c d fp,xq (zM X (xs++ts) scope cl C c d fp) ifs p)(f:∀C c d fp,QV (zM X (xs++ts) scope cl C c d fp) elt fe)(L:ZL is.length (is.length+ts.length) gt)(hs:∀x,foldedSetIterable iter X.env x=pure x:=by intro _;rfl):QV X (.ListComp elt [⟨tgt,iter,ifs,0⟩] scope pos) (dO fi gt p fe is ts.length):=⟨have hi:=hi.run;have j:=λC c d fp=>(j C c d fp).run;have i:=λC c d fp=>(i C c d fp).run;have f:=λC c d fp=>(f C c d fp).run;λAN s σ H Q I h=>by
 obtain⟨H0,ρ,b,E,e,q⟩:=h;obtain⟨ds,W,e⟩:=AT e;split at e
 ·rename_i a1;obtain⟨a3,u,e⟩:=AT e;cases e;rw[eval_ListComp];refine JP (use:=U) S hs O.clos O.kind O.names ?_;refine jc (hi AN s σ H (λJ H'=>AV H H'/\B0 X.K J ds H') I ⟨H0,ρ,ds,E,W,λJ H' s' y=>⟨s',y⟩⟩) λv s1 h1=>jc h1 λa2 s2 h2=>?_;obtain⟨it,fp,tn,J,H2,rfl,G,T,st,t,g,Y⟩:=h2;refine Br (B:=Bq) (RR:=λa0 C=>compPost (A8 X.prog X.w) X.A X.xe U (EP X AN σ Q) a0 C) (ts:=ts) (xs:=xs) O N j i f L G ((E.grow g).caps is ts.length) (Fz T) st t Y a1 u ?_;intro D C s' H' us hD n l ⟨m,hn⟩ s2' hD' r';refine⟨m,hn,λh' F=>⟨.ref D,H',?_,rfl,q _ _ (g.trans s2') (λa ea=>by cases ea;exact g.free hD) ⟨D,us,rfl,hD',r'⟩⟩⟩;obtain⟨f0,f1,f2,M,z,P⟩:=l;exact n.turned (t':=s'.toks) (λb o hb e=>(F.2 b hb).trans e) f0 f1 M z P
 ·cases e⟩
theorem Hw(i:Nat){py spos:Pos}(ts:AZ)(O:uD X scope cl xs is)(a5:X.calm=true)(hN:X.N.Nodup)(hi:EK X tgt iter fi)(u:∀C c d fp,CO (zM X (xs++ts) scope cl C c d fp) tgt gt)(t:∀C c d fp,xq (zM X (xs++ts) scope cl C c d fp) ifs p)(j:∀C c d fp,QV (zM X (xs++ts) scope cl C c d fp) elt fe)(a2:ZL is.length (is.length+ts.length) gt)(P:swapsWith (.ListComp elt [⟨tgt,iter,ifs,0⟩] scope pos) (Z (.Name y py)) spos.line X.env=pure true:=by with_unfolding_all rfl)(hy:X.N[i]?=Z y:=by rfl)(hx:Cs X.env.scope y:=by first|exact JE rfl|exact QP S)(W:X.fn y=true\/X.env.scope.names.lookup y=Z .local:=by first|exact .inl rfl|exact .inr S)(hs:∀x,foldedSetIterable iter X.env x=pure x:=by intro _;rfl):Nx X (.Assign [.Name y py] (.ListComp elt [⟨tgt,iter,ifs,0⟩] scope pos) spos) (λρ=>(dO fi gt p fe is ts.length ρ).bind λb=>(ZJ ρ i b).bind λρ'=>Z (.nx ρ')):=⟨have hi:=hi.run;have u:=λC c d fp=>(u C c d fp).run;have t:=λC c d fp=>(t C c d fp).run;have j:=λC c d fp=>(j C c d fp).run;λAN s σ H D I h=>by
 obtain⟨H0,ρ,r,E,e,q⟩:=h;obtain⟨b,eb,e⟩:=AT e;obtain⟨ds,ed,eb⟩:=AT eb;split at eb
 ·rename_i b3;obtain⟨a1,eo,eb⟩:=AT eb;cases eb;cases e;rw[exec_Assign_Name_used _ _ _ _ P];refine zd (Kk (zd ?_));show A7 _ X.A (do let _ <-comprehension (.ListComp elt [⟨tgt,iter,ifs,0⟩] scope pos) scope X.env _ (newList []) false (eval iter X.env) (Z (assign (.Name y py) X.env))) _ _ s;refine zd (QA (JP (use:=Z (assign (.Name y py) X.env)) (Q:=λ_ s'=>SP X AN D .next s') S hs O.clos O.kind O.names ?_) (λ_ s' hq=>zg (zg hq)) λ_ _ e=>e);refine jc (hi AN s σ H (λJ H'=>AV H H'/\B0 X.K J ds H') I ⟨H0,ρ,ds,E,ed,λJ H' s' y=>⟨s',y⟩⟩) λv s1 h1=>jc h1 λc0 s2 h2=>?_;obtain⟨it,fp,tn,J,H2,rfl,I2,T,st,a4,n,Y⟩:=h2;refine Br (B:=Bq) (RR:=λb0 C=>compPost (A8 X.prog X.w) X.A X.xe (Z (assign (.Name y py) X.env)) (λ_ s'=>SP X AN D .next s') b0 C) (ts:=ts) (xs:=xs) O a5 u t j a2 I2 ((E.grow n).caps is ts.length) (Fz T) st a4 Y b3 eo ?_;intro f C s' H' us hD F M ⟨m,hn⟩ s2' hD' r';show A7 _ X.A (assign (.Name y py) X.env (.ref f)) _ _ s';obtain⟨f0,f1,f2,f3,f4,f5⟩:=M;obtain⟨g,a8,ep,a0,L,a3⟩:=id hn;have b9:L2.AU X (AN++[(C,g)]) σ H' s':=F.Pn λG hp=>by
   rcases List.mem_append.mp hp with z|z
   ·exact F.pin G (ZA _ z)
   ·have:G=(C,g):=by simpa using z
    subst this;exact⟨a0,f0,f1,f2,λv z=>by rw[L]at z;cases z⟩
  refine jc (L2.Ho hN hy hx W (AN++[(C,g)]) s' σ H' (.ref f) (.ref f) (λσ' l=>σ'=σ.set i (Z (.ref f))/\l=H') b9 S ⟨rfl,rfl⟩) λ_ s'' ⟨σ',l,J',e1,e2⟩=>?_;subst e1 e2;have b4:=(J'.pin (C,g) (by simp)).1;refine⟨m,⟨g,a8,ep,b4,L,a3⟩,λh' sb=>?_⟩;refine⟨σ.set i (Z (.ref f)),l,J'.w6.turned (t':=s''.toks) (λb o hb e=>(sb.2 b hb).trans e) f0 f1 f3 f4 f5,q _ _ ?_⟩;exact E.set (n.trans s2') (b:=.o a1) ⟨f,us,rfl,hD',r'⟩ (.inl S) λa ea=>by cases ea;exact n.free hD
 ·cases eb⟩
def lend:Bx->Bx
 |.o ds=>.l ds
 |.m ds _=>.n ds
 |b=>b
def nv:Bx->Bool
 |.o _=>true
 |.m _ _=>true
 |_=>false
def D4(K:B1)(n:Nat)(F:O Bx->Y Bx):Sp:=λvs H Q _=>vs.length=n/\∃bs r,tH K H bs vs/\bs.all (λb=>!nv b)=true/\F bs=Z r/\∀v H',AV H H'->Nw H r v->bB K H' r v->Q v H'
def dh(n:Nat)(g:Ev->Y Ap):O Bx->Y Bx:=λbs=>(g (bs.map Z++List.replicate (n-bs.length) U)).bind λr=>match r with
 |.rt b=>Z b
 |.nx _=>Z (.z .non)
 |_=>U
theorem bR.start{K:B1}{H:Hp}{N:AZ}{bs:O Bx}{vs:O V}(r:tH K H bs vs)(l:bs.all (λb=>!nv b)=true):bR K H H (L2.start N vs) (bs.map Z++List.replicate (N.length-bs.length) U):=by
 have g:bs.length=vs.length:=Paired.length r;have get:∀(i:Nat) b,(bs.map Z++List.replicate (N.length-bs.length) U)[i]?=Z (Z b)->bs[i]?=Z b:=λi b e=>by
  by_cases hi:i<bs.length
  ·rw[ZU (by simpa using hi),ZE]at e;cases q:bs[i]? with
   |none=>rw[q]at e;cases e
   |some n=>rw[q]at e;simpa using e
  ·rw[qS (by simp;omega),Q2]at e;split at e<;>cases e
 have f:∀(i:Nat) c,(bs.map Z++List.replicate (N.length-bs.length) U)[i]?=Z (Z c)->uT c=true->False:=λi c e d=>by
  have:=List.all_eq_true.mp l _ (QO (get i _ e));cases c with
  |o ds=>cases this
  |m ds _=>cases this
  |_=>cases d
 refine⟨?_,λi b e=>?_,λi j c a b e d=>(f i c e d).elim,AV.refl H,λi c a e d=>(f i c e d).elim⟩
 ·unfold L2.start;simp[g]
 ·have e':=get i b e;have hi:i<bs.length:=(List.getElem?_eq_some_iff.mp e').1;have:∀{bs:O Bx} {vs:O V} {i:Nat} {b:Bx},AI (bB K H) bs vs->bs[i]?=Z b->∃v,vs[i]?=Z v/\bB K H b v:=by
   intro bs vs i b r
   induction r generalizing i with
   |nil=>intro e;simp at e
   |cons p t h=>
    intro e;cases i with
    |zero=>simp at e;subst e;exact⟨_,rfl,p⟩
    |succ i=>obtain⟨v,e1,e2⟩:=h (i:=i) (by simpa using e);exact⟨v,by simpa using e1,e2⟩
  obtain⟨v,e1,e2⟩:=this r e';refine⟨v,?_,e2⟩;unfold L2.start;rw[ZU (by simp;omega),ZE,e1];rfl
end
theorem TD{st:AB}{f:A1}{k:Nat}{g:Ev->Y Ap}(F:CY K x qual st f fd)(S:bF N ps (aP st))(j:∀(a:A0) (A:A5) (outer:O Env) (s:A2) (H:Hp) (E:XK),oF k (A.deeper (AK qual (aP st) s.heap.objs.size f a))->Vw (Gy Dz P w K mg base N qual (aP st) f a A outer s H E).nox (jH st) g):
  qQ P w K mg base Dz (k+1) f fd ps (D4 K ps.length (dh N.length g)):=by
 refine F.ok S (λvs H Q E h=>h.1) λa A outer s H vs Q E m h=>?_;obtain⟨n,bs,r,rb,l,e,q⟩:=h;refine⟨_,j a A outer s H E m,?_⟩;obtain⟨c,er,e⟩:=AT e;refine⟨H,_,c,bR.start rb l,er,?_⟩;cases c with
 |rt b=>cases e;exact λv H' s' d c=>q v H' s' d c
 |nx ρ=>cases e;exact λσ H' i=>q _ H' i.base trivial (by unfold bB AW;rfl)
 |bk ρ=>cases e
 |ct ρ=>cases e
section
variable{k:Nat}{f:A1}{F:O Bx->Y Bx}{p:Pos}{fs:Ev->Y (O Bx)}
theorem Jh{K:B1}{H:Hp}:∀{bs:O Bx} {vs:O V},tH K H bs vs->tH K H (bs.map lend) vs
 |_,_,.nil=>.nil
 |b::bs,_,.cons h t=>by
  refine .cons ?_ (Jh t);cases b with
  |z d=>exact h
  |l ds=>exact h
  |o ds=>obtain⟨a,vs,e,q,r⟩:=h;exact⟨a,vs,e,.inl q,r⟩
  |n ds=>exact h
  |m ds _=>obtain⟨a,vs,e,q,r⟩:=h;exact⟨a,vs,e,.inl q,r.1⟩
theorem Qd:∀bs:O Bx,(bs.map lend).all (λb=>!nv b)=true
 |[]=>rfl
 |b::bs=>by
  rw[zl,kR,Qd bs];cases b<;>rfl
def bN(n:Nat)(F:O Bx->Y Bx)(fs:Ev->Y (O Bx)):Ev->Y Bx:=λρ=>(fs ρ).bind λbs=>if bs.length=n then F (bs.map lend)else U
theorem yW(G:qQ X.prog X.w X.K X.mg X.base Dz k f fd ps (D4 X.K n F))(t:oF k X.A)(d:Gl X x)(o:X.mg x=Z (.ref f))(l:keepIn X.K (.ref f)=true)(hb:BM X.K fd ps [])(a:XS X (e::es) fs)(i:(x==("__debug__":AJ))=false:=by decide)(he:A9 (e::es) X.env=(false,eval e X.env)::A9 es X.env:=by rfl)(s:(AD pos (A9 es X.env)).any (·.1)=false:=by rfl):QV X (.Call (.Name x p) (e::es) [] pos) (bN n F fs):=⟨have a:=a.run;Li (Pu G t d o l hb .nil (HU) a i he s) λσ H Q h=>by
 obtain⟨H0,ρ,r,E,e,q⟩:=h;obtain⟨bs,eb,e⟩:=AT e;refine⟨H0,ρ,bs,E,eb,λvs H1 b c=>?_⟩;split at e
 ·rename_i g;rw[qr];exact⟨by rw[<-Paired.length c];exact g,_,r,Jh c,Qd bs,e,λv H2 u m j=>q v H2 (b.trans u) (m.old b) j⟩
 ·cases e⟩
end
end P1
variable{b:P1.Bx}{d:P1.Dt}{G:A1->O (L2.AY×P1.Dt)->O P1.Bx->Y (O (L2.AY×P1.Dt))}{f:P1.Ev->Y P1.Bx}{q:P1.Ev->Y Bool}{g:P1.Ev->Y P1.Ap}{p:P1.Ev->Y Bool}{AO:O (L2.AY×P1.Dt)}{ds:O P1.Dt}{fa:P1.Ev->Y P1.Bx}{ρ:P1.Ev}{fb fc:P1.Ev->Y P1.Bx}{g1 g2:P1.Ev->Y P1.Ap}{gt:P1.Dt->P1.Ev->Y P1.Ev}{gb:P1.Ev->Y P1.Ap}{fi:P1.Ev->Y (O P1.Dt)}{fe:P1.Ev->Y P1.Bx}{Ac:A1->L2.Hp->O P1.Dt->L2.HO->Prop}{o1:O P1.Dt}{fk fo fv f1:P1.Ev->Y P1.Bx}{gx:P1.Ev->Y P1.Dt}{gC b_1:P1.Bx}
namespace P1
open L2 SeqAt
open AutoSeq1 (wpAny_loadPart')
def Ln(h:A6)(a:A1):Prop:=∃o ep,h.get? a=Z o/\o.ExactDict/\o.data=.dict #[] ep
section
variable{b:A1}
theorem Bt{AO:O (AY×V)}{vs:O (AY×A0)}(q:AO=[])(r:KV AO vs)(d:h.DictOf (bD P w) a vs):Ln h a:=by
 subst q;cases r;obtain⟨o,es,ep,h1,h2,c,_,b,_⟩:=d;have:es=#[]:=by
  have:=b.length;apply Array.eq_empty_of_size_eq_zero;simpa using this
 subst this;exact⟨o,ep,h1,h2,c⟩
theorem Ln.dict(P:A3)(w:A4)(x:Ln h a):h.DictOf (strKind P w) a []:=by
 obtain⟨o,ep,h1,h2,b⟩:=x;exact⟨o,#[],ep,h1,h2,b,λe c=>by simp at c,.nil,Jn⟩
theorem NW(d:(a==sysModules)=false)(hb:(b==sysModules)=false)(f:Ln s.heap a)(c:Ln s.heap b)(e:A.units<cLine):RcAt A s (.ref a) (.ref b) true:=λprog w E Q h=>
 PySem.W.keq_eq (knd:=strKind prog w) d hb (f.dict prog w) (c.dict prog w) e (λ_=>.nil) h
theorem WN(d:(a==sysModules)=false)(hb:(b==sysModules)=false)(f:Ln s.heap a)(c:Ln s.heap b)(e:A.units<cLine):RcNeAt A s (.ref a) (.ref b) false:=λprog w E Q h=>
 PySem.W.keq_ne (r:=true) (knd:=strKind prog w) d hb (f.dict prog w) (c.dict prog w) e (λ_=>.nil) h
theorem Sv(o:AE)(b:AJ)(u:Tok):Meets (Builtin.«dict.__eq__» ⟨[.ref a,.str b u],[]⟩) (λ_ R s=>(s.heap.get? a=Z o/\o.cls=.type "dict")/\R (.ok (.ret .notImplemented)) s):=
 .of_wp λprog w A R s h=>by
  have c:s.TypeIs (.ref a) "dict":=⟨o,h.1.1,h.1.2⟩;show A7 _ _ (Builtin.Dict.dictSlotArgs "__eq__" ⟨[.ref a,.str b u],[]⟩ >>= _) _ _ s;refine zd ?_;unfold Builtin.Dict.dictSlotArgs;refine zd (wpAny_notOrdered_dict c ?_);show A7 _ _ (pure (Value.ref a,Value.str b u)) _ _ s;refine zg ?_;refine zd (kF (T :="str") (typeIs_str s b u) PySem.F.sub_str_dict ?_);simp only[k6,qV];refine zd (Kx ?_);exact zg ⟨_,rfl,h.2⟩
theorem Sw(b:AJ)(u:Tok)(es:Array DictEntry)(ep:Nat)(e:Y A1)(sl:Array (Y A0)):Meets (Builtin.«str.__eq__» ⟨[.str b u,.ref a],[]⟩) (λ_ R s=>s.heap.get? a=Z { cls:=.type "dict",dict:=e,data:=.dict es ep,slots:=sl }/\R (.ok (.ret .notImplemented)) s):=
 .of_wp λprog w A R s h=>by obtain⟨hp,g,d,tk,os⟩:=s;obtain⟨c,h⟩:=h;wp_walk using wpAny_loadPart' c,yv c;exact⟨_,rfl,h⟩
theorem NP(x:AJ)(t:Tok)(d:Ln s.heap a)(i:A.units<cLine):RcAt A s (.str x t) (.ref a) false:=λprog w E Q h=>by
 obtain⟨⟨j,g,l,sl⟩,ep,c,⟨f,hd,hs⟩,e⟩:=d;simp only at f e;subst f e;exact rc_eq_decline_or (k:=false) (typeIs_str s x t) ⟨_,c,rfl⟩ (by decide) PySem.F.sub_dict_str PySem.F.slot_str_eq PySem.F.slot_dict_eq_refl
  (λ_ b=>call_meets PySem.F.slot_str_eq (typeIs_str s x t) PySem.F.entry_str_eq (PySem.F.args_str_eq_2 _ _) (Sw x t #[] ep g sl) ⟨c,b⟩)
  (λ_ b=>call_meets PySem.F.slot_dict_eq_refl ⟨_,c,rfl⟩ PySem.F.entry_dict_eq (PySem.F.args_dict_eq_2 _ _) (Sv _ x t) ⟨⟨c,rfl⟩,b⟩)
  (λ_ b=>wpAny_of_eq (rfl:isSame (.str x t) (.ref a)=pure false) b) (.inr i) h
theorem Sx(o:AE)(b:AJ)(u:Tok):Meets (Builtin.«dict.__ne__» ⟨[.ref a,.str b u],[]⟩) (λ_ R s=>(s.heap.get? a=Z o/\o.cls=.type "dict")/\R (.ok (.ret .notImplemented)) s):=
 .of_wp λprog w A R s h=>by
  have c:s.TypeIs (.ref a) "dict":=⟨o,h.1.1,h.1.2⟩;show A7 _ _ (Builtin.Dict.dictSlotArgs "__ne__" ⟨[.ref a,.str b u],[]⟩ >>= _) _ _ s;refine zd ?_;unfold Builtin.Dict.dictSlotArgs;refine zd (wpAny_notOrdered_dict c ?_);show A7 _ _ (pure (Value.ref a,Value.str b u)) _ _ s;refine zg ?_;refine zd (kF (T :="str") (typeIs_str s b u) PySem.F.sub_str_dict ?_);simp only[k6,qV];refine zd (Kx ?_);exact zg ⟨_,rfl,h.2⟩
theorem Sy(b:AJ)(u:Tok)(es:Array DictEntry)(ep:Nat)(e:Y A1)(sl:Array (Y A0)):Meets (Builtin.«str.__ne__» ⟨[.str b u,.ref a],[]⟩) (λ_ R s=>s.heap.get? a=Z { cls:=.type "dict",dict:=e,data:=.dict es ep,slots:=sl }/\R (.ok (.ret .notImplemented)) s):=
 .of_wp λprog w A R s h=>by obtain⟨hp,g,d,tk,os⟩:=s;obtain⟨c,h⟩:=h;wp_walk using wpAny_loadPart' c,yv c;exact⟨_,rfl,h⟩
theorem ZM(x:AJ)(t:Tok)(d:Ln s.heap a)(i:A.units<cLine):RcNeAt A s (.str x t) (.ref a) true:=λprog w E Q h=>by
 obtain⟨⟨j,g,l,sl⟩,ep,c,⟨f,hd,hs⟩,e⟩:=d;simp only at f e;subst f e;exact rc_ne_decline_or (k:=false) (typeIs_str s x t) ⟨_,c,rfl⟩ (by decide) PySem.F.sub_dict_str PySem.F.slot_str_ne PySem.F.slot_dict_ne_refl
  (λ_ b=>call_meets PySem.F.slot_str_ne (typeIs_str s x t) PySem.F.entry_str_ne (PySem.F.args_str_ne_2 _ _) (Sy x t #[] ep g sl) ⟨c,b⟩)
  (λ_ b=>call_meets PySem.F.slot_dict_ne_refl ⟨_,c,rfl⟩ PySem.F.entry_dict_ne (PySem.F.args_dict_ne_2 _ _) (Sx _ x t) ⟨⟨c,rfl⟩,b⟩)
  (λ_ b=>wpAny_of_eq (rfl:isSame (.str x t) (.ref a)=pure false) b) (.inr i) h
theorem ZP(x:AJ)(t:Tok)(d:Ln s.heap a)(c:A.units<cLine):EqAt A s (.str x t) (.ref a) false:=λprog w E Q h=>by
 unfold eqBool;refine QR ?_;refine wpAny_ite_split (λb=>absurd (eq_of_beq b) nofun) (λ_=>?_);exact zd (NP x t d c prog w E _ (kz h))
end
mutual
def zN:Dt->Nat
 |.tup xs=>xH xs+1
 |.lst xs=>xH xs+1
 |_=>1
def xH:O Dt->Nat
 |[]=>0
 |d::ds=>max (zN d) (xH ds)
end
mutual
def GD:Dt->Dt->Y Bool
 |.non,.non=>Z true
 |.non,.bl _=>Z false|.non,.int _=>Z false|.non,.str _=>Z false|.non,.tup _=>Z false|.non,.lst _=>Z false
 |.bl a,.bl b=>Z (a==b)
 |.bl a,.int b=>Z ((if a then 1 else 0)==b)
 |.bl _,.non=>Z false|.bl _,.str _=>Z false|.bl _,.tup _=>Z false|.bl _,.lst _=>Z false
 |.int a,.int b=>Z (a==b)
 |.int a,.bl b=>Z (a==(if b then 1 else 0))
 |.int _,.non=>Z false|.int _,.str _=>Z false|.int _,.tup _=>Z false|.int _,.lst _=>Z false
 |.str a,.str b=>Z (a==b)
 |.str _,.non=>Z false|.str _,.bl _=>Z false|.str _,.int _=>Z false|.str _,.tup _=>Z false|.str _,.lst _=>Z false|.str _,.emp=>Z false
 |.tup xs,.tup ys=>oM xs ys
 |.tup _,.non=>Z false|.tup _,.bl _=>Z false|.tup _,.int _=>Z false|.tup _,.str _=>Z false|.tup _,.lst _=>Z false
 |.lst xs,.lst ys=>oM xs ys
 |.emp,.emp=>Z true
 |.lst _,.non=>Z false|.lst _,.bl _=>Z false|.lst _,.int _=>Z false|.lst _,.str _=>Z false|.lst _,.tup _=>Z false
 |_,_=>U
def oM:O Dt->O Dt->Y Bool
 |[],[]=>Z true
 |[],_::_=>Z false
 |_::_,[]=>Z false
 |x::xs,y::ys=>match GD x y with
  |some b=>match oM xs ys with
   |some c=>Z (b&&c)
   |none=>U
  |none=>U
end
mutual
theorem SJ:∀{d:Dt} {k:Bool},GD d d=Z k->k=true
 |.non,_,e=>by cases e;rfl
 |.bl b,_,e=>by cases e;simp
 |.int b,_,e=>by cases e;simp
 |.str b,_,e=>by cases e;simp
 |.tup xs,_,e=>DP (ds:=xs) e
 |.lst xs,_,e=>DP (ds:=xs) e
 |.emp,_,e=>by cases e;rfl
theorem DP:∀{ds:O Dt} {k:Bool},oM ds ds=Z k->k=true
 |[],_,e=>by simp only[oM]at e;cases e;rfl
 |d::ds,_,e=>by
  simp only[oM]at e;cases h:GD d d with
  |none=>rw[h]at e;cases e
  |some b=>
   rw[h]at e;simp only at e;cases h2:oM ds ds with
   |none=>rw[h2]at e;cases e
   |some c=>
    rw[h2]at e;cases e;rw[SJ h,DP h2];rfl
end
theorem Hx(xs ys:O Dt):GD (.tup xs) (.tup ys)=oM xs ys:=rfl
theorem xJ:∀{xs ys:O Dt} {k:Bool},oM xs ys=Z k->∃e:Nat->Bool,(∀(j:Nat) x y,xs[j]?=Z x->ys[j]?=Z y->GD x y=Z (e j))/\k=((List.range (min xs.length ys.length)).all e&&xs.length==ys.length)
 |[],[],k,h=>by simp only[oM]at h;cases h;exact⟨λ_=>true,λj x y e=>by simp at e,by simp⟩
 |[],y::ys,k,h=>by simp only[oM]at h;cases h;exact⟨λ_=>true,λj x y e=>by simp at e,by simp⟩
 |x::xs,[],k,h=>by simp only[oM]at h;cases h;exact⟨λ_=>true,λj x y _ e=>by simp at e,by simp⟩
 |x::xs,y::ys,k,h=>by
  simp only[oM]at h;cases h1:GD x y with
  |none=>rw[h1]at h;cases h
  |some b=>
   rw[h1]at h;simp only at h;cases h2:oM xs ys with
   |none=>rw[h2]at h;cases h
   |some c=>
    rw[h2]at h;cases h;obtain⟨e,g,d⟩:=xJ h2;refine⟨λj=>match j with|0=>b|j+1=>e j,λj u v a ev=>?_,?_⟩
    ·cases j with
     |zero=>simp at a ev;subst a ev;exact h1
     |succ j=>exact g j u v (by simpa using a) (by simpa using ev)
    ·have:min (x::xs).length (y::ys).length=min xs.length ys.length+1:=by simp only[ZZ];omega
     rw[this,List.range_succ_eq_map,kR,List.all_map,d];have hb:((x::xs).length==(y::ys).length)=(xs.length==ys.length):=by
      rw[QQ];simp
     rw[hb,Bool.and_assoc];rfl
theorem xK:∀{ds:O Dt} {j:Nat} {d:Dt},ds[j]?=Z d->zN d<=xH ds
 |[],_,_,e=>by simp at e
 |d::ds,0,_,e=>by simp at e;subst e;simp only[xH];exact Nat.le_max_left _ _
 |d::ds,j+1,_,e=>by
  simp only[xH];exact ZO (xK (ds:=ds) (j:=j) (by simpa using e)) (Nat.le_max_right _ _)
theorem Hy(I:L2.AU X AN σ H s)(h:Bd X.K H a vs):∃b,s.heap.get? a=Z b/\b.cls=.type "tuple":=by
 obtain⟨AQ,_,⟨b,e,c,_⟩,_⟩:=I.tuple h;exact⟨b,e,c⟩
theorem Hz(I:L2.AU X AN σ H s)(h:vI X.K H a vs):∃b,s.heap.get? a=Z b/\b.cls=.type "list":=by
 obtain⟨AQ,_,⟨b,n,e,c,_⟩,_⟩:=I.list h;exact⟨b,e,c⟩
theorem HB(I:L2.AU X AN σ H s){o:AE}(h:H a=Z (.ux o (.dK []))):∃b,s.heap.get? a=Z b/\b.cls=.type "dict":=by
 obtain⟨e,_,_,vs,_,b,es,ep,e2,ex,_⟩:=I.hok a _ h;exact⟨b,e2,ex.1⟩
theorem DR{n m:String}(h:∃b,s.heap.get? a=Z b/\b.cls=.type n)(q:∃b,s.heap.get? a=Z b/\b.cls=.type m)(f:n≠m):False:=by
 obtain⟨o,e,c⟩:=h;obtain⟨o',e',d⟩:=q;rw[e]at e';cases e';rw[c]at d;exact f (by injection d)
mutual
theorem AW.inj(I:L2.AU X AN σ H s):∀{d e:Dt} {v:V},AW X.K H d v->AW X.K H e v->d=e
 |.non,e,v,h,q=>by
  simp only[AW]at h;subst h;cases e<;>simp only[AW]at q<;>first|rfl|(cases q;done)|(obtain⟨a,b,z,_⟩:=q;cases z;done)|(obtain⟨z,_⟩:=q;cases z;done)
 |.bl _,e,v,h,q=>by
  simp only[AW]at h;subst h;cases e<;>simp only[AW]at q<;>first|(cases q;rfl)|(cases q;done)|(obtain⟨a,b,z,_⟩:=q;cases z;done)|(obtain⟨z,_⟩:=q;cases z;done)
 |.int _,e,v,h,q=>by
  simp only[AW]at h;subst h;cases e<;>simp only[AW]at q<;>first|(cases q;rfl)|(cases q;done)|(obtain⟨a,b,z,_⟩:=q;cases z;done)|(obtain⟨z,_⟩:=q;cases z;done)
 |.str x,e,v,h,q=>by
  simp only[AW]at h;have g:v=.str x:=h.1;subst g;cases e with
  |str y=>
   simp only[AW]at q;have z:V.str x=V.str y:=q.1;injection z with z;rw[z]
  |tup es=>simp only[AW]at q;obtain⟨a,b,z,_⟩:=q;cases z
  |lst es=>simp only[AW]at q;obtain⟨a,b,z,_⟩:=q;cases z
  |emp=>simp only[AW]at q;obtain⟨a,b,z,_⟩:=q;cases z
  |_=>simp only[AW]at q;cases q
 |.tup ds,e,v,h,q=>by
  simp only[AW]at h;obtain⟨a,vs,rfl,sq,r⟩:=h;cases e with
  |tup es=>
   simp only[AW]at q;obtain⟨b,us,z,c,f⟩:=q;cases z;have:=I.Nh sq c;subst this;rw[aQ.inj I r f]
  |lst es=>
   simp only[AW]at q;obtain⟨b,us,z,c,f⟩:=q;cases z;exact(DR (Hy I sq) (Hz I c.sq) (by decide)).elim
  |emp=>
   simp only[AW]at q;obtain⟨b,o,z,c⟩:=q;cases z;exact(DR (Hy I sq) (HB I c) (by decide)).elim
  |str x=>simp only[AW]at q;have z:=q.1;cases z
  |_=>simp only[AW]at q;cases q
 |.lst ds,e,v,h,q=>by
  simp only[AW]at h;obtain⟨a,vs,rfl,sq,r⟩:=h;cases e with
  |lst es=>
   simp only[AW]at q;obtain⟨b,us,z,c,f⟩:=q;cases z;have:=I.Im sq.sq c.sq;subst this;rw[aQ.inj I r f]
  |tup es=>
   simp only[AW]at q;obtain⟨b,us,z,c,f⟩:=q;cases z;exact(DR (Hz I sq.sq) (Hy I c) (by decide)).elim
  |emp=>
   simp only[AW]at q;obtain⟨b,o,z,c⟩:=q;cases z;exact(DR (Hz I sq.sq) (HB I c) (by decide)).elim
  |str x=>simp only[AW]at q;have z:=q.1;cases z
  |_=>simp only[AW]at q;cases q
 |.emp,e,v,h,q=>by
  simp only[AW]at h;obtain⟨a,o,rfl,sq⟩:=h;cases e with
  |emp=>rfl
  |tup es=>
   simp only[AW]at q;obtain⟨b,us,z,c,f⟩:=q;cases z;exact(DR (HB I sq) (Hy I c) (by decide)).elim
  |lst es=>
   simp only[AW]at q;obtain⟨b,us,z,c,f⟩:=q;cases z;exact(DR (HB I sq) (Hz I c.sq) (by decide)).elim
  |str x=>simp only[AW]at q;have z:=q.1;cases z
  |_=>simp only[AW]at q;cases q
theorem aQ.inj(I:L2.AU X AN σ H s):∀{ds es:O Dt} {vs:O V},aQ X.K H ds vs->aQ X.K H es vs->ds=es
 |[],es,vs,h,q=>by
  simp only[aQ]at h;subst h;cases es with
  |nil=>rfl
  |cons e es=>simp only[aQ]at q;obtain⟨_,_,z,_⟩:=q;cases z
 |d::ds,es,vs,h,q=>by
  simp only[aQ]at h;obtain⟨v,r,rfl,h1,h2⟩:=h;cases es with
  |nil=>simp only[aQ]at q;cases q
  |cons e es=>
   simp only[aQ]at q;obtain⟨b,a,z,q1,q2⟩:=q;cases z;rw[AW.inj I h1 q1,aQ.inj I h2 q2]
end
theorem N3(I:L2.AU X AN σ H s):∀(n:Nat) {A:A5} {d e:Dt} {x y:V} {u v:A0} {k:Bool},min (zN d) (zN e)<=n->A.units+n<cLine->AW X.K H d x->AW X.K H e y->Au x u->Au y v->GD d e=Z k->EqAt A s u v k:=by
 intro n
 induction n with
 |zero=>
  intro A d e x y u v k L;have h1:1<=zN d:=by cases d<;>simp only[zN]<;>omega
  have h2:1<=zN e:=by cases e<;>simp only[zN]<;>omega
  omega
 |succ n ih=>
  intro A d e x y u v k L hA m c w g ek;have h:A.units<cLine:=by omega
  by_cases G:u=v/\∃a,u=.ref a
  ·obtain⟨rfl,a,rfl⟩:=G;have hx:x=.ref a:=by have:=w.abs;simpa[IP]using this.symm
   have hy:y=.ref a:=by have:=g.abs;simpa[IP]using this.symm
   subst hx hy;have:=AW.inj I m c;subst this;rw[SJ ek];exact EqAt.same _
  ·have items:∀{ds es:O Dt} {vs us:O V} {AQ l:O A0} {f:Nat->Bool},min (xH ds) (xH es)<=n->aQ X.K H ds vs->aQ X.K H es us->AX vs AQ->AX us l->(∀(j:Nat) x y,ds[j]?=Z x->es[j]?=Z y->GD x y=Z (f j)) →
     ∀j (h1:j<AQ.toArray.size) (h2:j<l.toArray.size),EqAt A.in1 s AQ.toArray[j] l.toArray[j] (f j):=by
    intro ds es vs us AQ l f hm r1 r2 W w2 C j h1 h2;have l1:=W.length;have l2:=w2.length;have l3:=r1.length;have l4:=r2.length;have j1:j<AQ.length:=by simpa using h1
    have j2:j<l.length:=by simpa using h2
    have N:ds[j]?=Z ds[j]:=by simp
    have d2:es[j]?=Z es[j]:=by simp
    obtain⟨a,ea,B⟩:=r1.get N;obtain⟨b,eb,rb⟩:=r2.get d2;obtain⟨p,ep,rp⟩:=W.get ea;obtain⟨q,eq,rq⟩:=w2.get eb;have e1:AQ.toArray[j]=p:=by simpa[j1]using ep
    have e2:l.toArray[j]=q:=by simpa[j2]using eq
    rw[e1,e2];have Q:=xK N;have m2:=xK d2;exact ih (by omega) (by rw[units_in1];omega) B rb rp rq (C j _ _ N d2)
   cases d with
   |non=>
    cases m;cases w;cases e with
    |non=>cases c;cases g;cases ek;exact EqAt.same _
    |bl b=>cases c;cases g;cases ek;exact EqAt.none_bool b
    |int b=>cases c;obtain⟨t,rfl⟩:=g;cases ek;exact EqAt.none_int b t
    |str b=>obtain⟨rfl,_⟩:=c;obtain⟨t,rfl⟩:=g;cases ek;exact EqAt.none_str b t
    |tup es=>obtain⟨b,us,rfl,sq,_⟩:=c;cases g;cases ek;obtain⟨_,_,p,_⟩:=I.tuple sq;exact EqAt.none_tuple p h
    |lst es=>obtain⟨b,us,rfl,sq,_⟩:=c;cases g;cases ek;obtain⟨_,_,p,_⟩:=I.list sq.sq;exact EqAt.none_list p.isList h
    |emp=>cases ek
   |bl a=>
    cases m;cases w;cases e with
    |non=>cases c;cases g;cases ek;exact EqAt.bool_none a
    |bl b=>cases c;cases g;cases ek;exact EqAt.bool_bool a b
    |int b=>cases c;obtain⟨t,rfl⟩:=g;cases ek;exact EqAt.bool_int a b t
    |str b=>obtain⟨rfl,_⟩:=c;obtain⟨t,rfl⟩:=g;cases ek;exact EqAt.bool_str a b t
    |tup es=>obtain⟨b,us,rfl,sq,_⟩:=c;cases g;cases ek;obtain⟨_,_,p,_⟩:=I.tuple sq;exact EqAt.bool_tuple a p h
    |lst es=>obtain⟨b,us,rfl,sq,_⟩:=c;cases g;cases ek;obtain⟨_,_,p,_⟩:=I.list sq.sq;exact EqAt.bool_list a p.isList h
    |emp=>cases ek
   |int a=>
    cases m;obtain⟨i,rfl⟩:=w;cases e with
    |non=>cases c;cases g;cases ek;exact EqAt.int_none a i
    |bl b=>cases c;cases g;cases ek;exact EqAt.int_bool a i b
    |int b=>cases c;obtain⟨t,rfl⟩:=g;cases ek;exact EqAt.int_int a i b t
    |str b=>obtain⟨rfl,_⟩:=c;obtain⟨t,rfl⟩:=g;cases ek;exact EqAt.int_str a i b t
    |tup es=>obtain⟨b,us,rfl,sq,_⟩:=c;cases g;cases ek;obtain⟨_,_,p,_⟩:=I.tuple sq;exact EqAt.int_tuple a i p h
    |lst es=>obtain⟨b,us,rfl,sq,_⟩:=c;cases g;cases ek;obtain⟨_,_,p,_⟩:=I.list sq.sq;exact EqAt.int_list a i p.isList h
    |emp=>cases ek
   |str a=>
    obtain⟨rfl,_⟩:=m;obtain⟨i,rfl⟩:=w;cases e with
    |non=>cases c;cases g;cases ek;exact EqAt.str_none a i
    |bl b=>cases c;cases g;cases ek;exact EqAt.str_bool a i b
    |int b=>cases c;obtain⟨t,rfl⟩:=g;cases ek;exact EqAt.str_int a i b t
    |str b=>obtain⟨rfl,_⟩:=c;obtain⟨t,rfl⟩:=g;cases ek;exact EqAt.str_str a i b t
    |tup es=>obtain⟨b,us,rfl,sq,_⟩:=c;cases g;cases ek;obtain⟨_,_,p,_⟩:=I.tuple sq;exact EqAt.str_tuple a i p h
    |lst es=>obtain⟨b,us,rfl,sq,_⟩:=c;cases g;cases ek;obtain⟨_,_,p,_⟩:=I.list sq.sq;exact EqAt.str_list a i p.isList h
    |emp=>
     simp only[AW]at c;obtain⟨p,o,rfl,e⟩:=c;cases g;cases ek;obtain⟨_,_,vs,r,q⟩:=wQ I.hok (.inr ⟨o,e⟩);exact ZP a i (Bt S r q) h
   |tup ds=>
    obtain⟨a,vs,rfl,M,B⟩:=m;cases w;obtain⟨AQ,D,p,_⟩:=I.tuple M;cases e with
    |non=>cases c;cases g;cases ek;exact EqAt.tuple_none p h
    |bl b=>cases c;cases g;cases ek;exact EqAt.tuple_bool b p h
    |int b=>cases c;obtain⟨t,rfl⟩:=g;cases ek;exact EqAt.tuple_int b t p h
    |str b=>obtain⟨rfl,_⟩:=c;obtain⟨t,rfl⟩:=g;cases ek;exact EqAt.tuple_str b t p h
    |lst es=>obtain⟨b,us,rfl,sq,_⟩:=c;cases g;cases ek;obtain⟨_,_,p2,_⟩:=I.list sq.sq;exact EqAt.tuple_list p p2.isList h
    |tup es=>
     obtain⟨b,us,rfl,P,rb⟩:=c;cases g;obtain⟨l,E,p2,_⟩:=I.tuple P;change oM _ _=Z _ at ek;obtain⟨f,C,rfl⟩:=xJ ek;have F:a≠b:=λz=>G ⟨by rw[z],a,rfl⟩;have z:=EqAt.of_refs F (RcAt.tuples (A:=A) (e:=f) p p2 h (items (by simp only[zN]at L;omega) B rb D E C));have q1:AQ.toArray.size=ds.length:=by rw[zI,<-D.length,B.length]
     have q2:l.toArray.size=es.length:=by rw[zI,<-E.length,rb.length]
     rw[q1,q2]at z;exact z
    |emp=>cases ek
   |lst ds=>
    obtain⟨a,vs,rfl,M,B⟩:=m;cases w;obtain⟨AQ,D,p,_⟩:=I.list M.sq;cases e with
    |non=>cases c;cases g;cases ek;exact EqAt.list_none p.isList h
    |bl b=>cases c;cases g;cases ek;exact EqAt.list_bool b p.isList h
    |int b=>cases c;obtain⟨t,rfl⟩:=g;cases ek;exact EqAt.list_int b t p.isList h
    |str b=>obtain⟨rfl,_⟩:=c;obtain⟨t,rfl⟩:=g;cases ek;exact EqAt.list_str b t p.isList h
    |tup es=>obtain⟨b,us,rfl,sq,_⟩:=c;cases g;cases ek;obtain⟨_,_,p2,_⟩:=I.tuple sq;exact EqAt.list_tuple p.isList p2 h
    |lst es=>
     obtain⟨b,us,rfl,P,rb⟩:=c;cases g;obtain⟨l,E,p2,_⟩:=I.list P.sq;change oM _ _=Z _ at ek;obtain⟨f,C,rfl⟩:=xJ ek;have F:a≠b:=λz=>G ⟨by rw[z],a,rfl⟩;have q1:AQ.toArray.size=ds.length:=by rw[zI,<-D.length,B.length]
     have q2:l.toArray.size=es.length:=by rw[zI,<-E.length,rb.length]
     by_cases a0:AQ.toArray.size=l.toArray.size
     ·have z:=EqAt.of_refs F (RcAt.lists (A:=A) (e:=f) p.isList p2.isList a0 h (items (by simp only[zN]at L;omega) B rb D E C));have J:ds.length=es.length:=by omega
      rw[q1]at z;rw[J,Nat.min_self,beq_self_eq_true,yb,<-J];exact z
     ·have J:(ds.length==es.length)=false:=by rw[beq_eq_false_iff_ne];omega
      rw[J,yA];exact EqAt.of_refs F (RcAt.lists_lengths p.isList p2.isList (by simpa using a0) h)
    |emp=>cases ek
   |emp=>
    cases e<;>first|(cases ek;done)|skip;simp only[AW]at m c;obtain⟨a,o,rfl,e1⟩:=m;obtain⟨b,o',rfl,e2⟩:=c;cases w;cases g;cases ek;obtain⟨_,Q,vs,r,q⟩:=wQ I.hok (.inr ⟨o,e1⟩);obtain⟨_,m2,a1,r',q'⟩:=wQ I.hok (.inr ⟨o',e2⟩);exact EqAt.of_refs (λz=>G ⟨by rw[z],a,rfl⟩) (NW Q m2 (Bt S r q) (Bt S r' q') h)
theorem SM(I:L2.AU X AN σ H s){es:O Dt}{us:O V}{c:O A0}{f:Nat->Bool}(D:min (xH ds) (xH es)<=n)(G:A.units+n+1<cLine)(h:aQ X.K H ds vs)(g:aQ X.K H es us)(e:AX vs AQ)(i:AX us c)(u:∀(j:Nat) x y,ds[j]?=Z x->es[j]?=Z y->GD x y=Z (f j)):∀j (h1:j<AQ.toArray.size) (h2:j<c.toArray.size),EqAt A.in1 s AQ.toArray[j] c.toArray[j] (f j):=by
 intro j h1 h2;have C:=e.length;have B:=i.length;have l3:=h.length;have E:=g.length;have w:j<AQ.length:=by simpa using h1
 have t:j<c.length:=by simpa using h2
 have d:ds[j]?=Z (ds[j]'(by omega)):=by simp
 have d2:es[j]?=Z (es[j]'(by omega)):=by simp
 obtain⟨a,ea,v⟩:=h.get d;obtain⟨b,eb,rb⟩:=g.get d2;obtain⟨p,ep,l⟩:=e.get ea;obtain⟨q,m,o⟩:=i.get eb;have e1:AQ.toArray[j]=p:=by simpa[w]using ep
 have e2:c.toArray[j]=q:=by simpa[t]using m
 rw[e1,e2];have z:=xK d;have F:=xK d2;exact N3 I n (by omega) (by rw[units_in1];omega) v rb l o (u j _ _ d d2)
def FM(K:B1)(H:Hp):Dt->V->Prop
 |.lst ds,v=>∃a vs,v=.ref a/\vI K H a vs/\aQ K H ds vs
 |d,v=>AW K H d v
def xM:Bx->Bool
 |.n _=>true
 |.m _ _=>true
 |_=>false
def toD:Bx->Dt
 |.z d=>d
 |.l ds=>.lst ds
 |.o ds=>.lst ds
 |.n _=>.non
 |.m _ _=>.non
theorem bB.toD(h:bB K H b v)(a:xM b=false):FM K H (toD b) v:=by
 cases b with
 |z d=>
  cases d with
  |lst ds=>exact h.Ld rfl
  |_=>exact h
 |l ds=>exact h.Ld rfl
 |o ds=>exact h.Ld rfl
 |n _=>cases a
 |m _ _=>cases a
theorem X8(I:L2.AU X AN σ H s){e:Dt}{x y:V}{v:A0}{k:Bool}(N:min (zN d) (zN e)<=100)(hA:X.A.units+100<cLine)(z:FM X.K H d x)(h:FM X.K H e y)(B:Au x u)(i:Au y v)(ek:GD d e=Z k):RcAt X.A s u v k/\RcNeAt X.A s u v (!k):=by
 have g:X.A.units<cLine:=by omega
 cases d with
 |non=>
  cases z;cases B;cases e with
  |non=>
   cases h;cases i;cases ek;exact⟨.none_none,.none_none⟩
  |bl c=>
   cases h;cases i;cases ek;exact⟨.none_bool c,.none_bool c⟩
  |int c=>
   cases h;obtain⟨t2,rfl⟩:=i;cases ek;exact⟨.none_int c t2,.none_int c t2⟩
  |str c=>
   obtain⟨rfl,_⟩:=h;obtain⟨t2,rfl⟩:=i;cases ek;exact⟨.none_str c t2,.none_str c t2⟩
  |tup c=>
   obtain⟨a2,w,rfl,j,l⟩:=h;cases i;obtain⟨t,m,p2,_⟩:=I.tuple j;cases ek;exact⟨.none_tuple p2 g,.none_tuple p2 g⟩
  |lst c=>
   obtain⟨a2,w,rfl,j,l⟩:=h;cases i;obtain⟨t,m,p2,_⟩:=I.list j;cases ek;exact⟨.none_list p2.isList g,.none_list p2.isList g⟩
  |emp=>cases ek
 |bl x1=>
  cases z;cases B;cases e with
  |non=>
   cases h;cases i;cases ek;exact⟨.bool_none x1,.bool_none x1⟩
  |bl c=>
   cases h;cases i;cases ek;exact⟨.bool_bool x1 c,.bool_bool x1 c⟩
  |int c=>
   cases h;obtain⟨t2,rfl⟩:=i;cases ek;exact⟨.bool_int x1 c t2,.bool_int x1 c t2⟩
  |str c=>
   obtain⟨rfl,_⟩:=h;obtain⟨t2,rfl⟩:=i;cases ek;exact⟨.bool_str x1 c t2,.bool_str x1 c t2⟩
  |tup c=>
   obtain⟨a2,w,rfl,j,l⟩:=h;cases i;obtain⟨t,m,p2,_⟩:=I.tuple j;cases ek;exact⟨.bool_tuple x1 p2 g,.bool_tuple x1 p2 g⟩
  |lst c=>
   obtain⟨a2,w,rfl,j,l⟩:=h;cases i;obtain⟨t,m,p2,_⟩:=I.list j;cases ek;exact⟨.bool_list x1 p2.isList g,.bool_list x1 p2.isList g⟩
  |emp=>cases ek
 |int x1=>
  cases z;obtain⟨t1,rfl⟩:=B;cases e with
  |non=>
   cases h;cases i;cases ek;exact⟨.int_none x1 t1,.int_none x1 t1⟩
  |bl c=>
   cases h;cases i;cases ek;exact⟨.int_bool x1 t1 c,.int_bool x1 t1 c⟩
  |int c=>
   cases h;obtain⟨t2,rfl⟩:=i;cases ek;exact⟨.int_int x1 t1 c t2,.int_int x1 t1 c t2⟩
  |str c=>
   obtain⟨rfl,_⟩:=h;obtain⟨t2,rfl⟩:=i;cases ek;exact⟨.int_str x1 t1 c t2,.int_str x1 t1 c t2⟩
  |tup c=>
   obtain⟨a2,w,rfl,j,l⟩:=h;cases i;obtain⟨t,m,p2,_⟩:=I.tuple j;cases ek;exact⟨.int_tuple x1 t1 p2 g,.int_tuple x1 t1 p2 g⟩
  |lst c=>
   obtain⟨a2,w,rfl,j,l⟩:=h;cases i;obtain⟨t,m,p2,_⟩:=I.list j;cases ek;exact⟨.int_list x1 t1 p2.isList g,.int_list x1 t1 p2.isList g⟩
  |emp=>cases ek
 |str x1=>
  obtain⟨rfl,_⟩:=z;obtain⟨t1,rfl⟩:=B;cases e with
  |non=>
   cases h;cases i;cases ek;exact⟨.str_none x1 t1,.str_none x1 t1⟩
  |bl c=>
   cases h;cases i;cases ek;exact⟨.str_bool x1 t1 c,.str_bool x1 t1 c⟩
  |int c=>
   cases h;obtain⟨t2,rfl⟩:=i;cases ek;exact⟨.str_int x1 t1 c t2,.str_int x1 t1 c t2⟩
  |str c=>
   obtain⟨rfl,_⟩:=h;obtain⟨t2,rfl⟩:=i;cases ek;exact⟨.str_str x1 t1 c t2,.str_str x1 t1 c t2⟩
  |tup c=>
   obtain⟨a2,w,rfl,j,l⟩:=h;cases i;obtain⟨t,m,p2,_⟩:=I.tuple j;cases ek;exact⟨.str_tuple x1 t1 p2 g,.str_tuple x1 t1 p2 g⟩
  |lst c=>
   obtain⟨a2,w,rfl,j,l⟩:=h;cases i;obtain⟨t,m,p2,_⟩:=I.list j;cases ek;exact⟨.str_list x1 t1 p2.isList g,.str_list x1 t1 p2.isList g⟩
  |emp=>
   simp only[FM,AW]at h;obtain⟨p,o,rfl,e⟩:=h;cases i;cases ek;obtain⟨_,_,vs,r,q⟩:=wQ I.hok (.inr ⟨o,e⟩);exact⟨NP x1 t1 (Bt S r q) g,ZM x1 t1 (Bt S r q) g⟩
 |tup x1=>
  obtain⟨a1,a0,rfl,L,D⟩:=z;cases B;obtain⟨F,C,p1,_⟩:=I.tuple L;cases e with
  |non=>
   cases h;cases i;cases ek;exact⟨.tuple_none p1 g,.tuple_none p1 g⟩
  |bl c=>
   cases h;cases i;cases ek;exact⟨.tuple_bool c p1 g,.tuple_bool c p1 g⟩
  |int c=>
   cases h;obtain⟨t2,rfl⟩:=i;cases ek;exact⟨.tuple_int c t2 p1 g,.tuple_int c t2 p1 g⟩
  |str c=>
   obtain⟨rfl,_⟩:=h;obtain⟨t2,rfl⟩:=i;cases ek;exact⟨.tuple_str c t2 p1 g,.tuple_str c t2 p1 g⟩
  |tup c=>
   obtain⟨a2,w,rfl,j,l⟩:=h;cases i;obtain⟨t,m,p2,_⟩:=I.tuple j;change oM _ _=Z _ at ek;obtain⟨f,J,rfl⟩:=xJ ek;have q1:F.toArray.size=x1.length:=by rw[zI,<-C.length,D.length]
   have q2:t.toArray.size=c.length:=by rw[zI,<-m.length,l.length]
   have it:=SM I (n:=99) (A:=X.A) (by simp only[zN]at N;omega) (by omega) D l C m J;rw[<-q1,<-q2];exact⟨.tuples p1 p2 g it,.tuples p1 p2 g it⟩
  |lst c=>
   obtain⟨a2,w,rfl,j,l⟩:=h;cases i;obtain⟨t,m,p2,_⟩:=I.list j;cases ek;exact⟨.tuple_list p1 p2.isList g,.tuple_list p1 p2.isList g⟩
  |emp=>cases ek
 |lst x1=>
  obtain⟨a1,a0,rfl,L,D⟩:=z;cases B;obtain⟨F,C,p1,_⟩:=I.list L;cases e with
  |non=>
   cases h;cases i;cases ek;exact⟨.list_none p1.isList g,.list_none p1.isList g⟩
  |bl c=>
   cases h;cases i;cases ek;exact⟨.list_bool c p1.isList g,.list_bool c p1.isList g⟩
  |int c=>
   cases h;obtain⟨t2,rfl⟩:=i;cases ek;exact⟨.list_int c t2 p1.isList g,.list_int c t2 p1.isList g⟩
  |str c=>
   obtain⟨rfl,_⟩:=h;obtain⟨t2,rfl⟩:=i;cases ek;exact⟨.list_str c t2 p1.isList g,.list_str c t2 p1.isList g⟩
  |tup c=>
   obtain⟨a2,w,rfl,j,l⟩:=h;cases i;obtain⟨t,m,p2,_⟩:=I.tuple j;cases ek;exact⟨.list_tuple p1.isList p2 g,.list_tuple p1.isList p2 g⟩
  |lst c=>
   obtain⟨a2,w,rfl,j,l⟩:=h;cases i;obtain⟨t,m,p2,_⟩:=I.list j;change oM _ _=Z _ at ek;obtain⟨f,J,rfl⟩:=xJ ek;have q1:F.toArray.size=x1.length:=by rw[zI,<-C.length,D.length]
   have q2:t.toArray.size=c.length:=by rw[zI,<-m.length,l.length]
   have it:=SM I (n:=99) (A:=X.A) (by simp only[zN]at N;omega) (by omega) D l C m J;by_cases E:F.toArray.size=t.toArray.size
   ·have G:x1.length=c.length:=by omega
    rw[G,Nat.min_self,beq_self_eq_true,yb,<-G,<-q1];exact⟨.lists p1.isList p2.isList E g it,.lists p1.isList p2.isList E g it⟩
   ·have G:(x1.length==c.length)=false:=by rw[beq_eq_false_iff_ne];omega
    rw[G,yA];exact⟨.lists_lengths p1.isList p2.isList (by simpa using E) g,.lists_lengths p1.isList p2.isList (by simpa using E) g⟩
  |emp=>cases ek
 |emp=>
  cases e<;>first|(cases ek;done)|skip;simp only[FM,AW]at z h;obtain⟨a,o,rfl,e1⟩:=z;obtain⟨b,o',rfl,e2⟩:=h;cases B;cases i;cases ek;obtain⟨_,M,vs,r,q⟩:=wQ I.hok (.inr ⟨o,e1⟩);obtain⟨_,W,a3,P,Q⟩:=wQ I.hok (.inr ⟨o',e2⟩);exact⟨NW M W (Bt S r q) (Bt S P Q) g,WN M W (Bt S r q) (Bt S P Q) g⟩
def BT(a b:Bx):Y Bx:=if xM a=true\/xM b=true then U else if min (zN (toD a)) (zN (toD b))<=100 then(GD (toD a) (toD b)).bind λk=>Z (.z (.bl k))else U
def ZQ(a b:Bx):Y Bx:=if xM a=true\/xM b=true then U else if min (zN (toD a)) (zN (toD b))<=100 then(GD (toD a) (toD b)).bind λk=>Z (.z (.bl (!k)))else U
theorem of_eq(i:X.A.units+100<cLine):IK X (AG .Eq) BT:=by
 intro AN s σ H x y v u Q I g f h;obtain⟨a,b,c,l,rb,e,q⟩:=h;unfold BT at e;split at e
 ·cases e
 rename_i d;have m:xM a=false:=by cases h:xM a with|false=>rfl|true=>exact absurd (.inl h) d
 have hb:xM b=false:=by cases h:xM b with|false=>rfl|true=>exact absurd (.inr h) d
 split at e
 ·rename_i j;obtain⟨k,ek,e⟩:=AT e;cases e;exact(X8 I j i (l.toD m) (rb.toD hb) g f ek).1 X.prog X.w X.xe _ ⟨.bl k,H,I,rfl,q _ H (AV.refl H) trivial (by unfold bB AW;rfl)⟩
 ·cases e
theorem Bu(i:X.A.units+100<cLine):IK X (AG .NotEq) ZQ:=by
 intro AN s σ H x y v u Q I g f h;obtain⟨a,b,c,l,rb,e,q⟩:=h;unfold ZQ at e;split at e
 ·cases e
 rename_i d;have m:xM a=false:=by cases h:xM a with|false=>rfl|true=>exact absurd (.inl h) d
 have hb:xM b=false:=by cases h:xM b with|false=>rfl|true=>exact absurd (.inr h) d
 split at e
 ·rename_i j;obtain⟨k,ek,e⟩:=AT e;cases e;exact(X8 I j i (l.toD m) (rb.toD hb) g f ek).2 X.prog X.w X.xe _ ⟨.bl (!k),H,I,rfl,q _ H (AV.refl H) trivial (by unfold bB AW;rfl)⟩
 ·cases e
theorem GF{i:Int}:bB K H (.z (.int i)) (.int i):=by unfold bB AW;rfl
theorem HA{b:Bool}:bB K H (.z (.bl b)) (.bl b):=by unfold bB AW;rfl
theorem HE(h:x.length<=AA):bB K H (.z (.str x)) (.str x):=by unfold bB AW;exact⟨rfl,h⟩
theorem Qe{i:Int}(h:bB K H (.z (.int i)) v):v=.int i:=by simpa only[bB,AW]using h
theorem ZS(h:bB K H (.z (.str x)) v):v=.str x/\x.length<=AA:=by simpa only[bB,AW]using h
theorem GB(h:bB K H (.z (.tup ds)) v):∃a vs,v=.ref a/\Bd K H a vs/\aQ K H ds vs:=by simpa only[bB,AW]using h
def i2(g:Int->Int->Y Dt):Bx->Bx->Y Bx
 |.z (.int i),.z (.int j)=>(g i j).bind λd=>Z (.z d)
 |_,_=>U
theorem Jj{f:A0->A0->Sem A0}{r:R2}{g:Int->Int->Y Dt}(l:zK X f r)(h:∀i j d H Q,g i j=Z d->(∀v,AW X.K H d v->Q v H)->r (.int i) (.int j) H Q):IK X f (i2 g):=zK.imp l λx y H Q q=>by
 obtain⟨a,b,c,n,rb,e,q⟩:=q;unfold i2 at e;split at e
 ·rename_i i j;obtain⟨d,m,e⟩:=AT e;cases e;rw[Qe n,Qe rb];exact h i j d H Q m λv o=>q v H (AV.refl H) trivial o
 ·cases e
theorem HG{i:Int}:AW K H (.int i) (.int i):=by unfold AW;rfl
theorem FE{b:Bool}:AW K H (.bl b) (.bl b):=by unfold AW;rfl
abbrev C1:=i2 λi j=>Z (.int (i-j))
abbrev Fk:=i2 λi j=>Z (.bl (decide (i<=j)))
abbrev EI:=i2 λi j=>Z (.bl (decide (j<i)))
abbrev Go:=i2 λi j=>Z (.bl (decide (j<=i)))
abbrev SN:=i2 λi j=>if 0<j/\j<1073741824 then Z (.int (i / j))else U
abbrev jK:=i2 λi j=>if 0<j then Z (.int (i%j))else U
abbrev Ha:=i2 λi j=>if 0<=j/\j<=1000/\i.natAbs<2 ^ 64 then Z (.int (i ^ j.toNat))else U
theorem DW:IK X (binaryOp .Sub) C1:=Jj Pw λi j d H Q e q=>by cases e;exact⟨i,j,rfl,rfl,q _ HG⟩
theorem Ch:IK X (AG .LtE) Fk:=Jj S3 λi j d H Q e q=>by cases e;exact⟨i,j,rfl,rfl,q _ FE⟩
theorem SQ:IK X (AG .Gt) EI:=Jj lw λi j d H Q e q=>by cases e;exact⟨i,j,rfl,rfl,q _ FE⟩
theorem MC:IK X (AG .GtE) Go:=Jj m4 λi j d H Q e q=>by cases e;exact⟨i,j,rfl,rfl,q _ FE⟩
theorem Qf:IK X (binaryOp .FloorDiv) SN:=Jj RO λi j d H Q e q=>by
 split at e
 ·rename_i h;cases e;exact⟨i,j,rfl,rfl,h,q _ HG⟩
 ·cases e
theorem dI:IK X (binaryOp .Mod) jK:=Jj R1 λi j d H Q e q=>by
 split at e
 ·rename_i h;cases e;exact⟨i,j,rfl,rfl,h,q _ HG⟩
 ·cases e
theorem UP:IK X (binaryOp .Pow) Ha:=Jj ij λi j d H Q e q=>by
 split at e
 ·rename_i h;cases e;exact⟨i,j,rfl,rfl,⟨h.1,by omega,h.2.2⟩,q _ HG⟩
 ·cases e
def Qg:Bx->Y Bx
 |.z (.int i)=>Z (.z (.int (-i)))
 |_=>U
theorem V8:N0 X (unaryOp .USub) Qg:=DT.imp hW λx H Q q=>by
 obtain⟨a,c,b,e,q⟩:=q;unfold Qg at e;split at e
 ·rename_i i;cases e;exact⟨i,Qe b,q _ H (AV.refl H) trivial GF⟩
 ·cases e
def V9:Nat:=1000000
theorem US:V9<=AA:=by decide
theorem TU{b:A1}{us:O V}{Q:VK}(I:L2.AU X AN σ H s)(m:vI X.K H l vs)(hb:vI X.K H b us)(t:vs.length+us.length<=AA)(q:∀p,H p=U->Q (.ref p) (B4 H p (.lst (vs++us)))):
  A7 (A8 X.prog X.w) X.A (binaryOp .Add (.ref l) (.ref b)) (EP X AN σ Q) X.xe s:=by
 obtain⟨AQ,h,⟨⟨y,C,z,sl⟩,n,e1,c1,d,f⟩,z1⟩:=I.list m;obtain⟨a,g,⟨⟨cls2,x,B,j⟩,i,e2,c2,d2,c⟩,z2⟩:=I.list hb;simp only at c1 d f c2 d2 c;subst c1 d f c2 d2 c;have u:=h.length;have v:=g.length;have e:AQ.toArray++a.toArray=(AQ++a).toArray:=by simp
 refine concat_meets ⟨_,e1,rfl⟩ ⟨_,e2,rfl⟩ noFill_list_add seq_list_add PySem.F.slot_list_add PySem.F.entry_list_add (PySem.F.args_list_add_2 _ _) (list_addW l b AQ.toArray a.toArray n i U U sl j (by rw[zI,zI];omega)) ⟨e1,e2,?_⟩;rw[e];exact⟨.ref s.heap.objs.size,_,I.laid (t':=s.toks) (o:=.lst (vs++us)) (λb D q=>ze _ q) (zo _) ⟨by rw[zS];exact t,_,0,h.append g,zv _ rfl⟩,rfl,q _ (I.hok.fresh (zo _))⟩
theorem fT{b:A1}{us:O V}{Q:VK}(I:L2.AU X AN σ H s)(c:Bd X.K H l vs)(hb:Bd X.K H b us)(n:vs.length+us.length<=AA)(o:vs=[]->Q (.ref b) H)(q1:us=[]->Q (.ref l) H)(q2:∀p,H p=U->Q (.ref p) (B4 H p (.tup (vs++us)))):
  A7 (A8 X.prog X.w) X.A (binaryOp .Add (.ref l) (.ref b)) (EP X AN σ Q) X.xe s:=by
 by_cases a:vs=[]
 ·obtain⟨AQ,m,⟨⟨u,h,v,sl⟩,e1,c1,j,e⟩,z1⟩:=I.tuple c;obtain⟨g,t,⟨⟨cls2,q,x,f⟩,e2,c2,i,d⟩,z2⟩:=I.tuple hb;simp only at c1 e c2 d;subst c1 e c2 d;have:AQ=[]:=m.Hr.mpr a;exact concat_meets ⟨_,e1,rfl⟩ ⟨_,e2,rfl⟩ noFill_tuple_add seq_tuple_add PySem.F.slot_tuple_add YE (y9 _ _)
   (tuple_addW0 l b AQ.toArray g.toArray j i h q sl f (by simp[this])) ⟨e1,e2,⟨.ref b,H,I,rfl,o a⟩⟩
 ·exact ar AN s σ H (.ref l) (.ref b) (.ref l) (.ref b) Q I S S ⟨l,b,vs,us,rfl,rfl,c,hb,a,n,q1,λ_=>q2⟩
def iH:Bx->Bx->Y Bx
 |.z (.int i),.z (.int j)=>Z (.z (.int (i+j)))
 |.z (.str i),.z (.str j)=>if i.length+j.length<=V9 then Z (.z (.str (i++j)))else U
 |.z (.tup xs),.z (.tup ys)=>if xs.length+ys.length<=V9 then Z (.z (.tup (xs++ys)))else U
 |a,b=>(sX a).bind λxs=>(sX b).bind λys=>if xs.length+ys.length<=V9 then Z (.o (xs++ys))else U
theorem D8(i j:AJ):(i++j).length=i.length+j.length:=by
 show(i.cps++j.cps).size=_;rw[KU];rfl
theorem dY:IK X (binaryOp .Add) iH:=by
 intro AN s σ H x y v u Q I n g h;obtain⟨a,b,c,o,rb,e,q⟩:=h;have A:=US;unfold iH at e;split at e
 ·rename_i i j;cases e;exact ah AN s σ H x y v u Q I n g ⟨i,j,Qe o,Qe rb,q _ H (AV.refl H) trivial GF⟩
 ·rename_i i j;split at e
  ·rename_i w;cases e;exact VF AN s σ H x y v u Q I n g ⟨i,j,(ZS o).1,(ZS rb).1,by omega,q _ H (AV.refl H) trivial (HE (by rw[D8];omega))⟩
  ·cases e
 ·rename_i xs ys;split at e
  ·rename_i w;cases e;obtain⟨l,vs,rfl,sl,f⟩:=GB o;obtain⟨m,us,rfl,t,d⟩:=GB rb;cases n;cases g;have h1:=f.length;have h2:=d.length;refine fT I sl t (by omega) (λz=>q _ H (AV.refl H) trivial ?_) (λz=>q _ H (AV.refl H) trivial ?_) λp hp=>q _ _ (cH hp) trivial ?_
   ·unfold bB AW;refine⟨m,us,rfl,t,?_⟩;have:xs=[]:=by subst z;exact List.eq_nil_of_length_eq_zero (by simpa using h1.symm)
    rw[this,Kn];exact d
   ·unfold bB AW;refine⟨l,vs,rfl,sl,?_⟩;have:ys=[]:=by subst z;exact List.eq_nil_of_length_eq_zero (by simpa using h2.symm)
    rw[this,qr];exact f
   ·unfold bB AW;exact⟨p,_,rfl,.inl (.inl bK),(f.append d).kp (.of (cH hp))⟩
  ·cases e
 ·obtain⟨xs,ea,e⟩:=AT e;obtain⟨ys,eb,e⟩:=AT e;split at e
  ·rename_i w;cases e;obtain⟨l,vs,rfl,sl,f⟩:=o.Ld ea;obtain⟨m,us,rfl,t,d⟩:=rb.Ld eb;cases n;cases g;have h1:=f.length;have h2:=d.length;refine TU I sl t (by omega) λp hp=>q _ _ (cH hp) (λa ea=>by cases ea;exact hp) ⟨p,_,rfl,bK,(f.append d).kp (.of (cH hp))⟩
  ·cases e
def xO:Bx->Bx->Y Bx
 |.z (.int i),.z (.int j)=>if(-(2 ^ 64)<i/\i<2 ^ 64)\/(-(2 ^ 64)<j/\j<2 ^ 64)then Z (.z (.int (i*j)))else U
 |.z (.str x),.z (.int n)=>if n<=1000 ∧ -1000<=n/\x.length<=1000 then Z (.z (.str (Txt.mul x n)))else U
 |_,_=>U
theorem zO(x:Array Nat):∀(n:Nat) (a:Array Nat),((List.replicate n x).foldl (·++·) a).size=a.size+n*x.size
 |0,a=>by simp
 |n+1,a=>by
  rw[Ki,QN,zO x n,KU,Nat.succ_mul];omega
theorem Qh(x:AJ)(n:Int):(Txt.mul x n).length<=n.toNat*x.length+x.length:=by
 unfold Txt.mul;split
 ·exact QU _
 ·split
  ·exact Nat.le_add_left _ _
  ·show((List.replicate n.toNat x.cps).foldl (·++·) #[]).size<=_;rw[zO];show(#[]:Array Nat).size+n.toNat*x.cps.size<=n.toNat*x.cps.size+x.cps.size;simp
theorem rP:IK X (binaryOp .Mult) xO:=by
 intro AN s σ H x y v u Q I l g h;obtain⟨a,b,c,m,rb,e,q⟩:=h;unfold xO at e;split at e
 ·rename_i i j;split at e
  ·rename_i d;cases e;exact XX AN s σ H x y v u Q I l g ⟨i,j,Qe m,Qe rb,d,q _ H (AV.refl H) trivial GF⟩
  ·cases e
 ·rename_i f n;split at e
  ·rename_i d;cases e;obtain⟨rfl,hx⟩:=ZS m;have w:=Qe rb;subst w;obtain⟨t,rfl⟩:=l;obtain⟨p,rfl⟩:=g;have hs:AA=16777216:=sizeLine_eq;have z:n.toNat*f.length<=1000*1000:=Nat.mul_le_mul (by omega) d.2.2;refine SB.mul ⟨?_,λh1 h2=>?_,λh1 h2=>?_⟩ λp k=>⟨.str _,H,I.tok _,⟨_,rfl⟩,q _ H (AV.refl H) trivial (HE (ZO (Qh f n) (by omega)))⟩
   ·have e1:decide (n < -(2 ^ 63:Int))=false:=Zp (by omega);have e2:decide (n>=2 ^ 63)=false:=Zp (by omega);rw[e1,e2];rfl
   ·have o:0<n:=by omega
    have:(1000:Int)<=(2 ^ 63-1) / n:=(Int.le_ediv_iff_mul_le o).mpr (by omega);omega
   ·show decide (f.length*n.toNat>AA)=false;rw[Nat.mul_comm];exact Zp (by omega)
  ·cases e
 ·cases e
def M3(i j:AJ):Bool:=!(Builtin.Str.occurrences j i 0 j.length 1).isEmpty
def Bv:Dt->Bool
 |.non=>true
 |.bl _=>true
 |.int _=>true
 |.str _=>true
 |_=>false
def Co(x:Dt)(ys:O Dt):Y Bool:=if Bv x=true/\ys.all Bv=true then Z (ys.any λy=>match GD y x with|some true=>true|_=>false)else U
def Ab:Bx->Y (O Dt)
 |.z (.lst ds)=>Z ds
 |.z (.tup ds)=>Z ds
 |.l ds=>Z ds
 |.o ds=>Z ds
 |_=>U
def GI:Bx->Bx->Y Bool
 |.z (.str i),.z (.str j)=>Z (M3 i j)
 |.z d,b=>(Ab b).bind λys=>Co d ys
 |_,_=>U
def D9(a b:Bx):Y Bx:=(GI a b).bind λk=>Z (.z (.bl k))
theorem SX(r:AW K H d v)(f:Bv d=true):wO v=true:=by
 cases d<;>first|(cases f;done)|skip
 all_goals simp only[AW]at r
 ·subst r;rfl
 ·subst r;rfl
 ·subst r;rfl
 ·obtain⟨rfl,_⟩:=r;rfl
theorem NQ{K:B1}{H:Hp}:∀{ds:O Dt} {vs:O V},aQ K H ds vs->ds.all Bv=true->vs.all wO=true
 |[],_,h,_=>by simp only[aQ]at h;subst h;rfl
 |d::ds,_,h,f=>by
  simp only[aQ]at h;obtain⟨v,r,rfl,h1,h2⟩:=h;rw[kR,ZN]at f;rw[kR,SX h1 f.1,NQ h2 f.2];rfl
theorem Qi(b:Bool):(match Z b with|some true=>true|_=>false)=b:=by cases b<;>rfl
theorem T0{e:Dt}{x y:V}(b:AW K H d x)(a:AW K H e y)(fd:Bv d=true)(fe:Bv e=true):DM x y=(match GD d e with|some true=>true|_=>false):=by
 cases d<;>first|(cases fd;done)|skip
 all_goals (cases e<;>first|(cases fe;done)|skip)
 all_goals simp only[AW]at b a
 all_goals first
  |(subst b;subst a;exact(Qi _).symm)
  |(obtain⟨rfl,_⟩:=b;subst a;exact(Qi _).symm)
  |(subst b;obtain⟨rfl,_⟩:=a;exact(Qi _).symm)
  |(obtain⟨rfl,_⟩:=b;obtain⟨rfl,_⟩:=a;exact(Qi _).symm)
theorem Yc{K:B1}{H:Hp}{d:Dt}{x:V}(a:AW K H d x)(fd:Bv d=true):∀{ds:O Dt} {vs:O V},aQ K H ds vs->ds.all Bv=true->G0 x vs=ds.any λy=>match GD y d with|some true=>true|_=>false
 |[],_,h,_=>by simp only[aQ]at h;subst h;rfl
 |e::ds,_,h,f=>by
  simp only[aQ]at h;obtain⟨v,r,rfl,h1,h2⟩:=h;rw[kR,ZN]at f;have:=Yc a fd h2 f.2;unfold G0 at this ⊢;rw[kB,kB,T0 h1 a f.1 fd,this]
theorem Bw(h:bB K H b v)(e:Ab b=Z ds):∃a vs,v=.ref a/\(vI K H a vs\/Bd K H a vs)/\aQ K H ds vs:=by
 cases b with
 |z d=>
  cases d<;>first|(cases e;done)|skip
  ·cases e;obtain⟨a,vs,e,q,r⟩:=GB h;exact⟨a,vs,e,.inr q,r⟩
  ·cases e;obtain⟨a,vs,e,q,r⟩:=h.Ld rfl;exact⟨a,vs,e,.inl q,r⟩
 |l c=>
  cases e;obtain⟨a,vs,e,q,r⟩:=h.Ld rfl;exact⟨a,vs,e,.inl q,r⟩
 |o c=>
  cases e;obtain⟨a,vs,e,q,r⟩:=h.Ld rfl;exact⟨a,vs,e,.inl q,r⟩
 |n _=>cases e
 |m _ _=>cases e
theorem ZV{a:Bx}{x y:V}{k:Bool}(g:bB X.K H a x)(rb:bB X.K H b y)(e:GI a b=Z k):
  (∃i j,x=.str i/\y=.str j/\k=M3 i j)\/(∃p xs,y=.ref p/\(vI X.K H p xs\/Bd X.K H p xs)/\wO x=true/\xs.all wO=true/\k=G0 x xs):=by
 unfold GI at e;split at e
 ·rename_i i j;cases e;exact .inl ⟨i,j,(ZS g).1,(ZS rb).1,rfl⟩
 ·rename_i d _;obtain⟨ys,l,e⟩:=AT e;unfold Co at e;split at e
  ·rename_i c;cases e;obtain⟨p,vs,rfl,sq,h⟩:=Bw rb l;have f:AW X.K H d x:=g;exact .inr ⟨p,vs,rfl,sq,SX f c.1,NQ h c.2,(Yc f c.1 h c.2).symm⟩
  ·cases e
 ·cases e
theorem NT:IK X (AG .In) D9:=by
 intro AN s σ H x y v u Q I f d h;obtain⟨a,b,c,g,rb,e,q⟩:=h;obtain⟨k,ek,e⟩:=AT e;cases e;rcases ZV g rb ek with⟨i,j,rfl,rfl,rfl⟩|⟨p,xs,rfl,sq,f1,f2,rfl⟩
 ·exact Zv AN s σ H _ _ v u Q I f d ⟨i,j,rfl,rfl,q _ H (AV.refl H) trivial HA⟩
 ·exact Zy AN s σ H _ _ v u Q I f d ⟨p,xs,rfl,sq,f1,f2,q _ H (AV.refl H) trivial HA⟩
def Jk:Bx->Bool
 |.z .non=>true
 |_=>false
theorem NZ(h:bB K H b v):decide (v=.non)=Jk b:=by
 cases b with
 |z d=>
  cases d<;>simp only[bB,AW]at h
  ·subst h;rfl
  ·subst h;rfl
  ·subst h;rfl
  ·obtain⟨rfl,_⟩:=h;rfl
  ·obtain⟨_,_,rfl,_⟩:=h;rfl
  ·obtain⟨_,_,rfl,_⟩:=h;rfl
  ·obtain⟨_,_,rfl,_⟩:=h;rfl
 |l ds=>obtain⟨_,_,rfl,_⟩:=h;rfl
 |o ds=>obtain⟨_,_,rfl,_⟩:=h;rfl
 |n ds=>obtain⟨_,_,rfl,_⟩:=h;rfl
 |m ds _=>obtain⟨_,_,rfl,_⟩:=h;rfl
def D5(a:Bx):Bx->Y Bx
 |.z .non=>Z (.z (.bl (Jk a)))
 |_=>U
def Jl(a:Bx):Bx->Y Bx
 |.z .non=>Z (.z (.bl (!Jk a)))
 |_=>U
theorem Cf:IK X (AG .Is) D5:=zK.imp ay λx y H Q q=>by
 obtain⟨a,b,c,d,rb,e,q⟩:=q;unfold D5 at e;split at e
 ·cases e;simp only[bB,AW]at rb;exact⟨rb,by rw[NZ d];exact q _ H (AV.refl H) trivial HA⟩
 ·cases e
theorem Qj:IK X (AG .IsNot) Jl:=zK.imp n9 λx y H Q q=>by
 obtain⟨a,b,c,d,rb,e,q⟩:=q;unfold Jl at e;split at e
 ·cases e;simp only[bB,AW]at rb;exact⟨rb,by rw[NZ d];exact q _ H (AV.refl H) trivial HA⟩
 ·cases e
def fH:Bx->Bx->Y Bx
 |.z (.str x),.z (.int i)=>(Lf x.cps.toList i).bind λc=>Z (.z (.str ⟨#[c]⟩))
 |b,.z (.int i)=>(Ab b).bind λds=>(Lf ds i).bind λd=>Z (.z d)
 |_,_=>U
theorem VS{i:Int}(r:aQ K H ds vs)(e:Lf ds i=Z d):∃v,Lf vs i=Z v/\AW K H d v:=by
 unfold Lf at e ⊢;rw[r.length];obtain⟨j,a,e⟩:=AT e;rw[a];exact r.get e
theorem aW{a b:Expr}(l:QV X a fa)(hb:QV X b fb)(hs:XM b:=by intro _ _;with_unfolding_all rfl):QV X (.Subscript a b pos) (b2 fH fa fb):=⟨have l:=l.run;have hb:=hb.run;Li (bn e7 l hb hs) λσ H Q h=>by
 obtain⟨H0,ρ,c,E,e,q⟩:=h;obtain⟨a,ea,e⟩:=AT e;obtain⟨b,eb,e⟩:=AT e;refine⟨H0,ρ,a,E,ea,λv H1 f C t=>⟨H0,ρ,b,E.grow f,eb,λu H2 g D n=>?_⟩⟩;have j:=t.same g;unfold fH at e;split at e
 ·rename_i x i;obtain⟨B,y,e⟩:=AT e;cases e;exact .inr (.inr ⟨_,_,B,(ZS j).1,Qe n,(ZS j).2,y,q _ _ (f.trans g) trivial (HE (by show(1:Nat)<=AA;decide))⟩)
 ·obtain⟨ds,s,e⟩:=AT e;obtain⟨d,z,e⟩:=AT e;cases e;obtain⟨p,vs,rfl,sq,A⟩:=Bw j s;obtain⟨w,m,o⟩:=VS A z;have hi:=Qe n;rcases sq with sq|sq
  ·exact .inl ⟨p,vs,_,w,rfl,hi,sq,m,q _ _ (f.trans g) trivial o⟩
  ·exact .inr (.inl ⟨p,vs,_,w,rfl,hi,sq,m,q _ _ (f.trans g) trivial o⟩)
 ·cases e⟩
theorem bP:AH "int"=Z (.type "int"):=by decide +kernel
theorem iI:AH "tuple"=Z (.type "tuple"):=by decide +kernel
theorem dy:AH "list"=Z (.type "list"):=by decide +kernel
theorem rQ:AH "len"=Z (.builtin "len"):=by decide +kernel
theorem PY:AH "abs"=Z (.builtin "abs"):=by decide +kernel
theorem Jm:AH "min"=Z (.builtin "min"):=by decide +kernel
theorem xP:AH "max"=Z (.builtin "max"):=by decide +kernel
theorem rM:AH "sorted"=Z (.builtin "sorted"):=by decide +kernel
theorem Wa:AH "sum"=Z (.builtin "sum"):=by decide +kernel
def YY(K:B1)(f:Ev->Y (Y Int)):TO:=λσ H Q=>∃H0 ρ o,bR K H0 H σ ρ/\f ρ=Z o/\∀H',AV H H'->Q o H'
def UX(X:Cx)(e:Y Expr)(f:Ev->Y (Y Int)):Prop:=PO X e (YY X.K f)
structure GH (X:Cx) (e:Option Expr) (f:Ev->Option (Option Int)):Prop where
 run:UX X e f
theorem LM{e:Y Expr}{t t':TO}(h:PO X e t)(m:∀ σ H Q,t' σ H Q->t σ H Q):PO X e t':=λAN s σ H Q I q=>h AN s σ H Q I (m σ H Q q)
def oN:Ev->Y (Y Int):=λ_=>Z U
theorem jQ  :GH X U oN:=⟨LM bS λσ H Q h=>by
 obtain⟨H0,ρ,o,E,e,q⟩:=h;cases e;exact q H (AV.refl H)⟩
def Hk:Bx->Y (Y Int)
 |.z (.int i)=>Z (Z i)
 |_=>U
def tL(f:Ev->Y Bx):Ev->Y (Y Int):=λρ=>(f ρ).bind Hk
theorem jR(h:QV X e f):GH X (Z e) (tL f):=⟨have h:=h.run;LM (RC h) λσ H Q q=>by
 obtain⟨H0,ρ,o,E,e,q⟩:=q;obtain⟨b,eb,e⟩:=AT e;refine⟨H0,ρ,b,E,eb,λv H1 a d c=>?_⟩;unfold Hk at e;split at e
 ·rename_i i;cases e;exact⟨i,Qe c,q H1 a⟩
 ·cases e⟩
def C0(xs:O Dt)(lo hi:Y Int):O Dt:=(xs.drop (HT.jM xs.length 0 lo)).take (HT.jM xs.length xs.length hi-HT.jM xs.length 0 lo)
theorem S5(r:aQ K H ds vs)(lo hi:Y Int):aQ K H (C0 ds lo hi) (R4 vs lo hi):=by
 unfold C0 R4;rw[r.length];exact(r.drop _).take _
theorem WF(ds:O Dt)(h1:HT.jM ds.length 0 lo=0)(h2:HT.jM ds.length ds.length hi=ds.length):C0 ds lo hi=ds:=by
 unfold C0;rw[h1,h2];simp
theorem BJ{t sl:A1}{b c:A0}{Q:B7}(a:IsTup s.heap t items)(hs:s.heap.IsSliceOf sl b c .none)(pl:IsPart b lo)(e:IsPart c hi)(h1:HT.jM items.size 0 lo=0)(h2:HT.jM items.size items.size hi=items.size)(h:Q (.ref t) s):A7 (A8 prog w) A (getItem (.ref t) (.ref sl)) Q E s:=by
 obtain⟨os,g,f,j⟩:=id hs;have d:s.TypeIs (.ref sl) "slice":=⟨os,g,f⟩;unfold getItem
 try with_reducible refine QR ?_
 first|refine zd (zg ?_)|skip
 refine zd (wpAny_sequenceKey a.typeIs (by decide) ?_);refine zd (YA (name:=Str.ofString "__getitem__") a.typeIs PyProof.Rows.slot_tuple_getitem
  (kK PyProof.Rows.slot_tuple_getitem a.typeIs entry_tuple_getitem ?_ (args_tuple_getitem _ _)))
 show A7 _ _ (Builtin.Tuple.tupleItemsOf (.ref t) >>= _) _ _ s;refine zd (tupleItemsOf_ a ?_);refine zd (Q3 d ?_);rw[zr (by decide)];refine zd (HT.uR hs pl e ?_);have i:(((HT.jM items.size 0 lo:Nat):Int)==0&&(1:Int)==1&&(HT.jM items.size items.size hi-HT.jM items.size 0 lo)==items.size)=true:=by
  rw[h1,h2];simp
 show A7 _ _ (if(((HT.jM items.size 0 lo:Nat):Int)==0&&(1:Int)==1&&(HT.jM items.size items.size hi-HT.jM items.size 0 lo)==items.size)=true then _ else _) _ _ s;rw[zr i]
 first
  |refine zd (zd (Q3 a.typeIs (zg ?_)))
  |refine zd (Q3 a.typeIs (zd (zg ?_)))
  |refine zd (Q3 a.typeIs ?_)
 rw[zr (by decide)]
 first
  |exact zd (Kx (zg ⟨_,rfl,zg h⟩))
  |exact zd (Kx (zd (zg (zg ⟨_,rfl,zg h⟩))))
def EB(b:Bx)(lo hi:Y Int):Y Bx:=match b with
 |.z (.str x)=>Z (.z (.str (Txt.slice x lo hi)))
 |.z (.tup ds)=>Z (.z (.tup (C0 ds lo hi)))
 |b=>(sX b).bind λds=>Z (.o (C0 ds lo hi))
def li(K:B1):V->Y Int->Y Int->Hp->VK->Prop:=λx lo hi H Q=>∃b c,bB K H b x/\EB b lo hi=Z c/\∀w H',AV H H'->Nw H c w->bB K H' c w->Q w H'
theorem fE:GN X (li X.K):=by
 intro AN s σ H x v A D lo hi sl Q I n hs pl d h;obtain⟨b,c,rb,e,q⟩:=h;unfold EB at e;split at e
 ·rename_i y;cases e;obtain⟨rfl,m⟩:=ZS rb;obtain⟨t,rfl⟩:=n;refine⟨"str", _,F.slot_str_getitem.lookup,typeIs_str _ _ _,?_⟩;obtain⟨o,e1,e2,e3⟩:=hs;have w:∀C k,EP X AN σ Q (.str (Txt.slice y lo hi) C) { s with toks:=k }:=λC k=>⟨.str _,H,I.tok _,⟨_,rfl⟩,q _ H (AV.refl H) trivial (HE (ZO (Txt.slice_le y _ _) m))⟩;cases pl with
  |none=>
   cases d with
   |none=>exact KF (l:=U) (u:=U) (st:=U) ⟨o,e1,e2,e3⟩ S (post_val_or_str ⟨ZO (Txt.slice_le y _ _) m,w⟩)
   |int j z=>exact KF (l:=U) (u:=Z (j,z)) (st:=U) ⟨o,e1,e2,e3⟩ S (post_val_or_str ⟨ZO (Txt.slice_le y _ _) m,w⟩)
  |int i G=>
   cases d with
   |none=>exact KF (l:=Z (i,G)) (u:=U) (st:=U) ⟨o,e1,e2,e3⟩ S (post_val_or_str ⟨ZO (Txt.slice_le y _ _) m,w⟩)
   |int j z=>exact KF (l:=Z (i,G)) (u:=Z (j,z)) (st:=U) ⟨o,e1,e2,e3⟩ S (post_val_or_str ⟨ZO (Txt.slice_le y _ _) m,w⟩)
 ·rename_i ds;cases e;obtain⟨a,vs,rfl,sq,f⟩:=GB rb;by_cases g:HT.jM vs.length 0 lo=0/\HT.jM vs.length vs.length hi=vs.length
  ·cases n;obtain⟨AQ,r,B,L⟩:=I.tuple sq;have E:AQ.toArray.size=vs.length:=by rw[zI];exact r.length.symm
   refine⟨"tuple", _,PyProof.Rows.slot_tuple_getitem.lookup,B.typeIs,BJ B hs pl d (by rw[E];exact g.1) (by rw[E];exact g.2) ⟨.ref a,H,I,rfl,q _ H (AV.refl H) trivial ?_⟩⟩;rw[WF ds (by rw[<-f.length];exact g.1) (by rw[<-f.length];exact g.2)];exact rb
  ·refine S' AN s σ H _ v A D lo hi sl Q I n hs pl d ⟨a,vs,rfl,sq,g,λp hp=>q _ _ (cH hp) trivial ?_⟩;unfold bB AW;exact⟨p,_,rfl,.inl (.inl bK),(S5 f lo hi).kp (.of (cH hp))⟩
 ·obtain⟨ds,J,e⟩:=AT e;cases e;obtain⟨a,vs,rfl,sq,f⟩:=rb.Ld J;exact bE AN s σ H _ v A D lo hi sl Q I n hs pl d ⟨a,vs,rfl,sq,λp hp=>q _ _ (cH hp) (λa ea=>by cases ea;exact hp) ⟨p,_,rfl,bK,(S5 f lo hi).kp (.of (cH hp))⟩⟩
def N5(f:Ev->Y Bx)(fl fh:Ev->Y (Y Int)):Ev->Y Bx:=λρ=>(f ρ).bind λb=>(fl ρ).bind λlo=>(fh ρ).bind λhi=>EB b lo hi
theorem xQ{lo hi:Y Expr}{fl fh:Ev->Y (Y Int)}(he:QV X e f)(a:GH X lo fl)(g:GH X hi fh):QV X (.Subscript e (.Slice lo hi U p2) pos) (N5 f fl fh):=⟨have he:=he.run;have a:=a.run;have g:=g.run;Li (SL fE he a g) λσ H Q h=>by
 obtain⟨H0,ρ,c,E,e,q⟩:=h;obtain⟨b,eb,e⟩:=AT e;obtain⟨lo,el,e⟩:=AT e;obtain⟨hi,o,e⟩:=AT e;refine⟨H0,ρ,b,E,eb,λv H1 d u p=>⟨H0,ρ,lo,E.grow d,el,λH2 i=>⟨H0,ρ,hi,E.grow (d.trans i),o,λx j=>?_⟩⟩⟩;have l:=(d.trans i).trans j;exact⟨b,c,(p.same i).same j,e,λw s m t n=>q w s (l.trans m) (t.old l) n⟩⟩
def uF:O Bx->Y Bx
 |[.z (.str x)]=>Z (.z (.int x.length))
 |[b]=>(Ab b).bind λds=>Z (.z (.int ds.length))
 |_=>U
theorem BN(r:tH K H [b] vs):∃v,vs=[v]/\bB K H b v:=by
 cases r with
 |cons p t=>cases t;exact⟨_,rfl,p⟩
theorem FD{c:Bx}(r:tH K H [b,c] vs):∃v u,vs=[v,u]/\bB K H b v/\bB K H c u:=by
 cases r with
 |cons p t=>
  cases t with
  |cons p' a=>cases a;exact⟨_,_,rfl,p,p'⟩
theorem rR:uU X (.builtin "len") uF:=jL.imp (PJ.or PK) λxs H Q q=>by
 obtain⟨bs,c,rb,e,q⟩:=q;unfold uF at e;split at e
 ·rename_i x;cases e;obtain⟨v,rfl,a⟩:=BN rb;obtain⟨rfl,hx⟩:=ZS a;exact .inr ⟨x,rfl,hx,q _ H (AV.refl H) trivial GF⟩
 ·obtain⟨ds,b,e⟩:=AT e;cases e;obtain⟨v,rfl,a⟩:=BN rb;obtain⟨p,vs,rfl,sq,d⟩:=Bw a b;exact .inl ⟨p,vs,rfl,sq,by rw[d.length];exact q _ H (AV.refl H) trivial GF⟩
 ·cases e
def FV:O Bx->Y Bx
 |[.z (.int i)]=>Z (.z (.int (if i<0 then -i else i)))
 |_=>U
theorem ai:uU X (.builtin "abs") FV:=jL.imp im λxs H Q q=>by
 obtain⟨bs,c,rb,e,q⟩:=q;unfold FV at e;split at e
 ·rename_i i;cases e;obtain⟨v,rfl,a⟩:=BN rb;have:=Qe a;subst this;exact⟨i,rfl,q _ H (AV.refl H) trivial GF⟩
 ·cases e
def F2:O Bx->Y Bx
 |[.z (.int i)]=>Z (.z (.int i))
 |[.z (.bl k)]=>Z (.z (.int (if k then 1 else 0)))
 |_=>U
theorem SR:uU X (.type "int") F2:=jL.imp Zw λxs H Q q=>by
 obtain⟨bs,c,rb,e,q⟩:=q;unfold F2 at e;split at e
 ·rename_i i;cases e;obtain⟨v,rfl,a⟩:=BN rb;have:=Qe a;subst this;exact .inl ⟨i,rfl,q _ H (AV.refl H) trivial GF⟩
 ·rename_i k;cases e;obtain⟨v,rfl,a⟩:=BN rb;simp only[bB,AW]at a;subst a;exact .inr ⟨k,rfl,q _ H (AV.refl H) trivial GF⟩
 ·cases e
def gF:O Bx->Y Bx
 |[b]=>(Ab b).bind λds=>Z (.z (.tup ds))
 |_=>U
theorem iJ:uU X (.type "tuple") gF:=jL.imp Lh λxs H Q q=>by
 obtain⟨bs,c,rb,e,q⟩:=q;unfold gF at e;split at e
 ·obtain⟨ds,d,e⟩:=AT e;cases e;obtain⟨v,rfl,f⟩:=BN rb;obtain⟨p,vs,rfl,sq,a⟩:=Bw f d;refine⟨p,vs,rfl,?_⟩;rcases sq with sq|sq
  ·refine .inl ⟨sq,λl b=>q _ _ (cH b) trivial ?_⟩;unfold bB AW;exact⟨l,vs,rfl,.inl (.inl bK),a.kp (.of (cH b))⟩
  ·refine .inr ⟨sq,q _ H (AV.refl H) trivial ?_⟩;unfold bB AW;exact⟨p,vs,rfl,sq,a⟩
 ·cases e
end P1
namespace P1
open L2
def gv(i:Nat):Ev->Y Bx:=λρ=>uV ρ i
def pK(g:Bx->Bx->Y Bx)(fa fb:Ev->Y Bx):Ev->Y Bool:=λρ=>(b2 g fa fb ρ).bind PN
def tV(f:Ev->Y Bx):Ev->Y Bool:=λρ=>(f ρ).bind VR
def aJ:Ev->Y (O Bx):=λ_=>Z []
def eE:Ev->Y Ap:=λρ=>Z (.nx ρ)
def fK(f:Ev->Y Bx):Ev->Y Ap:=λρ=>(f ρ).bind FI
def As(i:Nat)(f:Ev->Y Bx):Ev->Y Ap:=λρ=>(f ρ).bind λb=>(ZJ ρ i b).bind λa=>Z (.nx a)
def DX(gt:Dt->Ev->Y Ev)(f:Ev->Y Bx):Ev->Y Ap:=λρ=>(f ρ).bind λb=>match b with|.z d=>(gt d ρ).bind λa=>Z (.nx a)|_=>U
def ZW(i j:Nat)(fs:Ev->Y (O Bx)):Ev->Y Ap:=λρ=>(fs ρ).bind (HC i j ρ)
def Lq(i:Nat)(f:Ev->Y Bx):Ev->Y Ap:=λρ=>(f ρ).bind (Gc ρ i)
def xR(fi:Ev->Y (O Dt))(gt:Dt->Ev->Y Ev)(gb:Ev->Y Ap):Ev->Y Ap:=λρ=>(fi ρ).bind λds=>qR gt gb ds ρ
def DO(f:Ev->Y Bx):Ev->Y (O Dt):=λρ=>(f ρ).bind Ee
def zP(f:Ev->Y Bx):Ev->Y (O Dt):=λρ=>(f ρ).bind HI
def ZX(fs:Ev->Y (O Bx)):Ev->Y (O Dt):=λρ=>(fs ρ).bind L0
def eZ(i:Nat):Dt->Ev->Y Ev:=λd ρ=>Z (ρ.set i (Z (.z d)))
def oG:Ev->Y Bool:=λ_=>Z true
theorem cY:xq X [] oG:=⟨.inl ⟨rfl,rfl⟩⟩
theorem fL(h:QB X c p):xq X [c] p:=⟨have h:=h.run;.inr ⟨c,rfl,h⟩⟩
theorem RA:Lj X scope cl [] []:=trivial
theorem mx{xs:AZ}(n:X.N[i]?=Z x)(k:X.env.kindOf x=Z .cell\/X.env.kindOf x=Z .free)(a:(relabel scope X.env).names.lookup x=Z .cell\/(relabel scope X.env).names.lookup x=Z .free)(c:∃c,cl.lookup x=Z c)(r:Lj X scope cl xs is):Lj X scope cl (x::xs) (i::is):=⟨⟨n,k,a,c⟩,r⟩
theorem mem_of_lookup{a:O (AJ×NameKind)}{x:AJ}{k:NameKind}:a.lookup x=Z k->(x,k)∈a:=kC
theorem Si{xs:AZ}(clos:closureFor scope X.env=pure cl)(kind:scope.kind=.function)(cell:scope.names.all (λy=>decide (y.2≠.cell)||(cl.lookup y.1).isNone)=true)(names:scope.names.all (λy=>decide (y.2=.local->scope.names.lookup y.1=Z .local))=true)(sub:C8 X.env.cells cl)(has:(relabel scope X.env).names.all (λy=>!(y.2==.cell||y.2==.free)||(cl.lookup y.1).isSome||scope.names.contains (y.1,.cell))=true)(cap:Lj X scope cl xs is):uD X scope cl xs is where
 clos:=clos
 kind:=kind
 cell:=λy a c=>by
  have:=List.all_eq_true.mp cell y a;simp only[c,ne_eq,not_true_eq_false,k8,Bool.false_or,Option.isNone_iff_eq_none]at this;exact this
 names:=λy a=>qk (List.all_eq_true.mp names y a)
 sub:=sub
 has:=λx hx=>by
  have h:∃k,(relabel scope X.env).names.lookup x=Z k/\(k==NameKind.cell||k==NameKind.free)=true:=by
   rcases hx with hx|hx
   ·exact⟨_,hx,rfl⟩
   ·exact⟨_,hx,rfl⟩
  obtain⟨k,e,b⟩:=h;have:=List.all_eq_true.mp has _ (mem_of_lookup e);simp only[b,kU,Bool.false_or,Kt]at this;rcases this with h|h
  ·exact .inr (Option.isSome_iff_exists.mp h)
  ·exact .inl (List.contains_iff_mem.mp h)
 cap:=cap
theorem HD{k:Nat}(r:oF k A):A.units+100<cLine:=by have:=r.un;omega
theorem Uf{F:O Bx->Y Bx}(h:∀b:O Int,b.length<=63->F [.z (.lst (b.map .int))]=Z (.z (.bl true)))(i:∀b:O Int,b.length<=63->F [.l (b.map .int)]=Z (.z (.bl true)))(K:B1)(H:Hp)(a:A1)(b:O Int)(e:b.length<=63)(_:Cc H)(d:vI K H a (b.map V.int)):
  D4 K 1 F [.ref a] H (λv _=>v=.bl true) λ_ _ _=>False:=by
 have f:∀c:O Int,aQ K H (c.map Dt.int) (c.map V.int):=λc=>by
  induction c with
  |nil=>exact aQ.nil
  |cons m c j=>exact aQ.cons (by unfold AW;rfl) j
 have g:∀v (H':Hp),AV H H'->Nw H (.z (.bl true)) v->bB K H' (.z (.bl true)) v->v=.bl true:=λv H' _ _ r=>by simpa only[bB,AW]using r
 rcases d with d|d
 ·exact⟨rfl,[.l (b.map .int)],_,.cons ⟨a,_,rfl,d,f b⟩ .nil,rfl,i b e,g⟩
 ·refine⟨rfl,[.z (.lst (b.map .int))],_,.cons ?_ .nil,rfl,h b e,g⟩;unfold bB AW;exact⟨a,_,rfl,.inr d,f b⟩
theorem NB{st:AB}{f:A1}{k m:Nat}(F:CY K x qual st f fd)(S:bF N ps (aP st))(c:N.length=n)(b:ps.length=m)(d:∀(a:A0) (A:A5) (outer:O Env) (s:A2) (H:Hp) (E:XK),oF k (A.deeper (AK qual (aP st) s.heap.objs.size f a))->Vw (Gy Dz P w K mg base N qual (aP st) f a A outer s H E).nox (jH st) g):
  qQ P w K mg base Dz (k+1) f fd ps (D4 K m (dh n g)):=by
 subst c b;exact TD F S d
section
variable{st:Expr}{fs:Ev->Y Bx}
theorem Qk{α β:Type}{f:α->Y β}{g:α->β}:∀l:O α,(∀a∈l,f a=Z (g a))->l.filterMap f=l.map g
 |[],_=>rfl
 |a::l,h=>by
  rw[Kj,h a (zh ..),zl,Qk l λb hb=>h b (zi _ hb)]
theorem aQ.rev{K:B1}{H:Hp}:∀{ds:O Dt} {vs:O V},aQ K H ds vs->aQ K H ds.reverse vs.reverse
 |[],_,h=>by simp only[aQ]at h;subst h;exact aQ.nil
 |d::ds,_,h=>by
  simp only[aQ]at h;obtain⟨v,r,rfl,hd,a⟩:=h;rw[k5,k5];exact aQ.append (aQ.rev a) (aQ.cons hd aQ.nil)
theorem TB{st:O AB}:Vw X st (λ_=>U):=λD AN s σ H I q=>by
 obtain⟨H0,ρ,r,E,e,q⟩:=q;cases e
end
def EG:Bx->Bx->Y Bx
 |.z (.int i),.z (.int j)=>Z (.z (.bl (decide (i<j))))
 |.z (.str x),.z (.str y)=>Z (.z (.bl (decide (x.cps.toList<y.cps.toList))))
 |_,_=>U
theorem Wb:IK X (AG .Lt) EG:=by
 intro AN s σ H x y v u Q I g d h;obtain⟨a,b,c,f,rb,e,q⟩:=h;unfold EG at e;split at e
 ·rename_i i j;cases e;exact WA AN s σ H x y v u Q I g d ⟨i,j,Qe f,Qe rb,q _ H (AV.refl H) trivial (by unfold bB;exact FE)⟩
 ·rename_i i j;cases e;obtain⟨rfl,_⟩:=ZS f;obtain⟨rfl,_⟩:=ZS rb;obtain⟨t,rfl⟩:=g;obtain⟨l,rfl⟩:=d;exact PySem.P.lt_str ⟨.bl _,H,I,rfl,q _ H (AV.refl H) trivial (by unfold bB;exact FE)⟩
 ·cases e
def Jo:O Dt->Y AZ
 |[]=>Z []
 |.str x::r=>(Jo r).bind λys=>Z (x::ys)
 |_=>U
theorem DY{K:B1}{H:Hp}:∀{ds:O Dt} {vs:O V} {ys:AZ},aQ K H ds vs->Jo ds=Z ys->vs=ys.map V.str/\∀y∈ys,y.length<=AA
 |[],_,_,h,e=>by cases e;simp only[aQ]at h;subst h;exact⟨rfl,λy a=>by cases a⟩
 |.str x::ds,_,_,h,e=>by
  simp only[Jo]at e;obtain⟨ys,e1,e2⟩:=AT e;cases e2;simp only[aQ]at h;obtain⟨v,r,rfl,hd,b⟩:=h;obtain⟨rfl,hx⟩:v=.str x/\x.length<=AA:=by simpa only[AW]using hd
  obtain⟨rfl,h2⟩:=DY b e1;refine⟨rfl,λy a=>?_⟩;rcases List.mem_cons.mp a with rfl|a
  ·exact hx
  ·exact h2 y a
 |.non::_,_,_,_,e=>by cases e
 |.bl _::_,_,_,_,e=>by cases e
 |.int _::_,_,_,_,e=>by cases e
 |.tup _::_,_,_,_,e=>by cases e
 |.lst _::_,_,_,_,e=>by cases e
 |.emp::_,_,_,_,e=>by cases e
theorem Jp{K:B1}{H:Hp}:∀{ys:AZ},(∀y∈ys,y.length<=AA)->aQ K H (ys.map Dt.str) (ys.map V.str)
 |[],_=>aQ.nil
 |y::ys,h=>aQ.cons (by unfold AW;exact⟨rfl,h y (zh ..)⟩) (Jp λz a=>h z (zi _ a))
theorem Ad:∀{ys:AZ} {AQ:O A0},AX (ys.map V.str) AQ->StrsAre AQ ys
 |[],_,h=>by cases h;exact .nil
 |y::ys,_,h=>by
  cases h with
  |cons r t=>
   obtain⟨tk,rfl⟩:=r;exact .cons y tk (Ad t)
theorem Ea:∀{AQ:O A0} {ys:AZ},StrsAre AQ ys->AX (ys.map V.str) AQ
 |_,_,.nil=>.nil
 |_,_,.cons y t h=>.cons ⟨t,rfl⟩ (Ea h)
theorem Ql:jL X (.builtin "sorted") (λxs H Q=>∃p ys,xs=[.ref p]/\vI X.K H p (ys.map V.str)/\ys.length<64/\∀l zs,H l=U->zs.Perm ys->sortedS zs=true->Q (.ref l) (B4 H l (.lst (zs.map V.str)))):=by
 intro AN s σ H xs us Q I r h;obtain⟨p,ys,rfl,m,v,q⟩:=h;obtain⟨u,rfl,i⟩:=BC r;cases i;obtain⟨AQ,d,pl,c⟩:=I.list m;have j:=d.length;rw[zk]at j c;refine sorted_strs pl.isList (Ad d) (by omega) λf zs hs hp t=>?_;obtain⟨n,g⟩:=sortedAll_at s.heap AQ f;refine⟨.ref (s.heap.objs.size+1),_,I.laid (t':=s.toks) (a:=s.heap.objs.size+1) (o:=.lst (zs.map V.str)) (λb o e=>sortedAll_old e) (JU _) ?_,rfl,q _ zs (I.hok.fresh (JU _)) hp t⟩;refine⟨by rw[zk,hp.length_eq];exact c,f.toList,n,Ea hs,?_⟩;rw[g]
def qN(a b:AJ):Prop:=ltCps b.cps.toList a.cps.toList=false
theorem BK:∀(p:AJ) (l:AZ),risingS p l=true->(p::l).Pairwise qN
 |p,[],_=>by simp
 |p,x::r,h=>by
  have h':(!ltCps x.cps.toList p.cps.toList&&risingS x r)=true:=h;rw[ZN]at h';have c:=BK x r h'.2;have hx:qN p x:=by simpa[qN]using h'.1
  refine List.pairwise_cons.mpr ⟨λy b=>?_,c⟩;rcases List.mem_cons.mp b with rfl|b
  ·exact hx
  ·have a:qN x y:=kq c b;unfold qN at hx a ⊢;rw[ltCps_eq]at hx a ⊢;simp only[jS]at hx a ⊢;exact List.le_trans (α:=Nat) hx a
theorem Qm{l:AZ}(h:sortedS l=true):l.Pairwise qN:=by
 cases l with
 |nil=>exact .nil
 |cons p l=>exact BK p l h
theorem Jq{a b:AJ}(h:qN a b)(h':qN b a):a=b:=by
 unfold qN at h h';rw[ltCps_eq]at h h';simp only[jS]at h h';have:=List.le_antisymm (as:=a.cps.toList) (bs:=b.cps.toList) h h';cases a;cases b;simp only[Str.mk.injEq];exact Array.toList_inj.mp this
theorem Qn:∀{l l':AZ},l.Perm l'->l.Pairwise qN->l'.Pairwise qN->l=l'
 |[],l',h,_,_=>by rw[List.nil_perm.mp h]
 |a::l,[],h,_,_=>by cases List.perm_nil.mp h
 |a::l,b::l',h,p,p'=>by
  have e:a=b:=by
   have c:a∈b::l':=h.mem_iff.mp (zh ..);have hb:b∈a::l:=h.mem_iff.mpr (zh ..);rcases List.mem_cons.mp c with h1|h1
   ·exact h1
   ·rcases List.mem_cons.mp hb with h2|h2
    ·exact h2.symm
    ·exact Jq (kq p h2) (kq p' h1)
  subst e;rw[Qn ((List.perm_cons a).mp h) (List.pairwise_cons.mp p).2 (List.pairwise_cons.mp p').2]
def Z0(a b:AJ):Bool:=!ltCps b.cps.toList a.cps.toList
def xT(ys:AZ):AZ:=ys.mergeSort Z0
theorem oO(ys:AZ):(xT ys).Perm ys:=ym ys Z0
theorem Jr(ys:AZ):(xT ys).Pairwise qN:=by
 have h:=KG (le:=Z0) (λa b c h1 h2=>by
  unfold Z0 at *
  rw[ltCps_eq]at *
  simp only[js,jS]at *
  exact List.le_trans (α:=Nat) h1 h2) (λa b=>by
  unfold Z0;rw[ltCps_eq,ltCps_eq];simp only[Kt,js,jS];exact List.le_total a.cps.toList b.cps.toList) ys
 exact h.imp λ{a b} hh=>by simpa[Z0,qN]using hh
theorem ng{ys zs:AZ}(hp:zs.Perm ys)(hs:sortedS zs=true):zs=xT ys:=Qn (hp.trans (oO ys).symm) (Qm hs) (Jr ys)
def N6:O Bx->Y Bx
 |[b]=>(sX b).bind λds=>(Jo ds).bind λys=>if ys.length<64 then Z (.o ((xT ys).map Dt.str))else U
 |_=>U
theorem Z1:uU X (.builtin "sorted") N6:=jL.imp Ql λxs H Q q=>by
 obtain⟨bs,c,rb,e,q⟩:=q;unfold N6 at e;split at e
 ·rename_i b;obtain⟨ds,g,e⟩:=AT e;obtain⟨ys,j,e⟩:=AT e;split at e
  ·rename_i f;cases e;obtain⟨v,rfl,i⟩:=BN rb;obtain⟨p,vs,rfl,sq,n⟩:=i.Ld g;obtain⟨rfl,m⟩:=DY n j;refine⟨p,ys,rfl,sq,f,λl zs d hp hs=>?_⟩;rw[ng hp hs];refine q _ _ (cH d) (λa ea=>by cases ea;exact d) ⟨l,_,rfl,bK,Jp λy h=>m y ((oO ys).mem_iff.mp h)⟩
  ·cases e
 ·cases e
def S7(x:AJ)(b:Bx):Y Bx:=(sX b).bind λds=>(Jo ds).bind λys=>if(ys.map (·.length)).sum+ys.length*x.length<=100000 then Z (.z (.str (Txt.join x ys)))else U
theorem XW:MU X "str.join" (λx xs H Q=>∃y p ys,x=.str y/\xs=[.ref p]/\vI X.K H p (ys.map V.str)/\(ys.map (·.length)).sum+ys.length*y.length<=100000/\Q (.str (Txt.join y ys)) H):=by
 intro AN s σ H x xs v us Q I a d h;obtain⟨y,p,ys,rfl,rfl,sq,hb,q⟩:=h;obtain⟨t,rfl⟩:=a;obtain⟨u,rfl,b⟩:=BC d;cases b;obtain⟨AQ,c,pl,e⟩:=I.list sq;exact join_list pl.isList (Ad c) (by omega) λf k=>⟨.str _,H,I.tok _,⟨_,rfl⟩,q⟩
theorem YO{p1:Pos}(h:QV X e f)(hx:x.length<=AA:=by decide)(o:attributeBase (.Constant (.str x) j p1) "join" X.env (eval (.Constant (.str x) j p1) X.env)=eval (.Constant (.str x) j p1) X.env:=by rfl)(t:((AD cpos (A9 [e] X.env)).all (λx=>!x.1)&&(backToKw cpos (keywordEach [] X.env)).all (λx=>x.1.isSome)&&decide ([e].length+([]:O AC).length+(if([]:O AC).isEmpty then 0 else 1)<30))=true:=by rfl)(d:(apos.endLine==cpos.line)=true:=by rfl)(hs:A9 [e] X.env=(false,eval e X.env)::A9 [] X.env:=by rfl):QV X (.Call (.Attribute (.Constant (.str x) j p1) "join" apos) [e] [] cpos) (b1 (S7 x) f):=⟨have h:=h.run;Li (Hn (T :="str") F.plainAttrs_str F.slot_str_join F.type_str_join XW (LY (hx:=hx)) (R9 h X4 hs) o t d hs S) λσ H Q q=>by
  obtain⟨H0,ρ,c,E,e,q⟩:=q;obtain⟨a,ea,e⟩:=AT e;refine⟨H0,ρ,_,E,rfl,λv H1 b A l=>?_⟩;obtain⟨rfl,z⟩:v=.str x/\x.length<=AA:=by simpa only[bB,AW]using l
  refine⟨rfl,H0,ρ,[a],E.grow b,by simp only[aq,ea,Option.bind_some],λvs H2 u g=>?_⟩;obtain⟨w,rfl,n⟩:=BN g;unfold S7 at e;obtain⟨ds,i,e⟩:=AT e;obtain⟨ys,m,e⟩:=AT e;split at e
  ·rename_i hb;cases e;obtain⟨p,y,rfl,sq,s⟩:=n.Ld i;obtain⟨rfl,B⟩:=DY s m;refine⟨x,p,ys,rfl,rfl,sq,hb,q _ _ (b.trans u) trivial ?_⟩;unfold bB AW;exact⟨rfl,joinOk_length (joinOk_of (by omega))⟩
  ·cases e⟩
def GJ:O Bx->Y Bx
 |[.z (.int a),.z (.int b)]=>Z (.z (.int (if b>a then b else a)))
 |_=>U
def S8:O Bx->Y Bx
 |[.z (.int a),.z (.int b)]=>Z (.z (.int (if b<a then b else a)))
 |_=>U
theorem Hm{a:Bx}(h:tH K H [a,b] vs):∃v w,vs=[v,w]/\bB K H a v/\bB K H b w:=by
 cases h with
 |cons p t=>
  cases t with
  |cons p' c=>cases c;exact⟨_,_,rfl,p,p'⟩
theorem xU(m:X.calm=true):uU X (.builtin "max") GJ:=by
 intro AN s σ H xs us Q I r h;obtain⟨bs,c,rb,e,q⟩:=h;unfold GJ at e;split at e
 ·rename_i a b;cases e;obtain⟨v,w,rfl,i,d⟩:=Hm rb;have f:=Qe i;have j:=Qe d;subst f j;obtain⟨u,n,rfl,l,g⟩:=AX.two r;obtain⟨t,rfl⟩:=l;obtain⟨o,rfl⟩:=g;refine max_two_ints (I.ok.hd m) λh' tk kp=>?_;by_cases hb:b>a
  ·rw[zr hb]at q ⊢;exact⟨.int b,H,I.kept kp,⟨_,rfl⟩,q _ H (AV.refl H) trivial GF⟩
  ·rw[zD hb]at q ⊢;exact⟨.int a,H,I.kept kp,⟨_,rfl⟩,q _ H (AV.refl H) trivial GF⟩
 ·cases e
theorem Qo(m:X.calm=true):uU X (.builtin "min") S8:=by
 intro AN s σ H xs us Q I r h;obtain⟨bs,c,rb,e,q⟩:=h;unfold S8 at e;split at e
 ·rename_i a b;cases e;obtain⟨v,w,rfl,i,d⟩:=Hm rb;have f:=Qe i;have j:=Qe d;subst f j;obtain⟨u,n,rfl,l,g⟩:=AX.two r;obtain⟨t,rfl⟩:=l;obtain⟨o,rfl⟩:=g;refine min_two_ints (I.ok.hd m) λh' tk kp=>?_;by_cases hb:b<a
  ·rw[zr hb]at q ⊢;exact⟨.int b,H,I.kept kp,⟨_,rfl⟩,q _ H (AV.refl H) trivial GF⟩
  ·rw[zD hb]at q ⊢;exact⟨.int a,H,I.kept kp,⟨_,rfl⟩,q _ H (AV.refl H) trivial GF⟩
 ·cases e
def Jt(AO:O (AY×Dt))(x:AY):Y Dt:=(AO.find? λa=>decide (a.1=x)).map (·.2)
def Qp(AO:O (AY×Dt))(x:AY)(d:Dt):O (AY×Dt):=
 if(AO.any λa=>decide (a.1=x))=true then AO.map (λa=>if a.1=x then(a.1,d)else a)else AO++[(x,d)]
theorem gn.nil:gn K H [] []:=⟨rfl,aQ.nil,λp hp=>by cases hp⟩
theorem gn.inv{p:AY×Dt}{ks:O (AY×V)}(h:gn K H (p::AO) ks):∃v r,ks=(p.1,v)::r/\AW K H p.2 v/\Db p.1/\gn K H AO r:=by
 obtain⟨h1,h2,a⟩:=h;cases ks with
 |nil=>simp at h1
 |cons q r=>
  simp only[zl,ky]at h1;obtain⟨e,h1⟩:=h1;simp only[zl,aQ]at h2;obtain⟨v,d,e2,b,c⟩:=h2;simp only[ky]at e2;obtain⟨rfl,rfl⟩:=e2;exact⟨q.2,r,by rw[<-e],b,a p (zh ..),h1,c,λx hx=>a x (zi _ hx)⟩
theorem gn.cons{p:AY×Dt}{AO:O (AY×Dt)}{v:V}{r:O (AY×V)}(a:AW K H p.2 v)(hp:Db p.1)(h:gn K H AO r):gn K H (p::AO) ((p.1,v)::r):=
 ⟨by simp[h.1],aQ.cons a h.2.1,λx hx=>by
  rcases List.mem_cons.mp hx with rfl|hx
  ·exact hp
  ·exact h.2.2 x hx⟩
theorem gn.append{AO:O (AY×Dt)}{ks:O (AY×V)}{x:AY}{d:Dt}{v:V}(h:gn K H AO ks)(a:AW K H d v)(hx:Db x):gn K H (AO++[(x,d)]) (ks++[(x,v)]):=
 ⟨by simp[h.1],by rw[ZT,ZT];exact aQ.append h.2.1 (aQ.cons a aQ.nil),λp hp=>by
  rcases List.mem_append.mp hp with hp|hp
  ·exact h.2.2 p hp
  ·cases List.mem_singleton.mp hp;exact hx⟩
theorem gn.len{ks:O (AY×V)}(h:gn K H AO ks):ks.length=AO.length:=by
 have:=congrArg List.length h.1;simpa using this
theorem gn.look:∀{AO:O (AY×Dt)} {ks:O (AY×V)} {x:AY} {d:Dt},gn K H AO ks->Jt AO x=Z d->∃v,Dv ks x=Z v/\AW K H d v
 |[],_,_,_,_,e=>by cases e
 |p::AO,_,x,d,h,e=>by
  obtain⟨v,r,rfl,a,c,b⟩:=h.inv;unfold Jt at e;by_cases hp:p.1=x
  ·rw[List.find?_cons_of_pos (by simpa using hp)]at e;cases e;exact⟨v,Bg (by rw[hp]),a⟩
  ·rw[List.find?_cons_of_neg (by simpa using hp)]at e;obtain⟨w,e1,e2⟩:=gn.look b e;exact⟨w,(Bh (by simpa using hp)).trans e1,e2⟩
theorem gn.any:∀{AO:O (AY×Dt)} {ks:O (AY×V)} {x:AY},gn K H AO ks->(ks.any λa=>decide (a.1=x))=AO.any λa=>decide (a.1=x)
 |[],ks,_,h=>by
  have:=h.len;cases ks with
  |nil=>rfl
  |cons _ _=>simp at this
 |p::AO,_,x,h=>by
  obtain⟨v,r,rfl,c,d,b⟩:=h.inv;rw[kB,kB,gn.any b]
theorem gn.abO:∀{AO:O (AY×Dt)} {ks:O (AY×V)} {x:AY} {d:Dt} {v:V},gn K H AO ks->AW K H d v->gn K H (AO.map λa=>if a.1=x then(a.1,d)else a) (ks.map λa=>if a.1=x then(a.1,v)else a)
 |[],ks,_,_,_,h,_=>by
  have:=h.len;cases ks with
  |nil=>exact gn.nil
  |cons _ _=>simp at this
 |p::AO,_,x,d,v,h,hd=>by
  obtain⟨w,r,rfl,e,c,f⟩:=h.inv;rw[zl,zl];have b:=gn.abO (x:=x) f hd;by_cases hp:p.1=x
  ·rw[zr hp,zr (by simp[hp])];exact gn.cons (p:=(p.1,d)) hd c b
  ·rw[zD hp,zD (by simpa using hp)];exact gn.cons e c b
theorem gn.put{ks:O (AY×V)}{x:AY}(h:gn K H AO ks)(a:AW K H d v)(hx:Db x):gn K H (Qp AO x d) (BA ks x v):=by
 unfold Qp BA;rw[h.any];split
 ·exact h.abO a
 ·exact h.append a hx
section
variable{ek o:Expr}{pos':Pos}
theorem cv  :QV X (.Dict [] [] pos) (λ_=>Z (.m [] U)):=⟨Li YR λσ H Q h=>by
 obtain⟨H0,ρ,b,E,e,q⟩:=h;cases e;intro p hp;exact q _ _ (cH hp) (λa ea=>by cases ea;exact hp) ⟨p,[],rfl,bK,gn.nil,λb h=>by cases h⟩⟩
def D0:Bx->Y AY
 |.z (.str x)=>Z (.inr x)
 |.z (.int i)=>Z (.inl i)
 |_=>U
theorem Qq{k:AY}(e:D0 b=Z k)(r:bB K H b v):v=kV k/\Db k:=by
 unfold D0 at e;split at e
 ·cases e;simp only[bB,AW]at r;exact r
 ·cases e;simp only[bB,AW]at r;exact⟨r,trivial⟩
 ·cases e
def eX:Bx->Bx->Y Bx
 |.n AO,b=>(D0 b).bind λk=>(Jt AO k).bind λd=>Z (.z d)
 |_,_=>U
theorem Wc{a c:Bx}(h:eX a b=Z c):∃AO k d,a=.n AO/\D0 b=Z k/\Jt AO k=Z d/\c=.z d:=by
 unfold eX at h;split at h
 ·obtain⟨k,ek,h⟩:=AT h;obtain⟨d,e,h⟩:=AT h;cases h;exact⟨_,k,d,rfl,ek,e,rfl⟩
 ·cases h
theorem dw(D:X.A.units+100<cLine)(g:QV X o fo)(f:QV X ek fk)(hs:IU ek:=by intro _ _;rfl):QV X (.Subscript o ek pos) (b2 eX fo fk):=⟨have g:=g.run;have f:=f.run;Li (VM (by omega) g f hs) λσ H Q h=>by
 obtain⟨H0,ρ,c,E,e,q⟩:=h;obtain⟨a,ea,e⟩:=AT e;obtain⟨b,eb,e⟩:=AT e;refine⟨H0,ρ,a,E,ea,λv H1 i B n=>⟨H0,ρ,b,E.grow i,eb,λw H2 j C l=>?_⟩⟩;obtain⟨AO,x,d,rfl,y,m,rfl⟩:=Wc e;obtain⟨p,ks,rfl,u,t⟩:=n.same j;obtain⟨s,ev,z⟩:=t.look m;obtain⟨rfl,_⟩:=Qq y l;exact⟨p,s,rfl,.inl ⟨ks,x,u,rfl,ev.symm⟩,q _ _ (i.trans j) trivial z⟩⟩
def S9(ρ:Ev)(i:Nat):Bx->Bx->Y Ap
 |.z d,b=>(D0 b).bind λx=>match ρ[i]? with
  |some (Z (.m AO w))=>if AO.length<1000 then Z (.nx (ρ.set i (Z (.m (Qp AO x d) w))))else U
  |_=>U
 |_,_=>U
def N7(i:Nat)(f fk:Ev->Y Bx):Ev->Y Ap:=λρ=>(f ρ).bind λb=>(fk ρ).bind λk=>S9 ρ i b k
theorem Ju{k:Bx}{r:Ap}(h:S9 ρ i b k=Z r):∃d y AO w,b=.z d/\D0 k=Z y/\ρ[i]?=Z (Z (.m AO w))/\AO.length<1000/\r=.nx (ρ.set i (Z (.m (Qp AO y d) w))):=by
 unfold S9 at h;split at h
 ·obtain⟨y,c,h⟩:=AT h;split at h
  ·rename_i a;split at h
   ·rename_i e;cases h;exact⟨_,y,_,_,rfl,c,a,e,rfl⟩
   ·cases h
  ·cases h
 ·cases h
theorem Qs(i:Nat){p:Pos}(Q:X.A.units+100<cLine)(he:QV X e f)(g:QV X ek fk)(B:X.N[i]?=Z x:=by rfl)(J:Xx X.env.scope x:=by first|exact JE rfl|exact QP (JE S)|exact QP (QP S))(hd:(x==("__debug__":AJ))=false:=by decide)(F:(x==("__classdict__":AJ))=false:=by decide)(hs:swapsWith e (Z (.Subscript (.Name x p) ek pos')) pos.line X.env=pure false:=by rfl):Nx X (.Assign [.Subscript (.Name x p) ek pos'] e pos) (λρ=>(f ρ).bind λb=>(fk ρ).bind λk=>S9 ρ i b k):=⟨have he:=he.run;have g:=g.run;VN (Po (by omega) (uy (i:=i) B J hd F) g he hs) λD σ H h=>by
  obtain⟨H0,ρ,r,E,e,q⟩:=h;obtain⟨b,eb,e⟩:=AT e;obtain⟨k,ek,e⟩:=AT e;refine⟨H0,ρ,b,E,eb,λv H1 s W K=>?_⟩;obtain⟨d,y,AO,M,rfl,L,m,G,rfl⟩:=Ju e;have j:=E.grow s;obtain⟨w,e1,a,ks,rfl,z,n,C⟩:=j.val i _ m;refine⟨_,e1,H0,ρ,_,j,ek,λu H2 c P I=>?_⟩;obtain⟨rfl,o⟩:=Qq L I;have t:=j.grow c;have l:=c _ _ z;have kp:Kp H2 (B4 H2 a (.dK (BA ks y v))):=.dk l;refine⟨a,_,rfl,EZ.k (k:=y) l (by rw[n.len];exact Nat.lt_trans G (by decide)),q _ _ ?_⟩;exact t.ahA m S e1 kp ⟨a,_,rfl,bK,((n.kp (.of c)).put (x:=y) (bB.same c K) o).kp kp,C⟩⟩
end
section
variable{a b:Expr}{fs:Ev->Y (O Bx)}
theorem Wf{j}(hx:x.length<=AA:=by decide):QV X (.Constant (.str x) j pos) (cB (.str x)):=⟨P1.LY (hx:=hx)⟩
end
section
variable{a b:Expr}{fs:Ev->Y (O Bx)}
variable{AS:O Expr}
theorem ak(h1:QV X e f)(h2:XS X es fs)(hs:A9 (e::es) X.env=(false,eval e X.env)::A9 es X.env:=by rfl):XS X (e::es) (aq f fs):=⟨P1.R9 (h1:=h1.run) (h2:=h2.run) (hs:=hs)⟩
theorem aA  :XS X [] (λ_=>Z []):=⟨P1.X4 ⟩
end
theorem MG{st:AB}{f:A1}{k m:Nat}(F:CY K x qual st f fd)(S:bF N ps (aP st))(b:N.length=n)(d:ps.length=m)(c:∀(a:A0) (A:A5) (outer:O Env) (s:A2) (H:Hp) (E:XK),oF k (A.deeper (AK qual (aP st) s.heap.objs.size f a))->Sg (Gy Dz P w K mg base N qual (aP st) f a A outer s H E).nox (jH st) g):
  qQ P w K mg base Dz (k+1) f fd ps (D4 K m (dh n g)):=NB F S b d λa A outer s H E e=>(c a A outer s H E e).run
theorem FN:∀(vs:O A0) (ys:AZ),vs.length=ys.length->(∀(j:Nat) v,vs[j]?=Z v->∃y t,ys[j]?=Z y/\v=.str y t)->StrsAre vs ys
 |[],[],_,_=>.nil
 |v::vs,y::ys,hl,h=>by
  obtain⟨b,t,e,rfl⟩:=h 0 v rfl;cases e;exact .cons y t (FN vs ys (by simpa using hl) λj v a=>h (j+1) v (by simpa using a))
theorem Wg{AO:O (AY×A0)}{ys:AZ}(a:AO.map (·.1)=ys.map Sum.inr){b:Array A0}(h:ItemsOf (λi v=>∃k x,AO[i]?=Z (k,x)/\(bD prog w).is k v=true) b AO.length):StrsAre b.toList ys:=by
 have f:AO.length=ys.length:=by have:=congrArg List.length a;simpa using this
 refine FN _ _ (by rw[qA,h.1,f]) λj v g=>?_;obtain⟨k,x,e,hi⟩:=h.2 j v (by simpa using g);have e1:(AO.map (·.1))[j]?=Z k:=by rw[ZE,e];rfl
 rw[a,ZE]at e1;cases c:ys[j]? with
 |none=>rw[c]at e1;cases e1
 |some y=>
  rw[c]at e1;cases e1;have d:nq (Sum.inr y) v=true:=hi;rcases bY d with⟨i,t,e2,e3⟩|⟨z,t,e2,e3⟩
  ·cases e2
  ·cases e2;exact⟨_,t,rfl,e3⟩
def Z2:O (AY×Dt)->Y AZ
 |[]=>Z []
 |(.inr x,_)::r=>(Z2 r).bind λys=>Z (x::ys)
 |(.inl _,_)::_=>U
theorem yX:∀{AO:O (AY×Dt)} {ys:AZ},Z2 AO=Z ys->AO.map (·.1)=ys.map Sum.inr
 |[],_,e=>by cases e;rfl
 |(.inr x,_)::r,_,e=>by
  obtain⟨ys,e1,e⟩:=AT e;cases e;rw[zl,zl,yX e1]
 |(.inl _,_)::_,_,e=>by cases e
theorem ly{ys:AZ}(e:Z2 AO=Z ys)(h:∀p∈AO,Db p.1)(y:AJ)(a:y∈ys):y.length<=AA:=by
 have:(Sum.inr y:AY)∈AO.map (·.1):=by rw[yX e];exact List.mem_map.mpr ⟨y,a,rfl⟩
 obtain⟨p,hp,ep⟩:=List.mem_map.mp this;have:=h p hp;rw[ep]at this;exact this
theorem Yd:∀{ks:O (AY×V)} {vs:O (AY×A0)},KV ks vs->vs.map (·.1)=ks.map (·.1)
 |_,_,.nil=>rfl
 |_,_,.cons h t=>by rw[zl,zl,Yd t,h.1]
theorem bR.akn(E:bR K H0 H σ ρ)(i:Nat):bR K H0 H σ (ρ.set i U):=by
 have back:∀(j:Nat) (b:Bx),(ρ.set i U)[j]?=Z (Z b)->ρ[j]?=Z (Z b):=λj b e=>by
  rw[y7]at e;split at e
  ·split at e<;>cases e
  ·exact e
 refine⟨by rw[kP];exact E.len,λj b e=>E.val j b (back j b e),λj k c a b e1 d e2 e3 f g=>E.own j k c a b (back _ _ e1) d e2 (back _ _ e3) f g,E.base,λj c a e1 d e2=>E.new j c a (back _ _ e1) d e2⟩
def kill(is:O Nat)(ρ:Ev):Ev:=is.foldl (λρ i=>ρ.set i U) ρ
theorem bR.kill{K:B1}{H0 H:Hp}{σ:L2.St}:∀(is:O Nat) {ρ:Ev},bR K H0 H σ ρ->bR K H0 H σ (P1.kill is ρ)
 |[],_,E=>E
 |i::is,_,E=>bR.kill is (E.akn i)
def dZ(is:O Nat):Ev->Y Ap:=λρ=>Z (.nx (kill is ρ))
theorem ir{c:O AB}(is:O Nat)(h:Vw X c g):Vw X c (aF g (dZ is)):=GO h λD σ H q=>by
 obtain⟨H0,ρ,r,E,e,q⟩:=q;obtain⟨a,e1,e⟩:=AT e;refine⟨H0,ρ,a,E,e1,?_⟩;cases a with
 |nx f=>cases e;exact λσ' H' d=>q σ' H' (d.kill is)
 |rt b=>cases e;exact q
 |bk b=>cases e;exact q
 |ct b=>cases e;exact q
theorem bI{a:O AB}(is:O Nat)(h:Sg X a g):Sg X a (aF g (dZ is)):=⟨ir is h.run⟩
end P1
namespace S1
section
variable(rk:A0->Nat)
def at_(xs:Array Keyed)(i:Nat):Nat:=match xs[i]? with
 |some p=>rk p.1
 |none=>0
def Up(xs:Array Keyed)(k:Nat):Prop:=∀i j,i<=j->j<k->at_ rk xs i<=at_ rk xs j
def CA(xs:Array Keyed)(k:Nat):Prop:=∀i j,i<=j->j<k->at_ rk xs j<=at_ rk xs i
structure Bs (kd:SortKind) (b:Array Keyed) (st:SortSt):Prop where
 pm:(arrOf st).Perm b
 kd:kindOf st=kd
 fl:failedOf st=none
 pd:pendingOf st=#[]
variable{rk}{kd:SortKind}{b:Array Keyed}
theorem Bs.sz{st:SortSt}(h:Bs kd b st):(AM st).size=b.size:=h.pm.size_eq
theorem Bs.arr{st:SortSt}{xs:Array Keyed}(h:Bs kd b st)(hp:xs.Perm (AM st)):Bs kd b (PyProof.Rows.setArr st xs):=⟨hp.trans h.pm,h.kd,h.fl,h.pd⟩
theorem xV{xs ys:Array Keyed}(h:xs[i]?=ys[j]?):at_ rk xs i=at_ rk ys j:=by unfold at_;rw[h]
theorem MD{xs:Array Keyed}{p d:Nat}(hs:p<xs.size)(hd:d<=p)(k:Nat):at_ rk (bubble xs p d) k=if k=p-d then at_ rk xs p else if p-d<k/\k<=p then at_ rk xs (k-1)else at_ rk xs k:=by
 have e:=getElem?_bubble hs d hd k;by_cases q:k=p-d
 ·simp only[zr q]at e ⊢;exact xV e
 ·simp only[zD q]at e ⊢;by_cases q2:p-d<k/\k<=p
  ·simp only[zr q2]at e ⊢;exact xV e
  ·simp only[zD q2]at e ⊢;exact xV e
theorem Wh{xs:Array Keyed}(a:j<=xs.size)(k:Nat):at_ rk (mirror xs i j ((j-i) / 2)) k=if i<=k/\k<j then at_ rk xs (i+j-1-k)else at_ rk xs k:=by
 have e:=getElem?_mirror_all (i:=i) a k;by_cases q:i<=k/\k<j
 ·simp only[zr q]at e ⊢;exact xV e
 ·simp only[zD q]at e ⊢;exact xV e
theorem BL{xs:Array Keyed}(a:j<=xs.size)(he:∀k,i<=k->k<j->at_ rk xs k=at_ rk xs (j-1))(k:Nat):at_ rk (mirror xs i j ((j-i) / 2)) k=at_ rk xs k:=by
 rw[Wh a];by_cases q:i<=k/\k<j
 ·rw[zr q,he (i+j-1-k) (by omega) (by omega),he k q.1 q.2]
 ·rw[zD q]
end
section
variable{b:Array Keyed}{kd:SortKind}{rk:A0->Nat}
def CL(prog:A3)(w:A4)(A:A5)(s:A2)(kd:SortKind)(rk:A0->Nat)(b:Array Keyed):Prop:=
 ∀(E:B7) (p q:Keyed) (Q:Bool->A2->Prop),p∈b.toList->q∈b.toList->Q (decide (rk p.1<rk q.1)) s->A7 (A8 prog w) A (keyLt' kd p.1 q.1) Q E s
theorem Tc{st:SortSt}{Q:Y Bool->SortSt->Prop}(e:CL prog w A s kd rk b)(B:Bs kd b st)(hi:i<b.size)(f:j<b.size)(h:Q (Z (decide (at_ rk (AM st) i<at_ rk (AM st) j))) st):wpS (A8 prog w) A E s (ltAt' i j) Q st:=by
 have get:∀k,k<b.size->∃p,(AM st)[k]?=Z p/\p∈b.toList:=λk d=>by
  have g:k<(AM st).size:=by rw[B.sz];exact d
  exact⟨(AM st)[k],getElem?_pos _ k g,(Array.perm_iff_toList_perm.mp B.pm).mem_iff.mp (by simp)⟩
 obtain⟨p,e1,a⟩:=get i hi;obtain⟨q,e2,c⟩:=get j f;have h:Q (Z (decide (rk p.1<rk q.1))) st:=by unfold at_ at h;rw[e1,e2]at h;exact h
 rw[ltAt'_eq];refine AL (wpS_get ?_);show wpS _ _ _ _ (elem' (AM st) i >>= λx=>elem' (AM st) j >>= λy=>lt' x y) Q st;rw[elem'_eq,elem'_eq,e1,e2];refine AL (wpS_pure ?_);refine AL (wpS_pure ?_);rw[lt'_eq];refine AL (wpS_get ?_);rw[B.kd];exact AL (wpS_lift (wpAny_attempt (e _ p q _ a c ⟨rfl,wpS_pure h⟩)))
theorem OO{st:SortSt}{a:Nat}{Q:AscSt->SortSt->Prop}(g:CL prog w A s kd rk b)(p:n<=b.size)(v:1<=a)(l:a<=n)(B:Bs kd b st)(hs:Up rk (AM st) a)(h:∀m,a<=m->m<=n->Up rk (AM st) m->(m=n\/at_ rk (AM st) m<at_ rk (AM st) (m-1))->Q (U,m) st):wpS (A8 prog w) A E s (ascLoop a n) Q st:=by
 unfold ascLoop;refine wpS_forRange (I:=λx c t=>t=st/\c=(U,x)/\Up rk (AM st) x) ?_ ?_ ⟨rfl,rfl,hs⟩
 ·rintro x c t f y ⟨rfl,rfl,d⟩;refine AL (Tc g B (by omega) (by omega) ?_);by_cases q:at_ rk (AM t) x<at_ rk (AM t) (x-1)
  ·simp only[q,ye,qV];exact wpS_pure (h x f (by omega) d (.inr q))
  ·simp only[q,k8,zt,Z3];refine wpS_pure ⟨rfl,rfl,λi j o u=>?_⟩;by_cases hx:j<x
   ·exact d i j o hx
   ·have e:j=x:=by omega
    subst e;by_cases hi:i=j
    ·rw[hi];exact zo _
    ·have:=d i (j-1) (by omega) (by omega);omega
 ·rintro c t ⟨rfl,rfl,d⟩;rw[show max a n=n by omega]at d ⊢;exact h n l (zo _) d (.inl S)
theorem t3{st:SortSt}{m:Nat}{Q:Y Nat->SortSt->Prop}(g:CL prog w A s kd rk b)(f:n<=b.size)(h1:1<=m)(l:m<=n)(B:Bs kd b st)(hs:CA rk (AM st) m)(h:∀k t,Bs kd b t->1<=k->k<=n->Up rk (AM t) k->Q (Z k) t):wpS (A8 prog w) A E s (tail3 m n) Q st:=by
 unfold tail3;have c:m<=(AM st).size:=by rw[B.sz];omega
 refine AL (wpS_reverse ?_);have a:Bs kd b (PyProof.Rows.setArr st (mirror (AM st) 0 m ((m-0) / 2))):=B.arr (mirror_perm _ _ _ _);refine AL (OO g f h1 l a (λi j q p=>?_) λk o d e _=>wpS_pure (h k _ a (by omega) d e));show at_ rk (mirror (AM st) 0 m ((m-0) / 2)) i<=at_ rk (mirror (AM st) 0 m ((m-0) / 2)) j;rw[Wh c,Wh c,zr ⟨by omega,by omega⟩,zr ⟨by omega,by omega⟩];exact hs _ _ (by omega) (by omega)
theorem g5{st:SortSt}{m:Nat}{Q:DescSt->SortSt->Prop}(l:CL prog w A s kd rk b)(z:n<=b.size)(h1:1<=m)(v:m<=n)(B:Bs kd b st)(hs:CA rk (AM st) m)(h:∀k e t,Bs kd b t->m<=k->k<=n->CA rk (AM t) k->e+1<=k->(∀i,k-(e+1)<=i->i<k->at_ rk (AM t) i=at_ rk (AM t) (k-1))->Q (U,k,e) t):wpS (A8 prog w) A E s (descLoop m n) Q st:=by
 unfold descLoop;refine wpS_forRange (I:=λx c t=>∃e,c=(U,x,e)/\Bs kd b t/\CA rk (AM t) x/\e+1<=x/\∀i,x-(e+1)<=i->i<x->at_ rk (AM t) i=at_ rk (AM t) (x-1)) ?_ ?_ ⟨0,rfl,B,hs,by omega,λi q1 q2=>by rw[show i=m-1 by omega]⟩
 ·rintro x c t p H ⟨e,rfl,a,dn,f,d⟩;have u:x<=(AM t).size:=by rw[a.sz];omega
  have grow:∀xs:Array Keyed,(∀k,at_ rk xs k=at_ rk (AM t) k)->at_ rk (AM t) x<=at_ rk (AM t) (x-1)->CA rk xs (x+1):=λxs g C i j y D=>by
   rw[g,g];by_cases hx:j<x
   ·exact dn i j y hx
   ·have o:j=x:=by omega
    subst o;by_cases hi:i=j
    ·rw[hi];exact zo _
    ·have:=dn i (j-1) (by omega) (by omega);omega
  dsimp only;refine AL (Tc l a (by omega) (by omega) ?_);by_cases q:at_ rk (AM t) x<at_ rk (AM t) (x-1)
  ·simp only[q,ye,qV];by_cases h0:e>0
   ·rw[zr h0];exact AL (wpS_reverse (wpS_pure ⟨0,rfl,a.arr (mirror_perm _ _ _ _),grow _ (BL u d) (by omega),by omega,λi q1 q2=>by rw[show i=x by omega];rfl⟩))
   ·rw[zD h0];exact wpS_pure ⟨0,rfl,a,grow _ (λ_=>S) (by omega),by omega,λi q1 q2=>by rw[show i=x by omega];rfl⟩
  ·simp only[q,k8,zt,Z3];refine AL (Tc l a (by omega) (by omega) ?_);by_cases q2:at_ rk (AM t) (x-1)<at_ rk (AM t) x
   ·simp only[q2,ye,qV];exact wpS_pure (h x e t a p (by omega) dn f d)
   ·simp only[q2,k8,zt,Z3];refine wpS_pure ⟨e+1,rfl,a,grow _ (λ_=>S) (by omega),by omega,λi F G=>?_⟩;rw[show x+1-1=x by omega];by_cases hi:i=x
    ·rw[hi]
    ·rw[d i (by omega) (by omega)];omega
 ·rintro c t ⟨e,rfl,a,dn,f,d⟩;rw[show max m n=n by omega]at dn f d ⊢;exact h n e t a v (zo _) dn f d
theorem OM{st:SortSt}{m:Nat}{Q:Y Nat->SortSt->Prop}(d:CL prog w A s kd rk b)(c:n<=b.size)(p:m+1<=n)(B:Bs kd b st)(hs:CA rk (AM st) (m+1))(h:∀k t,Bs kd b t->1<=k->k<=n->Up rk (AM t) k->Q (Z k) t):wpS (A8 prog w) A E s (descPart m n) Q st:=by
 unfold descPart;refine AL (wpS_lift (Kx ⟨rfl,?_⟩));refine AL (g5 d c (by omega) p B hs λk e t a u f dn v l=>?_);have g:k<=(AM t).size:=by rw[a.sz];omega
 by_cases h0:e>0
 ·simp only[zr h0];refine AL (wpS_reverse (t3 d c (by omega) f (a.arr (mirror_perm _ _ _ _)) (λi j q o=>?_) h));show at_ rk (mirror (AM t) _ _ _) j<=at_ rk (mirror (AM t) _ _ _) i;rw[BL g l,BL g l];exact dn i j q o
 ·simp only[zD h0];exact t3 d c (by omega) f a dn h
theorem nV{st:SortSt}{Q:Y Nat->SortSt->Prop}(c:CL prog w A s kd rk b)(d:n<=b.size)(h1:1<=n)(B:Bs kd b st)(h:∀k t,Bs kd b t->1<=k->k<=n->Up rk (AM t) k->Q (Z k) t):wpS (A8 prog w) A E s (countRun' 0 n) Q st:=by
 rw[countRun0_eq];refine AL (OO c d (zo 1) h1 B (λi j p o=>by rw[show i=j by omega];exact zo _) λm f g a or=>?_);by_cases e:m=n
 ·simp only[zr (show(m==n)=true by simpa using e)];exact wpS_pure (h m st B f g a)
 ·simp only[zD (show ¬ (m==n)=true by simpa using e)];have lt:=or.resolve_left e;have l:m<=(AM st).size:=by rw[B.sz];omega
  by_cases g1:m>1
  ·rw[zr g1];refine AL (Tc c B (by omega) (by omega) ?_);by_cases q:at_ rk (AM st) 0<at_ rk (AM st) (m-1)
   ·simp only[q,ye,qV];exact wpS_pure (h m st B f g a)
   ·simp only[q,k8,zt,Z3];have all:∀k,0<=k->k<m->at_ rk (AM st) k=at_ rk (AM st) (m-1):=λk _ v=>by
     have a1:=a 0 k (by omega) v;have a2:=a k (m-1) (by omega) (by omega);omega
    refine AL (wpS_reverse (OM c d (by omega) (B.arr (mirror_perm _ _ _ _)) (λi j p o=>?_) h));show at_ rk (mirror (AM st) _ _ _) j<=at_ rk (mirror (AM st) _ _ _) i;rw[BL l all,BL l all];by_cases x:j<m
    ·rw[all i (by omega) (by omega),all j (by omega) x];exact zo _
    ·have u:j=m:=by omega
     subst u;by_cases hi:i=j
     ·rw[hi];exact zo _
     ·rw[all i (by omega) (by omega)];omega
  ·rw[zD g1];have e1:m=1:=by omega
   subst e1;refine OM c d (by omega) B (λi j p o=>?_) h;by_cases hi:i=j
   ·rw[hi];exact zo _
   ·rw[show i=0 by omega,show j=1 by omega];exact JJ lt
theorem IS{st:SortSt}{g:Nat}{Q:Bool->SortSt->Prop}(F:CL prog w A s kd rk b)(J:n<=b.size)(L:g<=n)(B:Bs kd b st)(hs:Up rk (AM st) g)(h:∀t,Bs kd b t->Up rk (AM t) n->Q true t):wpS (A8 prog w) A E s (binarySort' 0 n g) Q st:=by
 rw[binarySort'_eq];simp only[yo];refine AL (wpS_mono (wpS_forRange (I:=λk c t=>c=(U,())/\Bs kd b t/\Up rk (AM t) (min k n)) (Q:=λc t=>c=(U,())/\Bs kd b t/\Up rk (AM t) n) ?_ ?_ ?_) ?_)
 ·rintro k c t K M ⟨rfl,f,d⟩;rw[show min k n=k by omega]at d;have o:k<b.size:=by omega
  refine AL (wpS_mono (wpS_forRange (I:=λx c a=>a=t/\∃l r,c=(U,l,r)/\l<=r/\r<=k/\r-l<=k-x/\(∀i,i<l->at_ rk (AM t) i<=at_ rk (AM t) k)/\(∀i,r<=i->i<k->at_ rk (AM t) k<at_ rk (AM t) i))
   (Q:=λc a=>a=t/\∃l r,c=(U,l,r)/\l<=k/\(∀i,i<l->at_ rk (AM t) i<=at_ rk (AM t) k)/\(∀i,l<=i->i<k->at_ rk (AM t) k<at_ rk (AM t) i)) ?_ ?_ ?_) ?_)
  ·rintro x c a _ hx ⟨rfl,l,r,rfl,G,m,D,lo,hi⟩;dsimp only;by_cases p:l>=r
   ·rw[zr p];have e:l=r:=by omega
    subst e;exact wpS_pure ⟨rfl,l,l,rfl,m,lo,hi⟩
   ·rw[zD p];refine AL (Tc F f o (by omega) ?_);by_cases q:at_ rk (AM a) k<at_ rk (AM a) ((l+r) / 2)
    ·simp only[q,ye,qV];refine wpS_pure ⟨rfl,l,(l+r) / 2,rfl,by omega,by omega,by omega,lo,λi q1 q2=>?_⟩;have:=d ((l+r) / 2) i q1 q2;omega
    ·simp only[q,k8,zt,Z3];refine wpS_pure ⟨rfl,(l+r) / 2+1,r,rfl,by omega,by omega,by omega,λi q1=>?_,hi⟩;have:=d i ((l+r) / 2) (by omega) (by omega);omega
  ·rintro c a ⟨rfl,l,r,rfl,G,m,D,lo,hi⟩;have e:l=r:=by omega
   subst e;exact⟨rfl,l,l,rfl,m,lo,hi⟩
  ·exact⟨rfl,0,k,rfl,by omega,by omega,by omega,λi hi=>by omega,λi q1 q2=>by omega⟩
  ·rintro c a ⟨rfl,l,r,rfl,H,lo,hi⟩;show wpS _ _ _ _ (moveDown' k l >>= λ_=>pure (ForInStep.yield (U,()))) _ _;rw[moveDown'_eq];refine AL (wpS_modify (wpS_pure ⟨rfl,f.arr (bubble_perm _ _ _),?_⟩));rw[show min (k+1) n=k+1 by omega];have u:k<(AM a).size:=by rw[f.sz];exact o
   intro i j v y;show at_ rk (bubble (AM a) k (k-l)) i<=at_ rk (bubble (AM a) k (k-l)) j;rw[MD u (by omega),MD u (by omega),show k-(k-l)=l by omega]
   repeat' split
   all_goals first
    |(exfalso;omega)
    |exact zo _
    |exact lo _ (by omega)
    |exact JJ (hi _ (by omega) (by omega))
    |exact d _ _ (by omega) (by omega)
 ·rintro c t ⟨C,f,d⟩;refine⟨C,f,?_⟩;rwa [show min (max (max g 1) n) n=n by omega]at d
 ·refine⟨rfl,B,λi j v y=>?_⟩;by_cases z:g=0
  ·rw[show i=j by omega];exact zo _
  ·exact hs i j v (by omega)
 ·rintro c t ⟨rfl,f,d⟩;exact wpS_pure (h t f d)
def Dn(kd:SortKind)(rk:A0->Nat)(b:Array Keyed)(st:SortSt):Prop:=(AM st).Perm b/\failedOf st=U/\pendingOf st=#[(0,b.size,0)]/\Up rk (AM st) b.size
theorem Bs.dn{st:SortSt}(B:Bs kd b st)(a:Up rk (AM st) b.size):Dn kd rk b (setPending st ((pendingOf st).push (0,b.size,0))):=⟨B.pm,B.fl,(by show(pendingOf st).push _=_;rw[B.pd];rfl),a⟩
theorem LA{st:SortSt}{Q:Unit->SortSt->Prop}(g:CL prog w A s kd rk b)(B:Bs kd b st)(h2:2<=b.size)(j:b.size<64)
  (h:∀t,(AM t).Perm b->failedOf t=U->Up rk (AM t) b.size->Q () t):wpS (A8 prog w) A E s sortRuns' Q st:=by
 rw[sortRuns'_eq];refine AL (wpS_get ?_);have v:minRun' b.size b.size 0=b.size:=by
  obtain⟨f,p⟩:∃f,b.size=f+1:=⟨b.size-1,by omega⟩;have q:minRun' (f+1) b.size 0=b.size:=(minRun'_succ f b.size 0).trans (zr j);rwa [<-p]at q
 simp only[B.sz,v];have back:∀{t:SortSt},Bs kd b t->(pendingOf t).back?=U:=λB=>by rw[B.pd];rfl
 refine AL (wpS_mono (wpS_forRange (I:=λx c t=>(x=0/\c=(U,0)/\Bs kd b t)\/(1<=x/\c=(U,b.size)/\Dn kd rk b t)) (Q:=λc t=>c=(U,b.size)/\Dn kd rk b t) ?_ ?_ (.inl ⟨rfl,rfl,B⟩)) ?_)
 ·rintro x c t _ hx (⟨rfl,rfl,n⟩|⟨C,rfl,D⟩)
  ·dsimp only;rw[zD (by omega)];simp only[Nat.sub_zero,Nat.min_self,yo];refine AL (nV g (zo _) (by omega) n λm t2 a z l d=>?_);dsimp only;by_cases lt:m<b.size
   ·rw[zr lt];refine AL (wpS_lift (Kx ⟨rfl,AL (IS g (zo _) l a d λt3 i o=>?_)⟩));simp only[kU,zt,Z3];refine AL (wpS_get ?_);rw[back i];exact AL (wpS_modify (wpS_pure (.inr ⟨by omega,rfl,i.dn o⟩)))
   ·rw[zD lt];have e:m=b.size:=by omega
    subst e;refine AL (wpS_get ?_);rw[back a];exact AL (wpS_modify (wpS_pure (.inr ⟨by omega,rfl,a.dn d⟩)))
  ·dsimp only;rw[zr (zo _)];exact wpS_pure ⟨rfl,D⟩
 ·rintro c t (⟨hx,_,_⟩|⟨_,y,D⟩)
  ·omega
  ·exact⟨y,D⟩
 ·rintro c t ⟨rfl,D⟩;dsimp only;refine AL (wpS_mono (wpS_forRange (I:=λ_ c u=>u=t/\c=(U,())) (Q:=λc u=>u=t/\c=(U,())) ?_ (λ_ _ q=>q) ⟨rfl,rfl⟩) ?_)
  ·rintro x c u _ _ ⟨rfl,rfl⟩;refine AL (wpS_get ?_);rw[zr (by rw[D.2.2.1];exact zo 1)];exact wpS_pure ⟨rfl,rfl⟩
  ·rintro c u ⟨rfl,rfl⟩;exact wpS_pure (h _ D.1 D.2.1 D.2.2.2)
def F1(a:A1)(s s':A2):Prop:=∀c o,c≠a->s.heap.get? c=Z o->s'.heap.get? c=Z o
theorem MY{vs:O A0}{P:Fin->A2->Prop}(d:s.heap.get? a=Z (seqObj "list" vs.toArray n))(u:2<=vs.length->∀s',F1 a s s'->∀Q:SortKind->A2->Prop,Q kd s'->A7 (A8 prog w) A (keyKind' vs.toArray) Q E s')(v:∀s',F1 a s s'->CL prog w A s' kd rk (pairsOf vs))(l:vs.length<64)(h:∀st:SortSt,(AM st).Perm (pairsOf vs)->Up rk (AM st) (pairsOf vs).size->P (.done (.ret .none)) { s with heap:=sortedHeap s.heap a vs ((AM st).map (·.2)) }):
  A7 (A8 prog w) A (Builtin.«list.sort» ⟨[.ref a],[]⟩) P E s:=by
 rw[list_sort_plain];have z:=zw d;refine zd (listItems_at d S (zd (listUpdate_at d S ?_)));obtain⟨e1,g1⟩:∃e1,(s.heap.update a (Obj.mapSeq λ_=>#[])).get? a=Z (seqObj "list" #[] e1):=⟨_,get?_update_seq d λ_=>#[]⟩;refine zd (seqEpoch_at g1 S (zd (wpAny_newTuple (zd (wpAny_newList (QR ?_))))));have z1:(s.heap.update a (Obj.mapSeq λ_=>#[])).objs.size=s.heap.objs.size:=Heap.size_update ..;have keep:∀c,c<s.heap.objs.size->(((s.heap.update a (Obj.mapSeq λ_=>#[])).push (seqObj "tuple" vs.toArray 0)).push (seqObj "list" #[] 0)).get? c=(s.heap.update a (Obj.mapSeq λ_=>#[])).get? c:=λc f=>by
  rw[Heap.get?_push_ne _ _ _ (by rw[size_push',z1];exact z4 (QE f)),Heap.get?_push_ne _ _ _ (by rw[z1];exact z4 f)]
 have b:=(keep a z).trans g1;have old:F1 a s { s with heap:=((s.heap.update a (Obj.mapSeq λ_=>#[])).push (seqObj "tuple" vs.toArray 0)).push (seqObj "list" #[] 0) }:=λc o f e=>by
  show(((s.heap.update a (Obj.mapSeq λ_=>#[])).push (seqObj "tuple" vs.toArray 0)).push (seqObj "list" #[] 0)).get? c=Z o;rw[keep c (zw e),kf _ _ _ _ f];exact e
 show A7 _ _ _ _ _ { s with heap:=((s.heap.update a (Obj.mapSeq λ_=>#[])).push (seqObj "tuple" vs.toArray 0)).push (seqObj "list" #[] 0) };have B:vs.toArray.size=vs.length:=by simp
 have g:∀st:SortSt,(AM st).Perm (pairsOf vs)->((AM st).map (·.2)).size<=AA+1:=λst hp=>by
  have q:((AM st).map (·.2)).size=vs.length:=(Array.size_map ..).trans (hp.size_eq.trans (pairsOf_size _));rw[q,sizeLine_eq];omega
 by_cases h2:vs.toArray.size<2
 ·simp only[zr h2];refine zd (zg ?_);rw[StateT.run_pure];refine zd (zg (zd (seqEpoch_at b S (zd (listUpdate_at b S ?_ (hsz2:=g (SortSt.mk' general' (pairsOf vs) #[] 7 U) (Array.Perm.refl _)))))));simp only[bne_self_eq_false,zt,Z3];refine zg (h (SortSt.mk' general' (pairsOf vs) #[] 7 U) (Array.Perm.refl _) λi j C x=>?_);rw[pairsOf_size]at x;rw[show i=j by omega];exact zo _
 ·simp only[zD h2];refine zd (u (by omega) _ old _ ?_);refine zd (QA (LA (v _ old) (st:=SortSt.mk' kd (pairsOf vs) #[] 7 U) (Q:=λ_ t=>(AM t).Perm (pairsOf vs)/\failedOf t=U/\Up rk (AM t) (pairsOf vs).size) ⟨Array.Perm.refl _,rfl,rfl,rfl⟩ (by rw[pairsOf_size];omega) (by rw[pairsOf_size];exact l) λt q1 q2 y=>⟨q1,q2,y⟩) ?_ λ_ _ q=>q);rintro⟨⟨⟩,t⟩ s' ⟨rfl,hp,p,m⟩;dsimp only;refine zd (seqEpoch_at b S (zd (listUpdate_at b S ?_ (hsz2:=g t hp))));rw[p];simp only[bne_self_eq_false,zt,Z3];exact zg (h t hp m)
theorem Z4{x:A0}{vs:O A0}{Q:B7}(j:∀(a:B7) (f:O A0->A2->Prop),(∀h' tk,s.heap.objs.size<=h'.objs.size->(∀c o,s.heap.get? c=Z o->h'.get? c=Z o)->f vs { s with heap:=h',toks:=tk })->A7 (A8 prog w) A.in1 (collect x) f a s)
  (p:2<=vs.length->∀(a:B7) (d:A5) (s':A2),(∀c o,s.heap.get? c=Z o->s'.heap.get? c=Z o)->∀Q:SortKind->A2->Prop,Q kd s'->A7 (A8 prog w) d (keyKind' vs.toArray) Q a s') (t:∀(d:A5) (s':A2),(∀c o,s.heap.get? c=Z o->s'.heap.get? c=Z o)->CL prog w d s' kd rk (pairsOf vs)) (i:vs.length<64)
  (h:∀(l:A1) (h':A6) (tk n:Nat) (st:SortSt),(AM st).Perm (pairsOf vs)->Up rk (AM st) (pairsOf vs).size->s.heap.objs.size<=l->(∀c o,s.heap.get? c=Z o->h'.get? c=Z o)->h'.get? l=Z (seqObj "list" ((AM st).map (·.2)) n)->Q (.ref l) { s with heap:=h',toks:=tk }):
  A7 (A8 prog w) A (call (.builtin "sorted") [x]) Q E s:=by
 refine Calls.call_function_entry kind_sorted plain_sorted entry_sorted (args_sorted1 _) ?_;unfold Builtin.«sorted»;refine zd (m:=checkCount "sorted" 1 1 _) (zg (zd (j _ _ λh1 tk u ext=>zd (wpAny_newList ?_))));have b:(h1.push (seqObj "list" vs.toArray 0)).get? h1.objs.size=Z (seqObj "list" vs.toArray 0):=zv _ rfl;have old:∀s':A2,F1 h1.objs.size { s with heap:=h1.push (seqObj "list" vs.toArray 0),toks:=tk } s'->∀c o,s.heap.get? c=Z o->s'.heap.get? c=Z o:=λs' q c o e=>
  q c o (z4 (zw (ext c o e))) (ze _ (ext c o e))
 refine zd (QR (kK slot_list_sort ⟨_,b,rfl⟩ entry_list_sort (MY b (λq s' o=>p q _ _ s' (old s' o)) (λs' o=>t _ s' (old s' o)) i λst q1 q2=>⟨_,rfl,zg ⟨_,rfl,?_⟩⟩) (args_list_sort _)));obtain⟨n,g⟩:=sortedHeap_at (out:=(AM st).map (·.2)) b;refine h h1.objs.size _ tk n st q1 q2 u (λc o e=>?_) g;have hb:=zw (ext c o e);rw[sortedHeap_old (z4 hb) (by rw[qv];exact QE hb)];exact ze _ (ext c o e)
end
end S1
namespace S1
open L2
theorem Z5(fb:Bool)(x y:A0):keyLt' (tuples' fb) x y=(do
  let xs <-Builtin.List.listItems x
  let ys <-Builtin.List.listItems y
  for ((p,q),i) in (xs.toList.zip ys.toList).zipIdx do
   if !(<-eqBool p q)then return <-oneLt' (fb&&i==0) p q
  return decide (xs.size<ys.size)):=rfl
def Ye:AY->AY->Bool
 |.inl a,.inl b=>decide (a<b)
 |.inr x,.inr y=>decide (x.cps.toList<y.cps.toList)
 |.inl _,.inr _=>true
 |.inr _,.inl _=>false
def Yg:AY->AY->Bool
 |.inl _,.inl _=>true
 |.inr _,.inr _=>true
 |_,_=>false
def qw:O AY->O AY->Bool
 |[],[]=>false
 |[],_::_=>true
 |_::_,[]=>false
 |x::xs,y::ys=>if x=y then qw xs ys else Ye x y
def DJ:O AY->O AY->Prop
 |x::xs,y::ys=>Yg x y=true/\DJ xs ys
 |_,_=>True
theorem EJ{x y:AY}{p q:A0}{Q:Bool->A2->Prop}(hp:nq x p=true)(c:nq y q=true)(h:Q (decide (x=y)) s):A7 (A8 prog w) A (eqBool p q) Q E s:=
 (bD prog w).eqBool (a:=x) (b:=y) hp c h
theorem l5{fb:Bool}{x y:AY}{p q:A0}{Q:Bool->A2->Prop}(hs:Yg x y=true)(hp:nq x p=true)(a:nq y q=true)(h:Q (Ye x y) s):A7 (A8 prog w) A (oneLt' fb p q) Q E s:=by
 rcases bY hp with⟨i,t,rfl,rfl⟩|⟨z,t,rfl,rfl⟩
 ·rcases bY a with⟨j,u,rfl,rfl⟩|⟨z,u,rfl,rfl⟩
  ·cases fb with
   |true=>exact oneLt_int h
   |false=>
    rw[oneLt'_eq];simp only[zt,Z3];refine zd (show A7 _ _ (AG .Lt (.int i t) (.int j u)) _ _ _ from lt_int ?_);exact kz h
  ·cases hs
 ·rcases bY a with⟨j,u,rfl,rfl⟩|⟨b,u,rfl,rfl⟩
  ·cases hs
  ·cases fb with
   |true=>exact oneLt_str h
   |false=>
    rw[oneLt'_eq];simp only[zt,Z3];refine zd (show A7 _ _ (AG .Lt (.str z t) (.str b u)) _ _ _ from PySem.P.lt_str ?_);exact kz h
def Ks(ks:O AY)(AQ:O A0):Prop:=AI (λk v=>nq k v=true) ks AQ
def E6:O AY->O AY->Y Bool
 |x::xs,y::ys=>if x=y then E6 xs ys else Z (Ye x y)
 |_,_=>U
theorem OE:∀ks a:O AY,qw ks a=match E6 ks a with|some r=>r|none=>decide (ks.length<a.length)
 |[],[]=>rfl
 |[],_::_=>by simp[qw,E6]
 |_::_,[]=>rfl
 |x::xs,y::ys=>by
  simp only[qw,E6];by_cases e:x=y
  ·rw[zr e,zr e,OE xs ys];simp only[ZZ,Nat.add_lt_add_iff_right]
  ·rw[zD e,zD e]
def turn(fb:Bool):(A0×A0)×Nat->Y Bool×Unit->Sem (ForInStep (Y Bool×Unit)):=λx _=>match x with
 |((p,q),i)=>do
  let e <-eqBool p q
  if(!e)=true then do
    let r <-oneLt' (fb&&i==0) p q
    pure (ForInStep.done (Z r,()))
   else pure (ForInStep.yield (U,()))
theorem FK(fb:Bool):∀(ks b:O AY) (AQ a:O A0) (i:Nat) (R:Y Bool×Unit->A2->Prop),Ks ks AQ->Ks b a->DJ ks b->R (E6 ks b,()) s->A7 (A8 prog w) A (forIn ((AQ.zip a).zipIdx i) ((U,()):Y Bool×Unit) (turn fb)) R E s
 |[],_,_,_,_,R,.nil,_,_,h=>zg h
 |_::_,[],_::_,_,_,R,_,.nil,_,h=>zg h
 |x::xs,y::ys,p::AQ,q::a,i,R,.cons hp hk,.cons hq hl,hs,h=>by
  rw[List.zip_cons_cons,List.zipIdx_cons,List.forIn_cons];refine zd ?_;show A7 _ _ (eqBool p q >>= _) _ _ _;refine zd (EJ hp hq ?_);by_cases e:x=y
  ·simp only[e,ye,kU,zt,Z3];refine zg (FK fb xs ys AQ a (i+1) R hk hl hs.2 ?_);simp only[E6,zr e]at h;exact h
  ·simp only[e,k8,k6,qV];refine zd (l5 hs.1 hp hq (zg (zg ?_)));simp only[E6,zD e]at h;exact h
theorem e6{fb:Bool}{c:A1}{j f:AE}{d:O A0}{m:Nat}{b:O AY}{Q:Bool->A2->Prop}(q:s.heap.get? a=Z j)(u:j.data=.seq AQ.toArray n)(t:s.heap.get? c=Z f)(l:f.data=.seq d.toArray m)(i:Ks ks AQ)(g:Ks b d)(hs:DJ ks b)(h:Q (qw ks b) s):A7 (A8 prog w) A (keyLt' (tuples' fb) (.ref a) (.ref c)) Q E s:=by
 rw[Z5];refine zd (listItems_at q u (zd (listItems_at t l ?_)));have o:AQ.length=ks.length:=(Paired.length i).symm;have p:d.length=b.length:=(Paired.length g).symm;refine zd (FK fb ks b AQ d 0 _ i g hs ?_);rw[OE]at h;cases e:E6 ks b with
 |some r=>rw[e]at h;exact zg h
 |none=>
  rw[e]at h;refine zg ?_;simpa[o,p]using h
theorem mN(x:AY):Ye x x=false:=by
 cases x with
 |inl a=>simp[Ye]
 |inr a=>simp[Ye]
theorem Z6{x y z:AY}(h:Ye x y=true)(h':Ye y z=true):Ye x z=true:=by
 cases x<;>cases y<;>cases z<;>simp only[Ye,zC,zt,reduceCtorEq]at h h' ⊢
 ·omega
 ·exact List.lt_trans h h'
theorem SA{x y:AY}(h:Ye x y=false)(h':Ye y x=false):x=y:=by
 cases x<;>cases y<;>simp only[Ye,jS,Bool.true_eq_false,reduceCtorEq]at h h'
 ·congr 1;omega
 ·rename_i a b;have:=List.le_antisymm (as:=a.cps.toList) (bs:=b.cps.toList) h' h;cases a;cases b;simp only at this;rw[Array.toList_inj.mp this]
theorem Jv:∀xs:O AY,qw xs xs=false
 |[]=>rfl
 |x::xs=>by simp only[qw,qV];exact Jv xs
theorem rT:∀{xs ys zs:O AY},qw xs ys=true->qw ys zs=true->qw xs zs=true
 |[],[],_,h,_=>by cases h
 |[],_::_,[],_,h'=>by cases h'
 |[],_::_,_::_,_,_=>rfl
 |_::_,[],_,h,_=>by cases h
 |_::_,_::_,[],_,h'=>by cases h'
 |x::xs,y::ys,z::zs,h,h'=>by
  simp only[qw]at h h' ⊢;by_cases e1:x=y
  ·subst e1;rw[zr rfl]at h;by_cases e2:x=z
   ·subst e2;rw[zr rfl]at h' ⊢;exact rT h h'
   ·rw[zD e2]at h' ⊢;exact h'
  ·rw[zD e1]at h;by_cases e2:y=z
   ·subst e2;rw[zD e1];exact h
   ·rw[zD e2]at h';have:=Z6 h h';rw[zD (λe=>by subst e;rw[mN]at this;cases this)];exact this
theorem BP:∀{xs ys:O AY},qw xs ys=false->qw ys xs=false->xs=ys
 |[],[],_,_=>rfl
 |[],_::_,h,_=>by cases h
 |_::_,[],_,h'=>by cases h'
 |x::xs,y::ys,h,h'=>by
  simp only[qw]at h h';by_cases e:x=y
  ·subst e;rw[zr rfl]at h h';rw[BP h h']
  ·rw[zD e]at h;rw[zD (KM e)]at h';exact absurd (SA h h') e
def xW(xs ys:O AY):Bool:=!qw ys xs
theorem Ae(a b c:O AY)(h:xW a b=true)(h':xW b c=true):xW a c=true:=by
 unfold xW at *
 simp only[js]at *
 cases f:qw c a with
 |false=>rfl
 |true=>
  cases d:qw a b with
  |true=>rw[rT f d]at h';cases h'
  |false=>
   have e:=BP d h;subst e;rw[f]at h';cases h'
theorem Af(a b:O AY):(xW a b||xW b a)=true:=by
 unfold xW;cases h:qw b a with
 |false=>rfl
 |true=>
  cases h':qw a b with
  |false=>rfl
  |true=>have:=rT h h';rw[Jv]at this;cases this
theorem N8{a b:O AY}(h:xW a b=true)(h':xW b a=true):a=b:=by
 unfold xW at *
 simp only[js]at *
 exact BP h' h
theorem tM{α:Type}{le:α->α->Prop}(c:∀a b,le a b->le b a->a=b):∀{l l':O α},l.Perm l'->l.Pairwise le->l'.Pairwise le->l=l'
 |[],l',h,_,_=>by rw[List.nil_perm.mp h]
 |a::l,[],h,_,_=>by cases List.perm_nil.mp h
 |a::l,b::l',h,p,p'=>by
  have e:a=b:=by
   have d:a∈b::l':=h.mem_iff.mp (zh ..);have hb:b∈a::l:=h.mem_iff.mpr (zh ..);rcases List.mem_cons.mp d with h1|h1
   ·exact h1
   ·rcases List.mem_cons.mp hb with h2|h2
    ·exact h2.symm
    ·exact c a b (kq p h2) (kq p' h1)
  subst e;rw[tM c ((List.perm_cons a).mp h) (List.pairwise_cons.mp p).2 (List.pairwise_cons.mp p').2]
def nu(dG:O (O AY)):O (O AY):=dG.mergeSort xW
theorem qj(dG:O (O AY)):(nu dG).Perm dG:=ym ..
theorem xX(dG:O (O AY)):(nu dG).Pairwise (λa b=>xW a b=true):=KG Ae Af dG
theorem uY{out:O (O AY)}(hp:out.Perm dG)(hs:out.Pairwise (λa b=>xW a b=true)):out=nu dG:=tM (λ_ _=>N8) (hp.trans (qj dG).symm) hs (xX dG)
def CC(dG:O (O AY))(k:O AY):Nat:=dG.countP λu=>qw u k
theorem Oa{α:Type}{p q:α->Bool}:∀{l:O α},(∀x∈l,p x=true->q x=true)->(∃x∈l,p x=false/\q x=true)->l.countP p<l.countP q
 |[],_,⟨x,hx,_⟩=>by cases hx
 |a::l,h,⟨x,hx,h1,h2⟩=>by
  have le:l.countP p<=l.countP q:=List.countP_mono_left λy b=>h y (zi _ b);rw[List.countP_cons,List.countP_cons];rcases List.mem_cons.mp hx with rfl|hx
  ·rw[h1,h2];simp;omega
  ·have:=Oa (λy b=>h y (zi _ b)) ⟨x,hx,h1,h2⟩;have c:=h a (zh ..);cases hp:p a with
   |true=>rw[c hp];simp;omega
   |false=>simp;omega
theorem Yh{a b:O AY}(d:a∈dG):decide (CC dG a<CC dG b)=qw a b:=by
 cases h:qw a b with
 |true=>
  refine Zs (Oa (λu _ c=>rT c h) ⟨a,d,Jv a,h⟩)
 |false=>
  refine Zp (Nat.not_lt.mpr (List.countP_mono_left λu _ c=>?_));cases hb:qw b a with
  |true=>exact rT c hb
  |false=>rw[BP h hb];exact c
def lX(h:A6)(ks:O AY)(v:A0):Prop:=∃(a:A1) (o:AE) (AQ:O A0) (n:Nat),v=.ref a/\h.get? a=Z o/\o.cls=.type "tuple" ∧ o.data=.seq AQ.toArray n/\Ks ks AQ
theorem lX.keep{h':A6}{v:A0}(q:lX h ks v)(k:∀c o,h.get? c=Z o->h'.get? c=Z o):lX h' ks v:=by
 obtain⟨a,o,AQ,n,e,g,c,d,p⟩:=q;exact⟨a,o,AQ,n,e,k _ _ g,c,d,p⟩
theorem X'{k l:AY}{v:A0}(h:nq k v=true)(h':nq l v=true):k=l:=by
 rcases bY h with⟨i,t,rfl,rfl⟩|⟨x,t,rfl,rfl⟩
 ·rcases bY h' with⟨j,u,rfl,e⟩|⟨y,u,rfl,e⟩
  ·cases e;rfl
  ·cases e
 ·rcases bY h' with⟨j,u,rfl,e⟩|⟨y,u,rfl,e⟩
  ·cases e
  ·cases e;rfl
theorem Ks.inj:∀{ks a:O AY} {AQ:O A0},Ks ks AQ->Ks a AQ->ks=a
 |_,_,[],h,h'=>by cases h;cases h';rfl
 |_,_,v::AQ,h,h'=>by
  cases h with
  |cons p t=>cases h' with
   |cons p' t'=>rw[X' p p',Ks.inj t t']
theorem lX.inj{h:A6}{ks i:O AY}{v:A0}(q:lX h ks v)(l:lX h i v):ks=i:=by
 obtain⟨a,o,AQ,n,rfl,g,c,d,p⟩:=q;obtain⟨s,o',j,m,e,b,t,f,p'⟩:=l;cases e;rw[g]at b;cases b;rw[d]at f;injection f with e1 e2;have e3:AQ=j:=by simpa using congrArg Array.toList e1
 subst e3;exact p.inj p'
theorem Qt{α β:Type}{f:α->Sem β}:∀(xs:O α) (ys:O β) (Q:O β->A2->Prop),AI (λx y=>∀(b:B7) (a:β->A2->Prop),a y s->A7 (A8 prog w) A (f x) a b s) xs ys->Q ys s->A7 (A8 prog w) A (xs.mapM f) Q E s
 |[],_,Q,.nil,h=>by rw[List.mapM_nil];exact zg h
 |x::xs,y::ys,Q,.cons h t,q=>by
  rw[List.mapM_cons];exact zd (h _ _ (zd (Qt xs ys _ t (zg q))))
theorem TH(v:A0):firstOfTuple' v=(do
  if(<-typeOf v) != .type "tuple" then return U
  return (<-Builtin.List.listItems v)[0]?):=rfl
theorem Z7{k:AY}{v:A0}(q:lX s.heap (k::ks) v):∃u,nq k u=true/\∀(e:B7) (b:Y A0->A2->Prop),b (Z u) s->A7 (A8 prog w) A (firstOfTuple' v) b e s:=by
 obtain⟨a,o,AQ,n,rfl,g,c,d,p⟩:=q;cases p with
 |@cons _ u _ AQ hp t=>
  refine⟨u,hp,λe b h=>?_⟩;rw[TH];refine zd (Q3 (T :="tuple") ⟨o,g,c⟩ ?_);rw[zD (by decide)];exact zd (listItems_at g d (zg h))
theorem VW{k:AY}(h:nq k u=true)(b:B7)(a:B7)(q:a (.type (if k.isLeft then "int" else "str")) s):A7 (A8 prog w) A (typeOf u) a b s:=by
 rcases bY h with⟨i,t,rfl,rfl⟩|⟨x,t,rfl,rfl⟩
 ·exact Q3 (typeIs_int s i t) q
 ·exact Q3 (typeIs_str s x t) q
theorem Ob{vs:O A0}{Q:SortKind->A2->Prop}(m:AI (lX s.heap) dG vs)(i:∀k∈dG,k≠[])(C:∀k∈dG,∀l∈dG,DJ k l)(h2:1<=vs.length)(h:Q (tuples' true) s):A7 (A8 prog w) A (keyKind' vs.toArray) Q E s:=by
 have step:∀(dG:O (O AY)) (vs:O A0),AI (lX s.heap) dG vs->(∀k∈dG,k≠[])->∃us:O A0,AI (λv u=>∀(c:B7) (a:Y A0->A2->Prop),a (Z u) s->A7 (A8 prog w) A (firstOfTuple' v) a c s) vs us/\AI (λ(k:O AY) u=>∃x r,k=x::r/\nq x u=true) dG us:=by
  intro dG vs m
  induction m with
  |nil=>intro _;exact⟨[],.nil,.nil⟩
  |@cons k v dG vs q t d=>
   intro i;obtain⟨us,p1,p2⟩:=d λk e=>i k (zi _ e);cases k with
   |nil=>exact absurd S (i _ (zh ..))
   |cons x r=>
    obtain⟨u,f,o⟩:=Z7 (prog:=prog) (w:=w) (A:=A) q;exact⟨u::us,.cons o p1,.cons ⟨x,r,rfl,f⟩ p2⟩
 obtain⟨us,p1,p2⟩:=step dG vs m i;have F:us.length=vs.length:=(Paired.length p1).symm;have D:∀{l:O A0} {n:O A0},AI (λv u=>∀(c:B7) (a:Y A0->A2->Prop),a (Z u) s->A7 (A8 prog w) A (firstOfTuple' v) a c s) l n->AI (λv u=>∀(c:B7) (a:Y A0->A2->Prop),a u s->A7 (A8 prog w) A (firstOfTuple' v) a c s) l (n.map Z):=λh=>by
  induction h with
  |nil=>exact .nil
  |cons q t d=>exact .cons q d
 rw[keyKind'_eq,List.mapM_toArray,map_eq_pure_bind];refine zd (zd (Qt vs (us.map Z) _ (D p1) (zg ?_)));have y:(us.map Z).toArray.all (·.isSome)=true:=by simp
 rw[zr y];refine zd (Kx ?_);have z:(us.map Z).toArray.filterMap id=us.toArray:=by simp
 rw[z,oneTypeOnly'_eq,List.mapM_toArray,map_eq_pure_bind];have ty:∀(dG:O (O AY)) (us:O A0),AI (λ(k:O AY) u=>∃x r,k=x::r/\nq x u=true) dG us->∃ts:O A0,AI (λu t=>∀(c:B7) (a:B7),a t s->A7 (A8 prog w) A (typeOf u) a c s) us ts/\AI (λ(k:O AY) t=>∃x r,k=x::r/\t=.type (if x.isLeft then "int" else "str")) dG ts:=by
  intro dG us hp
  induction hp with
  |nil=>exact⟨[],.nil,.nil⟩
  |@cons k u dG us q t d=>
   obtain⟨ts,q1,q2⟩:=d;obtain⟨x,r,rfl,hx⟩:=q;exact⟨_::ts,.cons (λc a h=>VW hx c a h) q1,.cons ⟨x,r,rfl,rfl⟩ q2⟩
 obtain⟨ts,q1,q2⟩:=ty dG us p2;refine zd (zd (zd (Qt us ts _ q1 (zg ?_))));have lt:ts.length=vs.length:=by rw[<-Paired.length q1,F]
 cases q2 with
 |nil=>simp at lt;omega
 |@cons G J H j h0 p=>
  obtain⟨b,r,rfl,rfl⟩:=h0;have same:∀t∈j,t=Value.type (if b.isLeft then "int" else "str"):=by
   have B:∀(dG:O (O AY)) (ts:O A0),AI (λ(k:O AY) t=>∃x r,k=x::r/\t=Value.type (if x.isLeft then "int" else "str")) dG ts->(∀k∈dG,DJ (b::r) k)->∀t∈ts,t=Value.type (if b.isLeft then "int" else "str"):=by
    intro dG ts hp
    induction hp with
    |nil=>intro _ t g;cases g
    |@cons k t dG ts q _ d=>
     intro hs u f;rcases List.mem_cons.mp f with rfl|f
     ·obtain⟨x,I,rfl,rfl⟩:=q;have:=(hs _ (zh ..)).1;cases b<;>cases x<;>first|rfl|cases this
     ·exact d (λk e=>hs k (zi _ e)) u f
   exact B _ _ p λk e=>C _ (zh ..) k (zi _ e)
  have e0:(Value.type (if b.isLeft then "int" else "str")::j).toArray[0]?=Z (Value.type (if b.isLeft then "int" else "str")):=by simp
  have e1:((Value.type (if b.isLeft then "int" else "str")::j).toArray.all λx=>x==Value.type (if b.isLeft then "int" else "str"))=true:=by
   simp only[List.all_toArray,qB];intro t g;rcases List.mem_cons.mp g with rfl|g
   ·simp
   ·rw[same t g];simp
  rw[e0];simp only[e1,qV];refine zg (zg ?_);have e2:((Z (Value.type (if b.isLeft then "int" else "str"))).any λx=>x !=Value.type "tuple")=true:=by
   cases b with
   |inl _=>exact(by decide:((Z (Value.type "int")).any λx=>x !=Value.type "tuple")=true)
   |inr _=>exact(by decide:((Z (Value.type "str")).any λx=>x !=Value.type "tuple")=true)
  rw[e2];exact h
def BB(dG:O (O AY))(vs:O A0)(v:A0):O AY:=match (vs.zip dG).find? (λp=>p.1==v)with
 |some p=>p.2
 |none=>[]
theorem oR{h:A6}:∀{dG:O (O AY)} {vs:O A0},AI (lX h) dG vs->∀v∈vs,BB dG vs v∈dG/\lX h (BB dG vs v) v
 |_,_,.nil,v,hv=>by cases hv
 |k::dG,u::vs,.cons q t,v,hv=>by
  unfold BB;rw[List.zip_cons_cons,kQ];by_cases e:u=v
  ·subst e;simp only[beq_self_eq_true];exact⟨zh ..,q⟩
  ·have e':(u==v)=false:=by simpa using e
   simp only[e'];have b:v∈vs:=by
    rcases List.mem_cons.mp hv with h|h
    ·exact absurd h.symm e
    ·exact h
   have a:=oR t v b;exact⟨zi _ a.1,a.2⟩
theorem FP{h:A6}:∀{dG:O (O AY)} {vs:O A0},AI (lX h) dG vs->∀(K:A0->O AY),(∀v∈vs,lX h (K v) v)->vs.map K=dG
 |_,_,.nil,_,_=>rfl
 |k::dG,v::vs,.cons q t,K,hK=>by
  rw[zl,(hK v (zh ..)).inj q,FP t K λu a=>hK u (zi _ a)]
theorem Ag{h:A6}:∀{vs:O A0} {K:A0->O AY},(∀v∈vs,lX h (K v) v)->AI (lX h) (vs.map K) vs
 |[],_,_=>.nil
 |v::vs,K,hK=>.cons (hK v (zh ..)) (Ag λu a=>hK u (zi _ a))
theorem Td{vs:O A0}(f:AI (lX s.heap) dG vs)(x:∀k∈dG,∀l∈dG,DJ k l):CL prog w A s (tuples' true) (λv=>CC dG (BB dG vs v)) (pairsOf vs):=by
 intro E p q Q hp i h;rw[pairsOf_toList]at hp i;obtain⟨b,t1⟩:=oR f p.1 (mem_zip_self hp).2;obtain⟨j,t2⟩:=oR f q.1 (mem_zip_self i).2;rw[Yh b]at h;have y:=x _ b _ j;obtain⟨a,o,AQ,n,e,g,c,d,k⟩:=t1;obtain⟨C,o',B,z,e',m,D,t,u⟩:=t2;rw[e,e'];exact e6 g d m t k u y h
theorem Te{vs:O A0}(a:AI (lX h) dG vs){xs:Array Keyed}(hp:xs.Perm (pairsOf vs))(l:Up (λv=>CC dG (BB dG vs v)) xs (pairsOf vs).size):AI (lX h) (nu dG) (xs.map (·.2)).toList:=by
 have b:xs.toList.Perm (vs.zip vs):=by rw[<-pairsOf_toList];exact Array.perm_iff_toList_perm.mp hp
 have c:∀p∈xs.toList,p.1=p.2/\p.1∈vs:=λp q=>mem_zip_self (b.mem_iff.mp q);have e:(xs.map (·.2)).toList=xs.toList.map (·.1):=by
  rw[Array.toList_map];exact Qr λp q=>(c p q).1.symm
 have pv:(xs.toList.map (·.1)).Perm vs:=by
  have:=b.map Prod.fst;rwa [List.map_fst_zip (zo _)]at this
 have m:nu dG=(xs.toList.map (·.1)).map (BB dG vs):=by
  refine(uY ?_ ?_).symm
  ·have:=pv.map (BB dG vs);rwa [FP a _ λv q=>(oR a v q).2]at this
  ·rw[List.pairwise_iff_getElem];intro i j hi n o;have f:i<xs.size:=by simpa using hi
   have d:j<xs.size:=by simpa using n
   have u:=l i j (JJ o) (by rw[<-hp.size_eq];exact d);unfold at_ at u;rw[getElem?_pos xs i f,getElem?_pos xs j d]at u;have g:=(oR a xs[j].1 (c xs[j] (by simp)).2).1;simp only[List.getElem_map,Array.getElem_toList];unfold xW;rw[<-Yh g,Zp (Nat.not_lt.mpr u)];rfl
 rw[m,e];refine Ag λv q=>(oR a v ?_).2;exact pv.mem_iff.mp q
end S1
namespace P1
open L2 S1
theorem Wi{o:AE}{T:String}{vs:O A0}{Q:O A0->A2->Prop}(d:s.heap.get? l=Z o)(f:o.cls=.type T)(a:T ="list" ∨ T ="tuple")(hd:o.data=.seq vs.toArray n)(i:vs.length<=AA)(h:∀h' tk,s.heap.objs.size<=h'.objs.size->(∀c o,s.heap.get? c=Z o->h'.get? c=Z o)->Q vs { s with heap:=h',toks:=tk }):A7 (A8 prog w) A (collect (.ref l)) Q E s:=by
 unfold collect;refine zd (wpAny_runValue (ku entry_proto_collect' ?_));show A7 _ _ (newList [] >>= λq=>again (.builtin "list.__iadd__" ⟨[q,.ref l],[]⟩)) _ _ s;refine zd (wpAny_newList (zg ⟨Code.quiet_builtin _ (by decide +kernel),ku entry_list_iadd' ?_⟩));show A7 _ _ (Builtin.List.listExtendWith (.ref s.heap.objs.size) (.ref l) (.ref s.heap.objs.size)) _ _ _;unfold Builtin.List.listExtendWith;have g1:(s.heap.push (seqObj "list" #[] 0)).get? l=Z o:=ze _ d;refine zd (Q3 (T:=T) ⟨o,g1,f⟩ ?_);have b:(Value.type T==Value.type "list" || Value.type T==Value.type "tuple")=true:=by rcases a with rfl|rfl<;>decide
 rw[zr (by rw[Bool.or_assoc,b];simp)];refine zd (listItems_at g1 hd (zd (listItems_at (xs:=#[]) (n:=0) (zv _ S) S ?_)));rw[zD (by simp)];have g2:(s.heap.push (seqObj "list" #[] 0)).get? s.heap.objs.size=Z (seqObj "list" #[] 0):=zv _ rfl;refine zd (listUpdate_at (xs:=#[]) (n:=0) g2 S (zg ?_) (QU _) (by show(#[]++vs.toArray).size<=AA+1;simp only[KU,zI,List.length_nil];omega));show A7 (A8 prog w) A (load s.heap.objs.size >>= _) Q E _;refine zd (yv (get?_update_seq g2 _) ?_);show A7 _ _ (pure ((#[]:Array A0)++vs.toArray).toList) Q E _;rw[show((#[]:Array A0)++vs.toArray).toList=vs by simp];refine zg (h _ s.toks ?_ λc g e=>?_)
 ·rw[Heap.size_update,size_push'];exact JU _
 ·rw[kf _ _ _ _ (z4 (zw e))];exact ze _ e
def Fn:Dt->Y AY
 |.int i=>Z (.inl i)
 |.str x=>Z (.inr x)
 |_=>U
def FQ:O Dt->Y (O AY)
 |[]=>Z []
 |d::ds=>(Fn d).bind λk=>(FQ ds).bind λks=>Z (k::ks)
def Jw:Dt->Y (O AY)
 |.tup ds=>FQ ds
 |_=>U
def vN:O Dt->Y (O (O AY))
 |[]=>Z []
 |d::ds=>(Jw d).bind λk=>(vN ds).bind λks=>Z (k::ks)
def dK:AY->Dt
 |.inl i=>.int i
 |.inr x=>.str x
def BG(ks:O AY):Dt:=.tup (ks.map dK)
theorem gL{k:AY}(h:Fn d=Z k):d=dK k:=by
 cases d<;>cases h<;>rfl
theorem Tf:∀{ds:O Dt} {ks:O AY},FQ ds=Z ks->ds=ks.map dK
 |[],_,h=>by cases h;rfl
 |d::ds,_,h=>by
  obtain⟨k,e1,h⟩:=AT h;obtain⟨ks,e2,h⟩:=AT h;cases h;rw[zl,gL e1,Tf e2]
theorem Tg(h:Jw d=Z ks):d=BG ks:=by
 cases d with
 |tup ds=>exact congrArg Dt.tup (Tf h)
 |_=>cases h
theorem Eb:∀{ds:O Dt} {dG:O (O AY)},vN ds=Z dG->ds=dG.map BG
 |[],_,h=>by cases h;rfl
 |d::ds,_,h=>by
  obtain⟨k,e1,h⟩:=AT h;obtain⟨ks,e2,h⟩:=AT h;cases h;rw[zl,Tg e1,Eb e2]
theorem aw{k:AY}(h:AW K H (dK k) v):v=kV k:=by
 cases k with
 |inl i=>exact(show v=.int i by simpa only[dK,AW]using h)
 |inr x=>exact(show v=.str x/\x.length<=AA by simpa only[dK,AW]using h).1
theorem Oc{K:B1}{H:Hp}:∀{ks:O AY} {vs:O V},aQ K H (ks.map dK) vs->vs=ks.map kV
 |[],_,h=>by simp only[JO,aQ]at h;exact h
 |k::ks,_,h=>by
  simp only[zl,aQ]at h;obtain⟨v,r,rfl,h1,h2⟩:=h;rw[aw h1,Oc h2,zl]
theorem io(X:Cx):∀{us:O A0},AX (ks.map kV) us->Ks ks us:=by
 induction ks with
 |nil=>intro us h;cases h;exact .nil
 |cons k ks a=>
  intro us h;cases h with
  |cons r t=>exact .cons (Iw (P:=X.prog) (w:=X.w) r) (a t)
theorem tO{AN:O (A1×AE)}{σ:L2.St}{H:Hp}{s:A2}(I:AU X AN σ H s):∀{dG:O (O AY)} {vs:O V} {AQ:O A0},aQ X.K H (dG.map BG) vs->AX vs AQ->AI (lX s.heap) dG AQ
 |[],_,_,h,r=>by
  simp only[JO,aQ]at h;subst h;cases r;exact .nil
 |k::dG,_,_,h,r=>by
  simp only[zl,aQ]at h;obtain⟨v,vs,rfl,h1,h2⟩:=h;cases r with
  |cons f e=>
   refine .cons ?_ (tO I h2 e);simp only[BG,AW]at h1;obtain⟨a,j,rfl,sq,i⟩:=h1;obtain⟨AQ,b,⟨o,g,c,n,d⟩,_⟩:=I.tuple sq;cases f;rw[Oc i]at b;exact⟨a,o,AQ,n,rfl,g,c,d,io X b⟩
theorem Ed{AN:O (A1×AE)}{σ:L2.St}{H:Hp}{s:A2}(I:AU X AN σ H s){dG:O (O AY)}{vs:O V}{AQ:O A0}(h:aQ X.K H (dG.map BG) vs)(r:AX vs AQ):∀{lss:O (O AY)} {out:O A0},AI (lX s.heap) lss out->(∀u∈out,u∈AQ)->∃zs,AX zs out/\aQ X.K H (lss.map BG) zs
 |_,_,.nil,_=>⟨[],.nil,aQ.nil⟩
 |l::lss,u::out,.cons q t,hm=>by
  obtain⟨zs,z1,z2⟩:=Ed I h r t λx hx=>hm x (zi _ hx);have f:∀(dG:O (O AY)) (vs:O V) (AQ:O A0),aQ X.K H (dG.map BG) vs->AX vs AQ->u∈AQ->∃v,Au v u/\AW X.K H (BG l) v:=by
   intro dG
   induction dG with
   |nil=>
    intro vs AQ h r a;simp only[JO,aQ]at h;subst h;cases r;cases a
   |cons k dG d=>
    intro vs AQ h r a;simp only[zl,aQ]at h;obtain⟨v,vs,rfl,h1,h2⟩:=h;cases r with
    |@cons _ i _ _ b c=>
     rcases List.mem_cons.mp a with rfl|a
     ·have e:k=l:=by
       have:=tO I (dG:=[k]) (vs:=[v]) (AQ:=[u]) (by simp only[zl,JO];exact aQ.cons h1 aQ.nil) (.cons b .nil);cases this with
       |cons g _=>exact g.inj q
      subst e;exact⟨v,b,h1⟩
     ·exact d vs _ h2 c a
  obtain⟨v,b,h1⟩:=f dG vs AQ h r (hm u (zh ..));exact⟨v::zs,.cons b z1,by rw[zl];exact aQ.cons h1 z2⟩
def Qu(k l:O AY):Bool:=((k.zip l).all λp=>Yg p.1 p.2)
theorem Jx:∀{k l:O AY},Qu k l=true->DJ k l
 |[],_,_=>by simp[DJ]
 |_::_,[],_=>by simp[DJ]
 |x::k,y::l,h=>by
  unfold Qu at h;rw[List.zip_cons_cons,kR,ZN]at h;exact⟨h.1,Jx h.2⟩
def GK(dG:O (O AY)):Bool:=decide (dG.length<64)&&(dG.all (λk=>!k.isEmpty)&&dG.all λk=>dG.all λl=>Qu k l)
def oU:O Bx->Y Bx
 |[b]=>(Ab b).bind λds=>(vN ds).bind λdG=>if GK dG=true then Z (.o ((nu dG).map BG))else U
 |_=>U
theorem Qv(h:bB K H b v)(e:Ab b=Z ds):∃a vs,v=.ref a/\(vI K H a vs\/Bd K H a vs)/\aQ K H ds vs:=by
 cases b with
 |z d=>
  cases d<;>first|(cases e;done)|skip
  ·cases e;simp only[bB,AW]at h;obtain⟨a,vs,e,q,r⟩:=h;exact⟨a,vs,e,.inr q,r⟩
  ·cases e;simp only[bB,AW]at h;obtain⟨a,vs,e,q,r⟩:=h;exact⟨a,vs,e,.inl q.sq,r⟩
 |l c=>cases e;obtain⟨a,vs,e,q,r⟩:=h;exact⟨a,vs,e,.inl (.inl q),r⟩
 |o c=>cases e;obtain⟨a,vs,e,q,r⟩:=h;exact⟨a,vs,e,.inl (.inl (.inl q)),r⟩
 |n _=>cases e
 |m _ _=>cases e
theorem xY:uU X (.builtin "sorted") oU:=by
 intro AN s σ H xs us Q I G h;obtain⟨bs,c,rb,e,q⟩:=h;unfold oU at e;split at e
 ·rename_i b;obtain⟨ds,ed,e⟩:=AT e;obtain⟨dG,ek,e⟩:=AT e;split at e
  ·rename_i hs;cases e;simp only[GK,ZN,zC,qB,js]at hs;obtain⟨M,D,B⟩:=hs;obtain⟨v,rfl,r1⟩:=BN rb;obtain⟨p,vs,rfl,sq,w⟩:=Qv r1 ed;obtain⟨u,rfl,E⟩:=BC G;cases E;have a2:=Eb ek;subst a2;have a0:∃(AQ:O A0) (o:AE) (T:String) (n:Nat),AX vs AQ/\s.heap.get? p=Z o/\o.cls=.type T/\(T ="list" ∨ T ="tuple")/\o.data=.seq AQ.toArray n/\vs.length<=AA:=by
    rcases sq with sq|sq
    ·obtain⟨AQ,f,pl,t⟩:=I.list sq;obtain⟨o,g,c,n,d⟩:=pl.isList;exact⟨AQ,o,_,n,f,g,c,.inl rfl,d,t⟩
    ·obtain⟨AQ,f,⟨o,g,c,n,d⟩,t⟩:=I.tuple sq;exact⟨AQ,o,_,n,f,g,c,.inr rfl,d,t⟩
   obtain⟨AQ,o,T,n,f,g,F,W,hd,t⟩:=a0;have a4:AQ.length=dG.length:=by rw[<-f.length,w.length,zk]
   have tv:=tO I w f;refine Z4 (kd:=tuples' true) (rk:=λv=>CC dG (BB dG AQ v)) (vs:=AQ) (λN P x=>Wi g F W hd (by rw[<-f.length];exact t) x)
    (λh2 N L s' k P x=>Ob (Paired.imp' (λ_ _ z=>lX.keep z k) tv) (λk j=>by have:=D k j;cases k with|nil=>cases this|cons _ _=>exact List.cons_ne_nil _ _) (λk j l i=>Jx (B k j l i)) (by omega) x)
    (λL s' k=>Td (Paired.imp' (λ_ _ z=>lX.keep z k) tv) λk j l i=>Jx (B k j l i)) (by omega) λl h' tk m st hp up i ext J=>?_
   have K:=Te tv hp up;have mem:∀u∈((AM st).map (·.2)).toList,u∈AQ:=λu A=>by
    rw[Array.toList_map]at A;obtain⟨pr,a1,rfl⟩:=List.mem_map.mp A;have a3:pr∈AQ.zip AQ:=by rw[<-pairsOf_toList];exact(Array.perm_iff_toList_perm.mp hp).mem_iff.mp a1
    have:=mem_zip_self a3;rw[<-this.1];exact this.2
   obtain⟨zs,z1,z2⟩:=Ed I w f K mem;have C:zs.length=dG.length:=by rw[z2.length,zk,(qj dG).length_eq]
   have y:H l=U:=I.hok.fresh i;refine⟨.ref l,_,I.laid (t':=tk) (a:=l) (o:=.lst zs) ext i ⟨by rw[C];exact JJ (ZY M (by decide)),_,m,z1,?_⟩,rfl,q _ _ (cH y) (λa ea=>by cases ea;exact y) ⟨l,zs,rfl,bK,z2.kp (.of (cH y))⟩⟩;rw[J]
  ·cases e
 ·cases e
end P1
namespace S6
theorem Z8{b:Source}{Q:Nat->A2->Prop}(a:n≠0)(h:∀i d,i<n->Q i { s with drawn:=d }):A7 M A (choose b n) Q E s:=
 λe p c=>⟨a,h _ _ (Nat.mod_lt _ (Nat.pos_of_ne_zero a))⟩
theorem Qw{α:Type}:∀{xs:O α} {i:Nat} (hi:i<xs.length),(xs[i]::xs.eraseIdx i).Perm xs
 |x::xs,0,_=>List.Perm.refl _
 |x::xs,i+1,h=>by
  rw[List.eraseIdx_cons_succ,List.getElem_cons_succ];exact(List.Perm.swap _ _ _).trans ((Qw (xs:=xs) (i:=i) (by simpa using h)).cons x)
theorem X9:∀(n:Nat) (xs:O α) (s:A2) (Q:O α->A2->Prop),xs.length=n->(∀ys d,ys.Perm xs->Q ys { s with drawn:=d })->A7 M A (drawOrder n xs) Q E s:=by
 intro n
 induction n with
 |zero=>
  intro xs s Q a h;cases xs with
  |nil=>
   unfold drawOrder;exact zg (h [] s.drawn (List.Perm.refl _))
  |cons x xs=>simp at a
 |succ n b=>
  intro xs s Q a h;cases xs with
  |nil=>simp at a
  |cons x xs=>
   unfold drawOrder;refine zd (Z8 (by simp) λi d hi=>?_);have e:(x::xs)[i]?=Z (x::xs)[i]:=by simp[hi]
   rw[e];dsimp only;refine zd (b ((x::xs).eraseIdx i) _ _ (by rw[List.length_eraseIdx,zr hi];simp at a ⊢;omega) λys c hp=>zg ?_);exact h _ c ((List.Perm.cons _ hp).trans (Qw hi))
theorem Yi{α:Type}(next:Nat->Nat):∀(n k:Nat) (xs:O α) (out:Array α),xs.length=n->(pickOrder.go next n k xs out).toList.Perm (out.toList++xs)
 |0,k,[],out,_=>by unfold pickOrder.go;simp
 |n+1,k,x::xs,out,hl=>by
  unfold pickOrder.go;have hi:next k%(x::xs).length<(x::xs).length:=Nat.mod_lt _ (by simp);have e:(x::xs)[next k%(x::xs).length]?=Z (x::xs)[next k%(x::xs).length]:=by rw[Zl hi]
  rw[e];dsimp only;refine(Yi next n (k+1) _ _ (by rw[List.length_eraseIdx,zr hi];simp at hl ⊢;omega)).trans ?_;rw[Array.toList_push,qo];exact(List.Perm.refl _).append (Qw hi)
theorem Z9(next:Nat->Nat)(xs:Array α):(pickOrder next xs).toList.Perm xs.toList:=by
 have:=Yi next xs.size 0 xs.toList #[] (by simp);simpa[pickOrder]using this
structure Wk (w:World) (h:Heap) (a:Addr) (es:Array (Int×Value)) (ep:Nat) (t:SetTable):Prop where
 at_:∃o,h.get? a=some o/\o.cls=.type "set" ∧ o.data=.set es ep t
 fit:t.fits es.size=true
 led:w.params.followText "set-order"=false->t.led=true
 non:1<es.size->t.plain=false
theorem Wk.keep{h':A6}{es:Array (Int×A0)}(x:Wk w h a es ep t)(k:∀o,h.get? a=Z o->h'.get? a=Z o):Wk w h' a es ep t:=
 ⟨let ⟨o,e,r⟩:=x.at_;⟨o,k o e,r⟩,x.fit,x.led,x.non⟩
def It(h:A6)(it a:A1)(first:A0)(i n ep:Nat):Prop:=∃o,h.get? it=Z o/\o.cls=.type "set_iterator" ∧ o.data=.fields #[first,.int (i:Int) 0,.ref a,.int (n:Int) 0,.int (ep:Int) 0]
theorem It.keep{h':A6}{f:A0}(x:It h it a f i n ep)(k:∀o,h.get? it=Z o->h'.get? it=Z o):It h' it a f i n ep:=
 let ⟨o,e,r⟩:=x;⟨o,k o e,r⟩
theorem It.ty{f:A0}(x:It s.heap it a f i n ep):s.TypeIs (.ref it) "set_iterator":=let ⟨o,e,c,_⟩:=x;⟨o,e,c⟩
theorem j5:Slot "set_iterator" "__next__" "set_iterator.__next__":=
 .of (owner :="set_iterator") (n :="__next__") (by rw[typeLookup_type,builtinLookup_eq_fast];kernel_rfl) (by decide +kernel) (by decide +kernel) (by decide +kernel)
  (by first|exact .inl (by decide +kernel)|exact .inr (by decide +kernel)) (by rw[isSubtype_type];kernel_rfl)
theorem BR:Slot "set_iterator" "__iter__" "set_iterator.__iter__":=
 .of (owner :="set_iterator") (n :="__iter__") (by rw[typeLookup_type,builtinLookup_eq_fast];kernel_rfl) (by decide +kernel) (by decide +kernel) (by decide +kernel)
  (by first|exact .inl (by decide +kernel)|exact .inr (by decide +kernel)) (by rw[isSubtype_type];kernel_rfl)
theorem Lr:entryFor table "set_iterator.__next__"=Z Builtin.«set_iterator.__next__»:=entryFor_of_tree (by kernel_rfl)
theorem GP:entryFor table "set.__iter__"=Z Builtin.«frozenset.__iter__»:=entryFor_alias (id' :="frozenset.__iter__") (by kernel_rfl) S (by decide +kernel) (by kernel_rfl)
theorem Ls:entryFor table "set_iterator.__iter__"=Z Builtin.«dict_keyiterator.__iter__»:=entryFor_alias (id' :="dict_keyiterator.__iter__") (by kernel_rfl) S (by decide +kernel) (by kernel_rfl)
theorem OQ:Manifest.owners.lookup (String.ofList "rotareti_tes".toList.reverse)=Z Manifest.sig_set_iterator:=by kernel_rfl
theorem Qx(a:A0):argsOk "set_iterator.__next__" ⟨[a],[]⟩:=by
 unfold argsOk;rw[signature?_of (id :="set_iterator.__next__") (n :="__txen__".toList) (o :="rotareti_tes".toList) (by kernel_rfl) OQ];kernel_rfl
theorem Qy(a:A0):argsOk "set_iterator.__iter__" ⟨[a],[]⟩:=by
 unfold argsOk;rw[signature?_of (id :="set_iterator.__iter__") (n :="__reti__".toList) (o :="rotareti_tes".toList) (by kernel_rfl) OQ];kernel_rfl
section
variable{es:Array (Int×A0)}
theorem HF{first:A0}(d:It s.heap it a first i es.size ep)(f:Wk w s.heap a es ep t)(h:A7 (A8 prog w) A.in1 (if let .int slot _:=first then(do
    match <-setNext a slot.toNat (i:Int).toNat (ep:Int).toNat with
    |some (x,next)=>
     setField (.ref it) 0 (rawInt next)
     setField (.ref it) 1 (rawInt ((i:Int)+1))
     ret x
    |none=>setField (.ref it) 2 .none;raiseNew (<-newExc (.type "StopIteration") []))
   else(do
    let Z places <-seqItems? first|unsupported "internal:set_iterator"
    match places[(i:Int).toNat]? with
    |some (.int place _)=>
     let x <-setNextDrawn a place.toNat (ep:Int).toNat
     setField (.ref it) 1 (rawInt ((i:Int)+1))
     ret x
    |some _=>unsupported "internal:set_iterator"
    |none=>setField (.ref it) 0 (rawInt 0);setField (.ref it) 2 .none;raiseNew (<-newExc (.type "StopIteration") []))) (λg s'=>∃v,g=.done (.ret v)/\Q (Z v) s') (λe s'=>s'.TypeIs e "StopIteration" ∧ Q U s') s):A7 (A8 prog w) A (pyNext (.ref it)) Q E s:=by
 obtain⟨o,n,u,hd⟩:=id d;obtain⟨q,m,p,j⟩:=f.at_;unfold pyNext;refine zd (wpAny_attempt (YA (name:=Str.ofString "__next__") d.ty j5 (kK j5 d.ty Lr ?_ (Qx _))));unfold Builtin.«set_iterator.__next__»;refine zd (zg ?_);refine zd (wpAny_fieldsOf n hd ?_);show A7 _ _ (setEntries a >>= _) _ _ s;refine zd (wpAny_setEntries_of m j f.fit ?_);rw[zD (by simp)];refine QA h (λg s' c=>?_) λe s' c=>?_
 ·obtain⟨v,rfl,l⟩:=c;exact⟨v,rfl,zg l⟩
 ·refine zd (kF (T :="StopIteration") (b:=true) c.1 isSubtype_stop ?_);exact zg c.2
theorem Yj{hp:A6}(c:A.handled=U)(h:∀h',(∀b o,hp.get? b=Z o->h'.get? b=Z o)->Q U { s with heap:=h' }):
  A7 (A8 prog w) A.in1 (do raiseNew (<-newExc (.type "StopIteration") [])) (λ(d:Fin) s'=>∃v,d=.done (.ret v)/\Q (Z v) s') (λe s'=>s'.TypeIs e "StopIteration" ∧ Q U s') { s with heap:=hp }:=by
 refine zd ?_;simp only[newExc,newTuple];refine zd (qi ?_ (by size_fits));refine zd (m:=firstArgMember _ _) (wpAny_of_eq (a:=Value.none) (by first|rfl|(simp only[firstArgMember];rfl)) ?_);refine qi ?_ (by size_fits);simp only[raiseNew];refine zd (wpAny_handled ?_);rw[show A.in1.handled=U from c];refine zd (zg (wpAny_throw ⟨⟨_,zv _ rfl,rfl⟩,?_⟩));exact h _ λb o e=>ze _ (ze _ e)
theorem It.put{f:A0}(c:It h it a f i n ep)(x:A0):It (h.update it (Obj.mapFields (·.setIfInBounds 0 x))) it a x i n ep:=by
 obtain⟨o,b,d,hd⟩:=c;exact⟨_,ya _ b (Obj.isFreed_of_fields (yT hd _)),(Obj.cls_mapFields ..).trans d,by rw[yT hd];simp⟩
theorem It.step{f:A0}(c:It h it a f i n ep):It (h.update it (Obj.mapFields (·.setIfInBounds 1 (rawInt ((i:Int)+1))))) it a f (i+1) n ep:=by
 obtain⟨o,b,d,hd⟩:=c;exact⟨_,ya _ b (Obj.isFreed_of_fields (yT hd _)),(Obj.cls_mapFields ..).trans d,by rw[yT hd];simp[rawInt]⟩
theorem It.field{f:A0}{k:Nat}{x:A0}{Q:Unit->A2->Prop}(c:It s.heap it a f i n ep)(b:k<5)(h:Q () { s with heap:=s.heap.update it (Obj.mapFields (·.setIfInBounds k x)) }):A7 (A8 prog w) A (setField (.ref it) k x) Q E s:=by
 obtain⟨o,d,e,hd⟩:=c;exact wpAny_setField d hd (by simpa using b) h
theorem uZ{f:AE->AE}{b:A1}{o:AE}(hb:b≠it)(e:h.get? b=Z o):(h.update it f).get? b=Z o:=by rw[kf _ _ _ _ hb];exact e
theorem LS{slot next:Nat}{x:A0}(c:It s.heap it a (.int (slot:Int) 0) i es.size ep)(j:Wk w s.heap a es ep t)(g:∀{l:A5} {f:B7} {d:Y (A0×Nat)->A2->Prop},d (Z (x,next)) s->A7 (A8 prog w) l (setNext a slot i ep) d f s)(h:∀h',It h' it a (.int (next:Int) 0) (i+1) es.size ep->(∀b o,b≠it->s.heap.get? b=Z o->h'.get? b=Z o)->Q (Z x) { s with heap:=h' }):A7 (A8 prog w) A (pyNext (.ref it)) Q E s:=by
 refine HF c j ?_;show A7 _ _ (setNext a slot i ep >>= _) _ _ s;refine zd (g ?_);refine zd (c.field (by decide) ?_);refine zd ((c.put _).field (s:={ s with heap:=_ }) (by decide) ?_);exact zg ⟨x,rfl,h _ ((c.put _).step) λb o hb e=>uZ hb (uZ hb e)⟩
theorem Jy{slot:Nat}(j:A.handled=U)(c:It s.heap it a (.int (slot:Int) 0) i es.size ep)(l:Wk w s.heap a es ep t)(g:∀{m:A5} {f:B7} {d:Y (A0×Nat)->A2->Prop},d U s->A7 (A8 prog w) m (setNext a slot i ep) d f s)(h:∀h',(∀b o,b≠it->s.heap.get? b=Z o->h'.get? b=Z o)->Q U { s with heap:=h' }):A7 (A8 prog w) A (pyNext (.ref it)) Q E s:=by
 refine HF c l ?_;show A7 _ _ (setNext a slot i ep >>= _) _ _ s;refine zd (g ?_);refine zd (c.field (by decide) (Yj j λh' k=>h h' λb o hb e=>k b o (uZ hb e)))
theorem ln{tp:A1}{g:AE}{c:Nat}{x:Int×A0}(d:It s.heap it a (.ref tp) i es.size ep)(f:Wk w s.heap a es ep t)(q:s.heap.get? tp=Z g)(hd:g.data=.seq (pl.map λ(k:Nat)=>rawInt (k:Int)).toArray c)(n:pl[i]?=Z j)(hx:es[j]?=Z x)(h:∀h',It h' it a (.ref tp) (i+1) es.size ep->(∀b o,b≠it->s.heap.get? b=Z o->h'.get? b=Z o)->Q (Z x.2) { s with heap:=h' }):A7 (A8 prog w) A (pyNext (.ref it)) Q E s:=by
 refine HF d f ?_;show A7 _ _ (seqItems? (.ref tp) >>= _) _ _ s;refine zd (m:=seqItems? (.ref tp)) ?_;unfold seqItems?;refine zd (yv q ?_);rw[hd];refine zg ?_;dsimp only;rw[KS,show((pl.map λ(k:Nat)=>rawInt (k:Int)).toArray)[i]?=Z (rawInt (j:Int)) by simp[n]];show A7 _ _ (setNextDrawn a j ep >>= _) _ _ s;obtain⟨v,p,u,l⟩:=f.at_;refine zd (m:=setNextDrawn a j ep) ?_;unfold setNextDrawn;refine zd (Q4 p l f.fit ?_);dsimp only;rw[zD (by simp),hx];refine zg ?_;refine zd (d.field (by decide) ?_);exact zg ⟨x.2,rfl,h _ d.step λb o hb e=>uZ hb e⟩
theorem Ti{tp:A1}{f:AE}{c:Nat}(j:A.handled=U)(d:It s.heap it a (.ref tp) i es.size ep)(n:Wk w s.heap a es ep t)(l:s.heap.get? tp=Z f)(hd:f.data=.seq (pl.map λ(k:Nat)=>rawInt (k:Int)).toArray c)(g:pl[i]?=U)(h:∀h',(∀b o,b≠it->s.heap.get? b=Z o->h'.get? b=Z o)->Q U { s with heap:=h' }):A7 (A8 prog w) A (pyNext (.ref it)) Q E s:=by
 refine HF d n ?_;show A7 _ _ (seqItems? (.ref tp) >>= _) _ _ s;refine zd (m:=seqItems? (.ref tp)) ?_;unfold seqItems?;refine zd (yv l ?_);rw[hd];refine zg ?_;dsimp only;rw[KS,show((pl.map λ(k:Nat)=>rawInt (k:Int)).toArray)[i]?=U by simpa using g];refine zd (d.field (by decide) ?_);refine zd ((d.put _).field (s:={ s with heap:=_ }) (by decide) (Yj j λh' k=>h h' λb o hb e=>k b o (uZ hb (uZ hb e))))
theorem yZ{Q:Bool->A2->Prop}(h:Q (w.params.followText "set-order") s):A7 (A8 prog w) A setsByText Q E s:=by
 unfold setsByText;exact zd (Ya (zg h))
theorem Qz{f:A0}{Q:B7}(b:It s.heap it a f i n ep)(h:Q (.ref it) s):A7 (A8 prog w) A (pyIter (.ref it)) Q E s:=by
 refine wpAny_pyIter_slot b.ty BR (kK BR b.ty Ls ?_ (Qy _));show A7 _ _ (ret (.ref it)) _ _ s;exact zg ⟨_,rfl,"set_iterator", _,b.ty,j5.lookup,h⟩
def QC(w:A4)(a:A1)(ep:Nat)(es:Array (Int×A0)):O A0:=(pickOrder (w.params.setOrder a ep) es).toList.map (·.2)
theorem Ef:(QC w a ep es).Perm (es.toList.map (·.2)):=(Z9 _ _).map _
theorem Od{slot:Nat}{Q:Y (A0×Nat)->A2->Prop}(d:w.params.followText "set-order"=true)(b:Wk w s.heap a es ep t)(h:Q (((QC w a ep es)[i]?).map λv=>(v,slot)) s):A7 (A8 prog w) A (setNext a slot i ep) Q E s:=by
 obtain⟨j,f,g,c⟩:=b.at_;unfold setNext;refine zd (Q4 f c b.fit (zd (yZ ?_)));rw[d];simp only[↓reduceIte,bne_self_eq_false,zt];refine zd (m:=setWalk a) ?_;unfold setWalk;refine zd (Q4 f c b.fit (zd (yZ ?_)));rw[d];simp only[↓reduceIte];refine zd (Ya (zg (zg ?_)));have e:(pickOrder (w.params.setOrder a ep) es)[i]?.map (λe=>(e.2,slot))=((QC w a ep es)[i]?).map λv=>(v,slot):=by
  unfold QC;rw[ZE,Option.map_map,Qb];rfl
 rw[<-e]at h;exact h
theorem Wj(p:A.handled=U)(g:w.params.followText "set-order"=true)(n:a≠it)(c:es.size<=AA):Walks prog w A it [it,a] [it] es.size (λi v=>(QC w a ep es)[i]?=Z v) (λi h=>It h it a (.int 0 0) i es.size ep/\Wk w h a es ep t) where
 sub:=λb hb=>by simp at hb;simp[hb]
 frame:=λ_ _ _ st f=>⟨st.1.keep λo e=>f it (by simp) o e,st.2.keep λo e=>f a (by simp) o e⟩
 item:=λi s Q E hi st d=>by
  have m:(QC w a ep es).length=es.size:=by rw[Ef.length_eq];simp
  obtain⟨v,j⟩:∃v,(QC w a ep es)[i]?=Z v:=⟨(QC w a ep es)[i]'(by omega),by rw[Zl]⟩;refine LS (slot:=0) (next:=0) (x:=v) st.1 st.2 (λ{A' E' Q'} hq=>Od g st.2 (by rw[j];exact hq)) λh' l k=>?_;exact d v h' s.toks j ⟨l,st.2.keep λo e=>k a o n e⟩ λb o hb e=>k b o (λx=>hb (by simp[x])) e
 done:=λs Q E st d=>by
  have m:(QC w a ep es).length=es.size:=by rw[Ef.length_eq];simp
  refine Jy (slot:=0) p st.1 st.2 (λ{A' E' Q'} hq=>Od g st.2 (by rw[qq (by omega)];exact hq)) λh' k=>?_;exact d h' s.toks λb o hb e=>k b o (λx=>hb (by simp[x])) e
 self:=λ_ _ _ _ st d=>Qz st.1 d
def ET(pl:O Nat)(es:Array (Int×A0)):O A0:=pl.filterMap λj=>es[j]?.map (·.2)
theorem lL(h:pl.Perm (List.range es.size)):(ET pl es).Perm (es.toList.map (·.2)):=by
 refine(h.filterMap _).trans ?_;rw[show(List.range es.size).filterMap (λj=>es[j]?.map (·.2))=((List.range es.size).filterMap λj=>es[j]?).map (·.2) by rw[List.map_filterMap],filterMap_getElem?_range]
theorem Tj:∀{pl:O Nat},(∀j∈pl,j<es.size)->∀(i:Nat) (j:Nat),pl[i]?=Z j->(ET pl es)[i]?=es[j]?.map (·.2)
 |[],_,_,_,h=>by simp at h
 |k::pl,hb,i,j,h=>by
  have a:=hb k (zh ..);have e:ET (k::pl) es=es[k].2::ET pl es:=by simp[ET,a]
  rw[e];cases i with
  |zero=>cases(show k=j by simpa using h);simp[a]
  |succ i=>rw[qa];exact Tj (λj b=>hb j (zi _ b)) i j (by simpa using h)
theorem Wm{tp:A1}(u:A.handled=U)(q:a≠it)(p:tp≠it)(hp:pl.Perm (List.range es.size)):Walks prog w A it [it,a,tp] [it] es.size (λi v=>(ET pl es)[i]?=Z v)
  (λi h=>It h it a (.ref tp) i es.size ep/\Wk w h a es ep t/\∃d c,h.get? tp=Z d/\d.data=.seq (pl.map λ(k:Nat)=>rawInt (k:Int)).toArray c) where
 sub:=λb hb=>by simp at hb;simp[hb]
 frame:=λ_ _ _ st l=>⟨st.1.keep λo e=>l it (by simp) o e,st.2.1.keep λo e=>l a (by simp) o e,let ⟨d,c,e,r⟩:=st.2.2;⟨d,c,l tp (by simp) d e,r⟩⟩
 item:=λi s Q E hi st f=>by
  obtain⟨d,c,e1,e2⟩:=st.2.2;have n:pl.length=es.size:=by rw[hp.length_eq];simp
  have hb:∀j∈pl,j<es.size:=λj g=>List.mem_range.mp (hp.mem_iff.mp g);have g:pl[i]?=Z (pl[i]'(by omega)):=by rw[Zl]
  have hx:es[pl[i]'(by omega)]?=Z (es[pl[i]'(by omega)]'(hb _ (List.getElem_mem _))):=by rw[qf]
  refine ln st.1 st.2.1 e1 e2 g hx λh' m k=>?_;exact f _ h' s.toks (by rw[Tj hb i _ g,hx];rfl) ⟨m,st.2.1.keep λo e=>k a o q e,d,c,k tp d p e1,e2⟩ λb o hb e=>k b o (λx=>hb (by simp[x])) e
 done:=λs Q E st f=>by
  obtain⟨d,c,e1,e2⟩:=st.2.2;have n:pl.length=es.size:=by rw[hp.length_eq];simp
  refine Ti u st.1 st.2.1 e1 e2 (by rw[qq (by omega)]) λh' k=>?_;exact f h' s.toks λb o hb e=>k b o (λx=>hb (by simp[x])) e
 self:=λ_ _ _ _ st f=>Qz st.1 f
def xZ(t:SetTable)(i:Nat):Nat:=if i=0 then 0 else t.place.getD 0 0+1
theorem SS(j:Nat):SetTable.below #[j] 0=0:=by
 show SetTable.below.go #[j] 0 1 0 1=0;unfold SetTable.below.go;rw[zr (by decide)];show(if #[j].getD 0 0<0 then _ else SetTable.below.go #[j] 0 0 0 0)=0;rw[zD (kM _)];rfl
theorem TZ(j:Nat):SetTable.below #[j] (j+1)=1:=by
 show SetTable.below.go #[j] (j+1) 1 0 1=1;unfold SetTable.below.go;rw[zr (by decide)];show(if j<j+1 then SetTable.below.go #[j] (j+1) 0 1 1 else _)=1;rw[zr (qc _)];rfl
theorem ii{P:Y (A0×Nat)->Prop}{r:Y (A0×Nat)}(hp:t.place.size=es.size)(c:es.size<=1)(hi:i<=es.size)
  (b:r=match es[SetTable.below t.place (xZ t i)]?,t.place[SetTable.below t.place (xZ t i)]? with
   |some (_,x),Z j=>Z (x,j+1)
   |_,_=>U) (h:P (((es.toList.map (·.2))[i]?).map λv=>(v,xZ t (i+1)))):P r:=by
 subst b;by_cases h0:es.size=0
 ·have e:es=#[]:=Array.eq_empty_of_size_eq_zero h0;subst e;simpa using h
 ·have h1:es.size=1:=by omega
  obtain⟨x,rfl⟩:=Array.size_eq_one_iff.mp h1;obtain⟨j,a⟩:=Array.size_eq_one_iff.mp (hp.trans h1);have hi:i=0\/i=1:=by omega
  rcases hi with rfl|rfl
  ·have e1:xZ t 0=0:=rfl;have e2:xZ t (0+1)=j+1:=by unfold xZ;rw[a];rfl
   rw[e2]at h;rw[e1,a,SS];exact h
  ·have e2:xZ t 1=j+1:=by unfold xZ;rw[a];rfl
   rw[e2,a,TZ];exact h
theorem Jz{Q:Y (A0×Nat)->A2->Prop}(d:w.params.followText "set-order"=false)(b:Wk w s.heap a es ep t)(g:es.size<=1)(hi:i<=es.size)(h:Q (((es.toList.map (·.2))[i]?).map λv=>(v,xZ t (i+1))) s):A7 (A8 prog w) A (setNext a (xZ t i) i ep) Q E s:=by
 obtain⟨n,l,m,f⟩:=b.at_;have hp:t.place.size=es.size:=by
  have:=b.fit;simp only[SetTable.fits,ZN,beq_iff_eq]at this;exact this.1
 unfold setNext;refine zd (Q4 l f b.fit (zd (yZ ?_)));rw[d];simp only[zt,↓reduceIte];split
 ·rename_i c;have c:(!t.plain&&decide (es.size>1))=true:=c;simp at c;omega
 ·have j:A7 (A8 prog w) A (if(!t.led&&!es.isEmpty)=true then unsupported "set:maker-not-led" else pure PUnit.unit) (λ_ s'=>s'=s) E s:=by
   rw[b.led d];exact zg rfl
  refine zd (QA j (λ_ s' e=>?_) λ_ _ x=>x);subst e;refine zg ?_;exact ii (P:=λr=>Q r s') hp g hi S h
theorem Tn(n:A.handled=U)(g:w.params.followText "set-order"=false)(d:es.size<=1)(m:a≠it):Walks prog w A it [it,a] [it] es.size (λi v=>(es.toList.map (·.2))[i]?=Z v) (λi h=>It h it a (.int (xZ t i:Nat) 0) i es.size ep/\Wk w h a es ep t) where
 sub:=λb hb=>by simp at hb;simp[hb]
 frame:=λ_ _ _ st f=>⟨st.1.keep λo e=>f it (by simp) o e,st.2.keep λo e=>f a (by simp) o e⟩
 item:=λi s Q E hi st c=>by
  obtain⟨v,j⟩:∃v,(es.toList.map (·.2))[i]?=Z v:=⟨(es.toList.map (·.2))[i]'(by simpa using hi),by rw[Zl]⟩;refine LS (x:=v) st.1 st.2 (λ{A' E' Q'} hq=>Jz g st.2 d (JJ hi) (by rw[j];exact hq)) λh' l k=>?_;exact c v h' s.toks j ⟨l,st.2.keep λo e=>k a o m e⟩ λb o hb e=>k b o (λx=>hb (by simp[x])) e
 done:=λs Q E st c=>by
  refine Jy n st.1 st.2 (λ{A' E' Q'} hq=>Jz g st.2 d (zo _) (by rw[qq (by simp)];exact hq)) λh' k=>?_;exact c h' s.toks λb o hb e=>k b o (λx=>hb (by simp[x])) e
 self:=λ_ _ _ _ st c=>Qz st.1 c
theorem g4(c:Wk w s.heap a es ep t)(D:es.size<=AA){Q:B7}
  (h:∀(it:A1) (h':A6) (d:Drawn) (fp:O A1) (St:Nat->A6->Prop) (C:O A0),C.Perm (es.toList.map (·.2))->(∀q:A5,q.handled=U->Walks prog w q it fp [it] es.size (λi v=>C[i]?=Z v) St)->St 0 h'->s.heap.objs.size<=it->it<h'.objs.size →
   (∀b∈fp,b=a\/s.heap.objs.size<=b)->(∀b∈fp,b<h'.objs.size)->(∀b o,s.heap.get? b=Z o->h'.get? b=Z o)->Q (.ref it) { s with heap:=h',drawn:=d }):A7 (A8 prog w) A (pyIter (.ref a)) Q E s:=by
 obtain⟨K,f,I,l⟩:=id c.at_;have z:s.TypeIs (.ref a) "set":=⟨K,f,I⟩;have n:a<s.heap.objs.size:=zw f;refine wpAny_pyIter_slot z F.slot_set_iter (kK F.slot_set_iter z GP ?_ (F.args_set_iter_1 _));show A7 _ _ (Builtin.Frozenset.sizeOf a >>= _) _ _ s;refine zd (m:=Builtin.Frozenset.sizeOf a) (zd (wpAny_setEntries_of f l c.fit (zg ?_)));have hd:A7 (A8 prog w) A.in1 (setDrawn a) (λb s'=>s'=s/\b=(!(w.params.followText "set-order")&&(!t.plain&&decide (es.size>1)))) E s:=by
  unfold setDrawn;exact zd (Q4 f l c.fit (zd (yZ (zg ⟨rfl,rfl⟩))))
 refine zd (QA hd (λb s' e=>?_) λ_ _ x=>x);obtain⟨rfl,rfl⟩:=e;dsimp only;by_cases g:w.params.followText "set-order"=true
 ·rw[g];simp only[kU,KP,zt,Z3];refine zd (zg ?_);refine zd (m:=setEpoch a) (wpAny_setEpoch_of f l c.fit ?_);refine zd (qi (zg ⟨_,rfl,"set_iterator", _,⟨_,zv _ rfl,rfl⟩,j5.lookup,?_⟩));have:=h s'.heap.objs.size (s'.heap.push { cls:=.type "set_iterator",data:=.fields #[.int 0 0,.int 0 0,.ref a,.int es.size 0,.int ep 0] }) s'.drawn [s'.heap.objs.size,a] _ _ Ef (λq p=>Wj p g (t:=t) (ep:=ep) (z4 n) D)
   ⟨⟨_,zv _ rfl,rfl,rfl⟩,c.keep λo e=>ze _ e⟩ (zo _) (by rw[qv];exact qc _) (λb hb=>by simp at hb;rcases hb with rfl|rfl;exact .inr (zo _);exact .inl S)
   (λb hb=>by simp at hb;rw[qv];rcases hb with rfl|rfl;exact qc _;exact QE n) λb o e=>ze _ e
  exact this
 ·have g:w.params.followText "set-order"=false:=by simpa using g
  rw[g];simp only[k6,y8];by_cases H:es.size<=1
  ·rw[zD (by simp;omega)];refine zd (zg ?_);refine zd (m:=setEpoch a) (wpAny_setEpoch_of f l c.fit ?_);refine zd (qi (zg ⟨_,rfl,"set_iterator", _,⟨_,zv _ rfl,rfl⟩,j5.lookup,?_⟩));have:=h s'.heap.objs.size (s'.heap.push { cls:=.type "set_iterator",data:=.fields #[.int 0 0,.int 0 0,.ref a,.int es.size 0,.int ep 0] }) s'.drawn [s'.heap.objs.size,a] _ _ (List.Perm.refl _) (λq p=>Tn p g H (t:=t) (ep:=ep) (z4 n))
    ⟨⟨_,zv _ rfl,rfl,rfl⟩,c.keep λo e=>ze _ e⟩ (zo _) (by rw[qv];exact qc _) (λb hb=>by simp at hb;rcases hb with rfl|rfl;exact .inr (zo _);exact .inl S)
    (λb hb=>by simp at hb;rw[qv];rcases hb with rfl|rfl;exact qc _;exact QE n) λb o e=>ze _ e
   exact this
  ·rw[zr (by rw[c.non (by omega)];simp;omega)];refine zd (X9 _ _ _ _ (by simp) λpl d hp=>?_);refine zd (wpAny_newTuple ?_ (by rw[zk,hp.length_eq,kA];exact D));refine zd (m:=setEpoch a) (wpAny_setEpoch_of (ze _ f) l c.fit ?_);refine zd (qi (zg ⟨_,rfl,"set_iterator", _,⟨_,zv _ rfl,rfl⟩,j5.lookup,?_⟩));generalize u:s'.heap.push { cls:=.type "tuple",data:=.seq (pl.map λ(k:Nat)=>rawInt (k:Int)).toArray }=G;have j:G.objs.size=s'.heap.objs.size+1:=by rw[<-u,qv]
   have J:G.get? s'.heap.objs.size=Z { cls:=.type "tuple",data:=.seq (pl.map λ(k:Nat)=>rawInt (k:Int)).toArray }:=by rw[<-u];exact zv _ rfl
   have B:∀b o,s'.heap.get? b=Z o->G.get? b=Z o:=λb o e=>by rw[<-u];exact ze _ e
   have y:a<G.objs.size:=by rw[j];exact QE n
   have:=h G.objs.size (G.push { cls:=.type "set_iterator",data:=.fields #[.ref s'.heap.objs.size,.int 0 0,.ref a,.int es.size 0,.int ep 0] }) d [G.objs.size,a,s'.heap.objs.size] _ _ (lL hp) (λq p=>Wm p (t:=t) (ep:=ep) (tp:=s'.heap.objs.size) (z4 y) (by rw[j];exact z4 (qc _)) hp)
    ⟨⟨_,zv _ rfl,rfl,rfl⟩,c.keep λo e=>ze _ (B _ _ e),_,0,ze _ J,rfl⟩ (by rw[j];exact JU _) (by rw[qv];exact qc _)
    (λb hb=>by simp at hb;rcases hb with rfl|rfl|rfl;exact .inr (by rw[j];exact JU _);exact .inl rfl;exact .inr (zo _))
    (λb hb=>by
     simp at hb;rw[qv];rcases hb with rfl|rfl|rfl
     ·exact qc _
     ·exact QE y
     ·exact QE (by rw[j];exact qc _)) λb o e=>ze _ (B _ _ e)
   exact this
end
end S6
namespace S6
open P1
section
variable{es:Array (Int×A0)}
theorem mo{b:O A0}{a:Array A0}(f:b.length=n)(h:ItemsOf (λi v=>b[i]?=Z v) a n):a.toList=b:=by
 apply List.ext_getElem?;intro j;by_cases d:j<n
 ·have c:j<a.size:=by rw[h.1];exact d
  have e:a.toList[j]?=Z a[j]:=by simp[c]
  rw[e,h.2 j a[j] (by simp[c])]
 ·rw[qq (by rw[qA,h.1];omega),qq (by omega)]
theorem Tp{Q:O A0->A2->Prop}(z:A.handled=none)(v:Wk w s.heap a es ep t)(y:es.size<=AA)
  (hQ:∀f h' d tk,f.Perm (es.toList.map (·.2))->s.heap.objs.size<=h'.objs.size->(∀b o,s.heap.get? b=Z o->h'.get? b=Z o)->Q f { s with heap:=h',drawn:=d,toks:=tk }):
  A7 (A8 prog w) A (collect (.ref a)) Q E s:=by
 obtain⟨u,h,m,a4⟩:=id v.at_;have hT:s.TypeIs (.ref a) "set":=⟨u,h,m⟩;have K:a<s.heap.objs.size:=zw h;unfold collect;refine zd (wpAny_runValue (ku F.entry_proto_collect ?_));rw[Around.under_plainId F.plain_proto_collect _];show A7 _ A.in1 (newList [] >>= λq=>again (.builtin "list.__iadd__" ⟨[q,.ref a],[]⟩)) _ _ s;refine zd (qi (zg ⟨plainId_quiet F.plain_list_iadd _,ku F.entry_list_iadd ?_⟩));rw[Around.under_plainId F.plain_list_iadd _];show A7 _ A.in1 (Builtin.List.listExtendWith (.ref s.heap.objs.size) (.ref a) (.ref s.heap.objs.size)) _ _ _;unfold Builtin.List.listExtendWith;generalize l:(s.heap.push { cls:=.type "list",data:=.seq ([]:O A0).toArray })=H;have g:∀b o,s.heap.get? b=Z o->H.get? b=Z o:=λb o e=>by rw[<-l];exact ze _ e
 have J:H.objs.size=s.heap.objs.size+1:=by rw[<-l,qv]
 have M:H.get? s.heap.objs.size=Z (seqObj "list" #[] 0):=by rw[<-l];exact zv _ rfl
 have a2:Wk w H a es ep t:=v.keep λo e=>g a o e;refine zd (Q3 (T :="set") ⟨u,g _ _ h,m⟩ ?_);have h1:Builtin.List.listSameRef (.ref s.heap.objs.size) (.ref a)=false:=by simp[Builtin.List.listSameRef];exact Kb K
 simp only[h1,show(Value.type "set"==Value.type "list")=false by decide,show(Value.type "set"==Value.type "tuple")=false by decide,Bool.or_false,zt,Z3];refine zd (g4 (s:={ s with heap:=H }) a2 y λit G d fp St f hp W N L a3 a1 a5 i=>?_);refine zd (QR ?_);unfold Builtin.List.listLengthHint;have j:Shared.TypeIs { s with heap:=G,drawn:=d } (.ref a) "set":=⟨u,i _ _ (g _ _ h),m⟩;refine zd (wpAny_specialOf (T :="set") j F.slot_set_len.lookup ?_)
 wp_delta
 refine zd (kF (T :="set") (b:=true) j (by rw[isSubtype_type];kernel_rfl) ?_);show A7 _ A.in1 (typeOf (Value.ref a) >>= _) _ _ _;refine zd (Q3 (T :="set") j (zg ?_));rw[zr (by decide)];show A7 _ A.in1 (Builtin.List.listTouch (Value.ref s.heap.objs.size) >>= λ_=>again (Code.builtin "list.extend.loop" ⟨[Value.ref s.heap.objs.size,Value.ref it,Value.ref s.heap.objs.size],[]⟩)) _ _ _;have n:G.get? s.heap.objs.size=Z (seqObj "list" #[] 0):=i _ _ M;unfold Builtin.List.listTouch;refine zd (zd (listUpdate_at n S (listUpdate_at (get?_update_seq n _) S ?_ (by show _<=_;decide) (by show _<=_;decide)) (by show _<=_;decide) (by show _<=_;decide)));have C:s.heap.objs.size∉fp:=λc=>by
  rcases a1 _ c with e|e
  ·exact Kb K e
  ·have e:H.objs.size<=s.heap.objs.size:=e;rw[J]at e;exact absurd e (Nat.not_succ_le_self _)
 have I:=get?_update_seq (get?_update_seq n (λx=>x.push Value.none)) (λx=>x.pop);generalize hU:(G.update s.heap.objs.size (Obj.mapSeq λx=>x.push Value.none)).update s.heap.objs.size (Obj.mapSeq λx=>x.pop)=U at I;have keep:∀b,b≠s.heap.objs.size->U.get? b=G.get? b:=λb hb=>by rw[<-hU,kf _ _ _ _ hb,kf _ _ _ _ hb]
 have a0:St 0 U:=(W A z).frame 0 G U N λb hb o e=>by rw[keep b λx=>C (x▸hb)];exact e
 show A7 _ A.in1 (again _) _ _ { s with heap:=U,drawn:=d };have ho:f.length=es.size:=by rw[hp.length_eq];simp
 refine zg ⟨plainId_quiet F.plain_extend_loop _,codeAny_extend_loopS (W A.in1 z).toS y s.heap.objs.size C _ es.size 0 { s with heap:=U,drawn:=d } #[] _ S (QU _) a0 I (ItemsOf.nil _) λs' P c' p B X=>?_⟩;show A7 _ A (load s.heap.objs.size >>= _) _ _ s';refine zd (yv B (zg ?_));show Q P.toList s';rw[mo ho X];have D:=hQ f s'.heap s'.drawn s'.toks hp (JJ (zw B)) λb ob e=>by
  have hb:=zw e;refine p.heap b ob (λc=>?_) ((keep b (z4 hb)).trans (i _ _ (g _ _ e)));simp only[jv,JI,or_false]at c;rcases c with c|c
  ·exact z4 hb c
  ·have:H.objs.size<=it:=L;rw[J,<-c]at this;exact absurd hb (Nat.not_lt.mpr (Nat.le_of_succ_le this))
 have e1:s'.gens=s.gens:=p.gens;have e2:s'.os=s.os:=p.os;rw[<-e1,<-e2]at D;exact D
end
theorem HJ{α:Type}[DecidableEq α]:∀{xs ys:O α},xs.Nodup->ys.Nodup->(∀z,z∈xs↔z∈ys)->xs.Perm ys
 |[],ys,_,_,h=>by
  have:ys=[]:=List.eq_nil_iff_forall_not_mem.mpr λz a=>by simpa using(h z).mpr a
  subst this;exact .refl _
 |x::xs,ys,hx,hy,h=>by
  have c:x∈ys:=(h x).mp (zh ..);have b:=List.nodup_cons.mp hx;refine((HJ b.2 (hy.erase x) λz=>?_).cons x).trans (yf c).symm;rw[hy.mem_erase_iff];constructor
  ·intro a;exact⟨λe=>b.1 (e▸a),(h z).mp (zi _ a)⟩
  ·intro⟨hn,a⟩;rcases List.mem_cons.mp ((h z).mpr a)with e|e
   ·exact absurd e hn
   ·exact e
theorem FT{R:α->β->Prop}:∀{l l':O β},l'.Perm l->∀{ys:O α},AI R ys l->∃a,a.Perm ys/\AI R a l':=by
 intro l l' hp
 replace hp:=hp.symm
 induction hp with
 |nil=>intro ys h;exact⟨ys,.refl _,h⟩
 |cons x _ e=>intro ys h;cases h with|cons r t=>obtain⟨zs,z1,z2⟩:=e t;exact⟨_::zs,z1.cons _,.cons r z2⟩
 |swap x y l=>intro ys h;cases h with|cons r t=>cases t with|cons g f=>exact⟨_,List.Perm.swap _ _ _,.cons g (.cons r f)⟩
 |trans _ _ d i=>intro ys h;obtain⟨zs,z1,z2⟩:=d h;obtain⟨us,c,b⟩:=i z2;exact⟨us,c.trans z1,b⟩
theorem Wn{R:α->β->Prop}{xs:O α}{us:O β}{ys:O α}{vs:O β}(h:AI R xs us)(k:AI R ys vs):AI R (xs++ys) (us++vs):=by
 induction h with
 |nil=>exact k
 |cons r _ a=>exact .cons r a
def BS(w:A4):AE:={ cls:=.type "set",dict:=U,data:=.set #[] 0 (.fresh 0 0 (!w.params.followText "set-order")) }
structure EL (prog:Program) (w:World) (S:Addr) (wr:List Addr) {κ:Type} (C:Heap->List κ->Prop) (P:Nat->Value->Prop) (val:Nat->κ) (n:Nat):Prop where
 keep:∀h h' ys,C h ys->(∀b o,b∉wr->h.get? b=some o->h'.get? b=some o)->C h' ys
 add:∀(A:Around) (E:B7) (s:Shared) (i:Nat) (v:Value) (ys:List κ) (Q:Bool->Shared->Prop),A.units<cLine->i<n->P i v->C s.heap ys->ys.length<=i →
  (∀b h' tk ys',Heap.SameBut S s.heap h'->C h' ys'->(∀z,z∈ys'↔z∈ys\/z=val i)->ys'.length<=i+1->s.toks<=tk->Q b { s with heap:=h',toks:=tk })->wpAny (model prog w) A (setAdd S v) Q E s
section
variable{R:Result->A2->Prop}{I:A1}{wr:O A1}{P:Nat->A0->Prop}{St:Nat->A2->Prop}{C:A6->O κ->Prop}{val:Nat->κ}
theorem bz(W:WalksS prog w A.in1 I fp wr (λa b=>b=a) n P St)(S:A1)(K:S∉fp)(ad:EL prog w S wr C P val n)(Q:A.units+1<cLine):
  ∀(k i:Nat) (s:A2) (ys:O κ),n-i=k->i<=n->St i s->C s.heap ys->(∀z,z∈ys↔∃j,j<i/\z=val j)->ys.length<=i →
   (∀s' d,Moved (S::wr) (λa b=>b=a) s s'->C s'.heap d->(∀z,z∈d↔∃j,j<n/\z=val j)->R (.ok (.ret .none)) s') →
   AF (A8 prog w) A (.builtin "set.update.loop" ⟨[.ref S,.ref I],[]⟩) R s:=by
 have sub:∀b,b∈wr->b∈S::wr:=λb q=>zi _ q;intro k
 induction k with
 |zero=>
  intro i s ys x hi st f g t h;have:i=n:=by omega
  subst this;refine ku F.entry_set_update_loop ?_;rw[Around.under_plainId YI _];show A7 _ A.in1 (pyNext (.ref I) >>= _) _ _ s;refine zd (W.done s _ _ st λs' c=>?_);show A7 _ A.in1 (ret Value.none) _ _ s';exact zg (h s' ys (c.mono sub) (ad.keep _ _ _ f c.heap) g)
 |succ k N=>
  intro i s ys x hi st f g t h;have l:i<n:=by omega
  refine ku F.entry_set_update_loop ?_;rw[Around.under_plainId YI _];show A7 _ A.in1 (pyNext (.ref I) >>= _) _ _ s;refine zd (W.item i s _ _ l st λv s' y J c=>?_);show A7 _ A.in1 (holding [v] (setAdd S v) >>= _) _ _ s';refine zd (QR (ad.add _ _ s' i v ys _ Q l y (ad.keep _ _ _ f c.heap) t λb h' tk d m L u X p=>?_));refine zg ⟨plainId_quiet YI _,N (i+1) _ d (by omega) l (W.frame _ s' _ _ J p λb hb o e=>?_) L (λz=>?_) X λE M D H G=>?_⟩
  ·rw[m.2 b λq=>K (q▸hb)];exact e
  ·rw[u z,g z];constructor
   ·rintro(⟨j,B,e⟩|e)
    ·exact⟨j,by omega,e⟩
    ·exact⟨i,by omega,e⟩
   ·rintro⟨j,B,e⟩;by_cases q:j=i
    ·exact .inr (q▸e)
    ·exact .inl ⟨j,by omega,e⟩
  ·refine h E M (Moved.trans W.gtrans ((c.mono sub).then_heap p λb o hb e=>?_) D) H G;rw[m.2 b λq=>hb (by rw[q];exact zh)];exact e
end
theorem Wo(x:A0){Q₁:B7}(h:Q₁ (.ref s.heap.objs.size) { s with heap:=s.heap.push (BS w) }):
  AF (A8 prog w) A (.call (.builtin "set.__new__") ⟨[.type "set",x],[]⟩) (wants Q₁ E) s:=by
 refine codeAny_of_tree ?_;show A7 _ A.in1 (do checkBuiltinCall "set.__new__" ⟨[.type "set",x],[]⟩;again (.builtin "set.__new__" ⟨[.type "set",x],[]⟩)) _ _ s;refine zd (wpAny_of_eq (F.newCall_set_1 x) (zg ⟨plainId_quiet F.plain_set_new _,ku F.entry_set_new ?_⟩));rw[Around.under_plainId F.plain_set_new _];unfold Builtin.«set.__new__» Builtin.Frozenset.newClass;have a:=sub_set_self;obtain⟨hp,g,d,tk,os⟩:=s;dsimp only
 wp_walk
 refine Ya (zg ?_);dsimp only;simp only[newObj];refine zd (wpAny_alloc (zg ?_));exact zg h
theorem Bn:isSubtype (.type "tuple") (.type "set")=pure false:=by rw[isSubtype_type];kernel_rfl
theorem BI:isSubtype (.type "tuple") (.type "frozenset")=pure false:=by rw[isSubtype_type];kernel_rfl
theorem MM(hU:A.units+60<cLine){T:String}{o:AE}{C:A6->O κ->Prop}{P:Nat->A0->Prop}{val:Nat->κ}{Q:B7}(hh:A.handled=U)(K:s.heap.get? l=Z o)(a2:o.cls=.type T)(y:T ="list" ∨ T ="tuple")(a0:∀(d:A5) (E':B7) (J:B7) (h0:A6),d.handled=U->(∀b a,s.heap.get? b=Z a->h0.get? b=Z a) →
   (∀(h':A6) (St:Nat->A6->Prop),(∀d,d.handled=U->Walks prog w d h0.objs.size [h0.objs.size,l] [h0.objs.size] n P St)->St 0 h'->(∀b a,h0.get? b=Z a->h'.get? b=Z a)->J (.ref h0.objs.size) { s with heap:=h' })->A7 (A8 prog w) d (pyIter (.ref l)) J E' { s with heap:=h0 })(ad:EL prog w s.heap.objs.size [s.heap.objs.size+1] C P val n)(b0:∀h',h'.get? s.heap.objs.size=Z (BS w)->(∀b a,s.heap.get? b=Z a->h'.get? b=Z a)->C h' [])(h:∀(h':A6) (tk:Nat) (ys:O κ),C h' ys->(∀z,z∈ys↔∃j,j<n/\z=val j)->(∀b a,s.heap.get? b=Z a->h'.get? b=Z a)->Q (.ref s.heap.objs.size) { s with heap:=h',toks:=tk }):
  A7 (A8 prog w) A (call (.type "set") [.ref l]) Q E s:=by
 obtain⟨c,tl,b4⟩:=F.called_set.mro;have b9:=F.called_set.made;have c0:=F.called_set.sub;have X:l<s.heap.objs.size:=zw K;refine wpAny_call (codeAny_of_tree ?_);show A7 _ _ (callAny (.type "set") _) _ _ _;refine zg ⟨Code.quiet_builtin _ (by decide +kernel),ku F.entry_type_call ?_⟩;rw[Around.under_plain (weight_type_call_type "set" [.ref l] []) rfl];have h1:=F.called_set.notType;have h2:=F.called_set.canCreate;have b3:=F.typeCall_set_1 (.ref l)
 repeat (any_goals (first|assumption|wp_step))
 refine codeAny_mono (Wo (.ref l) (E:=E) (Q₁:=λM I=>M=.ref s.heap.objs.size/\I={ s with heap:=s.heap.push (BS w) }) ⟨rfl,rfl⟩) λr I t=>?_;cases r with
 |error e=>exact t
 |ok fl=>
  cases fl with
  |ret M=>
   obtain⟨rfl,rfl⟩:=t;generalize x:s.heap.push (BS w)=H;have L:H.objs.size=s.heap.objs.size+1:=by rw[<-x,qv]
   have B:H.get? s.heap.objs.size=Z (BS w):=by rw[<-x];exact zv _ rfl
   have g:∀b a,s.heap.get? b=Z a->H.get? b=Z a:=λb a e=>by rw[<-x];exact ze _ e
   have a8:Shared.TypeIs { s with heap:=H } (.ref s.heap.objs.size) "set":=⟨_,B,rfl⟩;have d0:=F.called_set.init.lookup;have c6:=F.called_set.init.bind (.ref s.heap.objs.size)
   repeat (any_goals (first|assumption|wp_step))
   refine codeAny_mono (codeAny_call_builtin (R:=wants (λr f=>r=.none/\∃h' tk ys,f={ s with heap:=h',toks:=tk }/\C h' ys/\(∀z,z∈ys↔∃j,j<n/\z=val j)/\(∀b a,s.heap.get? b=Z a->h'.get? b=Z a)) E) F.called_set.init.plain F.entry_set_init (check_set_init_1 a8 ?_)) λa4 f m=>?_
   ·have v:Shared.TypeIs { s with heap:=H } (.ref l) T:=⟨o,g _ _ K,a2⟩;have i1:isSubtype (.type T) (.type "set")=pure false:=by rcases y with rfl|rfl;exact F.sub_list_set;exact Bn
    have i2:isSubtype (.type T) (.type "frozenset")=pure false:=by rcases y with rfl|rfl;exact F.sub_list_frozenset;exact BI
    have i3:(Value.type T==Value.type "dict")=false:=by rcases y with rfl|rfl<;>decide
    show A7 _ _ (Builtin.«set.__init__» ⟨[.ref s.heap.objs.size,.ref l],[]⟩) _ _ _;have D:∀d:A5,d.handled=U->d.units+4<cLine->A7 (A8 prog w) d (Builtin.Frozenset.updateFrom "set.__init__" s.heap.objs.size (.ref l)) (λ_ f=>∃h' tk ys,f={ s with heap:=h',toks:=tk }/\C h' ys/\(∀z,z∈ys↔∃j,j<n/\z=val j)/\(∀b a,s.heap.get? b=Z a->h'.get? b=Z a)) E { s with heap:=H }:=by
     intro d N c8;unfold Builtin.Frozenset.updateFrom Builtin.Frozenset.isAnySet;refine zd (zd (kF v i1 ?_));refine kF v i2 ?_;simp only[zt,Z3];refine zd (Q3 v ?_);simp only[i3,zt,Z3];refine zd (a0 d _ _ H N g λG St W a1 p=>?_);rw[L]at W;rw[L];have a3:s.heap.objs.size∉[s.heap.objs.size+1,l]:=λq=>by
      simp only[jv,JI,or_false]at q;rcases q with q|q
      ·exact z4 (qc _) q
      ·exact Kb X q
     refine zd (wpAny_runValue (bz (W d.in1 N).toS s.heap.objs.size a3 ad (by omega) (n-0) 0 _ [] S (QU _) a1 (b0 G (p _ _ B) λb a e=>p _ _ (g _ _ e)) (λz=>⟨λq=>(by cases q),λ⟨j,q,_⟩=>absurd q (kM _)⟩) (zo _) λs' ys i c1 c2=>?_));refine zg ⟨s'.heap,s'.toks,ys,?_,c1,c2,λb a e=>?_⟩
     ·have e1:s'.gens=s.gens:=i.gens;have e2:s'.os=s.os:=i.os;have e3:s'.drawn=s.drawn:=i.drawn;rw[<-e1,<-e2,<-e3]
     ·have hb:=zw e;refine i.heap b a (λq=>?_) (p _ _ (g _ _ e));simp only[jv,JI,or_false]at q;rcases q with q|q
      ·exact z4 hb q
      ·exact z4 (QE hb) q
    have hb:(BS w).data=.set #[] 0 (.fresh 0 0 (!w.params.followText "set-order")):=rfl;unfold Builtin.«set.__init__» noKeywords;generalize d1:Builtin.Frozenset.updateFrom=UF at D ⊢;unfold BS at B
    wp_walk
    refine QA (D _ (by simp[hh]) (by simp;omega)) (λu f q=>?_) λ_ _ q=>q;obtain⟨h',tk,ys,rfl,q⟩:=q;show A7 _ _ (ret Value.none) _ _ _;exact zg ⟨rfl,h',tk,ys,rfl,q⟩
   ·cases a4 with
    |error e=>exact m
    |ok a5=>
     cases a5 with
     |ret r=>
      obtain⟨rfl,h',tk,ys,rfl,c1,c2,c3⟩:=m
      repeat (any_goals (first|assumption|wp_step))
      exact h _ _ _ c1 c2 c3
     |_=>exact False.elim m
  |_=>exact False.elim t
end S6
namespace S6
open PySem
def Wq(xs:Array Nat):Prop:=∀i j,i<j->j<xs.size->xs.getD i 0<xs.getD j 0
theorem DB{xs:Array Nat}{k a b:Nat}(h:k<xs.size):xs.getD k a=xs.getD k b:=by simp[Array.getD,h]
theorem SF{xs:Array Nat}{k a:Nat}(h:xs[k]?=Z j):k<xs.size/\xs.getD k a=j:=by
 have b:k<xs.size:=by
  by_cases q:k<xs.size
  ·exact q
  ·rw[K0 (by omega)]at h;cases h
 refine⟨b,?_⟩;rw[qf b]at h;cases h;simp[Array.getD,b]
theorem eD{xs:Array Nat}{k a:Nat}(b:k<xs.size)(h:xs.getD k a=j):xs[k]?=Z j:=by
 rw[qf b];simp[Array.getD,b]at h;rw[h]
theorem JB(xs:Array Nat)(j:Nat)(a:Wq xs):∀(fuel lo hi:Nat),lo<=hi->hi<=xs.size->hi-lo<=fuel->(∀k,k<lo->xs.getD k 0<j)->(∀k,hi<=k->k<xs.size->j<=xs.getD k 0) →
  SetTable.below.go xs j fuel lo hi<=xs.size/\(∀k,k<SetTable.below.go xs j fuel lo hi->xs.getD k 0<j)/\∀k,SetTable.below.go xs j fuel lo hi<=k->k<xs.size->j<=xs.getD k 0
 |0,lo,hi,h1,h2,h3,h4,h5=>by
  have e:lo=hi:=by omega
  subst e;unfold SetTable.below.go;exact⟨h2,h4,h5⟩
 |fuel+1,lo,hi,h1,h2,h3,h4,h5=>by
  unfold SetTable.below.go;by_cases d:lo<hi
  ·rw[zr d];dsimp only;have c:(lo+hi) / 2<xs.size:=by omega
   rw[DB (b:=0) c];by_cases q:xs.getD ((lo+hi) / 2) 0<j
   ·rw[zr q];refine JB xs j a fuel _ hi (by omega) h2 (by omega) (λk f=>?_) h5;by_cases e:k=(lo+hi) / 2
    ·rw[e];exact q
    ·exact Nat.lt_trans (a k _ (by omega) c) q
   ·rw[zD q];refine JB xs j a fuel lo _ (by omega) (by omega) (by omega) h4 λk f hs=>?_;by_cases e:k=(lo+hi) / 2
    ·rw[e];omega
    ·have:=a _ k (by omega:(lo+hi) / 2<k) hs;omega
  ·rw[zD d];have e:lo=hi:=by omega
   subst e;exact⟨h2,h4,h5⟩
theorem BV{xs:Array Nat}(a:Wq xs)(j:Nat):SetTable.below xs j<=xs.size/\(∀k,k<SetTable.below xs j->xs.getD k 0<j)/\∀k,SetTable.below xs j<=k->k<xs.size->j<=xs.getD k 0:=
 JB xs j a xs.size 0 xs.size (QU _) (zo _) (by omega) (λk h=>absurd h (kM _)) λk h h'=>absurd h' (by omega)
theorem JC{xs:Array Nat}(b:Wq xs)(h:xs[i]?=Z j):SetTable.below xs j=i:=by
 obtain⟨h1,h2,c⟩:=BV b j;obtain⟨hi,e⟩:=SF (a:=0) h;rcases yY (SetTable.below xs j) i with q|q|q
 ·have:=c _ (zo _) (by omega);have:=b _ _ q hi;omega
 ·exact q
 ·have:=h2 _ q;omega
theorem Yk(j:Nat):SetTable.has #[] j=false:=by
 unfold SetTable.has;simp
structure Tb (t:SetTable):Prop where
 mask:t.mask=7\/t.mask=31\/t.mask=127
 dum:t.dummies=#[]
 rise:Wq t.place
 bd:∀j:Nat,j∈t.place->j<=t.mask
 full:t.place.size<=t.mask
theorem Eh(h:Tb t)(e:t.place[i]?=Z j):t.slot j=.live i:=by
 unfold SetTable.slot;simp only[JC h.rise e,e,beq_self_eq_true,qV]
theorem VT(h:Tb t)(e:j∉t.place):t.slot j=.empty:=by
 unfold SetTable.slot;have:(t.place[SetTable.below t.place j]?==Z j)=false:=by
  cases q:t.place[SetTable.below t.place j]? with
  |none=>rfl
  |some x=>
   by_cases hx:x=j
   ·subst hx;exact absurd (Array.mem_of_getElem? q) e
   ·simp[hx]
 simp only[this,zt,Z3,h.dum,Yk]
def Lx(mask:Nat)(p:SetTable.Probe):SetTable.Probe:=
 if p.more>0 then { p with j:=p.j+1,more:=p.more-1 }else
 { p with j:=(SetTable.leap mask p.i p.perturb).1,more:=SetTable.runEnd mask (SetTable.leap mask p.i p.perturb).1-(SetTable.leap mask p.i p.perturb).1,i:=(SetTable.leap mask p.i p.perturb).1,perturb:=(SetTable.leap mask p.i p.perturb).2 }
theorem OB(t:SetTable)(p:SetTable.Probe):t.advance p=Lx t.mask p:=rfl
def EN(mask i perturb:Nat):SetTable.Probe:={ j:=i,more:=SetTable.runEnd mask i-i,i,perturb,dummy:=U }
def jd(mask:Nat)(h:Int):Nat->SetTable.Probe
 |0=>EN mask (SetTable.bits h%(mask+1)) (SetTable.bits h)
 |n+1=>Lx mask (jd mask h n)
theorem Yl(mask:Nat)(h:Int):∀n,(jd mask h n).dummy=U
 |0=>rfl
 |n+1=>by
  have:=Yl mask h n;unfold jd Lx;split<;>exact this
theorem Tq{t:SetTable}(b:Tb t)(a:Nat->Int)(h:Int):∀(d fuel n:Nat),d<fuel->(∀m,n<=m->m<n+d->∃i,t.place[i]?=Z (jd t.mask h m).j/\a i≠h) →
  ((jd t.mask h (n+d)).j∉t.place->SetTable.probe.go t a h fuel (jd t.mask h n)=Z (.empty (jd t.mask h (n+d)).j U)) ∧
  ∀i,t.place[i]?=Z (jd t.mask h (n+d)).j->a i=h->SetTable.probe.go t a h fuel (jd t.mask h n)=Z (.candidate (jd t.mask h (n+d)).j i (jd t.mask h (n+d+1)))
 |0,fuel+1,n,_,_=>by
  refine⟨λe=>?_,λi e1 e2=>?_⟩
  ·unfold SetTable.probe.go;rw[Nat.add_zero]at e ⊢;rw[VT b e];simp only[Yl]
  ·unfold SetTable.probe.go;rw[Nat.add_zero]at e1 ⊢;rw[Eh b e1];simp only[e2,beq_self_eq_true,qV,OB];rfl
 |d+1,fuel+1,n,hd,hp=>by
  obtain⟨i,e1,e2⟩:=hp n (zo _) (by omega);have c:=Tq b a h d fuel (n+1) (by omega) λm h1 h2=>hp m (by omega) (by omega);have e:SetTable.probe.go t a h (fuel+1) (jd t.mask h n)=SetTable.probe.go t a h fuel (jd t.mask h (n+1)):=by
   conv=>lhs;unfold SetTable.probe.go
   rw[Eh b e1];simp only[beq_iff_eq,e2,Z3,OB];rfl
  rw[e,show n+(d+1)=n+1+d by omega];exact c
theorem Wr:∀(xs ys:O Nat),xs.Nodup->(∀x,x∈xs->x∈ys)->xs.length<=ys.length
 |[],_,_,_=>QU _
 |x::xs,ys,hn,hs=>by
  have b:=List.nodup_cons.mp hn;have a:=hs x (zh ..);have:=Wr xs (ys.erase x) b.2 λz c=>(k7 (λe:z=x=>b.1 (by rw[<-e];exact c))).mpr (hs z (zi _ c));have:=List.length_erase_of_mem a;have:0<ys.length:=KW a;simp only[ZZ];omega
def nx(M i:Nat):Nat:=(i*5+1)%M
def Tt(M:Nat):Nat->Nat->Nat
 |0,i=>i
 |k+1,i=>Tt M k (nx M i)
theorem HN(M:Nat):∀(a b i:Nat),Tt M (a+b) i=Tt M b (Tt M a i)
 |0,b,i=>by rw[yo];rfl
 |a+1,b,i=>by rw[Nat.succ_add];exact HN M a b _
theorem fg:(∀r,r<8->∃k,k<8/\Tt 8 k 0=r)/\Tt 8 8 0=0:=by decide +kernel
theorem UO:(∀r,r<32->∃k,k<32/\Tt 32 k 0=r)/\Tt 32 32 0=0:=by decide +kernel
theorem gu:(∀r,r<128->∃k,k<128/\Tt 128 k 0=r)/\Tt 128 128 0=0:=by decide +kernel
theorem HR{M:Nat}(h:(∀r,r<M->∃k,k<M/\Tt M k 0=r)/\Tt M M 0=0){r:Nat}(hi:i<M)(c:r<M):∃k,k<M/\Tt M k i=r:=by
 obtain⟨a,d,rfl⟩:=h.1 i hi;obtain⟨b,hb,rfl⟩:=h.1 r c;by_cases q:a<=b
 ·exact⟨b-a,by omega,by rw[<-HN,show a+(b-a)=b by omega]⟩
 ·exact⟨M-a+b,by omega,by rw[<-HN,show a+(M-a+b)=M+b by omega,HN,h.2]⟩
theorem l9(h:mask=7\/mask=31\/mask=127){r:Nat}(hi:i<mask+1)(a:r<mask+1):∃k,k<mask+1/\Tt (mask+1) k i=r:=by
 rcases h with rfl|rfl|rfl
 ·exact HR fg hi a
 ·exact HR UO hi a
 ·exact HR gu hi a
def lp(mask:Nat)(h:Int):Nat->Nat×Nat
 |0=>(SetTable.bits h%(mask+1),SetTable.bits h)
 |l+1=>SetTable.leap mask (lp mask h l).1 (lp mask h l).2
theorem JD(mask i:Nat):i<=SetTable.runEnd mask i/\SetTable.runEnd mask i<=i+9:=by unfold SetTable.runEnd;split<;>omega
theorem OY(h:i<=mask):SetTable.runEnd mask i<=mask:=by unfold SetTable.runEnd;split<;>omega
theorem BW{mask:Nat}{h:Int}{s i p:Nat}(e:jd mask h s=EN mask i p):∀k,k<=SetTable.runEnd mask i-i->jd mask h (s+k)={ EN mask i p with j:=i+k,more:=SetTable.runEnd mask i-i-k }
 |0,_=>by rw[Nat.add_zero,e];rfl
 |k+1,hk=>by
  have a:=BW e k (by omega);show Lx mask (jd mask h (s+k))=_;rw[a];unfold Lx;rw[zr (by dsimp only;omega)];rfl
theorem Tv{h:Int}{s p:Nat}(e:jd mask h s=EN mask i p):jd mask h (s+(SetTable.runEnd mask i-i)+1)=EN mask (SetTable.leap mask i p).1 (SetTable.leap mask i p).2:=by
 show Lx mask (jd mask h (s+(SetTable.runEnd mask i-i)))=_;rw[BW e _ (zo _)];unfold Lx;rw[zD (by dsimp only;omega)];rfl
theorem MT(mask:Nat)(h:Int):∀l,∃s,s<=10*l/\jd mask h s=EN mask (lp mask h l).1 (lp mask h l).2
 |0=>⟨0,by omega,rfl⟩
 |l+1=>by
  obtain⟨s,hs,e⟩:=MT mask h l;have:=JD mask (lp mask h l).1;exact⟨_,by omega,Tv e⟩
theorem SZ(mask:Nat)(h:Int):∀l,(lp mask h l).1<mask+1
 |0=>Nat.mod_lt _ (Nat.succ_pos _)
 |l+1=>Nat.mod_lt _ (Nat.succ_pos _)
theorem Tw(mask:Nat)(h:Int):∀l,(lp mask h l).2*32 ^ l<=SetTable.bits h
 |0=>by simp[lp]
 |l+1=>by
  have a:=Tw mask h l;show(lp mask h l).2 / 32*32 ^ (l+1)<=_;have h1:(lp mask h l).2 / 32*32<=(lp mask h l).2:=Nat.div_mul_le_self _ _;have h2:=Nat.mul_le_mul_right (32 ^ l) h1;rw[Nat.pow_succ,Nat.mul_comm (32 ^ l) 32,<-Nat.mul_assoc];exact ZO h2 a
theorem l8(h:Int):SetTable.bits h<18446744073709551616:=by
 unfold SetTable.bits;have h1:h%18446744073709551616<18446744073709551616:=Int.emod_lt_of_pos _ (by decide);have h2:0<=h%18446744073709551616:=Int.emod_nonneg _ (by decide);show(h%18446744073709551616).toNat<_;omega
theorem Ym(mask:Nat)(h:Int):∀k,(lp mask h (12+k)).2<32
 |0=>by
  have h1:=Tw mask h 12;have h2:=l8 h;rw[show(32:Nat) ^ 12=1152921504606846976 from rfl]at h1;show(lp mask h 12).2<32;omega
 |k+1=>by
  have:=Ym mask h k;show(lp mask h (12+k)).2 / 32<32;omega
theorem aa(mask:Nat)(h:Int):∀k,(lp mask h (12+k)).1=Tt (mask+1) k (lp mask h 12).1:=by
 have step:∀k,(lp mask h (12+k+1)).1=nx (mask+1) (lp mask h (12+k)).1:=λk=>by
  have:=Ym mask h k;show((lp mask h (12+k)).1*5+1+(lp mask h (12+k)).2 / 32)%(mask+1)=_;rw[show(lp mask h (12+k)).2 / 32=0 by omega];rfl
 have b:∀k i,Tt (mask+1) k (nx (mask+1) i)=nx (mask+1) (Tt (mask+1) k i):=λk=>by
  induction k with
  |zero=>intro i;rfl
  |succ k a=>intro i;exact a _
 intro k
 induction k with
 |zero=>rfl
 |succ k a=>
  rw[show 12+(k+1)=12+k+1 by omega,step,a];exact(b k _).symm
theorem NV(a:mask=7\/mask=31\/mask=127)(h:Int){r:Nat}(b:r<mask+1):∃l,l<mask+13/\(lp mask h l).1=r:=by
 obtain⟨k,c,e⟩:=l9 a (SZ mask h 12) b;exact⟨12+k,by omega,by rw[aa,e]⟩
theorem XZ(h:Tb t):∃r,r<t.mask+1/\r∉t.place:=by
 by_cases q:∃r,r<t.mask+1/\r∉t.place
 ·exact q
 ·exfalso;have:=Wr (List.range (t.mask+1)) t.place.toList Yf λx hx=>by
   rw[yz]at hx;by_cases a:x∈t.place
   ·exact Array.mem_toList_iff.mpr a
   ·exact absurd ⟨x,hx,a⟩ q
  rw[kA,qA]at this;have:=h.full;omega
theorem V'(a:Tb t)(h:Int):∃n,n<10*SetTable.turns t.mask/\(jd t.mask h n).j∉t.place:=by
 obtain⟨r,b,c⟩:=XZ a;obtain⟨l,d,e⟩:=NV a.mask h b;obtain⟨s,hs,e'⟩:=MT t.mask h l;refine⟨s,by unfold SetTable.turns;omega,?_⟩;rw[e'];show(lp t.mask h l).1∉_;rw[e];exact c
theorem Ws(f:Tb t)(h:Int):∃n,n<10*SetTable.turns t.mask/\(jd t.mask h n).j∉t.place/\∀m,m<n->(jd t.mask h m).j∈t.place:=by
 obtain⟨n,g,d⟩:=V' f h;have:∀k,(∃n,n<=k/\(jd t.mask h n).j∉t.place/\∀m,m<n->(jd t.mask h m).j∈t.place)\/∀m,m<=k->(jd t.mask h m).j∈t.place:=λk=>by
  induction k with
  |zero=>
   by_cases q:(jd t.mask h 0).j∈t.place
   ·exact .inr λm a=>by rw[show m=0 by omega];exact q
   ·exact .inl ⟨0,zo _,q,λm a=>absurd a (kM _)⟩
  |succ k b=>
   rcases b with⟨n,h1,h2⟩|b
   ·exact .inl ⟨n,by omega,h2⟩
   ·by_cases q:(jd t.mask h (k+1)).j∈t.place
    ·exact .inr λm a=>by
      by_cases e:m=k+1
      ·rw[e];exact q
      ·exact b m (by omega)
    ·exact .inl ⟨k+1,zo _,q,λm a=>b m (by omega)⟩
 rcases this n with⟨m,h1,h2,c⟩|q
 ·exact⟨m,by omega,h2,c⟩
 ·exact absurd (q n (zo _)) d
theorem gD(xs:Array α)(k:Nat)(a:α):xs.getD k a=xs[k]?.getD a:=by
 by_cases h:k<xs.size
 ·rw[qf h];simp[Array.getD,h]
 ·rw[K0 (by omega)];simp[Array.getD,h]
structure Tok (t:SetTable) (es:Array (Int×Value)):Prop extends Tb t where
 size:t.place.size=es.size
 reach:∀(i j:Nat) e,t.place[i]?=some j->es[i]?=some e->∃n,n<10*SetTable.turns t.mask/\(jd t.mask e.1 n).j=j/\∀m,m<n->(jd t.mask e.1 m).j∈t.place
theorem BX(xs:Array α)(p:Nat)(x:α):(SetTable.insertAt xs p x).toList=xs.toList.take p++x::xs.toList.drop p:=by
 unfold SetTable.insertAt;simp[Array.toList_extract,List.take_of_length_le]
theorem Hq{xs:Array α}{p:Nat}(hp:p<=xs.size)(x:α)(i:Nat):(SetTable.insertAt xs p x)[i]?=if i<p then xs[i]? else if i=p then Z x else xs[i-1]?:=by
 rw[<-Qb,BX,List.getElem?_append];have a:(xs.toList.take p).length=p:=by rw[ki,qA];omega
 rw[a];by_cases h1:i<p
 ·rw[zr h1,zr h1,List.getElem?_take,zr h1,Qb]
 ·rw[zD h1,zD h1];by_cases h2:i=p
  ·rw[zr h2,h2,Nat.sub_self];rfl
  ·rw[zD h2,show i-p=(i-p-1)+1 by omega,qa,List.getElem?_drop,Qb,show p+(i-p-1)=i-1 by omega]
theorem yc(xs:Array α)(p:Nat)(x:α):(SetTable.insertAt xs p x).size=xs.size+1:=by
 rw[<-qA,BX,zS,ZZ,ki,km,qA];omega
theorem Yn{xs:Array α}{p:Nat}{x y:α}:y∈SetTable.insertAt xs p x↔y∈xs\/y=x:=by
 rw[<-Array.mem_toList_iff,BX,List.mem_append,jv,<-Array.mem_toList_iff];constructor
 ·rintro(h|h|h)
  ·exact .inl (List.mem_of_mem_take h)
  ·exact .inr h
  ·exact .inl (yi h)
 ·rintro(h|h)
  ·rw[<-List.take_append_drop p xs.toList,List.mem_append]at h;rcases h with h|h
   ·exact .inl h
   ·exact .inr (.inr h)
  ·exact .inr (.inl h)
theorem nK{xs:Array Nat}(c:Wq xs)(f:j∉xs):Wq (SetTable.insertAt xs (SetTable.below xs j) j):=by
 obtain⟨h1,h2,d⟩:=BV c j;intro a b g hb;rw[yc]at hb;have ga:∀i,i<xs.size+1->(SetTable.insertAt xs (SetTable.below xs j) j).getD i 0=if i<SetTable.below xs j then xs.getD i 0 else if i=SetTable.below xs j then j else xs.getD (i-1) 0:=λi hi=>by
  rw[gD,Hq h1];by_cases q1:i<SetTable.below xs j
  ·rw[zr q1,zr q1,<-gD]
  ·rw[zD q1,zD q1];by_cases q2:i=SetTable.below xs j
   ·rw[zr q2,zr q2];rfl
   ·rw[zD q2,zD q2,<-gD]
 have gt:∀k,SetTable.below xs j<=k->k<xs.size->j<xs.getD k 0:=λk e hs=>by
  have q:=d k e hs;rcases Nat.lt_or_eq_of_le q with q|q
  ·exact q
  ·exact absurd (Array.mem_of_getElem? (eD hs q.symm)) f
 rw[ga a (by omega),ga b hb];by_cases a1:a<SetTable.below xs j
 ·rw[zr a1];by_cases b1:b<SetTable.below xs j
  ·rw[zr b1];exact c a b g (by omega)
  ·rw[zD b1];have:=h2 a a1;by_cases b2:b=SetTable.below xs j
   ·rw[zr b2];exact this
   ·rw[zD b2];exact Nat.lt_trans this (gt _ (by omega) (by omega))
 ·rw[zD a1];by_cases a2:a=SetTable.below xs j
  ·rw[zr a2,zD (by omega),zD (by omega)];exact gt _ (by omega) (by omega)
  ·rw[zD a2,zD (by omega),zD (by omega)];exact c _ _ (by omega) (by omega)
theorem az{es:Array (Int×A0)}(h:Tok t es){d:Int}{x:A0}(o:n<10*SetTable.turns t.mask)(p:(jd t.mask d n).j∉t.place)(hp:∀m,m<n->(jd t.mask d m).j∈t.place)(u:(jd t.mask d n).j<=t.mask)(hs:es.size+1<=t.mask):
  Tok (t.put (jd t.mask d n).j).1 (SetTable.insertAt es (t.put (jd t.mask d n).j).2 (d,x))/\(t.put (jd t.mask d n).j).1.led=t.led/\(t.put (jd t.mask d n).j).1.plain=t.plain/\(t.put (jd t.mask d n).j).1.mask=t.mask:=by
 have hd:=h.dum;have s:t.put (jd t.mask d n).j=({ t with place:=SetTable.insertAt t.place (SetTable.below t.place (jd t.mask d n).j) (jd t.mask d n).j,dummies:=#[] },SetTable.below t.place (jd t.mask d n).j):=by
  unfold SetTable.put;rw[hd];simp only[Yk,zt,Z3]
 rw[s];have l:=h.size;have hb:=(BV h.rise (jd t.mask d n).j).1;refine⟨{ mask:=h.mask,dum:=rfl,rise:=nK h.rise p,bd:=λj w=>?_,full:=?_,size:=?_,reach:=λi j e h1 h2=>?_ },rfl,rfl,rfl⟩
 ·rcases Yn.mp w with q|q
  ·exact h.bd j q
  ·rw[q];exact u
 ·show(SetTable.insertAt _ _ _).size<=t.mask;rw[yc];omega
 ·show(SetTable.insertAt _ _ _).size=_;rw[yc,yc,l]
 ·have h1:(SetTable.insertAt t.place (SetTable.below t.place (jd t.mask d n).j) (jd t.mask d n).j)[i]?=Z j:=h1;rw[Hq hb]at h1;rw[Hq (by rw[<-l];exact hb)]at h2;have f:∀e':Int×A0,(∃n,n<10*SetTable.turns t.mask/\(jd t.mask e'.1 n).j=j/\∀m,m<n->(jd t.mask e'.1 m).j∈t.place)->∃g,g<10*SetTable.turns t.mask/\(jd t.mask e'.1 g).j=j/\∀m,m<g->(jd t.mask e'.1 m).j∈SetTable.insertAt t.place (SetTable.below t.place (jd t.mask d n).j) (jd t.mask d n).j:=
   λe' ⟨n,a,b,c⟩=>⟨n,a,b,λm v=>Yn.mpr (.inl (c m v))⟩
  by_cases q1:i<SetTable.below t.place (jd t.mask d n).j
  ·rw[zr q1]at h1 h2;exact f e (h.reach i j e h1 h2)
  ·rw[zD q1]at h1 h2;by_cases q2:i=SetTable.below t.place (jd t.mask d n).j
   ·rw[zr q2]at h1 h2;cases h1;cases h2;exact f (d,x) ⟨n,o,rfl,hp⟩
   ·rw[zD q2]at h1 h2;exact f e (h.reach (i-1) j e h1 h2)
theorem Mb{mask:Nat}(h:Int):∀n,(jd mask h n).j+(jd mask h n).more<=mask
 |0=>by
  have h1:SetTable.bits h%(mask+1)<mask+1:=Nat.mod_lt _ (Nat.succ_pos _);have:=OY (mask:=mask) (i:=SetTable.bits h%(mask+1)) (by omega);have:=JD mask (SetTable.bits h%(mask+1));show SetTable.bits h%(mask+1)+(SetTable.runEnd mask (SetTable.bits h%(mask+1))-SetTable.bits h%(mask+1))<=mask;omega
 |n+1=>by
  have b:=Mb (mask:=mask) h n;show(Lx mask (jd mask h n)).j+(Lx mask (jd mask h n)).more<=mask;unfold Lx;split
  ·dsimp only;omega
  ·dsimp only;generalize a:(SetTable.leap mask (jd mask h n).i (jd mask h n).perturb).1=i;have h1:i<mask+1:=by rw[<-a];exact Nat.mod_lt _ (Nat.succ_pos _)
   have:=OY (mask:=mask) (i:=i) (by omega);have:=JD mask i;omega
theorem Wt(h:Int)(n:Nat):(jd mask h n).j<=mask:=by have:=Mb (mask:=mask) h n;omega
def Wu(owner:Array (Y Nat))(j:Nat):Prop:=(owner.getD j (Z 0)).isNone=false
theorem Oe{mask:Nat}{h:Int}{owner:Array (Y Nat)}:∀(fuel l s j:Nat),jd mask h s=EN mask (lp mask h l).1 (lp mask h l).2->s<=10*l->(∀m,m<s->Wu owner (jd mask h m).j) →
  SetTable.layClean.free mask owner fuel (lp mask h l).1 (lp mask h l).2=Z j->∃n,n<10*(l+fuel)/\(jd mask h n).j=j/\(owner.getD j (Z 0)).isNone=true/\∀m,m<n->Wu owner (jd mask h m).j
 |0,l,s,j,_,_,_,e=>by unfold SetTable.layClean.free at e;cases e
 |fuel+1,l,s,j,hs,hl,ho,e=>by
  have i:=JD mask (lp mask h l).1;unfold SetTable.layClean.free at e;cases c:(List.range (SetTable.runEnd mask (lp mask h l).1+1-(lp mask h l).1)).find? λk=>(owner.getD ((lp mask h l).1+k) (Z 0)).isNone with
  |some k=>
   rw[c]at e;cases e;obtain⟨h1,h2,d⟩:=List.find?_range_eq_some.mp c;rw[yz]at h2;refine⟨s+k,by omega,?_,h1,λm g=>?_⟩
   ·rw[BW hs k (by omega)]
   ·by_cases q:m<s
    ·exact ho m q
    ·have f:=d (m-s) (by omega);rw[show m=s+(m-s) by omega,BW hs (m-s) (by omega)];simpa[Wu]using f
  |none=>
   rw[c]at e;have d:=List.find?_range_eq_none.mp c;obtain⟨n,a,b⟩:=Oe fuel (l+1) _ j (Tv hs) (by omega) (λm g=>by
    by_cases q:m<s
    ·exact ho m q
    ·have f:=d (m-s) (by omega);rw[show m=s+(m-s) by omega,BW hs (m-s) (by omega)];simpa[Wu]using f) e
   exact⟨n,by omega,b⟩
theorem Og{mask:Nat}{h:Int}{owner:Array (Y Nat)}:∀(fuel l:Nat),SetTable.layClean.free mask owner fuel (lp mask h l).1 (lp mask h l).2=U->∀l',l<=l'->l'<l+fuel->Wu owner (lp mask h l').1
 |0,l,_,l',h1,h2=>by omega
 |fuel+1,l,e,l',h1,h2=>by
  have d:=JD mask (lp mask h l).1;unfold SetTable.layClean.free at e;cases a:(List.range (SetTable.runEnd mask (lp mask h l).1+1-(lp mask h l).1)).find? λk=>(owner.getD ((lp mask h l).1+k) (Z 0)).isNone with
  |some k=>rw[a]at e;cases e
  |none=>
   rw[a]at e;have c:=List.find?_range_eq_none.mp a;by_cases q:l'=l
   ·subst q;have b:=c 0 (by omega);simpa[Wu]using b
   ·exact Og fuel (l+1) e l' (by omega) (by omega)
structure Ow (mask:Nat) (hs:List Int) (owner:Array (Option Nat)):Prop where
 size:owner.size=mask+1
 lt:∀(j idx:Nat),owner[j]?=some (some idx)->idx<hs.length
 all:∀(idx:Nat) h,hs[idx]?=some h->∃j,owner[j]?=some (some idx)/\∃n,n<10*SetTable.turns mask/\(jd mask h n).j=j/\∀m,m<n->Wu owner (jd mask h m).j
 inj:∀(j j' idx:Nat),owner[j]?=some (some idx)->owner[j']?=some (some idx)->j=j'
theorem LZ(o:Ow mask hs owner)(c:j<=mask):Wu owner j↔∃b,owner[j]?=Z (Z b):=by
 unfold Wu;have a:j<owner.size:=by rw[o.size];omega
 rw[gD,qf a];cases owner[j]with
 |none=>simp
 |some i=>simp
theorem X2{f:Nat->Nat}:∀{xs:O Nat},xs.Nodup->(∀x∈xs,∀y∈xs,f x=f y->x=y)->(xs.map f).Nodup:=λ{xs} hn hi=>
 List.pairwise_map.mpr (JS (λb hb a e=>a (hi _ b _ hb e)) hn)
theorem g7(o:Ow mask hs owner)(g:hs.length<=mask):∃r,r<mask+1/\¬ Wu owner r:=by
 by_cases q:∃r,r<mask+1/\¬ Wu owner r
 ·exact q
 ·exfalso;have all:∀r,r<mask+1->∃d,owner[r]?=Z (Z d):=λr a=>by
   by_cases c:Wu owner r
   ·exact(LZ o (by omega)).mp c
   ·exact absurd ⟨r,a,c⟩ q
  have f:∀r,r<mask+1->owner[r]?=Z (Z ((owner[r]?.getD U).getD 0)):=λr a=>by
   obtain⟨d,e⟩:=all r a;rw[e];rfl
  have:=Wr ((List.range (mask+1)).map λr=>(owner[r]?.getD U).getD 0) (List.range hs.length) (X2 Yf λx hx y b e=>by
   rw[yz]at hx b;have e1:=f x hx;have e2:=f y b;rw[e]at e1;exact o.inj x y _ e1 e2) λx hx=>by
    obtain⟨r,a,rfl⟩:=List.mem_map.mp hx;rw[yz]at a;exact List.mem_range.mpr (o.lt r _ (f r a))
  rw[zk,kA,kA]at this;omega
theorem ik(f:mask=7\/mask=31\/mask=127)(o:Ow mask hs owner)(v:hs.length<=mask)(h:Int):
  ∃j,SetTable.layClean.free mask owner (SetTable.turns mask) (SetTable.bits h%(mask+1)) (SetTable.bits h)=Z j/\Ow mask (hs++[h]) (owner.setIfInBounds j (Z hs.length)):=by
 obtain⟨r,z,t⟩:=g7 o v;cases s:SetTable.layClean.free mask owner (SetTable.turns mask) (SetTable.bits h%(mask+1)) (SetTable.bits h)with
 |none=>
  obtain⟨l,B,e⟩:=NV f h z;have:=Og (h:=h) (owner:=owner) (SetTable.turns mask) 0 s l (QU _) (by unfold SetTable.turns;omega);rw[e]at this;exact absurd this t
 |some j=>
  obtain⟨n,h1,h2,i,x⟩:=Oe (h:=h) (owner:=owner) (SetTable.turns mask) 0 0 j S (zo _) (λm f=>absurd f (kM _)) s;rw[yo]at h1;have A:j<=mask:=by rw[<-h2];exact Wt h n
  have w:j<owner.size:=by rw[o.size];omega
  have get:∀k:Nat,(owner.setIfInBounds j (Z hs.length))[k]?=if k=j then Z (Z hs.length)else owner[k]?:=λk=>by
   rw[Array.getElem?_setIfInBounds];by_cases q:k=j
   ·rw[zr q,zr q.symm,zr w]
   ·rw[zD q,zD (λe=>q e.symm)]
  have old:∀k d:Nat,owner[k]?=Z (Z d)->k≠j:=λk d e q=>by
   subst q;rw[gD,e]at i;cases i
  have p:∀k,Wu owner k->Wu (owner.setIfInBounds j (Z hs.length)) k:=λk q=>by
   unfold Wu at q ⊢;rw[gD]at q ⊢;rw[get];by_cases e:k=j
   ·rw[zr e];rfl
   ·rw[zD e];exact q
  refine⟨j,rfl,⟨by rw[Array.size_setIfInBounds];exact o.size,λk d e=>?_,λd g e=>?_,λa b d e1 e2=>?_⟩⟩
  ·rw[get]at e;rw[zS];by_cases q:k=j
   ·rw[zr q]at e;cases e;simp
   ·rw[zD q]at e;have:=o.lt k d e;simp;omega
  ·by_cases q:d<hs.length
   ·rw[ZU q]at e;obtain⟨k,e1,u,a,b,c⟩:=o.all d g e;exact⟨k,by rw[get,zD (old k d e1)];exact e1,u,a,b,λm f=>p _ (c m f)⟩
   ·rw[qS (by omega)]at e;have:d-hs.length=0:=by
     by_cases y:d-hs.length=0
     ·exact y
     ·rw[qq (by simp;omega)]at e;cases e
    rw[this]at e;cases e;have:d=hs.length:=by omega
    subst this;exact⟨j,by rw[get,zr rfl],n,h1,h2,λm f=>p _ (x m f)⟩
  ·rw[get]at e1 e2;by_cases q1:a=j
   ·by_cases q2:b=j
    ·rw[q1,q2]
    ·rw[zr q1]at e1;rw[zD q2]at e2;cases e1;have:=o.lt b _ e2;omega
   ·by_cases q2:b=j
    ·rw[zD q1]at e1;rw[zr q2]at e2;cases e2;have:=o.lt a _ e1;omega
    ·rw[zD q1]at e1;rw[zD q2]at e2;exact o.inj a b d e1 e2
theorem XB(mask:Nat):Ow mask [] (Array.replicate (mask+1) U):=by
 have no:∀(j a:Nat),(Array.replicate (mask+1) (U:Y Nat))[j]?≠Z (Z a):=λj a e=>by
  rw[Array.getElem?_replicate]at e;split at e<;>cases e
 exact⟨Array.size_replicate,λj a e=>absurd e (no j a),λa h e=>by simp at e,λj b a e=>absurd e (no j a)⟩
theorem TN(g:mask=7\/mask=31\/mask=127)(hs:O Int)(a:hs.length<=mask):∃owner,SetTable.layClean mask hs.toArray=Z owner/\Ow mask hs owner:=by
 have d:∀(ys xs:O Int) (owner:Array (Y Nat)),Ow mask xs owner->xs.length+ys.length<=mask->∃c,ys.foldl (λ(i:Y (Array (Y Nat)×Nat)) h=>do
   let (owner,k) <-i
   let j <-SetTable.layClean.free mask owner (SetTable.turns mask) (SetTable.bits h%(mask+1)) (SetTable.bits h)
   pure (owner.setIfInBounds j (Z k),k+1)) (Z (owner,xs.length))=Z (c,xs.length+ys.length)/\Ow mask (xs++ys) c:=by
  intro ys
  induction ys with
  |nil=>intro xs owner o _;exact⟨owner,rfl,by rw[qr];exact o⟩
  |cons y ys f=>
   intro xs owner o a;rw[ZZ]at a;obtain⟨j,e,o'⟩:=ik g o (by omega) y;obtain⟨ow,e2,b⟩:=f (xs++[y]) _ o' (by simp;omega);refine⟨ow,?_,by rw[qo]at b;exact b⟩;rw[QN];simp only[Option.bind_eq_bind,Option.bind_some,e,pure];rw[show(xs++[y]).length=xs.length+1 by simp]at e2;rw[ZZ,show xs.length+(ys.length+1)=xs.length+1+ys.length by omega];exact e2
 obtain⟨ow,e,o⟩:=d hs [] _ (XB mask) (by simpa using a);refine⟨ow,?_,by simpa using o⟩;unfold SetTable.layClean;rw[List.foldl_toArray];exact congrArg (Option.map (·.1)) e
theorem Qk{α β:Type}{f:α->Y β}{g:α->β}:∀{xs:O α},(∀x∈xs,f x=Z (g x))->xs.filterMap f=xs.map g
 |[],_=>rfl
 |x::xs,h=>by
  rw[Kj,h x (zh ..),zl,Qk λy a=>h y (zi _ a)]
theorem Sk{xs:O Nat}(h:xs.Pairwise (· < ·)):Wq xs.toArray:=by
 intro i j c b;have a:j<xs.length:=by simpa using b
 rw[gD,gD,List.getElem?_toArray,List.getElem?_toArray,Zl a,Zl (by omega)];exact List.pairwise_iff_getElem.mp h i j (by omega) a c
theorem Ta{es:Array (Int×A0)}{wanted:Nat}(B:SetTable.sizeAbove wanted-1=7\/SetTable.sizeAbove wanted-1=31\/SetTable.sizeAbove wanted-1=127)(G:es.size<=SetTable.sizeAbove wanted-1):
  ∃t' w,t.relaid (es.map (·.1)) wanted=Z (t',w)/\(w.filterMap (es[·]?)).toList.Perm es.toList/\Tok t' (w.filterMap (es[·]?))/\t'.led=t.led/\t'.plain=t.plain/\t'.mask=SetTable.sizeAbove wanted-1:=by
 generalize J:SetTable.sizeAbove wanted-1=mask at B G ⊢;have hs:(es.toList.map (·.1)).length=es.size:=by simp
 obtain⟨ow,e,o⟩:=TN B (es.toList.map (·.1)) (by omega);have ea:es.map (·.1)=(es.toList.map (·.1)).toArray:=by
  apply Array.ext';simp
 let L:O (Nat×Nat):=(List.range (mask+1)).filterMap λj=>(ow.getD j U).map λk=>(j,k)
 have d:∀j k,(j,k)∈L↔ow[j]?=Z (Z k):=λj k=>by
  show(j,k)∈List.filterMap _ _↔_;rw[List.mem_filterMap];constructor
  ·rintro⟨a,f,q⟩;rw[gD]at q;cases h1:ow[a]? with
   |none=>rw[h1]at q;cases q
   |some x=>
    rw[h1]at q;cases x with
    |none=>cases q
    |some y=>cases q;exact h1
  ·intro q;refine⟨j,List.mem_range.mpr ?_,?_⟩
   ·by_cases h:j<ow.size
    ·rw[<-o.size];exact h
    ·rw[K0 (by omega)]at q;cases q
   ·rw[gD,q];rfl
 have E:L.Pairwise λa b=>a.1<b.1:=by
  refine List.pairwise_filterMap.mpr (List.pairwise_lt_range.imp λ{a b} hab x hx y hy=>?_);cases h1:ow.getD a U with
  |none=>rw[h1]at hx;cases hx
  |some u=>
   cases h2:ow.getD b U with
   |none=>rw[h2]at hy;cases hy
   |some v=>rw[h1]at hx;rw[h2]at hy;cases hx;cases hy;exact hab
 have H:(L.map (·.2)).Nodup:=by
  refine List.pairwise_map.mpr (JS (λ{a b} f hb hab e=>?_) E);have h1:=(d a.1 a.2).mp f;have h2:=(d b.1 b.2).mp hb;rw[e]at h1;have:=o.inj _ _ _ h1 h2;omega
 have s:(L.map (·.2)).Perm (List.range es.size):=HJ H Yf λz=>by
  rw[KO,yz];constructor
  ·rintro⟨a,f,rfl⟩;have:=o.lt _ _ ((d a.1 a.2).mp f);omega
  ·intro M;obtain⟨j,h1,_⟩:=o.all z ((es.toList.map (·.1))[z]'(by omega)) (Zl (by omega));exact⟨(j,z),(d j z).mpr h1,rfl⟩
 let g:Nat->Int×A0:=λk=>es.getD k (0,.none)
 have A:∀k,k<es.size->es[k]?=Z (g k):=λk l=>by
  show _=Z (es.getD k _);rw[gD,qf l];rfl
 have D:(L.map (·.2)).filterMap (λk=>es[k]?)=(L.map (·.2)).map g:=Qk λk l=>A k (List.mem_range.mp (s.mem_iff.mp l));have eL:((L.map (·.2)).toArray.filterMap (λk=>es[k]?)).toList=L.map λp=>g p.2:=by
  rw[Array.toList_filterMap,D,qh];rfl
 refine⟨{ mask:=mask,place:=(L.map (·.1)).toArray,dummies:=#[],finger:=t.finger,led:=t.led,moves:=t.movedTo mask,plain:=t.plain },(L.map (·.2)).toArray,?_,?_,?_,rfl,rfl,rfl⟩
 ·unfold SetTable.relaid SetTable.laid;rw[J,ea,e];rfl
 ·rw[Array.toList_filterMap,D];refine(s.map g).trans ?_;have:(List.range es.size).map g=es.toList:=by
   apply List.ext_getElem?;intro i;rw[ZE];by_cases h:i<es.size
   ·rw[kD h,Qb,A i h];rfl
   ·rw[qq (by simp;omega),qq (by simp;omega)];rfl
  rw[this]
 ·have sz:L.length=es.size:=by
   have:=s.length_eq;rw[zk,kA]at this;exact this
  refine { mask:=B,dum:=rfl,rise:=Sk (List.pairwise_map.mpr E),bd:=λj C=>?_,full:=?_,size:=?_,reach:=λi j x h1 h2=>?_ }
  ·have C:j∈L.map (·.1):=by simpa using C
   obtain⟨a,f,rfl⟩:=List.mem_map.mp C;have q:=(d a.1 a.2).mp f;have:a.1<ow.size:=by
    by_cases h:a.1<ow.size
    ·exact h
    ·rw[K0 (by omega)]at q;cases q
   have:=o.size;show a.1<=mask;omega
  ·show(L.map (·.1)).toArray.size<=mask;simp only[zI,zk];omega
  ·rw[<-qA (xs:=Array.filterMap _ _),eL];simp
  ·have h1:(L.map (·.1)).toArray[i]?=Z j:=h1;rw[List.getElem?_toArray,ZE]at h1;rw[<-Qb,eL,ZE]at h2;cases hi:L[i]? with
   |none=>rw[hi]at h1;cases h1
   |some p=>
    rw[hi]at h1 h2;cases h1;cases h2;have hp:(p.1,p.2)∈L:=QO hi;have q:=(d p.1 p.2).mp hp;have l:p.2<es.size:=List.mem_range.mp (s.mem_iff.mp (List.mem_map.mpr ⟨p,hp,rfl⟩));have K:(es.toList.map (·.1))[p.2]?=Z (g p.2).1:=by
     rw[ZE,Qb,A _ l];rfl
    obtain⟨I,q1,n,a,b,c⟩:=o.all _ _ K;have:I=p.1:=o.inj _ _ _ q1 q;subst this;refine⟨n,a,b,λm F=>?_⟩;obtain⟨k,q2⟩:=(LZ o (Wt _ _)).mp (c m F);show _∈(L.map (·.1)).toArray;rw[List.mem_toArray];exact List.mem_map.mpr ⟨(_,k),(d _ _).mpr q2,rfl⟩
end S6
namespace S6
open P1 L2
abbrev c7(prog:A3)(w:A4)(ks:O AY):Int:=tupleKeyHash (bD prog w) ks
def TE(prog:A3)(w:A4)(h:A6)(z:O AY×A1)(e:Int×A0):Prop:=e=(c7 prog w z.1,.ref z.2)/\IsTupleKey (bD prog w) h z.1 z.2
structure Fm (prog:Program) (w:World) (h:Heap) (zs:List (List AY×Addr)) (es:Array (Int×Value)) (t:SetTable):Prop where
 rel:Paired (TE prog w h) zs es.toList
 nd:(zs.map (·.1)).Nodup
 tok:Tok t es
 load:es.size*5<t.mask*3
 led:w.params.followText "set-order"=false->t.led=true
 non:0<es.size->t.plain=false
def Tu(prog:A3)(w:A4)(h:A6)(a:A1)(zs:O (O AY×A1)):Prop:=∃o es ep t,h.get? a=Z o/\o.ExactSet/\o.data=.set es ep t/\Fm prog w h zs es t
theorem Yo{h':A6}{b:A1}(x:IsTupleKey (bD prog w) h ks b)(k:∀o,h.get? b=Z o->o.cls=.type "tuple" → h'.get? b=Z o):IsTupleKey (bD prog w) h' ks b:=
 let ⟨o,AQ,n,e,c,r⟩:=x;⟨o,AQ,n,k o e c,c,r⟩
theorem Tz{h':A6}{l:O (Int×A0)}(k:∀b o,h.get? b=Z o->o.cls=.type "tuple" → h'.get? b=Z o)(r:AI (TE prog w h) zs l):AI (TE prog w h') zs l:=by
 induction r with
 |nil=>exact .nil
 |cons q _ a=>exact .cons ⟨q.1,Yo q.2 λo e c=>k _ o e c⟩ a
theorem Fm.size{es:Array (Int×A0)}(x:Fm prog w h zs es t):es.size=zs.length:=by rw[x.rel.length];simp
theorem Tok.fits{t:SetTable}{es:Array (Int×A0)}(h:Tok t es):t.fits es.size=true:=by
 unfold SetTable.fits SetTable.fill;have h1:=h.full;have h2:=h.size;rw[h.dum];simp[h2];omega
theorem Tok.odd{es:Array (Int×A0)}(h:Tok t es):t.gaveWay=false:=by
 unfold SetTable.gaveWay;rcases h.mask with e|e|e<;>rw[e]<;>rfl
theorem Oh{d:Nat}{b:A1}{Q:Bool->A2->Prop}(e:IsTupleKey (bD prog w) s.heap ks b)(h:Q false s):A7 (A8 prog w) A (ofAClassStatement (d+1) (.ref b)) Q E s:=by
 have j:=e.typeIs;obtain⟨o,items,n,l,_,hd,hi⟩:=e;unfold ofAClassStatement;refine zd (Q3 j ?_);dsimp only;refine zd (zg ?_);simp only[kU,zt,Z3];refine zd (wpAny_seqItems l hd ?_);dsimp only;refine zd ?_;rw[<-Array.forIn_toList];refine wpAny_forIn_list _ (λAS r s'=>r.1=U/\s'=s/\∀v∈AS,carriedByValue v=true) _ ?_ ?_ _ _ ⟨rfl,rfl,hi.byValue⟩
 ·rintro v AS r s' ⟨c,rfl,f⟩;have i:ofAClassStatement d v=pure false:=by
   have:=f v zh;cases v with
   |ref a=>simp[carriedByValue]at this
   |_=>unfold ofAClassStatement;rfl
  rw[i];refine zd (zg ?_);simp only[zt,Z3];exact zg ⟨rfl,rfl,λu g=>f u (zi _ g)⟩
 ·rintro⟨p,m⟩ s' ⟨c,rfl,_⟩;simp only at c;subst c;exact zg h
theorem UU{b:A1}{Q:Bool->A2->Prop}(e:IsTupleKey (bD prog w) s.heap ks b)(vs:O A0)(j:∀v∈vs,∃c a,v=.ref c/\IsTupleKey (bD prog w) s.heap a c)(h:Q false s):A7 (A8 prog w) A (searchCouldBeSeen (.ref b) vs) Q E s:=by
 unfold searchCouldBeSeen;refine zd ?_;refine wpAny_forIn_list _ (λAS r s'=>r.1=U/\s'=s/\∀v∈AS,∃c a,v=.ref c/\IsTupleKey (bD prog w) s.heap a c) _ ?_ ?_ _ _ ⟨rfl,rfl,j⟩
 ·rintro v AS r s' ⟨d,rfl,f⟩;obtain⟨c,a,rfl,i⟩:=f v zh;have g:∀v∈AS,∃c a,v=.ref c/\IsTupleKey (bD prog w) s'.heap a c:=λu l=>f u (zi _ l);dsimp only;split
  ·exact zg ⟨rfl,rfl,g⟩
  ·refine zd (wpAny_eqIsQuiet_tuple e ?_);simp only[kU,zt,Z3];refine zd (wpAny_eqIsQuiet_tuple i ?_);simp only[kU,zt,Z3];refine zd (Oh e ?_);simp only[zt,Z3];refine zd (Oh i ?_);simp only[zt,Z3];exact zg ⟨rfl,rfl,g⟩
 ·rintro⟨n,m⟩ s' ⟨d,rfl,_⟩;simp only at d;subst d;exact zg h
theorem QD{h:A6}:∀{zs:O (O AY×A1)} {l:O (Int×A0)},AI (TE prog w h) zs l->∀{i:Nat} {e},l[i]?=Z e->∃z,zs[i]?=Z z/\TE prog w h z e
 |_,_,.nil,i,e,q=>by simp at q
 |_,_,.cons r _,0,e,q=>by simp at q;subst q;exact⟨_,rfl,r⟩
 |_,_,.cons _ t,i+1,e,q=>by
  rw[qa]at q;obtain⟨z,z1,z2⟩:=QD t q;exact⟨z,by rw[qa];exact z1,z2⟩
theorem BZ{h:A6}:∀{zs:O (O AY×A1)} {l:O (Int×A0)},AI (TE prog w h) zs l->∀{i:Nat} {z},zs[i]?=Z z->∃e,l[i]?=Z e/\TE prog w h z e
 |_,_,.nil,i,e,q=>by simp at q
 |_,_,.cons r _,0,e,q=>by simp at q;subst q;exact⟨_,rfl,r⟩
 |_,_,.cons _ t,i+1,e,q=>by
  rw[qa]at q;obtain⟨z,z1,z2⟩:=BZ t q;exact⟨z,by rw[qa];exact z1,z2⟩
theorem Dx(p:Nat->Prop):∀(k n:Nat),p (n+k)->∃d,d<=k/\p (n+d)/\∀m,n<=m->m<n+d->¬ p m
 |0,n,h=>⟨0,zo _,h,λm h1 h2=>absurd h2 (by omega)⟩
 |k+1,n,h=>by
  by_cases q:p n
  ·exact⟨0,QU _,q,λm h1 h2=>absurd h2 (by omega)⟩
  ·obtain⟨d,h1,h2,c⟩:=Dx p k (n+1) (by rw[show n+1+k=n+(k+1) by omega];exact h);refine⟨d+1,by omega,by rw[show n+(d+1)=n+1+d by omega];exact h2,λm a b=>?_⟩;by_cases e:m=n
   ·rw[e];exact q
   ·exact c m (by omega) (by omega)
theorem EM{o:AE}{es:Array (Int×A0)}{b:A1}(hu:A.units<cLine)(W:s.heap.get? a=Z o)(hd:o.data=.set es ep t)(x:Fm prog w s.heap zs es t)(K:IsTupleKey (bD prog w) s.heap ks b){N:Nat}(hN:N<10*SetTable.turns t.mask)(h:(jd t.mask (c7 prog w ks) N).j∉t.place)(hp:∀m,m<N->(jd t.mask (c7 prog w ks) m).j∈t.place){Q:SetFound->A2->Prop}(h1:ks∈zs.map (·.1)->Q (.there U) s)(h2:ks∉zs.map (·.1)->Q (.free (jd t.mask (c7 prog w ks) N).j false) s):
  ∀(k n fuel:Nat) (C:Y SetTable.Probe),n+k=N->k<fuel->C.getD (t.probeStart (c7 prog w ks))=jd t.mask (c7 prog w ks) n->(∀m,m<n->∀i:Nat,t.place[i]?=Z (jd t.mask (c7 prog w ks) m).j->∀z:O AY×A1,zs[i]?=Z z->z.1≠ks) →
   A7 (A8 prog w) A (setSearchFrom a (.ref b) (c7 prog w ks) true fuel C) Q E s:=by
 have get:∀{i:Nat} {e},es[i]?=Z e->∃z,zs[i]?=Z z/\TE prog w s.heap z e:=λ{i e} q=>QD x.rel (by rw[Qb];exact q);have M:=x.tok.fits;intro k
 induction k using Nat.strongRecOn with
 |ind k ih=>
  intro n fuel C hn a3 a0 hb;cases fuel with
  |zero=>omega
  |succ fuel=>
  unfold setSearchFrom;refine zd (Q4 W hd M ?_);dsimp only;rw[zD (by rw[x.tok.odd];decide)];refine zd (zg ?_);rw[a0];obtain⟨d,d1,d2,F⟩:=Dx (λm=>m=N\/∃i:Nat,t.place[i]?=Z (jd t.mask (c7 prog w ks) m).j/\∃e:Int×A0,es[i]?=Z e/\e.1=c7 prog w ks) k n (.inl hn);have live:∀m,m<N->∃i:Nat,t.place[i]?=Z (jd t.mask (c7 prog w ks) m).j/\∃e,es[i]?=Z e:=λm l=>by
   obtain⟨i,hi,e⟩:=Array.getElem_of_mem (hp m l);have f:i<es.size:=by rw[<-x.tok.size];exact hi
   exact⟨i,by rw[qf hi,e],es[i],qf f⟩
  have pr:=Tq x.tok.toTb (λi=>(es[i]?.map (·.1)).getD 0) (c7 prog w ks) d (10*SetTable.turns t.mask) n (by omega) λm a1 a2=>by
   have q:=F m a1 a2;obtain⟨i,e1,e,e2⟩:=live m (by omega);refine⟨i,e1,λq'=>q (.inr ⟨i,e1,e,e2,?_⟩)⟩;simpa[e2]using q'
  have P:t.probe (λi=>(es[i]?.map (·.1)).getD 0) (c7 prog w ks) (jd t.mask (c7 prog w ks) n)=SetTable.probe.go t (λi=>(es[i]?.map (·.1)).getD 0) (c7 prog w ks) (10*SetTable.turns t.mask) (jd t.mask (c7 prog w ks) n):=rfl;by_cases G:n+d=N
  ·have p1:=pr.1 (by rw[G];exact h);rw[G]at p1;show A7 _ _ (match t.probe (λi=>(es[i]?.map (·.1)).getD 0) (c7 prog w ks) (jd t.mask (c7 prog w ks) n)with|some met=>_|_=>_) _ _ _;rw[P,p1];dsimp only;refine zg (h2 λl=>?_);obtain⟨z,hz,D⟩:=List.mem_map.mp l;obtain⟨i,hi,e⟩:=QY hz;obtain⟨B,e1,e2⟩:=BZ x.rel (show zs[i]?=Z z by rw[Zl hi,e]);rw[Qb]at e1;have f:i<t.place.size:=by rw[x.tok.size,x.size];exact hi
   obtain⟨g,b1,b2,X⟩:=x.tok.reach i _ B (qf f) e1;rw[e2.1,D]at b2 X;have lt:g<N:=by
    rcases yY g N with q|q|q
    ·exact q
    ·exfalso;rw[<-q]at h;rw[b2]at h;exact h (Array.getElem_mem f)
    ·exact absurd (X N q) h
   by_cases q:g<n
   ·exact hb g q i (by rw[b2];exact qf f) z (by rw[Zl hi,e]) D
   ·exact F g (by omega) (by omega) (.inr ⟨i,by rw[b2];exact qf f,B,e1,by rw[e2.1,D]⟩)
  ·rcases d2 with q|⟨i,i1,e,i2,i3⟩
   ·exact absurd q G
   ·have p2:=pr.2 i i1 (by simpa[i2]using i3);show A7 _ _ (match t.probe (λi=>(es[i]?.map (·.1)).getD 0) (c7 prog w ks) (jd t.mask (c7 prog w ks) n)with|some met=>_|_=>_) _ _ _;rw[P,p2];dsimp only;obtain⟨z,z1,z2⟩:=get i2;have I:∀v∈((es.filter (·.1==c7 prog w ks)).toList.map (·.2)),∃c ls,v=.ref c/\IsTupleKey (bD prog w) s.heap ls c:=λv I=>by
     obtain⟨u,L,rfl⟩:=List.mem_map.mp I;rw[Array.toList_filter,kN]at L;obtain⟨jj,hj,ej⟩:=QY L.1;obtain⟨y,y1,y2⟩:=QD x.rel (show es.toList[jj]?=Z u by rw[Zl hj,ej]);exact⟨y.2,y.1,by rw[y2.1],y2.2⟩
    have J:A7 (A8 prog w) A (do
      let Z (_,y):=es[i]?|unsupported "internal:set-entry"
      let equal <-holding [y] (eqBool y (.ref b))
      let (es',_,t') <-setState a
      if(true&&equal)=true then return SetFound.there U
      let Z same:=t'.sameMemory t.moves t.mask|unsupported "set.changed-during-lookup:is-the-new-block-at-the-old-address"
      let still <-match (if same then t'.slot (jd t.mask (c7 prog w ks) (n+d)).j else .empty)with
       |.live i'=>match es'[i']? with
        |some (_,y')=>do pure (if <-isSame y' y then Z i' else U)
        |none=>pure U
       |_=>pure U
      match still with
      |none=>rule "set.search.anew"; setSearchFrom a (.ref b) (c7 prog w ks) true fuel U
      |some i'=>if equal then return .there (Z i')else setSearchFrom a (.ref b) (c7 prog w ks) true fuel (Z (jd t.mask (c7 prog w ks) (n+d+1)))) Q E s:=by
     rw[i2,z2.1];dsimp only;refine zd (QR (wpAny_eqBool_tuple hu z2.2 K ?_));refine zd (Q4 W hd M ?_);dsimp only;by_cases p:z.1=ks
     ·rw[Zs p];simp only[Bool.and_self,qV];exact zg (h1 (List.mem_map.mpr ⟨z,QO z1,p⟩))
     ·rw[Zp p];simp only[yA,zt,Z3];have sm:t.sameMemory t.moves t.mask=Z true:=by unfold SetTable.sameMemory;simp
      rw[sm];dsimp only;simp only[qV];rw[Eh x.tok.toTb i1];dsimp only;rw[i2,z2.1];dsimp only;refine zd (wpAny_isSame_ref_self (zd (zg ?_)));simp only[qV];refine ih (N-(n+d+1)) (by omega) (n+d+1) fuel _ (by omega) (by omega) S λm l i' H y y1=>?_;by_cases c1:m<n
      ·exact hb m c1 i' H y y1
      ·by_cases c2:m=n+d
       ·subst c2;have:i'=i:=by
         have s1:=JC x.tok.rise H;have s2:=JC x.tok.rise i1;omega
        subst this;rw[z1]at y1;cases y1;exact p
       ·have q:=F m (by omega) (by omega);intro e';obtain⟨B,e1,e2⟩:=BZ x.rel y1;rw[Qb]at e1;exact q (.inr ⟨i',H,B,e1,by rw[e2.1,e']⟩)
    split
    ·refine zd (UU K _ I ?_);simp only[zt,Z3];exact J
    ·exact J
def EQ(ks:O AY):Prop:=∃x:AJ,(Sum.inr x:AY)∈ks
theorem WU{b:A1}{Q:Bool->A2->Prop}(c:IsTupleKey (bD prog w) s.heap ks b)(hx:EQ ks)(h:Q false s):A7 (A8 prog w) A (hashByValue 8 (.ref b)) Q E s:=by
 have d:=c.typeIs;obtain⟨o,items,n,f,_,hd,hi⟩:=c;unfold hashByValue;refine zd (wpAny_specialOf d F.slot_tuple_hash.lookup ?_);dsimp only;refine zd (wpAny_seqItems f hd ?_);show A7 _ _ (forIn items _ _ >>= _) _ _ s;refine zd ?_;rw[<-Array.forIn_toList];refine wpAny_forIn_list _ (λAS r s'=>r.1=U/\s'=s/\∃left,ItemsAre (bD prog w) left AS/\EQ left) _ ?_ ?_ _ _ ⟨rfl,rfl,ks,hi,hx⟩
 ·rintro v AS r s' ⟨j,rfl,left,a,x,hx⟩;cases a with
  |@cons k _ g _ h1 l=>
   rcases bY h1 with⟨i,t,rfl,rfl⟩|⟨y,t,rfl,rfl⟩
   ·have e:hashByValue 7 (.int i t)=pure true:=by unfold hashByValue;rfl
    rw[e];refine zd (zg ?_);simp only[kU,zt,Z3];refine zg ⟨rfl,rfl,g,l,x,?_⟩;rcases List.mem_cons.mp hx with q|q
    ·cases q
    ·exact q
   ·have e:hashByValue 7 (.str y t)=pure false:=by unfold hashByValue;rfl
    rw[e];refine zd (zg ?_);simp only[k6,qV];exact zg (zg h)
 ·rintro⟨p,m⟩ s' ⟨j,rfl,left,a,x,hx⟩;cases a;cases hx
theorem dr{es:Array (Int×A0)}(h:Tok t es):Tok { t with plain:=false } es:={ mask:=h.mask,dum:=h.dum,rise:=h.rise,bd:=h.bd,full:=h.full,size:=h.size,reach:=h.reach }
theorem i8{b:A1}{Q:Bool->A2->Prop}(hu:A.units<cLine)(hS:Tu prog w s.heap a zs)(J:IsTupleKey (bD prog w) s.heap ks b)(hx:EQ ks)(d1:zs.length+1<=70)(h:∀r h' K,Heap.SameBut a s.heap h'->Tu prog w h' a K->(∀z,z∈K↔z∈zs\/(z=(ks,b)/\ks∉zs.map (·.1)))->K.length<=zs.length+1->Q r { s with heap:=h' }):A7 (A8 prog w) A (setAddHashed a (.ref b) (c7 prog w ks)) Q E s:=by
 obtain⟨o,es,ep,t,y,M,hd,x⟩:=id hS;have d3:=x.size;have a5:=x.tok.fits;have a2:=x.load;have b9:o.cls≠.type "tuple":=by rw[M.1];decide
 obtain⟨N,B,n2,n3⟩:=Ws x.tok.toTb (c7 prog w ks);have d2:10*SetTable.turns t.mask<100000:=by
  unfold SetTable.turns;rcases x.tok.mask with e|e|e<;>rw[e]<;>decide
 unfold setAddHashed setAddHashedIn;refine QR (zd (Q4 y hd a5 ?_));dsimp only;have hb:byScan (.ref b) es=false:=by unfold byScan;rfl
 rw[hb];simp only[zt,Z3];unfold setSearch;refine zd (EM hu y hd x J B n2 n3 (λn=>?_) (λn=>?_) N 0 100000 U (by omega) (by omega) S λm n=>absurd n (kM _))
 ·dsimp only;exact zg (h _ s.heap zs (Heap.SameBut.refl a s.heap) hS (λz=>⟨.inl,λq=>q.elim id λq=>absurd n q.2⟩) (JU _))
 ·dsimp only;refine zd (Q4 y hd a5 ?_);dsimp only;have hj:=Wt (mask:=t.mask) (c7 prog w ks) N;have c0:es.size+1<=t.mask:=by rcases x.tok.mask with e|e|e<;>rw[e]at a2 ⊢<;>omega
  obtain⟨pt,pl,pp,X⟩:=az (x:=.ref b) x.tok B n2 n3 hj c0;generalize hP:t.put (jd t.mask (c7 prog w ks) N).j=P at pt pl pp X ⊢;obtain⟨t1,p⟩:=P;dsimp only at pt pl pp X ⊢;have c6:(SetTable.insertAt es p (c7 prog w ks,.ref b)).toList.Perm (es.toList++[(c7 prog w ks,.ref b)]):=by
   rw[BX];refine(List.perm_middle).trans ?_;rw[List.take_append_drop];exact(List.perm_append_singleton _ _).symm
  have r0:AI (TE prog w s.heap) (zs++[(ks,b)]) (es.toList++[(c7 prog w ks,.ref b)]):=Wn x.rel (.cons ⟨rfl,J⟩ .nil);obtain⟨G,q1,r1⟩:=FT c6 r0;have a4:(G.map (·.1)).Nodup:=(q1.map (·.1)).nodup_iff.mpr (by
   rw[ZT];exact List.nodup_append.mpr ⟨x.nd,by simp,λu c3 v hv=>by simp at hv;subst hv;exact λe=>n (e▸c3)⟩)
  have m1:∀z,z∈G↔z∈zs\/(z=(ks,b)/\ks∉zs.map (·.1)):=λz=>by
   rw[q1.mem_iff,List.mem_append,List.mem_singleton];exact⟨λq=>q.imp id λe=>⟨e,n⟩,λq=>q.imp id λe=>e.1⟩
  have l1:G.length=zs.length+1:=by rw[q1.length_eq];simp
  have l:(SetTable.insertAt es p (c7 prog w ks,Value.ref b)).size=es.size+1:=yc _ _ _;have up:∀(hp:A6) (H:AE) (e1 e2:Array (Int×A0)) (B:Nat) (u1 f:SetTable),hp.get? a=Z H->H.data=.set e1 B u1->(hp.update a (Obj.putSet e2 f)).get? a=Z { H with data:=.set e2 (B+1) f }:=λhp H e1 e2 B u1 f g q=>by
   have:=ya (Obj.putSet e2 f) g (by rw[putSet_of e2 f q];rfl);rw[putSet_of e2 f q]at this;exact this
  have kp:∀{h':A6},Heap.SameBut a s.heap h'->∀c D,s.heap.get? c=Z D->D.cls=.type "tuple" → h'.get? c=Z D:=λsb c D e ec=>by
   rw[sb.2 c λq=>by subst q;rw[y]at e;cases e;exact b9 ec];exact e
  have b4:∀t2:SetTable,Tok t2 (SetTable.insertAt es p (c7 prog w ks,.ref b))->t2.led=t1.led->t2.plain=false->t2.mask=t1.mask->A7 (A8 prog w) A (do
    storeSet a (SetTable.insertAt es p (c7 prog w ks,.ref b)) t2
    if(!false&&t2.tooFull)=true then setRelay a (SetTable.grown (es.size+1))
    pure true) Q E s:=by
   intro t2 F l2 p2 m2;have g1:=up s.heap o es (SetTable.insertAt es p (c7 prog w ks,.ref b)) ep t t2 y hd;refine zd (wpAny_storeSet_of y hd ?_ (fits_of_scanBound (by rw[l];have:scanBound=4096:=rfl;omega)));have W:Heap.SameBut a s.heap (s.heap.update a (Obj.putSet (SetTable.insertAt es p (c7 prog w ks,.ref b)) t2)):=Heap.SameBut.update ..;have b0:t2.fill=es.size+1:=by unfold SetTable.fill;rw[F.dum,F.size,l];rfl
   have a3:w.params.followText "set-order"=false->t2.led=true:=λq=>l2.trans (pl.trans (x.led q));by_cases d:t2.tooFull=true
   ·rw[d];simp only[k6,Bool.and_self,qV];have hf:t2.fill*5>=t2.mask*3:=by unfold SetTable.tooFull at d;simpa using d
    rw[b0,m2,X]at hf;have hg:SetTable.grown (es.size+1)=(es.size+1)*4:=by unfold SetTable.grown;rw[zD (by omega)]
    have b3:(es.size=4/\t.mask=7)\/(es.size=18/\t.mask=31):=by
     rcases x.tok.mask with e|e|e<;>rw[e]at hf a2
     ·exact .inl ⟨by omega,e⟩
     ·exact .inr ⟨by omega,e⟩
     ·omega
    have I:(es.size=4->SetTable.sizeAbove (SetTable.grown (es.size+1))=32)/\(es.size=18->SetTable.sizeAbove (SetTable.grown (es.size+1))=128):=by
     rw[hg];exact⟨λe=>by rw[e];decide,λe=>by rw[e];decide⟩
    have a0:SetTable.sizeAbove (SetTable.grown (es.size+1))-1=31/\es.size=4\/SetTable.sizeAbove (SetTable.grown (es.size+1))-1=127/\es.size=18:=by
     rcases b3 with⟨e,_⟩|⟨e,_⟩
     ·exact .inl ⟨by rw[I.1 e],e⟩
     ·exact .inr ⟨by rw[I.2 e],e⟩
    obtain⟨t3,C,e3,a1,k3,l3,p3,m3⟩:=Ta (t:=t2) (es:=SetTable.insertAt es p (c7 prog w ks,.ref b)) (wanted:=SetTable.grown (es.size+1)) (by rcases a0 with⟨e,_⟩|⟨e,_⟩<;>rw[e]<;>simp) (by rw[l];rcases a0 with⟨e,e'⟩|⟨e,e'⟩<;>rw[e,e']<;>decide);unfold setRelay;refine zd (zd (Q4 g1 S F.fits ?_));dsimp only;have d0:¬ (SetTable.sizeAbove (SetTable.grown (es.size+1))>AA):=by
     rcases b3 with⟨e,_⟩|⟨e,_⟩
     ·rw[I.1 e];decide
     ·rw[I.2 e];decide
    rw[zD d0];have L:(C.filterMap (λi=>(SetTable.insertAt es p (c7 prog w ks,Value.ref b))[i]?)).size=(SetTable.insertAt es p (c7 prog w ks,Value.ref b)).size:=by
     rw[<-qA,a1.length_eq,qA]
    rw[e3];refine zd ?_;show A7 _ _ (if((C.filterMap (λi=>(SetTable.insertAt es p (c7 prog w ks,Value.ref b))[i]?)).size !=(SetTable.insertAt es p (c7 prog w ks,Value.ref b)).size)=true then _ else pure (C.filterMap (λi=>(SetTable.insertAt es p (c7 prog w ks,Value.ref b))[i]?),t3)) _ _ _;rw[zD (by rw[L];simp)];refine zg ?_;dsimp only;refine wpAny_storeSet_of g1 S ?_ (fits_of_scanBound (by rw[L,l];have:scanBound=4096:=rfl;omega));have g2:=up _ _ (SetTable.insertAt es p (c7 prog w ks,.ref b)) (C.filterMap (λi=>(SetTable.insertAt es p (c7 prog w ks,Value.ref b))[i]?)) _ t2 t3 g1 rfl;have a8:Heap.SameBut a s.heap ((s.heap.update a (Obj.putSet (SetTable.insertAt es p (c7 prog w ks,.ref b)) t2)).update a (Obj.putSet (C.filterMap (λi=>(SetTable.insertAt es p (c7 prog w ks,Value.ref b))[i]?)) t3)):=W.trans (Heap.SameBut.update ..);obtain⟨c8,q2,r2⟩:=FT a1 r1;refine zg (h _ _ c8 a8 ⟨_,_,_,t3,g2,M,rfl,⟨Tz (kp a8) r2,(q2.map (·.1)).nodup_iff.mpr a4,k3,?_,λq=>l3.trans (a3 q),λ_=>p3.trans p2⟩⟩ (λz=>by rw[q2.mem_iff];exact m1 z) (by rw[q2.length_eq];omega));rw[L,l,m3];rcases a0 with⟨e,e'⟩|⟨e,e'⟩<;>rw[e,e']<;>decide
   ·have d:t2.tooFull=false:=by simpa using d
    rw[d];simp only[yA,zt,Z3];refine zd (zg ?_);refine zg (h _ _ G W ⟨_,_,_,t2,g1,M,rfl,⟨Tz (kp W) r1,a4,F,?_,a3,λ_=>p2⟩⟩ m1 (by omega));unfold SetTable.tooFull at d;rw[b0]at d;rw[l];simpa using d
  split
  ·refine zd (WU J hx ?_);simp only[zt,Z3];exact b4 { t1 with plain:=false } (dr pt) S S rfl
  ·rename_i hp;refine zd (zg ?_);simp only[qV];exact b4 t1 pt S (by simpa using hp) rfl
end S6
namespace S1
open L2
theorem Wv{x:A0}(G:O A0->Prop)(kd:SortKind)(rk:O A0->A0->Nat){Q:B7}(t:∀(b:B7) (j:O A0->A2->Prop),(∀vs h' d tk,G vs->s.heap.objs.size<=h'.objs.size->(∀c o,s.heap.get? c=Z o->h'.get? c=Z o)->j vs { s with heap:=h',drawn:=d,toks:=tk })->A7 (A8 prog w) A.in1 (collect x) j b s)
  (u:∀vs,G vs->2<=vs.length->∀(b:B7) (g:A5) (s':A2),(∀c o,s.heap.get? c=Z o->s'.heap.get? c=Z o)->∀Q:SortKind->A2->Prop,Q kd s'->A7 (A8 prog w) g (keyKind' vs.toArray) Q b s') (v:∀vs,G vs->∀(g:A5) (s':A2),(∀c o,s.heap.get? c=Z o->s'.heap.get? c=Z o)->CL prog w g s' kd (rk vs) (pairsOf vs)) (i:∀vs,G vs->vs.length<64)
  (h:∀vs,G vs->∀(l:A1) (h':A6) (d:Drawn) (tk n:Nat) (st:SortSt),(AM st).Perm (pairsOf vs)->Up (rk vs) (AM st) (pairsOf vs).size->s.heap.objs.size<=l->(∀c o,s.heap.get? c=Z o->h'.get? c=Z o)->h'.get? l=Z (seqObj "list" ((AM st).map (·.2)) n)->Q (.ref l) { s with heap:=h',drawn:=d,toks:=tk }):
  A7 (A8 prog w) A (call (.builtin "sorted") [x]) Q E s:=by
 refine Calls.call_function_entry kind_sorted plain_sorted entry_sorted (args_sorted1 _) ?_;unfold Builtin.«sorted»;refine zd (m:=checkCount "sorted" 1 1 _) (zg (zd (t _ _ λvs h1 d tk a y ext=>?_)));have z:=i vs a;refine zd (wpAny_newList ?_);have f:(h1.push (seqObj "list" vs.toArray 0)).get? h1.objs.size=Z (seqObj "list" vs.toArray 0):=zv _ rfl;have old:∀s':A2,F1 h1.objs.size { s with heap:=h1.push (seqObj "list" vs.toArray 0),drawn:=d,toks:=tk } s'->∀c o,s.heap.get? c=Z o->s'.heap.get? c=Z o:=λs' q c o e=>
  q c o (z4 (zw (ext c o e))) (ze _ (ext c o e))
 refine zd (QR (kK slot_list_sort ⟨_,f,rfl⟩ entry_list_sort (MY f (λq s' o=>u vs a q _ _ s' (old s' o)) (λs' o=>v vs a _ s' (old s' o)) (i vs a) λst q1 q2=>⟨_,rfl,zg ⟨_,rfl,?_⟩⟩) (args_list_sort _)));obtain⟨n,p⟩:=sortedHeap_at (out:=(AM st).map (·.2)) f;refine h vs a h1.objs.size _ d tk n st q1 q2 y (λc o e=>?_) p;have hb:=zw (ext c o e);rw[sortedHeap_old (z4 hb) (by rw[qv];exact QE hb)];exact ze _ (ext c o e)
end S1
namespace P1
open L2 S6
section
theorem gc{d:Drawn}(I:AU X AN σ H s):AU X AN σ H { s with drawn:=d }:=⟨I.ok,I.os,I.bare,I.base,I.loc,I.cell,I.free,I.tB,I.pin,I.hok,I.len⟩
variable{fs:Ev->Y AZ}{p:Pos}
end
section
variable{xs:AZ}
end
section
variable{xs:AZ}
variable{fs:Ev->Y AZ}{p':Pos}
end
end P1
namespace P1
open L2 S1 S6
def Ts(prog:A3)(w:A4)(h:A6)(a:A1)(zs:O (O AY×A1)):Prop:=∃o es ep t,h.get? a=Z o/\o.ExactSet/\o.data=.set es ep t/\es.toList=zs.map (λz=>(c7 prog w z.1,(.ref z.2:A0)))/\t.fits es.size=true/\(w.params.followText "set-order"=false->t.led=true)/\(0<es.size->t.plain=false)
theorem TF{prog:A3}{w:A4}{h:A6}:∀{zs:O (O AY×A1)} {l:O (Int×A0)},AI (TE prog w h) zs l->l=zs.map (λz=>(c7 prog w z.1,(.ref z.2:A0)))
 |_,_,.nil=>rfl
 |_,_,.cons r t=>by rw[zl,<-TF t,r.1]
theorem Ts.of(x:Tu prog w h a zs):Ts prog w h a zs:=
 let ⟨o,es,ep,t,e,r,d,q⟩:=x;⟨o,es,ep,t,e,r,d,TF q.rel,q.tok.fits,q.led,q.non⟩
theorem Ts.keep{h':A6}(x:Ts prog w h a zs)(k:∀o,h.get? a=Z o->h'.get? a=Z o):Ts prog w h' a zs:=
 let ⟨o,es,ep,t,e,r⟩:=x;⟨o,es,ep,t,k o e,r⟩
def FB(X:Cx)(a:A1)(zs:O (O AY×A1)):HO:=.ext λh=>Ts X.prog X.w h a zs
theorem SD(X:Cx)(h:Ks ks us):ItemsAre (bD X.prog X.w) ks us:=by
 induction h with
 |nil=>exact .nil
 |cons r _ a=>exact .cons r a
theorem ac(X:Cx)(h:ItemsAre (bD X.prog X.w) ks us):Ks ks us:=by
 induction h with
 |nil=>exact .nil
 |cons r _ a=>exact .cons r a
theorem TJ(X:Cx){v:A0}(q:lX h ks v):∃b,v=.ref b/\IsTupleKey (bD X.prog X.w) h ks b:=by
 obtain⟨a,o,AQ,n,e,g,c,d,p⟩:=q;exact⟨a,e,o,AQ.toArray,n,g,c,d,by simpa using SD X p⟩
theorem hX(X:Cx){b:A1}(q:IsTupleKey (bD X.prog X.w) h ks b):lX h ks (.ref b):=by
 obtain⟨o,AQ,n,g,c,d,p⟩:=q;exact⟨b,o,AQ.toList,n,rfl,g,c,by simpa using d,ac X p⟩
def aE(X:Cx):O V->Hp->VK->Prop:=λxs H Q=>∃v b ds dG,xs=[v]/\bB X.K H b v/\Ab b=Z ds/\vN ds=Z dG/\dG.length<=64/\(∀k∈dG,EQ k) ∧
 ∀a zs H',AV H H'->H' a=Z (FB X a zs)->(∀k,k∈zs.map (·.1)↔k∈dG)->(zs.map (·.1)).Nodup->(∀z∈zs,AW X.K H' (BG z.1) (.ref z.2))->Q (.ref a) H'
def CU(X:Cx)(S:A1)(AQ:O A0)(h:A6)(ys:O (O AY)):Prop:=∃zs,zs.map (·.1)=ys/\Tu X.prog X.w h S zs/\∀z∈zs,(.ref z.2:A0)∈AQ
theorem Cd{h:A6}:∀{dG:O (O AY)} {vs:O A0},AI (lX h) dG vs->∀{i:Nat} {v:A0},vs[i]?=Z v->∃k,dG[i]?=Z k/\lX h k v
 |_,_,.nil,i,v,q=>by simp at q
 |_,_,.cons r _,0,v,q=>by simp at q;subst q;exact⟨_,rfl,r⟩
 |_,_,.cons _ t,i+1,v,q=>by
  rw[qa]at q;obtain⟨z,z1,z2⟩:=Cd t q;exact⟨z,by rw[qa];exact z1,z2⟩
theorem TQ{h0:A6}{S:A1}(hs:AI (lX h0) dG AQ)(hl:dG.length<=64)(hx:∀k∈dG,EQ k)(B:h0.objs.size=S):EL X.prog X.w S [S+1] (λh zs=>(∀b o,h0.get? b=Z o->h.get? b=Z o)/\CU X S AQ h zs) (λi v=>AQ.toArray[i]?=Z v) (λi=>dG.getD i []) AQ.length where
 keep:=λh h' ys t k=>by
  obtain⟨n,zs,e,t,m⟩:=t;have u:∀b o,(b=S\/b<S)->h.get? b=Z o->h'.get? b=Z o:=λb o hb e=>k b o (by
   simp only[jv,JI,or_false];rcases hb with rfl|hb
   ·exact z4 (qc _)
   ·exact z4 (QE hb)) e
  have old:∀b o,h0.get? b=Z o->h'.get? b=Z o:=λb o e=>u b o (.inr (by rw[<-B];exact zw e)) (n b o e);refine⟨old,zs,e,?_,m⟩;obtain⟨o,es,ep,K,g,r,d,q⟩:=t;refine⟨o,es,ep,K,u S o (.inl rfl) g,r,d,⟨?_,q.nd,q.tok,q.load,q.led,q.non⟩⟩;have L:∀{zs:O (O AY×A1)} {l:O (Int×A0)},AI (TE X.prog X.w h) zs l->(∀z∈zs,(.ref z.2:A0)∈AQ)->AI (TE X.prog X.w h') zs l:=by
   intro zs l r
   induction r with
   |nil=>intro _;exact .nil
   |cons q _ N=>
    intro m;refine .cons ⟨q.1,Yo q.2 λo e c=>?_⟩ (N λz p=>m z (zi _ p));obtain⟨i,hi,M⟩:=QY (m _ (zh ..));obtain⟨kk,_,tv⟩:=Cd hs (show AQ[i]?=Z _ by rw[Zl hi,M]);obtain⟨b,eb,⟨ob,_,_,gb,_⟩⟩:=TJ X tv;cases eb;exact u _ o (.inr (by rw[<-B];exact zw gb)) e
  exact L q.rel m
 add:=λA E s i v ys Q F hi j W p h=>by
  obtain⟨n,zs,e,t,m⟩:=W;have j:AQ[i]?=Z v:=by simpa using j
  obtain⟨ks,e1,tv⟩:=Cd hs j;have J:=tv.keep n;obtain⟨b,rfl,C⟩:=TJ X J;have P:dG.getD i []=ks:=by simp[List.getD,e1]
  have a1:AQ.length=dG.length:=hs.length.symm;have a0:zs.length=ys.length:=by rw[<-e,zk]
  unfold setAdd;refine QR (zd (wpAny_pyHash_tuple F C ?_));refine i8 (s:={ s with toks:=s.toks+(ks.length+1) }) F t C (hx ks (QO e1)) (by omega) λr h' D G I a l=>?_;refine h r h' _ (D.map (·.1)) G ⟨λc o g=>?_,D,rfl,I,λz p=>?_⟩ (λz=>?_) (by rw[zk];omega) (Nat.le_add_right _ _)
  ·rw[G.2 c λq=>by subst q;have:=zw g;rw[B]at this;exact kg _ this];exact n c o g
  ·rcases(a z).mp p with q|⟨q,_⟩
   ·exact m z q
   ·subst q;exact QO j
  ·rw[P,<-e,KO,KO];constructor
   ·rintro⟨y,f,rfl⟩;rcases(a y).mp f with q|⟨q,_⟩
    ·exact .inl ⟨y,q,rfl⟩
    ·exact .inr (congrArg Prod.fst q)
   ·rintro(⟨y,f,x⟩|H)
    ·exact⟨y,(a y).mpr (.inl f),x⟩
    ·rw[H];by_cases q:ks∈zs.map (·.1)
     ·obtain⟨y,f,x⟩:=List.mem_map.mp q;exact⟨y,(a y).mpr (.inl f),x⟩
     ·exact⟨(ks,b),(a _).mpr (.inr ⟨rfl,q⟩),rfl⟩
theorem fR(hc:X.calm=true)(hu:X.A.units+100<cLine):jL X (.type "set") (aE X):=by
 intro AN s σ H xs us Q I r h;obtain⟨v,b,ds,dG,rfl,rb,ed,ek,hl,hx,q⟩:=h;obtain⟨u,rfl,ru⟩:=BC r;obtain⟨p,vs,rfl,sq,D⟩:=Qv rb ed;have b0:=Eb ek;subst b0;cases ru;have hh:=I.ok.hd hc;have a8:∀(h':A6) (tk:Nat) (ys:O (O AY)) (AQ:O A0),AX vs AQ->((∀b o,s.heap.get? b=Z o->h'.get? b=Z o)/\CU X s.heap.objs.size AQ h' ys)->(∀z,z∈ys↔∃j,j<AQ.length/\z=dG.getD j [])->(∀b F,s.heap.get? b=Z F->h'.get? b=Z F)->EP X AN σ Q (.ref s.heap.objs.size) { s with heap:=h',toks:=tk }:=by
  intro h' tk ys AQ W cu C k;obtain⟨_,zs,e,t,m⟩:=cu;have a5:=I.hok.fresh (zo s.heap.objs.size);have a2:AQ.length=dG.length:=by rw[<-W.length,D.length,zk]
  have tv:=tO I D W;refine⟨.ref s.heap.objs.size,_,I.laid (t':=tk) (a:=s.heap.objs.size) (o:=FB X s.heap.objs.size zs) k (zo _) ?_,rfl,q _ zs _ (cH a5) bK (λz=>?_) ?_ λz l=>?_⟩
  ·obtain⟨o,es,ep,t',M,_⟩:=id t;exact⟨Ts.of t,⟨o,M⟩,λh1 h2 t1 k1=>Ts.keep t1 k1⟩
  ·rw[e,C z];constructor
   ·rintro⟨j,f,rfl⟩;rw[a2]at f;simp[List.getD,f]
   ·intro l;obtain⟨j,f,e⟩:=QY l;exact⟨j,by rw[a2];exact f,by simp[List.getD,f,e]⟩
  ·obtain⟨o,es,ep,t',M,_,_,x⟩:=t;exact x.nd
  ·obtain⟨o,es,ep,t',M,_,_,x⟩:=t;obtain⟨i,hi,ei⟩:=QY l;obtain⟨ee,_,te⟩:=BZ x.rel (show zs[i]?=Z z by rw[Zl hi,ei]);have tz:=hX X te.2;have a3:=m z l;obtain⟨j,f,ej⟩:=QY a3;obtain⟨kk,_,a1⟩:=Cd tv (show AQ[j]?=Z (.ref z.2) by rw[Zl f,ej]);have ek:kk=z.1:=(a1.keep k).inj tz;obtain⟨w1,N,r2⟩:=Ed I D W (lss:=[kk]) (out:=[.ref z.2]) (.cons a1 .nil) (λu hu=>by cases List.mem_singleton.mp hu;exact a3);cases N with
   |@cons w0 _ _ _ r0 N=>
    cases N;simp only[zl,JO,aQ]at r2;obtain⟨v0,B,ev,L,_⟩:=r2;simp only[ky]at ev;rw[<-ev.1]at L;have hw:w0=V.ref z.2:=by
     have q1:=L;simp only[BG,AW]at q1;obtain⟨a0,ws,e0,_⟩:=q1;subst e0;cases r0;rfl
    rw[<-ek,<-hw];exact L.kp (.of (cH a5))
 have a4:∀h':A6,h'.get? s.heap.objs.size=Z (BS X.w)->∀AQ:O A0,CU X s.heap.objs.size AQ h' []:=λh' e AQ=>
  ⟨[],rfl,⟨_,#[],0,_,e,⟨rfl,rfl,rfl⟩,rfl,⟨.nil,Jn,{ mask:=.inl rfl,dum:=rfl,rise:=λi j _ f=>absurd f (kM _),bd:=λj f=>by simp[SetTable.fresh]at f,full:=QU _,size:=rfl,reach:=λi j e h1=>by simp[SetTable.fresh]at h1 },(show 0*5<7*3 by decide),λq=>by simp[SetTable.fresh,q],λq=>absurd q (kg _)⟩⟩,λz l=>by cases l⟩
 rcases sq with sq|sq
 ·obtain⟨AQ,B,pl,l⟩:=I.list sq;obtain⟨o,g,c,n,d⟩:=pl.isList;refine MM (by omega) (T :="list") hh g c (.inl S) (P:=λi v=>AQ.toArray[i]?=Z v) (n:=AQ.length) (λK E' Q' h0 E y J=>?_) (TQ (tO I D B) hl hx S) (λh' e k=>⟨k,a4 h' e AQ⟩) λh' tk zs tx C k=>a8 h' tk zs AQ B tx C k;refine wpAny_pyIter_list (items:=AQ.toArray) ⟨o,y _ _ g,c,n,d⟩ ?_;have G:p≠h0.objs.size:=z4 (zw (y _ _ g));refine J _ (λi h=>h.IsListIter h0.objs.size p i/\h.IsList p AQ.toArray) (λK E=>by have:=Walks.list (prog:=X.prog) (w:=X.w) E h0.objs.size p G AQ.toArray;rw[zI]at this;exact this) ⟨⟨_,zv _ rfl,rfl,rfl⟩,⟨o,ze _ (y _ _ g),c,n,d⟩⟩ λb F e=>ze _ e
 ·obtain⟨AQ,B,pl,l⟩:=I.tuple sq;obtain⟨o,g,c,n,d⟩:=id pl;refine MM (by omega) (T :="tuple") hh g c (.inr S) (P:=λi v=>AQ.toArray[i]?=Z v) (n:=AQ.length) (λK E' Q' h0 E y J=>?_) (TQ (tO I D B) hl hx S) (λh' e k=>⟨k,a4 h' e AQ⟩) λh' tk zs tx C k=>a8 h' tk zs AQ B tx C k;refine wpAny_pyIter_tuple (items:=AQ.toArray) ⟨o,y _ _ g,c,n,d⟩ ?_;have G:p≠h0.objs.size:=z4 (zw (y _ _ g));refine J _ (λi h=>h.IsTupleIter h0.objs.size p i/\h.IsTuple p AQ.toArray) (λK E=>by have:=Walks.tuple (prog:=X.prog) (w:=X.w) E h0.objs.size p G AQ.toArray;rw[zI]at this;exact this) ⟨⟨_,zv _ rfl,rfl,rfl⟩,⟨o,ze _ (y _ _ g),c,n,d⟩⟩ λb F e=>ze _ e
theorem UN(I:AU X AN σ H s)(h:H a=Z (FB X a zs)):Ts X.prog X.w s.heap a zs:=(I.hok _ _ h).1
def fN(X:Cx):O V->Hp->VK->Prop:=λxs H Q=>∃a zs,xs=[.ref a]/\H a=Z (FB X a zs)/\GK (zs.map (·.1))=true/\(∀z∈zs,AW X.K H (BG z.1) (.ref z.2))/\∀l H' us,AV H H'->H l=U->H' l=Z (.lst us)->aQ X.K H' ((nu (zs.map (·.1))).map BG) us->Q (.ref l) H'
theorem PU(hc:X.calm=true):jL X (.builtin "sorted") (fN X):=by
 intro AN s σ H xs us Q I r h;obtain⟨a,zs,rfl,ha,hs,A,q⟩:=h;obtain⟨u,rfl,ru⟩:=BC r;cases ru;simp only[GK,ZN,zC,qB,js]at hs;obtain⟨G,W,E⟩:=hs;rw[zk]at G;obtain⟨o,es,ep,t,ho,b0,hd,M,ft,b3,a0⟩:=UN I ha;have f:es.size=zs.length:=by rw[<-qA,M,zk]
 have wk:Wk X.w s.heap a es ep t:=⟨⟨o,ho,b0.1,hd⟩,ft,b3,λq=>a0 (by omega)⟩;have N:aQ X.K H ((zs.map (·.1)).map BG) (zs.map λz=>(V.ref z.2))/\AX (zs.map λz=>(V.ref z.2)) (zs.map λz=>(.ref z.2:A0)):=by
  clear M ha q G W E f wk a0
  induction zs with
  |nil=>exact⟨aQ.nil,.nil⟩
  |cons z zs x=>
   obtain⟨i1,i2⟩:=x λy hy=>A y (zi _ hy);exact⟨aQ.cons (A z (zh ..)) i1,.cons S i2⟩
 have b4:=tO I N.1 N.2;have tz:∀z∈zs,lX s.heap z.1 (.ref z.2):=λz i=>by
  have:=tO I (dG:=[z.1]) (vs:=[V.ref z.2]) (AQ:=[.ref z.2]) (aQ.cons (A z i) aQ.nil) (.cons S .nil);cases this with
  |cons q' _=>exact q'
 refine Wv (λvs=>∃ys:O (O AY×A1),ys.Perm zs/\vs=ys.map λz=>(.ref z.2:A0)) (tuples' true) (λvs v=>CC (vs.map λu=>BB (zs.map (·.1)) (zs.map λz=>(.ref z.2:A0)) u) (BB (vs.map λu=>BB (zs.map (·.1)) (zs.map λz=>(.ref z.2:A0)) u) vs v))
  (λE' Q' F=>Tp (by exact I.ok.hd hc) wk (by rw[f,sizeLine_eq];omega) λp h1 d tk hp c0 ext=>F p h1 d tk ?_ c0 ext) ?_ ?_ ?_ ?_
 ·rw[M,qh]at hp;have:∀{p vs:O A0},p.Perm vs->∀zs:O (O AY×A1),vs=zs.map (λz=>(.ref z.2:A0))->∃ys:O (O AY×A1),ys.Perm zs/\p=ys.map λz=>(.ref z.2:A0):=by
   intro p vs hp
   induction hp with
   |nil=>intro zs e;cases zs with|nil=>exact⟨[],.refl _,rfl⟩|cons _ _=>cases e
   |cons y _ x=>
    intro zs e;cases zs with
    |nil=>cases e
    |cons z zs=>
     rw[zl]at e;injection e with e1 e2;obtain⟨ys,p1,p2⟩:=x zs e2;exact⟨z::ys,p1.cons _,by rw[zl,e1,p2]⟩
   |swap y1 y2 l=>
    intro zs e
    match zs,e with
    |z1::z2::zs,e=>
     simp only[zl,ky]at e;exact⟨z2::z1::zs,List.Perm.swap _ _ _,by simp only[zl];rw[e.1,e.2.1,e.2.2]⟩
    |[_],e=>simp at e
    |[],e=>cases e
   |trans _ _ a3 a5=>
    intro zs e;obtain⟨ys,p1,p2⟩:=a5 zs e;obtain⟨us,q1,q2⟩:=a3 ys p2;exact⟨us,q1.trans p1,q2⟩
  exact this hp zs rfl
 all_goals
  intro vs hG;obtain⟨ys,py,rfl⟩:=hG;have hm:∀v∈(ys.map λz=>(.ref z.2:A0)),v∈(zs.map λz=>(.ref z.2:A0)):=λv L=>((py.map _).mem_iff).mp L;have a2:∀v∈(ys.map λz=>(.ref z.2:A0)),lX s.heap (BB (zs.map (·.1)) (zs.map λz=>(.ref z.2:A0)) v) v:=λv L=>(oR b4 v (hm v L)).2;have tv:=Ag a2;have a1:(ys.map λz=>(.ref z.2:A0)).map (λu=>BB (zs.map (·.1)) (zs.map λz=>(.ref z.2:A0)) u)=ys.map (·.1):=by
   rw[qh];refine Qr λz f=>?_;have i:=py.mem_iff.mp f;exact(a2 (.ref z.2) (List.mem_map.mpr ⟨z,f,rfl⟩)).inj (tz z i)
  have mk:∀k∈(ys.map λz=>(.ref z.2:A0)).map (λu=>BB (zs.map (·.1)) (zs.map λz=>(.ref z.2:A0)) u),k∈zs.map (·.1):=λk b=>by
   rw[a1]at b;exact((py.map _).mem_iff).mp b
 ·intro h2 E' A' s' k Q' F;exact Ob (Paired.imp' (λ_ _ z=>lX.keep z k) tv) (λk b=>by have:=W k (mk k b);cases k with|nil=>cases this|cons _ _=>exact List.cons_ne_nil _ _) (λk b l j=>Jx (E k (mk k b) l (mk l j))) (by omega) F
 ·intro A' s' k;exact Td (Paired.imp' (λ_ _ z=>lX.keep z k) tv) λk b l j=>Jx (E k (mk k b) l (mk l j))
 ·rw[zk,py.length_eq];exact G
 ·intro l h' d tk n st hp up j ext hL;have g:=Te tv hp up;have mem:∀u∈((AM st).map (·.2)).toList,u∈(ys.map λz=>(.ref z.2:A0)):=λu B=>by
   rw[Array.toList_map]at B;obtain⟨pr,b9,rfl⟩:=List.mem_map.mp B;have a8:pr∈(ys.map λz=>(.ref z.2:A0)).zip (ys.map λz=>(.ref z.2:A0)):=by rw[<-pairsOf_toList];exact(Array.perm_iff_toList_perm.mp hp).mem_iff.mp b9
   have:=mem_zip_self a8;rw[<-this.1];exact this.2
  have J:H l=U:=I.hok.fresh j;have back:∀{D:O (O AY)} {g:O A0},AI (lX s.heap) D g->(∀u∈g,u∈(ys.map λz=>(.ref z.2:A0)))->∃c,AX c g/\aQ X.K H (D.map BG) c:=by
   intro D g pr
   induction pr with
   |nil=>intro _;exact⟨[],.nil,aQ.nil⟩
   |cons q0 _ x=>
    intro P;obtain⟨c,C,m⟩:=x λu B=>P u (zi _ B);obtain⟨z,f,ez⟩:=List.mem_map.mp (P _ (zh ..));subst ez;have i:=py.mem_iff.mp f;have ek:=q0.inj (tz z i);refine⟨.ref z.2::c,.cons S C,?_⟩;rw[zl,ek];exact aQ.cons (A z i) m
  obtain⟨c,C,m⟩:=back g mem;rw[a1]at m;have es:nu (ys.map (·.1))=nu (zs.map (·.1)):=uY ((qj _).trans (py.map _)) (xX _);rw[es]at m;have a4:c.length=zs.length:=by rw[m.length,zk,(qj _).length_eq,zk]
  refine⟨.ref l,_,gc (d:=d) (I.laid (t':=tk) (a:=l) (o:=.lst c) ext j ⟨by rw[a4,sizeLine_eq];omega,_,n,C,?_⟩),rfl,q _ _ c (cH J) J bK (m.kp (.of (cH J)))⟩;rw[hL]
def Ly{α:Type}[DecidableEq α]:O α->O α
 |[]=>[]
 |y::ys=>if y∈ys then Ly ys else y::Ly ys
section
variable [DecidableEq α]
theorem tW:∀{ys:O α} {z:α},z∈Ly ys↔z∈ys
 |[],z=>by simp[Ly]
 |y::ys,z=>by
  unfold Ly;split
  ·rename_i h;rw[tW,jv];exact⟨.inr,λq=>q.elim (λe=>e▸h) id⟩
  ·rw[jv,jv,tW]
theorem JF:∀(ys:O α),(Ly ys).Nodup
 |[]=>Jn
 |y::ys=>by
  unfold Ly;split
  ·exact JF ys
  ·rename_i h;exact List.nodup_cons.mpr ⟨λq=>h (tW.mp q),JF ys⟩
theorem HS:∀(ys:O α),(Ly ys).length<=ys.length
 |[]=>zo _
 |y::ys=>by
  have:=HS ys;unfold Ly;split<;>simp<;>omega
theorem QF{β:Type}[DecidableEq β]{f:α->β}(hi:∀a b,f a=f b->a=b):∀(ys:O α),Ly (ys.map f)=(Ly ys).map f
 |[]=>rfl
 |y::ys=>by
  have c:f y∈ys.map f↔y∈ys:=⟨λq=>by obtain⟨z,d,e⟩:=List.mem_map.mp q;rw[<-hi _ _ e];exact d,λq=>List.mem_map.mpr ⟨y,q,rfl⟩⟩;rw[zl];unfold Ly;by_cases q:y∈ys
  ·rw[zr q,zr (c.mpr q),QF hi ys]
  ·rw[zD q,zD λh=>q (c.mp h),zl,QF hi ys]
end
section
def TV(ks:O AY):Bool:=ks.any λk=>k.isRight
theorem ck(h:TV ks=true):EQ ks:=by
 unfold TV at h;rw[ko]at h;obtain⟨k,a,e⟩:=h;cases k with
 |inl i=>cases e
 |inr x=>exact⟨x,a⟩
def tU(X:Cx)(f:Ev->Y (O (O AY))):L2.TE:=λσ H Q=>∃H0 ρ dG,bR X.K H0 H σ ρ/\f ρ=Z dG/\∀a zs H',AV H H'->H' a=Z (FB X a zs)->(∀k,k∈zs.map (·.1)↔k∈dG)->(zs.map (·.1)).Nodup->(∀z∈zs,AW X.K H' (BG z.1) (.ref z.2))->Q (.ref a) H'
def eP(X:Cx)(e:Expr)(f:Ev->Y (O (O AY))):Prop:=PE X e (tU X f)
structure NI (X:Cx) (e:Expr) (f:Ev->Option (List (List AY))):Prop where
 run:eP X e f
def NS(b:Bx):Y (O (O AY)):=(Ab b).bind λds=>(vN ds).bind λdG=>if dG.length<=64/\dG.all TV=true then Z dG else U
def Ww(f:Ev->Y Bx):Ev->Y (O (O AY)):=λρ=>(f ρ).bind NS
def JG(fs:Ev->Y (O (O AY))):Ev->Y Bx:=λρ=>(fs ρ).bind λdG=>if GK dG=true then Z (.o ((nu (Ly dG)).map BG))else U
variable{fs:Ev->Y (O (O AY))}{p:Pos}
theorem Yp(w:X.calm=true)(o:X.A.units+100<cLine)(g:Gl X "set")(t:X.mg "set"=U)(u:QV X e f)(he:A9 (e::[]) X.env=(false,eval e X.env)::A9 [] X.env:=by rfl):NI X (.Call (.Name "set" p) [e] [] pos) (Ww f):=by
 refine⟨Li (Nr (T :="set") (fR w o) g t S (tD u.run Du he) (he:=he)) λσ H Q h=>?_⟩;obtain⟨H0,ρ,dG,E,c,q⟩:=h;obtain⟨b,eb,c⟩:=AT c;obtain⟨ds,l,c⟩:=AT c;obtain⟨z,ek,c⟩:=AT c;split at c
 ·rename_i d;cases c;rw[qB]at d;exact⟨H0,ρ,b,E,eb,λv H1 j y n=>⟨v,b,ds,dG,rfl,n,l,ek,d.1,λk i=>ck (d.2 k i),λa zs H2 x e2 m nd s=>q a zs H2 (j.trans x) e2 m nd s⟩⟩
 ·cases c
theorem WZ{lss:O (O AY)}(h:GK dG=true)(d:lss.length<=dG.length)(b:∀k∈lss,k∈dG):GK lss=true:=by
 simp only[GK,ZN,zC,qB,js]at h ⊢;exact⟨by omega,λk a=>h.2.1 k (b k a),λk a l c=>h.2.2 k (b k a) l (b l c)⟩
theorem Yq(v:X.calm=true)(g:Gl X "sorted")(t:X.mg "sorted"=U)(u:NI X e fs)(he:A9 (e::[]) X.env=(false,eval e X.env)::A9 [] X.env:=by rfl):QV X (.Call (.Name "sorted" p) [e] [] pos) (JG fs):=by
 refine⟨Li (R0 (id :="sorted") (PU v) g t S (tD u.run Du he) (he:=he)) λσ H Q h=>?_⟩;obtain⟨H0,ρ,b,E,c,q⟩:=h;obtain⟨dG,o,c⟩:=AT c;split at c
 ·rename_i i;cases c;refine⟨H0,ρ,dG,E,o,λa zs H1 f e1 m nd w=>⟨a,zs,rfl,e1,?_,w,λl H2 us x n e2 d=>?_⟩⟩
  ·have e3:=(HJ nd (JF dG) λz=>by rw[m z,tW]).length_eq;have:=HS dG;exact WZ i (by omega) λk j=>(m k).mp j
  ·have s:=HJ nd (JF dG) λz=>by rw[m z,tW]
   have es:nu (zs.map (·.1))=nu (Ly dG):=uY ((qj _).trans s) (xX _);rw[es]at d;exact q _ H2 (f.trans x) (λa ea=>by cases ea;exact f.free n) ⟨l,us,rfl,e2,d⟩
 ·cases c
end
end P1
namespace P1
open L2
def Ce:Bx->Bx->Y Bx
 |.z (.str k),.z d=>Z (.z (.tup [.str k,d]))
 |_,_=>U
theorem Wx{a:Bx}{y:Dt}(h:Ce a b=Z (.z y)):∃k d,a=.z (.str k)/\b=.z d/\y=.tup [.str k,d]:=by
 unfold Ce at h;split at h
 ·cases h;exact⟨_,_,rfl,rfl,rfl⟩
 ·cases h
def IQ(AO:O (AY×Dt)):Dt->O (AY×Dt)
 |.tup [.str k,d]=>Qp AO (.inr k) d
 |_=>AO
def dictOf(out:O Dt):O (AY×Dt):=out.foldl IQ []
theorem TX(out:O Dt)(k:AJ)(d:Dt):dictOf (out++[.tup [.str k,d]])=Qp (dictOf out) (.inr k) d:=by
 unfold dictOf;rw[List.foldl_append];rfl
theorem iA{AO:O (AY×V)}{k:AY}{r:A0}{Q:Unit->A2->Prop}(I:L2.AU X AN σ H s)(e:H a=Z (.dK AO))(l:AO.length<AA)(d:Au (kV k) u)(m:Au v r)(h:∀s',L2.AU X AN σ (B4 H a (.dK (BA AO k v))) s'->Q () s'):
  A7 (A8 X.prog X.w) A (dictSet a u r) Q E s:=by
 obtain⟨z,hd,vs,c,g⟩:=IG I.hok e;have j:vs.length<=AA:=by rw[<-c.length];exact z
 have f:(BA AO k v).length<=AA:=by have:=qe AO k v;omega
 refine wpAny_dictSet_pairs (hsz:=j) (Iw d) g λh' b hs=>h _ ?_;have i:∃q,h'.get? a=Z q:=let ⟨q,_,_,hq,_⟩:=b;⟨q,hq⟩;exact Ht I (by rw[e];exact True.intro) hs i (VJ f hd (c.put k m) b)
section
variable{kx vx:Expr}{xs:AZ}
def CH(K:B1)(_:A1)(H:Hp)(o1:O Dt)(o:HO):Prop:=∃us,o=.dK us/\gn K H (dictOf o1) us/\us.length<=o1.length
theorem CH.kp{K:B1}{D:A1}{H H':Hp}{o1:O Dt}{o:HO}(k:Kp H H'):CH K D H o1 o->CH K D H' o1 o:=λ⟨us,e,r,z⟩=>⟨us,e,r.kp k,z⟩
theorem Yr(q:PV X kx fk)(J:PV X vx fv):V4 X (λD env=>do let f <-eval kx env;let vv <-holding [f] (eval vx env);standAt { kx.pos with endLine:=vx.pos.endLine,endCol:=vx.pos.endCol };holding [f,vv] (dictSet D f vv)) (V5 (b2 Ce fk fv)) (CH X.K) 999 n:=by
 refine OK λAN s σ H H0 ρ D o o1 ys I En eb hD ⟨us,e,r4,hl⟩ hi=>?_;subst e;obtain⟨b,e0,e1⟩:=AT eb;obtain⟨y,rfl,rfl⟩:=DN e1;obtain⟨bk,L,eb⟩:=AT e0;obtain⟨W,C,eb⟩:=AT eb;obtain⟨c,F,rfl,rfl,rfl⟩:=Wx eb;refine zd (QA (q AN s σ H (λv a=>AV H a/\bB X.K a (.z (.str c)) v) I ⟨H0,ρ,_,En,L,λv a g _ d=>⟨g,d⟩⟩) (λf N h=>?_) λ_ _ z=>z);obtain⟨w,p,M,rk,l,P⟩:=h;refine zd (QR (QA (J AN N σ p (λv a=>AV p a/\AW X.K a F v) M ⟨H0,ρ,_,En.grow l,C,λv a g _ d=>⟨g,d⟩⟩) (λv g h=>?_) λ_ _ z=>z));obtain⟨i,a,E,u,A,d⟩:=h;have j:=l.trans A;have m:a D=Z (.dK us):=j _ _ hD;obtain⟨rfl,G⟩:w=.str c/\c.length<=AA:=by simpa only[bB,AW]using P
 have kp:Kp a (B4 a D (.dK (BA us (Sum.inr c) i))):=.dk m;refine zd (Kk (QR ?_));simp only[List.length_singleton]at hi;refine iA E m (by have:(1000:Nat)<AA:=(by decide);omega) (k:=Sum.inr c) rk u λQ t=>?_;have B:=((r4.kp (.of j)).put (x:=Sum.inr c) d G).kp kp;exact⟨a,_,t,j,kp,BA us (Sum.inr c) i,rfl,by rw[TX];exact B,by have:=qe us (Sum.inr c) i;simp;omega⟩
def Ys(fi:Ev->Y (O Dt))(gt:Dt->Ev->Y Ev)(p:Ev->Y Bool)(fk fv:Ev->Y Bx)(is:O Nat)(n:Nat):Ev->Y Bx:=λρ=>(fi ρ).bind λds=>
 if ds.length<1000 then(Fy gt p (b2 Ce fk fv) (lW is ρ++List.replicate n U) ds).bind λa=>Z (.m (dictOf a) U)else U
theorem WI(hu:X.A.units+100<cLine)(ts:AZ)(O:uD X scope cl xs is)(a0:X.calm=true)(hi:EK X tgt iter fi)
  (Nz:∀C c d fp,CO (zM X (xs++ts) scope cl C c d fp) tgt gt) (G:∀C c d fp,xq (zM X (xs++ts) scope cl C c d fp) ifs p) (a1:∀C c d fp,QV (zM X (xs++ts) scope cl C c d fp) kx fk) (z:∀C c d fp,QV (zM X (xs++ts) scope cl C c d fp) vx fv) (W:ZL is.length (is.length+ts.length) gt)
  (hs:∀x,foldedSetIterable iter X.env x=pure x:=by intro _;rfl):QV X (.DictComp kx vx [⟨tgt,iter,ifs,0⟩] scope pos) (Ys fi gt p fk fv is ts.length):=⟨λAN s σ H Q I h=>by
 obtain⟨H0,ρ,b,E,e,q⟩:=h;obtain⟨ds,ed,e⟩:=AT e;split at e
 ·rename_i a3;obtain⟨a5,g,e⟩:=AT e;cases e;rw[arm_eval_DictComp];refine JP (use:=U) S hs O.clos O.kind O.names ?_;refine jc (hi.run AN s σ H (λJ H'=>AV H H'/\B0 X.K J ds H') I ⟨H0,ρ,ds,E,ed,λJ H' s' y=>⟨s',y⟩⟩) λv s1 h1=>jc h1 λa4 t h2=>?_;obtain⟨it,fp,tn,J,H2,rfl,i,T,st,F,f,Y⟩:=h2;refine yV (B:=Bq) (Ac:=CH X.K) (O0:=.dK []) (N:=999) (RR:=λa2 C=>compPost (A8 X.prog X.w) X.A X.xe U (EP X AN σ Q) a2 C) (ts:=ts) (xs:=xs) O a0 (λC c d fp=>(Nz C c d fp).run) (λC c d fp=>(G C c d fp).run) (λC c d fp=>Yr (a1 C c d fp).run (z C c d fp).run) W (Nat.le_add_right ..) i ((E.grow f).caps is ts.length) (Fz T) st F Y g (ZO (yU g) (Nat.le_of_lt_succ a3)) ?_
   qi (λ_=>Bj t.heap i.big) (λ_=>⟨[],rfl,gn.nil,zo _⟩) CH.kp (λ_ _ _=>S) codeAny_compStart_dict λh=>h
  rintro D C s' H' o hD u l ⟨m,j⟩ n P ⟨us,rfl,rm,_⟩;refine⟨m,j,λh' M=>⟨.ref D,H',?_,rfl,q (.ref D) H' (f.trans n) (λa ea=>by cases ea;exact f.free hD) ⟨D,us,rfl,P,rm,λb hb=>by cases hb⟩⟩⟩;obtain⟨f0,f1,f2,f3,L,f5⟩:=l;exact u.turned (t':=s'.toks) (λb o hb e=>(M.2 b hb).trans e) f0 f1 f3 L f5
 ·cases e⟩
end
section
variable{ks:O (AY×V)}{o:AE}
theorem TY(hb:∀f u,X.H₀ a≠Z (.ux f u))(I:L2.AU X AN σ H s)(e:H a=Z (.ux o (.dK ks))):L2.AU X AN σ (B4 H a (.dK ks)) s:=by
 have g:∀{b:A1} {u:HO},H b=Z u->u≠.ux o (.dK ks)->b≠a:=λq n z=>by subst z;rw[e]at q;cases q;exact n rfl
 have h:∀{b:A1},H b=U->b≠a:=λq z=>by subst z;rw[e]at q;cases q
 refine⟨I.ok,I.os,I.bare,⟨I.base.keep,I.base.slot,λb f q n hx=>?_,I.base.there,λb xs q=>?_,λb f u q=>?_,λb ps q=>?_⟩,I.loc,I.cell,?_,λx c q=>?_,λp hp=>?_,λb f q=>?_,I.len⟩
 ·have:=I.base.free b f q n hx;rw[aU (h this)];exact this
 ·have:=I.base.tups b xs q;rw[aU (g this λz=>by cases z)];exact this
 ·have:=I.base.Gx b f u q;rw[aU (λz=>by subst z;exact hb _ _ q)];exact this
 ·obtain⟨m,this⟩:=I.base.Le b ps q;exact⟨m,by rw[aU (g this λz=>by cases z)];exact this⟩
 ·have:=I.free;rw[aU (h this)];exact this
 ·have:=I.tB x c q;rw[aU (h this)];exact this
 ·obtain⟨p1,p2,p3⟩:=I.pin p hp;exact⟨p1,by rw[aU (h p2)];exact p2,p3⟩
 ·have st:∀{c:A1} {w:HO},iZ X.prog X.w H s.heap c w->iZ X.prog X.w (B4 H a (.dK ks)) s.heap c w:=λx=>
   x.stay (λ_ _ _ r=>r) (λd r=>by rw[aU (g r λz=>by cases z)];exact r) λd xs r=>by rw[aU (g r λz=>by cases z)];exact r
  by_cases i:b=a
  ·subst i;rw[bK]at q;cases q;exact st (I.hok _ _ e).2
  ·rw[aU i]at q;exact st (I.hok _ _ q)
theorem lj(I:L2.AU X AN σ H s)(e:H a=Z (.dK ks))(b:s.heap.get? a=Z o):L2.AU X AN σ (B4 H a (.ux o (.dK ks))) s:=by
 have:=I.write (t':=s.toks) (h':=s.heap) (x:=a) (e:=a) (o:=.ux o (.dK ks)) (by rw[e];exact True.intro) (.inl S) (λ_ _ _ z=>z) ⟨o,b⟩ ⟨b,(I.hok _ _ e).stay (λ_ _ _ r=>r) (λd r=>by rw[aU (qM r e (by intro z;cases z))];exact r) λd xs r=>by rw[aU (qM r e (by intro z;cases z))];exact r⟩;exact this
theorem iP(I:L2.AU X AN σ H s)(e:H a=Z (.dK ks)):∀b u,X.H₀ a≠Z (.ux b u):=λb u q=>by
 have:=I.base.Gx a b u q;rw[e]at this;cases this
mutual
theorem AW.TY{K:B1}(e:H a=Z (.ux o (.dK ks)))(f:ks≠[]):∀{d:Dt} {v:V},AW K H d v->AW K (B4 H a (.dK ks)) d v
 |.non,_,h=>by simpa only[AW]using h
 |.bl _,_,h=>by simpa only[AW]using h
 |.int _,_,h=>by simpa only[AW]using h
 |.str _,_,h=>by simpa only[AW]using h
 |.tup ds,_,h=>by
  simp only[AW]at h ⊢;obtain⟨b,vs,e1,q,r⟩:=h;refine⟨b,vs,e1,?_,aQ.TY e f r⟩;rcases q with (q|⟨c,q⟩)|q
  ·exact .inl (.inl (by rw[aU (λz=>by subst z;rw[e]at q;cases q)];exact q))
  ·exact .inl (.inr ⟨c,by rw[aU (λz=>by subst z;rw[e]at q;cases q)];exact q⟩)
  ·exact .inr q
 |.lst ds,_,h=>by
  simp only[AW]at h ⊢;obtain⟨b,vs,e1,q,r⟩:=h;refine⟨b,vs,e1,?_,aQ.TY e f r⟩;rcases q with⟨c,q⟩|q
  ·exact .inl ⟨c,by rw[aU (λz=>by subst z;rw[e]at q;cases q)];exact q⟩
  ·exact .inr q
 |.emp,_,h=>by
  simp only[AW]at h ⊢;obtain⟨b,c,e1,q⟩:=h;exact⟨b,c,e1,by rw[aU (λz=>by subst z;rw[e]at q;cases q;exact f S)];exact q⟩
theorem aQ.TY{K:B1}(e:H a=Z (.ux o (.dK ks)))(b:ks≠[]):∀{ds:O Dt} {vs:O V},aQ K H ds vs->aQ K (B4 H a (.dK ks)) ds vs
 |[],_,h=>by simpa only[aQ]using h
 |d::ds,_,h=>by
  simp only[aQ]at h ⊢;obtain⟨v,r,e1,q,t⟩:=h;exact⟨v,r,e1,AW.TY e b q,aQ.TY e b t⟩
end
def ML(a:A1)(o:AE)(ks:O (AY×V)):It:=
 ⟨λi H=>H a=Z (.ux o (.dK ks))/\i<ks.length,λi H x H'=>H'=H/\(ks.map λk=>kV k.1)[i]?=Z x,λi H=>H a=Z (.ux o (.dK ks))/\ks.length<=i⟩
theorem Yt(x:iZ P w H h a (.ux o (.dK ks))){es:Array DictEntry}(hd:o.data=.dict es ep):∃vs,KV ks vs/\h.DictAt (bD P w) a vs ep:=by
 obtain⟨e,_,_,vs,b,g,f,i,e2,c,d,r⟩:=x;rw[e]at e2;cases e2;rw[hd]at d;cases d;exact⟨vs,b,o,es,e,c,hd,r⟩
theorem MV:∀{ks:O (AY×V)} {vs:O (AY×A0)},KV ks vs->∀{i:Nat} {p},ks[i]?=Z p->∃x,vs[i]?=Z (p.1,x)
 |_,_,.nil,i,p,q=>by simp at q
 |_,_,.cons h _,0,p,q=>by simp at q;subst q;exact⟨_,by rw[List.getElem?_cons_zero,h.1]⟩
 |_,_,.cons _ t,i+1,p,q=>by
  rw[qa]at q;obtain⟨x,hx⟩:=MV t q;exact⟨x,by rw[qa];exact hx⟩
theorem Oi(it:A1){es:Array DictEntry}(hd:o.data=.dict es ep)(W:a≠it):C2 P w K tg (ML a o ks) [it] it (λi h=>h.IsKeyIter it a i ks.length ep) where
 mem:=by simp
 obj:=λi h st b hb=>by
  have e:b=it:=by simpa using hb
  subst e;obtain⟨f,e,c,d⟩:=st;exact⟨f,e,λv z=>by rw[d]at z;cases z⟩
 keep:=λi h h' st k=>st.at λf e=>k it (by simp) f e
 item:=by
  intro X n p B G i AN s σ H E I l st D;subst n p B;obtain⟨q,hi⟩:=D;obtain⟨vs,g,A⟩:=Yt (I.hok _ _ q) hd;have m:ks.length=vs.length:=g.length;obtain⟨x,hx⟩:=MV g (show ks[i]?=Z ks[i] by simp[hi]);obtain⟨f0,f1,f2,C,u,F⟩:=l it (by simp);rw[m]at st;refine wpAny_pyNext_dict_item st A hx λJ h' Q y M=>?_;rw[<-m]at y;have L:L2.AU X AN σ H { s with heap:=h' }:=I.turned (t':=s.toks) (λb f hb e=>(M.2 b hb).trans e) f0 f1 C u F;obtain⟨f,e,c,d⟩:=id y;refine⟨J,rfl,Ni (s:={ s with heap:=h' }) e c d (by decide) ⟨kV (ks[i]).1,H,L,?_,⟨rfl,by rw[ZE,Zl hi];rfl⟩,y,λb hb=>(l b hb).1⟩⟩;have N:nq (ks[i]).1 J=true:=Q;rcases bY N with⟨j,t,e2,e3⟩|⟨z,t,e2,e3⟩
  ·rw[e2,e3];exact⟨t,rfl⟩
  ·rw[e2,e3];exact⟨t,rfl⟩
 done:=by
  intro X n p B G i AN s σ H E I l st D;subst n p B;obtain⟨q,hi⟩:=D;obtain⟨vs,g,A⟩:=Yt (I.hok _ _ q) hd;have m:ks.length=vs.length:=g.length;obtain⟨f0,f1,f2,C,u,F⟩:=l it (by simp);rw[m]at st;exact wpAny_pyNext_dict_end (I.ok.hd G) st A (qq (by omega)) λh' eb=>⟨rfl,I.turned (t':=s.toks) (λb f hb e=>eb b f hb e) f0 f1 C u F⟩
 self:=λ_ _ _ _ _ st h=>wpAny_pyIter_keyiter st h
def Wy:AY->Dt
 |.inl i=>.int i
 |.inr x=>.str x
theorem S0{k:AY}(h:Db k):AW K H (Wy k) (kV k):=by
 cases k with
 |inl i=>unfold Wy AW;rfl
 |inr x=>unfold Wy AW;exact⟨rfl,h⟩
def DI:Bx->Y (O Dt)
 |.n AO=>Z (AO.map λp=>Wy p.1)
 |_=>U
theorem iO(h:DI b=Z ds):∃AO,b=.n AO/\ds=AO.map λp=>Wy p.1:=by
 unfold DI at h;split at h
 ·cases h;exact⟨_,rfl,rfl⟩
 ·cases h
theorem FW(f:Hs a=Z (.ux o (.dK ks)))(b:gn K Hs AO ks):B0 K (ML a o ks) (AO.map λp=>Wy p.1) Hs:=.of λi H s=>by
 have g:=b.len;refine⟨λd e=>?_,λe=>⟨s _ _ f,by rw[zk]at e;omega⟩⟩;rw[ZE]at e;cases hp:AO[i]? with
 |none=>rw[hp]at e;cases e
 |some p=>
  rw[hp]at e;cases e;have hi:i<AO.length:=(List.getElem?_eq_some_iff.mp hp).1;refine⟨⟨s _ _ f,by omega⟩,λx H' y=>?_⟩;obtain⟨y1,y2⟩:=y;refine⟨y1,?_⟩;have h1:(ks.map (·.1))[i]?=Z p.1:=by rw[b.1,ZE,hp];rfl
  rw[ZE]at h1 y2;cases c:ks[i]? with
  |none=>rw[c]at h1;cases h1
  |some q=>
   rw[c]at h1 y2;cases y2;have:q.1=p.1:=by simpa using h1
   show AW K H (Wy p.1) (kV q.1);rw[this];exact S0 (b.2.2 p (QO hp))
theorem Wz{H1:Hp}(e:H1 a=Z (.dK ks))(E:bR K H1 H1 (z9 is σ++List.replicate n U) (lW is ρ++List.replicate n U)):bR K (B4 H1 a (.ux o (.dK ks))) (B4 H1 a (.ux o (.dK ks))) (z9 is σ++List.replicate n U) (lW is ρ++List.replicate n U):=by
 have kp:Kp H1 (B4 H1 a (.ux o (.dK ks))):=.dk e;have g:∀(j:Nat) c,(lW is ρ++List.replicate n U)[j]?=Z (Z c)->uT c=false:=λj c e=>by
  by_cases p:j<is.length
  ·rw[ZU (by simp[lW];omega)]at e;unfold lW at e;rw[ZE]at e;cases q:is[j]? with
   |none=>rw[q]at e;cases e
   |some i=>
    rw[q]at e;have:uV ρ i=Z c:=by simpa using e
    exact Bl this
  ·rw[qS (by simp[lW];omega),Q2]at e;split at e<;>cases e
 refine⟨E.len,λj b eb=>?_,λj k c a b e h=>absurd h (by rw[g j c e];exact ZH),AV.refl _,λj c a e h=>absurd h (by rw[g j c e];exact ZH)⟩;obtain⟨v,ev,r⟩:=E.val j b eb;refine⟨v,ev,?_⟩;cases b with
 |z d=>exact AW.kp kp r
 |o ds=>have:=g j _ eb;cases this
 |m ds _=>have:=g j _ eb;cases this
 |l ds=>
  obtain⟨b,vs,e1,q,r⟩:=r;refine⟨b,vs,e1,?_,r.kp kp⟩;rcases q with q|⟨f,q⟩
  ·exact .inl (by rw[aU (qM q e (by intro z;cases z))];exact q)
  ·exact .inr ⟨f,by rw[aU (qM q e (by intro z;cases z))];exact q⟩
 |n ds=>
  obtain⟨b,vs,e1,q,r⟩:=r;refine⟨b,vs,e1,?_,r.kp kp⟩;by_cases hb:b=a
  ·subst hb;rcases q with q|⟨f,q⟩
   ·rw[e]at q;cases q;exact .inr ⟨o,bK⟩
   ·rw[e]at q;cases q
  ·rcases q with q|⟨f,q⟩
   ·exact .inl (by rw[aU hb];exact q)
   ·exact .inr ⟨f,by rw[aU hb];exact q⟩
end
section
variable{fd:Ev->Y Bx}{xs:AZ}
def T3(fd:Ev->Y Bx):Ev->Y (O Dt):=λρ=>(fd ρ).bind DI
theorem ZB(ρ:Ev):Fy gt p fe ρ []=Z []:=rfl
theorem T4(ts:AZ)(O:uD X scope cl xs is)(b3:X.calm=true)(hi:QV X iter fd)
  (Nz:∀C d f fp,CO (zM X (xs++ts) scope cl C d f fp) tgt gt) (a8:∀C d f fp,xq (zM X (xs++ts) scope cl C d f fp) ifs p) (a1:∀C d f fp,QV (zM X (xs++ts) scope cl C d f fp) elt fe) (b0:ZL is.length (is.length+ts.length) gt)
  (hs:∀x,foldedSetIterable iter X.env x=pure x:=by intro _;rfl):QV X (.ListComp elt [⟨tgt,iter,ifs,0⟩] scope pos) (dO (T3 fd) gt p fe is ts.length):=⟨λAN s σ H Q I h=>by
 obtain⟨H0,ρ,b,E,e,q⟩:=h;obtain⟨ds,ed,e⟩:=AT e;split at e
 ·rename_i b9;obtain⟨d2,l,e⟩:=AT e;cases e;obtain⟨bd,c0,ed⟩:=AT ed;obtain⟨AO,rfl,rfl⟩:=iO ed;rw[eval_ListComp];refine JP (use:=U) S hs O.clos O.kind O.names ?_;refine jc (hi.run AN s σ H (λv H1=>AV H H1/\bB X.K H1 (.n AO) v) I ⟨H0,ρ,_,E,c0,λv H1 c _ r1=>⟨c,r1⟩⟩) λv c ⟨v',H1,I1,rv,s01,r1⟩=>?_;obtain⟨a,ks,rfl,g,rm⟩:=r1;cases rv;obtain⟨_,c8,vs,kv,t,es,ep,L⟩:=wQ I1.hok g;have J:=L.1;have a4:=L.2.2.1;refine wpAny_pyIter_dict c8 (⟨t,es,L⟩:c.heap.DictAt (bD X.prog X.w) a vs ep) ?_;have b4:a<c.heap.objs.size:=zw J;have hl:ks.length=vs.length:=kv.length;have a2:∀{H':Hp},L2.AU X AN σ H' c->∀b∈[c.heap.objs.size],uz X AN H' b:=λi b hb=>by
   have e:b=c.heap.objs.size:=by simpa using hb
   subst e;exact i.Vx (zo _) (i.hok.fresh (zo _))
  have a3:Heap.IsKeyIter (c.heap.push { cls:=.type "dict_keyiterator",data:=.fields #[.ref a,.int 0 0,.int vs.length 0,.int ep 0] }) c.heap.objs.size a 0 ks.length ep:=⟨_,zv _ rfl,rfl,by rw[hl];rfl⟩;rcases g with g|⟨o',g⟩
  ·
   have I2:=lj I1 g J;have P:L2.AU X AN σ (B4 H1 a (.ux t (.dK ks))) { c with heap:=c.heap.push { cls:=.type "dict_keyiterator",data:=.fields #[.ref a,.int 0 0,.int vs.length 0,.int ep 0] } }:=I2.kept (t':=c.toks) λb o e=>ze _ e;have c3:gn X.K (B4 H1 a (.ux t (.dK ks))) AO ks:=rm.kp (.dk g);refine Br (B:=Bq) (RR:=λa0 C=>compPost (A8 X.prog X.w) X.A X.xe U (EP X AN σ Q) a0 C) (ts:=ts) (xs:=xs) O b3 (λC d f fp=>(Nz C d f fp).run) (λC d f fp=>(a8 C d f fp).run) (λC d f fp=>(a1 C d f fp).run) b0 P (Wz g ((E.grow s01).caps is ts.length)) (Fz (Oi c.heap.objs.size a4 (z4 b4))) a3 (a2 I2) (FW bK c3) b9 l ?_;intro D C s' H' us j i y ⟨m,hn⟩ s2' hD' r';have M:H' a=Z (.ux t (.dK ks)):=s2' _ _ bK;have a5:D≠a:=λz=>by subst z;rw[bK]at j;cases j
   have c6:H1 D=U:=by rw[aU a5]at j;exact j
   have sm:AV H1 (B4 H' a (.dK ks)):=λb u e=>by
    by_cases hb:b=a
    ·subst hb;rw[g]at e;cases e;exact bK
    ·rw[aU hb];exact s2' b u (by rw[aU hb];exact e)
   have rr:aQ X.K (B4 H' a (.dK ks)) d2 us:=by
    by_cases hk:ks=[]
    ·have:AO=[]:=by have:=rm.len;rw[hk]at this;exact List.length_eq_zero_iff.mp (by simpa using this.symm)
     subst this;simp only[JO]at l;rw[ZB]at l;cases l;simpa only[aQ]using r'
    ·exact aQ.TY M hk r'
   refine⟨m,hn,λh' G=>⟨.ref D,B4 H' a (.dK ks),?_,rfl,q _ _ (s01.trans sm) (λa ea=>by cases ea;exact s01.free c6) ⟨D,us,rfl,by rw[aU a5];exact hD',rr⟩⟩⟩;obtain⟨f0,f1,f2,N,F,W⟩:=y;have d1:C≠a:=λz=>by subst z;rw[M]at f0;cases f0
   exact(TY (iP I1 g) i M).turned (t':=s'.toks) (λb o hb e=>(G.2 b hb).trans e) (by rw[aU d1];exact f0) f1 N F W
  ·have d0:o'=t:=by
    have:=(I1.hok _ _ g).1;rw[J]at this;cases this;rfl
   subst d0;have P:L2.AU X AN σ H1 { c with heap:=c.heap.push { cls:=.type "dict_keyiterator",data:=.fields #[.ref a,.int 0 0,.int vs.length 0,.int ep 0] } }:=I1.kept (t':=c.toks) λb o e=>ze _ e;refine Br (B:=Bq) (RR:=λa0 C=>compPost (A8 X.prog X.w) X.A X.xe U (EP X AN σ Q) a0 C) (ts:=ts) (xs:=xs) O b3 (λC d f fp=>(Nz C d f fp).run) (λC d f fp=>(a8 C d f fp).run) (λC d f fp=>(a1 C d f fp).run) b0 P ((E.grow s01).caps is ts.length) (Fz (Oi c.heap.objs.size a4 (z4 b4))) a3 (a2 I1) (FW g rm) b9 l ?_;intro D C s' H' us j i y ⟨m,hn⟩ s2' hD' r';refine⟨m,hn,λh' G=>⟨.ref D,H',?_,rfl,q _ _ (s01.trans s2') (λa ea=>by cases ea;exact s01.free j) ⟨D,us,rfl,hD',r'⟩⟩⟩;obtain⟨f0,f1,f2,N,F,W⟩:=y;exact i.turned (t':=s'.toks) (λb o hb e=>(G.2 b hb).trans e) f0 f1 N F W
 ·cases e⟩
end
theorem T5{R:Result->A2->Prop}{d:A1}{AO:O (AY×A0)}(E:A.handled=none)(hd:(d==sysModules)=false)(j:s.heap.DictAt (bD prog w) d AO ep)(B:AO.length<=AA)(S:A1)(l:d≠S)(p:A0)(t:Nat)(q:s.heap.get? S=Z { cls:=.type "list",data:=.seq #[] t })(J:∀h' tk g a,(∀b o,b≠S->s.heap.get? b=Z o->h'.get? b=Z o)->h'.get? S=Z { cls:=.type "list",dict:=none,data:=.seq g a,slots:=#[] } →
   ItemsOf (λi v=>∃k x,AO[i]?=Z (k,x)/\(bD prog w).is k v=true) g AO.length->R (.ok (.ret p)) { s with heap:=h',toks:=tk }):
  A7 (A8 prog w) A.in1 (Builtin.List.listExtendWith (.ref S) (.ref d) p)
   (λX s'=>match X with|.done f=>R (.ok f) s'|.again a=>a.quiet=true/\AF (A8 prog w) A a R s') (λe s'=>R (.error e) s') s:=by
 have N:d<s.heap.objs.size:=by obtain⟨o,_,M,_⟩:=j;exact zw M
 have I:S<s.heap.objs.size:=zw q;unfold Builtin.List.listExtendWith;refine zd (Q3 (T :="dict") j.dictOf.typeIs ?_);have h1:Builtin.List.listSameRef (.ref S) (.ref d)=false:=by simp[Builtin.List.listSameRef];exact λe=>l e.symm
 simp only[h1,show(Value.type "dict"==Value.type "list")=false by decide,show(Value.type "dict"==Value.type "tuple")=false by decide,Bool.or_false,zt,Z3];refine zd (wpAny_pyIter_dict hd j ?_);refine zd (QR ?_);have c:=j.at' (h':=s.heap.push { cls:=.type "dict_keyiterator",data:=.fields #[.ref d,.int 0 0,.int AO.length 0,.int ep 0] }) λo e=>ze _ e;unfold Builtin.List.listLengthHint;refine zd (wpAny_specialOf (T :="dict") c.dictOf.typeIs F.slot_dict_len.lookup ?_)
 wp_delta
 refine zd (kF (T :="dict") (b:=true) c.dictOf.typeIs (by rw[isSubtype_type];kernel_rfl) ?_);show A7 _ A.in1 (typeOf (Value.ref d) >>= _) _ _ _;refine zd (Q3 (T :="dict") c.dictOf.typeIs (zg ?_));rw[zr (by decide)];show A7 _ A.in1 (Builtin.List.listTouch (Value.ref S) >>= λ_=>again (Code.builtin "list.extend.loop" ⟨[Value.ref S,Value.ref s.heap.objs.size,p],[]⟩)) _ _ _;generalize m:s.heap.push { cls:=.type "dict_keyiterator",data:=.fields #[.ref d,.int 0 0,.int AO.length 0,.int ep 0] }=G at c ⊢;have n:G.get? S=Z { cls:=.type "list",data:=.seq #[] t }:=by
  rw[<-m];exact ze _ q
 have W:G.get? s.heap.objs.size=Z { cls:=.type "dict_keyiterator",data:=.fields #[.ref d,.int 0 0,.int AO.length 0,.int ep 0] }:=by
  rw[<-m];exact zv _ rfl
 unfold Builtin.List.listTouch;refine zd (zd (listUpdate_at n rfl (listUpdate_at (get?_update_seq n _) rfl ?_ (by show _<=_;decide) (by show _<=_;decide)) (by show _<=_;decide) (by show _<=_;decide)));have z:s.heap.objs.size≠S:=Kb I;have u:=get?_update_seq (get?_update_seq n (λx=>x.push Value.none)) (λx=>x.pop);generalize Q:(G.update S (Obj.mapSeq λx=>x.push Value.none)).update S (Obj.mapSeq λx=>x.pop)=U at u;have keep:∀b,b≠S->U.get? b=G.get? b:=λb hb=>by rw[<-Q,kf _ _ _ _ hb,kf _ _ _ _ hb]
 have C:U.IsKeyIter s.heap.objs.size d 0 AO.length ep/\U.DictAt (bD prog w) d AO ep:=⟨⟨_,(keep _ z).trans W,rfl,rfl⟩,c.at' λo e=>(keep d l).trans e⟩;show A7 _ A.in1 (again _) _ _ { s with heap:=U };have L:S∉[s.heap.objs.size,d]:=λh=>by
  simp only[jv,JI,or_false]at h;rcases h with h|h
  ·exact z h.symm
  ·exact l h.symm
 refine zg ⟨plainId_quiet F.plain_extend_loop _,codeAny_extend_loopS (Walks.dictKeys (A:=A.in1) E s.heap.objs.size d (z4 N) AO ep).toS B S L _ AO.length 0 { s with heap:=U } #[] _ rfl (QU _) C u (ItemsOf.nil _) λs' g a y K D=>?_⟩;rw[Moved.eq_with y];refine J s'.heap s'.toks g a (λb P hb e=>?_) K D;have H:=zw e;refine y.heap b P (λh=>?_) ((keep b hb).trans ?_)
 ·simp only[jv,JI,or_false]at h;rcases h with h|h
  ·exact hb h
  ·exact z4 H h
 ·rw[<-m];exact ze _ e
theorem JH{Q:B7}{d:A1}{AO:O (AY×A0)}(u:A.handled=U)(hd:(d==sysModules)=false)(g:s.heap.DictAt (bD prog w) d AO ep)(p:AO.length<=AA)(y:∀h' tk c f,(∀b o,s.heap.get? b=Z o->h'.get? b=Z o) →
   h'.get? s.heap.objs.size=Z { cls:=.type "list",dict:=U,data:=.seq c f,slots:=#[] }->ItemsOf (λi v=>∃k x,AO[i]?=Z (k,x)/\(bD prog w).is k v=true) c AO.length->Q (.ref s.heap.objs.size) { s with heap:=h',toks:=tk }):
  A7 (A8 prog w) A (call (.type "list") [.ref d]) Q E s:=by
 have n:d<s.heap.objs.size:=by obtain⟨o,_,D,_⟩:=g;exact zw D
 refine callType_codes (Q₁:=λm h=>m=.ref s.heap.objs.size/\h={ s with heap:=s.heap.push { cls:=.type "list",data:=.seq #[] } }) F.called_list (F.typeCall_list_1 _) F.entry_list_init
  (code_list_new _ ⟨rfl,rfl⟩) λm h C=>?_
 obtain⟨rfl,rfl⟩:=C;have a:(s.heap.push { cls:=.type "list",data:=.seq #[] }).get? s.heap.objs.size=Z { cls:=.type "list",data:=.seq #[] }:=zv _ rfl;have j:=g.at' (h':=s.heap.push { cls:=.type "list",data:=.seq #[] }) λo e=>ze _ e;refine⟨⟨_,a,rfl⟩,F.args_list_init_2 _ _,?_⟩;generalize B:s.heap.push { cls:=.type "list",data:=.seq #[] }=H at a j ⊢;show A7 _ _ (do let old <-Builtin.List.listItems (.ref s.heap.objs.size);Builtin.List.listUpdate (.ref s.heap.objs.size) (λ_=>#[]);letGo old.toList.reverse;Builtin.List.listExtendWith (.ref s.heap.objs.size) (.ref d) .none) _ _ { s with heap:=H };refine zd ?_;unfold Builtin.List.listItems;refine zd (wpAny_seqItems a S (zg ?_));show A7 _ _ (updateSeq s.heap.objs.size (λ_=>#[]) >>= λ_=>letGo (#[]:Array A0).toList.reverse >>= λ_=>Builtin.List.listExtendWith (.ref s.heap.objs.size) (.ref d) .none) _ _ _;refine zd (wpAny_updateSeq a S ?_);have G:=ya (Obj.mapSeq (λ_=>(#[]:Array A0))) a rfl;have l:∀b o,b≠s.heap.objs.size->H.get? b=Z o->(H.update s.heap.objs.size (Obj.mapSeq (λ_=>(#[]:Array A0)))).get? b=Z o:=
  λb o hb e=>(Heap.get?_update_other _ _ (KM hb)).trans e
 refine zd (wpAny_letGo ?_);refine T5 (A:=A.in1) u hd (j.at' λo e=>l d o (z4 n) e) p s.heap.objs.size (z4 n) .none _ G λh' tk c f q z t=>?_;exact⟨rfl,y h' tk c f (λb o e=>q b o (z4 (zw e)) (l b o (z4 (zw e)) (by rw[<-B];exact ze _ e))) z t⟩
theorem XA{P:Nat->A0->Prop}(val:Nat->AJ)(a:∀i v,P i v->∃t,v=.str (val i) t):CmpOf prog w A .Lt P (λi j=>decide ((val i).cps.toList<(val j).cps.toList)):=λi j b c s Q E hi d h=>by
 obtain⟨t,rfl⟩:=a i b hi;obtain⟨u,rfl⟩:=a j c d;exact richCompare_gives (op:=.Lt) (typeIs_str s _ t) (typeIs_str s _ u) F.slot_str_lt F.entry_str_lt (F.args_str_lt_2 _ _) (gives_str_lt _ _ t u) (λx=>nomatch x) h
def two(a b:AJ)(i:Nat):AJ:=if i=0 then a else b
theorem b8{a b:AJ}{t u:Tok}(i:Nat)(v:A0)(h:(#[Value.str a t,Value.str b u])[i]?=Z v):∃t',v=.str (two a b i) t':=by
 match i,h with
 |0,h=>cases h;exact⟨t,rfl⟩
 |1,h=>cases h;exact⟨u,rfl⟩
 |_+2,h=>simp at h
theorem TL{a b:AJ}{t u:Tok}{Q:B7}{d:Nat->Nat->Bool}(B:A.handled=U)(f:CmpOf prog w A.in1 op (λi v=>(#[Value.str a t,Value.str b u])[i]?=Z v) d)(h:∀h' tk,(∀c o,s.heap.get? c=Z o->h'.get? c=Z o)->Q (if d 1 0=true then .str b u else .str a t) { s with heap:=h',toks:=tk }):
  A7 (A8 prog w) A.in1 (pyIter (.ref s.heap.objs.size)) (λit j=>∃I fp wr n P St d,it=.ref I/\Walks prog w A.in1 I fp wr n P St/\St 0 j.heap/\(∀b∈fp,b<j.heap.objs.size)/\0<n/\CmpOf prog w A.in1 op P d ∧
   ∀v h' tk,P (argBest d (n-1)) v->(∀b o,b∉wr->j.heap.get? b=Z o->h'.get? b=Z o)->Q v { j with heap:=h',toks:=tk }) E
   { s with heap:=s.heap.push { cls:=.type "tuple",data:=.seq #[.str a t,.str b u] } }:=by
 have p:(s.heap.push { cls:=.type "tuple",data:=.seq #[.str a t,.str b u] }).IsTuple s.heap.objs.size #[.str a t,.str b u]:=⟨_,zv _ rfl,rfl,0,rfl⟩;refine wpAny_pyIter_tuple p ?_;have l:(s.heap.push { cls:=.type "tuple",data:=.seq #[.str a t,.str b u] }).objs.size=s.heap.objs.size+1:=qv ..;refine⟨_,[_,s.heap.objs.size],[_],_,_,_,d,rfl,Walks.tuple (A:=A.in1) B _ s.heap.objs.size (by rw[l];exact z4 (qc _)) #[.str a t,.str b u],
  ⟨⟨_,zv _ rfl,rfl,rfl⟩,p.push _⟩,λc f=>?_,by simp,f,λv h' tk z x=>?_⟩
 ·show c<((s.heap.push _).push _).objs.size;rw[qv,l];rcases List.mem_cons.mp f with rfl|f
  ·rw[l];exact qc _
  ·rcases List.mem_cons.mp f with rfl|f
   ·exact QE (qc _)
   ·cases f
 ·have hold:∀c o,s.heap.get? c=Z o->h'.get? c=Z o:=λc o e=>by
   refine x c o (λm=>?_) (ze _ (ze _ e));rcases List.mem_cons.mp m with e1|m
   ·have:=zw e;rw[e1,l]at this;exact kg _ (Nat.lt_of_succ_lt this)
   ·cases m
  have:=h h' tk hold;have y:v=if d 1 0=true then Value.str b u else Value.str a t:=by
   have g:(#[Value.str a t,Value.str b u])[argBest d 1]?=Z v:=z;unfold argBest argBest at g;by_cases q:d 1 0=true
   ·rw[zr q]at g ⊢;exact(by simpa using g.symm)
   ·rw[zD q]at g ⊢;exact(by simpa using g.symm)
  rw[y];exact this
def JK:O Bx->Y Bx
 |[.z (.str a),.z (.str b)]=>Z (.z (.str (if aib b a=true then b else a)))
 |_=>U
where aib (x y:AJ):Bool:=decide (x.cps.toList<y.cps.toList)
theorem cm(j:X.calm=true):uU X (.builtin "min") JK:=by
 intro AN s σ H xs us Q I r h;obtain⟨bs,c,rb,e,q⟩:=h;unfold JK at e;split at e
 ·rename_i a b;cases e;obtain⟨v,w,rfl,f,d⟩:=Hm rb;obtain⟨rfl,h1⟩:=ZS f;obtain⟨rfl,h2⟩:=ZS d;obtain⟨u,l,rfl,i,g⟩:=AX.two r;obtain⟨t,rfl⟩:=i;obtain⟨m,rfl⟩:=g;refine call_min_two (TL (I.ok.hd j) (XA (two a b) b8) λh' tk kp=>?_);show EP X AN σ Q (if JK.aib b a=true then _ else _) _;by_cases hb:JK.aib b a=true
  ·rw[zr hb]at q ⊢;exact⟨.str b,H,I.kept kp,⟨_,rfl⟩,q _ H (AV.refl H) trivial d⟩
  ·rw[zD hb]at q ⊢;exact⟨.str a,H,I.kept kp,⟨_,rfl⟩,q _ H (AV.refl H) trivial f⟩
 ·cases e
def JL:O Bx->Y Bx
 |[.n AO]=>(Z2 AO).bind λys=>Z (.o (ys.map Dt.str))
 |_=>U
theorem Sa(m:X.calm=true):uU X (.type "list") JL:=by
 intro AN s σ H xs us Q I r h;obtain⟨bs,c,rb,e,q⟩:=h;unfold JL at e;split at e
 ·rename_i AO;obtain⟨ys,b,e⟩:=AT e;cases e;have D:AO.length=ys.length:=by have:=congrArg List.length (yX b);simpa using this
  obtain⟨v,rfl,A⟩:=BN rb;obtain⟨a,ks,rfl,x,d⟩:=A;obtain⟨u,rfl,l⟩:=BC r;cases l;obtain⟨B,n,vs,f,o,es,ep,t⟩:=wQ I.hok x;have j:vs.map (·.1)=ys.map Sum.inr:=by rw[Yd f,d.1];exact yX b
  have E:ks.length=vs.length:=f.length;refine JH (I.ok.hd m) n ⟨o,es,t⟩ (by omega) λh' tk C w ext p i=>?_;have z1:=Wg j i;have z:∀y∈ys,y.length<=AA:=ly b d.2.2;have g:=I.hok.fresh (zo s.heap.objs.size);refine⟨.ref s.heap.objs.size,_,I.laid (t':=tk) (a:=s.heap.objs.size) (o:=.lst (ys.map V.str)) ext (zo _) ?_,rfl,q _ _ (cH g) (λa ea=>by cases ea;exact g) ⟨_,_,rfl,bK,Jp z⟩⟩;refine⟨by rw[zk,<-D,<-d.len];exact B,C.toList,w,Ea z1,?_⟩;rw[p]
 ·cases e
def CB(H:Hp)(a:A1):Hp:=λb=>if b=a then U else H b
theorem Yu{b:A1}(h:b≠a):CB H a b=H b:=zD h
theorem Yv:CB H a a=U:=zr rfl
def DU:Bx->Bool
 |.z _=>true
 |_=>false
def FY(K:B1)(n:Nat)(G:A1->O (AY×Dt)->O Bx->Y (O (AY×Dt))):Sp:=λvs H Q _=>vs.length=n+1/\∃a ks AO AS bs b,vs=.ref a::AS/\H a=Z (.dK ks)/\gn K H AO ks/\tH K H bs AS/\bs.all DU=true/\G a AO bs=Z b/\∀H' c,AV (CB H a) H'->H' a=Z (.dK c)->gn K H' b c->Q .non H'
def T6(n:Nat)(g:Ev->Y Ap):A1->O (AY×Dt)->O Bx->Y (O (AY×Dt)):=λa AO bs=>(g ((Bx.m AO (Z a)::bs).map Z++List.replicate (n-(bs.length+1)) U)).bind λr=>match r with
 |.nx ρ=>match ρ[0]? with
  |some (Z (Bx.m kvs' (Z b)))=>if b=a then Z kvs' else U
  |_=>U
 |_=>U
theorem WD{c:O (AY×Dt)}{bs:O Bx}(h:T6 n g a AO bs=Z c):∃ ρ,g ((Bx.m AO (Z a)::bs).map Z++List.replicate (n-(bs.length+1)) U)=Z (.nx ρ)/\ρ[0]?=Z (Z (.m c (Z a))):=by
 obtain⟨r,er,h⟩:=AT h;cases r with
 |nx ρ=>
  dsimp only at h;split at h
  ·rename_i k b e;split at h
   ·rename_i hb;cases h;subst hb;exact⟨ρ,er,e⟩
   ·cases h
  ·cases h
 |rt _=>cases h
 |bk _=>cases h
 |ct _=>cases h
theorem JM{α β:Type}{R:α->β->Prop}:∀{xs:O α} {ys:O β},AI R xs ys->∀{i:Nat} {x:α},xs[i]?=Z x->∃y,ys[i]?=Z y/\R x y
 |_,_,.nil,i,x,q=>by simp at q
 |_,_,.cons r _,0,x,q=>by simp at q;subst q;exact⟨_,rfl,r⟩
 |_,_,.cons _ t,i+1,x,q=>by
  rw[qa]at q;obtain⟨y,y1,y2⟩:=JM t q;exact⟨y,by rw[qa];exact y1,y2⟩
theorem bR.startM{bs:O Bx}{AS:O V}{ks:O (AY×V)}(w:H a=Z (.dK ks))(p:gn K H AO ks)(r:tH K H bs AS)(u:bs.all DU=true):bR K (CB H a) H (L2.start N (.ref a::AS)) ((Bx.m AO (Z a)::bs).map Z++List.replicate (N.length-(bs.length+1)) U):=by
 have l:bs.length=AS.length:=Paired.length r;have n:tH K H (.m AO (Z a)::bs) (.ref a::AS):=.cons ⟨a,ks,rfl,w,p,λb h=>by cases h;rfl⟩ r;have get:∀(i:Nat) b,((Bx.m AO (Z a)::bs).map Z++List.replicate (N.length-(bs.length+1)) U)[i]?=Z (Z b)->(Bx.m AO (Z a)::bs)[i]?=Z b:=λi b e=>by
  by_cases hi:i<(Bx.m AO (Z a)::bs).length
  ·rw[ZU (by simpa using hi),ZE]at e;cases q:(Bx.m AO (Z a)::bs)[i]? with
   |none=>rw[q]at e;cases e
   |some y=>rw[q]at e;simpa using e
  ·rw[qS (by simp at hi ⊢;omega),Q2]at e;split at e<;>cases e
 have t:∀(i:Nat) b,((Bx.m AO (Z a)::bs).map Z++List.replicate (N.length-(bs.length+1)) U)[i]?=Z (Z b)->i≠0->loose b=false:=λi b e hi=>by
  have e2:=get i b e;cases i with
  |zero=>exact absurd S hi
  |succ j=>
   rw[qa]at e2;have:=List.all_eq_true.mp u b (QO e2);cases b<;>first|rfl|cases this
 have g:∀c,uT c=true->loose c=true:=λc d=>by cases c<;>first|rfl|cases d
 have zero:∀(i:Nat) c,((Bx.m AO (Z a)::bs).map Z++List.replicate (N.length-(bs.length+1)) U)[i]?=Z (Z c)->loose c=true->i=0:=λi c e d=>by
  by_cases hi:i=0
  ·exact hi
  ·rw[t i c e hi]at d;cases d
 have st:∀i v,(Value.ref a=Value.ref a)->(V.ref a::AS)[i]?=Z v->(L2.start N (.ref a::AS))[i]?=Z (Z v):=λi v _ e=>by
  have hi:i<(V.ref a::AS).length:=(List.getElem?_eq_some_iff.mp e).1;unfold L2.start;rw[ZU (by simpa using hi),ZE,e];rfl
 refine⟨by unfold L2.start;simp[l],λi b e=>?_,λi j c x b e1 f _ e3 hb _=>?_,λb o e=>?_,λi c x e f e2=>?_⟩
 ·obtain⟨v,e1,s⟩:=JM n (get i b e);exact⟨v,st i v S e1,s⟩
 ·rw[zero i c e1 (g c f),zero j b e3 hb]
 ·by_cases hb:b=a
  ·subst hb;rw[Yv]at e;cases e
  ·rw[Yu hb]at e;exact e
 ·have hi:=zero i c e (g c f);subst hi;rw[st 0 (.ref a) S rfl]at e2;cases e2;exact Yv
theorem i6{st:AB}{f:A1}{k m:Nat}(F:CY K x qual st f fd)(S:bF N ps (aP st))(i:N.length=n)(t:ps.length=m+1)(o:∀(c:A0) (A:A5) (outer:O Env) (s:A2) (H:Hp) (E:XK),oF k (A.deeper (AK qual (aP st) s.heap.objs.size f c))->Sg (Gy Dz P w K mg base N qual (aP st) f c A outer s H E).nox (jH st) g):
  qQ P w K mg base Dz (k+1) f fd ps (FY K m (T6 n g)):=by
 subst i;refine F.ok S (λvs H Q E h=>by rw[t];exact h.1) λc A outer s H vs Q E z h=>?_;obtain⟨D,a,ks,AO,AS,bs,C,rfl,u,l,rb,p,e,q⟩:=h;refine⟨_,(o c A outer s H E z).run,?_⟩;obtain⟨ρ,er,e0⟩:=WD e;refine⟨CB H a,_,_,bR.startM u l rb p,er,?_⟩;intro σ' H' d;obtain⟨v,ev,b,B,rfl,hb,j,y⟩:=d.val 0 _ e0;have:=y a rfl;subst this;exact q H' B d.base hb j
open Classical in
noncomputable def FZ(i n:Nat)(G:A1->O (AY×Dt)->O Bx->Y (O (AY×Dt)))(fs:Ev->Y (O Bx)):Ev->Y Ap:=λρ=>match ρ[i]? with
 |some (Z (.m AO w))=>(fs ρ).bind λbs=>if h:bs.length=n/\bs.all DU=true/\∃b,∀a,G a AO bs=Z b then Z (.nx (ρ.set i (Z (.m (Classical.choose h.2.2) w))))else U
 |_=>U
theorem WK{fs:Ev->Y (O Bx)}{r:Ap}(h:FZ i n G fs ρ=Z r):∃AO w bs c,ρ[i]?=Z (Z (.m AO w))/\fs ρ=Z bs/\bs.length=n/\bs.all DU=true/\(∀a,G a AO bs=Z c)/\r=.nx (ρ.set i (Z (.m c w))):=by
 unfold FZ at h;split at h
 ·rename_i AO w e;obtain⟨bs,eb,h⟩:=AT h;split at h
  ·rename_i b;cases h;exact⟨AO,w,bs,_,e,eb,b.1,b.2.1,Classical.choose_spec b.2.2,rfl⟩
  ·cases h
 ·cases h
theorem cz{fs:Ev->Y (O Bx)}{b:O (AY×Dt)}{w:Y A1}{bs:O Bx}(e:ρ[i]?=Z (Z (.m AO w)))(eb:fs ρ=Z bs)(g:bs.length=n)(h:bs.all DU=true)(d:∀a,G a AO bs=Z b):FZ i n G fs ρ=Z (.nx (ρ.set i (Z (.m b w)))):=by
 unfold FZ;rw[e];simp only[eb,amu];have c:bs.length=n/\bs.all DU=true/\∃b,∀a,G a AO bs=Z b:=⟨g,h,b,d⟩;rw[dif_pos c];have:=Classical.choose_spec c.2.2 0;rw[d 0]at this;injection this with this;rw[<-this]
where amu {α β:Type} (a:α) (f:α->Y β):(Z a).bind f=f a:=rfl
theorem bR.akD{H':Hp}{F:O (AY×Dt)}{w:Y A1}{ks D:O (AY×V)}(E:bR K H0 H σ ρ)(h:ρ[i]?=Z (Z (.m AO w)))(hs:σ[i]?=Z (Z (.ref a)))(I:H a=Z (.dK ks))(sm:AV (CB H a) H')(P:H' a=Z (.dK D))(X:gn K H' F D)(Q:∀b,w=Z b->b=a):
  bR K H0 H' σ (ρ.set i (Z (.m F w))):=by
 have hi:i<ρ.length:=(List.getElem?_eq_some_iff.mp h).1;have hb:H0 a=U:=E.new i _ a h S hs;have g:∀b u,b≠a->H b=Z u->H' b=Z u:=λb u C e=>sm b u (by rw[Yu C];exact e);have kp:Kp H H':=⟨λb xs e=>g b _ (qM e I (by intro z;cases z)) e,λb ob u e=>g b _ (qM e I (by intro z;cases z)) e⟩;refine⟨by rw[kP];exact E.len,λj A e=>?_,λj J c f A e1 B e2 e3 e4 N=>?_,λc o e=>?_,λj c f e1 B e2=>?_⟩
 ·rcases B9 e with⟨rfl,e',_⟩|⟨C,e'⟩
  ·cases e';exact⟨_,hs,a,D,rfl,P,X,Q⟩
  ·obtain⟨v,e1,t⟩:=E.val j A e';refine⟨v,e1,?_⟩;have y:∀f,v=.ref f->loose A=true->f≠a:=λf ev W z=>by
    subst z;exact C (E.own i j _ _ _ h S hs e' W (by rw[e1,ev])).symm
   cases A with
   |z d=>exact AW.kp kp t
   |l G=>
    obtain⟨f,p,rfl,q,rr⟩:=t;have s:=y f S rfl;exact⟨f,p,rfl,q.imp (g _ _ s) λ⟨o,q⟩=>⟨o,g _ _ s q⟩,rr.kp kp⟩
   |o G=>
    obtain⟨f,p,rfl,q,rr⟩:=t;exact⟨f,p,rfl,g _ _ (y f S S) q,rr.kp kp⟩
   |n G=>
    obtain⟨f,p,rfl,q,rr⟩:=t;have s:=y f S rfl;exact⟨f,p,rfl,q.imp (g _ _ s) λ⟨o,q⟩=>⟨o,g _ _ s q⟩,rr.kp kp⟩
   |m G _=>
    obtain⟨f,p,rfl,q,rr,M⟩:=t;exact⟨f,p,rfl,g _ _ (y f S S) q,rr.kp kp,M⟩
 ·have back:∀{j:Nat} {c:Bx},(ρ.set i (Z (.m F w)))[j]?=Z (Z c)->∃x,ρ[j]?=Z (Z x)/\(uT c=true->uT x=true)/\(loose c=true->loose x=true):=λ{j c} e=>by
   rcases B9 e with⟨rfl,e',_⟩|⟨_,e'⟩
   ·exact⟨_,h,λ_=>S,λ_=>S⟩
   ·exact⟨c,e',id,id⟩
  obtain⟨x,p1,p2,_⟩:=back e1;obtain⟨b2,q1,_,L⟩:=back e3;exact E.own j J x f b2 p1 (p2 B) e2 q1 (L e4) N
 ·have e2:=E.base c o e;exact g c o (λz=>by subst z;rw[hb]at e;cases e) e2
 ·rcases B9 e1 with⟨rfl,e',_⟩|⟨_,e'⟩
  ·exact E.new _ _ f h S e2
  ·exact E.new j c f e' B e2
section
variable{fs:Ev->Y (O Bx)}{p px spos:Pos}{k:Nat}{f:A1}
theorem Yw(i:Nat)(F:qQ X.prog X.w X.K X.mg X.base Dz k f fd ps (FY X.K n G))(s:oF k X.A)(J:Gl X x)(l:X.mg x=Z (.ref f))(j:keepIn X.K (.ref f)=true)(hb:BM X.K fd ps [])
  (o:XS X es fs) (B:X.N[i]?=Z y:=by rfl) (W:Xx X.env.scope y:=by first|exact JE rfl|exact QP (JE S)|exact QP (QP S)) (hd:(y==("__debug__":AJ))=false:=by decide)
  (L:(y==("__classdict__":AJ))=false:=by decide) (M:(x==("__debug__":AJ))=false:=by decide) (he:A9 (.Name y px::es) X.env=(false,eval (.Name y px) X.env)::A9 es X.env:=by rfl) (m:(AD pos (A9 es X.env)).any (·.1)=false:=by rfl) (hs:swapsWith (.Call (.Name x p) (.Name y px::es) [] pos) U spos.line X.env=pure false:=by rfl):
  Nx X (.Expr (.Call (.Name x p) (.Name y px::es) [] pos) spos) (FZ i n G fs):=⟨VN (Pr (Pu F s J l j hb .nil HU (tD (uy (i:=i) B W hd L) o.run he) M he m) hs) λD σ H h=>by
 obtain⟨H0,ρ,r,E,e,q⟩:=h;obtain⟨AO,w,bs,u,c,eb,Q,hz,z,rfl⟩:=WK e;obtain⟨v,e1,a,ks,rfl,C,rm,I⟩:=E.val i _ c;refine⟨_,e1,H0,ρ,bs,E,eb,λvs H1 b d=>?_⟩;have g:=b _ _ C;refine⟨by simp only[qr,ZZ];rw[<-Paired.length d,Q],a,ks,AO,vs,bs,u,by simp,g,rm.kp (.of b),d,hz,z a,λH' a0 sm t P=>?_⟩;exact q σ H' ((E.grow b).akD c e1 g sm t P I)⟩
end
def DV:Y Bool->Bool
 |some true=>true
 |_=>false
def FC(x:Dt)(ys:O Dt):Y Bool:=if(ys.all λy=>(GD y x).isSome&&decide (min (zN y) (zN x)<=60))=true then Z (ys.any λy=>DV (GD y x))else U
def WL(a b:Bx):Y Bx:=match a with
 |.z d=>(Ab b).bind λys=>(FC d ys).bind λk=>Z (.z (.bl (!k)))
 |_=>U
theorem OU(I:L2.AU X AN σ H s)(G:X.A.units+100<cLine){x:V}(w:AW X.K H d x)(t:Au x u){ys:O Dt}(rs:aQ X.K H ys vs)(n:AX vs AQ){k:Bool}(a:FC d ys=Z k):
  ∃e:A0->Bool,(∀y,y∈AQ->SeqAt.EqAt X.A.in1 s y u (e y))/\AQ.any e=k:=by
 unfold FC at a;split at a
 ·rename_i o;injection a with a;rw[qB]at o;have at_:∀(i:Nat) y,AQ[i]?=Z y->∃c,ys[i]?=Z c/\SeqAt.EqAt X.A.in1 s y u (DV (GD c d)):=λi y l=>by
   have B:=n.length;have C:=rs.length;have hi:i<AQ.length:=(List.getElem?_eq_some_iff.mp l).1;have f:i<ys.length:=by omega
   obtain⟨v,ev,E⟩:=rs.get (show ys[i]?=Z ys[i] by simp[f]);obtain⟨F,p,D⟩:=n.get ev;rw[l]at p;cases p;refine⟨ys[i],by simp[f],?_⟩;have g:=o ys[i] (List.getElem_mem f);rw[ZN]at g;obtain⟨b,hb⟩:=Option.isSome_iff_exists.mp g.1;have:=N3 I 60 (A:=X.A.in1) (qk g.2) (by rw[units_in1];omega) E w D t hb;rw[hb];cases b<;>exact this
  classical
  refine⟨λy=>decide (∃(i:Nat) (c:Dt),AQ[i]?=Z y/\ys[i]?=Z c/\DV (GD c d)=true),λy l=>?_,?_⟩
  ·dsimp only;by_cases q:∃(i:Nat) (c:Dt),AQ[i]?=Z y/\ys[i]?=Z c/\DV (GD c d)=true
   ·rw[Zs q];obtain⟨i,c,h1,h2,j⟩:=q;obtain⟨J,e1,e2⟩:=at_ i y h1;rw[h2]at e1;cases e1;rw[j]at e2;exact e2
   ·rw[Zp q];obtain⟨i,hi,m⟩:=QY l;have h1:AQ[i]?=Z y:=by rw[Zl hi,m]
    obtain⟨c,e1,e2⟩:=at_ i y h1;have:DV (GD c d)=false:=by
     cases z:DV (GD c d)with
     |false=>rfl
     |true=>exact absurd ⟨i,c,h1,e1,z⟩ q
    rw[this]at e2;exact e2
  ·rw[<-a,QQ,ko,ko];constructor
   ·rintro⟨y,l,h⟩;obtain⟨i,c,h1,h2,j⟩:=qk h;exact⟨c,QO h2,j⟩
   ·rintro⟨c,g,j⟩;obtain⟨i,hi,m⟩:=QY g;have B:=n.length;have C:=rs.length;have f:i<AQ.length:=by omega
    exact⟨AQ[i],List.getElem_mem f,Zs ⟨i,c,by simp[f],by rw[Zl hi,m],j⟩⟩
 ·cases a
theorem QG(l:X.A.units+100<cLine):IK X (AG .NotIn) WL:=by
 intro AN s σ H x y v u Q I j o h;obtain⟨a,b,c,m,rb,e,q⟩:=h;unfold WL at e;split at e
 ·rename_i d;obtain⟨ys,t,e⟩:=AT e;obtain⟨k,ek,e⟩:=AT e;cases e;obtain⟨p,vs,rfl,sq,n⟩:=Qv rb t;cases o;rcases sq with sq|sq
  ·obtain⟨AQ,i,pl,z⟩:=I.list sq;obtain⟨f,f1,f2⟩:=OU I l m j n i ek;refine SeqAt.notIn_listAt f pl.isList (λw g=>f1 w (by simpa using g)) ⟨.bl (!k),H,I,by rw[show AQ.toArray.any f=AQ.any f by simp,f2];rfl,q _ H (AV.refl H) trivial (by simp only[bB,AW])⟩
  ·obtain⟨AQ,i,pl,z⟩:=I.tuple sq;obtain⟨f,f1,f2⟩:=OU I l m j n i ek;refine SeqAt.notIn_tupleAt f pl (λw g=>f1 w (by simpa using g)) ⟨.bl (!k),H,I,by rw[show AQ.toArray.any f=AQ.any f by simp,f2];rfl,q _ H (AV.refl H) trivial (by simp only[bB,AW])⟩
 ·cases e
section
variable{st:O AB}
def I0(i:Nat)(ρ:Ev):Y Ev:=match ρ[i]? with
 |some (Z (.o ds))=>Z (ρ.set i (Z (.z (.lst ds))))
 |_=>U
def EF(i:Nat)(g:Ev->Y Ap):Ev->Y Ap:=λρ=>(I0 i ρ).bind g
theorem Tk(h:Vw X st g):Vw X st (EF i g):=by
 intro AN s σ H D I q;obtain⟨H0,ρ,r,E,e,f⟩:=q;obtain⟨m,e1,e2⟩:=AT e;unfold I0 at e1;split at e1
 ·rename_i ds c;cases e1;obtain⟨v,d,a,vs,rfl,b,l⟩:=E.val i _ c;obtain⟨o,j⟩:=Jb I b;have kp:Kp H (B4 H a (.ux o (.lst vs))):=.lst b;refine h AN s σ _ D j ⟨H0,_,r,E.ahA c S d kp ?_,e2,f⟩;simp only[bB,AW];exact⟨a,vs,rfl,.inl ⟨o,bK⟩,l.kp kp⟩
 ·cases e1
theorem WM(h:Sg X st g):Sg X st (EF i g):=⟨Tk h.run⟩
end
open AutoSeq1 (wpAny_loadPart')
open SeqAt
section
variable{o:Expr}{fx:Ev->Y Bx}
end
section
variable{t:Ev->Y Bool}
def CD(t:Ev->Y Bool)(g:Ev->Y Ap):Nat->Ev->Y Ap
 |0,_=>U
 |n+1,ρ=>(t ρ).bind λb=>if b=true then(g ρ).bind λr=>match r with
  |.nx ρ'=>CD t g n ρ'
  |.ct ρ'=>CD t g n ρ'
  |.bk ρ'=>Z (.nx ρ')
  |.rt b=>Z (.rt b)
  else Z (.nx ρ)
theorem T2(n:Nat)(hp:PassesOwn (A8 X.prog X.w) X.A X.env X.xe)(l:PB X c t)(hb:Vw X body g):Hc X (.While c body [] pos) (CD t g n):=
 VN (U' hp l hb) λD σ H q=>by
  obtain⟨H0,ρ,r,E,e,f⟩:=q;refine⟨λm σ H=>∃H0 ρ r,bR X.K H0 H σ ρ/\CD t g m ρ=Z r/\V1 X.K H0 D r,⟨n,H0,ρ,r,E,e,f⟩,?_⟩;rintro m σ H ⟨H0,ρ,r,E,e,f⟩;cases m with
  |zero=>cases e
  |succ m=>
   obtain⟨b,eb,e⟩:=AT e;refine⟨H0,ρ,b,E,eb,λH1 i=>?_⟩;cases b with
   |false=>
    rw[zD (by decide)]at e ⊢;cases e;exact f σ H1 (E.grow i)
   |true=>
    rw[zr rfl]at e ⊢;obtain⟨j,er,e⟩:=AT e;refine⟨λσ' H'=>∃h,h<m+1/\∃H0 ρ r,bR X.K H0 H' σ' ρ/\CD t g h ρ=Z r/\V1 X.K H0 D r,λσ' H' z=>z,H0,ρ,j,E.grow i,er,?_⟩;cases j with
    |nx d=>exact λσ' H' a=>⟨m,qc m,H0,d,r,a,e,f⟩
    |ct d=>exact λσ' H' a=>⟨m,qc m,H0,d,r,a,e,f⟩
    |bk d=>cases e;exact λσ' H' a=>f σ' H' a
    |rt b=>cases e;exact f
theorem T7(n:Nat)(hp:PassesOwn (A8 X.prog X.w) X.A X.env X.xe)(a:QB X c t)(hb:Sg X body g):Nx X (.While c body [] pos) (CD t g n):=⟨T2 n hp a.run hb.run⟩
end
section
variable{h':A6}
theorem TK{t':Nat}{e:A1}(I:L2.AU X AN σ H s)(k:∀b o,b≠e->b≠it->s.heap.get? b=Z o->h'.get? b=Z o)(fe:uz X AN H e)(fi:uz X AN H it)(he:∃o,h'.get? e=Z o)(hi:∃o,h'.get? it=Z o)(new:iZ X.prog X.w (B4 H s.heap.objs.size (.tup xs)) h' s.heap.objs.size (.tup xs)):L2.AU X AN σ (B4 H s.heap.objs.size (.tup xs)) { s with heap:=h',toks:=t' }:=by
 have g:H s.heap.objs.size=U:=I.hok.fresh (zo _);have nd:∀b u,H b=Z u->b≠s.heap.objs.size:=λb u q z=>by rw[z,g]at q;cases q
 have f:∀b u,H b=Z u->b≠e/\b≠it:=λb u q=>⟨λz=>(by rw[z,fe.1]at q;cases q),λz=>(by rw[z,fi.1]at q;cases q)⟩;have d:∀b,b∉[e,it]->b≠e/\b≠it:=λb hb=>⟨λz=>hb (by simp[z]),λz=>hb (by simp[z])⟩;refine I.step (g':=s.gens) (d':=s.drawn) (ch:=[e,it]) (λb hb=>?_) (λb o _ _ a q _=>k b o (d b a).1 (d b a).2 q) (λb o _ _ a q _=>⟨o.slots,k b o (d b a).1 (d b a).2 q⟩) (λb o _ q n=>?_)
  (λb o a q=>⟨o,k b o (d b a).1 (d b a).2 q⟩) (λb ys q=>?_) (λb o u q=>?_) (λb ps q=>⟨#[],?_⟩) (λm h=>?_) (λb u q=>?_) I.bare
 ·rcases List.mem_cons.mp hb with rfl|hb
  ·exact⟨fe.2.2.2.1,fe.2.1,fe.2.2.2.2.1,fe.2.2.2.2.2⟩
  ·cases List.mem_singleton.mp hb;exact⟨fi.2.2.2.1,fi.2.1,fi.2.2.2.2.1,fi.2.2.2.2.2⟩
 ·rw[aU (z4 (zw q))];exact n
 ·rw[aU (nd b _ q)];exact q
 ·rw[aU (nd b _ q)];exact q
 ·rw[aU (nd b _ q),q];simp
 ·obtain⟨o,es,ep,i,r⟩:=h;exact⟨o,es,ep,k _ o (KM fe.2.1) (KM fi.2.1) i,r⟩
 ·by_cases hb:b=s.heap.objs.size
  ·subst hb;rw[bK]at q;cases q;exact new
  ·rw[aU hb]at q;refine(I.hok b u q).stay (λc v a w=>k c v ?_ ?_ w) (λc w=>?_) λc ys w=>?_
   ·rcases a with rfl|z
    ·exact(f _ _ q).1
    ·exact(f _ _ z).1
   ·rcases a with rfl|z
    ·exact(f _ _ q).2
    ·exact(f _ _ z).2
   ·rw[aU (nd c _ w)];exact w
   ·rw[aU (nd c _ w)];exact w
end
def ID(K:B1)(l:A1):It:=
 ⟨λi H=>∃xs x,vI K H l xs/\xs[i]?=Z x,λi H v H'=>∃p x,H p=U/\(∀xs,vI K H l xs->xs[i]?=Z x)/\v=.ref p/\H'=B4 H p (.tup [.int i,x]),λi H=>∃xs,vI K H l xs/\xs.length<=i⟩
theorem Sm(l e it:A1)(t:e≠it):
  C2 P w K (.Tuple elts x1 tpos) (ID K l) [e,it] e (λi h=>(∃old,IsEnum h e it i old)/\h.IsListIter it l i) where
 mem:=by simp
 obj:=λi h st b hb=>by
  obtain⟨⟨old,h1⟩,o,h2,_,h3⟩:=st;rcases List.mem_cons.mp hb with rfl|hb
  ·exact⟨_,h1,λv z=>by cases z⟩
  ·cases List.mem_singleton.mp hb;exact⟨o,h2,λv z=>by rw[h3]at z;cases z⟩
 keep:=λi h h' st k=>by
  obtain⟨⟨old,h1⟩,h2⟩:=st;exact⟨⟨old,k e (by simp) _ h1⟩,h2.at λo q=>k it (by simp) o q⟩
 item:=by
  intro X d f j y i AN s σ H E I a st m;subst d f j;obtain⟨⟨old,h1⟩,h2⟩:=st;obtain⟨xs,x,c,hx⟩:=m;obtain⟨AQ,n,p,hz⟩:=I.list c;obtain⟨u,N,J⟩:=n.get hx;have fe:=a e (by simp);have fi:=a it (by simp);refine wpAny_pyNext_enum_item h1 h2 p.isList (x:=u) (by simpa using N) t λa0 ho M hT a1 F=>⟨_,rfl,?_⟩;refine wpAny_letOwnedTupleGo_enum ho λB D g=>?_;have elt:e<s.heap.objs.size:=zw h1;have L:it<s.heap.objs.size:=by obtain⟨_,q,_⟩:=h2;exact zw q
  have W:B.get? s.heap.objs.size=Z { cls:=.type "tuple",data:=.seq #[.int i s.toks,u] }:=(g.2 _ (Kb elt)).trans hT;have A:B.IsListIter it l (i+1):=M.at λo q=>(g.2 it (KM t)).trans q;refine⟨.ref s.heap.objs.size,B4 H s.heap.objs.size (.tup [.int i,x]),TK (t':=s.toks+1) I (λb o C G q=>(g.2 b C).trans (F b o C G q)) fe fi ⟨_,D⟩ (by obtain⟨o,q,_⟩:=A;exact⟨o,q⟩) ?_,rfl,⟨_,x,I.hok.fresh (zo _),λys hy=>by rw[I.Im hy c];exact hx,rfl,rfl⟩,⟨⟨_,by simpa using D⟩,A⟩,λb hb=>?_⟩
  ·exact⟨by show 2<=AA;decide,[.int i s.toks,u],.cons ⟨_,rfl⟩ (.cons J .nil),_,W,rfl,⟨_,rfl⟩,rfl⟩
  ·rcases List.mem_cons.mp hb with rfl|hb
   ·rw[aU (z4 elt)];exact fe.1
   ·cases List.mem_singleton.mp hb;rw[aU (z4 L)];exact fi.1
 done:=by
  intro X d f j y i AN s σ H E I a st m;subst d f j;obtain⟨⟨old,h1⟩,h2⟩:=st;obtain⟨xs,c,hx⟩:=m;obtain⟨AQ,n,p,hz⟩:=I.list c;obtain⟨f0,f1,f2,f3,Q,f5⟩:=a it (by simp);have hl:=n.length;exact wpAny_pyNext_enum_end (I.ok.hd y) h1 h2 p.isList (by simp;omega) λh' eb=>⟨rfl,I.turned (t':=s.toks) (λb o hb e=>eb b o hb e) f0 f1 f3 Q f5⟩
 self:=λ_ _ _ _ _ st h=>by
  obtain⟨⟨old,h1⟩,_⟩:=st;exact wpAny_pyIter_enum h1 h
def Ga(ds:O Dt):O Dt:=(List.range ds.length).zipWith (λk d=>.tup [.int (k:Nat),d]) ds
theorem Oj(ds:O Dt):(Ga ds).length=ds.length:=by simp[Ga]
theorem VQ(h:(Ga ds)[i]?=Z d):∃c,ds[i]?=Z c/\d=.tup [.int (i:Nat),c]:=by
 have hi:i<ds.length:=by
  have:=(List.getElem?_eq_some_iff.mp h).1;rwa [Oj]at this
 refine⟨ds[i],by simp[hi],?_⟩;unfold Ga at h;rw[K2]at h;simp[hi]at h;exact h.symm
theorem B0.enum(h:vI K Hs l vs)(r:aQ K Hs ds vs):B0 K (ID K l) (Ga ds) Hs:=λi H s=>by
 have h':=s.seq h;have g:=r.kp (.of s);refine⟨λd e=>?_,λe=>⟨vs,h',by rw[Oj]at e;rw[r.length];exact e⟩⟩;obtain⟨c,f,rfl⟩:=VQ e;obtain⟨v,ev,j⟩:=g.get f;refine⟨⟨vs,v,h',ev⟩,λx H' y=>?_⟩;obtain⟨p,n,hp,m,rfl,rfl⟩:=y;have:=m vs h';rw[ev]at this;cases this;have a:AV H (B4 H p (.tup [.int (i:Nat),v])):=λb o q=>by rw[aU (dU q hp)];exact q
 refine⟨a,?_⟩;simp only[AW];exact⟨p,_,rfl,.inl (.inl bK),aQ.cons (by simp only[AW]) (aQ.cons (AW.kp (.of a) j) aQ.nil)⟩
section
variable{p:Pos}{fs:Ev->Y (O Bx)}
def me(K:B1)(ta:TA):TI:=λσ H R=>ta σ H λvs H1=>∃l,vs=[.ref l]/\(∃xs,vI K H1 l xs)/\R (ID K l) H1
theorem am{ta:TA}(d:Gl X "enumerate")(g:X.mg "enumerate"=U)(j:PA X [e] ta)(hs:A9 [e] X.env=[(false,eval e X.env)]:=by rfl):PI X (.Tuple elts x1 tpos) (.Call (.Name "enumerate" p) [e] [] pos) (me X.K ta):=by
 intro AN s σ H R I h;refine Call_ (Pq I d g boot_enumerate (PyProof.Rows.callWith_type1 (jc (j pos AN s σ H _ I h) λus s1 ⟨vs,H1,I1,r1,q1⟩=>?_) hs S));obtain⟨l,rfl,⟨xs,m⟩,q⟩:=q1;obtain⟨u,rfl,i⟩:=BC r1;cases i;obtain⟨AQ,t,p,n⟩:=I1.list m;refine call_enumerate_list p.isList λh' a c o f=>?_;refine wpAny_pyIter_enum a ?_;refine⟨s1.heap.objs.size+1,[s1.heap.objs.size+1,s1.heap.objs.size],_,_,H1,rfl,I1.kept (t':=s1.toks) f,Sm l _ _ (Kb (qc _)),⟨⟨_,a⟩,c⟩,λb hb=>?_,q⟩;rcases List.mem_cons.mp hb with rfl|hb
 ·exact I1.Vx (JU _) (I1.hok.fresh (JU _))
 ·cases List.mem_singleton.mp hb;exact I1.Vx (zo _) (I1.hok.fresh (zo _))
def T8:O Bx->Y (O Dt)
 |[b]=>(sX b).bind λds=>Z (Ga ds)
 |_=>U
theorem Xs(c:Gl X "enumerate")(i:X.mg "enumerate"=U)(j:FS X [e] fs)(hs:A9 [e] X.env=[(false,eval e X.env)]:=by rfl):Nc X (.Tuple elts x1 tpos) (.Call (.Name "enumerate" p) [e] [] pos) (λρ=>(fs ρ).bind T8):=λAN s σ H R I q=>by
 refine am c i j hs AN s σ H R I ?_;obtain⟨H0,ρ,ds,E,e,q⟩:=q;obtain⟨bs,eb,e⟩:=AT e;refine⟨H0,ρ,bs,E,eb,λvs H1 f h=>?_⟩;unfold T8 at e;split at e
 ·rename_i b;obtain⟨m,g,e⟩:=AT e;cases e;obtain⟨v,rfl,rb⟩:=BN h;obtain⟨a,d,rfl,sq,l⟩:=rb.Ld g;exact⟨a,rfl,⟨d,sq⟩,q _ _ f (.enum sq l)⟩
 ·cases e
theorem b6(b:Gl X "enumerate")(a:X.mg "enumerate"=U)(c:XS X [e] fs)(hs:A9 [e] X.env=[(false,eval e X.env)]:=by rfl):EK X (.Tuple elts x1 tpos) (.Call (.Name "enumerate" p) [e] [] pos) (λρ=>(fs ρ).bind T8):=⟨Xs b a c.run hs⟩
end
def FH(j i:Nat)(f:Ev->Y Bx):Ev->Y Ap:=λρ=>(f ρ).bind λb=>match b with
 |.z (.int k)=>match ρ[i]? with
  |some (Z (.o ds))=>if -(2 ^ 62)<=k/\k<2 ^ 62 then(seqIndex? k ds.length).bind λm=>(ds[m]?).bind λd=>(ZJ (ρ.set i (Z (.o (ds.eraseIdx m)))) j (.z d)).bind λa=>Z (.nx a)else U
  |_=>U
 |_=>U
theorem JN{K:B1}{H:Hp}:∀(m:Nat) {ds:O Dt} {vs:O V},aQ K H ds vs->aQ K H (ds.eraseIdx m) (vs.eraseIdx m)
 |m,[],vs,h=>by
  cases vs with
  |nil=>exact h
  |cons v vs=>have:=h.length;simp at this
 |m,d::ds,vs,h=>by
  cases vs with
  |nil=>have:=h.length;simp at this
  |cons v vs=>
   obtain⟨a,r,e,q,t⟩:∃a r,v::vs=a::r/\AW K H d a/\aQ K H ds r:=by
    simpa only[aQ]using h
   cases e;cases m with
   |zero=>exact t
   |succ m=>exact aQ.cons q (JN m t)
theorem bi(j i:Nat){p:Pos}(nd:X.N.Nodup)(he:PV X e f)(P:X.N[i]?=Z x:=by rfl)(hv:Xx X.env.scope x:=by first|exact JE rfl|exact QP (JE S)|exact QP (QP S))(hd:(x==("__debug__":AJ))=false:=by decide)(a0:(x==("__classdict__":AJ))=false:=by decide)(s:A9 [e] X.env=[(false,eval e X.env)]:=by rfl)(W:attributeBase (.Name x p) "pop" X.env (eval (.Name x p) X.env)=eval (.Name x p) X.env:=by rfl)(M:((AD cpos (A9 [e] X.env)).all (λx=>!x.1)&&(backToKw cpos (keywordEach [] X.env)).all (λx=>x.1.isSome)
   && decide ([e].length+([]:O AC).length+(if([]:O AC).isEmpty then 0 else 1)<30))=true:=by rfl)(I:(apos.endLine==cpos.line)=true:=by rfl)(B:X.N[j]?=Z y:=by rfl)(hy:Cs X.env.scope y:=by first|exact JE rfl|exact QP S)(hs:swapsWith (.Call (.Attribute (.Name x p) "pop" apos) [e] [] cpos) (Z (.Name y p2)) pos.line X.env=pure false:=by rfl)(J:X.fn y=true\/X.env.scope.names.lookup y=Z .local:=by first|exact .inl rfl|exact .inr S):
  Hc X (.Assign [.Name y p2] (.Call (.Attribute (.Name x p) "pop" apos) [e] [] cpos) pos) (FH j i f):=
 VN (P5 nd B hy (Hn PySem.F.plainAttrs_list PySem.F.slot_list_pop PySem.F.type_list_pop eK (uy (i:=i) P hv hd a0) (tD he Du (by rw[s]<;>rfl)) W M I (by rw[s]<;>rfl) S) hs J) λD σ H h=>by
  obtain⟨H0,ρ,r,E,e,q⟩:=h;obtain⟨b,eb,e⟩:=AT e;split at e
  ·rename_i k;split at e
   ·rename_i ds o;split at e
    ·rename_i hb;obtain⟨m,A,e⟩:=AT e;obtain⟨d,ed,e⟩:=AT e;obtain⟨a1,C,e⟩:=AT e;cases e;obtain⟨v,e1,a,vs,rfl,l,n⟩:=E.val i _ o;refine⟨_,e1,.inl ⟨rfl,vs,.inl (.inl l)⟩,H0,ρ,_,E,eb,λu H1 c n1 r1=>?_⟩;have G:=E.grow c;have t:=n.kp (.of c);obtain⟨w,ew,Q⟩:=t.get ed;have K:u=.int k:=by simpa only[bB,AW]using r1
     subst K;have g:=c _ _ l;refine⟨a,vs,k,m,w,rfl,rfl,g,by omega,by omega,by rw[n.length];exact A,ew,?_⟩;have L:=G.abd o e1 g (JN m t);have kp:Kp H1 (B4 H1 a (.lst (vs.eraseIdx m))):=.lst g;exact q _ _ (X5 L (AV.refl _) (b:=.z d) (by simp only[bB];exact AW.kp kp Q) trivial C)
    ·cases e
   ·cases e
  ·cases e
theorem fF(j i:Nat){p:Pos}(nd:X.N.Nodup)(he:QV X e f)(a:X.N[i]?=Z x:=by rfl)(g:Xx X.env.scope x:=by first|exact JE rfl|exact QP (JE S)|exact QP (QP S))(hd:(x==("__debug__":AJ))=false:=by decide)(b:(x==("__classdict__":AJ))=false:=by decide)(l:A9 [e] X.env=[(false,eval e X.env)]:=by rfl)(m:attributeBase (.Name x p) "pop" X.env (eval (.Name x p) X.env)=eval (.Name x p) X.env:=by rfl)(o:((AD cpos (A9 [e] X.env)).all (λx=>!x.1)&&(backToKw cpos (keywordEach [] X.env)).all (λx=>x.1.isSome)
   && decide ([e].length+([]:O AC).length+(if([]:O AC).isEmpty then 0 else 1)<30))=true:=by rfl)(c:(apos.endLine==cpos.line)=true:=by rfl)(h:X.N[j]?=Z y:=by rfl)(n:Cs X.env.scope y:=by first|exact JE rfl|exact QP S)(hs:swapsWith (.Call (.Attribute (.Name x p) "pop" apos) [e] [] cpos) (Z (.Name y p2)) pos.line X.env=pure false:=by rfl)(d:X.fn y=true\/X.env.scope.names.lookup y=Z .local:=by first|exact .inl rfl|exact .inr S):
  Nx X (.Assign [.Name y p2] (.Call (.Attribute (.Name x p) "pop" apos) [e] [] cpos) pos) (FH j i f):=
 ⟨bi j i nd he.run a g hd b l m o c h n hs d⟩
def Ol:O Dt->Y B6
 |[]=>Z []
 |.int k::r=>(Ol r).bind λks=>Z (k::ks)
 |_=>U
def D2(ks:O Int):Bool:=decide (ks.length<=1000)&&ks.all λk=>decide (-1000000000000<=k/\k<=1000000000000)
def WQ:O Bx->Y Bx
 |[b]=>(sX b).bind λds=>(Ol ds).bind λks=>if D2 ks=true then Z (.z (.int ks.sum))else U
 |_=>U
theorem JQ{K:B1}{H:Hp}:∀{ds:O Dt} {ks:O Int} {vs:O V} {AQ:O A0},Ol ds=Z ks->aQ K H ds vs->AX vs AQ->AQ.length=ks.length/\∀i v,AQ[i]?=Z v->∃t,v=Value.int (ks.getD i 0) t
 |[],ks,vs,AQ,e,r,w=>by
  cases e;simp only[aQ]at r;subst r;cases w;exact⟨rfl,λi v h=>by simp at h⟩
 |d::ds,ks,vs,AQ,e,r,w=>by
  cases d with
  |int k=>
   simp only[Ol]at e;obtain⟨n,e1,e2⟩:=AT e;cases e2;obtain⟨a,b,rfl,q,t⟩:∃a b,vs=a::b/\AW K H (.int k) a/\aQ K H ds b:=by
    simpa only[aQ]using r
   have l:a=.int k:=by simpa only[AW]using q
   subst l;cases w with
   |cons m j=>
    obtain⟨c,rfl⟩:=m;obtain⟨f,g⟩:=JQ e1 t j;refine⟨by simp[f],λi v h=>?_⟩;cases i with
    |zero=>simp at h;exact⟨c,h.symm⟩
    |succ i=>simpa using g i v (by simpa using h)
  |_=>cases e
theorem BU(ks:O Int):∀n,n<=ks.length->preSum (λi=>ks.getD i 0) n=(ks.take n).sum
 |0,_=>by simp[preSum]
 |n+1,h=>by
  have a:n<ks.length:=by omega
  rw[preSum,BU ks n (by omega),List.take_succ_eq_append_getElem a,List.sum_append];simp[a]
theorem LG:∀(ks:O Int),(∀k∈ks,-1000000000000<=k/\k<=1000000000000) → -(1000000000000*(ks.length:Int))<=ks.sum/\ks.sum<=1000000000000*(ks.length:Int)
 |[],_=>by simp
 |k::ks,h=>by
  have h1:=h k (zh ..);have h2:=LG ks λx hx=>h x (zi _ hx);rw[j0,ZZ]
  push_cast
  omega
theorem WR(y:X.calm=true):uU X (.builtin "sum") WQ:=by
 intro AN s σ H xs us Q I r h;obtain⟨bs,c,rb,e,q⟩:=h;unfold WQ at e;split at e
 ·obtain⟨ds,J,e⟩:=AT e;obtain⟨ks,ek,e⟩:=AT e;split at e
  ·rename_i d;cases e;obtain⟨v,rfl,K⟩:=BN rb;obtain⟨a,vs,rfl,sq,C⟩:=K.Ld J;obtain⟨u,rfl,t⟩:=BC r;cases t;obtain⟨AQ,w,pl,P⟩:=I.list sq;obtain⟨l,L⟩:=JQ ek C w;unfold D2 at d;rw[ZN,zC,qB]at d;have f:∀k∈ks,-1000000000000<=k/\k<=1000000000000:=λk p=>qk (d.2 k p);have g:a<s.heap.objs.size:=by obtain⟨o,n,e,_⟩:=pl;exact zw e
   refine call_sum_walk (wpAny_pyIter_list pl.isList ?_);refine⟨s.heap.objs.size,_,_,_,_,_,λi=>ks.getD i 0,rfl,Walks.list (by show X.A.handled=U;exact I.ok.hd y) s.heap.objs.size a (z4 g) AQ.toArray,⟨⟨_,zv _ rfl,rfl,rfl⟩,pl.isList.push _⟩,?_,λi v hp=>?_,λj M=>?_,λh' tk t' k=>?_⟩
   ·intro b hb;have D:(s.heap.push { cls:=.type "list_iterator",data:=.fields #[.ref a,.int 0 0] }).objs.size=s.heap.objs.size+1:=qv ..;simp only[jv,JI,or_false]at hb;show b<(s.heap.push { cls:=.type "list_iterator",data:=.fields #[.ref a,.int 0 0] }).objs.size;rw[D];rcases hb with rfl|rfl
    ·exact qc _
    ·exact QE g
   ·exact L i v (by simpa using hp)
   ·have E:j<ks.length:=by
     have:AQ.toArray.size=ks.length:=by simpa using l
     omega
    have b1:=f (ks.getD j 0) (by simp[E]);have b2:=LG (ks.take (j+1)) λx hx=>f x (List.mem_of_mem_take hx);have N:(ks.take (j+1)).length<=1000:=by rw[ki];omega
    rw[BU ks (j+1) (by omega)];unfold InLong;dsimp only;refine⟨⟨by omega,by omega⟩,by omega,by omega⟩
   ·have m:AQ.toArray.size=ks.length:=by simpa using l
    rw[m,BU ks ks.length (zo _),List.take_length];have z:L2.AU X AN σ H { s with heap:=s.heap.push { cls:=.type "list_iterator",data:=.fields #[.ref a,.int 0 0] } }:=I.kept (t':=s.toks) λb o e=>ze _ e;refine⟨.int _,H,?_,⟨_,rfl⟩,q _ H (AV.refl H) trivial (by simp only[bB,AW])⟩;obtain⟨f0,f1,f2,F,B,G⟩:=I.Vx (b:=s.heap.objs.size) (H':=H) (zo _) (I.hok.fresh (zo _));exact z.turned (it:=s.heap.objs.size) (λb o hb e=>k b o (by simpa using hb) e) f0 f1 F B G
  ·cases e
 ·cases e
section
variable{ek ev:Expr}{st:AB}
def IE:Ev->Y Ap:=λ_=>U
theorem Pm:Nx X st IE:=⟨λD AN s σ H I q=>by
 obtain⟨H0,ρ,r,E,e,q⟩:=q;cases e⟩
def Yx(f:Ev->Y Bx):Ev->Y Ap:=λρ=>(f ρ).bind λ_=>Z (.nx ρ)
theorem hV(he:QV X e f)(hs:swapsWith e U pos.line X.env=pure false:=by rfl):Nx X (.Expr e pos) (Yx f):=⟨VN (Pr he.run hs) λD σ H h=>by
 obtain⟨H0,ρ,r,E,e,q⟩:=h;obtain⟨b,eb,e⟩:=AT e;cases e;exact⟨H0,ρ,b,E,eb,λv H1 a c d=>q _ _ (E.grow a)⟩⟩
def Om:Bx->Bx->Y Bx
 |.z (.str x),.z d=>Z (.m [(.inr x,d)] U)
 |_,_=>U
theorem WT{a c:Bx}(h:Om a b=Z c):∃x d,a=.z (.str x)/\b=.z d/\c=.m [(.inr x,d)] U:=by
 unfold Om at h;split at h
 ·cases h;exact⟨_,_,rfl,rfl,rfl⟩
 ·cases h
theorem TR(m:QV X ek fk)(n:QV X ev fv):QV X (.Dict [Z ek] [ev] pos) (b2 Om fk fv):=⟨Li (fz (WV m.run n.run eW) S S (by simp) (ZI S)) λσ H Q h=>by
 obtain⟨H0,ρ,c,E,e,q⟩:=h;obtain⟨a,ea,e⟩:=AT e;obtain⟨b,eb,e⟩:=AT e;intro p hp;have f:AV H (B4 H p (.dK [])):=cH hp;refine⟨H0,ρ,a,E.grow f,ea,λv H1 g u s=>⟨H0,ρ,b,(E.grow f).grow g,eb,λw H2 j y l=>?_⟩⟩;obtain⟨x,d,rfl,rfl,rfl⟩:=WT e;obtain⟨rfl,hx⟩:v=.str x/\x.length<=AA:=by simpa only[bB,AW]using s
 have i:H2 p=Z (.dK []):=j _ _ (g _ _ bK);have kp:Kp H2 (B4 H2 p (.dK (Dy [] [(Sum.inr x,w)]))):=.dk i;refine⟨i,[(Sum.inr x,w)],rfl,ZI rfl,q _ _ ?_ (λa ea=>by cases ea;exact hp) ⟨p,_,rfl,bK,?_,λb h=>by cases h⟩⟩
 ·intro b o hb;have t:b≠p:=λz=>by rw[z,hp]at hb;cases hb
  rw[aU t];exact j _ _ (g _ _ (f _ _ hb))
 ·exact gn.cons (p:=(Sum.inr x,d)) (AW.kp kp l) hx gn.nil⟩
def GT(AO:O (AY×α))(x:AY):Bool:=AO.any λa=>decide (a.1=x)
def EV(a:Bx):Bx->Y Bx
 |.n AO=>(D0 a).bind λx=>Z (.z (.bl (!GT AO x)))
 |_=>U
theorem gn.amw{p:A1}{ks:O (AY×V)}(b:Rd H p (.dK ks))(a:gn K H AO ks)(x:AY):∃o,FO H p (kV x) o/\o.isSome=GT AO x:=by
 refine⟨Dv ks x,.inl ⟨ks,x,b,rfl,rfl⟩,?_⟩;unfold GT Dv;rw[<-a.any,Option.isSome_map,QQ,List.find?_isSome,ko]
theorem Yy(t:X.A.units+100<cLine):IK X (AG .NotIn) EV:=by
 intro AN s σ H x y v u Q I f d h;obtain⟨a,b,c,m,rb,e,q⟩:=h;unfold EV at e;split at e
 ·rename_i AO;obtain⟨k,ek,e⟩:=AT e;cases e;obtain⟨p,ks,rfl,l,j⟩:=rb;obtain⟨rfl,_⟩:=Qq ek m;cases d;obtain⟨o,g,n⟩:=j.amw l k;exact Z' (by omega) I g f λs' i=>⟨.bl (!o.isSome),H,i,rfl,q _ H (AV.refl H) trivial (by simp only[bB,AW];rw[n])⟩
 ·cases e
end
section
variable{st:Expr}{fs:Ev->Y Bx}
def EO(a b:Bx):Y Bx:=(sX a).bind λds=>match b with
 |.z (.int i)=>if i = -1 then Z (.o ds.reverse)else U
 |_=>U
theorem Pp{a c:Bx}(h:EO a b=Z c):∃ds,sX a=Z ds/\b=.z (.int (-1))/\c=.o ds.reverse:=by
 unfold EO at h;obtain⟨ds,d,h'⟩:=AT h;clear h;split at h'
 ·split at h'
  ·rename_i hi;subst hi;injection h' with h';exact⟨ds,d,rfl,h'.symm⟩
  ·cases h'
 ·cases h'
theorem afe(he:QV X e f)(G:QV X st fs)(L:∀v i:A0,subscripted (.Slice U U (Z st) p2) false v i=operate [v,i] (getItem v i):=by intro _ _;with_unfolding_all rfl):QV X (.Subscript e (.Slice U U (Z st) p2) pos) (b2 EO f fs):=by
 refine⟨?_⟩;intro AN s σ H Q I h;obtain⟨H0,ρ,c,E,g,q⟩:=h;obtain⟨a,ea,g⟩:=AT g;obtain⟨b,eb,g⟩:=AT g;refine Subscript_ (jc (he.run AN s σ H (λx H1=>AV H H1/\bB X.K H1 a x) I ⟨H0,ρ,a,E,ea,λv H1 l M n=>⟨l,n⟩⟩) λv l ⟨x,H1,I1,n,sm1,BN⟩=>?_);refine wpAny_Slice ?_;rw[evalPart_none];refine zg ?_;refine zg ?_;rw[evalPart_some];refine jc (G.run AN l σ H1 (λy H2=>AV H1 H2/\bB X.K H2 b y) I1 ⟨H0,ρ,b,E.grow sm1,eb,λv H2 d N j=>⟨d,j⟩⟩) λvk d ⟨y,H2,I2,j,sm2,FD⟩=>?_;obtain⟨ds,C,rfl,rfl⟩:=Pp g;have F:y=.int (-1):=by simpa only[bB,AW]using FD
 subst F;obtain⟨tk,rfl⟩:=j;obtain⟨p,vs,rfl,sq,D⟩:=(BN.same sm2).Ld C;cases n;have t:L2.AU X AN σ H2 { d with heap:=d.heap.push { cls:=.type "slice",data:=.fields #[.none,.none,.int (-1) tk] } }:=I2.kept (t':=d.toks) λb J q=>ze _ q;obtain⟨AQ,r,B,u⟩:=t.list sq;show A7 (A8 X.prog X.w) X.A (subscriptTail e (.Slice U U (Z st) p2) (.ref p) (.ref d.heap.objs.size)) (EP X AN σ Q) X.xe { d with heap:=d.heap.push { cls:=.type "slice",data:=.fields #[.none,.none,.int (-1) tk] } };refine tail_any (ops:=[.ref p,.ref d.heap.objs.size]) B.isList.typeIs list_getitem_lookup (wpAny_getItem_list_slice B.isList (Heap.IsSliceOf.new ..) .none .none (.int _ _) (by decide) ?_ (by rw[zI,<-r.length];exact u)) (L _ _);rw[PySem.W.krv_pick];have m:=t.hok.fresh (zo _);refine⟨.ref _,_,t.laid (t':=d.toks) (o:=.lst vs.reverse) (λb J q=>ze _ q) (zo _) ?_,rfl,q _ _ ((sm1.trans sm2).trans (cH m)) (λa z=>by cases z;exact(sm1.trans sm2).free m) ?_⟩
 ·exact⟨by rw[List.length_reverse];exact u,AQ.reverse,0,r.reverse,zv _ rfl⟩
 ·exact⟨_,_,rfl,bK,(aQ.rev D).kp (.of (cH m))⟩
end
theorem ad{a b:Nat}(h:a≠b):@Ne A1 a b:=h
section
variable{K:Type} [DecidableEq K] {knd:KeyKind prog w K}
end
section
variable{ea eb:Expr}{p1 pos1 pos2:Pos}
end
theorem oH(xs:AZ)(is:O Nat)(e:closureFor scope X.env=pure cl:=by with_unfolding_all rfl)(c:scope.kind=.function:=by rfl)(d:scope.names.all (λy=>decide (y.2≠.cell)||(cl.lookup y.1).isNone)=true:=by rfl)(b:scope.names.all (λy=>decide (y.2=.local->scope.names.lookup y.1=Z .local))=true:=by decide +kernel)(sub:C8 X.env.cells cl:=by repeat (first|exact trivial|refine⟨rfl,?_⟩))(has:(relabel scope X.env).names.all (λy=>!(y.2==.cell||y.2==.free)||(cl.lookup y.1).isSome||scope.names.contains (y.1,.cell))=true:=by rfl)(a:Lj X scope cl xs is:=by repeat (first|exact RA|refine mx S (by first|exact .inl rfl|exact .inr S) (by first|exact .inl rfl|exact .inr S) ⟨_,rfl⟩ ?_)):uD X scope cl xs is:=Si e c d b sub has a
theorem j6{sc:Scope}(h1:sc.kind=.function:=by rfl)(h2:sc.isCoroutine=false:=by rfl)(a:sc.isGenerator=false:=by rfl)(e:N.Nodup:=by decide +kernel)(d:N.take ps.length=ps:=by rfl)(c:∀x∈ps,sc.names.lookup x=Z .local\/sc.names.lookup x=Z .cell:=by decide +kernel)(b:∀y∈sc.names,y.2≠.free:=by decide +kernel):bF N ps sc:=⟨h1,h2,a,e,d,c,b⟩
instance:Inhabited Dt:=⟨.non⟩
theorem At(a:α)(f:α->Y β):(Z a).bind f=f a:=(Option.bind_some a f).trans (Eq.refl _)
def hold:Y Prop->Prop
 |none=>True
 |some p=>p
def bC:Y Prop->Y Prop->Y Prop
 |none,q=>q
 |some p,U=>Z p
 |some p,Z q=>Z (p/\q)
def Ei(c:Prop):Y Prop->Y Prop
 |none=>U
 |some p=>Z (c->p)
theorem aC{p q:Y Prop}(h:hold (bC p q)):hold p/\hold q:=by
 cases p with
 |none=>exact⟨trivial,h⟩
 |some p=>cases q with
  |none=>exact⟨h,trivial⟩
  |some q=>exact h
theorem jT{c:Prop}{p:Y Prop}(h:hold (Ei c p))(a:c):hold p:=by
 cases p with
 |none=>trivial
 |some p=>exact h a
structure R {α β:Type} (f:Ev->Option β) (ρ:Ev) (c:α->β) where
 v:α
 D:Option Prop
 ok:hold D->f ρ=some (c v)
abbrev zE(e:α->Dt):α->Bx:=λa=>.z (e a)
abbrev oE(e:α->Dt):O α->Bx:=λxs=>.o (xs.map e)
abbrev lE(e:α->Dt):O α->Bx:=λxs=>.l (xs.map e)
abbrev tE:Bool->Bool:=λb=>b
abbrev iE(e:α->Dt):O α->O Dt:=λxs=>xs.map e
abbrev eI:Int->Dt:=Dt.int
abbrev eB:Bool->Dt:=Dt.bl
abbrev eS:AJ->Dt:=Dt.str
abbrev eN:Unit->Dt:=λ_=>.non
abbrev eL(e:α->Dt):O α->Dt:=λxs=>.lst (xs.map e)
abbrev eT(e:α->Dt):O α->Dt:=λxs=>.tup (xs.map e)
abbrev eO(e:α->Dt):Y α->Dt:=λo=>match o with|none=>.non|some a=>e a
abbrev N1(a:α->Dt):α->Dt:=λx=>.tup [a x]
abbrev WW(a:α->Dt)(b:β->Dt):α×β->Dt:=λx=>.tup [a x.1,b x.2]
abbrev DC(a:α->Dt)(b:β->Dt)(c:γ->Dt):α×β×γ->Dt:=λx=>.tup [a x.1,b x.2.1,c x.2.2]
abbrev Do(a:α->Dt)(b:β->Dt)(c:γ->Dt)(d:δ->Dt):α×β×γ×δ->Dt:=λx=>.tup [a x.1,b x.2.1,c x.2.2.1,d x.2.2.2]
structure RL {α:Type} (f:Ev->Option Bx) (ρ:Ev) (e:α->Dt) where
 v:List α
 D:Option Prop
 b:Bx
 lk:sX b=some (v.map e)
 ok:hold D->f ρ=some b
section
variable{fs:Ev->Y (O Bx)}{e:α->Dt}{e':β->Dt}
def jG(a:R f ρ (oE e)):RL f ρ e:=⟨a.v,a.D,_,rfl,a.ok⟩
def jh(a:R f ρ (lE e)):RL f ρ e:=⟨a.v,a.D,_,rfl,a.ok⟩
def Ah(a:R f ρ (zE (eL e))):RL f ρ e:=⟨a.v,a.D,_,rfl,a.ok⟩
def Lp(b:Bx)(ds:O Dt):Prop:=b=.z (.lst ds)\/b=.l ds
theorem Lp.Ld(h:Lp b ds):sX b=Z ds:=by rcases h with rfl|rfl<;>rfl
theorem Lp.get{b:Bx}{ds:O Dt}{i:Nat}(h:Lp b ds)(hi:ρ[i]?=Z (Z b)):uV ρ i=Z b:=by
 rcases h with rfl|rfl<;>(unfold uV;rw[hi])
theorem mX(h:sX b=Z ds):Lp (P1.lend b) ds:=by
 cases b with
 |z d=>cases d<;>cases h;exact .inl rfl
 |l d=>cases h;exact .inr rfl
 |o d=>cases h;exact .inr rfl
 |n d=>cases h
 |m d _=>cases h
def ao(i:Nat)(c:α->Bx)(a:α)(h:uV ρ i=Z (c a)):R (gv i) ρ c:=⟨a,U,λ_=>h⟩
def fM(i:Nat)(e:α->Dt)(a:O α)(h:Lp b (a.map e))(hi:ρ[i]?=Z (Z b)):RL (gv i) ρ e:=⟨a,U,b,h.Ld,λ_=>h.get hi⟩
def tX(d:Dt)(e:α->Dt)(a:α)(h:d=e a):R (cB d) ρ (zE e):=⟨a,U,λ_=>by rw[h];rfl⟩
def Ej(a:R f ρ (zE e)):R f ρ (zE (eO e)):=⟨Z a.v,a.D,a.ok⟩
def JR:R (cB .non) ρ (zE (eO e)):=⟨U,U,λ_=>S⟩
def yd[Inhabited α](a:R f ρ (zE (eO e))):R f ρ (zE e):=⟨a.v.getD default,bC a.D (Z (a.v.isSome=true)),λh=>by
 obtain⟨h1,h2⟩:=aC h;rw[a.ok h1];have h2:a.v.isSome=true:=h2;cases b:a.v with
 |none=>rw[b]at h2;cases h2
 |some x=>rfl⟩
def QH(a:R f ρ (oE e)):R (b1 Ba f) ρ (zE (eL e)):=⟨a.v,a.D,λh=>by simp only[b1,a.ok h,At,Ba]⟩
def oJ(a:R f ρ (zE e)):R (b1 Ba f) ρ (zE e):=⟨a.v,a.D,λh=>by simp only[b1,a.ok h,At,Ba]⟩
def lQ(a:R fa ρ (zE eI))(b:R fb ρ (zE eI)):R (b2 iH fa fb) ρ (zE eI):=⟨a.v+b.v,bC a.D b.D,λh=>by
 obtain⟨h1,h2⟩:=aC h;simp only[b2,a.ok h1,b.ok h2,At,iH]⟩
def Oo(a:R fa ρ (zE eI))(b:R fb ρ (zE eI)):R (b2 C1 fa fb) ρ (zE eI):=⟨a.v-b.v,bC a.D b.D,λh=>by
 obtain⟨h1,h2⟩:=aC h;simp only[b2,a.ok h1,b.ok h2,At,i2]⟩
def DD(a b:Int):Prop:=(-18446744073709551616<a/\a<18446744073709551616)\/(-18446744073709551616<b/\b<18446744073709551616)
def T9(a:R fa ρ (zE eI))(b:R fb ρ (zE eI)):R (b2 xO fa fb) ρ (zE eI):=⟨a.v*b.v,bC (bC a.D b.D) (Z (DD a.v b.v)),λh=>by
 obtain⟨h,c⟩:=aC h;obtain⟨h1,h2⟩:=aC h;simp only[b2,a.ok h1,b.ok h2,At];exact zr c⟩
def WX(n:Int)(a : -18446744073709551616<n/\n<18446744073709551616)(b:R fb ρ (zE eI)):R (b2 xO (cB (.int n)) fb) ρ (zE eI):=⟨n*b.v,b.D,λh=>by
 simp only[b2,b.ok h,At,cB];exact zr (.inl a)⟩
def Yz(a:R fa ρ (zE eI))(n:Int)(b : -18446744073709551616<n/\n<18446744073709551616):R (b2 xO fa (cB (.int n))) ρ (zE eI):=⟨a.v*n,a.D,λh=>by
 simp only[b2,a.ok h,At,cB];exact zr (.inr b)⟩
def QJ(a:R fa ρ (zE eI))(n:Int)(b:0<n/\n<1073741824):R (b2 SN fa (cB (.int n))) ρ (zE eI):=⟨a.v / n,a.D,λh=>by
 simp only[b2,a.ok h,At,i2,cB,zr b]⟩
def Cg(a:R fa ρ (zE eI))(b:R fb ρ (zE eI)):R (b2 jK fa fb) ρ (zE eI):=⟨a.v%b.v,bC (bC a.D b.D) (Z (0<b.v)),λh=>by
 obtain⟨h,c⟩:=aC h;obtain⟨h1,h2⟩:=aC h;have c:0<b.v:=c;simp only[b2,a.ok h1,b.ok h2,At,i2,zr c]⟩
def gJ(a:R fa ρ (zE eI))(n:Int)(b:0<n):R (b2 jK fa (cB (.int n))) ρ (zE eI):=⟨a.v%n,a.D,λh=>by
 simp only[b2,a.ok h,At,i2,cB,zr b]⟩
def lh(a b:Int)(n:Nat)(h:0<=b/\b<=1000/\a.natAbs<18446744073709551616)(hb:b.toNat=n):R (b2 Ha (cB (.int a)) (cB (.int b))) ρ (zE eI):=⟨a ^ n,U,λ_=>by
 simp only[b2,At,cB];show((if 0<=b/\b<=1000/\a.natAbs<2 ^ 64 then Z (Dt.int (a ^ b.toNat))else U).bind λd=>Z (Bx.z d))=_;rw[zr h,hb];rfl⟩
def LB(a:R fa ρ (zE eI))(b:R fb ρ (zE eI)):R (b2 Fk fa fb) ρ (zE eB):=⟨decide (a.v<=b.v),bC a.D b.D,λh=>by
 obtain⟨h1,h2⟩:=aC h;simp only[b2,a.ok h1,b.ok h2,At,i2]⟩
def FA(a:R fa ρ (zE eI))(b:R fb ρ (zE eI)):R (b2 EI fa fb) ρ (zE eB):=⟨decide (b.v<a.v),bC a.D b.D,λh=>by
 obtain⟨h1,h2⟩:=aC h;simp only[b2,a.ok h1,b.ok h2,At,i2]⟩
def FR(a:R fa ρ (zE eI))(b:R fb ρ (zE eI)):R (b2 Go fa fb) ρ (zE eB):=⟨decide (b.v<=a.v),bC a.D b.D,λh=>by
 obtain⟨h1,h2⟩:=aC h;simp only[b2,a.ok h1,b.ok h2,At,i2]⟩
def YB(a:R fa ρ (zE eI))(b:R fb ρ (zE eI)):R (b2 EG fa fb) ρ (zE eB):=⟨decide (a.v<b.v),bC a.D b.D,λh=>by
 obtain⟨h1,h2⟩:=aC h;simp only[b2,a.ok h1,b.ok h2,At,EG]⟩
def qO(x y:AJ):Bool:=decide (x.cps.toList<y.cps.toList)
end
class B8 {α:Type} [DecidableEq α] (e:α->Dt) (n:outParam Nat):Prop where
 eq:∀a b,GD (e a) (e b)=some (decide (a=b))
 dp:∀a,zN (e a)<=n
class CI {α:Type} (e:α->Dt):Prop where
 l:∀a,GD .non (e a)=some false
 r:∀a,GD (e a) .non=some false
instance:B8 eI 1:=⟨λa b=>rfl,λa=>by simp[zN]⟩
instance:B8 eB 1:=⟨λa b=>rfl,λa=>by simp[zN]⟩
instance:B8 eS 1:=⟨λa b=>rfl,λa=>by simp[zN]⟩
instance:CI eI:=⟨λa=>rfl,λa=>rfl⟩
instance:CI eB:=⟨λa=>rfl,λa=>rfl⟩
instance:CI eS:=⟨λa=>rfl,λa=>rfl⟩
section
variable [DecidableEq α] [DecidableEq β] [DecidableEq γ] [DecidableEq δ] {e:α->Dt}{e':β->Dt}{e'':γ->Dt}{e3:δ->Dt}{m k l:Nat}
theorem JT[B8 e n]:∀xs ys:O α,oM (xs.map e) (ys.map e)=Z (decide (xs=ys))
 |[],[]=>by simp[oM]
 |[],y::ys=>by simp[oM]
 |x::xs,[]=>by simp[oM]
 |x::xs,y::ys=>by
  simp only[zl,oM,B8.eq,JT xs ys];congr 1;by_cases h:x=y<;>by_cases h':xs=ys<;>simp[h,h']
theorem JV[B8 e n]:∀xs:O α,xH (xs.map e)<=n
 |[]=>by simp[xH]
 |x::xs=>by
  have:=B8.dp (e:=e) x;have:=JV xs;simp only[zl,xH];omega
instance [B8 e n]:B8 (eL e) (n+1):=⟨λa b=>JT a b,λa=>by simp only[zN];have:=JV (e:=e) a;omega⟩
instance [B8 e n]:B8 (eT e) (n+1):=⟨λa b=>JT a b,λa=>by simp only[zN];have:=JV (e:=e) a;omega⟩
instance:CI (eL e):=⟨λa=>rfl,λa=>rfl⟩
instance:CI (eT e):=⟨λa=>rfl,λa=>rfl⟩
instance:CI (N1 e):=⟨λa=>rfl,λa=>rfl⟩
instance:CI (WW e e'):=⟨λa=>rfl,λa=>rfl⟩
instance:CI (DC e e' e''):=⟨λa=>rfl,λa=>rfl⟩
instance:CI (Do e e' e'' e3):=⟨λa=>rfl,λa=>rfl⟩
instance [B8 e n]:B8 (N1 e) (n+1):=⟨λa b=>by
 simp only[Hx,oM,B8.eq,yb],λa=>by
 have:=B8.dp (e:=e) a;simp only[zN,xH];omega⟩
instance [B8 e n] [B8 e' m]:B8 (WW e e') (max n m+1):=⟨λa b=>by
 obtain⟨a,a'⟩:=a;obtain⟨b,b'⟩:=b;simp only[Hx,oM,B8.eq,Prod.mk.injEq,Bool.decide_and,yb],λa=>by
 have:=B8.dp (e:=e) a.1;have:=B8.dp (e:=e') a.2;simp only[zN,xH];omega⟩
instance [B8 e n] [B8 e' m] [B8 e'' k]:B8 (DC e e' e'') (max n (max m k)+1):=⟨λa b=>by
 obtain⟨a,a',a2⟩:=a;obtain⟨b,b',b2⟩:=b;simp only[Hx,oM,B8.eq,Prod.mk.injEq,Bool.decide_and,yb],λa=>by
 have:=B8.dp (e:=e) a.1;have:=B8.dp (e:=e') a.2.1;have:=B8.dp (e:=e'') a.2.2;simp only[zN,xH];omega⟩
instance [B8 e n] [B8 e' m] [B8 e'' k] [B8 e3 l]:B8 (Do e e' e'' e3) (max n (max m (max k l))+1):=⟨λa b=>by
 obtain⟨a,a',a2,a3⟩:=a;obtain⟨b,b',b2,b3⟩:=b;simp only[Hx,oM,B8.eq,Prod.mk.injEq,Bool.decide_and,yb],λa=>by
 have:=B8.dp (e:=e) a.1;have:=B8.dp (e:=e') a.2.1;have:=B8.dp (e:=e'') a.2.2.1;have:=B8.dp (e:=e3) a.2.2.2;simp only[zN,xH];omega⟩
instance [B8 e n] [CI e]:B8 (eO e) (n+1):=⟨λa b=>by
 cases a with
 |none=>cases b with
  |none=>exact rfl
  |some b=>exact(CI.l (e:=e) b).trans (by simp)
 |some a=>cases b with
  |none=>exact(CI.r (e:=e) a).trans (by simp)
  |some b=>exact(B8.eq (e:=e) a b).trans (by simp),λa=>by
 cases a with
 |none=>show zN .non<=n+1;simp[zN]
 |some a=>exact Nat.le_succ_of_le (B8.dp (e:=e) a)⟩
end
section
variable{fs:Ev->Y (O Bx)}{e:α->Dt}{e':β->Dt}
def BH[DecidableEq α][B8 e n](c:n<=100)(a:R fa ρ (zE e))(b:R fb ρ (zE e)):R (b2 BT fa fb) ρ (zE eB):=⟨decide (a.v=b.v),bC a.D b.D,λh=>by
 obtain⟨h1,h2⟩:=aC h;have:=B8.dp (e:=e) a.v;simp only[b2,a.ok h1,b.ok h2,At,BT,xM,toD,zt,or_self,Z3,B8.eq];rw[zr (by omega)]⟩
def Lz[DecidableEq α][B8 e n](c:n<=100)(a:R fa ρ (zE e))(b:R fb ρ (zE e)):R (b2 ZQ fa fb) ρ (zE eB):=⟨!decide (a.v=b.v),bC a.D b.D,λh=>by
 obtain⟨h1,h2⟩:=aC h;have:=B8.dp (e:=e) a.v;simp only[b2,a.ok h1,b.ok h2,At,ZQ,xM,toD,zt,or_self,Z3,B8.eq];rw[zr (by omega)]⟩
theorem HW(h:sX b=Z ds):toD b=.lst ds/\xM b=false:=by
 cases b with
 |z d=>cases d<;>cases h;exact⟨rfl,rfl⟩
 |l d=>cases h;exact⟨rfl,rfl⟩
 |o d=>cases h;exact⟨rfl,rfl⟩
 |n d=>cases h
 |m d _=>cases h
def Sb[DecidableEq α][B8 e n](c:n+1<=100)(a:RL fa ρ e)(b:RL fb ρ e):R (b2 BT fa fb) ρ (zE eB):=⟨decide (a.v=b.v),bC a.D b.D,λh=>by
 obtain⟨h1,h2⟩:=aC h;have:=B8.dp (e:=eL e) a.v;simp only[b2,a.ok h1,b.ok h2,At,BT,(HW a.lk).1,(HW a.lk).2,(HW b.lk).1,(HW b.lk).2,zt,or_self,Z3];have e1:=B8.eq (e:=eL e) a.v b.v;rw[zr (ZO (Nat.min_le_left _ _) (ZO (B8.dp (e:=eL e) a.v) c)),e1,At]⟩
def MB(a:R fa ρ (zE (eO e)))(b:∀x,Jk (.z (e x))=false):R (b2 D5 fa (cB .non)) ρ (zE eB):=⟨a.v.isNone,a.D,λh=>by
 simp only[b2,a.ok h,At,cB,D5];cases c:a.v with
 |none=>rfl
 |some x=>simp only[Option.isNone_some,b]⟩
def QK(a:R fa ρ (zE (eO e)))(b:∀x,Jk (.z (e x))=false):R (b2 Jl fa (cB .non)) ρ (zE eB):=⟨a.v.isSome,a.D,λh=>by
 simp only[b2,a.ok h,At,cB,Jl];cases c:a.v with
 |none=>rfl
 |some x=>simp only[yB,b,k6]⟩
def MW(a:R fa ρ (zE eB))(b:R fb ρ (zE eB)):R (FF fa fb) ρ (zE eB):=⟨a.v&&b.v,bC a.D (Ei (a.v=true) b.D),λh=>by
 obtain⟨h1,h2⟩:=aC h;simp only[FF,a.ok h1,At,PN];cases c:a.v with
 |true=>simp only[qV,y8];exact b.ok (jT h2 c)
 |false=>simp only[zt,Z3,KP]⟩
def Oy(a:R fa ρ (zE eB)):R (tV fa) ρ tE:=⟨a.v,a.D,λh=>by simp only[tV,a.ok h,At,VR]⟩
def be(a:R fa ρ (zE (eT e))):R (tV fa) ρ tE:=⟨!a.v.isEmpty,a.D,λh=>by
 simp only[tV,a.ok h,At,VR,List.isEmpty_map]⟩
def YC(a:RL fa ρ e):R (tV fa) ρ tE:=⟨!a.v.isEmpty,a.D,λh=>by
 have:VR a.b=Z (!(a.v.map e).isEmpty):=by
  have:=a.lk;generalize a.v.map e=ds at this
  revert this
  generalize a.b=b;intro this;cases b with
  |z d=>cases d<;>cases this;rfl
  |l d=>cases this;rfl
  |o d=>cases this;rfl
  |n d=>cases this
  |m d _=>cases this
 simp only[tV,a.ok h,At,this,List.isEmpty_map]⟩
def cL{g:Bx->Bx->Y Bx}(a:R (b2 g fa fb) ρ (zE eB)):R (pK g fa fb) ρ tE:=⟨a.v,a.D,λh=>by simp only[pK,a.ok h,At,PN]⟩
def Gd(a:R p ρ tE)(b:R q ρ tE):R (GC p q) ρ tE:=⟨a.v&&b.v,bC a.D (Ei (a.v=true) b.D),λh=>by
 obtain⟨h1,h2⟩:=aC h;simp only[GC,a.ok h1,At];cases c:a.v with
 |true=>simp only[qV,y8];exact b.ok (jT h2 c)
 |false=>simp only[zt,Z3,KP]⟩
def EX(a:R p ρ tE)(b:R q ρ tE):R (D3 p q) ρ tE:=⟨a.v||b.v,bC a.D (Ei (a.v=false) b.D),λh=>by
 obtain⟨h1,h2⟩:=aC h;simp only[D3,a.ok h1,At];cases c:a.v with
 |true=>simp only[qV,Bool.true_or]
 |false=>simp only[zt,Z3,Bool.false_or];exact b.ok (jT h2 c)⟩
def HL(a:R p ρ tE):R (ZG p) ρ tE:=⟨!a.v,a.D,λh=>by simp only[ZG,a.ok h,At]⟩
def aT{g g':Bx->Bx->Y Bx}(a:R (b2 g fa fb) ρ (zE eB))(b:R (b2 g' fb fc) ρ (zE eB)):R (FL g g' fa fb fc) ρ (zE eB):=⟨a.v&&b.v,bC a.D (Ei (a.v=true) b.D),λh=>by
 obtain⟨h1,d⟩:=aC h;have e1:=a.ok h1;simp only[b2]at e1;obtain⟨x,ex,e1⟩:=AT e1;obtain⟨y,c,e1⟩:=AT e1;simp only[FL,ex,c,At,e1,PN];cases e:a.v with
 |true=>
  have e2:=b.ok (jT d e);simp only[b2,c,At]at e2;simp only[qV,y8];exact e2
 |false=>simp only[zt,Z3,KP]⟩
def aI{c:α->Bx}(t:R p ρ tE)(a:R fa ρ c)(b:R fb ρ c):R (HH p fa fb) ρ c:=⟨if t.v=true then a.v else b.v,bC t.D (bC (Ei (t.v=true) a.D) (Ei (t.v=false) b.D)),λh=>by
 obtain⟨h1,h2⟩:=aC h;obtain⟨h2,e⟩:=aC h2;simp only[HH,t.ok h1,At];cases d:t.v with
 |true=>simp only[qV];exact a.ok (jT h2 d)
 |false=>simp only[zt,Z3];exact b.ok (jT e d)⟩
end
section
variable{ε:Type}{fd:Ev->Y Bx}{fs:Ev->Y (O Bx)}{e:α->Dt}{e':β->Dt}{e'':γ->Dt}{e3:δ->Dt}
def ND(e:α->Dt):R (cZ jN aJ) ρ (zE (eT e)):=⟨[],U,λ_=>S⟩
def cK(a:R fa ρ (zE e))(b:R fb ρ (zE e')):R (cZ jN (aq fa (aq fb aJ))) ρ (zE (WW e e')):=⟨(a.v,b.v),bC a.D b.D,λh=>by
 obtain⟨h1,h2⟩:=aC h;simp only[cZ,aq,aJ,a.ok h1,b.ok h2,At];rfl⟩
def mK(a:R fa ρ (zE e))(b:R fb ρ (zE e'))(c:R fc ρ (zE e'')):R (cZ jN (aq fa (aq fb (aq fc aJ)))) ρ (zE (DC e e' e'')):=⟨(a.v,b.v,c.v),bC a.D (bC b.D c.D),λh=>by
 obtain⟨h1,h⟩:=aC h;obtain⟨h2,d⟩:=aC h;simp only[cZ,aq,aJ,a.ok h1,b.ok h2,c.ok d,At];rfl⟩
def yg(a:R fa ρ (zE e))(b:R fb ρ (zE e'))(c:R fc ρ (zE e''))(d:R fd ρ (zE e3)):R (cZ jN (aq fa (aq fb (aq fc (aq fd aJ))))) ρ (zE (Do e e' e'' e3)):=⟨(a.v,b.v,c.v,d.v),bC a.D (bC b.D (bC c.D d.D)),λh=>by
 obtain⟨h1,h⟩:=aC h;obtain⟨h2,h⟩:=aC h;obtain⟨g,f⟩:=aC h;simp only[cZ,aq,aJ,a.ok h1,b.ok h2,c.ok g,d.ok f,At];rfl⟩
def lR(e:α->Dt):R aJ ρ (λxs:O α=>xs.map (zE e)):=⟨[],U,λ_=>S⟩
def j7(a:R fa ρ (zE e))(t:R fs ρ (λxs:O α=>xs.map (zE e))):R (aq fa fs) ρ (λxs:O α=>xs.map (zE e)):=⟨a.v::t.v,bC a.D t.D,λh=>by
 obtain⟨h1,h2⟩:=aC h;simp only[aq,a.ok h1,t.ok h2,At,zl]⟩
theorem JW:∀xs:O α,PX (xs.map (zE e))=Z (xs.map e)
 |[]=>rfl
 |x::xs=>by simp only[zl,PX,JW xs,At]
def rW(t:R fs ρ (λxs:O α=>xs.map (zE e)))(a:t.v.length<=1000):R (cZ sY fs) ρ (oE e):=⟨t.v,t.D,λh=>by
 simp only[cZ,t.ok h,At,sY,zk,zr a,JW]⟩
def dL(t:R fs ρ (λxs:O α=>xs.map (zE e)))(a:t.v.length<=1000):R (cZ jN fs) ρ (zE (eT e)):=⟨t.v,t.D,λh=>by
 simp only[cZ,t.ok h,At,jN,zk,zr a,JW]⟩
def at'[Inhabited α](xs:O α)(i:Int):α:=(Lf xs i).getD default
def In(n:Nat)(i:Int):Prop:=-(n:Int)<=i/\i<n
theorem QL{xs:O α}{i:Int}(h:In xs.length i):∃x,Lf xs i=Z x:=by
 obtain⟨h1,h2⟩:=h;unfold Lf EU;by_cases h0:0<=i
 ·rw[zr h0,zr h2];exact⟨xs[i.toNat]'(by omega),Zl (by omega)⟩
 ·rw[zD h0,zr h1];exact⟨xs[(i+xs.length).toNat]'(by omega),Zl (by omega)⟩
theorem iq{xs:O α}{i:Int}{x:α}(h:Lf xs i=Z x):Lf (xs.map e) i=Z (e x):=by
 unfold Lf at h ⊢;rw[zk];obtain⟨j,a,h⟩:=AT h;rw[a,At,ZE,h];rfl
theorem NH[Inhabited α]{xs:O α}{i:Int}(h:In xs.length i):Lf (xs.map e) i=Z (e (at' xs i)):=by
 obtain⟨x,hx⟩:=QL h;rw[iq hx];unfold at';rw[hx];rfl
theorem l7{i:Int}(h:sX b=Z ds):fH b (.z (.int i))=(Lf ds i).bind λd=>Z (.z d):=by
 cases b with
 |z d=>cases d<;>cases h;rfl
 |l d=>cases h;rfl
 |o d=>cases h;rfl
 |n d=>cases h
 |m d _=>cases h
def j8[Inhabited α](a:RL fa ρ e)(b:R fb ρ (zE eI)):R (b2 fH fa fb) ρ (zE e):=⟨at' a.v b.v,bC (bC a.D b.D) (Z (In a.v.length b.v)),λh=>by
 obtain⟨h,c⟩:=aC h;obtain⟨h1,h2⟩:=aC h;simp only[b2,a.ok h1,b.ok h2,At,l7 a.lk,NH (show In a.v.length b.v from c)]⟩
def Ge[Inhabited α](a:R fa ρ (zE (eT e)))(b:R fb ρ (zE eI)):R (b2 fH fa fb) ρ (zE e):=⟨at' a.v b.v,bC (bC a.D b.D) (Z (In a.v.length b.v)),λh=>by
 obtain⟨h,c⟩:=aC h;obtain⟨h1,h2⟩:=aC h;simp only[b2,a.ok h1,b.ok h2,At,fH,Ab,NH (show In a.v.length b.v from c)]⟩
def ch(x:AJ)(i:Int):AJ:=⟨#[(Lf x.cps.toList i).getD 0]⟩
def Ua(a:R fa ρ (zE eS))(b:R fb ρ (zE eI)):R (b2 fH fa fb) ρ (zE eS):=⟨ch a.v b.v,bC (bC a.D b.D) (Z (In a.v.length b.v)),λh=>by
 obtain⟨h,c⟩:=aC h;obtain⟨h1,h2⟩:=aC h;obtain⟨x,hx⟩:=QL (xs:=a.v.cps.toList) (i:=b.v) (show In a.v.length b.v from c);simp only[b2,a.ok h1,b.ok h2,At,fH,hx,ch,Option.getD_some]⟩
def cV(a:R fa ρ (zE e))(g:α->β)(e':β->Dt)(i:Int)(h:∀x,fH (.z (e x)) (.z (.int i))=Z (.z (e' (g x)))):R (b2 fH fa (cB (.int i))) ρ (zE e'):=⟨g a.v,a.D,λhd=>by
 simp only[b2,a.ok hd,At,cB,h]⟩
def LL(a:R fa ρ (zE e))(g:α->β)(e':β->Dt)(i:Int)(h:∀x,fH (.z (e x)) (.z (.int (-i)))=Z (.z (e' (g x)))):R (b2 fH fa (b1 Qg (cB (.int i)))) ρ (zE e'):=⟨g a.v,a.D,λhd=>by
 simp only[b2,b1,a.ok hd,At,cB,Qg,h]⟩
def BE(xs:O α)(lo hi:Y Int):O α:=(xs.drop (HT.jM xs.length 0 lo)).take (HT.jM xs.length xs.length hi-HT.jM xs.length 0 lo)
theorem YD(xs:O α)(lo hi:Y Int):C0 (xs.map e) lo hi=(BE xs lo hi).map e:=by
 unfold C0 BE;rw[zk,List.map_take,List.map_drop]
abbrev pE:Y Int->Y Int:=λo=>o
def JX:R oN ρ pE:=⟨U,U,λ_=>S⟩
def JZ(a:R fa ρ (zE eI)):R (tL fa) ρ pE:=⟨Z a.v,a.D,λh=>by simp only[tL,a.ok h,At,Hk]⟩
variable{fl fh:Ev->Y (Y Int)}
theorem iL(h:sX b=Z ds):EB b lo hi=Z (.o (C0 ds lo hi)):=by
 cases b with
 |z d=>cases d<;>cases h;rfl
 |l d=>cases h;rfl
 |o d=>cases h;rfl
 |n d=>cases h
 |m d _=>cases h
def F7(a:RL fa ρ e)(l:R fl ρ pE)(u:R fh ρ pE):R (N5 fa fl fh) ρ (oE e):=⟨BE a.v l.v u.v,bC a.D (bC l.D u.D),λh=>by
 obtain⟨h1,h⟩:=aC h;obtain⟨h2,b⟩:=aC h;simp only[N5,a.ok h1,l.ok h2,u.ok b,At,iL a.lk,YD]⟩
def NN(a:R fa ρ (zE (eT e)))(l:R fl ρ pE)(u:R fh ρ pE):R (N5 fa fl fh) ρ (zE (eT e)):=⟨BE a.v l.v u.v,bC a.D (bC l.D u.D),λh=>by
 obtain⟨h1,h⟩:=aC h;obtain⟨h2,b⟩:=aC h;simp only[N5,a.ok h1,l.ok h2,u.ok b,At,EB,YD]⟩
def YF(a:R fa ρ (zE eS))(l:R fl ρ pE)(u:R fh ρ pE):R (N5 fa fl fh) ρ (zE eS):=⟨Txt.slice a.v l.v u.v,bC a.D (bC l.D u.D),λh=>by
 obtain⟨h1,h⟩:=aC h;obtain⟨h2,b⟩:=aC h;simp only[N5,a.ok h1,l.ok h2,u.ok b,At,EB]⟩
def Ek(n:Nat):Prop:=n<=1000000
def El(a:R fa ρ (zE eS))(b:R fb ρ (zE eS)):R (b2 iH fa fb) ρ (zE eS):=⟨a.v++b.v,bC (bC a.D b.D) (Z (Ek (a.v.length+b.v.length))),λh=>by
 obtain⟨h,c⟩:=aC h;obtain⟨h1,h2⟩:=aC h;simp only[b2,a.ok h1,b.ok h2,At,iH,zr (show a.v.length+b.v.length<=V9 from c)]⟩
def UE(a:R fa ρ (zE (eT e)))(b:R fb ρ (zE (eT e))):R (b2 iH fa fb) ρ (zE (eT e)):=⟨a.v++b.v,bC (bC a.D b.D) (Z (Ek (a.v.length+b.v.length))),λh=>by
 obtain⟨h,c⟩:=aC h;obtain⟨h1,h2⟩:=aC h;simp only[b2,a.ok h1,b.ok h2,At,iH,zk,zr (show a.v.length+b.v.length<=V9 from c),zE,eT,ZT]⟩
theorem g9{e:Bx}{f:O Dt}(h:sX b=Z ds)(h':sX e=Z f)(c:ds.length+f.length<=V9):iH b e=Z (.o (ds++f)):=by
 cases b with
 |z d=>
  cases d<;>cases h;cases e with
  |z a=>cases a<;>cases h';exact zr c
  |l a=>cases h';exact zr c
  |o a=>cases h';exact zr c
  |n a=>cases h'
  |m a=>cases h'
 |l d=>
  cases h;cases e with
  |z a=>cases a<;>cases h';exact zr c
  |l a=>cases h';exact zr c
  |o a=>cases h';exact zr c
  |n a=>cases h'
  |m a=>cases h'
 |o d=>
  cases h;cases e with
  |z a=>cases a<;>cases h';exact zr c
  |l a=>cases h';exact zr c
  |o a=>cases h';exact zr c
  |n a=>cases h'
  |m a=>cases h'
 |n d=>cases h
 |m d _=>cases h
def WY(a:RL fa ρ e)(b:RL fb ρ e):R (b2 iH fa fb) ρ (oE e):=⟨a.v++b.v,bC (bC a.D b.D) (Z (Ek (a.v.length+b.v.length))),λh=>by
 obtain⟨h,c⟩:=aC h;obtain⟨h1,h2⟩:=aC h;simp only[b2,a.ok h1,b.ok h2,At];rw[g9 a.lk b.lk (by rw[zk,zk];exact c)];simp only[oE,ZT]⟩
def df(a:R fa ρ (zE eS))(b:R fb ρ (zE eI)):R (b2 xO fa fb) ρ (zE eS):=⟨Txt.mul a.v b.v,bC (bC a.D b.D) (Z (b.v<=1000 ∧ -1000<=b.v/\a.v.length<=1000)),λh=>by
 obtain⟨h,c⟩:=aC h;obtain⟨h1,h2⟩:=aC h;simp only[b2,a.ok h1,b.ok h2,At];exact zr c⟩
theorem SW(h:sX b=Z ds):uF [b]=Z (.z (.int ds.length)):=by
 cases b with
 |z d=>cases d<;>cases h;rfl
 |l d=>cases h;rfl
 |o d=>cases h;rfl
 |n d=>cases h
 |m d _=>cases h
theorem UB(h:sX b=Z ds):Ab b=Z ds:=by
 cases b with
 |z d=>cases d<;>cases h;rfl
 |l d=>cases h;rfl
 |o d=>cases h;rfl
 |n d=>cases h
 |m d _=>cases h
def FU(a:RL fa ρ e):R (cZ uF (aq fa aJ)) ρ (zE eI):=⟨(a.v.length:Int),a.D,λh=>by
 simp only[cZ,aq,aJ,a.ok h,At,SW a.lk,zk]⟩
def uG(a:R fa ρ (zE (eT e))):R (cZ uF (aq fa aJ)) ρ (zE eI):=⟨(a.v.length:Int),a.D,λh=>by
 simp only[cZ,aq,aJ,a.ok h,At,uF,Ab,zk]⟩
def fw(a:R fa ρ (zE eS)):R (cZ uF (aq fa aJ)) ρ (zE eI):=⟨(a.v.length:Int),a.D,λh=>by
 simp only[cZ,aq,aJ,a.ok h,At,uF]⟩
def iz(a:RL fa ρ e):R (cZ gF (aq fa aJ)) ρ (zE (eT e)):=⟨a.v,a.D,λh=>by
 simp only[cZ,aq,aJ,a.ok h,At,gF,UB a.lk]⟩
def SU(a:R fa ρ (zE eI)):R (cZ FV (aq fa aJ)) ρ (zE eI):=⟨if a.v<0 then -a.v else a.v,a.D,λh=>by
 simp only[cZ,aq,aJ,a.ok h,At,FV]⟩
def gf(a:R fa ρ (zE eB)):R (cZ F2 (aq fa aJ)) ρ (zE eI):=⟨if a.v=true then 1 else 0,a.D,λh=>by
 simp only[cZ,aq,aJ,a.ok h,At,F2]⟩
def Gf(a:R fa ρ (zE eI))(b:R fb ρ (zE eI)):R (cZ GJ (aq fa (aq fb aJ))) ρ (zE eI):=⟨if b.v>a.v then b.v else a.v,bC a.D b.D,λh=>by
 obtain⟨h1,h2⟩:=aC h;simp only[cZ,aq,aJ,a.ok h1,b.ok h2,At,GJ]⟩
def YG(a:R fa ρ (zE eI))(b:R fb ρ (zE eI)):R (cZ S8 (aq fa (aq fb aJ))) ρ (zE eI):=⟨if b.v<a.v then b.v else a.v,bC a.D b.D,λh=>by
 obtain⟨h1,h2⟩:=aC h;simp only[cZ,aq,aJ,a.ok h1,b.ok h2,At,S8]⟩
theorem BY:∀l:AZ,Jo (l.map eS)=Z l
 |[]=>rfl
 |a::l=>by simp only[zl,Jo,BY l,At]
def fq(s:AJ)(a:RL fa ρ eS):R (b1 (S7 s) fa) ρ (zE eS):=⟨Txt.join s a.v,bC a.D (Z ((a.v.map (·.length)).sum+a.v.length*s.length<=100000)),λh=>by
 obtain⟨h,b⟩:=aC h;simp only[b1,a.ok h,At,S7,a.lk,BY];exact zr b⟩
def Th(a:RL fa ρ eS):R (cZ N6 (aq fa aJ)) ρ (oE eS):=⟨xT a.v,bC a.D (Z (a.v.length<64)),λh=>by
 obtain⟨h,b⟩:=aC h;simp only[cZ,aq,aJ,a.ok h,At,N6,a.lk,BY];exact zr b⟩
def LH(a:R fa ρ (zE e))(g:α->β)(e':β->Dt)(lo hi:Y Int)(c:fl ρ=Z lo)(b:fh ρ=Z hi)(h:∀x,EB (.z (e x)) lo hi=Z (.z (e' (g x)))):R (N5 fa fl fh) ρ (zE e'):=⟨g a.v,a.D,λhd=>by
 simp only[N5,a.ok hd,c,b,At,h]⟩
class C7 {α:Type} (e:α->Dt):Prop where
 f:∀a,Bv (e a)=true
instance:C7 eI:=⟨λ_=>rfl⟩
instance:C7 eB:=⟨λ_=>rfl⟩
instance:C7 eS:=⟨λ_=>rfl⟩
theorem U2[DecidableEq α][B8 e n][C7 e](x:α)(ys:O α):Co (e x) (ys.map e)=Z (decide (x∈ys)):=by
 unfold Co;rw[zr ⟨C7.f x,by rw[List.all_map];exact List.all_eq_true.mpr λy _=>C7.f y⟩,List.any_map];congr 1;rw[QQ,ko,decide_eq_true_iff];constructor
 ·rintro⟨y,a,h⟩;simp only[Function.comp,B8.eq]at h;by_cases e1:y=x
  ·rw[<-e1];exact a
  ·simp only[e1,k8]at h;cases h
 ·intro h;exact⟨x,h,by simp only[Function.comp,B8.eq,ye]⟩
theorem Ps:GI (.z d) (.z (.tup ds))=Co d ds:=by cases d<;>rfl
def Oq[DecidableEq α][B8 e n][C7 e](a:R fa ρ (zE e))(b:R fb ρ (zE (eT e))):R (b2 D9 fa fb) ρ (zE eB):=⟨decide (a.v∈b.v),bC a.D b.D,λh=>by
 obtain⟨h1,h2⟩:=aC h;simp only[b2,a.ok h1,b.ok h2,At,D9,Ps,U2]⟩
end
structure AR {γ:Type} (cA:γ->List Bx->Prop) (fs:Ev->Option (List Bx)) (ρ:Ev) where
 v:γ
 D:Option Prop
 bs:List Bx
 h:cA v bs
 ok:hold D->fs ρ=some bs
section
variable{ε σ:Type}{fd:Ev->Y Bx}{fs:Ev->Y (O Bx)}{e:α->Dt}{e':β->Dt}{e'':γ->Dt}{e3:δ->Dt}
def aN:Unit->O Bx->Prop:=λ_ bs=>bs=[]
def aZ(e:α->Dt)(t:γ->O Bx->Prop):α×γ->O Bx->Prop:=λx bs=>∃r,bs=.z (e x.1)::r/\t x.2 r
def aL(e:α->Dt)(t:γ->O Bx->Prop):O α×γ->O Bx->Prop:=λx bs=>∃b r,bs=b::r/\sX b=Z (x.1.map e)/\t x.2 r
def aX:AR aN aJ ρ:=⟨(),U,[],rfl,λ_=>S⟩
def cI{t:γ->O Bx->Prop}(a:R fa ρ (zE e))(r:AR t fs ρ):AR (aZ e t) (aq fa fs) ρ:=⟨(a.v,r.v),bC a.D r.D,_,⟨_,rfl,r.h⟩,λh=>by
 obtain⟨h1,h2⟩:=aC h;simp only[aq,a.ok h1,r.ok h2,At]⟩
def nj{t:γ->O Bx->Prop}(a:RL fa ρ e)(r:AR t fs ρ):AR (aL e t) (aq fa fs) ρ:=⟨(a.v,r.v),bC a.D r.D,_,⟨_,_,rfl,a.lk,r.h⟩,λh=>by
 obtain⟨h1,h2⟩:=aC h;simp only[aq,a.ok h1,r.ok h2,At]⟩
def An{b:γ->O Bx->Prop}{F:O Bx->Y Bx}{c:α->Bx}{T:γ->α}{d:γ->Y Prop}(S:∀v bs,b v bs->bs.length=n/\(hold (d v)->F (bs.map lend)=Z (c (T v))))(a:AR b fs ρ):R (bN n F fs) ρ c:=⟨T a.v,bC a.D (d a.v),λh=>by
 obtain⟨h1,h2⟩:=aC h;obtain⟨f,e⟩:=S a.v a.bs a.h;simp only[bN,a.ok h1,At,zr f,e h2]⟩
theorem MI{bs:O Bx}{c:α->Bx}(x:R g (bs.map Z++List.replicate (n-bs.length) U) (λr=>Ap.rt (c r)))(h:hold x.D):dh n g bs=Z (c x.v):=by
 unfold dh;rw[x.ok h];rfl
def GW(xs:O α)(P:α->Y Prop):Y Prop:=Z (∀x∈xs,hold (P x))
theorem J0{fs:Ev->Y (O Dt)}{c:Ev}{g:α->O Dt}{π:α->Bool}:∀xs:O α,(∀x∈xs,∃a,gt (e x) c=Z a/\p a=Z (π x)/\(π x=true->fs a=Z (g x)))->DK gt p fs c (xs.map e)=Z ((xs.filter π).flatMap g)
 |[],_=>rfl
 |x::xs,h=>by
  obtain⟨a,h1,h2,d⟩:=h x (zh ..);have b:=J0 (g:=g) (π:=π) xs λy f=>h y (zi _ f);cases hp:π x with
  |true=>simp only[zl,DK,h1,At,h2,hp,qV,d hp,b,List.filter_cons,kc]
  |false=>simp only[zl,DK,h1,At,h2,hp,b,List.filter_cons,zt,Z3]
theorem Ub{g:α->β}:∀xs:O α,xs.flatMap (λx=>[e' (g x)])=(xs.map g).map e'
 |[]=>rfl
 |x::xs=>by rw[kc,Ub xs];rfl
theorem J1{b:Ev}{g:α->β}{π:α->Bool}(xs:O α)(h:∀x∈xs,∃a,gt (e x) b=Z a/\p a=Z (π x)/\(π x=true->fe a=Z (.z (e' (g x))))):Fy gt p fe b (xs.map e)=Z (((xs.filter π).map g).map e'):=by
 rw[<-Ub];exact J0 xs λx hx=>let ⟨a,h1,h2,h3⟩:=h x hx;⟨a,h1,h2,λhp=>by rw[h3 hp];rfl⟩
theorem Bi{b:Ev}{g:α->β}(xs:O α)(h:∀x∈xs,∃a,gt (e x) b=Z a/\fe a=Z (.z (e' (g x)))):Fy gt oG fe b (xs.map e)=Z ((xs.map g).map e'):=
 (J1 (π:=λ_=>true) xs λx hx=>let ⟨a,h1,h2⟩:=h x hx;⟨a,h1,rfl,λ_=>h2⟩).trans (by rw[List.filter_eq_self.mpr λ_ _=>S])
def rY(it:R fi ρ (iE e))(c:α->Ev)(d:∀x,gt (e x) (lW is ρ++List.replicate n U)=Z (c x))(b:∀x,R fe (c x) (zE e')):R (dO fi gt oG fe is n) ρ (oE e'):=⟨it.v.map λx=>(b x).v,bC (bC it.D (Z (it.v.length<=100000))) (GW it.v λx=>(b x).D),λh=>by
 obtain⟨h,a⟩:=aC h;obtain⟨h1,h2⟩:=aC h;have a:∀x∈it.v,hold (b x).D:=a;simp only[dO,it.ok h1,At,zk,zr (show it.v.length<=100000 from h2),Bi it.v λx hx=>⟨c x,d x,(b x).ok (a x hx)⟩]⟩
def vO(it:R fi ρ (iE e))(a:α->Ev)(c:∀x,gt (e x) (lW is ρ++List.replicate n U)=Z (a x))(b:∀x,R fe (a x) (zE e'))(hb:∀x,(b x).D=U):R (dO fi gt oG fe is n) ρ (oE e'):=⟨it.v.map λx=>(b x).v,bC it.D (Z (it.v.length<=100000)),λh=>by
 obtain⟨h1,h2⟩:=aC h;simp only[dO,it.ok h1,At,zk,zr (show it.v.length<=100000 from h2),Bi it.v λx hx=>⟨a x,c x,(b x).ok (by rw[hb x];trivial)⟩]⟩
def zc(it:R fi ρ (iE e))(c:α->Ev)(f:∀x,gt (e x) (lW is ρ++List.replicate n U)=Z (c x))(t:∀x,R p (c x) tE)(b:∀x,R fe (c x) (zE e')):R (dO fi gt p fe is n) ρ (oE e'):=⟨(it.v.filter λx=>(t x).v).map λx=>(b x).v,bC (bC it.D (Z (it.v.length<=100000))) (GW it.v λx=>bC (t x).D (Ei ((t x).v=true) (b x).D)),λh=>by
 obtain⟨h,a⟩:=aC h;obtain⟨h1,h2⟩:=aC h;have a:∀x∈it.v,hold (bC (t x).D (Ei ((t x).v=true) (b x).D)):=a;simp only[dO,it.ok h1,At,zk,zr (show it.v.length<=100000 from h2),J1 it.v λx hx=>⟨c x,f x,(t x).ok (aC (a x hx)).1,λd=>(b x).ok (jT (aC (a x hx)).2 d)⟩]⟩
def u0(it:R fi ρ (iE e))(a:α->Ev)(d:∀x,gt (e x) (lW is ρ++List.replicate n U)=Z (a x))(t:∀x,R p (a x) tE)(b:∀x,R fe (a x) (zE e'))(c:∀x,(t x).D=U)(hb:∀x,(b x).D=U):R (dO fi gt p fe is n) ρ (oE e'):=⟨(it.v.filter λx=>(t x).v).map λx=>(b x).v,bC it.D (Z (it.v.length<=100000)),λh=>by
 obtain⟨h1,h2⟩:=aC h;simp only[dO,it.ok h1,At,zk,zr (show it.v.length<=100000 from h2),J1 it.v λx hx=>⟨a x,d x,(t x).ok (by rw[c x];trivial),λ_=>(b x).ok (by rw[hb x];trivial)⟩]⟩
def LC(a:RL fa ρ e):R (zP fa) ρ (iE e):=⟨a.v,a.D,λh=>by
 have:HI a.b=Z (a.v.map e):=by
  have:=a.lk
  revert this
  generalize a.b=b;generalize a.v.map e=ds;intro this;cases b with
  |z d=>cases d<;>cases this;rfl
  |l d=>cases this;rfl
  |o d=>cases this;rfl
  |n d=>cases this
  |m d _=>cases this
 simp only[zP,a.ok h,At,this]⟩
def vP(a:R fa ρ (zE (eT e))):R (zP fa) ρ (iE e):=⟨a.v,a.D,λh=>by simp only[zP,a.ok h,At,HI]⟩
def IN(a:R fa ρ (oE e)):R (DO fa) ρ (iE e):=⟨a.v,a.D,λh=>by simp only[DO,a.ok h,At,Ee]⟩
def WB(a:R fa ρ (zE (eT e))):R (DO fa) ρ (iE e):=⟨a.v,a.D,λh=>by simp only[DO,a.ok h,At,Ee]⟩
def rng(i:Int)(n:Nat):O Int:=(List.range n).map λk:Nat=>i+(k:Int)
theorem nt(i:Int)(n:Nat):Sq i n=(rng i n).map eI:=by
 unfold Sq rng;rw[qh];rfl
def Rg(j:Int):Prop:=-4611686018427387904<=j/\j<4611686018427387904
def J2(a:R fa ρ (zE eI)):R (ZX (aq fa aJ)) ρ (iE eI):=⟨rng 0 a.v.toNat,bC a.D (Z (Rg a.v)),λh=>by
 obtain⟨h,b⟩:=aC h;simp only[ZX,aq,aJ,a.ok h,At];show(if -(2 ^ 62)<=a.v/\a.v<2 ^ 62 then Z (Sq 0 a.v.toNat)else U)=_;exact(zr b).trans (by rw[nt])⟩
end
section
variable{ε σ τ:Type}{fd:Ev->Y Bx}{fs:Ev->Y (O Bx)}{e:α->Dt}{e':β->Dt}{k:Ev->Y Ap}{cO:γ->Ap}
theorem nA{ρ':Ev}(h:g1 ρ=Z (.nx ρ')):aF g1 k ρ=k ρ':=by
 unfold aF;rw[h];rfl
def bG(x:R (aF g (aF g1 k)) ρ cO):R (aF (aF g g1) k) ρ cO:=⟨x.v,x.D,λh=>by
 rw[<-x.ok h];unfold aF;cases g ρ with
 |none=>rfl
 |some o=>cases o<;>rfl⟩
def bU(x:R k ρ cO):R (aF eE k) ρ cO:=⟨x.v,x.D,λh=>x.ok h⟩
def bT(x:γ)(h:cO x=.nx (kill is ρ)):R (dZ is) ρ cO:=⟨x,U,λ_=>by rw[h];rfl⟩
def cW{c:α->Bx}(inj:α->γ)(a:R f ρ c)(h:∀x,cO (inj x)=.rt (c x))(b:∀x,FI (c x)=Z (.rt (c x))):R (aF (fK f) k) ρ cO:=⟨inj a.v,a.D,λhd=>by
 have:fK f ρ=Z (.rt (c a.v)):=by unfold fK;rw[a.ok hd,At,b]
 unfold aF;rw[this,h];rfl⟩
def Em{c:α->Bx}(i:Nat)(inj:α->γ)(a:α)(hi:ρ[i]?=Z (Z (c a)))(h:∀x,cO (inj x)=.rt (c x))(b:∀x,FI (c x)=Z (.rt (c x))):R (aF (zG i) k) ρ cO:=⟨inj a,U,λhd=>by
 have:zG i ρ=Z (.rt (c a)):=by unfold zG;rw[hi];exact b a
 unfold aF;rw[this,h];rfl⟩
def bH{c:α->Bx}(i:Nat)(a:R f ρ c)(b:∀x,ZJ ρ i (c x)=Z (ρ.set i (Z (c x))))(K:∀x,R k (ρ.set i (Z (c x))) cO):R (aF (As i f) k) ρ cO:=⟨(K a.v).v,bC a.D (K a.v).D,λhd=>by
 obtain⟨h1,h2⟩:=aC hd;rw[nA (ρ':=ρ.set i (Z (c a.v))) (by unfold As;rw[a.ok h1,At,b,At])];exact(K a.v).ok h2⟩
def zQ(a:R f ρ (zE e))(b:α->Ev)(c:∀x,gt (e x) ρ=Z (b x))(K:∀x,R k (b x) cO):R (aF (DX gt f) k) ρ cO:=⟨(K a.v).v,bC a.D (K a.v).D,λhd=>by
 obtain⟨h1,h2⟩:=aC hd;rw[nA (ρ':=b a.v) (by unfold DX;rw[a.ok h1,At];simp only[c,At])];exact(K a.v).ok h2⟩
def YH(i j:Nat)(a:R fa ρ (zE e))(b:R fb ρ (zE e'))(K:∀x y,R k ((ρ.set i (Z (.z (e x)))).set j (Z (.z (e' y)))) cO):R (aF (ZW i j (aq fa (aq fb aJ))) k) ρ cO:=⟨(K a.v b.v).v,bC (bC a.D b.D) (K a.v b.v).D,λhd=>by
 obtain⟨h1,c⟩:=aC hd;obtain⟨h1,h2⟩:=aC h1;rw[nA (ρ':=(ρ.set i (Z (.z (e a.v)))).set j (Z (.z (e' b.v)))) (by unfold ZW;simp only[aq,aJ,a.ok h1,b.ok h2,At,HC])];exact(K a.v b.v).ok c⟩
def Gg(i:Nat)(xs:O α)(hi:ρ[i]?=Z (Z (.o (xs.map e))))(a:R f ρ (zE e))(K:∀ys:O α,R k (ρ.set i (Z (.o (ys.map e)))) cO):R (aF (Lq i f) k) ρ cO:=⟨(K (xs++[a.v])).v,bC (bC a.D (Z (Ek xs.length))) (K (xs++[a.v])).D,λhd=>by
 obtain⟨h1,b⟩:=aC hd;obtain⟨h1,h2⟩:=aC h1;have h2:xs.length<=1000000:=h2;rw[nA (ρ':=ρ.set i (Z (.o ((xs++[a.v]).map e)))) (by
  unfold Lq;rw[a.ok h1,At];simp only[Gc,hi,zk,ZT,zl,JO];rw[zr (KA h2 (by decide))])]
 exact(K _).ok b⟩
def lY(t:R p ρ tE)(a:R (aF g1 k) ρ cO)(b:R (aF g2 k) ρ cO):R (aF (yR p g1 g2) k) ρ cO:=⟨if t.v=true then a.v else b.v,bC t.D (bC (Ei (t.v=true) a.D) (Ei (t.v=false) b.D)),λhd=>by
 obtain⟨h1,h2⟩:=aC hd;obtain⟨h2,f⟩:=aC h2;have e1:∀c,t.v=c->aF (yR p g1 g2) k ρ=aF (if c=true then g1 else g2) k ρ:=λc e=>by
  unfold aF yR;rw[t.ok h1,At,e];cases c<;>rfl
 cases d:t.v with
 |true=>rw[e1 true d];simp only[qV];exact a.ok (jT h2 d)
 |false=>rw[e1 false d];simp only[zt,Z3];exact b.ok (jT f d)⟩
def Ci(E:σ->Ev)(t:R p ρ tE)(a:R g1 ρ (λs=>Ap.nx (E s)))(b:R g2 ρ (λs=>Ap.nx (E s)))(K:∀s,R k (E s) cO):R (aF (yR p g1 g2) k) ρ cO:=⟨(K (if t.v=true then a.v else b.v)).v,bC (bC t.D (bC (Ei (t.v=true) a.D) (Ei (t.v=false) b.D))) (K (if t.v=true then a.v else b.v)).D,λhd=>by
 obtain⟨h,d⟩:=aC hd;obtain⟨h1,h2⟩:=aC h;obtain⟨h2,e⟩:=aC h2;rw[nA (ρ':=E (if t.v=true then a.v else b.v)) (by
  unfold yR;rw[t.ok h1,At];cases c:t.v with
  |true=>simp only[qV];exact a.ok (jT h2 c)
  |false=>simp only[zt,Z3];exact b.ok (jT e c))]
 exact(K _).ok d⟩
def nC(step:σ->α->σ)(P:σ->α->Y Prop):O α->σ->Prop
 |[],_=>True
 |x::xs,s=>hold (P s x)/\nC step P xs (step s x)
theorem Cj{gb:Ev->Y Ap}(E:σ->Ev)(a:σ->α->Ev)(b:∀s x,gt (e x) (E s)=Z (a s x))(body:∀s x,R gb (a s x) (λs=>Ap.nx (E s))):∀(xs:O α) (s:σ),nC (λs x=>(body s x).v) (λs x=>(body s x).D) xs s->qR gt gb (xs.map e) (E s)=Z (.nx (E (xs.foldl (λs x=>(body s x).v) s)))
 |[],s,_=>rfl
 |x::xs,s,h=>by
  simp only[zl,qR,b,At,(body s x).ok h.1,QN];exact Cj E a b body xs _ h.2
def J3(E:σ->Ev)(a:σ)(d:ρ=E a)(it:R fi ρ (iE e))(b:σ->α->Ev)(c:∀s x,gt (e x) (E s)=Z (b s x))(body:∀s x,R gb (b s x) (λs=>Ap.nx (E s)))(K:∀s,R k (E s) cO):R (aF (xR fi gt gb) k) ρ cO:=⟨(K (it.v.foldl (λs x=>(body s x).v) a)).v,bC (bC it.D (Z (nC (λs x=>(body s x).v) (λs x=>(body s x).D) it.v a))) (K (it.v.foldl (λs x=>(body s x).v) a)).D,λhd=>by
 obtain⟨h,f⟩:=aC hd;obtain⟨h1,h2⟩:=aC h;rw[nA (ρ':=E (it.v.foldl (λs x=>(body s x).v) a)) (by
  unfold xR;rw[it.ok h1,At];subst d;exact Cj E b c body it.v a h2)]
 exact(K _).ok f⟩
def dQ(E:σ->Ev)(a:σ)(d:ρ=E a)(it:R fi ρ (iE e))(b:σ->α->Ev)(c:∀s x,gt (e x) (E s)=Z (b s x))(body:∀s x,R gb (b s x) (λs=>Ap.nx (E s)))(hb:∀s x,(body s x).D=U)(K:∀s,R k (E s) cO):R (aF (xR fi gt gb) k) ρ cO:=⟨(K (it.v.foldl (λs x=>(body s x).v) a)).v,bC it.D (K (it.v.foldl (λs x=>(body s x).v) a)).D,λhd=>by
 obtain⟨h1,g⟩:=aC hd;have h2:∀(xs:O α) (s:σ),nC (λs x=>(body s x).v) (λs x=>(body s x).D) xs s:=λxs=>by
  induction xs with
  |nil=>intro s;trivial
  |cons x xs f=>intro s;exact⟨by show hold (body s x).D;rw[hb s x];trivial,f _⟩
 rw[nA (ρ':=E (it.v.foldl (λs x=>(body s x).v) a)) (by
  unfold xR;rw[it.ok h1,At];subst d;exact Cj E b c body it.v a (h2 _ _))]
 exact(K _).ok g⟩
inductive sZ (σ τ:Type) where
 |nx (s:σ)|rt (r:τ)|bk (s:σ)|ct (s:σ)
def cC(E:σ->Ev)(c:τ->Bx):sZ σ τ->Ap
 |.nx s=>.nx (E s)
 |.rt r=>.rt (c r)
 |.bk s=>.bk (E s)
 |.ct s=>.ct (E s)
def uH(step:σ->α->sZ σ τ):O α->σ->sZ σ τ
 |[],s=>.nx s
 |x::xs,s=>match step s x with
  |.nx s'=>uH step xs s'
  |.ct s'=>uH step xs s'
  |.bk s'=>.nx s'
  |.rt r=>.rt r
def Gh(step:σ->α->sZ σ τ)(P:σ->α->Y Prop):O α->σ->Prop
 |[],_=>True
 |x::xs,s=>hold (P s x)/\match step s x with
  |.nx s'=>Gh step P xs s'
  |.ct s'=>Gh step P xs s'
  |.bk _=>True
  |.rt _=>True
theorem QM{c:τ->Bx}(E:σ->Ev)(a:σ->α->Ev)(b:∀s x,gt (e x) (E s)=Z (a s x))(body:∀s x,R gb (a s x) (cC E c)):∀(xs:O α) (s:σ),Gh (λs x=>(body s x).v) (λs x=>(body s x).D) xs s->qR gt gb (xs.map e) (E s)=Z (cC E c (uH (λs x=>(body s x).v) xs s))
 |[],s,_=>rfl
 |x::xs,s,h=>by
  obtain⟨h1,h2⟩:=h;dsimp only at h2;simp only[zl,qR,b,At,(body s x).ok h1,uH]
  revert h2
  cases(body s x).v with
  |nx s'=>intro h2;exact QM E a b body xs s' h2
  |ct s'=>intro h2;exact QM E a b body xs s' h2
  |bk s'=>intro _;rfl
  |rt r=>intro _;rfl
theorem J4(step:σ->α->sZ σ τ):∀(xs:O α) (s:σ),(∃s',uH step xs s=.nx s')\/∃r,uH step xs s=.rt r
 |[],s=>.inl ⟨s,rfl⟩
 |x::xs,s=>by
  unfold uH;cases step s x with
  |nx s'=>exact J4 step xs s'
  |ct s'=>exact J4 step xs s'
  |bk s'=>exact .inl ⟨s',rfl⟩
  |rt r=>exact .inr ⟨r,rfl⟩
def BQ(r:sZ σ τ)(inj:τ->γ)(K:σ->γ):γ:=match r with
 |.rt r=>inj r
 |.nx s=>K s
 |.bk s=>K s
 |.ct s=>K s
def vQ(r:sZ σ τ)(K:σ->Prop):Prop:=match r with
 |.rt _=>True
 |.nx s=>K s
 |.bk s=>K s
 |.ct s=>K s
def YJ(r:sZ σ τ)(K:σ->Y Prop):Y Prop:=Z (vQ r λs=>hold (K s))
theorem Sr(h:ρ[i]?=Z (Z (.o ds))):rO i gt gb ρ=qR gt gb ds (ρ.set i (Z (.l ds))):=by unfold rO;rw[h]
theorem VE(h:ρ[i]?=Z (Z (.l ds))):rO i gt gb ρ=qR gt gb ds ρ:=by unfold rO;rw[h]
theorem QS(h:ρ[i]?=Z (Z (.z (.tup ds)))):rO i gt gb ρ=qR gt gb ds ρ:=by unfold rO;rw[h];rfl
theorem VZ(h:ρ[i]?=Z (Z (.z (.lst ds)))):rO i gt gb ρ=qR gt gb ds ρ:=by unfold rO;rw[h];rfl
theorem OC(hp:Lp b ds)(h:ρ[i]?=Z (Z b)):rO i gt gb ρ=qR gt gb ds ρ:=by
 rcases hp with rfl|rfl
 ·exact VZ h
 ·exact VE h
def J5(i:Nat){ρ':Ev}(xs:O α)(f:rO i gt gb ρ=qR gt gb (xs.map e) ρ')(E:σ->Ev)(a:σ)(d:ρ'=E a)(b:σ->α->Ev)(c:∀s x,gt (e x) (E s)=Z (b s x))(body:∀s x,R gb (b s x) (λs=>Ap.nx (E s)))(K:∀s,R k (E s) cO):R (aF (rO i gt gb) k) ρ cO:=⟨(K (xs.foldl (λs x=>(body s x).v) a)).v,bC (Z (nC (λs x=>(body s x).v) (λs x=>(body s x).D) xs a)) (K (xs.foldl (λs x=>(body s x).v) a)).D,λhd=>by
 obtain⟨h2,g⟩:=aC hd;rw[nA (ρ':=E (xs.foldl (λs x=>(body s x).v) a)) (by
  rw[f,d];exact Cj E b c body xs a h2)]
 exact(K _).ok g⟩
def YK{c:τ->Bx}(i:Nat){ρ':Ev}(xs:O α)(h:rO i gt gb ρ=qR gt gb (xs.map e) ρ')(E:σ->Ev)(a:σ)(g:ρ'=E a)(b:σ->α->Ev)(f:∀s x,gt (e x) (E s)=Z (b s x))(body:∀s x,R gb (b s x) (cC E c))(inj:τ->γ)(j:∀r,cO (inj r)=.rt (c r))(K:∀s,R k (E s) cO):R (aF (rO i gt gb) k) ρ cO:=⟨BQ (uH (λs x=>(body s x).v) xs a) inj λs=>(K s).v,bC (Z (Gh (λs x=>(body s x).v) (λs x=>(body s x).D) xs a)) (YJ (uH (λs x=>(body s x).v) xs a) λs=>(K s).D),λhd=>by
 obtain⟨h2,d⟩:=aC hd;have e1:rO i gt gb ρ=Z (cC E c (uH (λs x=>(body s x).v) xs a)):=by
  rw[h,g];exact QM E b f body xs a h2
 rcases J4 (λs x=>(body s x).v) xs a with⟨s',es⟩|⟨r,es⟩
 ·rw[es]at e1 d ⊢;rw[nA e1];exact(K s').ok d
 ·rw[es]at e1 ⊢;show aF (rO i gt gb) k ρ=Z (cO (inj r));unfold aF;rw[e1,j];rfl⟩
class Ky {κ:Type} (c:κ->AY):Prop where
 inj:∀a b,c a=c b->a=b
abbrev kS:AJ->AY:=Sum.inr
abbrev kI:Int->AY:=Sum.inl
instance:Ky kS:=⟨λ_ _ h=>by cases h;rfl⟩
instance:Ky kI:=⟨λ_ _ h=>by cases h;rfl⟩
abbrev mE(e:α->Dt):O (AJ×α)->Bx:=λm=>.m (m.map λq=>(kS q.1,e q.2)) U
abbrev nE(e:α->Dt):O (AJ×α)->Bx:=λm=>.n (m.map λq=>(kS q.1,e q.2))
section
variable [DecidableEq κ] {c:κ->AY}
def look[Inhabited α](m:O (κ×α))(x:κ):α:=((m.find? λq=>decide (q.1=x)).map (·.2)).getD default
def has(m:O (κ×α))(x:κ):Bool:=m.any λq=>decide (q.1=x)
def put(m:O (κ×α))(x:κ)(a:α):O (κ×α):=if has m x=true then m.map (λq=>if q.1=x then(q.1,a)else q)else m++[(x,a)]
theorem II[Ky c](a b:κ):decide (c a=c b)=decide (a=b):=by
 by_cases h:a=b
 ·rw[h];simp
 ·rw[Zp h,Zp λz=>h (Ky.inj (c:=c) _ _ z)]
theorem du[Ky c](m:O (κ×α))(x:κ):Jt (m.map λq=>(c q.1,e q.2)) (c x)=((m.find? λq=>decide (q.1=x)).map (·.2)).map e:=by
 unfold Jt;rw[List.find?_map];simp only[Option.map_map,Function.comp_def,II]
theorem lS[Ky c][Inhabited α]{m:O (κ×α)}{x:κ}(h:has m x=true):Jt (m.map λq=>(c q.1,e q.2)) (c x)=Z (e (look m x)):=by
 rw[du];unfold look;unfold has at h;rw[ko]at h;obtain⟨q,b,hx⟩:=h;cases a:m.find? λq=>decide (q.1=x)with
 |none=>exact absurd hx (by simpa using List.find?_eq_none.mp a q b)
 |some q=>rfl
theorem YL[Ky c](m:O (κ×α))(x:κ)(a:α):Qp (m.map λq=>(c q.1,e q.2)) (c x) (e a)=(put m x a).map λq=>(c q.1,e q.2):=by
 unfold Qp put has;rw[List.any_map];simp only[Function.comp_def,II];by_cases h:(m.any λq=>decide (q.1=x))=true
 ·rw[zr h,zr h];rw[qh,qh];refine Qr λq _=>?_;simp only[Function.comp];by_cases b:q.1=x
  ·simp[b]
  ·have h':¬ c q.1=c x:=λz=>b (Ky.inj (c:=c) _ _ z);simp[b,h']
 ·rw[zD h,zD h];simp
end
theorem Uc:∀m:O (AJ×α),Z2 (m.map λq=>(kS q.1,e q.2))=Z (m.map (·.1))
 |[]=>rfl
 |q::m=>by rw[zl,Z2,Uc m,At];rfl
def dB[Inhabited α](a:R fa ρ (nE e))(b:R fb ρ (zE eS)):R (b2 eX fa fb) ρ (zE e):=⟨look a.v b.v,bC (bC a.D b.D) (Z (has a.v b.v=true)),λh=>by
 obtain⟨h,d⟩:=aC h;obtain⟨h1,h2⟩:=aC h;simp only[b2,a.ok h1,b.ok h2,At,eX,D0,lS (c:=kS) (show has a.v b.v=true from d)]⟩
def LU(e:α->Dt):R (λ_=>Z (.m [] U)) ρ (mE e):=⟨[],U,λ_=>S⟩
end
section
variable{fs:Ev->Y AZ}{e:α->Dt}
theorem HX(h:sX b=Z ds):Ab b=Z ds:=by
 cases b with
 |z d=>cases d<;>first|exact h|(cases h;done)
 |l _=>exact h
 |o _=>exact h
 |n _=>cases h
 |m _ _=>cases h
end
end P1
namespace P1
open L2 S1 S6
class tY {α:Type} (e:α->Dt) where
 k:α->AY
 ok:∀a,Fn (e a)=some (k a)
 inj:∀a b,k a=k b->a=b
 same:∀a b,Yg (k a) (k b)=true
instance:tY eI:=⟨λi=>.inl i,λ_=>rfl,λa b h=>by cases h;rfl,λ_ _=>rfl⟩
instance:tY eS:=⟨λi=>.inr i,λ_=>rfl,λa b h=>by cases h;rfl,λ_ _=>rfl⟩
class u5 {α:Type} (e:α->Dt) where
 k:α->List AY
 ok:∀a,Jw (e a)=some (k a)
 inj:∀a b,k a=k b->a=b
 shp:∀a b,Qu (k a) (k b)=true
 ne:∀a,(k a).isEmpty=false
class FG {α:Type} (e:α->Dt) [u5 e]:Prop where
 tx:∀a,TV (u5.k e a)=true
section
variable{e:α->Dt}{e':β->Dt}{e'':γ->Dt}{e3:δ->Dt}
instance [tY e] [tY e']:u5 (WW e e'):=⟨λq=>[tY.k e q.1,tY.k e' q.2],λq=>by simp only[Jw,FQ,tY.ok,At],λa b h=>by
 simp only[ky,and_true]at h;exact Prod.ext (tY.inj _ _ h.1) (tY.inj _ _ h.2),λa b=>by simp[Qu,tY.same],λ_=>rfl⟩
instance [tY e] [tY e'] [tY e'']:u5 (DC e e' e''):=⟨λq=>[tY.k e q.1,tY.k e' q.2.1,tY.k e'' q.2.2],λq=>by simp only[Jw,FQ,tY.ok,At],λa b h=>by
 simp only[ky,and_true]at h;exact Prod.ext (tY.inj _ _ h.1) (Prod.ext (tY.inj _ _ h.2.1) (tY.inj _ _ h.2.2)),λa b=>by simp[Qu,tY.same],λ_=>rfl⟩
instance [tY e] [tY e'] [tY e''] [tY e3]:u5 (Do e e' e'' e3):=⟨λq=>[tY.k e q.1,tY.k e' q.2.1,tY.k e'' q.2.2.1,tY.k e3 q.2.2.2],λq=>by simp only[Jw,FQ,tY.ok,At],λa b h=>by
 simp only[ky,and_true]at h;exact Prod.ext (tY.inj _ _ h.1) (Prod.ext (tY.inj _ _ h.2.1) (Prod.ext (tY.inj _ _ h.2.2.1) (tY.inj _ _ h.2.2.2))),λa b=>by simp[Qu,tY.same],λ_=>rfl⟩
instance [tY e]:FG (WW e eS):=⟨λa=>by simp[u5.k,TV,tY.k]⟩
instance [tY e] [tY e']:FG (DC e eS e'):=⟨λa=>by simp[u5.k,TV,tY.k]⟩
instance [tY e] [tY e'] [tY e'']:FG (Do e eS e' e''):=⟨λa=>by simp[u5.k,TV,tY.k]⟩
variable{fs:Ev->Y (O (O AY))}
theorem vR[u5 e]:∀xs:O α,vN (xs.map e)=Z (xs.map (u5.k e))
 |[]=>rfl
 |x::xs=>by simp only[zl,vN,u5.ok,At,vR xs]
def IH(e:α->Dt)[u5 e](a b:α):Bool:=xW (u5.k e a) (u5.k e b)
def iK(e:α->Dt)[u5 e](xs:O α):O α:=xs.mergeSort (IH e)
theorem gY[u5 e](xs:O α):(iK e xs).Perm xs:=ym ..
theorem W0[u5 e](xs:O α):(iK e xs).Pairwise (λa b=>IH e a b=true):=KG (le:=IH e) (λa b c=>Ae (u5.k e a) (u5.k e b) (u5.k e c)) (λa b=>Af (u5.k e a) (u5.k e b)) xs
theorem Eo[u5 e](xs:O α):nu (xs.map (u5.k e))=(iK e xs).map (u5.k e):=by
 refine(uY ((gY xs).map _) (List.pairwise_map.mpr (W0 xs))).symm
theorem W2[u5 e](xs:O α):(xs.map (u5.k e)).map BG=xs.map e:=by
 rw[qh];exact Qr λa _=>(Tg (u5.ok a)).symm
theorem J6[u5 e](xs:O α)(h:xs.length<64):GK (xs.map (u5.k e))=true:=by
 simp only[GK,ZN,zC,qB,js,zk,KO,forall_exists_index,and_imp,forall_apply_eq_imp_iff₂];exact⟨h,λa _=>u5.ne a,λa _ b _=>u5.shp a b⟩
def gh[u5 e](a:RL fa ρ e):R (cZ oU (aq fa aJ)) ρ (oE e):=⟨iK e a.v,bC a.D (Z (a.v.length<64)),λh=>by
 obtain⟨h,b⟩:=aC h;simp only[cZ,aq,aJ,a.ok h,At,oU,HX a.lk,vR,J6 a.v b,qV,Eo,W2]⟩
def ag[u5 e](a:R fa ρ (zE (eT e))):R (cZ oU (aq fa aJ)) ρ (oE e):=⟨iK e a.v,bC a.D (Z (a.v.length<64)),λh=>by
 obtain⟨h,b⟩:=aC h;simp only[cZ,aq,aJ,a.ok h,At,oU,Ab,eT,vR,J6 a.v b,qV,Eo,W2]⟩
abbrev uE(e:α->Dt)[u5 e]:O α->O (O AY):=λxs=>xs.map (u5.k e)
def Na[u5 e][FG e](a:RL fa ρ e):R (Ww fa) ρ (uE e):=⟨a.v,bC a.D (Z (a.v.length<=64)),λh=>by
 obtain⟨h,b⟩:=aC h;have b:a.v.length<=64:=b;have c:(a.v.map (u5.k e)).all TV=true:=by
  rw[List.all_map,qB];exact λx _=>FG.tx x
 simp only[Ww,a.ok h,At,NS,HX a.lk,vR];rw[zr ⟨by rw[zk];exact b,c⟩]⟩
def LI[DecidableEq α][u5 e](a:R fs ρ (uE e)):R (JG fs) ρ (oE e):=⟨iK e (Ly a.v),bC a.D (Z (a.v.length<64)),λh=>by
 obtain⟨h,b⟩:=aC h;simp only[JG,a.ok h,At,J6 a.v b,qV,QF u5.inj,Eo,W2]⟩
end
end P1
namespace P1
open L2
section
variable{fd:Ev->Y Bx}{fs:Ev->Y (O Bx)}{e:α->Dt}{e':β->Dt}{k:Ev->Y Ap}{cO:γ->Ap}
abbrev mW(w:Y A1)(e:α->Dt):O (AJ×α)->Bx:=λm=>.m (m.map λq=>(kS q.1,e q.2)) w
def aM(e:α->Dt)(t:γ->O Bx->Prop):O (AJ×α)×γ->O Bx->Prop:=λx bs=>∃b r,bs=b::r/\(b=nE e x.1\/b=mE e x.1)/\t x.2 r
def G2{t:γ->O Bx->Prop}(a:R fa ρ (nE e))(r:AR t fs ρ):AR (aM e t) (aq fa fs) ρ:=⟨(a.v,r.v),bC a.D r.D,_,⟨_,_,rfl,.inl rfl,r.h⟩,λh=>by
 obtain⟨h1,h2⟩:=aC h;simp only[aq,a.ok h1,r.ok h2,At]⟩
def N2{t:γ->O Bx->Prop}(a:R fa ρ (mE e))(r:AR t fs ρ):AR (aM e t) (aq fa fs) ρ:=⟨(a.v,r.v),bC a.D r.D,_,⟨_,_,rfl,.inr rfl,r.h⟩,λh=>by
 obtain⟨h1,h2⟩:=aC h;simp only[aq,a.ok h1,r.ok h2,At]⟩
def HY(w:Y A1)(i:Nat)(m:O (AJ×α))(hi:ρ[i]?=Z (Z (mW w e m)))(a:R fa ρ (zE e))(b:R fb ρ (zE eS))(K:∀d:O (AJ×α),R k (ρ.set i (Z (mW w e d))) cO):R (aF (N7 i fa fb) k) ρ cO:=⟨(K (put m b.v a.v)).v,bC (bC (bC a.D b.D) (Z (m.length<1000))) (K (put m b.v a.v)).D,λhd=>by
 obtain⟨h,c⟩:=aC hd;obtain⟨h,f⟩:=aC h;obtain⟨h1,h2⟩:=aC h;rw[nA (ρ':=ρ.set i (Z (mW w e (put m b.v a.v)))) (by
  unfold N7;rw[a.ok h1,At,b.ok h2,At];simp only[S9,D0,At,hi,mW,zk,zr (show m.length<1000 from f),YL])]
 exact(K _).ok c⟩
def EE(a:O (AJ×β)):O (AJ×β):=a.foldl (λm q=>put m q.1 q.2) []
theorem J7(a:O (AJ×β)):dictOf (a.map (WW eS e'))=(EE a).map λq=>(kS q.1,e' q.2):=by
 unfold dictOf EE;have:∀(a:O (AJ×β)) (m:O (AJ×β)),(a.map (WW eS e')).foldl IQ (m.map λq=>(kS q.1,e' q.2))=(a.foldl (λm q=>put m q.1 q.2) m).map λq=>(kS q.1,e' q.2):=by
  intro a
  induction a with
  |nil=>intro m;rfl
  |cons q a b=>
   intro m;rw[zl,QN,QN];show(a.map (WW eS e')).foldl IQ (Qp (m.map λq=>(kS q.1,e' q.2)) (kS q.1) (e' q.2))=_;rw[YL (c:=kS)];exact b _
 exact this a []
def YM(a:R fk ρ (zE eS))(b:R fv ρ (zE e)):R (b2 Ce fk fv) ρ (zE (WW eS e)):=⟨(a.v,b.v),bC a.D b.D,λh=>by
 obtain⟨h1,h2⟩:=aC h;simp only[b2,a.ok h1,b.ok h2,At,Ce]⟩
def mI(i:R fi ρ (iE e))(a:R (dO fi gt p (b2 Ce fk fv) is n) ρ (oE (WW eS e'))):R (Ys fi gt p fk fv is n) ρ (mE e'):=⟨EE a.v,bC (bC i.D (Z (i.v.length<1000))) a.D,λh=>by
 obtain⟨h,c⟩:=aC h;obtain⟨h1,h2⟩:=aC h;have h2:i.v.length<1000:=h2;have b:=a.ok c;unfold dO at b;unfold Ys;rw[i.ok h1,At]at b ⊢;rw[zr (by rw[zk];omega)]at b;rw[zr (by rw[zk];exact h2)];obtain⟨f,d,b⟩:=AT b;rw[d,At];injection b with b;injection b with b;rw[b,J7]⟩
def OA(a:R fd ρ (nE e)):R (T3 fd) ρ (iE eS):=⟨a.v.map (·.1),a.D,λh=>by
 simp only[T3,a.ok h,At,DI,qh];rfl⟩
def lP(a:R fa ρ (nE e)):R (cZ JL (aq fa aJ)) ρ (oE eS):=⟨a.v.map (·.1),a.D,λh=>by
 simp only[cZ,aq,aJ,a.ok h,At,JL,Uc]⟩
def gi(a:R fa ρ (zE eS))(b:R fb ρ (zE eS)):R (cZ JK (aq fa (aq fb aJ))) ρ (zE eS):=⟨if qO b.v a.v=true then b.v else a.v,bC a.D b.D,λh=>by
 obtain⟨h1,h2⟩:=aC h;simp only[cZ,aq,aJ,a.ok h1,b.ok h2,At,JK];rfl⟩
theorem XO{bs:O Bx}{m:O (AJ×α)}{c:O (AJ×α)->Ev}(x:R g ((mW (Z a) e m::bs).map Z++List.replicate (n-(bs.length+1)) U) (λb=>Ap.nx (c b)))(h:hold x.D)(h0:∀b,(c b)[0]?=Z (Z (mW (Z a) e b))):T6 n g a (m.map λq=>(kS q.1,e q.2)) bs=Z (x.v.map λq=>(kS q.1,e q.2)):=by
 unfold T6;rw[x.ok h,At];simp only[h0,qV]
def W3{c:γ->O Bx->Prop}{cO:δ->Ap}{T:O (AJ×α)->γ->O (AJ×α)}{b:O (AJ×α)->γ->Y Prop}(w:Y A1)(i:Nat)(m:O (AJ×α))(hi:ρ[i]?=Z (Z (mW w e m)))(S:∀m v bs,c v bs->bs.length=n/\bs.all DU=true/\(hold (b m v)->∀a,G a (m.map λq=>(kS q.1,e q.2)) bs=Z ((T m v).map λq=>(kS q.1,e q.2))))(a:AR c fs ρ)(K:∀f:O (AJ×α),R k (ρ.set i (Z (mW w e f))) cO):R (aF (FZ i n G fs) k) ρ cO:=⟨(K (T m a.v)).v,bC (bC a.D (b m a.v)) (K (T m a.v)).D,λhd=>by
 obtain⟨h,j⟩:=aC hd;obtain⟨h1,h2⟩:=aC h;obtain⟨g,l,d⟩:=S m a.v a.bs a.h;rw[nA (cz hi (a.ok h1) g l (d h2))];exact(K _).ok j⟩
end
section
variable{e:α->Dt}
def qx[DecidableEq α](x:α)(ys:O α):Bool:=decide (x∈ys)
theorem lZ[DecidableEq α]{x:α}{ys:O α}:qx x ys=true↔x∈ys:=by unfold qx;rw[zC]
theorem WC[DecidableEq α][B8 e n](b:n<=60)(x:α)(ys:O α):FC (e x) (ys.map e)=Z (decide (x∈ys)):=by
 unfold FC;rw[zr]
 ·congr 1;rw[List.any_map,QQ,ko,zC];constructor
  ·rintro⟨y,a,h⟩;simp only[Function.comp,B8.eq]at h;by_cases q:y=x
   ·exact q▸a
   ·simp[q,DV]at h
  ·intro h;exact⟨x,h,by simp[Function.comp,B8.eq,DV]⟩
 ·rw[List.all_map,qB];intro y _;have:=B8.dp (e:=e) y;simp only[Function.comp,B8.eq,yB,y8,zC];omega
def W4[DecidableEq α][B8 e n](c:n<=60)(a:R fa ρ (zE e))(b:RL fb ρ e):R (b2 WL fa fb) ρ (zE eB):=⟨!qx a.v b.v,bC a.D b.D,λh=>by
 obtain⟨h1,h2⟩:=aC h;simp only[b2,a.ok h1,b.ok h2,At,WL,HX b.lk,WC c,qx]⟩
end
end P1
namespace P1
open L2 S1 S6
def kT(xs:AZ):O AY:=xs.map Sum.inr
theorem dA{a b:AZ}(h:kT a=kT b):a=b:=by
 unfold kT at h
 induction a generalizing b with
 |nil=>cases b with|nil=>rfl|cons _ _=>simp at h
 |cons x a c=>cases b with
  |nil=>simp at h
  |cons y b=>
   simp only[zl,ky]at h;rw[Sum.inr.inj h.1,c h.2]
theorem Ud:∀(xs:AZ),FQ (xs.map eS)=Z (kT xs)
 |[]=>rfl
 |x::xs=>by simp only[zl,FQ,Fn,At,Ud xs];rfl
theorem Ot:∀(a:O AZ),vN (a.map (eT eS))=Z (a.map kT)
 |[]=>rfl
 |x::a=>by simp only[zl,vN,Jw,eT,Ud,At,Ot a]
def LK(a b:AZ):Bool:=xW (kT a) (kT b)
def nD(a:O AZ):O AZ:=a.mergeSort LK
theorem yh(xs:O AZ):(nD xs).Perm xs:=ym ..
theorem yj(xs:O AZ):(nD xs).Pairwise (λa b=>LK a b=true):=KG (le:=LK) (λa b c=>Ae (kT a) (kT b) (kT c)) (λa b=>Af (kT a) (kT b)) xs
theorem Ou{a b:AZ}(h:LK a b=true)(h':LK b a=true):a=b:=dA (N8 h h')
theorem Re{xs out:O AZ}(hp:out.Perm xs)(hs:out.Pairwise (λa b=>LK a b=true)):out=nD xs:=tM (λ_ _=>Ou) (hp.trans (yh xs).symm) hs (yj xs)
theorem W5(xs:O AZ):nu (xs.map kT)=(nD xs).map kT:=(uY ((yh xs).map _) (List.pairwise_map.mpr (yj xs))).symm
theorem Rl(xs:O AZ):(xs.map kT).map BG=xs.map (eT eS):=by
 rw[qh];refine Qr λa _=>?_;show Dt.tup ((kT a).map dK)=Dt.tup (a.map eS);unfold kT;rw[qh];rfl
theorem b5(a b:AZ):Qu (kT a) (kT b)=true:=by
 unfold Qu kT;rw[qB];rintro⟨x,y⟩ h;obtain⟨h1,h2⟩:=List.of_mem_zip h;obtain⟨p,_,rfl⟩:=List.mem_map.mp h1;obtain⟨q,_,rfl⟩:=List.mem_map.mp h2;rfl
theorem iX(xs:O AZ)(h:xs.length<64)(c:∀x∈xs,x.isEmpty=false):GK (xs.map kT)=true:=by
 simp only[GK,ZN,zC,qB,js,zk,KO,forall_exists_index,and_imp,forall_apply_eq_imp_iff₂];refine⟨h,λa d=>?_,λa _ b _=>b5 a b⟩;have:=c a d;cases a with
 |nil=>cases this
 |cons _ _=>rfl
def QT(a:RL fa ρ (eT eS)):R (cZ oU (aq fa aJ)) ρ (oE (eT eS)):=⟨nD a.v,bC a.D (Z (a.v.length<64/\∀x∈a.v,x.isEmpty=false)),λh=>by
 obtain⟨h,b⟩:=aC h;obtain⟨b,c⟩:a.v.length<64/\∀x∈a.v,x.isEmpty=false:=b;simp only[cZ,aq,aJ,a.ok h,At,oU,HX a.lk,Ot,iX a.v b c,qV,W5,Rl]⟩
section
variable{e:α->Dt}
theorem map_some(e:α->Dt)(xs:O α):(xs.map Z).map (eO e)=xs.map e:=by rw[qh];rfl
end
end P1
namespace P1
open L2
section
variable{k:Ev->Y Ap}{cO:α->Ap}
def HV(i:Nat)(E:Ev)(a:I0 i ρ=Z E)(K:R k E cO):R (EF i k) ρ cO:=⟨K.v,K.D,λh=>by
 unfold EF;rw[a];exact K.ok h⟩
end
section
variable{e:α->Dt}
end
section
variable{σ τ:Type}{k:Ev->Y Ap}{cO:γ->Ap}
def Ov(a:σ->Bool)(step:σ->sZ σ τ):Nat->σ->sZ σ τ
 |0,s=>.nx s
 |n+1,s=>if a s=true then(match step s with
  |.nx s'=>Ov a step n s'
  |.ct s'=>Ov a step n s'
  |.bk s'=>.nx s'
  |.rt r=>.rt r)else .nx s
def De(a:σ->Bool)(b:σ->Y Prop)(step:σ->sZ σ τ)(P:σ->Y Prop):Nat->σ->Prop
 |0,_=>False
 |n+1,s=>hold (b s)/\(a s=true->hold (P s)/\match step s with
  |.nx s'=>De a b step P n s'
  |.ct s'=>De a b step P n s'
  |.bk _=>True
  |.rt _=>True)
theorem QW(a:σ->Bool)(step:σ->sZ σ τ):∀(n:Nat) (s:σ),(∃s',Ov a step n s=.nx s')\/∃r,Ov a step n s=.rt r
 |0,s=>.inl ⟨s,rfl⟩
 |n+1,s=>by
  unfold Ov;split
  ·cases step s with
   |nx s'=>exact QW a step n s'
   |ct s'=>exact QW a step n s'
   |bk s'=>exact .inl ⟨s',rfl⟩
   |rt r=>exact .inr ⟨r,rfl⟩
  ·exact .inl ⟨s,rfl⟩
theorem W6{c:τ->Bx}(E:σ->Ev)(a:∀s,R p (E s) tE)(body:∀s,R gb (E s) (cC E c)):∀(n:Nat) (s:σ),De (λs=>(a s).v) (λs=>(a s).D) (λs=>(body s).v) (λs=>(body s).D) n s->CD p gb n (E s)=Z (cC E c (Ov (λs=>(a s).v) (λs=>(body s).v) n s))
 |0,s,h=>absurd h id
 |n+1,s,h=>by
  obtain⟨h1,h2⟩:=h;have e:p (E s)=Z (a s).v:=(a s).ok h1;unfold CD Ov;rw[e,At];cases f:(a s).v with
  |false=>rfl
  |true=>
   obtain⟨d,b⟩:=h2 f;rw[zr rfl,zr rfl,(body s).ok d,At];cases hb:(body s).v with
   |nx s'=>dsimp only at b;rw[hb]at b;exact W6 E a body n s' b
   |ct s'=>dsimp only at b;rw[hb]at b;exact W6 E a body n s' b
   |bk s'=>rfl
   |rt r=>rfl
def YQ{c:τ->Bx}(n:Nat)(E:σ->Ev)(a:σ)(e:ρ=E a)(b:∀s,R p (E s) tE)(body:∀s,R gb (E s) (cC E c))(inj:τ->γ)(f:∀r,cO (inj r)=.rt (c r))(K:∀s,R k (E s) cO):R (aF (CD p gb n) k) ρ cO:=
 ⟨BQ (Ov (λs=>(b s).v) (λs=>(body s).v) n a) inj λs=>(K s).v,bC (Z (De (λs=>(b s).v) (λs=>(b s).D) (λs=>(body s).v) (λs=>(body s).D) n a)) (YJ (Ov (λs=>(b s).v) (λs=>(body s).v) n a) λs=>(K s).D),λhd=>by
 obtain⟨h2,d⟩:=aC hd;have e1:CD p gb n ρ=Z (cC E c (Ov (λs=>(b s).v) (λs=>(body s).v) n a)):=by
  subst e;exact W6 E b body n a h2
 rcases QW (λs=>(b s).v) (λs=>(body s).v) n a with⟨s',es⟩|⟨r,es⟩
 ·rw[es]at e1 d ⊢;rw[nA e1];exact(K s').ok d
 ·rw[es]at e1 ⊢;show aF (CD p gb n) k ρ=Z (cO (inj r));unfold aF;rw[e1,f];rfl⟩
end
section
variable{e:α->Dt}
def HM(fs:Ev->Y (O Bx)):Ev->Y (O Dt):=λρ=>(fs ρ).bind T8
def yq(xs:O α):O (Int×α):=(List.range xs.length).zipWith (λ(k:Nat) x=>((k:Int),x)) xs
theorem RH(xs:O α):Ga (xs.map e)=(yq xs).map (WW eI e):=by
 unfold Ga yq;rw[zk,List.zipWith_map_right,List.map_zipWith]
def SI(a:RL fa ρ e):R (HM (aq fa aJ)) ρ (iE (WW eI e)):=⟨yq a.v,a.D,λh=>by
 simp only[HM,aq,aJ,a.ok h,At,T8,a.lk,RH]⟩
end
section
variable{σ τ:Type}
theorem YS{step:σ->α->σ}{P:σ->α->Y Prop}(I:Nat->σ->Prop):∀(xs:O α) (m:Nat) (a:σ),I m a->(∀k x s,xs[k]?=Z x->I (m+k) s->hold (P s x)/\I (m+k+1) (step s x))->nC step P xs a/\I (m+xs.length) (xs.foldl step a)
 |[],m,a,h0,_=>⟨trivial,h0⟩
 |x::xs,m,a,h0,hs=>by
  obtain⟨h1,h2⟩:=hs 0 x a S h0;have:=YS I xs (m+1) (step a x) h2 λk y s e h=>by
   have:=hs (k+1) y s (by simpa using e) (by rw[show m+(k+1)=m+1+k by omega];exact h);rw[show m+(k+1)+1=m+1+k+1 by omega]at this;exact this
  refine⟨⟨h1,this.1⟩,?_⟩;rw[ZZ,show m+(xs.length+1)=m+1+xs.length by omega];exact this.2
theorem dE{i:Int}{k:Nat}{x:Int}(h:(rng i n)[k]?=Z x):x=i+k/\k<n:=by
 unfold rng at h;rw[ZE]at h;cases a:(List.range n)[k]? with
 |none=>rw[a]at h;cases h
 |some j=>
  rw[a]at h;have b:k<n:=by simpa using(List.getElem?_eq_some_iff.mp a).1
  have:j=k:=by
   rw[kD b]at a;cases a;rfl
  subst this;cases h;exact⟨rfl,b⟩
theorem Ck(i:Int)(n:Nat):(rng i n).length=n:=by unfold rng;simp
theorem yr{step:σ->Int->σ}{P:σ->Int->Y Prop}(I:Nat->σ->Prop)(n:Nat)(a:σ)(h0:I 0 a)(hs:∀(k:Nat) s,k<n->I k s->hold (P s k)/\I (k+1) (step s k)):nC step P (rng 0 n) a/\I n ((rng 0 n).foldl step a):=by
 have:=YS (P:=P) I (rng 0 n) 0 a h0 λk x s e h=>by
  obtain⟨rfl,b⟩:=dE e;rw[yo]at h ⊢;rw[Int.zero_add];exact hs k s b h
 rw[Ck,yo]at this;exact this
theorem oV[Inhabited α]{xs:O α}{i:Int}(h:In xs.length i):at' xs i∈xs:=by
 obtain⟨x,hx⟩:=QL h;unfold at';rw[hx];unfold Lf at hx;obtain⟨j,_,hx⟩:=AT hx;exact QO hx
theorem Lm[Inhabited α]{xs:O α}{k:Nat}{x:α}(h:xs[k]?=Z x):at' xs (k:Int)=x:=by
 have a:k<xs.length:=(List.getElem?_eq_some_iff.mp h).1;unfold at' Lf EU;rw[zr (by omega),zr (by omega),At,KS,h];rfl
theorem yw[Inhabited α](xs:O α)(k:Nat)(h:k<xs.length):at' xs (k:Int)=xs[k]:=Lm (Zl h)
theorem BF{i:Int}(h0:0<=i)(h1:i<n):In n i:=⟨by omega,h1⟩
theorem Ai{k:Nat}(h:k<n):In n (k:Int):=⟨by omega,by omega⟩
theorem Aj{x m:Int}(a:0<m)(h:m<=n):In n (x%m):=BF (Int.emod_nonneg _ (by omega)) (Int.lt_of_lt_of_le (Int.emod_lt_of_pos _ a) h)
theorem gU(x:Int){m:Int}(a:0<m):0<=x%m/\x%m<m:=⟨Int.emod_nonneg _ (by omega),Int.emod_lt_of_pos _ a⟩
theorem Ox{j:Int}(h0:0<=j)(h1:j<=1000000):Rg j:=⟨by omega,by omega⟩
theorem NJ{a b:Int}(h0:0<=a)(h1:a<18446744073709551616):DD a b:=.inl ⟨by omega,h1⟩
theorem Ue{xs:O α}{k:Nat}(h:k<=xs.length):BE xs (Z (k:Int)) U=xs.drop k:=by
 unfold BE;rw[HT.XF,HT.R3,Nat.min_eq_left h,List.take_of_length_le (by simp)]
theorem f'{xs:O α}{k:Nat}(h:k<=xs.length):BE xs U (Z (k:Int))=xs.take k:=by
 unfold BE;rw[HT.XF,HT.R3,Nat.min_eq_left h,Nat.sub_zero,List.drop_zero]
theorem mY(x y:AJ):(x++y).length=x.length+y.length:=by
 show(x.cps++y.cps).size=_;rw[KU];rfl
theorem yx(x:AJ)(i:Int):(ch x i).length=1:=rfl
theorem slice_le(x:AJ)(l u:Y Int):(Txt.slice x l u).length<=x.length:=PyProof.Txt.length_slice_le x l u
end
section
variable [Inhabited α] {e:α->Dt}{k:Ev->Y Ap}{cO:γ->Ap}
def WH(j i:Nat)(xs:O α)(hi:ρ[i]?=Z (Z (.o (xs.map e))))(a:R f ρ (zE eI))(K:∀(ys:O α) (y:α),R k ((ρ.set i (Z (.o (ys.map e)))).set j (Z (zE e y))) cO):R (aF (FH j i f) k) ρ cO:=
 ⟨(K (xs.drop 1) (at' xs 0)).v,bC (bC a.D (Z (a.v=0/\0<xs.length))) (K (xs.drop 1) (at' xs 0)).D,λhd=>by
 obtain⟨h1,b⟩:=aC hd;obtain⟨h1,h2⟩:=aC h1;obtain⟨h0,c⟩:a.v=0/\0<xs.length:=h2;rw[nA (ρ':=(ρ.set i (Z (.o ((xs.drop 1).map e)))).set j (Z (zE e (at' xs 0)))) (by
  unfold FH;rw[a.ok h1,At];show(match (Bx.z (Dt.int a.v))with|.z (.int k)=>_|_=>U)=_;dsimp only;rw[hi];dsimp only;rw[h0];cases xs with
  |nil=>simp at c
  |cons x xs=>
   have e1:at' (x::xs) 0=x:=Lm (xs:=x::xs) (k:=0) rfl;rw[e1,zr (by decide)];have e2:seqIndex? 0 ((x::xs).map e).length=Z 0:=by
    rw[PySem.seqIndex_of (by decide) (by simp)];rfl
   rw[e2];rfl)]
 exact(K (xs.drop 1) (at' xs 0)).ok b⟩
end
theorem Oz:∀xs:O Int,Ol (xs.map eI)=Z xs
 |[]=>rfl
 |x::xs=>by simp only[zl,eI,Ol,Oz xs,At]
def YT(a:RL fa ρ eI):R (cZ WQ (aq fa aJ)) ρ (zE eI):=⟨a.v.sum,bC a.D (Z (D2 a.v=true)),λh=>by
 obtain⟨h1,h2⟩:=aC h;have h2:D2 a.v=true:=h2;simp only[cZ,aq,aJ,a.ok h1,At,WQ,a.lk,Oz,h2,qV]⟩
section
variable{e:α->Dt}{k:Ev->Y Ap}{cO:γ->Ap}
end
section
variable{e:α->Dt}{k:Ev->Y Ap}{cO:γ->Ap}
def br[Inhabited γ]:R (aF IE k) ρ cO:=⟨default,Z False,λh=>absurd h id⟩
def TC{c:α->Bx}(a:R f ρ c)(K:R k ρ cO):R (aF (Yx f) k) ρ cO:=⟨K.v,bC a.D K.D,λhd=>by
 obtain⟨h1,h2⟩:=aC hd;rw[nA (ρ':=ρ) (by unfold Yx;rw[a.ok h1,At])];exact K.ok h2⟩
def iS(a:R fa ρ (zE eS))(b:R fb ρ (zE e)):R (b2 Om fa fb) ρ (mE e):=⟨[(a.v,b.v)],bC a.D b.D,λh=>by
 obtain⟨h1,h2⟩:=aC h;simp only[b2,a.ok h1,b.ok h2,At,Om];rfl⟩
theorem lc[DecidableEq κ]{c:κ->AY}[Ky c](m:O (κ×α))(x:κ):GT (m.map λq=>(c q.1,e q.2)) (c x)=has m x:=by
 unfold GT has;rw[List.any_map];simp only[Function.comp_def,II]
def Md(a:R fa ρ (zE eS))(b:R fb ρ (nE e)):R (b2 EV fa fb) ρ (zE eB):=⟨!has b.v a.v,bC a.D b.D,λh=>by
 obtain⟨h1,h2⟩:=aC h;simp only[b2,a.ok h1,b.ok h2,At,EV,D0,nE,lc]⟩
theorem Tl{bs:O Bx}{a:γ->Ev}(x:R g (bs.map Z++List.replicate (n-bs.length) U) (λr=>Ap.nx (a r)))(h:hold x.D):dh n g bs=Z (.z .non):=by
 unfold dh;rw[x.ok h];rfl
end
section
variable{e:α->Dt}
def VO(a:RL fa ρ e):R (b2 EO fa (b1 Qg (cB (.int 1)))) ρ (oE e):=⟨a.v.reverse,a.D,λh=>by
 simp only[b2,b1,a.ok h,At,cB,Qg,EO,a.lk,qV,oE,List.map_reverse]⟩
end
section
variable{e:α->Dt}{e':β->Dt}
end
def RP(f:Ev->Y β)(ρ:Ev)(c:α->β)(v:α)(D:Y Prop):Prop:=hold D->f ρ=Z (c v)
theorem R.tp{f:Ev->Y β}{c:α->β}{b:α}{a:Y Prop}(x:R f ρ c)(e:x.v=b:=by kernel_rfl)(d:x.D=a:=by kernel_rfl):RP f ρ c b a:=λh=>by
 subst e d;exact x.ok h
def RP.r{f:Ev->Y β}{c:α->β}{v:α}{D:Y Prop}(h:RP f ρ c v D):R f ρ c:=⟨v,D,h⟩
theorem IF{p:O α->Prop}(h:∀a,p [a]):∀us:O α,us.length=1->p us
 |[a],_=>h a
theorem L9{p:O α->Prop}(h:∀a b,p [a,b]):∀us:O α,us.length=2->p us
 |[a,b],_=>h a b
theorem Sj{p:O α->Prop}(h:∀a b c,p [a,b,c]):∀us:O α,us.length=3->p us
 |[a,b,c],_=>h a b c
theorem VX{p:O α->Prop}(h:∀a b c d,p [a,b,c,d]):∀us:O α,us.length=4->p us
 |[a,b,c,d],_=>h a b c d
theorem UZ{p:O α->Prop}(h:∀a b c d e,p [a,b,c,d,e]):∀us:O α,us.length=5->p us
 |[a,b,c,d,e],_=>h a b c d e
end P1
namespace P1
open L2 S1
end P1
namespace P1
open L2
def NR(g:Ev->Y Ap):Prop:=∀ ρ b,g ρ≠Z (.rt b)
section
variable{fs:Ev->Y (O Bx)}
theorem Ep:NR (As i f):=λρ b h=>by
 obtain⟨x,_,h⟩:=AT h;obtain⟨y,_,h⟩:=AT h;cases h
theorem LF:NR (DX gt f):=λρ b h=>by
 obtain⟨x,_,h⟩:=AT h;cases x with
 |z d=>obtain⟨y,_,h⟩:=AT h;cases h
 |_=>cases h
theorem dt:NR (dZ is):=λρ b h=>by cases h
theorem PQ:NR eE:=λρ b h=>by cases h
theorem OS(h1:NR g1)(h2:NR g2):NR (aF g1 g2):=λρ b h=>by
 obtain⟨r,e,h⟩:=AT h;cases r with
 |nx a=>exact h2 _ _ h
 |rt c=>exact h1 _ _ e
 |bk a=>cases h
 |ct a=>cases h
theorem QX(hb:NR gb):∀(ds:O Dt),NR (qR gt gb ds)
 |[],ρ,b,h=>by cases h
 |d::ds,ρ,b,h=>by
  unfold qR at h;obtain⟨f,_,h⟩:=AT h;obtain⟨r,e,h⟩:=AT h;cases r with
  |nx a=>exact QX hb ds _ _ h
  |ct a=>exact QX hb ds _ _ h
  |bk a=>cases h
  |rt c=>exact hb _ _ e
end
section
variable{st:AB}{AS:O AB}
end
section
variable{ks:O V}{o:AE}
end
section
variable{M0 M1 M2 er:Expr}{f0 f2:Ev->Y Bx}{d0 d2:Dt}{z0 z1 z2 z3:Pos}
end
section
variable{st:O AB}{fr:Ev->Y Bx}{i':Nat}{W:O Nat}{z:Pos}
end
section
variable{a b c:Ev->Y Ap}{k:Nat}
end
end P1
namespace P1
open L2 S6
section
variable{kx vx t1 i1 t2 i2:Expr}{f1 f2:O Expr}{xs:AZ}{g1 g2:Dt->Ev->Y Ev}{p1 p2:Ev->Y Bool}{fi1 fi2:Ev->Y (O Dt)}{fs:Ev->Y (O Dt)}{N m:Nat}
def cls2(fi:Ev->Y (O Dt))(gt:Dt->Ev->Y Ev)(p:Ev->Y Bool)(fs:Ev->Y (O Dt))(is:O Nat)(n:Nat):Ev->Y (O Dt):=λρ=>(fi ρ).bind λds=>DK gt p fs (lW is ρ++List.replicate n U) ds
def QZ(fi:Ev->Y (O Dt))(gt:Dt->Ev->Y Ev)(p:Ev->Y Bool)(fs:Ev->Y (O Dt))(is:O Nat)(n:Nat):Ev->Y Bx:=λρ=>(cls2 fi gt p fs is n ρ).bind λa=>if a.length<=100000 then Z (.o a)else U
structure GY (X:Cx) (ts:AZ) (m:Nat) (scope:Scope) (cl:List (Str×Addr)) (xs:AZ) (is:List Nat) (t1 i1:Expr) (f1:List Expr) (t2 i2:Expr) (f2:List Expr) (fi1 fi2:Ev->Option (List Dt)) (g1 g2:Dt->Ev->Option Ev) (p1 p2:Ev->Option Bool):Prop where
 ok:uD X scope cl xs is
 calm:X.calm=true
 it1:EK X t1 i1 fi1
 tg1:∀C s₀ H₀ fp,CO (zM X (xs++ts) scope cl C s₀ H₀ fp) t1 g1
 c1:∀C s₀ H₀ fp,xq (zM X (xs++ts) scope cl C s₀ H₀ fp) f1 p1
 k1:ZL is.length m g1
 it2:∀C s₀ H₀ fp,Fh (zM X (xs++ts) scope cl C s₀ H₀ fp) t2 i2 fi2
 tg2:∀C s₀ H₀ fp,CO (zM X (xs++ts) scope cl C s₀ H₀ fp) t2 g2
 c2:∀C s₀ H₀ fp,xq (zM X (xs++ts) scope cl C s₀ H₀ fp) f2 p2
 k2:ZL m (is.length+ts.length) g2
 hm:is.length<=m:=by decide
 hm2:m<=is.length+ts.length:=by decide
 hs:∀x,foldedSetIterable i1 X.env x=pure x:=by intro _;rfl
 hs2:∀C x,foldedSetIterable i2 (compEnvC scope (cellsFrom (C+1) scope.names cl) C X.env) x=pure x:=by intro _ _;rfl
theorem CF.no:CF K D H o1 o->(∀a u,o≠.ux a u)/\∀vs,o≠.tup vs:=λ⟨_,e,_⟩=>by subst e;exact⟨λ_ _ z=>(by cases z),λ_ z=>(by cases z)⟩
theorem gT(ts:AZ)(W:GY X ts m scope cl xs is t1 i1 f1 t2 i2 f2 fi1 fi2 g1 g2 p1 p2)(he:∀C c f fp,QV (zM X (xs++ts) scope cl C c f fp) elt fe):
  QV X (.ListComp elt [⟨t1,i1,f1,0⟩,⟨t2,i2,f2,0⟩] scope pos) (QZ fi1 g1 p1 (EH fi2 g2 p2 (V5 fe)) is ts.length):=⟨λAN s σ H Q I h=>by
 obtain⟨H0,ρ,b,E,e,q⟩:=h;obtain⟨a3,i,e⟩:=AT e;obtain⟨ds,P,i⟩:=AT i;split at e
 ·rename_i a1;cases e;rw[eval_ListComp];refine JP (use:=U) S W.hs W.ok.clos W.ok.kind W.ok.names ?_;refine jc (W.it1.run AN s σ H (λJ H'=>AV H H'/\B0 X.K J ds H') I ⟨H0,ρ,ds,E,P,λJ H' s' y=>⟨s',y⟩⟩) λv s1 h1=>jc h1 λa2 s2 h2=>?_;obtain⟨it,fp,tn,J,H2,rfl,G,T,st,t,g,Y⟩:=h2;refine yV (B:=Bq) (Ac:=CF X.K) (O0:=.lst []) (N:=100000) (RR:=λa0 C=>compPost (A8 X.prog X.w) X.A X.xe U (EP X AN σ Q) a0 C) (ts:=ts) (xs:=xs) W.ok W.calm (λC c f fp=>(W.tg1 C c f fp).run) (λC c f fp=>(W.c1 C c f fp).run)
   (λC c f fp=>Ss (X:=zM X (xs++ts) scope cl C c f fp) (comp:=.ListComp elt [⟨t1,i1,f1,0⟩,⟨t2,i2,f2,0⟩] scope pos) (d:=1) W.calm S (W.it2 C c f fp).run (W.tg2 C c f fp).run (W.c2 C c f fp).run (X7 (he C c f fp).run) W.k2 W.hm2 CF.kp CF.no (W.hs2 C) (λ_ _ _=>S) (NK S λh=>h) λh=>h)
   W.k1 W.hm G ((E.grow g).caps is ts.length) (Fz T) st t Y i a1 ?_
   qi (λ_=>⟨QU _,[],0,.nil,zv _ rfl⟩) (λ_=>⟨[],rfl,aQ.nil⟩) CF.kp (λ_ _ _=>by simp only[bind_assoc,pure_bind];rfl) codeAny_compStart_list λh=>h
  rintro D C s' H' o hD p l ⟨m,j⟩ n F ⟨us,rfl,u⟩;refine⟨m,j,λh' z=>⟨.ref D,H',?_,rfl,q _ _ (g.trans n) (λa ea=>by cases ea;exact g.free hD) ⟨D,us,rfl,F,u⟩⟩⟩;obtain⟨f0,f1,f2,L,x,M⟩:=l;exact p.turned (t':=s'.toks) (λb o hb e=>(z.2 b hb).trans e) f0 f1 L x M
 ·cases e⟩
end
end P1
namespace P1
open L2
section
variable{e:α->Dt}{e':β->Dt}{fs:Ev->Y (O Dt)}
theorem Ug{g:α->O β}:∀xs:O α,(xs.flatMap g).map e'=xs.flatMap λx=>(g x).map e'
 |[]=>rfl
 |x::xs=>by rw[kc,ZT,Ug xs];rfl
def Mm(it:R fi ρ (iE e))(a:α->Ev)(c:∀x,gt (e x) (lW is ρ++List.replicate n U)=Z (a x))(b:∀x,R fs (a x) (iE e')):R (cls2 fi gt oG fs is n) ρ (iE e'):=⟨it.v.flatMap λx=>(b x).v,bC it.D (GW it.v λx=>(b x).D),λh=>by
 obtain⟨h1,h2⟩:=aC h;have h2:∀x∈it.v,hold (b x).D:=h2;simp only[cls2,it.ok h1,At];rw[J0 (π:=λ_=>true) (g:=λx=>(b x).v.map e') it.v λx hx=>⟨a x,c x,rfl,λ_=>(b x).ok (h2 x hx)⟩,List.filter_eq_self.mpr λ_ _=>S];rw[iE,Ug]⟩
def LV(it:R fi ρ (iE e))(a:α->Ev)(c:∀x,gt (e x) ρ=Z (a x))(b:∀x,R fe (a x) (zE e')):R (EH fi gt oG (V5 fe)) ρ (iE e'):=⟨it.v.map λx=>(b x).v,bC it.D (GW it.v λx=>(b x).D),λh=>by
 obtain⟨h1,h2⟩:=aC h;have h2:∀x∈it.v,hold (b x).D:=h2;simp only[EH,it.ok h1,At];exact Bi it.v λx hx=>⟨a x,c x,(b x).ok (h2 x hx)⟩⟩
def SY(a:R (cls2 fi gt p fs is n) ρ (iE e)):R (QZ fi gt p fs is n) ρ (oE e):=⟨a.v,bC a.D (Z (a.v.length<=100000)),λh=>by
 obtain⟨h1,h2⟩:=aC h;simp only[QZ,a.ok h1,At,zk,zr (show a.v.length<=100000 from h2)]⟩
end
def hx(h:A6)(a:A1):HO:=.ext λh'=>h'.get? a=h.get? a
section
variable{H2:Hp}{as:O A1}
end
section
variable{gs:O (Int×A1×O Dt)}{k:Int}{x:Dt}{u:V}
end
section
variable{e1 e2 ev:Expr}{f2:Ev->Y Bx}{w:AJ}{pw py py2 py3 px p1 p3 p4 pl a1 a2 c1 c2:Pos}
end
end P1
namespace P1
open L2 S6
section
variable{kx vx t1 i1 t2 i2:Expr}{f1 f2:O Expr}{xs:AZ}{g1 g2:Dt->Ev->Y Ev}{p1 p2:Ev->Y Bool}{fi1 fi2:Ev->Y (O Dt)}{m:Nat}
def Q0(fi:Ev->Y (O Dt))(gt:Dt->Ev->Y Ev)(p:Ev->Y Bool)(fs:Ev->Y (O Dt))(is:O Nat)(n:Nat):Ev->Y Bx:=λρ=>(cls2 fi gt p fs is n ρ).bind λa=>if a.length<1000 then Z (.m (dictOf a) U)else U
theorem CH.no:CH K D H o1 o->(∀a u,o≠.ux a u)/\∀vs,o≠.tup vs:=λ⟨_,e,_⟩=>by subst e;exact⟨λ_ _ z=>(by cases z),λ_ z=>(by cases z)⟩
theorem gN(ts:AZ)(W:GY X ts m scope cl xs is t1 i1 f1 t2 i2 f2 fi1 fi2 g1 g2 p1 p2)(P:∀C c f fp,QV (zM X (xs++ts) scope cl C c f fp) kx fk)(x:∀C c f fp,QV (zM X (xs++ts) scope cl C c f fp) vx fv):
  QV X (.DictComp kx vx [⟨t1,i1,f1,0⟩,⟨t2,i2,f2,0⟩] scope pos) (Q0 fi1 g1 p1 (EH fi2 g2 p2 (V5 (b2 Ce fk fv))) is ts.length):=⟨λAN s σ H Q I h=>by
 obtain⟨H0,ρ,b,E,e,q⟩:=h;obtain⟨a3,i,e⟩:=AT e;obtain⟨ds,ed,i⟩:=AT i;split at e
 ·rename_i a1;cases e;rw[arm_eval_DictComp];refine JP (use:=U) S W.hs W.ok.clos W.ok.kind W.ok.names ?_;refine jc (W.it1.run AN s σ H (λJ H'=>AV H H'/\B0 X.K J ds H') I ⟨H0,ρ,ds,E,ed,λJ H' s' y=>⟨s',y⟩⟩) λv s1 h1=>jc h1 λa2 t h2=>?_;obtain⟨it,fp,tn,J,H2,rfl,j,T,st,z,g,Y⟩:=h2;refine yV (B:=Bq) (Ac:=CH X.K) (O0:=.dK []) (N:=999) (RR:=λa0 C=>compPost (A8 X.prog X.w) X.A X.xe U (EP X AN σ Q) a0 C) (ts:=ts) (xs:=xs) W.ok W.calm (λC c f fp=>(W.tg1 C c f fp).run) (λC c f fp=>(W.c1 C c f fp).run)
   (λC c f fp=>Ss (X:=zM X (xs++ts) scope cl C c f fp) (comp:=.DictComp kx vx [⟨t1,i1,f1,0⟩,⟨t2,i2,f2,0⟩] scope pos) (d:=1) W.calm S (W.it2 C c f fp).run (W.tg2 C c f fp).run (W.c2 C c f fp).run (Yr (P C c f fp).run (x C c f fp).run) W.k2 W.hm2 CH.kp CH.no (W.hs2 C) (λ_ _ _=>S) (NK S λh=>h) λh=>h)
   W.k1 W.hm j ((E.grow g).caps is ts.length) (Fz T) st z Y i (Nat.le_of_lt_succ a1) ?_
   qi (λ_=>Bj t.heap j.big) (λ_=>⟨[],rfl,gn.nil,zo _⟩) CH.kp (λ_ _ _=>by simp only[bind_assoc,pure_bind];rfl) codeAny_compStart_dict λh=>h
  rintro D C s' H' o hD u n ⟨m,l⟩ p L ⟨us,rfl,rm,_⟩;refine⟨m,l,λh' G=>⟨.ref D,H',?_,rfl,q (.ref D) H' (g.trans p) (λa ea=>by cases ea;exact g.free hD) ⟨D,us,rfl,L,rm,λb hb=>by cases hb⟩⟩⟩;obtain⟨f0,f1,f2,M,F,f5⟩:=n;exact u.turned (t':=s'.toks) (λb o hb e=>(G.2 b hb).trans e) f0 f1 M F f5
 ·cases e⟩
end
end P1
namespace P1
open L2
section
variable{e:α->Dt}{e0:β->Dt}{fd f2:Ev->Y Bx}{kk:Ev->Y Ap}{cO:γ->Ap}
end
section
variable{e:α->Dt}{fs:Ev->Y (O Dt)}
def di(a:R (cls2 fi gt p fs is n) ρ (iE (WW eS e))):R (Q0 fi gt p fs is n) ρ (mE e):=⟨EE a.v,bC a.D (Z (a.v.length<1000)),λh=>by
 obtain⟨h1,h2⟩:=aC h;simp only[Q0,a.ok h1,At,iE,zk,zr (show a.v.length<1000 from h2),J7]⟩
end
section
variable{a:Expr}
def GG(fa:Ev->Y Bx):Ev->Y Bx:=λρ=>((fa ρ).bind VR).bind λc=>Z (.z (.bl (!c)))
theorem Pe(i:QV X a fa):QV X (.UnaryOp .Not a pos) (GG fa):=⟨λAN s σ H Q I h=>by
 obtain⟨H0,ρ,k,E,e,w⟩:=h;obtain⟨c,f,e⟩:=AT e;obtain⟨x,ex,f⟩:=AT f;cases e;refine UnaryOp_ (jc (i.run AN s σ H (λv H1=>AV H H1/\bB X.K H1 x v) I ⟨H0,ρ,x,E,ex,λv H1 b _ d=>⟨b,d⟩⟩) λv b ⟨x',H1,I1,d,s1',q1⟩=>?_);exact not_of (jc (M' AN b σ H1 x' v (λk H2=>k=c/\H2=H1) I1 d ⟨c,X3 q1 f,rfl,rfl⟩) λk j h2=>by
  obtain⟨H2,g,rfl,rfl⟩:=h2;exact⟨.bl (!k),H2,g,rfl,w _ H2 s1' trivial (by simp only[bB,AW])⟩)⟩
end
theorem cg{bs:O Bx}{c:α->Bx}{v:α}{D:Y Prop}(x:RP g (bs.map Z++List.replicate (n-bs.length) U) (λr=>Ap.rt (c r)) v D)(h:hold D):dh n g bs=Z (c v):=MI x.r h
section
variable{e:α->Dt}
def PP(a:RL fa ρ e):R (GG fa) ρ (zE eB):=⟨a.v.isEmpty,a.D,λh=>by
 have h1:=(YC a).ok h;unfold tV at h1;unfold GG;rw[h1];simp[YC,At]⟩
end
open PySem.Builtin PySem.Builtin.Str
section
variable{o:Expr}{fx:Ev->Y Bx}
end
section
variable{g:Ev->Y AJ}
end
section
variable{e1 e2 e3:Expr}{gr:Ev->Y Ap}{fx:Ev->Y Dt}{tR tQ:TS}{xr xj y1 y2:AJ}{AS no:O AB}{kk:Nat}{p0 p00 p01 p02 q1 q2 pt pj pa px pb pif pf2 px3 a1 c1 pe1 pr a2 pj2 c2 pe2:Pos}
end
section
variable{e:α->Dt}{ea:β->Dt}{eb:δ->Dt}{kk:Ev->Y Ap}{cO:γ->Ap}
end
end P1
namespace P1
open L2 S1
section
variable{k:Nat}{f:A1}{F:O Bx->Y Bx}{p:Pos}
end
end P1
namespace P1
open L2 S1 S6
theorem L5{p:O α->Prop}(h:p []):∀us:O α,us.length=0->p us
 |[],_=>h
section
variable{e:α->Dt}{g:Ev->Y Bx}{c:α->Bx}
end
def B5(i:Int):R (cB (.int i)) ρ (zE eI):=tX (.int i) eI i rfl
def F5(s:AJ):R (cB (.str s)) ρ (zE eS):=tX (.str s) eS s rfl
abbrev Nn(K:B1)(n:AJ)(f:A1):Prop:=nsIn K mainGlobals n=Z (Z (.ref f))
abbrev Lk(K:B1)(f:A1)(n:AJ)(st:AB)(b:A0)(c:Y A1)(sl:Array (Y A0))(kV a e:A0)(g:Y A1)(d ct:A0):Prop:=K.lookup f=Z ⟨b,c,.func (fnOf n n (vK st) (jH st) (aP st) .none kV a e g d ct),sl⟩
end P1
namespace P1
open L2
section
variable{e:α->Dt}
end
section
variable{Ex:B7}{outer:O Env}{L e T:A1}{C fl:A0}{dx:Y A1}{Q:Unit->A2->Prop}
end
section
variable{H':Hp}{h':A6}{ch:O A1}
end
section
variable{g:Array GenState}{d:Drawn}{t:Nat}{fI e:A1}{AS:O A0}{B:String}
end
section
variable{g:Array GenState}{d:Drawn}{t:Nat}{e:A1}
end
section
variable{g:Array GenState}{d:Drawn}{t:Nat}{e dx:A1}{v:A0}{vs:Array A0}{sl:Array (Y A0)}{m:AJ->Y A0}
end
section
variable{o value:Expr}{tv:TE}{f:AJ}{pos' p:Pos}{B:String}{t:TA}
end
section
variable{f:AJ}{p:Pos}{B:String}
end
section
variable{E:XK}
end
section
variable{Cn f:A1}{iv iy k:Nat}{n cn:AJ}{np hp p py pa:Pos}{b0:AB}{suite:O AB}{ts:A1->TS}{tf:TE}{t:TA}
end
section
variable{d:A1}{fs:O (AJ×V)}{f:AJ}{o:Expr}
end
section
variable{f:AJ}{E:XK}{gy:Ev->Y Dt}{p:Pos}{st:AB}{AS a b:O AB}{B:String}{pc:Ev->Y Bool}
end
section
variable{k:Nat}{f h:A1}{F:O Bx->Y Bx}{fs:Ev->Y (O Bx)}{p q:Pos}
end
end P1
namespace P1
open L2 S6
section
variable{xs:AZ}
end
section
variable{e2 se:Expr}{fS:Ev->Y AZ}{fx:Ev->Y Dt}{no AS:O AB}{tR tQ:TS}{p0 p02 px pb pif pk:Pos}{f:AJ}{E:XK}
end
end P1
namespace P1
open L2
section
variable{e1 e2 e3:Expr}{gr:Ev->Y Ap}{xr xj y1 y2:AJ}{AS no:O AB}{kk:Nat}{p0 p00 p01 p02 q1 q2 pt pj pa px pb pif pf2 px3 a1 c1 pe1 pr a2 pj2 c2 pe2:Pos}{fx:Ev->Y Dt}{f:AJ}{E:XK}
end
section
variable{Cn f:A1}{iv k:Nat}{n cn:AJ}{np hp p pa:Pos}{b0:AB}{suite:O AB}{ts:A1->TS}{tf:TE}{t:TA}
end
section
variable{fx:Ev->Y Bx}
end
section
variable{xs:Array A0}
end
theorem yP:∀{AQ:O A0} {a:O Int},IntsAre AQ a->AX (a.map V.int) AQ
 |_,_,.nil=>.nil
 |_,_,.cons y t h=>.cons ⟨t,rfl⟩ (yP h)
section
variable{e:α->Dt}
end
section
variable{e:α->Dt}{ea:β->Dt}{eb:δ->Dt}{fx:Ev->Y Dt}
end
section
variable{e:α->Dt}{g:Ev->Y β}{c:γ->β}
end
section
variable{E:XK}
end
section
variable{f:AJ}{E:XK}{fs:Ev->Y (O Bx)}{gy:Ev->Y Dt}{p p1 epos:Pos}{st:AB}{AS:O AB}
end
section
variable{o:Expr}
def OI:Dt->Bool
 |.non=>true
 |.tup _=>true
 |_=>false
def O3:Dt->Bool
 |.non=>true
 |_=>false
end
section
variable{o l:Expr}{fs:Ev->Y (O Bx)}{z:AJ}
end
instance {σ τ:Type} [Inhabited σ]:Inhabited (sZ σ τ):=⟨.nx default⟩
section
variable{e:α->Dt}
theorem MQ(a:∀x,∃ds,e x=.tup ds)(ys:O (Y α)):(ys.map (eO e)).all OI=true/\(O3 ∘ eO e)=Option.isNone:=by
 refine⟨?_,?_⟩
 ·rw[qB];intro d hd;obtain⟨o,_,rfl⟩:=List.mem_map.mp hd;cases o with
  |none=>rfl
  |some x=>obtain⟨ds,q⟩:=a x;show OI (e x)=true;rw[q];rfl
 ·funext o;cases o with
  |none=>rfl
  |some x=>obtain⟨ds,q⟩:=a x;show O3 (e x)=false;rw[q];rfl
end
section
variable{o e2:Expr}{fx fy:Ev->Y Bx}
end
section
variable{f:AJ}{E:XK}{gy:Ev->Y Dt}{st:AB}{sts AS:O AB}{p0 p00 p01 p02:Pos}
end
structure DQ (K:B1) (mg:Str->Option Value) (x:Str) (st:Stmt) (ps:AZ) where
 f:Addr
 fd:FuncData
 F:CY K x x st f fd
 b:BM K fd ps []
 m:mg x=some (.ref f)
 k:keepIn K (.ref f)=true
def j9{st:AB}{f:A1}{m d:Y A1}{sl:Array (Y A0)}{i kV g b e ct:A0}(X:K.In h)(G:h.Ns mainGlobals mg)(a:Nn K x f)(l:Lk K f x st i m sl kV g b d e ct)(c:codeIn K e x=true)(k:keepIn K (.ref f)=true)(hb:∀(kV n b:A0) (d:Y A1) (j ct:A0) (us:O A0),us.length=ps.length->bindArgs (fnOf x x (vK st) (jH st) (aP st) .none kV n b d j ct) ⟨us,[]⟩=pure (ps.zip us):=by intro _ _ _ _ _ _;first|exact P1.IF λ_=>S|exact P1.L9 λ_ _=>S|exact P1.Sj λ_ _ _=>S|exact P1.VX λ_ _ _ _=>S|exact P1.UZ λ_ _ _ _ _=>S|exact P1.L5 S):DQ K mg x st ps:=
 ⟨f,_,Of l c k,(Of l c k).binds hb,mg_of X G a,k⟩
theorem Mc{v:Tok->A0}{tk:Tok}(X:K.In h)(G:h.Ns mainGlobals mg)(c:nsIn K mainGlobals x=Z (Z (v tk))):∃tk,mg x=Z (v tk):=⟨tk,mg_of X G c⟩
abbrev Ok(P:A3)(w:A4)(base:A6){st:AB}(d:DQ K mg x st ps)(k n:Nat)(F:O Bx->Y Bx):Prop:=qQ P w K mg base Dz k d.f d.fd ps (D4 K n F)
theorem Ak{st:AB}{k m:Nat}(d:DQ K mg x st ps)(S:bF N ps (aP st))(e:∀(a:A0) (A:A5) (outer:O Env) (s:A2) (H:Hp) (E:XK),oF k (A.deeper (AK x (aP st) s.heap.objs.size d.f a))->(A.deeper (AK x (aP st) s.heap.objs.size d.f a)).units+100<cLine->N.Nodup->Sg (Gy Dz P w K mg base N x (aP st) d.f a A outer s H E).nox (jH st) g)(c:N.length=n:=by rfl)(h:ps.length=m:=by rfl):Ok P w base d (k+1) m (dh n g):=MG d.F S c h λa A outer s H E b=>e a A outer s H E b (HD b) S.nd
section
variable{k m:Nat}{st:AB}{F:O Bx->Y Bx}{fs:Ev->Y (O Bx)}{p:Pos}
theorem cM(d:DQ X.K X.mg x st ps)(G:Ok X.prog X.w X.base d k n F)(i:oF m X.A)(h:XS X (e::es) fs)(a:Gl X x:=by rfl)(c:k<=m:=by decide)(f:(x==("__debug__":AJ))=false:=by decide)(he:A9 (e::es) X.env=(false,eval e X.env)::A9 es X.env:=by rfl)(g:(AD pos (A9 es X.env)).any (·.1)=false:=by rfl):QV X (.Call (.Name x p) (e::es) [] pos) (bN n F fs):=
 yW G (i.mono c) a d.m d.k d.b h f he g
end
theorem F0{l:PySem.W.OpenLaw}{q:A3}{loose:AZ}{d:DefRec}{K:Params->B1}{T:B1->(AJ->Y A0)->Type}{k:Nat}{st:AB}{F_law:O Bx->Y Bx}(c:∀{K mg},T K mg->DQ K mg "law" st [x])(B:oF k callerA)(hd:d.name ="law")(G:∀(w:A4) (mg:AJ->Y A0) (base:A6) (t:T (K w.params) mg),Ok l.prog w base (c t) k 1 F_law)(y:l.most=Z 63)(p:d.params.defaults=[])(h1:∀b:O Int,b.length<=63->F_law [.z (.lst (b.map .int))]=Z (.z (.bl true)))(h2:∀b:O Int,b.length<=63->F_law [.l (b.map .int)]=Z (.z (.bl true)))(hb:∀(kV j i:A0) (o:Y A1) (g ct u:A0),bindArgs (fnOf "law" "law" (vK st) (jH st) (aP st) .none kV j i o g ct) ⟨[u],[]⟩=pure [(x,u)])(E:∀(w:A4) (h:A6),YP w h->(K w.params).In h)(F:∀(w:A4) (mg:AJ->Y A0) (h:A6),(K w.params).In h->h.Ns mainGlobals mg->T (K w.params) mg):
  PySem.W.WalkO q loose XP YP l.row.toRowW d [] (λf vs=>PySem.call f vs):=
 L2.VC (n:=63) (k:=k) (x:=x) (CX:=Dz) (sp:=λK=>D4 K 1 F_law) y (by decide) p B E (λw mg fa h X N e=>by
  have t:=F w mg h X N;have A:=(c t).m;rw[hd,A]at e;cases e;refine⟨(c t).fd,λs u=>?_,λbase _ _=>G w mg base t⟩;obtain⟨I,M,kV,j,i,o,g,ct,osl,e,J,L⟩:=(c t).F.ex;rw[e];exact .of_eq (hb kV j i o g ct u)) (λK H a b C v D=>Uf h1 h2 K H a b C v D) λ_ _ _ _ z=>z
section
variable{k:Nat}{f:A1}{sp:A1->O V->Hp->VK->Prop}{p:Pos}{t:TA}
end
section
variable{p0 p1:Pos}{xs:AZ}{e:A1}{a:Expr}{ta:TA}
end
section
variable{f:AJ}{E:XK}{fs:Ev->Y (O Bx)}{p:Pos}
end
section
variable{g:Array GenState}{d:Drawn}{t:Nat}{AS:O A0}{B:String}
end
section
variable{E:XK}{p:Pos}{B:String}{k:Nat}{t:TA}
end
section
variable{p kp cp:Pos}{fs:Ev->Y (O Bx)}{j:Int}{kk:Nat}
end
section
variable{e:α->Dt}
end
section
variable{g:Ev->Y AJ}
variable{e:α->Dt}
end
section
variable{e:α->Dt}{σ' τ:Type}
def qE(e:α->Dt):Y (O α)->Bx
 |none=>.z .non
 |some l=>.o (l.map e)
def Fc(e:α->Dt):Y (O α)->Bx
 |none=>.z .non
 |some l=>.l (l.map e)
def YW:R (cB .non) ρ (qE e):=⟨U,U,λ_=>S⟩
def XT(a:R fa ρ (oE e)):R fa ρ (qE e):=⟨Z a.v,a.D,λh=>a.ok h⟩
theorem e9{v:Y (O α)}(h:ρ[i]?=Z (Z (qE e v))):uV ρ i=Z (Fc e v):=by
 unfold uV;rw[h];cases v<;>rfl
def Os(i:Nat)(e:α->Dt)(v:Y (O α))(h:ρ[i]?=Z (Z (qE e v))):R (gv i) ρ (Fc e):=⟨v,U,λ_=>e9 h⟩
class IM (c:Option (List α)->Bx) (e:outParam (α->Dt)):Prop where
 d:∀v,toD (c v)=eO (eL e) v/\xM (c v)=false
instance:IM (qE e) e:=⟨λv=>by cases v<;>exact⟨rfl,rfl⟩⟩
instance:IM (Fc e) e:=⟨λv=>by cases v<;>exact⟨rfl,rfl⟩⟩
instance:IM (zE (eO (eL e))) e:=⟨λv=>⟨rfl,rfl⟩⟩
def Pc(a:R fa ρ (Fc e)):R (b2 D5 fa (cB .non)) ρ (zE eB):=⟨a.v.isNone,a.D,λh=>by
 simp only[b2,a.ok h,At,cB,D5];cases a.v<;>rfl⟩
end
section
variable{p:Pos}{fs:Ev->Y (O Bx)}
end
section
variable{e:α->Dt}
end
section
variable{e:α->Dt}
end
def PD(K:B1)(H0 H:Hp)(c b:Bx)(v:V):Prop:=∃(t:A1) (d a:V),v=.ref t/\Bd K H t [d,a]/\(bB K H c d/\loose c=false)/\bB K H b a/\Nw H0 b a
def GE(K:B1)(n:Nat)(Fa Fb:O Bx->Y Bx):Sp:=λvs H Q _=>vs.length=n/\∃bs a rb,tH K H bs vs/\bs.all (λb=>!nv b)=true/\(Fa bs=Z a/\loose a=false)/\Fb bs=Z rb/\∀v H',AV H H'->PD K H H' a rb v->Q v H'
def nX(K:B1)(ga gb:Ev->Y Ap):TS:=λD σ H=>∃H0 ρ a b,bR K H0 H σ ρ/\(ga ρ=Z (.rt a)/\loose a=false)/\gb ρ=Z (.rt b)/\∀v H',AV H0 H'->PD K H0 H' a b v->D.rt v H'
structure GV (X:Cx) (st:List Stmt) (ga gb:Ev->Option Ap):Prop where
 run:Vp X st (nX X.K ga gb)
section
variable{st:AB}{AS:O AB}{ga:Ev->Y Ap}
theorem yC(h1:Nx X st g1)(f:NR g1)(h2:GV X AS ga gb):GV X (st::AS) (aF g1 ga) (aF g1 gb):=⟨GO (Io h1.run h2.run) λD σ H h=>by
 obtain⟨H0,ρ,g,c,E,⟨e,l⟩,e',q⟩:=h;obtain⟨b,e1,e⟩:=AT e;obtain⟨j,e2,e'⟩:=AT e';rw[e1]at e2;cases e2;refine⟨H0,ρ,b,E,e1,?_⟩;cases b with
 |nx a=>exact λσ' H' d=>⟨H0,a,g,c,d,⟨e,l⟩,e',q⟩
 |rt i=>exact absurd e1 (f _ _)
 |bk a=>cases e
 |ct a=>cases e⟩
theorem eR(i1 i2:Nat){x1 b:AJ}{xx}{p1 tp:Pos}(a0:X.N[i1]?=Z x1:=by rfl)(p:Xx X.env.scope x1:=by first|exact JE rfl|exact QP (JE S)|exact QP (QP S))(K:X.N[i2]?=Z b:=by rfl)(C:Xx X.env.scope b:=by first|exact JE rfl|exact QP (JE S)|exact QP (QP S))(B:(x1==("__debug__":AJ))=false:=by decide)(F:(x1==("__classdict__":AJ))=false:=by decide)(Q:(b==("__debug__":AJ))=false:=by decide)(G:(b==("__classdict__":AJ))=false:=by decide):
  GV X [.Return (Z (.Tuple [.Name x1 p1,.Name b p2] xx tp)) pos] (aF (fK (gv i1)) eE) (aF (zG i2) eE):=⟨by
 intro AN s σ H D I q;obtain⟨H0,ρ,j,L,E,⟨e,l⟩,e',q⟩:=q;obtain⟨r1,e1,e⟩:=AT e;obtain⟨c1,v,e1⟩:=AT e1;obtain⟨i,y,A⟩:=IW E v;obtain⟨r2,e2,e'⟩:=AT e';have W:c1=j:=by
  cases c1<;>first|(cases e1;done)|(cases e1;cases e;rfl)
 subst W;unfold zG at e2;split at e2
 ·rename_i c2 h;obtain⟨c,g,x⟩:=E.val i2 c2 h;have u:c2=L/\Nw H0 c2 c:=by
   cases c2 with
   |l ds=>cases e2
   |n ds=>cases e2
   |z d=>cases e2;cases e';exact⟨rfl,trivial⟩
   |o ds=>cases e2;cases e';exact⟨rfl,λa ea=>E.new i2 _ a h S (by rw[g,ea])⟩
   |m ds w=>cases e2;cases e';exact⟨rfl,λa ea=>E.new i2 _ a h S (by rw[g,ea])⟩
  obtain⟨rfl,M⟩:=u;have J:=Io (Vv (pos:=pos) (MS (x1:=xx) (pos:=tp) (tD (uy (pos:=p1) a0 p B F) (tD (uy (pos:=p2) K C Q G) Du)))) (XC (X:=X));refine J AN s σ H D I ?_;refine⟨i,y,c,g,by show 2<=AA;decide,λt P=>?_⟩;have f:AV H (B4 H t (.tup [i,c])):=cH P;exact q (.ref t) _ (E.base.trans f) ⟨t,i,c,rfl,.inl (.inl bK),⟨A.same f,l⟩,x.same f,M⟩
 ·cases e2⟩
end
theorem b7{st:AB}{f:A1}{k m:Nat}{ga:Ev->Y Ap}(F:CY K x qual st f fd)(S:bF N ps (aP st))(g:N.length=n)(p:ps.length=m)(i:∀ ρ ρ',ga ρ≠Z (.nx ρ'))(t:∀ ρ ρ',gb ρ≠Z (.nx ρ'))(o:∀(a:A0) (A:A5) (outer:O Env) (s:A2) (H:Hp) (E:XK),oF k (A.deeper (AK qual (aP st) s.heap.objs.size f a))->GV (Gy Dz P w K mg base N qual (aP st) f a A outer s H E).nox (jH st) ga gb):
  qQ P w K mg base Dz (k+1) f fd ps (GE K m (dh n ga) (dh n gb)):=by
 subst g p;refine F.ok S (λvs H Q E h=>h.1) λa A outer s H vs Q E z h=>?_;obtain⟨C,bs,u,rb,j,B,⟨e,l⟩,e',q⟩:=h;refine⟨_,(o a A outer s H E z).run,?_⟩;obtain⟨d,e1,e⟩:=AT e;obtain⟨c,e2,e'⟩:=AT e';have h1:d=.rt u:=by
  cases d with
  |rt b=>cases e;rfl
  |nx ρ=>exact absurd e1 (i _ _)
  |bk ρ=>cases e
  |ct ρ=>cases e
 have h2:c=.rt rb:=by
  cases c with
  |rt b=>cases e';rfl
  |nx ρ=>exact absurd e2 (t _ _)
  |bk ρ=>cases e'
  |ct ρ=>cases e'
 subst h1 h2;exact⟨H,_,_,_,bR.start j B,⟨e1,l⟩,e2,λv H' s' y=>q v H' s' y⟩
def NX(g:Ev->Y Ap):Prop:=∀ ρ a,g ρ≠Z (.nx a)
theorem mL(h2:NX g2):NX (aF g1 g2):=λρ c h=>by
 obtain⟨r,e,h⟩:=AT h;cases r with
 |nx a=>exact h2 _ _ h
 |rt b=>cases h
 |bk a=>cases h
 |ct a=>cases h
theorem P3:NX (aF (fK f) eE):=λρ a h=>by
 obtain⟨r,e,h⟩:=AT h;obtain⟨b,eb,e⟩:=AT e;cases b<;>first|(cases e;done)|(cases e;cases h)
theorem Pv:NX (aF (zG i) eE):=λρ a h=>by
 obtain⟨r,e,h⟩:=AT h;unfold zG at e;split at e
 ·rename_i b hb;cases b<;>first|(cases e;done)|(cases e;cases h)
 ·cases e
def ZR(g:Ev->Y Ap):Prop:=∀ ρ b,g ρ=Z (.rt b)->loose b=false
theorem Uh(h1:NR g1)(h2:ZR g2):ZR (aF g1 g2):=λρ b h=>by
 obtain⟨r,e,h⟩:=AT h;cases r with
 |nx a=>exact h2 _ _ h
 |rt b=>exact absurd e (h1 _ _)
 |bk a=>cases h
 |ct a=>cases h
theorem To:ZR (aF (fK (gv i)) eE):=λρ b h=>by
 obtain⟨r,e,h⟩:=AT h;obtain⟨c,a,e⟩:=AT e;have a:uV ρ i=Z c:=a;unfold uV at a;split at a
 ·cases a;cases e
 ·cases a;cases e
 ·rename_i g h1 h2 f;cases a;cases c with
  |z d=>cases e;cases h;rfl
  |l ds=>cases e
  |n ds=>cases e
  |o ds=>exact(h1 ds S).elim
  |m ds w=>exact(h2 ds w S).elim
 ·cases a
theorem TW(hx:NX g)(a:ZR g){bs:O Bx}(h:dh n g bs=Z b):loose b=false:=by
 obtain⟨r,e,h⟩:=AT h;cases r with
 |rt c=>cases h;exact a _ _ e
 |nx ρ=>exact absurd e (hx _ _)
 |bk ρ=>cases h
 |ct ρ=>cases h
theorem Sc(h:i≠j)(ρ:Ev)(b:Y Bx):gv j (ρ.set i b)=gv j ρ:=by
 show uV _ _=uV _ _;unfold uV;rw[List.getElem?_set_ne h]
theorem ff{k:Ev->Y Bx}:NR (N7 i f k):=λρ b h=>by
 obtain⟨x,_,h⟩:=AT h;obtain⟨y,_,h⟩:=AT h;obtain⟨_,_,_,_,_,_,_,_,z⟩:=Ju h;cases z
theorem YX(hb:NR gb):NR (xR fi gt gb):=λρ b h=>by
 obtain⟨ds,_,h⟩:=AT h;exact QX hb ds _ _ h
section
variable{k:Nat}{f:A1}{Fa Fb:O Bx->Y Bx}{p spos:Pos}{fs:Ev->Y (O Bx)}
theorem Pl(i j:Nat){y1 y2:AJ}{p1 tp:Pos}{kt}(Q:X.calm=true)(C:X.N.Nodup)(G:qQ X.prog X.w X.K X.mg X.base Dz k f fd ps (GE X.K n Fa Fb))(hr:oF k X.A)(hg:Gl X x)(hm:X.mg x=Z (.ref f))(J:keepIn X.K (.ref f)=true)(hb:BM X.K fd ps [])(ha:XS X (e::es) fs)(hf:∀ ρ b,fs (ρ.set i b)=fs ρ)(hz:∀bs b,Fa bs=Z b->loose b=false)(a3:(x==("__debug__":AJ))=false:=by decide)(he:A9 (e::es) X.env=(false,eval e X.env)::A9 es X.env:=by rfl)(a0:(AD pos (A9 es X.env)).any (·.1)=false:=by rfl)(hi:X.N[i]?=Z y1:=by rfl)(L:X.N[j]?=Z y2:=by rfl)(I:i≠j:=by decide)(hx:Cs X.env.scope y1:=by first|exact JE rfl|exact QP S)(a2:X.fn y1=true\/X.env.scope.names.lookup y1=Z .local:=by first|exact .inl rfl|exact .inr S)(hy:Cs X.env.scope y2:=by first|exact JE rfl|exact QP S)(a4:X.fn y2=true\/X.env.scope.names.lookup y2=Z .local:=by first|exact .inl rfl|exact .inr S)(hs:swapsWithSole [.Tuple [.Name y1 p1,.Name y2 p2] kt tp] (.Call (.Name x p) (e::es) [] pos) spos.line X.env=pure false:=by rfl)(M:swappedStores [.Tuple [.Name y1 p1,.Name y2 p2] kt tp] (.Call (.Name x p) (e::es) [] pos) X.env=pure U:=by rfl)(h1:(assignEach [.Tuple [.Name y1 p1,.Name y2 p2] kt tp] X.env).map (·.2)=[assign (.Tuple [.Name y1 p1,.Name y2 p2] kt tp) X.env]:=by rfl):
  Nx X (.Assign [.Tuple [.Name y1 p1,.Name y2 p2] kt tp] (.Call (.Name x p) (e::es) [] pos) spos) (aF (As i (bN n Fa fs)) (As j (bN n Fb fs))):=
 ⟨VN (MR (Pu G hr hg hm J hb .nil HU ha.run a3 he a0) (Lu (k:=kt) (pos:=tp) Q (Ip (L2.Ho (pos:=p1) C hi hx a2) (Ip (L2.Ho (pos:=p2) C L hy a4) XD))) hs M h1) λD σ H h=>by
  obtain⟨H0,ρ,r,E,e0,q⟩:=h;obtain⟨g,e1,e0⟩:=AT e0;obtain⟨c,ea,e1⟩:=AT e1;obtain⟨s,o,e1⟩:=AT e1;cases e1;obtain⟨a,eb,e0⟩:=AT e0;obtain⟨a1,d,e0⟩:=AT e0;cases e0;obtain⟨bs,y,ea⟩:=AT ea;obtain⟨a5,z,eb⟩:=AT eb;have B:s=ρ.set i (Z c):=by cases c<;>first|(cases o;done)|(cases o;rfl)
  rw[B,hf,y]at z;cases z;have u:a1=s.set j (Z a)/\(uT a=true\/loose a=false):=by cases a<;>first|(cases d;done)|(cases d;exact⟨rfl,.inl rfl⟩)|(cases d;exact⟨rfl,.inr rfl⟩)
  refine⟨H0,ρ,bs,E,y,λvs H1 m g=>?_⟩;split at ea
  ·rename_i l;rw[zr l]at eb;rw[qr];refine⟨by rw[<-Paired.length g];exact l,_,_,_,Jh g,Qd bs,⟨ea,?_⟩,eb,λv H2 W hp=>?_⟩
   ·exact hz _ _ ea
   ·obtain⟨t,va,vb,rfl,ht,⟨ra,F⟩,rb,nb⟩:=hp;refine⟨t,_,rfl,ht,rfl,va,_,rfl,vb,_,rfl,rfl,q _ _ ?_⟩;rw[u.1,B];have P:=E.set (i:=j) (m.trans W) rb u.2 (nb.old m);have E2:=P.set (i:=i) (AV.refl H2) ra (.inr F) (by cases c<;>first|trivial|cases F);rw[List.set_comm _ _ I,List.set_comm _ _ I];exact E2
  ·cases ea⟩
theorem UC{st:AB}{AS:O AB}{a:Ev->Y Ap}(h1:Nx X st (aF g1 g2))(h2:Sg X AS a):Sg X (st::AS) (aF g1 (aF g2 a)):=by
 have e:aF g1 (aF g2 a)=aF (aF g1 g2) a:=by
  funext ρ;unfold aF;cases g1 ρ with
  |none=>rfl
  |some r=>cases r<;>rfl
 rw[e];exact au h1 h2
end
section
variable{e:α->Dt}
end
end P1
namespace P1
open L2 S1 S6
section
variable{e:α->Dt}
def Y'(a:R fa ρ (Fc e)):R fa ρ (lE e):=⟨a.v.getD [],bC a.D (Z (a.v.isSome=true)),λh=>by
 obtain⟨h1,h2⟩:=aC h;have h2:a.v.isSome=true:=h2;rw[a.ok h1];cases z:a.v with
 |none=>rw[z]at h2;cases h2
 |some l=>rfl⟩
end
end P1
namespace P1
open L2
section
variable{e:α->Dt}
end
theorem BD(a b:AJ):qO a b=true↔qN a b/\a≠b:=by
 unfold qO qN;rw[ltCps_eq];simp only[zC,jS];constructor
 ·intro h;exact⟨List.lt_asymm h,λe=>by subst e;exact List.lt_irrefl _ h⟩
 ·intro⟨h,hn⟩;by_cases q:a.cps.toList<b.cps.toList
  ·exact q
  ·exact absurd (Jq (a:=a) (b:=b) (by unfold qN;rw[ltCps_eq];simpa using h) (by unfold qN;rw[ltCps_eq];simpa using q)) hn
theorem Q5{i:Int}(h:i∈rng 0 n):∃k:Nat,k<n/\i=(k:Int):=by
 unfold rng at h;obtain⟨k,a,rfl⟩:=List.mem_map.mp h;exact⟨k,List.mem_range.mp a,by omega⟩
end P1
namespace P1
open L2 S1 S6
theorem J8[DecidableEq α]{xs ys:O α}(h1:xs.Nodup)(h2:ys.Nodup)(h:∀x,x∈xs↔x∈ys):xs.Perm ys:=by
 rw[List.perm_iff_count];intro a;by_cases b:a∈xs
 ·rw[h1.count,h2.count,zr b,zr ((h a).mp b)]
 ·rw[h1.count,h2.count,zD b,zD λz=>b ((h a).mpr z)]
structure Wd (U:AZ) (w:List AZ):Prop where
 ne:∀s∈w,s≠[]
 so:∀s∈w,s.Pairwise qN
 nd:w.flatten.Nodup
 sub:∀x∈w.flatten,x∈U
 st:w.Pairwise (λa b=>LK a b=true)
def same(w:O AZ)(x y:AJ):Prop:=∃s∈w,x∈s/\y∈s
theorem Ia{α:Type}:∀{w:O (O α)},w.flatten.Nodup->∀{s t:O α} {x:α},s∈w->t∈w->x∈s->x∈t->s=t
 |a::w,h,s,t,x,hs,ht,xs,xt=>by
  rw[kb,ka]at h;rcases List.mem_cons.mp hs with e1|e1<;>rcases List.mem_cons.mp ht with e2|e2
  ·rw[e1,e2]
  ·exact absurd S (h.2.2 x (by rw[<-e1];exact xs) x (List.mem_flatten.mpr ⟨t,e2,xt⟩))
  ·exact absurd S (h.2.2 x (by rw[<-e2];exact xt) x (List.mem_flatten.mpr ⟨s,e1,xs⟩))
  ·exact Ia h.2.1 e1 e2 xs xt
theorem J9{α:Type}:∀{w:O (O α)},w.flatten.Nodup->∀{s:O α},s∈w->s.Nodup
 |a::w,h,s,hs=>by
  rw[kb,ka]at h;rcases List.mem_cons.mp hs with e|e
  ·rw[e];exact h.1
  ·exact J9 h.2.1 e
theorem Cp{α:Type}:∀{w:O (O α)},w.flatten.Nodup->(∀s∈w,s≠[])->w.Nodup
 |[],_,_=>Jn
 |a::w,h,hn=>by
  have h':=h;rw[kb,ka]at h;refine List.nodup_cons.mpr ⟨λz=>?_,Cp h.2.1 λs hs=>hn s (zi _ hs)⟩;obtain⟨x,hx⟩:=List.exists_mem_of_ne_nil a (hn a (zh ..));exact absurd S (h.2.2 x hx x (List.mem_flatten.mpr ⟨a,z,hx⟩))
theorem Wd.YZ{U:AZ}{w:O AZ}(W:Wd U w){s:AZ}(hs:s∈w)(hx:x∈s):same w x y↔y∈s:=
 ⟨λ⟨t,ht,xt,yt⟩=>by rw[Ia W.nd hs ht hx xt];exact yt,λa=>⟨s,hs,hx,a⟩⟩
theorem Y0{U:AZ}{w a:O AZ}(W:Wd U w)(c:Wd U a)(h1:∀x,x∈w.flatten↔x∈a.flatten)(h2:∀x y,same w x y↔same a x y){s:AZ}(hs:s∈w):s∈a:=by
 obtain⟨x,hx⟩:=List.exists_mem_of_ne_nil s (W.ne s hs);obtain⟨t,b,d⟩:=List.mem_flatten.mp ((h1 x).mp (List.mem_flatten.mpr ⟨s,hs,hx⟩));have:s=t:=Qn (J8 (J9 W.nd hs) (J9 c.nd b) λy=>by rw[<-W.YZ hs hx,h2,c.YZ b d]) (W.so s hs) (c.so t b);rw[this];exact b
theorem my{U:AZ}{w b:O AZ}(W:Wd U w)(a:Wd U b)(h1:∀x,x∈w.flatten↔x∈b.flatten)(h2:∀x y,same w x y↔same b x y):w=b:=
 tM (λ_ _=>Ou) (J8 (Cp W.nd W.ne) (Cp a.nd a.ne) λs=>⟨Y0 W a h1 h2,Y0 a W (λx=>(h1 x).symm) λx y=>(h2 x y).symm⟩) W.st a.st
end P1
section
set_option maxHeartbeats 1000000
namespace P1
open L2
open PySem.Builtin PySem.Builtin.Str
abbrev cs(s:AJ):O Nat:=s.cps.toList
theorem Ka(a b:AJ):cs (a++b)=cs a++cs b:=Array.toList_append
theorem yD(a:AJ):a.length=(cs a).length:=by simp[Str.length]
theorem VU(y p q:AJ)(ps:AZ):Str.join y (p::q::ps)=p++y++Str.join y (q::ps):=rfl
theorem Ui(h:n<=x.length):cs (Txt.slice x (Z (n:Int)) U)=(cs x).drop n:=by
 rw[slice_from_eq (b:=x.length) (by omega) (by omega) rfl];show((cs x).drop ((n:Int).toNat)).take _=_;rw[KS,List.take_of_length_le (by rw[km,<-yD];omega)]
theorem Uj(h:n<=x.length):cs (Txt.slice x U (Z (n:Int)))=(cs x).take n:=by
 have:=slice_closes_to (x:=x) (j:=(n:Int)) ⟨by omega,by rw[show x.cps.toList.length=x.length by simp[Str.length]];omega⟩;rw[eq_of_beq this];show((cs x).drop 0).take _=_;simp
theorem d5:∀(y p:AJ) (ps:AZ),cs (Txt.join y (p::ps))=cs p++ps.flatMap λq=>cs y++cs q:=by
 intro y p ps;rw[show Txt.join y (p::ps)=Str.join y (p::ps) from StrLaws.glued_eq_join y _]
 induction ps generalizing p with
 |nil=>simp[Str.join]
 |cons q ps a=>rw[VU,Ka,Ka,a,kc,qo,qo]
end P1
end
section
set_option maxHeartbeats 1000000
namespace P1
open L2 S1 S6
section
variable [Inhabited α]
end
section
variable{e:α->Dt} [u5 e]
end
end P1
end
namespace P1
open L2
open PySem.Builtin PySem.Builtin.Str
end P1
section
set_option maxHeartbeats 1000000
namespace P1
open L2
open PySem.Builtin PySem.Builtin.Str
end P1
end
section
set_option synthInstance.maxSize 100000
namespace G33
open L2 P1
noncomputable section
abbrev nz:=O P1.Dt
abbrev aB:Type:=Int×AJ×AJ×Int
abbrev aG:aB->Dt:=Do eI eS eS eI
abbrev cP:Type:=AJ×AJ×Int
abbrev bV:cP->Dt:=DC eS eS eI
abbrev cT:Type:=AZ×(O aB)×(O cP)
abbrev bA:cT->Dt:=DC (eT eS) (eT aG) (eT bV)
abbrev IT:Type:=Int×AZ
abbrev tu:Type:=aB×(Y cP)
abbrev LQ:tu->Dt:=WW aG (eO bV)
abbrev Uk:Type:=(O AZ)×Int×Int
abbrev oW:Uk->Dt:=DC (eL (eT eS)) eI eI
abbrev cq:Type:=Int×Int
abbrev OL:cq->Dt:=WW eI eI
abbrev NC:Type:=(O AZ)×(O aB)×(O tu)
abbrev OW:NC->Dt:=DC (eL (eT eS)) (eL aG) (eL LQ)
def top(i:Nat):AB:=PySem.Challenge.pw_onefolk_k33_whole_best_and_bars.main.body.getD i (.Pass ⟨0,0,0,0⟩)
abbrev Kc:AB:=top 33
abbrev zR:AB:=top 34
abbrev Gi:AB:=top 35
abbrev Cq:AB:=top 36
abbrev Cr:AB:=top 7
abbrev Cv:AB:=top 8
abbrev Kd:AB:=top 6
abbrev zT:AB:=top 10
abbrev Cw:AB:=top 9
abbrev Ke:AB:=top 5
abbrev Kf:AB:=top 4
abbrev yE:AB:=top 24
abbrev u6:AB:=top 25
abbrev Gj:AB:=top 22
abbrev Gk:AB:=top 14
abbrev Kg:AB:=top 13
abbrev Ul:AB:=top 12
abbrev Cy:AB:=top 28
abbrev yF:AB:=top 27
abbrev Gm:AB:=top 26
abbrev Kh:AB:=top 21
abbrev u9:AB:=top 19
abbrev OD:AB:=top 23
abbrev zU:AB:=top 31
abbrev Cz:AB:=top 30
abbrev CG:AB:=top 37
abbrev Kl:AB:=top 38
abbrev CJ:AB:=top 39
abbrev vA:AB:=top 41
abbrev qP:AB:=top 42
abbrev zV:AB:=top 40
abbrev zW:AB:=top 20
abbrev OJ:AB:=top 18
abbrev s_law:AB:=top 43
def fuel:Nat:=32
def zX:Ev->Y Ap:=(aF (aF (As 2 (b2 jK (b2 iH (b2 xO (gv 2) (cB (.int 69621))) (gv 3)) (cB (.int 2147483647)))) eE) (dZ [3]))
def vU:Ev->Y Ap:=(aF (yR (pK EG (gv 1) (cZ uF (aq (gv 0) aJ))) (aF (fK (b2 fH (gv 0) (gv 1))) eE) eE) (aF (As 2 (b2 jK (b2 xO (cB (.int 48271)) (b2 iH (b2 iH (b2 xO (gv 1) (gv 1)) (b2 xO (cB (.int 7)) (gv 1))) (cB (.int 11)))) (cB (.int 2147483647)))) (aF (xR (DO (N5 (gv 0) oN (tL (cB (.int 3))))) (eZ 3) zX) (aF (fK (gv 2)) eE))))
def jU:O Bx->Y Bx:=dh 4 vU
def oX:Ev->Y Ap:=(aF (aF (As 3 (b2 jK (b2 iH (b2 iH (b2 xO (gv 3) (b2 iH (b2 jK (gv 3) (cB (.int 65521))) (cB (.int 40487)))) (b2 xO (cB (.int 7)) (gv 5))) (cB (.int 5))) (cB (.int 1999999973)))) (aF (Lq 2 (b2 fH (cZ sY (aq (gv 3) (aq (b2 jK (gv 4) (cB (.int 1000000))) aJ))) (cZ F2 (aq (b2 EI (gv 4) (cB (.int 0))) aJ)))) (aF (As 4 (b2 SN (gv 4) (cB (.int 1000000)))) eE))) (dZ [5]))
def pN:Ev->Y Ap:=(aF (As 2 (cZ sY aJ)) (aF (As 3 (b2 jK (b2 xO (b2 iH (b2 jK (gv 0) (cB (.int 1999999973))) (cB (.int 31))) (cB (.int 765432101))) (cB (.int 1999999973)))) (aF (As 4 (cB (.int 0))) (aF (yR (D3 (pK EG (gv 0) (cB (.int 0))) (pK Go (gv 0) (b2 Ha (cB (.int 10)) (cB (.int 18))))) (aF (aF (As 4 (cZ FV (aq (gv 0) aJ))) eE) (dZ [])) (aF eE (dZ []))) (aF (xR (ZX (aq (gv 1) aJ)) (eZ 5) oX) (aF (zG 2) eE))))))
def fW:O Bx->Y Bx:=dh 6 pN
def rZ:Ev->Y Ap:=(aF (aF (As 7 (b2 fH (gv 2) (b2 jK (b2 iH (gv 6) (b2 fH (gv 0) (cB (.int 2)))) (cB (.int 15))))) (aF (As 8 (b2 iH (b2 iH (N5 (gv 3) oN (tL (gv 4))) (gv 7)) (N5 (gv 3) (tL (gv 4)) oN))) (aF (yR (pK BT (b2 jK (b2 fH (gv 0) (cB (.int 3))) (cB (.int 3))) (cB (.int 1))) (aF (aF (As 8 (b2 xO (b2 fH (gv 2) (b2 SN (gv 6) (cB (.int 8)))) (b2 iH (cB (.int 1)) (b2 jK (gv 6) (cB (.int 8)))))) eE) (dZ [])) (aF eE (dZ []))) (aF (Lq 5 (gv 8)) eE)))) (dZ [6,7,8]))
def tZ:Ev->Y Ap:=(aF (As 2 (cB (.str "abcdefghijklmnopqrstuvwxyz"))) (aF (As 3 (b1 (S7 "") (dO (ZX (aq (b2 jK (b2 fH (gv 0) (cB (.int 0))) (cB (.int 6))) aJ)) (eZ 2) oG (b2 fH (gv 0) (b2 jK (b2 SN (b2 fH (gv 1) (gv 2)) (cB (.int 40))) (cB (.int 26)))) [2,0] 1))) (aF (As 4 (b2 jK (b2 fH (gv 0) (cB (.int 1))) (b2 iH (cZ uF (aq (gv 3) aJ)) (cB (.int 1))))) (aF (As 5 (cZ sY aJ)) (aF (xR (ZX (aq (gv 1) aJ)) (eZ 6) rZ) (aF (zG 5) eE))))))
def ql:O Bx->Y Bx:=dh 9 tZ
def qy:Ev->Y Ap:=(aF (aF (As 9 (bN 2 fW (aq (b1 Ba (bN 2 jU (aq (gv 0) (aq (b1 Ba (b2 iH (b2 iH (gv 1) (cB (.int 1))) (gv 8))) aJ)))) (aq (cB (.int 4)) aJ)))) (aF (ZW 10 11 (aq (b2 jK (b2 fH (gv 9) (cB (.int 0))) (cZ GJ (aq (cB (.int 1)) (aq (gv 2) aJ)))) (aq (b2 jK (b2 fH (gv 9) (cB (.int 1))) (cZ GJ (aq (cB (.int 1)) (aq (gv 2) aJ)))) aJ))) (aF (As 12 (b2 fH (cZ sY (aq (b1 Ba (b2 iH (cB (.int 1)) (b2 jK (b2 fH (gv 9) (cB (.int 2))) (cB (.int 3))))) (aq (b1 Ba (b2 iH (cB (.int 1)) (b2 jK (b2 fH (gv 9) (cB (.int 2))) (cB (.int 9))))) (aq (b1 Ba (b2 iH (cB (.int 1)) (b2 jK (b2 fH (gv 9) (cB (.int 2))) (cB (.int 1000))))) aJ)))) (b2 jK (b2 fH (gv 5) (cB (.int 4))) (cB (.int 3))))) (aF (yR (pK ZQ (gv 10) (gv 11)) (aF (aF (Lq 7 (cZ jN (aq (b2 C1 (cB (.int 0)) (gv 12)) (aq (b2 fH (gv 6) (cZ S8 (aq (gv 10) (aq (gv 11) aJ)))) (aq (b2 fH (gv 6) (cZ GJ (aq (gv 10) (aq (gv 11) aJ)))) (aq (b2 fH (cZ sY (aq (cB (.int 0)) (aq (cB (.int 2)) (aq (cB (.int 10)) aJ)))) (b2 jK (b2 fH (gv 9) (cB (.int 3))) (cB (.int 3)))) aJ)))))) eE) (dZ [])) (aF eE (dZ []))) eE)))) (dZ [8,9,10,11,12]))
def qz:Ev->Y Ap:=(aF (aF (As 9 (bN 2 fW (aq (b1 Ba (bN 2 jU (aq (gv 0) (aq (b1 Ba (b2 iH (b2 iH (gv 1) (cB (.int 1))) (gv 8))) aJ)))) (aq (cB (.int 8)) aJ)))) (aF (ZW 10 11 (aq (b2 jK (b2 fH (gv 9) (cB (.int 5))) (cZ GJ (aq (cB (.int 1)) (aq (gv 2) aJ)))) (aq (b2 jK (b2 fH (gv 9) (cB (.int 6))) (cZ GJ (aq (cB (.int 1)) (aq (gv 2) aJ)))) aJ))) (aF (yR (pK ZQ (gv 10) (gv 11)) (aF (aF (Lq 14 (cZ jN (aq (b2 fH (gv 6) (cZ S8 (aq (gv 10) (aq (gv 11) aJ)))) (aq (b2 fH (gv 6) (cZ GJ (aq (gv 10) (aq (gv 11) aJ)))) (aq (b2 fH (cZ sY (aq (cB (.int 2)) (aq (cB (.int 10)) aJ))) (b2 jK (b2 fH (gv 9) (cB (.int 7))) (cB (.int 2)))) aJ))))) eE) (dZ [])) (aF eE (dZ []))) eE))) (dZ [8,9,10,11]))
def qT:Ev->Y Ap:=(aF (As 5 (bN 2 fW (aq (b1 Ba (bN 2 jU (aq (gv 0) (aq (gv 1) aJ)))) (aq (cB (.int 6)) aJ)))) (aF (As 6 (cZ N6 (aq (bN 2 ql (aq (gv 5) (aq (gv 2) aJ))) aJ))) (aF (As 7 (cZ sY aJ)) (aF (xR (ZX (aq (gv 3) aJ)) (eZ 8) qy) (aF (As 13 (dO (zP (JG (Ww (gv 7)))) (jx 4 (aV (eZ 0) (aV (eZ 1) (aV (eZ 2) (aV (eZ 3) jO))))) oG (cZ jN (aq (b2 C1 (cB (.int 0)) (gv 0)) (aq (gv 1) (aq (gv 2) (aq (gv 3) aJ))))) [] 4)) (aF (As 14 (cZ sY aJ)) (aF (xR (ZX (aq (gv 4) aJ)) (eZ 8) qz) (aF (fK (cZ jN (aq (cZ gF (aq (gv 6) aJ)) (aq (cZ gF (aq (gv 13) aJ)) (aq (cZ gF (aq (JG (Ww (gv 14))) aJ)) aJ))))) eE))))))))
def qU:O Bx->Y Bx:=dh 15 qT
def qW:Ev->Y Ap:=(aF (fK (Ys (zP (gv 0)) (eZ 0) oG (gv 0) (gv 0) [] 1)) eE)
def kh:O Bx->Y Bx:=dh 1 qW
def wR:Ev->Y Ap:=(aF (aF (yR (D3 (pK BT (b2 eX (gv 0) (gv 4)) (gv 1)) (pK BT (b2 eX (gv 0) (gv 4)) (gv 2))) (aF (aF (N7 0 (gv 3) (gv 4)) eE) (dZ [])) (aF eE (dZ []))) eE) (dZ [4]))
def qX:Ev->Y Ap:=(aF (aF (As 3 (cZ JK (aq (gv 1) (aq (gv 2) aJ)))) (aF (xR (DO (cZ JL (aq (gv 0) aJ))) (eZ 4) wR) eE)) (dZ [3,4]))
def ji:A1->O (AY×Dt)->O Bx->Y (O (AY×Dt)):=T6 5 qX
def uI:Ev->Y Ap:=(aF (aF (FZ 2 2 ji (aq (b2 eX (gv 2) (gv 4)) (aq (b2 eX (gv 2) (gv 5)) aJ))) eE) (dZ [3,4,5,6]))
def oY:Ev->Y Ap:=(aF (As 2 (bN 1 kh (aq (gv 0) aJ))) (aF (rO 1 (jx 4 (aV (eZ 3) (aV (eZ 4) (aV (eZ 5) (aV (eZ 6) jO))))) uI) (aF (zG 2) eE)))
def mO:O Bx->Y Bx:=dh 7 oY
def pP:Ev->Y Ap:=(aF (fK (cZ gF (aq (dO (T3 (gv 0)) (eZ 2) (pK BT (b2 eX (gv 1) (gv 2)) (gv 0)) (gv 2) [1,0] 1) aJ))) eE)
def pQ:O Bx->Y Bx:=dh 2 pP
def qY:Ev->Y Ap:=(aF (fK (dO (T3 (gv 0)) (eZ 1) (pK BT (b2 eX (gv 0) (gv 1)) (gv 1)) (b1 Ba (bN 2 pQ (aq (gv 0) (aq (gv 1) aJ)))) [0] 1)) eE)
def kj:O Bx->Y Bx:=dh 1 qY
def oZ:Ev->Y Ap:=(aF (fK (bN 1 kj (aq (bN 2 mO (aq (gv 0) (aq (gv 1) aJ))) aJ))) eE)
def jk:O Bx->Y Bx:=dh 2 oZ
def vV:Ev->Y Ap:=(aF (fK (bN 2 jk (aq (b2 fH (gv 0) (cB (.int 0))) (aq (b2 fH (gv 0) (cB (.int 1))) aJ)))) eE)
def vW:O Bx->Y Bx:=dh 1 vV
def nF:Ev->Y Ap:=(aF (DX (jx 3 (aV (eZ 1) (aV (eZ 2) (aV (eZ 3) jO)))) (gv 0)) (aF (fK (dO (zP (bN 1 vW (aq (gv 0) aJ))) (eZ 2) oG (cZ jN (aq (gv 2) (aq (cZ gF (aq (dO (zP (gv 0)) (eZ 1) (pK D9 (b2 fH (gv 1) (cB (.int 1))) (gv 0)) (gv 1) [2] 1) aJ)) (aq (cZ gF (aq (dO (zP (gv 1)) (eZ 1) (GC (pK D9 (b2 fH (gv 1) (cB (.int 0))) (gv 0)) (pK D9 (b2 fH (gv 1) (cB (.int 1))) (gv 0))) (gv 1) [2] 1) aJ)) aJ)))) [2,3] 1)) eE))
def nG:O Bx->Y Bx:=dh 4 nF
def kE:Ev->Y Ap:=(aF (aF (DX (jx 3 (aV (eZ 1) (aV (eZ 2) (aV (eZ 3) jO)))) (gv 0)) (aF (yR (GC (tV (gv 3)) (D3 (pK EI (cZ uF (aq (gv 1) aJ)) (cB (.int 8))) (pK EI (cZ uF (aq (gv 2) aJ)) (cB (.int 12))))) (aF IE eE) eE) eE)) (dZ [1,2,3]))
def kJ:O Bx->Y Bx:=dh 4 kE
def mZ:Ev->Y Ap:=(aF (fK (cZ WQ (aq (dO (zP (gv 0)) (eZ 0) oG (b2 fH (gv 0) (cB (.int 0))) [] 1) aJ))) eE)
def eF:O Bx->Y Bx:=dh 1 mZ
def uc:Ev->Y Ap:=(aF (yR (pK BT (b2 fH (gv 0) (cB (.int 1))) (gv 1)) (aF (fK (b2 fH (gv 0) (cB (.int 2)))) eE) eE) (aF (yR (pK BT (b2 fH (gv 0) (cB (.int 2))) (gv 1)) (aF (fK (b2 fH (gv 0) (cB (.int 1)))) eE) eE) (aF (fK (cB .non)) eE)))
def m5:O Bx->Y Bx:=dh 2 uc
def zY:Ev->Y Ap:=(aF (aF (Lq 2 (b2 eX (gv 0) (gv 3))) (aF (As 3 (bN 2 m5 (aq (b2 eX (gv 0) (gv 3)) (aq (gv 3) aJ)))) eE)) (dZ []))
def vX:Ev->Y Ap:=(aF (As 2 (cZ sY aJ)) (aF (As 3 (gv 1)) (aF (CD (pK Jl (b2 eX (gv 0) (gv 3)) (cB .non)) zY 70) (aF (zG 2) eE))))
def vY:O Bx->Y Bx:=dh 4 vX
def Gn:Ev->Y Ap:=(aF (aF (As 7 (bN 2 m5 (aq (gv 6) (aq (gv 5) aJ)))) (aF (yR (GC (pK Jl (gv 7) (cB .non)) (pK EV (gv 7) (gv 3))) (aF (aF (N7 3 (gv 6) (gv 7)) (aF (Lq 4 (gv 7)) eE)) (dZ [])) (aF eE (dZ []))) eE)) (dZ [6,7]))
def Gp:Ev->Y Ap:=(aF (aF (FH 5 4 (cB (.int 0))) (aF (rO 0 (eZ 6) Gn) eE)) (dZ [5,6,7]))
def CK:Ev->Y Ap:=(aF (As 3 (b2 Om (gv 1) (cB .non))) (aF (As 4 (cZ sY (aq (gv 1) aJ))) (aF (CD (tV (gv 4)) Gp 70) (aF (yR (pK EV (gv 2) (gv 3)) (aF (fK (cB .non)) eE) eE) (aF (fK (b2 EO (bN 2 vY (aq (gv 3) (aq (gv 2) aJ))) (b1 Qg (cB (.int 1))))) eE)))))
def CN:O Bx->Y Bx:=dh 8 CK
def wU:Ev->Y Ap:=(aF (aF (yR (pK BT (b2 eX (gv 6) (b2 fH (gv 7) (cB (.int 0)))) (b2 eX (gv 6) (b2 fH (gv 7) (cB (.int 1))))) (aF (fK (bN 3 CN (aq (gv 5) (aq (b2 fH (gv 7) (cB (.int 0))) (aq (b2 fH (gv 7) (cB (.int 1))) aJ))))) eE) eE) eE) (dZ [7]))
def qZ:Ev->Y Ap:=(aF (DX (jx 3 (aV (eZ 2) (aV (eZ 3) (aV (eZ 4) jO)))) (gv 0)) (aF (As 5 (dO (zP (gv 3)) (eZ 1) (pK WL (gv 1) (gv 0)) (gv 1) [1] 1)) (aF (As 6 (bN 2 mO (aq (gv 2) (aq (gv 5) aJ)))) (aF (rO 4 (eZ 7) wU) (aF (fK (cB .non)) eE)))))
def nH:O Bx->Y Bx:=dh 8 qZ
def nJ(iM:O Bx->Y Bx):Ev->Y Ap:=(aF (yR (pK Go (bN 1 eF (aq (gv 2) aJ)) (gv 3)) (aF (fK (cB .non)) eE) eE) (aF (As 4 (bN 2 nH (aq (gv 0) (aq (gv 2) aJ)))) (aF (yR (pK D5 (gv 4) (cB .non)) (aF (fK (gv 2)) eE) eE) (aF (As 5 (dO (zP (gv 4)) (eZ 1) (pK WL (gv 1) (gv 0)) (gv 1) [1] 1)) (aF (yR (ZG (tV (gv 5))) (aF (fK (cB .non)) eE) eE) (aF (As 6 (bN 4 iM (aq (gv 0) (aq (gv 1) (aq (b1 Ba (b2 iH (gv 2) (N5 (gv 5) oN (tL (cB (.int 1)))))) (aq (gv 3) aJ)))))) (aF (yR (pK Jl (gv 6) (cB .non)) (aF (aF (As 3 (bN 1 eF (aq (gv 6) aJ))) eE) (dZ [])) (aF eE (dZ []))) (aF (As 7 (bN 4 iM (aq (gv 0) (aq (b1 Ba (b2 iH (gv 1) (N5 (gv 5) oN (tL (cB (.int 1)))))) (aq (gv 2) (aq (gv 3) aJ)))))) (aF (fK (b1 Ba (HH (pK D5 (gv 7) (cB .non)) (gv 6) (gv 7)))) eE)))))))))
def dJ:Nat->O Bx->Y Bx
 |0=>dh 8 λ_=>U
 |n+1=>dh 8 (nJ (dJ n))
def iM:O Bx->Y Bx:=dJ fuel
def ud:Ev->Y Ap:=(aF (DX (jx 3 (aV (eZ 1) (aV (eZ 2) (aV (eZ 3) jO)))) (gv 0)) (aF (As 4 (bN 4 iM (aq (gv 0) (aq (b1 Ba (cZ sY aJ)) (aq (b1 Ba (cZ sY aJ)) (aq (b1 Ba (b2 iH (bN 1 eF (aq (gv 2) aJ)) (cB (.int 1)))) aJ)))))) (aF (fK (bN 2 jk (aq (gv 1) (aq (b1 Ba (dO (zP (gv 2)) (eZ 1) (pK WL (gv 1) (gv 0)) (gv 1) [4] 1)) aJ)))) eE)))
def uf:O Bx->Y Bx:=dh 5 ud
def vZ:Ev->Y Ap:=(aF (fK (Q0 (HM (aq (gv 0) aJ)) (jx 2 (aV (eZ 0) (aV (eZ 1) jO))) oG (EH (DO (gv 1)) (eZ 2) oG (V5 (b2 Ce (gv 2) (gv 0)))) [] 3)) eE)
def o7:O Bx->Y Bx:=dh 1 vZ
def kO:Ev->Y Ap:=(aF (As 2 (bN 1 o7 (aq (gv 0) aJ))) (aF (fK (dO (zP (gv 1)) (eZ 1) (pK BT (b2 eX (gv 0) (b2 fH (gv 1) (cB (.int 1)))) (b2 eX (gv 0) (b2 fH (gv 1) (cB (.int 2))))) (gv 1) [2] 1)) eE))
def gq:O Bx->Y Bx:=dh 3 kO
def CP:Ev->Y Ap:=(aF (aF (Yx (bN 1 kJ (aq (gv 2) aJ))) eE) (dZ [2]))
def zf:Ev->Y Ap:=(aF (As 1 (bN 1 nG (aq (gv 0) aJ))) (aF (rO 1 (eZ 2) CP) (aF (As 3 (cZ oU (aq (QZ (zP (gv 1)) (eZ 0) oG (EH (DO (bN 1 uf (aq (gv 0) aJ))) (eZ 1) oG (V5 (gv 1))) [] 2) aJ))) (aF (As 4 (bN 1 eF (aq (b1 Ba (bN 2 gq (aq (gv 3) (aq (b2 fH (gv 0) (cB (.int 1))) aJ)))) aJ))) (EF 3 (aF (fK (cZ jN (aq (gv 3) (aq (gv 4) (aq (b2 C1 (bN 1 eF (aq (b2 fH (gv 0) (cB (.int 1))) aJ)) (gv 4)) aJ))))) eE))))))
def iQ:O Bx->Y Bx:=dh 5 zf
def vB:Ev->Y Ap:=(aF (aF (yR (D3 (GC (pK BT (b2 eX (gv 1) (b2 fH (gv 4) (cB (.int 0)))) (gv 2)) (pK BT (b2 eX (gv 1) (b2 fH (gv 4) (cB (.int 1)))) (gv 3))) (GC (pK BT (b2 eX (gv 1) (b2 fH (gv 4) (cB (.int 0)))) (gv 3)) (pK BT (b2 eX (gv 1) (b2 fH (gv 4) (cB (.int 1)))) (gv 2)))) (aF (fK (gv 4)) eE) eE) eE) (dZ [4]))
def pR:Ev->Y Ap:=(aF (rO 0 (eZ 4) vB) (aF (fK (cB .non)) eE))
def pU:O Bx->Y Bx:=dh 5 pR
def wV:Ev->Y Ap:=(aF (aF (As 8 (b2 eX (gv 4) (b2 fH (gv 7) (cB (.int 1))))) (aF (As 9 (b2 eX (gv 4) (b2 fH (gv 7) (cB (.int 2))))) (aF (yR (pK ZQ (gv 8) (gv 9)) (aF (aF (As 10 (bN 4 pU (aq (gv 3) (aq (gv 4) (aq (gv 8) (aq (gv 9) aJ)))))) (aF (yR (pK D5 (gv 10) (cB .non)) (aF (aF (FZ 4 2 ji (aq (gv 8) (aq (gv 9) aJ))) (aF (Lq 5 (gv 7)) eE)) (dZ [])) (aF (aF (Lq 6 (cZ jN (aq (gv 7) (aq (gv 10) aJ)))) eE) (dZ []))) eE)) (dZ [10])) (aF eE (dZ [10]))) eE))) (dZ [7,8,9,10]))
def q8:Ev->Y Ap:=(aF (DX (jx 3 (aV (eZ 1) (aV (eZ 2) (aV (eZ 3) jO)))) (gv 0)) (aF (As 4 (bN 1 kh (aq (gv 1) aJ))) (aF (As 5 (cZ sY aJ)) (aF (As 6 (cZ sY aJ)) (aF (rO 2 (eZ 7) wV) (EF 5 (EF 6 (aF (fK (cZ jN (aq (b1 Ba (bN 1 kj (aq (gv 4) aJ))) (aq (gv 5) (aq (gv 6) aJ))))) eE))))))))
def q9:O Bx->Y Bx:=dh 11 q8
def rz:Ev->Y Ap:=(aF (fK (dO (zP (gv 1)) (eZ 1) (GC (pK D9 (b2 fH (gv 1) (b1 Qg (cB (.int 3)))) (gv 0)) (pK D9 (b2 fH (gv 1) (b1 Qg (cB (.int 2)))) (gv 0))) (gv 1) [0] 1)) eE)
def rA:O Bx->Y Bx:=dh 2 rz
def wg:Ev->Y Ap:=(aF (fK (cZ WQ (aq (dO (zP (gv 1)) (eZ 1) oG (b1 Ba (cZ WQ (aq (dO (zP (bN 2 rA (aq (gv 1) (aq (b2 fH (gv 0) (cB (.int 1))) aJ)))) (eZ 0) oG (b2 fH (gv 0) (cB (.int 0))) [] 1) aJ))) [0] 1) aJ))) eE)
def su:O Bx->Y Bx:=dh 2 wg
def rB:Ev->Y Ap:=(aF (fK (b2 fH (dO (zP (gv 0)) (eZ 1) (pK D9 (gv 0) (gv 1)) (gv 1) [1] 1) (cB (.int 0)))) eE)
def nM:O Bx->Y Bx:=dh 2 rB
def kW:Ev->Y Ap:=(aF (DX (jx 3 (aV (eZ 3) (aV (eZ 4) (aV (eZ 5) jO)))) (gv 0)) (aF (ZW 6 7 (aq (b2 jK (b2 fH (gv 2) (cB (.int 0))) (cZ uF (aq (gv 3) aJ))) (aq (b2 jK (b2 fH (gv 2) (cB (.int 1))) (cZ uF (aq (gv 3) aJ))) aJ))) (aF (yR (pK ZQ (gv 6) (gv 7)) (aF (As 8 (cZ jN (aq (b2 fH (gv 3) (cZ S8 (aq (gv 6) (aq (gv 7) aJ)))) (aq (b2 fH (gv 3) (cZ GJ (aq (gv 6) (aq (gv 7) aJ)))) (aq (cB (.int 7)) aJ))))) (aF (As 9 (bN 1 iQ (aq (cZ jN (aq (gv 3) (aq (gv 4) (aq (cZ gF (aq (cZ oU (aq (b2 iH (gv 5) (cZ jN (aq (gv 8) aJ))) aJ)) aJ)) aJ)))) aJ))) (aF (yR (D3 (pK EI (b2 fH (gv 9) (cB (.int 1))) (b2 fH (gv 1) (cB (.int 1)))) (GC (pK ZQ (bN 2 nM (aq (b2 fH (gv 1) (cB (.int 0))) (aq (b2 fH (gv 8) (cB (.int 0))) aJ))) (bN 2 nM (aq (b2 fH (gv 1) (cB (.int 0))) (aq (b2 fH (gv 8) (cB (.int 1))) aJ)))) (pK ZQ (b2 fH (gv 9) (cB (.int 1))) (b2 fH (gv 1) (cB (.int 1)))))) (aF (fK (cB (.bl false))) eE) eE) eE))) eE) (aF (yR (pK ZQ (gv 5) (cZ jN aJ)) (aF (As 10 (bN 1 iQ (aq (cZ jN (aq (gv 3) (aq (gv 4) (aq (b1 Ba (N5 (gv 5) (tL (cB (.int 1))) oN)) aJ)))) aJ))) (aF (yR (pK EG (b2 fH (gv 10) (cB (.int 1))) (b2 fH (gv 1) (cB (.int 1)))) (aF (fK (cB (.bl false))) eE) eE) eE)) eE) (aF (fK (cB (.bl true))) eE)))))
def kY:O Bx->Y Bx:=dh 11 kW
def iB:Ev->Y Ap:=(aF (DX (jx 3 (aV (eZ 3) (aV (eZ 4) (aV (eZ 5) jO)))) (gv 0)) (aF (As 6 (b2 iH (cB (.int 2)) (b2 jK (b2 fH (gv 2) (cB (.int 2))) (cB (.int 4))))) (aF (As 7 (cZ gF (aq (dO (zP (gv 4)) (jx 4 (aV (eZ 1) (aV (eZ 2) (aV (eZ 3) (aV (eZ 4) jO))))) (pK Fk (b2 xO (gv 1) (gv 0)) (cB (.int 1000))) (cZ jN (aq (b2 xO (gv 1) (gv 0)) (aq (gv 2) (aq (gv 3) (aq (gv 4) aJ))))) [6] 4) aJ))) (aF (yR (GC (pK BT (cZ uF (aq (gv 7) aJ)) (cZ uF (aq (gv 4) aJ))) (pK ZQ (b2 fH (bN 1 iQ (aq (cZ jN (aq (gv 3) (aq (gv 7) (aq (gv 5) aJ)))) aJ)) (cB (.int 1))) (b2 xO (b2 fH (gv 1) (cB (.int 1))) (gv 6)))) (aF (fK (cB (.bl false))) eE) eE) (aF (ZW 8 9 (aq (b2 jK (b2 fH (gv 2) (cB (.int 3))) (cZ uF (aq (gv 3) aJ))) (aq (b2 jK (b2 fH (gv 2) (cB (.int 4))) (cZ uF (aq (gv 3) aJ))) aJ))) (aF (yR (pK BT (gv 8) (gv 9)) (aF (fK (cB (.bl true))) eE) eE) (aF (As 10 (b2 iH (cB (.int 1)) (b2 jK (b2 fH (gv 2) (cB (.int 5))) (cB (.int 9))))) (aF (As 11 (cZ oU (aq (b2 iH (dO (zP (gv 4)) (jx 4 (aV (eZ 0) (aV (eZ 1) (aV (eZ 2) (aV (eZ 3) jO))))) oG (cZ jN (aq (b2 C1 (cB (.int 0)) (gv 0)) (aq (gv 1) (aq (gv 2) (aq (gv 3) aJ))))) [] 4) (cZ sY (aq (cZ jN (aq (b2 C1 (cB (.int 0)) (gv 10)) (aq (b2 fH (gv 3) (cZ S8 (aq (gv 8) (aq (gv 9) aJ)))) (aq (b2 fH (gv 3) (cZ GJ (aq (gv 8) (aq (gv 9) aJ)))) (aq (cB (.int 9)) aJ))))) aJ))) aJ))) (aF (As 12 (b2 fH (bN 1 iQ (aq (cZ jN (aq (gv 3) (aq (cZ gF (aq (dO (zP (gv 11)) (jx 4 (aV (eZ 0) (aV (eZ 1) (aV (eZ 2) (aV (eZ 3) jO))))) oG (cZ jN (aq (b2 C1 (cB (.int 0)) (gv 0)) (aq (gv 1) (aq (gv 2) (aq (gv 3) aJ))))) [] 4) aJ)) (aq (gv 5) aJ)))) aJ)) (cB (.int 1)))) (aF (fK (FL Fk Fk (b2 fH (gv 1) (cB (.int 1))) (gv 12) (b2 iH (b2 fH (gv 1) (cB (.int 1))) (gv 10)))) eE))))))))))
def iD:O Bx->Y Bx:=dh 13 iB
def iR:Ev->Y Ap:=(aF (aF (N7 4 (b1 Ba (b2 iH (b2 iH (cB (.str "n")) (b2 fH (cB (.str "abcdefgh")) (gv 5))) (N5 (b2 fH (gv 1) (gv 5)) oN (tL (cB (.int 6)))))) (b2 fH (gv 1) (gv 5))) eE) (dZ [5]))
def mj:Ev->Y Ap:=(aF (DX (jx 3 (aV (eZ 1) (aV (eZ 2) (aV (eZ 3) jO)))) (gv 0)) (aF (As 4 (λ_=>Z (.m [] U))) (aF (xR (ZX (aq (cZ uF (aq (gv 1) aJ)) aJ)) (eZ 5) iR) (aF (As 6 (dO (zP (gv 2)) (jx 4 (aV (eZ 1) (aV (eZ 2) (aV (eZ 3) (aV (eZ 4) jO))))) oG (cZ jN (aq (gv 1) (aq (b2 eX (gv 0) (gv 2)) (aq (b2 eX (gv 0) (gv 3)) (aq (gv 4) aJ))))) [4] 4)) (aF (As 7 (cZ jN (aq (cZ gF (aq (dO (zP (gv 1)) (eZ 1) oG (b2 eX (gv 0) (gv 1)) [4] 1) aJ)) (aq (cZ gF (aq (gv 6) aJ)) (aq (cZ gF (aq (dO (zP (gv 3)) (jx 3 (aV (eZ 1) (aV (eZ 2) (aV (eZ 3) jO)))) oG (cZ jN (aq (b2 eX (gv 0) (gv 1)) (aq (b2 eX (gv 0) (gv 2)) (aq (gv 3) aJ)))) [4] 3) aJ)) aJ))))) (aF (fK (gv 7)) eE))))))
def jC:O Bx->Y Bx:=dh 8 mj
abbrev Al:Ev->Y Ap:=iR
def mD:Ev->Y Ap:=(aF (DX (jx 3 (aV (eZ 1) (aV (eZ 2) (aV (eZ 3) jO)))) (gv 0)) (aF (As 4 (λ_=>Z (.m [] U))) (aF (xR (ZX (aq (cZ uF (aq (gv 1) aJ)) aJ)) (eZ 5) iR) (aF (As 6 (dO (zP (gv 2)) (jx 4 (aV (eZ 1) (aV (eZ 2) (aV (eZ 3) (aV (eZ 4) jO))))) oG (cZ jN (aq (gv 1) (aq (b2 eX (gv 0) (gv 2)) (aq (b2 eX (gv 0) (gv 3)) (aq (gv 4) aJ))))) [4] 4)) (aF (As 7 (cZ jN (aq (cZ gF (aq (dO (zP (gv 1)) (eZ 1) oG (b2 eX (gv 0) (gv 1)) [4] 1) aJ)) (aq (cZ gF (aq (gv 6) aJ)) (aq (cZ gF (aq (dO (zP (gv 3)) (jx 3 (aV (eZ 1) (aV (eZ 2) (aV (eZ 3) jO)))) oG (cZ jN (aq (b2 eX (gv 0) (gv 1)) (aq (b2 eX (gv 0) (gv 2)) (aq (gv 3) aJ)))) [4] 3) aJ)) aJ))))) (aF (zG 4) eE))))))
def jy:O Bx->Y Bx:=dh 8 mD
def pW:Ev->Y Ap:=(aF (As 2 (bN 1 o7 (aq (gv 0) aJ))) (aF (fK (dO (zP (gv 1)) (eZ 1) (pK BT (b2 eX (gv 0) (b2 fH (gv 1) (cB (.int 0)))) (b2 eX (gv 0) (b2 fH (gv 1) (cB (.int 1))))) (gv 1) [2] 1)) eE))
def pX:O Bx->Y Bx:=dh 3 pW
def zj:Ev->Y Ap:=(aF (DX (jx 3 (aV (eZ 2) (aV (eZ 3) (aV (eZ 4) jO)))) (gv 0)) (aF (As 5 (bN 2 gq (aq (gv 1) (aq (gv 3) aJ)))) (aF (fK (FF (GG (bN 2 pX (aq (gv 1) (aq (gv 4) aJ)))) (b2 BT (bN 2 jk (aq (gv 2) (aq (gv 5) aJ))) (cZ oU (aq (gv 1) aJ))))) eE)))
def zm:O Bx->Y Bx:=dh 6 zj
def Y4:Ev->Y Ap:=(aF (As 1 (bN 2 fW (aq (b1 Ba (bN 2 jU (aq (gv 0) (aq (cB (.int 0)) aJ)))) (aq (cB (.int 16)) aJ)))) (aF (As 2 (bN 5 qU (aq (gv 0) (aq (cB (.int 0)) (aq (b1 Ba (b2 iH (cB (.int 2)) (b2 jK (b2 fH (gv 1) (cB (.int 6))) (cB (.int 6))))) (aq (b2 jK (b2 fH (gv 1) (cB (.int 7))) (cB (.int 11))) (aq (b2 jK (b2 fH (gv 1) (cB (.int 8))) (cB (.int 4))) aJ))))))) (aF (As 3 (bN 1 iQ (aq (gv 2) aJ))) (aF (yR (pK EI (bN 2 su (aq (gv 2) (aq (b2 fH (bN 1 q9 (aq (gv 2) aJ)) (cB (.int 0))) aJ))) (b2 fH (gv 3) (cB (.int 1)))) (aF (fK (cB (.bl false))) eE) eE) (aF (yR (D3 (ZG (tV (bN 3 kY (aq (gv 2) (aq (gv 3) (aq (b1 Ba (N5 (gv 1) (tL (cB (.int 9))) oN)) aJ)))))) (ZG (tV (bN 3 iD (aq (gv 2) (aq (gv 3) (aq (b1 Ba (N5 (gv 1) (tL (cB (.int 9))) oN)) aJ))))))) (aF (fK (cB (.bl false))) eE) eE) (aF (As 4 (bN 1 jC (aq (gv 2) aJ))) (aF (As 5 (bN 1 jy (aq (gv 2) aJ))) (aF (yR (pK ZQ (N5 (bN 1 iQ (aq (gv 4) aJ)) (tL (cB (.int 1))) oN) (N5 (gv 3) (tL (cB (.int 1))) oN)) (aF (fK (cB (.bl false))) eE) eE) (aF (As 6 (cZ oU (aq (dO (zP (b2 fH (gv 3) (cB (.int 0)))) (eZ 1) oG (cZ gF (aq (dO (zP (gv 1)) (eZ 1) oG (b2 eX (gv 0) (gv 1)) [0] 1) aJ)) [5] 1) aJ))) (aF (fK (FF (bN 2 zm (aq (gv 4) (aq (gv 6) aJ))) (b2 BT (bN 2 su (aq (gv 4) (aq (gv 6) aJ))) (b2 fH (gv 3) (cB (.int 1)))))) eE))))))))))
def F_law:O Bx->Y Bx:=dh 7 Y4
end
theorem OR:NR iR:=OS (OS ff PQ) dt
theorem a6(ρ:Ev)(b:Y Bx):(aq (gv 2) aJ) (ρ.set 4 b)=(aq (gv 2) aJ) ρ:=by
 show((gv 2 (ρ.set 4 b)).bind _)=((gv 2 ρ).bind _);rw[Sc (by decide)];rfl
theorem eJ(bs:O Bx)(b:Bx)(h:jC bs=Z b):loose b=false:=
 TW (n:=8) (g:=mj) (mL (mL (mL (mL (mL P3))))) (Uh LF (Uh Ep (Uh (YX OR) (Uh Ep (Uh Ep To))))) h
end G33
end
section
set_option synthInstance.maxSize 100000
namespace G33
open L2 P1
structure T (K:B1) (mg:Str->Option Value) where
 jV:DQ K mg "_law_cell" Kc ["_law_script","_law_k"]
 fX:DQ K mg "_law_numbers" zR ["_law_cell_here","_law_many"]
 ug:DQ K mg "_law_names" Gi ["_law_xs","_law_many"]
 rC:DQ K mg "_law_ground" Cq ["_law_script","_law_at","_law_many","_law_reasons","_law_bars"]
 kZ:DQ K mg "lone_heads" Cr ["names"]
 dD:DQ K mg "join_heads" Cv ["heads","one","other"]
 o8:DQ K mg "heads_by" Kd ["names","reasons"]
 pY:DQ K mg "names_under" zT ["heads","head"]
 lg:DQ K mg "sets_under" Cw ["heads"]
 jW:DQ K mg "parts_by" Ke ["names","reasons"]
 wj:DQ K mg "parts_of" Kf ["ground"]
 nO:DQ K mg "part_grounds" yE ["ground"]
 lq:DQ K mg "refuse_no_room" u6 ["own"]
 cX:DQ K mg "weight_of" Gj ["reasons"]
 m7:DQ K mg "other_end" Gk ["reason","name"]
 wz:DQ K mg "way_back" Kg ["came_by","end"]
 CQ:DQ K mg "way_by" Ul ["reasons","start","end"]
 gW:DQ K mg "barred_way" Cy ["own","cut"]
 cJ:DQ K mg "lightest_cut" yF ["own","held","cut","limit"]
 uh:DQ K mg "best_sets" Gm ["own"]
 o9:DQ K mg "homes_of" Kh ["sets"]
 gw:DQ K mg "reasons_within" u9 ["sets","reasons"]
 iT:DQ K mg "best_of" OD ["ground"]
 pZ:DQ K mg "bar_between" zU ["bars","heads","one","other"]
 rD:DQ K mg "joining_of" Cz ["ground"]
 rE:DQ K mg "_law_inside" CG ["_law_names_here","_law_rows"]
 sy:DQ K mg "_law_kept" Kl ["_law_ground_here","_law_sets"]
 nP:DQ K mg "_law_set_of" CJ ["_law_sets","_law_name"]
 lu:DQ K mg "_law_bars_right" vA ["_law_ground_here","_law_told","_law_xs"]
 iG:DQ K mg "_law_weights_right" qP ["_law_ground_here","_law_told","_law_xs"]
 fY:DQ K mg "_law_renamed" zV ["_law_ground_here"]
 p7:DQ K mg "bars_within" zW ["sets","bars"]
 zp:DQ K mg "is_good" OJ ["ground","sets"]
 x_law:DQ K mg "law" s_law ["_law_script"]
 akX:mg "abs"=none
 Um:mg "enumerate"=none
 akY:mg "int"=none
 yG:mg "len"=none
 aiU:mg "list"=none
 Gq:mg "max"=none
 Uo:mg "min"=none
 zq:mg "range"=none
 agC:mg "set"=none
 qm:mg "sorted"=none
 ac7:mg "sum"=none
 lA:mg "tuple"=none
 Km:∃tk,mg "MOST_REASONS"=some (.int 12 tk)
 Uq:∃tk,mg "MOST_ROWS"=some (.int 8 tk)
section
variable(t:T K mg)
theorem Ur:bF ["_law_script","_law_k","_law_state","_law_cell_here"] ["_law_script","_law_k"] (aP Kc):=j6
theorem Us:Ok P w base t.jV 1 2 jU:=Ak (g:=vU) t.jV Ur λ_ _ _ _ _ _ a b nd=>(au (iu (bJ Wb (aj 1) (bL rR S t.yG rQ (ak (aj 0) aA)) (bZ _)) (au (cG (aW (aj 0) (aj 1))) aK) aK) (au (bh 2 nd (bf dI (bf rP aD (bf dY (bf dY (bf rP (aj 1) (aj 1)) (bf rP aD (aj 1))) aD)) aD)) (au (z8 PassesOwn.never S (Hv (xQ (aj 0) jQ (jR aD))) (aH 3 nd) (bI [3] (au (bh 2 nd (bf dI (bf dY (bf rP (aj 2) aD) (aj 3)) aD)) aK))) (au (cG (aj 2)) aK))))
theorem Ko:bF ["_law_cell_here","_law_many","_law_found","_law_state","_law_digits","_law_k"] ["_law_cell_here","_law_many"] (aP zR):=j6
theorem Kq:Ok P w base t.fX 1 2 fW:=Ak (g:=pN) t.fX Ko λ_ _ _ _ _ _ a b nd=>(au (bh 2 nd (mJ aA)) (au (bh 3 nd (bf dI (bf rP (bf dY (bf dI (aj 0) aD) aD) aD) aD)) (au (bh 4 nd aD) (au (iu (Bm (DG (bJ Wb (aj 0) aD (bZ _)) (yQ (bJ MC (aj 0) (bf UP aD aD) (bZ _))))) (bI [] (au (bh 4 nd (bL ai S t.akX PY (ak (aj 0) aA))) aK)) (bI [] aK)) (au (z8 PassesOwn.never S (uW S t.zq (ak (aj 1) aA)) (aH 5 nd) (bI [5] (au (bh 3 nd (bf dI (bf dY (bf dY (bf rP (aj 3) (bf dY (bf dI (aj 3) aD) aD)) (bf rP aD (aj 5))) aD) aD)) (au (xg 2 (aW (mJ (ak (aj 3) (ak (bf dI (aj 4) aD) aA))) (eY SR S t.akY bP (ak (VP SQ (aj 4) aD (bZ _)) aA)))) (au (bh 4 nd (bf Qf (aj 4) aD)) aK))))) (au (Hu 2) aK))))))
theorem Q6:bF ["_law_xs","_law_many","_law_letters","_law_stem","_law_at","_law_found","_law_k","_law_mark","_law_name"] ["_law_xs","_law_many"] (aP Gi):=j6
theorem Q7:Ok P w base t.ug 1 2 ql:=Ak (g:=tZ) t.ug Q6 λ_ _ _ _ _ _ b a nd=>(au (bh 2 nd Wf) (au (bh 3 nd (YO (fQ ["_law_k"] (oH ["_law_letters","_law_xs"] [2,0]) S (eM (uW S t.zq (ak (bf dI (aW (aj 0) aD) aD) aA))) (λ_ _ _ _=>(aH 2 (by show List.Nodup (_++_);decide +kernel))) (λ_ _ _ _=>cY) (λ_ _ _ _=>(aW (aj 0) (bf dI (bf Qf (aW (aj 1) (aj 2)) aD) aD))) (bx)))) (au (bh 4 nd (bf dI (aW (aj 0) aD) (bf dY (bL rR S t.yG rQ (ak (aj 3) aA)) aD))) (au (bh 5 nd (mJ aA)) (au (z8 PassesOwn.never S (uW S t.zq (ak (aj 1) aA)) (aH 6 nd) (bI [6,7,8] (au (bh 7 nd (aW (aj 2) (bf dI (bf dY (aj 6) (aW (aj 0) aD)) aD))) (au (bh 8 nd (bf dY (bf dY (xQ (aj 3) jQ (jR (aj 4))) (aj 7)) (xQ (aj 3) (jR (aj 4)) jQ))) (au (iu (bJ (of_eq a) (bf dI (aW (aj 0) aD) aD) aD (bZ _)) (bI [] (au (bh 8 nd (bf rP (aW (aj 2) (bf Qf (aj 6) aD)) (bf dY aD (bf dI (aj 6) aD)))) aK)) (bI [] aK)) (au (xg 5 (aj 8)) aK)))))) (au (Hu 5) aK))))))
theorem LR:bF ["_law_script","_law_at","_law_many","_law_reasons","_law_bars","_law_head","_law_names_here","_law_told","_law_k","_law_xs","_law_a","_law_b","_law_weight","_law_found","_law_shut"] ["_law_script","_law_at","_law_many","_law_reasons","_law_bars"] (aP Cq):=j6
theorem Ma(d:Ok P w base t.jV 1 2 jU)(e:Ok P w base t.ug 1 2 ql)(c:Ok P w base t.fX 1 2 fW):Ok P w base t.rC 2 5 qU:=Ak (g:=qT) t.rC LR λ_ _ _ _ _ _ a b nd=>(au (bh 5 nd (cM t.fX c a (ak (jw (cM t.jV d a (ak (aj 0) (ak (aj 1) aA)))) (ak aD aA)))) (au (bh 6 nd (bL Z1 S t.qm rM (ak (cM t.ug e a (ak (aj 5) (ak (aj 2) aA))) aA))) (au (bh 7 nd (mJ aA)) (au (z8 PassesOwn.never S (uW S t.zq (ak (aj 3) aA)) (aH 8 nd) (bI [8,9,10,11,12] (au (bh 9 nd (cM t.fX c a (ak (jw (cM t.jV d a (ak (aj 0) (ak (jw (bf dY (bf dY (aj 1) aD) (aj 8))) aA)))) (ak aD aA)))) (au (Qa 10 11 S nd (ak (bf dI (aW (aj 9) aD) (bL (xU S) S t.Gq xP (ak aD (ak (aj 2) aA)))) (ak (bf dI (aW (aj 9) aD) (bL (xU S) S t.Gq xP (ak aD (ak (aj 2) aA)))) aA))) (au (bh 12 nd (aW (mJ (ak (jw (bf dY aD (bf dI (aW (aj 9) aD) aD))) (ak (jw (bf dY aD (bf dI (aW (aj 9) aD) aD))) (ak (jw (bf dY aD (bf dI (aW (aj 9) aD) aD))) aA)))) (bf dI (aW (aj 5) aD) aD))) (au (iu (bJ (Bu b) (aj 10) (aj 11) (bZ _)) (bI [] (au (xg 7 (gP (ak (bf DW aD (aj 12)) (ak (aW (aj 6) (bL (Qo S) S t.Uo Jm (ak (aj 10) (ak (aj 11) aA)))) (ak (aW (aj 6) (bL (xU S) S t.Gq xP (ak (aj 10) (ak (aj 11) aA)))) (ak (aW (mJ (ak aD (ak aD (ak aD aA)))) (bf dI (aW (aj 9) aD) aD)) aA)))))) aK)) (bI [] aK)) aK)))))) (au (Hw 13 ["_law_weight","_law_a","_law_b","_law_k"] (oH [] []) S nd (dX (Yq S S t.qm (Yp S b S t.agC (aj 7)))) (λ_ _ _ _=>(jP S (aR (aH 0 (by show List.Nodup (_++_);decide +kernel)) (aR (aH 1 (by show List.Nodup (_++_);decide +kernel)) (aR (aH 2 (by show List.Nodup (_++_);decide +kernel)) (aR (aH 3 (by show List.Nodup (_++_);decide +kernel)) gR)))))) (λ_ _ _ _=>cY) (λ_ _ _ _=>(gP (ak (bf DW aD (aj 0)) (ak (aj 1) (ak (aj 2) (ak (aj 3) aA)))))) (Aa (cQ (bx) (cQ (bx) (cQ (bx) (cQ (bx) vM)))))) (au (bh 14 nd (mJ aA)) (au (z8 PassesOwn.never S (uW S t.zq (ak (aj 4) aA)) (aH 8 nd) (bI [8,9,10,11] (au (bh 9 nd (cM t.fX c a (ak (jw (cM t.jV d a (ak (aj 0) (ak (jw (bf dY (bf dY (aj 1) aD) (aj 8))) aA)))) (ak aD aA)))) (au (Qa 10 11 S nd (ak (bf dI (aW (aj 9) aD) (bL (xU S) S t.Gq xP (ak aD (ak (aj 2) aA)))) (ak (bf dI (aW (aj 9) aD) (bL (xU S) S t.Gq xP (ak aD (ak (aj 2) aA)))) aA))) (au (iu (bJ (Bu b) (aj 10) (aj 11) (bZ _)) (bI [] (au (xg 14 (gP (ak (aW (aj 6) (bL (Qo S) S t.Uo Jm (ak (aj 10) (ak (aj 11) aA)))) (ak (aW (aj 6) (bL (xU S) S t.Gq xP (ak (aj 10) (ak (aj 11) aA)))) (ak (aW (mJ (ak aD (ak aD aA))) (bf dI (aW (aj 9) aD) aD)) aA))))) aK)) (bI [] aK)) aK))))) (au (cG (gP (ak (eY iJ S t.lA iI (ak (aj 6) aA)) (ak (eY iJ S t.lA iI (ak (aj 13) aA)) (ak (eY iJ S t.lA iI (ak (Yq S S t.qm (Yp S b S t.agC (aj 14))) aA)) aA))))) aK))))))))
theorem Mf:bF ["names"] ["names"] (aP Cr):=j6
theorem Mg:Ok P w base t.kZ 1 1 kh:=Ak (g:=qW) t.kZ Mf λ_ _ _ _ _ _ b a nd=>(au (cG (WI a ["name"] (oH [] []) S (dX (aj 0)) (λ_ _ _ _=>(aH 0 (by show List.Nodup (_++_);decide +kernel))) (λ_ _ _ _=>cY) (λ_ _ _ _=>(aj 0)) (λ_ _ _ _=>(aj 0)) (bx))) aK)
theorem zZ:bF ["heads","one","other","head","name"] ["heads","one","other"] (aP Cv):=j6
theorem Mh:qQ P w K mg base Dz 1 t.dD.f t.dD.fd ["heads","one","other"] (FY K 2 ji):=by
 unfold ji;refine i6 (k:=0) (g:=qX) t.dD.F zZ S S λc A outer s H E b=>?_;have a:=HD b;have nd:=zZ.nd;exact(bI [3,4] (au (bh 3 nd (bL (cm S) S t.Uo Jm (ak (aj 1) (ak (aj 2) aA)))) (au (z8 PassesOwn.never S (Hv (eY (Sa S) S t.aiU dy (ak (aj 0) aA))) (aH 4 nd) (bI [4] (au (iu (Bm (DG (bJ (of_eq a) (dw a (aj 0) (aj 4)) (aj 1) (bZ _)) (yQ (bJ (of_eq a) (dw a (aj 0) (aj 4)) (aj 2) (bZ _))))) (bI [] (au (Qs 0 a (aj 3) (aj 4)) aK)) (bI [] aK)) aK))) aK)))
theorem Ut:bF ["names","reasons","heads","weight","one","other","number"] ["names","reasons"] (aP Kd):=j6
theorem Uu(e:qQ P w K mg base Dz 1 t.dD.f t.dD.fd ["heads","one","other"] (FY K 2 ji))(d:Ok P w base t.kZ 1 1 kh):Ok P w base t.o8 2 2 mO:=Ak (g:=oY) t.o8 Ut λ_ _ _ _ _ _ a c nd=>(au (bh 2 nd (cM t.kZ d a (ak (aj 0) aA))) (au (yS 1 PassesOwn.never S (jP S (aR (aH 3 nd) (aR (aH 4 nd) (aR (aH 5 nd) (aR (aH 6 nd) gR))))) (bI [3,4,5,6] (au (Yw 2 e (a.mono (by decide)) S t.dD.m t.dD.k t.dD.b (ak (dw c (aj 2) (aj 4)) (ak (dw c (aj 2) (aj 5)) aA))) aK))) (au (Hu 2) aK)))
theorem Kr:bF ["heads","head"] ["heads","head"] (aP zT):=j6
theorem Ku:Ok P w base t.pY 1 2 pQ:=Ak (g:=pP) t.pY Kr λ_ _ _ _ _ _ b a nd=>(au (cG (eY iJ S t.lA iI (ak (T4 ["name"] (oH ["head","heads"] [1,0]) S (aj 0) (λ_ _ _ _=>(aH 2 (by show List.Nodup (_++_);decide +kernel))) (λ_ _ _ _=>(fL (bJ (of_eq a) (dw a (aj 1) (aj 2)) (aj 0) (bZ _)))) (λ_ _ _ _=>(aj 2)) (bx)) aA))) aK)
theorem Mi:bF ["heads"] ["heads"] (aP Cw):=j6
theorem Mj(b:Ok P w base t.pY 1 2 pQ):Ok P w base t.lg 2 1 kj:=Ak (g:=qY) t.lg Mi λ_ _ _ _ _ _ c a nd=>(au (cG (T4 ["name"] (oH ["heads"] [0]) S (aj 0) (λ_ _ _ _=>(aH 1 (by show List.Nodup (_++_);decide +kernel))) (λ_ _ _ _=>(fL (bJ (of_eq a) (dw a (aj 0) (aj 1)) (aj 1) (bZ _)))) (λ_ _ _ _=>(jw (cM t.pY b c (ak (aj 0) (ak (aj 1) aA))))) (bx))) aK)
theorem Uv:bF ["names","reasons"] ["names","reasons"] (aP Ke):=j6
theorem Uw(c:Ok P w base t.o8 2 2 mO)(b:Ok P w base t.lg 2 1 kj):Ok P w base t.jW 3 2 jk:=Ak (g:=oZ) t.jW Uv λ_ _ _ _ _ _ a d nd=>(au (cG (cM t.lg b a (ak (cM t.o8 c a (ak (aj 0) (ak (aj 1) aA))) aA))) aK)
theorem Ux:bF ["ground"] ["ground"] (aP Kf):=j6
theorem Uy(b:Ok P w base t.jW 3 2 jk):Ok P w base t.wj 4 1 vW:=Ak (g:=vV) t.wj Ux λ_ _ _ _ _ _ a c nd=>(au (cG (cM t.jW b a (ak (aW (aj 0) aD) (ak (aW (aj 0) aD) aA)))) aK)
theorem GQ:bF ["ground","names","reasons","bars"] ["ground"] (aP yE):=j6
theorem GR(b:Ok P w base t.wj 4 1 vW):Ok P w base t.nO 5 1 nG:=Ak (g:=nF) t.nO GQ λ_ _ _ _ _ _ a c nd=>(au (vL (aj 0) (jP S (aR (aH 1 nd) (aR (aH 2 nd) (aR (aH 3 nd) gR))))) (au (cG (fQ ["part"] (oH ["reasons","bars"] [2,3]) S (dX (cM t.wj b a (ak (aj 0) aA))) (λ_ _ _ _=>(aH 2 (by show List.Nodup (_++_);decide +kernel))) (λ_ _ _ _=>cY) (λ_ _ _ _=>(gP (ak (aj 2) (ak (eY iJ S t.lA iI (ak (fQ ["reason"] (oH ["part"] [2]) S (dX (aj 0)) (λ_ _ _ _=>(aH 1 (by show List.Nodup (_++_);decide +kernel))) (λ_ _ _ _=>(fL (bJ NT (aW (aj 1) aD) (aj 0) (by with_unfolding_all rfl)))) (λ_ _ _ _=>(aj 1)) (bx)) aA)) (ak (eY iJ S t.lA iI (ak (fQ ["bar"] (oH ["part"] [2]) S (dX (aj 1)) (λ_ _ _ _=>(aH 1 (by show List.Nodup (_++_);decide +kernel))) (λ_ _ _ _=>(fL (Bm (tK (bJ NT (aW (aj 1) aD) (aj 0) (by with_unfolding_all rfl)) (qg (bJ NT (aW (aj 1) aD) (aj 0) (by with_unfolding_all rfl))))))) (λ_ _ _ _=>(aj 1)) (bx)) aA)) aA))))) (bx))) aK))
theorem CT:bF ["own","names","reasons","bars"] ["own"] (aP u6):=j6
theorem CV:Ok P w base t.lq 1 1 kJ:=Ak (g:=kE) t.lq CT λ_ _ _ _ _ _ f d nd=>by
 obtain⟨e,a⟩:=t.Km;obtain⟨c,b⟩:=t.Uq;exact(bI [1,2,3] (au (vL (aj 0) (jP S (aR (aH 1 nd) (aR (aH 2 nd) (aR (aH 3 nd) gR))))) (au (iu (Bm (tK (Ja (aj 3)) (qg (Bm (DG (bJ SQ (bL rR S t.yG rQ (ak (aj 1) aA)) (R8 S b) (bZ _)) (yQ (bJ SQ (bL rR S t.yG rQ (ak (aj 2) aA)) (R8 S a) (bZ _)))))))) (au Pm aK) aK) aK)))
theorem Q8:bF ["reasons"] ["reasons"] (aP Gj):=j6
theorem Q9:Ok P w base t.cX 1 1 eF:=Ak (g:=mZ) t.cX Q8 λ_ _ _ _ _ _ a b nd=>(au (cG (bL (WR S) S t.ac7 Wa (ak (fQ ["reason"] (oH [] []) S (dX (aj 0)) (λ_ _ _ _=>(aH 0 (by show List.Nodup (_++_);decide +kernel))) (λ_ _ _ _=>cY) (λ_ _ _ _=>(aW (aj 0) aD)) (bx)) aA))) aK)
theorem Ra:bF ["reason","name"] ["reason","name"] (aP Gk):=j6
theorem Rb:Ok P w base t.m7 1 2 m5:=Ak (g:=uc) t.m7 Ra λ_ _ _ _ _ _ b a nd=>(au (iu (bJ (of_eq a) (aW (aj 0) aD) (aj 1) (bZ _)) (au (cG (aW (aj 0) aD)) aK) aK) (au (iu (bJ (of_eq a) (aW (aj 0) aD) (aj 1) (bZ _)) (au (cG (aW (aj 0) aD)) aK) aK) (au (cG oK) aK)))
theorem UG:bF ["came_by","end","way","here"] ["came_by","end"] (aP Kg):=j6
theorem UJ(b:Ok P w base t.m7 1 2 m5):Ok P w base t.wz 2 2 vY:=Ak (g:=vX) t.wz UG λ_ _ _ _ _ _ c a nd=>(au (bh 2 nd (mJ aA)) (au (bh 3 nd (aj 1)) (au (T7 70 PassesOwn.never (bJ Qj (dw a (aj 0) (aj 3)) oK (bZ _)) (bI [] (au (xg 2 (dw a (aj 0) (aj 3))) (au (bh 3 nd (cM t.m7 b c (ak (dw a (aj 0) (aj 3)) (ak (aj 3) aA)))) aK)))) (au (Hu 2) aK))))
theorem RE:bF ["reasons","start","end","came_by","reached","here","reason","there"] ["reasons","start","end"] (aP Ul):=j6
theorem lI(d:Ok P w base t.m7 1 2 m5)(c:Ok P w base t.wz 2 2 vY):Ok P w base t.CQ 3 3 CN:=Ak (g:=CK) t.CQ RE λ_ _ _ _ _ _ b a nd=>(au (bh 3 nd (TR (aj 1) oK)) (au (bh 4 nd (mJ (ak (aj 1) aA))) (au (T7 70 PassesOwn.never (Ja (aj 4)) (bI [5,6,7] (au (fF 5 4 nd aD) (au (yS 0 PassesOwn.never S (aH 6 nd) (bI [6,7] (au (bh 7 nd (cM t.m7 d b (ak (aj 6) (ak (aj 5) aA)))) (au (iu (Bm (tK (bJ Qj (aj 7) oK (bZ _)) (qg (bJ (Yy a) (aj 7) (aj 3) (by with_unfolding_all rfl))))) (bI [] (au (Qs 3 a (aj 6) (aj 7)) (au (xg 4 (aj 7)) aK))) (bI [] aK)) aK)))) aK)))) (au (iu (bJ (Yy a) (aj 2) (aj 3) (by with_unfolding_all rfl)) (au (cG oK) aK) aK) (au (cG (afe (cM t.wz c b (ak (aj 3) (ak (aj 2) aA))) (L8 V8 aD))) aK)))))
theorem Ml:bF ["own","cut","names","reasons","bars","left","heads","bar"] ["own","cut"] (aP Cy):=j6
theorem Mp(d:Ok P w base t.o8 2 2 mO)(c:Ok P w base t.CQ 3 3 CN):Ok P w base t.gW 4 2 nH:=Ak (g:=qZ) t.gW Ml λ_ _ _ _ _ _ b a nd=>(au (vL (aj 0) (jP S (aR (aH 2 nd) (aR (aH 3 nd) (aR (aH 4 nd) gR))))) (au (Hw 5 ["reason"] (oH ["cut"] [1]) S nd (dX (aj 3)) (λ_ _ _ _=>(aH 1 (by show List.Nodup (_++_);decide +kernel))) (λ_ _ _ _=>(fL (bJ (QG a) (aj 1) (aj 0) (by with_unfolding_all rfl)))) (λ_ _ _ _=>(aj 1)) (bx)) (au (bh 6 nd (cM t.o8 d b (ak (aj 2) (ak (aj 5) aA)))) (au (yS 4 PassesOwn.never S (aH 7 nd) (bI [7] (au (iu (bJ (of_eq a) (dw a (aj 6) (aW (aj 7) aD)) (dw a (aj 6) (aW (aj 7) aD)) (bZ _)) (au (cG (cM t.CQ c b (ak (aj 5) (ak (aW (aj 7) aD) (ak (aW (aj 7) aD) aA))))) aK) aK) aK))) (au (cG oK) aK)))))
theorem qC:bF ["own","held","cut","limit","way","choices","with_cut","with_held"] ["own","held","cut","limit"] (aP yF):=j6
theorem vC(e:qQ P w K mg base Dz 4 t.gW.f t.gW.fd ["own","cut"] (D4 K 2 nH))(c:qQ P w K mg base Dz 1 t.cX.f t.cX.fd ["reasons"] (D4 K 1 eF)):∀n:Nat,qQ P w K mg base Dz (n+5) t.cJ.f t.cJ.fd ["own","held","cut","limit"] (D4 K 4 (dJ n))
 |0=>NB (k:=0+4) (g:=λ_=>U) t.cJ.F qC S S λh A outer s H E a=>TB
 |n+1=>by
  have d:=vC e c n;rw[show n+1+5=(n+5)+1 by omega];refine MG (k:=n+5) (g:=nJ (dJ n)) t.cJ.F qC S S λh A outer s H E a=>?_;have i:=HD a;have nd:=qC.nd;exact(au (iu (bJ MC (yW c (a.mono (by omega)) S t.cX.m t.cX.k t.cX.b (ak (aj 2) aA)) (aj 3) (bZ _)) (au (cG oK) aK) aK) (au (bh 4 nd (yW e (a.mono (by omega)) S t.gW.m t.gW.k t.gW.b (ak (aj 0) (ak (aj 2) aA)))) (au (iu (bJ Cf (aj 4) oK (bZ _)) (au (cG (aj 2)) aK) aK) (au (Hw 5 ["reason"] (oH ["held"] [1]) S nd (dX (aj 4)) (λ_ _ _ _=>(aH 1 (by show List.Nodup (_++_);decide +kernel))) (λ_ _ _ _=>(fL (bJ (QG i) (aj 1) (aj 0) (by with_unfolding_all rfl)))) (λ_ _ _ _=>(aj 1)) (bx)) (au (iu (V0 (Ja (aj 5))) (au (cG oK) aK) aK) (au (bh 6 nd (yW d (a.mono (by omega)) S t.cJ.m t.cJ.k t.cJ.b (ak (aj 0) (ak (aj 1) (ak (jw (bf dY (aj 2) (xQ (aj 5) jQ (jR aD)))) (ak (aj 3) aA)))))) (au (iu (bJ Qj (aj 6) oK (bZ _)) (bI [] (au (bh 3 nd (yW c (a.mono (by omega)) S t.cX.m t.cX.k t.cX.b (ak (aj 6) aA))) aK)) (bI [] aK)) (au (bh 7 nd (yW d (a.mono (by omega)) S t.cJ.m t.cJ.k t.cJ.b (ak (aj 0) (ak (jw (bf dY (aj 1) (xQ (aj 5) jQ (jR aD)))) (ak (aj 2) (ak (aj 3) aA)))))) (au (cG (jw (kw (bJ Cf (aj 7) oK (bZ _)) (aj 6) (aj 7)))) aK)))))))))
theorem GX(a:Ok P w base t.gW 4 2 nH)(b:Ok P w base t.cX 1 1 eF):Ok P w base t.cJ 37 4 iM:=vC t a b fuel
theorem Rc:bF ["own","names","reasons","bars","cut"] ["own"] (aP Gm):=j6
theorem Rf(b:Ok P w base t.cJ 37 4 iM)(c:Ok P w base t.jW 3 2 jk)(e:Ok P w base t.cX 1 1 eF):Ok P w base t.uh 38 1 uf:=Ak (g:=ud) t.uh Rc λ_ _ _ _ _ _ a d nd=>(au (vL (aj 0) (jP S (aR (aH 1 nd) (aR (aH 2 nd) (aR (aH 3 nd) gR))))) (au (bh 4 nd (cM t.cJ b a (ak (aj 0) (ak (jw (mJ aA)) (ak (jw (mJ aA)) (ak (jw (bf dY (cM t.cX e a (ak (aj 2) aA)) aD)) aA)))))) (au (cG (cM t.jW c a (ak (aj 1) (ak (jw (fQ ["reason"] (oH ["cut"] [4]) S (dX (aj 2)) (λ_ _ _ _=>(aH 1 (by show List.Nodup (_++_);decide +kernel))) (λ_ _ _ _=>(fL (bJ (QG d) (aj 1) (aj 0) (by with_unfolding_all rfl)))) (λ_ _ _ _=>(aj 1)) (bx))) aA)))) aK)))
theorem UL:bF ["sets"] ["sets"] (aP Kh):=j6
theorem UW:Ok P w base t.o9 1 1 o7:=Ak (g:=vZ) t.o9 UL λ_ _ _ _ _ _ a b nd=>(au (cG (gN ["at","names","name"] (GY.mk (m:=2) (oH [] []) S (b6 S t.Um (ak (aj 0) aA)) (λ_ _ _ _=>(jP S (aR (aH 0 (by show List.Nodup (_++_);decide +kernel)) (aR (aH 1 (by show List.Nodup (_++_);decide +kernel)) gR)))) (λ_ _ _ _=>cY) (Aa (cQ (bx) (cQ (bx) vM))) (λ_ _ _ _=>(Hv (aj 1))) (λ_ _ _ _=>(aH 2 (by show List.Nodup (_++_);decide +kernel))) (λ_ _ _ _=>cY) (bx)) (λ_ _ _ _=>(aj 2)) (λ_ _ _ _=>(aj 0)))) aK)
theorem CW:bF ["sets","reasons","homes"] ["sets","reasons"] (aP u9):=j6
theorem CZ(c:Ok P w base t.o9 1 1 o7):Ok P w base t.gw 2 2 gq:=Ak (g:=kO) t.gw CW λ_ _ _ _ _ _ b a nd=>(au (bh 2 nd (cM t.o9 c b (ak (aj 0) aA))) (au (cG (fQ ["reason"] (oH ["homes"] [2]) S (dX (aj 1)) (λ_ _ _ _=>(aH 1 (by show List.Nodup (_++_);decide +kernel))) (λ_ _ _ _=>(fL (bJ (of_eq a) (dw a (aj 0) (aW (aj 1) aD)) (dw a (aj 0) (aW (aj 1) aD)) (bZ _)))) (λ_ _ _ _=>(aj 1)) (bx))) aK))
theorem W7:bF ["ground","grounds","own","sets","kept"] ["ground"] (aP OD):=j6
theorem W8(e:Ok P w base t.uh 38 1 uf)(c:Ok P w base t.nO 5 1 nG)(f:Ok P w base t.gw 2 2 gq)(d:Ok P w base t.lq 1 1 kJ)(b:Ok P w base t.cX 1 1 eF):Ok P w base t.iT 39 1 iQ:=Ak (g:=zf) t.iT W7 λ_ _ _ _ _ _ a h nd=>(au (bh 1 nd (cM t.nO c a (ak (aj 0) aA))) (au (yS 1 PassesOwn.never S (aH 2 nd) (bI [2] (au (hV (cM t.lq d a (ak (aj 2) aA))) aK))) (au (bh 3 nd (bL xY S t.qm rM (ak (gT ["own","names"] (GY.mk (m:=1) (oH [] []) S (dX (aj 1)) (λ_ _ _ _=>(aH 0 (by show List.Nodup (_++_);decide +kernel))) (λ_ _ _ _=>cY) (bx) (λ_ _ _ _=>(Hv (cM t.uh e a (ak (aj 0) aA)))) (λ_ _ _ _=>(aH 1 (by show List.Nodup (_++_);decide +kernel))) (λ_ _ _ _=>cY) (bx)) (λ_ _ _ _=>(aj 1))) aA))) (au (bh 4 nd (cM t.cX b a (ak (jw (cM t.gw f a (ak (aj 3) (ak (aW (aj 0) aD) aA)))) aA))) (WM (i:=3) (au (cG (gP (ak (aj 3) (ak (aj 4) (ak (bf DW (cM t.cX b a (ak (aW (aj 0) aD) aA)) (aj 4)) aA))))) aK))))))
theorem Kz:bF ["bars","heads","one","other","bar"] ["bars","heads","one","other"] (aP zU):=j6
theorem KC:Ok P w base t.pZ 1 4 pU:=Ak (g:=pR) t.pZ Kz λ_ _ _ _ _ _ b a nd=>(au (yS 0 PassesOwn.never S (aH 4 nd) (bI [4] (au (iu (Bm (DG (Bm (tK (bJ (of_eq a) (dw a (aj 1) (aW (aj 4) aD)) (aj 2) (bZ _)) (qg (bJ (of_eq a) (dw a (aj 1) (aW (aj 4) aD)) (aj 3) (bZ _))))) (yQ (Bm (tK (bJ (of_eq a) (dw a (aj 1) (aW (aj 4) aD)) (aj 3) (bZ _)) (qg (bJ (of_eq a) (dw a (aj 1) (aW (aj 4) aD)) (aj 2) (bZ _)))))))) (au (cG (aj 4)) aK) aK) aK))) (au (cG oK) aK))
theorem Mq:bF ["ground","names","reasons","bars","heads","kept","barred","reason","one","other","bar"] ["ground"] (aP Cz):=j6
theorem Mr(h:Ok P w base t.pZ 1 4 pU)(e:qQ P w K mg base Dz 1 t.dD.f t.dD.fd ["heads","one","other"] (FY K 2 ji))(d:Ok P w base t.kZ 1 1 kh)(j:Ok P w base t.lg 2 1 kj):Ok P w base t.rD 3 1 q9:=Ak (g:=q8) t.rD Mq λ_ _ _ _ _ _ a c nd=>(au (vL (aj 0) (jP S (aR (aH 1 nd) (aR (aH 2 nd) (aR (aH 3 nd) gR))))) (au (bh 4 nd (cM t.kZ d a (ak (aj 1) aA))) (au (bh 5 nd (mJ aA)) (au (bh 6 nd (mJ aA)) (au (yS 2 PassesOwn.never S (aH 7 nd) (bI [7,8,9,10] (au (bh 8 nd (dw c (aj 4) (aW (aj 7) aD))) (au (bh 9 nd (dw c (aj 4) (aW (aj 7) aD))) (au (iu (bJ (Bu c) (aj 8) (aj 9) (bZ _)) (bI [10] (au (bh 10 nd (cM t.pZ h a (ak (aj 3) (ak (aj 4) (ak (aj 8) (ak (aj 9) aA)))))) (au (iu (bJ Cf (aj 10) oK (bZ _)) (bI [] (au (Yw 4 e (a.mono (by decide)) S t.dD.m t.dD.k t.dD.b (ak (aj 8) (ak (aj 9) aA))) (au (xg 5 (aj 7)) aK))) (bI [] (au (xg 6 (gP (ak (aj 7) (ak (aj 10) aA)))) aK))) aK))) (bI [10] aK)) aK))))) (WM (i:=5) (WM (i:=6) (au (cG (gP (ak (jw (cM t.lg j a (ak (aj 4) aA))) (ak (aj 5) (ak (aj 6) aA))))) aK))))))))
theorem Ms:bF ["_law_names_here","_law_rows"] ["_law_names_here","_law_rows"] (aP CG):=j6
theorem Mt:Ok P w base t.rE 1 2 rA:=Ak (g:=rz) t.rE Ms λ_ _ _ _ _ _ a b nd=>(au (cG (fQ ["_law_row"] (oH ["_law_names_here"] [0]) S (dX (aj 1)) (λ_ _ _ _=>(aH 1 (by show List.Nodup (_++_);decide +kernel))) (λ_ _ _ _=>(fL (Bm (tK (bJ NT (aW (aj 1) (L8 V8 aD)) (aj 0) (by with_unfolding_all rfl)) (qg (bJ NT (aW (aj 1) (L8 V8 aD)) (aj 0) (by with_unfolding_all rfl))))))) (λ_ _ _ _=>(aj 1)) (bx))) aK)
theorem U0:bF ["_law_ground_here","_law_sets"] ["_law_ground_here","_law_sets"] (aP Kl):=j6
theorem U3(a:Ok P w base t.rE 1 2 rA):Ok P w base t.sy 2 2 su:=Ak (g:=wg) t.sy U0 λ_ _ _ _ _ _ b c nd=>(au (cG (bL (WR S) S t.ac7 Wa (ak (fQ ["_law_part"] (oH ["_law_ground_here"] [0]) S (dX (aj 1)) (λ_ _ _ _=>(aH 1 (by show List.Nodup (_++_);decide +kernel))) (λ_ _ _ _=>cY) (λ_ _ _ _=>(jw (bL (WR S) S t.ac7 Wa (ak (fQ ["_law_reason"] (oH [] []) S (dX (cM t.rE a b (ak (aj 1) (ak (aW (aj 0) aD) aA)))) (λ_ _ _ _=>(aH 0 (by show List.Nodup (_++_);decide +kernel))) (λ_ _ _ _=>cY) (λ_ _ _ _=>(aW (aj 0) aD)) (bx)) aA)))) (bx)) aA))) aK)
theorem Mu:bF ["_law_sets","_law_name"] ["_law_sets","_law_name"] (aP CJ):=j6
theorem Mv:Ok P w base t.nP 1 2 nM:=Ak (g:=rB) t.nP Mu λ_ _ _ _ _ _ a b nd=>(au (cG (aW (fQ ["_law_part"] (oH ["_law_name"] [1]) S (dX (aj 0)) (λ_ _ _ _=>(aH 1 (by show List.Nodup (_++_);decide +kernel))) (λ_ _ _ _=>(fL (bJ NT (aj 0) (aj 1) (by with_unfolding_all rfl)))) (λ_ _ _ _=>(aj 1)) (bx)) aD)) aK)
theorem Dc:bF ["_law_ground_here","_law_told","_law_xs","_law_names_here","_law_reasons","_law_bars","_law_a","_law_b","_law_bar","_law_more","_law_less"] ["_law_ground_here","_law_told","_law_xs"] (aP vA):=j6
theorem Dd(c:Ok P w base t.nP 1 2 nM)(d:Ok P w base t.iT 39 1 iQ):Ok P w base t.lu 40 3 kY:=Ak (g:=kW) t.lu Dc λ_ _ _ _ _ _ a b nd=>(au (vL (aj 0) (jP S (aR (aH 3 nd) (aR (aH 4 nd) (aR (aH 5 nd) gR))))) (au (Qa 6 7 S nd (ak (bf dI (aW (aj 2) aD) (bL rR S t.yG rQ (ak (aj 3) aA))) (ak (bf dI (aW (aj 2) aD) (bL rR S t.yG rQ (ak (aj 3) aA))) aA))) (au (iu (bJ (Bu b) (aj 6) (aj 7) (bZ _)) (au (bh 8 nd (gP (ak (aW (aj 3) (bL (Qo S) S t.Uo Jm (ak (aj 6) (ak (aj 7) aA)))) (ak (aW (aj 3) (bL (xU S) S t.Gq xP (ak (aj 6) (ak (aj 7) aA)))) (ak aD aA))))) (au (bh 9 nd (cM t.iT d a (ak (gP (ak (aj 3) (ak (aj 4) (ak (eY iJ S t.lA iI (ak (bL xY S t.qm rM (ak (bf dY (aj 5) (gP (ak (aj 8) aA))) aA)) aA)) aA)))) aA))) (au (iu (Bm (DG (bJ SQ (aW (aj 9) aD) (aW (aj 1) aD) (bZ _)) (yQ (Bm (tK (bJ (Bu b) (cM t.nP c a (ak (aW (aj 1) aD) (ak (aW (aj 8) aD) aA))) (cM t.nP c a (ak (aW (aj 1) aD) (ak (aW (aj 8) aD) aA))) (bZ _)) (qg (bJ (Bu b) (aW (aj 9) aD) (aW (aj 1) aD) (bZ _)))))))) (au (cG Fw) aK) aK) aK))) aK) (au (iu (bJ (Bu b) (aj 5) (gP aA) (bZ _)) (au (bh 10 nd (cM t.iT d a (ak (gP (ak (aj 3) (ak (aj 4) (ak (jw (xQ (aj 5) (jR aD) jQ)) aA)))) aA))) (au (iu (bJ Wb (aW (aj 10) aD) (aW (aj 1) aD) (bZ _)) (au (cG Fw) aK) aK) aK)) aK) (au (cG Fw) aK)))))
theorem yJ:bF ["_law_ground_here","_law_told","_law_xs","_law_names_here","_law_reasons","_law_bars","_law_times","_law_much","_law_a","_law_b","_law_more","_law_some","_law_kept_here"] ["_law_ground_here","_law_told","_law_xs"] (aP qP):=j6
theorem yK(b:Ok P w base t.iT 39 1 iQ):Ok P w base t.iG 40 3 iD:=Ak (g:=iB) t.iG yJ λ_ _ _ _ _ _ c a nd=>(au (vL (aj 0) (jP S (aR (aH 3 nd) (aR (aH 4 nd) (aR (aH 5 nd) gR))))) (au (bh 6 nd (bf dY aD (bf dI (aW (aj 2) aD) aD))) (au (bh 7 nd (eY iJ S t.lA iI (ak (fQ ["_law_w","_law_a","_law_b","_law_k"] (oH ["_law_times"] [6]) S (dX (aj 4)) (λ_ _ _ _=>(jP S (aR (aH 1 (by show List.Nodup (_++_);decide +kernel)) (aR (aH 2 (by show List.Nodup (_++_);decide +kernel)) (aR (aH 3 (by show List.Nodup (_++_);decide +kernel)) (aR (aH 4 (by show List.Nodup (_++_);decide +kernel)) gR)))))) (λ_ _ _ _=>(fL (bJ Ch (bf rP (aj 1) (aj 0)) aD (bZ _)))) (λ_ _ _ _=>(gP (ak (bf rP (aj 1) (aj 0)) (ak (aj 2) (ak (aj 3) (ak (aj 4) aA)))))) (Aa (cQ (bx) (cQ (bx) (cQ (bx) (cQ (bx) vM)))))) aA))) (au (iu (Bm (tK (bJ (of_eq a) (bL rR S t.yG rQ (ak (aj 7) aA)) (bL rR S t.yG rQ (ak (aj 4) aA)) (bZ _)) (qg (bJ (Bu a) (aW (cM t.iT b c (ak (gP (ak (aj 3) (ak (aj 7) (ak (aj 5) aA)))) aA)) aD) (bf rP (aW (aj 1) aD) (aj 6)) (bZ _))))) (au (cG Fw) aK) aK) (au (Qa 8 9 S nd (ak (bf dI (aW (aj 2) aD) (bL rR S t.yG rQ (ak (aj 3) aA))) (ak (bf dI (aW (aj 2) aD) (bL rR S t.yG rQ (ak (aj 3) aA))) aA))) (au (iu (bJ (of_eq a) (aj 8) (aj 9) (bZ _)) (au (cG Fw) aK) aK) (au (bh 10 nd (bf dY aD (bf dI (aW (aj 2) aD) aD))) (au (bh 11 nd (bL xY S t.qm rM (ak (bf dY (fQ ["_law_w","_law_x","_law_y","_law_k"] (oH [] []) S (dX (aj 4)) (λ_ _ _ _=>(jP S (aR (aH 0 (by show List.Nodup (_++_);decide +kernel)) (aR (aH 1 (by show List.Nodup (_++_);decide +kernel)) (aR (aH 2 (by show List.Nodup (_++_);decide +kernel)) (aR (aH 3 (by show List.Nodup (_++_);decide +kernel)) gR)))))) (λ_ _ _ _=>cY) (λ_ _ _ _=>(gP (ak (bf DW aD (aj 0)) (ak (aj 1) (ak (aj 2) (ak (aj 3) aA)))))) (Aa (cQ (bx) (cQ (bx) (cQ (bx) (cQ (bx) vM)))))) (mJ (ak (gP (ak (bf DW aD (aj 10)) (ak (aW (aj 3) (bL (Qo S) S t.Uo Jm (ak (aj 8) (ak (aj 9) aA)))) (ak (aW (aj 3) (bL (xU S) S t.Gq xP (ak (aj 8) (ak (aj 9) aA)))) (ak aD aA))))) aA))) aA))) (au (bh 12 nd (aW (cM t.iT b c (ak (gP (ak (aj 3) (ak (eY iJ S t.lA iI (ak (fQ ["_law_w","_law_x","_law_y","_law_k"] (oH [] []) S (dX (aj 11)) (λ_ _ _ _=>(jP S (aR (aH 0 (by show List.Nodup (_++_);decide +kernel)) (aR (aH 1 (by show List.Nodup (_++_);decide +kernel)) (aR (aH 2 (by show List.Nodup (_++_);decide +kernel)) (aR (aH 3 (by show List.Nodup (_++_);decide +kernel)) gR)))))) (λ_ _ _ _=>cY) (λ_ _ _ _=>(gP (ak (bf DW aD (aj 0)) (ak (aj 1) (ak (aj 2) (ak (aj 3) aA)))))) (Aa (cQ (bx) (cQ (bx) (cQ (bx) (cQ (bx) vM)))))) aA)) (ak (aj 5) aA)))) aA)) aD)) (au (cG (eC Ch Ch (aW (aj 1) aD) (aj 12) (bf dY (aW (aj 1) aD) (aj 10)))) aK))))))))))
theorem yL:bF ["_law_ground_here","_law_names_here","_law_reasons","_law_bars","_law_new","_law_k","_law_some","_law_found"] ["_law_ground_here"] (aP zV):=j6
theorem KD:qQ P w K mg base Dz 1 t.fY.f t.fY.fd ["_law_ground_here"] (GE K 1 jC jy):=by
 unfold jC jy;refine b7 (k:=0) (ga:=mj) (gb:=mD) t.fY.F yL S S (mL (mL (mL (mL (mL P3))))) (mL (mL (mL (mL (mL Pv))))) λc A outer s H E b=>?_;have a:=HD b;have nd:=yL.nd;exact(yC (vL (aj 0) (jP S (aR (aH 1 nd) (aR (aH 2 nd) (aR (aH 3 nd) gR))))) LF (yC (bh 4 nd cv) Ep (yC (z8 PassesOwn.never S (uW S t.zq (ak (bL rR S t.yG rQ (ak (aj 1) aA)) aA)) (aH 5 nd) (bI [5] (au (Qs 4 a (jw (bf dY (bf dY Wf (aW Wf (aj 5))) (xQ (aW (aj 1) (aj 5)) jQ (jR aD)))) (aW (aj 1) (aj 5))) aK))) (YX OR) (yC (Hw 6 ["_law_w","_law_a","_law_b","_law_k"] (oH ["_law_new"] [4]) S nd (dX (aj 2)) (λ_ _ _ _=>(jP S (aR (aH 1 (by show List.Nodup (_++_);decide +kernel)) (aR (aH 2 (by show List.Nodup (_++_);decide +kernel)) (aR (aH 3 (by show List.Nodup (_++_);decide +kernel)) (aR (aH 4 (by show List.Nodup (_++_);decide +kernel)) gR)))))) (λ_ _ _ _=>cY) (λ_ _ _ _=>(gP (ak (aj 1) (ak (dw a (aj 0) (aj 2)) (ak (dw a (aj 0) (aj 3)) (ak (aj 4) aA)))))) (Aa (cQ (bx) (cQ (bx) (cQ (bx) (cQ (bx) vM)))))) Ep (yC (bh 7 nd (gP (ak (eY iJ S t.lA iI (ak (fQ ["_law_name"] (oH ["_law_new"] [4]) S (dX (aj 1)) (λ_ _ _ _=>(aH 1 (by show List.Nodup (_++_);decide +kernel))) (λ_ _ _ _=>cY) (λ_ _ _ _=>(dw a (aj 0) (aj 1))) (bx)) aA)) (ak (eY iJ S t.lA iI (ak (aj 6) aA)) (ak (eY iJ S t.lA iI (ak (fQ ["_law_a","_law_b","_law_k"] (oH ["_law_new"] [4]) S (dX (aj 3)) (λ_ _ _ _=>(jP S (aR (aH 1 (by show List.Nodup (_++_);decide +kernel)) (aR (aH 2 (by show List.Nodup (_++_);decide +kernel)) (aR (aH 3 (by show List.Nodup (_++_);decide +kernel)) gR))))) (λ_ _ _ _=>cY) (λ_ _ _ _=>(gP (ak (dw a (aj 0) (aj 1)) (ak (dw a (aj 0) (aj 2)) (ak (aj 3) aA))))) (Aa (cQ (bx) (cQ (bx) (cQ (bx) vM))))) aA)) aA))))) Ep (eR 7 4))))))
theorem KH:bF ["sets","bars","homes"] ["sets","bars"] (aP zW):=j6
theorem KJ(c:Ok P w base t.o9 1 1 o7):Ok P w base t.p7 2 2 pX:=Ak (g:=pW) t.p7 KH λ_ _ _ _ _ _ b a nd=>(au (bh 2 nd (cM t.o9 c b (ak (aj 0) aA))) (au (cG (fQ ["bar"] (oH ["homes"] [2]) S (dX (aj 1)) (λ_ _ _ _=>(aH 1 (by show List.Nodup (_++_);decide +kernel))) (λ_ _ _ _=>(fL (bJ (of_eq a) (dw a (aj 0) (aW (aj 1) aD)) (dw a (aj 0) (aW (aj 1) aD)) (bZ _)))) (λ_ _ _ _=>(aj 1)) (bx))) aK))
theorem W9:bF ["ground","sets","names","reasons","bars","inner"] ["ground","sets"] (aP OJ):=j6
theorem Xa(d:Ok P w base t.p7 2 2 pX)(b:Ok P w base t.jW 3 2 jk)(e:Ok P w base t.gw 2 2 gq):Ok P w base t.zp 4 2 zm:=Ak (g:=zj) t.zp W9 λ_ _ _ _ _ _ a c nd=>(au (vL (aj 0) (jP S (aR (aH 2 nd) (aR (aH 3 nd) (aR (aH 4 nd) gR))))) (au (bh 5 nd (cM t.gw e a (ak (aj 1) (ak (aj 3) aA)))) (au (cG (Op (Pe (cM t.p7 d a (ak (aj 1) (ak (aj 4) aA)))) (LP (VP (of_eq c) (cM t.jW b a (ak (aj 2) (ak (aj 5) aA))) (bL xY S t.qm rM (ak (aj 1) aA)) (bZ _))))) aK)))
theorem nS:bF ["_law_script","_law_head","_law_ground_here","_law_told","_law_other","_law_new","_law_sets"] ["_law_script"] (aP s_law):=j6
theorem Xt(n:Ok P w base t.lu 40 3 kY)(q:Ok P w base t.jV 1 2 jU)(l:Ok P w base t.rC 2 5 qU)(e:Ok P w base t.sy 2 2 su)(j:Ok P w base t.fX 1 2 fW)(h:qQ P w K mg base Dz 1 t.fY.f t.fY.fd ["_law_ground_here"] (GE K 1 jC jy))(o:Ok P w base t.iG 40 3 iD)(d:Ok P w base t.iT 39 1 iQ)(p:Ok P w base t.zp 4 2 zm)(i:Ok P w base t.rD 3 1 q9):Ok P w base t.x_law 41 1 F_law:=Ak (g:=Y4) t.x_law nS λ_ _ _ _ _ _ a c nd=>(au (bh 1 nd (cM t.fX j a (ak (jw (cM t.jV q a (ak (aj 0) (ak aD aA)))) (ak aD aA)))) (au (bh 2 nd (cM t.rC l a (ak (aj 0) (ak aD (ak (jw (bf dY aD (bf dI (aW (aj 1) aD) aD))) (ak (bf dI (aW (aj 1) aD) aD) (ak (bf dI (aW (aj 1) aD) aD) aA))))))) (au (bh 3 nd (cM t.iT d a (ak (aj 2) aA))) (au (iu (bJ SQ (cM t.sy e a (ak (aj 2) (ak (aW (cM t.rD i a (ak (aj 2) aA)) aD) aA))) (aW (aj 3) aD) (bZ _)) (au (cG Fw) aK) aK) (au (iu (Bm (DG (V0 (Ja (cM t.lu n a (ak (aj 2) (ak (aj 3) (ak (jw (xQ (aj 1) (jR aD) jQ)) aA)))))) (yQ (V0 (Ja (cM t.iG o a (ak (aj 2) (ak (aj 3) (ak (jw (xQ (aj 1) (jR aD) jQ)) aA))))))))) (au (cG Fw) aK) aK) (UC (Pl 4 5 S nd h (a.mono (by decide)) S t.fY.m t.fY.k t.fY.b (ak (aj 2) aA) a6 eJ) (au (iu (bJ (Bu c) (xQ (cM t.iT d a (ak (aj 4) aA)) (jR aD) jQ) (xQ (aj 3) (jR aD) jQ) (bZ _)) (au (cG Fw) aK) aK) (au (bh 6 nd (bL xY S t.qm rM (ak (fQ ["_law_part"] (oH ["_law_new"] [5]) S (dX (aW (aj 3) aD)) (λ_ _ _ _=>(aH 1 (by show List.Nodup (_++_);decide +kernel))) (λ_ _ _ _=>cY) (λ_ _ _ _=>(eY iJ S t.lA iI (ak (fQ ["_law_name"] (oH ["_law_new"] [0]) S (dX (aj 1)) (λ_ _ _ _=>(aH 1 (by show List.Nodup (_++_);decide +kernel))) (λ_ _ _ _=>cY) (λ_ _ _ _=>(dw c (aj 0) (aj 1))) (bx)) aA))) (bx)) aA))) (au (cG (Op (cM t.zp p a (ak (aj 4) (ak (aj 6) aA))) (LP (VP (of_eq c) (cM t.sy e a (ak (aj 4) (ak (aj 6) aA))) (aW (aj 3) aD) (bZ _))))) aK)))))))))
theorem EC:Ok P w base t.x_law 41 1 F_law:=by
 have m:=Us (P:=P) (w:=w) (base:=base) t;have i:=Kq (P:=P) (w:=w) (base:=base) t;have L:=Q7 (P:=P) (w:=w) (base:=base) t;have G:=Ma (P:=P) (w:=w) (base:=base) t m L i;have j:=Mg (P:=P) (w:=w) (base:=base) t;have h:=Mh (P:=P) (w:=w) (base:=base) t;have e:=Uu (P:=P) (w:=w) (base:=base) t h j;have z:=Ku (P:=P) (w:=w) (base:=base) t;have f:=Mj (P:=P) (w:=w) (base:=base) t z;have a:=Uw (P:=P) (w:=w) (base:=base) t e f;have u:=Uy (P:=P) (w:=w) (base:=base) t a;have A:=GR (P:=P) (w:=w) (base:=base) t u;have o:=CV (P:=P) (w:=w) (base:=base) t;have c:=Q9 (P:=P) (w:=w) (base:=base) t;have g:=Rb (P:=P) (w:=w) (base:=base) t;have n:=UJ (P:=P) (w:=w) (base:=base) t g;have v:=lI (P:=P) (w:=w) (base:=base) t g n;have p:=Mp (P:=P) (w:=w) (base:=base) t e v;have I:=GX (P:=P) (w:=w) (base:=base) t p c;have q:=Rf (P:=P) (w:=w) (base:=base) t I a c;have d:=UW (P:=P) (w:=w) (base:=base) t;have l:=CZ (P:=P) (w:=w) (base:=base) t d;have b:=W8 (P:=P) (w:=w) (base:=base) t q A l o c;have J:=KC (P:=P) (w:=w) (base:=base) t;have D:=Mr (P:=P) (w:=w) (base:=base) t J h j f;have s:=Mt (P:=P) (w:=w) (base:=base) t;have K:=U3 (P:=P) (w:=w) (base:=base) t s;have F:=Mv (P:=P) (w:=w) (base:=base) t;have H:=Dd (P:=P) (w:=w) (base:=base) t F b;have E:=yK (P:=P) (w:=w) (base:=base) t b;have x:=KD (P:=P) (w:=w) (base:=base) t;have B:=KJ (P:=P) (w:=w) (base:=base) t d;have C:=Xa (P:=P) (w:=w) (base:=base) t B a l;have y:=Xt (P:=P) (w:=w) (base:=base) t H m G K i x E b C D;exact y
end
end G33
end
section
set_option synthInstance.maxSize 100000
namespace G33
open L2 P1
noncomputable section
def z6(a:Int)(b:Int):Int:=(let a:=(((a*69621)+b)%2147483647);a)
theorem Mw(d:B6)(e:Lp gC (d.map eI))(c:Int)(a:Int)(b:Int):RP zX [Z gC,Z (zE eI c),Z (zE eI a),Z (zE eI b)] (λs=>Ap.nx ((λa:Int=>[Z gC,Z (zE eI c),Z (zE eI a),U]) s)) (z6  a b) (U):=R.tp (bG (bH 2 (gJ (lQ (Yz (ao 2 (zE eI) a S) 69621 (by decide)) (ao 3 (zE eI) b S)) 2147483647 (by decide)) (λ_=>S) λa=>(bU (bT a S))))
def bw(c:B6)(a:Int):Int:=(if(decide (a<(c.length:Int)))=true then(at' c a)else(let b:=((48271*(((a*a)+(7*a))+11))%2147483647);(let b:Int:=((BE c U (Z 3)).foldl (λ(b:Int) (d:Int)=>(z6  b d)) b);b)))
def jY(b:B6)(a:Int):Prop:=(((decide (a<(b.length:Int)))=true->In b.length a)/\((decide (a<(b.length:Int)))=false->DD a a))
theorem Xb(b:B6)(d:Lp gC (b.map eI))(a:Int):RP vU [Z gC,Z (zE eI a),U,U] (λr=>Ap.rt (zE eI r)) (bw b a) (Z (jY b a)):=R.tp (lY (cL (YB (ao 1 (zE eI) a S) (FU (fM 0 eI b d S)))) (bG (cW (λr=>r) (j8 (fM 0 eI b d S) (ao 1 (zE eI) a S)) (λ_=>S) λ_=>S)) (bU (bH 2 (gJ (WX 48271 (by decide) (lQ (lQ (T9 (ao 1 (zE eI) a S) (ao 1 (zE eI) a S)) (WX 7 (by decide) (ao 1 (zE eI) a S))) (B5 11))) 2147483647 (by decide)) (λ_=>S) λc=>(dQ (λc:Int=>[Z gC,Z (zE eI a),Z (zE eI c),U]) c S (IN (F7 (fM 0 eI b d S) JX (JZ (B5 3)))) _ (λ_ _=>S) (λ(c:Int) (e:Int)=>(Mw b d a c e).r) (λ_ _=>S) λc=>(cW (λr=>r) (ao 2 (zE eI) c S) (λ_=>S) λ_=>S)))))
theorem wF:∀v bs,(aL eI (aZ eI aN)) v bs->bs.length=2/\(hold (Z (jY v.1 v.2.1))->jU (bs.map lend)=Z ((zE eI) (bw v.1 v.2.1))):=by
 rintro⟨c,a,_⟩ _ ⟨gC,_,rfl,b,⟨_,rfl,rfl⟩⟩;exact⟨rfl,λh=>cg (g:=vU) (n:=4) (bs:=[lend gC,.z (eI a)]) (Xb c (mX b) a) h⟩
def dF(a:Int×B6×Int)(c:Int):Int×B6×Int:=(let b:=((((a.1*((a.1%65521)+40487))+(7*c))+5)%1999999973);(let d:=a.2.1++[(at' [b,(a.2.2%1000000)] (if(decide ((0:Int)<a.2.2))=true then(1:Int)else 0))];(let e:=(a.2.2 / (1000000:Int));(b,d,e))))
def lH(a:Int×B6×Int)(b:Int):Prop:=(DD a.1 ((a.1%65521)+40487)/\(let c:=((((a.1*((a.1%65521)+40487))+(7*b))+5)%1999999973);(In [c,(a.2.2%1000000)].length (if(decide ((0:Int)<a.2.2))=true then(1:Int)else 0)/\Ek a.2.1.length)))
theorem Es(d:Int)(c:Int)(a:Int×B6×Int)(b:Int):RP oX [Z (zE eI d),Z (zE eI c),Z ((oE eI) a.2.1),Z ((zE eI) a.1),Z ((zE eI) a.2.2),Z (zE eI b)] (λs=>Ap.nx ((λa:Int×B6×Int=>[Z (zE eI d),Z (zE eI c),Z ((oE eI) a.2.1),Z ((zE eI) a.1),Z ((zE eI) a.2.2),U]) s)) (dF  a b) (Z (lH  a b)):=R.tp (bG (bH 3 (gJ (lQ (lQ (T9 (ao 3 (zE eI) a.1 S) (lQ (gJ (ao 3 (zE eI) a.1 S) 65521 (by decide)) (B5 40487))) (WX 7 (by decide) (ao 5 (zE eI) b S))) (B5 5)) 1999999973 (by decide)) (λ_=>S) λe=>(bG (Gg 2 a.2.1 S (j8 (jG (rW (j7 (ao 3 (zE eI) e S) (j7 (gJ (ao 4 (zE eI) a.2.2 S) 1000000 (by decide)) (lR eI))) (ZI S))) (gf (FA (ao 4 (zE eI) a.2.2 S) (B5 0)))) λf=>(bG (bH 4 (QJ (ao 4 (zE eI) a.2.2 S) 1000000 (by decide)) (λ_=>S) λg=>(bU (bT (e,f,g) S))))))))
def lJ(g:Int)(e:Int)(c:B6)(f:Int)(d:Int):B6:=(let a:Int×B6×Int:=((rng 0 e.toNat).foldl (λ(a:Int×B6×Int) (b:Int)=>(dF  a b)) (f,c,d));a.2.1)
def pD(g:Int)(c:Int)(d:B6)(f:Int)(e:Int):Prop:=(Rg c/\nC (λ(a:Int×B6×Int) (b:Int)=>(dF  a b)) (λ(a:Int×B6×Int) (b:Int)=>Z (lH  a b)) (rng 0 c.toNat) (f,d,e))
def Et:Ev->Y Ap:=(aF (xR (ZX (aq (gv 1) aJ)) (eZ 5) oX) (aF (zG 2) eE))
theorem Eu(c:Int)(b:Int)(d:B6)(f:Int)(e:Int):RP Et [Z (zE eI c),Z (zE eI b),Z (oE eI d),Z (zE eI f),Z (zE eI e),U] (λr=>Ap.rt (oE eI r)) (lJ c b d f e) (Z (pD c b d f e)):=R.tp (J3 (λa:Int×B6×Int=>[Z (zE eI c),Z (zE eI b),Z ((oE eI) a.2.1),Z ((zE eI) a.1),Z ((zE eI) a.2.2),U]) (f,d,e) S (J2 (ao 1 (zE eI) b S)) _ (λ_ _=>S) (λ(a:Int×B6×Int) (g:Int)=>(Es c b a g).r) λa=>(Em 2 (λr=>r) a.2.1 S (λ_=>S) λ_=>S))
def aY(a:Int)(d:Int):B6:=(let c:=([]:O Int);(let e:=((((a%1999999973)+31)*765432101)%1999999973);(let b:=(0:Int);(let b:Int:=(if((decide (a<0))||(decide (((10:Int) ^ 18)<=a)))=true then(let b:=(if a<0 then -a else a);b)else b);(lJ a d c e b)))))
def gZ(a:Int)(d:Int):Prop:=(let c:=([]:O Int);(let e:=((((a%1999999973)+31)*765432101)%1999999973);(let b:=(0:Int);(let b:Int:=(if((decide (a<0))||(decide (((10:Int) ^ 18)<=a)))=true then(let b:=(if a<0 then -a else a);b)else b);(pD a d c e b)))))
theorem Mx(a:Int)(c:Int):RP pN [Z (zE eI a),Z (zE eI c),U,U,U,U] (λr=>Ap.rt (oE eI r)) (aY a c) (Z (gZ a c)):=R.tp (bH 2 (rW (lR eI) (ZI S)) (λ_=>S) λd=>(bH 3 (gJ (Yz (lQ (gJ (ao 0 (zE eI) a S) 1999999973 (by decide)) (B5 31)) 765432101 (by decide)) 1999999973 (by decide)) (λ_=>S) λe=>(bH 4 (B5 0) (λ_=>S) λb=>(Ci (λb:Int=>[Z (zE eI a),Z (zE eI c),Z (oE eI d),Z (zE eI e),Z (zE eI b),U]) (EX (cL (YB (ao 0 (zE eI) a S) (B5 0))) (cL (FR (ao 0 (zE eI) a S) (lh 10 18 18 (by decide) S)))) (bG (bH 4 (SU (ao 0 (zE eI) a S)) (λ_=>S) λb=>(bU (bT b S)))) (bU (bT b S)) λb=>(Eu a c d e b).r))))
theorem p8:∀v bs,(aZ eI (aZ eI aN)) v bs->bs.length=2/\(hold (Z (gZ v.1 v.2.1))->fW (bs.map lend)=Z ((oE eI) (aY v.1 v.2.1))):=by
 rintro⟨a,b,_⟩ _ ⟨_,rfl,⟨_,rfl,rfl⟩⟩;exact⟨rfl,λh=>cg (g:=pN) (n:=6) (bs:=[.z (eI a),.z (eI b)]) (Mx a b) h⟩
def gK(f:B6)(d:AJ)(e:AJ)(g:Int)(b:AZ)(c:Int):AZ:=(let h:=(ch d ((c+(at' f 2))%15));(let a:=(((Txt.slice e U (Z g))++h)++(Txt.slice e (Z g) U));(let a:AJ:=(if(decide (((at' f 3)%3)=1))=true then(let a:=(Txt.mul (ch d (c / (8:Int))) (1+(c%8)));a)else a);(let b:=b++[a];b))))
def nQ(b:B6)(c:AJ)(d:AJ)(e:Int)(h:AZ)(a:Int):Prop:=((In b.length 2/\In c.length ((a+(at' b 2))%15))/\(let g:=(ch c ((a+(at' b 2))%15));((Ek ((Txt.slice d U (Z e)).length+g.length)/\Ek (((Txt.slice d U (Z e))++g).length+(Txt.slice d (Z e) U).length))/\(let f:=(((Txt.slice d U (Z e))++g)++(Txt.slice d (Z e) U));((In b.length 3/\((decide (((at' b 3)%3)=1))=true->(In c.length (a / (8:Int))/\((1+(a%8))<=1000 ∧ -1000<=(1+(a%8))/\(ch c (a / (8:Int))).length<=1000))))/\(let f:AJ:=(if(decide (((at' b 3)%3)=1))=true then(let f:=(Txt.mul (ch c (a / (8:Int))) (1+(a%8)));f)else f);Ek h.length))))))
theorem KN(g:B6)(i:Lp gC (g.map eI))(h:Int)(b:AJ)(c:AJ)(e:Int)(a:AZ)(d:Int):RP rZ [Z gC,Z (zE eI h),Z (zE eS b),Z (zE eS c),Z (zE eI e),Z (oE eS a),Z (zE eI d),U,U] (λs=>Ap.nx ((λa:AZ=>[Z gC,Z (zE eI h),Z (zE eS b),Z (zE eS c),Z (zE eI e),Z (oE eS a),U,U,U]) s)) (gK g b c e a d) (Z (nQ g b c e a d)):=R.tp (bG (bH 7 (Ua (ao 2 (zE eS) b S) (gJ (lQ (ao 6 (zE eI) d S) (j8 (fM 0 eI g i S) (B5 2))) 15 (by decide))) (λ_=>S) λj=>(bG (bH 8 (El (El (YF (ao 3 (zE eS) c S) JX (JZ (ao 4 (zE eI) e S))) (ao 7 (zE eS) j S)) (YF (ao 3 (zE eS) c S) (JZ (ao 4 (zE eI) e S)) JX)) (λ_=>S) λf=>(bG (Ci (λf:AJ=>[Z gC,Z (zE eI h),Z (zE eS b),Z (zE eS c),Z (zE eI e),Z (oE eS a),Z (zE eI d),Z (zE eS j),Z (zE eS f)]) (cL (BH (by decide) (gJ (j8 (fM 0 eI g i S) (B5 3)) 3 (by decide)) (B5 1))) (bG (bH 8 (df (Ua (ao 2 (zE eS) b S) (QJ (ao 6 (zE eI) d S) 8 (by decide))) (lQ (B5 1) (gJ (ao 6 (zE eI) d S) 8 (by decide)))) (λ_=>S) λf=>(bU (bT f S)))) (bU (bT f S)) λf=>(bG (Gg 5 a S (ao 8 (zE eS) f S) λa=>(bU (bT a S))))))))))
def nR(c:B6)(f:Int)(d:AJ)(b:AJ):AZ:=(let g:=((at' c 1)%((b.length:Int)+1));(let a:=([]:AZ);(let a:AZ:=((rng 0 f.toNat).foldl (λ(a:AZ) (e:Int)=>(gK c d b g a e)) a);a)))
def sI(c:B6)(f:Int)(e:AJ)(b:AJ):Prop:=((In c.length 1/\0<((b.length:Int)+1))/\(let g:=((at' c 1)%((b.length:Int)+1));(let a:=([]:AZ);(Rg f/\nC (λ(a:AZ) (d:Int)=>(gK c e b g a d)) (λ(a:AZ) (d:Int)=>Z (nQ c e b g a d)) (rng 0 f.toNat) a))))
def KQ:Ev->Y Ap:=(aF (As 4 (b2 jK (b2 fH (gv 0) (cB (.int 1))) (b2 iH (cZ uF (aq (gv 3) aJ)) (cB (.int 1))))) (aF (As 5 (cZ sY aJ)) (aF (xR (ZX (aq (gv 1) aJ)) (eZ 6) rZ) (aF (zG 5) eE))))
theorem KR(e:B6)(f:Lp gC (e.map eI))(c:Int)(d:AJ)(b:AJ):RP KQ [Z gC,Z (zE eI c),Z (zE eS d),Z (zE eS b),U,U,U,U,U] (λr=>Ap.rt (oE eS r)) (nR e c d b) (Z (sI e c d b)):=R.tp (bH 4 (Cg (j8 (fM 0 eI e f S) (B5 1)) (lQ (fw (ao 3 (zE eS) b S)) (B5 1))) (λ_=>S) λg=>(bH 5 (rW (lR eS) (ZI S)) (λ_=>S) λa=>(J3 (λa:AZ=>[Z gC,Z (zE eI c),Z (zE eS d),Z (zE eS b),Z (zE eI g),Z (oE eS a),U,U,U]) a S (J2 (ao 1 (zE eI) c S)) _ (λ_ _=>S) (λ(a:AZ) (h:Int)=>(KN e f c d b g a h).r) λa=>(Em 5 (λr=>r) a S (λ_=>S) λ_=>S))))
def cN(a:B6)(e:Int):AZ:=(let b:=("abcdefghijklmnopqrstuvwxyz":AJ);(let c:=(Txt.join "" ((rng 0 ((at' a 0)%6).toNat).map λd:Int=>(ch b (((at' a d) / (40:Int))%26))));(nR a e b c)))
def um(a:B6)(e:Int):Prop:=(let c:=("abcdefghijklmnopqrstuvwxyz":AJ);(((((In a.length 0/\Rg ((at' a 0)%6))/\(rng 0 ((at' a 0)%6).toNat).length<=100000)/\(∀b∈(rng 0 ((at' a 0)%6).toNat),(In a.length b/\In c.length (((at' a b) / (40:Int))%26))))/\(((rng 0 ((at' a 0)%6).toNat).map λb:Int=>(ch c (((at' a b) / (40:Int))%26))).map (·.length)).sum+((rng 0 ((at' a 0)%6).toNat).map λb:Int=>(ch c (((at' a b) / (40:Int))%26))).length*("":AJ).length<=100000)/\(let d:=(Txt.join "" ((rng 0 ((at' a 0)%6).toNat).map λb:Int=>(ch c (((at' a b) / (40:Int))%26))));(sI a e c d))))
theorem U4(a:B6)(b:Lp gC (a.map eI))(c:Int):RP tZ [Z gC,Z (zE eI c),U,U,U,U,U,U,U] (λr=>Ap.rt (oE eS r)) (cN a c) (Z (um a c)):=R.tp (bH 2 (F5 "abcdefghijklmnopqrstuvwxyz") (λ_=>S) λd=>(bH 3 (fq "" (jG (rY (J2 (gJ (j8 (fM 0 eI a b S) (B5 0)) 6 (by decide))) _ (λ_=>S) (λf:Int=>(Ua (ao 0 (zE eS) d S) (gJ (QJ (j8 (fM 1 eI a b (congrArg Z (b.get S))) (ao 2 (zE eI) f S)) 40 (by decide)) 26 (by decide))))))) (λ_=>S) λe=>(KR a b c d e).r))
theorem U5:∀v bs,(aL eI (aZ eI aN)) v bs->bs.length=2/\(hold (Z (um v.1 v.2.1))->ql (bs.map lend)=Z ((oE eS) (cN v.1 v.2.1))):=by
 rintro⟨b,a,_⟩ _ ⟨gC,_,rfl,c,⟨_,rfl,rfl⟩⟩;exact⟨rfl,λh=>cg (g:=tZ) (n:=9) (bs:=[lend gC,.z (eI a)]) (U4 b (mX c) a) h⟩
def dM(h:B6)(l:Int)(e:Int)(j:B6)(f:AZ)(a:O aB)(i:Int):(O aB):=(let b:=(aY (bw h ((l+1)+i)) 4);(let y1:=((at' b 0)%(if e>1 then e else 1));let y2:=((at' b 1)%(if e>1 then e else 1));let c:=y1;let d:=y2;(let g:=(at' [(1+((at' b 2)%3)),(1+((at' b 2)%9)),(1+((at' b 2)%1000))] ((at' j 4)%3));(let a:(O aB):=(if(!decide (c=d))=true then(let a:=a++[(((0:Int)-g),(at' f (if d<c then d else c)),(at' f (if d>c then d else c)),(at' [(0:Int),(2:Int),(10:Int)] ((at' b 3)%3)))];a)else a);a))))
def jz(e:B6)(h:Int)(b:Int)(g:B6)(i:AZ)(j:O aB)(f:Int):Prop:=(((jY e ((h+1)+f))/\(gZ (bw e ((h+1)+f)) 4))/\(let a:=(aY (bw e ((h+1)+f)) 4);(((In a.length 0/\0<(if b>1 then b else 1))/\(In a.length 1/\0<(if b>1 then b else 1)))/\(let y1:=((at' a 0)%(if b>1 then b else 1));let y2:=((at' a 1)%(if b>1 then b else 1));let c:=y1;let d:=y2;((((In a.length 2/\(In a.length 2/\In a.length 2))/\In g.length 4)/\In [(1+((at' a 2)%3)),(1+((at' a 2)%9)),(1+((at' a 2)%1000))].length ((at' g 4)%3))/\(let l:=(at' [(1+((at' a 2)%3)),(1+((at' a 2)%9)),(1+((at' a 2)%1000))] ((at' g 4)%3));((!decide (c=d))=true->((In i.length (if d<c then d else c)/\(In i.length (if d>c then d else c)/\(In a.length 3/\In [(0:Int),(2:Int),(10:Int)].length ((at' a 3)%3))))/\Ek j.length))))))))
theorem GZ(h:B6)(o:Lp gC (h.map eI))(f:Int)(d:Int)(m:Int)(l:Int)(e:B6)(c:AZ)(a:O aB)(g:Int):RP qy [Z gC,Z (zE eI f),Z (zE eI d),Z (zE eI m),Z (zE eI l),Z (oE eI e),Z (oE eS c),Z (oE aG a),Z (zE eI g),U,U,U,U,U,U] (λs=>Ap.nx ((λa:(O aB)=>[Z gC,Z (zE eI f),Z (zE eI d),Z (zE eI m),Z (zE eI l),Z (oE eI e),Z (oE eS c),Z (oE aG a),U,U,U,U,U,U,U]) s)) (dM h f d e c a g) (Z (jz h f d e c a g)):=R.tp (bG (bH 9 (An p8 (cI (oJ (An wF (nj (fM 0 eI h o S) (cI (oJ (lQ (lQ (ao 1 (zE eI) f S) (B5 1)) (ao 8 (zE eI) g S))) aX)))) (cI (B5 4) aX))) (λ_=>S) λb=>(bG (YH 10 11 (Cg (j8 (jh (ao 9 (lE eI) b S)) (B5 0)) (Gf (B5 1) (ao 2 (zE eI) d S))) (Cg (j8 (jh (ao 9 (lE eI) b S)) (B5 1)) (Gf (B5 1) (ao 2 (zE eI) d S))) λi j=>(bG (bH 12 (j8 (jG (rW (j7 (oJ (lQ (B5 1) (gJ (j8 (jh (ao 9 (lE eI) b S)) (B5 2)) 3 (by decide)))) (j7 (oJ (lQ (B5 1) (gJ (j8 (jh (ao 9 (lE eI) b S)) (B5 2)) 9 (by decide)))) (j7 (oJ (lQ (B5 1) (gJ (j8 (jh (ao 9 (lE eI) b S)) (B5 2)) 1000 (by decide)))) (lR eI)))) (ZI S))) (gJ (j8 (jh (ao 5 (lE eI) e S)) (B5 4)) 3 (by decide))) (λ_=>S) λn=>(bG (Ci (λa:(O aB)=>[Z gC,Z (zE eI f),Z (zE eI d),Z (zE eI m),Z (zE eI l),Z (oE eI e),Z (oE eS c),Z (oE aG a),Z (zE eI g),Z (oE eI b),Z (zE eI i),Z (zE eI j),Z (zE eI n),U,U]) (cL (Lz (by decide) (ao 10 (zE eI) i S) (ao 11 (zE eI) j S))) (bG (Gg 7 a S (yg (Oo (B5 0) (ao 12 (zE eI) n S)) (j8 (jh (ao 6 (lE eS) c S)) (YG (ao 10 (zE eI) i S) (ao 11 (zE eI) j S))) (j8 (jh (ao 6 (lE eS) c S)) (Gf (ao 10 (zE eI) i S) (ao 11 (zE eI) j S))) (j8 (jG (rW (j7 (B5 0) (j7 (B5 2) (j7 (B5 10) (lR eI)))) (ZI S))) (gJ (j8 (jh (ao 9 (lE eI) b S)) (B5 3)) 3 (by decide)))) λa=>(bU (bT a S)))) (bU (bT a S)) λa=>(bU (bT a S))))))))))
def eG(g:B6)(l:Int)(d:Int)(f:AZ)(a:O cP)(h:Int):(O cP):=(let e:=(aY (bw g ((l+1)+h)) 8);(let j:=((at' e 5)%(if d>1 then d else 1));let i:=((at' e 6)%(if d>1 then d else 1));let b:=j;let c:=i;(let a:(O cP):=(if(!decide (b=c))=true then(let a:=a++[((at' f (if c<b then c else b)),(at' f (if c>b then c else b)),(at' [(2:Int),(10:Int)] ((at' e 7)%2)))];a)else a);a)))
def jA(e:B6)(g:Int)(a:Int)(h:AZ)(i:O cP)(f:Int):Prop:=(((jY e ((g+1)+f))/\(gZ (bw e ((g+1)+f)) 8))/\(let b:=(aY (bw e ((g+1)+f)) 8);(((In b.length 5/\0<(if a>1 then a else 1))/\(In b.length 6/\0<(if a>1 then a else 1)))/\(let l:=((at' b 5)%(if a>1 then a else 1));let j:=((at' b 6)%(if a>1 then a else 1));let c:=l;let d:=j;((!decide (c=d))=true->((In h.length (if d<c then d else c)/\(In h.length (if d>c then d else c)/\(In b.length 7/\In [(2:Int),(10:Int)].length ((at' b 7)%2))))/\Ek i.length))))))
theorem G3(f:B6)(p:Lp gC (f.map eI))(d:Int)(c:Int)(o:Int)(n:Int)(m:B6)(b:AZ)(j:O aB)(l:O aB)(a:O cP)(e:Int):RP qz [Z gC,Z (zE eI d),Z (zE eI c),Z (zE eI o),Z (zE eI n),Z (oE eI m),Z (oE eS b),Z (oE aG j),Z (zE eI e),U,U,U,U,Z (oE aG l),Z (oE bV a)] (λs=>Ap.nx ((λa:(O cP)=>[Z gC,Z (zE eI d),Z (zE eI c),Z (zE eI o),Z (zE eI n),Z (oE eI m),Z (oE eS b),Z (oE aG j),U,U,U,U,U,Z (oE aG l),Z (oE bV a)]) s)) (eG f d c b a e) (Z (jA f d c b a e)):=R.tp (bG (bH 9 (An p8 (cI (oJ (An wF (nj (fM 0 eI f p S) (cI (oJ (lQ (lQ (ao 1 (zE eI) d S) (B5 1)) (ao 8 (zE eI) e S))) aX)))) (cI (B5 8) aX))) (λ_=>S) λg=>(bG (YH 10 11 (Cg (j8 (jh (ao 9 (lE eI) g S)) (B5 5)) (Gf (B5 1) (ao 2 (zE eI) c S))) (Cg (j8 (jh (ao 9 (lE eI) g S)) (B5 6)) (Gf (B5 1) (ao 2 (zE eI) c S))) λh i=>(bG (Ci (λa:(O cP)=>[Z gC,Z (zE eI d),Z (zE eI c),Z (zE eI o),Z (zE eI n),Z (oE eI m),Z (oE eS b),Z (oE aG j),Z (zE eI e),Z (oE eI g),Z (zE eI h),Z (zE eI i),U,Z (oE aG l),Z (oE bV a)]) (cL (Lz (by decide) (ao 10 (zE eI) h S) (ao 11 (zE eI) i S))) (bG (Gg 14 a S (mK (j8 (jh (ao 6 (lE eS) b S)) (YG (ao 10 (zE eI) h S) (ao 11 (zE eI) i S))) (j8 (jh (ao 6 (lE eS) b S)) (Gf (ao 10 (zE eI) h S) (ao 11 (zE eI) i S))) (j8 (jG (rW (j7 (B5 2) (j7 (B5 10) (lR eI))) (ZI S))) (gJ (j8 (jh (ao 9 (lE eI) g S)) (B5 7)) 2 (by decide)))) λa=>(bU (bT a S)))) (bU (bT a S)) λa=>(bU (bT a S))))))))
def qD(d:B6)(j:Int)(h:Int)(m:Int)(i:Int)(l:B6)(c:AZ)(e:O aB):cT:=(let g:=((iK aG (Ly e)).map λb:aB=>(((0:Int)-b.1),b.2.1,b.2.2.1,b.2.2.2));(let a:=([]:O cP);(let a:(O cP):=((rng 0 i.toNat).foldl (λ(a:O cP) (f:Int)=>(eG d j h c a f)) a);(c,g,(iK bV (Ly a))))))
def qF(e:B6)(i:Int)(g:Int)(m:Int)(h:Int)(l:B6)(f:AZ)(c:O aB):Prop:=(((c.length<=64/\c.length<64)/\(iK aG (Ly c)).length<=100000)/\(let j:=((iK aG (Ly c)).map λd:aB=>(((0:Int)-d.1),d.2.1,d.2.2.1,d.2.2.2));(let a:=([]:O cP);((Rg h/\nC (λ(a:O cP) (b:Int)=>(eG e i g f a b)) (λ(a:O cP) (b:Int)=>Z (jA e i g f a b)) (rng 0 h.toNat) a)/\(let a:(O cP):=((rng 0 h.toNat).foldl (λ(a:O cP) (b:Int)=>(eG e i g f a b)) a);(a.length<=64/\a.length<64))))))
def wW:Ev->Y Ap:=(aF (As 13 (dO (zP (JG (Ww (gv 7)))) (jx 4 (aV (eZ 0) (aV (eZ 1) (aV (eZ 2) (aV (eZ 3) jO))))) oG (cZ jN (aq (b2 C1 (cB (.int 0)) (gv 0)) (aq (gv 1) (aq (gv 2) (aq (gv 3) aJ))))) [] 4)) (aF (As 14 (cZ sY aJ)) (aF (xR (ZX (aq (gv 4) aJ)) (eZ 8) qz) (aF (fK (cZ jN (aq (cZ gF (aq (gv 6) aJ)) (aq (cZ gF (aq (gv 13) aJ)) (aq (cZ gF (aq (JG (Ww (gv 14))) aJ)) aJ))))) eE))))
theorem G4(i:B6)(m:Lp gC (i.map eI))(g:Int)(f:Int)(h:Int)(d:Int)(e:B6)(c:AZ)(b:O aB):RP wW [Z gC,Z (zE eI g),Z (zE eI f),Z (zE eI h),Z (zE eI d),Z (oE eI e),Z (oE eS c),Z (oE aG b),U,U,U,U,U,U,U] (λr=>Ap.rt (zE bA r)) (qD i g f h d e c b) (Z (qF i g f h d e c b)):=R.tp (bH 13 (vO (LC (jG (LI (Na (jh (ao 7 (lE aG) b S)))))) _ (λ_=>S) (λj:aB=>(yg (Oo (B5 0) (ao 0 (zE eI) j.1 S)) (ao 1 (zE eS) j.2.1 S) (ao 2 (zE eS) j.2.2.1 S) (ao 3 (zE eI) j.2.2.2 S))) λ_=>S) (λ_=>S) λl=>(bH 14 (rW (lR bV) (ZI S)) (λ_=>S) λa=>(J3 (λa:(O cP)=>[Z gC,Z (zE eI g),Z (zE eI f),Z (zE eI h),Z (zE eI d),Z (oE eI e),Z (oE eS c),Z (oE aG b),U,U,U,U,U,Z (oE aG l),Z (oE bV a)]) a S (J2 (ao 4 (zE eI) d S)) _ (λ_ _=>S) (λ(a:O cP) (n:Int)=>(G3 i m g f h d e c b l a n).r) λa=>(cW (λr=>r) (mK (iz (jh (ao 6 (lE eS) c S))) (iz (jh (ao 13 (lE aG) l S))) (iz (jG (LI (Na (jh (ao 14 (lE bV) a S))))))) (λ_=>S) λ_=>S))))
def qG(b:B6)(f:Int)(e:Int)(g:Int)(i:Int)(d:B6)(c:AZ):cT:=(let a:=([]:O aB);(let a:(O aB):=((rng 0 g.toNat).foldl (λ(a:O aB) (h:Int)=>(dM b f e d c a h)) a);(qD b f e g i d c a)))
def qH(c:B6)(g:Int)(f:Int)(h:Int)(i:Int)(e:B6)(d:AZ):Prop:=(let a:=([]:O aB);((Rg h/\nC (λ(a:O aB) (b:Int)=>(dM c g f e d a b)) (λ(a:O aB) (b:Int)=>Z (jz c g f e d a b)) (rng 0 h.toNat) a)/\(let a:(O aB):=((rng 0 h.toNat).foldl (λ(a:O aB) (b:Int)=>(dM c g f e d a b)) a);(qF c g f h i e d a))))
def wX:Ev->Y Ap:=(aF (As 7 (cZ sY aJ)) (aF (xR (ZX (aq (gv 3) aJ)) (eZ 8) qy) wW))
theorem G5(h:B6)(i:Lp gC (h.map eI))(g:Int)(e:Int)(b:Int)(f:Int)(d:B6)(c:AZ):RP wX [Z gC,Z (zE eI g),Z (zE eI e),Z (zE eI b),Z (zE eI f),Z (oE eI d),Z (oE eS c),U,U,U,U,U,U,U,U] (λr=>Ap.rt (zE bA r)) (qG h g e b f d c) (Z (qH h g e b f d c)):=R.tp (bH 7 (rW (lR aG) (ZI S)) (λ_=>S) λa=>(J3 (λa:(O aB)=>[Z gC,Z (zE eI g),Z (zE eI e),Z (zE eI b),Z (zE eI f),Z (oE eI d),Z (oE eS c),Z (oE aG a),U,U,U,U,U,U,U]) a S (J2 (ao 3 (zE eI) b S)) _ (λ_ _=>S) (λ(a:O aB) (j:Int)=>(GZ h i g e b f d c a j).r) λa=>(G4 h i g e b f d c a).r))
def qI(c:B6)(f:Int)(b:Int)(g:Int)(e:Int)(a:B6):cT:=(let d:=(xT (cN a b));(qG c f b g e a d))
def qJ(c:B6)(f:Int)(b:Int)(g:Int)(e:Int)(a:B6):Prop:=(((um a b)/\(cN a b).length<64)/\(let d:=(xT (cN a b));(qH c f b g e a d)))
def G6:Ev->Y Ap:=(aF (As 6 (cZ N6 (aq (bN 2 ql (aq (gv 5) (aq (gv 2) aJ))) aJ))) wX)
theorem G7(c:B6)(g:Lp gC (c.map eI))(e:Int)(b:Int)(f:Int)(d:Int)(a:B6):RP G6 [Z gC,Z (zE eI e),Z (zE eI b),Z (zE eI f),Z (zE eI d),Z (oE eI a),U,U,U,U,U,U,U,U,U] (λr=>Ap.rt (zE bA r)) (qI c e b f d a) (Z (qJ c e b f d a)):=R.tp (bH 6 (Th (jG (An U5 (nj (jh (ao 5 (lE eI) a S)) (cI (ao 2 (zE eI) b S) aX))))) (λ_=>S) λh=>(G5 c g e b f d a h).r)
def fU(a:B6)(b:Int)(d:Int)(f:Int)(e:Int):cT:=(let c:=(aY (bw a b) 6);(qI a b d f e c))
def nT(a:B6)(b:Int)(d:Int)(f:Int)(e:Int):Prop:=(((jY a b)/\(gZ (bw a b) 6))/\(let c:=(aY (bw a b) 6);(qJ a b d f e c)))
theorem Rh(a:B6)(f:Lp gC (a.map eI))(b:Int)(c:Int)(e:Int)(d:Int):RP qT [Z gC,Z (zE eI b),Z (zE eI c),Z (zE eI e),Z (zE eI d),U,U,U,U,U,U,U,U,U,U] (λr=>Ap.rt (zE bA r)) (fU a b c e d) (Z (nT a b c e d)):=R.tp (bH 5 (An p8 (cI (oJ (An wF (nj (fM 0 eI a f S) (cI (ao 1 (zE eI) b S) aX)))) (cI (B5 6) aX))) (λ_=>S) λg=>(G7 a f b c e d g).r)
theorem Ri:∀v bs,(aL eI (aZ eI (aZ eI (aZ eI (aZ eI aN))))) v bs->bs.length=5/\(hold (Z (nT v.1 v.2.1 v.2.2.1 v.2.2.2.1 v.2.2.2.2.1))->qU (bs.map lend)=Z ((zE bA) (fU v.1 v.2.1 v.2.2.1 v.2.2.2.1 v.2.2.2.2.1))):=by
 rintro⟨f,c,a,d,b,_⟩ _ ⟨gC,_,rfl,e,⟨_,rfl,⟨_,rfl,⟨_,rfl,⟨_,rfl,rfl⟩⟩⟩⟩⟩;exact⟨rfl,λh=>cg (g:=qT) (n:=15) (bs:=[lend gC,.z (eI c),.z (eI a),.z (eI d),.z (eI b)]) (Rh f (mX e) c a d b) h⟩
def bQ(a:AZ):(O (AJ×AJ)):=(EE (a.map λvs:AJ=>(vs,vs)))
def lK(a:AZ):Prop:=(a.length<1000/\a.length<=100000)
theorem Rj(a:AZ):RP qW [Z ((zE (eT eS)) a)] (λr=>Ap.rt (mE eS r)) (bQ a) (Z (lK a)):=R.tp (cW (λr=>r) (mI (vP (ao 0 (zE (eT eS)) a S)) (vO (vP (ao 0 (zE (eT eS)) a S)) _ (λ_=>S) (λvs:AJ=>(YM (ao 0 (zE eS) vs S) (ao 0 (zE eS) vs S))) λ_=>S)) (λ_=>S) λ_=>S)
theorem wG:∀v bs,(aZ (eT eS) aN) v bs->bs.length=1/\(hold (Z (lK v.1))->kh (bs.map lend)=Z ((mE eS) (bQ v.1))):=by
 rintro⟨a,_⟩ _ ⟨_,rfl,rfl⟩;exact⟨rfl,λh=>cg (g:=qW) (n:=1) (bs:=[.z (eT eS a)]) (Rj a) h⟩
def eU(d:AJ)(c:AJ)(b:AJ)(a:(O (AJ×AJ)))(vs:AJ):(O (AJ×AJ)):=(let a:(O (AJ×AJ)):=(if((decide ((look a vs)=d))||(decide ((look a vs)=c)))=true then(let a:=put a vs b;a)else a);a)
def qK(b:AJ)(c:AJ)(d:AJ)(a:(O (AJ×AJ)))(vs:AJ):Prop:=((has a vs=true/\((decide ((look a vs)=b))=false->has a vs=true))/\(((decide ((look a vs)=b))||(decide ((look a vs)=c)))=true->a.length<1000))
theorem G8(d:AJ)(c:AJ)(b:AJ)(a:(O (AJ×AJ)))(vs:AJ):RP wR [Z ((mW (Z a_) eS) a),Z (zE eS d),Z (zE eS c),Z (zE eS b),Z (zE eS vs)] (λs=>Ap.nx ((λa:(O (AJ×AJ))=>[Z ((mW (Z a_) eS) a),Z (zE eS d),Z (zE eS c),Z (zE eS b),U]) s)) (eU d c b a vs) (Z (qK d c b a vs)):=R.tp (bG (Ci (λa:(O (AJ×AJ))=>[Z ((mW (Z a_) eS) a),Z (zE eS d),Z (zE eS c),Z (zE eS b),Z (zE eS vs)]) (EX (cL (BH (by decide) (dB (ao 0 (nE eS) a S) (ao 4 (zE eS) vs S)) (ao 1 (zE eS) d S))) (cL (BH (by decide) (dB (ao 0 (nE eS) a S) (ao 4 (zE eS) vs S)) (ao 2 (zE eS) c S)))) (bG (HY (Z a_) 0 a S (ao 3 (zE eS) b S) (ao 4 (zE eS) vs S) λa=>(bU (bT a S)))) (bU (bT a S)) λa=>(bU (bT a S))))
def jo(a:(O (AJ×AJ)))(c:AJ)(b:AJ):(O (AJ×AJ)):=(let d:=(if qO b c=true then b else c);(let a:(O (AJ×AJ)):=((a.map (·.1)).foldl (λ(a:(O (AJ×AJ))) (vs:AJ)=>(eU c b d a vs)) a);a))
def lM(a:(O (AJ×AJ)))(b:AJ)(c:AJ):Prop:=(let d:=(if qO c b=true then c else b);nC (λ(a:(O (AJ×AJ))) (vs:AJ)=>(eU b c d a vs)) (λ(a:(O (AJ×AJ))) (vs:AJ)=>Z (qK b c d a vs)) (a.map (·.1)) a)
def wH(a:(O (AJ×AJ)))(c:AJ)(b:AJ):R qX [Z ((mW (Z a_) eS) a),Z (zE eS c),Z (zE eS b),U,U] (λe=>Ap.nx [Z ((mW (Z a_) eS) e),Z (zE eS c),Z (zE eS b),U,U]):=(bG (bH 3 (gi (ao 1 (zE eS) c S) (ao 2 (zE eS) b S)) (λ_=>S) λd=>(bG (J3 (λa:(O (AJ×AJ))=>[Z ((mW (Z a_) eS) a),Z (zE eS c),Z (zE eS b),Z (zE eS d),U]) a S (IN (lP (ao 0 (nE eS) a S))) _ (λ_ _=>S) (λ(a:(O (AJ×AJ))) (vs:AJ)=>(G8 c b d a vs).r) λa=>(bU (bT a S))))))
theorem Mz(a:(O (AJ×AJ)))(c:AJ)(b:AJ):(wH (a_:=a_) a c b).v=jo a c b:=by kernel_rfl
theorem MF(a:(O (AJ×AJ)))(c:AJ)(b:AJ):(wH (a_:=a_) a c b).D=Z (lM a c b):=by kernel_rfl
theorem wI:∀(b:(O (AJ×AJ))) v bs,(aZ eS (aZ eS aN)) v bs->bs.length=2/\bs.all DU=true/\(hold (Z (lM b v.1 v.2.1))->∀a,ji a (b.map λq=>(kS q.1,eS q.2)) bs=Z ((jo b v.1 v.2.1).map λq=>(kS q.1,eS q.2))):=by
 rintro b ⟨d,c,_⟩ _ ⟨_,rfl,⟨_,rfl,rfl⟩⟩;exact⟨rfl,rfl,λh a=>(XO (g:=qX) (n:=5) (bs:=[.z (eS d),.z (eS c)]) (wH (a_:=a) b d c) ((congrArg hold (MF (a_:=a) b d c)).mpr h) (λ_=>S)).trans (congrArg (λr:(O (AJ×AJ))=>Z (r.map λq=>(kS q.1,eS q.2))) (Mz (a_:=a) b d c))⟩
def g8(a:(O (AJ×AJ)))(q1:aB):(O (AJ×AJ)):=(let a:=(jo a (look a q1.2.1) (look a q1.2.2.1));a)
def uN(a:(O (AJ×AJ)))(q1:aB):Prop:=((has a q1.2.1=true/\has a q1.2.2.1=true)/\(lM a (look a q1.2.1) (look a q1.2.2.1)))
theorem MJ(b:AZ)(c:O aB)(a:(O (AJ×AJ)))(q1:aB):RP uI [Z ((zE (eT eS)) b),Z ((zE (eT aG)) c),Z (mE eS a),Z ((zE eI) q1.1),Z ((zE eS) q1.2.1),Z ((zE eS) q1.2.2.1),Z ((zE eI) q1.2.2.2)] (λs=>Ap.nx ((λa:(O (AJ×AJ))=>[Z ((zE (eT eS)) b),Z ((zE (eT aG)) c),Z (mE eS a),U,U,U,U]) s)) (g8  a q1) (Z (uN  a q1)):=R.tp (bG (W3 U 2 a S wI (cI (dB (ao 2 (nE eS) a S) (ao 4 (zE eS) q1.2.1 S)) (cI (dB (ao 2 (nE eS) a S) (ao 5 (zE eS) q1.2.2.1 S)) aX)) λa=>(bU (bT a S))))
def mQ(b:AZ)(c:O aB):(O (AJ×AJ)):=(let a:=(bQ b);(let a:(O (AJ×AJ)):=(c.foldl (λ(a:(O (AJ×AJ))) (q1:aB)=>(g8  a q1)) a);a))
def wJ(b:AZ)(c:O aB):Prop:=((lK b)/\(let a:=(bQ b);nC (λ(a:(O (AJ×AJ))) (q1:aB)=>(g8  a q1)) (λ(a:(O (AJ×AJ))) (q1:aB)=>Z (uN  a q1)) c a))
theorem Xc(b:AZ)(c:O aB):RP oY [Z ((zE (eT eS)) b),Z ((zE (eT aG)) c),U,U,U,U,U] (λr=>Ap.rt (mE eS r)) (mQ b c) (Z (wJ b c)):=R.tp (bH 2 (An wG (cI (ao 0 (zE (eT eS)) b S) aX)) (λ_=>S) λa=>(J5 1 c (QS S) (λa:(O (AJ×AJ))=>[Z ((zE (eT eS)) b),Z ((zE (eT aG)) c),Z (mE eS a),U,U,U,U]) a S _ (λ_ _=>S) (λ(a:(O (AJ×AJ))) (q1:aB)=>(MJ b c a q1).r) λa=>(Em 2 (λr=>r) a S (λ_=>S) λ_=>S)))
theorem Xd:∀v bs,(aZ (eT eS) (aZ (eT aG) aN)) v bs->bs.length=2/\(hold (Z (wJ v.1 v.2.1))->mO (bs.map lend)=Z ((mE eS) (mQ v.1 v.2.1))):=by
 rintro⟨a,b,_⟩ _ ⟨_,rfl,⟨_,rfl,rfl⟩⟩;exact⟨rfl,λh=>cg (g:=oY) (n:=7) (bs:=[.z (eT eS a),.z (eT aG b)]) (Xc a b) h⟩
def mq(a:(O (AJ×AJ)))(b:AJ):AZ:=(((a.map (·.1)).filter λvs:AJ=>(decide ((look a vs)=b))).map λvs:AJ=>vs)
def qb(a:(O (AJ×AJ)))(b:AJ):Prop:=((a.map (·.1)).length<=100000/\(∀vs∈(a.map (·.1)),has a vs=true))
theorem MK(a:(O (AJ×AJ)))(b:AJ):RP pP [Z (nE eS a),Z (zE eS b)] (λr=>Ap.rt ((zE (eT eS)) r)) (mq a b) (Z (qb a b)):=R.tp (cW (λr=>r) (iz (jG (zc (OA (ao 0 (nE eS) a S)) _ (λ_=>S) (λvs:AJ=>(cL (BH (by decide) (dB (ao 1 (nE eS) a S) (ao 2 (zE eS) vs S)) (ao 0 (zE eS) b S)))) (λvs:AJ=>(ao 2 (zE eS) vs S))))) (λ_=>S) λ_=>S)
theorem MN:∀v bs,(aM eS (aZ eS aN)) v bs->bs.length=2/\(hold (Z (qb v.1 v.2.1))->pQ (bs.map lend)=Z ((zE (eT eS)) (mq v.1 v.2.1))):=by
 rintro⟨a,b,_⟩ _ ⟨_,_,rfl,(rfl|rfl),⟨_,rfl,rfl⟩⟩
 all_goals exact⟨rfl,λh=>cg (g:=pP) (n:=2) (bs:=[nE eS a,.z (eS b)]) (MK a b) h⟩
def fB(a:(O (AJ×AJ))):(O AZ):=(((a.map (·.1)).filter λvs:AJ=>(decide ((look a vs)=vs))).map λvs:AJ=>(mq a vs))
def jq(a:(O (AJ×AJ))):Prop:=((a.map (·.1)).length<=100000/\(∀vs∈(a.map (·.1)),(has a vs=true/\((decide ((look a vs)=vs))=true->(qb a vs)))))
theorem Rk(a:(O (AJ×AJ))):RP qY [Z (nE eS a)] (λr=>Ap.rt ((oE (eT eS)) r)) (fB a) (Z (jq a)):=R.tp (cW (λr=>r) (zc (OA (ao 0 (nE eS) a S)) _ (λ_=>S) (λvs:AJ=>(cL (BH (by decide) (dB (ao 0 (nE eS) a S) (ao 1 (zE eS) vs S)) (ao 1 (zE eS) vs S)))) (λvs:AJ=>(oJ (An MN (G2 (ao 0 (nE eS) a S) (cI (ao 1 (zE eS) vs S) aX)))))) (λ_=>S) λ_=>S)
theorem wK:∀v bs,(aM eS aN) v bs->bs.length=1/\(hold (Z (jq v.1))->kj (bs.map lend)=Z ((oE (eT eS)) (fB v.1))):=by
 rintro⟨a,_⟩ _ ⟨_,_,rfl,(rfl|rfl),rfl⟩
 all_goals exact⟨rfl,λh=>cg (g:=qY) (n:=1) (bs:=[nE eS a]) (Rk a) h⟩
def Aq(a:AZ)(b:O aB):(O AZ):=(fB (mQ a b))
def Ar(a:AZ)(b:O aB):Prop:=((wJ a b)/\(jq (mQ a b)))
theorem Xe(a:AZ)(b:O aB):RP oZ [Z ((zE (eT eS)) a),Z ((zE (eT aG)) b)] (λr=>Ap.rt ((oE (eT eS)) r)) (Aq a b) (Z (Ar a b)):=R.tp (cW (λr=>r) (An wK (N2 (An Xd (cI (ao 0 (zE (eT eS)) a S) (cI (ao 1 (zE (eT aG)) b S) aX))) aX)) (λ_=>S) λ_=>S)
theorem Xf:∀v bs,(aZ (eT eS) (aZ (eT aG) aN)) v bs->bs.length=2/\(hold (Z (Ar v.1 v.2.1))->jk (bs.map lend)=Z ((oE (eT eS)) (Aq v.1 v.2.1))):=by
 rintro⟨a,b,_⟩ _ ⟨_,rfl,⟨_,rfl,rfl⟩⟩;exact⟨rfl,λh=>cg (g:=oZ) (n:=2) (bs:=[.z (eT eS a),.z (eT aG b)]) (Xe a b) h⟩
def pF(a:cT):(O AZ):=(Aq a.1 a.2.1)
def wL(a:cT):Prop:=(Ar a.1 a.2.1)
theorem Xg(a:cT):RP vV [Z (zE bA a)] (λr=>Ap.rt ((oE (eT eS)) r)) (pF a) (Z (wL a)):=R.tp (cW (λr=>r) (An Xf (cI (cV (ao 0 (zE bA) a S) (λq=>q.1) (eT eS) 0 λ_=>S) (cI (cV (ao 0 (zE bA) a S) (λq=>q.2.1) (eT aG) 1 λ_=>S) aX))) (λ_=>S) λ_=>S)
theorem Xh:∀v bs,(aZ bA aN) v bs->bs.length=1/\(hold (Z (wL v.1))->vW (bs.map lend)=Z ((oE (eT eS)) (pF v.1))):=by
 rintro⟨a,_⟩ _ ⟨_,rfl,rfl⟩;exact⟨rfl,λh=>cg (g:=vV) (n:=1) (bs:=[.z (bA a)]) (Xg a) h⟩
def iV(c:cT):(O cT):=(let q1:=c;((pF c).map λb:AZ=>(b,((q1.2.1.filter λvx:aB=>(decide (vx.2.1∈b))).map λvx:aB=>vx),((q1.2.2.filter λa:cP=>((decide (a.1∈b))&&(decide (a.2.1∈b)))).map λa:cP=>a))))
def sJ(a:cT):Prop:=(let q1:=a;(((wL a)/\(pF a).length<=100000)/\(∀b∈(pF a),(q1.2.1.length<=100000/\q1.2.2.length<=100000))))
theorem KY(a:cT):RP nF [Z (zE bA a),U,U,U] (λr=>Ap.rt (oE bA r)) (iV a) (Z (sJ a)):=R.tp (zQ (ao 0 (zE bA) a S) _ (λ_=>S) λq1=>(cW (λr=>r) (rY (LC (jG (An Xh (cI (ao 0 (zE bA) a S) aX)))) _ (λ_=>S) (λb:AZ=>(mK (ao 2 (zE (eT eS)) b S) (iz (jG (u0 (vP (ao 0 (zE (eT aG)) q1.2.1 S)) _ (λ_=>S) (λvx:aB=>(cL (Oq (cV (ao 1 (zE aG) vx S) (λq=>q.2.1) eS 1 λ_=>S) (ao 0 (zE (eT eS)) b S)))) (λvx:aB=>(ao 1 (zE aG) vx S)) (λ_=>S) λ_=>S))) (iz (jG (u0 (vP (ao 1 (zE (eT bV)) q1.2.2 S)) _ (λ_=>S) (λc:cP=>(Gd (cL (Oq (cV (ao 1 (zE bV) c S) (λq=>q.1) eS 0 λ_=>S) (ao 0 (zE (eT eS)) b S))) (cL (Oq (cV (ao 1 (zE bV) c S) (λq=>q.2.1) eS 1 λ_=>S) (ao 0 (zE (eT eS)) b S))))) (λc:cP=>(ao 1 (zE bV) c S)) (λ_=>S) λ_=>S)))))) (λ_=>S) λ_=>S))
theorem KZ:∀v bs,(aZ bA aN) v bs->bs.length=1/\(hold (Z (sJ v.1))->nG (bs.map lend)=Z ((oE bA) (iV v.1))):=by
 rintro⟨a,_⟩ _ ⟨_,rfl,rfl⟩;exact⟨rfl,λh=>cg (g:=nF) (n:=4) (bs:=[.z (bA a)]) (KY a) h⟩
def vD(a:cT):Unit:=(let q1:=a;(if((!q1.2.2.isEmpty)&&((decide ((8:Int)<(q1.1.length:Int)))||(decide ((12:Int)<(q1.2.1.length:Int)))))=true then default else()))
def pG(a:cT):Prop:=(let q1:=a;(((!q1.2.2.isEmpty)&&((decide ((8:Int)<(q1.1.length:Int)))||(decide ((12:Int)<(q1.2.1.length:Int)))))=true->False))
theorem Ew(a:cT):RP kE [Z (zE bA a),U,U,U] (λ_:Unit=>Ap.nx [Z (zE bA a),U,U,U]) (vD a) (Z (pG a)):=R.tp (bG (zQ (ao 0 (zE bA) a S) _ (λ_=>S) λq1=>(bG (lY (Gd (be (ao 3 (zE (eT bV)) q1.2.2 S)) (EX (cL (FA (uG (ao 1 (zE (eT eS)) q1.1 S)) (B5 8))) (cL (FA (uG (ao 2 (zE (eT aG)) q1.2.1 S)) (B5 12))))) (bG br) (bU (bU (bT () S)))))))
theorem Ey:∀v bs,(aZ bA aN) v bs->bs.length=1/\(hold (Z (pG v.1))->kJ (bs.map lend)=Z ((zE eN) (vD v.1))):=by
 rintro⟨a,_⟩ _ ⟨_,rfl,rfl⟩;exact⟨rfl,λh=>Tl (g:=kE) (n:=4) (bs:=[.z (bA a)]) (Ew a).r h⟩
def je(a:O aB):Int:=(a.map λvx:aB=>vx.1).sum
def ni(a:O aB):Prop:=(a.length<=100000/\D2 (a.map λvx:aB=>vx.1)=true)
theorem U6(a:O aB):RP mZ [Z ((zE (eT aG)) a)] (λr=>Ap.rt (zE eI r)) (je a) (Z (ni a)):=R.tp (cW (λr=>r) (YT (jG (vO (vP (ao 0 (zE (eT aG)) a S)) _ (λ_=>S) (λvx:aB=>(cV (ao 0 (zE aG) vx S) (λq=>q.1) eI 0 λ_=>S)) λ_=>S))) (λ_=>S) λ_=>S)
theorem Gs:∀v bs,(aZ (eT aG) aN) v bs->bs.length=1/\(hold (Z (ni v.1))->eF (bs.map lend)=Z ((zE eI) (je v.1))):=by
 rintro⟨a,_⟩ _ ⟨_,rfl,rfl⟩;exact⟨rfl,λh=>cg (g:=mZ) (n:=1) (bs:=[.z (eT aG a)]) (U6 a) h⟩
def f9(a:O aB):Int:=(a.map λvx:aB=>vx.1).sum
def gj(a:O aB):Prop:=(a.length<=100000/\D2 (a.map λvx:aB=>vx.1)=true)
theorem MP(a:O aB)(b:Lp gC (a.map aG)):RP mZ [Z gC] (λr=>Ap.rt (zE eI r)) (f9 a) (Z (gj a)):=R.tp (cW (λr=>r) (YT (jG (vO (LC (fM 0 aG a b S)) _ (λ_=>S) (λvx:aB=>(cV (ao 0 (zE aG) vx S) (λq=>q.1) eI 0 λ_=>S)) λ_=>S))) (λ_=>S) λ_=>S)
theorem uO:∀v bs,(aL aG aN) v bs->bs.length=1/\(hold (Z (gj v.1))->eF (bs.map lend)=Z ((zE eI) (f9 v.1))):=by
 rintro⟨b,_⟩ _ ⟨gC,_,rfl,a,rfl⟩;exact⟨rfl,λh=>cg (g:=mZ) (n:=1) (bs:=[lend gC]) (MP b (mX a)) h⟩
def qL(a:(O (AJ×AJ)))(q1:aB):(O (AJ×AJ)):=(let a:=(jo a (look a q1.2.1) (look a q1.2.2.1));a)
def wY(a:(O (AJ×AJ)))(q1:aB):Prop:=((has a q1.2.1=true/\has a q1.2.2.1=true)/\(lM a (look a q1.2.1) (look a q1.2.2.1)))
theorem G9(b:AZ)(c:O aB)(d:Lp b_1 (c.map aG))(a:(O (AJ×AJ)))(q1:aB):RP uI [Z ((zE (eT eS)) b),Z b_1,Z (mE eS a),Z ((zE eI) q1.1),Z ((zE eS) q1.2.1),Z ((zE eS) q1.2.2.1),Z ((zE eI) q1.2.2.2)] (λs=>Ap.nx ((λa:(O (AJ×AJ))=>[Z ((zE (eT eS)) b),Z b_1,Z (mE eS a),U,U,U,U]) s)) (qL  a q1) (Z (wY  a q1)):=R.tp (bG (W3 U 2 a S wI (cI (dB (ao 2 (nE eS) a S) (ao 4 (zE eS) q1.2.1 S)) (cI (dB (ao 2 (nE eS) a S) (ao 5 (zE eS) q1.2.2.1 S)) aX)) λa=>(bU (bT a S))))
def d7(b:AZ)(c:O aB):(O (AJ×AJ)):=(let a:=(bQ b);(let a:(O (AJ×AJ)):=(c.foldl (λ(a:(O (AJ×AJ))) (q1:aB)=>(qL  a q1)) a);a))
def jr(b:AZ)(c:O aB):Prop:=((lK b)/\(let a:=(bQ b);nC (λ(a:(O (AJ×AJ))) (q1:aB)=>(qL  a q1)) (λ(a:(O (AJ×AJ))) (q1:aB)=>Z (wY  a q1)) c a))
theorem Rn(b:AZ)(c:O aB)(d:Lp b_1 (c.map aG)):RP oY [Z ((zE (eT eS)) b),Z b_1,U,U,U,U,U] (λr=>Ap.rt (mE eS r)) (d7 b c) (Z (jr b c)):=R.tp (bH 2 (An wG (cI (ao 0 (zE (eT eS)) b S) aX)) (λ_=>S) λa=>(J5 1 c (OC d S) (λa:(O (AJ×AJ))=>[Z ((zE (eT eS)) b),Z b_1,Z (mE eS a),U,U,U,U]) a S _ (λ_ _=>S) (λ(a:(O (AJ×AJ))) (q1:aB)=>(G9 b c d a q1).r) λa=>(Em 2 (λr=>r) a S (λ_=>S) λ_=>S)))
theorem Dg:∀v bs,(aZ (eT eS) (aL aG aN)) v bs->bs.length=2/\(hold (Z (jr v.1 v.2.1))->mO (bs.map lend)=Z ((mE eS) (d7 v.1 v.2.1))):=by
 rintro⟨a,c,_⟩ _ ⟨_,rfl,⟨b_1,_,rfl,b,rfl⟩⟩;exact⟨rfl,λh=>cg (g:=oY) (n:=7) (bs:=[.z (eT eS a),lend b_1]) (Rn a c (mX b)) h⟩
def bM(vx:aB)(vs:AJ):(Y AJ):=(if(decide (vx.2.1=vs))=true then(Z vx.2.2.1)else(if(decide (vx.2.2.1=vs))=true then(Z vx.2.1)else U))
theorem U7(vx:aB)(vs:AJ):RP uc [Z (zE aG vx),Z (zE eS vs)] (λr=>Ap.rt ((zE (eO eS)) r)) (bM vx vs) U:=R.tp (lY (cL (BH (by decide) (cV (ao 0 (zE aG) vx S) (λq=>q.2.1) eS 1 λ_=>S) (ao 1 (zE eS) vs S))) (bG (cW (λr=>r) (Ej (cV (ao 0 (zE aG) vx S) (λq=>q.2.2.1) eS 2 λ_=>S)) (λ_=>S) λ_=>S)) (bU (lY (cL (BH (by decide) (cV (ao 0 (zE aG) vx S) (λq=>q.2.2.1) eS 2 λ_=>S) (ao 1 (zE eS) vs S))) (bG (cW (λr=>r) (Ej (cV (ao 0 (zE aG) vx S) (λq=>q.2.1) eS 1 λ_=>S)) (λ_=>S) λ_=>S)) (bU (cW (λr=>r) JR (λ_=>S) λ_=>S)))))
theorem Gu:∀v bs,(aZ aG (aZ eS aN)) v bs->bs.length=2/\(hold (U)->m5 (bs.map lend)=Z ((zE (eO eS)) (bM v.1 v.2.1))):=by
 rintro⟨vx,vs,_⟩ _ ⟨_,rfl,⟨_,rfl,rfl⟩⟩;exact⟨rfl,λh=>cg (g:=uc) (n:=2) (bs:=[.z (aG vx),.z (eS vs)]) (U7 vx vs) h⟩
def gk(b:(O (AJ×(Y aB))))(a:(O aB)×AJ):sZ ((O aB)×AJ) (O aB):=(let c:=a.1++[((look b a.2).getD default)];(let d:=((bM ((look b a.2).getD default) a.2).getD default);(sZ.nx (c,d))))
def mz(b:(O (AJ×(Y aB))))(a:(O aB)×AJ):Prop:=(((has b a.2=true/\(look b a.2).isSome=true)/\Ek a.1.length)/\(let c:=a.1++[((look b a.2).getD default)];((has b a.2=true/\(look b a.2).isSome=true)/\(bM ((look b a.2).getD default) a.2).isSome=true)))
theorem M4(b:(O (AJ×(Y aB))))(c:AJ)(a:(O aB)×AJ):RP zY [Z ((nE (eO aG)) b),Z (zE eS c),Z ((oE aG) a.1),Z ((zE eS) a.2)] (cC (λa:(O aB)×AJ=>[Z ((nE (eO aG)) b),Z (zE eS c),Z ((oE aG) a.1),Z ((zE eS) a.2)]) (oE aG)) (gk b a ) (Z (mz b a )):=R.tp (bG (Gg 2 a.1 S (yd (dB (ao 0 (nE (eO aG)) b S) (ao 3 (zE eS) a.2 S))) λe=>(bG (bH 3 (yd (An Gu (cI (yd (dB (ao 0 (nE (eO aG)) b S) (ao 3 (zE eS) a.2 S))) (cI (ao 3 (zE eS) a.2 S) aX)))) (λ_=>S) λd=>(bU (bT (.nx (e,d)) S))))))
def jZ(b:(O (AJ×(Y aB))))(e:AJ):(O aB):=(let d:=([]:O aB);(let c:=e;(BQ (Ov (λa:(O aB)×AJ=>(look b a.2).isSome) (λa:(O aB)×AJ=>((gk b a):sZ ((O aB)×AJ) (O aB))) 70 (d,c)) (λr=>r) λa:(O aB)×AJ=>a.1)))
def sO(b:(O (AJ×(Y aB))))(e:AJ):Prop:=(let d:=([]:O aB);(let c:=e;(De (λa:(O aB)×AJ=>(look b a.2).isSome) (λa:(O aB)×AJ=>Z (has b a.2=true)) (λa:(O aB)×AJ=>((gk b a):sZ ((O aB)×AJ) (O aB))) (λa:(O aB)×AJ=>Z (mz b a)) 70 (d,c)/\(vQ (Ov (λa:(O aB)×AJ=>(look b a.2).isSome) (λa:(O aB)×AJ=>((gk b a):sZ ((O aB)×AJ) (O aB))) 70 (d,c)) λa:(O aB)×AJ=>True))))
theorem Xi(b:(O (AJ×(Y aB))))(c:AJ):RP vX [Z ((nE (eO aG)) b),Z (zE eS c),U,U] (λr=>Ap.rt (oE aG r)) (jZ b c) (Z (sO b c)):=R.tp (bH 2 (rW (lR aG) (ZI S)) (λ_=>S) λe=>(bH 3 (ao 1 (zE eS) c S) (λ_=>S) λd=>(YQ 70 (λa:(O aB)×AJ=>[Z ((nE (eO aG)) b),Z (zE eS c),Z ((oE aG) a.1),Z ((zE eS) a.2)]) (e,d) S (λa:(O aB)×AJ=>(cL (QK (dB (ao 0 (nE (eO aG)) b S) (ao 3 (zE eS) a.2 S)) λ_=>S))) (λa:(O aB)×AJ=>((M4 b c a).r:R _ _ (cC (λa:(O aB)×AJ=>[Z ((nE (eO aG)) b),Z (zE eS c),Z ((oE aG) a.1),Z ((zE eS) a.2)]) (oE aG)))) (λr=>r) (λ_=>S) λa=>(Em 2 (λr=>r) a.1 S (λ_=>S) λ_=>S))))
theorem Xj:∀v bs,(aM (eO aG) (aZ eS aN)) v bs->bs.length=2/\(hold (Z (sO v.1 v.2.1))->vY (bs.map lend)=Z ((oE aG) (jZ v.1 v.2.1))):=by
 rintro⟨a,b,_⟩ _ ⟨_,_,rfl,(rfl|rfl),⟨_,rfl,rfl⟩⟩
 all_goals exact⟨rfl,λh=>cg (g:=vX) (n:=4) (bs:=[nE (eO aG) a,.z (eS b)]) (Xi a b) h⟩
def eV(e:AJ)(a:(O (AJ×(Y aB)))×AZ)(vx:aB):(O (AJ×(Y aB)))×AZ:=(let b:=(bM vx e);(let c:(O (AJ×(Y aB)))×AZ:=(if(b.isSome&&(!has a.1 (b.getD default)))=true then(let f:=put a.1 (b.getD default) (Z vx);(let d:=a.2++[(b.getD default)];(f,d)))else(a.1,a.2));(c.1,c.2)))
def jf(c:AJ)(b:(O (AJ×(Y aB)))×AZ)(vx:aB):Prop:=(let a:=(bM vx c);((a.isSome=true->a.isSome=true)/\((a.isSome&&(!has b.1 (a.getD default)))=true->((a.isSome=true/\b.1.length<1000)/\(let d:=put b.1 (a.getD default) (Z vx);(a.isSome=true/\Ek b.2.length))))))
theorem U8(h:O aB)(j:Lp gC (h.map aG))(e:AJ)(f:AJ)(b:AJ)(a:(O (AJ×(Y aB)))×AZ)(vx:aB):RP Gn [Z gC,Z (zE eS e),Z (zE eS f),Z ((mE (eO aG)) a.1),Z ((oE eS) a.2),Z (zE eS b),Z (zE aG vx),U] (λs=>Ap.nx ((λa:(O (AJ×(Y aB)))×AZ=>[Z gC,Z (zE eS e),Z (zE eS f),Z ((mE (eO aG)) a.1),Z ((oE eS) a.2),Z (zE eS b),U,U]) s)) (eV b a vx) (Z (jf b a vx)):=R.tp (bG (bH 7 (An Gu (cI (ao 6 (zE aG) vx S) (cI (ao 5 (zE eS) b S) aX))) (λ_=>S) λd=>(bG (Ci (λc:(O (AJ×(Y aB)))×AZ=>[Z gC,Z (zE eS e),Z (zE eS f),Z ((mE (eO aG)) c.1),Z ((oE eS) c.2),Z (zE eS b),Z (zE aG vx),Z ((zE (eO eS)) d)]) (Gd (cL (QK (ao 7 (zE (eO eS)) d S) λ_=>S)) (cL (Md (yd (ao 7 (zE (eO eS)) d S)) (ao 3 (nE (eO aG)) a.1 S)))) (bG (HY U 3 a.1 S (Ej (ao 6 (zE aG) vx S)) (yd (ao 7 (zE (eO eS)) d S)) λi=>(bG (Gg 4 a.2 S (yd (ao 7 (zE (eO eS)) d S)) λg=>(bU (bT (i,g) S)))))) (bU (bT (a.1,a.2) S)) λc=>(bU (bT (c.1,c.2) S))))))
def jg(e:O aB)(b:AZ×(O (AJ×(Y aB)))):sZ (AZ×(O (AJ×(Y aB)))) (Y (O aB)):=(let c:=b.1;let d:=c.drop 1;let f:=at' c 0;(let a:(O (AJ×(Y aB)))×AZ:=(e.foldl (λ(a:(O (AJ×(Y aB)))×AZ) (vx:aB)=>(eV f a vx)) (b.2,d));(sZ.nx (a.2,a.1))))
def uq(f:O aB)(a:AZ×(O (AJ×(Y aB)))):Prop:=(((0:Int)=0/\0<a.1.length)/\(let d:=a.1;let e:=d.drop 1;let c:=at' d 0;nC (λ(b:(O (AJ×(Y aB)))×AZ) (vx:aB)=>(eV c b vx)) (λ(b:(O (AJ×(Y aB)))×AZ) (vx:aB)=>Z (jf c b vx)) f (a.2,e)))
theorem U9(c:O aB)(f:Lp gC (c.map aG))(d:AJ)(e:AJ)(a:AZ×(O (AJ×(Y aB)))):RP Gp [Z gC,Z (zE eS d),Z (zE eS e),Z ((mE (eO aG)) a.2),Z ((oE eS) a.1),U,U,U] (cC (λa:AZ×(O (AJ×(Y aB)))=>[Z gC,Z (zE eS d),Z (zE eS e),Z ((mE (eO aG)) a.2),Z ((oE eS) a.1),U,U,U]) (qE aG)) (jg c a ) (Z (uq c a )):=R.tp (bG (WH 5 4 a.1 S (B5 0) λh g=>(bG (J5 0 c (OC f S) (λb:(O (AJ×(Y aB)))×AZ=>[Z gC,Z (zE eS d),Z (zE eS e),Z ((mE (eO aG)) b.1),Z ((oE eS) b.2),Z (zE eS g),U,U]) (a.2,h) S _ (λ_ _=>S) (λ(b:(O (AJ×(Y aB)))×AZ) (vx:aB)=>(U8 c f d e g b vx).r) λb=>(bU (bT (.nx (b.2,b.1)) S))))))
def qp(e:O aB)(b:AJ)(c:AJ):(Y (O aB)):=(let f:=([(b,U)]:(O (AJ×(Y aB))));(let d:=[b];(BQ (Ov (λa:AZ×(O (AJ×(Y aB)))=>(!a.1.isEmpty)) (λa:AZ×(O (AJ×(Y aB)))=>((jg e a):sZ (AZ×(O (AJ×(Y aB)))) (Y (O aB)))) 70 (d,f)) (λr=>r) λa:AZ×(O (AJ×(Y aB)))=>(if(!has a.2 c)=true then U else(Z (jZ a.2 c).reverse)))))
def yM(b:O aB)(e:AJ)(f:AJ):Prop:=(let d:=([(e,U)]:(O (AJ×(Y aB))));(let c:=[e];(De (λa:AZ×(O (AJ×(Y aB)))=>(!a.1.isEmpty)) (λa:AZ×(O (AJ×(Y aB)))=>U) (λa:AZ×(O (AJ×(Y aB)))=>((jg b a):sZ (AZ×(O (AJ×(Y aB)))) (Y (O aB)))) (λa:AZ×(O (AJ×(Y aB)))=>Z (uq b a)) 70 (c,d)/\(vQ (Ov (λa:AZ×(O (AJ×(Y aB)))=>(!a.1.isEmpty)) (λa:AZ×(O (AJ×(Y aB)))=>((jg b a):sZ (AZ×(O (AJ×(Y aB)))) (Y (O aB)))) 70 (c,d)) λa:AZ×(O (AJ×(Y aB)))=>((!has a.2 f)=false->(sO a.2 f))))))
theorem UA(d:O aB)(f:Lp gC (d.map aG))(b:AJ)(c:AJ):RP CK [Z gC,Z (zE eS b),Z (zE eS c),U,U,U,U,U] (λr=>Ap.rt (qE aG r)) (qp d b c) (Z (yM d b c)):=R.tp (bH 3 (iS (ao 1 (zE eS) b S) JR) (λ_=>S) λh=>(bH 4 (rW (j7 (ao 1 (zE eS) b S) (lR eS)) (ZI S)) (λ_=>S) λg=>(YQ 70 (λa:AZ×(O (AJ×(Y aB)))=>[Z gC,Z (zE eS b),Z (zE eS c),Z ((mE (eO aG)) a.2),Z ((oE eS) a.1),U,U,U]) (g,h) S (λa:AZ×(O (AJ×(Y aB)))=>(YC (jh (ao 4 (lE eS) a.1 S)))) (λa:AZ×(O (AJ×(Y aB)))=>((U9 d f b c a).r:R _ _ (cC (λa:AZ×(O (AJ×(Y aB)))=>[Z gC,Z (zE eS b),Z (zE eS c),Z ((mE (eO aG)) a.2),Z ((oE eS) a.1),U,U,U]) (qE aG)))) (λr=>r) (λ_=>S) λa=>(lY (cL (Md (ao 2 (zE eS) c S) (ao 3 (nE (eO aG)) a.2 S))) (bG (cW (λr=>r) (YW (e:=aG)) (λ_=>S) (λv=>by cases v<;>rfl))) (bU (cW (λr=>r) (XT (VO (jG (An Xj (G2 (ao 3 (nE (eO aG)) a.2 S) (cI (ao 2 (zE eS) c S) aX)))))) (λ_=>S) (λv=>by cases v<;>rfl)))))))
theorem eA:∀v bs,(aL aG (aZ eS (aZ eS aN))) v bs->bs.length=3/\(hold (Z (yM v.1 v.2.1 v.2.2.1))->CN (bs.map lend)=Z ((qE aG) (qp v.1 v.2.1 v.2.2.1))):=by
 rintro⟨d,b,a,_⟩ _ ⟨gC,_,rfl,c,⟨_,rfl,⟨_,rfl,rfl⟩⟩⟩;exact⟨rfl,λh=>cg (g:=CK) (n:=8) (bs:=[lend gC,.z (eS b),.z (eS a)]) (UA d (mX c) b a) h⟩
def cR(c:O aB)(b:(O (AJ×AJ)))(d:Unit)(a:cP):sZ (Unit) (Y (O aB)):=(if(decide ((look b a.1)=(look b a.2.1)))=true then(sZ.rt (qp c a.1 a.2.1))else(sZ.nx ()))
def mF(c:O aB)(b:(O (AJ×AJ)))(d:Unit)(a:cP):Prop:=((has b a.1=true/\has b a.2.1=true)/\((decide ((look b a.1)=(look b a.2.1)))=true->(yM c a.1 a.2.1)))
theorem Hf(h:cT)(i:O aB)(j:Lp b_1 (i.map aG))(f:AZ)(e:O aB)(g:O cP)(c:O aB)(b:(O (AJ×AJ)))(d:Unit)(a:cP):RP wU [Z (zE bA h),Z b_1,Z ((zE (eT eS)) f),Z ((zE (eT aG)) e),Z ((zE (eT bV)) g),Z (oE aG c),Z (mE eS b),Z (zE bV a)] (cC (λd:Unit=>[Z (zE bA h),Z b_1,Z ((zE (eT eS)) f),Z ((zE (eT aG)) e),Z ((zE (eT bV)) g),Z (oE aG c),Z (mE eS b),U]) (qE aG)) (cR c b d a) (Z (mF c b d a)):=R.tp (bG (lY (cL (BH (by decide) (dB (ao 6 (nE eS) b S) (cV (ao 7 (zE bV) a S) (λq=>q.1) eS 0 λ_=>S)) (dB (ao 6 (nE eS) b S) (cV (ao 7 (zE bV) a S) (λq=>q.2.1) eS 1 λ_=>S)))) (bG (cW .rt (An eA (nj (jh (ao 5 (lE aG) c S)) (cI (cV (ao 7 (zE bV) a S) (λq=>q.1) eS 0 λ_=>S) (cI (cV (ao 7 (zE bV) a S) (λq=>q.2.1) eS 1 λ_=>S) aX)))) (λ_=>S) (λv=>by cases v<;>rfl))) (bU (bU (bT (.nx ()) S)))))
def fD(f:cT)(c:O aB):(Y (O aB)):=(let q1:=f;(let a:=((q1.2.1.filter λvx:aB=>(!qx vx c)).map λvx:aB=>vx);(let e:=(d7 q1.1 a);(BQ (uH (λ(b:Unit) (d:cP)=>((cR a e b d):sZ (Unit) (Y (O aB)))) q1.2.2 ()) (λr=>r) λb:Unit=>U))))
def lN(f:cT)(e:O aB):Prop:=(let q1:=f;(q1.2.1.length<=100000/\(let c:=((q1.2.1.filter λvx:aB=>(!qx vx e)).map λvx:aB=>vx);((jr q1.1 c)/\(let d:=(d7 q1.1 c);(Gh (λ(a:Unit) (b:cP)=>((cR c d a b):sZ (Unit) (Y (O aB)))) (λ(a:Unit) (b:cP)=>Z (mF c d a b)) q1.2.2 ()/\(vQ (uH (λ(a:Unit) (b:cP)=>((cR c d a b):sZ (Unit) (Y (O aB)))) q1.2.2 ()) λa:Unit=>True)))))))
theorem Ro(a:cT)(b:O aB)(g:Lp b_1 (b.map aG)):RP qZ [Z (zE bA a),Z b_1,U,U,U,U,U,U] (λr=>Ap.rt (qE aG r)) (fD a b) (Z (lN a b)):=R.tp (zQ (ao 0 (zE bA) a S) _ (λ_=>S) λq1=>(bH 5 (u0 (vP (ao 3 (zE (eT aG)) q1.2.1 S)) _ (λ_=>S) (λvx:aB=>(cL (W4 (by decide) (ao 1 (zE aG) vx S) (fM 0 aG b g (congrArg Z (g.get S)))))) (λvx:aB=>(ao 1 (zE aG) vx S)) (λ_=>S) λ_=>S) (λ_=>S) λc=>(bH 6 (An Dg (cI (ao 2 (zE (eT eS)) q1.1 S) (nj (jh (ao 5 (lE aG) c S)) aX))) (λ_=>S) λf=>(YK 4 q1.2.2 (QS S) (λd:Unit=>[Z (zE bA a),Z b_1,Z ((zE (eT eS)) q1.1),Z ((zE (eT aG)) q1.2.1),Z ((zE (eT bV)) q1.2.2),Z (oE aG c),Z (mE eS f),U]) () S _ (λ_ _=>S) (λ(d:Unit) (h:cP)=>((Hf a b g q1.1 q1.2.1 q1.2.2 c f d h).r:R _ _ (cC (λd:Unit=>[Z (zE bA a),Z b_1,Z ((zE (eT eS)) q1.1),Z ((zE (eT aG)) q1.2.1),Z ((zE (eT bV)) q1.2.2),Z (oE aG c),Z (mE eS f),U]) (qE aG)))) (λr=>r) (λ_=>S) λd=>(cW (λr=>r) (YW (e:=aG)) (λ_=>S) (λv=>by cases v<;>rfl))))))
theorem Rp:∀v bs,(aZ bA (aL aG aN)) v bs->bs.length=2/\(hold (Z (lN v.1 v.2.1))->nH (bs.map lend)=Z ((qE aG) (fD v.1 v.2.1))):=by
 rintro⟨a,b,_⟩ _ ⟨_,rfl,⟨b_1,_,rfl,c,rfl⟩⟩;exact⟨rfl,λh=>cg (g:=qZ) (n:=8) (bs:=[.z (bA a),lend b_1]) (Ro a b (mX c)) h⟩
def aO:Nat->cT->(O aB)->(Y (O aB))->Int->(Y (O aB))
 |0,_,_,_,_=>default
 |n+1,vz,Ez,oA,a=>(if(decide (a<=(f9 (oA.getD default))))=true then U else(let e:=(fD vz (oA.getD default));(if e.isNone=true then oA else(let b:=(((e.getD []).filter λvx:aB=>(!qx vx Ez)).map λvx:aB=>vx);(if(!(!b.isEmpty))=true then U else(let c:=(aO n vz Ez (Z ((oA.getD default)++(BE b U (Z 1)))) a);(let a:Int:=(if c.isSome=true then(let a:=(f9 (c.getD default));a)else a);(let d:=(aO n vz (Ez++(BE b U (Z 1))) oA a);(if d.isNone=true then c else d)))))))))
def cj:Nat->cT->(O aB)->(Y (O aB))->Int->Prop
 |0,_,_,_,_=>False
 |n+1,vz,Ez,oA,a=>((oA.isSome=true/\(gj (oA.getD default)))/\((decide (a<=(f9 (oA.getD default))))=false->((oA.isSome=true/\(lN vz (oA.getD default)))/\(let d:=(fD vz (oA.getD default));(d.isNone=false->((d.isSome=true/\(d.getD []).length<=100000)/\(let b:=(((d.getD []).filter λvx:aB=>(!qx vx Ez)).map λvx:aB=>vx);((!(!b.isEmpty))=false->(((oA.isSome=true/\Ek ((oA.getD default).length+(BE b U (Z 1)).length))/\(cj n vz Ez (Z ((oA.getD default)++(BE b U (Z 1)))) a))/\(let c:=(aO n vz Ez (Z ((oA.getD default)++(BE b U (Z 1)))) a);((c.isSome=true->(c.isSome=true/\(gj (c.getD default))))/\(let a:Int:=(if c.isSome=true then(let a:=(f9 (c.getD default));a)else a);(Ek (Ez.length+(BE b U (Z 1)).length)/\(cj n vz (Ez++(BE b U (Z 1))) oA a))))))))))))))
def sU(n:Nat)(i:∀v bs,(aZ bA (aL aG (aZ (eO (eL aG)) (aZ eI aN)))) v bs->bs.length=4/\(hold (Z (cj n v.1 v.2.1 v.2.2.1 v.2.2.2.1))->dJ n (bs.map lend)=Z ((zE (eO (eL aG))) (aO n v.1 v.2.1 v.2.2.1 v.2.2.2.1))))(c:cT)(d:O aB)(f:Lp b_1 (d.map aG))(b:(Y (O aB)))(a:Int):R (nJ (dJ n)) [Z (zE bA c),Z b_1,Z ((zE (eO (eL aG))) b),Z (zE eI a),U,U,U,U] (λr=>Ap.rt ((zE (eO (eL aG))) r)):=(lY (cL (FR (An uO (nj (Ah (yd (ao 2 (zE (eO (eL aG))) b S))) aX)) (ao 3 (zE eI) a S))) (bG (cW (λr=>r) JR (λ_=>S) λ_=>S)) (bU (bH 4 (An Rp (cI (ao 0 (zE bA) c S) (nj (Ah (yd (ao 2 (zE (eO (eL aG))) b S))) aX))) (λv=>by cases v<;>rfl) λh=>(lY (cL (Pc (Os 4 aG h S))) (bG (cW (λr=>r) (ao 2 (zE (eO (eL aG))) b S) (λ_=>S) λ_=>S)) (bU (bH 5 (u0 (LC (jh (Y' (Os 4 aG h S)))) _ (λ_=>S) (λvx:aB=>(cL (W4 (by decide) (ao 1 (zE aG) vx S) (fM 0 aG d f (congrArg Z (f.get S)))))) (λvx:aB=>(ao 1 (zE aG) vx S)) (λ_=>S) λ_=>S) (λ_=>S) λe=>(lY (HL (YC (jh (ao 5 (lE aG) e S)))) (bG (cW (λr=>r) JR (λ_=>S) λ_=>S)) (bU (bH 6 (An i (cI (ao 0 (zE bA) c S) (nj (fM 1 aG d f S) (cI (Ej (QH (WY (Ah (yd (ao 2 (zE (eO (eL aG))) b S))) (jG (F7 (jh (ao 5 (lE aG) e S)) JX (JZ (B5 1))))))) (cI (ao 3 (zE eI) a S) aX))))) (λ_=>S) λg=>(Ci (λa:Int=>[Z (zE bA c),Z b_1,Z ((zE (eO (eL aG))) b),Z (zE eI a),Z (qE aG h),Z (oE aG e),Z ((zE (eO (eL aG))) g),U]) (cL (QK (ao 6 (zE (eO (eL aG))) g S) λ_=>S)) (bG (bH 3 (An uO (nj (Ah (yd (ao 6 (zE (eO (eL aG))) g S))) aX)) (λ_=>S) λa=>(bU (bT a S)))) (bU (bT a S)) λa=>(bH 7 (An i (cI (ao 0 (zE bA) c S) (nj (Ah (QH (WY (fM 1 aG d f S) (jG (F7 (jh (ao 5 (lE aG) e S)) JX (JZ (B5 1))))))) (cI (ao 2 (zE (eO (eL aG))) b S) (cI (ao 3 (zE eI) a S) aX))))) (λ_=>S) λj=>(cW (λr=>r) (oJ (aI (cL (MB (ao 7 (zE (eO (eL aG))) j S) λ_=>S)) (ao 6 (zE (eO (eL aG))) g S) (ao 7 (zE (eO (eL aG))) j S))) (λ_=>S) λ_=>S))))))))))))
theorem Hg(n:Nat)(e:∀v bs,(aZ bA (aL aG (aZ (eO (eL aG)) (aZ eI aN)))) v bs->bs.length=4/\(hold (Z (cj n v.1 v.2.1 v.2.2.1 v.2.2.2.1))->dJ n (bs.map lend)=Z ((zE (eO (eL aG))) (aO n v.1 v.2.1 v.2.2.1 v.2.2.2.1))))(c:cT)(a:O aB)(f:Lp b_1 (a.map aG))(b:(Y (O aB)))(d:Int):(sU n e c a f b d).v=aO (n+1) c a b d:=by kernel_rfl
theorem Hh(n:Nat)(e:∀v bs,(aZ bA (aL aG (aZ (eO (eL aG)) (aZ eI aN)))) v bs->bs.length=4/\(hold (Z (cj n v.1 v.2.1 v.2.2.1 v.2.2.2.1))->dJ n (bs.map lend)=Z ((zE (eO (eL aG))) (aO n v.1 v.2.1 v.2.2.1 v.2.2.2.1))))(c:cT)(a:O aB)(f:Lp b_1 (a.map aG))(b:(Y (O aB)))(d:Int):(sU n e c a f b d).D=Z (cj (n+1) c a b d):=by kernel_rfl
theorem nU:∀(n:Nat),∀v bs,(aZ bA (aL aG (aZ (eO (eL aG)) (aZ eI aN)))) v bs->bs.length=4/\(hold (Z (cj n v.1 v.2.1 v.2.2.1 v.2.2.2.1))->dJ n (bs.map lend)=Z ((zE (eO (eL aG))) (aO n v.1 v.2.1 v.2.2.1 v.2.2.2.1)))
 |0=>by
  rintro⟨b,d,a,c,_⟩ _ ⟨_,rfl,⟨b_1,_,rfl,e,⟨_,rfl,⟨_,rfl,rfl⟩⟩⟩⟩;exact⟨rfl,λh=>absurd h id⟩
 |n+1=>by
  rintro⟨b,d,a,c,_⟩ _ ⟨_,rfl,⟨b_1,_,rfl,e,⟨_,rfl,⟨_,rfl,rfl⟩⟩⟩⟩;exact⟨rfl,λh=>(MI (g:=nJ (dJ n)) (n:=8) (bs:=[.z (bA b),lend b_1,.z ((eO (eL aG)) a),.z (eI c)]) (sU n (nU n) b d (mX e) a c) ((congrArg hold (Hh n (nU n) b d (mX e) a c)).mpr h)).trans (congrArg (λr=>Z ((zE (eO (eL aG))) r)) (Hg n (nU n) b d (mX e) a c))⟩
def nW(a:AZ)(b:O aB):(O AZ):=(fB (d7 a b))
def nY(a:AZ)(b:O aB):Prop:=((jr a b)/\(jq (d7 a b)))
theorem Rq(a:AZ)(b:O aB)(c:Lp b_1 (b.map aG)):RP oZ [Z ((zE (eT eS)) a),Z b_1] (λr=>Ap.rt ((oE (eT eS)) r)) (nW a b) (Z (nY a b)):=R.tp (cW (λr=>r) (An wK (N2 (An Dg (cI (ao 0 (zE (eT eS)) a S) (nj (fM 1 aG b c S) aX))) aX)) (λ_=>S) λ_=>S)
theorem Di:∀v bs,(aZ (eT eS) (aL aG aN)) v bs->bs.length=2/\(hold (Z (nY v.1 v.2.1))->jk (bs.map lend)=Z ((oE (eT eS)) (nW v.1 v.2.1))):=by
 rintro⟨a,c,_⟩ _ ⟨_,rfl,⟨b_1,_,rfl,b,rfl⟩⟩;exact⟨rfl,λh=>cg (g:=oZ) (n:=2) (bs:=[.z (eT eS a),lend b_1]) (Rq a c (mX b)) h⟩
def dW(a:cT):(O AZ):=(let q1:=a;(let b:=(aO fuel a [] (Z []) ((je q1.2.1)+1));(nW q1.1 ((q1.2.1.filter λvx:aB=>(!qx vx (b.getD default))).map λvx:aB=>vx))))
def qt(a:cT):Prop:=(let q1:=a;(((ni q1.2.1)/\(cj fuel a [] (Z []) ((je q1.2.1)+1)))/\(let b:=(aO fuel a [] (Z []) ((je q1.2.1)+1));((q1.2.1.length<=100000/\(∀vx∈q1.2.1,b.isSome=true))/\(nY q1.1 ((q1.2.1.filter λvx:aB=>(!qx vx (b.getD default))).map λvx:aB=>vx))))))
theorem Va(a:cT):RP ud [Z (zE bA a),U,U,U,U] (λr=>Ap.rt ((oE (eT eS)) r)) (dW a) (Z (qt a)):=R.tp (zQ (ao 0 (zE bA) a S) _ (λ_=>S) λq1=>(bH 4 (An (nU fuel) (cI (ao 0 (zE bA) a S) (nj (Ah (QH (rW (lR aG) (ZI S)))) (cI (Ej (QH (rW (lR aG) (ZI S)))) (cI (oJ (lQ (An Gs (cI (ao 2 (zE (eT aG)) q1.2.1 S) aX)) (B5 1))) aX))))) (λ_=>S) λb=>(cW (λr=>r) (An Di (cI (ao 1 (zE (eT eS)) q1.1 S) (nj (Ah (QH (zc (vP (ao 2 (zE (eT aG)) q1.2.1 S)) _ (λ_=>S) (λvx:aB=>(cL (W4 (by decide) (ao 1 (zE aG) vx S) (Ah (yd (ao 0 (zE (eO (eL aG))) b S)))))) (λvx:aB=>(ao 1 (zE aG) vx S))))) aX))) (λ_=>S) λ_=>S)))
theorem Vb:∀v bs,(aZ bA aN) v bs->bs.length=1/\(hold (Z (qt v.1))->uf (bs.map lend)=Z ((oE (eT eS)) (dW v.1))):=by
 rintro⟨a,_⟩ _ ⟨_,rfl,rfl⟩;exact⟨rfl,λh=>cg (g:=ud) (n:=5) (bs:=[.z (bA a)]) (Va a) h⟩
def gM(a:O AZ):(O (AJ×Int)):=(EE ((yq a).flatMap λq1:IT=>(q1.2.map λvs:AJ=>(vs,q1.1))))
def sV(a:O AZ):Prop:=((∀q1∈(yq a),(∀vs∈q1.2,True))/\((yq a).flatMap λq1:IT=>(q1.2.map λvs:AJ=>(vs,q1.1))).length<1000)
theorem Xk(a:O AZ)(b:Lp gC (a.map (eT eS))):RP vZ [Z gC] (λr=>Ap.rt (mE eI r)) (gM a) (Z (sV a)):=R.tp (cW (λr=>r) (di (Mm (SI (fM 0 (eT eS) a b S)) _ (λ_=>S) (λq1:IT=>(LV (WB (ao 1 (zE (eT eS)) q1.2 S)) _ (λ_=>S) (λvs:AJ=>(YM (ao 2 (zE eS) vs S) (ao 0 (zE eI) q1.1 S))))))) (λ_=>S) λ_=>S)
theorem K3:∀v bs,(aL (eT eS) aN) v bs->bs.length=1/\(hold (Z (sV v.1))->o7 (bs.map lend)=Z ((mE eI) (gM v.1))):=by
 rintro⟨b,_⟩ _ ⟨gC,_,rfl,a,rfl⟩;exact⟨rfl,λh=>cg (g:=vZ) (n:=1) (bs:=[lend gC]) (Xk b (mX a)) h⟩
def cU(b:O AZ)(c:O aB):(O aB):=(let a:=(gM b);((c.filter λvx:aB=>(decide ((look a vx.2.1)=(look a vx.2.2.1)))).map λvx:aB=>vx))
def iW(a:O AZ)(b:O aB):Prop:=((sV a)/\(let c:=(gM a);(b.length<=100000/\(∀vx∈b,(has c vx.2.1=true/\has c vx.2.2.1=true)))))
theorem EY(b:O AZ)(d:Lp gC (b.map (eT eS)))(a:O aB):RP kO [Z gC,Z ((zE (eT aG)) a),U] (λr=>Ap.rt (oE aG r)) (cU b a) (Z (iW b a)):=R.tp (bH 2 (An K3 (nj (fM 0 (eT eS) b d S) aX)) (λ_=>S) λc=>(cW (λr=>r) (zc (vP (ao 1 (zE (eT aG)) a S)) _ (λ_=>S) (λvx:aB=>(cL (BH (by decide) (dB (ao 0 (nE eI) c S) (cV (ao 1 (zE aG) vx S) (λq=>q.2.1) eS 1 λ_=>S)) (dB (ao 0 (nE eI) c S) (cV (ao 1 (zE aG) vx S) (λq=>q.2.2.1) eS 2 λ_=>S))))) (λvx:aB=>(ao 1 (zE aG) vx S))) (λ_=>S) λ_=>S))
theorem vG:∀v bs,(aL (eT eS) (aZ (eT aG) aN)) v bs->bs.length=2/\(hold (Z (iW v.1 v.2.1))->gq (bs.map lend)=Z ((oE aG) (cU v.1 v.2.1))):=by
 rintro⟨c,a,_⟩ _ ⟨gC,_,rfl,b,⟨_,rfl,rfl⟩⟩;exact⟨rfl,λh=>cg (g:=kO) (n:=3) (bs:=[lend gC,.z (eT aG a)]) (EY c (mX b) a) h⟩
def rJ(a:Unit)(b:cT):Unit:=()
def Dj(b:Unit)(a:cT):Prop:=(pG a)
theorem Rr(c:cT)(d:O cT)(b:Unit)(a:cT):RP CP [Z (zE bA c),Z (lE bA d),Z (zE bA a),U,U] (λs=>Ap.nx ((λb:Unit=>[Z (zE bA c),Z (lE bA d),U,U,U]) s)) (rJ  b a) (Z (Dj  b a)):=R.tp (bG (TC (An Ey (cI (ao 2 (zE bA) a S) aX)) (bU (bT () S))))
def bO(a:cT):Uk:=(let f:=(iV a);(let d:Unit:=(f.foldl (λ(d:Unit) (b:cT)=>(rJ  d b)) ());(let c:=(nD (f.flatMap λb:cT=>((dW b).map λg:AZ=>g)));(let e:=(f9 (cU c a.2.1));(c,e,((je a.2.1)-e))))))
def d8(e:cT):Prop:=((sJ e)/\(let c:=(iV e);(nC (λ(d:Unit) (a:cT)=>(rJ  d a)) (λ(d:Unit) (a:cT)=>Z (Dj  d a)) c ()/\(let d:Unit:=(c.foldl (λ(d:Unit) (a:cT)=>(rJ  d a)) ());((((∀a∈c,((qt a)/\(∀b∈(dW a),True)))/\(c.flatMap λa:cT=>((dW a).map λb:AZ=>b)).length<=100000)/\((c.flatMap λa:cT=>((dW a).map λb:AZ=>b)).length<64/\∀x∈(c.flatMap λa:cT=>((dW a).map λb:AZ=>b)),x.isEmpty=false))/\(let f:=(nD (c.flatMap λa:cT=>((dW a).map λb:AZ=>b)));(((iW f e.2.1)/\(gj (cU f e.2.1)))/\(let g:=(f9 (cU f e.2.1));(ni e.2.1)))))))))
theorem f7(a:cT):RP zf [Z (zE bA a),U,U,U,U] (λr=>Ap.rt (zE oW r)) (bO a) (Z (d8 a)):=R.tp (bH 1 (An KZ (cI (ao 0 (zE bA) a S) aX)) (λ_=>S) λb=>(J5 1 b (Sr S) (λe:Unit=>[Z (zE bA a),Z (lE bA b),U,U,U]) () S _ (λ_ _=>S) (λ(e:Unit) (c:cT)=>(Rr a b e c).r) λe=>(bH 3 (QT (jG (SY (Mm (LC (jh (ao 1 (lE bA) b S))) _ (λ_=>S) (λc:cT=>(LV (IN (An Vb (cI (ao 0 (zE bA) c S) aX))) _ (λ_=>S) (λg:AZ=>(ao 1 (zE (eT eS)) g S)))))))) (λ_=>S) λd=>(bH 4 (An uO (nj (Ah (QH (An vG (nj (jh (ao 3 (lE (eT eS)) d S)) (cI (cV (ao 0 (zE bA) a S) (λq=>q.2.1) (eT aG) 1 λ_=>S) aX))))) aX)) (λ_=>S) λf=>(HV 3 [Z (zE bA a),Z (lE bA b),U,Z ((zE (eL (eT eS))) d),Z (zE eI f)] S (cW (λr=>r) (mK (ao 3 (zE (eL (eT eS))) d S) (ao 4 (zE eI) f S) (Oo (An Gs (cI (cV (ao 0 (zE bA) a S) (λq=>q.2.1) (eT aG) 1 λ_=>S) aX)) (ao 4 (zE eI) f S))) (λ_=>S) λ_=>S))))))
theorem pH:∀v bs,(aZ bA aN) v bs->bs.length=1/\(hold (Z (d8 v.1))->iQ (bs.map lend)=Z ((zE oW) (bO v.1))):=by
 rintro⟨a,_⟩ _ ⟨_,rfl,rfl⟩;exact⟨rfl,λh=>cg (g:=zf) (n:=5) (bs:=[.z (bA a)]) (f7 a) h⟩
def gB(b:(O (AJ×AJ)))(d:AJ)(c:AJ)(e:Unit)(a:cP):sZ (Unit) (Y cP):=(if(((decide ((look b a.1)=d))&&(decide ((look b a.2.1)=c)))||((decide ((look b a.1)=c))&&(decide ((look b a.2.1)=d))))=true then(sZ.rt (Z a))else(sZ.nx ()))
def vH(b:(O (AJ×AJ)))(d:AJ)(c:AJ)(e:Unit)(a:cP):Prop:=((has b a.1=true/\((decide ((look b a.1)=d))=true->has b a.2.1=true))/\(((decide ((look b a.1)=d))&&(decide ((look b a.2.1)=c)))=false->(has b a.1=true/\((decide ((look b a.1)=c))=true->has b a.2.1=true))))
theorem Fd(f:O cP)(b:(O (AJ×AJ)))(d:AJ)(c:AJ)(e:Unit)(a:cP):RP vB [Z ((zE (eT bV)) f),Z (nE eS b),Z (zE eS d),Z (zE eS c),Z (zE bV a)] (cC (λe:Unit=>[Z ((zE (eT bV)) f),Z (nE eS b),Z (zE eS d),Z (zE eS c),U]) (zE (eO bV))) (gB b d c e a) (Z (vH b d c e a)):=R.tp (bG (lY (EX (Gd (cL (BH (by decide) (dB (ao 1 (nE eS) b S) (cV (ao 4 (zE bV) a S) (λq=>q.1) eS 0 λ_=>S)) (ao 2 (zE eS) d S))) (cL (BH (by decide) (dB (ao 1 (nE eS) b S) (cV (ao 4 (zE bV) a S) (λq=>q.2.1) eS 1 λ_=>S)) (ao 3 (zE eS) c S)))) (Gd (cL (BH (by decide) (dB (ao 1 (nE eS) b S) (cV (ao 4 (zE bV) a S) (λq=>q.1) eS 0 λ_=>S)) (ao 3 (zE eS) c S))) (cL (BH (by decide) (dB (ao 1 (nE eS) b S) (cV (ao 4 (zE bV) a S) (λq=>q.2.1) eS 1 λ_=>S)) (ao 2 (zE eS) d S))))) (bG (cW .rt (Ej (ao 4 (zE bV) a S)) (λ_=>S) λ_=>S)) (bU (bU (bT (.nx ()) S)))))
def jD(d:O cP)(c:(O (AJ×AJ)))(f:AJ)(e:AJ):(Y cP):=(BQ (uH (λ(a:Unit) (b:cP)=>((gB c f e a b):sZ (Unit) (Y cP))) d ()) (λr=>r) λa:Unit=>U)
def qd(f:O cP)(c:(O (AJ×AJ)))(e:AJ)(d:AJ):Prop:=(Gh (λ(a:Unit) (b:cP)=>((gB c e d a b):sZ (Unit) (Y cP))) (λ(a:Unit) (b:cP)=>Z (vH c e d a b)) f ()/\(vQ (uH (λ(a:Unit) (b:cP)=>((gB c e d a b):sZ (Unit) (Y cP))) f ()) λa:Unit=>True))
theorem M5(a:O cP)(b:(O (AJ×AJ)))(d:AJ)(c:AJ):RP pR [Z ((zE (eT bV)) a),Z (nE eS b),Z (zE eS d),Z (zE eS c),U] (λr=>Ap.rt ((zE (eO bV)) r)) (jD a b d c) (Z (qd a b d c)):=R.tp (YK 0 a (QS S) (λe:Unit=>[Z ((zE (eT bV)) a),Z (nE eS b),Z (zE eS d),Z (zE eS c),U]) () S _ (λ_ _=>S) (λ(e:Unit) (f:cP)=>((Fd a b d c e f).r:R _ _ (cC (λe:Unit=>[Z ((zE (eT bV)) a),Z (nE eS b),Z (zE eS d),Z (zE eS c),U]) (zE (eO bV))))) (λr=>r) (λ_=>S) λe=>(cW (λr=>r) JR (λ_=>S) λ_=>S))
theorem M6:∀v bs,(aZ (eT bV) (aM eS (aZ eS (aZ eS aN)))) v bs->bs.length=4/\(hold (Z (qd v.1 v.2.1 v.2.2.1 v.2.2.2.1))->pU (bs.map lend)=Z ((zE (eO bV)) (jD v.1 v.2.1 v.2.2.1 v.2.2.2.1))):=by
 rintro⟨b,a,d,c,_⟩ _ ⟨_,rfl,⟨_,_,rfl,(rfl|rfl),⟨_,rfl,⟨_,rfl,rfl⟩⟩⟩⟩
 all_goals exact⟨rfl,λh=>cg (g:=pR) (n:=5) (bs:=[.z (eT bV b),nE eS a,.z (eS d),.z (eS c)]) (M5 b a d c) h⟩
def bW(i:O cP)(a:(O (AJ×AJ))×(O aB)×(O tu))(vx:aB):(O (AJ×AJ))×(O aB)×(O tu):=(let e:=(look a.1 vx.2.1);(let d:=(look a.1 vx.2.2.1);(let c:(O (AJ×AJ))×(O aB)×(O tu):=(if(!decide (e=d))=true then(let f:=(jD i a.1 e d);(let b:(O (AJ×AJ))×(O aB)×(O tu):=(if f.isNone=true then(let g:=(jo a.1 e d);(let j:=a.2.1++[vx];(g,j,a.2.2)))else(let h:=a.2.2++[(vx,f)];(a.1,a.2.1,h)));(b.1,b.2.1,b.2.2)))else(a.1,a.2.1,a.2.2));(c.1,c.2.1,c.2.2))))
def mG(e:O cP)(a:(O (AJ×AJ))×(O aB)×(O tu))(vx:aB):Prop:=(has a.1 vx.2.1=true/\(let c:=(look a.1 vx.2.1);(has a.1 vx.2.2.1=true/\(let b:=(look a.1 vx.2.2.1);((!decide (c=b))=true->((qd e a.1 c b)/\(let d:=(jD e a.1 c b);((d.isNone=true->((lM a.1 c b)/\(let f:=(jo a.1 c b);Ek a.2.1.length)))/\(d.isNone=false->Ek a.2.2.length)))))))))
theorem Hi(h:cT)(i:AZ)(g:O aB)(d:O cP)(a:(O (AJ×AJ))×(O aB)×(O tu))(vx:aB):RP wV [Z (zE bA h),Z ((zE (eT eS)) i),Z ((zE (eT aG)) g),Z ((zE (eT bV)) d),Z ((mE eS) a.1),Z ((oE aG) a.2.1),Z ((oE LQ) a.2.2),Z (zE aG vx),U,U,U] (λs=>Ap.nx ((λa:(O (AJ×AJ))×(O aB)×(O tu)=>[Z (zE bA h),Z ((zE (eT eS)) i),Z ((zE (eT aG)) g),Z ((zE (eT bV)) d),Z ((mE eS) a.1),Z ((oE aG) a.2.1),Z ((oE LQ) a.2.2),U,U,U,U]) s)) (bW d a vx) (Z (mG d a vx)):=R.tp (bG (bH 8 (dB (ao 4 (nE eS) a.1 S) (cV (ao 7 (zE aG) vx S) (λq=>q.2.1) eS 1 λ_=>S)) (λ_=>S) λf=>(bG (bH 9 (dB (ao 4 (nE eS) a.1 S) (cV (ao 7 (zE aG) vx S) (λq=>q.2.2.1) eS 2 λ_=>S)) (λ_=>S) λe=>(bG (Ci (λc:(O (AJ×AJ))×(O aB)×(O tu)=>[Z (zE bA h),Z ((zE (eT eS)) i),Z ((zE (eT aG)) g),Z ((zE (eT bV)) d),Z ((mE eS) c.1),Z ((oE aG) c.2.1),Z ((oE LQ) c.2.2),Z (zE aG vx),Z (zE eS f),Z (zE eS e),U]) (cL (Lz (by decide) (ao 8 (zE eS) f S) (ao 9 (zE eS) e S))) (bG (bH 10 (An M6 (cI (ao 3 (zE (eT bV)) d S) (G2 (ao 4 (nE eS) a.1 S) (cI (ao 8 (zE eS) f S) (cI (ao 9 (zE eS) e S) aX))))) (λ_=>S) λj=>(bG (Ci (λb:(O (AJ×AJ))×(O aB)×(O tu)=>[Z (zE bA h),Z ((zE (eT eS)) i),Z ((zE (eT aG)) g),Z ((zE (eT bV)) d),Z ((mE eS) b.1),Z ((oE aG) b.2.1),Z ((oE LQ) b.2.2),Z (zE aG vx),Z (zE eS f),Z (zE eS e),Z ((zE (eO bV)) j)]) (cL (MB (ao 10 (zE (eO bV)) j S) λ_=>S)) (bG (W3 U 4 a.1 S wI (cI (ao 8 (zE eS) f S) (cI (ao 9 (zE eS) e S) aX)) λl=>(bG (Gg 5 a.2.1 S (ao 7 (zE aG) vx S) λn=>(bU (bT (l,n,a.2.2) S)))))) (bG (Gg 6 a.2.2 S (cK (ao 7 (zE aG) vx S) (ao 10 (zE (eO bV)) j S)) λm=>(bU (bT (a.1,a.2.1,m) S)))) λb=>(bU (bT (b.1,b.2.1,b.2.2) S)))))) (bU (bT (a.1,a.2.1,a.2.2) S)) λc=>(bU (bT (c.1,c.2.1,c.2.2) S))))))))
def fV(d:cT):NC:=(let q1:=d;(let b:=(bQ q1.1);(let e:=([]:O aB);(let c:=([]:O tu);(let a:(O (AJ×AJ))×(O aB)×(O tu):=(q1.2.1.foldl (λ(a:(O (AJ×AJ))×(O aB)×(O tu)) (vx:aB)=>(bW q1.2.2 a vx)) (b,e,c));((fB a.1),a.2.1,a.2.2))))))
def nZ(e:cT):Prop:=(let q1:=e;((lK q1.1)/\(let b:=(bQ q1.1);(let d:=([]:O aB);(let c:=([]:O tu);(nC (λ(a:(O (AJ×AJ))×(O aB)×(O tu)) (vx:aB)=>(bW q1.2.2 a vx)) (λ(a:(O (AJ×AJ))×(O aB)×(O tu)) (vx:aB)=>Z (mG q1.2.2 a vx)) q1.2.1 (b,d,c)/\(let a:(O (AJ×AJ))×(O aB)×(O tu):=(q1.2.1.foldl (λ(a:(O (AJ×AJ))×(O aB)×(O tu)) (vx:aB)=>(bW q1.2.2 a vx)) (b,d,c));(jq a.1))))))))
theorem Rt(b:cT):RP q8 [Z (zE bA b),U,U,U,U,U,U,U,U,U,U] (λr=>Ap.rt (zE OW r)) (fV b) (Z (nZ b)):=R.tp (zQ (ao 0 (zE bA) b S) _ (λ_=>S) λq1=>(bH 4 (An wG (cI (ao 1 (zE (eT eS)) q1.1 S) aX)) (λ_=>S) λc=>(bH 5 (rW (lR aG) (ZI S)) (λ_=>S) λe=>(bH 6 (rW (lR LQ) (ZI S)) (λ_=>S) λd=>(J5 2 q1.2.1 (QS S) (λa:(O (AJ×AJ))×(O aB)×(O tu)=>[Z (zE bA b),Z ((zE (eT eS)) q1.1),Z ((zE (eT aG)) q1.2.1),Z ((zE (eT bV)) q1.2.2),Z ((mE eS) a.1),Z ((oE aG) a.2.1),Z ((oE LQ) a.2.2),U,U,U,U]) (c,e,d) S _ (λ_ _=>S) (λ(a:(O (AJ×AJ))×(O aB)×(O tu)) (vx:aB)=>(Hi b q1.1 q1.2.1 q1.2.2 a vx).r) λa=>(HV 5 [Z (zE bA b),Z ((zE (eT eS)) q1.1),Z ((zE (eT aG)) q1.2.1),Z ((zE (eT bV)) q1.2.2),Z ((mE eS) a.1),Z ((zE (eL aG)) a.2.1),Z ((oE LQ) a.2.2),U,U,U,U] S (HV 6 [Z (zE bA b),Z ((zE (eT eS)) q1.1),Z ((zE (eT aG)) q1.2.1),Z ((zE (eT bV)) q1.2.2),Z ((mE eS) a.1),Z ((zE (eL aG)) a.2.1),Z ((zE (eL LQ)) a.2.2),U,U,U,U] S (cW (λr=>r) (mK (QH (An wK (G2 (ao 4 (nE eS) a.1 S) aX))) (ao 5 (zE (eL aG)) a.2.1 S) (ao 6 (zE (eL LQ)) a.2.2 S)) (λ_=>S) λ_=>S))))))))
theorem Ru:∀v bs,(aZ bA aN) v bs->bs.length=1/\(hold (Z (nZ v.1))->q9 (bs.map lend)=Z ((zE OW) (fV v.1))):=by
 rintro⟨a,_⟩ _ ⟨_,rfl,rfl⟩;exact⟨rfl,λh=>cg (g:=q8) (n:=11) (bs:=[.z (bA a)]) (Rt a) h⟩
def cF(b:AZ)(val:O aB):(O aB):=((val.filter λa:aB=>((decide (a.2.1∈b))&&(decide (a.2.2.1∈b)))).map λa:aB=>a)
def wN(a:AZ)(val:O aB):Prop:=val.length<=100000
theorem Rv(a:AZ)(val:O aB):RP rz [Z ((zE (eT eS)) a),Z ((zE (eT aG)) val)] (λr=>Ap.rt (oE aG r)) (cF a val) (Z (wN a val)):=R.tp (cW (λr=>r) (u0 (vP (ao 1 (zE (eT aG)) val S)) _ (λ_=>S) (λb:aB=>(Gd (cL (Oq (LL (ao 1 (zE aG) b S) (λq=>q.2.1) eS 3 λ_=>S) (ao 0 (zE (eT eS)) a S))) (cL (Oq (LL (ao 1 (zE aG) b S) (λq=>q.2.2.1) eS 2 λ_=>S) (ao 0 (zE (eT eS)) a S))))) (λb:aB=>(ao 1 (zE aG) b S)) (λ_=>S) λ_=>S) (λ_=>S) λ_=>S)
theorem Rw:∀v bs,(aZ (eT eS) (aZ (eT aG) aN)) v bs->bs.length=2/\(hold (Z (wN v.1 v.2.1))->rA (bs.map lend)=Z ((oE aG) (cF v.1 v.2.1))):=by
 rintro⟨a,val,_⟩ _ ⟨_,rfl,⟨_,rfl,rfl⟩⟩;exact⟨rfl,λh=>cg (g:=rz) (n:=2) (bs:=[.z (eT eS a),.z (eT aG val)]) (Rv a val) h⟩
def jt(a:cT)(b:O AZ):Int:=(b.map λd:AZ=>((cF d a.2.1).map λc:aB=>c.1).sum).sum
def mR(b:cT)(c:O AZ):Prop:=((c.length<=100000/\(∀a∈c,(((wN a b.2.1)/\(cF a b.2.1).length<=100000)/\D2 ((cF a b.2.1).map λd:aB=>d.1)=true)))/\D2 (c.map λa:AZ=>((cF a b.2.1).map λd:aB=>d.1).sum)=true)
theorem Xl(a:cT)(b:O AZ)(d:Lp b_1 (b.map (eT eS))):RP wg [Z (zE bA a),Z b_1] (λr=>Ap.rt (zE eI r)) (jt a b) (Z (mR a b)):=R.tp (cW (λr=>r) (YT (jG (rY (LC (fM 1 (eT eS) b d S)) _ (λ_=>S) (λe:AZ=>(oJ (YT (jG (vO (LC (jG (An Rw (cI (ao 1 (zE (eT eS)) e S) (cI (cV (ao 0 (zE bA) a S) (λq=>q.2.1) (eT aG) 1 λ_=>S) aX))))) _ (λ_=>S) (λc:aB=>(cV (ao 0 (zE aG) c S) (λq=>q.1) eI 0 λ_=>S)) λ_=>S)))))))) (λ_=>S) λ_=>S)
theorem K4:∀v bs,(aZ bA (aL (eT eS) aN)) v bs->bs.length=2/\(hold (Z (mR v.1 v.2.1))->su (bs.map lend)=Z ((zE eI) (jt v.1 v.2.1))):=by
 rintro⟨a,b,_⟩ _ ⟨_,rfl,⟨b_1,_,rfl,c,rfl⟩⟩;exact⟨rfl,λh=>cg (g:=wg) (n:=2) (bs:=[.z (bA a),lend b_1]) (Xl a b (mX c)) h⟩
def fG(b:O AZ)(c:AJ):AZ:=(at' ((b.filter λa:AZ=>(decide (c∈a))).map λa:AZ=>a) 0)
def n6(b:O AZ)(c:AJ):Prop:=(b.length<=100000/\In ((b.filter λa:AZ=>(decide (c∈a))).map λa:AZ=>a).length 0)
theorem Rx(a:O AZ)(d:Lp gC (a.map (eT eS)))(b:AJ):RP rB [Z gC,Z (zE eS b)] (λr=>Ap.rt ((zE (eT eS)) r)) (fG a b) (Z (n6 a b)):=R.tp (cW (λr=>r) (j8 (jG (u0 (LC (fM 0 (eT eS) a d S)) _ (λ_=>S) (λc:AZ=>(cL (Oq (ao 0 (zE eS) b S) (ao 1 (zE (eT eS)) c S)))) (λc:AZ=>(ao 1 (zE (eT eS)) c S)) (λ_=>S) λ_=>S)) (B5 0)) (λ_=>S) λ_=>S)
theorem Dk:∀v bs,(aL (eT eS) (aZ eS aN)) v bs->bs.length=2/\(hold (Z (n6 v.1 v.2.1))->nM (bs.map lend)=Z ((zE (eT eS)) (fG v.1 v.2.1))):=by
 rintro⟨c,a,_⟩ _ ⟨gC,_,rfl,b,⟨_,rfl,rfl⟩⟩;exact⟨rfl,λh=>cg (g:=rB) (n:=2) (bs:=[lend gC,.z (eS a)]) (Rx c (mX b) a) h⟩
def fj(h:cT)(a:Uk)(g:B6):Bool:=(let q1:=h;(let y2:=((at' g 0)%(q1.1.length:Int));let i:=((at' g 1)%(q1.1.length:Int));let b:=y2;let c:=i;(if(!decide (b=c))=true then(let e:=((at' q1.1 (if c<b then c else b)),(at' q1.1 (if c>b then c else b)),(7:Int));(let f:=(bO (q1.1,q1.2.1,(iK bV (q1.2.2++[e]))));(if((decide (a.2.1<f.2.1))||((!decide ((fG a.1 e.1)=(fG a.1 e.2.1)))&&(!decide (f.2.1=a.2.1))))=true then false else(if(!decide (q1.2.2=([]:O cP)))=true then(let d:=(bO (q1.1,q1.2.1,(BE q1.2.2 (Z 1) U)));(if(decide (d.2.1<a.2.1))=true then false else true))else true))))else(if(!decide (q1.2.2=([]:O cP)))=true then(let d:=(bO (q1.1,q1.2.1,(BE q1.2.2 (Z 1) U)));(if(decide (d.2.1<a.2.1))=true then false else true))else true))))
def iY(g:cT)(d:Uk)(e:B6):Prop:=(let q1:=g;(((In e.length 0/\0<(q1.1.length:Int))/\(In e.length 1/\0<(q1.1.length:Int)))/\(let y2:=((at' e 0)%(q1.1.length:Int));let h:=((at' e 1)%(q1.1.length:Int));let a:=y2;let b:=h;(((!decide (a=b))=true->((In q1.1.length (if b<a then b else a)/\In q1.1.length (if b>a then b else a))/\(let c:=((at' q1.1 (if b<a then b else a)),(at' q1.1 (if b>a then b else a)),(7:Int));(((Ek (q1.2.2.length+[c].length)/\(q1.2.2++[c]).length<64)/\(d8 (q1.1,q1.2.1,(iK bV (q1.2.2++[c])))))/\(let f:=(bO (q1.1,q1.2.1,(iK bV (q1.2.2++[c]))));(((decide (d.2.1<f.2.1))=false->((n6 d.1 c.1)/\(n6 d.1 c.2.1)))/\(((decide (d.2.1<f.2.1))||((!decide ((fG d.1 c.1)=(fG d.1 c.2.1)))&&(!decide (f.2.1=d.2.1))))=false->((!decide (q1.2.2=([]:O cP)))=true->(d8 (q1.1,q1.2.1,(BE q1.2.2 (Z 1) U)))))))))))/\((!decide (a=b))=false->((!decide (q1.2.2=([]:O cP)))=true->(d8 (q1.1,q1.2.1,(BE q1.2.2 (Z 1) U)))))))))
theorem Fg(c:cT)(a:Uk)(b:B6){j:Bx}(h:Lp j (b.map eI)):RP kW [Z (zE bA c),Z (zE oW a),Z j,U,U,U,U,U,U,U,U] (λr=>Ap.rt (zE eB r)) (fj c a b) (Z (iY c a b)):=R.tp (zQ (ao 0 (zE bA) c S) _ (λ_=>S) λq1=>(YH 6 7 (Cg (j8 (fM 2 eI b h S) (B5 0)) (uG (ao 3 (zE (eT eS)) q1.1 S))) (Cg (j8 (fM 2 eI b h S) (B5 1)) (uG (ao 3 (zE (eT eS)) q1.1 S))) λf g=>(lY (cL (Lz (by decide) (ao 6 (zE eI) f S) (ao 7 (zE eI) g S))) (bG (bH 8 (mK (Ge (ao 3 (zE (eT eS)) q1.1 S) (YG (ao 6 (zE eI) f S) (ao 7 (zE eI) g S))) (Ge (ao 3 (zE (eT eS)) q1.1 S) (Gf (ao 6 (zE eI) f S) (ao 7 (zE eI) g S))) (B5 7)) (λ_=>S) λe=>(bG (bH 9 (An pH (cI (mK (ao 3 (zE (eT eS)) q1.1 S) (ao 4 (zE (eT aG)) q1.2.1 S) (iz (jG (ag (UE (ao 5 (zE (eT bV)) q1.2.2 S) (dL (j7 (ao 8 (zE bV) e S) (lR bV)) (ZI S))))))) aX)) (λ_=>S) λi=>(bG (lY (EX (cL (FA (cV (ao 9 (zE oW) i S) (λq=>q.2.1) eI 1 λ_=>S) (cV (ao 1 (zE oW) a S) (λq=>q.2.1) eI 1 λ_=>S))) (Gd (cL (Lz (by decide) (An Dk (nj (Ah (cV (ao 1 (zE oW) a S) (λq=>q.1) (eL (eT eS)) 0 λ_=>S)) (cI (cV (ao 8 (zE bV) e S) (λq=>q.1) eS 0 λ_=>S) aX))) (An Dk (nj (Ah (cV (ao 1 (zE oW) a S) (λq=>q.1) (eL (eT eS)) 0 λ_=>S)) (cI (cV (ao 8 (zE bV) e S) (λq=>q.2.1) eS 1 λ_=>S) aX))))) (cL (Lz (by decide) (cV (ao 9 (zE oW) i S) (λq=>q.2.1) eI 1 λ_=>S) (cV (ao 1 (zE oW) a S) (λq=>q.2.1) eI 1 λ_=>S))))) (bG (cW (λr=>r) (tX (.bl false) eB false S) (λ_=>S) λ_=>S)) (bU (bU (lY (cL (Lz (by decide) (ao 5 (zE (eT bV)) q1.2.2 S) (ND bV))) (bG (bH 10 (An pH (cI (mK (ao 3 (zE (eT eS)) q1.1 S) (ao 4 (zE (eT aG)) q1.2.1 S) (oJ (NN (ao 5 (zE (eT bV)) q1.2.2 S) (JZ (B5 1)) JX))) aX)) (λ_=>S) λd=>(bG (lY (cL (YB (cV (ao 10 (zE oW) d S) (λq=>q.2.1) eI 1 λ_=>S) (cV (ao 1 (zE oW) a S) (λq=>q.2.1) eI 1 λ_=>S))) (bG (cW (λr=>r) (tX (.bl false) eB false S) (λ_=>S) λ_=>S)) (bU (bU (cW (λr=>r) (tX (.bl true) eB true S) (λ_=>S) λ_=>S))))))) (bU (cW (λr=>r) (tX (.bl true) eB true S) (λ_=>S) λ_=>S))))))))))) (bU (lY (cL (Lz (by decide) (ao 5 (zE (eT bV)) q1.2.2 S) (ND bV))) (bG (bH 10 (An pH (cI (mK (ao 3 (zE (eT eS)) q1.1 S) (ao 4 (zE (eT aG)) q1.2.1 S) (oJ (NN (ao 5 (zE (eT bV)) q1.2.2 S) (JZ (B5 1)) JX))) aX)) (λ_=>S) λd=>(bG (lY (cL (YB (cV (ao 10 (zE oW) d S) (λq=>q.2.1) eI 1 λ_=>S) (cV (ao 1 (zE oW) a S) (λq=>q.2.1) eI 1 λ_=>S))) (bG (cW (λr=>r) (tX (.bl false) eB false S) (λ_=>S) λ_=>S)) (bU (bU (cW (λr=>r) (tX (.bl true) eB true S) (λ_=>S) λ_=>S))))))) (bU (cW (λr=>r) (tX (.bl true) eB true S) (λ_=>S) λ_=>S)))))))
theorem Fi:∀v bs,(aZ bA (aZ oW (aL eI aN))) v bs->bs.length=3/\(hold (Z (iY v.1 v.2.1 v.2.2.1))->kY (bs.map lend)=Z ((zE eB) (fj v.1 v.2.1 v.2.2.1))):=by
 rintro⟨a,b,d,_⟩ _ ⟨_,rfl,⟨_,rfl,⟨e,_,rfl,c,rfl⟩⟩⟩;exact⟨rfl,λh=>cg (g:=kW) (n:=11) (bs:=[.z (bA a),.z (oW b),lend e]) (Fg a b d (mX c)) h⟩
def d9(l:cT)(f:Uk)(c:B6):Bool:=(let q1:=l;(let g:=(2+((at' c 2)%4));(let j:=((q1.2.1.filter λq2:aB=>(decide ((q2.1*g)<=1000))).map λq2:aB=>((q2.1*g),q2.2.1,q2.2.2.1,q2.2.2.2));(if((decide ((j.length:Int)=(q1.2.1.length:Int)))&&(!decide ((bO (q1.1,j,q1.2.2)).2.1=(f.2.1*g))))=true then false else(let m:=((at' c 3)%(q1.1.length:Int));let o:=((at' c 4)%(q1.1.length:Int));let a:=m;let b:=o;(if(decide (a=b))=true then true else(let h:=(1+((at' c 5)%9));(let n:=(iK aG ((q1.2.1.map λd:aB=>(((0:Int)-d.1),d.2.1,d.2.2.1,d.2.2.2))++[(((0:Int)-h),(at' q1.1 (if b<a then b else a)),(at' q1.1 (if b>a then b else a)),(9:Int))]));(let i:=(bO (q1.1,(n.map λe:aB=>(((0:Int)-e.1),e.2.1,e.2.2.1,e.2.2.2)),q1.2.2)).2.1;((decide (f.2.1<=i))&&(decide (i<=(f.2.1+h)))))))))))))
def fP(l:cT)(i:Uk)(d:B6):Prop:=(let q1:=l;(In d.length 2/\(let e:=(2+((at' d 2)%4));((q1.2.1.length<=100000/\(∀q2∈q1.2.1,(DD q2.1 e/\((decide ((q2.1*e)<=1000))=true->DD q2.1 e))))/\(let f:=((q1.2.1.filter λq2:aB=>(decide ((q2.1*e)<=1000))).map λq2:aB=>((q2.1*e),q2.2.1,q2.2.2.1,q2.2.2.2));(((decide ((f.length:Int)=(q1.2.1.length:Int)))=true->((d8 (q1.1,f,q1.2.2))/\DD i.2.1 e))/\(((decide ((f.length:Int)=(q1.2.1.length:Int)))&&(!decide ((bO (q1.1,f,q1.2.2)).2.1=(i.2.1*e))))=false->(((In d.length 3/\0<(q1.1.length:Int))/\(In d.length 4/\0<(q1.1.length:Int)))/\(let m:=((at' d 3)%(q1.1.length:Int));let n:=((at' d 4)%(q1.1.length:Int));let a:=m;let b:=n;((decide (a=b))=false->(In d.length 5/\(let h:=(1+((at' d 5)%9));((((q1.2.1.length<=100000/\(In q1.1.length (if b<a then b else a)/\In q1.1.length (if b>a then b else a)))/\Ek ((q1.2.1.map λc:aB=>(((0:Int)-c.1),c.2.1,c.2.2.1,c.2.2.2)).length+[(((0:Int)-h),(at' q1.1 (if b<a then b else a)),(at' q1.1 (if b>a then b else a)),(9:Int))].length))/\((q1.2.1.map λc:aB=>(((0:Int)-c.1),c.2.1,c.2.2.1,c.2.2.2))++[(((0:Int)-h),(at' q1.1 (if b<a then b else a)),(at' q1.1 (if b>a then b else a)),(9:Int))]).length<64)/\(let j:=(iK aG ((q1.2.1.map λc:aB=>(((0:Int)-c.1),c.2.1,c.2.2.1,c.2.2.2))++[(((0:Int)-h),(at' q1.1 (if b<a then b else a)),(at' q1.1 (if b>a then b else a)),(9:Int))]));(j.length<=100000/\(d8 (q1.1,(j.map λg:aB=>(((0:Int)-g.1),g.2.1,g.2.2.1,g.2.2.2)),q1.2.2)))))))))))))))))
theorem zH(c:cT)(b:Uk)(a:B6){n:Bx}(d:Lp n (a.map eI)):RP iB [Z (zE bA c),Z (zE oW b),Z n,U,U,U,U,U,U,U,U,U,U] (λr=>Ap.rt (zE eB r)) (d9 c b a) (Z (fP c b a)):=R.tp (zQ (ao 0 (zE bA) c S) _ (λ_=>S) λq1=>(bH 6 (lQ (B5 2) (gJ (j8 (fM 2 eI a d S) (B5 2)) 4 (by decide))) (λ_=>S) λg=>(bH 7 (iz (jG (zc (vP (ao 4 (zE (eT aG)) q1.2.1 S)) _ (λ_=>S) (λq2:aB=>(cL (LB (T9 (ao 1 (zE eI) q2.1 S) (ao 0 (zE eI) g S)) (B5 1000)))) (λq2:aB=>(yg (T9 (ao 1 (zE eI) q2.1 S) (ao 0 (zE eI) g S)) (ao 2 (zE eS) q2.2.1 S) (ao 3 (zE eS) q2.2.2.1 S) (ao 4 (zE eI) q2.2.2.2 S)))))) (λ_=>S) λm=>(lY (Gd (cL (BH (by decide) (uG (ao 7 (zE (eT aG)) m S)) (uG (ao 4 (zE (eT aG)) q1.2.1 S)))) (cL (Lz (by decide) (cV (An pH (cI (mK (ao 3 (zE (eT eS)) q1.1 S) (ao 7 (zE (eT aG)) m S) (ao 5 (zE (eT bV)) q1.2.2 S)) aX)) (λq=>q.2.1) eI 1 λ_=>S) (T9 (cV (ao 1 (zE oW) b S) (λq=>q.2.1) eI 1 λ_=>S) (ao 6 (zE eI) g S))))) (bG (cW (λr=>r) (tX (.bl false) eB false S) (λ_=>S) λ_=>S)) (bU (YH 8 9 (Cg (j8 (fM 2 eI a d S) (B5 3)) (uG (ao 3 (zE (eT eS)) q1.1 S))) (Cg (j8 (fM 2 eI a d S) (B5 4)) (uG (ao 3 (zE (eT eS)) q1.1 S))) λh i=>(lY (cL (BH (by decide) (ao 8 (zE eI) h S) (ao 9 (zE eI) i S))) (bG (cW (λr=>r) (tX (.bl true) eB true S) (λ_=>S) λ_=>S)) (bU (bH 10 (lQ (B5 1) (gJ (j8 (fM 2 eI a d S) (B5 5)) 9 (by decide))) (λ_=>S) λj=>(bH 11 (gh (jG (WY (jG (vO (vP (ao 4 (zE (eT aG)) q1.2.1 S)) _ (λ_=>S) (λe:aB=>(yg (Oo (B5 0) (ao 0 (zE eI) e.1 S)) (ao 1 (zE eS) e.2.1 S) (ao 2 (zE eS) e.2.2.1 S) (ao 3 (zE eI) e.2.2.2 S))) λ_=>S)) (jG (rW (j7 (yg (Oo (B5 0) (ao 10 (zE eI) j S)) (Ge (ao 3 (zE (eT eS)) q1.1 S) (YG (ao 8 (zE eI) h S) (ao 9 (zE eI) i S))) (Ge (ao 3 (zE (eT eS)) q1.1 S) (Gf (ao 8 (zE eI) h S) (ao 9 (zE eI) i S))) (B5 9)) (lR aG)) (ZI S)))))) (λ_=>S) λo=>(bH 12 (cV (An pH (cI (mK (ao 3 (zE (eT eS)) q1.1 S) (iz (jG (vO (LC (jh (ao 11 (lE aG) o S))) _ (λ_=>S) (λf:aB=>(yg (Oo (B5 0) (ao 0 (zE eI) f.1 S)) (ao 1 (zE eS) f.2.1 S) (ao 2 (zE eS) f.2.2.1 S) (ao 3 (zE eI) f.2.2.2 S))) λ_=>S))) (ao 5 (zE (eT bV)) q1.2.2 S)) aX)) (λq=>q.2.1) eI 1 λ_=>S) (λ_=>S) λl=>(cW (λr=>r) (aT (LB (cV (ao 1 (zE oW) b S) (λq=>q.2.1) eI 1 λ_=>S) (ao 12 (zE eI) l S)) (LB (ao 12 (zE eI) l S) (lQ (cV (ao 1 (zE oW) b S) (λq=>q.2.1) eI 1 λ_=>S) (ao 10 (zE eI) j S)))) (λ_=>S) λ_=>S))))))))))))
theorem zJ:∀v bs,(aZ bA (aZ oW (aL eI aN))) v bs->bs.length=3/\(hold (Z (fP v.1 v.2.1 v.2.2.1))->iD (bs.map lend)=Z ((zE eB) (d9 v.1 v.2.1 v.2.2.1))):=by
 rintro⟨a,b,d,_⟩ _ ⟨_,rfl,⟨_,rfl,⟨e,_,rfl,c,rfl⟩⟩⟩;exact⟨rfl,λh=>cg (g:=iB) (n:=13) (bs:=[.z (bA a),.z (oW b),lend e]) (zH a b d (mX c)) h⟩
def fu(c:AZ)(b:(O (AJ×AJ)))(a:Int):(O (AJ×AJ)):=(let b:=put b (at' c a) ((("n":AJ)++(ch ("abcdefgh":AJ) a))++(Txt.slice (at' c a) U (Z 6)));b)
def lO(b:AZ)(c:(O (AJ×AJ)))(a:Int):Prop:=(((((In ("abcdefgh":AJ).length a/\Ek (("n":AJ).length+(ch ("abcdefgh":AJ) a).length))/\In b.length a)/\Ek ((("n":AJ)++(ch ("abcdefgh":AJ) a)).length+(Txt.slice (at' b a) U (Z 6)).length))/\In b.length a)/\c.length<1000)
theorem Fj(d:cT)(c:AZ)(f:O aB)(e:O cP)(a:(O (AJ×AJ)))(b:Int):RP iR [Z (zE bA d),Z ((zE (eT eS)) c),Z ((zE (eT aG)) f),Z ((zE (eT bV)) e),Z (mE eS a),Z (zE eI b),U,U] (λs=>Ap.nx ((λa:(O (AJ×AJ))=>[Z (zE bA d),Z ((zE (eT eS)) c),Z ((zE (eT aG)) f),Z ((zE (eT bV)) e),Z (mE eS a),U,U,U]) s)) (fu c a b) (Z (lO c a b)):=R.tp (bG (HY U 4 a S (oJ (El (El (F5 "n") (Ua (F5 "abcdefgh") (ao 5 (zE eI) b S))) (YF (Ge (ao 1 (zE (eT eS)) c S) (ao 5 (zE eI) b S)) JX (JZ (B5 6))))) (Ge (ao 1 (zE (eT eS)) c S) (ao 5 (zE eI) b S)) λa=>(bU (bT a S))))
def jE(c:cT):cT:=(let q1:=c;(let a:=([]:(O (AJ×AJ)));(let a:(O (AJ×AJ)):=((rng 0 (q1.1.length:Int).toNat).foldl (λ(a:(O (AJ×AJ))) (d:Int)=>(fu q1.1 a d)) a);(let f:=(q1.2.1.map λq2:aB=>(q2.1,(look a q2.2.1),(look a q2.2.2.1),q2.2.2.2));(let e:=((q1.1.map λg:AJ=>(look a g)),f,(q1.2.2.map λb:cP=>((look a b.1),(look a b.2.1),b.2.2)));e)))))
def mC(d:cT):Prop:=(let q1:=d;(let a:=([]:(O (AJ×AJ)));((Rg (q1.1.length:Int)/\nC (λ(a:(O (AJ×AJ))) (b:Int)=>(fu q1.1 a b)) (λ(a:(O (AJ×AJ))) (b:Int)=>Z (lO q1.1 a b)) (rng 0 (q1.1.length:Int).toNat) a)/\(let a:(O (AJ×AJ)):=((rng 0 (q1.1.length:Int).toNat).foldl (λ(a:(O (AJ×AJ))) (b:Int)=>(fu q1.1 a b)) a);((q1.2.1.length<=100000/\(∀q2∈q1.2.1,(has a q2.2.1=true/\has a q2.2.2.1=true)))/\(let f:=(q1.2.1.map λq2:aB=>(q2.1,(look a q2.2.1),(look a q2.2.2.1),q2.2.2.2));((q1.1.length<=100000/\(∀e∈q1.1,has a e=true))/\(q1.2.2.length<=100000/\(∀c∈q1.2.2,(has a c.1=true/\has a c.2.1=true))))))))))
theorem M7(b:cT):RP mj [Z (zE bA b),U,U,U,U,U,U,U] (λr=>Ap.rt (zE bA r)) (jE b) (Z (mC b)):=R.tp (zQ (ao 0 (zE bA) b S) _ (λ_=>S) λq1=>(bH 4 (LU eS) (λ_=>S) λa=>(J3 (λa:(O (AJ×AJ))=>[Z (zE bA b),Z ((zE (eT eS)) q1.1),Z ((zE (eT aG)) q1.2.1),Z ((zE (eT bV)) q1.2.2),Z (mE eS a),U,U,U]) a S (J2 (uG (ao 1 (zE (eT eS)) q1.1 S))) _ (λ_ _=>S) (λ(a:(O (AJ×AJ))) (d:Int)=>(Fj b q1.1 q1.2.1 q1.2.2 a d).r) λa=>(bH 6 (rY (vP (ao 2 (zE (eT aG)) q1.2.1 S)) _ (λ_=>S) (λq2:aB=>(yg (ao 1 (zE eI) q2.1 S) (dB (ao 0 (nE eS) a S) (ao 2 (zE eS) q2.2.1 S)) (dB (ao 0 (nE eS) a S) (ao 3 (zE eS) q2.2.2.1 S)) (ao 4 (zE eI) q2.2.2.2 S)))) (λ_=>S) λf=>(bH 7 (mK (iz (jG (rY (vP (ao 1 (zE (eT eS)) q1.1 S)) _ (λ_=>S) (λg:AJ=>(dB (ao 0 (nE eS) a S) (ao 1 (zE eS) g S)))))) (iz (jh (ao 6 (lE aG) f S))) (iz (jG (rY (vP (ao 3 (zE (eT bV)) q1.2.2 S)) _ (λ_=>S) (λc:cP=>(mK (dB (ao 0 (nE eS) a S) (ao 1 (zE eS) c.1 S)) (dB (ao 0 (nE eS) a S) (ao 2 (zE eS) c.2.1 S)) (ao 3 (zE eI) c.2.2 S))))))) (λ_=>S) λe=>(cW (λr=>r) (ao 7 (zE bA) e S) (λ_=>S) λ_=>S))))))
theorem M8:∀v bs,(aZ bA aN) v bs->bs.length=1/\(hold (Z (mC v.1))->jC (bs.map lend)=Z ((zE bA) (jE v.1))):=by
 rintro⟨a,_⟩ _ ⟨_,rfl,rfl⟩;exact⟨rfl,λh=>cg (g:=mj) (n:=8) (bs:=[.z (bA a)]) (M7 a) h⟩
def ju(c:AZ)(b:(O (AJ×AJ)))(a:Int):(O (AJ×AJ)):=(let b:=put b (at' c a) ((("n":AJ)++(ch ("abcdefgh":AJ) a))++(Txt.slice (at' c a) U (Z 6)));b)
def sW(b:AZ)(c:(O (AJ×AJ)))(a:Int):Prop:=(((((In ("abcdefgh":AJ).length a/\Ek (("n":AJ).length+(ch ("abcdefgh":AJ) a).length))/\In b.length a)/\Ek ((("n":AJ)++(ch ("abcdefgh":AJ) a)).length+(Txt.slice (at' b a) U (Z 6)).length))/\In b.length a)/\c.length<1000)
theorem Aw(d:cT)(c:AZ)(f:O aB)(e:O cP)(a:(O (AJ×AJ)))(b:Int):RP Al [Z (zE bA d),Z ((zE (eT eS)) c),Z ((zE (eT aG)) f),Z ((zE (eT bV)) e),Z (mE eS a),Z (zE eI b),U,U] (λs=>Ap.nx ((λa:(O (AJ×AJ))=>[Z (zE bA d),Z ((zE (eT eS)) c),Z ((zE (eT aG)) f),Z ((zE (eT bV)) e),Z (mE eS a),U,U,U]) s)) (ju c a b) (Z (sW c a b)):=R.tp (bG (HY U 4 a S (oJ (El (El (F5 "n") (Ua (F5 "abcdefgh") (ao 5 (zE eI) b S))) (YF (Ge (ao 1 (zE (eT eS)) c S) (ao 5 (zE eI) b S)) JX (JZ (B5 6))))) (Ge (ao 1 (zE (eT eS)) c S) (ao 5 (zE eI) b S)) λa=>(bU (bT a S))))
def jB(c:cT):(O (AJ×AJ)):=(let q1:=c;(let a:=([]:(O (AJ×AJ)));(let a:(O (AJ×AJ)):=((rng 0 (q1.1.length:Int).toNat).foldl (λ(a:(O (AJ×AJ))) (d:Int)=>(ju q1.1 a d)) a);(let e:=(q1.2.1.map λq2:aB=>(q2.1,(look a q2.2.1),(look a q2.2.2.1),q2.2.2.2));(let g:=((q1.1.map λf:AJ=>(look a f)),e,(q1.2.2.map λb:cP=>((look a b.1),(look a b.2.1),b.2.2)));a)))))
def mH(d:cT):Prop:=(let q1:=d;(let a:=([]:(O (AJ×AJ)));((Rg (q1.1.length:Int)/\nC (λ(a:(O (AJ×AJ))) (b:Int)=>(ju q1.1 a b)) (λ(a:(O (AJ×AJ))) (b:Int)=>Z (sW q1.1 a b)) (rng 0 (q1.1.length:Int).toNat) a)/\(let a:(O (AJ×AJ)):=((rng 0 (q1.1.length:Int).toNat).foldl (λ(a:(O (AJ×AJ))) (b:Int)=>(ju q1.1 a b)) a);((q1.2.1.length<=100000/\(∀q2∈q1.2.1,(has a q2.2.1=true/\has a q2.2.2.1=true)))/\(let f:=(q1.2.1.map λq2:aB=>(q2.1,(look a q2.2.1),(look a q2.2.2.1),q2.2.2.2));((q1.1.length<=100000/\(∀e∈q1.1,has a e=true))/\(q1.2.2.length<=100000/\(∀c∈q1.2.2,(has a c.1=true/\has a c.2.1=true))))))))))
theorem Hj(b:cT):RP mD [Z (zE bA b),U,U,U,U,U,U,U] (λr=>Ap.rt (mE eS r)) (jB b) (Z (mH b)):=R.tp (zQ (ao 0 (zE bA) b S) _ (λ_=>S) λq1=>(bH 4 (LU eS) (λ_=>S) λa=>(J3 (λa:(O (AJ×AJ))=>[Z (zE bA b),Z ((zE (eT eS)) q1.1),Z ((zE (eT aG)) q1.2.1),Z ((zE (eT bV)) q1.2.2),Z (mE eS a),U,U,U]) a S (J2 (uG (ao 1 (zE (eT eS)) q1.1 S))) _ (λ_ _=>S) (λ(a:(O (AJ×AJ))) (d:Int)=>(Aw b q1.1 q1.2.1 q1.2.2 a d).r) λa=>(bH 6 (rY (vP (ao 2 (zE (eT aG)) q1.2.1 S)) _ (λ_=>S) (λq2:aB=>(yg (ao 1 (zE eI) q2.1 S) (dB (ao 0 (nE eS) a S) (ao 2 (zE eS) q2.2.1 S)) (dB (ao 0 (nE eS) a S) (ao 3 (zE eS) q2.2.2.1 S)) (ao 4 (zE eI) q2.2.2.2 S)))) (λ_=>S) λe=>(bH 7 (mK (iz (jG (rY (vP (ao 1 (zE (eT eS)) q1.1 S)) _ (λ_=>S) (λf:AJ=>(dB (ao 0 (nE eS) a S) (ao 1 (zE eS) f S)))))) (iz (jh (ao 6 (lE aG) e S))) (iz (jG (rY (vP (ao 3 (zE (eT bV)) q1.2.2 S)) _ (λ_=>S) (λc:cP=>(mK (dB (ao 0 (nE eS) a S) (ao 1 (zE eS) c.1 S)) (dB (ao 0 (nE eS) a S) (ao 2 (zE eS) c.2.1 S)) (ao 3 (zE eI) c.2.2 S))))))) (λ_=>S) λg=>(Em 4 (λr=>r) a S (λ_=>S) λ_=>S))))))
theorem Hl:∀v bs,(aZ bA aN) v bs->bs.length=1/\(hold (Z (mH v.1))->jy (bs.map lend)=Z ((mE eS) (jB v.1))):=by
 rintro⟨a,_⟩ _ ⟨_,rfl,rfl⟩;exact⟨rfl,λh=>cg (g:=mD) (n:=8) (bs:=[.z (bA a)]) (Hj a) h⟩
def jF(c:O AZ)(d:O cP):(O cP):=(let b:=(gM c);((d.filter λa:cP=>(decide ((look b a.1)=(look b a.2.1)))).map λa:cP=>a))
def uP(a:O AZ)(b:O cP):Prop:=((sV a)/\(let d:=(gM a);(b.length<=100000/\(∀c∈b,(has d c.1=true/\has d c.2.1=true)))))
theorem M9(b:O AZ)(e:Lp gC (b.map (eT eS)))(c:O cP):RP pW [Z gC,Z ((zE (eT bV)) c),U] (λr=>Ap.rt (oE bV r)) (jF b c) (Z (uP b c)):=R.tp (bH 2 (An K3 (nj (fM 0 (eT eS) b e S) aX)) (λ_=>S) λd=>(cW (λr=>r) (zc (vP (ao 1 (zE (eT bV)) c S)) _ (λ_=>S) (λa:cP=>(cL (BH (by decide) (dB (ao 0 (nE eI) d S) (cV (ao 1 (zE bV) a S) (λq=>q.1) eS 0 λ_=>S)) (dB (ao 0 (nE eI) d S) (cV (ao 1 (zE bV) a S) (λq=>q.2.1) eS 1 λ_=>S))))) (λa:cP=>(ao 1 (zE bV) a S))) (λ_=>S) λ_=>S))
theorem Nb:∀v bs,(aL (eT eS) (aZ (eT bV) aN)) v bs->bs.length=2/\(hold (Z (uP v.1 v.2.1))->pX (bs.map lend)=Z ((oE bV) (jF v.1 v.2.1))):=by
 rintro⟨c,a,_⟩ _ ⟨gC,_,rfl,b,⟨_,rfl,rfl⟩⟩;exact⟨rfl,λh=>cg (g:=pW) (n:=3) (bs:=[lend gC,.z (eT bV a)]) (M9 c (mX b) a) h⟩
def pI(b:cT)(a:O AZ):Bool:=(let q1:=b;(let c:=(cU a q1.2.1);((jF a q1.2.2).isEmpty&&(decide ((nW q1.1 c)=(nD a))))))
def rN(c:cT)(a:O AZ):Prop:=(let q1:=c;((iW a q1.2.1)/\(let b:=(cU a q1.2.1);((uP a q1.2.2)/\((jF a q1.2.2).isEmpty=true->((nY q1.1 b)/\(a.length<64/\∀x∈a,x.isEmpty=false)))))))
theorem nr(b:cT)(a:O AZ)(c:Lp b_1 (a.map (eT eS))):RP zj [Z (zE bA b),Z b_1,U,U,U,U] (λr=>Ap.rt (zE eB r)) (pI b a) (Z (rN b a)):=R.tp (zQ (ao 0 (zE bA) b S) _ (λ_=>S) λq1=>(bH 5 (An vG (nj (fM 1 (eT eS) a c S) (cI (ao 3 (zE (eT aG)) q1.2.1 S) aX))) (λ_=>S) λd=>(cW (λr=>r) (MW (PP (jG (An Nb (nj (fM 1 (eT eS) a c S) (cI (ao 4 (zE (eT bV)) q1.2.2 S) aX))))) (Sb (by decide) (jG (An Di (cI (ao 2 (zE (eT eS)) q1.1 S) (nj (jh (ao 5 (lE aG) d S)) aX)))) (jG (QT (fM 1 (eT eS) a c S))))) (λ_=>S) λ_=>S)))
theorem Pd:∀v bs,(aZ bA (aL (eT eS) aN)) v bs->bs.length=2/\(hold (Z (rN v.1 v.2.1))->zm (bs.map lend)=Z ((zE eB) (pI v.1 v.2.1))):=by
 rintro⟨a,b,_⟩ _ ⟨_,rfl,⟨b_1,_,rfl,c,rfl⟩⟩;exact⟨rfl,λh=>cg (g:=zj) (n:=6) (bs:=[.z (bA a),lend b_1]) (nr a b (mX c)) h⟩
def Vd(e:B6):Bool:=(let c:=(aY (bw e 0) 16);(let a:=(fU e 0 (2+((at' c 6)%6)) ((at' c 7)%11) ((at' c 8)%4));(let b:=(bO a);(if(decide (b.2.1<(jt a (fV a).1)))=true then false else(if((!(fj a b (BE c (Z 9) U)))||(!(d9 a b (BE c (Z 9) U))))=true then false else(let d:=(jE a);(let g:=(jB a);(if(!decide (((bO d).2.1,(bO d).2.2)=(b.2.1,b.2.2)))=true then false else(let f:=(nD (b.1.map λh:AZ=>(h.map λi:AJ=>(look g i))));((pI d f)&&(decide ((jt d f)=b.2.1))))))))))))
def Ve(g:B6):Prop:=(((jY g 0)/\(gZ (bw g 0) 16))/\(let b:=(aY (bw g 0) 16);(((In b.length 6/\(In b.length 7/\In b.length 8))/\(nT g 0 (2+((at' b 6)%6)) ((at' b 7)%11) ((at' b 8)%4)))/\(let a:=(fU g 0 (2+((at' b 6)%6)) ((at' b 7)%11) ((at' b 8)%4));((d8 a)/\(let c:=(bO a);(((nZ a)/\(mR a (fV a).1))/\((decide (c.2.1<(jt a (fV a).1)))=false->(((iY a c (BE b (Z 9) U))/\((!(fj a c (BE b (Z 9) U)))=false->(fP a c (BE b (Z 9) U))))/\(((!(fj a c (BE b (Z 9) U)))||(!(d9 a c (BE b (Z 9) U))))=false->((mC a)/\(let f:=(jE a);((mH a)/\(let h:=(jB a);((d8 f)/\((!decide (((bO f).2.1,(bO f).2.2)=(c.2.1,c.2.2)))=false->(((c.1.length<=100000/\(∀d∈c.1,(d.length<=100000/\(∀e∈d,has h e=true))))/\((c.1.map λd:AZ=>(d.map λe:AJ=>(look h e))).length<64/\∀x∈(c.1.map λd:AZ=>(d.map λe:AJ=>(look h e))),x.isEmpty=false))/\(let i:=(nD (c.1.map λd:AZ=>(d.map λe:AJ=>(look h e))));((rN f i)/\((pI f i)=true->(mR f i)))))))))))))))))))))
theorem bu(c:B6)(f:Lp gC (c.map eI)):RP Y4 [Z gC,U,U,U,U,U,U] (λr=>Ap.rt (zE eB r)) (Vd c) (Z (Ve c)):=R.tp (bH 1 (An p8 (cI (oJ (An wF (nj (fM 0 eI c f S) (cI (B5 0) aX)))) (cI (B5 16) aX))) (λ_=>S) λd=>(bH 2 (An Ri (nj (fM 0 eI c f S) (cI (B5 0) (cI (oJ (lQ (B5 2) (gJ (j8 (jh (ao 1 (lE eI) d S)) (B5 6)) 6 (by decide)))) (cI (gJ (j8 (jh (ao 1 (lE eI) d S)) (B5 7)) 11 (by decide)) (cI (gJ (j8 (jh (ao 1 (lE eI) d S)) (B5 8)) 4 (by decide)) aX)))))) (λ_=>S) λa=>(bH 3 (An pH (cI (ao 2 (zE bA) a S) aX)) (λ_=>S) λb=>(lY (cL (FA (An K4 (cI (ao 2 (zE bA) a S) (nj (Ah (cV (An Ru (cI (ao 2 (zE bA) a S) aX)) (λq=>q.1) (eL (eT eS)) 0 λ_=>S)) aX))) (cV (ao 3 (zE oW) b S) (λq=>q.2.1) eI 1 λ_=>S))) (bG (cW (λr=>r) (tX (.bl false) eB false S) (λ_=>S) λ_=>S)) (bU (lY (EX (HL (Oy (An Fi (cI (ao 2 (zE bA) a S) (cI (ao 3 (zE oW) b S) (nj (Ah (QH (F7 (jh (ao 1 (lE eI) d S)) (JZ (B5 9)) JX))) aX)))))) (HL (Oy (An zJ (cI (ao 2 (zE bA) a S) (cI (ao 3 (zE oW) b S) (nj (Ah (QH (F7 (jh (ao 1 (lE eI) d S)) (JZ (B5 9)) JX))) aX))))))) (bG (cW (λr=>r) (tX (.bl false) eB false S) (λ_=>S) λ_=>S)) (bU (bH 4 (An M8 (cI (ao 2 (zE bA) a S) aX)) (λ_=>S) λe=>(bH 5 (An Hl (cI (ao 2 (zE bA) a S) aX)) (λ_=>S) λh=>(lY (cL (Lz (by decide) (LH (An pH (cI (ao 4 (zE bA) e S) aX)) (λq=>(q.2.1,q.2.2)) OL (Z 1) U S S λ_=>S) (LH (ao 3 (zE oW) b S) (λq=>(q.2.1,q.2.2)) OL (Z 1) U S S λ_=>S))) (bG (cW (λr=>r) (tX (.bl false) eB false S) (λ_=>S) λ_=>S)) (bU (bH 6 (QT (jG (rY (LC (Ah (cV (ao 3 (zE oW) b S) (λq=>q.1) (eL (eT eS)) 0 λ_=>S))) _ (λ_=>S) (λi:AZ=>(iz (jG (rY (vP (ao 1 (zE (eT eS)) i S)) _ (λ_=>S) (λj:AJ=>(dB (ao 0 (nE eS) h S) (ao 1 (zE eS) j S)))))))))) (λ_=>S) λg=>(cW (λr=>r) (MW (An Pd (cI (ao 4 (zE bA) e S) (nj (jh (ao 6 (lE (eT eS)) g S)) aX))) (BH (by decide) (An K4 (cI (ao 4 (zE bA) e S) (nj (jh (ao 6 (lE (eT eS)) g S)) aX))) (cV (ao 3 (zE oW) b S) (λq=>q.2.1) eI 1 λ_=>S))) (λ_=>S) λ_=>S)))))))))))))
theorem P6:∀v bs,(aL eI aN) v bs->bs.length=1/\(hold (Z (Ve v.1))->F_law (bs.map lend)=Z ((zE eB) (Vd v.1))):=by
 rintro⟨b,_⟩ _ ⟨gC,_,rfl,a,rfl⟩;exact⟨rfl,λh=>cg (g:=Y4) (n:=7) (bs:=[lend gC]) (bu b (mX a)) h⟩
theorem Nl(h:∀a:O Int,a.length<=63->Ve a/\Vd a=true):(∀a:O Int,a.length<=63->F_law [.z (.lst (a.map .int))]=Z (.z (.bl true)))/\∀a:O Int,a.length<=63->F_law [.l (a.map .int)]=Z (.z (.bl true)):=
 ⟨λa b=>((P6 (a,()) [.z (.lst (a.map .int))] ⟨_,_,rfl,rfl,rfl⟩).2 (h a b).1).trans (by rw[(h a b).2]),λa b=>((P6 (a,()) [.l (a.map .int)] ⟨_,_,rfl,rfl,rfl⟩).2 (h a b).1).trans (by rw[(h a b).2])⟩
end
end G33
end
section
set_option synthInstance.maxSize 100000
namespace G33
open L2 P1
theorem Rz(a:O Int)(k:Int)(h0:0<=k)(h1:k<=1000):jY a k:=by
 unfold jY;exact⟨λh=>BF h0 (by simpa using h),λ_=>NJ h0 (by omega)⟩
theorem XU(k:Nat)(s:Int×O Int×Int)(d:k<1000)(h:(0<=s.1/\s.1<1999999973)/\s.2.1.length=k/\(∀x∈s.2.1,0<=x)/\0<=s.2.2):lH s k/\(0<=(dF s k).1/\(dF s k).1<1999999973)/\(dF s k).2.1.length=k+1/\(∀x∈(dF s k).2.1,0<=x)/\0<=(dF s k).2.2:=by
 obtain⟨h1,h2,b,c⟩:=h;have a:In 2 (if(decide ((0:Int)<s.2.2))=true then(1:Int)else 0):=by split<;>exact BF (by omega) (by omega)
 refine⟨⟨NJ h1.1 (by omega),a,?_⟩,gU _ (by decide),?_,?_,Int.ediv_nonneg c (by decide)⟩
 ·show s.2.1.length<=1000000;omega
 ·show(s.2.1++[_]).length=k+1;rw[zS,h2];rfl
 ·intro x hx;rcases List.mem_append.mp hx with hx|hx
  ·exact b x hx
  ·cases List.mem_singleton.mp hx;have:=oV (xs:=[((((s.1*((s.1%65521)+40487))+(7*k))+5)%1999999973),(s.2.2%1000000)]) a;simp only[jv,JI,or_false]at this;rcases this with e|e<;>rw[e]
   ·exact(gU _ (by decide)).1
   ·exact(gU _ (by decide)).1
theorem K5(c m:Int)(h0:0<=m)(h1:m<=1000):gZ c m/\(aY c m).length=m.toNat/\∀x∈aY c m,0<=x:=by
 have b:∀st a:Int,(0<=st/\st<1999999973)->0<=a->pD c m [] st a/\(lJ c m [] st a).length=m.toNat/\∀x∈lJ c m [] st a,0<=x:=λst a hs hd=>by
  have:=yr (P:=λs k=>Z (lH s k)) (λk s=>(0<=s.1/\s.1<1999999973)/\s.2.1.length=k/\(∀x∈s.2.1,0<=x)/\0<=s.2.2) (step:=λs k=>dF s k) m.toNat (st,[],a) ⟨hs,rfl,λx h=>(by cases h),hd⟩ λk s d h=>XU k s (by omega) h;exact⟨⟨Ox h0 (by omega),this.1⟩,this.2.2.1,this.2.2.2.1⟩
 refine b _ _ (gU _ (by decide)) ?_;dsimp only;split<;>(try split)<;>omega
theorem jJ{m:O (AJ×α)}:has m x=true↔x∈m.map (·.1):=by
 unfold has;rw[ko,KO];constructor
 ·rintro⟨q,a,h⟩;exact⟨q,a,qk h⟩
 ·rintro⟨q,a,h⟩;exact⟨q,a,Zs h⟩
theorem Dl[Inhabited α]{pre AS:O (AJ×α)}{n:AJ}{h:α}(a:n∉pre.map (·.1)):look (pre++(n,h)::AS) n=h:=by
 unfold look;have:pre.find? (λq=>decide (q.1=n))=U:=List.find?_eq_none.mpr λq b e=>a (List.mem_map.mpr ⟨q,b,qk e⟩);rw[List.find?_append,this];simp
theorem nB{pre AS:O (AJ×α)}{n:AJ}{h v:α}(b:n∉pre.map (·.1))(d:n∉AS.map (·.1)):put (pre++(n,h)::AS) n v=pre++(n,v)::AS:=by
 unfold put;rw[zr (jJ.mpr (by simp))];have a:∀l:O (AJ×α),n∉l.map (·.1)->l.map (λq=>if q.1=n then(q.1,v)else q)=l:=λl c=>by
  conv=>rhs;rw[<-List.map_id l]
  refine Qr λq f=>?_;rw[zD λe=>c (List.mem_map.mpr ⟨q,f,e⟩)];rfl
 rw[ZT,zl,a pre b,a AS d];simp
theorem O1[Inhabited α]{m:O (AJ×α)}(h:x∈m.map (·.1)):(x,look m x)∈m:=by
 unfold look;cases a:m.find? λq=>decide (q.1=x)with
 |none=>
  obtain⟨q,b,rfl⟩:=List.mem_map.mp h;have:=List.find?_eq_none.mp a q b;simp at this
 |some q=>
  have h1:=List.mem_of_find?_eq_some a;have h2:q.1=x:=by simpa using List.find?_some a
  show(x,q.2)∈m;rw[<-h2];exact h1
theorem zx[Inhabited α]{m:O (AJ×α)}(nd:(m.map (·.1)).Nodup){q:AJ×α}(h:q∈m):look m q.1=q.2:=by
 obtain⟨a,AS,rfl⟩:=List.append_of_mem h;have:q.1∉a.map (·.1):=λe=>by
  rw[ZT,zl,ka]at nd;exact nd.2.2 _ e _ (zh ..) rfl
 exact Dl this
def mn(one a:AJ):AJ:=if qO a one=true then a else one
def jn(one a h:AJ):AJ:=if h=one\/h=a then mn one a else h
theorem K6(a b:AJ):mn a b=a\/mn a b=b:=by unfold mn;split;exact .inr rfl;exact .inl rfl
def jm(m:O (AJ×AJ))(one a:AJ):O (AJ×AJ):=m.map λq=>(q.1,jn one a q.2)
theorem Y5(m:O (AJ×AJ))(one a:AJ):(jm m one a).map (·.1)=m.map (·.1):=by unfold jm;rw[qh];rfl
theorem YN{one a:AJ}(nd:(m.map (·.1)).Nodup)(h:x∈m.map (·.1)):look (jm m one a) x=jn one a (look m x):=by
 have h1:=O1 h;have:(x,jn one a (look m x))∈jm m one a:=List.mem_map.mpr ⟨_,h1,rfl⟩;exact zx (by rw[Y5];exact nd) this
theorem Bz(one a:AJ):∀(b pre:O (AJ×AJ)),((pre++b).map (·.1)).Nodup->(pre++b).length<1000 →
  nC (λ(c:(O (AJ×AJ))) (name:AJ)=>(eU one a (mn one a) c name)) (λ(c:(O (AJ×AJ))) (name:AJ)=>Z (qK one a (mn one a) c name)) (b.map (·.1)) (pre++b) ∧
  (b.map (·.1)).foldl (λ(c:(O (AJ×AJ))) (name:AJ)=>(eU one a (mn one a) c name)) (pre++b)=pre++jm b one a
 |[],pre,_,_=>⟨trivial,rfl⟩
 |(n,h)::AS,pre,nd,hl=>by
  have f:n∉pre.map (·.1):=λe=>by
   rw[ZT,zl,ka]at nd;exact nd.2.2 _ e _ (zh ..) rfl
  have i:n∉AS.map (·.1):=by
   rw[ZT,zl,ka,List.nodup_cons]at nd;exact nd.2.1.1
  have g:has (pre++(n,h)::AS) n=true:=jJ.mpr (by simp);have e:eU one a (mn one a) (pre++(n,h)::AS) n=pre++(n,jn one a h)::AS:=by
   unfold eU;dsimp only;rw[Dl f];unfold jn;by_cases q:h=one\/h=a
   ·rw[zr q,zr (by simpa using q),nB f i]
   ·rw[zD q,zD (by simpa using q)]
  have d:=Bz one a AS (pre++[(n,jn one a h)]) (by simpa using nd) (by simpa using hl);rw[qo]at d;refine⟨⟨⟨⟨g,λ_=>g⟩,λ_=>hl⟩,?_⟩,?_⟩
  ·show nC _ _ _ (eU one a (mn one a) (pre++(n,h)::AS) n);rw[e];exact d.1
  ·rw[zl,QN,e];rw[show pre++(n,jn one a h)::AS=pre++([(n,jn one a h)]++AS) by simp,d.2];unfold jm;simp
theorem Y6(one a:AJ)(nd:(m.map (·.1)).Nodup)(b:m.length<1000):lM m one a/\jo m one a=jm m one a:=Bz one a m [] nd b
theorem Y7:∀(a m:O (AJ×AJ)),((m++a).map (·.1)).Nodup->a.foldl (λm q=>put m q.1 q.2) m=m++a
 |[],m,_=>by simp
 |q::a,m,nd=>by
  rw[QN];have:put m q.1 q.2=m++[q]:=by
   unfold put;rw[zD];intro e;have e:=jJ.mp e;rw[ZT,zl,ka]at nd;exact nd.2.2 _ e _ (zh ..) rfl
  rw[this,Y7 a (m++[q]) (by simpa using nd)];simp
theorem ur(n_:AZ)(nd:n_.Nodup)(a:n_.length<1000):lK n_/\bQ n_=n_.map λn=>(n,n):=by
 refine⟨⟨a,by omega⟩,?_⟩;unfold bQ EE;rw[Y7 _ [] (by rw[Kn,qh];show(n_.map id).Nodup;rw[List.map_id];exact nd)];rfl
structure Hd (n_:AZ) (m:List (Str×Str)):Prop where
 keys:m.map (·.1)=n_
 nd:n_.Nodup
 len:n_.length<1000
 mem:∀x∈n_,look m x∈n_
 idem:∀x∈n_,look m (look m x)=look m x
theorem Hd.kn(h:Hd n_ m):(m.map (·.1)).Nodup:=by rw[h.keys];exact h.nd
theorem Hd.ml(h:Hd n_ m):m.length<1000:=by rw[<-zk (f:=(·.1)),h.keys];exact h.len
theorem Hd.has(h:Hd n_ m)(hx:x∈n_):has m x=true:=jJ.mpr (by rw[h.keys];exact hx)
theorem Hd.lone(nd:n_.Nodup)(b:n_.length<1000):Hd n_ (n_.map λn=>(n,n)):=by
 have k:(n_.map λn=>(n,n)).map (·.1)=n_:=by rw[qh];show n_.map id=n_;rw[List.map_id]
 have a:∀x∈n_,look (n_.map λn=>(n,n)) x=x:=λx hx=>zx (q:=(x,x)) (by rw[k];exact nd) (List.mem_map.mpr ⟨x,hx,rfl⟩);exact⟨k,nd,b,λx hx=>by rw[a x hx];exact hx,λx hx=>by rw[a x hx,a x hx]⟩
theorem pJ(nd:n_.Nodup)(hx:x∈n_):look (n_.map λn=>(n,n)) x=x:=
 zx (q:=(x,x)) (by rw[qh];show(n_.map id).Nodup;rw[List.map_id];exact nd) (List.mem_map.mpr ⟨x,hx,rfl⟩)
theorem Hd.uw(h:Hd n_ m){one a:AJ}(hx:x∈n_):look (jm m one a) x=jn one a (look m x):=YN h.kn (by rw[h.keys];exact hx)
theorem Hd.join(h:Hd n_ m){a b:AJ}(c:a∈n_)(hb:b∈n_):Hd n_ (jm m (look m a) (look m b)):=by
 have f:=h.mem a c;have g:=h.mem b hb;refine⟨(Y5 _ _ _).trans h.keys,h.nd,h.len,λx hx=>?_,λx hx=>?_⟩
 ·rw[h.uw hx];unfold jn;split
  ·rcases K6 (look m a) (look m b)with e|e<;>rw[e]<;>assumption
  ·exact h.mem x hx
 ·have d:jn (look m a) (look m b) (look m x)∈n_:=by
   unfold jn;split
   ·rcases K6 (look m a) (look m b)with e|e<;>rw[e]<;>assumption
   ·exact h.mem x hx
  rw[h.uw hx,h.uw d];unfold jn;by_cases q:look m x=look m a\/look m x=look m b
  ·rw[zr q];rcases K6 (look m a) (look m b)with e|e
   ·rw[e,h.idem a c,zr (.inl S)]
   ·rw[e,h.idem b hb,zr (.inr S)]
  ·rw[zD q,h.idem x hx,zD q]
abbrev dN:=Int×AJ×AJ×Int
def Rs(n_:AZ)(rs:O dN):Prop:=∀r∈rs,r.2.1∈n_/\r.2.2.1∈n_
def jb(m:O (AJ×AJ))(r:dN):O (AJ×AJ):=jm m (look m r.2.1) (look m r.2.2.1)
def hb(n_:AZ)(rs:O dN):O (AJ×AJ):=rs.foldl jb (bQ n_)
theorem G'(nd:n_.Nodup)(a:n_.length<1000):Hd n_ (bQ n_):=by rw[(ur n_ nd a).2];exact Hd.lone nd a
theorem zy(n_:AZ)(rs:O dN)(r:dN):hb n_ (rs++[r])=jb (hb n_ rs) r:=List.foldl_append (l:=rs) (l':=[r])
theorem K7(a:AJ):qN a a:=by unfold qN;rw[ltCps_eq];simp
theorem O2{a b c:AJ}(h:qN a b)(h':qN b c):qN a c:=by
 unfold qN at *
 rw[ltCps_eq]at *
 simp only[jS]at *
 exact List.le_trans (α:=Nat) h h'
theorem NF(a b:AJ):qN (mn a b) a/\qN (mn a b) b:=by
 unfold mn;by_cases h:qO b a=true
 ·rw[zr h];exact⟨((BD b a).mp h).1,K7 b⟩
 ·rw[zD h];refine⟨K7 a,?_⟩;have h:qO b a=false:=by simpa using h
  unfold qO at h;unfold qN;rw[ltCps_eq];exact h
def DF(n_:AZ)(m:O (AJ×AJ)):Prop:=∀x∈n_,qN (look m x) x
theorem VI(nd:n_.Nodup)(a:n_.length<1000):DF n_ (bQ n_):=λx hx=>by
 rw[(ur n_ nd a).2,pJ nd hx];exact K7 x
theorem DF.jb(l:DF n_ m)(h:Hd n_ m)(r:dN):DF n_ (jb m r):=λx hx=>by
 show qN (look (jm m (look m r.2.1) (look m r.2.2.1)) x) x;rw[h.uw hx];unfold jn;split
 ·rename_i e;rcases e with e|e
  ·exact O2 (NF _ _).1 (e▸l x hx)
  ·exact O2 (NF _ _).2 (e▸l x hx)
 ·exact l x hx
theorem RB{α:Type}[DecidableEq α]:∀{xs ys:O α},xs.Nodup->ys.Nodup->(∀x,x∈xs↔x∈ys)->xs.Perm ys
 |[],ys,_,_,h=>by
  cases ys with
  |nil=>exact .refl _
  |cons y ys=>exact absurd ((h y).mpr (zh ..)) (by simp)
 |x::xs,ys,nx,ny,h=>by
  obtain⟨b,c⟩:=List.nodup_cons.mp nx;have hx:=(h x).mp (zh ..);refine(List.Perm.cons x (RB (ys:=ys.erase x) c (ny.erase x) λz=>?_)).trans (yf hx).symm;constructor
  ·intro a;have:z≠x:=λe=>b (e▸a);exact(k7 this).mpr ((h z).mp (zi _ a))
  ·intro a;have d:z≠x:=λe=>by subst e;exact(List.Nodup.not_mem_erase ny) a
   have:=(h z).mpr (List.mem_of_mem_erase a);rcases List.mem_cons.mp this with e|e
   ·exact absurd e d
   ·exact e
theorem Be{α:Type}(c:Array α):∀(n:Nat) (a:Array α),((List.replicate n c).foldl (·++·) a).size=a.size+n*c.size
 |0,a=>by simp
 |n+1,a=>by
  rw[Ki,QN,Be c n,KU,Nat.succ_mul];omega
theorem Qh(x:AJ)(k:Int):(Txt.mul x k).length<=x.length*k.toNat:=by
 unfold Txt.mul;split
 ·exact QU _
 split
 ·rename_i h0 h;simp only[Kt,beq_iff_eq]at h;rcases h with h|h
  ·subst h;simp
  ·rw[h];simp
 ·show(Array.size _)<=_;rw[Be];have:x.cps.size=x.length:=rfl;rw[this,Nat.mul_comm];simp
def LT:AJ:=("abcdefghijklmnopqrstuvwxyz":AJ)
theorem Xn:LT.length=26:=by decide +kernel
theorem mU(h:n<=1000):Ek n:=ZO h (by decide)
theorem Xo(xs:O Int)(f:6<=xs.length)(b:AJ)(hs:b.length<=5)(at_:Int)(k:Nat)(a:AZ)(g:k<200)(h:a.length=k/\∀n∈a,n.length<=12):nQ xs LT b at_ a k/\(gK xs LT b at_ a k).length=k+1/\∀n∈gK xs LT b at_ a k,n.length<=12:=by
 have i:=ZO (slice_le b U (Z at_)) hs;have l:=ZO (slice_le b (Z at_) U) hs;have c1:=yx LT ((↑k+at' xs 2)%15);have j:=gU (k:Int) (m:=8) (by decide);have hd:(0:Int)<=(k:Int) / 8/\(k:Int) / 8<26:=by omega
 refine⟨⟨⟨BF (by decide) (by omega),Aj (by decide) (by rw[Xn];decide)⟩,⟨mU (by omega),mU (by rw[mY];omega)⟩,⟨BF (by decide) (by omega),λ_=>⟨BF hd.1 (by rw[Xn];exact hd.2),by omega,by omega,by rw[yx];decide⟩⟩,mU (by omega)⟩,?_⟩;have d:∀n:AJ,n.length<=12->(a++[n]).length=k+1/\∀m∈a++[n],m.length<=12:=λn e=>⟨by simp[h.1],λm c=>by
  rcases List.mem_append.mp c with c|c
  ·exact h.2 m c
  ·cases List.mem_singleton.mp c;exact e⟩
 unfold gK;dsimp only;split
 ·exact d _ (by have:=Qh (ch LT ((k:Int) / 8)) (1+(k:Int)%8);rw[yx]at this;exact ZO this (by omega))
 ·exact d _ (by rw[mY,mY,c1];omega)
theorem OH(xs:AZ)(n:Nat)(h:∀x∈xs,x.length<=n):(Txt.join "" xs).length<=xs.length*n:=by
 have h1:=StrLaws.join_length_le ("":AJ) xs;rw[<-StrLaws.glued_eq_join]at h1;have h2:(xs.map (·.length)).sum<=xs.length*n:=by
  clear h1
  induction xs with
  |nil=>simp
  |cons a l b=>
   have:=b λx hx=>h x (zi _ hx);have:=h a (zh ..);simp only[zl,j0,ZZ,Nat.succ_mul];omega
 have c:("":AJ).length=0:=rfl;rw[c,Nat.mul_zero]at h1;exact ZO h1 (by omega)
theorem cw(xs:AZ)(h:∀x∈xs,x.length=1):(xs.map (·.length)).sum=xs.length:=by
 induction xs with
 |nil=>rfl
 |cons a l b=>
  have:=b λx hx=>h x (zi _ hx);have:=h a (zh ..);simp only[zl,j0,ZZ];omega
theorem Vf(xs:O Int)(g:6<=xs.length)(a:Int)(h0:0<=a)(h1:a<=200):um xs a/\(cN xs a).length=a.toNat/\∀n∈cN xs a,n.length<=12:=by
 have i:=gU (at' xs 0) (m:=6) (by decide);have st:∀b:AJ,b.length<=5->sI xs a LT b/\(nR xs a LT b).length=a.toNat/\∀n∈nR xs a LT b,n.length<=12:=λb hs=>by
  have:=yr (P:=λf k=>Z (nQ xs LT b (at' xs 1%((b.length:Int)+1)) f k)) (step:=λf k=>gK xs LT b (at' xs 1%((b.length:Int)+1)) f k) (λk s=>s.length=k/\∀n∈s,n.length<=12) a.toNat [] ⟨rfl,λn h=>(by cases h)⟩ λk s d h=>Xo xs g b hs _ k s (by omega) h;exact⟨⟨⟨BF (by decide) (by omega),by omega⟩,Ox h0 (by omega),this.1⟩,this.2⟩
 have c1:∀x∈((rng 0 (at' xs 0%6).toNat).map λc:Int=>ch LT (at' xs c / 40%26)),x.length=1:=λx hx=>by
  obtain⟨k,_,rfl⟩:=List.mem_map.mp hx;exact yx _ _
 have:=st (Txt.join "" ((rng 0 (at' xs 0%6).toNat).map λc:Int=>ch LT (at' xs c / 40%26))) (by
  have:=OH _ 1 λx hx=>Nat.le_of_eq (c1 x hx);rw[zk,Ck]at this;omega)
 refine⟨⟨⟨⟨⟨⟨BF (by decide) (by omega),Ox i.1 (by omega)⟩,by rw[Ck];omega⟩,λk d=>?_⟩,?_⟩,this.1⟩,this.2⟩
 ·obtain⟨j,l,rfl⟩:=Q5 d;exact⟨BF (by omega) (by omega),Aj (by decide) (by rw[show("abcdefghijklmnopqrstuvwxyz":AJ)=LT from rfl,Xn];decide)⟩
 ·rw[show("abcdefghijklmnopqrstuvwxyz":AJ)=LT from rfl,cw _ c1,zk,Ck];have e:("":AJ).length=0:=rfl;rw[e];omega
def Tr(F:O dN):AJ->O dN->AJ->Prop
 |s,[],e=>s=e
 |s,r::p,e=>r∈F/\∃t,bM r s=Z t/\Tr F t p e
def Ft(F:O dN)(x y:AJ):Prop:=∃p,Tr F x p y
theorem rK{r:dN}(h:bM r x=Z y):(r.2.1=x/\r.2.2.1=y)\/(r.2.2.1=x/\r.2.1=y):=by
 unfold bM at h;by_cases h1:r.2.1=x
 ·rw[Zs h1,zr rfl]at h;exact .inl ⟨h1,JA h⟩
 ·rw[Zp h1,zD (by decide)]at h;by_cases h2:r.2.2.1=x
  ·rw[Zs h2,zr rfl]at h;exact .inr ⟨h2,JA h⟩
  ·rw[Zp h2,zD (by decide)]at h;cases h
theorem Y8{r:dN}(a:r.2.1≠r.2.2.1)(h:bM r x=Z y):bM r y=Z x:=by
 unfold bM;rcases rK h with⟨h1,h2⟩|⟨h1,h2⟩
 ·have:r.2.1≠y:=λz=>a (z.trans h2.symm);rw[Zp this,zD (by decide),Zs h2,zr rfl,h1]
 ·rw[Zs h2,zr rfl,h1]
theorem Tr.app{F:O dN}:∀{p:O dN} {x y z:AJ} {q:O dN},Tr F x p y->Tr F y q z->Tr F x (p++q) z
 |[],_,_,_,_,h,h'=>by cases h;exact h'
 |_::_,_,_,_,_,⟨m,t,e,h⟩,h'=>⟨m,t,e,h.app h'⟩
theorem Tr.rev{F:O dN}(a:∀r∈F,r.2.1≠r.2.2.1):∀{p:O dN} {x y:AJ},Tr F x p y->Tr F y p.reverse x
 |[],_,_,h=>by cases h;rfl
 |r::p,x,y,⟨m,t,e,h⟩=>by
  rw[k5];exact(h.rev a).app ⟨m,x,Y8 (a r m) e,rfl⟩
theorem Ft.symm{F:O dN}(a:∀r∈F,r.2.1≠r.2.2.1){x y:AJ}:Ft F x y->Ft F y x:=λ⟨p,h⟩=>⟨_,h.rev a⟩
theorem Ft.trans{F:O dN}{z:AJ}:Ft F x y->Ft F y z->Ft F x z:=λ⟨_,h⟩ ⟨_,h'⟩=>⟨_,h.app h'⟩
theorem Tr.mono{F G:O dN}:∀{p:O dN} {x y:AJ},Tr F x p y->(∀r∈p,r∈G)->Tr G x p y
 |[],_,_,h,_=>h
 |r::p,_,_,⟨_,t,e,h⟩,hg=>⟨hg r (zh ..),t,e,h.mono λz a=>hg z (zi _ a)⟩
theorem Tr.mem{F:O dN}:∀{p:O dN} {x y:AJ},Tr F x p y->∀r∈p,r∈F
 |[],_,_,_,_,h=>by cases h
 |r::p,_,_,⟨m,_,_,h⟩,z,a=>by
  rcases List.mem_cons.mp a with rfl|a
  ·exact m
  ·exact h.mem z a
theorem BO{P:O α->Prop}(h0:P [])(h1:∀l x,P l->P (l++[x]))(l:O α):P l:=by
 have:∀m:O α,P m.reverse:=λm=>by
  induction m with
  |nil=>exact h0
  |cons x m a=>rw[k5];exact h1 _ x a
 have:=this l.reverse;rwa [List.reverse_reverse]at this
theorem Hd.hb(nd:n_.Nodup)(b:n_.length<1000){rs:O dN}:Rs n_ rs->Hd n_ (hb n_ rs):=by
 induction rs using BO with
 |h0=>intro _;exact G' nd b
 |h1 rs r d=>
  intro a;obtain⟨e,f⟩:=a r (by simp);rw[zy];exact(d λz c=>a z (z5 _ c)).join e f
theorem gp(nd:n_.Nodup)(f:n_.length<1000){pre:O dN}:∀{a:O dN},Rs n_ (pre++a)->∀x∈n_,∀y∈n_,look (hb n_ pre) x=look (hb n_ pre) y->look (hb n_ (pre++a)) x=look (hb n_ (pre++a)) y:=λ{a}=>by
 induction a using BO with
 |h0=>intro _ x hx y b e;rw[qr];exact e
 |h1 a r h=>
  intro d x hx y b e;rw[<-qo]at d ⊢;have c:Rs n_ (pre++a):=λz g=>d z (z5 _ g);have H:=Hd.hb nd f c;rw[zy];unfold jb;rw[H.uw hx,H.uw b,h c x hx y b e]
theorem Vg(nd:n_.Nodup)(f:n_.length<1000){rs:O dN}(d:Rs n_ rs){r:dN}(h:r∈rs):look (hb n_ rs) r.2.1=look (hb n_ rs) r.2.2.1:=by
 obtain⟨a,b,rfl⟩:=List.append_of_mem h;have j:Rs n_ ((a++[r])++b):=λz c=>d z (by simpa using c);obtain⟨g,i⟩:=d r h;have e:a++r::b=(a++[r])++b:=by simp
 rw[e];refine gp nd f j _ g _ i ?_;have H:=Hd.hb nd f (rs:=a) λz c=>d z (z5 _ c);rw[zy];unfold jb;rw[H.uw g,H.uw i];unfold jn;rw[zr (.inl S),zr (.inr S)]
theorem Vh{n_:AZ}(nd:n_.Nodup)(b:n_.length<1000){F:O dN}(a:Rs n_ F):∀{p:O dN} {x y:AJ},Tr F x p y->look (hb n_ F) x=look (hb n_ F) y
 |[],_,_,h=>by cases h;rfl
 |r::p,_,_,⟨m,t,e,h⟩=>by
  rw[<-Vh nd b a h];have:=Vg nd b a m;rcases rK e with⟨h1,h2⟩|⟨h1,h2⟩
  ·rw[<-h1,<-h2];exact this
  ·rw[<-h1,<-h2];exact this.symm
theorem NG(n_:AZ):∀(rs:O dN) (m:O (AJ×AJ)),Rs n_ rs->Hd n_ m →
  nC (λ(a:(O (AJ×AJ))) (q1:aB)=>(g8 a q1)) (λ(a:(O (AJ×AJ))) (q1:aB)=>Z (uN a q1)) rs m/\rs.foldl (λ(a:(O (AJ×AJ))) (q1:aB)=>(g8 a q1)) m=rs.foldl jb m/\Hd n_ (rs.foldl jb m)
 |[],m,_,h=>⟨trivial,rfl,h⟩
 |r::rs,m,hr,h=>by
  obtain⟨b,hb⟩:=hr r (zh ..);obtain⟨d,e⟩:=Y6 (look m r.2.1) (look m r.2.2.1) h.kn h.ml;have e:g8 m r=jb m r:=e;obtain⟨i1,i2,c⟩:=NG n_ rs (jb m r) (λx hx=>hr x (zi _ hx)) (h.join b hb);refine⟨⟨⟨⟨h.has b,h.has hb⟩,d⟩,?_⟩,?_,c⟩
  ·show nC _ _ rs (g8 m r);rw[e];exact i1
  ·rw[QN,QN,e];exact i2
theorem RD(nd:n_.Nodup)(a:n_.length<1000){rs:O dN}(c:Rs n_ rs):wJ n_ rs/\mQ n_ rs=hb n_ rs/\Hd n_ (hb n_ rs):=by
 obtain⟨i1,i2,b⟩:=NG n_ rs _ c (G' nd a);exact⟨⟨(ur n_ nd a).1,i1⟩,i2,b⟩
theorem Me{n_:AZ}(nd:n_.Nodup)(a:n_.length<1000):∀(rs:O dN) (m:O (AJ×AJ)),Rs n_ rs->Hd n_ m->DF n_ m->DF n_ (rs.foldl jb m)
 |[],m,_,_,l=>l
 |r::rs,m,hr,h,l=>by
  obtain⟨b,hb⟩:=hr r (zh ..);exact Me nd a rs (jb m r) (λx hx=>hr x (zi _ hx)) (h.join b hb) (l.jb h r)
theorem ME(h:Hd n_ m)(z:AJ):qb m z/\mq m z=n_.filter λy=>decide (look m y=z):=by
 have l:=h.len;refine⟨⟨by rw[h.keys];omega,λy a=>h.has (by rw[<-h.keys];exact a)⟩,?_⟩;unfold mq;rw[h.keys];exact jI _
def pt(n_:AZ)(m:O (AJ×AJ))(x:AJ):AZ:=n_.filter λy=>decide (look m y=look m x)
def st(n_:AZ)(m:O (AJ×AJ)):O AZ:=(n_.filter λw=>decide (look m w=w)).map (pt n_ m)
theorem Ie(h:Hd n_ m):jq m/\fB m=st n_ m:=by
 have l:=h.len;refine⟨⟨by rw[h.keys];omega,λw a=>⟨h.has (by rw[<-h.keys];exact a),λ_=>(ME h w).1⟩⟩,?_⟩;unfold fB st;rw[h.keys];refine Qr λw a=>?_;have e:look m w=w:=qk (List.mem_filter.mp a).2;rw[(ME h w).2];unfold pt;rw[e]
theorem Xp(r:dN):bM r r.2.1=Z r.2.2.1:=by
 unfold bM;rw[Zs rfl,zr rfl]
theorem Ft.more{F G:O dN}(h:∀r∈F,r∈G):Ft F x y->Ft G x y:=λ⟨p,t⟩=>⟨p,t.mono λz a=>h z (t.mem z a)⟩
theorem bp(nd:N.Nodup)(j:N.length<1000){rs:O dN}:Rs N rs->(∀r∈rs,r.2.1≠r.2.2.1)->∀x∈N,∀y∈N,look (hb N rs) x=look (hb N rs) y->Ft rs x y:=by
 induction rs using BO with
 |h0=>
  intro _ _ x hx y c h;have e:hb N []=bQ N:=rfl;rw[e,(ur N nd j).2,pJ nd hx,pJ nd c]at h;exact⟨[],h⟩
 |h1 rs r b=>
  intro g f x hx y c h;have i:Rs N rs:=λz a=>g z (z5 _ a);have b:=b i λz a=>f z (z5 _ a);have H:=Hd.hb nd j i;have n:r∈rs++[r]:=by simp
  obtain⟨p,rb⟩:=g r n;rw[zy]at h;unfold jb at h;rw[H.uw hx,H.uw c]at h;have d:∀{u v:AJ},Ft rs u v->Ft (rs++[r]) u v:=Ft.more λz a=>z5 _ a;have o:Ft (rs++[r]) r.2.1 r.2.2.1:=⟨[r],n,_,Xp r,rfl⟩;have m:∀u∈N,look (hb N rs) u=look (hb N rs) r.2.1\/look (hb N rs) u=look (hb N rs) r.2.2.1->Ft (rs++[r]) u r.2.1:=λu l z=>by
   rcases z with z|z
   ·exact d (b u l _ p z)
   ·exact(d (b u l _ rb z)).trans (o.symm f)
  by_cases px:look (hb N rs) x=look (hb N rs) r.2.1\/look (hb N rs) x=look (hb N rs) r.2.2.1<;>by_cases py:look (hb N rs) y=look (hb N rs) r.2.1\/look (hb N rs) y=look (hb N rs) r.2.2.1
  ·exact(m x hx px).trans ((m y c py).symm f)
  ·unfold jn at h;rw[zr px,zD py]at h;rcases K6 (look (hb N rs) r.2.1) (look (hb N rs) r.2.2.1)with e|e
   ·exact absurd (.inl (h.symm.trans e)) py
   ·exact absurd (.inr (h.symm.trans e)) py
  ·unfold jn at h;rw[zD px,zr py]at h;rcases K6 (look (hb N rs) r.2.1) (look (hb N rs) r.2.2.1)with e|e
   ·exact absurd (.inl (h.trans e)) px
   ·exact absurd (.inr (h.trans e)) px
  ·unfold jn at h;rw[zD px,zD py]at h;exact d (b x hx y c h)
theorem Ig(nd:N.Nodup)(b:N.length<1000){rs:O dN}(a:Rs N rs)(c:∀r∈rs,r.2.1≠r.2.2.1)(hx:x∈N)(d:y∈N):look (hb N rs) x=look (hb N rs) y↔Ft rs x y:=
 ⟨bp nd b a c x hx y d,λ⟨_,t⟩=>Vh nd b a t⟩
theorem EW{α:Type}[DecidableEq α]:∀{xs ys:O α},xs.Nodup->(∀x∈xs,x∈ys)->xs.length<=ys.length
 |[],_,_,_=>QU _
 |x::xs,ys,nd,h=>by
  obtain⟨b,c⟩:=List.nodup_cons.mp nd;have hx:=h x (zh ..);have:=EW (ys:=ys.erase x) c λz a=>(k7 (λe:z=x=>b (e▸a))).mpr (h z (zi _ a));rw[List.length_erase_of_mem hx]at this;have:=KW hx;rw[ZZ];omega
abbrev Cm:=O (AJ×(Y aB))
inductive Bk (F:List dN) (s:Str):Cm->Prop
 |base:Bk F s [(s,none)]
 |snoc {L:Cm} {x:Str} {r:dN} {y:Str}:Bk F s L->x∉L.map (·.1)->r∈F->bM r x=some y->y∈L.map (·.1)->Bk F s (L++[(x,some r)])
theorem Bk.facts{F:O dN}{s:AJ}(e:Rs n_ F)(hs:s∈n_){L:Cm}(h:Bk F s L):(L.map (·.1)).Nodup/\(∀x∈L.map (·.1),x∈n_)/\s∈L.map (·.1):=by
 induction h with
 |base=>exact⟨List.nodup_cons.mpr ⟨λz=>(by cases z),Jn⟩,λx hx=>by cases List.mem_singleton.mp hx;exact hs,List.mem_singleton.mpr rfl⟩
 |@snoc L x r y h hx m o i f=>
  obtain⟨i1,i2,g⟩:=f;rw[ZT];refine⟨List.nodup_append.mpr ⟨i1,List.nodup_cons.mpr ⟨λz=>(by cases z),Jn⟩,λa d b hb z=>?_⟩,λz c=>?_,z5 _ g⟩
  ·cases List.mem_singleton.mp hb;have z:a=x:=z;rw[z]at d;exact hx d
  ·rcases List.mem_append.mp c with c|c
   ·exact i2 z c
   ·cases List.mem_singleton.mp c;rcases rK o with⟨h1,_⟩|⟨h1,_⟩
    ·show x∈n_;rw[<-h1];exact(e r m).1
    ·show x∈n_;rw[<-h1];exact(e r m).2
theorem Bk.len{F:O dN}{s:AJ}(a:Rs n_ F)(hs:s∈n_){L:Cm}(h:Bk F s L):L.length<=n_.length:=by
 obtain⟨h1,h2,_⟩:=h.facts a hs;have:=EW h1 h2;rwa [zk]at this
theorem eQ{L:Cm}{v:Y dN}(h:x∉L.map (·.1)):put L x v=L++[(x,v)]:=by
 unfold put;rw[zD λz=>h (jJ.mp z)]
theorem DS{n_:AZ}{F:O dN}{s:AJ}(w:Rs n_ F)(hs:s∈n_)(x:n_.length<64)(v:∀r∈F,r.2.1≠r.2.2.1){here:AJ}:∀(R:O dN),(∀r∈R,r∈F)->∀(L:Cm) (q:AZ),Bk F s L->here∈L.map (·.1)->q.length<=L.length →
  nC (λ(i:Cm×AZ) (g:aB)=>(eV here i g)) (λ(i:Cm×AZ) (g:aB)=>Z (jf here i g)) R (L,q) ∧
  ∃a ad,R.foldl (λ(i:Cm×AZ) (g:aB)=>(eV here i g)) (L,q)=(a,q++ad)/\a.map (·.1)=L.map (·.1)++ad/\Bk F s a/\∀r∈R,∀y,bM r here=Z y->y∈a.map (·.1)
 |[],_,L,q,b,_,_=>⟨trivial,L,[],by rw[qr];rfl,by rw[qr],b,λr h=>(by cases h)⟩
 |r::R,hR,L,q,b,hh,hq=>by
  have u:=hR r (zh ..);have D:=b.len w hs;have o:∀(l:Cm) (a1:AZ),eV here (L,q) r=(l,q++a1)->jf here (L,q) r->l.map (·.1)=L.map (·.1)++a1->Bk F s l->(∀y,bM r here=Z y->y∈l.map (·.1))->(q++a1).length<=l.length->(nC (λ(i:Cm×AZ) (g:aB)=>(eV here i g)) (λ(i:Cm×AZ) (g:aB)=>Z (jf here i g)) (r::R) (L,q)/\∃a ad,(r::R).foldl (λ(i:Cm×AZ) (g:aB)=>(eV here i g)) (L,q)=(a,q++ad)/\a.map (·.1)=L.map (·.1)++ad/\Bk F s a/\∀z∈r::R,∀y,bM z here=Z y->y∈a.map (·.1)):=λl a1 e d k b1 c A=>by
   obtain⟨i1,a,ad,i2,p,C,B⟩:=DS w hs x v R (λz m=>hR z (zi _ m)) l (q++a1) b1 (by rw[k];exact z5 _ hh) A;refine⟨⟨d,by show nC _ _ R (eV here (L,q) r);rw[e];exact i1⟩,a,a1++ad,?_,?_,C,λz m y f=>?_⟩
   ·rw[QN,e,i2,qo]
   ·rw[p,k,qo]
   ·rcases List.mem_cons.mp m with rfl|m
    ·rw[p];exact z5 _ (c y f)
    ·exact B z m y f
  cases j:bM r here with
  |none=>
   refine o L [] ?_ ?_ (by rw[qr]) b (λy f=>by rw[j]at f;cases f) (by rw[qr];exact hq)
   ·unfold eV;dsimp only;rw[j,qr];rfl
   ·unfold jf;dsimp only;rw[j];exact⟨λz=>z,λz=>(by cases z)⟩
  |some t=>
   by_cases n:t∈L.map (·.1)
   ·have c:(!has L t)=false:=by rw[jJ.mpr n];rfl
    refine o L [] ?_ ?_ (by rw[qr]) b (λy f=>by rw[j]at f;cases f;exact n) (by rw[qr];exact hq)
    ·unfold eV;dsimp only;rw[j,qr,show(!has L ((Z t).getD default))=false from c];rfl
    ·unfold jf;dsimp only;rw[j,show(!has L ((Z t).getD default))=false from c];exact⟨λz=>z,λz=>(by cases z)⟩
   ·have c:(!has L t)=true:=by
     cases q:has L t with
     |false=>rfl
     |true=>exact absurd (jJ.mp q) n
    refine o (L++[(t,Z r)]) [t] ?_ ?_ (by rw[ZT];rfl) (.snoc b n u (Y8 (v r u) j) hh) (λy f=>by rw[j]at f;cases f;rw[ZT];exact ZA _ (List.mem_singleton.mpr S)) (by rw[zS,zS];show _+1<=_+1;omega)
    ·unfold eV;dsimp only;rw[j,show(!has L ((Z t).getD default))=true from c];show(put L t (Z r),q++[t])=_;rw[eQ n]
    ·unfold jf;dsimp only;rw[j];exact⟨λz=>z,λ_=>⟨⟨rfl,by omega⟩,rfl,mU (by show q.length<=1000;omega)⟩⟩
structure Iq (F:List dN) (s:Str) (q:AZ) (L:Cm):Prop where
 b:Bk F s L
 sub:∀x∈q,x∈L.map (·.1)
 len:q.length<=L.length
 cl:∀x∈L.map (·.1),x∉q->∀r∈F,∀y,bM r x=some y->y∈L.map (·.1)
theorem outer{n_:AZ}{F:O dN}{s:AJ}(g:Rs n_ F)(hs:s∈n_)(j:n_.length<64)(o:∀r∈F,r.2.1≠r.2.2.1):∀(n:Nat) (q:AZ) (L:Cm),Iq F s q L->n_.length-L.length+q.length<n->∃f,Iq F s [] f ∧
  Ov (λa:AZ×Cm=>(!a.1.isEmpty)) (λa:AZ×Cm=>((jg F a):sZ (AZ×Cm) (Y (O aB)))) n (q,L)=.nx ([],f) ∧
  De (λa:AZ×Cm=>(!a.1.isEmpty)) (λa:AZ×Cm=>U) (λa:AZ×Cm=>((jg F a):sZ (AZ×Cm) (Y (O aB)))) (λa:AZ×Cm=>Z (uq F a)) n (q,L)
 |0,_,_,_,h=>by omega
 |n+1,[],L,i,_=>⟨L,i,rfl,trivial,λz=>(by cases z)⟩
 |n+1,h::q,L,i,hm=>by
  have v:=i.sub h (zh ..);have u:=i.len;rw[ZZ]at u hm;obtain⟨d,f,ad,e,k,b,c⟩:=DS g hs j o (here:=h) F (λr h=>h) L q i.b v (by omega);have D:f.length=L.length+ad.length:=by
   have:=congrArg List.length k;rwa [zS,zk,zk]at this
  have C:=b.len g hs;have i':Iq F s (q++ad) f:=by
   refine⟨b,λx hx=>?_,by rw[zS];omega,λx hx l=>?_⟩
   ·rw[k];rcases List.mem_append.mp hx with hx|hx
    ·exact z5 _ (i.sub x (zi _ hx))
    ·exact ZA _ hx
   ·rw[k]at hx;rcases List.mem_append.mp hx with hx|hx
    ·by_cases m:x=h
     ·subst m;exact c
     ·intro r t y B;rw[k];refine z5 _ (i.cl x hx (λz=>?_) r t y B);rcases List.mem_cons.mp z with z|z
      ·exact m z
      ·exact l (z5 _ z)
    ·exact absurd (ZA _ hx) l
  have st:jg F (h::q,L)=.nx (q++ad,f):=by
   unfold jg;dsimp only;rw[show at' (h::q) (0:Int)=h from yw _ 0 (by simp),show(h::q).drop 1=q from rfl,e]
  obtain⟨p,i2,w,A⟩:=outer g hs j o n (q++ad) f i' (by rw[zS];omega);refine⟨p,i2,?_,trivial,λ_=>⟨?_,?_⟩⟩
  ·unfold Ov;rw[zr (show(!(h::q,L).1.isEmpty)=true from S),st];exact w
  ·show uq F (h::q,L);refine⟨⟨rfl,by show 0<(h::q).length;simp⟩,?_⟩;dsimp only;rw[show at' (h::q) (0:Int)=h from yw _ 0 (by simp)];exact d
  ·dsimp only;rw[st];exact A
theorem back{F:O dN}{s:AJ}(H:∀r∈F,r.2.1≠r.2.2.1){L:Cm}(h:Bk F s L):(L.map (·.1)).Nodup->∀x∈L.map (·.1),∃w,Tr F x w s/\w.Nodup/\(∀r∈w,r.2.1∈L.map (·.1)/\r.2.2.1∈L.map (·.1))/\w.length<L.length ∧
  ∀(a:Cm),(∀k∈L.map (·.1),look a k=look L k/\has a k=true)->∀(n:Nat) (c:O dN),w.length<n->c.length+w.length<=100 →
   Ov (λd:(O aB)×AJ=>(look a d.2).isSome) (λd:(O aB)×AJ=>((gk a d):sZ ((O aB)×AJ) (O aB))) n (c,x)=.nx (c++w,s) ∧
   De (λd:(O aB)×AJ=>(look a d.2).isSome) (λd:(O aB)×AJ=>Z (has a d.2=true)) (λd:(O aB)×AJ=>((gk a d):sZ ((O aB)×AJ) (O aB))) (λd:(O aB)×AJ=>Z (mz a d)) n (c,x):=by
 induction h with
 |base=>
  intro _ x hx;cases List.mem_singleton.mp hx;refine⟨[],rfl,Jn,λr h=>(by cases h),Nat.zero_lt_succ _,λa h2 n c i _=>?_⟩;obtain⟨l,g⟩:=h2 s (List.mem_singleton.mpr S);have l:look a s=U:=l.trans (Dl (pre:=[]) (AS:=[]) (λz=>by cases z));cases n with
  |zero=>cases i
  |succ n=>
   refine⟨?_,g,λz=>?_⟩
   ·unfold Ov;rw[zD (by show ¬ (look a s).isSome=true;rw[l];decide),qr]
   ·have z:(look a s).isSome=true:=z;rw[l]at z;cases z
 |@snoc L y r z b j m o t A=>
  intro nd x hx;rw[ZT]at nd hx ⊢;have v:=(List.nodup_append.mp nd).1;have u:∀k∈L.map (·.1),look (L++[(y,Z r)]) k=look L k:=λk e=>by
   have:=O1 e;have h1:(k,look L k)∈L++[(y,Z r)]:=z5 _ this;exact zx (m:=L++[(y,Z r)]) (by rw[ZT];exact nd) h1
  rcases List.mem_append.mp hx with hx|hx
  ·obtain⟨w,t1,t2,t3,D,p⟩:=A v x hx;refine⟨w,t1,t2,λq f=>⟨z5 _ (t3 q f).1,z5 _ (t3 q f).2⟩,by rw[zS];omega,λa h2=>p a λk e=>?_⟩;obtain⟨a1,a2⟩:=h2 k (z5 _ e);exact⟨a1.trans (u k e),a2⟩
  ·have ex:x=y:=List.mem_singleton.mp hx;subst ex;obtain⟨w,t1,t2,t3,D,p⟩:=A v z t;have E:r∉w:=λq=>by
    obtain⟨a1,a2⟩:=t3 r q;rcases rK o with⟨h1,_⟩|⟨h1,_⟩
    ·exact j (h1▸a1)
    ·exact j (h1▸a2)
   refine⟨r::w,⟨m,z,o,t1⟩,List.nodup_cons.mpr ⟨E,t2⟩,λq f=>?_,by rw[zS,ZZ];show _+1<_+1;omega,λa h2 n c i G=>?_⟩
   ·rcases List.mem_cons.mp f with rfl|f
    ·rcases rK o with⟨h1,h2⟩|⟨h1,h2⟩
     ·exact⟨ZA _ (by rw[h1];exact List.mem_singleton.mpr S),z5 _ (by rw[h2];exact t)⟩
     ·exact⟨z5 _ (by rw[h2];exact t),ZA _ (by rw[h1];exact List.mem_singleton.mpr S)⟩
    ·exact⟨z5 _ (t3 q f).1,z5 _ (t3 q f).2⟩
   ·obtain⟨l,g⟩:=h2 x (ZA _ (List.mem_singleton.mpr S));have l:look a x=Z r:=l.trans (Dl (pre:=L) (AS:=[]) j);rw[ZZ]at i G;cases n with
    |zero=>cases i
    |succ n=>
     have st:gk a (c,x)=.nx (c++[r],z):=by
      unfold gk;dsimp only;rw[l];show sZ.nx (c++[r],(bM r x).getD default)=_;rw[o];rfl
     obtain⟨C,B⟩:=p a (λk e=>by
      obtain⟨a1,a2⟩:=h2 k (z5 _ e);exact⟨a1.trans (u k e),a2⟩) n (c++[r]) (by omega) (by rw[zS];show _+1+_<=100;omega)
     refine⟨?_,g,λ_=>⟨?_,?_⟩⟩
     ·unfold Ov;rw[zr (by show(look a x).isSome=true;rw[l];rfl),st];show Ov _ _ n (c++[r],z)=_;rw[C,qo];rfl
     ·show mz a (c,x);unfold mz;dsimp only;rw[l];exact⟨⟨⟨g,rfl⟩,mU (by show c.length<=1000;omega)⟩,⟨g,rfl⟩,by show(bM r x).isSome=true;rw[o];rfl⟩
     ·dsimp only;rw[st];exact B
theorem ie{F:O dN}(f:Rs n_ F)(G:n_.length<64)(d:∀r∈F,r.2.1≠r.2.2.1){s e:AJ}(hs:s∈n_):yM F s e/\(∀p,qp F s e=Z p->Tr F s p e/\p.Nodup)/\(qp F s e=U->¬ Ft F s e):=by
 have B:Iq F s [s] [(s,U)]:=⟨.base,λx hx=>hx,zo _,λx hx C=>absurd hx C⟩;obtain⟨L,i,u,j⟩:=outer f hs G d 70 [s] [(s,U)] B (by show n_.length-1+1<70;omega);have J:0<n_.length:=KW hs;obtain⟨f1,f2,E⟩:=i.b.facts f hs;have K:=i.b.len f hs;have v:∀{p:O dN} {x y:AJ},Tr F x p y->x∈L.map (·.1)->y∈L.map (·.1):=by
  intro p
  induction p with
  |nil=>intro x y h hx;cases h;exact hx
  |cons r p D=>
   intro x y h hx;obtain⟨m,t,o,h⟩:=h;exact D h (i.cl x hx (λz=>by cases z) r m t o)
 unfold yM qp;dsimp only;rw[u];by_cases a:e∈L.map (·.1)
 ·have c:(!has L e)=false:=by rw[jJ.mpr a];rfl
  obtain⟨w,t1,t2,t3,I,H⟩:=back d i.b f1 e a;obtain⟨g,l⟩:=H L (λk n=>⟨rfl,jJ.mpr n⟩) 70 [] (by omega) (by show 0+_<=100;omega);have tb:jZ L e=w:=by
   unfold jZ;dsimp only;rw[g];rfl
  have A:sO L e:=by
   unfold sO;dsimp only;rw[g];exact⟨l,trivial⟩
  refine⟨⟨j,λ_=>A⟩,λp hp=>?_,λh=>?_⟩
  ·have hp:(if(!has L e)=true then U else(Z (jZ L e).reverse))=Z p:=hp;rw[c,zD (by decide),tb]at hp;cases hp;exact⟨t1.rev d,(List.reverse_perm w).nodup_iff.mpr t2⟩
  ·have h:(if(!has L e)=true then U else(Z (jZ L e).reverse))=U:=h;rw[c,zD (by decide)]at h;cases h
 ·have c:(!has L e)=true:=by
   cases q:has L e with
   |false=>rfl
   |true=>exact absurd (jJ.mp q) a
  refine⟨⟨j,λz=>?_⟩,λp hp=>?_,λ_ ⟨p,h⟩=>a (v h E)⟩
  ·rw[c]at z;cases z
  ·have hp:(if(!has L e)=true then U else(Z (jZ L e).reverse))=Z p:=hp;rw[c,zr rfl]at hp;cases hp
abbrev C5:=AJ×AJ×Int
def wt(L:O dN):Int:=(L.map λr:dN=>r.1).sum
theorem RG:wt []=0:=rfl
theorem fJ(r:dN)(L:O dN):wt (r::L)=r.1+wt L:=by unfold wt;rw[zl,j0]
theorem RI(A B:O dN):wt (A++B)=wt A+wt B:=by unfold wt;rw[ZT,List.sum_append_int]
theorem Ih{A B:O dN}(h:A.Perm B):wt A=wt B:=by
 induction h with
 |nil=>rfl
 |cons x _ a=>rw[fJ,fJ,a]
 |swap x y l=>rw[fJ,fJ,fJ,fJ];omega
 |trans _ _ i1 i2=>exact i1.trans i2
theorem RJ:∀{L:O dN},(∀r∈L,1<=r.1)->0<=wt L
 |[],_=>KB 0
 |r::L,h=>by
  have:=RJ (L:=L) λz a=>h z (zi _ a);have:=h r (zh ..);rw[fJ];omega
theorem RK:∀{A B:O dN},A.Nodup->(∀r∈A,r∈B)->(∀r∈B,1<=r.1)->wt A<=wt B
 |[],B,_,_,h=>RJ h
 |a::A,B,nd,hs,h=>by
  obtain⟨c,d⟩:=List.nodup_cons.mp nd;have hx:=hs a (zh ..);have:=RK (A:=A) (B:=B.erase a) d (λz b=>(k7 (λe:z=a=>c (e▸b))).mpr (hs z (zi _ b))) λr f=>h r (List.mem_of_mem_erase f);rw[Ih (yf hx),fJ,fJ];omega
theorem K8(p:dN->Bool):∀L:O dN,wt (L.filter p)+wt (L.filter λr=>!p r)=wt L
 |[]=>rfl
 |r::L=>by
  have:=K8 p L;cases h:p r with
  |true=>rw[KI h,KL (by rw[h];decide),fJ,fJ];omega
  |false=>rw[KL (by rw[h];decide),KI (by rw[h];rfl),fJ,fJ];omega
def lf(R C:O dN):O dN:=R.filter λx=>!qx x C
theorem oh{R C:O dN}{r:dN}:r∈lf R C↔r∈R/\r∉C:=by
 unfold lf;rw[kN,js,<-Bool.not_eq_true,lZ]
def Fe(R:O dN)(B:O C5)(C:O dN):Prop:=∀b∈B,¬ Ft (lf R C) b.1 b.2.1
structure Gb (N:AZ) (R:List dN) (B:List C5):Prop where
 nd:N.Nodup
 len:N.length<64
 rs:Rs N R
 ne:∀r∈R,r.2.1≠r.2.2.1
 rd:R.Nodup
 rl:R.length<64
 va:∀r∈R,1<=r.1/\r.1<=1000000
 bs:∀b∈B,(b.1∈N/\b.2.1∈N)/\b.1≠b.2.1
 bl:B.length<1000
variable{R:O dN}{B:O C5}
theorem Gb.l3(g:Gb N R B):N.length<1000:=by have:=g.len;omega
theorem ES{L:O dN}(c:L.length<=1000)(h:∀r∈L,1<=r.1/\r.1<=1000000):ni L:=by
 refine⟨by omega,?_⟩;unfold D2;rw[ZN,zC,zk,qB];refine⟨c,λk a=>?_⟩;obtain⟨r,b,rfl⟩:=List.mem_map.mp a;have:=h r b;exact Zs (show _/\_ by omega)
theorem Y9(g:Gb N R B)(C:O dN):∀f:O C5,(∀b∈f,b∈B) →
  Gh (λ(i:Unit) (a:cP)=>((cR (lf R C) (hb N (lf R C)) i a):sZ (Unit) (Y (O aB)))) (λ(i:Unit) (a:cP)=>Z (mF (lf R C) (hb N (lf R C)) i a)) f () ∧
  ((uH (λ(i:Unit) (a:cP)=>((cR (lf R C) (hb N (lf R C)) i a):sZ (Unit) (Y (O aB)))) f ()=.nx ()/\∀b∈f,¬ Ft (lf R C) b.1 b.2.1) ∨
   ∃p,uH (λ(i:Unit) (a:cP)=>((cR (lf R C) (hb N (lf R C)) i a):sZ (Unit) (Y (O aB)))) f ()=.rt (Z p)/\p.Nodup/\∃b∈B,Tr (lf R C) b.1 p b.2.1)
 |[],_=>⟨trivial,.inl ⟨rfl,λb h=>(by cases h)⟩⟩
 |b::f,hB=>by
  have sub:∀r∈lf R C,r∈R:=λr l=>(oh.mp l).1;have m:Rs N (lf R C):=λr l=>g.rs r (sub r l);have o:∀r∈lf R C,r.2.1≠r.2.2.1:=λr l=>g.ne r (sub r l);obtain⟨⟨n,t⟩,-⟩:=g.bs b (hB b (zh ..));have H:=Hd.hb g.nd g.l3 m;obtain⟨d,a1,a2⟩:=ie m g.len o (e:=b.2.1) n;have u:=Ig g.nd g.l3 m o n t;obtain⟨i1,i2⟩:=Y9 g C f λz j=>hB z (zi _ j);have s:mF (lf R C) (hb N (lf R C)) () b:=⟨⟨H.has n,H.has t⟩,λ_=>d⟩;by_cases c:look (hb N (lf R C)) b.1=look (hb N (lf R C)) b.2.1
  ·have st:cR (lf R C) (hb N (lf R C)) () b=.rt (qp (lf R C) b.1 b.2.1):=by
    unfold cR;rw[Zs c];rfl
   cases q:qp (lf R C) b.1 b.2.1 with
   |none=>exact absurd (u.mp c) (a2 q)
   |some p=>
    rw[q]at st;refine⟨⟨s,by dsimp only;rw[st];trivial⟩,.inr ⟨p,by unfold uH;rw[st],(a1 p q).2,b,hB b (zh ..),(a1 p q).1⟩⟩
  ·have st:cR (lf R C) (hb N (lf R C)) () b=.nx ():=by
    unfold cR;rw[Zp c];rfl
   refine⟨⟨s,by dsimp only;rw[st];exact i1⟩,?_⟩;rcases i2 with⟨e1,e2⟩|⟨p,e1,e2⟩
   ·refine .inl ⟨by unfold uH;rw[st];exact e1,λz j=>?_⟩;rcases List.mem_cons.mp j with rfl|j
    ·exact λw=>c (u.mpr w)
    ·exact e2 z j
   ·exact .inr ⟨p,by unfold uH;rw[st];exact e1,e2⟩
theorem OG(g:Gb N R B)(C:O dN):lN (N,R,B) C/\((fD (N,R,B) C=U/\Fe R B C)\/∃p,fD (N,R,B) C=Z p/\p.Nodup/\∃b∈B,Tr (lf R C) b.1 p b.2.1):=by
 have sub:∀r∈lf R C,r∈R:=λr a=>(oh.mp a).1;have e:Rs N (lf R C):=λr a=>g.rs r (sub r a);obtain⟨c,e1,-⟩:=RD g.nd g.l3 e;have c:jr N (lf R C):=c;have e1:d7 N (lf R C)=hb N (lf R C):=e1;obtain⟨i1,i2⟩:=Y9 g C B λb h=>h;have f:=g.rl;unfold lN fD;dsimp only;rw[jI];have d:(R.filter λvx:aB=>!qx vx C)=lf R C:=rfl;rw[d,e1];refine⟨⟨by omega,c,i1,?_⟩,?_⟩
 ·unfold vQ;split<;>trivial
 ·rcases i2 with⟨q1,q2⟩|⟨p,q1,q2⟩
  ·rw[q1];exact .inl ⟨rfl,q2⟩
  ·rw[q1];exact .inr ⟨p,rfl,q2⟩
theorem Mk(n:Nat)(g:cT)(b a:O dN)(c:Int):aO (n+1) g b (Z a) c=(if(decide (c<=wt a))=true then U else(let h:=(fD g a);(if h.isNone=true then Z a else(let d:=(((h.getD []).filter λvx:aB=>(!qx vx b)).map λvx:aB=>vx);(if(!(!d.isEmpty))=true then U else(let e:=(aO n g b (Z (a++(BE d U (Z 1)))) c);(let i:Int:=(if e.isSome=true then wt (e.getD default)else c);(let f:=(aO n g (b++(BE d U (Z 1))) (Z a) i);(if f.isNone=true then e else f))))))))):=rfl
theorem OX(n:Nat)(g:cT)(c a:O dN)(e:Int):cj (n+1) g c (Z a) e=(((Z a).isSome=true/\(gj a))/\((decide (e<=wt a))=false->(((Z a).isSome=true/\(lN g a))/\(let f:=(fD g a);(f.isNone=false->((f.isSome=true/\(f.getD []).length<=100000)/\(let b:=(((f.getD []).filter λvx:aB=>(!qx vx c)).map λvx:aB=>vx);((!(!b.isEmpty))=false->((((Z a).isSome=true/\Ek (a.length+(BE b U (Z 1)).length))/\(cj n g c (Z (a++(BE b U (Z 1)))) e))/\(let d:=(aO n g c (Z (a++(BE b U (Z 1)))) e);((d.isSome=true->(d.isSome=true/\(gj (d.getD default))))/\(let h:Int:=(if d.isSome=true then wt (d.getD default)else e);(Ek (c.length+(BE b U (Z 1)).length)/\(cj n g (c++(BE b U (Z 1))) (Z a) h)))))))))))))):=rfl
structure Cu (R:List dN) (B:List C5) (held cu C:List dN):Prop where
 nd:C.Nodup
 sub:∀r∈C,r∈R
 fe:Fe R B C
 co:∀r∈cu,r∈C
 av:∀r∈held,r∉C
theorem Su(x:α)(xs:O α):P1.BE (x::xs) U (Z 1)=[x]:=by
 have:=f' (xs:=x::xs) (k:=1) (by simp);exact this
theorem IZ(g:Gb N R B):∀(n:Nat) (f i:O dN) (m:Int),(f++i).Nodup->(∀r∈f++i,r∈R)->R.length<n+(f++i).length →
  cj n (N,R,B) f (Z i) m ∧
  (aO n (N,R,B) f (Z i) m=U->∀C,Cu R B f i C->m<=wt C) ∧
  (∀C,aO n (N,R,B) f (Z i) m=Z C->Cu R B [] [] C/\wt C<m/\∀j,Cu R B f i j->wt C<=wt j)
 |0,f,i,m,nd,sub,hl=>by
  have:=EW nd sub;omega
 |n+1,f,i,m,nd,sub,hl=>by
  obtain⟨nh,t,dj⟩:=List.nodup_append.mp nd;have u:∀r∈i,r∈R:=λr d=>sub r (ZA _ d);have al:=EW nd sub;have rl:=g.rl;rw[zS]at al hl;have v:∀{L:O dN},L.Nodup->(∀r∈L,r∈R)->gj L:=λ{L} n1 x=>by
   have:=EW n1 x;exact ES (by omega) λr d=>g.va r (x r d)
  have pos:∀r∈R,1<=r.1:=λr d=>(g.va r d).1;obtain⟨E,bo⟩:=OG g i;rw[Mk,OX];by_cases K:m<=wt i
  ·rw[Zs K];refine⟨⟨⟨rfl,v t u⟩,λz=>(by cases z)⟩,λ_ C l=>?_,λC z=>(by cases z)⟩;exact Int.le_trans K (RK t l.co λr d=>pos r (l.sub r d))
  rw[Zp K,zD (by decide)];rcases bo with⟨b1,b2⟩|⟨p,b1,b2,b,hb,b3⟩
  ·rw[b1];refine⟨⟨⟨rfl,v t u⟩,λ_=>⟨⟨rfl,E⟩,λz=>(by cases z)⟩⟩,λz=>(by cases z),λC z=>?_⟩;cases z;exact⟨⟨t,u,b2,λr h=>(by cases h),λr h=>(by cases h)⟩,by omega,λj l=>RK t l.co λr d=>pos r (l.sub r d)⟩
  ·rw[b1];dsimp only;rw[show(Z p).getD []=p from rfl,jI];have F:∀r∈p,r∈R/\r∉i:=λr d=>oh.mp (b3.mem r d);have a8:∀C,Cu R B f i C->∃r∈p,r∈C/\r∉f:=λC l=>by
    refine Classical.byContradiction λz=>l.fe b hb ⟨p,b3.mono λr d=>oh.mpr ⟨(F r d).1,λy=>z ⟨r,d,y,λw=>l.av r w y⟩⟩⟩
   have pl:=EW b2 λr d=>(F r d).1;cases hv:p.filter λvx:aB=>!qx vx f with
   |nil=>
    have no:∀C,¬ Cu R B f i C:=λC l=>by
     obtain⟨r,h1,h2,h3⟩:=a8 C l;have:r∈p.filter λvx:aB=>!qx vx f:=List.mem_filter.mpr ⟨h1,by
      cases q:qx r f with
      |false=>rfl
      |true=>exact absurd (lZ.mp q) h3⟩
     rw[hv]at this;cases this
    refine⟨⟨⟨rfl,v t u⟩,λ_=>⟨⟨rfl,E⟩,λ_=>⟨⟨rfl,by omega⟩,λz=>(by cases z)⟩⟩⟩,λ_ C l=>absurd l (no C),λC z=>(by cases z)⟩
   |cons c cs=>
    have I:=List.mem_filter.mp (show c∈p.filter λvx:aB=>!qx vx f by rw[hv];exact zh ..);have a2:c∉f:=λz=>by have:=I.2;rw[lZ.mpr z]at this;cases this
    have b0:=(F c I.1).2;have a4:=(F c I.1).1;rw[Su];have X:(f++(i++[c])).Nodup:=by
     rw[<-qo];refine List.nodup_append.mpr ⟨nd,List.nodup_cons.mpr ⟨λz=>(by cases z),Jn⟩,λa A b' a5 e=>?_⟩;cases List.mem_singleton.mp a5;rcases List.mem_append.mp A with A|A
     ·exact a2 (e▸A)
     ·exact b0 (e▸A)
    have a3:((f++[c])++i).Nodup:=by
     have:((f++[c])++i).Perm (f++(i++[c])):=by
      rw[qo];exact List.Perm.append_left _ List.perm_append_comm
     exact this.nodup_iff.mpr X
    have x:∀r∈f++(i++[c]),r∈R:=λr d=>by
     rw[<-qo]at d;rcases List.mem_append.mp d with d|d
     ·exact sub r d
     ·cases List.mem_singleton.mp d;exact a4
    have s2:∀r∈(f++[c])++i,r∈R:=λr d=>x r (by
     rcases List.mem_append.mp d with d|d
     ·rcases List.mem_append.mp d with d|d
      ·exact z5 _ d
      ·exact ZA _ (ZA _ d)
     ·exact ZA _ (z5 _ d))
    obtain⟨x1,x2,x3⟩:=IZ g n f (i++[c]) m X x (by rw[zS,zS];show _<_+(_+(_+1));omega);have split:∀j,Cu R B f i j->Cu R B f (i++[c]) j\/Cu R B (f++[c]) i j:=λj h=>by
     by_cases z:c∈j
     ·refine .inl ⟨h.nd,h.sub,h.fe,λr d=>?_,h.av⟩;rcases List.mem_append.mp d with d|d
      ·exact h.co r d
      ·cases List.mem_singleton.mp d;exact z
     ·refine .inr ⟨h.nd,h.sub,h.fe,h.co,λr d=>?_⟩;rcases List.mem_append.mp d with d|d
      ·exact h.av r d
      ·cases List.mem_singleton.mp d;exact z
    have a1:=λlm=>IZ g n (f++[c]) i lm a3 s2 (by rw[zS,zS];show _<_+((_+1)+_);omega);have a0:Ek (i.length+[c].length):=mU (by show _+1<=1000;omega);have W:Ek (f.length+[c].length):=mU (by show _+1<=1000;omega);cases hx:aO n (N,R,B) f (Z (i++[c])) m with
    |none=>
     obtain⟨y1,y2,M⟩:=a1 m;have P:=x2 hx;refine⟨⟨⟨rfl,v t u⟩,λ_=>⟨⟨rfl,E⟩,λ_=>⟨⟨rfl,by show p.length<=_;omega⟩,λ_=>⟨⟨⟨rfl,a0⟩,x1⟩,λz=>(by cases z),W,y1⟩⟩⟩⟩,?_,?_⟩
     ·intro z C l;have z:(if(aO n (N,R,B) (f++[c]) (Z i) m).isNone=true then U else aO n (N,R,B) (f++[c]) (Z i) m)=U:=z;cases o:aO n (N,R,B) (f++[c]) (Z i) m with
      |none=>exact(split C l).elim (P C) (y2 o C)
      |some D=>rw[o]at z;cases z
     ·intro C z;have z:(if(aO n (N,R,B) (f++[c]) (Z i) m).isNone=true then U else aO n (N,R,B) (f++[c]) (Z i) m)=Z C:=z;cases o:aO n (N,R,B) (f++[c]) (Z i) m with
      |none=>rw[o]at z;cases z
      |some D=>
       rw[o]at z;cases z;obtain⟨H,w2,G⟩:=M _ o;exact⟨H,w2,λj l=>(split j l).elim (λq=>by have:=P j q;omega) (G j)⟩
    |some s=>
     obtain⟨y1,y2,M⟩:=a1 (wt s);obtain⟨J,v2,Q⟩:=x3 _ hx;refine⟨⟨⟨rfl,v t u⟩,λ_=>⟨⟨rfl,E⟩,λ_=>⟨⟨rfl,by show p.length<=_;omega⟩,λ_=>⟨⟨⟨rfl,a0⟩,x1⟩,λ_=>⟨rfl,v J.nd J.sub⟩,W,y1⟩⟩⟩⟩,?_,?_⟩
     ·intro z C l;have z:(if(aO n (N,R,B) (f++[c]) (Z i) (wt s)).isNone=true then Z s else aO n (N,R,B) (f++[c]) (Z i) (wt s))=U:=z;cases o:aO n (N,R,B) (f++[c]) (Z i) (wt s)with
      |none=>rw[o]at z;cases z
      |some D=>rw[o]at z;cases z
     ·intro C z;have z:(if(aO n (N,R,B) (f++[c]) (Z i) (wt s)).isNone=true then Z s else aO n (N,R,B) (f++[c]) (Z i) (wt s))=Z C:=z;cases o:aO n (N,R,B) (f++[c]) (Z i) (wt s)with
      |none=>
       rw[o]at z;cases z;exact⟨J,v2,λj l=>(split j l).elim (Q j) (y2 o j)⟩
      |some D=>
       rw[o]at z;cases z;obtain⟨H,w2,G⟩:=M _ o;exact⟨H,by omega,λj l=>(split j l).elim (λq=>by have:=Q j q;omega) (G j)⟩
theorem Gb.sub(g:Gb N R B){R':O dN}(h:∀r∈R',r∈R):Rs N R'/\∀r∈R',r.2.1≠r.2.2.1:=⟨λr a=>g.rs r (h r a),λr a=>g.ne r (h r a)⟩
theorem Fl{C:O dN}:∀r∈lf R C,r∈R:=λr a=>(oh.mp a).1
def ct(g:cT):O dN:=(aO fuel g [] (Z []) (je g.2.1+1)).getD default
theorem YV(g:Gb N R B):Cu R B [] [] R:=by
 refine⟨g.rd,λr h=>h,λb hb ⟨p,t⟩=>?_,λr h=>(by cases h),λr h=>(by cases h)⟩;cases p with
 |nil=>exact(g.bs b hb).2 t
 |cons r p=>exact(oh.mp t.1).2 (oh.mp t.1).1
theorem Za(g:Gb N R B)(m:B=[]\/R.length<=12):qt (N,R,B)/\Cu R B [] [] (ct (N,R,B))/\(∀a,Cu R B [] [] a->wt (ct (N,R,B))<=wt a)/\dW (N,R,B)=st N (hb N (lf R (ct (N,R,B)))):=by
 have pos:∀r∈R,1<=r.1:=λr c=>(g.va r c).1;have x:=g.rl;have n:cj fuel (N,R,B) [] (Z []) (wt R+1)/\∃C,aO fuel (N,R,B) [] (Z []) (wt R+1)=Z C/\Cu R B [] [] C/\∀a,Cu R B [] [] a->wt C<=wt a:=by
  rcases m with e|c
  ·obtain⟨v,t⟩:=OG g [];have j:¬ wt R+1<=wt []:=by have:=RJ pos;rw[RG];omega
   have b1:fD (N,R,B) []=U/\Fe R B []:=by
    rcases t with b|⟨p,_,_,b,hb,_⟩
    ·exact b
    ·rw[e]at hb;cases hb
   show cj (31+1) (N,R,B) [] (Z []) (wt R+1)/\∃C,aO (31+1) (N,R,B) [] (Z []) (wt R+1)=Z C/\_;rw[Mk,OX,Zp j,b1.1];refine⟨⟨⟨rfl,ES (by decide) λr h=>(by cases h)⟩,λ_=>⟨⟨rfl,v⟩,λz=>(by cases z)⟩⟩,[],rfl,⟨Jn,λr h=>(by cases h),b1.2,λr h=>(by cases h),λr h=>(by cases h)⟩,λa s=>?_⟩;rw[RG];exact RJ λr c=>pos r (s.sub r c)
  ·obtain⟨x1,l,u⟩:=IZ g fuel [] [] (wt R+1) Jn (λr h=>(by cases h)) (by show R.length<32+0;omega);refine⟨x1,?_⟩;cases h:aO fuel (N,R,B) [] (Z []) (wt R+1)with
   |none=>have:=l h R (YV g);omega
   |some C=>
    obtain⟨y1,y2,w⟩:=u C h;exact⟨C,rfl,y1,w⟩
 obtain⟨d,C,e,c1,c2⟩:=n;have o:ct (N,R,B)=C:=by
  show(aO fuel (N,R,B) [] (Z []) (wt R+1)).getD default=C;rw[e];rfl
 rw[o];have q:=(g.sub (R':=lf R C) Fl).1;obtain⟨f,e1,h1⟩:=RD g.nd g.l3 q;have f:jr N (lf R C):=f;have e1:d7 N (lf R C)=hb N (lf R C):=e1;have i:=Ie h1;unfold qt dW;dsimp only;rw[jI,show je R=wt R from rfl,e];refine⟨⟨⟨ES (by omega) g.va,d⟩,⟨by omega,λ_ _=>S⟩,?_⟩,c1,c2,?_⟩
 ·show nY N (lf R C);refine⟨f,?_⟩;rw[e1];exact i.1
 ·show fB (d7 N (lf R C))=_;rw[e1];exact i.2
theorem gO:y∈pt N m x↔y∈N/\look m y=look m x:=by
 unfold pt;rw[kN,zC]
theorem Vi(h:look m x=look m y):pt N m x=pt N m y:=by
 unfold pt;rw[h]
theorem ig(h:Hd N m){p:AZ}:p∈st N m↔∃x∈N,p=pt N m x:=by
 unfold st;rw[KO];constructor
 ·rintro⟨w,a,rfl⟩;exact⟨w,(List.mem_filter.mp a).1,rfl⟩
 ·rintro⟨x,hx,rfl⟩;exact⟨look m x,List.mem_filter.mpr ⟨h.mem x hx,Zs (h.idem x hx)⟩,Vi (h.idem x hx)⟩
theorem ou(h:Hd N m):(st N m).flatten.Perm N:=by
 refine RB ?_ h.nd λx=>?_
 ·unfold List.Nodup;rw[List.pairwise_flatten];refine⟨λl c=>?_,?_⟩
  ·obtain⟨x,hx,rfl⟩:=(ig h).mp c;exact h.nd.filter _
  ·unfold st;rw[JY];refine JS (λ{a b} ha hb z x hx y d e=>z ?_) (h.nd.filter _);have a1:=qk (List.mem_filter.mp ha).2;have b1:=qk (List.mem_filter.mp hb).2;subst e;rw[<-a1,<-b1,<-(gO.mp hx).2,<-(gO.mp d).2]
 ·rw[List.mem_flatten];constructor
  ·rintro⟨l,c,hx⟩;obtain⟨y,d,rfl⟩:=(ig h).mp c;exact(gO.mp hx).1
  ·intro hx;exact⟨pt N m x,(ig h).mpr ⟨x,hx,rfl⟩,gO.mpr ⟨hx,rfl⟩⟩
theorem Vj(h:Hd N m)(x y:AJ):P1.same (st N m) x y↔x∈N/\y∈N/\look m x=look m y:=by
 constructor
 ·rintro⟨s,hs,hx,a⟩;obtain⟨z,b,rfl⟩:=(ig h).mp hs;have h1:=gO.mp hx;have h2:=gO.mp a;exact⟨h1.1,h2.1,h1.2.trans h2.2.symm⟩
 ·rintro⟨hx,a,e⟩;exact⟨pt N m x,(ig h).mpr ⟨x,hx,rfl⟩,gO.mpr ⟨hx,rfl⟩,gO.mpr ⟨a,e.symm⟩⟩
theorem K9(h:Hd N m){s:AZ}(hs:s∈st N m):s≠[]:=by
 obtain⟨x,hx,rfl⟩:=(ig h).mp hs;intro z;have:x∈pt N m x:=gO.mpr ⟨hx,rfl⟩;rw[z]at this;cases this
theorem Vk(so:N.Pairwise qN)(l:DF N m){n:AJ}(d:n∈N)(e:look m n=n):∃t,pt N m n=n::t:=by
 have a:n∈pt N m n:=gO.mpr ⟨d,rfl⟩;have hs:(pt N m n).Pairwise qN:=so.filter _;cases b:pt N m n with
 |nil=>rw[b]at a;cases a
 |cons y t=>
  have c:=gO.mp (show y∈pt N m n by rw[b];exact zh ..);have h1:qN n y:=by have:=l y c.1;rw[c.2,e]at this;exact this
  rw[b]at a hs;rcases List.mem_cons.mp a with e2|e2
  ·exact⟨t,by rw[e2]⟩
  ·have:=Jq h1 ((List.pairwise_cons.mp hs).1 n e2);exact⟨t,by rw[this]⟩
theorem UH{a b:AJ}{xs ys:AZ}(h:qN a b)(c:a≠b):LK (a::xs) (b::ys)=true:=by
 unfold LK S1.xW;show(!S1.qw (Sum.inr b::kT ys) (Sum.inr a::kT xs))=true;unfold S1.qw;rw[zD (λe=>c (Sum.inr.inj e).symm)];unfold S1.Ye;unfold qN at h;rw[ltCps_eq]at h;simpa using h
theorem LD(so:N.Pairwise qN)(h:Hd N m)(l:DF N m):Wd N (st N m):=by
 have d:=ou h;refine⟨λs hs=>K9 h hs,λs hs=>?_,d.nodup_iff.mpr h.nd,λx hx=>d.mem_iff.mp hx,?_⟩
 ·obtain⟨x,hx,rfl⟩:=(ig h).mp hs;exact so.filter _
 ·unfold st;rw[JY];have f:(N.filter λname:AJ=>decide (look m name=name)).Pairwise λa b=>qN a b/\a≠b:=(so.filter _).and (h.nd.filter _);refine JS ?_ f;intro a b c hb e;rw[kN,zC]at c hb;obtain⟨t1,e1⟩:=Vk so l c.1 c.2;obtain⟨t2,e2⟩:=Vk so l hb.1 hb.2;rw[e1,e2];exact UH e.1 e.2
theorem C9{α:Type}(f g:α->Int):∀ps:O α,(ps.map λp=>f p+g p).sum=(ps.map f).sum+(ps.map g).sum
 |[]=>rfl
 |p::ps=>by
  have:=C9 f g ps;rw[zl,zl,zl,j0,j0,j0];omega
theorem OV{α:Type}{f g:α->Int}:∀{ps:O α},(∀p∈ps,f p<=g p)->(ps.map f).sum<=(ps.map g).sum
 |[],_=>KB _
 |p::ps,h=>by
  have:=OV (f:=f) (g:=g) (ps:=ps) λq a=>h q (zi _ a);have:=h p (zh ..);rw[zl,zl,j0,j0];omega
theorem OT{w:Int}{x:AJ}:∀{ps:O AZ},x∉ps.flatten->(ps.map λp=>if x∈p then w else 0).sum=0
 |[],_=>rfl
 |p::ps,h=>by
  rw[kb,List.mem_append]at h;rw[zl,j0,zD λz=>h (.inl z),OT λz=>h (.inr z)];rfl
theorem Ll{w:Int}{x:AJ}:∀{ps:O AZ},ps.flatten.Nodup->x∈ps.flatten->(ps.map λp=>if x∈p then w else 0).sum=w
 |[],_,h=>by cases h
 |p::ps,nd,h=>by
  rw[kb]at nd h;obtain⟨c,b,a⟩:=List.nodup_append.mp nd;rw[zl,j0];by_cases hx:x∈p
  ·rw[zr hx,OT λz=>a x hx x z rfl];omega
  ·rw[zD hx,Ll b ((List.mem_append.mp h).resolve_left hx)];omega
theorem zA{ps:O AZ}(nd:ps.flatten.Nodup):∀L:O dN,(∀r∈L,r.2.1∈ps.flatten)->wt L=(ps.map λp=>wt (L.filter λr=>decide (r.2.1∈p))).sum
 |[],_=>by
  have:∀b:O AZ,(b.map λp=>wt (([]:O dN).filter λr=>decide (r.2.1∈p))).sum=0:=λb=>by
   induction b with
   |nil=>rfl
   |cons p ps a=>
    rw[zl,j0,a];rfl
  rw[this];rfl
 |r::L,h=>by
  have a:=zA nd L λz c=>h z (zi _ c);have e:(ps.map λp=>wt ((r::L).filter λr=>decide (r.2.1∈p)))=ps.map λp=>(if r.2.1∈p then r.1 else 0)+wt (L.filter λr=>decide (r.2.1∈p)):=Qr λp _=>by
   by_cases hp:r.2.1∈p
   ·rw[KI (by simpa using hp),fJ,zr hp]
   ·rw[KL (by simpa using hp),zD hp];omega
  rw[e,C9,Ll nd (h r (zh ..)),fJ,a]
def Sd(S:AZ)(rs:O dN):Prop:=∀r∈rs,(r.2.1∈S/\r.2.2.1∈S)\/(r.2.1∉S/\r.2.2.1∉S)
theorem Zb{S:AZ}{F:O dN}(sd:Sd S F):∀{p:O dN} {x y:AJ},Tr F x p y->x∈S->Tr (F.filter λr=>decide (r.2.1∈S)) x p y/\y∈S
 |[],x,y,h,hx=>⟨h,by cases h;exact hx⟩
 |r::p,x,y,⟨m,t,e,h⟩,hx=>by
  rcases sd r m with⟨a,b⟩|⟨a,b⟩
  ·have c:t∈S:=by
    rcases rK e with⟨h1,h2⟩|⟨h1,h2⟩
    ·rw[<-h2];exact b
    ·rw[<-h2];exact a
   obtain⟨i1,i2⟩:=Zb sd h c;exact⟨⟨List.mem_filter.mpr ⟨m,Zs a⟩,t,e,i1⟩,i2⟩
  ·exfalso;rcases rK e with⟨h1,h2⟩|⟨h1,h2⟩
   ·exact a (h1▸hx)
   ·exact b (h1▸hx)
def ow(R:O dN)(B:O C5)(p:AZ):cT:=(p,R.filter (λr=>decide (r.2.1∈p)),B.filter λb=>decide (b.1∈p)&&decide (b.2.1∈p))
theorem ER{p:AZ}{r:dN}:r∈(ow R B p).2.1↔r∈R/\r.2.1∈p:=by
 show r∈R.filter _↔_;rw[kN,zC]
theorem Iy{p:AZ}{b:C5}:b∈(ow R B p).2.2↔b∈B/\b.1∈p/\b.2.1∈p:=by
 show b∈B.filter _↔_;rw[kN,ZN,zC,zC]
def Rm(N:AZ)(R:O dN)(B:O C5):Prop:=∀p∈st N (hb N R),(ow R B p).2.2=[]\/(p.length<=8/\(ow R B p).2.1.length<=12)
theorem Gb.hd(g:Gb N R B):Hd N (hb N R):=Hd.hb g.nd g.l3 g.rs
theorem Gb.sd(g:Gb N R B){p:AZ}(hp:p∈st N (hb N R)):Sd p R:=λr a=>by
 obtain⟨x,hx,rfl⟩:=(ig g.hd).mp hp;have j:=Vg g.nd g.l3 g.rs a;obtain⟨b,rb⟩:=g.rs r a;by_cases h:look (hb N R) r.2.1=look (hb N R) x
 ·exact .inl ⟨gO.mpr ⟨b,h⟩,gO.mpr ⟨rb,j▸h⟩⟩
 ·exact .inr ⟨λz=>h (gO.mp z).2,λz=>h (j.trans (gO.mp z).2)⟩
theorem Gb.own(g:Gb N R B){p:AZ}(hp:p∈st N (hb N R)):Gb p (ow R B p).2.1 (ow R B p).2.2:=by
 obtain⟨x,hx,e⟩:=(ig g.hd).mp hp;have fl:=Q1 (λy=>decide (look (hb N R) y=look (hb N R) x)) N;have f:=Q1 (λr:dN=>decide (r.2.1∈p)) R;have bl:=Q1 (λb:C5=>decide (b.1∈p)&&decide (b.2.1∈p)) B;have c:=g.len;have d:=g.rl;have l3:=g.bl;refine⟨by rw[e];exact g.nd.filter _,?_,λr a=>?_,λr a=>g.ne r (ER.mp a).1,g.rd.filter _,?_,λr a=>g.va r (ER.mp a).1,λb hb=>?_,?_⟩
 ·rw[e];exact KA fl c
 ·obtain⟨h1,h2⟩:=ER.mp a;rcases g.sd hp r h1 with z|z
  ·exact z
  ·exact absurd h2 z.1
 ·exact KA f d
 ·obtain⟨h1,h2⟩:=Iy.mp hb;exact⟨h2,(g.bs b h1).2⟩
 ·exact KA bl l3
def kp(N:AZ)(R:O dN)(B:O C5):O dN:=R.filter λr=>!qx r (ct (ow R B (pt N (hb N R) r.2.1)))
theorem Ax:∀r∈kp N R B,r∈R:=λr a=>(List.mem_filter.mp a).1
theorem UQ(g:Gb N R B){p:AZ}(hp:p∈st N (hb N R)):(kp N R B).filter (λr=>decide (r.2.1∈p))=lf (ow R B p).2.1 (ct (ow R B p)):=by
 obtain⟨x,hx,e⟩:=(ig g.hd).mp hp;unfold kp lf;show _=(R.filter λr:dN=>decide (r.2.1∈p)).filter _;rw[List.filter_filter,List.filter_filter];refine ja λr a=>?_;by_cases h:r.2.1∈p
 ·have:pt N (hb N R) r.2.1=p:=by
   rw[e]at h ⊢;exact Vi (gO.mp h).2
  rw[this];exact Bool.and_comm _ _
 ·rw[Zp h,KP,yA]
theorem La(g:Gb N R B){p:AZ}(hp:p∈st N (hb N R))(hx:x∈p):Ft (kp N R B) x y↔y∈p/\Ft (lf (ow R B p).2.1 (ct (ow R B p))) x y:=by
 rw[<-UQ g hp];constructor
 ·rintro⟨q,t⟩;obtain⟨h1,h2⟩:=Zb (λr a=>g.sd hp r (Ax r a)) t hx;exact⟨h2,q,h1⟩
 ·rintro⟨_,c⟩;exact c.more λr a=>(List.mem_filter.mp a).1
theorem Gb.agM(g:Gb N R B)(hx:x∈N):pt N (hb N R) x∈st N (hb N R)/\x∈pt N (hb N R) x:=⟨(ig g.hd).mpr ⟨x,hx,rfl⟩,gO.mpr ⟨hx,rfl⟩⟩
theorem Zc{p:AZ}(a:Rm N R B)(hp:p∈st N (hb N R)):(ow R B p).2.2=[]\/(ow R B p).2.1.length<=12:=(a p hp).imp id λz=>z.2
theorem NM(g:Gb N R B)(a:Rm N R B):∀b∈B,¬ Ft (kp N R B) b.1 b.2.1:=λb hb c=>by
 obtain⟨d,e⟩:=(g.bs b hb).1;obtain⟨hp,hx⟩:=g.agM d;obtain⟨h1,h2⟩:=(La g hp hx).mp c;obtain⟨-,c1,-⟩:=Za (g.own hp) (Zc a hp);exact c1.fe b (Iy.mpr ⟨hb,hx,h1⟩) h2
theorem XE{r:dN}:r∈lf R (kp N R B)↔r∈R/\r∈ct (ow R B (pt N (hb N R) r.2.1)):=by
 rw[oh];refine⟨λ⟨h1,h2⟩=>⟨h1,?_⟩,λ⟨h1,h2⟩=>⟨h1,λz=>?_⟩⟩
 ·refine Classical.byContradiction λz=>h2 (List.mem_filter.mpr ⟨h1,?_⟩);cases q:qx r (ct (ow R B (pt N (hb N R) r.2.1)))with
  |false=>rfl
  |true=>exact absurd (lZ.mp q) z
 ·have:=(List.mem_filter.mp z).2;rw[lZ.mpr h2]at this;cases this
theorem PF(g:Gb N R B)(m:Rm N R B){C:O dN}(d:Cu R B [] [] C):wt (lf R (kp N R B))<=wt C:=by
 have i:=ou g.hd;have nd:(st N (hb N R)).flatten.Nodup:=i.nodup_iff.mpr g.nd;have l:∀r∈R,r.2.1∈(st N (hb N R)).flatten:=λr a=>i.mem_iff.mpr (g.rs r a).1;rw[zA nd (lf R (kp N R B)) λr a=>l r (Fl r a),zA nd C λr a=>l r (d.sub r a)];refine OV λp hp=>?_;obtain⟨-,c1,c2,-⟩:=Za (g.own hp) (Zc m hp);have e:wt ((lf R (kp N R B)).filter λr=>decide (r.2.1∈p))=wt (ct (ow R B p)):=by
  refine Ih (RB ((g.rd.filter _).filter _) c1.nd λr=>?_);rw[kN,XE,zC];have j:r.2.1∈p->pt N (hb N R) r.2.1=p:=λh=>by
   obtain⟨x,hx,e⟩:=(ig g.hd).mp hp;rw[e]at h ⊢;exact Vi (gO.mp h).2
  constructor
  ·rintro⟨⟨h1,h2⟩,f⟩;rw[j f]at h2;exact h2
  ·intro h;obtain⟨h1,h2⟩:=ER.mp (c1.sub r h);refine⟨⟨h1,?_⟩,h2⟩;rw[j h2];exact h
 rw[e];refine c2 _ ⟨d.nd.filter _,λr a=>?_,λb hb c=>?_,λr h=>(by cases h),λr h=>(by cases h)⟩
 ·obtain⟨h1,h2⟩:=List.mem_filter.mp a;exact ER.mpr ⟨d.sub r h1,qk h2⟩
 ·refine d.fe b (Iy.mp hb).1 (c.more λr a=>?_);obtain⟨h1,h2⟩:=oh.mp a;obtain⟨f,n⟩:=ER.mp h1;exact oh.mpr ⟨f,λz=>h2 (List.mem_filter.mpr ⟨z,Zs n⟩)⟩
theorem Zd(g:Gb N R B):Rs N (kp N R B)/\∀r∈kp N R B,r.2.1≠r.2.2.1:=g.sub Ax
theorem Dm(g:Gb N R B)(hx:x∈N)(a:y∈N):look (hb N (kp N R B)) x=look (hb N (kp N R B)) y↔Ft (kp N R B) x y:=Ig g.nd g.l3 (Zd g).1 (Zd g).2 hx a
theorem Vl(g:Gb N R B):Hd N (hb N (kp N R B)):=Hd.hb g.nd g.l3 (Zd g).1
theorem WS(K:O dN)(a:K=R.filter λr=>qx r K):wt K+wt (lf R K)=wt R:=by
 have:=K8 (λr=>qx r K) R;rw[<-a]at this;exact this
theorem Ii(g:Gb N R B):kp N R B=R.filter λr=>qx r (kp N R B):=by
 conv=>lhs;unfold kp
 refine ja λr a=>?_;cases q:qx r (kp N R B)with
 |true=>exact(List.mem_filter.mp (lZ.mp q)).2
 |false=>
  cases z:(!qx r (ct (ow R B (pt N (hb N R) r.2.1))))with
  |false=>rfl
  |true=>
   have:r∈kp N R B:=List.mem_filter.mpr ⟨a,z⟩;rw[lZ.mpr this]at q;cases q
theorem IL(g:Gb N R B)(d:Rm N R B){r:dN}(i:r∈R):r∈kp N R B↔Ft (kp N R B) r.2.1 r.2.2.1:=by
 refine⟨λh=>⟨[r],h,_,Xp r,rfl⟩,λc=>Classical.byContradiction λu=>?_⟩;have fe:=NM g d;have D:Cu R B [] [] (R.filter λz=>!decide (look (hb N (kp N R B)) z.2.1=look (hb N (kp N R B)) z.2.2.1)):=by
  refine⟨g.rd.filter _,λz a=>(List.mem_filter.mp a).1,λb hbB ⟨p,t⟩=>?_,λr h=>(by cases h),λr h=>(by cases h)⟩;obtain⟨H,l⟩:=(g.bs b hbB).1;refine fe b hbB ((Dm g H l).mp ?_);have n:∀{p:O dN} {x y:AJ},Tr (lf R (R.filter λz=>!decide (look (hb N (kp N R B)) z.2.1=look (hb N (kp N R B)) z.2.2.1))) x p y->look (hb N (kp N R B)) x=look (hb N (kp N R B)) y:=by
   intro p
   induction p with
   |nil=>intro x y t;cases t;rfl
   |cons z p E=>
    intro x y t;obtain⟨m,t1,o,t2⟩:=t;obtain⟨j,v⟩:=oh.mp m;have e:look (hb N (kp N R B)) z.2.1=look (hb N (kp N R B)) z.2.2.1:=Classical.byContradiction λq=>v (List.mem_filter.mpr ⟨j,by rw[Zp q];rfl⟩);rw[<-E t2];rcases rK o with⟨h1,h2⟩|⟨h1,h2⟩
    ·rw[<-h1,<-h2];exact e
    ·rw[<-h1,<-h2];exact e.symm
  exact n t
 have h1:=PF g d D;have pos:∀z∈lf R (kp N R B),1<=z.1:=λz a=>(g.va z (Fl z a)).1;have f:r∈lf R (kp N R B):=oh.mpr ⟨i,u⟩;obtain⟨F,rb⟩:=g.rs r i;have h2:wt (R.filter λz=>!decide (look (hb N (kp N R B)) z.2.1=look (hb N (kp N R B)) z.2.2.1))<=wt ((lf R (kp N R B)).erase r):=by
  refine RK (g.rd.filter _) (λz a=>?_) λz a=>pos z (List.mem_of_mem_erase a);obtain⟨z1,z2⟩:=List.mem_filter.mp a;have A:z≠r:=λe=>by
   subst e;rw[Zs ((Dm g F rb).mpr c)]at z2;cases z2
  refine(k7 A).mpr (oh.mpr ⟨z1,λw=>?_⟩);obtain⟨C,G⟩:=g.rs z z1;rw[Zs ((Dm g C G).mpr ⟨[z],w,_,Xp z,rfl⟩)]at z2;cases z2
 have s:=Ih (yf f);rw[fJ]at s;have:=pos r f;omega
def wf[DecidableEq α](f:AJ->α)(R:O dN):Int:=wt (R.filter λr=>decide (f r.2.1=f r.2.2.1))
theorem yN(g:Gb N R B)(l:Rm N R B)[DecidableEq α](f:AJ->α)(j:∀b∈B,f b.1≠f b.2.1):wf f R<=wt (kp N R B):=by
 have i:Cu R B [] [] (R.filter λz=>!decide (f z.2.1=f z.2.2.1)):=by
  refine⟨g.rd.filter _,λz n=>(List.mem_filter.mp n).1,λb hb ⟨p,t⟩=>j b hb ?_,λr h=>(by cases h),λr h=>(by cases h)⟩;have c:∀{p:O dN} {x y:AJ},Tr (lf R (R.filter λz=>!decide (f z.2.1=f z.2.2.1))) x p y->f x=f y:=by
   intro p
   induction p with
   |nil=>intro x y t;cases t;rfl
   |cons z p s=>
    intro x y t;obtain⟨m,t1,o,t2⟩:=t;obtain⟨a,d⟩:=oh.mp m;have e:f z.2.1=f z.2.2.1:=Classical.byContradiction λq=>d (List.mem_filter.mpr ⟨a,by rw[Zp q];rfl⟩);rw[<-s t2];rcases rK o with⟨h1,h2⟩|⟨h1,h2⟩
    ·rw[<-h1,<-h2];exact e
    ·rw[<-h1,<-h2];exact e.symm
  exact c t
 have h1:=PF g l i;have h2:=WS (kp N R B) (Ii g);have u:=K8 (λz=>decide (f z.2.1=f z.2.2.1)) R;unfold wf;omega
theorem O4(g:Gb N R B)(b:Rm N R B):wf (look (hb N (kp N R B))) R=wt (kp N R B):=by
 unfold wf;have:(R.filter λr=>decide (look (hb N (kp N R B)) r.2.1=look (hb N (kp N R B)) r.2.2.1))=kp N R B:=by
  conv=>rhs;rw[Ii g]
  refine ja λr a=>?_;obtain⟨c,rb⟩:=g.rs r a;rw[QQ,zC,Dm g c rb,lZ,IL g b a]
 rw[this]
theorem MH{β:Type}:∀(a m:O (AJ×β)),((m++a).map (·.1)).Nodup->a.foldl (λm q=>put m q.1 q.2) m=m++a
 |[],m,_=>by simp
 |q::a,m,nd=>by
  have b:¬ has m q.1=true:=λe=>by
   rw[ZT,zl,ka]at nd;exact nd.2.2 _ (jJ.mp e) _ (zh ..) rfl
  have e:put m q.1 q.2=m++[q]:=by unfold put;rw[zD b]
  rw[QN,e,MH a (m++[q]) (by rw[qo];exact nd),qo];rfl
theorem fA{xs:O α}{q:Int×α}:q∈yq xs↔∃k:Nat,q.1=(k:Int)/\xs[k]?=Z q.2:=by
 unfold yq;rw[List.mem_iff_getElem?];constructor
 ·rintro⟨k,h⟩;rw[K2]at h;by_cases c:k<xs.length
  ·rw[kD c,Zl c]at h;simp only[Option.some.injEq]at h;subst h;exact⟨k,rfl,Zl c⟩
  ·rw[qq (l:=xs) (by omega)]at h;cases d:(List.range xs.length)[k]?<;>rw[d]at h<;>simp at h
 ·rintro⟨k,e,h⟩;obtain⟨c,e2⟩:=List.getElem?_eq_some_iff.mp h;refine⟨k,?_⟩;rw[K2,kD c,h];obtain⟨a,b⟩:=q;simp only at e;rw[e]
theorem ia(xs:O α):(yq xs).map (·.2)=xs:=by
 unfold yq;refine List.ext_getElem? λk=>?_;rw[ZE,K2];by_cases a:k<xs.length
 ·rw[kD a,Zl a];rfl
 ·rw[qq (l:=xs) (by omega)];cases(List.range xs.length)[k]?<;>rfl
structure Pt (n_:AZ) (sets:List AZ):Prop where
 ne:∀s∈sets,s≠[]
 so:∀s∈sets,s.Pairwise qN
 pm:sets.flatten.Perm n_
def HP(sets:O AZ):O (AJ×Int):=(yq sets).flatMap λq1:(Int×AZ)=>(q1.2.map λa:AJ=>(a,q1.1))
theorem Ij(sets:O AZ):(HP sets).map (·.1)=sets.flatten:=by
 have:∀es:O (Int×AZ),(es.flatMap λq1:(Int×AZ)=>(q1.2.map λb:AJ=>(b,q1.1))).map (·.1)=(es.map (·.2)).flatten:=λes=>by
  induction es with
  |nil=>rfl
  |cons q es a=>
   rw[kc,ZT,a,zl,kb,qh];congr 1;exact jI _
 unfold HP;rw[this,ia]
section
variable{sets:O AZ}(Vu:Pt n_ sets)(nd:n_.Nodup)
include Vu nd
theorem Pt.fn:sets.flatten.Nodup:=Vu.pm.nodup_iff.mpr nd
theorem Vm:gM sets=HP sets:=by
 have:=MH (HP sets) [] (by rw[Kn,Ij];exact Vu.fn nd);rw[Kn]at this;exact this
theorem Vn{k:Nat}{s:AZ}(a:sets[k]?=Z s)(hx:x∈s):look (gM sets) x=(k:Int):=by
 rw[Vm Vu nd];have:(x,(k:Int))∈HP sets:=List.mem_flatMap.mpr ⟨((k:Int),s),fA.mpr ⟨k,rfl,a⟩,List.mem_map.mpr ⟨x,hx,rfl⟩⟩;exact zx (by rw[Ij];exact Vu.fn nd) this
theorem O5(hx:x∈n_)(p:y∈n_):look (gM sets) x=look (gM sets) y↔P1.same sets x y:=by
 obtain⟨s,hs,xs⟩:=List.mem_flatten.mp (Vu.pm.mem_iff.mpr hx);obtain⟨t,h,b⟩:=List.mem_flatten.mp (Vu.pm.mem_iff.mpr p);obtain⟨i,hi⟩:=List.mem_iff_getElem?.mp hs;obtain⟨j,a⟩:=List.mem_iff_getElem?.mp h;rw[Vn Vu nd hi xs,Vn Vu nd a b];constructor
 ·intro e;have:i=j:=by omega
  subst this;rw[hi]at a;cases a;exact⟨s,hs,xs,b⟩
 ·rintro⟨u,f,o,m⟩;have e1:=Ia (Vu.fn nd) hs f xs o;have e2:=Ia (Vu.fn nd) h f b m;subst e1 e2;have n:=Cp (Vu.fn nd) Vu.ne;have:i=j:=by
   obtain⟨c,g⟩:=List.getElem?_eq_some_iff.mp hi;obtain⟨l,d⟩:=List.getElem?_eq_some_iff.mp a;have pw:=List.pairwise_iff_getElem.mp n;rcases yY i j with z|z|z
   ·exact absurd (g.trans d.symm) (pw i j c l z)
   ·exact z
   ·exact absurd (d.trans g.symm) (pw j i l c z)
  rw[this]
theorem zB(hx:x∈n_):has (gM sets) x=true:=jJ.mpr (by rw[Vm Vu nd,Ij];exact Vu.pm.mem_iff.mpr hx)
theorem Ze(a:n_.length<64):sV sets:=by
 refine⟨λ_ _ _ _=>trivial,?_⟩;have:(HP sets).length=n_.length:=by rw[<-Vu.pm.length_eq,<-Ij,zk]
 show(HP sets).length<1000;omega
end
theorem Dp:∀{w:O AZ},(∀s∈w,s≠[])->w.length<=w.flatten.length
 |[],_=>QU _
 |s::w,h=>by
  have:=Dp λs hs=>h s (zi _ hs);have:=List.length_pos_iff.mpr (h s (zh ..));rw[kb,zS,ZZ];omega
theorem O6{α:Type}{step:Unit->α->Unit}{P:Unit->α->Y Prop}:∀(xs:O α),(∀x∈xs,hold (P () x))->nC step P xs ()
 |[],_=>trivial
 |x::xs,h=>⟨h x (zh ..),O6 xs λz a=>h z (zi _ a)⟩
theorem O7{α:Type}{g:O α->O (O α)}:∀{l:O (O α)},(∀p∈l,(g p).flatten.Perm p)->(l.flatMap g).flatten.Perm l.flatten
 |[],_=>.refl _
 |p::l,h=>by
  rw[kc,List.flatten_append,kb];exact(h p (zh ..)).append (O7 λq a=>h q (zi _ a))
theorem Gb.lst(g:Gb N R B){R':O dN}(h:∀r∈R',r∈R):DF N (hb N R'):=Me g.nd g.l3 R' _ (g.sub h).1 (G' g.nd g.l3) (VI g.nd g.l3)
theorem aS(g:Gb N R B)(so:N.Pairwise qN):nD ((st N (hb N R)).flatMap λp=>st p (hb p (lf (ow R B p).2.1 (ct (ow R B p)))))=st N (hb N (kp N R B))/\((st N (hb N R)).flatMap λp=>st p (hb p (lf (ow R B p).2.1 (ct (ow R B p))))).flatten.Perm N/\∀s∈((st N (hb N R)).flatMap λp=>st p (hb p (lf (ow R B p).2.1 (ct (ow R B p))))),s≠[]:=by
 have hd:∀p∈st N (hb N R),Hd p (hb p (lf (ow R B p).2.1 (ct (ow R B p)))):=λp hp=>Hd.hb (g.own hp).nd (g.own hp).l3 ((g.own hp).sub Fl).1;have ps:∀p∈st N (hb N R),p.Pairwise qN:=λp hp=>by
  obtain⟨x,hx,rfl⟩:=(ig g.hd).mp hp;exact so.filter _
 have fp:((st N (hb N R)).flatMap λp=>st p (hb p (lf (ow R B p).2.1 (ct (ow R B p))))).flatten.Perm N:=(O7 λp hp=>ou (hd p hp)).trans (ou g.hd);have j:∀s∈((st N (hb N R)).flatMap λp=>st p (hb p (lf (ow R B p).2.1 (ct (ow R B p))))),s≠[]:=λs hs=>by
  obtain⟨p,hp,hs⟩:=List.mem_flatMap.mp hs;exact K9 (hd p hp) hs
 refine⟨?_,fp,j⟩;have sp:=yh ((st N (hb N R)).flatMap λp=>st p (hb p (lf (ow R B p).2.1 (ct (ow R B p)))));have f:=sp.flatten.trans fp;have l:Wd N (nD ((st N (hb N R)).flatMap λp=>st p (hb p (lf (ow R B p).2.1 (ct (ow R B p)))))):=by
  refine⟨λs hs=>j s (sp.mem_iff.mp hs),λs hs=>?_,f.nodup_iff.mpr g.nd,λx hx=>f.mem_iff.mp hx,yj _⟩;obtain⟨p,hp,hs⟩:=List.mem_flatMap.mp (sp.mem_iff.mp hs);obtain⟨x,hx,rfl⟩:=(ig (hd p hp)).mp hs;exact(ps p hp).filter _
 have h:=Vl g;refine my l (LD so h (g.lst Ax)) (λx=>by rw[f.mem_iff,(ou h).mem_iff]) λx y=>?_;rw[Vj h];constructor
 ·rintro⟨s,hs,hx,i⟩;obtain⟨p,hp,hs⟩:=List.mem_flatMap.mp (sp.mem_iff.mp hs);obtain⟨a,b,e⟩:=(Vj (hd p hp) x y).mp ⟨s,hs,hx,i⟩;have o:=g.own hp;have q:=o.sub (R':=lf (ow R B p).2.1 (ct (ow R B p))) Fl;have c:=(Ig o.nd o.l3 q.1 q.2 a b).mp e;have d:∀z∈p,z∈N:=λz m=>by
   obtain⟨w,n,rfl⟩:=(ig g.hd).mp hp;exact(gO.mp m).1
  exact⟨d x a,d y b,(Dm g (d x a) (d y b)).mpr ((La g hp a).mpr ⟨b,c⟩)⟩
 ·rintro⟨hx,i,e⟩;obtain⟨hp,a⟩:=g.agM hx;obtain⟨b,c⟩:=(La g hp a).mp ((Dm g hx i).mp e);have o:=g.own hp;have q:=o.sub (R':=lf (ow R B (pt N (hb N R) x)).2.1 (ct (ow R B (pt N (hb N R) x)))) Fl;obtain⟨s,hs,h1,h2⟩:=(Vj (hd _ hp) x y).mpr ⟨a,b,(Ig o.nd o.l3 q.1 q.2 a b).mpr c⟩;exact⟨s,sp.mem_iff.mpr (List.mem_flatMap.mpr ⟨_,hp,hs⟩),h1,h2⟩
theorem Mo(so:N.Pairwise qN)(h:Hd N m):Pt N (st N m):=⟨λs hs=>K9 h hs,λs hs=>by
 obtain⟨x,hx,rfl⟩:=(ig h).mp hs;exact so.filter _,ou h⟩
theorem O8(so:N.Pairwise qN)(nd:N.Nodup)(d:N.length<64)(h:Hd N m){L:O dN}(b:Rs N L)(e:L.length<1000):iW (st N m) L/\cU (st N m) L=L.filter λr=>decide (look m r.2.1=look m r.2.2.1):=by
 have p:=Mo so h;refine⟨⟨Ze p nd d,by omega,λr a=>⟨zB p nd (b r a).1,zB p nd (b r a).2⟩⟩,?_⟩;unfold cU;rw[jI];refine ja λr a=>?_;obtain⟨c,rb⟩:=b r a;rw[QQ,zC,zC,O5 p nd c rb,Vj h];exact⟨λz=>z.2.2,λz=>⟨c,rb,z⟩⟩
theorem zF(g:Gb N R B)(so:N.Pairwise qN)(d:Rm N R B):d8 (N,R,B)/\bO (N,R,B)=(st N (hb N (kp N R B)),wt (kp N R B),wt R-wt (kp N R B)):=by
 obtain⟨v,e1,h1⟩:=RD g.nd g.l3 g.rs;obtain⟨d2,e2⟩:=Ie h1;have f:pF (N,R,B)=st N (hb N R):=by
  show fB (mQ N R)=_;rw[e1];exact e2
 have t:wL (N,R,B):=by
  refine⟨v,?_⟩;show jq (mQ N R);rw[e1];exact d2
 have D:iV (N,R,B)=(st N (hb N R)).map (ow R B):=by
  unfold iV;dsimp only;rw[f];refine Qr λp hp=>?_;rw[jI,jI];rfl
 have F:=g.rl;have bl:=g.bl;have E:=g.len;obtain⟨j,o,i⟩:=aS g so;have A:((st N (hb N R)).map (ow R B)).flatMap (λu:cT=>((dW u).map λe:AZ=>e))=(st N (hb N R)).flatMap λp=>st p (hb p (lf (ow R B p).2.1 (ct (ow R B p)))):=by
  rw[List.flatMap_map];have:∀ps:O AZ,(∀p∈ps,p∈st N (hb N R))->ps.flatMap (λa=>List.map (λe:AZ=>e) (dW (ow R B a)))=ps.flatMap λp=>st p (hb p (lf (ow R B p).2.1 (ct (ow R B p)))):=λps=>by
   induction ps with
   |nil=>intro _;rfl
   |cons p ps x=>
    intro h;rw[kc,kc,x λq b=>h q (zi _ b),jI];have hp:=h p (zh ..);have:=(Za (g.own hp) (Zc d hp)).2.2.2;rw[show dW (ow R B p)=_ from this];rfl
  exact this _ λp hp=>hp
 have sl:(st N (hb N R)).length<=N.length:=by
  have:=Dp (w:=st N (hb N R)) λs hs=>K9 g.hd hs;rw[(ou g.hd).length_eq]at this;exact this
 have fl:((st N (hb N R)).flatMap λp=>st p (hb p (lf (ow R B p).2.1 (ct (ow R B p))))).length<=N.length:=by
  have:=Dp i;rw[o.length_eq]at this;exact this
 obtain⟨m,C⟩:=O8 so g.nd g.len (Vl g) g.rs (by omega);have l:cU (st N (hb N (kp N R B))) R=kp N R B:=by
  rw[C]
  conv=>rhs;rw[Ii g]
  refine ja λr c=>?_;obtain⟨y,rb⟩:=g.rs r c;rw[QQ,zC,Dm g y rb,lZ,IL g d c]
 have I:(kp N R B).length<=R.length:=Q1 _ _;unfold d8 bO;dsimp only;rw[D,A,j,l];refine⟨⟨⟨⟨t,by rw[f];omega⟩,λp hp=>⟨by show R.length<=_;omega,by show B.length<=_;omega⟩⟩,O6 _ λq b=>?_,⟨⟨λq b=>⟨?_,λ_ _=>trivial⟩,by omega⟩,by omega,λs hs=>?_⟩,⟨m,ES (by omega) λr c=>g.va r (Ax r c)⟩,ES (by omega) g.va⟩,rfl⟩
 ·obtain⟨p,hp,rfl⟩:=List.mem_map.mp b;show _->False;intro z;rw[ZN,Kt,zC,zC]at z;rcases d p hp with n|⟨H,G⟩
  ·have z1:=z.1;rw[n]at z1;cases z1
  ·have:(ow R B p).1=p:=rfl;rw[this]at z;omega
 ·obtain⟨p,hp,rfl⟩:=List.mem_map.mp b;exact(Za (g.own hp) (Zc d hp)).1
 ·have:=i s hs;cases s with
  |nil=>exact absurd S this
  |cons _ _=>rfl
theorem qu(g:Gb N R B)(h1:N.length<=8)(h2:R.length<=12):Rm N R B:=λp hp=>by
 obtain⟨x,hx,rfl⟩:=(ig g.hd).mp hp;exact .inr ⟨ZO (Q1 _ _) h1,ZO (Q1 _ _) h2⟩
def CS(xs:O Int)(a:AJ)(at_:Int)(k:Int):AJ:=if(decide (((at' xs 3)%3)=1))=true then(Txt.mul (ch LT (k / (8:Int))) (1+(k%8)))else(((Txt.slice a U (Z at_))++(ch LT ((k+(at' xs 2))%15)))++(Txt.slice a (Z at_) U))
theorem Ay{α β:Type}(g:β->α):∀(l:O β) (f:O α),l.foldl (λf k=>f++[g k]) f=f++l.map g
 |[],f=>by simp
 |k::l,f=>by rw[QN,Ay g l];simp
theorem a7(xs:O Int)(a:Int):∃b at_,cN xs a=(rng 0 a.toNat).map (CS xs b at_):=by
 refine⟨_,_,(Ay (CS xs _ _) _ []).trans (Kn _)⟩
theorem Xq{a b m c:AJ}(h:(a++m)++b=(a++c)++b):m=c:=by
 have h:=congrArg (λs:AJ=>s.cps.toList) h;have h:((a.cps++m.cps)++b.cps).toList=((a.cps++c.cps)++b.cps).toList:=h;simp only[Array.toList_append]at h;have:=List.append_cancel_left (List.append_cancel_right h);cases m;cases c;congr 1;exact Array.ext' this
theorem Y1:∀i:Fin 30,∀j:Fin 30,Txt.mul (ch LT ((i.val:Int) / 8)) (1+(i.val:Int)%8)=Txt.mul (ch LT ((j.val:Int) / 8)) (1+(j.val:Int)%8)->i=j:=by decide +kernel
theorem cc:∀i:Fin 15,∀j:Fin 15,ch LT (i.val:Int)=ch LT (j.val:Int)->i=j:=by decide +kernel
theorem So{x y:Int}(hx:0<=x/\x<15)(a:0<=y/\y<15)(h:ch LT x=ch LT y):x=y:=by
 have:=cc ⟨x.toNat,by omega⟩ ⟨y.toNat,by omega⟩ (by
  show ch LT ((x.toNat:Nat):Int)=ch LT ((y.toNat:Nat):Int);rw[yn hx.1,yn a.1];exact h)
 have:=congrArg Fin.val this;have:x.toNat=y.toNat:=this;omega
theorem md{xs:O Int}{a:AJ}{at_:Int}(hi:i<15)(b:j<15)(h:CS xs a at_ i=CS xs a at_ j):i=j:=by
 unfold CS at h;by_cases e:(decide (((at' xs 3)%3)=1))=true
 ·rw[zr e,zr e]at h;exact congrArg Fin.val (Y1 ⟨i,by omega⟩ ⟨j,by omega⟩ h)
 ·rw[zD e,zD e]at h;have:=So (gU _ (by decide)) (gU _ (by decide)) (Xq h);omega
theorem MQ{g:Int->AJ}(h:∀i j:Nat,i<n->j<n->g i=g j->i=j):((rng 0 n).map g).Nodup:=by
 unfold rng;rw[qh];unfold List.Nodup;rw[JY];refine JS ?_ (Yf (n:=n));intro a b d hb c e;refine c (h a b (List.mem_range.mp d) (List.mem_range.mp hb) ?_);have e:g (0+(a:Int))=g (0+(b:Int)):=e;rwa [Int.zero_add,Int.zero_add]at e
theorem hJ(xs:O Int)(a:Int)(h:a<=15):(cN xs a).Nodup:=by
 obtain⟨c,at_,e⟩:=a7 xs a;rw[e];exact MQ λi j hi b=>md (by omega) (by omega)
def Lw(c:Nat):Prop:=97<=c/\c<=122
def Nm(s:AJ):Prop:=1<=s.length/\s.length<=8/\∀c∈cs s,Lw c
theorem i9(c:Nat)(n:Int)(h:1<=n):cs (Txt.mul ⟨#[c]⟩ n)=List.replicate n.toNat c:=by
 unfold Txt.mul;split
 ·omega
 split
 ·rename_i h;simp only[Kt,beq_iff_eq]at h;rcases h with h|h
  ·subst h;rfl
  ·cases h
 ·have:∀(k:Nat) (a:Array Nat),((List.replicate k (#[c]:Array Nat)).foldl (·++·) a).toList=a.toList++List.replicate k c:=by
   intro k
   induction k with
   |zero=>intro a;simp
   |succ k b=>
    intro a;rw[Ki,QN,b,Array.toList_append,Ki];simp
  exact(this _ _).trans (by simp)
theorem IY{i:Int}(h:0<=i/\i<26):ch LT i=⟨#[97+i.toNat]⟩:=by
 have:∀i:Fin 26,ch LT (i.val:Int)=⟨#[97+i.val]⟩:=by decide +kernel
 have:=this ⟨i.toNat,by omega⟩;rwa [show((⟨i.toNat,by omega⟩:Fin 26).val:Int)=i by show(i.toNat:Int)=i;omega]at this
theorem X0{i n:Int}(h:0<=i/\i<26)(h1:1<=n)(b:n<=8):Nm (Txt.mul (ch LT i) n):=by
 have e:=i9 (97+i.toNat) n h1;rw[<-IY h]at e;refine⟨?_,?_,λc a=>?_⟩
 ·rw[yD,e,List.length_replicate];omega
 ·rw[yD,e,List.length_replicate];omega
 ·rw[e]at a;rw[(List.mem_replicate.mp a).2];unfold Lw;omega
theorem dP{l:AZ}{c:Nat}(h:c∈cs (Txt.join "" l)):∃q∈l,c∈cs q:=by
 cases l with
 |nil=>cases h
 |cons p ps=>
  rw[d5]at h;rcases List.mem_append.mp h with h|h
  ·exact⟨p,zh ..,h⟩
  ·obtain⟨q,a,h⟩:=List.mem_flatMap.mp h;exact⟨q,zi _ a,h⟩
theorem O9(xs:O Int)(e:Int):∃(b:AJ) (at_:Int),(∀c∈cs b,Lw c)/\b.length<=5/\0<=at_/\at_<=(b.length:Int)/\cN xs e=(rng 0 e.toNat).map (CS xs b at_):=by
 have g:=gU (at' xs 0) (m:=6) (by decide);have mem:∀x∈((rng 0 (at' xs 0%6).toNat).map λa:Int=>ch LT (at' xs a / 40%26)),x.length=1/\∀c∈cs x,Lw c:=λx hx=>by
  obtain⟨k,_,rfl⟩:=List.mem_map.mp hx;refine⟨yx _ _,λc d=>?_⟩;rw[IY (gU _ (by decide))]at d;cases List.mem_singleton.mp d;have:=gU (at' xs k / 40) (m:=26) (by decide);unfold Lw;omega
 refine⟨Txt.join "" ((rng 0 (at' xs 0%6).toNat).map λa:Int=>ch LT (at' xs a / 40%26)),at' xs 1%(((Txt.join "" ((rng 0 (at' xs 0%6).toNat).map λa:Int=>ch LT (at' xs a / 40%26))).length:Int)+1),λc d=>?_,?_,?_,?_,(Ay (CS xs _ _) _ []).trans (Kn _)⟩
 ·obtain⟨q,f,h⟩:=dP d;exact(mem q f).2 c h
 ·have:=OH _ 1 λx hx=>Nat.le_of_eq (mem x hx).1;rw[zk,Ck]at this;omega
 ·exact(gU _ (by omega)).1
 ·have:=(gU (at' xs 1) (m:=((Txt.join "" ((rng 0 (at' xs 0%6).toNat).map λa:Int=>ch LT (at' xs a / 40%26))).length:Int)+1) (by omega)).2;omega
theorem NY{xs:O Int}{a:AJ}{at_:Int}(h1:∀c∈cs a,Lw c)(h2:a.length<=5)(h:0<=at_)(l:at_<=(a.length:Int)){k:Int}(j:0<=k/\k<15):Nm (CS xs a at_ k):=by
 unfold CS;split
 ·exact X0 (by omega) (by omega) (by omega)
 ·have f:=Uj (x:=a) (n:=at_.toNat) (by omega);have g:=Ui (x:=a) (n:=at_.toNat) (by omega);rw[yn h]at f g;have c1:=IY (i:=(k+at' xs 2)%15) (by have:=gU (k+at' xs 2) (m:=15) (by decide);omega);have m:=gU (k+at' xs 2) (m:=15) (by decide);have e:cs ((Txt.slice a U (Z at_)++ch LT ((k+at' xs 2)%15))++Txt.slice a (Z at_) U)=((cs a).take at_.toNat++[97+((k+at' xs 2)%15).toNat])++(cs a).drop at_.toNat:=by
   rw[Ka,Ka,f,g,c1]
  have d:((Txt.slice a U (Z at_)++ch LT ((k+at' xs 2)%15))++Txt.slice a (Z at_) U).length=a.length+1:=by
   rw[yD,e,zS,zS,ki,km,<-yD];show _+1+_=_;omega
  refine⟨by rw[d];omega,by rw[d];omega,λc b=>?_⟩;rw[e]at b;rcases List.mem_append.mp b with b|b
  ·rcases List.mem_append.mp b with b|b
   ·exact h1 c (List.mem_of_mem_take b)
   ·cases List.mem_singleton.mp b;unfold Lw;omega
  ·exact h1 c (yi b)
theorem XN(xs:O Int)(a:Int)(h:a<=15):∀n∈cN xs a,Nm n:=by
 obtain⟨g,at_,h1,h2,b,f,e⟩:=O9 xs a;rw[e];intro n c;obtain⟨k,d,rfl⟩:=List.mem_map.mp c;obtain⟨j,i,rfl⟩:=Q5 d;exact NY h1 h2 b f (by omega)
def z7:AJ:=("zzzzzzz":AJ)
theorem O':∀(n:Nat) (l:O Nat),l.length<n->(∀c∈l,c<=122)->l<List.replicate n 122
 |0,_,h,_=>by omega
 |n+1,[],_,_=>List.nil_lt_cons ..
 |n+1,c::l,h,hc=>by
  rw[Ki,List.cons_lt_cons_iff];have h1:=hc c (zh ..);by_cases e:c=122
  ·exact .inr ⟨e,O' n l (by simpa using h) λx hx=>hc x (zi _ hx)⟩
  ·exact .inl (by omega)
theorem WE{s:AJ}(h:s.length<=6)(a:∀c∈cs s,Lw c):qO s z7=true:=by
 unfold qO;refine Zs ?_;have e:z7.cps.toList=List.replicate 7 122:=by decide +kernel
 rw[e];refine O' 7 _ ?_ λc h=>(a c h).2;have:s.cps.toList.length=s.length:=rfl;omega
theorem mM:∀i:Fin 7,qO (Txt.mul (ch LT ((i.val:Int) / 8)) (1+(i.val:Int)%8)) z7=true:=by decide +kernel
theorem Pf(xs:O Int)(a:Int)(h:a<=7):∀n∈cN xs a,qO n z7=true:=by
 obtain⟨d,at_,h1,h2,b,l,e⟩:=O9 xs a;rw[e];intro n g;obtain⟨k,i,rfl⟩:=List.mem_map.mp g;obtain⟨j,m,rfl⟩:=Q5 i;have nm:=NY (xs:=xs) h1 h2 b l (k:=(j:Int)) (by omega);by_cases e:(decide (((at' xs 3)%3)=1))=true
 ·unfold CS;rw[zr e];exact mM ⟨j,by omega⟩
 ·refine WE ?_ nm.2.2;unfold CS;rw[zD e,mY,mY,yx];have c:=Uj (x:=d) (n:=at_.toNat) (by omega);have f:=Ui (x:=d) (n:=at_.toNat) (by omega);rw[yn b]at c f;rw[yD,yD,c,f,ki,km,<-yD];omega
theorem Fo{a b:Int}(c:0<=a/\a<n)(hb:0<=b/\b<n):In n (if b<a then b else a):=by split<;>exact BF (by omega) (by omega)
theorem Fp{a b:Int}(c:0<=a/\a<n)(hb:0<=b/\b<n):In n (if b>a then b else a):=by split<;>exact BF (by omega) (by omega)
theorem Zf{a:Int}(b:n=a.toNat){x y:Int}(h:(!decide (x%(if a>1 then a else 1)=y%(if a>1 then a else 1)))=true):(0<=x%(if a>1 then a else 1)/\x%(if a>1 then a else 1)<n)/\(0<=y%(if a>1 then a else 1)/\y%(if a>1 then a else 1)<n):=by
 by_cases e:a>1
 ·rw[zr e]at h ⊢;have h1:=gU x (m:=a) (by omega);have h2:=gU y (m:=a) (by omega);omega
 ·rw[zD e]at h;simp at h
theorem Vo{a:Int}:0<(if a>1 then a else 1):=by split<;>omega
def RT(r:dN):Prop:=((-1000:Int)<=r.1/\r.1 ≤ -1)/\qO r.2.1 r.2.2.1=true/\r.2.2.2≠9
theorem Zg(c:n_.Pairwise λa b=>qO a b=true){i j:Int}(h0:0<=i)(h1:i<j)(h2:j<n_.length):qO (at' n_ i) (at' n_ j)=true:=by
 obtain⟨a,rfl⟩:∃a:Nat,i=(a:Int):=⟨i.toNat,by omega⟩;obtain⟨b,rfl⟩:∃b:Nat,j=(b:Int):=⟨j.toNat,by omega⟩;rw[yw n_ a (by omega),yw n_ b (by omega)];exact List.pairwise_iff_getElem.mp c a b (by omega) (by omega) (by omega)
theorem cx(e:O Int)(at_ d:Int)(B:0<=at_)(a1:at_<=500)(g:O Int)(z:6<=g.length)(n_:AZ)(q:n_.length=d.toNat)(k:Nat)(v:k<60)(f:O dN)(s:n_.Pairwise λa b=>qO a b=true)(h:f.length<=k/\Rs n_ f/\∀r∈f,RT r):
  jz e at_ d g n_ f k/\(dM e at_ d g n_ f k).length<=k+1/\Rs n_ (dM e at_ d g n_ f k)/\∀r∈dM e at_ d g n_ f k,RT r:=by
 obtain⟨t,n,D⟩:=K5 (bw e ((at_+1)+k)) 4 (by decide) (by decide);have n:(aY (bw e ((at_+1)+k)) 4).length=4:=n;unfold jz dM;dsimp only;generalize aY (bw e ((at_+1)+k)) 4=xs at *
 have o:=λx y=>Zf (x:=x) (y:=y) q;have p:=@Vo d;generalize (if d>1 then d else 1)=mm at *
 have j:∀i:Nat,i<4->In xs.length (i:Int):=λi hi=>Ai (by omega);refine⟨⟨⟨Rz _ _ (by omega) (by omega),t⟩,⟨⟨j 0 (by decide),p⟩,j 1 (by decide),p⟩,⟨⟨⟨j 2 (by decide),j 2 (by decide),j 2 (by decide)⟩,BF (by decide) (by omega)⟩,Aj (by decide) (KB 3)⟩,λl=>?_⟩,?_⟩
 ·have:=o _ _ l;exact⟨⟨Fo this.1 this.2,Fp this.1 this.2,j 3 (by decide),Aj (by decide) (by decide)⟩,mU (by omega)⟩
 ·split
  ·rename_i l;have:=o _ _ l;refine⟨by rw[zS];show _+1<=_;omega,λr c=>?_,λr c=>?_⟩
   ·rcases List.mem_append.mp c with c|c
    ·exact h.2.1 r c
    ·cases List.mem_singleton.mp c;exact⟨oV (Fo this.1 this.2),oV (Fp this.1 this.2)⟩
   ·rcases List.mem_append.mp c with c|c
    ·exact h.2.2 r c
    ·cases List.mem_singleton.mp c;have w:=oV (xs:=[1+at' xs 2%3,1+at' xs 2%9,1+at' xs 2%1000]) (i:=at' g 4%3) (Aj (by decide) (KB 3));have u:=oV (xs:=[(0:Int),(2:Int),(10:Int)]) (i:=at' xs 3%3) (Aj (by decide) (KB 3));have C:=gU (at' xs 2) (m:=3) (by decide);have A:=gU (at' xs 2) (m:=9) (by decide);have bk:=gU (at' xs 2) (m:=1000) (by decide);simp only[jv,JI,or_false]at w u;have l:at' xs 0%mm≠at' xs 1%mm:=by simpa using l
     refine⟨?_,?_,?_⟩
     ·show _<=0 - _/\(0:Int) - _<=_;omega
     ·show qO (at' n_ _) (at' n_ _)=true;split<;>split<;>first|exact Zg s (by omega) (by omega) (by omega)|(exfalso;omega)
     ·show at' _ _≠9;omega
  ·exact⟨by omega,h.2⟩
theorem mw(d:O Int)(at_ c:Int)(t:0<=at_)(a1:at_<=500)(n_:AZ)(o:n_.length=c.toNat)(k:Nat)(u:k<60)(e:O (AJ×AJ×Int))(q:n_.Pairwise λa b=>qO a b=true)(h:e.length<=k/\∀b∈e,(b.1∈n_/\b.2.1∈n_)/\qO b.1 b.2.1=true):
  jA d at_ c n_ e k/\(eG d at_ c n_ e k).length<=k+1/\∀b∈eG d at_ c n_ e k,(b.1∈n_/\b.2.1∈n_)/\qO b.1 b.2.1=true:=by
 obtain⟨p,m,s⟩:=K5 (bw d ((at_+1)+k)) 8 (by decide) (by decide);have m:(aY (bw d ((at_+1)+k)) 8).length=8:=m;unfold jA eG;dsimp only;generalize aY (bw d ((at_+1)+k)) 8=xs at *
 have l:=λx y=>Zf (x:=x) (y:=y) o;have n:=@Vo c;generalize (if c>1 then c else 1)=mm at *
 have j:∀i:Nat,i<8->In xs.length (i:Int):=λi hi=>Ai (by omega);refine⟨⟨⟨Rz _ _ (by omega) (by omega),p⟩,⟨⟨j 5 (by decide),n⟩,j 6 (by decide),n⟩,λf=>?_⟩,?_⟩
 ·have:=l _ _ f;exact⟨⟨Fo this.1 this.2,Fp this.1 this.2,j 7 (by decide),Aj (by decide) (by decide)⟩,mU (by omega)⟩
 ·split
  ·rename_i f;have:=l _ _ f;refine⟨by rw[zS];show _+1<=_;omega,λr g=>?_⟩;rcases List.mem_append.mp g with g|g
   ·exact h.2 r g
   ·cases List.mem_singleton.mp g;have f:at' xs 5%mm≠at' xs 6%mm:=by simpa using f
    refine⟨⟨oV (Fo this.1 this.2),oV (Fp this.1 this.2)⟩,?_⟩;show qO (at' n_ _) (at' n_ _)=true;split<;>split<;>first|exact Zg q (by omega) (by omega) (by omega)|(exfalso;omega)
  ·exact⟨by omega,h.2⟩
structure Gr (g:AZ×(List dN)×(List (Str×Str×Int))):Prop where
 nd:g.1.Nodup
 len:g.1.length<=7
 rs:Rs g.1 g.2.1
 rl:g.2.1.length<=10
 so:g.1.Pairwise qN
 nm:∀n∈g.1,Nm n
 va:∀r∈g.2.1,(1<=r.1/\r.1<=1000)/\qO r.2.1 r.2.2.1=true/\r.2.2.2≠9
 rd:g.2.1.Nodup
 bl:g.2.2.length<=4
 bs:∀b∈g.2.2,(b.1∈g.1/\b.2.1∈g.1)/\qO b.1 b.2.1=true
 zz:∀n∈g.1,qO n z7=true
theorem Rs.turn{rs:O dN}(h:Rs n_ rs):Rs n_ (rs.map λa:(Int×AJ×AJ×Int)=>(((0:Int)-a.1),a.2.1,a.2.2.1,a.2.2.2)):=λr b=>by
 obtain⟨q,c,rfl⟩:=List.mem_map.mp b;exact h q c
theorem bg{rs:O dN}(h:∀r∈rs,RT r):∀r∈(rs.map λa:(Int×AJ×AJ×Int)=>(((0:Int)-a.1),a.2.1,a.2.2.1,a.2.2.2)),(1<=r.1/\r.1<=1000)/\qO r.2.1 r.2.2.1=true/\r.2.2.2≠9:=λr c=>by
 obtain⟨q,d,rfl⟩:=List.mem_map.mp c;obtain⟨f,b,e⟩:=h q d;exact⟨⟨show(1:Int)<=0-q.1 by omega,show(0:Int)-q.1<=1000 by omega⟩,b,e⟩
theorem TM(g:O Int)(at_ c i j:Int)(q:0<=at_)(a1:at_<=500)(F:0<=c)(y:c<=7)(D:0<=i)(X:i<=10)(b0:0<=j)(b1:j<=4):nT g at_ c i j/\Gr (fU g at_ c i j):=by
 obtain⟨L,o,W⟩:=K5 (bw g at_) 6 (by decide) (by decide);have o:(aY (bw g at_) 6).length=6:=o;have H:∀d:O Int,6<=d.length->qJ g at_ c i j d/\Gr (qI g at_ c i j d):=λd x=>by
  obtain⟨z,u,k3⟩:=Vf d x c F (by omega);have knd:=hJ d c (by omega);have m:(xT (cN d c)).length=c.toNat:=by rw[(oO _).length_eq,u]
  have nd:(xT (cN d c)).Nodup:=(oO _).nodup_iff.mpr knd;have C:∀n_:AZ,n_.length=c.toNat->n_.Nodup->n_.Pairwise qN->(∀n∈n_,Nm n)->(∀n∈n_,qO n z7=true)->qH g at_ c i j d n_/\Gr (qG g at_ c i j d n_):=λn_ m nd so nm E=>by
   have w:n_.Pairwise λa b=>qO a b=true:=(so.and nd).imp λh=>(BD _ _).mpr h;obtain⟨t1,t2,t3⟩:=yr (P:=λf k=>Z (jz g at_ c d n_ f k)) (step:=λf k=>dM g at_ c d n_ f k) (λk s=>s.length<=k/\Rs n_ s/\∀r∈s,RT r) i.toNat [] ⟨zo 0,λr h=>(by cases h),λr h=>(by cases h)⟩ λk s A h=>cx g at_ c q a1 d x n_ m k (by omega) s w h;obtain⟨B,v,K⟩:=yr (P:=λf k=>Z (jA g at_ c n_ f k)) (step:=λf k=>eG g at_ c n_ f k) (λk s=>s.length<=k/\∀b∈s,(b.1∈n_/\b.2.1∈n_)/\qO b.1 b.2.1=true) j.toNat [] ⟨zo 0,λr h=>(by cases h)⟩ λk s A h=>mw g at_ c q a1 n_ m k (by omega) s w h;have sl:=KA v (show j.toNat<64 by omega);have N:∀l:O dN,l.length<=i.toNat->(Rs n_ l/\∀r∈l,RT r)->qF g at_ c i j d n_ l/\Gr (qD g at_ c i j d n_ l):=λl tl ⟨tr,tv⟩=>by
    have Q:=HS l;have sp:=(gY (e:=Do eI eS eS eI) (Ly l)).length_eq;refine⟨⟨⟨⟨by omega,by omega⟩,by rw[sp];omega⟩,⟨Ox b0 (by omega),B⟩,JJ sl,sl⟩,nd,?_,?_,?_,so,nm,bg λr p=>tv r (tW.mp ((gY _).mem_iff.mp p)),?_,?_,?_,E⟩
    ·show n_.length<=7;omega
    ·exact Rs.turn λr p=>tr r (tW.mp ((gY _).mem_iff.mp p))
    ·show(List.map _ _).length<=10;rw[zk,sp];omega
    ·show(List.map _ (iK (Do eI eS eS eI) (Ly l))).Nodup;unfold List.Nodup;rw[JY];exact List.Pairwise.imp (λ{a b} h e=>h (by
      obtain⟨a1,a2,M,I⟩:=a;obtain⟨b1,b2,J,G⟩:=b;injection e with e1 e2;injection e2 with e2 e3;injection e3 with e3 t;have e1:(0:Int)-a1=0-b1:=e1;have e2:a2=b2:=e2;have e3:M=J:=e3;have t:I=G:=t;rw[show a1=b1 by omega,e2,e3,t])) ((gY _).nodup_iff.mpr (JF l))
    ·show(iK _ _).length<=4;rw[(gY _).length_eq];exact ZO (HS _) (ZO v (by omega))
    ·exact λb hb=>K b (tW.mp ((gY _).mem_iff.mp hb))
   have:=N _ t2 t3;exact⟨⟨⟨Ox D (by omega),t1⟩,this.1⟩,this.2⟩
  have mem:∀n,n∈xT (cN d c)->n∈cN d c:=λn h=>(oO _).mem_iff.mp h;have:=C _ m nd (Jr _) (λn h=>XN d c (by omega) n (mem n h)) λn h=>Pf d c y n (mem n h);exact⟨⟨⟨z,by rw[u];omega⟩,this.1⟩,this.2⟩
 have:=H _ (Nat.le_of_eq o.symm);exact⟨⟨⟨Rz _ _ q (by omega),L⟩,this.1⟩,this.2⟩
theorem Xr(b:O Int)(at_ a c e:Int)(d:0<=a)(g:a<=7):(fU b at_ a c e).1.length=a.toNat:=by
 have f:(aY (bw b at_) 6).length=6:=(K5 (bw b at_) 6 (by decide) (by decide)).2.1;show(xT (cN (aY (bw b at_) 6) a)).length=_;rw[(oO _).length_eq,(Vf _ (Nat.le_of_eq f.symm) a d (by omega)).2.1]
def Nf(B:O C5)(m:O (AJ×AJ)):Prop:=∀b∈B,look m b.1≠look m b.2.1
def DL(m:O (AJ×AJ))(a b:AJ)(x:C5):Bool:=((decide (look m x.1=a))&&(decide (look m x.2.1=b)))||((decide (look m x.1=b))&&(decide (look m x.2.1=a)))
theorem l0(m:O (AJ×AJ))(a b:AJ):∀B:O C5,jD B m a b=B.find? (DL m a b):=by
 have f:∀B:O C5,(uH (λ(d:Unit) (g:cP)=>((gB m a b d g):sZ (Unit) (Y cP))) B ())=(match B.find? (DL m a b)with|some x=>.rt (Z x)|none=>.nx ()):=λB=>by
  induction B with
  |nil=>rfl
  |cons x B c=>
   unfold uH;have e:gB m a b () x=if DL m a b x=true then .rt (Z x)else .nx ():=rfl;rw[e];cases h:DL m a b x with
   |true=>rw[List.find?_cons_of_pos h];rfl
   |false=>rw[List.find?_cons_of_neg (by rw[h];decide)];exact c
 intro B;unfold jD;rw[f];cases B.find? (DL m a b)<;>rfl
theorem Fq{α σ τ:Type}{step:σ->α->sZ σ τ}{P:σ->α->Y Prop}:∀(xs:O α) (s:σ),(∀s x,x∈xs->hold (P s x))->Gh step P xs s
 |[],_,_=>trivial
 |x::xs,s,h=>by
  refine⟨h s x (zh ..),?_⟩;cases step s x with
  |nx s'=>exact Fq xs s' λs y a=>h s y (zi _ a)
  |ct s'=>exact Fq xs s' λs y a=>h s y (zi _ a)
  |bk s'=>trivial
  |rt s'=>trivial
theorem mB(h:Hd N m)(a:∀b∈B,b.1∈N/\b.2.1∈N)(one c:AJ):qd B m one c:=by
 refine⟨Fq _ _ λs x hx=>?_,?_⟩
 ·have h1:=h.has (a x hx).1;have h2:=h.has (a x hx).2;exact⟨⟨h1,λ_=>h2⟩,λ_=>⟨h1,λ_=>h2⟩⟩
 ·unfold vQ;split<;>trivial
theorem Nf.join(h:Hd N m)(l:∀b∈B,b.1∈N/\b.2.1∈N)(sp:Nf B m){a b:AJ}(j:B.find? (DL m a b)=U):Nf B (jm m a b):=λx hx e=>by
 obtain⟨x1,i⟩:=l x hx;rw[h.uw x1,h.uw i]at e;have g:=sp x hx;have f:¬ DL m a b x=true:=List.find?_eq_none.mp j x hx;unfold DL at f;rw[Kt,ZN,ZN,zC,zC,zC,zC]at f;unfold jn at e;generalize look m x.1=u at *
 generalize look m x.2.1=v at *
 split at e
 ·rename_i d;split at e
  ·rename_i c;rcases d with rfl|rfl<;>rcases c with rfl|rfl
   ·exact g rfl
   ·exact f (.inl ⟨rfl,rfl⟩)
   ·exact f (.inr ⟨rfl,rfl⟩)
   ·exact g rfl
  ·rename_i c;rcases K6 a b with z|z<;>rw[z]at e
   ·exact c (.inl e.symm)
   ·exact c (.inr e.symm)
 ·rename_i d;split at e
  ·rcases K6 a b with z|z<;>rw[z]at e
   ·exact d (.inl e)
   ·exact d (.inr e)
  ·exact g e
abbrev Js:=(O (AJ×AJ))×(O aB)×(O tu)
theorem Zh(e:∀b∈B,b.1∈N/\b.2.1∈N):∀(R:O dN) (s:Js),Rs N R->Hd N s.1->Nf B s.1->s.2.1.length+R.length<=1000->s.2.2.length+R.length<=1000 →
  nC (λ(a:Js) (vx:aB)=>(bW B a vx)) (λ(a:Js) (vx:aB)=>Z (mG B a vx)) R s/\Hd N (R.foldl (λ(a:Js) (vx:aB)=>(bW B a vx)) s).1/\Nf B (R.foldl (λ(a:Js) (vx:aB)=>(bW B a vx)) s).1
 |[],s,_,h,sp,_,_=>⟨trivial,h,sp⟩
 |r::R,s,hr,h,sp,l1,l2=>by
  obtain⟨g,i⟩:=hr r (zh ..);have j:=Y6 (look s.1 r.2.1) (look s.1 r.2.2.1) h.kn h.ml;rw[ZZ]at l1 l2;have d:mG B s r:=⟨h.has g,h.has i,λ_=>⟨mB h e _ _,λ_=>⟨j.1,mU (by omega)⟩,λ_=>mU (by omega)⟩⟩;have st:Hd N (bW B s r).1/\Nf B (bW B s r).1/\(bW B s r).2.1.length<=s.2.1.length+1/\(bW B s r).2.2.length<=s.2.2.length+1:=by
   unfold bW;dsimp only;rw[l0,j.2];by_cases c:look s.1 r.2.1=look s.1 r.2.2.1
   ·rw[Zs c];exact⟨h,sp,JU _,JU _⟩
   ·rw[Zp c];cases f:B.find? (DL s.1 (look s.1 r.2.1) (look s.1 r.2.2.1))with
    |none=>exact⟨h.join g i,sp.join h e f,by show(s.2.1++[r]).length<=_;rw[zS];exact zo _,JU _⟩
    |some b=>exact⟨h,sp,JU _,by show(s.2.2++[_]).length<=_;rw[zS];exact zo _⟩
  obtain⟨i1,i2,m⟩:=Zh e R (bW B s r) (λz l=>hr z (zi _ l)) st.1 st.2.1 (by omega) (by omega);exact⟨⟨d,i1⟩,i2,m⟩
theorem Xu(g:Gb N R B):nZ (N,R,B)/\∃m,Hd N m/\Nf B m/\(fV (N,R,B)).1=st N m:=by
 have c:∀b∈B,b.1∈N/\b.2.1∈N:=λb a=>(g.bs b a).1;have f:=g.rl;obtain⟨i1,i2,d⟩:=Zh c R (bQ N,[],[]) g.rs (G' g.nd g.l3) (λb a e=>by
  have e:look (bQ N) b.1=look (bQ N) b.2.1:=e;rw[(ur N g.nd g.l3).2,pJ g.nd (c b a).1,pJ g.nd (c b a).2]at e;exact(g.bs b a).2 e) (by show 0+_<=_;omega) (by show 0+_<=_;omega)
 have s:=Ie i2;exact⟨⟨(ur N g.nd g.l3).1,i1,s.1⟩,_,i2,d,s.2⟩
theorem Pa(p:AZ)(R:O dN):cF p R=R.filter λr=>decide (r.2.1∈p)&&decide (r.2.2.1∈p):=by
 unfold cF;rw[jI]
theorem Zi(h:Hd N m)(f:Rs N R):jt (N,R,B) (st N m)=wf (look m) R:=by
 have fl:∀r∈R.filter (λr=>decide (look m r.2.1=look m r.2.2.1)),r.2.1∈(st N m).flatten:=λr c=>(ou h).mem_iff.mpr (f r (List.mem_filter.mp c).1).1;have e:=zA ((ou h).nodup_iff.mpr h.nd) _ fl;unfold wf;rw[e];show((st N m).map λp=>wt (cF p R)).sum=_;congr 1;refine Qr λp hp=>?_;rw[Pa,List.filter_filter];congr 1;refine ja λr c=>?_;obtain⟨d,rb⟩:=f r c;obtain⟨x,hx,rfl⟩:=(ig h).mp hp;rw[QQ,ZN,ZN,zC,zC,zC,gO,gO];exact⟨λ⟨⟨_,a⟩,_,b⟩=>⟨⟨d,a⟩,a.trans b.symm⟩,λ⟨⟨_,a⟩,b⟩=>⟨⟨d,a⟩,rb,b.symm.trans a⟩⟩
theorem Xv:∀{L:O dN},(∀r∈L,1<=r.1/\r.1<=1000000)->0<=wt L/\wt L<=1000000*L.length
 |[],_=>⟨KB 0,KB 0⟩
 |r::L,h=>by
  have h1:=h r (zh ..);have h2:=Xv (L:=L) λz a=>h z (zi _ a);rw[fJ,ZZ];omega
theorem Lb(h:Hd N m):(st N m).length<=N.length:=by
 have:=Dp (w:=st N m) λs hs=>K9 h hs;rw[(ou h).length_eq]at this;exact this
theorem NL(w:O AZ)(f:w.length<=1000)(i:R.length<64)(h:∀r∈R,1<=r.1/\r.1<=1000000):mR (N,R,B) w:=by
 have one:∀p:AZ,(cF p R).length<=R.length/\∀r∈cF p R,1<=r.1/\r.1<=1000000:=λp=>by
  rw[Pa];exact⟨Q1 _ _,λr g=>h r (List.mem_filter.mp g).1⟩
 refine⟨⟨by omega,λp _=>?_⟩,?_⟩
 ·obtain⟨a,b⟩:=one p;have d:ni (cF p R):=ES (by omega) b;exact⟨⟨show R.length<=100000 by omega,d.1⟩,d.2⟩
 ·unfold D2;rw[ZN,zC,zk,qB];refine⟨f,λk e=>?_⟩;obtain⟨p,hp,rfl⟩:=List.mem_map.mp e;obtain⟨a,b⟩:=one p;have:=Xv b;have this:0<=((cF p R).map λc:aB=>c.1).sum/\((cF p R).map λc:aB=>c.1).sum<=1000000*((cF p R).length:Int):=this;exact Zs (show _<=((cF p R).map λc:aB=>c.1).sum/\((cF p R).map λc:aB=>c.1).sum<=_ by omega)
theorem Dq(g:Gb N R B)(e:Rm N R B):Nf B (hb N (kp N R B)):=λb a z=>by
 obtain⟨c,d⟩:=(g.bs b a).1;exact NM g e b a ((Dm g c d).mp z)
theorem D6(g:Gb N R B)(a:Rm N R B):nZ (N,R,B)/\mR (N,R,B) (fV (N,R,B)).1/\jt (N,R,B) (fV (N,R,B)).1<=wt (kp N R B):=by
 obtain⟨d,m,h,sp,e⟩:=Xu g;have:=Lb h;have b:=g.len;rw[e,Zi h g.rs];exact⟨d,NL _ (by omega) g.rl g.va,yN g a _ sp⟩
theorem Wp[DecidableEq α](f:AJ->α)(A B:O dN):wf f (A++B)=wf f A+wf f B:=by unfold wf;rw[List.filter_append,RI]
theorem c9[DecidableEq α](f:AJ->α){A B:O dN}(h:A.Perm B):wf f A=wf f B:=Ih (h.filter _)
theorem RM(g:Gb N R B)(c:Rm N R B){a:O C5}(g':Gb N R a)(d:Rm N R a)(h:∀b∈a,look (hb N (kp N R B)) b.1≠look (hb N (kp N R B)) b.2.1):wt (kp N R B)<=wt (kp N R a):=by
 have:=yN g' d _ h;rw[O4 g c]at this;exact this
theorem Pb(h:Hd N m)(hx:x∈N):n6 (st N m) x/\fG (st N m) x=pt N m x:=by
 have d:pt N m x∈(st N m).filter λa:AZ=>(decide (x∈a)):=List.mem_filter.mpr ⟨(ig h).mpr ⟨x,hx,rfl⟩,Zs (gO.mpr ⟨hx,rfl⟩)⟩;have c:In (((st N m).filter λa:AZ=>(decide (x∈a))).map λa:AZ=>a).length (0:Int):=by
  rw[jI];exact BF (KB 0) (by have:=KW d;omega)
 have sl:=Lb h;refine⟨⟨by have:=h.len;omega,c⟩,?_⟩;have b:=oV c;rw[jI]at b;unfold fG;rw[jI];generalize at' ((st N m).filter λa:AZ=>(decide (x∈a))) 0=p at *
 obtain⟨p1,p2⟩:=List.mem_filter.mp b;obtain⟨y,e,rfl⟩:=(ig h).mp p1;exact(Vi (gO.mp (qk p2)).2).symm
theorem Xw(g:Gb N R B)(so:N.Pairwise qN)(W:2<=N.length)(p:N.length<=8)(q:R.length<=12)(bl:B.length<=9)(K:N.Pairwise λa b=>qO a b=true)(xs:O Int)(hx:6<=xs.length):
  iY (N,R,B) (st N (hb N (kp N R B)),wt (kp N R B),wt R-wt (kp N R B)) xs/\fj (N,R,B) (st N (hb N (kp N R B)),wt (kp N R B),wt R-wt (kp N R B)) xs=true:=by
 have d:Rm N R B:=qu g p q;have y:=Vl g;have l:∀i:Nat,i<6->In xs.length (i:Int):=λi hi=>Ai (by omega);have t:Gb N R (B.drop 1):=⟨g.nd,g.len,g.rs,g.ne,g.rd,g.rl,g.va,λb o=>g.bs b (yi o),by rw[km];have:=g.bl;omega⟩;have C:=qu t p q;obtain⟨q1,q2⟩:=zF t so C;have X:=RM g d t C λb o=>Dq g d b (yi o);have Q:B≠[]->BE B (Z 1) U=B.drop 1:=λh=>Ue (k:=1) (List.length_pos_iff.mpr h);have s:(!decide (B=([]:O cP)))=true->d8 (N,R,BE B (Z 1) U)/\decide ((bO (N,R,BE B (Z 1) U)).2.1<wt (kp N R B))=false:=λh=>by
  have h:B≠[]:=by simpa using h
  rw[Q h,q2];exact⟨q1,Zp (show ¬ wt (kp N R (B.drop 1))<wt (kp N R B) by omega)⟩
 have A:(if(!decide (B=([]:O cP)))=true then(if(decide ((bO (N,R,BE B (Z 1) U)).2.1<wt (kp N R B)))=true then false else true)else true)=true:=by
  split
  ·rename_i h;rw[(s h).2];rfl
  ·rfl
 have G:=gU (at' xs 0) (m:=(N.length:Int)) (by omega);have y1:=gU (at' xs 1) (m:=(N.length:Int)) (by omega);unfold iY fj;dsimp only;generalize at' xs 0%(N.length:Int)=a at *
 generalize at' xs 1%(N.length:Int)=b at *
 have i1:=Fo (n:=N.length) G y1;have i2:=Fp (n:=N.length) G y1;by_cases D:a=b
 ·rw[Zs D];refine⟨⟨⟨⟨l 0 (by decide),by omega⟩,l 1 (by decide),by omega⟩,λz=>(by cases z),λ_ h=>(s h).1⟩,?_⟩;exact A
 ·rw[Zp D];have lt:qO (at' N (if b<a then b else a)) (at' N (if b>a then b else a))=true:=by
   split<;>split<;>first|exact Zg K (by omega) (by omega) (by omega)|(exfalso;omega)
  have w:=oV i1;have F:=oV i2;generalize at' N (if b<a then b else a)=u at *
  generalize at' N (if b>a then b else a)=v at *
  have L:u≠v:=((BD _ _).mp lt).2;have j:(iK bV (B++[(u,v,(7:Int))])).Perm (B++[(u,v,(7:Int))]):=gY _;have E:(B++[(u,v,(7:Int))]).length=B.length+1:=by rw[zS];rfl
  have c:Gb N R (iK bV (B++[(u,v,(7:Int))])):=⟨g.nd,g.len,g.rs,g.ne,g.rd,g.rl,g.va,λx hx=>by
   rcases List.mem_append.mp (j.mem_iff.mp hx)with h|h
   ·exact g.bs x h
   ·cases List.mem_singleton.mp h;exact⟨⟨w,F⟩,L⟩,by rw[j.length_eq,E];omega⟩
  have f:=qu c p q;obtain⟨p1,p2⟩:=zF c so f;have p3:=RM c f g d λx hx=>Dq c f x (j.mem_iff.mpr (z5 _ hx));obtain⟨I,J⟩:=Pb y w;obtain⟨P,H⟩:=Pb y F;have p4:pt N (hb N (kp N R B)) u≠pt N (hb N (kp N R B)) v->wt (kp N R (iK bV (B++[(u,v,(7:Int))])))=wt (kp N R B):=λh=>by
   have:=RM g d c f λx hx=>by
    rcases List.mem_append.mp (j.mem_iff.mp hx)with h'|h'
    ·exact Dq g d x h'
    ·cases List.mem_singleton.mp h';exact λe=>h (Vi e)
   omega
  have M:((decide (wt (kp N R B)<(bO (N,R,iK bV (B++[(u,v,(7:Int))]))).2.1))||((!decide ((fG (st N (hb N (kp N R B))) u)=(fG (st N (hb N (kp N R B))) v)))&&(!decide ((bO (N,R,iK bV (B++[(u,v,(7:Int))]))).2.1=wt (kp N R B)))))=false:=by
   rw[p2,J,H];dsimp only;rw[Zp (by omega:¬ wt (kp N R B)<wt (kp N R (iK bV (B++[(u,v,(7:Int))]))))];by_cases h:pt N (hb N (kp N R B)) u=pt N (hb N (kp N R B)) v
   ·rw[Zs h];rfl
   ·rw[Zp h,Zs (p4 h)];rfl
  rw[M];refine⟨⟨⟨⟨l 0 (by decide),by omega⟩,l 1 (by decide),by omega⟩,λ_=>⟨⟨i1,i2⟩,⟨⟨mU (by show _+1<=_;omega),by rw[E];omega⟩,p1⟩,λ_=>⟨I,P⟩,λ_ h=>(s h).1⟩,λz=>(by cases z)⟩,?_⟩;exact A
def sc(t:Int)(q2:dN):dN:=((q2.1*t),q2.2.1,q2.2.2.1,q2.2.2.2)
theorem P9(t:Int):∀L:O dN,wt (L.map (sc t))=wt L*t
 |[]=>by rw[JO,RG];omega
 |r::L=>by rw[zl,fJ,fJ,P9 t L,Int.add_mul];rfl
theorem NU[DecidableEq α](f:AJ->α)(t:Int)(L:O dN):wf f (L.map (sc t))=wf f L*t:=by
 unfold wf;rw[<-P9,yk];rfl
theorem Ng(g:Gb N R B)(so:N.Pairwise qN)(n2:2<=N.length)(F:N.length<=8)(rl:R.length<=11)(k9:∀r∈R,r.2.2.2≠9)(va:∀r∈R,r.1<=1000)(X:N.Pairwise λa b=>qO a b=true)(xs:O Int)(hx:6<=xs.length):
  fP (N,R,B) (st N (hb N (kp N R B)),wt (kp N R B),wt R-wt (kp N R B)) xs/\d9 (N,R,B) (st N (hb N (kp N R B)),wt (kp N R B),wt R-wt (kp N R B)) xs=true:=by
 have o:Rm N R B:=qu g F (by omega);have C:∀i:Nat,i<6->In xs.length (i:Int):=λi hi=>Ai (by omega);have M:=gU (at' xs 3) (m:=(N.length:Int)) (by omega);have J:=gU (at' xs 4) (m:=(N.length:Int)) (by omega);have t4:=gU (at' xs 2) (m:=4) (by decide);have w9:=gU (at' xs 5) (m:=9) (by decide);have wk:=Xv λr j=>g.va r (Ax (N:=N) (B:=B) r j);have kl:(kp N R B).length<=R.length:=Q1 _ _;unfold fP d9;dsimp only;obtain⟨t,ht⟩:∃t,2+at' xs 2%4=t:=⟨_,rfl⟩;rw[ht];have t2:2<=t/\t<=5:=by omega
 have a5:∀q2:dN,((q2.1*t),q2.2.1,q2.2.2.1,q2.2.2.2)=sc t q2:=λ_=>S;have I:((((R.filter λq2:aB=>(decide ((q2.1*t)<=1000))).map λq2:aB=>((q2.1*t),q2.2.1,q2.2.2.1,q2.2.2.2)).length:Int)=(R.length:Int))->d8 (N,((R.filter λq2:aB=>(decide ((q2.1*t)<=1000))).map λq2:aB=>((q2.1*t),q2.2.1,q2.2.2.1,q2.2.2.2)),B)/\(bO (N,((R.filter λq2:aB=>(decide ((q2.1*t)<=1000))).map λq2:aB=>((q2.1*t),q2.2.1,q2.2.2.1,q2.2.2.2)),B)).2.1=wt (kp N R B)*t:=λh=>by
  rw[zk]at h;have fe:(R.filter λq2:aB=>(decide ((q2.1*t)<=1000)))=R:=List.filter_eq_self.mpr (List.length_filter_eq_length_iff.mp (by omega));rw[fe];show d8 (N,R.map (sc t),B)/\(bO (N,R.map (sc t),B)).2.1=wt (kp N R B)*t;have gs:Gb N (R.map (sc t)) B:=by
   refine⟨g.nd,g.len,λr j=>?_,λr j=>?_,?_,by rw[zk];exact g.rl,λr j=>?_,g.bs,g.bl⟩
   ·obtain⟨q,l,rfl⟩:=List.mem_map.mp j;exact g.rs q l
   ·obtain⟨q,l,rfl⟩:=List.mem_map.mp j;exact g.ne q l
   ·unfold List.Nodup;rw[JY];refine List.Pairwise.imp (λ{a b} h e=>h ?_) g.rd;obtain⟨a1,a2,a3,a4⟩:=a;obtain⟨b1,b2,b3,b4⟩:=b;injection e with e1 e2;injection e2 with e2 e3;injection e3 with e3 G;have e1:a1*t=b1*t:=e1;have e1:a1=b1:=Int.eq_of_mul_eq_mul_right (by omega) e1;have e2:a2=b2:=e2;have e3:a3=b3:=e3;have G:a4=b4:=G;rw[e1,e2,e3,G]
   ·obtain⟨q,l,rfl⟩:=List.mem_map.mp j;have L:=g.va q l;have v2:=va q l;show 1<=q.1*t/\q.1*t<=1000000;have z1:1*1<=q.1*t:=Int.mul_le_mul L.1 (by omega) (by decide) (by omega);have z2:q.1*t<=1000*5:=Int.mul_le_mul v2 t2.2 (by omega) (by decide);omega
  have D:Rm N (R.map (sc t)) B:=qu gs F (by rw[zk];omega);obtain⟨p1,p2⟩:=zF gs so D;refine⟨p1,?_⟩;rw[p2];show wt (kp N (R.map (sc t)) B)=_;have o1:=yN gs D _ (Dq g o);have H:=yN g o _ (Dq gs D);have E:=O4 gs D;rw[NU,O4 g o]at o1;rw[NU]at E;have o4:=Int.mul_le_mul_of_nonneg_right H (show 0<=t by omega);omega
 generalize (R.filter λq2:aB=>(decide ((q2.1*t)<=1000))).map (λq2:aB=>((q2.1*t),q2.2.1,q2.2.2.1,q2.2.2.2))=V at *
 have Q:DD (wt (kp N R B)) t:=.inr ⟨by omega,by omega⟩;have tf:((decide ((V.length:Int)=(R.length:Int)))&&(!decide ((bO (N,V,B)).2.1=(wt (kp N R B)*t))))=false:=by
  by_cases h:(V.length:Int)=(R.length:Int)
  ·rw[Zs h,Zs (I h).2];rfl
  ·rw[Zp h];rfl
 rw[tf];generalize at' xs 3%(N.length:Int)=a at *
 generalize at' xs 4%(N.length:Int)=b at *
 have i1:=Fo (n:=N.length) M J;have i2:=Fp (n:=N.length) M J;have more:(decide (a=b))=false->∀w:Int,1<=w->w<=9->d8 (N,((iK aG ((R.map λc:aB=>(((0:Int)-c.1),c.2.1,c.2.2.1,c.2.2.2))++[(((0:Int)-w),(at' N (if b<a then b else a)),(at' N (if b>a then b else a)),(9:Int))])).map λd:aB=>(((0:Int)-d.1),d.2.1,d.2.2.1,d.2.2.2)),B)/\wt (kp N R B)<=(bO (N,((iK aG ((R.map λc:aB=>(((0:Int)-c.1),c.2.1,c.2.2.1,c.2.2.2))++[(((0:Int)-w),(at' N (if b<a then b else a)),(at' N (if b>a then b else a)),(9:Int))])).map λd:aB=>(((0:Int)-d.1),d.2.1,d.2.2.1,d.2.2.2)),B)).2.1/\(bO (N,((iK aG ((R.map λc:aB=>(((0:Int)-c.1),c.2.1,c.2.2.1,c.2.2.2))++[(((0:Int)-w),(at' N (if b<a then b else a)),(at' N (if b>a then b else a)),(9:Int))])).map λd:aB=>(((0:Int)-d.1),d.2.1,d.2.2.1,d.2.2.2)),B)).2.1<=wt (kp N R B)+w:=λK w W w2=>by
  have K:=of_decide_eq_false K;have lt:qO (at' N (if b<a then b else a)) (at' N (if b>a then b else a))=true:=by
   split<;>split<;>first|exact Zg X (by omega) (by omega) (by omega)|(exfalso;omega)
  have P:=oV i1;have m2:=oV i2;generalize at' N (if b<a then b else a)=u at *
  generalize at' N (if b>a then b else a)=v at *
  have uv:u≠v:=((BD _ _).mp lt).2;have a0:((R.map λc:aB=>(((0:Int)-c.1),c.2.1,c.2.2.1,c.2.2.2))++[(((0:Int)-w),u,v,(9:Int))]).map (λd:aB=>(((0:Int)-d.1),d.2.1,d.2.2.1,d.2.2.2))=R++[(w,u,v,(9:Int))]:=by
   rw[ZT,qh];have e1:R.map ((λd:aB=>(((0:Int)-d.1),d.2.1,d.2.2.1,d.2.2.2)) ∘ λc:aB=>(((0:Int)-c.1),c.2.1,c.2.2.1,c.2.2.2))=R:=by
    conv=>rhs;rw[<-List.map_id R]
    refine Qr λr _=>?_;show((0:Int)-((0:Int)-r.1),r.2.1,r.2.2.1,r.2.2.2)=r;rw[show(0:Int)-((0:Int)-r.1)=r.1 by omega]
   rw[e1];show R++[((0:Int)-((0:Int)-w),u,v,(9:Int))]=_;rw[show(0:Int)-((0:Int)-w)=w by omega]
  have s:=(gY (e:=aG) ((R.map λc:aB=>(((0:Int)-c.1),c.2.1,c.2.2.1,c.2.2.2))++[(((0:Int)-w),u,v,(9:Int))])).map (λd:aB=>(((0:Int)-d.1),d.2.1,d.2.2.1,d.2.2.2));rw[a0]at s;generalize (iK aG ((R.map λc:aB=>(((0:Int)-c.1),c.2.1,c.2.2.1,c.2.2.2))++[(((0:Int)-w),u,v,(9:Int))])).map (λd:aB=>(((0:Int)-d.1),d.2.1,d.2.2.1,d.2.2.2))=R' at *
  have len:R'.length=R.length+1:=by rw[s.length_eq,zS];rfl
  have mem:∀r∈R',r∈R\/r=(w,u,v,(9:Int)):=λr j=>(List.mem_append.mp (s.mem_iff.mp j)).imp id List.mem_singleton.mp;have p:Gb N R' B:=by
   refine⟨g.nd,g.len,λr j=>?_,λr j=>?_,?_,by omega,λr j=>?_,g.bs,g.bl⟩
   ·rcases mem r j with h|rfl
    ·exact g.rs r h
    ·exact⟨P,m2⟩
   ·rcases mem r j with h|rfl
    ·exact g.ne r h
    ·exact uv
   ·refine s.nodup_iff.mpr (List.nodup_append.mpr ⟨g.rd,List.nodup_cons.mpr ⟨λz=>(by cases z),Jn⟩,λx hx y hy e=>?_⟩);cases List.mem_singleton.mp hy;exact k9 x hx (by rw[e])
   ·rcases mem r j with h|rfl
    ·exact g.va r h
    ·exact⟨W,show w<=1000000 by omega⟩
  have A:Rm N R' B:=qu p F (by omega);obtain⟨p1,p2⟩:=zF p so A;have one:∀f:AJ->AJ,0<=wf f [(w,u,v,(9:Int))]/\wf f [(w,u,v,(9:Int))]<=w:=λf=>by
   unfold wf;by_cases h:f u=f v
   ·rw[KI (by exact Zs h)];show 0<=wt [_]/\wt [_]<=w;rw[fJ,RG];show 0<=w+0/\w+0<=w;omega
   ·rw[KL (by exact λz=>h (qk z))];show(0:Int)<=0/\(0:Int)<=w;omega
  have o1:=yN p A _ (Dq g o);have H:=yN g o _ (Dq p A);have E:=O4 p A;rw[c9 _ s,Wp]at o1 E;rw[O4 g o]at o1;have a1:=one (look (hb N (kp N R B)));have a2:=one (look (hb N (kp N R' B)));rw[p2];exact⟨p1,show _<=wt (kp N R' B) by omega,show wt (kp N R' B)<=_ by omega⟩
 refine⟨⟨C 2 (by decide),⟨by omega,λq l=>?_⟩,λh=>⟨(I (qk h)).1,Q⟩,λ_=>⟨⟨⟨C 3 (by decide),by omega⟩,C 4 (by decide),by omega⟩,λh=>⟨C 5 (by decide),⟨⟨⟨by omega,i1,i2⟩,mU (by rw[zk];show _+1<=_;omega)⟩,by rw[zS,zk];show _+1<_;omega⟩,by rw[(gY _).length_eq,zS,zk];show _+1<=_;omega,(more h _ (by omega) (by omega)).1⟩⟩⟩,?_⟩
 ·have L:=g.va q l;have:DD q.1 t:=.inr ⟨by omega,by omega⟩;exact⟨this,λ_=>this⟩
 ·rw[zD (by decide)];split
  ·rfl
  ·rename_i h;have h:decide (a=b)=false:=by simpa using h
   obtain⟨-,z1,z2⟩:=more h (1+at' xs 5%9) (by omega) (by omega);rw[Zs z1,Zs z2];rfl
variable{f:AJ->AJ}
structure yO (N:AZ) (f:Str->Str):Prop where
 ss:N.Pairwise λa b=>qO a b=true
 s':N.Pairwise λa b=>qO (f a) (f b)=true
theorem LW{a b:AJ}(h:qO a b=true):qO b a=false:=by
 unfold qO at h ⊢;refine Zp λz=>?_;exact List.lt_irrefl _ (List.lt_trans (qk h) z)
theorem yO.tri(h:yO N f){a b:AJ}(d:a∈N)(e:b∈N):a=b\/(qO a b=true/\qO (f a) (f b)=true)\/(qO b a=true/\qO (f b) (f a)=true):=by
 obtain⟨i,hi,rfl⟩:=QY d;obtain⟨j,c,rfl⟩:=QY e;rcases yY i j with z|z|z
 ·exact .inr (.inl ⟨List.pairwise_iff_getElem.mp h.ss i j hi c z,List.pairwise_iff_getElem.mp h.s' i j hi c z⟩)
 ·subst z;exact .inl rfl
 ·exact .inr (.inr ⟨List.pairwise_iff_getElem.mp h.ss j i c hi z,List.pairwise_iff_getElem.mp h.s' j i c hi z⟩)
theorem RN(a:AJ):qO a a=false:=by
 cases h:qO a a with
 |false=>rfl
 |true=>exact absurd S ((BD _ _).mp h).2
theorem yO.lt(h:yO N f){a b:AJ}(d:a∈N)(c:b∈N):qO (f a) (f b)=qO a b:=by
 rcases h.tri d c with rfl|⟨z1,z2⟩|⟨z1,z2⟩
 ·rw[RN,RN]
 ·rw[z1,z2]
 ·rw[LW z1,LW z2]
theorem yO.inj(h:yO N f){a b:AJ}(d:a∈N)(c:b∈N)(e:f a=f b):a=b:=by
 rcases h.tri d c with z|⟨_,z⟩|⟨_,z⟩
 ·exact z
 ·rw[e,RN]at z;cases z
 ·rw[e,RN]at z;cases z
theorem yO.so(h:yO N f):(N.map f).Pairwise qN:=by
 rw[JY];exact h.s'.imp λz=>((BD _ _).mp z).1
theorem yO.nd(h:yO N f):(N.map f).Nodup:=by
 unfold List.Nodup;rw[JY];exact h.s'.imp λz=>((BD _ _).mp z).2
def rr(f:AJ->AJ)(q2:dN):dN:=(q2.1,f q2.2.1,f q2.2.2.1,q2.2.2.2)
def rb(f:AJ->AJ)(a:C5):C5:=(f a.1,f a.2.1,a.2.2)
theorem Rs.ren(h:Rs N R):Rs (N.map f) (R.map (rr f)):=λr c=>by
 obtain⟨q,d,rfl⟩:=List.mem_map.mp c;obtain⟨a,b⟩:=h q d;exact⟨List.mem_map.mpr ⟨_,a,rfl⟩,List.mem_map.mpr ⟨_,b,rfl⟩⟩
theorem yO.jn(h:yO N f){a b c:AJ}(g:a∈N)(d:b∈N)(e:c∈N):jn (f a) (f b) (f c)=f (jn a b c):=by
 unfold G33.jn mn;rw[h.lt d g];by_cases q:c=a\/c=b
 ·rw[zr q,zr (q.imp (congrArg f) (congrArg f))];split<;>rfl
 ·rw[zD q,zD λz=>q (z.imp (h.inj e g) (h.inj e d))]
theorem af(h:yO N f)(nd:N.Nodup)(b:N.length<1000)(K:O dN):Rs N K->∀x∈N,look (hb (N.map f) (K.map (rr f))) (f x)=f (look (hb N K) x):=by
 have i:(N.map f).length<1000:=by rw[zk];exact b
 induction K using BO with
 |h0=>
  intro _ x hx;show look (bQ (N.map f)) (f x)=f (look (bQ N) x);rw[(ur _ h.nd i).2,(ur N nd b).2,pJ nd hx,pJ h.nd (List.mem_map.mpr ⟨x,hx,rfl⟩)]
 |h1 K r a=>
  intro g x hx;have c:Rs N K:=λz j=>g z (z5 _ j);obtain⟨e,d⟩:=g r (ZA _ (List.mem_singleton.mpr S));have a:=a c;have h1:=Hd.hb nd b c;have h2:=Hd.hb h.nd i (c.ren (f:=f));rw[ZT,zl,JO,zy,zy];unfold jb;rw[h1.uw hx,h2.uw (List.mem_map.mpr ⟨x,hx,rfl⟩)];show G33.jn (look (hb (N.map f) (K.map (rr f))) (f r.2.1)) (look (hb (N.map f) (K.map (rr f))) (f r.2.2.1)) _=_;rw[a x hx,a _ e,a _ d];exact h.jn (h1.mem _ e) (h1.mem _ d) (h1.mem _ hx)
theorem We(h:yO N f){a:O (AJ×AJ)}(hd:Hd N m)(e:∀x∈N,look a (f x)=f (look m x)):st (N.map f) a=(st N m).map λp=>p.map f:=by
 have c:∀x∈N,pt (N.map f) a (f x)=(pt N m x).map f:=λx hx=>by
  unfold pt;rw[yk];congr 1;refine ja λy b=>?_;show decide (look a (f y)=look a (f x))=_;rw[e y b,e x hx,QQ,zC,zC];exact⟨h.inj (hd.mem y b) (hd.mem x hx),congrArg f⟩
 unfold st;rw[yk,qh,qh];have fe:(N.filter ((λw=>decide (look a w=w)) ∘ f))=N.filter λw=>decide (look m w=w):=ja λy b=>by
  show decide (look a (f y)=f y)=_;rw[e y b,QQ,zC,zC];exact⟨h.inj (hd.mem y b) b,congrArg f⟩
 rw[fe];exact Qr λx hx=>c x (List.mem_filter.mp hx).1
theorem gE[DecidableEq α](w:AJ->α)(R:O dN):wf w (R.map (rr f))=wf (λx=>w (f x)) R:=by
 unfold wf;rw[yk];unfold wt;rw[qh];rfl
theorem Gb.ren(g:Gb N R B)(h:yO N f):Gb (N.map f) (R.map (rr f)) (B.map (rb f)):=by
 refine⟨h.nd,by rw[zk];exact g.len,g.rs.ren,λr i=>?_,?_,by rw[zk];exact g.rl,λr i=>?_,λb o=>?_,by rw[zk];exact g.bl⟩
 ·obtain⟨q,c,rfl⟩:=List.mem_map.mp i;exact λe=>g.ne q c (h.inj (g.rs q c).1 (g.rs q c).2 e)
 ·unfold List.Nodup;rw[JY];refine JS (λ{a b} ma mb hne e=>hne ?_) g.rd;obtain⟨p1,p2⟩:=g.rs a ma;obtain⟨p3,p4⟩:=g.rs b mb;obtain⟨a1,a2,m,n⟩:=a;obtain⟨b1,b2,l,j⟩:=b;injection e with e1 e2;injection e2 with e2 e3;injection e3 with e3 d;have e1:a1=b1:=e1;have e2:a2=b2:=h.inj p1 p3 e2;have e3:m=l:=h.inj p2 p4 e3;have d:n=j:=d;rw[e1,e2,e3,d]
 ·obtain⟨q,c,rfl⟩:=List.mem_map.mp i;exact g.va q c
 ·obtain⟨q,c,rfl⟩:=List.mem_map.mp o;obtain⟨⟨p1,p2⟩,p3⟩:=g.bs q c;exact⟨⟨List.mem_map.mpr ⟨_,p1,rfl⟩,List.mem_map.mpr ⟨_,p2,rfl⟩⟩,λe=>p3 (h.inj p1 p2 e)⟩
theorem Pg{w:O AZ}(h:w.Pairwise (λa b=>LK a b=true)):nD w=w:=(Re (.refl _) h).symm
theorem cS(g:Gb N R B)(so:N.Pairwise qN){K:O dN}(f:∀r∈K,r∈R)(i:(R.filter λr=>decide (look (hb N K) r.2.1=look (hb N K) r.2.2.1))=K)(sp:Nf B (hb N K)):rN (N,R,B) (st N (hb N K))/\pI (N,R,B) (st N (hb N K))=true:=by
 have e:=(g.sub f).1;have a:Hd N (hb N K):=Hd.hb g.nd g.l3 e;have p:=Mo so a;have q:=g.rl;have bl:=g.bl;have o:=g.len;obtain⟨m,h⟩:=O8 so g.nd g.len a g.rs (by omega);rw[i]at h;have b1:jF (st N (hb N K)) B=[]:=by
  unfold jF;rw[jI];refine List.filter_eq_nil_iff.mpr λb c z=>?_;obtain⟨n,l⟩:=(g.bs b c).1;have z:=(O5 p g.nd n l).mp (qk z);exact sp b c ((Vj a _ _).mp z).2.2
 obtain⟨d,e1,h1⟩:=RD g.nd g.l3 e;have d:jr N K:=d;have e1:d7 N K=hb N K:=e1;obtain⟨d2,e2⟩:=Ie h1;have j:nW N K=st N (hb N K):=by
  show fB (d7 N K)=_;rw[e1];exact e2
 have sl:=Lb a;unfold rN pI;dsimp only;rw[h,b1,j,Pg (LD so a (g.lst f)).st];refine⟨⟨m,⟨Ze p g.nd g.len,by omega,λb c=>⟨zB p g.nd (g.bs b c).1.1,zB p g.nd (g.bs b c).1.2⟩⟩,λ_=>⟨⟨d,?_⟩,by omega,λs hs=>?_⟩⟩,?_⟩
 ·rw[e1];exact d2
 ·have:=K9 a hs;cases s with
  |nil=>exact absurd S this
  |cons _ _=>rfl
 ·rw[Zs rfl];rfl
theorem XY(g:Gb N R B)(b:Rm N R B):(R.filter λr=>decide (look (hb N (kp N R B)) r.2.1=look (hb N (kp N R B)) r.2.2.1))=kp N R B:=by
 conv=>rhs;rw[Ii g]
 refine ja λr a=>?_;obtain⟨c,rb⟩:=g.rs r a;rw[QQ,zC,Dm g c rb,lZ,IL g b a]
theorem SK(g:Gb N R B)(so:N.Pairwise qN)(m:Rm N R B)(h:yO N f)(l:Rm (N.map f) (R.map (rr f)) (B.map (rb f))):
  (d8 (N.map f,R.map (rr f),B.map (rb f))/\((bO (N.map f,R.map (rr f),B.map (rb f))).2.1,(bO (N.map f,R.map (rr f),B.map (rb f))).2.2)=(wt (kp N R B),wt R-wt (kp N R B))) ∧
  ∃w,nD ((st N (hb N (kp N R B))).map λp=>p.map f)=w/\rN (N.map f,R.map (rr f),B.map (rb f)) w/\pI (N.map f,R.map (rr f),B.map (rb f)) w=true/\mR (N.map f,R.map (rr f),B.map (rb f)) w/\jt (N.map f,R.map (rr f),B.map (rb f)) w=wt (kp N R B):=by
 have a:=g.ren h;have t:=(Zd g).1;have i:=Vl g;have d:=af h g.nd g.l3 (kp N R B) t;have s:Hd (N.map f) (hb (N.map f) ((kp N R B).map (rr f))):=Hd.hb a.nd a.l3 t.ren;have sp:Nf (B.map (rb f)) (hb (N.map f) ((kp N R B).map (rr f))):=λb o e=>by
  obtain⟨q,c,rfl⟩:=List.mem_map.mp o;obtain⟨p1,p2⟩:=(g.bs q c).1;have e:look (hb (N.map f) ((kp N R B).map (rr f))) (f q.1)=look (hb (N.map f) ((kp N R B).map (rr f))) (f q.2.1):=e;rw[d _ p1,d _ p2]at e;exact Dq g m q c (h.inj (i.mem _ p1) (i.mem _ p2) e)
 have u:((R.map (rr f)).filter λr=>decide (look (hb (N.map f) ((kp N R B).map (rr f))) r.2.1=look (hb (N.map f) ((kp N R B).map (rr f))) r.2.2.1))=(kp N R B).map (rr f):=by
  rw[yk];congr 1;refine Eq.trans (ja λr j=>?_) (XY g m);obtain⟨p1,p2⟩:=g.rs r j;show decide (look (hb (N.map f) ((kp N R B).map (rr f))) (f r.2.1)=look (hb (N.map f) ((kp N R B).map (rr f))) (f r.2.2.1))=_;rw[d _ p1,d _ p2,QQ,zC,zC];exact⟨h.inj (i.mem _ p1) (i.mem _ p2),congrArg f⟩
 have wr:∀L:O dN,wt (L.map (rr f))=wt L:=λL=>by unfold wt;rw[qh];rfl
 have v:wf (look (hb (N.map f) ((kp N R B).map (rr f)))) (R.map (rr f))=wt (kp N R B):=by
  unfold wf;rw[u,wr]
 have o1:=yN a l _ sp;rw[v]at o1;have y:=yN g m (λx=>look (hb (N.map f) (kp (N.map f) (R.map (rr f)) (B.map (rb f)))) (f x)) λb o e=>Dq a l (rb f b) (List.mem_map.mpr ⟨b,o,rfl⟩) e;rw[<-gE,O4 a l]at y;have n:=h.so;obtain⟨b1,b2⟩:=zF a n l;refine⟨⟨b1,?_⟩,st (N.map f) (hb (N.map f) ((kp N R B).map (rr f))),?_,?_⟩
 ·rw[b2,wr,show wt (kp (N.map f) (R.map (rr f)) (B.map (rb f)))=wt (kp N R B) by omega]
 ·rw[<-We h i d];exact Pg (LD n s (a.lst λr j=>by
   obtain⟨q,c,rfl⟩:=List.mem_map.mp j;exact List.mem_map.mpr ⟨q,Ax q c,rfl⟩)).st
 ·obtain⟨i1,i2⟩:=cS a n (λr j=>by
   obtain⟨q,c,rfl⟩:=List.mem_map.mp j;exact List.mem_map.mpr ⟨q,Ax q c,rfl⟩) u sp
  have sl:=Lb s;have z:=a.len;exact⟨i1,i2,NL _ (by omega) a.rl a.va,by rw[Zi s a.rs,v]⟩
def Ct(N:AZ)(a:Int):AJ:=((("n":AJ)++(ch ("abcdefgh":AJ) a))++(Txt.slice (at' N a) U (Z 6)))
def Ph(N:AZ)(k:Nat):O (AJ×AJ):=(List.range k).map λi:Nat=>(at' N (i:Int),Ct N (i:Int))
theorem Zj(N:AZ):(Ph N N.length).map (·.1)=N:=by
 unfold Ph;rw[qh];refine List.ext_getElem (by rw[zk,kA]) λi h1 h2=>?_;rw[List.getElem_map,List.getElem_range];exact yw N i h2
theorem UD(nd:N.Nodup){k:Nat}(a:k<N.length):put (Ph N k) (at' N (k:Int)) (Ct N (k:Int))=Ph N (k+1):=by
 have b:¬ has (Ph N k) (at' N (k:Int))=true:=λe=>by
  obtain⟨q,c,e1⟩:=List.mem_map.mp (jJ.mp e);obtain⟨i,hi,rfl⟩:=List.mem_map.mp c;have hi:=List.mem_range.mp hi;have e1:at' N (i:Int)=at' N (k:Int):=e1;rw[yw N i (by omega),yw N k a]at e1;have:=(List.getElem_inj nd).mp e1;omega
 unfold put;rw[zD b];unfold Ph;rw[List.range_succ,ZT];rfl
theorem Zk(nd:N.Nodup)(hi:i<N.length):look (Ph N N.length) N[i]=Ct N (i:Int):=by
 have:=zx (m:=Ph N N.length) (q:=(at' N (i:Int),Ct N (i:Int))) (by rw[Zj];exact nd) (List.mem_map.mpr ⟨i,List.mem_range.mpr hi,rfl⟩);have e:=yw N i hi;rw[<-e];exact this
theorem l6:∀k:Fin 8,cs (("n":AJ)++(ch ("abcdefgh":AJ) (k.val:Int)))=[110,97+k.val]:=by decide +kernel
theorem RF(h:i<j)(a:j<8):qO (Ct N (i:Int)) (Ct N (j:Int))=true:=by
 have c:∀k:Nat,k<8->cs (Ct N (k:Int))=[110,97+k]++cs (Txt.slice (at' N (k:Int)) U (Z 6)):=λk b=>by
  unfold Ct;rw[Ka,l6 ⟨k,b⟩]
 unfold qO;refine Zs ?_;show cs (Ct N (i:Int))<cs (Ct N (j:Int));rw[c i (by omega),c j a];show 110::(97+i)::_<110::(97+j)::_;rw[List.cons_lt_cons_iff,List.cons_lt_cons_iff];exact .inr ⟨rfl,.inl (by omega)⟩
theorem Pi(nd:N.Nodup)(e:N.length<=8)(d:N.Pairwise λa b=>qO a b=true):yO N (look (Ph N N.length)):=⟨d,List.pairwise_iff_getElem.mpr λi j hi c h=>by
 rw[Zk nd hi,Zk nd c];exact RF h (by omega)⟩
theorem SO(nd:N.Nodup)(g:N.length<=8)(nm:∀n∈N,n.length<=8):nC (λ(a:(O (AJ×AJ))) (b:Int)=>(fu N a b)) (λ(a:(O (AJ×AJ))) (b:Int)=>Z (lO N a b)) (rng 0 (N.length:Int).toNat) []/\(rng 0 (N.length:Int).toNat).foldl (λ(a:(O (AJ×AJ))) (b:Int)=>(fu N a b)) []=Ph N N.length:=by
 rw[show(N.length:Int).toNat=N.length by omega];refine yr (P:=λ(a:(O (AJ×AJ))) (b:Int)=>Z (lO N a b)) (step:=λ(a:(O (AJ×AJ))) (b:Int)=>(fu N a b)) (λk s=>s=Ph N k) N.length [] S λk s c e=>?_;subst e;have i1:In N.length (k:Int):=Ai c;have h:=nm _ (oV i1);have i:=slice_le (at' N (k:Int)) U (Z 6);have f:("abcdefgh":AJ).length=8:=by decide +kernel
 have d:("n":AJ).length=1:=by decide +kernel
 refine⟨⟨⟨⟨⟨⟨by rw[f];exact Ai (by omega),mU (by rw[d,yx];omega)⟩,i1⟩,mU (by rw[mY,d,yx];omega)⟩,i1⟩,?_⟩,UD nd c⟩;unfold Ph;rw[zk,kA];omega
theorem OF(c:O Int)(_:c.length<=63):Ve c/\Vd c=true:=by
 obtain⟨n1,l,n3⟩:=K5 (bw c 0) 16 (by decide) (by decide);have l:(aY (bw c 0) 16).length=16:=l;have c1:(BE (aY (bw c 0) 16) (Z 9) U).length=7:=by
  rw[show BE (aY (bw c 0) 16) (Z 9) U=_ from Ue (k:=9) (by omega),km,l]
 unfold Ve Vd;dsimp only;generalize aY (bw c 0) 16=xs at *
 have t:∀i:Nat,i<16->In xs.length (i:Int):=λi hi=>Ai (by omega);have m1:=gU (at' xs 6) (m:=6) (by decide);have Q:=gU (at' xs 7) (m:=11) (by decide);have D:=gU (at' xs 8) (m:=4) (by decide);obtain⟨H,s,j⟩:nT c 0 (2+at' xs 6%6) (at' xs 7%11) (at' xs 8%4)/\Gr (fU c 0 (2+at' xs 6%6) (at' xs 7%11) (at' xs 8%4))/\2<=(fU c 0 (2+at' xs 6%6) (at' xs 7%11) (at' xs 8%4)).1.length:=by
  obtain⟨h1,h2⟩:=TM c 0 (2+at' xs 6%6) (at' xs 7%11) (at' xs 8%4) (by decide) (by decide) (by omega) (by omega) Q.1 (by omega) D.1 (by omega);have h3:=Xr c 0 (2+at' xs 6%6) (at' xs 7%11) (at' xs 8%4) (by omega) (by omega);exact⟨h1,h2,by omega⟩
 generalize fU c 0 (2+at' xs 6%6) (at' xs 7%11) (at' xs 8%4)=gr at *
 obtain⟨N,R,B⟩:=gr;have len:N.length<=7:=s.len;have rl:R.length<=10:=s.rl;have bl:B.length<=4:=s.bl;have so:N.Pairwise qN:=s.so;have j:2<=N.length:=j;have nd:N.Nodup:=s.nd;have o:N.Pairwise λa b=>qO a b=true:=(so.and nd).imp λh=>(BD _ _).mpr h;have g:Gb N R B:=⟨nd,by omega,s.rs,λr d=>((BD _ _).mp (s.va r d).2.1).2,s.rd,by omega,λr d=>⟨(s.va r d).1.1,by have:=(s.va r d).1.2;omega⟩,λb A=>⟨(s.bs b A).1,((BD _ _).mp (s.bs b A).2).2⟩,by omega⟩;have u:Rm N R B:=qu g (by omega) (by omega);obtain⟨b1,b2⟩:=zF g so u;obtain⟨j1,I,j3⟩:=D6 g u;obtain⟨x1,M⟩:=Xw g so j (by omega) (by omega) (by omega) o _ (show 6<=(BE xs (Z 9) U).length by omega);obtain⟨G,w2⟩:=Ng g so j (by omega) (by omega) (λr d=>(s.va r d).2.2) (λr d=>(s.va r d).1.2) o _ (show 6<=(BE xs (Z 9) U).length by omega);obtain⟨f1,f2⟩:=SO nd (by omega) λn E=>(s.nm n E).2.1;have v:=Pi nd (by omega) o;have hs:∀x∈N,has (Ph N N.length) x=true:=λx hx=>jJ.mpr (by rw[Zj];exact hx);have F:Rm (N.map (look (Ph N N.length))) (R.map (rr (look (Ph N N.length)))) (B.map (rb (look (Ph N N.length)))):=qu (g.ren v) (by rw[zk];omega) (by rw[zk];omega);obtain⟨⟨r1,X⟩,w,L,W,J,K,r7⟩:=SK g so u v F;have e1:jE (N,R,B)=(N.map (look (Ph N N.length)),R.map (rr (look (Ph N N.length))),B.map (rb (look (Ph N N.length)))):=by
  unfold jE;dsimp only;rw[f2];rfl
 have e2:jB (N,R,B)=Ph N N.length:=f2;have C:mC (N,R,B):=by
  unfold mC;dsimp only;rw[f2];exact⟨⟨Ox (by omega) (by omega),f1⟩,⟨by omega,λq e=>⟨hs _ (g.rs q e).1,hs _ (g.rs q e).2⟩⟩,⟨by omega,hs⟩,by omega,λq e=>⟨hs _ (g.bs q e).1.1,hs _ (g.bs q e).1.2⟩⟩
 have d2:mH (N,R,B):=C;have f:=Vl g;have sl:=Lb f;rw[b2,e1,e2];dsimp only;rw[M,w2,X,L,J,r7,Zp (by omega:¬ wt (kp N R B)<jt (N,R,B) (fV (N,R,B)).1),Zs rfl,Zs rfl];refine⟨⟨⟨Rz _ _ (by decide) (by decide),n1⟩,⟨⟨t 6 (by decide),t 7 (by decide),t 8 (by decide)⟩,H⟩,b1,⟨j1,I⟩,λ_=>⟨⟨x1,λ_=>G⟩,λ_=>⟨C,d2,r1,λ_=>⟨⟨⟨by omega,λp hp=>?_⟩,by rw[zk];omega,λx hx=>?_⟩,W,λ_=>K⟩⟩⟩⟩,rfl⟩
 ·have P:∀x∈p,x∈N:=λx hx=>(ou f).mem_iff.mp (List.mem_flatten.mpr ⟨p,hp,hx⟩);refine⟨?_,λx hx=>hs x (P x hx)⟩;obtain⟨y,_,rfl⟩:=(ig f).mp hp;have:=Q1 (λz=>decide (look (hb N (kp N R B)) z=look (hb N (kp N R B)) y)) N;show(pt N _ y).length<=_;unfold pt;omega
 ·obtain⟨p,hp,rfl⟩:=List.mem_map.mp hx;have:=K9 f hp;cases p with
  |nil=>exact absurd S this
  |cons _ _=>rfl
theorem H1:∀a:O Int,a.length<=63->F_law [.z (.lst (a.map .int))]=Z (.z (.bl true)):=(Nl OF).1
theorem H2:∀a:O Int,a.length<=63->F_law [.l (a.map .int)]=Z (.z (.bl true)):=(Nl OF).2
end G33
end
open PySem PySem.W PyProof.Rows
namespace PySem.W.Fast
def tw17240504692839677200:=0
def tw15499875623756422274:=0
def tw13369883736167321583:=0
def tw11597258714079801569:=0
def tw7454844840405157173:=0
def tw720957835159613451:=0
def tw7873872278390978705:=0
def tw11586029733097134255:=0
def tw2693580274151868201:=0
def tw3069526502443028779:=0
def tw2736559261488778119:=0
def tw14583599257753762374:=0
def tw4315711104719472156:=0
def tw772177213318989240:=0
def tw12852192795879962091:=0
def tw8125431922053045230:=0
def tw666336589487248413:=0
def tw9565323872384847054:=0
def tw14036536692526935775:=0
def tw7633054497406296182:=0
def tw15181387470485841357:=0
def tw7786397426874801190:=0
def tw2143957317062498715:=0
def tw3928087242922020843:=0
def tw4326301195040205384:=0
def tw6064241931989096388:=0
def tw9825375850171588154:=0
def tw8433713174853994102:=0
def tw2553189986595287935:=0
def tw2499786919804288818:=0
def tw13929418622732810185:=0
def tw9786159249480521027:=0
def tw1721104223134369450:=0
def tw125771098291623958:=0
def tw18153895785439298823:=0
def tw12412226899639839318:=0
def tw9091676975118930204:=0
def tw562900396193342315:=0
def tw14377401885454775350:=0
def tw11942217530645671637:=0
def tw8180896012626869674:=0
def tw6499364221826169536:=0
def tw298107680998037927:=0
def tw10751705918004399613:=0
def tw8000662567472528953:=0
def tw1357453820131913264:=0
def tw93258689677865635:=0
def tw3493782958331497799:=0
def tw244226507272924049:=0
def tw2085824327024042012:=0
def tw11939756359651977438:=0
def tw7723168778879963711:=0
def tw6065194059290822803:=0
def tw16788864118475019253:=0
def tw17926812964462756692:=0
def tw8982863371120423785:=0
def tw11818334875395336690:=0
def tw18113355804855340545:=0
def tw12086846740716134844:=0
def tw13560208353833558638:=0
def tw4680925201828118323:=0
def tw1237108821315634696:=0
def tw1060534550049219259:=0
def tw801780365799024988:=0
def tw17523669796191491444:=0
def tw11065331318982098360:=0
def tw16308872892628569636:=0
def tw12122138389000397363:=0
def tw13175843152186317902:=0
def tw17747666238307657122:=0
def tw2148999351953772119:=0
def tw8609458786610877077:=0
def tw17824061608623222474:=0
def tw17543217096222882175:=0
def tw517963028831802860:=0
def tw9187438814067746257:=0
def tw7528735339390198721:=0
def tw7004551501192416802:=0
def tw2858587967943276446:=0
def tw4647579137258863137:=0
def tw364540667372571148:=0
def tw12269255808894117571:=0
def tw9609599879866073566:=0
def tw7716478749058158476:=0
def tw11496545249990018082:=0
def tw17517009237761507816:=0
def tw15103794605230273475:=0
def tw11736254129087953906:=0
def tw2550585016548558392:=0
def tw5547987037959435900:=0
def tw4384040228636829676:=0
def tw14624493055039630055:=0
def tw9242338400583513508:=0
def tw16066465362969983119:=0
def tw1026458460519546030:=0
def tw418673807145467549:=0
def tw6090728447859431586:=0
def tw292936933883155500:=0
def tw11060173035428329358:=0
def tw18339508996156967133:=0
def tw16808469441477463951:=0
def tw42750940434041281:=0
def tw8774683918302297576:=0
def tw15714104806606129068:=0
def tw1233933356932878321:=0
def tw8170573450469824118:=0
def tw17161160954672015107:=0
def tw25964185545599583:=0
def tw6415388278127533086:=0
def tw15704454819168852540:=0
def tw14366191179919289914:=0
def tw15932221532531420002:=0
def tw12810107609467758761:=0
def tw13476886003898842962:=0
def tw3350119479315136318:=0
def tw17580457612171626820:=0
def tw16163386352052597800:=0
def tw7689732577436161105:=0
def tw12509853023855197008:=0
def tw15746386627525925069:=0
def tw6518659583775508129:=0
def tw1457977356183251689:=0
def tw7465958111477691922:=0
def tw364637155414693981:=0
def tw1845444463710351509:=0
def tw82282666937844778:=0
def tw3263093454376288162:=0
def tw3869386539162064108:=0
def tw9502705054249551997:=0
def tw17444291493986527272:=0
def tw17976833569657858569:=0
def tw17986115232550373332:=0
def tw6036092880461649383:=0
def tw7584733507890638066:=0
def tw10802458397466667012:=0
def tw9215836160632186261:=0
def tw13894791770279311074:=0
def tw12013737174000957252:=0
def tw6646598916653595150:=0
def tw18443163241609389733:=0
def tw12907850698345583038:=0
def tw775956386970538807:=0
def tw10264633744387159427:=0
def tw11426795344044931767:=0
def tw2494418040002527093:=0
def tw4354365275838130452:=0
def tw1545020618649832512:=0
def tw1545925630274884868:=0
def tw5071487865434100728:=0
def tw10803124943694650209:=0
def tw10306074005278898641:=0
def tw3717756519589077466:=0
def tw3933833394362389385:=0
def tw5977747734117894816:=0
def tw11413440996162597600:=0
def tw9595000726159305056:=0
def tw10278986649488885872:=0
def tw14497816603484796809:=0
def tw7082468209571431337:=0
def tw633482955923181059:=0
def tw11759184090673277544:=0
def tw13209825092754651527:=0
def tw3017745489174354482:=0
def tw11864660375114325565:=0
def tw14178451306917782040:=0
def tw5387994377249516013:=0
def tw15571761014030643409:=0
def tw15921272887291491508:=0
def tw7650064462919700404:=0
def tw15851126694727745594:=0
def tw5896452306885580731:=0
def tw12031165282601176142:=0
def tw17702577966836858727:=0
def tw3200432112181113279:=0
def tw4040177787764386781:=0
def tw1331007144205631813:=0
def tw10422176696657918386:=0
def tw14922223452371393:=0
def tw3793999288162128228:=0
def tw7600273866130086678:=0
def tw9668686748692778074:=0
def tw15592391271577597289:=0
def tw8504590139903550563:=0
def tw8536477436200386245:=0
def tw4937961996306356032:=0
def tw15393827311954177684:=0
def tw2854026691670622567:=0
def tw18335323203464075960:=0
def tw12073835808551017813:=0
def tw11571124801212182365:=0
end PySem.W.Fast
set_option maxRecDepth 100000 in
set_option maxHeartbeats 0 in
theorem PySem.Challenge.cw_onefolk_k33_whole_best_and_bars_holds : PySem.Challenge.rw_onefolk_k33_whole_best_and_bars.Holds := by
 w_on;refine PySem.W.holds_law (by decide +kernel) λsaid=>?_
 k_head;(case hw=>w_witness2)
 k_fill
 refine P1.F0 (l:=PySem.Challenge.rw_onefolk_k33_whole_best_and_bars) (T:=G33.T) (k:=41) (x := "_law_script") (st:=G33.s_law) (F_law:=G33.F_law) (λt=>t.x_law) ⟨rfl,by decide,by decide⟩ rfl (λw mg base t=>G33.EC t) rfl rfl G33.H1 G33.H2 (λ_ _ _ _ _ _ _=>rfl) (λw h Y=>PySem.W.kIn_of Y) ?F
 case F=>
  intro w mg h KX G
  refine' ⟨P1.j9 KX G _ _ _ _,P1.j9 KX G _ _ _ _,P1.j9 KX G _ _ _ _,P1.j9 KX G _ _ _ _,P1.j9 KX G _ _ _ _,P1.j9 KX G _ _ _ _,P1.j9 KX G _ _ _ _,P1.j9 KX G _ _ _ _,P1.j9 KX G _ _ _ _,P1.j9 KX G _ _ _ _,P1.j9 KX G _ _ _ _,P1.j9 KX G _ _ _ _,P1.j9 KX G _ _ _ _,P1.j9 KX G _ _ _ _,P1.j9 KX G _ _ _ _,P1.j9 KX G _ _ _ _,P1.j9 KX G _ _ _ _,P1.j9 KX G _ _ _ _,P1.j9 KX G _ _ _ _,P1.j9 KX G _ _ _ _,P1.j9 KX G _ _ _ _,P1.j9 KX G _ _ _ _,P1.j9 KX G _ _ _ _,P1.j9 KX G _ _ _ _,P1.j9 KX G _ _ _ _,P1.j9 KX G _ _ _ _,P1.j9 KX G _ _ _ _,P1.j9 KX G _ _ _ _,P1.j9 KX G _ _ _ _,P1.j9 KX G _ _ _ _,P1.j9 KX G _ _ _ _,P1.j9 KX G _ _ _ _,P1.j9 KX G _ _ _ _,P1.j9 KX G _ _ _ _,QI KX G _,QI KX G _,QI KX G _,QI KX G _,QI KX G _,QI KX G _,QI KX G _,QI KX G _,QI KX G _,QI KX G _,QI KX G _,QI KX G _,P1.Mc KX G _,P1.Mc KX G _⟩
  all_goals try (show _=_;k_is)
  all_goals try kernel_rfl
